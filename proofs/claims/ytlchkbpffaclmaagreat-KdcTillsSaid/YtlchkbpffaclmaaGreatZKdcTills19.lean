import Derived.Test.YtlchkbpffaclmaaGreatZKdcTills18
set_option maxHeartbeats 25600000
set_option maxRecDepth 100000
set_option linter.unusedVariables false
set_option linter.unusedSimpArgs false
namespace Go.Proofs.YtlchkbpffaclmaaGreat
namespace Kd
open Go.RowKit Af Se
open Rg (It Ent Ring RO its Ad)
open SeL (Bd AN)
open Ms (Pt Rp Re ptO rpO pSm reC tkC prC)
theorem Kn.more {w0 w:World} {B:Nat} {p:KP} {es0 es:List Ent} {s0 s:Option Ss} {n i c c':Nat} (h:Kn w0 w B p es0 s0 es s n i c) (hc:c<=c'):Kn w0 w B p es0 s0 es s n i c':=⟨h.st.more hc,h.eq,h.sq,h.chg,h.nw⟩
def ansK (n:Nat) (k1:Nat->UInt8) (kv:Nat) (sv:Ms.Pr) (P:Pt) (no:Int) (k2:Nat->UInt8) (u:Int):Int×Re:=
 if (ptO P).isSome&&(rpO (rpOf P sv no)).isSome then
  (0,⟨P.c,⟨sv,kv,(Bd k1 2 ((n+1:Nat):Int) ((ptO P).getD [])).1⟩,(Bd k2 u ((n+1+1:Nat):Int) ((rpO (rpOf P sv no)).getD [])).1⟩)
 else (2,Ms.re0)
def AnsR (w:World) (B:Nat) (p:KP) (es:List Ent) (s:Option Ss) (n i c:Nat) (r:Int×Re) (e:Ending) (w':World):Prop:=
 ∃cs es' s',e=.returned (.tuple #[.agg cs,.int .i64 r.1])/\ReN (Out w p es' s') w' cs r.2/\Kn w w' B p es s es' s' (n+2*cnt r.1) (i+cnt r.1) c
theorem Ce {w w':World} {B:Nat} {p:KP} {es es':List Ent} {s s':Option Ss} {n i c:Nat} {r:Int} (h:Kn w w' B p es s es' s' n i c) (hr:r≠0):AnsR w B p es s n i c (r,Ms.re0) (.returned (.tuple #[.agg #[.string ⟨#[]⟩,.string ⟨#[]⟩,.string ⟨#[]⟩,.string ⟨#[]⟩,.int .i64 0,.slice none 0 0,.slice none 0 0],.int .i64 r])) w':=by
 refine⟨_,es',s',rfl,re0_n,?_⟩;show Kn w w' B p es s es' s' (n+2*cnt r) (i+cnt r) c;rw[cnt,if_neg hr];exact h
theorem Gw {w w':World} {l:Nm.L} {e:Ending} (h:Ms.EncR w (some l) e w'):∃v,e=.returned (.tuple #[v,.int .i64 0])/\SlN (fun j=>j<w.heap.size) w' v l/\Below w.heap.size w w':=OG h
theorem ND {w w':World} {e:Ending} (h:Ms.EncR w none e w'):∃v,e=.returned (.tuple #[v,.int .i64 1])/\Below w.heap.size w w':=by
 obtain⟨v,h1,_,h3⟩:=OG h;exact⟨v,h1,h3⟩
theorem Kn.alloc {w0 w:World} {B:Nat} {p:KP} {es0 es:List Ent} {s0 s:Option Ss} {n i c:Nat} (h:Kn w0 w B p es0 s0 es s n i c) (o:Obj):Kn w0 (w.alloc o) B p es0 s0 es s n i c:=h.below (Ah.alloc Ag _)
theorem SlN.old {w0 w w1:World} {B:Nat} {p:KP} {es0 es:List Ent} {s0 s:Option Ss} {n i c:Nat} {v:Value} {l:Nm.L} (hk:Kn w0 w B p es0 s0 es s n i c) (h:SlN (fun j=>j<w.heap.size) w1 v l):SlN (KSO p es s) w1 v l:=h.mono (fun j _ x=>hk.st.kso_lt x)
theorem far4 {w:World} {g h:Nat} {t:TypeId} {cs:Array Value} (hb:Blk w g t cs) (hn:h≠g) (a b c d:Value):Blk ((((w.setCell ⟨h,0,none⟩ a).setCell ⟨h,1,none⟩ b).setCell ⟨h,2,none⟩ c).setCell ⟨h,3,none⟩ d) g t cs:=
 Si.Blk.far (Si.Blk.far (Si.Blk.far (Si.Blk.far hb _ _ hn) _ _ hn) _ _ hn) _ _ hn
theorem set4 {w:World} {g:Nat} {t:TypeId} {z0 z1 z2 z3:Value} (hb:Blk w g t #[z0,z1,z2,z3]) (a b c d:Value):Blk ((((w.setCell ⟨g,0,none⟩ a).setCell ⟨g,1,none⟩ b).setCell ⟨g,2,none⟩ c).setCell ⟨g,3,none⟩ d) g t #[a,b,c,d]:=
 (((hb.set 0 a).set 1 b).set 2 c).set 3 d
theorem OP {B:Nat} {a w:World} {g:Nat} (h:Below B a w) (hg:B<=g) (x y z u:Value):Below B a ((((w.setCell ⟨g,0,none⟩ x).setCell ⟨g,1,none⟩ y).setCell ⟨g,2,none⟩ z).setCell ⟨g,3,none⟩ u):=
 Si.Ay (Si.Ay (Si.Ay (Si.Ay h hg _) hg _) hg _) hg _
theorem set7 {w:World} {g:Nat} {t:TypeId} {z0 z1 z2 z3 z4 z5 z6:Value} (hb:Blk w g t #[z0,z1,z2,z3,z4,z5,z6]) (a b c d e f k:Value):Blk (((((((w.setCell ⟨g,0,none⟩ a).setCell ⟨g,1,none⟩ b).setCell ⟨g,2,none⟩ c).setCell ⟨g,3,none⟩ d).setCell ⟨g,4,none⟩ e).setCell ⟨g,5,none⟩ f).setCell ⟨g,6,none⟩ k) g t #[a,b,c,d,e,f,k]:=by
 have h:=((((((hb.set 0 a).set 1 b).set 2 c).set 3 d).set 4 e).set 5 f).set 6 k
 simpa only[List.setIfInBounds_toArray,List.set_cons_zero,List.set_cons_succ] using h
theorem Kn.put {w0 w:World} {B:Nat} {p:KP} {es0 es:List Ent} {s0 s:Option Ss} {n i c:Nat} (h:Kn w0 w B p es0 s0 es s n i c) {g:Nat} (hg:w0.heap.size<=g) (hk:∀j,KA p es j\/SO s j->j≠g) (o:Nat) (u:Value):Kn w0 (w.setCell ⟨g,o,none⟩ u) B p es0 s0 es s n i c:=
 ⟨h.st.chg (Gs w g o u) hk,h.eq,h.sq,h.chg.trans (Gs w g o u) (fun j hj x=>by omega),h.nw⟩
theorem Kn.put7 {w0 w:World} {B:Nat} {p:KP} {es0 es:List Ent} {s0 s:Option Ss} {n i c:Nat} (h:Kn w0 w B p es0 s0 es s n i c) {g:Nat} (hg:w0.heap.size<=g) (hk:∀j,KA p es j\/SO s j->j≠g) (a b c' d e f k:Value):Kn w0 (((((((w.setCell ⟨g,0,none⟩ a).setCell ⟨g,1,none⟩ b).setCell ⟨g,2,none⟩ c').setCell ⟨g,3,none⟩ d).setCell ⟨g,4,none⟩ e).setCell ⟨g,5,none⟩ f).setCell ⟨g,6,none⟩ k) B p es0 s0 es s n i c:=
 ((((((h.put hg hk 0 a).put hg hk 1 b).put hg hk 2 c').put hg hk 3 d).put hg hk 4 e).put hg hk 5 f).put hg hk 6 k
def Off (p:KP) (es:List Ent) (s:Option Ss) (g:Nat):Prop:=∀j,KA p es j\/SO s j->j≠g
theorem KS.offs {w:World} {B:Nat} {p:KP} {es:List Ent} {s:Option Ss} {n i c:Nat} (h:KS w B p es s n i c) {g:Nat} (hg:w.heap.size<=g):Off p es s g:=fun j hj e=>by
 subst e;rcases hj with hj | hj
 ·have:=h.k.ka_lt hj;omega
 ·have:=h.kso_lt (p:=p) (es:=es) (.inr hj);omega
theorem Kn.off {w0 w:World} {B:Nat} {p:KP} {es0 es:List Ent} {s0 s:Option Ss} {n i c:Nat} (h:Kn w0 w B p es0 s0 es s n i c) {g:Nat} (hg:Off p es0 s0 g) (hl:g<w0.heap.size):Off p es s g:=fun j hj e=>by
 subst e;rcases hj with(hj | hj) | hj
 ·rcases h.nw _ (.inl hj) with y | y
  ·rcases y with y | y
   ·exact hg _ (.inl (.inl y)) rfl
   ·exact hg _ (.inr y) rfl
  ·omega
 ·exact hg _ (.inl (.inr hj)) rfl
 ·rcases h.nw _ (.inr hj) with y | y
  ·rcases y with y | y
   ·exact hg _ (.inl (.inl y)) rfl
   ·exact hg _ (.inr y) rfl
  ·omega
theorem Off.no {p:KP} {es:List Ent} {s:Option Ss} {g:Nat} (h:Off p es s g):¬KSO p es s g:=fun x=>by
 rcases x with x | x
 ·exact h g (.inl (.inl x)) rfl
 ·exact h g (.inr x) rfl
theorem far7 {w:World} {g h:Nat} {t:TypeId} {cs:Array Value} (hb:Blk w g t cs) (hn:h≠g) (a b c d e f k:Value):Blk (((((((w.setCell ⟨h,0,none⟩ a).setCell ⟨h,1,none⟩ b).setCell ⟨h,2,none⟩ c).setCell ⟨h,3,none⟩ d).setCell ⟨h,4,none⟩ e).setCell ⟨h,5,none⟩ f).setCell ⟨h,6,none⟩ k) g t cs:=
 Si.Blk.far (Si.Blk.far (Si.Blk.far (Si.Blk.far (Si.Blk.far (Si.Blk.far (Si.Blk.far hb _ _ hn) _ _ hn) _ _ hn) _ _ hn) _ _ hn) _ _ hn) _ _ hn
def SlX (X:Nat->Prop) (p:KP) (es:List Ent) (s:Option Ss) (w:World) (v:Value) (l:Nm.L):Prop:=SlN (fun j=>KSO p es s j\/X j) w v l
section
variable {X Y:Nat->Prop} {p:KP} {es0 es:List Ent} {s0 s:Option Ss} {w0 w:World} {B n i c:Nat} {v:Value} {l:Nm.L}
theorem SlX.kn (h:SlX X p es0 s0 w0 v l) (hk:Kn w0 w B p es0 s0 es s n i c):SlX X p es s w v l:=
 h.keep hk.chg (fun _ _ x=>.inl x) (fun j hj x=>by
  rcases x with x | x
  ·rcases hk.nw j x with y | y
   ·exact .inl y
   ·omega
  ·exact .inr x)
theorem SlX.below {w':World} (h:SlX X p es s w v l) (hb:Below w.heap.size w w'):SlX X p es s w' v l:=SlN.below h hb
theorem SlX.less (h:SlX X p es s w v l) (hx:∀j,Y j->X j):SlX Y p es s w v l:=h.mono (fun j _ x=>x.imp id (hx j))
theorem SlX.up (h:SlX X p es s w v l) (g:Nat) (hg:w.heap.size<=g):SlX (fun j=>X j\/j=g) p es s w v l:=h.mono (fun j hj x=>by
 rcases x with x | x | x
 ·exact .inl x
 ·exact .inr x
 ·omega)
theorem SlX.put (h:SlX X p es s w v l) {g:Nat} (hx:X g) (o:Nat) (u:Value):SlX X p es s (w.setCell ⟨g,o,none⟩ u) v l:=h.keep (Gs w g o u) (fun j _ x=>.inr (x▸hx)) (fun _ _ x=>x)
theorem SlX.put7 (h:SlX X p es s w v l) {g:Nat} (hx:X g) (a b c' d e f k:Value):SlX X p es s (((((((w.setCell ⟨g,0,none⟩ a).setCell ⟨g,1,none⟩ b).setCell ⟨g,2,none⟩ c').setCell ⟨g,3,none⟩ d).setCell ⟨g,4,none⟩ e).setCell ⟨g,5,none⟩ f).setCell ⟨g,6,none⟩ k) v l:=
 ((((((h.put hx 0 a).put hx 1 b).put hx 2 c').put hx 3 d).put hx 4 e).put hx 5 f).put hx 6 k
theorem SlX.of_out {a:World} (h:SlN (Out a p es s) w v l) (hx:∀j,X j->j<a.heap.size):SlX X p es s w v l:=h.mono (fun j _ x=>by
 rcases x with x | x
 ·exact .inr x
 ·exact .inl (hx j x))
theorem SlX.up0 (h:SlN (KSO p es s) w v l) (g:Nat) (hg:w.heap.size<=g):SlX (fun j=>j=g) p es s w v l:=h.mono (fun j hj x=>by
 rcases x with x | x
 ·exact x
 ·omega)
theorem SlX.kso (h:SlX X p es s w v l):SlN (KSO p es s) w v l:=h.mono (fun j _ x=>.inl x)
theorem SlX.o {a:World} (h:SlX X p es s w v l) (hx:∀j,j<a.heap.size->X j):SlN (Out a p es s) w v l:=h.mono (fun j _ x=>by
 rcases x with x | x
 ·exact .inr (hx j x)
 ·exact .inl x)
end
abbrev tkZ:Array Value:=#[.string ⟨#[]⟩,.string ⟨#[]⟩,.int .i64 0,.slice none 0 0]
abbrev reZ:Array Value:=#[.string ⟨#[]⟩,.string ⟨#[]⟩,.string ⟨#[]⟩,.string ⟨#[]⟩,.int .i64 0,.slice none 0 0,.slice none 0 0]
end Kd
namespace Kd
open Go.RowKit Af Se
open Rg (It Ent Ring RO DRing DO Ap its)
structure Scn (a:Bool) (w0 w:World) (g:Nat) (p:KP) (es:List Ent) (d:DP):Prop where
 blk:Blk w g 49 #[.pointer (some ⟨p.k,0,none⟩),.pointer (some ⟨d.x,0,none⟩)]
 ks:KS w w0.heap.size p es none 0 0 0
 dk:DK w w0.heap.size d (itX a) 0 0
 e:its es=itX a
 R:p.R=rX a
 T:p.T=tT
 dR:d.R=rX a
 dT:d.T=tT
 ap:∀j,DA d j->¬KA p es j
 gk:Off p es none g
 gd:¬DA d g
 lo:w0.heap.size<=g
 b:Below w0.heap.size w0 w
theorem ZT {a:Bool} {G:Nat->Prop} {w0 W w1 w2 w3 w4:World} {es:List Ent} {j:Nat} {p:KP} {d:DP} (hj:(itX a).length<=j)
  (hs:Sc a W w0.heap.size p.r p.v es d.q d.v j G) (b1:Below W.heap.size W w1) (hk:w1.heap.size<=p.k) (hl:w1.heap.size<=p.lo) (hd:KD w2 w0.heap.size p es 0 0) (b2:Below w1.heap.size w1 w2) (b3:Below w2.heap.size w2 w3)
  (hx:w3.heap.size<=d.x) (hlo:d.lo=w2.heap.size) (hdk:DK w4 w0.heap.size d (itX a) 0 0) (b4:Below w3.heap.size w3 w4) (hb:Below w0.heap.size w0 w4) (e1:p.R=rX a) (e2:p.T=tT) (e3:d.R=rX a) (e4:d.T=tT) :
  Scn a w0 (w4.alloc (.cells #[.pointer (some ⟨p.k,0,none⟩),.pointer (some ⟨d.x,0,none⟩)] 49)) w4.heap.size p es d:=by
 have hb5:Below w4.heap.size w4 (w4.alloc (.cells #[.pointer (some ⟨p.k,0,none⟩),.pointer (some ⟨d.x,0,none⟩)] 49)):=Ah.alloc Ag _;have s1:=b1.size;have s2:=b2.size;have s3:=b3.size;have s4:=b4.size;have s5:=hb5.size;have s0:=hb.size;have hd4:KD w4 w0.heap.size p es 0 0:=(hd.below b3).below (b4.mono Ag);have hks:KS w4 w0.heap.size p es none 0 0 0:=⟨hd4,s0,fun z hz=>(by cases hz),fun j hj=>(by obtain⟨z,hz,_⟩:=hj;cases hz),fun j hj=>(by obtain⟨z,hz,_⟩:=hj;cases hz),hs.z⟩;have hks5:=hks.below hb5;refine⟨Blk.new _ _ _,hks5,hdk.below hb5,?_,e1,e2,e3,e4,fun i hi x=>?_,hks.offs Ag,fun x=>?_,s0,hb.trans (hb5.mono s0)⟩
 ·rw[hs.e,List.take_of_length_le hj]
 ·have hlt:=hd.ka_lt x
  rcases hi with hi | hi | hi
  ·omega
  ·have hi2:=hs.d.own_lt hi
   rcases x with(x | x) | x
   ·omega
   ·exact hs.ap i hi x
   ·have:=x.1;omega
  ·have:=hi.1;omega
 ·have:=hdk.da_lt x;omega
theorem Yc (a:Bool) {j:Nat} {i:It} (h:(itX a)[j]? = some i):(i.p=kr rA rE->i.k=kq 99)/\(¬i.p=kr rA rE->i.k=kq (UInt8.ofNat (10+j))):=by
 cases a with
 |false=>
  match j,h with
  |0,h=>injection h with h;subst h;exact⟨fun h=>absurd h (by decide +kernel),fun _=>congrArg kq (show(10:UInt8)=UInt8.ofNat (10+0) by decide +kernel)⟩
  |1,h=>injection h with h;subst h;exact⟨fun _=>rfl,fun h=>absurd rfl h⟩
  |2,h=>injection h with h;subst h;exact⟨fun h=>absurd h (by decide +kernel),fun _=>congrArg kq (show(12:UInt8)=UInt8.ofNat (10+2) by decide +kernel)⟩
  |3,h=>injection h with h;subst h;exact⟨fun h=>absurd h (by decide +kernel),fun _=>congrArg kq (show(13:UInt8)=UInt8.ofNat (10+3) by decide +kernel)⟩
  |4,h=>injection h with h;subst h;exact⟨fun h=>absurd h (by decide +kernel),fun _=>congrArg kq (show(14:UInt8)=UInt8.ofNat (10+4) by decide +kernel)⟩
  |j+5,h=>simp [itX,itA] at h
 |true=>
  match j,h with
  |0,h=>injection h with h;subst h;exact⟨fun h=>absurd h (by decide +kernel),fun _=>congrArg kq (show(10:UInt8)=UInt8.ofNat (10+0) by decide +kernel)⟩
  |1,h=>injection h with h;subst h;exact⟨fun _=>rfl,fun h=>absurd rfl h⟩
  |2,h=>injection h with h;subst h;exact⟨fun h=>absurd h (by decide +kernel),fun _=>congrArg kq (show(12:UInt8)=UInt8.ofNat (10+2) by decide +kernel)⟩
  |3,h=>injection h with h;subst h;exact⟨fun h=>absurd h (by decide +kernel),fun _=>congrArg kq (show(13:UInt8)=UInt8.ofNat (10+3) by decide +kernel)⟩
  |j+4,h=>simp [itX,itE] at h
theorem Vk {j:Nat} (h:j<5):IntKind.u8.wrap (10+(j:Int))=((UInt8.ofNat (10+j)).toNat:Int):=by
 match j,h with
 |0,_=>rfl
 |1,_=>rfl
 |2,_=>rfl
 |3,_=>rfl
 |4,_=>rfl
end Kd
namespace Kd
open Go.RowKit Af Se
open Rg (It Ent Ring RO its Ad)
open SeL (Bd AN)
open Ms (Pt Rp Re ptO rpO pSm reC tkC prC)
section
variable {w:World} {B:Nat} {p:KP} {es:List Ent} {s:Option Ss} {n i c:Nat}
theorem ZU {x1 x2 kv:Nat} {k1 k2:Nat->UInt8} {sv:Ms.Pr} {P:Pt} {no u:Int} (h:KS w B p es s n i c) (h1:Hdl es s x1 k1) (h2:Hdl es s x2 k2) (hc:c<900000) (hn:n<900000) (hi:i<900000)
  (hk:P.ss.length=32) (hs1:pSm P.c) (hs2:pSm sv) (hs3:P.tr.length<=1000000000) :
  Calls Tryz.prog 31 #[.pointer (some ⟨p.k,0,none⟩),.agg (hoA sv (some ⟨x1,0,none⟩) (kv:Int)),.agg (ptA P),.int .i64 no,.pointer (some ⟨x2,0,none⟩),.int .i64 u] w (AnsR w B p es s n i (c+2) (ansK n k1 kv sv P no k2 u)):=by
 obtain⟨W,eW⟩:=Ak (((w.alloc (.cells (hoA sv (some ⟨x1,0,none⟩) (kv:Int)) 98)).alloc (.cells (ptA P) 39)).alloc (.cells reZ 43));have hb:Below w.heap.size w W:=eW▸((Ah.alloc Ag _).alloc (by simp) _).alloc (by simp;omega) _;have HO:=I (show Blk W w.heap.size 98 (hoA sv (some ⟨x1,0,none⟩) (kv:Int)) from eW▸((Blk.new w _ _).alloc _).alloc _);have HP:=I (show Blk W (w.heap.size+1) 39 (ptA P) by have:=(Blk.new (w.alloc (.cells (hoA sv (some ⟨x1,0,none⟩) (kv:Int)) 98)) 39 (ptA P)).alloc (.cells reZ 43);simp only[World.size_alloc] at this;exact eW▸this);have HR:=I (show Blk W (w.heap.size+1+1) 43 reZ by have:=Blk.new ((w.alloc (.cells (hoA sv (some ⟨x1,0,none⟩) (kv:Int)) 98)).alloc (.cells (ptA P) 39)) 43 reZ;simp only[World.size_alloc] at this;exact eW▸this);have HK:=I (Kn.start h hb);have HWP:=I (show W.heap.size=w.heap.size+3 by rw[eW];simp);have HN0:=I (fun(P0:Nat) (hP:w.heap.size<=P0)=>h.offs hP);have HKI:=I (BQ hk);have HPI:=I (FA hk);have HRI:=I (XJ (P:=rpOf P sv no) hk);have HRS:=I (OF (P:=rpOf P sv no) hk);have HRO:=I (XI (rpOf P sv no));have HBR:=I (US hk sv P.st P.en no);have HPK:=I (fun(w1:World) (g:Nat) (hb:Blk w1 g 39 (ptA P))=>Ka hk hb);have HP0:=I (fun(w1:World) (g:Nat) (hb:Blk w1 g 39 (ptA P))=>And.intro (pt_0 hb) (pt_1 hb));have kp35:=XL hk HP.o;have kp36:=UR hk HP.o;have ko0:W.cell? ⟨w.heap.size,0,none⟩=some (.string ⟨sv.1.toArray⟩):=HO.o.cell 0;have ko1:W.cell? ⟨w.heap.size,1,none⟩=some (.string ⟨sv.2.toArray⟩):=HO.o.cell 1;have C1:=I (fun(w1:World)=>Mc.Jx P w1 hk hs1 hs3);have C2:=I (fun(w1:World)=>Mc.Qh (rpOf P sv no) w1 hk hs2);have C3:=I (fun(w1:World)=>OJ sv w1 (Nat.le_trans hs2.1 (by decide)) (Nat.le_trans hs2.2 (by decide)));have C4:=I (fun(w1:World)=>OJ P.c w1 (Nat.le_trans hs1.1 (by decide)) (Nat.le_trans hs1.2 (by decide)));have hb1l:∀b,ptO P=some b->b.length<=2000:=fun b e1=>by unfold ptO Ms.limO at e1;split at e1<;>simp_all
 have hb2l:∀b,rpO (rpOf P sv no)=some b->b.length<=2000:=fun b e2=>by unfold rpO Ms.limO at e2;split at e2<;>simp_all
 obtain⟨csP,ecsP⟩:=Ak (ptA P);obtain⟨csR,ecsR⟩:=Ak (rpA (rpOf P sv no));obtain⟨csK,ecsK⟩:=Ak (keyA P.ss);obtain⟨o1,eo1⟩:∃o,o=ptO P:=⟨_,rfl⟩;obtain⟨o2,eo2⟩:∃o,o=rpO (rpOf P sv no):=⟨_,rfl⟩;obtain⟨rr,err⟩:∃r,r=ansK n k1 kv sv P no k2 u:=⟨_,rfl⟩;have ecsP2:csP=(Ms.ptC P).toArray:=ecsP;have ecsR2:csR=(Ms.rpC (rpOf P sv no)).toArray:=ecsR;rw[<-ecsP2,<-eo1] at C1;rw[<-ecsR2,<-eo2] at C2;rw[<-ecsP] at eW HP HPI HPK HP0⊢;rw[<-ecsK] at HKI HBR HPK;rw[show rpA ⟨P.ss,sv,P.st,P.en,no⟩=csR from ecsR.symm] at HBR;rw[<-ecsR] at HRI HRS HRO;rw[<-err];have H1:=I h1;have H2:=I h2;have HC:=I hc;have HNN:=I hn;have HII:=I hi;have HL1:=I hb1l;have HL2:=I hb2l;have ER:=I err;have EO1:=I eo1;have EO2:=I eo2;clear h hb h1 h2 hc hn hi hk hs1 hs2 hs3 ecsP ecsR ecsP2 ecsR2 ecsK hb1l hb2l eo1 eo2 err;go_enter Tryz.func31,Tryz.ntmps31
 go_upto_region 1 with fail
 rw[<-eW];clear eW
 go_upto_region 4 with(first
  |(refine Wh.Ax (by rfl) 35 (.tmp 21) (by rfl) (w.heap.size+1) 2 (by rfl) csK _ (HPK.o _ _ HP.o) Tryz.underlying35 (by rfl) HKI.o ?_;clear HPK HKI)
  |(refine Mc.AA (by rfl) 180 #[(0,.tmp 22),(1,.tmp 24),(2,.tmp 26),(3,.tmp 28),(4,.tmp 29)] (by rfl) csR (by simp only[List.map_toArray,List.map_cons,List.map_nil];exact HBR.o) ?_;clear HBR)
  |(refine Wh.Bg (by rfl) 180 (.tmp 14) (.tmp 30) (by rfl) 180 rfl csR (by rfl) (by rfl) (by rw[HRS.o];rfl) HRI.o HRO.o ?_;rintro V hV hb;have HV:=I hV;replace HK:=I (HK.o.below hb);replace HO:=I (HO.o.below hb);replace HP:=I (HP.o.below hb);replace HR:=I (HR.o.below hb);clear hb hV kp35 kp36 ko0 ko1 HRS HRO)
  |(refine Wh.Ax (by rfl) 39 (.tmp 8) (by rfl) (w.heap.size+1) 0 (by rfl) csP _ (Wh.Ae HP.o) Tryz.underlying39 (by rfl) HPI.o ?_;clear HPI)
  |(refine Wh.Ax (by rfl) 180 (.tmp 14) (by rfl) W.heap.size 0 (by rfl) csR _ (Wh.Ae HV.o) Tryz.underlying180 (by rfl) HRI.o ?_;clear HRI)
  |(go_at_call 72;refine Calls.mono (C1.o _) ?_;rintro e w2 he;obtain⟨v1,rfl,hs1,hb⟩:=OG he;have S1:=I (SlN.old HK.o hs1);replace HK:=I (HK.o.below hb);replace HO:=I (HO.o.below hb);replace HP:=I (HP.o.below hb);replace HR:=I (HR.o.below hb);replace HV:=I (HV.o.below hb);clear he hs1 hb C1)
  |(go_at_call 73;refine Calls.mono (C2.o _) ?_;rintro e w3 he;obtain⟨v2,rfl,hs2,hb⟩:=OG he;have S2:=I (SlN.old HK.o hs2);replace S1:=I (S1.o.below hb);replace HK:=I (HK.o.below hb);replace HO:=I (HO.o.below hb);replace HP:=I (HP.o.below hb);replace HR:=I (HR.o.below hb);clear he hs2 hb C2 HV)
  |fail)
 by_cases hz:o1.isSome=true/\o2.isSome=true
 ·obtain⟨b1,rfl⟩:=Option.isSome_iff_exists.1 hz.1
  obtain⟨b2,rfl⟩:=Option.isSome_iff_exists.1 hz.2;have ER2:rr=(0,⟨P.c,⟨sv,kv,(Bd k1 2 ((n+1:Nat):Int) b1).1⟩,(Bd k2 u ((n+1+1:Nat):Int) b2).1⟩):=by
   rw[ER.o,ansK,<-EO1.o,<-EO2.o];simp only[Option.isSome_some,Bool.and_self,if_true,Option.getD_some]
  obtain⟨x7,ex7⟩:∃x,x=(Bd k1 2 ((n+1:Nat):Int) b1).1:=⟨_,rfl⟩;obtain⟨x9,ex9⟩:∃x,x=(Bd k2 u ((n+1+1:Nat):Int) b2).1:=⟨_,rfl⟩;rw[<-ex7,<-ex9] at ER2;have EX7:=I ex7;have EX9:=I ex9;clear ex7 ex9;have hl1:=HL1.o b1 EO1.o.symm;have hl2:=HL2.o b2 EO2.o.symm;have HL3:=I hl1;have HL4:=I hl2;have HRR:=I ER2;clear hz ER ER2 EO1 EO2 HL1 HL2 hl1 hl2;rw[show(some b1).getD []=b1 from rfl] at S1;rw[show(some b2).getD []=b2 from rfl] at S2;rw[show oI (some b1)=0 from rfl,show oI (some b2)=0 from rfl]
  go_upto_region 6 with fail
  go_cut [19] from 48 to 53 (fun tv wx=>∃PT,tv=.pointer (some ⟨PT,0,none⟩)/\w3.heap.size<=PT/\Blk wx PT 28 #[.string ⟨sv.1.toArray⟩,.string ⟨sv.2.toArray⟩,.int .i64 (kv:Int),.slice none 0 0]/\Below w3.heap.size w3 wx)
  case first=>
   have HLT:=I HO.o.lt;replace HO:=I (show Blk w3.drew _ _ _ from HO.o.drewN 1);have HB3:=I (show Below _ _ w3.drew from below_drewN (Below.refl w3.heap.size w3) 1);refine Reg.Bx (fun w'=>Blk w' w.heap.size 98 (hoA sv (some ⟨x1,0,none⟩) (kv:Int))) 8 rfl (by kernel_rfl) HO.o ?_;obtain⟨W3,eW3⟩:=Ak (w3.drew);rw[<-eW3] at HO HB3⊢;clear eW3;refine Reg.ty 0 rfl HO.o ?_;refine Reg.tw 1 rfl HO.o (fun w' hS=>by have k0:w'.cell? ⟨w.heap.size,0,none⟩=some (.string ⟨sv.1.toArray⟩):=Blk.cell hS 0;have k1:w'.cell? ⟨w.heap.size,1,none⟩=some (.string ⟨sv.2.toArray⟩):=Blk.cell hS 1;go_simp<;>rfl) ?_;refine Reg.ty 3 rfl HO.o ?_;refine Reg.tw 4 rfl HO.o (fun w' hS=>by have k3:w'.cell? ⟨w.heap.size,3,none⟩=some (.int .i64 (kv:Int)):=Blk.cell hS 3;go_simp<;>rfl) ?_;refine Reg.b2 2 6 ?_ ?_
   ·right
    refine⟨_,_,_,_,_,_,74,#[Rg.prV sv],rfl,by rfl,by go_simp,?_⟩;refine Aj (C3.o _) ?_;rintro w6 hb;replace HO:=I (HO.o.below hb);replace HB3:=HB3.t hb;clear hb;refine⟨_,rfl,HO.o,?_⟩;simp only[Act.put,U,Aa,Ab];refine Reg.ty 5 (v:=.agg #[.string ⟨sv.1.toArray⟩,.string ⟨sv.2.toArray⟩,.int .i64 (kv:Int),.slice none 0 0]) rfl HO.o ?_;refine Reg.b1 6 ?_
    left
    have hb:Below w6.heap.size w6 (w6.alloc (.cells tkZ 28)):=Ah.alloc Ag _;have hnb:=Blk.new w6 28 tkZ;refine⟨_,_,_,_,_,_,.pointer (some ⟨w6.heap.size,0,none⟩),w6.alloc (.cells tkZ 28),rfl,by rfl,(by go_simp<;>rfl),(HO.o.alloc _),?_⟩;simp only[Act.put,U,Aa,Ab];obtain⟨wt,ewt⟩:=Ak (w6.alloc (.cells tkZ 28));rw[<-ewt] at hb hnb⊢;clear ewt;have HPT:=I (HB3.o.size);replace HO:=I (HO.o.below hb);replace HB3:=HB3.t hb;have HT:=I hnb;clear hnb hb;obtain⟨PT,ePT⟩:=Ak (w6.heap.size);rw[<-ePT] at HT HPT⊢;clear ePT;have q0:wt.cell? ⟨PT,0,none⟩=some (.string ⟨#[]⟩):=HT.o.cell 0;have q1:wt.cell? ⟨PT,1,none⟩=some (.string ⟨#[]⟩):=HT.o.cell 1;have q2:wt.cell? ⟨PT,2,none⟩=some (.int .i64 0):=HT.o.cell 2;have q3:wt.cell? ⟨PT,3,none⟩=some (.slice none 0 0):=HT.o.cell 3;have fz:=HT.o.frozen;have hne:PT≠w.heap.size:=by have:=HPT.o;have:=HLT.o;omega
    refine Reg.Bk 7 ((((wt.setCell ⟨PT,0,none⟩ (.string ⟨sv.1.toArray⟩)).setCell ⟨PT,1,none⟩ (.string ⟨sv.2.toArray⟩)).setCell ⟨PT,2,none⟩ (.int .i64 (kv:Int))).setCell ⟨PT,3,none⟩ (.slice none 0 0)) rfl (by kernel_rfl) (by rfl) (by go_simp) (far4 HO.o hne _ _ _ _) ?_;simp only[Act.put,U,Aa,Ab];clear q0 q1 q2 q3 fz;refine wpAnyH_done (by kernel_rfl) ?_ _;have hv:=set4 HT.o (.string ⟨sv.1.toArray⟩) (.string ⟨sv.2.toArray⟩) (.int .i64 (kv:Int)) (.slice none 0 0)
    go_wp2_with fail
    go_meet
    exact⟨PT,rfl,HPT.o,hv,OP HB3.o HPT.o _ _ _ _⟩
   ·left
    have hb:Below W3.heap.size W3 (W3.alloc (.cells tkZ 28)):=Ah.alloc Ag _;have hnb:=Blk.new W3 28 tkZ;refine⟨_,_,_,_,_,_,.pointer (some ⟨W3.heap.size,0,none⟩),W3.alloc (.cells tkZ 28),rfl,by rfl,(by go_simp<;>rfl),(HO.o.alloc _),?_⟩;simp only[Act.put,U,Aa,Ab];obtain⟨wt,ewt⟩:=Ak (W3.alloc (.cells tkZ 28));rw[<-ewt] at hb hnb⊢;clear ewt;have HPT:=I (HB3.o.size);replace HO:=I (HO.o.below hb);replace HB3:=HB3.t hb;have HT:=I hnb;clear hnb hb;obtain⟨PT,ePT⟩:=Ak (W3.heap.size);rw[<-ePT] at HT HPT⊢;clear ePT;refine Reg.b1 2 ?_
    right
    refine⟨_,_,_,_,_,_,74,#[Rg.prV sv],rfl,by rfl,by go_simp,?_⟩;refine Aj (C3.o _) ?_;rintro w6 hb;replace HO:=I (HO.o.below hb);replace HT:=I (HT.o.below hb);replace HB3:=HB3.t hb;clear hb;refine⟨_,rfl,HO.o,?_⟩;simp only[Act.put,U,Aa,Ab];refine Reg.ty 5 (v:=.agg #[.string ⟨sv.1.toArray⟩,.string ⟨sv.2.toArray⟩,.int .i64 (kv:Int),.slice none 0 0]) rfl HO.o ?_;have q0:w6.cell? ⟨PT,0,none⟩=some (.string ⟨#[]⟩):=HT.o.cell 0;have q1:w6.cell? ⟨PT,1,none⟩=some (.string ⟨#[]⟩):=HT.o.cell 1;have q2:w6.cell? ⟨PT,2,none⟩=some (.int .i64 0):=HT.o.cell 2;have q3:w6.cell? ⟨PT,3,none⟩=some (.slice none 0 0):=HT.o.cell 3;have fz:=HT.o.frozen;have hne:PT≠w.heap.size:=by have:=HPT.o;have:=HLT.o;omega
    refine Reg.Bk 7 ((((w6.setCell ⟨PT,0,none⟩ (.string ⟨sv.1.toArray⟩)).setCell ⟨PT,1,none⟩ (.string ⟨sv.2.toArray⟩)).setCell ⟨PT,2,none⟩ (.int .i64 (kv:Int))).setCell ⟨PT,3,none⟩ (.slice none 0 0)) rfl (by kernel_rfl) (by rfl) (by go_simp) (far4 HO.o hne _ _ _ _) ?_;simp only[Act.put,U,Aa,Ab];clear q0 q1 q2 q3 fz;refine wpAnyH_done (by kernel_rfl) ?_ _;have hv:=set4 HT.o (.string ⟨sv.1.toArray⟩) (.string ⟨sv.2.toArray⟩) (.int .i64 (kv:Int)) (.slice none 0 0)
    go_wp2_with fail
    go_meet
    exact⟨PT,rfl,HPT.o,hv,OP HB3.o HPT.o _ _ _ _⟩
  case rest=>
   obtain⟨PT,rfl,hpt,ht,hb⟩:=hcut;have HPT:=I (Nat.le_trans HK.o.size hpt);have HPT3:=I ht.lt;replace S2:=I (SlX.up0 S2.o PT hpt);have HPN2:=I (show PT≠w.heap.size+1/\PT≠w.heap.size+1+1 from⟨fun e=>(by have:=HP.o.lt;have:=HWP.o;omega),fun e=>(by have:=HR.o.lt;omega)⟩);replace HO:=I (HO.o.below hb);replace HP:=I (HP.o.below hb);replace HR:=I (HR.o.below hb);replace S1:=I (S1.o.below hb);replace S2:=I (S2.o.below hb);replace HK:=I (HK.o.below hb);have HT:=I ht;clear hpt ht hb C3;have HWC2:=I (show w.heap.size+1+1<wc.heap.size from HR.o.lt);have HWC3:=I (show w.heap.size<=wc.heap.size from HK.o.size);have ko2:wc.cell? ⟨w.heap.size,2,none⟩=some (.pointer (some ⟨x1,0,none⟩)):=HO.o.cell 2;have HOR:=I (HN0.o (w.heap.size+1+1) (by omega));have HOP:=I (HN0.o (w.heap.size+1) (by omega));have HOT:=I (HN0.o PT HPT.o);have cs1:=GV HK.o.st (HK.o.hdl H1.o) (by have:=HC.o;omega) (by have:=HNN.o;omega) 2 v1 b1 HL3.o S1.o;rw[<-EX7.o] at cs1
   go_upto_region 8 with(first
    |(go_at_call 75;refine Calls.mono cs1 ?_;rintro e w7 ⟨v7,es7,s7,rfl,hs7,hk7⟩;clear cs1 ko2 S1 HO;have hor:=hk7.off HOR.o HR.o.lt;have hop:=hk7.off HOP.o HP.o.lt;have hot:=hk7.off HOT.o HT.o.lt;have hp7:=hk7.blk HP.o HOP.o.no;have ht7:=hk7.blk HT.o HOT.o.no;have hr7:=hk7.blk HR.o HOR.o.no;have h2s:=S2.o.kn hk7;have h77:=SlX.of_out (X:=fun j=>j<wc.heap.size) hs7 (fun _ x=>x);replace HP:=I hp7;replace HT:=I ht7;replace HR:=I hr7;replace HOR:=I hor;replace HOP:=I hop;replace HOT:=I hot;replace S2:=I h2s;have S7:=I h77;replace HK:=I (HK.o.trans hk7);obtain⟨A7,m7,ev7,hm7,hr77⟩:=hs7;obtain⟨L7,eL7⟩:∃z,z=x7.length:=⟨_,rfl⟩;rw[<-eL7] at ev7;subst ev7;clear hk7 hor hop hot hp7 ht7 hr7 h2s h77 hm7 hr77 eL7;have kt3:w7.cell? ⟨PT,3,none⟩=some (.slice none 0 0):=HT.o.cell 3;have fzt:=HT.o.frozen)
    |fail)
   clear kt3 fzt;obtain⟨W8,eW8⟩:=Ak ((w7.setCell ⟨PT,3,none⟩ (.slice A7 L7 m7)).drew);have hp8:Blk W8 (w.heap.size+1) 39 csP:=eW8▸(Si.Blk.far HP.o _ _ HPN2.o.1).drewN 1;have hr8:Blk W8 (w.heap.size+1+1) 43 reZ:=eW8▸(Si.Blk.far HR.o _ _ HPN2.o.2).drewN 1;have ht8:Blk W8 PT 28 #[.string ⟨sv.1.toArray⟩,.string ⟨sv.2.toArray⟩,.int .i64 (kv:Int),.slice A7 L7 m7]:=eW8▸(HT.o.set 3 (.slice A7 L7 m7)).drewN 1;have hk8:Kn w W8 B p es s es7 s7 (n+1) i (c+1):=eW8▸(HK.o.put HPT.o HOT.o 3 (.slice A7 L7 m7)).drew;have h28:SlN (KSO p es7 s7) W8 v2 b2:=eW8▸(((S2.o.put rfl 3 (.slice A7 L7 m7)).below (below_drewN Ah 1)).kso);have h78:SlX (fun j=>j<wc.heap.size) p es7 s7 W8 (.slice A7 L7 m7) x7:=eW8▸((S7.o.put HPT3.o 3 (.slice A7 L7 m7)).below (below_drewN Ah 1))
   go_cut [20] from 60 to 69 (fun rv wx=>∃(PR:Nat) (A7:Option Addr) (L7 m7:Nat) (A9:Option Addr) (L9 m9:Nat) (es9:List Ent) (s9:Option Ss),rv=.pointer (some ⟨PR,0,none⟩)/\Blk wx PR 43 #[.string ⟨P.c.1.toArray⟩,.string ⟨P.c.2.toArray⟩,.string ⟨sv.1.toArray⟩,.string ⟨sv.2.toArray⟩,.int .i64 (kv:Int),.slice A7 L7 m7,.slice A9 L9 m9]/\Blk wx (w.heap.size+1+1) 43 reZ/\Off p es9 s9 (w.heap.size+1+1)/\Off p es9 s9 PR/\SlX (fun j=>j=PR\/j=w.heap.size+1+1\/j<w.heap.size) p es9 s9 wx (.slice A7 L7 m7) x7/\SlX (fun j=>j=PR\/j=w.heap.size+1+1\/j<w.heap.size) p es9 s9 wx (.slice A9 L9 m9) x9/\Kn w wx B p es s es9 s9 (n+1+1) i (c+1+1))
   case first=>
    clear HP HT HR HK S2 S7;have HP:=I hp8;have HR:=I hr8;have HT:=I ht8;have HK:=I hk8;have S2:=I h28;have S7:=I h78;clear hp8 hr8 ht8 hk8 h28 h78;refine Reg.Bx (fun w'=>Blk w' (w.heap.size+1) 39 csP/\Blk w' PT 28 #[.string ⟨sv.1.toArray⟩,.string ⟨sv.2.toArray⟩,.int .i64 (kv:Int),.slice A7 L7 m7]) 12 rfl (by kernel_rfl) (by rw[<-eW8];exact⟨HP.o,HT.o⟩) ?_;rw[<-eW8];clear eW8;refine Reg.ty 0 rfl ⟨HP.o,HT.o⟩ ?_;refine Reg.tw 1 rfl ⟨HP.o,HT.o⟩ (fun w' hS=>by have q:=HP0.o _ _ hS.1;have q0:=q.1;have q1:=q.2;clear q;go_simp<;>rfl) ?_;refine Reg.tw 3 rfl ⟨HP.o,HT.o⟩ (fun w' hS=>by have q0:w'.cell? ⟨PT,0,none⟩=some (.string ⟨sv.1.toArray⟩):=Blk.cell hS.2 0;have q1:w'.cell? ⟨PT,1,none⟩=some (.string ⟨sv.2.toArray⟩):=Blk.cell hS.2 1;have q2:w'.cell? ⟨PT,2,none⟩=some (.int .i64 (kv:Int)):=Blk.cell hS.2 2;have q3:w'.cell? ⟨PT,3,none⟩=some (.slice A7 L7 m7):=Blk.cell hS.2 3;go_simp<;>rfl) ?_;refine Reg.ty 4 rfl ⟨HP.o,HT.o⟩ ?_;refine Reg.ty 5 rfl ⟨HP.o,HT.o⟩ ?_;refine Reg.ty 6 rfl ⟨HP.o,HT.o⟩ ?_;refine Reg.ty 7 rfl ⟨HP.o,HT.o⟩ ?_;refine Reg.b2 2 10 ?_ ?_
    ·right
     refine⟨_,_,_,_,_,_,74,#[Rg.prV P.c],rfl,by rfl,by go_simp,?_⟩;refine Aj (C4.o _) ?_;rintro wd hb;replace HP:=I (HP.o.below hb);replace HT:=I (HT.o.below hb);replace HR:=I (HR.o.below hb);replace S2:=I (S2.o.below hb);replace S7:=I (S7.o.below hb);replace HK:=I (HK.o.below hb);clear hb;refine⟨_,rfl,⟨HP.o,HT.o⟩,?_⟩;simp only[Act.put,U,Aa,Ab];refine Reg.b2 8 10 ?_ ?_
     ·right
      refine⟨_,_,_,_,_,_,75,#[.pointer (some ⟨p.k,0,none⟩),.pointer (some ⟨x2,0,none⟩),.int .i64 u,v2],rfl,by rfl,by go_simp,?_⟩;have c9:=GV HK.o.st (HK.o.hdl H2.o) (by have:=HC.o;omega) (by have:=HNN.o;omega) u _ b2 HL4.o S2.o;rw[<-EX9.o] at c9;refine Calls.mono c9 ?_;clear c9;rintro e w9 ⟨v9,es9,s9,rfl,hs9,hk9⟩;have hp9:=hk9.blk HP.o (HOP.o).no;have ht9:=hk9.blk HT.o (HOT.o).no;have hr9:=hk9.blk HR.o (HOR.o).no;have hor:=hk9.off HOR.o HR.o.lt;have h79:=S7.o.kn hk9;have hs99:=SlX.of_out (X:=fun j=>j<wd.heap.size) hs9 (fun _ x=>x);have HP23:=I (show w.heap.size+1+1<wd.heap.size from HR.o.lt);have HP24:=I HK.o.size;replace HP:=I hp9;replace HT:=I ht9;replace HR:=I hr9;replace HOR:=I hor;replace S7:=I h79;have S9:=I hs99;replace HK:=I (HK.o.trans hk9);obtain⟨A9,m9,ev9,hm9,hr99⟩:=hs9;obtain⟨L9,eL9⟩:=Ak (x9.length);rw[<-eL9] at ev9;subst ev9;clear hk9 hp9 ht9 hr9 hor h79 hs99 hm9 hr99 eL9 S2 HOP HOT;refine⟨_,rfl,⟨HP.o,HT.o⟩,?_⟩;simp only[Act.put,U,Aa,Ab];refine Reg.ty 9 (v:=.agg #[.string ⟨P.c.1.toArray⟩,.string ⟨P.c.2.toArray⟩,.string ⟨sv.1.toArray⟩,.string ⟨sv.2.toArray⟩,.int .i64 (kv:Int),.slice A7 L7 m7,.slice A9 L9 m9]) rfl ⟨HP.o,HT.o⟩ ?_;refine Reg.b1 10 ?_
      left
      have hb:Below w9.heap.size w9 (w9.alloc (.cells reZ 43)):=Ah.alloc Ag _;have hnb:=Blk.new w9 43 reZ;refine⟨_,_,_,_,_,_,.pointer (some ⟨w9.heap.size,0,none⟩),w9.alloc (.cells reZ 43),rfl,by rfl,(by go_simp<;>rfl),⟨HP.o.alloc _,HT.o.alloc _⟩,?_⟩;simp only[Act.put,U,Aa,Ab];obtain⟨wn,ewn⟩:=Ak (w9.alloc (.cells reZ 43));rw[<-ewn] at hb hnb⊢;clear ewn;have HOZ:=I (HK.o.st.offs (Nat.le_refl w9.heap.size));have HPR:=I (Nat.le_trans HK.o.size (Nat.le_refl w9.heap.size));have HPT2:=I (show PT<w9.heap.size from HT.o.lt);have HP22:=I (show w.heap.size+1+1<w9.heap.size from HR.o.lt);replace S7:=I (S7.o.up _ (Nat.le_refl w9.heap.size));replace S9:=I (S9.o.up _ (Nat.le_refl w9.heap.size));replace HP:=I (HP.o.below hb);replace HT:=I (HT.o.below hb);replace HR:=I (HR.o.below hb);replace S7:=I (S7.o.below hb);replace HK:=I (HK.o.below hb);replace S9:=I (S9.o.below hb);have HN:=I hnb;clear hnb hb;obtain⟨PR,ePR⟩:=Ak (w9.heap.size);rw[<-ePR] at HN HOZ HPR HPT2 HP22 S7 S9⊢;clear ePR;have q0:wn.cell? ⟨PR,0,none⟩=some (.string ⟨#[]⟩):=HN.o.cell 0;have q1:wn.cell? ⟨PR,1,none⟩=some (.string ⟨#[]⟩):=HN.o.cell 1;have q2:wn.cell? ⟨PR,2,none⟩=some (.string ⟨#[]⟩):=HN.o.cell 2;have q3:wn.cell? ⟨PR,3,none⟩=some (.string ⟨#[]⟩):=HN.o.cell 3;have q4:wn.cell? ⟨PR,4,none⟩=some (.int .i64 0):=HN.o.cell 4;have q5:wn.cell? ⟨PR,5,none⟩=some (.slice none 0 0):=HN.o.cell 5;have q6:wn.cell? ⟨PR,6,none⟩=some (.slice none 0 0):=HN.o.cell 6;have fz:=HN.o.frozen;have hn1:PR≠w.heap.size+1:=by have:=HP22.o;omega
      have hn2:PR≠PT:=by have:=HPT2.o;omega
      refine Reg.Bk 11 (((((((wn.setCell ⟨PR,0,none⟩ (.string ⟨P.c.1.toArray⟩)).setCell ⟨PR,1,none⟩ (.string ⟨P.c.2.toArray⟩)).setCell ⟨PR,2,none⟩ (.string ⟨sv.1.toArray⟩)).setCell ⟨PR,3,none⟩ (.string ⟨sv.2.toArray⟩)).setCell ⟨PR,4,none⟩ (.int .i64 (kv:Int))).setCell ⟨PR,5,none⟩ (.slice A7 L7 m7)).setCell ⟨PR,6,none⟩ (.slice A9 L9 m9)) rfl (by kernel_rfl) (by rfl) (by go_simp) ⟨far7 HP.o hn1 _ _ _ _ _ _ _,far7 HT.o hn2 _ _ _ _ _ _ _⟩ ?_;simp only[Act.put,U,Aa,Ab];clear q0 q1 q2 q3 q4 q5 q6 fz;refine wpAnyH_done (by kernel_rfl) ?_ _;have hn3:PR≠w.heap.size+1+1:=by have:=HP22.o;omega
      have hv:=set7 HN.o (.string ⟨P.c.1.toArray⟩) (.string ⟨P.c.2.toArray⟩) (.string ⟨sv.1.toArray⟩) (.string ⟨sv.2.toArray⟩) (.int .i64 (kv:Int)) (.slice A7 L7 m7) (.slice A9 L9 m9)
      go_wp2_with fail
      go_meet
      exact⟨PR,A7,L7,m7,A9,L9,m9,es9,s9,rfl,hv,far7 HR.o hn3 _ _ _ _ _ _ _,HOR.o,HOZ.o,(S7.o.less (fun j x=>(by rcases x with x | x | x<;>first | exact .inr x | (subst x;exact .inl HWC2.o) | exact .inl (Nat.lt_of_lt_of_le x HWC3.o) | (subst x;exact HPN.o) | (subst x;exact HP23.o) | (subst x;exact .inl HP23.o) | exact Nat.lt_of_lt_of_le x HP24.o | exact .inl (Nat.lt_of_lt_of_le x HP24.o)))).put7 (.inl rfl) _ _ _ _ _ _ _,(S9.o.less (fun j x=>(by rcases x with x | x | x<;>first | exact .inr x | (subst x;exact .inl HWC2.o) | exact .inl (Nat.lt_of_lt_of_le x HWC3.o) | (subst x;exact HPN.o) | (subst x;exact HP23.o) | (subst x;exact .inl HP23.o) | exact Nat.lt_of_lt_of_le x HP24.o | exact .inl (Nat.lt_of_lt_of_le x HP24.o)))).put7 (.inl rfl) _ _ _ _ _ _ _,HK.o.put7 HPR.o HOZ.o _ _ _ _ _ _ _⟩
     ·left
      have hb:Below wd.heap.size wd (wd.alloc (.cells reZ 43)):=Ah.alloc Ag _;have hnb:=Blk.new wd 43 reZ;refine⟨_,_,_,_,_,_,.pointer (some ⟨wd.heap.size,0,none⟩),wd.alloc (.cells reZ 43),rfl,by rfl,(by go_simp<;>rfl),⟨HP.o.alloc _,HT.o.alloc _⟩,?_⟩;simp only[Act.put,U,Aa,Ab];obtain⟨wn,ewn⟩:=Ak (wd.alloc (.cells reZ 43));rw[<-ewn] at hb hnb⊢;clear ewn;have HOZ:=I (HK.o.st.offs (Nat.le_refl wd.heap.size));have HPR:=I (Nat.le_trans HK.o.size (Nat.le_refl wd.heap.size));have HPT2:=I (show PT<wd.heap.size from HT.o.lt);have HP22:=I (show w.heap.size+1+1<wd.heap.size from HR.o.lt);replace S7:=I (S7.o.up _ (Nat.le_refl wd.heap.size));replace HP:=I (HP.o.below hb);replace HT:=I (HT.o.below hb);replace HR:=I (HR.o.below hb);replace S2:=I (S2.o.below hb);replace S7:=I (S7.o.below hb);replace HK:=I (HK.o.below hb);have HN:=I hnb;clear hnb hb;obtain⟨PR,ePR⟩:=Ak (wd.heap.size);rw[<-ePR] at HN HOZ HPR HPT2 HP22 S7⊢;clear ePR;refine Reg.b1 8 ?_
      right
      refine⟨_,_,_,_,_,_,75,#[.pointer (some ⟨p.k,0,none⟩),.pointer (some ⟨x2,0,none⟩),.int .i64 u,v2],rfl,by rfl,by go_simp,?_⟩;have c9:=GV HK.o.st (HK.o.hdl H2.o) (by have:=HC.o;omega) (by have:=HNN.o;omega) u _ b2 HL4.o S2.o;rw[<-EX9.o] at c9;refine Calls.mono c9 ?_;clear c9;rintro e w9 ⟨v9,es9,s9,rfl,hs9,hk9⟩;have hp9:=hk9.blk HP.o (HOP.o).no;have ht9:=hk9.blk HT.o (HOT.o).no;have hr9:=hk9.blk HR.o (HOR.o).no;have hor:=hk9.off HOR.o HR.o.lt;have h79:=S7.o.kn hk9;have hs99:=SlX.of_out (X:=fun j=>j<wn.heap.size) hs9 (fun _ x=>x);have hn9:=hk9.blk HN.o HOZ.o.no;have hoz:=hk9.off HOZ.o HN.o.lt;have HPN:=I (show PR<wn.heap.size from HN.o.lt);have HP23:=I (show w.heap.size+1+1<wn.heap.size from HR.o.lt);have HP24:=I HK.o.size;replace HP:=I hp9;replace HT:=I ht9;replace HR:=I hr9;replace HOR:=I hor;replace S7:=I h79;have S9:=I hs99;replace HK:=I (HK.o.trans hk9);replace HN:=I hn9;replace HOZ:=I hoz;obtain⟨A9,m9,ev9,hm9,hr99⟩:=hs9;obtain⟨L9,eL9⟩:=Ak (x9.length);rw[<-eL9] at ev9;subst ev9;clear hk9 hp9 ht9 hr9 hor h79 hs99 hm9 hr99 eL9 S2 HOP HOT hn9 hoz;refine⟨_,rfl,⟨HP.o,HT.o⟩,?_⟩;simp only[Act.put,U,Aa,Ab];refine Reg.ty 9 (v:=.agg #[.string ⟨P.c.1.toArray⟩,.string ⟨P.c.2.toArray⟩,.string ⟨sv.1.toArray⟩,.string ⟨sv.2.toArray⟩,.int .i64 (kv:Int),.slice A7 L7 m7,.slice A9 L9 m9]) rfl ⟨HP.o,HT.o⟩ ?_;have q0:w9.cell? ⟨PR,0,none⟩=some (.string ⟨#[]⟩):=HN.o.cell 0;have q1:w9.cell? ⟨PR,1,none⟩=some (.string ⟨#[]⟩):=HN.o.cell 1;have q2:w9.cell? ⟨PR,2,none⟩=some (.string ⟨#[]⟩):=HN.o.cell 2;have q3:w9.cell? ⟨PR,3,none⟩=some (.string ⟨#[]⟩):=HN.o.cell 3;have q4:w9.cell? ⟨PR,4,none⟩=some (.int .i64 0):=HN.o.cell 4;have q5:w9.cell? ⟨PR,5,none⟩=some (.slice none 0 0):=HN.o.cell 5;have q6:w9.cell? ⟨PR,6,none⟩=some (.slice none 0 0):=HN.o.cell 6;have fz:=HN.o.frozen;have hn1:PR≠w.heap.size+1:=by have:=HP22.o;omega
      have hn2:PR≠PT:=by have:=HPT2.o;omega
      refine Reg.Bk 11 (((((((w9.setCell ⟨PR,0,none⟩ (.string ⟨P.c.1.toArray⟩)).setCell ⟨PR,1,none⟩ (.string ⟨P.c.2.toArray⟩)).setCell ⟨PR,2,none⟩ (.string ⟨sv.1.toArray⟩)).setCell ⟨PR,3,none⟩ (.string ⟨sv.2.toArray⟩)).setCell ⟨PR,4,none⟩ (.int .i64 (kv:Int))).setCell ⟨PR,5,none⟩ (.slice A7 L7 m7)).setCell ⟨PR,6,none⟩ (.slice A9 L9 m9)) rfl (by kernel_rfl) (by rfl) (by go_simp) ⟨far7 HP.o hn1 _ _ _ _ _ _ _,far7 HT.o hn2 _ _ _ _ _ _ _⟩ ?_;simp only[Act.put,U,Aa,Ab];clear q0 q1 q2 q3 q4 q5 q6 fz;refine wpAnyH_done (by kernel_rfl) ?_ _;have hn3:PR≠w.heap.size+1+1:=by have:=HP22.o;omega
      have hv:=set7 HN.o (.string ⟨P.c.1.toArray⟩) (.string ⟨P.c.2.toArray⟩) (.string ⟨sv.1.toArray⟩) (.string ⟨sv.2.toArray⟩) (.int .i64 (kv:Int)) (.slice A7 L7 m7) (.slice A9 L9 m9)
      go_wp2_with fail
      go_meet
      exact⟨PR,A7,L7,m7,A9,L9,m9,es9,s9,rfl,hv,far7 HR.o hn3 _ _ _ _ _ _ _,HOR.o,HOZ.o,(S7.o.less (fun j x=>(by rcases x with x | x | x<;>first | exact .inr x | (subst x;exact .inl HWC2.o) | exact .inl (Nat.lt_of_lt_of_le x HWC3.o) | (subst x;exact HPN.o) | (subst x;exact HP23.o) | (subst x;exact .inl HP23.o) | exact Nat.lt_of_lt_of_le x HP24.o | exact .inl (Nat.lt_of_lt_of_le x HP24.o)))).put7 (.inl rfl) _ _ _ _ _ _ _,(S9.o.less (fun j x=>(by rcases x with x | x | x<;>first | exact .inr x | (subst x;exact .inl HWC2.o) | exact .inl (Nat.lt_of_lt_of_le x HWC3.o) | (subst x;exact HPN.o) | (subst x;exact HP23.o) | (subst x;exact .inl HP23.o) | exact Nat.lt_of_lt_of_le x HP24.o | exact .inl (Nat.lt_of_lt_of_le x HP24.o)))).put7 (.inl rfl) _ _ _ _ _ _ _,HK.o.put7 HPR.o HOZ.o _ _ _ _ _ _ _⟩
    ·left
     have hb:Below W8.heap.size W8 (W8.alloc (.cells reZ 43)):=Ah.alloc Ag _;have hnb:=Blk.new W8 43 reZ;refine⟨_,_,_,_,_,_,.pointer (some ⟨W8.heap.size,0,none⟩),W8.alloc (.cells reZ 43),rfl,by rfl,(by go_simp<;>rfl),⟨HP.o.alloc _,HT.o.alloc _⟩,?_⟩;simp only[Act.put,U,Aa,Ab];obtain⟨wn,ewn⟩:=Ak (W8.alloc (.cells reZ 43));rw[<-ewn] at hb hnb⊢;clear ewn;have HOZ:=I (HK.o.st.offs (Nat.le_refl W8.heap.size));have HPR:=I (Nat.le_trans HK.o.size (Nat.le_refl W8.heap.size));have HPT2:=I (show PT<W8.heap.size from HT.o.lt);have HP22:=I (show w.heap.size+1+1<W8.heap.size from HR.o.lt);replace S7:=I (S7.o.up _ (Nat.le_refl W8.heap.size));replace HP:=I (HP.o.below hb);replace HT:=I (HT.o.below hb);replace HR:=I (HR.o.below hb);replace S2:=I (S2.o.below hb);replace S7:=I (S7.o.below hb);replace HK:=I (HK.o.below hb);have HN:=I hnb;clear hnb hb;obtain⟨PR,ePR⟩:=Ak (W8.heap.size);rw[<-ePR] at HN HOZ HPR HPT2 HP22 S7⊢;clear ePR;refine Reg.b1 2 ?_
     right
     refine⟨_,_,_,_,_,_,74,#[Rg.prV P.c],rfl,by rfl,by go_simp,?_⟩;refine Aj (C4.o _) ?_;rintro wd hb;replace HP:=I (HP.o.below hb);replace HT:=I (HT.o.below hb);replace HR:=I (HR.o.below hb);replace HN:=I (HN.o.below hb);replace S2:=I (S2.o.below hb);replace S7:=I (S7.o.below hb);replace HK:=I (HK.o.below hb);clear hb;refine⟨_,rfl,⟨HP.o,HT.o⟩,?_⟩;simp only[Act.put,U,Aa,Ab];refine Reg.b1 8 ?_
     right
     refine⟨_,_,_,_,_,_,75,#[.pointer (some ⟨p.k,0,none⟩),.pointer (some ⟨x2,0,none⟩),.int .i64 u,v2],rfl,by rfl,by go_simp,?_⟩;have c9:=GV HK.o.st (HK.o.hdl H2.o) (by have:=HC.o;omega) (by have:=HNN.o;omega) u _ b2 HL4.o S2.o;rw[<-EX9.o] at c9;refine Calls.mono c9 ?_;clear c9;rintro e w9 ⟨v9,es9,s9,rfl,hs9,hk9⟩;have hp9:=hk9.blk HP.o (HOP.o).no;have ht9:=hk9.blk HT.o (HOT.o).no;have hr9:=hk9.blk HR.o (HOR.o).no;have hor:=hk9.off HOR.o HR.o.lt;have h79:=S7.o.kn hk9;have hs99:=SlX.of_out (X:=fun j=>j<wd.heap.size) hs9 (fun _ x=>x);have hn9:=hk9.blk HN.o HOZ.o.no;have hoz:=hk9.off HOZ.o HN.o.lt;have HPN:=I (show PR<wd.heap.size from HN.o.lt);have HP23:=I (show w.heap.size+1+1<wd.heap.size from HR.o.lt);have HP24:=I HK.o.size;replace HP:=I hp9;replace HT:=I ht9;replace HR:=I hr9;replace HOR:=I hor;replace S7:=I h79;have S9:=I hs99;replace HK:=I (HK.o.trans hk9);replace HN:=I hn9;replace HOZ:=I hoz;obtain⟨A9,m9,ev9,hm9,hr99⟩:=hs9;obtain⟨L9,eL9⟩:=Ak (x9.length);rw[<-eL9] at ev9;subst ev9;clear hk9 hp9 ht9 hr9 hor h79 hs99 hm9 hr99 eL9 S2 HOP HOT hn9 hoz;refine⟨_,rfl,⟨HP.o,HT.o⟩,?_⟩;simp only[Act.put,U,Aa,Ab];refine Reg.ty 9 (v:=.agg #[.string ⟨P.c.1.toArray⟩,.string ⟨P.c.2.toArray⟩,.string ⟨sv.1.toArray⟩,.string ⟨sv.2.toArray⟩,.int .i64 (kv:Int),.slice A7 L7 m7,.slice A9 L9 m9]) rfl ⟨HP.o,HT.o⟩ ?_;have q0:w9.cell? ⟨PR,0,none⟩=some (.string ⟨#[]⟩):=HN.o.cell 0;have q1:w9.cell? ⟨PR,1,none⟩=some (.string ⟨#[]⟩):=HN.o.cell 1;have q2:w9.cell? ⟨PR,2,none⟩=some (.string ⟨#[]⟩):=HN.o.cell 2;have q3:w9.cell? ⟨PR,3,none⟩=some (.string ⟨#[]⟩):=HN.o.cell 3;have q4:w9.cell? ⟨PR,4,none⟩=some (.int .i64 0):=HN.o.cell 4;have q5:w9.cell? ⟨PR,5,none⟩=some (.slice none 0 0):=HN.o.cell 5;have q6:w9.cell? ⟨PR,6,none⟩=some (.slice none 0 0):=HN.o.cell 6;have fz:=HN.o.frozen;have hn1:PR≠w.heap.size+1:=by have:=HP22.o;omega
     have hn2:PR≠PT:=by have:=HPT2.o;omega
     refine Reg.Bk 11 (((((((w9.setCell ⟨PR,0,none⟩ (.string ⟨P.c.1.toArray⟩)).setCell ⟨PR,1,none⟩ (.string ⟨P.c.2.toArray⟩)).setCell ⟨PR,2,none⟩ (.string ⟨sv.1.toArray⟩)).setCell ⟨PR,3,none⟩ (.string ⟨sv.2.toArray⟩)).setCell ⟨PR,4,none⟩ (.int .i64 (kv:Int))).setCell ⟨PR,5,none⟩ (.slice A7 L7 m7)).setCell ⟨PR,6,none⟩ (.slice A9 L9 m9)) rfl (by kernel_rfl) (by rfl) (by go_simp) ⟨far7 HP.o hn1 _ _ _ _ _ _ _,far7 HT.o hn2 _ _ _ _ _ _ _⟩ ?_;simp only[Act.put,U,Aa,Ab];clear q0 q1 q2 q3 q4 q5 q6 fz;refine wpAnyH_done (by kernel_rfl) ?_ _;have hn3:PR≠w.heap.size+1+1:=by have:=HP22.o;omega
     have hv:=set7 HN.o (.string ⟨P.c.1.toArray⟩) (.string ⟨P.c.2.toArray⟩) (.string ⟨sv.1.toArray⟩) (.string ⟨sv.2.toArray⟩) (.int .i64 (kv:Int)) (.slice A7 L7 m7) (.slice A9 L9 m9)
     go_wp2_with fail
     go_meet
     exact⟨PR,A7,L7,m7,A9,L9,m9,es9,s9,rfl,hv,far7 HR.o hn3 _ _ _ _ _ _ _,HOR.o,HOZ.o,(S7.o.less (fun j x=>(by rcases x with x | x | x<;>first | exact .inr x | (subst x;exact .inl HWC2.o) | exact .inl (Nat.lt_of_lt_of_le x HWC3.o) | (subst x;exact HPN.o) | (subst x;exact HP23.o) | (subst x;exact .inl HP23.o) | exact Nat.lt_of_lt_of_le x HP24.o | exact .inl (Nat.lt_of_lt_of_le x HP24.o)))).put7 (.inl rfl) _ _ _ _ _ _ _,(S9.o.less (fun j x=>(by rcases x with x | x | x<;>first | exact .inr x | (subst x;exact .inl HWC2.o) | exact .inl (Nat.lt_of_lt_of_le x HWC3.o) | (subst x;exact HPN.o) | (subst x;exact HP23.o) | (subst x;exact .inl HP23.o) | exact Nat.lt_of_lt_of_le x HP24.o | exact .inl (Nat.lt_of_lt_of_le x HP24.o)))).put7 (.inl rfl) _ _ _ _ _ _ _,HK.o.put7 HPR.o HOZ.o _ _ _ _ _ _ _⟩
   case rest=>
    clear HP HT HR HK S2 S7 hp8 hr8 ht8 hk8 h28 h78 HOR HOP HOT eW8;obtain⟨PR,A7,L7,m7,A9,L9,m9,es9,s9,rfl,hn,hr,hor,hoz,h7,h9,hk⟩:=hcut;have c6:=add_one ⟨p.k,6,none⟩ i _ (by have:=HII.o;omega) (hk.st.k.blk.cell 6) (hk.st.k.blk.frozen 6);have k6:=hk.st.put6 (i+1);obtain⟨I1,eI1⟩:∃z:Int,z=((i+1:Nat):Int):=⟨_,rfl⟩;rw[<-eI1] at c6 k6;have HN:=I (k6.blk hn hoz.no);have HR:=I (k6.blk hr hor.no);have HOR:=I hor;have S7:=I (h7.kn k6);have S9:=I (h9.kn k6);have HK:=I (hk.trans k6);clear hn hr hor h7 h9 hk k6 hoz eI1
    go_upto_region 10 with(first
     |(go_at_call 76;refine Aj c6 ?_;rintro wz hw;clear c6;have hw:=hw.symm;subst hw)
     |fail)
    obtain⟨wz,ewz⟩:=Ak ((wc.setCell ⟨p.k,6,none⟩ (.int .i64 I1)));rw[<-ewz] at HN HR S7 S9 HK⊢;clear ewz;have kn0:wz.cell? ⟨PR,0,none⟩=some (.string ⟨P.c.1.toArray⟩):=HN.o.cell 0;have kn1:wz.cell? ⟨PR,1,none⟩=some (.string ⟨P.c.2.toArray⟩):=HN.o.cell 1;have kn2:wz.cell? ⟨PR,2,none⟩=some (.string ⟨sv.1.toArray⟩):=HN.o.cell 2;have kn3:wz.cell? ⟨PR,3,none⟩=some (.string ⟨sv.2.toArray⟩):=HN.o.cell 3;have kn4:wz.cell? ⟨PR,4,none⟩=some (.int .i64 (kv:Int)):=HN.o.cell 4;have kn5:wz.cell? ⟨PR,5,none⟩=some (.slice A7 L7 m7):=HN.o.cell 5;have kn6:wz.cell? ⟨PR,6,none⟩=some (.slice A9 L9 m9):=HN.o.cell 6;have kr0:=HR.o.cell 0;have kr1:=HR.o.cell 1;have kr2:=HR.o.cell 2;have kr3:=HR.o.cell 3;have kr4:=HR.o.cell 4;have kr5:=HR.o.cell 5;have kr6:=HR.o.cell 6;have fz:=HR.o.frozen
    go_wp2_with fail
    refine bodyPost_ret (v:=.tuple #[.agg #[.string ⟨P.c.1.toArray⟩,.string ⟨P.c.2.toArray⟩,.string ⟨sv.1.toArray⟩,.string ⟨sv.2.toArray⟩,.int .i64 (kv:Int),.slice A7 L7 m7,.slice A9 L9 m9],.int .i64 0]) ?_ ?_ ?_
    ·exact Ad (v:=.agg #[.string ⟨P.c.1.toArray⟩,.string ⟨P.c.2.toArray⟩,.string ⟨sv.1.toArray⟩,.string ⟨sv.2.toArray⟩,.int .i64 (kv:Int),.slice A7 L7 m7,.slice A9 L9 m9]) 12 13 43 ⟨w.heap.size+1+1,0,none⟩ Tryz.results31 rfl (Wh.Al (set7 HR.o _ _ _ _ _ _ _) Tryz.underlying43 (by rfl) AK) rfl
    ·rfl
    ·rw[HRR.o]
     have s7f:=(S7.o.put7 (g:=w.heap.size+1+1) (.inr (.inl rfl)) (.string ⟨P.c.1.toArray⟩) (.string ⟨P.c.2.toArray⟩) (.string ⟨sv.1.toArray⟩) (.string ⟨sv.2.toArray⟩) (.int .i64 (kv:Int)) (.slice A7 L7 m7) (.slice A9 L9 m9));have s9f:=(S9.o.put7 (g:=w.heap.size+1+1) (.inr (.inl rfl)) (.string ⟨P.c.1.toArray⟩) (.string ⟨P.c.2.toArray⟩) (.string ⟨sv.1.toArray⟩) (.string ⟨sv.2.toArray⟩) (.int .i64 (kv:Int)) (.slice A7 L7 m7) (.slice A9 L9 m9));have s7g:=SlX.o (a:=w) s7f (fun j x=>.inr (.inr x));have s9g:=SlX.o (a:=w) s9f (fun j x=>.inr (.inr x));have kf:=HK.o.put7 (g:=w.heap.size+1+1) (by omega) HOR.o (.string ⟨P.c.1.toArray⟩) (.string ⟨P.c.2.toArray⟩) (.string ⟨sv.1.toArray⟩) (.string ⟨sv.2.toArray⟩) (.int .i64 (kv:Int)) (.slice A7 L7 m7) (.slice A9 L9 m9);clear s7f s9f;refine⟨#[.string ⟨P.c.1.toArray⟩,.string ⟨P.c.2.toArray⟩,.string ⟨sv.1.toArray⟩,.string ⟨sv.2.toArray⟩,.int .i64 (kv:Int),.slice A7 L7 m7,.slice A9 L9 m9],es9,s9,rfl,⟨.slice A7 L7 m7,.slice A9 L9 m9,by simp only[Ms.reC,Ms.prC,Ms.tkC,List.cons_append,List.nil_append],?_,?_⟩,?_⟩
     ·simp only
      exact s7g
     ·simp only
      exact s9g
     ·show Kn w _ B p es s es9 s9 (n+2*1) (i+1) (c+2)
      exact kf
 ·have hr:rr=(2,Ms.re0):=by
   rw[ER.o,ansK,<-EO1.o,<-EO2.o,if_neg (by simpa using hz)]
  have HRR:=I hr;clear ER EO1 EO2 HL1 HL2 S1 S2 hr HO HP;have kr0:=HR.o.cell 0;have kr1:=HR.o.cell 1;have kr2:=HR.o.cell 2;have kr3:=HR.o.cell 3;have kr4:=HR.o.cell 4;have kr5:=HR.o.cell 5;have kr6:=HR.o.cell 6;have fz:=HR.o.frozen;cases o1 with
  |none=>
   rw[show oI none=1 from rfl];clear hz
   go_wp2_with fail
   refine bodyPost_ret (v:=.tuple #[.agg reZ,.int .i64 2]) ?_ ?_ ?_
   ·exact Ad (v:=.agg reZ) 12 13 43 ⟨w.heap.size+1+1,0,none⟩ Tryz.results31 rfl (Wh.Al (set7 HR.o _ _ _ _ _ _ _) Tryz.underlying43 (by rfl) AK) rfl
   ·rfl
   ·rw[HRR.o]
    exact Ce ((HK.o.put7 (by omega) (HN0.o _ (by omega)) _ _ _ _ _ _ _).more (by omega)) (by decide)
  |some b1=>
   cases o2 with
   |some b2=>exact absurd ⟨rfl,rfl⟩ hz
   |none=>
    rw[show oI none=1 from rfl,show oI (some b1)=0 from rfl];clear hz
    go_wp2_with fail
    refine bodyPost_ret (v:=.tuple #[.agg reZ,.int .i64 2]) ?_ ?_ ?_
    ·exact Ad (v:=.agg reZ) 12 13 43 ⟨w.heap.size+1+1,0,none⟩ Tryz.results31 rfl (Wh.Al (set7 HR.o _ _ _ _ _ _ _) Tryz.underlying43 (by rfl) AK) rfl
    ·rfl
    ·rw[HRR.o]
     exact Ce ((HK.o.put7 (by omega) (HN0.o _ (by omega)) _ _ _ _ _ _ _).more (by omega)) (by decide)
end
end Kd
namespace Kd
open Go.RowKit Af Se
open Rg (It Ent Ring RO its Ad Bz Bw)
open SeL (Bd AN)
open Ms (Pt Rp Re Tk As Tg Mg Ap Fa pSm mSm mgO mgB asB tgB limO mgE asC tgC reC as0 tg0 re0 ap0 fa0 EncR)
theorem FX (cs0:Array Value) (m:Mg) (w:World) (h:Mc.MgV w w.heap.size cs0 m) (hs:mSm m):Calls Tryz.prog 25 #[.agg cs0] w fun e w'=>e=.returned (.bool (mgO m).isSome)/\Below w.heap.size w w':=by
 have HI:=I (show(Tryz.prog.info? 91).map (·.size)=some cs0.size by obtain⟨pa,pt,pr,pp,pf,hc,hp⟩:=h;rw[hc,hp.size];exact Mc.Dv);have hb:=(Below.refl w.heap.size w).alloc Ag (.cells cs0 91);have HX:=I (Blk.new w 91 cs0);have c1:=Mc.Yb cs0 m _ ((h.keep hb).more hb.size) hs;have HB:=I hb;obtain⟨o,eo⟩:=Ak (mgO m);rw[<-eo] at c1⊢;clear h hb hs eo;cases o with
 |none=>
  go_enter Tryz.func25,Tryz.ntmps25
  go_wp2_with (first
   |(refine Wh.Ax (by rfl) 91 (.tmp 1) (by rfl) w.heap.size 0 (by rfl) cs0 _ (Wh.Ae HX.o) Tryz.underlying91 (by rfl) HI.o ?_;clear HI)
   |(go_at_call 62;refine Calls.mono c1 ?_;rintro e w2 he;obtain⟨v1,rfl,hb2⟩:=ND he;replace HB:=HB.t hb2;clear he hb2 c1)
   |fail)
  go_ret;exact⟨rfl,HB.o⟩
 |some l=>
  go_enter Tryz.func25,Tryz.ntmps25
  go_wp2_with (first
   |(refine Wh.Ax (by rfl) 91 (.tmp 1) (by rfl) w.heap.size 0 (by rfl) cs0 _ (Wh.Ae HX.o) Tryz.underlying91 (by rfl) HI.o ?_;clear HI)
   |(go_at_call 62;refine Calls.mono c1 ?_;rintro e w2 he;obtain⟨v1,rfl,_,hb2⟩:=Gw he;replace HB:=HB.t hb2;clear he hb2 c1)
   |fail)
  go_ret;exact⟨rfl,HB.o⟩
theorem Lf {P:Program} {ops:Array Oper} {rest:List Oper} {o:Oper} {a:Act} {w:World} {Q:Exit->Act->World->Prop} (hg:Region.wanted o (yielded ops a.tmps)=true) (t:TypeId) (parts:Array (Nat×Operand)) (ho:o.op=.build t parts)
  (cells:Array Value) (hc:P.built t (parts.map fun(i,x)=>(i,a.eval x)).toList=some cells) (h:wpList P ops Q rest (a.put o.dst (.agg cells)) w):wpList P ops Q (o :: rest) a w:=
 BigFrame.wpList_want hg fun _ hK=>wp_build t parts ho (by rw[hc];rfl) (by rw[hc];exact hK _ _ h)
def mAs (q:As):Mg:=⟨1,q,tg0,re0,ap0,fa0⟩
def mTg (q:Tg):Mg:=⟨2,as0,q,re0,ap0,fa0⟩
theorem Wi {m:Mg}:(mgO m).isSome=mgB m:=by
 cases h:mgB m with
 |true=>rw[mgO,limO,if_pos ⟨h,Mc.Wg h⟩];rfl
 |false=>rw[mgO,limO,h];rfl
theorem Wj (q:As):(mgO (mAs q)).isSome=asB q:=by rw[Wi];unfold mgB mAs;simp
theorem Wk (q:Tg):(mgO (mTg q)).isSome=tgB q:=by rw[Wi];unfold mgB mTg;simp
abbrev asA (q:As):Array Value:=#[.string ⟨q.c.1.toArray⟩,.string ⟨q.c.2.toArray⟩,.string ⟨q.s.1.toArray⟩,.string ⟨q.s.2.toArray⟩,.int .i64 q.t,.int .i64 q.no]
theorem ZV (w:World) (q:As):Mc.MgV w w.heap.size (Mc.mgA 1 (asA q) Mc.zT Mc.zR Mc.zP Mc.zF) (mAs q):=
 ⟨_,_,_,_,_,rfl,⟨rfl,Mc.zT_v _ _,Mc.zR_v _ _,Mc.zP_v _ _,Mc.zF_v⟩⟩
theorem Mm (q:As):Tryz.prog.built 91 [(0,.int .i64 1),(1,.agg (asA q))]=some (Mc.mgA 1 (asA q) Mc.zT Mc.zR Mc.zP Mc.zF):=Mc.Le rfl
theorem Yd {l:List It} {n:Nat} {s:Ms.Pr} {P:Pt} {no:Int} {ks:Nat->UInt8} {u:Int}:ansL l n P.c s P no ks u=ansK n (keyL l s) (Bw l s) s P no ks u:=rfl
theorem Lg {es:List Ent} {q:Rg.Pr} {j:Nat} {x:Ent} (hf:Bz (its es) q=some j) (hj:es[j]? = some x):keyL (its es) q=x.it.k/\Bw (its es) q=x.it.n/\hasL (its es) q=true:=by
 have h1:=Rg.Kc hj;refine⟨?_,?_,?_⟩
 ·simp [keyL,hf,keyO,h1]
 ·simp [Bw,hf,Rg.numO,h1]
 ·simp [hasL,hf]
section
variable {X:Nat->Prop} {p:KP} {es:List Ent} {s:Option Ss} {w w':World} {v:Value} {l:Nm.L}
theorem SlX.over (h:SlX X p es s w v l) {g:Nat} (hx:X g) (hg:w.grownBy w' (some g)):SlX X p es s w' v l:=h.keep (Chg.of_grown (S:=fun j=>j=g) hg rfl) (fun j _ x=>.inr (x▸hx)) (fun _ _ x=>x)
theorem NF {es:List Ent} {q:Rg.Pr} {j:Nat} (h:Bz (its es) q=some j):∃x,es[j]? = some x:=by
 obtain⟨_,y,h1,_⟩:=Rg.Gj h;obtain⟨e,he,_⟩:=Rg.Oz h1;exact⟨e,he⟩
theorem Mn {cs:Array Value} {x:Re} {S:Nat->Prop} (h:ReN S w cs x):cs.size=7/\cs.all (·.oneCell')=true/\(Tryz.prog.info? 43).map (·.size)=some cs.size:=by
 obtain⟨b,a,rfl,⟨A,m,rfl,_,_⟩,⟨A2,m2,rfl,_,_⟩⟩:=h;refine⟨rfl,by simp [reC,Ms.prC,Ms.tkC,Value.oneCell'],?_⟩;rw[show((reC x (.slice A x.t.b.length m) (.slice A2 x.b.length m2)).toArray).size=7 from rfl];exact AK
theorem ReN.over {a w1:World} {cs:Array Value} {x:Re} (h:ReN (Out w1 p es s) w cs x) (ha:a.heap.size<=w1.heap.size) {g:Nat} (hx:g<w1.heap.size) (hg:w.grownBy w' (some g)):ReN (Out a p es s) w' cs x:=by
 obtain⟨b,d,h1,h2,h3⟩:=h;refine⟨b,d,h1,?_,?_⟩
 ·exact((SlX.of_out (X:=fun j=>j<w1.heap.size) h2 (fun _ y=>y)).over hx hg).o (fun j y=>by omega)
 ·exact((SlX.of_out (X:=fun j=>j<w1.heap.size) h3 (fun _ y=>y)).over hx hg).o (fun j y=>by omega)
end
end Kd
namespace Kd
open Go.RowKit Af Se
open Rg (It Ent Ring RO its Ad Cp Nk KX Hh Oz)
open SeL (Bd AN)
open Ms (Pt Rp Re Tk ptO rpO pSm reC tkC prC ptD pt0)
open Nm (krb)
abbrev ptZ:Array Value:=#[.string ⟨#[]⟩,.string ⟨#[]⟩,.int .u8 0,.int .u8 0,.int .u8 0,.int .u8 0,.int .u8 0,.int .u8 0,.int .u8 0,.int .u8 0,.int .u8 0,.int .u8 0,.int .u8 0,.int .u8 0,.int .u8 0,.int .u8 0,.int .u8 0,.int .u8 0,.int .u8 0,.int .u8 0,.int .u8 0,.int .u8 0,.int .u8 0,.int .u8 0,.int .u8 0,.int .u8 0,.int .u8 0,.int .u8 0,.int .u8 0,.int .u8 0,.int .u8 0,.int .u8 0,.int .u8 0,.int .u8 0,.string ⟨#[]⟩,.int .i64 0,.int .i64 0]
theorem Tm:ptA pt0=ptZ:=rfl
def OpnP (w:World) (B:Nat) (p:KP) (es:List Ent) (s:Option Ss) (n i c:Nat) (r:Int×Pt) (e:Ending) (w':World):Prop:=
 ∃es' s',e=.returned (.tuple #[.agg (ptA r.2),.int .i64 r.1])/\Kn w w' B p es s es' s' n i c
theorem Kn.over {w0 w w':World} {B:Nat} {p:KP} {es0 es:List Ent} {s0 s:Option Ss} {n i c:Nat} (h:Kn w0 w B p es0 s0 es s n i c) {g:Nat} (hg:w0.heap.size<=g) (hk:Off p es s g) (hw:w.grownBy w' (some g)):Kn w0 w' B p es0 s0 es s n i c:=by
 have hc:Chg (fun j=>j=g) w w':=Chg.of_grown hw rfl;exact⟨h.st.chg hc hk,h.eq,h.sq,h.chg.trans hc (fun j hj x=>by omega),h.nw⟩
theorem Mo {ks:Nat->UInt8} {u:Int} {l:Nm.L} (h0:0<=u) (h9:u<=255):(AN ks u l).2=0\/(AN ks u l).2=3:=by
 unfold AN;rw[if_pos ⟨h0,h9⟩]
 split
 ·exact .inl rfl
 ·exact .inr rfl
section
variable {w:World} {B:Nat} {p:KP} {es:List Ent} {s:Option Ss} {n i c:Nat}
theorem Vl {t:Tk} {bv:Value} {now:Int} (h:KS w B p es s n i c) (hc:c<900000) (hl:es.length<=1000) (hR:p.R.length<=1000000) (h0:0<=now) (h9:now<=1073741824) (hv:SlN (KSO p es s) w bv t.b) {rz:Int×Pt} (hr:opnL p.R (its es) t now=rz) :
  Calls Tryz.prog 26 #[.pointer (some ⟨p.k,0,none⟩),.agg #[.string ⟨t.s.1.toArray⟩,.string ⟨t.s.2.toArray⟩,.int .i64 t.k,bv],.int .i64 now] w (OpnP w B p es s n i (c+1) rz):=by
 obtain⟨AB,mB,ebv,hmB,hrB⟩:=hv;obtain⟨W,eW⟩:=Ak ((w.alloc (.cells #[.string ⟨t.s.1.toArray⟩,.string ⟨t.s.2.toArray⟩,.int .i64 t.k,bv] 28)).alloc (.cells ptZ 39));have hb:Below w.heap.size w W:=eW▸(Ah.alloc Ag _).alloc (by simp) _;have HT:=I (show Blk W w.heap.size 28 #[.string ⟨t.s.1.toArray⟩,.string ⟨t.s.2.toArray⟩,.int .i64 t.k,bv] from eW▸(Blk.new w _ _).alloc _);have hz:Blk W (w.heap.size+1) 39 ptZ:=by have:=Blk.new (w.alloc (.cells #[.string ⟨t.s.1.toArray⟩,.string ⟨t.s.2.toArray⟩,.int .i64 t.k,bv] 28)) 39 ptZ;simp only[World.size_alloc] at this;exact eW▸this
 have HK:=I (Kn.start h hb);have HB:=I ((show SlN (KSO p es s) w bv t.b from⟨AB,mB,ebv,hmB,hrB⟩).below hb);have HOT:=I (h.offs (Nat.le_refl w.heap.size));have HOZ:=I (h.offs (Nat.le_add_right w.heap.size 1));obtain⟨LB,eLB⟩:=Ak (t.b.length);have EBV:=I ebv;rw[<-eLB] at ebv;subst ebv;clear hmB hrB;obtain⟨zz,ezz⟩:=Ak (ptZ);have HZS:=I (show zz.size=37 by rw[ezz];rfl);have HZI:=I (show(Tryz.prog.info? 39).map (·.size)=some zz.size by rw[HZS.o];kernel_rfl);have HZO:=I (show zz.all (·.oneCell')=true by rw[ezz,<-Tm];exact Gt _);have HZB:=I (show Tryz.prog.built 39 []=some zz by rw[ezz,<-Tm];exact SG);have HZE:=I (show ptA pt0=zz by rw[ezz,Tm]);rw[<-ezz] at hz;have HZ:=I hz;have C1:=I (fun(w1:World)=>(Nm.JP p.R w1 (by omega)));have HR:=I hr;have HLL:=I hl;clear hr;have HC:=I hc;clear h hb hz hc hl hR ezz eLB;go_enter Tryz.func26,Tryz.ntmps26
 go_upto_region 1 with fail
 rw[<-eW];clear eW;have kt0:W.cell? ⟨w.heap.size,0,none⟩=some (.string ⟨t.s.1.toArray⟩):=HT.o.cell 0;have kt1:W.cell? ⟨w.heap.size,1,none⟩=some (.string ⟨t.s.2.toArray⟩):=HT.o.cell 1;have kk0:W.cell? ⟨p.k,0,none⟩=some (.string ⟨p.R.toArray⟩):=HK.o.st.k.blk.cell 0
 by_cases hx0:t.s.2=krb++p.R
 ·have t1:(t.s.2==krb++p.R)=true:=by rw[hx0];simp
  cases hf:Cp (its es) t.s t.k with
  |none=>
   have er:rz=(4,pt0):=by rw[<-HR.o];unfold opnL;rw[if_pos hx0,hf]
   subst er;have CB:=I (fun(w1:World) (h1:Ring w1 B p.r p.v es)=>KX (z:=t.k) h1 HLL.o hf);clear hf hx0
   go_quiet ((go_at_call 63;exact Calls.quiet_of_same ((C1.o _).mono (fun _ _ h=>⟨h.1,h.2.symm⟩))))
   obtain⟨W1,eW1⟩:=Ak (W.drewN nq);replace HT:=I (show Blk W1 _ _ _ from eW1▸HT.o.drewN nq);replace HZ:=I (show Blk W1 _ _ _ from eW1▸HZ.o.drewN nq);replace HK:=I (show Kn w W1 B p es s es s n i c from eW1▸HK.o.below (below_drewN Ah nq));replace HB:=I (show SlN (KSO p es s) W1 _ _ from eW1▸HB.o.below (below_drewN Ah nq));rw[<-eW1];clear eW1 kt0 kt1 kk0 C1
   go_upto_region 3 with fail
   replace HT:=I (show Blk W1.drew _ _ _ from HT.o.drewN 1);replace HZ:=I (show Blk W1.drew _ _ _ from HZ.o.drewN 1);replace HK:=I HK.o.drew;replace HB:=I (show SlN (KSO p es s) W1.drew _ _ from HB.o.below (below_drewN Ah 1))
   go_region_held3 (fun w'=>w'.cell? ⟨p.k,4,none⟩=some (.pointer (some ⟨p.r,0,none⟩))/\w'.cell? ⟨w.heap.size,0,none⟩=some (.string ⟨t.s.1.toArray⟩)/\w'.cell? ⟨w.heap.size,1,none⟩=some (.string ⟨t.s.2.toArray⟩)/\w'.cell? ⟨w.heap.size,2,none⟩=some (.int .i64 t.k)) (exact⟨HK.o.st.k.blk.cell 4,HT.o.cell 0,HT.o.cell 1,HT.o.cell 2⟩) ((go_at_call 64;refine Aj (CB.o _ HK.o.st.k.ring) ?_;rintro w3 hb;clear CB;replace HT:=I (HT.o.below hb);replace HZ:=I (HZ.o.below hb);replace HB:=I (HB.o.below hb);replace HK:=I (HK.o.below hb);clear hb))
   go_wp2_with (first
    |(refine Mc.AA (by rfl) 39 #[] (by rfl) zz (by simp;exact HZB.o) ?_)
    |(refine Wh.Bh (by rfl) 39 (.tmp 6) (.tmp 36) (by rfl) (w.heap.size+1) 39 _ HZ.o zz (by rfl) (by rfl) (by rfl) HZI.o HZO.o ?_;rintro V hV hg;replace HZ:=I hV;replace HK:=I (HK.o.over (by omega) HOZ.o hg);clear hV hg HZB)
    |fail)
   refine bodyPost_ret (v:=.tuple #[.agg zz,.int .i64 4]) ?_ ?_ ?_
   ·exact Ad (v:=.agg zz) 6 7 39 ⟨w.heap.size+1,0,none⟩ Tryz.results26 rfl (Wh.Al HZ.o Tryz.underlying39 (by rfl) HZI.o) rfl
   ·rfl
   ·exact⟨_,_,by rw[HZE.o],HK.o.more (by omega)⟩
  |some j=>
   obtain⟨y,hy,_,_⟩:=Hh hf;obtain⟨xe,hx,rfl⟩:=Oz hy;have hk:keyO (its es) (some j)=xe.it.k:=by simp [keyO,hy]
   have e5:opnL p.R (its es) t now=(if (AN xe.it.k 2 t.b).2=0 then (match ptD (AN xe.it.k 2 t.b).1 with | none=>((2,pt0):Int×Pt) | some q=>if q.en<now then (7,pt0) else if now+5<q.st then (8,pt0) else (0,q)) else (3,pt0):Int×Pt):=by
    unfold opnL;rw[if_pos hx0,hf];simp only;rw[hk]
    rfl
   replace HR:=I (e5.symm.trans HR.o);have CB:=I (fun(w1:World) (h1:Ring w1 B p.r p.v es)=>Nk (z:=t.k) h1 HLL.o hf hx);have HXE:=I hx;have HOO:=I (Mo (ks:=xe.it.k) (u:=2) (l:=t.b) (by decide) (by decide));obtain⟨xr,exr⟩:∃x,x=AN xe.it.k 2 t.b:=⟨_,rfl⟩;have EX:=I exr;rw[<-exr] at HR HOO;clear hf hx hx0 exr hy hk e5
   go_quiet ((go_at_call 63;exact Calls.quiet_of_same ((C1.o _).mono (fun _ _ h=>⟨h.1,h.2.symm⟩))))
   obtain⟨W1,eW1⟩:=Ak (W.drewN nq);replace HT:=I (show Blk W1 _ _ _ from eW1▸HT.o.drewN nq);replace HZ:=I (show Blk W1 _ _ _ from eW1▸HZ.o.drewN nq);replace HK:=I (show Kn w W1 B p es s es s n i c from eW1▸HK.o.below (below_drewN Ah nq));replace HB:=I (show SlN (KSO p es s) W1 _ _ from eW1▸HB.o.below (below_drewN Ah nq));rw[<-eW1];clear eW1 kt0 kt1 kk0 C1
   go_upto_region 3 with fail
   replace HT:=I (show Blk W1.drew _ _ _ from HT.o.drewN 1);replace HZ:=I (show Blk W1.drew _ _ _ from HZ.o.drewN 1);replace HK:=I HK.o.drew;replace HB:=I (show SlN (KSO p es s) W1.drew _ _ from HB.o.below (below_drewN Ah 1))
   go_region_held3 (fun w'=>w'.cell? ⟨p.k,4,none⟩=some (.pointer (some ⟨p.r,0,none⟩))/\w'.cell? ⟨w.heap.size,0,none⟩=some (.string ⟨t.s.1.toArray⟩)/\w'.cell? ⟨w.heap.size,1,none⟩=some (.string ⟨t.s.2.toArray⟩)/\w'.cell? ⟨w.heap.size,2,none⟩=some (.int .i64 t.k)) (exact⟨HK.o.st.k.blk.cell 4,HT.o.cell 0,HT.o.cell 1,HT.o.cell 2⟩) ((go_at_call 64;refine Aj (CB.o _ HK.o.st.k.ring) ?_;rintro w3 hb;clear CB;replace HT:=I (HT.o.below hb);replace HZ:=I (HZ.o.below hb);replace HB:=I (HB.o.below hb);replace HK:=I (HK.o.below hb);clear hb))
   have co:=Ep HK.o.st (.inl ⟨j,xe,HXE.o,rfl,rfl⟩) (by have:=HC.o;omega) 2 _ t.b HB.o;rw[<-EX.o] at co;have kt2:w3.cell? ⟨w.heap.size,3,none⟩=some (.slice AB LB mB):=HT.o.cell 3;rcases HOO.o with ho | ho
   ·skip
    rw[ho] at co;replace HR:=I ((if_pos ho).symm.trans HR.o);clear ho HOO;cases hd:ptD xr.1 with
    |none=>
     rw[hd] at HR;have er:rz=(2,pt0):=HR.o.symm;subst er;have CD:=I (fun(A:Option Addr) (c0:Nat) (w1:World) (hr:Rd w1 w1.heap.size A (bvs xr.1))=>Mc.JB A xr.1 c0 w1 hr);rw[show Mc.ptG xr.1=pt0 from by unfold Mc.ptG;rw[hd];rfl,show Mc.ptI xr.1=2 by unfold Mc.ptI;rw[hd];rfl] at CD;have hk32:(pt0).ss.length=32:=rfl;obtain⟨csP,ecsP⟩:=Ak (ptA (pt0));have HPS:=I (show csP.size=37 by rw[ecsP];exact DG hk32);have HPI:=I (show(Tryz.prog.info? 39).map (·.size)=some csP.size by rw[ecsP];exact FA hk32);have HPO:=I (show csP.all (·.oneCell')=true by rw[ecsP];exact Gt _);have HPC:=I (fun(w1:World) (g:Nat) (hb:Blk w1 g 39 csP)=>And.intro (XL hk32 (ecsP▸hb)) (UR hk32 (ecsP▸hb)));have HPE:=I (show ptA (pt0)=csP from ecsP.symm);have ecsP2:csP=(Ms.ptC (pt0)).toArray:=ecsP;rw[<-ecsP2] at CD;clear ecsP ecsP2 hk32;clear hd
     go_wp2_with (first
      |(go_at_call 65;refine Calls.mono co ?_;rintro e w6 ⟨v6,es6,s6,rfl,hs6,hk6⟩;clear co kt2 HB;have hz6:=hk6.blk HZ.o HOZ.o.no;have hoz6:=hk6.off HOZ.o HZ.o.lt;replace HZ:=I hz6;replace HOZ:=I hoz6;replace HK:=I (HK.o.trans hk6);obtain⟨A6,m6,ev6,hm6,hr6⟩:=hs6;subst ev6;have HR6:=I hr6.rd;clear hm6 hr6 hk6 hz6 hoz6 HT HOT)
      |(go_at_call 66;refine Aj (CD.o _ _ _ HR6.o) ?_;rintro w9 hb;clear CD HR6;replace HZ:=I (HZ.o.below hb);replace HK:=I (HK.o.below hb);clear hb)
      |(refine Wh.Bg (by rfl) 39 (.tmp 11) (.tmp 50) (by rfl) 39 rfl csP (by rfl) (by rfl) (by rw[HPS.o];rfl) HPI.o HPO.o ?_;rintro V hV hb;have HV:=I hV;replace HK:=I (HK.o.below hb);replace HZ:=I (HZ.o.below hb);have kv35:=(HPC.o _ _ hV).1;have kv36:=(HPC.o _ _ hV).2;clear hb hV HPS HPC)
      |(refine Mc.AA (by rfl) 39 #[] (by rfl) zz (by simp;exact HZB.o) ?_)
      |(refine Wh.Bh (by rfl) 39 (.tmp 6) (.tmp 54) (by rfl) (w.heap.size+1) 39 _ HZ.o zz (by rfl) (by rfl) (by rfl) HZI.o HZO.o ?_;rintro V hV hg;replace HZ:=I hV;replace HK:=I (HK.o.over (by omega) HOZ.o hg);clear hV hg HZB)
      |fail)
     refine bodyPost_ret (v:=.tuple #[.agg zz,.int .i64 2]) ?_ ?_ ?_
     ·exact Ad (v:=.agg zz) 6 7 39 ⟨w.heap.size+1,0,none⟩ Tryz.results26 rfl (Wh.Al HZ.o Tryz.underlying39 (by rfl) HZI.o) rfl
     ·rfl
     ·exact⟨_,_,by rw[HZE.o],HK.o.more (by omega)⟩
    |some P=>
     rw[hd] at HR;have CD:=I (fun(A:Option Addr) (c0:Nat) (w1:World) (hr:Rd w1 w1.heap.size A (bvs xr.1))=>Mc.JB A xr.1 c0 w1 hr);rw[show Mc.ptG xr.1=P from by unfold Mc.ptG;rw[hd];rfl,show Mc.ptI xr.1=0 by unfold Mc.ptI;rw[hd];rfl] at CD;have hk32:(P).ss.length=32:=by have:=Mc.NC xr.1;unfold Mc.ptG at this;rw[hd] at this;exact this
     obtain⟨csP,ecsP⟩:=Ak (ptA (P));have HPS:=I (show csP.size=37 by rw[ecsP];exact DG hk32);have HPS2:=I (show csP.size=37 by rw[ecsP];exact DG hk32);have HPI:=I (show(Tryz.prog.info? 39).map (·.size)=some csP.size by rw[ecsP];exact FA hk32);have HPO:=I (show csP.all (·.oneCell')=true by rw[ecsP];exact Gt _);have HPC:=I (fun(w1:World) (g:Nat) (hb:Blk w1 g 39 csP)=>And.intro (XL hk32 (ecsP▸hb)) (UR hk32 (ecsP▸hb)));have HPE:=I (show ptA (P)=csP from ecsP.symm);have ecsP2:csP=(Ms.ptC (P)).toArray:=ecsP;rw[<-ecsP2] at CD;clear ecsP ecsP2 hk32;clear hd
     go_upto_region 12 with(first
      |(go_at_call 65;refine Calls.mono co ?_;rintro e w6 ⟨v6,es6,s6,rfl,hs6,hk6⟩;clear co kt2 HB;have hz6:=hk6.blk HZ.o HOZ.o.no;have hoz6:=hk6.off HOZ.o HZ.o.lt;replace HZ:=I hz6;replace HOZ:=I hoz6;replace HK:=I (HK.o.trans hk6);obtain⟨A6,m6,ev6,hm6,hr6⟩:=hs6;subst ev6;have HR6:=I hr6.rd;clear hm6 hr6 hk6 hz6 hoz6 HT HOT)
      |(go_at_call 66;refine Aj (CD.o _ _ _ HR6.o) ?_;rintro w9 hb;clear CD HR6;replace HZ:=I (HZ.o.below hb);replace HK:=I (HK.o.below hb);clear hb)
      |(refine Wh.Bg (by rfl) 39 (.tmp 11) (.tmp 50) (by rfl) 39 rfl csP (by rfl) (by rfl) (by rw[HPS.o];rfl) HPI.o HPO.o ?_;rintro V hV hb;have HV:=I hV;replace HK:=I (HK.o.below hb);replace HZ:=I (HZ.o.below hb);have kv35:=(HPC.o _ _ hV).1;have kv36:=(HPC.o _ _ hV).2;clear hb hV HPS HPC)
      |fail)
     by_cases he:P.en<now
     ·skip
      have er:rz=(7,pt0):=HR.o.symm.trans (if_pos he);subst er
      go_wp2_with (first
       |(refine Mc.AA (by rfl) 39 #[] (by rfl) zz (by simp;exact HZB.o) ?_)
       |(refine Wh.Bh (by rfl) 39 (.tmp 6) (.tmp 59) (by rfl) (w.heap.size+1) 39 _ HZ.o zz (by rfl) (by rfl) (by rfl) HZI.o HZO.o ?_;rintro V hV hg;replace HZ:=I hV;replace HK:=I (HK.o.over (by omega) HOZ.o hg);clear hV hg HZB)
       |fail)
      refine bodyPost_ret (v:=.tuple #[.agg zz,.int .i64 7]) ?_ ?_ ?_
      ·exact Ad (v:=.agg zz) 6 7 39 ⟨w.heap.size+1,0,none⟩ Tryz.results26 rfl (Wh.Al HZ.o Tryz.underlying39 (by rfl) HZI.o) rfl
      ·rfl
      ·exact⟨_,_,by rw[HZE.o],HK.o.more (by omega)⟩
     ·replace HR:=I ((if_neg he).symm.trans HR.o)
      by_cases he2:now+5<P.st
      ·skip
       have er:rz=(8,pt0):=HR.o.symm.trans (if_pos he2);subst er
       go_wp2_with (first
        |(refine Mc.AA (by rfl) 39 #[] (by rfl) zz (by simp;exact HZB.o) ?_)
        |(refine Wh.Bh (by rfl) 39 (.tmp 6) (.tmp 65) (by rfl) (w.heap.size+1) 39 _ HZ.o zz (by rfl) (by rfl) (by rfl) HZI.o HZO.o ?_;rintro V hV hg;replace HZ:=I hV;replace HK:=I (HK.o.over (by omega) HOZ.o hg);clear hV hg HZB)
        |fail)
       refine bodyPost_ret (v:=.tuple #[.agg zz,.int .i64 8]) ?_ ?_ ?_
       ·exact Ad (v:=.agg zz) 6 7 39 ⟨w.heap.size+1,0,none⟩ Tryz.results26 rfl (Wh.Al HZ.o Tryz.underlying39 (by rfl) HZI.o) rfl
       ·rfl
       ·exact⟨_,_,by rw[HZE.o],HK.o.more (by omega)⟩
      ·skip
       have er:rz=(0,P):=HR.o.symm.trans (if_neg he2);subst er;clear HZB
       go_wp2_with (first
        |(refine Wh.Ax (by rfl) 39 (.tmp 11) (by rfl) w9.heap.size 0 (by rfl) csP _ (Wh.Ae HV.o) Tryz.underlying39 (by rfl) HPI.o ?_)
        |(refine Wh.Bh (by rfl) 39 (.tmp 6) (.tmp 66) (by rfl) (w.heap.size+1) 39 _ HZ.o csP (by rfl) (by rfl) (by rw[HZS.o,HPS2.o]) HPI.o HPO.o ?_;rintro V2 hV2 hg;replace HZ:=I hV2;replace HK:=I (HK.o.over (by omega) HOZ.o hg);clear hV2 hg HPS2)
        |fail)
       refine bodyPost_ret (v:=.tuple #[.agg csP,.int .i64 0]) ?_ ?_ ?_
       ·exact Ad (v:=.agg csP) 6 7 39 ⟨w.heap.size+1,0,none⟩ Tryz.results26 rfl (Wh.Al HZ.o Tryz.underlying39 (by rfl) HPI.o) rfl
       ·rfl
       ·exact⟨_,_,by rw[HPE.o],HK.o.more (by omega)⟩
   ·skip
    rw[ho] at co;have er:rz=(3,pt0):=HR.o.symm.trans (if_neg (by omega));subst er;clear ho HOO
    go_wp2_with (first
     |(go_at_call 65;refine Calls.mono co ?_;rintro e w6 ⟨v6,es6,s6,rfl,hs6,hk6⟩;clear co kt2 HB;have hz6:=hk6.blk HZ.o HOZ.o.no;have hoz6:=hk6.off HOZ.o HZ.o.lt;replace HZ:=I hz6;replace HOZ:=I hoz6;replace HK:=I (HK.o.trans hk6);obtain⟨A6,m6,ev6,hm6,hr6⟩:=hs6;subst ev6;have HR6:=I hr6.rd;clear hm6 hr6 hk6 hz6 hoz6 HT HOT)
     |(refine Mc.AA (by rfl) 39 #[] (by rfl) zz (by simp;exact HZB.o) ?_)
     |(refine Wh.Bh (by rfl) 39 (.tmp 6) (.tmp 46) (by rfl) (w.heap.size+1) 39 _ HZ.o zz (by rfl) (by rfl) (by rfl) HZI.o HZO.o ?_;rintro V hV hg;replace HZ:=I hV;replace HK:=I (HK.o.over (by omega) HOZ.o hg);clear hV hg HZB)
     |fail)
    refine bodyPost_ret (v:=.tuple #[.agg zz,.int .i64 3]) ?_ ?_ ?_
    ·exact Ad (v:=.agg zz) 6 7 39 ⟨w.heap.size+1,0,none⟩ Tryz.results26 rfl (Wh.Al HZ.o Tryz.underlying39 (by rfl) HZI.o) rfl
    ·rfl
    ·exact⟨_,_,by rw[HZE.o],HK.o.more (by omega)⟩
 ·have t1:(t.s.2==krb++p.R)=false:=by simpa using hx0
  have er:rz=(6,pt0):=by rw[<-HR.o];unfold opnL;rw[if_neg hx0]
  subst er;clear hx0
  go_quiet ((go_at_call 63;exact Calls.quiet_of_same ((C1.o _).mono (fun _ _ h=>⟨h.1,h.2.symm⟩))))
  obtain⟨W1,eW1⟩:=Ak (W.drewN nq);replace HT:=I (show Blk W1 _ _ _ from eW1▸HT.o.drewN nq);replace HZ:=I (show Blk W1 _ _ _ from eW1▸HZ.o.drewN nq);replace HK:=I (show Kn w W1 B p es s es s n i c from eW1▸HK.o.below (below_drewN Ah nq));replace HB:=I (show SlN (KSO p es s) W1 _ _ from eW1▸HB.o.below (below_drewN Ah nq));rw[<-eW1];clear eW1 kt0 kt1 kk0 C1
  go_wp2_with (first
   |(refine Mc.AA (by rfl) 39 #[] (by rfl) zz (by simp;exact HZB.o) ?_)
   |(refine Wh.Bh (by rfl) 39 (.tmp 6) (.tmp 21) (by rfl) (w.heap.size+1) 39 _ HZ.o zz (by rfl) (by rfl) (by rfl) HZI.o HZO.o ?_;rintro V hV hg;replace HZ:=I hV;replace HK:=I (HK.o.over (by omega) HOZ.o hg);clear hV hg HZB)
   |fail)
  refine bodyPost_ret (v:=.tuple #[.agg zz,.int .i64 6]) ?_ ?_ ?_
  ·exact Ad (v:=.agg zz) 6 7 39 ⟨w.heap.size+1,0,none⟩ Tryz.results26 rfl (Wh.Al HZ.o Tryz.underlying39 (by rfl) HZI.o) rfl
  ·rfl
  ·exact⟨_,_,by rw[HZE.o],HK.o.more (by omega)⟩
theorem Tn {t:Tk} {bv:Value} {now:Int} (h:KS w B p es s n i c) (hc:c<900000) (hl:es.length<=1000) (hR:p.R.length<=1000000) (h0:0<=now) (h9:now<=1073741824) (hv:SlN (KSO p es s) w bv t.b) :
 Calls Tryz.prog 26 #[.pointer (some ⟨p.k,0,none⟩),.agg #[.string ⟨t.s.1.toArray⟩,.string ⟨t.s.2.toArray⟩,.int .i64 t.k,bv],.int .i64 now] w (OpnP w B p es s n i (c+1) (opnL p.R (its es) t now)):=Vl h hc hl hR h0 h9 hv rfl
end
open Rg (BG Cx)
open Ms (An anD anC)
section
variable {w:World} {B:Nat} {p:KP} {es:List Ent} {s:Option Ss} {n i c:Nat}
def AutP (w:World) (B:Nat) (p:KP) (es:List Ent) (s:Option Ss) (n i c:Nat) (r:Int) (e:Ending) (w':World):Prop:=
 ∃es' s',e=.returned (.int .i64 r)/\Kn w w' B p es s es' s' n i c
theorem ZW {x:Nat} {ss a:Nm.L} {cl:Rg.Pr} {av:Value} {now:Int} (h:KS w B p es s n i c) (hc:c<900000) (hh:Hdl es s x (ksOf ss)) (h0:0<=now) (h9:now<=1073741824) (hv:SlN (KSO p es s) w av a) (ho:(AN (ksOf ss) 7 a).2=3) :
  Calls Tryz.prog 28 #[.pointer (some ⟨x,0,none⟩),av,prV cl,.int .i64 now] w (AutP w B p es s n i (c+1) 3):=by
 have hb:Below w.heap.size w (w.alloc (.cells #[.string ⟨cl.1.toArray⟩,.string ⟨cl.2.toArray⟩] 25)):=Ah.alloc Ag _;have hk:=Kn.start h hb;have hoc:=h.offs (Nat.le_refl w.heap.size);have HCL:=I (Blk.new w 25 #[.string ⟨cl.1.toArray⟩,.string ⟨cl.2.toArray⟩]);have co:=Ep hk.st hh (by omega) 7 av a (hv.below hb);obtain⟨AB,mB,ebv,hmB,hrB⟩:=hv;obtain⟨LB,eLB⟩:=Ak (a.length);rw[<-eLB] at ebv;subst ebv;obtain⟨xr,exr⟩:∃x,x=AN (ksOf ss) 7 a:=⟨_,rfl⟩;rw[<-exr] at co;rw[<-exr] at ho;rw[ho] at co;clear ho;have HK:=I hk;have HOC:=I hoc;clear h hc hh hmB hrB hb hk hoc eLB exr;go_enter Tryz.func28,Tryz.ntmps28
 go_wp2_with (first
  |(go_at_call 65;refine Calls.mono co ?_;rintro e w6 ⟨v6,es6,s6,rfl,hs6,hk6⟩;clear co;have hz6:=hk6.blk HCL.o HOC.o.no;replace HCL:=I hz6;replace HK:=I (HK.o.trans hk6);obtain⟨A6,m6,ev6,hm6,hr6⟩:=hs6;subst ev6;have HR6:=I hr6.rd;clear hm6 hr6 hk6 hz6 HOC)
  |fail)
 go_ret;exact⟨_,_,rfl,HK.o⟩
theorem ZX {x:Nat} {ss a:Nm.L} {cl:Rg.Pr} {av:Value} {now:Int} (h:KS w B p es s n i c) (hc:c<900000) (hh:Hdl es s x (ksOf ss)) (h0:0<=now) (h9:now<=1073741824) (hv:SlN (KSO p es s) w av a) (ho:(AN (ksOf ss) 7 a).2=0) (hd:anD (AN (ksOf ss) 7 a).1=none) :
  Calls Tryz.prog 28 #[.pointer (some ⟨x,0,none⟩),av,prV cl,.int .i64 now] w (AutP w B p es s n i (c+1) 2):=by
 have hb:Below w.heap.size w (w.alloc (.cells #[.string ⟨cl.1.toArray⟩,.string ⟨cl.2.toArray⟩] 25)):=Ah.alloc Ag _;have hk:=Kn.start h hb;have hoc:=h.offs (Nat.le_refl w.heap.size);have HCL:=I (Blk.new w 25 #[.string ⟨cl.1.toArray⟩,.string ⟨cl.2.toArray⟩]);have co:=Ep hk.st hh (by omega) 7 av a (hv.below hb);obtain⟨AB,mB,ebv,hmB,hrB⟩:=hv;obtain⟨LB,eLB⟩:=Ak (a.length);rw[<-eLB] at ebv;subst ebv;obtain⟨xr,exr⟩:∃x,x=AN (ksOf ss) 7 a:=⟨_,rfl⟩;rw[<-exr] at co;rw[<-exr] at ho hd;rw[ho] at co;have CD:=I (fun(A:Option Addr) (c0:Nat) (w1:World) (hr:Rd w1 w1.heap.size A (bvs xr.1))=>Mc.Dc A xr.1 c0 w1 hr);rw[show Ms.anG xr.1=Ms.an0 from by unfold Ms.anG;rw[hd];rfl,show Ms.anI xr.1=2 by unfold Ms.anI;rw[hd];rfl] at CD;rw[show(anC (Ms.an0)).toArray=#[.string ⟨(Ms.an0).c.1.toArray⟩,.string ⟨(Ms.an0).c.2.toArray⟩,.int .i64 (Ms.an0).t,.int .i64 (Ms.an0).q] from rfl] at CD;clear ho hd;have HK:=I hk;have HOC:=I hoc;clear h hc hh hmB hrB hb hk hoc eLB exr;go_enter Tryz.func28,Tryz.ntmps28
 go_wp2_with (first
  |(go_at_call 65;refine Calls.mono co ?_;rintro e w6 ⟨v6,es6,s6,rfl,hs6,hk6⟩;clear co;have hz6:=hk6.blk HCL.o HOC.o.no;replace HCL:=I hz6;replace HK:=I (HK.o.trans hk6);obtain⟨A6,m6,ev6,hm6,hr6⟩:=hs6;subst ev6;have HR6:=I hr6.rd;clear hm6 hr6 hk6 hz6 HOC)
  |(go_at_call 67;refine Aj (CD.o _ _ _ HR6.o) ?_;rintro w9 hb;clear CD HR6;replace HCL:=I (HCL.o.below hb);replace HK:=I (HK.o.below hb);have kc0:w9.cell? ⟨w.heap.size,0,none⟩=some (.string ⟨cl.1.toArray⟩):=HCL.o.cell 0;have kc1:w9.cell? ⟨w.heap.size,1,none⟩=some (.string ⟨cl.2.toArray⟩):=HCL.o.cell 1;have hlt:=HCL.o.lt;clear hb)
  |fail)
 go_ret;exact⟨_,_,rfl,HK.o.alloc _⟩
theorem ZY {x:Nat} {ss a:Nm.L} {cl:Rg.Pr} {av:Value} {now:Int} (h:KS w B p es s n i c) (hc:c<900000) (hh:Hdl es s x (ksOf ss)) (h0:0<=now) (h9:now<=1073741824) (hv:SlN (KSO p es s) w av a) (ho:(AN (ksOf ss) 7 a).2=0) {xa:An} (hd:anD (AN (ksOf ss) 7 a).1=some xa) (hne:xa.c≠cl) :
  Calls Tryz.prog 28 #[.pointer (some ⟨x,0,none⟩),av,prV cl,.int .i64 now] w (AutP w B p es s n i (c+1) 9):=by
 have hb:Below w.heap.size w (w.alloc (.cells #[.string ⟨cl.1.toArray⟩,.string ⟨cl.2.toArray⟩] 25)):=Ah.alloc Ag _;have hk:=Kn.start h hb;have hoc:=h.offs (Nat.le_refl w.heap.size);have HCL:=I (Blk.new w 25 #[.string ⟨cl.1.toArray⟩,.string ⟨cl.2.toArray⟩]);have co:=Ep hk.st hh (by omega) 7 av a (hv.below hb);obtain⟨AB,mB,ebv,hmB,hrB⟩:=hv;obtain⟨LB,eLB⟩:=Ak (a.length);rw[<-eLB] at ebv;subst ebv;obtain⟨xr,exr⟩:∃x,x=AN (ksOf ss) 7 a:=⟨_,rfl⟩;rw[<-exr] at co;rw[<-exr] at ho hd;rw[ho] at co;have CD:=I (fun(A:Option Addr) (c0:Nat) (w1:World) (hr:Rd w1 w1.heap.size A (bvs xr.1))=>Mc.Dc A xr.1 c0 w1 hr);rw[show Ms.anG xr.1=xa from by unfold Ms.anG;rw[hd];rfl,show Ms.anI xr.1=0 by unfold Ms.anI;rw[hd];rfl] at CD;rw[show(anC (xa)).toArray=#[.string ⟨(xa).c.1.toArray⟩,.string ⟨(xa).c.2.toArray⟩,.int .i64 (xa).t,.int .i64 (xa).q] from rfl] at CD;have q1:=Cx hne;clear ho hd hne;have HK:=I hk;have HOC:=I hoc;clear h hc hh hmB hrB hb hk hoc eLB exr;go_enter Tryz.func28,Tryz.ntmps28
 go_wp2_with (first
  |(go_at_call 65;refine Calls.mono co ?_;rintro e w6 ⟨v6,es6,s6,rfl,hs6,hk6⟩;clear co;have hz6:=hk6.blk HCL.o HOC.o.no;replace HCL:=I hz6;replace HK:=I (HK.o.trans hk6);obtain⟨A6,m6,ev6,hm6,hr6⟩:=hs6;subst ev6;have HR6:=I hr6.rd;clear hm6 hr6 hk6 hz6 HOC)
  |(go_at_call 67;refine Aj (CD.o _ _ _ HR6.o) ?_;rintro w9 hb;clear CD HR6;replace HCL:=I (HCL.o.below hb);replace HK:=I (HK.o.below hb);have kc0:w9.cell? ⟨w.heap.size,0,none⟩=some (.string ⟨cl.1.toArray⟩):=HCL.o.cell 0;have kc1:w9.cell? ⟨w.heap.size,1,none⟩=some (.string ⟨cl.2.toArray⟩):=HCL.o.cell 1;have hlt:=HCL.o.lt;clear hb)
  |fail)
 go_ret;exact⟨_,_,rfl,HK.o.alloc _⟩
theorem ZZ {x:Nat} {ss a:Nm.L} {cl:Rg.Pr} {av:Value} {now:Int} (h:KS w B p es s n i c) (hc:c<900000) (hh:Hdl es s x (ksOf ss)) (h0:0<=now) (h9:now<=1073741824) (hv:SlN (KSO p es s) w av a) (ho:(AN (ksOf ss) 7 a).2=0) {xa:An} (hd:anD (AN (ksOf ss) 7 a).1=some xa) (hne:xa.c=cl) (ht:xa.t<now - 5) :
  Calls Tryz.prog 28 #[.pointer (some ⟨x,0,none⟩),av,prV cl,.int .i64 now] w (AutP w B p es s n i (c+1) 8):=by
 have hb:Below w.heap.size w (w.alloc (.cells #[.string ⟨cl.1.toArray⟩,.string ⟨cl.2.toArray⟩] 25)):=Ah.alloc Ag _;have hk:=Kn.start h hb;have hoc:=h.offs (Nat.le_refl w.heap.size);have HCL:=I (Blk.new w 25 #[.string ⟨cl.1.toArray⟩,.string ⟨cl.2.toArray⟩]);have co:=Ep hk.st hh (by omega) 7 av a (hv.below hb);obtain⟨AB,mB,ebv,hmB,hrB⟩:=hv;obtain⟨LB,eLB⟩:=Ak (a.length);rw[<-eLB] at ebv;subst ebv;obtain⟨xr,exr⟩:∃x,x=AN (ksOf ss) 7 a:=⟨_,rfl⟩;rw[<-exr] at co;rw[<-exr] at ho hd;rw[ho] at co;have CD:=I (fun(A:Option Addr) (c0:Nat) (w1:World) (hr:Rd w1 w1.heap.size A (bvs xr.1))=>Mc.Dc A xr.1 c0 w1 hr);rw[show Ms.anG xr.1=xa from by unfold Ms.anG;rw[hd];rfl,show Ms.anI xr.1=0 by unfold Ms.anI;rw[hd];rfl] at CD;rw[show(anC (xa)).toArray=#[.string ⟨(xa).c.1.toArray⟩,.string ⟨(xa).c.2.toArray⟩,.int .i64 (xa).t,.int .i64 (xa).q] from rfl] at CD;have q1:=BG hne;have d1:decide (xa.t<now - 5)=true:=decide_eq_true ht;clear ho hd hne ht;have HK:=I hk;have HOC:=I hoc;clear h hc hh hmB hrB hb hk hoc eLB exr;go_enter Tryz.func28,Tryz.ntmps28
 go_wp2_with (first
  |(go_at_call 65;refine Calls.mono co ?_;rintro e w6 ⟨v6,es6,s6,rfl,hs6,hk6⟩;clear co;have hz6:=hk6.blk HCL.o HOC.o.no;replace HCL:=I hz6;replace HK:=I (HK.o.trans hk6);obtain⟨A6,m6,ev6,hm6,hr6⟩:=hs6;subst ev6;have HR6:=I hr6.rd;clear hm6 hr6 hk6 hz6 HOC)
  |(go_at_call 67;refine Aj (CD.o _ _ _ HR6.o) ?_;rintro w9 hb;clear CD HR6;replace HCL:=I (HCL.o.below hb);replace HK:=I (HK.o.below hb);have kc0:w9.cell? ⟨w.heap.size,0,none⟩=some (.string ⟨cl.1.toArray⟩):=HCL.o.cell 0;have kc1:w9.cell? ⟨w.heap.size,1,none⟩=some (.string ⟨cl.2.toArray⟩):=HCL.o.cell 1;have hlt:=HCL.o.lt;clear hb)
  |fail)
 go_ret;exact⟨_,_,rfl,HK.o.alloc _⟩
theorem aa {x:Nat} {ss a:Nm.L} {cl:Rg.Pr} {av:Value} {now:Int} (h:KS w B p es s n i c) (hc:c<900000) (hh:Hdl es s x (ksOf ss)) (h0:0<=now) (h9:now<=1073741824) (hv:SlN (KSO p es s) w av a) (ho:(AN (ksOf ss) 7 a).2=0) {xa:An} (hd:anD (AN (ksOf ss) 7 a).1=some xa) (hne:xa.c=cl) (ht:¬xa.t<now - 5) (ht2:now+5<xa.t) :
  Calls Tryz.prog 28 #[.pointer (some ⟨x,0,none⟩),av,prV cl,.int .i64 now] w (AutP w B p es s n i (c+1) 8):=by
 have hb:Below w.heap.size w (w.alloc (.cells #[.string ⟨cl.1.toArray⟩,.string ⟨cl.2.toArray⟩] 25)):=Ah.alloc Ag _;have hk:=Kn.start h hb;have hoc:=h.offs (Nat.le_refl w.heap.size);have HCL:=I (Blk.new w 25 #[.string ⟨cl.1.toArray⟩,.string ⟨cl.2.toArray⟩]);have co:=Ep hk.st hh (by omega) 7 av a (hv.below hb);obtain⟨AB,mB,ebv,hmB,hrB⟩:=hv;obtain⟨LB,eLB⟩:=Ak (a.length);rw[<-eLB] at ebv;subst ebv;obtain⟨xr,exr⟩:∃x,x=AN (ksOf ss) 7 a:=⟨_,rfl⟩;rw[<-exr] at co;rw[<-exr] at ho hd;rw[ho] at co;have CD:=I (fun(A:Option Addr) (c0:Nat) (w1:World) (hr:Rd w1 w1.heap.size A (bvs xr.1))=>Mc.Dc A xr.1 c0 w1 hr);rw[show Ms.anG xr.1=xa from by unfold Ms.anG;rw[hd];rfl,show Ms.anI xr.1=0 by unfold Ms.anI;rw[hd];rfl] at CD;rw[show(anC (xa)).toArray=#[.string ⟨(xa).c.1.toArray⟩,.string ⟨(xa).c.2.toArray⟩,.int .i64 (xa).t,.int .i64 (xa).q] from rfl] at CD;have q1:=BG hne;have d1:decide (xa.t<now - 5)=false:=decide_eq_false ht;have d2:decide (now+5<xa.t)=true:=decide_eq_true ht2;clear ho hd hne ht ht2;have HK:=I hk;have HOC:=I hoc;clear h hc hh hmB hrB hb hk hoc eLB exr;go_enter Tryz.func28,Tryz.ntmps28
 go_wp2_with (first
  |(go_at_call 65;refine Calls.mono co ?_;rintro e w6 ⟨v6,es6,s6,rfl,hs6,hk6⟩;clear co;have hz6:=hk6.blk HCL.o HOC.o.no;replace HCL:=I hz6;replace HK:=I (HK.o.trans hk6);obtain⟨A6,m6,ev6,hm6,hr6⟩:=hs6;subst ev6;have HR6:=I hr6.rd;clear hm6 hr6 hk6 hz6 HOC)
  |(go_at_call 67;refine Aj (CD.o _ _ _ HR6.o) ?_;rintro w9 hb;clear CD HR6;replace HCL:=I (HCL.o.below hb);replace HK:=I (HK.o.below hb);have kc0:w9.cell? ⟨w.heap.size,0,none⟩=some (.string ⟨cl.1.toArray⟩):=HCL.o.cell 0;have kc1:w9.cell? ⟨w.heap.size,1,none⟩=some (.string ⟨cl.2.toArray⟩):=HCL.o.cell 1;have hlt:=HCL.o.lt;clear hb)
  |fail)
 go_ret;exact⟨_,_,rfl,HK.o.alloc _⟩
theorem ab {x:Nat} {ss a:Nm.L} {cl:Rg.Pr} {av:Value} {now:Int} (h:KS w B p es s n i c) (hc:c<900000) (hh:Hdl es s x (ksOf ss)) (h0:0<=now) (h9:now<=1073741824) (hv:SlN (KSO p es s) w av a) (ho:(AN (ksOf ss) 7 a).2=0) {xa:An} (hd:anD (AN (ksOf ss) 7 a).1=some xa) (hne:xa.c=cl) (ht:¬xa.t<now - 5) (ht2:¬now+5<xa.t) :
  Calls Tryz.prog 28 #[.pointer (some ⟨x,0,none⟩),av,prV cl,.int .i64 now] w (AutP w B p es s n i (c+1) 0):=by
 have hb:Below w.heap.size w (w.alloc (.cells #[.string ⟨cl.1.toArray⟩,.string ⟨cl.2.toArray⟩] 25)):=Ah.alloc Ag _;have hk:=Kn.start h hb;have hoc:=h.offs (Nat.le_refl w.heap.size);have HCL:=I (Blk.new w 25 #[.string ⟨cl.1.toArray⟩,.string ⟨cl.2.toArray⟩]);have co:=Ep hk.st hh (by omega) 7 av a (hv.below hb);obtain⟨AB,mB,ebv,hmB,hrB⟩:=hv;obtain⟨LB,eLB⟩:=Ak (a.length);rw[<-eLB] at ebv;subst ebv;obtain⟨xr,exr⟩:∃x,x=AN (ksOf ss) 7 a:=⟨_,rfl⟩;rw[<-exr] at co;rw[<-exr] at ho hd;rw[ho] at co;have CD:=I (fun(A:Option Addr) (c0:Nat) (w1:World) (hr:Rd w1 w1.heap.size A (bvs xr.1))=>Mc.Dc A xr.1 c0 w1 hr);rw[show Ms.anG xr.1=xa from by unfold Ms.anG;rw[hd];rfl,show Ms.anI xr.1=0 by unfold Ms.anI;rw[hd];rfl] at CD;rw[show(anC (xa)).toArray=#[.string ⟨(xa).c.1.toArray⟩,.string ⟨(xa).c.2.toArray⟩,.int .i64 (xa).t,.int .i64 (xa).q] from rfl] at CD;have q1:=BG hne;have d1:decide (xa.t<now - 5)=false:=decide_eq_false ht;have d2:decide (now+5<xa.t)=false:=decide_eq_false ht2;clear ho hd hne ht ht2;have HK:=I hk;have HOC:=I hoc;clear h hc hh hmB hrB hb hk hoc eLB exr;go_enter Tryz.func28,Tryz.ntmps28
 go_wp2_with (first
  |(go_at_call 65;refine Calls.mono co ?_;rintro e w6 ⟨v6,es6,s6,rfl,hs6,hk6⟩;clear co;have hz6:=hk6.blk HCL.o HOC.o.no;replace HCL:=I hz6;replace HK:=I (HK.o.trans hk6);obtain⟨A6,m6,ev6,hm6,hr6⟩:=hs6;subst ev6;have HR6:=I hr6.rd;clear hm6 hr6 hk6 hz6 HOC)
  |(go_at_call 67;refine Aj (CD.o _ _ _ HR6.o) ?_;rintro w9 hb;clear CD HR6;replace HCL:=I (HCL.o.below hb);replace HK:=I (HK.o.below hb);have kc0:w9.cell? ⟨w.heap.size,0,none⟩=some (.string ⟨cl.1.toArray⟩):=HCL.o.cell 0;have kc1:w9.cell? ⟨w.heap.size,1,none⟩=some (.string ⟨cl.2.toArray⟩):=HCL.o.cell 1;have hlt:=HCL.o.lt;clear hb)
  |fail)
 go_ret;exact⟨_,_,rfl,HK.o.alloc _⟩
theorem Vm {x:Nat} {ss a:Nm.L} {cl:Rg.Pr} {av:Value} {now:Int} (h:KS w B p es s n i c) (hc:c<900000) (hh:Hdl es s x (ksOf ss)) (h0:0<=now) (h9:now<=1073741824) (hv:SlN (KSO p es s) w av a) :
  Calls Tryz.prog 28 #[.pointer (some ⟨x,0,none⟩),av,prV cl,.int .i64 now] w (AutP w B p es s n i (c+1) (autL ss a cl now)):=by
 rcases Mo (ks:=ksOf ss) (u:=7) (l:=a) (by decide) (by decide) with ho | ho
 ·cases hd:anD (AN (ksOf ss) 7 a).1 with
  |none=>
   have e:autL ss a cl now=2:=by unfold autL;rw[if_pos ho,hd]
   rw[e];exact ZX h hc hh h0 h9 hv ho hd
  |some xa=>
   have e:autL ss a cl now=if xa.c=cl then (if xa.t<now - 5\/now+5<xa.t then 8 else 0) else 9:=by unfold autL;rw[if_pos ho,hd]
   rw[e]
   by_cases hne:xa.c=cl
   ·rw[if_pos hne]
    by_cases ht:xa.t<now - 5
    ·rw[if_pos (.inl ht)];exact ZZ h hc hh h0 h9 hv ho hd hne ht
    ·by_cases ht2:now+5<xa.t
     ·rw[if_pos (.inr ht2)];exact aa h hc hh h0 h9 hv ho hd hne ht ht2
     ·rw[if_neg (by omega)];exact ab h hc hh h0 h9 hv ho hd hne ht ht2
   ·rw[if_neg hne];exact ZY h hc hh h0 h9 hv ho hd hne
 ·have e:autL ss a cl now=3:=by unfold autL;rw[if_neg (by omega)]
  rw[e];exact ZW h hc hh h0 h9 hv ho
end
end Kd
namespace Kd
open Go.RowKit Af Se
open Rg (It Ent Ring RO its Ad Bz Bw)
open Ms (Pt Re Tk Tg pSm ptC)
open Nm (krb strs)
open Rt (Tp Sm nxS nxB WQ)
open Tr (insL)
theorem To {l:List It} {q:Rg.Pr} (h:Bz l q=none):hasL l q=false:=by unfold hasL;rw[h];rfl
theorem Tq {l:List It} {q:Rg.Pr} {j:Nat} (h:Bz l q=some j):hasL l q=true:=by unfold hasL;rw[h];rfl
section
variable {w:World} {B:Nat} {p:KP} {es:List Ent} {s:Option Ss} {n i c:Nat}
theorem ad {q:Rg.Pr} (h:KD w B p es n i) (hl:es.length<=1000) (hR:p.R.length<=1000) (hq:q.1.length<=1000) (hT:Sm p.T) (hx:q.1=p.R) {j:Nat} {x:Ent} (hf:Bz (its es) q=some j) (hj:es[j]? = some x) :
  Calls Tryz.prog 29 #[.pointer (some ⟨p.k,0,none⟩),prV q] w fun e w'=>e=.returned (.tuple #[.agg (hoA q (some ⟨x.b,0,none⟩) (x.it.n:Int)),.int .i64 0])/\Below w.heap.size w w':=by
 obtain⟨W,eW⟩:=Ak ((w.alloc (.cells #[.string ⟨q.1.toArray⟩,.string ⟨q.2.toArray⟩] 25)).alloc (.cells #[.string ⟨#[]⟩,.string ⟨#[]⟩,.pointer none,.int .i64 0] 98));have hb:Below w.heap.size w W:=eW▸(Ah.alloc Ag _).alloc (by simp) _;have HQ:=I (show Blk W w.heap.size 25 #[.string ⟨q.1.toArray⟩,.string ⟨q.2.toArray⟩] from eW▸(Blk.new w _ _).alloc _);have HO:=I (show Blk W (w.heap.size+1) 98 #[.string ⟨#[]⟩,.string ⟨#[]⟩,.pointer none,.int .i64 0] by have:=Blk.new (w.alloc (.cells #[.string ⟨q.1.toArray⟩,.string ⟨q.2.toArray⟩] 25)) 98 #[.string ⟨#[]⟩,.string ⟨#[]⟩,.pointer none,.int .i64 0];simp only[World.size_alloc] at this;exact eW▸this);have HB:=I hb;have HK:=I (h.below hb);have kk0:W.cell? ⟨p.k,0,none⟩=some (.string ⟨p.R.toArray⟩):=HK.o.blk.cell 0;have kq0:W.cell? ⟨w.heap.size,0,none⟩=some (.string ⟨q.1.toArray⟩):=HQ.o.cell 0;have t1:(q.1==p.R)=true:=by rw[hx];simp
 have CF:=I (fun(w1:World) (h1:KD w1 B p es n i)=>Ld h1 hl hf hj);clear hf hj hx;clear h hl hR hq hT hb;go_enter Tryz.func29,Tryz.ntmps29
 go_upto_region 1 with fail
 rw[<-eW];clear eW
 go_quiet (fail)
 obtain⟨W1,eW1⟩:=Ak (W.drewN nq);replace HQ:=I (show Blk W1 _ _ _ from eW1▸HQ.o.drewN nq);replace HO:=I (show Blk W1 _ _ _ from eW1▸HO.o.drewN nq);replace HB:=I (show Below w.heap.size w W1 from eW1▸below_drewN HB.o nq);replace HK:=I (show KD W1 B p es n i from eW1▸HK.o.below (below_drewN Ah nq));rw[<-eW1];clear eW1 kk0 kq0;have kq0:W1.cell? ⟨w.heap.size,0,none⟩=some (.string ⟨q.1.toArray⟩):=HQ.o.cell 0;have kq1:W1.cell? ⟨w.heap.size,1,none⟩=some (.string ⟨q.2.toArray⟩):=HQ.o.cell 1
 go_upto_region 3 with(first
  |(go_at_call 68;refine Aj (CF.o _ HK.o) ?_;rintro w2 hb;clear CF;(try clear kq0 kq1);replace HQ:=I (HQ.o.below hb);replace HO:=I (HO.o.below hb);replace HB:=HB.t hb;replace HK:=I (HK.o.below hb);have ko0:w2.cell? ⟨w.heap.size+1,0,none⟩=some (.string ⟨#[]⟩):=HO.o.cell 0;have ko1:w2.cell? ⟨w.heap.size+1,1,none⟩=some (.string ⟨#[]⟩):=HO.o.cell 1;have ko2:w2.cell? ⟨w.heap.size+1,2,none⟩=some (.pointer none):=HO.o.cell 2;have ko3:w2.cell? ⟨w.heap.size+1,3,none⟩=some (.int .i64 0):=HO.o.cell 3;have fz:=HO.o.frozen;have hlt:=HO.o.lt;clear hb)
  |fail)
 obtain⟨W5,eW5⟩:=Ak (w2.alloc (.cells #[.string ⟨(q).1.toArray⟩,.string ⟨(q).2.toArray⟩,.pointer (some ⟨x.b,0,none⟩),.int .i64 (x.it.n:Int)] 98));have hn:Blk W5 w2.heap.size 98 #[.string ⟨(q).1.toArray⟩,.string ⟨(q).2.toArray⟩,.pointer (some ⟨x.b,0,none⟩),.int .i64 (x.it.n:Int)]:=eW5▸Blk.new _ _ _;replace HO:=I (show Blk W5 _ _ _ from eW5▸HO.o.alloc _);replace HB:=I (show Below w.heap.size w W5 from eW5▸HB.o.alloc HB.o.size _);rw[<-eW5];clear eW5 ko0 ko1 ko2 ko3 fz hlt;obtain⟨PN,ePN⟩:=Ak (w2.heap.size);rw[<-ePN] at hn⊢;clear ePN;have ko0:W5.cell? ⟨w.heap.size+1,0,none⟩=some (.string ⟨#[]⟩):=HO.o.cell 0;have ko1:W5.cell? ⟨w.heap.size+1,1,none⟩=some (.string ⟨#[]⟩):=HO.o.cell 1;have ko2:W5.cell? ⟨w.heap.size+1,2,none⟩=some (.pointer none):=HO.o.cell 2;have ko3:W5.cell? ⟨w.heap.size+1,3,none⟩=some (.int .i64 0):=HO.o.cell 3;have fz:=HO.o.frozen;have hlt:=HO.o.lt;have kn0:W5.cell? ⟨PN,0,none⟩=some (.string ⟨(q).1.toArray⟩):=hn.cell 0;have kn1:W5.cell? ⟨PN,1,none⟩=some (.string ⟨(q).2.toArray⟩):=hn.cell 1;have kn2:W5.cell? ⟨PN,2,none⟩=some (.pointer (some ⟨x.b,0,none⟩)):=hn.cell 2;have kn3:W5.cell? ⟨PN,3,none⟩=some (.int .i64 (x.it.n:Int)):=hn.cell 3;clear hn
 go_wp2
 refine bodyPost_ret (v:=.tuple #[.agg #[.string ⟨(q).1.toArray⟩,.string ⟨(q).2.toArray⟩,.pointer (some ⟨x.b,0,none⟩),.int .i64 (x.it.n:Int)],.int .i64 0]) ?_ ?_ ?_
 ·exact Ad (v:=.agg #[.string ⟨(q).1.toArray⟩,.string ⟨(q).2.toArray⟩,.pointer (some ⟨x.b,0,none⟩),.int .i64 (x.it.n:Int)]) 4 5 98 ⟨w.heap.size+1,0,none⟩ Tryz.results29 rfl (Wh.Al (set4 HO.o (.string ⟨(q).1.toArray⟩) (.string ⟨(q).2.toArray⟩) (.pointer (some ⟨x.b,0,none⟩)) (.int .i64 (x.it.n:Int))) Tryz.underlying98 (by rfl) Lc) rfl
 ·rfl
 ·exact⟨rfl,OP HB.o (by omega) _ _ _ _⟩
theorem ae {q:Rg.Pr} (h:KD w B p es n i) (hl:es.length<=1000) (hR:p.R.length<=1000) (hq:q.1.length<=1000) (hT:Sm p.T) (hx:q.1=p.R) (hf:Bz (its es) q=none) :
  Calls Tryz.prog 29 #[.pointer (some ⟨p.k,0,none⟩),prV q] w fun e w'=>e=.returned (.tuple #[.agg (hoA ([],[]) none 0),.int .i64 6])/\Below w.heap.size w w':=by
 obtain⟨W,eW⟩:=Ak ((w.alloc (.cells #[.string ⟨q.1.toArray⟩,.string ⟨q.2.toArray⟩] 25)).alloc (.cells #[.string ⟨#[]⟩,.string ⟨#[]⟩,.pointer none,.int .i64 0] 98));have hb:Below w.heap.size w W:=eW▸(Ah.alloc Ag _).alloc (by simp) _;have HQ:=I (show Blk W w.heap.size 25 #[.string ⟨q.1.toArray⟩,.string ⟨q.2.toArray⟩] from eW▸(Blk.new w _ _).alloc _);have HO:=I (show Blk W (w.heap.size+1) 98 #[.string ⟨#[]⟩,.string ⟨#[]⟩,.pointer none,.int .i64 0] by have:=Blk.new (w.alloc (.cells #[.string ⟨q.1.toArray⟩,.string ⟨q.2.toArray⟩] 25)) 98 #[.string ⟨#[]⟩,.string ⟨#[]⟩,.pointer none,.int .i64 0];simp only[World.size_alloc] at this;exact eW▸this);have HB:=I hb;have HK:=I (h.below hb);have kk0:W.cell? ⟨p.k,0,none⟩=some (.string ⟨p.R.toArray⟩):=HK.o.blk.cell 0;have kq0:W.cell? ⟨w.heap.size,0,none⟩=some (.string ⟨q.1.toArray⟩):=HQ.o.cell 0;have t1:(q.1==p.R)=true:=by rw[hx];simp
 have CF:=I (fun(w1:World) (h1:KD w1 B p es n i)=>Jy h1 hl hf);clear hf hx;clear h hl hR hq hT hb;go_enter Tryz.func29,Tryz.ntmps29
 go_upto_region 1 with fail
 rw[<-eW];clear eW
 go_quiet (fail)
 obtain⟨W1,eW1⟩:=Ak (W.drewN nq);replace HQ:=I (show Blk W1 _ _ _ from eW1▸HQ.o.drewN nq);replace HO:=I (show Blk W1 _ _ _ from eW1▸HO.o.drewN nq);replace HB:=I (show Below w.heap.size w W1 from eW1▸below_drewN HB.o nq);replace HK:=I (show KD W1 B p es n i from eW1▸HK.o.below (below_drewN Ah nq));rw[<-eW1];clear eW1 kk0 kq0;have kq0:W1.cell? ⟨w.heap.size,0,none⟩=some (.string ⟨q.1.toArray⟩):=HQ.o.cell 0;have kq1:W1.cell? ⟨w.heap.size,1,none⟩=some (.string ⟨q.2.toArray⟩):=HQ.o.cell 1
 go_upto_region 3 with(first
  |(go_at_call 68;refine Aj (CF.o _ HK.o) ?_;rintro w2 hb;clear CF;(try clear kq0 kq1);replace HQ:=I (HQ.o.below hb);replace HO:=I (HO.o.below hb);replace HB:=HB.t hb;replace HK:=I (HK.o.below hb);have ko0:w2.cell? ⟨w.heap.size+1,0,none⟩=some (.string ⟨#[]⟩):=HO.o.cell 0;have ko1:w2.cell? ⟨w.heap.size+1,1,none⟩=some (.string ⟨#[]⟩):=HO.o.cell 1;have ko2:w2.cell? ⟨w.heap.size+1,2,none⟩=some (.pointer none):=HO.o.cell 2;have ko3:w2.cell? ⟨w.heap.size+1,3,none⟩=some (.int .i64 0):=HO.o.cell 3;have fz:=HO.o.frozen;have hlt:=HO.o.lt;clear hb)
  |fail)
 obtain⟨W5,eW5⟩:=Ak (w2.alloc (.cells #[.string ⟨#[]⟩,.string ⟨#[]⟩,.pointer none,.int .i64 0] 98));have hn:Blk W5 w2.heap.size 98 #[.string ⟨#[]⟩,.string ⟨#[]⟩,.pointer none,.int .i64 0]:=eW5▸Blk.new _ _ _;replace HO:=I (show Blk W5 _ _ _ from eW5▸HO.o.alloc _);replace HB:=I (show Below w.heap.size w W5 from eW5▸HB.o.alloc HB.o.size _);rw[<-eW5];clear eW5 ko0 ko1 ko2 ko3 fz hlt;obtain⟨PN,ePN⟩:=Ak (w2.heap.size);rw[<-ePN] at hn⊢;clear ePN;have ko0:W5.cell? ⟨w.heap.size+1,0,none⟩=some (.string ⟨#[]⟩):=HO.o.cell 0;have ko1:W5.cell? ⟨w.heap.size+1,1,none⟩=some (.string ⟨#[]⟩):=HO.o.cell 1;have ko2:W5.cell? ⟨w.heap.size+1,2,none⟩=some (.pointer none):=HO.o.cell 2;have ko3:W5.cell? ⟨w.heap.size+1,3,none⟩=some (.int .i64 0):=HO.o.cell 3;have fz:=HO.o.frozen;have hlt:=HO.o.lt;clear hn
 go_wp2
 refine bodyPost_ret (v:=.tuple #[.agg #[.string ⟨#[]⟩,.string ⟨#[]⟩,.pointer none,.int .i64 0],.int .i64 6]) ?_ ?_ ?_
 ·exact Ad (v:=.agg #[.string ⟨#[]⟩,.string ⟨#[]⟩,.pointer none,.int .i64 0]) 4 5 98 ⟨w.heap.size+1,0,none⟩ Tryz.results29 rfl (Wh.Al (set4 HO.o (.string ⟨#[]⟩) (.string ⟨#[]⟩) (.pointer none) (.int .i64 0)) Tryz.underlying98 (by rfl) Lc) rfl
 ·rfl
 ·exact⟨rfl,OP HB.o (by omega) _ _ _ _⟩
end
end Kd
end Go.Proofs.YtlchkbpffaclmaaGreat
