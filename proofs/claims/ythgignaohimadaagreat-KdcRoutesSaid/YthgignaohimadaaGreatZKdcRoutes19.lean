import Derived.Test.YthgignaohimadaaGreatZKdcRoutes18
set_option maxHeartbeats 25600000
set_option maxRecDepth 100000
set_option linter.unusedVariables false
set_option linter.unusedSimpArgs false
namespace Go.Proofs.YthgignaohimadaaGreat
namespace Kd
open Go.RowKit Af Se
open Rg (It Ent Ring RO its Ad)
open SeL (Bn Bc)
open Ms (Pt Rp Re ptO rpO pSm reC tkC prC)
theorem Kn.more {w0 w:World} {B:Nat} {p:KP} {es0 es:List Ent} {s0 s:Option Ss} {n i c c':Nat} (h:Kn w0 w B p es0 s0 es s n i c) (D:c<=c'):Kn w0 w B p es0 s0 es s n i c':=⟨h.st.more D,h.eq,h.sq,h.chg,h.nw⟩
def ansK (n:Nat) (k1:Nat->UInt8) (kv:Nat) (sv:Ms.Pr) (P:Pt) (no:Int) (k2:Nat->UInt8) (u:Int):Int×Re:=
 if (ptO P).isSome&&(rpO (rpOf P sv no)).isSome then
  (0,⟨P.c,⟨sv,kv,(Bn k1 2 ((n+1:Nat):Int) ((ptO P).getD [])).1⟩,(Bn k2 u ((n+1+1:Nat):Int) ((rpO (rpOf P sv no)).getD [])).1⟩)
 else (2,Ms.re0)
def AnsR (w:World) (B:Nat) (p:KP) (es:List Ent) (s:Option Ss) (n i c:Nat) (r:Int×Re) (e:Ending) (w':World):Prop:=
 ∃cs es' s',e=.returned (.tuple #[.agg cs,.int .i64 r.1])/\ReN (Out w p es' s') w' cs r.2/\Kn w w' B p es s es' s' (n+2*cnt r.1) (i+cnt r.1) c
theorem Cm {w w':World} {B:Nat} {p:KP} {es es':List Ent} {s s':Option Ss} {n i c:Nat} {r:Int} (h:Kn w w' B p es s es' s' n i c) (D:r≠0):AnsR w B p es s n i c (r,Ms.re0) (.returned (.tuple #[.agg #[.string ⟨#[]⟩,.string ⟨#[]⟩,.string ⟨#[]⟩,.string ⟨#[]⟩,.int .i64 0,.slice none 0 0,.slice none 0 0],.int .i64 r])) w':=by
 refine⟨_,es',s',rfl,re0_n,?_⟩;show Kn w w' B p es s es' s' (n+2*cnt r) (i+cnt r) c;rw[cnt,if_neg D];exact h
theorem GB {w w':World} {l:Nm.L} {e:Ending} (h:Ms.EncR w (some l) e w'):∃v,e=.returned (.tuple #[v,.int .i64 0])/\SlN (fun j=>j<w.heap.size) w' v l/\Below w.heap.size w w':=Qi h
theorem OX {w w':World} {e:Ending} (h:Ms.EncR w none e w'):∃v,e=.returned (.tuple #[v,.int .i64 1])/\Below w.heap.size w w':=by
 obtain⟨v,D,_,E⟩:=Qi h;exact⟨v,D,E⟩
theorem Kn.alloc {w0 w:World} {B:Nat} {p:KP} {es0 es:List Ent} {s0 s:Option Ss} {n i c:Nat} (h:Kn w0 w B p es0 s0 es s n i c) (o:Obj):Kn w0 (w.alloc o) B p es0 s0 es s n i c:=h.below (Ah.alloc Ag _)
theorem SlN.old {w0 w w1:World} {B:Nat} {p:KP} {es0 es:List Ent} {s0 s:Option Ss} {n i c:Nat} {v:Value} {l:Nm.L} (hk:Kn w0 w B p es0 s0 es s n i c) (h:SlN (fun j=>j<w.heap.size) w1 v l):SlN (KSO p es s) w1 v l:=h.mono (fun j _ x=>hk.st.kso_lt x)
theorem far4 {w:World} {g h:Nat} {t:TypeId} {cs:Array Value} (E:Blk w g t cs) (D:h≠g) (a b c d:Value):Blk ((((w.setCell ⟨h,0,none⟩ a).setCell ⟨h,1,none⟩ b).setCell ⟨h,2,none⟩ c).setCell ⟨h,3,none⟩ d) g t cs:=
 Si.Blk.far (Si.Blk.far (Si.Blk.far (Si.Blk.far E _ _ D) _ _ D) _ _ D) _ _ D
theorem set4 {w:World} {g:Nat} {t:TypeId} {z0 F z2 D:Value} (E:Blk w g t #[z0,F,z2,D]) (a b c d:Value):Blk ((((w.setCell ⟨g,0,none⟩ a).setCell ⟨g,1,none⟩ b).setCell ⟨g,2,none⟩ c).setCell ⟨g,3,none⟩ d) g t #[a,b,c,d]:=
 (((E.set 0 a).set 1 b).set 2 c).set 3 d
theorem IF {B:Nat} {a w:World} {g:Nat} (h:Below B a w) (D:B<=g) (x y z u:Value):Below B a ((((w.setCell ⟨g,0,none⟩ x).setCell ⟨g,1,none⟩ y).setCell ⟨g,2,none⟩ z).setCell ⟨g,3,none⟩ u):=
 Si.Az (Si.Az (Si.Az (Si.Az h D _) D _) D _) D _
theorem set7 {w:World} {g:Nat} {t:TypeId} {z0 N z2 M J F E:Value} (D:Blk w g t #[z0,N,z2,M,J,F,E]) (a b c d e f k:Value):Blk (((((((w.setCell ⟨g,0,none⟩ a).setCell ⟨g,1,none⟩ b).setCell ⟨g,2,none⟩ c).setCell ⟨g,3,none⟩ d).setCell ⟨g,4,none⟩ e).setCell ⟨g,5,none⟩ f).setCell ⟨g,6,none⟩ k) g t #[a,b,c,d,e,f,k]:=by
 have h:=((((((D.set 0 a).set 1 b).set 2 c).set 3 d).set 4 e).set 5 f).set 6 k
 simpa only[List.setIfInBounds_toArray,List.set_cons_zero,List.set_cons_succ] using h
theorem Kn.put {w0 w:World} {B:Nat} {p:KP} {es0 es:List Ent} {s0 s:Option Ss} {n i c:Nat} (h:Kn w0 w B p es0 s0 es s n i c) {g:Nat} (E:w0.heap.size<=g) (hk:∀j,KA p es j\/SO s j->j≠g) (o:Nat) (u:Value):Kn w0 (w.setCell ⟨g,o,none⟩ u) B p es0 s0 es s n i c:=
 ⟨h.st.chg (Gz w g o u) hk,h.eq,h.sq,h.chg.trans (Gz w g o u) (fun j D x=>by omega),h.nw⟩
theorem Kn.put7 {w0 w:World} {B:Nat} {p:KP} {es0 es:List Ent} {s0 s:Option Ss} {n i c:Nat} (h:Kn w0 w B p es0 s0 es s n i c) {g:Nat} (D:w0.heap.size<=g) (hk:∀j,KA p es j\/SO s j->j≠g) (a b c' d e f k:Value):Kn w0 (((((((w.setCell ⟨g,0,none⟩ a).setCell ⟨g,1,none⟩ b).setCell ⟨g,2,none⟩ c').setCell ⟨g,3,none⟩ d).setCell ⟨g,4,none⟩ e).setCell ⟨g,5,none⟩ f).setCell ⟨g,6,none⟩ k) B p es0 s0 es s n i c:=
 ((((((h.put D hk 0 a).put D hk 1 b).put D hk 2 c').put D hk 3 d).put D hk 4 e).put D hk 5 f).put D hk 6 k
def Off (p:KP) (es:List Ent) (s:Option Ss) (g:Nat):Prop:=∀j,KA p es j\/SO s j->j≠g
theorem KS.offs {w:World} {B:Nat} {p:KP} {es:List Ent} {s:Option Ss} {n i c:Nat} (h:KS w B p es s n i c) {g:Nat} (E:w.heap.size<=g):Off p es s g:=fun j D e=>by
 subst e;rcases D with D | D
 ·have:=h.k.ka_lt D;omega
 ·have:=h.kso_lt (p:=p) (es:=es) (.inr D);omega
theorem Kn.off {w0 w:World} {B:Nat} {p:KP} {es0 es:List Ent} {s0 s:Option Ss} {n i c:Nat} (h:Kn w0 w B p es0 s0 es s n i c) {g:Nat} (E:Off p es0 s0 g) (F:g<w0.heap.size):Off p es s g:=fun j D e=>by
 subst e;rcases D with(D | D) | D
 ·rcases h.nw _ (.inl D) with y | y
  ·rcases y with y | y
   ·exact E _ (.inl (.inl y)) rfl
   ·exact E _ (.inr y) rfl
  ·omega
 ·exact E _ (.inl (.inr D)) rfl
 ·rcases h.nw _ (.inr D) with y | y
  ·rcases y with y | y
   ·exact E _ (.inl (.inl y)) rfl
   ·exact E _ (.inr y) rfl
  ·omega
theorem Off.no {p:KP} {es:List Ent} {s:Option Ss} {g:Nat} (h:Off p es s g):¬KSO p es s g:=fun x=>by
 rcases x with x | x
 ·exact h g (.inl (.inl x)) rfl
 ·exact h g (.inr x) rfl
theorem far7 {w:World} {g h:Nat} {t:TypeId} {cs:Array Value} (E:Blk w g t cs) (D:h≠g) (a b c d e f k:Value):Blk (((((((w.setCell ⟨h,0,none⟩ a).setCell ⟨h,1,none⟩ b).setCell ⟨h,2,none⟩ c).setCell ⟨h,3,none⟩ d).setCell ⟨h,4,none⟩ e).setCell ⟨h,5,none⟩ f).setCell ⟨h,6,none⟩ k) g t cs:=
 Si.Blk.far (Si.Blk.far (Si.Blk.far (Si.Blk.far (Si.Blk.far (Si.Blk.far (Si.Blk.far E _ _ D) _ _ D) _ _ D) _ _ D) _ _ D) _ _ D) _ _ D
def SlX (X:Nat->Prop) (p:KP) (es:List Ent) (s:Option Ss) (w:World) (v:Value) (l:Nm.L):Prop:=SlN (fun j=>KSO p es s j\/X j) w v l
section
variable {X Y:Nat->Prop} {p:KP} {es0 es:List Ent} {s0 s:Option Ss} {w0 w:World} {B n i c:Nat} {v:Value} {l:Nm.L}
theorem SlX.kn (h:SlX X p es0 s0 w0 v l) (hk:Kn w0 w B p es0 s0 es s n i c):SlX X p es s w v l:=
 h.keep hk.chg (fun _ _ x=>.inl x) (fun j D x=>by
  rcases x with x | x
  ·rcases hk.nw j x with y | y
   ·exact .inl y
   ·omega
  ·exact .inr x)
theorem SlX.below {w':World} (h:SlX X p es s w v l) (D:Below w.heap.size w w'):SlX X p es s w' v l:=SlN.below h D
theorem SlX.less (h:SlX X p es s w v l) (D:∀j,Y j->X j):SlX Y p es s w v l:=h.mono (fun j _ x=>x.imp id (D j))
theorem SlX.up (h:SlX X p es s w v l) (g:Nat) (D:w.heap.size<=g):SlX (fun j=>X j\/j=g) p es s w v l:=h.mono (fun j E x=>by
 rcases x with x | x | x
 ·exact .inl x
 ·exact .inr x
 ·omega)
theorem SlX.put (h:SlX X p es s w v l) {g:Nat} (D:X g) (o:Nat) (u:Value):SlX X p es s (w.setCell ⟨g,o,none⟩ u) v l:=h.keep (Gz w g o u) (fun j _ x=>.inr (x▸D)) (fun _ _ x=>x)
theorem SlX.put7 (h:SlX X p es s w v l) {g:Nat} (D:X g) (a b c' d e f k:Value):SlX X p es s (((((((w.setCell ⟨g,0,none⟩ a).setCell ⟨g,1,none⟩ b).setCell ⟨g,2,none⟩ c').setCell ⟨g,3,none⟩ d).setCell ⟨g,4,none⟩ e).setCell ⟨g,5,none⟩ f).setCell ⟨g,6,none⟩ k) v l:=
 ((((((h.put D 0 a).put D 1 b).put D 2 c').put D 3 d).put D 4 e).put D 5 f).put D 6 k
theorem SlX.of_out {a:World} (h:SlN (Out a p es s) w v l) (D:∀j,X j->j<a.heap.size):SlX X p es s w v l:=h.mono (fun j _ x=>by
 rcases x with x | x
 ·exact .inr x
 ·exact .inl (D j x))
theorem SlX.up0 (h:SlN (KSO p es s) w v l) (g:Nat) (D:w.heap.size<=g):SlX (fun j=>j=g) p es s w v l:=h.mono (fun j E x=>by
 rcases x with x | x
 ·exact x
 ·omega)
theorem SlX.kso (h:SlX X p es s w v l):SlN (KSO p es s) w v l:=h.mono (fun j _ x=>.inl x)
theorem SlX.o {a:World} (h:SlX X p es s w v l) (D:∀j,j<a.heap.size->X j):SlN (Out a p es s) w v l:=h.mono (fun j _ x=>by
 rcases x with x | x
 ·exact .inr (D j x)
 ·exact .inl x)
end
abbrev tkZ:Array Value:=#[.string ⟨#[]⟩,.string ⟨#[]⟩,.int .i64 0,.slice none 0 0]
abbrev reZ:Array Value:=#[.string ⟨#[]⟩,.string ⟨#[]⟩,.string ⟨#[]⟩,.string ⟨#[]⟩,.int .i64 0,.slice none 0 0,.slice none 0 0]
end Kd
namespace Kd
open Go.RowKit Af Se
open Rg (It Ent Ring RO DRing DO Ap its)
structure Scn (a:Bool) (w0 w:World) (g:Nat) (p:KP) (es:List Ent) (d:DP):Prop where
 blk:Blk w g 50 #[.pointer (some ⟨p.k,0,none⟩),.pointer (some ⟨d.x,0,none⟩)]
 ks:KS w w0.heap.size p es none 0 0 0
 dk:DK w w0.heap.size d (itX a) 0 0
 e:its es=itX a
 R:p.R=rX a
 T:p.T=tT
 dR:d.R=rX a
 dT:d.T=tT
 ap:∀j,DA d j->¬KA p es j
 gk:Off p es none g
 gd:¬DA d g
 lo:w0.heap.size<=g
 b:Below w0.heap.size w0 w
theorem dM {a:Bool} {G:Nat->Prop} {w0 W w1 Z w3 D:World} {es:List Ent} {j:Nat} {p:KP} {d:DP} (M:(itX a).length<=j)
  (hs:Sc a W w0.heap.size p.r p.v es d.q d.v j G) (b1:Below W.heap.size W w1) (hk:w1.heap.size<=p.k) (hl:w1.heap.size<=p.lo) (hd:KD Z w0.heap.size p es 0 0) (b2:Below w1.heap.size w1 Z) (b3:Below Z.heap.size Z w3)
  (hx:w3.heap.size<=d.x) (bz:d.lo=Z.heap.size) (F:DK D w0.heap.size d (itX a) 0 0) (b4:Below w3.heap.size w3 D) (hb:Below w0.heap.size w0 D) (e1:p.R=rX a) (e2:p.T=tT) (e3:d.R=rX a) (e4:d.T=tT) :
  Scn a w0 (D.alloc (.cells #[.pointer (some ⟨p.k,0,none⟩),.pointer (some ⟨d.x,0,none⟩)] 50)) D.heap.size p es d:=by
 have E:Below D.heap.size D (D.alloc (.cells #[.pointer (some ⟨p.k,0,none⟩),.pointer (some ⟨d.x,0,none⟩)] 50)):=Ah.alloc Ag _;have s1:=b1.size;have s2:=b2.size;have s3:=b3.size;have s4:=b4.size;have s5:=E.size;have s0:=hb.size;have aw:KD D w0.heap.size p es 0 0:=(hd.below b3).below (b4.mono Ag);have J:KS D w0.heap.size p es none 0 0 0:=⟨aw,s0,fun z O=>(by cases O),fun j M=>(by obtain⟨z,O,_⟩:=M;cases O),fun j M=>(by obtain⟨z,O,_⟩:=M;cases O),hs.z⟩;have N:=J.below E;refine⟨Blk.new _ _ _,N,F.below E,?_,e1,e2,e3,e4,fun i hi x=>?_,J.offs Ag,fun x=>?_,s0,hb.trans (E.mono s0)⟩
 ·rw[hs.e,List.take_of_length_le M]
 ·have bx:=hd.ka_lt x
  rcases hi with hi | hi | hi
  ·omega
  ·have bB:=hs.d.own_lt hi
   rcases x with(x | x) | x
   ·omega
   ·exact hs.ap i hi x
   ·have:=x.1;omega
  ·have:=hi.1;omega
 ·have:=F.da_lt x;omega
theorem aY (a:Bool) {j:Nat} {i:It} (h:(itX a)[j]? = some i):(i.p=kr rA rE->i.k=kq 99)/\(¬i.p=kr rA rE->i.k=kq (UInt8.ofNat (10+j))):=by
 cases a with
 |false=>
  match j,h with
  |0,h=>injection h with h;subst h;exact⟨fun h=>absurd h (by decide +kernel),fun _=>congrArg kq (show(10:UInt8)=UInt8.ofNat (10+0) by decide +kernel)⟩
  |1,h=>injection h with h;subst h;exact⟨fun _=>rfl,fun h=>absurd rfl h⟩
  |2,h=>injection h with h;subst h;exact⟨fun h=>absurd h (by decide +kernel),fun _=>congrArg kq (show(12:UInt8)=UInt8.ofNat (10+2) by decide +kernel)⟩
  |3,h=>injection h with h;subst h;exact⟨fun h=>absurd h (by decide +kernel),fun _=>congrArg kq (show(13:UInt8)=UInt8.ofNat (10+3) by decide +kernel)⟩
  |4,h=>injection h with h;subst h;exact⟨fun h=>absurd h (by decide +kernel),fun _=>congrArg kq (show(14:UInt8)=UInt8.ofNat (10+4) by decide +kernel)⟩
  |j+5,h=>simp [itX,itA] at h
 |true=>
  match j,h with
  |0,h=>injection h with h;subst h;exact⟨fun h=>absurd h (by decide +kernel),fun _=>congrArg kq (show(10:UInt8)=UInt8.ofNat (10+0) by decide +kernel)⟩
  |1,h=>injection h with h;subst h;exact⟨fun _=>rfl,fun h=>absurd rfl h⟩
  |2,h=>injection h with h;subst h;exact⟨fun h=>absurd h (by decide +kernel),fun _=>congrArg kq (show(12:UInt8)=UInt8.ofNat (10+2) by decide +kernel)⟩
  |3,h=>injection h with h;subst h;exact⟨fun h=>absurd h (by decide +kernel),fun _=>congrArg kq (show(13:UInt8)=UInt8.ofNat (10+3) by decide +kernel)⟩
  |j+4,h=>simp [itX,itE] at h
theorem Xx {j:Nat} (h:j<5):IntKind.u8.wrap (10+(j:Int))=((UInt8.ofNat (10+j)).toNat:Int):=by
 match j,h with
 |0,_=>rfl
 |1,_=>rfl
 |2,_=>rfl
 |3,_=>rfl
 |4,_=>rfl
end Kd
namespace Kd
open Go.RowKit Af Se
open Rg (It Ent Ring RO its Ad)
open SeL (Bn Bc)
open Ms (Pt Rp Re ptO rpO pSm reC tkC prC)
section
variable {w:World} {B:Nat} {p:KP} {es:List Ent} {s:Option Ss} {n i c:Nat}
theorem dN {x1 x2 kv:Nat} {k1 k2:Nat->UInt8} {sv:Ms.Pr} {P:Pt} {no u:Int} (h:KS w B p es s n i c) (h1:Hdl es s x1 k1) (h2:Hdl es s x2 k2) (hc:c<900000) (hn:n<900000) (hi:i<900000)
  (hk:P.ss.length=32) (ed:pSm P.c) (ec:pSm sv) (fT:P.tr.length<=1000000000) :
  Calls Tryz.prog 32 #[.pointer (some ⟨p.k,0,none⟩),.agg (hoA sv (some ⟨x1,0,none⟩) (kv:Int)),.agg (ptA P),.int .i64 no,.pointer (some ⟨x2,0,none⟩),.int .i64 u] w (AnsR w B p es s n i (c+2) (ansK n k1 kv sv P no k2 u)):=by
 obtain⟨W,eW⟩:=Ak (((w.alloc (.cells (hoA sv (some ⟨x1,0,none⟩) (kv:Int)) 99)).alloc (.cells (ptA P) 40)).alloc (.cells reZ 44));have D:Below w.heap.size w W:=eW▸((Ah.alloc Ag _).alloc (by simp) _).alloc (by simp;omega) _;have HO:=I (show Blk W w.heap.size 99 (hoA sv (some ⟨x1,0,none⟩) (kv:Int)) from eW▸((Blk.new w _ _).alloc _).alloc _);have J:=I (show Blk W (w.heap.size+1) 40 (ptA P) by have:=(Blk.new (w.alloc (.cells (hoA sv (some ⟨x1,0,none⟩) (kv:Int)) 99)) 40 (ptA P)).alloc (.cells reZ 44);simp only[World.size_alloc] at this;exact eW▸this);have F:=I (show Blk W (w.heap.size+1+1) 44 reZ by have:=Blk.new ((w.alloc (.cells (hoA sv (some ⟨x1,0,none⟩) (kv:Int)) 99)).alloc (.cells (ptA P) 40)) 44 reZ;simp only[World.size_alloc] at this;exact eW▸this);have M:=I (Kn.start h D);have gC:=I (show W.heap.size=w.heap.size+3 by rw[eW];simp);have ew:=I (fun(P0:Nat) (hP:w.heap.size<=P0)=>h.offs hP);have eX:=I (CZ hk);have eV:=I (GA hk);have eH:=I (aG (P:=rpOf P sv no) hk);have fj:=I (Qh (P:=rpOf P sv no) hk);have fG:=I (aF (rpOf P sv no));have eF:=I (Xi hk sv P.st P.en no);have eD:=I (fun(w1:World) (g:Nat) (D:Blk w1 g 40 (ptA P))=>KK hk D);have gu:=I (fun(w1:World) (g:Nat) (D:Blk w1 g 40 (ptA P))=>And.intro (pt_0 D) (pt_1 D));have gf:=aJ hk J.o;have fP:=Xh hk J.o;have gv:=HO.c0;have gz:=HO.c1;have C1:=I (fun(w1:World)=>Mc.JZ P w1 hk ed fT);have C2:=I (fun(w1:World)=>Mc.Rw (rpOf P sv no) w1 hk ec);have C3:=I (fun(w1:World)=>Ql sv w1 (Nat.le_trans ec.1 (by decide)) (Nat.le_trans ec.2 (by decide)));have C4:=I (fun(w1:World)=>Ql P.c w1 (Nat.le_trans ed.1 (by decide)) (Nat.le_trans ed.2 (by decide)));have eP:∀b,ptO P=some b->b.length<=2000:=fun b e1=>by unfold ptO Ms.limO at e1;split at e1<;>simp_all
 have eM:∀b,rpO (rpOf P sv no)=some b->b.length<=2000:=fun b e2=>by unfold rpO Ms.limO at e2;split at e2<;>simp_all
 obtain⟨eL,eu⟩:=Ak (ptA P);obtain⟨et,ef⟩:=Ak (rpA (rpOf P sv no));obtain⟨gM,eN⟩:=Ak (keyA P.ss);obtain⟨o1,ff⟩:∃o,o=ptO P:=⟨_,rfl⟩;obtain⟨o2,fK⟩:∃o,o=rpO (rpOf P sv no):=⟨_,rfl⟩;obtain⟨rr,err⟩:∃r,r=ansK n k1 kv sv P no k2 u:=⟨_,rfl⟩;have eg:eL=(Ms.ptC P).toArray:=eu;have ez:et=(Ms.rpC (rpOf P sv no)).toArray:=ef;rw[<-eg,<-ff] at C1;rw[<-ez,<-fK] at C2;rw[<-eu] at eW J eV eD gu⊢;rw[<-eN] at eX eF eD;rw[show rpA ⟨P.ss,sv,P.st,P.en,no⟩=et from ef.symm] at eF;rw[<-ef] at eH fj fG;rw[<-err];have H1:=I h1;have H2:=I h2;have HC:=I hc;have eJ:=I hn;have gA:=I hi;have eT:=I eP;have eS:=I eM;have ER:=I err;have ep:=I ff;have er:=I fK;clear h D h1 h2 hc hn hi hk ed ec fT eu ef eg ez eN eP eM ff fK err;go_enter Tryz.func32,Tryz.ntmps32
 go_upto_region 1 with fail
 rw[<-eW];clear eW
 go_upto_region 4 with(first
  |(refine Wh.Au (by rfl) 36 (.tmp 21) (by rfl) (w.heap.size+1) 2 (by rfl) gM _ (eD.o _ _ J.o) Tryz.underlying36 (by rfl) eX.o ?_;clear eD eX)
  |(refine Mc.AN (by rfl) 172 #[(0,.tmp 22),(1,.tmp 24),(2,.tmp 26),(3,.tmp 28),(4,.tmp 29)] (by rfl) et (by simp only[List.map_toArray,List.map_cons,List.map_nil];exact eF.o) ?_;clear eF)
  |(refine Wh.By (by rfl) 172 (.tmp 14) (.tmp 30) (by rfl) 172 rfl et (by rfl) (by rfl) (by rw[fj.o];rfl) eH.o fG.o ?_;rintro V hV D;have HV:=I hV;replace M:=I (M.o.below D);replace HO:=I (HO.o.below D);replace J:=I (J.o.below D);replace F:=I (F.o.below D);clear D hV gf fP gv gz fj fG)
  |(refine Wh.Au (by rfl) 40 (.tmp 8) (by rfl) (w.heap.size+1) 0 (by rfl) eL _ (Wh.Ae J.o) Tryz.underlying40 (by rfl) eV.o ?_;clear eV)
  |(refine Wh.Au (by rfl) 172 (.tmp 14) (by rfl) W.heap.size 0 (by rfl) et _ (Wh.Ae HV.o) Tryz.underlying172 (by rfl) eH.o ?_;clear eH)
  |(go_at_call 67;refine Calls.mono (C1.o _) ?_;rintro e w2 he;obtain⟨v1,rfl,ed,D⟩:=Qi he;have S1:=I (SlN.old M.o ed);replace M:=I (M.o.below D);replace HO:=I (HO.o.below D);replace J:=I (J.o.below D);replace F:=I (F.o.below D);replace HV:=I (HV.o.below D);clear he ed D C1)
  |(go_at_call 68;refine Calls.mono (C2.o _) ?_;rintro e w3 he;obtain⟨v2,rfl,ec,D⟩:=Qi he;have S2:=I (SlN.old M.o ec);replace S1:=I (S1.o.below D);replace M:=I (M.o.below D);replace HO:=I (HO.o.below D);replace J:=I (J.o.below D);replace F:=I (F.o.below D);clear he ec D C2 HV)
  |fail)
 by_cases hz:o1.isSome=true/\o2.isSome=true
 ·obtain⟨b1,rfl⟩:=Option.isSome_iff_exists.1 hz.1
  obtain⟨b2,rfl⟩:=Option.isSome_iff_exists.1 hz.2;have fu:rr=(0,⟨P.c,⟨sv,kv,(Bn k1 2 ((n+1:Nat):Int) b1).1⟩,(Bn k2 u ((n+1+1:Nat):Int) b2).1⟩):=by
   rw[ER.o,ansK,<-ep.o,<-er.o];simp only[Option.isSome_some,Bool.and_self,if_true,Option.getD_some]
  obtain⟨x7,fy⟩:∃x,x=(Bn k1 2 ((n+1:Nat):Int) b1).1:=⟨_,rfl⟩;obtain⟨x9,fJ⟩:∃x,x=(Bn k2 u ((n+1+1:Nat):Int) b2).1:=⟨_,rfl⟩;rw[<-fy,<-fJ] at fu;have gH:=I fy;have fi:=I fJ;clear fy fJ;have fZ:=eT.o b1 ep.o.symm;have gi:=eS.o b2 er.o.symm;have gI:=I fZ;have fI:=I gi;have eK:=I fu;clear hz ER fu ep er eT eS fZ gi;rw[show(some b1).getD []=b1 from rfl] at S1;rw[show(some b2).getD []=b2 from rfl] at S2;rw[show oI (some b1)=0 from rfl,show oI (some b2)=0 from rfl]
  go_upto_region 6 with fail
  go_cut [19] from 48 to 53 (fun tv wx=>∃PT,tv=.pointer (some ⟨PT,0,none⟩)/\w3.heap.size<=PT/\Blk wx PT 29 #[.string ⟨sv.1.toArray⟩,.string ⟨sv.2.toArray⟩,.int .i64 (kv:Int),.slice none 0 0]/\Below w3.heap.size w3 wx)
  case first=>
   have gj:=I HO.o.lt;replace HO:=I (show Blk w3.drew _ _ _ from HO.o.drewN 1);have cd:=I (show Below _ _ w3.drew from below_drewN (Below.refl w3.heap.size w3) 1);refine Reg.AR (fun w'=>Blk w' w.heap.size 99 (hoA sv (some ⟨x1,0,none⟩) (kv:Int))) 8 rfl (by kernel_rfl) HO.o ?_;obtain⟨W3,gb⟩:=Ak (w3.drew);rw[<-gb] at HO cd⊢;clear gb;refine Reg.ty 0 rfl HO.o ?_;refine Reg.tw 1 rfl HO.o (fun w' hS=>by have k0:w'.cell? ⟨w.heap.size,0,none⟩=some (.string ⟨sv.1.toArray⟩):=Blk.cell hS 0;have k1:w'.cell? ⟨w.heap.size,1,none⟩=some (.string ⟨sv.2.toArray⟩):=Blk.cell hS 1;go_simp<;>rfl) ?_;refine Reg.ty 3 rfl HO.o ?_;refine Reg.tw 4 rfl HO.o (fun w' hS=>by have k3:w'.cell? ⟨w.heap.size,3,none⟩=some (.int .i64 (kv:Int)):=Blk.cell hS 3;go_simp<;>rfl) ?_;refine Reg.b2 2 6 ?_ ?_
   ·right
    refine⟨_,_,_,_,_,_,69,#[Rg.prV sv],rfl,by rfl,by go_simp,?_⟩;refine Aj (C3.o _) ?_;rintro w6 D;replace HO:=I (HO.o.below D);replace cd:=cd.t D;clear D;refine⟨_,rfl,HO.o,?_⟩;simp only[Act.put,U,Aa,Ab];refine Reg.ty 5 (v:=.agg #[.string ⟨sv.1.toArray⟩,.string ⟨sv.2.toArray⟩,.int .i64 (kv:Int),.slice none 0 0]) rfl HO.o ?_;refine Reg.b1 6 ?_
    left
    have D:Below w6.heap.size w6 (w6.alloc (.cells tkZ 29)):=Ah.alloc Ag _;have bx:=Blk.new w6 29 tkZ;refine⟨_,_,_,_,_,_,.pointer (some ⟨w6.heap.size,0,none⟩),w6.alloc (.cells tkZ 29),rfl,by rfl,(by go_simp<;>rfl),(HO.o.alloc _),?_⟩;simp only[Act.put,U,Aa,Ab];obtain⟨wt,ej⟩:=Ak (w6.alloc (.cells tkZ 29));rw[<-ej] at D bx⊢;clear ej;have cj:=I (cd.o.size);replace HO:=I (HO.o.below D);replace cd:=cd.t D;have E:=I bx;clear bx D;obtain⟨PT,ev⟩:=Ak (w6.heap.size);rw[<-ev] at E cj⊢;clear ev;have q0:=E.c0;have q1:=E.c1;have q2:=E.c2;have q3:=E.c3;have fz:=E.o.frozen;have fF:PT≠w.heap.size:=by have:=cj.o;have:=gj.o;omega
    refine Reg.Bq 7 ((((wt.setCell ⟨PT,0,none⟩ (.string ⟨sv.1.toArray⟩)).setCell ⟨PT,1,none⟩ (.string ⟨sv.2.toArray⟩)).setCell ⟨PT,2,none⟩ (.int .i64 (kv:Int))).setCell ⟨PT,3,none⟩ (.slice none 0 0)) rfl (by kernel_rfl) (by rfl) (by go_simp) (far4 HO.o fF _ _ _ _) ?_;simp only[Act.put,U,Aa,Ab];clear q0 q1 q2 q3 fz;refine wpAnyH_done (by kernel_rfl) ?_ _;have hv:=set4 E.o (.string ⟨sv.1.toArray⟩) (.string ⟨sv.2.toArray⟩) (.int .i64 (kv:Int)) (.slice none 0 0)
    go_wp2_with fail
    go_meet
    exact⟨PT,rfl,cj.o,hv,IF cd.o cj.o _ _ _ _⟩
   ·left
    have D:Below W3.heap.size W3 (W3.alloc (.cells tkZ 29)):=Ah.alloc Ag _;have bx:=Blk.new W3 29 tkZ;refine⟨_,_,_,_,_,_,.pointer (some ⟨W3.heap.size,0,none⟩),W3.alloc (.cells tkZ 29),rfl,by rfl,(by go_simp<;>rfl),(HO.o.alloc _),?_⟩;simp only[Act.put,U,Aa,Ab];obtain⟨wt,ej⟩:=Ak (W3.alloc (.cells tkZ 29));rw[<-ej] at D bx⊢;clear ej;have cj:=I (cd.o.size);replace HO:=I (HO.o.below D);replace cd:=cd.t D;have E:=I bx;clear bx D;obtain⟨PT,ev⟩:=Ak (W3.heap.size);rw[<-ev] at E cj⊢;clear ev;refine Reg.b1 2 ?_
    right
    refine⟨_,_,_,_,_,_,69,#[Rg.prV sv],rfl,by rfl,by go_simp,?_⟩;refine Aj (C3.o _) ?_;rintro w6 D;replace HO:=I (HO.o.below D);replace E:=I (E.o.below D);replace cd:=cd.t D;clear D;refine⟨_,rfl,HO.o,?_⟩;simp only[Act.put,U,Aa,Ab];refine Reg.ty 5 (v:=.agg #[.string ⟨sv.1.toArray⟩,.string ⟨sv.2.toArray⟩,.int .i64 (kv:Int),.slice none 0 0]) rfl HO.o ?_;have q0:=E.c0;have q1:=E.c1;have q2:=E.c2;have q3:=E.c3;have fz:=E.o.frozen;have fF:PT≠w.heap.size:=by have:=cj.o;have:=gj.o;omega
    refine Reg.Bq 7 ((((w6.setCell ⟨PT,0,none⟩ (.string ⟨sv.1.toArray⟩)).setCell ⟨PT,1,none⟩ (.string ⟨sv.2.toArray⟩)).setCell ⟨PT,2,none⟩ (.int .i64 (kv:Int))).setCell ⟨PT,3,none⟩ (.slice none 0 0)) rfl (by kernel_rfl) (by rfl) (by go_simp) (far4 HO.o fF _ _ _ _) ?_;simp only[Act.put,U,Aa,Ab];clear q0 q1 q2 q3 fz;refine wpAnyH_done (by kernel_rfl) ?_ _;have hv:=set4 E.o (.string ⟨sv.1.toArray⟩) (.string ⟨sv.2.toArray⟩) (.int .i64 (kv:Int)) (.slice none 0 0)
    go_wp2_with fail
    go_meet
    exact⟨PT,rfl,cj.o,hv,IF cd.o cj.o _ _ _ _⟩
  case rest=>
   obtain⟨PT,rfl,fN,ht,D⟩:=hcut;have cj:=I (Nat.le_trans M.o.size fN);have gn:=I ht.lt;replace S2:=I (SlX.up0 S2.o PT fN);have eQ:=I (show PT≠w.heap.size+1/\PT≠w.heap.size+1+1 from⟨fun e=>(by have:=J.o.lt;have:=gC.o;omega),fun e=>(by have:=F.o.lt;omega)⟩);replace HO:=I (HO.o.below D);replace J:=I (J.o.below D);replace F:=I (F.o.below D);replace S1:=I (S1.o.below D);replace S2:=I (S2.o.below D);replace M:=I (M.o.below D);have E:=I ht;clear fN ht D C3;have cp:=I (show w.heap.size+1+1<wc.heap.size from F.o.lt);have cq:=I (show w.heap.size<=wc.heap.size from M.o.size);have gO:=HO.c2;have bz:=I (ew.o (w.heap.size+1+1) (by omega));have cn:=I (ew.o (w.heap.size+1) (by omega));have ck:=I (ew.o PT cj.o);have fH:=Hi M.o.st (M.o.hdl H1.o) (by have:=HC.o;omega) (by have:=eJ.o;omega) 2 v1 b1 gI.o S1.o;rw[<-gH.o] at fH
   go_upto_region 8 with(first
    |(go_at_call 70;refine Calls.mono fH ?_;rintro e w7 ⟨v7,fv,s7,rfl,gg,cr⟩;clear fH gO S1 HO;have cb:=cr.off bz.o F.o.lt;have fS:=cr.off cn.o J.o.lt;have ga:=cr.off ck.o E.o.lt;have gr:=cr.blk J.o cn.o.no;have fV:=cr.blk E.o ck.o.no;have fQ:=cr.blk F.o bz.o.no;have fW:=S2.o.kn cr;have gh:=SlX.of_out (X:=fun j=>j<wc.heap.size) gg (fun _ x=>x);replace J:=I gr;replace E:=I fV;replace F:=I fQ;replace bz:=I cb;replace cn:=I fS;replace ck:=I ga;replace S2:=I fW;have S7:=I gh;replace M:=I (M.o.trans cr);obtain⟨A7,m7,fX,gE,fY⟩:=gg;obtain⟨L7,gp⟩:∃z,z=x7.length:=⟨_,rfl⟩;rw[<-gp] at fX;subst fX;clear cr cb fS ga gr fV fQ fW gh gE fY gp;have gK:=E.c3;have gB:=E.o.frozen)
    |fail)
   clear gK gB;obtain⟨W8,cm⟩:=Ak ((w7.setCell ⟨PT,3,none⟩ (.slice A7 L7 m7)).drew);have fb:Blk W8 (w.heap.size+1) 40 eL:=cm▸(Si.Blk.far J.o _ _ eQ.o.1).drewN 1;have fM:Blk W8 (w.heap.size+1+1) 44 reZ:=cm▸(Si.Blk.far F.o _ _ eQ.o.2).drewN 1;have fs:Blk W8 PT 29 #[.string ⟨sv.1.toArray⟩,.string ⟨sv.2.toArray⟩,.int .i64 (kv:Int),.slice A7 L7 m7]:=cm▸(E.o.set 3 (.slice A7 L7 m7)).drewN 1;have fL:Kn w W8 B p es s fv s7 (n+1) i (c+1):=cm▸(M.o.put cj.o ck.o 3 (.slice A7 L7 m7)).drew;have eR:SlN (KSO p fv s7) W8 v2 b2:=cm▸(((S2.o.put rfl 3 (.slice A7 L7 m7)).below (below_drewN Ah 1)).kso);have fO:SlX (fun j=>j<wc.heap.size) p fv s7 W8 (.slice A7 L7 m7) x7:=cm▸((S7.o.put gn.o 3 (.slice A7 L7 m7)).below (below_drewN Ah 1))
   go_cut [20] from 60 to 69 (fun rv wx=>∃(PR:Nat) (A7:Option Addr) (L7 m7:Nat) (A9:Option Addr) (L9 m9:Nat) (cc:List Ent) (s9:Option Ss),rv=.pointer (some ⟨PR,0,none⟩)/\Blk wx PR 44 #[.string ⟨P.c.1.toArray⟩,.string ⟨P.c.2.toArray⟩,.string ⟨sv.1.toArray⟩,.string ⟨sv.2.toArray⟩,.int .i64 (kv:Int),.slice A7 L7 m7,.slice A9 L9 m9]/\Blk wx (w.heap.size+1+1) 44 reZ/\Off p cc s9 (w.heap.size+1+1)/\Off p cc s9 PR/\SlX (fun j=>j=PR\/j=w.heap.size+1+1\/j<w.heap.size) p cc s9 wx (.slice A7 L7 m7) x7/\SlX (fun j=>j=PR\/j=w.heap.size+1+1\/j<w.heap.size) p cc s9 wx (.slice A9 L9 m9) x9/\Kn w wx B p es s cc s9 (n+1+1) i (c+1+1))
   case first=>
    clear J E F M S2 S7;have J:=I fb;have F:=I fM;have E:=I fs;have M:=I fL;have S2:=I eR;have S7:=I fO;clear fb fM fs fL eR fO;refine Reg.AR (fun w'=>Blk w' (w.heap.size+1) 40 eL/\Blk w' PT 29 #[.string ⟨sv.1.toArray⟩,.string ⟨sv.2.toArray⟩,.int .i64 (kv:Int),.slice A7 L7 m7]) 12 rfl (by kernel_rfl) (by rw[<-cm];exact⟨J.o,E.o⟩) ?_;rw[<-cm];clear cm;refine Reg.ty 0 rfl ⟨J.o,E.o⟩ ?_;refine Reg.tw 1 rfl ⟨J.o,E.o⟩ (fun w' hS=>by have q:=gu.o _ _ hS.1;have q0:=q.1;have q1:=q.2;clear q;go_simp<;>rfl) ?_;refine Reg.tw 3 rfl ⟨J.o,E.o⟩ (fun w' hS=>by have q0:w'.cell? ⟨PT,0,none⟩=some (.string ⟨sv.1.toArray⟩):=Blk.cell hS.2 0;have q1:w'.cell? ⟨PT,1,none⟩=some (.string ⟨sv.2.toArray⟩):=Blk.cell hS.2 1;have q2:w'.cell? ⟨PT,2,none⟩=some (.int .i64 (kv:Int)):=Blk.cell hS.2 2;have q3:w'.cell? ⟨PT,3,none⟩=some (.slice A7 L7 m7):=Blk.cell hS.2 3;go_simp<;>rfl) ?_;refine Reg.ty 4 rfl ⟨J.o,E.o⟩ ?_;refine Reg.ty 5 rfl ⟨J.o,E.o⟩ ?_;refine Reg.ty 6 rfl ⟨J.o,E.o⟩ ?_;refine Reg.ty 7 rfl ⟨J.o,E.o⟩ ?_;refine Reg.b2 2 10 ?_ ?_
    ·right
     refine⟨_,_,_,_,_,_,69,#[Rg.prV P.c],rfl,by rfl,by go_simp,?_⟩;refine Aj (C4.o _) ?_;rintro wd D;replace J:=I (J.o.below D);replace E:=I (E.o.below D);replace F:=I (F.o.below D);replace S2:=I (S2.o.below D);replace S7:=I (S7.o.below D);replace M:=I (M.o.below D);clear D;refine⟨_,rfl,⟨J.o,E.o⟩,?_⟩;simp only[Act.put,U,Aa,Ab];refine Reg.b2 8 10 ?_ ?_
     ·right
      refine⟨_,_,_,_,_,_,70,#[.pointer (some ⟨p.k,0,none⟩),.pointer (some ⟨x2,0,none⟩),.int .i64 u,v2],rfl,by rfl,by go_simp,?_⟩;have c9:=Hi M.o.st (M.o.hdl H2.o) (by have:=HC.o;omega) (by have:=eJ.o;omega) u _ b2 fI.o S2.o;rw[<-fi.o] at c9;refine Calls.mono c9 ?_;clear c9;rintro e w9 ⟨v9,cc,s9,rfl,cu,N⟩;have cQ:=N.blk J.o (cn.o).no;have cB:=N.blk E.o (ck.o).no;have ea:=N.blk F.o (bz.o).no;have cb:=N.off bz.o F.o.lt;have cP:=S7.o.kn N;have cg:=SlX.of_out (X:=fun j=>j<wd.heap.size) cu (fun _ x=>x);have Z:=I (show w.heap.size+1+1<wd.heap.size from F.o.lt);have aw:=I M.o.size;replace J:=I cQ;replace E:=I cB;replace F:=I ea;replace bz:=I cb;replace S7:=I cP;have S9:=I cg;replace M:=I (M.o.trans N);obtain⟨A9,m9,cR,eB,cx⟩:=cu;obtain⟨L9,cy⟩:=Ak (x9.length);rw[<-cy] at cR;subst cR;clear N cQ cB ea cb cP cg eB cx cy S2 cn ck;refine⟨_,rfl,⟨J.o,E.o⟩,?_⟩;simp only[Act.put,U,Aa,Ab];refine Reg.ty 9 (v:=.agg #[.string ⟨P.c.1.toArray⟩,.string ⟨P.c.2.toArray⟩,.string ⟨sv.1.toArray⟩,.string ⟨sv.2.toArray⟩,.int .i64 (kv:Int),.slice A7 L7 m7,.slice A9 L9 m9]) rfl ⟨J.o,E.o⟩ ?_;refine Reg.b1 10 ?_
      left
      have D:Below w9.heap.size w9 (w9.alloc (.cells reZ 44)):=Ah.alloc Ag _;have bx:=Blk.new w9 44 reZ;refine⟨_,_,_,_,_,_,.pointer (some ⟨w9.heap.size,0,none⟩),w9.alloc (.cells reZ 44),rfl,by rfl,(by go_simp<;>rfl),⟨J.o.alloc _,E.o.alloc _⟩,?_⟩;simp only[Act.put,U,Aa,Ab];obtain⟨wn,ct⟩:=Ak (w9.alloc (.cells reZ 44));rw[<-ct] at D bx⊢;clear ct;have bB:=I (M.o.st.offs (Nat.le_refl w9.heap.size));have cL:=I (Nat.le_trans M.o.size (Nat.le_refl w9.heap.size));have cf:=I (show PT<w9.heap.size from E.o.lt);have ca:=I (show w.heap.size+1+1<w9.heap.size from F.o.lt);replace S7:=I (S7.o.up _ (Nat.le_refl w9.heap.size));replace S9:=I (S9.o.up _ (Nat.le_refl w9.heap.size));replace J:=I (J.o.below D);replace E:=I (E.o.below D);replace F:=I (F.o.below D);replace S7:=I (S7.o.below D);replace M:=I (M.o.below D);replace S9:=I (S9.o.below D);have O:=I bx;clear bx D;obtain⟨PR,cw⟩:=Ak (w9.heap.size);rw[<-cw] at O bB cL cf ca S7 S9⊢;clear cw;have q0:=O.c0;have q1:=O.c1;have q2:=O.c2;have q3:=O.c3;have q4:=O.c4;have q5:=O.c5;have q6:=O.c6;have fz:=O.o.frozen;have ei:PR≠w.heap.size+1:=by have:=ca.o;omega
      have ek:PR≠PT:=by have:=cf.o;omega
      refine Reg.Bq 11 (((((((wn.setCell ⟨PR,0,none⟩ (.string ⟨P.c.1.toArray⟩)).setCell ⟨PR,1,none⟩ (.string ⟨P.c.2.toArray⟩)).setCell ⟨PR,2,none⟩ (.string ⟨sv.1.toArray⟩)).setCell ⟨PR,3,none⟩ (.string ⟨sv.2.toArray⟩)).setCell ⟨PR,4,none⟩ (.int .i64 (kv:Int))).setCell ⟨PR,5,none⟩ (.slice A7 L7 m7)).setCell ⟨PR,6,none⟩ (.slice A9 L9 m9)) rfl (by kernel_rfl) (by rfl) (by go_simp) ⟨far7 J.o ei _ _ _ _ _ _ _,far7 E.o ek _ _ _ _ _ _ _⟩ ?_;simp only[Act.put,U,Aa,Ab];clear q0 q1 q2 q3 q4 q5 q6 fz;refine wpAnyH_done (by kernel_rfl) ?_ _;have ey:PR≠w.heap.size+1+1:=by have:=ca.o;omega
      have hv:=set7 O.o (.string ⟨P.c.1.toArray⟩) (.string ⟨P.c.2.toArray⟩) (.string ⟨sv.1.toArray⟩) (.string ⟨sv.2.toArray⟩) (.int .i64 (kv:Int)) (.slice A7 L7 m7) (.slice A9 L9 m9)
      go_wp2_with fail
      go_meet
      exact⟨PR,A7,L7,m7,A9,L9,m9,cc,s9,rfl,hv,far7 F.o ey _ _ _ _ _ _ _,bz.o,bB.o,(S7.o.less (fun j x=>(by rcases x with x | x | x<;>first | exact .inr x | (subst x;exact .inl cp.o) | exact .inl (Nat.lt_of_lt_of_le x cq.o) | (subst x;exact eb.o) | (subst x;exact Z.o) | (subst x;exact .inl Z.o) | exact Nat.lt_of_lt_of_le x aw.o | exact .inl (Nat.lt_of_lt_of_le x aw.o)))).put7 (.inl rfl) _ _ _ _ _ _ _,(S9.o.less (fun j x=>(by rcases x with x | x | x<;>first | exact .inr x | (subst x;exact .inl cp.o) | exact .inl (Nat.lt_of_lt_of_le x cq.o) | (subst x;exact eb.o) | (subst x;exact Z.o) | (subst x;exact .inl Z.o) | exact Nat.lt_of_lt_of_le x aw.o | exact .inl (Nat.lt_of_lt_of_le x aw.o)))).put7 (.inl rfl) _ _ _ _ _ _ _,M.o.put7 cL.o bB.o _ _ _ _ _ _ _⟩
     ·left
      have D:Below wd.heap.size wd (wd.alloc (.cells reZ 44)):=Ah.alloc Ag _;have bx:=Blk.new wd 44 reZ;refine⟨_,_,_,_,_,_,.pointer (some ⟨wd.heap.size,0,none⟩),wd.alloc (.cells reZ 44),rfl,by rfl,(by go_simp<;>rfl),⟨J.o.alloc _,E.o.alloc _⟩,?_⟩;simp only[Act.put,U,Aa,Ab];obtain⟨wn,ct⟩:=Ak (wd.alloc (.cells reZ 44));rw[<-ct] at D bx⊢;clear ct;have bB:=I (M.o.st.offs (Nat.le_refl wd.heap.size));have cL:=I (Nat.le_trans M.o.size (Nat.le_refl wd.heap.size));have cf:=I (show PT<wd.heap.size from E.o.lt);have ca:=I (show w.heap.size+1+1<wd.heap.size from F.o.lt);replace S7:=I (S7.o.up _ (Nat.le_refl wd.heap.size));replace J:=I (J.o.below D);replace E:=I (E.o.below D);replace F:=I (F.o.below D);replace S2:=I (S2.o.below D);replace S7:=I (S7.o.below D);replace M:=I (M.o.below D);have O:=I bx;clear bx D;obtain⟨PR,cw⟩:=Ak (wd.heap.size);rw[<-cw] at O bB cL cf ca S7⊢;clear cw;refine Reg.b1 8 ?_
      right
      refine⟨_,_,_,_,_,_,70,#[.pointer (some ⟨p.k,0,none⟩),.pointer (some ⟨x2,0,none⟩),.int .i64 u,v2],rfl,by rfl,by go_simp,?_⟩;have c9:=Hi M.o.st (M.o.hdl H2.o) (by have:=HC.o;omega) (by have:=eJ.o;omega) u _ b2 fI.o S2.o;rw[<-fi.o] at c9;refine Calls.mono c9 ?_;clear c9;rintro e w9 ⟨v9,cc,s9,rfl,cu,N⟩;have cQ:=N.blk J.o (cn.o).no;have cB:=N.blk E.o (ck.o).no;have ea:=N.blk F.o (bz.o).no;have cb:=N.off bz.o F.o.lt;have cP:=S7.o.kn N;have cg:=SlX.of_out (X:=fun j=>j<wn.heap.size) cu (fun _ x=>x);have eo:=N.blk O.o bB.o.no;have cA:=N.off bB.o O.o.lt;have eb:=I (show PR<wn.heap.size from O.o.lt);have Z:=I (show w.heap.size+1+1<wn.heap.size from F.o.lt);have aw:=I M.o.size;replace J:=I cQ;replace E:=I cB;replace F:=I ea;replace bz:=I cb;replace S7:=I cP;have S9:=I cg;replace M:=I (M.o.trans N);replace O:=I eo;replace bB:=I cA;obtain⟨A9,m9,cR,eB,cx⟩:=cu;obtain⟨L9,cy⟩:=Ak (x9.length);rw[<-cy] at cR;subst cR;clear N cQ cB ea cb cP cg eB cx cy S2 cn ck eo cA;refine⟨_,rfl,⟨J.o,E.o⟩,?_⟩;simp only[Act.put,U,Aa,Ab];refine Reg.ty 9 (v:=.agg #[.string ⟨P.c.1.toArray⟩,.string ⟨P.c.2.toArray⟩,.string ⟨sv.1.toArray⟩,.string ⟨sv.2.toArray⟩,.int .i64 (kv:Int),.slice A7 L7 m7,.slice A9 L9 m9]) rfl ⟨J.o,E.o⟩ ?_;have q0:=O.c0;have q1:=O.c1;have q2:=O.c2;have q3:=O.c3;have q4:=O.c4;have q5:=O.c5;have q6:=O.c6;have fz:=O.o.frozen;have ei:PR≠w.heap.size+1:=by have:=ca.o;omega
      have ek:PR≠PT:=by have:=cf.o;omega
      refine Reg.Bq 11 (((((((w9.setCell ⟨PR,0,none⟩ (.string ⟨P.c.1.toArray⟩)).setCell ⟨PR,1,none⟩ (.string ⟨P.c.2.toArray⟩)).setCell ⟨PR,2,none⟩ (.string ⟨sv.1.toArray⟩)).setCell ⟨PR,3,none⟩ (.string ⟨sv.2.toArray⟩)).setCell ⟨PR,4,none⟩ (.int .i64 (kv:Int))).setCell ⟨PR,5,none⟩ (.slice A7 L7 m7)).setCell ⟨PR,6,none⟩ (.slice A9 L9 m9)) rfl (by kernel_rfl) (by rfl) (by go_simp) ⟨far7 J.o ei _ _ _ _ _ _ _,far7 E.o ek _ _ _ _ _ _ _⟩ ?_;simp only[Act.put,U,Aa,Ab];clear q0 q1 q2 q3 q4 q5 q6 fz;refine wpAnyH_done (by kernel_rfl) ?_ _;have ey:PR≠w.heap.size+1+1:=by have:=ca.o;omega
      have hv:=set7 O.o (.string ⟨P.c.1.toArray⟩) (.string ⟨P.c.2.toArray⟩) (.string ⟨sv.1.toArray⟩) (.string ⟨sv.2.toArray⟩) (.int .i64 (kv:Int)) (.slice A7 L7 m7) (.slice A9 L9 m9)
      go_wp2_with fail
      go_meet
      exact⟨PR,A7,L7,m7,A9,L9,m9,cc,s9,rfl,hv,far7 F.o ey _ _ _ _ _ _ _,bz.o,bB.o,(S7.o.less (fun j x=>(by rcases x with x | x | x<;>first | exact .inr x | (subst x;exact .inl cp.o) | exact .inl (Nat.lt_of_lt_of_le x cq.o) | (subst x;exact eb.o) | (subst x;exact Z.o) | (subst x;exact .inl Z.o) | exact Nat.lt_of_lt_of_le x aw.o | exact .inl (Nat.lt_of_lt_of_le x aw.o)))).put7 (.inl rfl) _ _ _ _ _ _ _,(S9.o.less (fun j x=>(by rcases x with x | x | x<;>first | exact .inr x | (subst x;exact .inl cp.o) | exact .inl (Nat.lt_of_lt_of_le x cq.o) | (subst x;exact eb.o) | (subst x;exact Z.o) | (subst x;exact .inl Z.o) | exact Nat.lt_of_lt_of_le x aw.o | exact .inl (Nat.lt_of_lt_of_le x aw.o)))).put7 (.inl rfl) _ _ _ _ _ _ _,M.o.put7 cL.o bB.o _ _ _ _ _ _ _⟩
    ·left
     have D:Below W8.heap.size W8 (W8.alloc (.cells reZ 44)):=Ah.alloc Ag _;have bx:=Blk.new W8 44 reZ;refine⟨_,_,_,_,_,_,.pointer (some ⟨W8.heap.size,0,none⟩),W8.alloc (.cells reZ 44),rfl,by rfl,(by go_simp<;>rfl),⟨J.o.alloc _,E.o.alloc _⟩,?_⟩;simp only[Act.put,U,Aa,Ab];obtain⟨wn,ct⟩:=Ak (W8.alloc (.cells reZ 44));rw[<-ct] at D bx⊢;clear ct;have bB:=I (M.o.st.offs (Nat.le_refl W8.heap.size));have cL:=I (Nat.le_trans M.o.size (Nat.le_refl W8.heap.size));have cf:=I (show PT<W8.heap.size from E.o.lt);have ca:=I (show w.heap.size+1+1<W8.heap.size from F.o.lt);replace S7:=I (S7.o.up _ (Nat.le_refl W8.heap.size));replace J:=I (J.o.below D);replace E:=I (E.o.below D);replace F:=I (F.o.below D);replace S2:=I (S2.o.below D);replace S7:=I (S7.o.below D);replace M:=I (M.o.below D);have O:=I bx;clear bx D;obtain⟨PR,cw⟩:=Ak (W8.heap.size);rw[<-cw] at O bB cL cf ca S7⊢;clear cw;refine Reg.b1 2 ?_
     right
     refine⟨_,_,_,_,_,_,69,#[Rg.prV P.c],rfl,by rfl,by go_simp,?_⟩;refine Aj (C4.o _) ?_;rintro wd D;replace J:=I (J.o.below D);replace E:=I (E.o.below D);replace F:=I (F.o.below D);replace O:=I (O.o.below D);replace S2:=I (S2.o.below D);replace S7:=I (S7.o.below D);replace M:=I (M.o.below D);clear D;refine⟨_,rfl,⟨J.o,E.o⟩,?_⟩;simp only[Act.put,U,Aa,Ab];refine Reg.b1 8 ?_
     right
     refine⟨_,_,_,_,_,_,70,#[.pointer (some ⟨p.k,0,none⟩),.pointer (some ⟨x2,0,none⟩),.int .i64 u,v2],rfl,by rfl,by go_simp,?_⟩;have c9:=Hi M.o.st (M.o.hdl H2.o) (by have:=HC.o;omega) (by have:=eJ.o;omega) u _ b2 fI.o S2.o;rw[<-fi.o] at c9;refine Calls.mono c9 ?_;clear c9;rintro e w9 ⟨v9,cc,s9,rfl,cu,N⟩;have cQ:=N.blk J.o (cn.o).no;have cB:=N.blk E.o (ck.o).no;have ea:=N.blk F.o (bz.o).no;have cb:=N.off bz.o F.o.lt;have cP:=S7.o.kn N;have cg:=SlX.of_out (X:=fun j=>j<wd.heap.size) cu (fun _ x=>x);have eo:=N.blk O.o bB.o.no;have cA:=N.off bB.o O.o.lt;have eb:=I (show PR<wd.heap.size from O.o.lt);have Z:=I (show w.heap.size+1+1<wd.heap.size from F.o.lt);have aw:=I M.o.size;replace J:=I cQ;replace E:=I cB;replace F:=I ea;replace bz:=I cb;replace S7:=I cP;have S9:=I cg;replace M:=I (M.o.trans N);replace O:=I eo;replace bB:=I cA;obtain⟨A9,m9,cR,eB,cx⟩:=cu;obtain⟨L9,cy⟩:=Ak (x9.length);rw[<-cy] at cR;subst cR;clear N cQ cB ea cb cP cg eB cx cy S2 cn ck eo cA;refine⟨_,rfl,⟨J.o,E.o⟩,?_⟩;simp only[Act.put,U,Aa,Ab];refine Reg.ty 9 (v:=.agg #[.string ⟨P.c.1.toArray⟩,.string ⟨P.c.2.toArray⟩,.string ⟨sv.1.toArray⟩,.string ⟨sv.2.toArray⟩,.int .i64 (kv:Int),.slice A7 L7 m7,.slice A9 L9 m9]) rfl ⟨J.o,E.o⟩ ?_;have q0:=O.c0;have q1:=O.c1;have q2:=O.c2;have q3:=O.c3;have q4:=O.c4;have q5:=O.c5;have q6:=O.c6;have fz:=O.o.frozen;have ei:PR≠w.heap.size+1:=by have:=ca.o;omega
     have ek:PR≠PT:=by have:=cf.o;omega
     refine Reg.Bq 11 (((((((w9.setCell ⟨PR,0,none⟩ (.string ⟨P.c.1.toArray⟩)).setCell ⟨PR,1,none⟩ (.string ⟨P.c.2.toArray⟩)).setCell ⟨PR,2,none⟩ (.string ⟨sv.1.toArray⟩)).setCell ⟨PR,3,none⟩ (.string ⟨sv.2.toArray⟩)).setCell ⟨PR,4,none⟩ (.int .i64 (kv:Int))).setCell ⟨PR,5,none⟩ (.slice A7 L7 m7)).setCell ⟨PR,6,none⟩ (.slice A9 L9 m9)) rfl (by kernel_rfl) (by rfl) (by go_simp) ⟨far7 J.o ei _ _ _ _ _ _ _,far7 E.o ek _ _ _ _ _ _ _⟩ ?_;simp only[Act.put,U,Aa,Ab];clear q0 q1 q2 q3 q4 q5 q6 fz;refine wpAnyH_done (by kernel_rfl) ?_ _;have ey:PR≠w.heap.size+1+1:=by have:=ca.o;omega
     have hv:=set7 O.o (.string ⟨P.c.1.toArray⟩) (.string ⟨P.c.2.toArray⟩) (.string ⟨sv.1.toArray⟩) (.string ⟨sv.2.toArray⟩) (.int .i64 (kv:Int)) (.slice A7 L7 m7) (.slice A9 L9 m9)
     go_wp2_with fail
     go_meet
     exact⟨PR,A7,L7,m7,A9,L9,m9,cc,s9,rfl,hv,far7 F.o ey _ _ _ _ _ _ _,bz.o,bB.o,(S7.o.less (fun j x=>(by rcases x with x | x | x<;>first | exact .inr x | (subst x;exact .inl cp.o) | exact .inl (Nat.lt_of_lt_of_le x cq.o) | (subst x;exact eb.o) | (subst x;exact Z.o) | (subst x;exact .inl Z.o) | exact Nat.lt_of_lt_of_le x aw.o | exact .inl (Nat.lt_of_lt_of_le x aw.o)))).put7 (.inl rfl) _ _ _ _ _ _ _,(S9.o.less (fun j x=>(by rcases x with x | x | x<;>first | exact .inr x | (subst x;exact .inl cp.o) | exact .inl (Nat.lt_of_lt_of_le x cq.o) | (subst x;exact eb.o) | (subst x;exact Z.o) | (subst x;exact .inl Z.o) | exact Nat.lt_of_lt_of_le x aw.o | exact .inl (Nat.lt_of_lt_of_le x aw.o)))).put7 (.inl rfl) _ _ _ _ _ _ _,M.o.put7 cL.o bB.o _ _ _ _ _ _ _⟩
   case rest=>
    clear J E F M S2 S7 fb fM fs fL eR fO bz cn ck cm;obtain⟨PR,A7,L7,m7,A9,L9,m9,cc,s9,rfl,hn,hr,cb,cA,h7,h9,hk⟩:=hcut;have c6:=add_one ⟨p.k,6,none⟩ i _ (by have:=gA.o;omega) (hk.st.k.blk.cell 6) (hk.st.k.blk.frozen 6);have k6:=hk.st.put6 (i+1);obtain⟨I1,fU⟩:∃z:Int,z=((i+1:Nat):Int):=⟨_,rfl⟩;rw[<-fU] at c6 k6;have O:=I (k6.blk hn cA.no);have F:=I (k6.blk hr cb.no);have bz:=I cb;have S7:=I (h7.kn k6);have S9:=I (h9.kn k6);have M:=I (hk.trans k6);clear hn hr cb h7 h9 hk k6 cA fU
    go_upto_region 10 with(first
     |(go_at_call 71;refine Aj c6 ?_;rintro wz hw;clear c6;have hw:=hw.symm;subst hw)
     |fail)
    obtain⟨wz,fR⟩:=Ak ((wc.setCell ⟨p.k,6,none⟩ (.int .i64 I1)));rw[<-fR] at O F S7 S9 M⊢;clear fR;have gV:=O.c0;have gR:=O.c1;have gP:=O.c2;have gS:=O.c3;have gT:=O.c4;have gU:=O.c5;have gQ:=O.c6;have gw:=F.o.cell 0;have gD:=F.o.cell 1;have gJ:=F.o.cell 2;have gG:=F.o.cell 3;have gF:=F.o.cell 4;have gN:=F.o.cell 5;have gx:=F.o.cell 6;have fz:=F.o.frozen
    go_wp2_with fail
    refine bodyPost_ret (v:=.tuple #[.agg #[.string ⟨P.c.1.toArray⟩,.string ⟨P.c.2.toArray⟩,.string ⟨sv.1.toArray⟩,.string ⟨sv.2.toArray⟩,.int .i64 (kv:Int),.slice A7 L7 m7,.slice A9 L9 m9],.int .i64 0]) ?_ ?_ ?_
    ·exact Ad (v:=.agg #[.string ⟨P.c.1.toArray⟩,.string ⟨P.c.2.toArray⟩,.string ⟨sv.1.toArray⟩,.string ⟨sv.2.toArray⟩,.int .i64 (kv:Int),.slice A7 L7 m7,.slice A9 L9 m9]) 12 13 44 ⟨w.heap.size+1+1,0,none⟩ Tryz.results32 rfl (Wh.Al (set7 F.o _ _ _ _ _ _ _) Tryz.underlying44 (by rfl) AM) rfl
    ·rfl
    ·rw[eK.o]
     have gl:=(S7.o.put7 (g:=w.heap.size+1+1) (.inr (.inl rfl)) (.string ⟨P.c.1.toArray⟩) (.string ⟨P.c.2.toArray⟩) (.string ⟨sv.1.toArray⟩) (.string ⟨sv.2.toArray⟩) (.int .i64 (kv:Int)) (.slice A7 L7 m7) (.slice A9 L9 m9));have gq:=(S9.o.put7 (g:=w.heap.size+1+1) (.inr (.inl rfl)) (.string ⟨P.c.1.toArray⟩) (.string ⟨P.c.2.toArray⟩) (.string ⟨sv.1.toArray⟩) (.string ⟨sv.2.toArray⟩) (.int .i64 (kv:Int)) (.slice A7 L7 m7) (.slice A9 L9 m9));have gL:=SlX.o (a:=w) gl (fun j x=>.inr (.inr x));have gy:=SlX.o (a:=w) gq (fun j x=>.inr (.inr x));have kf:=M.o.put7 (g:=w.heap.size+1+1) (by omega) bz.o (.string ⟨P.c.1.toArray⟩) (.string ⟨P.c.2.toArray⟩) (.string ⟨sv.1.toArray⟩) (.string ⟨sv.2.toArray⟩) (.int .i64 (kv:Int)) (.slice A7 L7 m7) (.slice A9 L9 m9);clear gl gq;refine⟨#[.string ⟨P.c.1.toArray⟩,.string ⟨P.c.2.toArray⟩,.string ⟨sv.1.toArray⟩,.string ⟨sv.2.toArray⟩,.int .i64 (kv:Int),.slice A7 L7 m7,.slice A9 L9 m9],cc,s9,rfl,⟨.slice A7 L7 m7,.slice A9 L9 m9,by simp only[Ms.reC,Ms.prC,Ms.tkC,List.cons_append,List.nil_append],?_,?_⟩,?_⟩
     ·simp only
      exact gL
     ·simp only
      exact gy
     ·show Kn w _ B p es s cc s9 (n+2*1) (i+1) (c+2)
      exact kf
 ·have hr:rr=(2,Ms.re0):=by
   rw[ER.o,ansK,<-ep.o,<-er.o,if_neg (by simpa using hz)]
  have eK:=I hr;clear ER ep er eT eS S1 S2 hr HO J;have gw:=F.o.cell 0;have gD:=F.o.cell 1;have gJ:=F.o.cell 2;have gG:=F.o.cell 3;have gF:=F.o.cell 4;have gN:=F.o.cell 5;have gx:=F.o.cell 6;have fz:=F.o.frozen;cases o1 with
  |none=>
   rw[show oI none=1 from rfl];clear hz
   go_wp2_with fail
   refine bodyPost_ret (v:=.tuple #[.agg reZ,.int .i64 2]) ?_ ?_ ?_
   ·exact Ad (v:=.agg reZ) 12 13 44 ⟨w.heap.size+1+1,0,none⟩ Tryz.results32 rfl (Wh.Al (set7 F.o _ _ _ _ _ _ _) Tryz.underlying44 (by rfl) AM) rfl
   ·rfl
   ·rw[eK.o]
    exact Cm ((M.o.put7 (by omega) (ew.o _ (by omega)) _ _ _ _ _ _ _).more (by omega)) (by decide)
  |some b1=>
   cases o2 with
   |some b2=>exact absurd ⟨rfl,rfl⟩ hz
   |none=>
    rw[show oI none=1 from rfl,show oI (some b1)=0 from rfl];clear hz
    go_wp2_with fail
    refine bodyPost_ret (v:=.tuple #[.agg reZ,.int .i64 2]) ?_ ?_ ?_
    ·exact Ad (v:=.agg reZ) 12 13 44 ⟨w.heap.size+1+1,0,none⟩ Tryz.results32 rfl (Wh.Al (set7 F.o _ _ _ _ _ _ _) Tryz.underlying44 (by rfl) AM) rfl
    ·rfl
    ·rw[eK.o]
     exact Cm ((M.o.put7 (by omega) (ew.o _ (by omega)) _ _ _ _ _ _ _).more (by omega)) (by decide)
end
end Kd
namespace Kd
open Go.RowKit Af Se
open Rg (It Ent Ring RO its Ad BA BH)
open SeL (Bn Bc)
open Ms (Pt Rp Re Tk As Tg Mg Ap Fa pSm mSm mgO mgB asB tgB limO mgE asC tgC reC as0 tg0 re0 ap0 fa0 EncR)
theorem Gb (D:Array Value) (m:Mg) (w:World) (h:Mc.MgV w w.heap.size D m) (hs:mSm m):Calls Tryz.prog 26 #[.agg D] w fun e w'=>e=.returned (.bool (mgO m).isSome)/\Below w.heap.size w w':=by
 have M:=I (show(Tryz.prog.info? 92).map (·.size)=some D.size by obtain⟨pa,pt,pr,pp,pf,hc,hp⟩:=h;rw[hc,hp.size];exact Mc.DJ);have J:=(Below.refl w.heap.size w).alloc Ag (.cells D 92);have O:=I (Blk.new w 92 D);have c1:=Mc.aX D m _ ((h.keep J).more J.size) hs;have F:=I J;obtain⟨o,N⟩:=Ak (mgO m);rw[<-N] at c1⊢;clear h J hs N;cases o with
 |none=>
  go_enter Tryz.func26,Tryz.ntmps26
  go_wp2_with (first
   |(refine Wh.Au (by rfl) 92 (.tmp 1) (by rfl) w.heap.size 0 (by rfl) D _ (Wh.Ae O.o) Tryz.underlying92 (by rfl) M.o ?_;clear M)
   |(go_at_call 57;refine Calls.mono c1 ?_;rintro e Z he;obtain⟨v1,rfl,E⟩:=OX he;replace F:=F.t E;clear he E c1)
   |fail)
  go_ret;exact⟨rfl,F.o⟩
 |some l=>
  go_enter Tryz.func26,Tryz.ntmps26
  go_wp2_with (first
   |(refine Wh.Au (by rfl) 92 (.tmp 1) (by rfl) w.heap.size 0 (by rfl) D _ (Wh.Ae O.o) Tryz.underlying92 (by rfl) M.o ?_;clear M)
   |(go_at_call 57;refine Calls.mono c1 ?_;rintro e Z he;obtain⟨v1,rfl,_,E⟩:=GB he;replace F:=F.t E;clear he E c1)
   |fail)
  go_ret;exact⟨rfl,F.o⟩
theorem LU {P:Program} {ops:Array Oper} {rest:List Oper} {o:Oper} {a:Act} {w:World} {Q:Exit->Act->World->Prop} (J:Region.wanted o (yielded ops a.tmps)=true) (t:TypeId) (parts:Array (Nat×Operand)) (F:o.op=.build t parts)
  (cells:Array Value) (D:P.built t (parts.map fun(i,x)=>(i,a.eval x)).toList=some cells) (h:wpList P ops Q rest (a.put o.dst (.agg cells)) w):wpList P ops Q (o :: rest) a w:=
 BigFrame.wpList_want J fun _ E=>wp_build t parts F (by rw[D];rfl) (by rw[D];exact E _ _ h)
def mAs (q:As):Mg:=⟨1,q,tg0,re0,ap0,fa0⟩
def mTg (q:Tg):Mg:=⟨2,as0,q,re0,ap0,fa0⟩
theorem YB {m:Mg}:(mgO m).isSome=mgB m:=by
 cases h:mgB m with
 |true=>rw[mgO,limO,if_pos ⟨h,Mc.YA h⟩];rfl
 |false=>rw[mgO,limO,h];rfl
theorem YC (q:As):(mgO (mAs q)).isSome=asB q:=by rw[YB];unfold mgB mAs;simp
theorem YD (q:Tg):(mgO (mTg q)).isSome=tgB q:=by rw[YB];unfold mgB mTg;simp
abbrev asA (q:As):Array Value:=#[.string ⟨q.c.1.toArray⟩,.string ⟨q.c.2.toArray⟩,.string ⟨q.s.1.toArray⟩,.string ⟨q.s.2.toArray⟩,.int .i64 q.t,.int .i64 q.no]
theorem dO (w:World) (q:As):Mc.MgV w w.heap.size (Mc.mgA 1 (asA q) Mc.zT Mc.zR Mc.zP Mc.zF) (mAs q):=
 ⟨_,_,_,_,_,rfl,⟨rfl,Mc.zT_v _ _,Mc.zR_v _ _,Mc.zP_v _ _,Mc.zF_v⟩⟩
theorem Nq (q:As):Tryz.prog.built 92 [(0,.int .i64 1),(1,.agg (asA q))]=some (Mc.mgA 1 (asA q) Mc.zT Mc.zR Mc.zP Mc.zF):=Mc.LR rfl
theorem aZ {l:List It} {n:Nat} {s:Ms.Pr} {P:Pt} {no:Int} {ks:Nat->UInt8} {u:Int}:ansL l n P.c s P no ks u=ansK n (keyL l s) (BH l s) s P no ks u:=rfl
theorem LW {es:List Ent} {q:Rg.Pr} {j:Nat} {x:Ent} (D:BA (its es) q=some j) (F:es[j]? = some x):keyL (its es) q=x.it.k/\BH (its es) q=x.it.n/\hasL (its es) q=true:=by
 have E:=Rg.KL F;refine⟨?_,?_,?_⟩
 ·simp [keyL,D,keyO,E]
 ·simp [BH,D,Rg.numO,E]
 ·simp [hasL,D]
section
variable {X:Nat->Prop} {p:KP} {es:List Ent} {s:Option Ss} {w w':World} {v:Value} {l:Nm.L}
theorem SlX.over (h:SlX X p es s w v l) {g:Nat} (E:X g) (D:w.grownBy w' (some g)):SlX X p es s w' v l:=h.keep (Chg.of_grown (S:=fun j=>j=g) D rfl) (fun j _ x=>.inr (x▸E)) (fun _ _ x=>x)
theorem LX {es:List Ent} {q:Rg.Pr} {j:Nat} (h:BA (its es) q=some j):∃x,es[j]? = some x:=by
 obtain⟨_,y,D,_⟩:=Rg.Ep h;obtain⟨e,he,_⟩:=Rg.Qb D;exact⟨e,he⟩
theorem Nr {cs:Array Value} {x:Re} {S:Nat->Prop} (h:ReN S w cs x):cs.size=7/\cs.all (·.oneCell')=true/\(Tryz.prog.info? 44).map (·.size)=some cs.size:=by
 obtain⟨b,a,rfl,⟨A,m,rfl,_,_⟩,⟨A2,D,rfl,_,_⟩⟩:=h;refine⟨rfl,by simp [reC,Ms.prC,Ms.tkC,Value.oneCell'],?_⟩;rw[show((reC x (.slice A x.t.b.length m) (.slice A2 x.b.length D)).toArray).size=7 from rfl];exact AM
theorem ReN.over {a w1:World} {cs:Array Value} {x:Re} (h:ReN (Out w1 p es s) w cs x) (N:a.heap.size<=w1.heap.size) {g:Nat} (D:g<w1.heap.size) (E:w.grownBy w' (some g)):ReN (Out a p es s) w' cs x:=by
 obtain⟨b,d,F,J,M⟩:=h;refine⟨b,d,F,?_,?_⟩
 ·exact((SlX.of_out (X:=fun j=>j<w1.heap.size) J (fun _ y=>y)).over D E).o (fun j y=>by omega)
 ·exact((SlX.of_out (X:=fun j=>j<w1.heap.size) M (fun _ y=>y)).over D E).o (fun j y=>by omega)
end
end Kd
namespace Kd
open Go.RowKit Af Se
open Rg (It Ent Ring RO its Ad Cv OG LI Hu Qb)
open SeL (Bn Bc)
open Ms (Pt Rp Re Tk ptO rpO pSm reC tkC prC ptD pt0)
open Nm (krb)
abbrev ptZ:Array Value:=#[.string ⟨#[]⟩,.string ⟨#[]⟩,.int .u8 0,.int .u8 0,.int .u8 0,.int .u8 0,.int .u8 0,.int .u8 0,.int .u8 0,.int .u8 0,.int .u8 0,.int .u8 0,.int .u8 0,.int .u8 0,.int .u8 0,.int .u8 0,.int .u8 0,.int .u8 0,.int .u8 0,.int .u8 0,.int .u8 0,.int .u8 0,.int .u8 0,.int .u8 0,.int .u8 0,.int .u8 0,.int .u8 0,.int .u8 0,.int .u8 0,.int .u8 0,.int .u8 0,.int .u8 0,.int .u8 0,.int .u8 0,.string ⟨#[]⟩,.int .i64 0,.int .i64 0]
theorem UY:ptA pt0=ptZ:=rfl
def OpnP (w:World) (B:Nat) (p:KP) (es:List Ent) (s:Option Ss) (n i c:Nat) (r:Int×Pt) (e:Ending) (w':World):Prop:=
 ∃es' s',e=.returned (.tuple #[.agg (ptA r.2),.int .i64 r.1])/\Kn w w' B p es s es' s' n i c
theorem Kn.over {w0 w w':World} {B:Nat} {p:KP} {es0 es:List Ent} {s0 s:Option Ss} {n i c:Nat} (h:Kn w0 w B p es0 s0 es s n i c) {g:Nat} (F:w0.heap.size<=g) (hk:Off p es s g) (hw:w.grownBy w' (some g)):Kn w0 w' B p es0 s0 es s n i c:=by
 have D:Chg (fun j=>j=g) w w':=Chg.of_grown hw rfl;exact⟨h.st.chg D hk,h.eq,h.sq,h.chg.trans D (fun j E x=>by omega),h.nw⟩
theorem Nt {ks:Nat->UInt8} {u:Int} {l:Nm.L} (E:0<=u) (D:u<=255):(Bc ks u l).2=0\/(Bc ks u l).2=3:=by
 unfold Bc;rw[if_pos ⟨E,D⟩]
 split
 ·exact .inl rfl
 ·exact .inr rfl
section
variable {w:World} {B:Nat} {p:KP} {es:List Ent} {s:Option Ss} {n i c:Nat}
theorem Xy {t:Tk} {bv:Value} {now:Int} (h:KS w B p es s n i c) (hc:c<900000) (hl:es.length<=1000) (hR:p.R.length<=1000000) (h0:0<=now) (h9:now<=1073741824) (hv:SlN (KSO p es s) w bv t.b) {rz:Int×Pt} (hr:opnL p.R (its es) t now=rz) :
  Calls Tryz.prog 27 #[.pointer (some ⟨p.k,0,none⟩),.agg #[.string ⟨t.s.1.toArray⟩,.string ⟨t.s.2.toArray⟩,.int .i64 t.k,bv],.int .i64 now] w (OpnP w B p es s n i (c+1) rz):=by
 obtain⟨AB,mB,cw,eg,ej⟩:=hv;obtain⟨W,eW⟩:=Ak ((w.alloc (.cells #[.string ⟨t.s.1.toArray⟩,.string ⟨t.s.2.toArray⟩,.int .i64 t.k,bv] 29)).alloc (.cells ptZ 40));have O:Below w.heap.size w W:=eW▸(Ah.alloc Ag _).alloc (by simp) _;have HT:=I (show Blk W w.heap.size 29 #[.string ⟨t.s.1.toArray⟩,.string ⟨t.s.2.toArray⟩,.int .i64 t.k,bv] from eW▸(Blk.new w _ _).alloc _);have hz:Blk W (w.heap.size+1) 40 ptZ:=by have:=Blk.new (w.alloc (.cells #[.string ⟨t.s.1.toArray⟩,.string ⟨t.s.2.toArray⟩,.int .i64 t.k,bv] 29)) 40 ptZ;simp only[World.size_alloc] at this;exact eW▸this
 have E:=I (Kn.start h O);have HB:=I ((show SlN (KSO p es s) w bv t.b from⟨AB,mB,cw,eg,ej⟩).below O);have cB:=I (h.offs (Nat.le_refl w.heap.size));have Z:=I (h.offs (Nat.le_add_right w.heap.size 1));obtain⟨LB,eb⟩:=Ak (t.b.length);have ep:=I cw;rw[<-eb] at cw;subst cw;clear eg ej;obtain⟨zz,cf⟩:=Ak (ptZ);have cR:=I (show zz.size=37 by rw[cf];rfl);have bB:=I (show(Tryz.prog.info? 40).map (·.size)=some zz.size by rw[cR.o];kernel_rfl);have ck:=I (show zz.all (·.oneCell')=true by rw[cf,<-UY];exact Ij _);have bx:=I (show Tryz.prog.built 40 []=some zz by rw[cf,<-UY];exact Uz);have cm:=I (show ptA pt0=zz by rw[cf,UY]);rw[<-cf] at hz;have F:=I hz;have C1:=I (fun(w1:World)=>(Nm.Ks p.R w1 (by omega)));have HR:=I hr;have ek:=I hl;clear hr;have HC:=I hc;clear h O hz hc hl hR cf eb;go_enter Tryz.func27,Tryz.ntmps27
 go_upto_region 1 with fail
 rw[<-eW];clear eW;have cP:=HT.c0;have cy:=HT.c1;have cA:W.cell? ⟨p.k,0,none⟩=some (.string ⟨p.R.toArray⟩):=E.o.st.k.blk.cell 0
 by_cases hx0:t.s.2=krb++p.R
 ·have t1:(t.s.2==krb++p.R)=true:=by rw[hx0];simp
  cases hf:Cv (its es) t.s t.k with
  |none=>
   have er:rz=(4,pt0):=by rw[<-HR.o];unfold opnL;rw[if_pos hx0,hf]
   subst er;have CB:=I (fun(w1:World) (h1:Ring w1 B p.r p.v es)=>LI (z:=t.k) h1 ek.o hf);clear hf hx0
   go_quiet ((go_at_call 58;exact Calls.quiet_of_same ((C1.o _).mono (fun _ _ h=>⟨h.1,h.2.symm⟩))))
   obtain⟨W1,M⟩:=Ak (W.drewN nq);replace HT:=I (show Blk W1 _ _ _ from M▸HT.o.drewN nq);replace F:=I (show Blk W1 _ _ _ from M▸F.o.drewN nq);replace E:=I (show Kn w W1 B p es s es s n i c from M▸E.o.below (below_drewN Ah nq));replace HB:=I (show SlN (KSO p es s) W1 _ _ from M▸HB.o.below (below_drewN Ah nq));rw[<-M];clear M cP cy cA C1
   go_upto_region 3 with fail
   replace HT:=I (show Blk W1.drew _ _ _ from HT.o.drewN 1);replace F:=I (show Blk W1.drew _ _ _ from F.o.drewN 1);replace E:=I E.o.drew;replace HB:=I (show SlN (KSO p es s) W1.drew _ _ from HB.o.below (below_drewN Ah 1))
   go_region_held3 (fun w'=>w'.cell? ⟨p.k,4,none⟩=some (.pointer (some ⟨p.r,0,none⟩))/\w'.cell? ⟨w.heap.size,0,none⟩=some (.string ⟨t.s.1.toArray⟩)/\w'.cell? ⟨w.heap.size,1,none⟩=some (.string ⟨t.s.2.toArray⟩)/\w'.cell? ⟨w.heap.size,2,none⟩=some (.int .i64 t.k)) (exact⟨E.o.st.k.blk.cell 4,HT.o.cell 0,HT.o.cell 1,HT.o.cell 2⟩) ((go_at_call 59;refine Aj (CB.o _ E.o.st.k.ring) ?_;rintro w3 O;clear CB;replace HT:=I (HT.o.below O);replace F:=I (F.o.below O);replace HB:=I (HB.o.below O);replace E:=I (E.o.below O);clear O))
   go_wp2_with (first
    |(refine Mc.AN (by rfl) 40 #[] (by rfl) zz (by simp;exact bx.o) ?_)
    |(refine Wh.Bo (by rfl) 40 (.tmp 6) (.tmp 36) (by rfl) (w.heap.size+1) 40 _ F.o zz (by rfl) (by rfl) (by rfl) bB.o ck.o ?_;rintro V hV hg;replace F:=I hV;replace E:=I (E.o.over (by omega) Z.o hg);clear hV hg bx)
    |fail)
   refine bodyPost_ret (v:=.tuple #[.agg zz,.int .i64 4]) ?_ ?_ ?_
   ·exact Ad (v:=.agg zz) 6 7 40 ⟨w.heap.size+1,0,none⟩ Tryz.results27 rfl (Wh.Al F.o Tryz.underlying40 (by rfl) bB.o) rfl
   ·rfl
   ·exact⟨_,_,by rw[cm.o],E.o.more (by omega)⟩
  |some j=>
   obtain⟨y,hy,_,_⟩:=Hu hf;obtain⟨xe,hx,rfl⟩:=Qb hy;have hk:keyO (its es) (some j)=xe.it.k:=by simp [keyO,hy]
   have e5:opnL p.R (its es) t now=(if (Bc xe.it.k 2 t.b).2=0 then (match ptD (Bc xe.it.k 2 t.b).1 with | none=>((2,pt0):Int×Pt) | some q=>if q.en<now then (7,pt0) else if now+5<q.st then (8,pt0) else (0,q)) else (3,pt0):Int×Pt):=by
    unfold opnL;rw[if_pos hx0,hf];simp only;rw[hk]
    rfl
   replace HR:=I (e5.symm.trans HR.o);have CB:=I (fun(w1:World) (h1:Ring w1 B p.r p.v es)=>OG (z:=t.k) h1 ek.o hf hx);have eo:=I hx;have ct:=I (Nt (ks:=xe.it.k) (u:=2) (l:=t.b) (by decide) (by decide));obtain⟨xr,cQ⟩:∃x,x=Bc xe.it.k 2 t.b:=⟨_,rfl⟩;have EX:=I cQ;rw[<-cQ] at HR ct;clear hf hx hx0 cQ hy hk e5
   go_quiet ((go_at_call 58;exact Calls.quiet_of_same ((C1.o _).mono (fun _ _ h=>⟨h.1,h.2.symm⟩))))
   obtain⟨W1,M⟩:=Ak (W.drewN nq);replace HT:=I (show Blk W1 _ _ _ from M▸HT.o.drewN nq);replace F:=I (show Blk W1 _ _ _ from M▸F.o.drewN nq);replace E:=I (show Kn w W1 B p es s es s n i c from M▸E.o.below (below_drewN Ah nq));replace HB:=I (show SlN (KSO p es s) W1 _ _ from M▸HB.o.below (below_drewN Ah nq));rw[<-M];clear M cP cy cA C1
   go_upto_region 3 with fail
   replace HT:=I (show Blk W1.drew _ _ _ from HT.o.drewN 1);replace F:=I (show Blk W1.drew _ _ _ from F.o.drewN 1);replace E:=I E.o.drew;replace HB:=I (show SlN (KSO p es s) W1.drew _ _ from HB.o.below (below_drewN Ah 1))
   go_region_held3 (fun w'=>w'.cell? ⟨p.k,4,none⟩=some (.pointer (some ⟨p.r,0,none⟩))/\w'.cell? ⟨w.heap.size,0,none⟩=some (.string ⟨t.s.1.toArray⟩)/\w'.cell? ⟨w.heap.size,1,none⟩=some (.string ⟨t.s.2.toArray⟩)/\w'.cell? ⟨w.heap.size,2,none⟩=some (.int .i64 t.k)) (exact⟨E.o.st.k.blk.cell 4,HT.o.cell 0,HT.o.cell 1,HT.o.cell 2⟩) ((go_at_call 59;refine Aj (CB.o _ E.o.st.k.ring) ?_;rintro w3 O;clear CB;replace HT:=I (HT.o.below O);replace F:=I (F.o.below O);replace HB:=I (HB.o.below O);replace E:=I (E.o.below O);clear O))
   have co:=EI E.o.st (.inl ⟨j,xe,eo.o,rfl,rfl⟩) (by have:=HC.o;omega) 2 _ t.b HB.o;rw[<-EX.o] at co;have cL:=HT.c3;rcases ct.o with ho | ho
   ·skip
    rw[ho] at co;replace HR:=I ((if_pos ho).symm.trans HR.o);clear ho ct;cases hd:ptD xr.1 with
    |none=>
     rw[hd] at HR;have er:rz=(2,pt0):=HR.o.symm;subst er;have CD:=I (fun(A:Option Addr) (c0:Nat) (w1:World) (hr:Rd w1 w1.heap.size A (bvs xr.1))=>Mc.Kc A xr.1 c0 w1 hr);rw[show Mc.ptG xr.1=pt0 from by unfold Mc.ptG;rw[hd];rfl,show Mc.ptI xr.1=2 by unfold Mc.ptI;rw[hd];rfl] at CD;have N:(pt0).ss.length=32:=rfl;obtain⟨J,D⟩:=Ak (ptA (pt0));have cp:=I (show J.size=37 by rw[D];exact EH N);have cg:=I (show(Tryz.prog.info? 40).map (·.size)=some J.size by rw[D];exact GA N);have cu:=I (show J.all (·.oneCell')=true by rw[D];exact Ij _);have cd:=I (fun(w1:World) (g:Nat) (O:Blk w1 g 40 J)=>And.intro (aJ N (D▸O)) (Xh N (D▸O)));have ed:=I (show ptA (pt0)=J from D.symm);have ca:J=(Ms.ptC (pt0)).toArray:=D;rw[<-ca] at CD;clear D ca N;clear hd
     go_wp2_with (first
      |(go_at_call 60;refine Calls.mono co ?_;rintro e w6 ⟨v6,ef,s6,rfl,cn,aw⟩;clear co cL HB;have cc:=aw.blk F.o Z.o.no;have bz:=aw.off Z.o F.o.lt;replace F:=I cc;replace Z:=I bz;replace E:=I (E.o.trans aw);obtain⟨A6,m6,cr,cq,cb⟩:=cn;subst cr;have cj:=I cb.rd;clear cq cb aw cc bz HT cB)
      |(go_at_call 61;refine Aj (CD.o _ _ _ cj.o) ?_;rintro w9 O;clear CD cj;replace F:=I (F.o.below O);replace E:=I (E.o.below O);clear O)
      |(refine Wh.By (by rfl) 40 (.tmp 11) (.tmp 50) (by rfl) 40 rfl J (by rfl) (by rfl) (by rw[cp.o];rfl) cg.o cu.o ?_;rintro V hV O;have HV:=I hV;replace E:=I (E.o.below O);replace F:=I (F.o.below O);have ei:=(cd.o _ _ hV).1;have ec:=(cd.o _ _ hV).2;clear O hV cp cd)
      |(refine Mc.AN (by rfl) 40 #[] (by rfl) zz (by simp;exact bx.o) ?_)
      |(refine Wh.Bo (by rfl) 40 (.tmp 6) (.tmp 54) (by rfl) (w.heap.size+1) 40 _ F.o zz (by rfl) (by rfl) (by rfl) bB.o ck.o ?_;rintro V hV hg;replace F:=I hV;replace E:=I (E.o.over (by omega) Z.o hg);clear hV hg bx)
      |fail)
     refine bodyPost_ret (v:=.tuple #[.agg zz,.int .i64 2]) ?_ ?_ ?_
     ·exact Ad (v:=.agg zz) 6 7 40 ⟨w.heap.size+1,0,none⟩ Tryz.results27 rfl (Wh.Al F.o Tryz.underlying40 (by rfl) bB.o) rfl
     ·rfl
     ·exact⟨_,_,by rw[cm.o],E.o.more (by omega)⟩
    |some P=>
     rw[hd] at HR;have CD:=I (fun(A:Option Addr) (c0:Nat) (w1:World) (hr:Rd w1 w1.heap.size A (bvs xr.1))=>Mc.Kc A xr.1 c0 w1 hr);rw[show Mc.ptG xr.1=P from by unfold Mc.ptG;rw[hd];rfl,show Mc.ptI xr.1=0 by unfold Mc.ptI;rw[hd];rfl] at CD;have N:(P).ss.length=32:=by have:=Mc.OW xr.1;unfold Mc.ptG at this;rw[hd] at this;exact this
     obtain⟨J,D⟩:=Ak (ptA (P));have cp:=I (show J.size=37 by rw[D];exact EH N);have cx:=I (show J.size=37 by rw[D];exact EH N);have cg:=I (show(Tryz.prog.info? 40).map (·.size)=some J.size by rw[D];exact GA N);have cu:=I (show J.all (·.oneCell')=true by rw[D];exact Ij _);have cd:=I (fun(w1:World) (g:Nat) (O:Blk w1 g 40 J)=>And.intro (aJ N (D▸O)) (Xh N (D▸O)));have ed:=I (show ptA (P)=J from D.symm);have ca:J=(Ms.ptC (P)).toArray:=D;rw[<-ca] at CD;clear D ca N;clear hd
     go_upto_region 12 with(first
      |(go_at_call 60;refine Calls.mono co ?_;rintro e w6 ⟨v6,ef,s6,rfl,cn,aw⟩;clear co cL HB;have cc:=aw.blk F.o Z.o.no;have bz:=aw.off Z.o F.o.lt;replace F:=I cc;replace Z:=I bz;replace E:=I (E.o.trans aw);obtain⟨A6,m6,cr,cq,cb⟩:=cn;subst cr;have cj:=I cb.rd;clear cq cb aw cc bz HT cB)
      |(go_at_call 61;refine Aj (CD.o _ _ _ cj.o) ?_;rintro w9 O;clear CD cj;replace F:=I (F.o.below O);replace E:=I (E.o.below O);clear O)
      |(refine Wh.By (by rfl) 40 (.tmp 11) (.tmp 50) (by rfl) 40 rfl J (by rfl) (by rfl) (by rw[cp.o];rfl) cg.o cu.o ?_;rintro V hV O;have HV:=I hV;replace E:=I (E.o.below O);replace F:=I (F.o.below O);have ei:=(cd.o _ _ hV).1;have ec:=(cd.o _ _ hV).2;clear O hV cp cd)
      |fail)
     by_cases he:P.en<now
     ·skip
      have er:rz=(7,pt0):=HR.o.symm.trans (if_pos he);subst er
      go_wp2_with (first
       |(refine Mc.AN (by rfl) 40 #[] (by rfl) zz (by simp;exact bx.o) ?_)
       |(refine Wh.Bo (by rfl) 40 (.tmp 6) (.tmp 59) (by rfl) (w.heap.size+1) 40 _ F.o zz (by rfl) (by rfl) (by rfl) bB.o ck.o ?_;rintro V hV hg;replace F:=I hV;replace E:=I (E.o.over (by omega) Z.o hg);clear hV hg bx)
       |fail)
      refine bodyPost_ret (v:=.tuple #[.agg zz,.int .i64 7]) ?_ ?_ ?_
      ·exact Ad (v:=.agg zz) 6 7 40 ⟨w.heap.size+1,0,none⟩ Tryz.results27 rfl (Wh.Al F.o Tryz.underlying40 (by rfl) bB.o) rfl
      ·rfl
      ·exact⟨_,_,by rw[cm.o],E.o.more (by omega)⟩
     ·replace HR:=I ((if_neg he).symm.trans HR.o)
      by_cases he2:now+5<P.st
      ·skip
       have er:rz=(8,pt0):=HR.o.symm.trans (if_pos he2);subst er
       go_wp2_with (first
        |(refine Mc.AN (by rfl) 40 #[] (by rfl) zz (by simp;exact bx.o) ?_)
        |(refine Wh.Bo (by rfl) 40 (.tmp 6) (.tmp 65) (by rfl) (w.heap.size+1) 40 _ F.o zz (by rfl) (by rfl) (by rfl) bB.o ck.o ?_;rintro V hV hg;replace F:=I hV;replace E:=I (E.o.over (by omega) Z.o hg);clear hV hg bx)
        |fail)
       refine bodyPost_ret (v:=.tuple #[.agg zz,.int .i64 8]) ?_ ?_ ?_
       ·exact Ad (v:=.agg zz) 6 7 40 ⟨w.heap.size+1,0,none⟩ Tryz.results27 rfl (Wh.Al F.o Tryz.underlying40 (by rfl) bB.o) rfl
       ·rfl
       ·exact⟨_,_,by rw[cm.o],E.o.more (by omega)⟩
      ·skip
       have er:rz=(0,P):=HR.o.symm.trans (if_neg he2);subst er;clear bx
       go_wp2_with (first
        |(refine Wh.Au (by rfl) 40 (.tmp 11) (by rfl) w9.heap.size 0 (by rfl) J _ (Wh.Ae HV.o) Tryz.underlying40 (by rfl) cg.o ?_)
        |(refine Wh.Bo (by rfl) 40 (.tmp 6) (.tmp 66) (by rfl) (w.heap.size+1) 40 _ F.o J (by rfl) (by rfl) (by rw[cR.o,cx.o]) cg.o cu.o ?_;rintro V2 ea hg;replace F:=I ea;replace E:=I (E.o.over (by omega) Z.o hg);clear ea hg cx)
        |fail)
       refine bodyPost_ret (v:=.tuple #[.agg J,.int .i64 0]) ?_ ?_ ?_
       ·exact Ad (v:=.agg J) 6 7 40 ⟨w.heap.size+1,0,none⟩ Tryz.results27 rfl (Wh.Al F.o Tryz.underlying40 (by rfl) cg.o) rfl
       ·rfl
       ·exact⟨_,_,by rw[ed.o],E.o.more (by omega)⟩
   ·skip
    rw[ho] at co;have er:rz=(3,pt0):=HR.o.symm.trans (if_neg (by omega));subst er;clear ho ct
    go_wp2_with (first
     |(go_at_call 60;refine Calls.mono co ?_;rintro e w6 ⟨v6,ef,s6,rfl,cn,aw⟩;clear co cL HB;have cc:=aw.blk F.o Z.o.no;have bz:=aw.off Z.o F.o.lt;replace F:=I cc;replace Z:=I bz;replace E:=I (E.o.trans aw);obtain⟨A6,m6,cr,cq,cb⟩:=cn;subst cr;have cj:=I cb.rd;clear cq cb aw cc bz HT cB)
     |(refine Mc.AN (by rfl) 40 #[] (by rfl) zz (by simp;exact bx.o) ?_)
     |(refine Wh.Bo (by rfl) 40 (.tmp 6) (.tmp 46) (by rfl) (w.heap.size+1) 40 _ F.o zz (by rfl) (by rfl) (by rfl) bB.o ck.o ?_;rintro V hV hg;replace F:=I hV;replace E:=I (E.o.over (by omega) Z.o hg);clear hV hg bx)
     |fail)
    refine bodyPost_ret (v:=.tuple #[.agg zz,.int .i64 3]) ?_ ?_ ?_
    ·exact Ad (v:=.agg zz) 6 7 40 ⟨w.heap.size+1,0,none⟩ Tryz.results27 rfl (Wh.Al F.o Tryz.underlying40 (by rfl) bB.o) rfl
    ·rfl
    ·exact⟨_,_,by rw[cm.o],E.o.more (by omega)⟩
 ·have t1:(t.s.2==krb++p.R)=false:=by simpa using hx0
  have er:rz=(6,pt0):=by rw[<-HR.o];unfold opnL;rw[if_neg hx0]
  subst er;clear hx0
  go_quiet ((go_at_call 58;exact Calls.quiet_of_same ((C1.o _).mono (fun _ _ h=>⟨h.1,h.2.symm⟩))))
  obtain⟨W1,M⟩:=Ak (W.drewN nq);replace HT:=I (show Blk W1 _ _ _ from M▸HT.o.drewN nq);replace F:=I (show Blk W1 _ _ _ from M▸F.o.drewN nq);replace E:=I (show Kn w W1 B p es s es s n i c from M▸E.o.below (below_drewN Ah nq));replace HB:=I (show SlN (KSO p es s) W1 _ _ from M▸HB.o.below (below_drewN Ah nq));rw[<-M];clear M cP cy cA C1
  go_wp2_with (first
   |(refine Mc.AN (by rfl) 40 #[] (by rfl) zz (by simp;exact bx.o) ?_)
   |(refine Wh.Bo (by rfl) 40 (.tmp 6) (.tmp 21) (by rfl) (w.heap.size+1) 40 _ F.o zz (by rfl) (by rfl) (by rfl) bB.o ck.o ?_;rintro V hV hg;replace F:=I hV;replace E:=I (E.o.over (by omega) Z.o hg);clear hV hg bx)
   |fail)
  refine bodyPost_ret (v:=.tuple #[.agg zz,.int .i64 6]) ?_ ?_ ?_
  ·exact Ad (v:=.agg zz) 6 7 40 ⟨w.heap.size+1,0,none⟩ Tryz.results27 rfl (Wh.Al F.o Tryz.underlying40 (by rfl) bB.o) rfl
  ·rfl
  ·exact⟨_,_,by rw[cm.o],E.o.more (by omega)⟩
theorem UZ {t:Tk} {bv:Value} {now:Int} (h:KS w B p es s n i c) (M:c<900000) (E:es.length<=1000) (D:p.R.length<=1000000) (N:0<=now) (F:now<=1073741824) (J:SlN (KSO p es s) w bv t.b) :
 Calls Tryz.prog 27 #[.pointer (some ⟨p.k,0,none⟩),.agg #[.string ⟨t.s.1.toArray⟩,.string ⟨t.s.2.toArray⟩,.int .i64 t.k,bv],.int .i64 now] w (OpnP w B p es s n i (c+1) (opnL p.R (its es) t now)):=Xy h M E D N F J rfl
end
open Rg (AQ Bd)
open Ms (An anD anC)
section
variable {w:World} {B:Nat} {p:KP} {es:List Ent} {s:Option Ss} {n i c:Nat}
def AutP (w:World) (B:Nat) (p:KP) (es:List Ent) (s:Option Ss) (n i c:Nat) (r:Int) (e:Ending) (w':World):Prop:=
 ∃es' s',e=.returned (.int .i64 r)/\Kn w w' B p es s es' s' n i c
theorem dP {x:Nat} {ss a:Nm.L} {cl:Rg.Pr} {av:Value} {now:Int} (h:KS w B p es s n i c) (hc:c<900000) (hh:Hdl es s x (ksOf ss)) (h0:0<=now) (h9:now<=1073741824) (hv:SlN (KSO p es s) w av a) (ho:(Bc (ksOf ss) 7 a).2=3) :
  Calls Tryz.prog 29 #[.pointer (some ⟨x,0,none⟩),av,prV cl,.int .i64 now] w (AutP w B p es s n i (c+1) 3):=by
 have hb:Below w.heap.size w (w.alloc (.cells #[.string ⟨cl.1.toArray⟩,.string ⟨cl.2.toArray⟩] 23)):=Ah.alloc Ag _;have hk:=Kn.start h hb;have M:=h.offs (Nat.le_refl w.heap.size);have J:=I (Blk.new w 23 #[.string ⟨cl.1.toArray⟩,.string ⟨cl.2.toArray⟩]);have co:=EI hk.st hh (by omega) 7 av a (hv.below hb);obtain⟨AB,mB,Z,bz,ca⟩:=hv;obtain⟨LB,N⟩:=Ak (a.length);rw[<-N] at Z;subst Z;obtain⟨xr,E⟩:∃x,x=Bc (ksOf ss) 7 a:=⟨_,rfl⟩;rw[<-E] at co;rw[<-E] at ho;rw[ho] at co;clear ho;have HK:=I hk;have O:=I M;clear h hc hh bz ca hb hk M N E;go_enter Tryz.func29,Tryz.ntmps29
 go_wp2_with (first
  |(go_at_call 60;refine Calls.mono co ?_;rintro e w6 ⟨v6,cd,s6,rfl,bx,D⟩;clear co;have F:=D.blk J.o O.o.no;replace J:=I F;replace HK:=I (HK.o.trans D);obtain⟨A6,m6,bB,cb,aw⟩:=bx;subst bB;have cc:=I aw.rd;clear cb aw D F O)
  |fail)
 go_ret;exact⟨_,_,rfl,HK.o⟩
theorem dQ {x:Nat} {ss a:Nm.L} {cl:Rg.Pr} {av:Value} {now:Int} (h:KS w B p es s n i c) (hc:c<900000) (hh:Hdl es s x (ksOf ss)) (h0:0<=now) (h9:now<=1073741824) (hv:SlN (KSO p es s) w av a) (ho:(Bc (ksOf ss) 7 a).2=0) (hd:anD (Bc (ksOf ss) 7 a).1=none) :
  Calls Tryz.prog 29 #[.pointer (some ⟨x,0,none⟩),av,prV cl,.int .i64 now] w (AutP w B p es s n i (c+1) 2):=by
 have E:Below w.heap.size w (w.alloc (.cells #[.string ⟨cl.1.toArray⟩,.string ⟨cl.2.toArray⟩] 23)):=Ah.alloc Ag _;have hk:=Kn.start h E;have O:=h.offs (Nat.le_refl w.heap.size);have D:=I (Blk.new w 23 #[.string ⟨cl.1.toArray⟩,.string ⟨cl.2.toArray⟩]);have co:=EI hk.st hh (by omega) 7 av a (hv.below E);obtain⟨AB,mB,bx,ca,cc⟩:=hv;obtain⟨LB,Z⟩:=Ak (a.length);rw[<-Z] at bx;subst bx;obtain⟨xr,J⟩:∃x,x=Bc (ksOf ss) 7 a:=⟨_,rfl⟩;rw[<-J] at co;rw[<-J] at ho hd;rw[ho] at co;have CD:=I (fun(A:Option Addr) (c0:Nat) (w1:World) (hr:Rd w1 w1.heap.size A (bvs xr.1))=>Mc.Dq A xr.1 c0 w1 hr);rw[show Ms.anG xr.1=Ms.an0 from by unfold Ms.anG;rw[hd];rfl,show Ms.anI xr.1=2 by unfold Ms.anI;rw[hd];rfl] at CD;rw[show(anC (Ms.an0)).toArray=#[.string ⟨(Ms.an0).c.1.toArray⟩,.string ⟨(Ms.an0).c.2.toArray⟩,.int .i64 (Ms.an0).t,.int .i64 (Ms.an0).q] from rfl] at CD;clear ho hd;have HK:=I hk;have aw:=I O;clear h hc hh ca cc E hk O Z J;go_enter Tryz.func29,Tryz.ntmps29
 go_wp2_with (first
  |(go_at_call 60;refine Calls.mono co ?_;rintro e w6 ⟨v6,ck,s6,rfl,bB,F⟩;clear co;have N:=F.blk D.o aw.o.no;replace D:=I N;replace HK:=I (HK.o.trans F);obtain⟨A6,m6,cb,cd,bz⟩:=bB;subst cb;have M:=I bz.rd;clear cd bz F N aw)
  |(go_at_call 62;refine Aj (CD.o _ _ _ M.o) ?_;rintro w9 E;clear CD M;replace D:=I (D.o.below E);replace HK:=I (HK.o.below E);have cg:=D.c0;have cj:=D.c1;have cf:=D.o.lt;clear E)
  |fail)
 go_ret;exact⟨_,_,rfl,HK.o.alloc _⟩
theorem dS {x:Nat} {ss a:Nm.L} {cl:Rg.Pr} {av:Value} {now:Int} (h:KS w B p es s n i c) (hc:c<900000) (hh:Hdl es s x (ksOf ss)) (h0:0<=now) (h9:now<=1073741824) (hv:SlN (KSO p es s) w av a) (ho:(Bc (ksOf ss) 7 a).2=0) {E:An} (hd:anD (Bc (ksOf ss) 7 a).1=some E) (aw:E.c≠cl) :
  Calls Tryz.prog 29 #[.pointer (some ⟨x,0,none⟩),av,prV cl,.int .i64 now] w (AutP w B p es s n i (c+1) 9):=by
 have F:Below w.heap.size w (w.alloc (.cells #[.string ⟨cl.1.toArray⟩,.string ⟨cl.2.toArray⟩] 23)):=Ah.alloc Ag _;have hk:=Kn.start h F;have Z:=h.offs (Nat.le_refl w.heap.size);have D:=I (Blk.new w 23 #[.string ⟨cl.1.toArray⟩,.string ⟨cl.2.toArray⟩]);have co:=EI hk.st hh (by omega) 7 av a (hv.below F);obtain⟨AB,mB,bB,cc,cf⟩:=hv;obtain⟨LB,bx⟩:=Ak (a.length);rw[<-bx] at bB;subst bB;obtain⟨xr,M⟩:∃x,x=Bc (ksOf ss) 7 a:=⟨_,rfl⟩;rw[<-M] at co;rw[<-M] at ho hd;rw[ho] at co;have CD:=I (fun(A:Option Addr) (c0:Nat) (w1:World) (hr:Rd w1 w1.heap.size A (bvs xr.1))=>Mc.Dq A xr.1 c0 w1 hr);rw[show Ms.anG xr.1=E from by unfold Ms.anG;rw[hd];rfl,show Ms.anI xr.1=0 by unfold Ms.anI;rw[hd];rfl] at CD;rw[show(anC (E)).toArray=#[.string ⟨(E).c.1.toArray⟩,.string ⟨(E).c.2.toArray⟩,.int .i64 (E).t,.int .i64 (E).q] from rfl] at CD;have q1:=Bd aw;clear ho hd aw;have HK:=I hk;have bz:=I Z;clear h hc hh cc cf F hk Z bx M;go_enter Tryz.func29,Tryz.ntmps29
 go_wp2_with (first
  |(go_at_call 60;refine Calls.mono co ?_;rintro e w6 ⟨v6,cn,s6,rfl,cb,J⟩;clear co;have O:=J.blk D.o bz.o.no;replace D:=I O;replace HK:=I (HK.o.trans J);obtain⟨A6,m6,cd,cg,ca⟩:=cb;subst cd;have N:=I ca.rd;clear cg ca J O bz)
  |(go_at_call 62;refine Aj (CD.o _ _ _ N.o) ?_;rintro w9 F;clear CD N;replace D:=I (D.o.below F);replace HK:=I (HK.o.below F);have ck:=D.c0;have cm:=D.c1;have cj:=D.o.lt;clear F)
  |fail)
 go_ret;exact⟨_,_,rfl,HK.o.alloc _⟩
theorem dU {x:Nat} {ss a:Nm.L} {cl:Rg.Pr} {av:Value} {now:Int} (h:KS w B p es s n i c) (hc:c<900000) (hh:Hdl es s x (ksOf ss)) (h0:0<=now) (h9:now<=1073741824) (hv:SlN (KSO p es s) w av a) (ho:(Bc (ksOf ss) 7 a).2=0) {E:An} (hd:anD (Bc (ksOf ss) 7 a).1=some E) (aw:E.c=cl) (ht:E.t<now - 5) :
  Calls Tryz.prog 29 #[.pointer (some ⟨x,0,none⟩),av,prV cl,.int .i64 now] w (AutP w B p es s n i (c+1) 8):=by
 have F:Below w.heap.size w (w.alloc (.cells #[.string ⟨cl.1.toArray⟩,.string ⟨cl.2.toArray⟩] 23)):=Ah.alloc Ag _;have hk:=Kn.start h F;have Z:=h.offs (Nat.le_refl w.heap.size);have D:=I (Blk.new w 23 #[.string ⟨cl.1.toArray⟩,.string ⟨cl.2.toArray⟩]);have co:=EI hk.st hh (by omega) 7 av a (hv.below F);obtain⟨AB,mB,bB,cc,cf⟩:=hv;obtain⟨LB,bx⟩:=Ak (a.length);rw[<-bx] at bB;subst bB;obtain⟨xr,M⟩:∃x,x=Bc (ksOf ss) 7 a:=⟨_,rfl⟩;rw[<-M] at co;rw[<-M] at ho hd;rw[ho] at co;have CD:=I (fun(A:Option Addr) (c0:Nat) (w1:World) (hr:Rd w1 w1.heap.size A (bvs xr.1))=>Mc.Dq A xr.1 c0 w1 hr);rw[show Ms.anG xr.1=E from by unfold Ms.anG;rw[hd];rfl,show Ms.anI xr.1=0 by unfold Ms.anI;rw[hd];rfl] at CD;rw[show(anC (E)).toArray=#[.string ⟨(E).c.1.toArray⟩,.string ⟨(E).c.2.toArray⟩,.int .i64 (E).t,.int .i64 (E).q] from rfl] at CD;have q1:=AQ aw;have d1:decide (E.t<now - 5)=true:=decide_eq_true ht;clear ho hd aw ht;have HK:=I hk;have bz:=I Z;clear h hc hh cc cf F hk Z bx M;go_enter Tryz.func29,Tryz.ntmps29
 go_wp2_with (first
  |(go_at_call 60;refine Calls.mono co ?_;rintro e w6 ⟨v6,cn,s6,rfl,cb,J⟩;clear co;have O:=J.blk D.o bz.o.no;replace D:=I O;replace HK:=I (HK.o.trans J);obtain⟨A6,m6,cd,cg,ca⟩:=cb;subst cd;have N:=I ca.rd;clear cg ca J O bz)
  |(go_at_call 62;refine Aj (CD.o _ _ _ N.o) ?_;rintro w9 F;clear CD N;replace D:=I (D.o.below F);replace HK:=I (HK.o.below F);have ck:=D.c0;have cm:=D.c1;have cj:=D.o.lt;clear F)
  |fail)
 go_ret;exact⟨_,_,rfl,HK.o.alloc _⟩
theorem dV {x:Nat} {ss a:Nm.L} {cl:Rg.Pr} {av:Value} {now:Int} (h:KS w B p es s n i c) (hc:c<900000) (hh:Hdl es s x (ksOf ss)) (h0:0<=now) (h9:now<=1073741824) (hv:SlN (KSO p es s) w av a) (ho:(Bc (ksOf ss) 7 a).2=0) {E:An} (hd:anD (Bc (ksOf ss) 7 a).1=some E) (cb:E.c=cl) (ht:¬E.t<now - 5) (N:now+5<E.t) :
  Calls Tryz.prog 29 #[.pointer (some ⟨x,0,none⟩),av,prV cl,.int .i64 now] w (AutP w B p es s n i (c+1) 8):=by
 have F:Below w.heap.size w (w.alloc (.cells #[.string ⟨cl.1.toArray⟩,.string ⟨cl.2.toArray⟩] 23)):=Ah.alloc Ag _;have hk:=Kn.start h F;have aw:=h.offs (Nat.le_refl w.heap.size);have D:=I (Blk.new w 23 #[.string ⟨cl.1.toArray⟩,.string ⟨cl.2.toArray⟩]);have co:=EI hk.st hh (by omega) 7 av a (hv.below F);obtain⟨AB,mB,bB,cd,cg⟩:=hv;obtain⟨LB,bx⟩:=Ak (a.length);rw[<-bx] at bB;subst bB;obtain⟨xr,M⟩:∃x,x=Bc (ksOf ss) 7 a:=⟨_,rfl⟩;rw[<-M] at co;rw[<-M] at ho hd;rw[ho] at co;have CD:=I (fun(A:Option Addr) (c0:Nat) (w1:World) (hr:Rd w1 w1.heap.size A (bvs xr.1))=>Mc.Dq A xr.1 c0 w1 hr);rw[show Ms.anG xr.1=E from by unfold Ms.anG;rw[hd];rfl,show Ms.anI xr.1=0 by unfold Ms.anI;rw[hd];rfl] at CD;rw[show(anC (E)).toArray=#[.string ⟨(E).c.1.toArray⟩,.string ⟨(E).c.2.toArray⟩,.int .i64 (E).t,.int .i64 (E).q] from rfl] at CD;have q1:=AQ cb;have d1:decide (E.t<now - 5)=false:=decide_eq_false ht;have d2:decide (now+5<E.t)=true:=decide_eq_true N;clear ho hd cb ht N;have HK:=I hk;have bz:=I aw;clear h hc hh cd cg F hk aw bx M;go_enter Tryz.func29,Tryz.ntmps29
 go_wp2_with (first
  |(go_at_call 60;refine Calls.mono co ?_;rintro e w6 ⟨v6,cp,s6,rfl,cc,J⟩;clear co;have Z:=J.blk D.o bz.o.no;replace D:=I Z;replace HK:=I (HK.o.trans J);obtain⟨A6,m6,cf,cj,ca⟩:=cc;subst cf;have O:=I ca.rd;clear cj ca J Z bz)
  |(go_at_call 62;refine Aj (CD.o _ _ _ O.o) ?_;rintro w9 F;clear CD O;replace D:=I (D.o.below F);replace HK:=I (HK.o.below F);have cm:=D.c0;have cn:=D.c1;have ck:=D.o.lt;clear F)
  |fail)
 go_ret;exact⟨_,_,rfl,HK.o.alloc _⟩
theorem dW {x:Nat} {ss a:Nm.L} {cl:Rg.Pr} {av:Value} {now:Int} (h:KS w B p es s n i c) (hc:c<900000) (hh:Hdl es s x (ksOf ss)) (h0:0<=now) (h9:now<=1073741824) (hv:SlN (KSO p es s) w av a) (ho:(Bc (ksOf ss) 7 a).2=0) {E:An} (hd:anD (Bc (ksOf ss) 7 a).1=some E) (cb:E.c=cl) (ht:¬E.t<now - 5) (N:¬now+5<E.t) :
  Calls Tryz.prog 29 #[.pointer (some ⟨x,0,none⟩),av,prV cl,.int .i64 now] w (AutP w B p es s n i (c+1) 0):=by
 have F:Below w.heap.size w (w.alloc (.cells #[.string ⟨cl.1.toArray⟩,.string ⟨cl.2.toArray⟩] 23)):=Ah.alloc Ag _;have hk:=Kn.start h F;have aw:=h.offs (Nat.le_refl w.heap.size);have D:=I (Blk.new w 23 #[.string ⟨cl.1.toArray⟩,.string ⟨cl.2.toArray⟩]);have co:=EI hk.st hh (by omega) 7 av a (hv.below F);obtain⟨AB,mB,bB,cd,cg⟩:=hv;obtain⟨LB,bx⟩:=Ak (a.length);rw[<-bx] at bB;subst bB;obtain⟨xr,M⟩:∃x,x=Bc (ksOf ss) 7 a:=⟨_,rfl⟩;rw[<-M] at co;rw[<-M] at ho hd;rw[ho] at co;have CD:=I (fun(A:Option Addr) (c0:Nat) (w1:World) (hr:Rd w1 w1.heap.size A (bvs xr.1))=>Mc.Dq A xr.1 c0 w1 hr);rw[show Ms.anG xr.1=E from by unfold Ms.anG;rw[hd];rfl,show Ms.anI xr.1=0 by unfold Ms.anI;rw[hd];rfl] at CD;rw[show(anC (E)).toArray=#[.string ⟨(E).c.1.toArray⟩,.string ⟨(E).c.2.toArray⟩,.int .i64 (E).t,.int .i64 (E).q] from rfl] at CD;have q1:=AQ cb;have d1:decide (E.t<now - 5)=false:=decide_eq_false ht;have d2:decide (now+5<E.t)=false:=decide_eq_false N;clear ho hd cb ht N;have HK:=I hk;have bz:=I aw;clear h hc hh cd cg F hk aw bx M;go_enter Tryz.func29,Tryz.ntmps29
 go_wp2_with (first
  |(go_at_call 60;refine Calls.mono co ?_;rintro e w6 ⟨v6,cp,s6,rfl,cc,J⟩;clear co;have Z:=J.blk D.o bz.o.no;replace D:=I Z;replace HK:=I (HK.o.trans J);obtain⟨A6,m6,cf,cj,ca⟩:=cc;subst cf;have O:=I ca.rd;clear cj ca J Z bz)
  |(go_at_call 62;refine Aj (CD.o _ _ _ O.o) ?_;rintro w9 F;clear CD O;replace D:=I (D.o.below F);replace HK:=I (HK.o.below F);have cm:=D.c0;have cn:=D.c1;have ck:=D.o.lt;clear F)
  |fail)
 go_ret;exact⟨_,_,rfl,HK.o.alloc _⟩
theorem Xz {x:Nat} {ss a:Nm.L} {cl:Rg.Pr} {av:Value} {now:Int} (h:KS w B p es s n i c) (M:c<900000) (E:Hdl es s x (ksOf ss)) (N:0<=now) (F:now<=1073741824) (J:SlN (KSO p es s) w av a) :
  Calls Tryz.prog 29 #[.pointer (some ⟨x,0,none⟩),av,prV cl,.int .i64 now] w (AutP w B p es s n i (c+1) (autL ss a cl now)):=by
 rcases Nt (ks:=ksOf ss) (u:=7) (l:=a) (by decide) (by decide) with D | D
 ·cases hd:anD (Bc (ksOf ss) 7 a).1 with
  |none=>
   have e:autL ss a cl now=2:=by unfold autL;rw[if_pos D,hd]
   rw[e];exact dQ h M E N F J D hd
  |some xa=>
   have e:autL ss a cl now=if xa.c=cl then (if xa.t<now - 5\/now+5<xa.t then 8 else 0) else 9:=by unfold autL;rw[if_pos D,hd]
   rw[e]
   by_cases hne:xa.c=cl
   ·rw[if_pos hne]
    by_cases ht:xa.t<now - 5
    ·rw[if_pos (.inl ht)];exact dU h M E N F J D hd hne ht
    ·by_cases ht2:now+5<xa.t
     ·rw[if_pos (.inr ht2)];exact dV h M E N F J D hd hne ht ht2
     ·rw[if_neg (by omega)];exact dW h M E N F J D hd hne ht ht2
   ·rw[if_neg hne];exact dS h M E N F J D hd hne
 ·have e:autL ss a cl now=3:=by unfold autL;rw[if_neg (by omega)]
  rw[e];exact dP h M E N F J D
end
end Kd
end Go.Proofs.YthgignaohimadaaGreat
