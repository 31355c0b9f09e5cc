import Derived.Test.YthhlieppeahjeaaGreatZKdcSkews12
set_option maxHeartbeats 25600000
set_option maxRecDepth 100000
set_option linter.unusedVariables false
set_option linter.unusedSimpArgs false
namespace Go.Proofs.YthhlieppeahjeaaGreat
namespace Kd
open Go.RowKit Af Se
open Nm (strs BN)
open Rg (It Ent Ring RO its)
open Rt (Tp Sm SlV SlP TpV isT PW)
section
variable {w:World} {B:Nat} {es:List Ent} {T:Tp} {R:Nm.L} {v1 v2 v:Value} {r:Nat}
theorem tp_v {w1:World} (h1:SlV w1 w1.heap.size v1 T.R) (h2:SlP w1 w1.heap.size v2 T.K) (hp:T.P = []):TpV w1 w1.heap.size (.agg (tpA v1 v2)) T:=
 ⟨v1,v2,.slice none 0 0,rfl,h1,h2,none,0,by rw[hp];rfl,by rw[hp];exact Nat.le_refl _,.inl hp⟩
theorem XZ (hs:Sm T) (hp:T.P = []) (hkt:∀x∈T.K,x.1.length≤3000∧x.2.length≤3000) (hT:isT T=true) (hRl:R.length≤1000000) (h1:SlV w w.heap.size v1 T.R) (h2:SlP w w.heap.size v2 T.K) (hR:R∈T.R) (hr:Ring w B r v es) (hB:B≤w.heap.size) :
  Calls Tryz.prog 16 #[.string ⟨R.toArray⟩,.agg (tpA v1 v2),.pointer (some ⟨r,0,none⟩)] w fun e w'=>∃k lo hi u1 u2,e = .returned (.tuple #[.pointer (some ⟨k,0,none⟩),.int .i64 0])∧w.heap.size≤k∧w.heap.size≤lo∧KD w' B ⟨k,r,lo,hi,R,T,v,u1,u2,.slice none 0 0⟩ es 0 0∧Below w.heap.size w w':=by
 have hv1:=h1;have hv2:=h2;obtain⟨A1,c1,rfl,hc1,r1⟩:=h1;obtain⟨A2,c2,rfl,hc2,r2⟩:=h2;obtain⟨W,eW⟩:∃W,W=w.alloc (.cells (tpA (.slice A1 T.R.length c1) (.slice A2 T.K.length c2)) 71):=⟨_,rfl⟩;have hb:Below w.heap.size w W:=eW▸Ah.alloc Ag _;have HT:=I (show Blk W w.heap.size 71 (tpA (.slice A1 T.R.length c1) (.slice A2 T.K.length c2)) from eW▸Blk.new w _ _);have HB:=I hb;have CI:=I (PW T _ W.heap.size W hs (tp_v (hv1.on hb) (hv2.on hb) hp) Ag);rw[hT] at CI;have CC:=I (fun(w1:World) (b1:Below w.heap.size w w1)=>Tr.Dq T.R A1 c1 w.heap.size R w1 (by have:=hs.r;omega) (r1.below b1));have CL:=I (fun w1=>BN R w1 (by omega));have CT:=I (fun(w1:World) (b1:Below w.heap.size w w1)=>QZ T hs hp hkt _ _ w1 (hv1.on b1) (hv2.on b1));obtain⟨n,en⟩:∃n,n=T.R.length:=⟨_,rfl⟩;obtain⟨m,em⟩:∃m,m=T.K.length:=⟨_,rfl⟩;rw[←en] at CI CC CT HT eW⊢;rw[←em] at CI CT HT eW⊢;have hd:decide (R∈T.R)=true:=decide_eq_true hR;rw[hd] at CC;have HRG:=I hr;have HWL:=I hB;clear hd hR hr hv1 hv2 r1 r2 hc1 hc2 hs hp hkt hT hRl hb en em hB;go_enter Tryz.func16,Tryz.ntmps16
 go_upto_region 1 with fail
 rw[←eW];clear eW;have kq0:=HT.o.cell 0;have kq1:=HT.o.cell 1;have kq2:=HT.o.cell 2
 go_upto_region 3 with(first
  |(go_at_call 38;refine Calls.mono CI.o ?_;rintro e w2 ⟨rfl,hb⟩;clear CI kq0 kq1 kq2;replace HT:=I (HT.o.below hb);replace HB:=HB.t hb;have kq0:=HT.o.cell 0;clear hb)
  |(go_at_call 39;refine Calls.mono (CC.o _ HB.o) ?_;rintro e w3 ⟨rfl,hw⟩;clear CC;subst hw)
  |fail)
 clear kq0;refine Reg.Bb (fun w'=>Blk w' w.heap.size 71 (tpA (.slice A1 n c1) (.slice A2 m c2))) 9 rfl (by kernel_rfl) (HT.o.drewN 1) ?_;replace HT:=I (show Blk w2.drew _ _ _ from HT.o.drewN 1);replace HB:=I (below_drewN HB.o 1);refine Reg.tk 0 (v:=?vn1) rfl HT.o (fun w' hS=>?hn1) ?rn1
 case hn1=>go_simp<;>rfl
 simp only[Act.put,U,Aa,Ab];refine Reg.tk 2 (v:=?vn2) rfl HT.o (fun w' hS=>?hn2) ?rn2
 case hn2=>have k0:=Blk.cell hS 0;have k1:=Blk.cell hS 1;have k2:=Blk.cell hS 2;go_simp<;>rfl
 simp only[Act.put,U,Aa,Ab];refine Reg.tk 4 (v:=?vn3) rfl HT.o (fun w' hS=>?hn3) ?rn3
 case hn3=>go_simp<;>rfl
 simp only[Act.put,U,Aa,Ab];refine Reg.Ad [1] (by kernel_rfl) (by simp) ?_;intro j0 hj0;obtain rfl:j0=1:=by simpa using hj0
 clear hj0
 right
 refine⟨_,_,_,_,_,_,40,#[.string ⟨R.toArray⟩],rfl,by rfl,by go_simp,?_⟩;refine Calls.mono (CL.o _) ?_;rintro e wa ⟨rfl,hb⟩;replace HT:=I (HT.o.below hb);replace HB:=HB.t hb;clear hb;refine⟨_,rfl,HT.o,?_⟩;simp only[Act.put,U,Aa,Ab];refine Reg.Ad [3] (by kernel_rfl) (by simp) ?_;intro j0 hj0;obtain rfl:j0=3:=by simpa using hj0
 clear hj0
 right
 refine⟨_,_,_,_,_,_,41,#[.agg (tpA (.slice A1 n c1) (.slice A2 m c2))],rfl,by rfl,by go_simp,?_⟩;refine Calls.mono (CT.o _ HB.o) ?_;rintro e wb ⟨u1,u2,rfl,htp,hb⟩;have HAS:=I HB.o.size;replace HT:=I (HT.o.below hb);replace HB:=HB.t hb;have HWB:=I hb.size;have HTP:=I htp;clear hb htp;refine⟨_,rfl,HT.o,?_⟩;simp only[Act.put,U,Aa,Ab];refine Reg.tk 5 (v:=?vn4) rfl HT.o (fun w' hS=>?hn4) ?rn4
 case hn4=>go_simp<;>rfl
 simp only[Act.put,U,Aa,Ab];refine Reg.Ad [6] (by kernel_rfl) (by simp) ?_;intro j0 hj0;obtain rfl:j0=6:=by simpa using hj0
 clear hj0
 left
 obtain⟨A8,c8,A9,c9,e8,e9,_⟩:=HTP.o.sizes;subst e8 e9;have hb:Below wb.heap.size wb (wb.alloc (.cells #[.string ⟨R.toArray⟩,(.slice A8 T.R.length c8),(.slice A9 T.K.length c9),.slice none 0 0,.pointer (some ⟨r,0,none⟩),.int .i64 0,.int .i64 0] 108)):=Ah.alloc Ag _;have hnb:=Blk.new wb 108 #[.string ⟨R.toArray⟩,(.slice A8 T.R.length c8),(.slice A9 T.K.length c9),.slice none 0 0,.pointer (some ⟨r,0,none⟩),.int .i64 0,.int .i64 0];refine⟨_,_,_,_,_,_,.pointer (some ⟨wb.heap.size,0,none⟩),wb.alloc (.cells #[.string ⟨R.toArray⟩,(.slice A8 T.R.length c8),(.slice A9 T.K.length c9),.slice none 0 0,.pointer (some ⟨r,0,none⟩),.int .i64 0,.int .i64 0] 108),rfl,by rfl,(by go_simp<;>rfl),HT.o.below hb,?_⟩;simp only[Act.put,U,Aa,Ab];obtain⟨wc,ewc⟩:∃z,z=wb.alloc (.cells #[.string ⟨R.toArray⟩,(.slice A8 T.R.length c8),(.slice A9 T.K.length c9),.slice none 0 0,.pointer (some ⟨r,0,none⟩),.int .i64 0,.int .i64 0] 108):=⟨_,rfl⟩;rw[←ewc] at hb hnb⊢;clear ewc;replace HT:=I (HT.o.below hb);have HBN:=I hb;have HNB:=I hnb;have HBC:=HB.t hb;clear hb hnb;refine Reg.tk 7 (v:=?vn5) rfl HT.o (fun w' hS=>?hn5) ?rn5
 case hn5=>go_simp<;>rfl
 simp only[Act.put,U,Aa,Ab];refine Reg.tk 8 (v:=?vn6) rfl HT.o (fun w' hS=>?hn6) ?rn6
 case hn6=>go_simp<;>rfl
 simp only[Act.put,U,Aa,Ab];refine wpAnyH_done (by kernel_rfl) ?_ _
 go_wp2_with fail
 go_ret2
 have hsz:=HAS.o;have hwb:=HWB.o;have hbs:=HBN.o.size;have hwl:=HWL.o;refine⟨wb.heap.size,wa.heap.size,wb.heap.size,_,_,rfl,by omega,hsz,⟨HNB.o,(HRG.o.below HBC.o),?_,?_,?_,?_,?_,?_,?_⟩,HBC.o⟩
 ·exact HTP.o.keep (fun b o hb=>World.cell?_of_block (a:=⟨b,o,none⟩) (HBN.o.block b hb.2)) (fun b hb=>hb)
 ·show B≤wb.heap.size;omega
 ·show B≤wa.heap.size;omega
 ·show wb.heap.size≤_;omega
 ·intro hx;have:=HRG.o.own_lt hx;simp only at this;omega
 ·intro hx;exact absurd hx.2 (Nat.lt_irrefl _)
 ·intro j hx hy;have:=HRG.o.own_lt hx;have:=hy.1;simp only at *;omega
end
end Kd
namespace OpenQ
open Go.Joins Go.ChangeShapes Go.WideShapes Go.ChangeAt Go.RowKit Go.Deep Go.Proofs.YthhlieppeahjeaaGreat Af Rg Se
structure Ac where
 k:Int
 p:Pr
 y:Nat→UInt8
 n:Int
def aC (a:Ac):List Value:=.int .i64 a.k :: .string ⟨a.p.1.toArray⟩ :: .string ⟨a.p.2.toArray⟩ :: ((AJ a.y).toList++[.int .i64 a.n])
def RdAc (w:World) (B:Nat) (A:Option Addr) (l:List Ac):Prop:=
 l = []∨∃g o,A=some ⟨g,o,none⟩∧g<B∧∀i x,l[i]? = some x→w.rangeAt g (o+i*36) (aC x)
theorem RdAc.keep {w w':World} {B:Nat} {A:Option Addr} {l:List Ac} (h:RdAc w B A l) (hb:Below B w w'):RdAc w' B A l:=by
 rcases h with h | ⟨g,o,h1,h2,h3⟩
 ·exact .inl h
 ·exact .inr ⟨g,o,h1,h2,fun i x hx j v hv=>(hb.cell (p:=⟨g,_,none⟩) h2).trans (h3 i x hx j v hv)⟩
section
variable {H:Type} {enc:TypeId×Value→H} {W:World}
end
end OpenQ
namespace Rg
open Go.RowKit Af Se OpenQ
section
variable {w:World} {g:Nat} {t:TypeId} {x:Ac}
end
section
variable {w w':World} {B r q:Nat} {v v' dv dv':Value} {es es':List Ent} {l l':List It} {g:Nat}
def Ap (r:Nat) (v:Value) (es:List Ent) (q:Nat) (dv:Value):Prop:=∀k,DO q dv k→¬RO r v es k
theorem Wk (h:Ap r v es q dv) (hd:DRing w B q dv l) (hn:∀k,RO r v' es' k→RO r v es k∨w.heap.size≤k):Ap r v' es' q dv:=fun k hk x=>by
 rcases hn k x with y | y
 ·exact h k hk y
 ·have:=hd.own_lt hk;omega
theorem Ya (h:Ap r v es q dv) (hr:Ring w B r v es) (hn:∀k,DO q dv' k→DO q dv k∨w.heap.size≤k):Ap r v es q dv':=fun k hk x=>by
 rcases hn k hk with y | y
 ·exact h k y x
 ·have:=hr.own_lt x;omega
theorem Wl (h:Ap r v es q dv) (hd:DRing w B q dv l) (hc:Chg (AT r v) w w'):DRing w' B q dv l:=hd.chg hc (fun k hk x=>h k hk (VX x))
theorem Tz (h:Ap r v es q dv) (hr:Ring w B r v es) (hc:Chg (DO q dv) w w'):Ring w' B r v es:=hr.chg hc (fun k hk x=>h k x hk)
end
end Rg
namespace Kd
open Go.RowKit Af Se
open Rg (It Ent Ring RO DRing DO Ap its addL addE addN Num Bv prB)
structure Sc (a:Bool) (w:World) (B r:Nat) (v:Value) (es:List Ent) (q:Nat) (dv:Value) (j:Nat) (G:Nat→Prop):Prop where
 c:Ring w B r v es
 d:DRing w B q dv ((itX a).take j)
 e:its es=(itX a).take j
 z:Cz es 0
 ap:Ap r v es q dv
 g:∀k,G k→k<w.heap.size∧¬RO r v es k∧¬DO q dv k
section
variable {a:Bool} {G:Nat→Prop} {w w':World} {B r q j:Nat} {v dv:Value} {es:List Ent}
theorem Sc.below (h:Sc a w B r v es q dv j G) (hb:Below w.heap.size w w'):Sc a w' B r v es q dv j G:=⟨h.c.below hb,h.d.below hb,h.e,h.z,h.ap,fun k hk=>⟨Nat.lt_of_lt_of_le (h.g k hk).1 hb.size,(h.g k hk).2⟩⟩
theorem Sc.more {G2:Nat→Prop} (h:Sc a w B r v es q dv j G) (hg:∀k,G2 k→G k∨(k<w.heap.size∧¬RO r v es k∧¬DO q dv k)):Sc a w B r v es q dv j G2:=⟨h.c,h.d,h.e,h.z,h.ap,fun k hk=>(hg k hk).elim (h.g k) id⟩
theorem Sc.put (h:Sc a w B r v es q dv j G) {g:Nat} (hG:G g) (hg:w.grownBy w' (some g)):Sc a w' B r v es q dv j G:=by
 have hc:Chg (fun k=>k=g) w w':=⟨hg.os,hg.tape,hg.output,hg.size,fun i hi hn=>hg.block i hi (fun e=>hn (by injection e))⟩;exact⟨h.c.chg hc (fun k hk e=>(h.g g hG).2.1 (e▸hk)),h.d.chg hc (fun k hk e=>(h.g g hG).2.2 (e▸hk)),h.e,h.z,h.ap,fun k hk=>⟨Nat.lt_of_lt_of_le (h.g k hk).1 hg.size,(h.g k hk).2⟩⟩
theorem take_len (h:Sc a w B r v es q dv j G):es.length≤5∧((itX a).take j).length≤5:=by
 have h1:(itX a).length≤5:=by cases a<;>decide
 have h2:((itX a).take j).length≤5:=by rw[List.length_take];omega
 have h3:=congrArg List.length h.e;rw[Rg.Cw] at h3;omega
theorem Mm {l:List It} {p:Ms.Pr} (h:addE l p=0) (k:Nat→UInt8):prB p=true∧l.length<40∧addL l p k=l++[⟨p,Bv l p+1,k⟩]:=by
 unfold addE at h
 split at h
 ·rename_i h1
  split at h
  ·rename_i h2
   refine⟨h1,h2,?_⟩;rw[addL,if_pos h1,if_pos h2]
  ·cases h
 ·cases h
theorem Ra (a:Bool) {i:It} (h:(itX a)[j]? = some i):i.p.1.length≤1000∧i.p.2.length≤1000:=by
 have h1:=Mm (Nt a h) i.k;have:=Ms.Er (p:=i.p) h1.1;omega
theorem JU (h:Sc a w B r v es q dv j G) (hB:B≤w.heap.size) {i:It} (hi:(itX a)[j]? = some i) {cK:Array Value} (ecK:cK=AJ i.k):Calls Tryz.prog 14 #[.pointer (some ⟨r,0,none⟩),prV i.p,.agg cK] w fun e w'=>
  (∃n:Int,e = .returned (.tuple #[.int .i64 n,.int .i64 0]))∧∃v' es',Ring w' B r v' es'∧DRing w' B q dv ((itX a).take j)∧its es'=(itX a).take (j+1)∧Cz es' 0∧Ap r v' es' q dv∧(∀k,G k→k<w'.heap.size∧¬RO r v' es' k∧¬DO q dv k)∧(∀k,G k→w'.heap[k]? = w.heap[k]?)∧Below B w w':=by
 subst ecK;have hp:=Ra a hi;have hl:=take_len h;refine(Rg.VW B r v es i.p i.k w h.c hB (by omega) (by omega) (by omega) (by rw[h.e];exact Tq (numX a) j)).mono ?_;rintro e w' ⟨rfl,v',es',h1,h2,h3,h4,h5⟩;rw[h.e,Nt a hi];refine⟨⟨_,rfl⟩,v',es',h1,Rg.Wl h.ap h.d h4,?_,?_,Rg.Wk h.ap h.d h5,fun k hk=>⟨Nat.lt_of_lt_of_le (h.g k hk).1 h4.size,fun x=>?_,(h.g k hk).2.2⟩,fun k hk=>h4.block k (h.g k hk).1 (fun x=>(h.g k hk).2.1 (Rg.VX x)),h4.below hB (fun k _ x=>h.c.own_lo (Rg.VX x))⟩
 rotate_left 2
 ·rcases h5 k x with y | y
  ·exact(h.g k hk).2.1 y
  ·have:=(h.g k hk).1;omega
 ·rw[h2,h.e,(Mm (Nt a hi) i.k).2.2,UA a hi]
 ·rcases h3 with rfl | ⟨x,rfl,z1,z2,z3⟩
  ·exact h.z
  ·intro j2 e2 he
   by_cases g:j2<es.length
   ·rw[List.getElem?_append_left g] at he
    exact h.z j2 e2 he
   ·rw[List.getElem?_append_right (by omega)] at he
    have:e2=x:=by
     rcases hk:j2 - es.length with _ | k
     ·rw[hk] at he;injection he with he;exact he.symm
     ·rw[hk] at he;simp at he
    subst this;omega
theorem Ny {v':Value} {es':List Ent} (hc:Ring w B r v' es') (hd:DRing w B q dv ((itX a).take j)) (he:its es'=(itX a).take (j+1)) (hz:Cz es' 0) (hap:Ap r v' es' q dv) (hg:∀k,G k→k<w.heap.size∧¬RO r v' es' k∧¬DO q dv k) (hB:B≤w.heap.size) {i:It} (hi:(itX a)[j]? = some i) {cK:Array Value} (ecK:cK=AJ i.k):Calls Tryz.prog 15 #[.pointer (some ⟨q,0,none⟩),prV i.p,.agg cK] w fun e w'=>
  (∃n:Int,e = .returned (.tuple #[.int .i64 n,.int .i64 0]))∧∃dv',Sc a w' B r v' es' q dv' (j+1) G∧(∀k,G k→w'.heap[k]? = w.heap[k]?)∧Below B w w':=by
 subst ecK;have hp:=Ra a hi;have hk:=Mm (Nt a hi) i.k;have hn:=(Uz a hi).1;refine(Rg.VZ B q dv _ i.p i.k w hd hB (by omega) (by omega) hk.1 hk.2.1 (by omega)).mono ?_;rintro e w' ⟨rfl,dv',h1,h2,h3⟩;refine⟨⟨_,rfl⟩,dv',⟨Rg.Tz hap hc h2,by rw[UA a hi];exact h1,he,hz,Rg.Ya hap hc h3,fun k hk=>⟨Nat.lt_of_lt_of_le (hg k hk).1 h2.size,(hg k hk).2.1,fun x=>?_⟩⟩,fun k hk=>h2.block k (hg k hk).1 (hg k hk).2.2,h2.below hB (fun k _ x=>hd.own_lo x)⟩;rcases h3 k x with y | y
 ·exact(hg k hk).2.2 y
 ·have:=(hg k hk).1;omega
end
end Kd
namespace Mc
open Go.RowKit Af DerP Ms
theorem AV (p:Pr) (w:World) (h1:p.1.length≤1000000000) (h2:p.2.length≤1000000000):Calls Tryz.prog 33 #[prV p] w fun e w'=>e = .returned (.bool (prB p))∧Below w.heap.size w w':=Nm.AV p.1 p.2 w h1 h2
theorem DF (n a b:Int) (w:World):Calls Tryz.prog 181 #[.int .i64 n,.int .i64 a,.int .i64 b] w fun e w'=>e = .returned (.bool (inB n a b))∧w=w':=by
 cases h1:decide (a≤n) with
 |false=>
  go_enter Tryz.func181,Tryz.ntmps181
  go_wp2
  go_ret;exact⟨by rw[inB,h1];rfl,rfl⟩
 |true=>
  go_enter Tryz.func181,Tryz.ntmps181
  go_wp2
  go_ret;exact⟨by rw[inB,h1];rfl,rfl⟩
theorem DZ (n:Int) (w:World):Calls Tryz.prog 163 #[.int .i64 n] w fun e w'=>e = .returned (.bool (tmB n))∧w=w':=by
 have c1:=DF n 0 1073741824 w;rw[show inB n 0 1073741824=tmB n from rfl] at c1;go_enter Tryz.func163,Tryz.ntmps163
 go_wp2_with (go_at_call 181;refine Calls.mono c1 ?_;rintro e w1 ⟨rfl,rfl⟩)
 go_ret;exact⟨rfl,rfl⟩
theorem EH (n:Int) (w:World):Calls Tryz.prog 169 #[.int .i64 n] w fun e w'=>e = .returned (.bool (tmB n))∧w=w':=by
 have c1:=DF n 0 1073741824 w;rw[show inB n 0 1073741824=tmB n from rfl] at c1;go_enter Tryz.func169,Tryz.ntmps169
 go_wp2_with (go_at_call 181;refine Calls.mono c1 ?_;rintro e w1 ⟨rfl,rfl⟩)
 go_ret;exact⟨rfl,rfl⟩
theorem Fo (b:L) (A:Option Addr) (c:Nat) (w:World):Calls Tryz.prog 180 #[.slice A b.length c] w fun e w'=>e = .returned (.bool (CH b))∧w=w':=by
 have c1:=DF (b.length:Int) 1 800 w;rw[VO] at c1;go_enter Tryz.func180,Tryz.ntmps180
 go_wp2_with (go_at_call 181;refine Calls.mono c1 ?_;rintro e w1 ⟨rfl,rfl⟩)
 go_ret;exact⟨rfl,rfl⟩
theorem EI (t:Tk) (A:Option Addr) (c:Nat) (w:World) (hs:pSm t.s):Calls Tryz.prog 179 #[.agg #[.string ⟨t.s.1.toArray⟩,.string ⟨t.s.2.toArray⟩,.int .i64 t.k,.slice A t.b.length c]] w fun e w'=>e = .returned (.bool (tkB t))∧Below w.heap.size w w':=by
 have hb0:=(Below.refl w.heap.size w).alloc Ag (.cells #[.string ⟨t.s.1.toArray⟩,.string ⟨t.s.2.toArray⟩,.int .i64 t.k,.slice A t.b.length c] 31);have HB:=I hb0;have HK:=I (Blk.new w 31 #[.string ⟨t.s.1.toArray⟩,.string ⟨t.s.2.toArray⟩,.int .i64 t.k,.slice A t.b.length c]);clear hb0;have T1:=I (fun w1=>AV t.s w1 hs.1 hs.2);have T2:=I (fun w1=>DF t.k 1 255 w1);have T3:=I (fun w1=>Fo t.b A c w1);cases h1:prB t.s with
 |false=>
  rw[h1] at T1;have E:=I (show tkB t=false by rw[tkB,h1];rfl);clear h1;go_enter Tryz.func179,Tryz.ntmps179
  go_wp2_with (go_at_call 33;(with_reducible refine Calls.mono (T1.o _) ?_);rintro e w1 ⟨rfl,hb⟩;replace HK:=I (HK.o.below hb);replace HB:=HB.t hb;clear hb T1;(try clear k0 k1 k2 k3);have k0:=HK.o.cell 0;have k1:=HK.o.cell 1;have k2:=HK.o.cell 2;have k3:=HK.o.cell 3;simp only[List.getElem?_toArray,List.getElem?_cons_zero,List.getElem?_cons_succ] at k0 k1 k2 k3)
  go_ret;exact⟨by rw[E.o];rfl,HB.o⟩
 |true=>
  rw[h1] at T1;cases h2:inB t.k 1 255 with
  |false=>
   rw[h2] at T2;have E:=I (show tkB t=false by rw[tkB,h1,h2];rfl);clear h1 h2;go_enter Tryz.func179,Tryz.ntmps179
   go_wp2_with (first
    |(go_at_call 33;(with_reducible refine Calls.mono (T1.o _) ?_);rintro e w1 ⟨rfl,hb⟩;replace HK:=I (HK.o.below hb);replace HB:=HB.t hb;clear hb T1;(try clear k0 k1 k2 k3);have k0:=HK.o.cell 0;have k1:=HK.o.cell 1;have k2:=HK.o.cell 2;have k3:=HK.o.cell 3;simp only[List.getElem?_toArray,List.getElem?_cons_zero,List.getElem?_cons_succ] at k0 k1 k2 k3)
    |(go_at_call 181;(with_reducible refine Calls.mono (T2.o _) ?_);rintro e w2 ⟨rfl,hw⟩;subst hw;clear T2))
   go_ret;exact⟨by rw[E.o];rfl,HB.o⟩
  |true=>
   rw[h2] at T2;have E:=I (show tkB t=CH t.b by rw[tkB,h1,h2];rfl);clear h1 h2;go_enter Tryz.func179,Tryz.ntmps179
   go_wp2_with (first
    |(go_at_call 33;(with_reducible refine Calls.mono (T1.o _) ?_);rintro e w1 ⟨rfl,hb⟩;replace HK:=I (HK.o.below hb);replace HB:=HB.t hb;clear hb T1;(try clear k0 k1 k2 k3);have k0:=HK.o.cell 0;have k1:=HK.o.cell 1;have k2:=HK.o.cell 2;have k3:=HK.o.cell 3;simp only[List.getElem?_toArray,List.getElem?_cons_zero,List.getElem?_cons_succ] at k0 k1 k2 k3)
    |(go_at_call 181;(with_reducible refine Calls.mono (T2.o _) ?_);rintro e w2 ⟨rfl,hw⟩;subst hw;clear T2)
    |(go_at_call 180;(with_reducible refine Calls.mono (T3.o _) ?_);rintro e w3 ⟨rfl,hw⟩;subst hw;clear T3))
   go_ret;exact⟨by rw[E.o];rfl,HB.o⟩
theorem Mn (a:An) (w:World) (hs:pSm a.c):Calls Tryz.prog 151 #[.agg #[.string ⟨a.c.1.toArray⟩,.string ⟨a.c.2.toArray⟩,.int .i64 a.t,.int .i64 a.q]] w fun e w'=>e = .returned (.bool (anB a))∧Below w.heap.size w w':=by
 have hb0:=(Below.refl w.heap.size w).alloc Ag (.cells #[.string ⟨a.c.1.toArray⟩,.string ⟨a.c.2.toArray⟩,.int .i64 a.t,.int .i64 a.q] 28);have HB:=I hb0;have HK:=I (Blk.new w 28 #[.string ⟨a.c.1.toArray⟩,.string ⟨a.c.2.toArray⟩,.int .i64 a.t,.int .i64 a.q]);clear hb0;have T1:=I (fun w1=>AV a.c w1 hs.1 hs.2);have T2:=I (fun w1=>DZ a.t w1);have T3:=I (fun w1=>EH a.q w1);cases h1:prB a.c with
 |false=>
  rw[h1] at T1;have E:=I (show anB a=false by rw[anB,h1];rfl);clear h1;go_enter Tryz.func151,Tryz.ntmps151
  go_wp2_with (go_at_call 33;(with_reducible refine Calls.mono (T1.o _) ?_);rintro e w1 ⟨rfl,hb⟩;replace HK:=I (HK.o.below hb);replace HB:=HB.t hb;clear hb T1;(try clear k0 k1 k2 k3);have k0:=HK.o.cell 0;have k1:=HK.o.cell 1;have k2:=HK.o.cell 2;have k3:=HK.o.cell 3;simp only[List.getElem?_toArray,List.getElem?_cons_zero,List.getElem?_cons_succ] at k0 k1 k2 k3)
  go_ret;exact⟨by rw[E.o];rfl,HB.o⟩
 |true=>
  rw[h1] at T1;cases h2:tmB a.t with
  |false=>
   rw[h2] at T2;have E:=I (show anB a=false by rw[anB,h1,h2];rfl);clear h1 h2;go_enter Tryz.func151,Tryz.ntmps151
   go_wp2_with (first
    |(go_at_call 33;(with_reducible refine Calls.mono (T1.o _) ?_);rintro e w1 ⟨rfl,hb⟩;replace HK:=I (HK.o.below hb);replace HB:=HB.t hb;clear hb T1;(try clear k0 k1 k2 k3);have k0:=HK.o.cell 0;have k1:=HK.o.cell 1;have k2:=HK.o.cell 2;have k3:=HK.o.cell 3;simp only[List.getElem?_toArray,List.getElem?_cons_zero,List.getElem?_cons_succ] at k0 k1 k2 k3)
    |(go_at_call 163;(with_reducible refine Calls.mono (T2.o _) ?_);rintro e w2 ⟨rfl,hw⟩;subst hw;clear T2))
   go_ret;exact⟨by rw[E.o];rfl,HB.o⟩
  |true=>
   rw[h2] at T2;have E:=I (show anB a=tmB a.q by rw[anB,h1,h2];rfl);clear h1 h2;go_enter Tryz.func151,Tryz.ntmps151
   go_wp2_with (first
    |(go_at_call 33;(with_reducible refine Calls.mono (T1.o _) ?_);rintro e w1 ⟨rfl,hb⟩;replace HK:=I (HK.o.below hb);replace HB:=HB.t hb;clear hb T1;(try clear k0 k1 k2 k3);have k0:=HK.o.cell 0;have k1:=HK.o.cell 1;have k2:=HK.o.cell 2;have k3:=HK.o.cell 3;simp only[List.getElem?_toArray,List.getElem?_cons_zero,List.getElem?_cons_succ] at k0 k1 k2 k3)
    |(go_at_call 163;(with_reducible refine Calls.mono (T2.o _) ?_);rintro e w2 ⟨rfl,hw⟩;subst hw;clear T2)
    |(go_at_call 169;(with_reducible refine Calls.mono (T3.o _) ?_);rintro e w3 ⟨rfl,hw⟩;subst hw;clear T3))
   go_ret;exact⟨by rw[E.o];rfl,HB.o⟩
theorem TA (q:As) (w:World) (hs:pSm q.c) (hs2:pSm q.s):Calls Tryz.prog 130 #[.agg #[.string ⟨q.c.1.toArray⟩,.string ⟨q.c.2.toArray⟩,.string ⟨q.s.1.toArray⟩,.string ⟨q.s.2.toArray⟩,.int .i64 q.t,.int .i64 q.no]] w fun e w'=>e = .returned (.bool (asB q))∧Below w.heap.size w w':=by
 have hb0:=(Below.refl w.heap.size w).alloc Ag (.cells #[.string ⟨q.c.1.toArray⟩,.string ⟨q.c.2.toArray⟩,.string ⟨q.s.1.toArray⟩,.string ⟨q.s.2.toArray⟩,.int .i64 q.t,.int .i64 q.no] 83);have HB:=I hb0;have HK:=I (Blk.new w 83 #[.string ⟨q.c.1.toArray⟩,.string ⟨q.c.2.toArray⟩,.string ⟨q.s.1.toArray⟩,.string ⟨q.s.2.toArray⟩,.int .i64 q.t,.int .i64 q.no]);clear hb0;have T1:=I (fun w1=>AV q.c w1 hs.1 hs.2);have T2:=I (fun w1=>AV q.s w1 hs2.1 hs2.2);have T3:=I (fun w1=>DZ q.t w1);have T4:=I (fun w1=>EH q.no w1);cases h1:prB q.c with
 |false=>
  rw[h1] at T1;have E:=I (show asB q=false by rw[asB,h1];rfl);clear h1;go_enter Tryz.func130,Tryz.ntmps130
  go_wp2_with (go_at_call 33;(with_reducible refine Calls.mono (T1.o _) ?_);rintro e w1 ⟨rfl,hb⟩;replace HK:=I (HK.o.below hb);replace HB:=HB.t hb;clear hb T1;(try clear k0 k1 k2 k3 k4 k5);have k0:=HK.o.cell 0;have k1:=HK.o.cell 1;have k2:=HK.o.cell 2;have k3:=HK.o.cell 3;have k4:=HK.o.cell 4;have k5:=HK.o.cell 5;simp only[List.getElem?_toArray,List.getElem?_cons_zero,List.getElem?_cons_succ] at k0 k1 k2 k3 k4 k5)
  go_ret;exact⟨by rw[E.o];rfl,HB.o⟩
 |true=>
  rw[h1] at T1;cases h2:prB q.s with
  |false=>
   rw[h2] at T2;have E:=I (show asB q=false by rw[asB,h1,h2];rfl);clear h1 h2;go_enter Tryz.func130,Tryz.ntmps130
   go_wp2_with (first
    |(go_at_call 33;(with_reducible refine Calls.mono (T1.o _) ?_);rintro e w1 ⟨rfl,hb⟩;replace HK:=I (HK.o.below hb);replace HB:=HB.t hb;clear hb T1;(try clear k0 k1 k2 k3 k4 k5);have k0:=HK.o.cell 0;have k1:=HK.o.cell 1;have k2:=HK.o.cell 2;have k3:=HK.o.cell 3;have k4:=HK.o.cell 4;have k5:=HK.o.cell 5;simp only[List.getElem?_toArray,List.getElem?_cons_zero,List.getElem?_cons_succ] at k0 k1 k2 k3 k4 k5)
    |(go_at_call 33;(with_reducible refine Calls.mono (T2.o _) ?_);rintro e w2 ⟨rfl,hb⟩;replace HK:=I (HK.o.below hb);replace HB:=HB.t hb;clear hb T2;(try clear k0 k1 k2 k3 k4 k5);have k0:=HK.o.cell 0;have k1:=HK.o.cell 1;have k2:=HK.o.cell 2;have k3:=HK.o.cell 3;have k4:=HK.o.cell 4;have k5:=HK.o.cell 5;simp only[List.getElem?_toArray,List.getElem?_cons_zero,List.getElem?_cons_succ] at k0 k1 k2 k3 k4 k5))
   go_ret;exact⟨by rw[E.o];rfl,HB.o⟩
  |true=>
   rw[h2] at T2;cases h3:tmB q.t with
   |false=>
    rw[h3] at T3;have E:=I (show asB q=false by rw[asB,h1,h2,h3];rfl);clear h1 h2 h3;go_enter Tryz.func130,Tryz.ntmps130
    go_wp2_with (first
     |(go_at_call 33;(with_reducible refine Calls.mono (T1.o _) ?_);rintro e w1 ⟨rfl,hb⟩;replace HK:=I (HK.o.below hb);replace HB:=HB.t hb;clear hb T1;(try clear k0 k1 k2 k3 k4 k5);have k0:=HK.o.cell 0;have k1:=HK.o.cell 1;have k2:=HK.o.cell 2;have k3:=HK.o.cell 3;have k4:=HK.o.cell 4;have k5:=HK.o.cell 5;simp only[List.getElem?_toArray,List.getElem?_cons_zero,List.getElem?_cons_succ] at k0 k1 k2 k3 k4 k5)
     |(go_at_call 33;(with_reducible refine Calls.mono (T2.o _) ?_);rintro e w2 ⟨rfl,hb⟩;replace HK:=I (HK.o.below hb);replace HB:=HB.t hb;clear hb T2;(try clear k0 k1 k2 k3 k4 k5);have k0:=HK.o.cell 0;have k1:=HK.o.cell 1;have k2:=HK.o.cell 2;have k3:=HK.o.cell 3;have k4:=HK.o.cell 4;have k5:=HK.o.cell 5;simp only[List.getElem?_toArray,List.getElem?_cons_zero,List.getElem?_cons_succ] at k0 k1 k2 k3 k4 k5)
     |(go_at_call 163;(with_reducible refine Calls.mono (T3.o _) ?_);rintro e w3 ⟨rfl,hw⟩;subst hw;clear T3))
    go_ret;exact⟨by rw[E.o];rfl,HB.o⟩
   |true=>
    rw[h3] at T3;have E:=I (show asB q=tmB q.no by rw[asB,h1,h2,h3];rfl);clear h1 h2 h3;go_enter Tryz.func130,Tryz.ntmps130
    go_wp2_with (first
     |(go_at_call 33;(with_reducible refine Calls.mono (T1.o _) ?_);rintro e w1 ⟨rfl,hb⟩;replace HK:=I (HK.o.below hb);replace HB:=HB.t hb;clear hb T1;(try clear k0 k1 k2 k3 k4 k5);have k0:=HK.o.cell 0;have k1:=HK.o.cell 1;have k2:=HK.o.cell 2;have k3:=HK.o.cell 3;have k4:=HK.o.cell 4;have k5:=HK.o.cell 5;simp only[List.getElem?_toArray,List.getElem?_cons_zero,List.getElem?_cons_succ] at k0 k1 k2 k3 k4 k5)
     |(go_at_call 33;(with_reducible refine Calls.mono (T2.o _) ?_);rintro e w2 ⟨rfl,hb⟩;replace HK:=I (HK.o.below hb);replace HB:=HB.t hb;clear hb T2;(try clear k0 k1 k2 k3 k4 k5);have k0:=HK.o.cell 0;have k1:=HK.o.cell 1;have k2:=HK.o.cell 2;have k3:=HK.o.cell 3;have k4:=HK.o.cell 4;have k5:=HK.o.cell 5;simp only[List.getElem?_toArray,List.getElem?_cons_zero,List.getElem?_cons_succ] at k0 k1 k2 k3 k4 k5)
     |(go_at_call 163;(with_reducible refine Calls.mono (T3.o _) ?_);rintro e w3 ⟨rfl,hw⟩;subst hw;clear T3)
     |(go_at_call 169;(with_reducible refine Calls.mono (T4.o _) ?_);rintro e w4 ⟨rfl,hw⟩;subst hw;clear T4))
    go_ret;exact⟨by rw[E.o];rfl,HB.o⟩
theorem Rb (q:Tg) (A1 A2:Option Addr) (c1 c2:Nat) (w:World) (hs:pSm q.t.s) (hs2:pSm q.s):Calls Tryz.prog 131 #[.agg #[.string ⟨q.t.s.1.toArray⟩,.string ⟨q.t.s.2.toArray⟩,.int .i64 q.t.k,.slice A1 q.t.b.length c1,.slice A2 q.a.length c2,.string ⟨q.s.1.toArray⟩,.string ⟨q.s.2.toArray⟩,.int .i64 q.u,.int .i64 q.no]] w fun e w'=>e = .returned (.bool (tgB q))∧Below w.heap.size w w':=by
 have hb0:=(Below.refl w.heap.size w).alloc Ag (.cells #[.string ⟨q.t.s.1.toArray⟩,.string ⟨q.t.s.2.toArray⟩,.int .i64 q.t.k,.slice A1 q.t.b.length c1,.slice A2 q.a.length c2,.string ⟨q.s.1.toArray⟩,.string ⟨q.s.2.toArray⟩,.int .i64 q.u,.int .i64 q.no] 33);have HB:=I hb0;have HK:=I (Blk.new w 33 #[.string ⟨q.t.s.1.toArray⟩,.string ⟨q.t.s.2.toArray⟩,.int .i64 q.t.k,.slice A1 q.t.b.length c1,.slice A2 q.a.length c2,.string ⟨q.s.1.toArray⟩,.string ⟨q.s.2.toArray⟩,.int .i64 q.u,.int .i64 q.no]);clear hb0;have T1:=I (fun w1=>EI q.t A1 c1 w1 hs);have T2:=I (fun w1=>Fo q.a A2 c2 w1);have T3:=I (fun w1=>AV q.s w1 hs2.1 hs2.2);have T4:=I (fun w1=>DZ q.u w1);have T5:=I (fun w1=>EH q.no w1);cases h1:tkB q.t with
 |false=>
  rw[h1] at T1;have E:=I (show tgB q=false by rw[tgB,h1];rfl);clear h1;go_enter Tryz.func131,Tryz.ntmps131
  go_wp2_with (go_at_call 179;(with_reducible refine Calls.mono (T1.o _) ?_);rintro e w1 ⟨rfl,hb⟩;replace HK:=I (HK.o.below hb);replace HB:=HB.t hb;clear hb T1;(try clear k0 k1 k2 k3 k4 k5 k6 k7 k8);have k0:=HK.o.cell 0;have k1:=HK.o.cell 1;have k2:=HK.o.cell 2;have k3:=HK.o.cell 3;have k4:=HK.o.cell 4;have k5:=HK.o.cell 5;have k6:=HK.o.cell 6;have k7:=HK.o.cell 7;have k8:=HK.o.cell 8;simp only[List.getElem?_toArray,List.getElem?_cons_zero,List.getElem?_cons_succ] at k0 k1 k2 k3 k4 k5 k6 k7 k8)
  go_ret;exact⟨by rw[E.o];rfl,HB.o⟩
 |true=>
  rw[h1] at T1;cases h2:CH q.a with
  |false=>
   rw[h2] at T2;have E:=I (show tgB q=false by rw[tgB,h1,h2];rfl);clear h1 h2;go_enter Tryz.func131,Tryz.ntmps131
   go_wp2_with (first
    |(go_at_call 179;(with_reducible refine Calls.mono (T1.o _) ?_);rintro e w1 ⟨rfl,hb⟩;replace HK:=I (HK.o.below hb);replace HB:=HB.t hb;clear hb T1;(try clear k0 k1 k2 k3 k4 k5 k6 k7 k8);have k0:=HK.o.cell 0;have k1:=HK.o.cell 1;have k2:=HK.o.cell 2;have k3:=HK.o.cell 3;have k4:=HK.o.cell 4;have k5:=HK.o.cell 5;have k6:=HK.o.cell 6;have k7:=HK.o.cell 7;have k8:=HK.o.cell 8;simp only[List.getElem?_toArray,List.getElem?_cons_zero,List.getElem?_cons_succ] at k0 k1 k2 k3 k4 k5 k6 k7 k8)
    |(go_at_call 180;(with_reducible refine Calls.mono (T2.o _) ?_);rintro e w2 ⟨rfl,hw⟩;subst hw;clear T2))
   go_ret;exact⟨by rw[E.o];rfl,HB.o⟩
  |true=>
   rw[h2] at T2;cases h3:prB q.s with
   |false=>
    rw[h3] at T3;have E:=I (show tgB q=false by rw[tgB,h1,h2,h3];rfl);clear h1 h2 h3;go_enter Tryz.func131,Tryz.ntmps131
    go_wp2_with (first
     |(go_at_call 179;(with_reducible refine Calls.mono (T1.o _) ?_);rintro e w1 ⟨rfl,hb⟩;replace HK:=I (HK.o.below hb);replace HB:=HB.t hb;clear hb T1;(try clear k0 k1 k2 k3 k4 k5 k6 k7 k8);have k0:=HK.o.cell 0;have k1:=HK.o.cell 1;have k2:=HK.o.cell 2;have k3:=HK.o.cell 3;have k4:=HK.o.cell 4;have k5:=HK.o.cell 5;have k6:=HK.o.cell 6;have k7:=HK.o.cell 7;have k8:=HK.o.cell 8;simp only[List.getElem?_toArray,List.getElem?_cons_zero,List.getElem?_cons_succ] at k0 k1 k2 k3 k4 k5 k6 k7 k8)
     |(go_at_call 180;(with_reducible refine Calls.mono (T2.o _) ?_);rintro e w2 ⟨rfl,hw⟩;subst hw;clear T2)
     |(go_at_call 33;(with_reducible refine Calls.mono (T3.o _) ?_);rintro e w3 ⟨rfl,hb⟩;replace HK:=I (HK.o.below hb);replace HB:=HB.t hb;clear hb T3;(try clear k0 k1 k2 k3 k4 k5 k6 k7 k8);have k0:=HK.o.cell 0;have k1:=HK.o.cell 1;have k2:=HK.o.cell 2;have k3:=HK.o.cell 3;have k4:=HK.o.cell 4;have k5:=HK.o.cell 5;have k6:=HK.o.cell 6;have k7:=HK.o.cell 7;have k8:=HK.o.cell 8;simp only[List.getElem?_toArray,List.getElem?_cons_zero,List.getElem?_cons_succ] at k0 k1 k2 k3 k4 k5 k6 k7 k8))
    go_ret;exact⟨by rw[E.o];rfl,HB.o⟩
   |true=>
    rw[h3] at T3;cases h4:tmB q.u with
    |false=>
     rw[h4] at T4;have E:=I (show tgB q=false by rw[tgB,h1,h2,h3,h4];rfl);clear h1 h2 h3 h4;go_enter Tryz.func131,Tryz.ntmps131
     go_wp2_with (first
      |(go_at_call 179;(with_reducible refine Calls.mono (T1.o _) ?_);rintro e w1 ⟨rfl,hb⟩;replace HK:=I (HK.o.below hb);replace HB:=HB.t hb;clear hb T1;(try clear k0 k1 k2 k3 k4 k5 k6 k7 k8);have k0:=HK.o.cell 0;have k1:=HK.o.cell 1;have k2:=HK.o.cell 2;have k3:=HK.o.cell 3;have k4:=HK.o.cell 4;have k5:=HK.o.cell 5;have k6:=HK.o.cell 6;have k7:=HK.o.cell 7;have k8:=HK.o.cell 8;simp only[List.getElem?_toArray,List.getElem?_cons_zero,List.getElem?_cons_succ] at k0 k1 k2 k3 k4 k5 k6 k7 k8)
      |(go_at_call 180;(with_reducible refine Calls.mono (T2.o _) ?_);rintro e w2 ⟨rfl,hw⟩;subst hw;clear T2)
      |(go_at_call 33;(with_reducible refine Calls.mono (T3.o _) ?_);rintro e w3 ⟨rfl,hb⟩;replace HK:=I (HK.o.below hb);replace HB:=HB.t hb;clear hb T3;(try clear k0 k1 k2 k3 k4 k5 k6 k7 k8);have k0:=HK.o.cell 0;have k1:=HK.o.cell 1;have k2:=HK.o.cell 2;have k3:=HK.o.cell 3;have k4:=HK.o.cell 4;have k5:=HK.o.cell 5;have k6:=HK.o.cell 6;have k7:=HK.o.cell 7;have k8:=HK.o.cell 8;simp only[List.getElem?_toArray,List.getElem?_cons_zero,List.getElem?_cons_succ] at k0 k1 k2 k3 k4 k5 k6 k7 k8)
      |(go_at_call 163;(with_reducible refine Calls.mono (T4.o _) ?_);rintro e w4 ⟨rfl,hw⟩;subst hw;clear T4))
     go_ret;exact⟨by rw[E.o];rfl,HB.o⟩
    |true=>
     rw[h4] at T4;have E:=I (show tgB q=tmB q.no by rw[tgB,h1,h2,h3,h4];rfl);clear h1 h2 h3 h4;go_enter Tryz.func131,Tryz.ntmps131
     go_wp2_with (first
      |(go_at_call 179;(with_reducible refine Calls.mono (T1.o _) ?_);rintro e w1 ⟨rfl,hb⟩;replace HK:=I (HK.o.below hb);replace HB:=HB.t hb;clear hb T1;(try clear k0 k1 k2 k3 k4 k5 k6 k7 k8);have k0:=HK.o.cell 0;have k1:=HK.o.cell 1;have k2:=HK.o.cell 2;have k3:=HK.o.cell 3;have k4:=HK.o.cell 4;have k5:=HK.o.cell 5;have k6:=HK.o.cell 6;have k7:=HK.o.cell 7;have k8:=HK.o.cell 8;simp only[List.getElem?_toArray,List.getElem?_cons_zero,List.getElem?_cons_succ] at k0 k1 k2 k3 k4 k5 k6 k7 k8)
      |(go_at_call 180;(with_reducible refine Calls.mono (T2.o _) ?_);rintro e w2 ⟨rfl,hw⟩;subst hw;clear T2)
      |(go_at_call 33;(with_reducible refine Calls.mono (T3.o _) ?_);rintro e w3 ⟨rfl,hb⟩;replace HK:=I (HK.o.below hb);replace HB:=HB.t hb;clear hb T3;(try clear k0 k1 k2 k3 k4 k5 k6 k7 k8);have k0:=HK.o.cell 0;have k1:=HK.o.cell 1;have k2:=HK.o.cell 2;have k3:=HK.o.cell 3;have k4:=HK.o.cell 4;have k5:=HK.o.cell 5;have k6:=HK.o.cell 6;have k7:=HK.o.cell 7;have k8:=HK.o.cell 8;simp only[List.getElem?_toArray,List.getElem?_cons_zero,List.getElem?_cons_succ] at k0 k1 k2 k3 k4 k5 k6 k7 k8)
      |(go_at_call 163;(with_reducible refine Calls.mono (T4.o _) ?_);rintro e w4 ⟨rfl,hw⟩;subst hw;clear T4)
      |(go_at_call 169;(with_reducible refine Calls.mono (T5.o _) ?_);rintro e w5 ⟨rfl,hw⟩;subst hw;clear T5))
     go_ret;exact⟨by rw[E.o];rfl,HB.o⟩
theorem TB (q:Re) (A1 A2:Option Addr) (c1 c2:Nat) (w:World) (hs:pSm q.t.s) (hs2:pSm q.c):Calls Tryz.prog 132 #[.agg #[.string ⟨q.c.1.toArray⟩,.string ⟨q.c.2.toArray⟩,.string ⟨q.t.s.1.toArray⟩,.string ⟨q.t.s.2.toArray⟩,.int .i64 q.t.k,.slice A1 q.t.b.length c1,.slice A2 q.b.length c2]] w fun e w'=>e = .returned (.bool (reB q))∧Below w.heap.size w w':=by
 have hb0:=(Below.refl w.heap.size w).alloc Ag (.cells #[.string ⟨q.c.1.toArray⟩,.string ⟨q.c.2.toArray⟩,.string ⟨q.t.s.1.toArray⟩,.string ⟨q.t.s.2.toArray⟩,.int .i64 q.t.k,.slice A1 q.t.b.length c1,.slice A2 q.b.length c2] 43);have HB:=I hb0;have HK:=I (Blk.new w 43 #[.string ⟨q.c.1.toArray⟩,.string ⟨q.c.2.toArray⟩,.string ⟨q.t.s.1.toArray⟩,.string ⟨q.t.s.2.toArray⟩,.int .i64 q.t.k,.slice A1 q.t.b.length c1,.slice A2 q.b.length c2]);clear hb0;have T1:=I (fun w1=>AV q.c w1 hs2.1 hs2.2);have T2:=I (fun w1=>EI q.t A1 c1 w1 hs);have T3:=I (fun w1=>Fo q.b A2 c2 w1);cases h1:prB q.c with
 |false=>
  rw[h1] at T1;have E:=I (show reB q=false by rw[reB,h1];rfl);clear h1;go_enter Tryz.func132,Tryz.ntmps132
  go_wp2_with (go_at_call 33;(with_reducible refine Calls.mono (T1.o _) ?_);rintro e w1 ⟨rfl,hb⟩;replace HK:=I (HK.o.below hb);replace HB:=HB.t hb;clear hb T1;(try clear k0 k1 k2 k3 k4 k5 k6);have k0:=HK.o.cell 0;have k1:=HK.o.cell 1;have k2:=HK.o.cell 2;have k3:=HK.o.cell 3;have k4:=HK.o.cell 4;have k5:=HK.o.cell 5;have k6:=HK.o.cell 6;simp only[List.getElem?_toArray,List.getElem?_cons_zero,List.getElem?_cons_succ] at k0 k1 k2 k3 k4 k5 k6)
  go_ret;exact⟨by rw[E.o];rfl,HB.o⟩
 |true=>
  rw[h1] at T1;cases h2:tkB q.t with
  |false=>
   rw[h2] at T2;have E:=I (show reB q=false by rw[reB,h1,h2];rfl);clear h1 h2;go_enter Tryz.func132,Tryz.ntmps132
   go_wp2_with (first
    |(go_at_call 33;(with_reducible refine Calls.mono (T1.o _) ?_);rintro e w1 ⟨rfl,hb⟩;replace HK:=I (HK.o.below hb);replace HB:=HB.t hb;clear hb T1;(try clear k0 k1 k2 k3 k4 k5 k6);have k0:=HK.o.cell 0;have k1:=HK.o.cell 1;have k2:=HK.o.cell 2;have k3:=HK.o.cell 3;have k4:=HK.o.cell 4;have k5:=HK.o.cell 5;have k6:=HK.o.cell 6;simp only[List.getElem?_toArray,List.getElem?_cons_zero,List.getElem?_cons_succ] at k0 k1 k2 k3 k4 k5 k6)
    |(go_at_call 179;(with_reducible refine Calls.mono (T2.o _) ?_);rintro e w2 ⟨rfl,hb⟩;replace HK:=I (HK.o.below hb);replace HB:=HB.t hb;clear hb T2;(try clear k0 k1 k2 k3 k4 k5 k6);have k0:=HK.o.cell 0;have k1:=HK.o.cell 1;have k2:=HK.o.cell 2;have k3:=HK.o.cell 3;have k4:=HK.o.cell 4;have k5:=HK.o.cell 5;have k6:=HK.o.cell 6;simp only[List.getElem?_toArray,List.getElem?_cons_zero,List.getElem?_cons_succ] at k0 k1 k2 k3 k4 k5 k6))
   go_ret;exact⟨by rw[E.o];rfl,HB.o⟩
  |true=>
   rw[h2] at T2;have E:=I (show reB q=CH q.b by rw[reB,h1,h2];rfl);clear h1 h2;go_enter Tryz.func132,Tryz.ntmps132
   go_wp2_with (first
    |(go_at_call 33;(with_reducible refine Calls.mono (T1.o _) ?_);rintro e w1 ⟨rfl,hb⟩;replace HK:=I (HK.o.below hb);replace HB:=HB.t hb;clear hb T1;(try clear k0 k1 k2 k3 k4 k5 k6);have k0:=HK.o.cell 0;have k1:=HK.o.cell 1;have k2:=HK.o.cell 2;have k3:=HK.o.cell 3;have k4:=HK.o.cell 4;have k5:=HK.o.cell 5;have k6:=HK.o.cell 6;simp only[List.getElem?_toArray,List.getElem?_cons_zero,List.getElem?_cons_succ] at k0 k1 k2 k3 k4 k5 k6)
    |(go_at_call 179;(with_reducible refine Calls.mono (T2.o _) ?_);rintro e w2 ⟨rfl,hb⟩;replace HK:=I (HK.o.below hb);replace HB:=HB.t hb;clear hb T2;(try clear k0 k1 k2 k3 k4 k5 k6);have k0:=HK.o.cell 0;have k1:=HK.o.cell 1;have k2:=HK.o.cell 2;have k3:=HK.o.cell 3;have k4:=HK.o.cell 4;have k5:=HK.o.cell 5;have k6:=HK.o.cell 6;simp only[List.getElem?_toArray,List.getElem?_cons_zero,List.getElem?_cons_succ] at k0 k1 k2 k3 k4 k5 k6)
    |(go_at_call 180;(with_reducible refine Calls.mono (T3.o _) ?_);rintro e w3 ⟨rfl,hw⟩;subst hw;clear T3))
   go_ret;exact⟨by rw[E.o];rfl,HB.o⟩
theorem TC (q:Ap) (A1 A2:Option Addr) (c1 c2:Nat) (w:World) (hs:pSm q.t.s):Calls Tryz.prog 133 #[.agg #[.string ⟨q.t.s.1.toArray⟩,.string ⟨q.t.s.2.toArray⟩,.int .i64 q.t.k,.slice A1 q.t.b.length c1,.slice A2 q.a.length c2]] w fun e w'=>e = .returned (.bool (apB q))∧Below w.heap.size w w':=by
 have hb0:=(Below.refl w.heap.size w).alloc Ag (.cells #[.string ⟨q.t.s.1.toArray⟩,.string ⟨q.t.s.2.toArray⟩,.int .i64 q.t.k,.slice A1 q.t.b.length c1,.slice A2 q.a.length c2] 85);have HB:=I hb0;have HK:=I (Blk.new w 85 #[.string ⟨q.t.s.1.toArray⟩,.string ⟨q.t.s.2.toArray⟩,.int .i64 q.t.k,.slice A1 q.t.b.length c1,.slice A2 q.a.length c2]);clear hb0;have T1:=I (fun w1=>EI q.t A1 c1 w1 hs);have T2:=I (fun w1=>Fo q.a A2 c2 w1);cases h1:tkB q.t with
 |false=>
  rw[h1] at T1;have E:=I (show apB q=false by rw[apB,h1];rfl);clear h1;go_enter Tryz.func133,Tryz.ntmps133
  go_wp2_with (go_at_call 179;(with_reducible refine Calls.mono (T1.o _) ?_);rintro e w1 ⟨rfl,hb⟩;replace HK:=I (HK.o.below hb);replace HB:=HB.t hb;clear hb T1;(try clear k0 k1 k2 k3 k4);have k0:=HK.o.cell 0;have k1:=HK.o.cell 1;have k2:=HK.o.cell 2;have k3:=HK.o.cell 3;have k4:=HK.o.cell 4;simp only[List.getElem?_toArray,List.getElem?_cons_zero,List.getElem?_cons_succ] at k0 k1 k2 k3 k4)
  go_ret;exact⟨by rw[E.o];rfl,HB.o⟩
 |true=>
  rw[h1] at T1;have E:=I (show apB q=CH q.a by rw[apB,h1];rfl);clear h1;go_enter Tryz.func133,Tryz.ntmps133
  go_wp2_with (first
   |(go_at_call 179;(with_reducible refine Calls.mono (T1.o _) ?_);rintro e w1 ⟨rfl,hb⟩;replace HK:=I (HK.o.below hb);replace HB:=HB.t hb;clear hb T1;(try clear k0 k1 k2 k3 k4);have k0:=HK.o.cell 0;have k1:=HK.o.cell 1;have k2:=HK.o.cell 2;have k3:=HK.o.cell 3;have k4:=HK.o.cell 4;simp only[List.getElem?_toArray,List.getElem?_cons_zero,List.getElem?_cons_succ] at k0 k1 k2 k3 k4)
   |(go_at_call 180;(with_reducible refine Calls.mono (T2.o _) ?_);rintro e w2 ⟨rfl,hw⟩;subst hw;clear T2))
  go_ret;exact⟨by rw[E.o];rfl,HB.o⟩
theorem TD (q:Fa) (w:World):Calls Tryz.prog 134 #[.agg #[.int .i64 q.e,.int .i64 q.no]] w fun e w'=>e = .returned (.bool (faB q))∧Below w.heap.size w w':=by
 have hb0:=(Below.refl w.heap.size w).alloc Ag (.cells #[.int .i64 q.e,.int .i64 q.no] 87);have HB:=I hb0;have HK:=I (Blk.new w 87 #[.int .i64 q.e,.int .i64 q.no]);clear hb0;have T1:=I (fun w1=>DF q.e 1 255 w1);have T2:=I (fun w1=>EH q.no w1);cases h1:inB q.e 1 255 with
 |false=>
  rw[h1] at T1;have E:=I (show faB q=false by rw[faB,h1];rfl);clear h1;go_enter Tryz.func134,Tryz.ntmps134
  go_wp2_with (go_at_call 181;(with_reducible refine Calls.mono (T1.o _) ?_);rintro e w1 ⟨rfl,hw⟩;subst hw;clear T1)
  go_ret;exact⟨by rw[E.o];rfl,HB.o⟩
 |true=>
  rw[h1] at T1;have E:=I (show faB q=tmB q.no by rw[faB,h1];rfl);clear h1;go_enter Tryz.func134,Tryz.ntmps134
  go_wp2_with (first
   |(go_at_call 181;(with_reducible refine Calls.mono (T1.o _) ?_);rintro e w1 ⟨rfl,hw⟩;subst hw;clear T1)
   |(go_at_call 169;(with_reducible refine Calls.mono (T2.o _) ?_);rintro e w2 ⟨rfl,hw⟩;subst hw;clear T2))
  go_ret;exact⟨by rw[E.o];rfl,HB.o⟩
open DerR
theorem Hm (t:UInt8) (p:L):0<(elem t p).length:=by rw[DL];omega
theorem IF (l:L) (w:World) (hl:l.length≤65535):Calls Tryz.prog 167 #[.string ⟨l.toArray⟩] w (BQ w (elem 27 l)):=
 (DerW.DM l w hl).mono fun e w' h=>by obtain⟨v,rfl,h1,h2⟩:=h;exact Eo h1 (Hm _ _) h2
theorem BP (n:Int) (w:World):Calls Tryz.prog 168 #[.int .i64 n] w (BQ w (encI n)):=
 (DerW.Dg n w).mono fun e w' h=>by obtain⟨v,rfl,h1,h2⟩:=h;exact Eo h1 (Hm _ _) h2
theorem Cx (l:L) (A:Option Addr) (n c B:Nat) (w:World) (hr:Rd w B A (bvs l)) (hn:n=l.length) (hB:B≤w.heap.size) (hl:l.length≤65535):Calls Tryz.prog 166 #[.slice A n c] w (BQ w (elem 4 l)):=
 (DerW.DB l A n c B w hr hn hB hl).mono fun e w' h=>by obtain⟨v,rfl,h1,h2⟩:=h;exact Eo h1 (Hm _ _) h2
theorem Cd (t:UInt8) (ls:List L) (A:Option Addr) (m c B:Nat) (w:World) (hr:DerW.Rds w B A ls) (hm:m=ls.length) (hB:B≤w.heap.size) (hl:ls.flatten.length≤65535) (hc:ls.length≤1000000) :
  Calls Tryz.prog 164 #[.int .u8 t.toNat,.slice A m c] w (BQ w (elem t ls.flatten)):=
 (DerW.Dp t ls A m c B w hr hm hB hl hc).mono fun e w' h=>by obtain⟨v,rfl,h1,h2⟩:=h;exact Eo h1 (Hm _ _) h2
theorem BJ (p:Pr) (w:World) (hp:prB p=true):Calls Tryz.prog 165 #[.agg #[.string ⟨p.1.toArray⟩,.string ⟨p.2.toArray⟩]] w (BQ w (prE p)):=by
 have HB:=I ((Below.refl w.heap.size w).alloc Ag (.cells #[.string ⟨p.1.toArray⟩,.string ⟨p.2.toArray⟩] 25));have HK:=I (Blk.new w 25 #[.string ⟨p.1.toArray⟩,.string ⟨p.2.toArray⟩]);have b1:=Er hp;have b2:=Az 27 p.1;have b3:=Az 27 p.2;have T1:=I (fun w1=>IF p.1 w1 (by omega));have T2:=I (fun w1=>IF p.2 w1 (by omega));have HL:=I (show [elem 27 p.1,elem 27 p.2].flatten.length≤65535 by rw[Fs];simp only[List.length_append];omega);have HE:=I (show prE p=elem 48 [elem 27 p.1,elem 27 p.2].flatten from rfl);obtain⟨l1,el1⟩:∃l,l=elem 27 p.1:=⟨_,rfl⟩;obtain⟨l2,el2⟩:∃l,l=elem 27 p.2:=⟨_,rfl⟩;rw[←el1] at T1 HL HE;rw[←el2] at T2 HL HE;rw[HE.o,Fs];clear HE el1 el2 b1 b2 b3 hp;go_enter Tryz.func165,Tryz.ntmps165
 go_wp2
 obtain⟨W,eW⟩:∃W,W=w.alloc (.cells #[.string ⟨p.1.toArray⟩,.string ⟨p.2.toArray⟩] 25):=⟨_,rfl⟩;rw[←eW] at HB HK⊢;clear eW;replace HK:=I (show Blk W.drew _ _ _ from HK.o.drewN 1);replace HB:=I (show Below _ _ W.drew from below_drewN HB.o 1)
 go_region_held3 (fun w'=>w'.cell? ⟨w.heap.size,0,none⟩=some (.string ⟨p.1.toArray⟩)∧w'.cell? ⟨w.heap.size,1,none⟩=some (.string ⟨p.2.toArray⟩)) (first | exact⟨HK.o.cell 0,HK.o.cell 1⟩ | exact⟨(HK.o.alloc _).cell 0,(HK.o.alloc _).cell 1⟩) ((first
  |(go_at_call 167;(with_reducible refine Calls.mono (T1.o _) ?_);rintro e w1 ⟨⟨g1,c1,rfl,hg1,hc1,hr1⟩,hb⟩;clear T1;have HR1:=I hr1;replace HK:=I (HK.o.below hb);replace HB:=HB.t hb;clear hb hr1 hg1 hc1)
  |(go_at_call 167;(with_reducible refine Calls.mono (T2.o _) ?_);rintro e w2 ⟨⟨g2,c2,rfl,hg2,hc2,hr2⟩,hb⟩;clear T2;replace HR1:=I (AQ HR1.o hb);have HR2:=I hr2;replace HK:=I (HK.o.below hb);replace HB:=HB.t hb;clear hb hr2 hg2 hc2)
  |(go_at_call 164;refine Calls.mono (Cd 48 [l1,l2] _ 2 2 (w2.heap.size+1) _ (JL HR1.o HR2.o) rfl (by simp) HL.o (by simp)) ?_;rintro e wz ⟨⟨gz,cz,rfl,hgz,hcz,hrz⟩,hb⟩;have hal:=(Below.refl w2.heap.size w2).alloc Ag (.cells #[.slice (some ⟨g1,0,none⟩) l1.length c1,.slice (some ⟨g2,0,none⟩) l2.length c2] 29);have HG:=I (Ba (l:=elem 48 [l1,l2].flatten) ⟨⟨gz,cz,rfl,hgz,hcz,hrz⟩,hb⟩ (HB.o.trans (hal.mono HB.o.size)));rw[Fs] at HG;replace HK:=I ((HK.o.alloc (.cells #[.slice (some ⟨g1,0,none⟩) l1.length c1,.slice (some ⟨g2,0,none⟩) l2.length c2] 29)).below hb);clear hal hgz hcz hrz hb)))
 go_wp2
 go_ret;exact HG.o
theorem Ea (t:Tk) (A:Option Addr) (c:Nat) (w:World) (ht:tkB t=true) (hr:Rd w w.heap.size A (bvs t.b)):Calls Tryz.prog 182 #[.agg #[.string ⟨t.s.1.toArray⟩,.string ⟨t.s.2.toArray⟩,.int .i64 t.k,.slice A t.b.length c]] w (BQ w (tkE t)):=by
 have HB:=I ((Below.refl w.heap.size w).alloc Ag (.cells #[.string ⟨t.s.1.toArray⟩,.string ⟨t.s.2.toArray⟩,.int .i64 t.k,.slice A t.b.length c] 31));have HK:=I (Blk.new w 31 #[.string ⟨t.s.1.toArray⟩,.string ⟨t.s.2.toArray⟩,.int .i64 t.k,.slice A t.b.length c]);have hp:=MV ht;have b1:=(Bd hp.1).1;have b2:=AD t.k;have b3:=Az 4 t.b;have T1:=I (fun w1=>BJ t.s w1 hp.1);have T2:=I (fun w1=>BP t.k w1);have T3:=I (fun w1 (h:Below w.heap.size w w1)=>Cx t.b A t.b.length c w1.heap.size w1 ((hr.below h).more h.size) rfl Ag (by omega));have HL:=I (show [prE t.s,encI t.k,elem 4 t.b].flatten.length≤65535 by rw[Ft];simp only[List.length_append];omega);have HE:=I (show tkE t=elem 97 [prE t.s,encI t.k,elem 4 t.b].flatten from rfl);obtain⟨l1,el1⟩:∃l,l=prE t.s:=⟨_,rfl⟩;obtain⟨l2,el2⟩:∃l,l=encI t.k:=⟨_,rfl⟩;obtain⟨l3,el3⟩:∃l,l=elem 4 t.b:=⟨_,rfl⟩;rw[←el1] at T1 HL HE;rw[←el2] at T2 HL HE;rw[←el3] at T3 HL HE;rw[HE.o,Ft];clear HE el1 el2 el3 hp b1 b2 b3 ht hr;go_enter Tryz.func182,Tryz.ntmps182
 go_wp2
 obtain⟨W,eW⟩:∃W,W=w.alloc (.cells #[.string ⟨t.s.1.toArray⟩,.string ⟨t.s.2.toArray⟩,.int .i64 t.k,.slice A t.b.length c] 31):=⟨_,rfl⟩;rw[←eW] at HB HK⊢;clear eW;replace HK:=I (show Blk W.drew _ _ _ from HK.o.drewN 1);replace HB:=I (show Below _ _ W.drew from below_drewN HB.o 1)
 go_region_held3 (fun w'=>w'.cell? ⟨w.heap.size,0,none⟩=some (.string ⟨t.s.1.toArray⟩)∧w'.cell? ⟨w.heap.size,1,none⟩=some (.string ⟨t.s.2.toArray⟩)∧w'.cell? ⟨w.heap.size,2,none⟩=some (.int .i64 t.k)∧w'.cell? ⟨w.heap.size,3,none⟩=some (.slice A t.b.length c)) (first | exact⟨HK.o.cell 0,HK.o.cell 1,HK.o.cell 2,HK.o.cell 3⟩ | exact⟨(HK.o.alloc _).cell 0,(HK.o.alloc _).cell 1,(HK.o.alloc _).cell 2,(HK.o.alloc _).cell 3⟩) ((first
  |(go_at_call 165;(with_reducible refine Calls.mono (T1.o _) ?_);rintro e w1 ⟨⟨g1,c1,rfl,hg1,hc1,hr1⟩,hb⟩;clear T1;have HR1:=I hr1;replace HK:=I (HK.o.below hb);replace HB:=HB.t hb;clear hb hr1 hg1 hc1)
  |(go_at_call 168;(with_reducible refine Calls.mono (T2.o _) ?_);rintro e w2 ⟨⟨g2,c2,rfl,hg2,hc2,hr2⟩,hb⟩;clear T2;replace HR1:=I (AQ HR1.o hb);have HR2:=I hr2;replace HK:=I (HK.o.below hb);replace HB:=HB.t hb;clear hb hr2 hg2 hc2)
  |(go_at_call 166;(with_reducible refine Calls.mono (T3.o _ HB.o) ?_);rintro e w3 ⟨⟨g3,c3,rfl,hg3,hc3,hr3⟩,hb⟩;clear T3;replace HR1:=I (AQ HR1.o hb);replace HR2:=I (AQ HR2.o hb);have HR3:=I hr3;replace HK:=I (HK.o.below hb);replace HB:=HB.t hb;clear hb hr3 hg3 hc3)
  |(go_at_call 164;refine Calls.mono (Cd 97 [l1,l2,l3] _ 3 3 (w3.heap.size+1) _ (Ge HR1.o HR2.o HR3.o) rfl (by simp) HL.o (by simp)) ?_;rintro e wz ⟨⟨gz,cz,rfl,hgz,hcz,hrz⟩,hb⟩;have hal:=(Below.refl w3.heap.size w3).alloc Ag (.cells #[.slice (some ⟨g1,0,none⟩) l1.length c1,.slice (some ⟨g2,0,none⟩) l2.length c2,.slice (some ⟨g3,0,none⟩) l3.length c3] 29);have HG:=I (Ba (l:=elem 97 [l1,l2,l3].flatten) ⟨⟨gz,cz,rfl,hgz,hcz,hrz⟩,hb⟩ (HB.o.trans (hal.mono HB.o.size)));rw[Ft] at HG;replace HK:=I ((HK.o.alloc (.cells #[.slice (some ⟨g1,0,none⟩) l1.length c1,.slice (some ⟨g2,0,none⟩) l2.length c2,.slice (some ⟨g3,0,none⟩) l3.length c3] 29)).below hb);clear hal hgz hcz hrz hb)))
 go_wp2
 go_ret;exact HG.o
theorem Lb (a:An) (w:World) (ha:anB a=true):Calls Tryz.prog 152 #[.agg #[.string ⟨a.c.1.toArray⟩,.string ⟨a.c.2.toArray⟩,.int .i64 a.t,.int .i64 a.q]] w (BQ w (anE a)):=by
 have HB:=I ((Below.refl w.heap.size w).alloc Ag (.cells #[.string ⟨a.c.1.toArray⟩,.string ⟨a.c.2.toArray⟩,.int .i64 a.t,.int .i64 a.q] 28));have HK:=I (Blk.new w 28 #[.string ⟨a.c.1.toArray⟩,.string ⟨a.c.2.toArray⟩,.int .i64 a.t,.int .i64 a.q]);have hp:prB a.c=true∧tmB a.t=true∧tmB a.q=true:=by simpa [anB] using ha
 have b1:=(Bd hp.1).1;have b2:=AD a.t;have b3:=AD a.q;have T1:=I (fun w1=>BJ a.c w1 hp.1);have T2:=I (fun w1=>BP a.t w1);have T3:=I (fun w1=>BP a.q w1);have HL:=I (show [prE a.c,encI a.t,encI a.q].flatten.length≤65535 by rw[Ft];simp only[List.length_append];omega);have HE:=I (show anE a=elem 98 [prE a.c,encI a.t,encI a.q].flatten from rfl);obtain⟨l1,el1⟩:∃l,l=prE a.c:=⟨_,rfl⟩;obtain⟨l2,el2⟩:∃l,l=encI a.t:=⟨_,rfl⟩;obtain⟨l3,el3⟩:∃l,l=encI a.q:=⟨_,rfl⟩;rw[←el1] at T1 HL HE;rw[←el2] at T2 HL HE;rw[←el3] at T3 HL HE;rw[HE.o,Ft];clear HE el1 el2 el3 hp b1 b2 b3 ha;go_enter Tryz.func152,Tryz.ntmps152
 go_wp2
 obtain⟨W,eW⟩:∃W,W=w.alloc (.cells #[.string ⟨a.c.1.toArray⟩,.string ⟨a.c.2.toArray⟩,.int .i64 a.t,.int .i64 a.q] 28):=⟨_,rfl⟩;rw[←eW] at HB HK⊢;clear eW;replace HK:=I (show Blk W.drew _ _ _ from HK.o.drewN 1);replace HB:=I (show Below _ _ W.drew from below_drewN HB.o 1)
 go_region_held3 (fun w'=>w'.cell? ⟨w.heap.size,0,none⟩=some (.string ⟨a.c.1.toArray⟩)∧w'.cell? ⟨w.heap.size,1,none⟩=some (.string ⟨a.c.2.toArray⟩)∧w'.cell? ⟨w.heap.size,2,none⟩=some (.int .i64 a.t)∧w'.cell? ⟨w.heap.size,3,none⟩=some (.int .i64 a.q)) (first | exact⟨HK.o.cell 0,HK.o.cell 1,HK.o.cell 2,HK.o.cell 3⟩ | exact⟨(HK.o.alloc _).cell 0,(HK.o.alloc _).cell 1,(HK.o.alloc _).cell 2,(HK.o.alloc _).cell 3⟩) ((first
  |(go_at_call 165;(with_reducible refine Calls.mono (T1.o _) ?_);rintro e w1 ⟨⟨g1,c1,rfl,hg1,hc1,hr1⟩,hb⟩;clear T1;have HR1:=I hr1;replace HK:=I (HK.o.below hb);replace HB:=HB.t hb;clear hb hr1 hg1 hc1)
  |(go_at_call 168;(with_reducible refine Calls.mono (T2.o _) ?_);rintro e w2 ⟨⟨g2,c2,rfl,hg2,hc2,hr2⟩,hb⟩;clear T2;replace HR1:=I (AQ HR1.o hb);have HR2:=I hr2;replace HK:=I (HK.o.below hb);replace HB:=HB.t hb;clear hb hr2 hg2 hc2)
  |(go_at_call 168;(with_reducible refine Calls.mono (T3.o _) ?_);rintro e w3 ⟨⟨g3,c3,rfl,hg3,hc3,hr3⟩,hb⟩;clear T3;replace HR1:=I (AQ HR1.o hb);replace HR2:=I (AQ HR2.o hb);have HR3:=I hr3;replace HK:=I (HK.o.below hb);replace HB:=HB.t hb;clear hb hr3 hg3 hc3)
  |(go_at_call 164;refine Calls.mono (Cd 98 [l1,l2,l3] _ 3 3 (w3.heap.size+1) _ (Ge HR1.o HR2.o HR3.o) rfl (by simp) HL.o (by simp)) ?_;rintro e wz ⟨⟨gz,cz,rfl,hgz,hcz,hrz⟩,hb⟩;have hal:=(Below.refl w3.heap.size w3).alloc Ag (.cells #[.slice (some ⟨g1,0,none⟩) l1.length c1,.slice (some ⟨g2,0,none⟩) l2.length c2,.slice (some ⟨g3,0,none⟩) l3.length c3] 29);have HG:=I (Ba (l:=elem 98 [l1,l2,l3].flatten) ⟨⟨gz,cz,rfl,hgz,hcz,hrz⟩,hb⟩ (HB.o.trans (hal.mono HB.o.size)));rw[Ft] at HG;replace HK:=I ((HK.o.alloc (.cells #[.slice (some ⟨g1,0,none⟩) l1.length c1,.slice (some ⟨g2,0,none⟩) l2.length c2,.slice (some ⟨g3,0,none⟩) l3.length c3] 29)).below hb);clear hal hgz hcz hrz hb)))
 go_wp2
 go_ret;exact HG.o
theorem Rc (q:As) (w:World) (ha:asB q=true):Calls Tryz.prog 135 #[.agg #[.string ⟨q.c.1.toArray⟩,.string ⟨q.c.2.toArray⟩,.string ⟨q.s.1.toArray⟩,.string ⟨q.s.2.toArray⟩,.int .i64 q.t,.int .i64 q.no]] w (BQ w (asE q)):=by
 have HB:=I ((Below.refl w.heap.size w).alloc Ag (.cells #[.string ⟨q.c.1.toArray⟩,.string ⟨q.c.2.toArray⟩,.string ⟨q.s.1.toArray⟩,.string ⟨q.s.2.toArray⟩,.int .i64 q.t,.int .i64 q.no] 83));have HK:=I (Blk.new w 83 #[.string ⟨q.c.1.toArray⟩,.string ⟨q.c.2.toArray⟩,.string ⟨q.s.1.toArray⟩,.string ⟨q.s.2.toArray⟩,.int .i64 q.t,.int .i64 q.no]);have hp:prB q.c=true∧prB q.s=true∧tmB q.t=true∧tmB q.no=true:=by simpa [asB] using ha
 have b1:=(Bd hp.1).1;have b2:=(Bd hp.2.1).1;have b3:=AD q.t;have b4:=AD q.no;have T1:=I (fun w1=>BJ q.c w1 hp.1);have T2:=I (fun w1=>BJ q.s w1 hp.2.1);have T3:=I (fun w1=>BP q.t w1);have T4:=I (fun w1=>BP q.no w1);have HL:=I (show [prE q.c,prE q.s,encI q.t,encI q.no].flatten.length≤65535 by rw[SE];simp only[List.length_append];omega);have HE:=I (show asE q=elem 106 [prE q.c,prE q.s,encI q.t,encI q.no].flatten from rfl);obtain⟨l1,el1⟩:∃l,l=prE q.c:=⟨_,rfl⟩;obtain⟨l2,el2⟩:∃l,l=prE q.s:=⟨_,rfl⟩;obtain⟨l3,el3⟩:∃l,l=encI q.t:=⟨_,rfl⟩;obtain⟨l4,el4⟩:∃l,l=encI q.no:=⟨_,rfl⟩;rw[←el1] at T1 HL HE;rw[←el2] at T2 HL HE;rw[←el3] at T3 HL HE;rw[←el4] at T4 HL HE;rw[HE.o,SE];clear HE el1 el2 el3 el4 hp b1 b2 b3 b4 ha;go_enter Tryz.func135,Tryz.ntmps135
 go_wp2
 obtain⟨W,eW⟩:∃W,W=w.alloc (.cells #[.string ⟨q.c.1.toArray⟩,.string ⟨q.c.2.toArray⟩,.string ⟨q.s.1.toArray⟩,.string ⟨q.s.2.toArray⟩,.int .i64 q.t,.int .i64 q.no] 83):=⟨_,rfl⟩;rw[←eW] at HB HK⊢;clear eW;replace HK:=I (show Blk W.drew _ _ _ from HK.o.drewN 1);replace HB:=I (show Below _ _ W.drew from below_drewN HB.o 1)
 go_region_held3 (fun w'=>w'.cell? ⟨w.heap.size,0,none⟩=some (.string ⟨q.c.1.toArray⟩)∧w'.cell? ⟨w.heap.size,1,none⟩=some (.string ⟨q.c.2.toArray⟩)∧w'.cell? ⟨w.heap.size,2,none⟩=some (.string ⟨q.s.1.toArray⟩)∧w'.cell? ⟨w.heap.size,3,none⟩=some (.string ⟨q.s.2.toArray⟩)∧w'.cell? ⟨w.heap.size,4,none⟩=some (.int .i64 q.t)∧w'.cell? ⟨w.heap.size,5,none⟩=some (.int .i64 q.no)) (first | exact⟨HK.o.cell 0,HK.o.cell 1,HK.o.cell 2,HK.o.cell 3,HK.o.cell 4,HK.o.cell 5⟩ | exact⟨(HK.o.alloc _).cell 0,(HK.o.alloc _).cell 1,(HK.o.alloc _).cell 2,(HK.o.alloc _).cell 3,(HK.o.alloc _).cell 4,(HK.o.alloc _).cell 5⟩) ((first
  |(go_at_call 165;(with_reducible refine Calls.mono (T1.o _) ?_);rintro e w1 ⟨⟨g1,c1,rfl,hg1,hc1,hr1⟩,hb⟩;clear T1;have HR1:=I hr1;replace HK:=I (HK.o.below hb);replace HB:=HB.t hb;clear hb hr1 hg1 hc1)
  |(go_at_call 165;(with_reducible refine Calls.mono (T2.o _) ?_);rintro e w2 ⟨⟨g2,c2,rfl,hg2,hc2,hr2⟩,hb⟩;clear T2;replace HR1:=I (AQ HR1.o hb);have HR2:=I hr2;replace HK:=I (HK.o.below hb);replace HB:=HB.t hb;clear hb hr2 hg2 hc2)
  |(go_at_call 168;(with_reducible refine Calls.mono (T3.o _) ?_);rintro e w3 ⟨⟨g3,c3,rfl,hg3,hc3,hr3⟩,hb⟩;clear T3;replace HR1:=I (AQ HR1.o hb);replace HR2:=I (AQ HR2.o hb);have HR3:=I hr3;replace HK:=I (HK.o.below hb);replace HB:=HB.t hb;clear hb hr3 hg3 hc3)
  |(go_at_call 168;(with_reducible refine Calls.mono (T4.o _) ?_);rintro e w4 ⟨⟨g4,c4,rfl,hg4,hc4,hr4⟩,hb⟩;clear T4;replace HR1:=I (AQ HR1.o hb);replace HR2:=I (AQ HR2.o hb);replace HR3:=I (AQ HR3.o hb);have HR4:=I hr4;replace HK:=I (HK.o.below hb);replace HB:=HB.t hb;clear hb hr4 hg4 hc4)
  |(go_at_call 164;refine Calls.mono (Cd 106 [l1,l2,l3,l4] _ 4 4 (w4.heap.size+1) _ (Tb HR1.o HR2.o HR3.o HR4.o) rfl (by simp) HL.o (by simp)) ?_;rintro e wz ⟨⟨gz,cz,rfl,hgz,hcz,hrz⟩,hb⟩;have hal:=(Below.refl w4.heap.size w4).alloc Ag (.cells #[.slice (some ⟨g1,0,none⟩) l1.length c1,.slice (some ⟨g2,0,none⟩) l2.length c2,.slice (some ⟨g3,0,none⟩) l3.length c3,.slice (some ⟨g4,0,none⟩) l4.length c4] 29);have HG:=I (Ba (l:=elem 106 [l1,l2,l3,l4].flatten) ⟨⟨gz,cz,rfl,hgz,hcz,hrz⟩,hb⟩ (HB.o.trans (hal.mono HB.o.size)));rw[SE] at HG;replace HK:=I ((HK.o.alloc (.cells #[.slice (some ⟨g1,0,none⟩) l1.length c1,.slice (some ⟨g2,0,none⟩) l2.length c2,.slice (some ⟨g3,0,none⟩) l3.length c3,.slice (some ⟨g4,0,none⟩) l4.length c4] 29)).below hb);clear hal hgz hcz hrz hb)))
 go_wp2
 go_ret;exact HG.o
theorem Rf (q:Tg) (A1 A2:Option Addr) (c1 c2:Nat) (w:World) (ha:tgB q=true) (hr1:Rd w w.heap.size A1 (bvs q.t.b)) (hr2:Rd w w.heap.size A2 (bvs q.a)):Calls Tryz.prog 136 #[.agg #[.string ⟨q.t.s.1.toArray⟩,.string ⟨q.t.s.2.toArray⟩,.int .i64 q.t.k,.slice A1 q.t.b.length c1,.slice A2 q.a.length c2,.string ⟨q.s.1.toArray⟩,.string ⟨q.s.2.toArray⟩,.int .i64 q.u,.int .i64 q.no]] w (BQ w (tgE q)):=by
 have HB:=I ((Below.refl w.heap.size w).alloc Ag (.cells #[.string ⟨q.t.s.1.toArray⟩,.string ⟨q.t.s.2.toArray⟩,.int .i64 q.t.k,.slice A1 q.t.b.length c1,.slice A2 q.a.length c2,.string ⟨q.s.1.toArray⟩,.string ⟨q.s.2.toArray⟩,.int .i64 q.u,.int .i64 q.no] 33));have HK:=I (Blk.new w 33 #[.string ⟨q.t.s.1.toArray⟩,.string ⟨q.t.s.2.toArray⟩,.int .i64 q.t.k,.slice A1 q.t.b.length c1,.slice A2 q.a.length c2,.string ⟨q.s.1.toArray⟩,.string ⟨q.s.2.toArray⟩,.int .i64 q.u,.int .i64 q.no]);have hp:tkB q.t=true∧CH q.a=true∧prB q.s=true∧tmB q.u=true∧tmB q.no=true:=by simpa [tgB] using ha
 have b1:=(Gz hp.1).1;have b2:=Az 4 q.a;have b3:=(Bd hp.2.2.1).1;have b4:=AD q.u;have b5:=AD q.no;have b6:=Dc hp.2.1;have T1:=I (fun w1 (h:Below w.heap.size w w1)=>Ea q.t A1 c1 w1 hp.1 ((hr1.below h).more h.size));have T2:=I (fun w1 (h:Below w.heap.size w w1)=>Cx q.a A2 q.a.length c2 w1.heap.size w1 ((hr2.below h).more h.size) rfl Ag (by omega));have T3:=I (fun w1=>BJ q.s w1 hp.2.2.1);have T4:=I (fun w1=>BP q.u w1);have T5:=I (fun w1=>BP q.no w1);have HL:=I (show [tkE q.t,elem 4 q.a,prE q.s,encI q.u,encI q.no].flatten.length≤65535 by rw[Es];simp only[List.length_append];omega);have HE:=I (show tgE q=elem 108 [tkE q.t,elem 4 q.a,prE q.s,encI q.u,encI q.no].flatten from rfl);obtain⟨l1,el1⟩:∃l,l=tkE q.t:=⟨_,rfl⟩;obtain⟨l2,el2⟩:∃l,l=elem 4 q.a:=⟨_,rfl⟩;obtain⟨l3,el3⟩:∃l,l=prE q.s:=⟨_,rfl⟩;obtain⟨l4,el4⟩:∃l,l=encI q.u:=⟨_,rfl⟩;obtain⟨l5,el5⟩:∃l,l=encI q.no:=⟨_,rfl⟩;rw[←el1] at T1 HL HE;rw[←el2] at T2 HL HE;rw[←el3] at T3 HL HE;rw[←el4] at T4 HL HE;rw[←el5] at T5 HL HE;rw[HE.o,Es];clear HE el1 el2 el3 el4 el5 hp b1 b2 b3 b4 b5 b6 ha hr1 hr2;go_enter Tryz.func136,Tryz.ntmps136
 go_wp2
 obtain⟨W,eW⟩:∃W,W=w.alloc (.cells #[.string ⟨q.t.s.1.toArray⟩,.string ⟨q.t.s.2.toArray⟩,.int .i64 q.t.k,.slice A1 q.t.b.length c1,.slice A2 q.a.length c2,.string ⟨q.s.1.toArray⟩,.string ⟨q.s.2.toArray⟩,.int .i64 q.u,.int .i64 q.no] 33):=⟨_,rfl⟩;rw[←eW] at HB HK⊢;clear eW;replace HK:=I (show Blk W.drew _ _ _ from HK.o.drewN 1);replace HB:=I (show Below _ _ W.drew from below_drewN HB.o 1)
 go_region_held3 (fun w'=>w'.cell? ⟨w.heap.size,0,none⟩=some (.string ⟨q.t.s.1.toArray⟩)∧w'.cell? ⟨w.heap.size,1,none⟩=some (.string ⟨q.t.s.2.toArray⟩)∧w'.cell? ⟨w.heap.size,2,none⟩=some (.int .i64 q.t.k)∧w'.cell? ⟨w.heap.size,3,none⟩=some (.slice A1 q.t.b.length c1)∧w'.cell? ⟨w.heap.size,4,none⟩=some (.slice A2 q.a.length c2)∧w'.cell? ⟨w.heap.size,5,none⟩=some (.string ⟨q.s.1.toArray⟩)∧w'.cell? ⟨w.heap.size,6,none⟩=some (.string ⟨q.s.2.toArray⟩)∧w'.cell? ⟨w.heap.size,7,none⟩=some (.int .i64 q.u)∧w'.cell? ⟨w.heap.size,8,none⟩=some (.int .i64 q.no)) (first | exact⟨HK.o.cell 0,HK.o.cell 1,HK.o.cell 2,HK.o.cell 3,HK.o.cell 4,HK.o.cell 5,HK.o.cell 6,HK.o.cell 7,HK.o.cell 8⟩ | exact⟨(HK.o.alloc _).cell 0,(HK.o.alloc _).cell 1,(HK.o.alloc _).cell 2,(HK.o.alloc _).cell 3,(HK.o.alloc _).cell 4,(HK.o.alloc _).cell 5,(HK.o.alloc _).cell 6,(HK.o.alloc _).cell 7,(HK.o.alloc _).cell 8⟩) ((first
  |(go_at_call 182;(with_reducible refine Calls.mono (T1.o _ HB.o) ?_);rintro e w1 ⟨⟨g1,c1,rfl,hg1,hc1,hr1⟩,hb⟩;clear T1;have HR1:=I hr1;replace HK:=I (HK.o.below hb);replace HB:=HB.t hb;clear hb hr1 hg1 hc1)
  |(go_at_call 166;(with_reducible refine Calls.mono (T2.o _ HB.o) ?_);rintro e w2 ⟨⟨g2,c2,rfl,hg2,hc2,hr2⟩,hb⟩;clear T2;replace HR1:=I (AQ HR1.o hb);have HR2:=I hr2;replace HK:=I (HK.o.below hb);replace HB:=HB.t hb;clear hb hr2 hg2 hc2)
  |(go_at_call 165;(with_reducible refine Calls.mono (T3.o _) ?_);rintro e w3 ⟨⟨g3,c3,rfl,hg3,hc3,hr3⟩,hb⟩;clear T3;replace HR1:=I (AQ HR1.o hb);replace HR2:=I (AQ HR2.o hb);have HR3:=I hr3;replace HK:=I (HK.o.below hb);replace HB:=HB.t hb;clear hb hr3 hg3 hc3)
  |(go_at_call 168;(with_reducible refine Calls.mono (T4.o _) ?_);rintro e w4 ⟨⟨g4,c4,rfl,hg4,hc4,hr4⟩,hb⟩;clear T4;replace HR1:=I (AQ HR1.o hb);replace HR2:=I (AQ HR2.o hb);replace HR3:=I (AQ HR3.o hb);have HR4:=I hr4;replace HK:=I (HK.o.below hb);replace HB:=HB.t hb;clear hb hr4 hg4 hc4)
  |(go_at_call 168;(with_reducible refine Calls.mono (T5.o _) ?_);rintro e w5 ⟨⟨g5,c5,rfl,hg5,hc5,hr5⟩,hb⟩;clear T5;replace HR1:=I (AQ HR1.o hb);replace HR2:=I (AQ HR2.o hb);replace HR3:=I (AQ HR3.o hb);replace HR4:=I (AQ HR4.o hb);have HR5:=I hr5;replace HK:=I (HK.o.below hb);replace HB:=HB.t hb;clear hb hr5 hg5 hc5)
  |(go_at_call 164;refine Calls.mono (Cd 108 [l1,l2,l3,l4,l5] _ 5 5 (w5.heap.size+1) _ (Hj HR1.o HR2.o HR3.o HR4.o HR5.o) rfl (by simp) HL.o (by simp)) ?_;rintro e wz ⟨⟨gz,cz,rfl,hgz,hcz,hrz⟩,hb⟩;have hal:=(Below.refl w5.heap.size w5).alloc Ag (.cells #[.slice (some ⟨g1,0,none⟩) l1.length c1,.slice (some ⟨g2,0,none⟩) l2.length c2,.slice (some ⟨g3,0,none⟩) l3.length c3,.slice (some ⟨g4,0,none⟩) l4.length c4,.slice (some ⟨g5,0,none⟩) l5.length c5] 29);have HG:=I (Ba (l:=elem 108 [l1,l2,l3,l4,l5].flatten) ⟨⟨gz,cz,rfl,hgz,hcz,hrz⟩,hb⟩ (HB.o.trans (hal.mono HB.o.size)));rw[Es] at HG;replace HK:=I ((HK.o.alloc (.cells #[.slice (some ⟨g1,0,none⟩) l1.length c1,.slice (some ⟨g2,0,none⟩) l2.length c2,.slice (some ⟨g3,0,none⟩) l3.length c3,.slice (some ⟨g4,0,none⟩) l4.length c4,.slice (some ⟨g5,0,none⟩) l5.length c5] 29)).below hb);clear hal hgz hcz hrz hb)))
 go_wp2
 go_ret;exact HG.o
theorem Rh (q:Re) (A1 A2:Option Addr) (c1 c2:Nat) (w:World) (ha:reB q=true) (hr1:Rd w w.heap.size A1 (bvs q.t.b)) (hr2:Rd w w.heap.size A2 (bvs q.b)):Calls Tryz.prog 137 #[.agg #[.string ⟨q.c.1.toArray⟩,.string ⟨q.c.2.toArray⟩,.string ⟨q.t.s.1.toArray⟩,.string ⟨q.t.s.2.toArray⟩,.int .i64 q.t.k,.slice A1 q.t.b.length c1,.slice A2 q.b.length c2]] w (BQ w (reE q)):=by
 have HB:=I ((Below.refl w.heap.size w).alloc Ag (.cells #[.string ⟨q.c.1.toArray⟩,.string ⟨q.c.2.toArray⟩,.string ⟨q.t.s.1.toArray⟩,.string ⟨q.t.s.2.toArray⟩,.int .i64 q.t.k,.slice A1 q.t.b.length c1,.slice A2 q.b.length c2] 43));have HK:=I (Blk.new w 43 #[.string ⟨q.c.1.toArray⟩,.string ⟨q.c.2.toArray⟩,.string ⟨q.t.s.1.toArray⟩,.string ⟨q.t.s.2.toArray⟩,.int .i64 q.t.k,.slice A1 q.t.b.length c1,.slice A2 q.b.length c2]);have hp:prB q.c=true∧tkB q.t=true∧CH q.b=true:=by simpa [reB] using ha
 have b1:=(Bd hp.1).1;have b2:=(Gz hp.2.1).1;have b3:=Az 4 q.b;have b6:=Dc hp.2.2;have T1:=I (fun w1=>BJ q.c w1 hp.1);have T2:=I (fun w1 (h:Below w.heap.size w w1)=>Ea q.t A1 c1 w1 hp.2.1 ((hr1.below h).more h.size));have T3:=I (fun w1 (h:Below w.heap.size w w1)=>Cx q.b A2 q.b.length c2 w1.heap.size w1 ((hr2.below h).more h.size) rfl Ag (by omega));have HL:=I (show [prE q.c,tkE q.t,elem 4 q.b].flatten.length≤65535 by rw[Ft];simp only[List.length_append];omega);have HE:=I (show reE q=elem 107 [prE q.c,tkE q.t,elem 4 q.b].flatten from rfl);obtain⟨l1,el1⟩:∃l,l=prE q.c:=⟨_,rfl⟩;obtain⟨l2,el2⟩:∃l,l=tkE q.t:=⟨_,rfl⟩;obtain⟨l3,el3⟩:∃l,l=elem 4 q.b:=⟨_,rfl⟩;rw[←el1] at T1 HL HE;rw[←el2] at T2 HL HE;rw[←el3] at T3 HL HE;rw[HE.o,Ft];clear HE el1 el2 el3 hp b1 b2 b3 b6 ha hr1 hr2;go_enter Tryz.func137,Tryz.ntmps137
 go_wp2
 obtain⟨W,eW⟩:∃W,W=w.alloc (.cells #[.string ⟨q.c.1.toArray⟩,.string ⟨q.c.2.toArray⟩,.string ⟨q.t.s.1.toArray⟩,.string ⟨q.t.s.2.toArray⟩,.int .i64 q.t.k,.slice A1 q.t.b.length c1,.slice A2 q.b.length c2] 43):=⟨_,rfl⟩;rw[←eW] at HB HK⊢;clear eW;replace HK:=I (show Blk W.drew _ _ _ from HK.o.drewN 1);replace HB:=I (show Below _ _ W.drew from below_drewN HB.o 1)
 go_region_held3 (fun w'=>w'.cell? ⟨w.heap.size,0,none⟩=some (.string ⟨q.c.1.toArray⟩)∧w'.cell? ⟨w.heap.size,1,none⟩=some (.string ⟨q.c.2.toArray⟩)∧w'.cell? ⟨w.heap.size,2,none⟩=some (.string ⟨q.t.s.1.toArray⟩)∧w'.cell? ⟨w.heap.size,3,none⟩=some (.string ⟨q.t.s.2.toArray⟩)∧w'.cell? ⟨w.heap.size,4,none⟩=some (.int .i64 q.t.k)∧w'.cell? ⟨w.heap.size,5,none⟩=some (.slice A1 q.t.b.length c1)∧w'.cell? ⟨w.heap.size,6,none⟩=some (.slice A2 q.b.length c2)) (first | exact⟨HK.o.cell 0,HK.o.cell 1,HK.o.cell 2,HK.o.cell 3,HK.o.cell 4,HK.o.cell 5,HK.o.cell 6⟩ | exact⟨(HK.o.alloc _).cell 0,(HK.o.alloc _).cell 1,(HK.o.alloc _).cell 2,(HK.o.alloc _).cell 3,(HK.o.alloc _).cell 4,(HK.o.alloc _).cell 5,(HK.o.alloc _).cell 6⟩) ((first
  |(go_at_call 165;(with_reducible refine Calls.mono (T1.o _) ?_);rintro e w1 ⟨⟨g1,c1,rfl,hg1,hc1,hr1⟩,hb⟩;clear T1;have HR1:=I hr1;replace HK:=I (HK.o.below hb);replace HB:=HB.t hb;clear hb hr1 hg1 hc1)
  |(go_at_call 182;(with_reducible refine Calls.mono (T2.o _ HB.o) ?_);rintro e w2 ⟨⟨g2,c2,rfl,hg2,hc2,hr2⟩,hb⟩;clear T2;replace HR1:=I (AQ HR1.o hb);have HR2:=I hr2;replace HK:=I (HK.o.below hb);replace HB:=HB.t hb;clear hb hr2 hg2 hc2)
  |(go_at_call 166;(with_reducible refine Calls.mono (T3.o _ HB.o) ?_);rintro e w3 ⟨⟨g3,c3,rfl,hg3,hc3,hr3⟩,hb⟩;clear T3;replace HR1:=I (AQ HR1.o hb);replace HR2:=I (AQ HR2.o hb);have HR3:=I hr3;replace HK:=I (HK.o.below hb);replace HB:=HB.t hb;clear hb hr3 hg3 hc3)
  |(go_at_call 164;refine Calls.mono (Cd 107 [l1,l2,l3] _ 3 3 (w3.heap.size+1) _ (Ge HR1.o HR2.o HR3.o) rfl (by simp) HL.o (by simp)) ?_;rintro e wz ⟨⟨gz,cz,rfl,hgz,hcz,hrz⟩,hb⟩;have hal:=(Below.refl w3.heap.size w3).alloc Ag (.cells #[.slice (some ⟨g1,0,none⟩) l1.length c1,.slice (some ⟨g2,0,none⟩) l2.length c2,.slice (some ⟨g3,0,none⟩) l3.length c3] 29);have HG:=I (Ba (l:=elem 107 [l1,l2,l3].flatten) ⟨⟨gz,cz,rfl,hgz,hcz,hrz⟩,hb⟩ (HB.o.trans (hal.mono HB.o.size)));rw[Ft] at HG;replace HK:=I ((HK.o.alloc (.cells #[.slice (some ⟨g1,0,none⟩) l1.length c1,.slice (some ⟨g2,0,none⟩) l2.length c2,.slice (some ⟨g3,0,none⟩) l3.length c3] 29)).below hb);clear hal hgz hcz hrz hb)))
 go_wp2
 go_ret;exact HG.o
theorem Ri (q:Ap) (A1 A2:Option Addr) (c1 c2:Nat) (w:World) (ha:apB q=true) (hr1:Rd w w.heap.size A1 (bvs q.t.b)) (hr2:Rd w w.heap.size A2 (bvs q.a)):Calls Tryz.prog 138 #[.agg #[.string ⟨q.t.s.1.toArray⟩,.string ⟨q.t.s.2.toArray⟩,.int .i64 q.t.k,.slice A1 q.t.b.length c1,.slice A2 q.a.length c2]] w (BQ w (apE q)):=by
 have HB:=I ((Below.refl w.heap.size w).alloc Ag (.cells #[.string ⟨q.t.s.1.toArray⟩,.string ⟨q.t.s.2.toArray⟩,.int .i64 q.t.k,.slice A1 q.t.b.length c1,.slice A2 q.a.length c2] 85));have HK:=I (Blk.new w 85 #[.string ⟨q.t.s.1.toArray⟩,.string ⟨q.t.s.2.toArray⟩,.int .i64 q.t.k,.slice A1 q.t.b.length c1,.slice A2 q.a.length c2]);have hp:tkB q.t=true∧CH q.a=true:=by simpa [apB] using ha
 have b2:=(Gz hp.1).1;have b3:=Az 4 q.a;have b6:=Dc hp.2;have T1:=I (fun w1 (h:Below w.heap.size w w1)=>Ea q.t A1 c1 w1 hp.1 ((hr1.below h).more h.size));have T2:=I (fun w1 (h:Below w.heap.size w w1)=>Cx q.a A2 q.a.length c2 w1.heap.size w1 ((hr2.below h).more h.size) rfl Ag (by omega));have HL:=I (show [tkE q.t,elem 4 q.a].flatten.length≤65535 by rw[Fs];simp only[List.length_append];omega);have HE:=I (show apE q=elem 110 [tkE q.t,elem 4 q.a].flatten from rfl);obtain⟨l1,el1⟩:∃l,l=tkE q.t:=⟨_,rfl⟩;obtain⟨l2,el2⟩:∃l,l=elem 4 q.a:=⟨_,rfl⟩;rw[←el1] at T1 HL HE;rw[←el2] at T2 HL HE;rw[HE.o,Fs];clear HE el1 el2 hp b2 b3 b6 ha hr1 hr2;go_enter Tryz.func138,Tryz.ntmps138
 go_wp2
 obtain⟨W,eW⟩:∃W,W=w.alloc (.cells #[.string ⟨q.t.s.1.toArray⟩,.string ⟨q.t.s.2.toArray⟩,.int .i64 q.t.k,.slice A1 q.t.b.length c1,.slice A2 q.a.length c2] 85):=⟨_,rfl⟩;rw[←eW] at HB HK⊢;clear eW;replace HK:=I (show Blk W.drew _ _ _ from HK.o.drewN 1);replace HB:=I (show Below _ _ W.drew from below_drewN HB.o 1)
 go_region_held3 (fun w'=>w'.cell? ⟨w.heap.size,0,none⟩=some (.string ⟨q.t.s.1.toArray⟩)∧w'.cell? ⟨w.heap.size,1,none⟩=some (.string ⟨q.t.s.2.toArray⟩)∧w'.cell? ⟨w.heap.size,2,none⟩=some (.int .i64 q.t.k)∧w'.cell? ⟨w.heap.size,3,none⟩=some (.slice A1 q.t.b.length c1)∧w'.cell? ⟨w.heap.size,4,none⟩=some (.slice A2 q.a.length c2)) (first | exact⟨HK.o.cell 0,HK.o.cell 1,HK.o.cell 2,HK.o.cell 3,HK.o.cell 4⟩ | exact⟨(HK.o.alloc _).cell 0,(HK.o.alloc _).cell 1,(HK.o.alloc _).cell 2,(HK.o.alloc _).cell 3,(HK.o.alloc _).cell 4⟩) ((first
  |(go_at_call 182;(with_reducible refine Calls.mono (T1.o _ HB.o) ?_);rintro e w1 ⟨⟨g1,c1,rfl,hg1,hc1,hr1⟩,hb⟩;clear T1;have HR1:=I hr1;replace HK:=I (HK.o.below hb);replace HB:=HB.t hb;clear hb hr1 hg1 hc1)
  |(go_at_call 166;(with_reducible refine Calls.mono (T2.o _ HB.o) ?_);rintro e w2 ⟨⟨g2,c2,rfl,hg2,hc2,hr2⟩,hb⟩;clear T2;replace HR1:=I (AQ HR1.o hb);have HR2:=I hr2;replace HK:=I (HK.o.below hb);replace HB:=HB.t hb;clear hb hr2 hg2 hc2)
  |(go_at_call 164;refine Calls.mono (Cd 110 [l1,l2] _ 2 2 (w2.heap.size+1) _ (JL HR1.o HR2.o) rfl (by simp) HL.o (by simp)) ?_;rintro e wz ⟨⟨gz,cz,rfl,hgz,hcz,hrz⟩,hb⟩;have hal:=(Below.refl w2.heap.size w2).alloc Ag (.cells #[.slice (some ⟨g1,0,none⟩) l1.length c1,.slice (some ⟨g2,0,none⟩) l2.length c2] 29);have HG:=I (Ba (l:=elem 110 [l1,l2].flatten) ⟨⟨gz,cz,rfl,hgz,hcz,hrz⟩,hb⟩ (HB.o.trans (hal.mono HB.o.size)));rw[Fs] at HG;replace HK:=I ((HK.o.alloc (.cells #[.slice (some ⟨g1,0,none⟩) l1.length c1,.slice (some ⟨g2,0,none⟩) l2.length c2] 29)).below hb);clear hal hgz hcz hrz hb)))
 go_wp2
 go_ret;exact HG.o
theorem Rj (q:Fa) (w:World):Calls Tryz.prog 139 #[.agg #[.int .i64 q.e,.int .i64 q.no]] w (BQ w (faE q)):=by
 have HB:=I ((Below.refl w.heap.size w).alloc Ag (.cells #[.int .i64 q.e,.int .i64 q.no] 87));have HK:=I (Blk.new w 87 #[.int .i64 q.e,.int .i64 q.no]);have b1:=AD q.e;have b2:=AD q.no;have T1:=I (fun w1=>BP q.e w1);have T2:=I (fun w1=>BP q.no w1);have HL:=I (show [encI q.e,encI q.no].flatten.length≤65535 by rw[Fs];simp only[List.length_append];omega);have HE:=I (show faE q=elem 126 [encI q.e,encI q.no].flatten from rfl);obtain⟨l1,el1⟩:∃l,l=encI q.e:=⟨_,rfl⟩;obtain⟨l2,el2⟩:∃l,l=encI q.no:=⟨_,rfl⟩;rw[←el1] at T1 HL HE;rw[←el2] at T2 HL HE;rw[HE.o,Fs];clear HE el1 el2 b1 b2;go_enter Tryz.func139,Tryz.ntmps139
 go_wp2
 obtain⟨W,eW⟩:∃W,W=w.alloc (.cells #[.int .i64 q.e,.int .i64 q.no] 87):=⟨_,rfl⟩;rw[←eW] at HB HK⊢;clear eW;replace HK:=I (show Blk W.drew _ _ _ from HK.o.drewN 1);replace HB:=I (show Below _ _ W.drew from below_drewN HB.o 1)
 go_region_held3 (fun w'=>w'.cell? ⟨w.heap.size,0,none⟩=some (.int .i64 q.e)∧w'.cell? ⟨w.heap.size,1,none⟩=some (.int .i64 q.no)) (first | exact⟨HK.o.cell 0,HK.o.cell 1⟩ | exact⟨(HK.o.alloc _).cell 0,(HK.o.alloc _).cell 1⟩) ((first
  |(go_at_call 168;(with_reducible refine Calls.mono (T1.o _) ?_);rintro e w1 ⟨⟨g1,c1,rfl,hg1,hc1,hr1⟩,hb⟩;clear T1;have HR1:=I hr1;replace HK:=I (HK.o.below hb);replace HB:=HB.t hb;clear hb hr1 hg1 hc1)
  |(go_at_call 168;(with_reducible refine Calls.mono (T2.o _) ?_);rintro e w2 ⟨⟨g2,c2,rfl,hg2,hc2,hr2⟩,hb⟩;clear T2;replace HR1:=I (AQ HR1.o hb);have HR2:=I hr2;replace HK:=I (HK.o.below hb);replace HB:=HB.t hb;clear hb hr2 hg2 hc2)
  |(go_at_call 164;refine Calls.mono (Cd 126 [l1,l2] _ 2 2 (w2.heap.size+1) _ (JL HR1.o HR2.o) rfl (by simp) HL.o (by simp)) ?_;rintro e wz ⟨⟨gz,cz,rfl,hgz,hcz,hrz⟩,hb⟩;have hal:=(Below.refl w2.heap.size w2).alloc Ag (.cells #[.slice (some ⟨g1,0,none⟩) l1.length c1,.slice (some ⟨g2,0,none⟩) l2.length c2] 29);have HG:=I (Ba (l:=elem 126 [l1,l2].flatten) ⟨⟨gz,cz,rfl,hgz,hcz,hrz⟩,hb⟩ (HB.o.trans (hal.mono HB.o.size)));rw[Fs] at HG;replace HK:=I ((HK.o.alloc (.cells #[.slice (some ⟨g1,0,none⟩) l1.length c1,.slice (some ⟨g2,0,none⟩) l2.length c2] 29)).below hb);clear hal hgz hcz hrz hb)))
 go_wp2
 go_ret;exact HG.o
theorem OI (p:Rp) (w:World) (hk:p.ss.length=32) (hx:rpB p=true):Calls Tryz.prog 111 #[.agg (rpC p).toArray] w (BQ w (rpE p)):=by
 have HI:=I (show(Tryz.prog.info? 170).map (·.size)=some (rpC p).toArray.size by rw[Me hk];kernel_rfl);have CF:=I (show ∀w':World,Blk w' w.heap.size 170 (rpC p).toArray→w'.cell? ⟨w.heap.size,32,none⟩=some (.string ⟨p.s.1.toArray⟩)∧w'.cell? ⟨w.heap.size,33,none⟩=some (.string ⟨p.s.2.toArray⟩)∧w'.cell? ⟨w.heap.size,34,none⟩=some (.int .i64 p.st)∧w'.cell? ⟨w.heap.size,35,none⟩=some (.int .i64 p.en)∧w'.cell? ⟨w.heap.size,36,none⟩=some (.int .i64 p.no) from fun w' h=>Nl hk h);have T1:=I (fun w1 (h:Blk w1 w.heap.size 170 (rpC p).toArray)=>Cx p.ss (some ⟨w.heap.size,0,none⟩) 32 32 w1.heap.size w1 (XM hk h) hk.symm Ag (by omega));obtain⟨cs,ecs⟩:∃cs,cs=(rpC p).toArray:=⟨_,rfl⟩;rw[←ecs] at HI CF T1⊢;clear ecs;have HB:=I ((Below.refl w.heap.size w).alloc Ag (.cells cs 170));have HK:=I (Blk.new w 170 cs);have hp:prB p.s=true:=(show prB p.s=true∧tmB p.st=true∧tmB p.en=true∧tmB p.no=true by simpa [rpB] using hx).1;have b1:=(Bd hp).1;have b2:=AD p.st;have b3:=AD p.en;have b4:=AD p.no;have b5:=Az 4 p.ss;have T2:=I (fun w1=>BJ p.s w1 hp);have T3:=I (fun w1=>BP p.st w1);have T4:=I (fun w1=>BP p.en w1);have T5:=I (fun w1=>BP p.no w1);have HL:=I (show [elem 4 p.ss,prE p.s,encI p.st,encI p.en,encI p.no].flatten.length≤65535 by rw[Es];simp only[List.length_append];omega);have HE:=I (show rpE p=elem 122 [elem 4 p.ss,prE p.s,encI p.st,encI p.en,encI p.no].flatten from rfl);obtain⟨l1,el1⟩:∃l,l=elem 4 p.ss:=⟨_,rfl⟩;obtain⟨l2,el2⟩:∃l,l=prE p.s:=⟨_,rfl⟩;obtain⟨l3,el3⟩:∃l,l=encI p.st:=⟨_,rfl⟩;obtain⟨l4,el4⟩:∃l,l=encI p.en:=⟨_,rfl⟩;obtain⟨l5,el5⟩:∃l,l=encI p.no:=⟨_,rfl⟩;rw[←el1] at T1 HL HE;rw[←el2] at T2 HL HE;rw[←el3] at T3 HL HE;rw[←el4] at T4 HL HE;rw[←el5] at T5 HL HE;rw[HE.o,Es];clear HE el1 el2 el3 el4 el5 hp b1 b2 b3 b4 b5 hk hx;go_enter Tryz.func111,Tryz.ntmps111
 go_wp2
 obtain⟨W,eW⟩:∃W,W=w.alloc (.cells cs 170):=⟨_,rfl⟩;rw[←eW] at HB HK⊢;clear eW;replace HK:=I (show Blk W.drew _ _ _ from HK.o.drewN 1);replace HB:=I (show Below _ _ W.drew from below_drewN HB.o 1)
 go_region_held3 (fun w'=>w'.cell? ⟨w.heap.size,32,none⟩=some (.string ⟨p.s.1.toArray⟩)∧w'.cell? ⟨w.heap.size,33,none⟩=some (.string ⟨p.s.2.toArray⟩)∧w'.cell? ⟨w.heap.size,34,none⟩=some (.int .i64 p.st)∧w'.cell? ⟨w.heap.size,35,none⟩=some (.int .i64 p.en)∧w'.cell? ⟨w.heap.size,36,none⟩=some (.int .i64 p.no)) (first | exact CF.o _ HK.o | exact CF.o _ (HK.o.alloc _)) ((first
  |(go_at_call 166;(with_reducible refine Calls.mono (T1.o _ HK.o) ?_);rintro e w1 ⟨⟨g1,c1,rfl,hg1,hc1,hr1⟩,hb⟩;clear T1;have HR1:=I hr1;replace HK:=I (HK.o.below hb);replace HB:=HB.t hb;clear hb hr1 hg1 hc1)
  |(go_at_call 165;(with_reducible refine Calls.mono (T2.o _) ?_);rintro e w2 ⟨⟨g2,c2,rfl,hg2,hc2,hr2⟩,hb⟩;clear T2;replace HR1:=I (AQ HR1.o hb);have HR2:=I hr2;replace HK:=I (HK.o.below hb);replace HB:=HB.t hb;clear hb hr2 hg2 hc2)
  |(go_at_call 168;(with_reducible refine Calls.mono (T3.o _) ?_);rintro e w3 ⟨⟨g3,c3,rfl,hg3,hc3,hr3⟩,hb⟩;clear T3;replace HR1:=I (AQ HR1.o hb);replace HR2:=I (AQ HR2.o hb);have HR3:=I hr3;replace HK:=I (HK.o.below hb);replace HB:=HB.t hb;clear hb hr3 hg3 hc3)
  |(go_at_call 168;(with_reducible refine Calls.mono (T4.o _) ?_);rintro e w4 ⟨⟨g4,c4,rfl,hg4,hc4,hr4⟩,hb⟩;clear T4;replace HR1:=I (AQ HR1.o hb);replace HR2:=I (AQ HR2.o hb);replace HR3:=I (AQ HR3.o hb);have HR4:=I hr4;replace HK:=I (HK.o.below hb);replace HB:=HB.t hb;clear hb hr4 hg4 hc4)
  |(go_at_call 168;(with_reducible refine Calls.mono (T5.o _) ?_);rintro e w5 ⟨⟨g5,c5,rfl,hg5,hc5,hr5⟩,hb⟩;clear T5;replace HR1:=I (AQ HR1.o hb);replace HR2:=I (AQ HR2.o hb);replace HR3:=I (AQ HR3.o hb);replace HR4:=I (AQ HR4.o hb);have HR5:=I hr5;replace HK:=I (HK.o.below hb);replace HB:=HB.t hb;clear hb hr5 hg5 hc5)
  |(go_at_call 164;refine Calls.mono (Cd 122 [l1,l2,l3,l4,l5] _ 5 5 (w5.heap.size+1) _ (Hj HR1.o HR2.o HR3.o HR4.o HR5.o) rfl (by simp) HL.o (by simp)) ?_;rintro e wz ⟨⟨gz,cz,rfl,hgz,hcz,hrz⟩,hb⟩;have hal:=(Below.refl w5.heap.size w5).alloc Ag (.cells #[.slice (some ⟨g1,0,none⟩) l1.length c1,.slice (some ⟨g2,0,none⟩) l2.length c2,.slice (some ⟨g3,0,none⟩) l3.length c3,.slice (some ⟨g4,0,none⟩) l4.length c4,.slice (some ⟨g5,0,none⟩) l5.length c5] 29);have HG:=I (Ba (l:=elem 122 [l1,l2,l3,l4,l5].flatten) ⟨⟨gz,cz,rfl,hgz,hcz,hrz⟩,hb⟩ (HB.o.trans (hal.mono HB.o.size)));rw[Es] at HG;replace HK:=I ((HK.o.alloc (.cells #[.slice (some ⟨g1,0,none⟩) l1.length c1,.slice (some ⟨g2,0,none⟩) l2.length c2,.slice (some ⟨g3,0,none⟩) l3.length c3,.slice (some ⟨g4,0,none⟩) l4.length c4,.slice (some ⟨g5,0,none⟩) l5.length c5] 29)).below hb);clear hal hgz hcz hrz hb)))
 go_wp2
 go_ret;exact HG.o
theorem Mo (p:Pt) (w:World) (hk:p.ss.length=32) (hx:ptB p=true):Calls Tryz.prog 109 #[.agg (ptC p).toArray] w (BQ w (ptE p)):=by
 have HI:=I (show(Tryz.prog.info? 41).map (·.size)=some (ptC p).toArray.size by rw[Ez hk];kernel_rfl);have CF:=I (show ∀w':World,Blk w' w.heap.size 41 (ptC p).toArray→w'.cell? ⟨w.heap.size,0,none⟩=some (.string ⟨p.c.1.toArray⟩)∧w'.cell? ⟨w.heap.size,1,none⟩=some (.string ⟨p.c.2.toArray⟩)∧w'.cell? ⟨w.heap.size,34,none⟩=some (.string ⟨p.tr.toArray⟩)∧w'.cell? ⟨w.heap.size,35,none⟩=some (.int .i64 p.st)∧w'.cell? ⟨w.heap.size,36,none⟩=some (.int .i64 p.en) from fun w' h=>Hk hk h);have T2:=I (fun w1 (h:Blk w1 w.heap.size 41 (ptC p).toArray)=>Cx p.ss (some ⟨w.heap.size,2,none⟩) 32 32 w1.heap.size w1 (Ji h) hk.symm Ag (by omega));obtain⟨cs,ecs⟩:∃cs,cs=(ptC p).toArray:=⟨_,rfl⟩;rw[←ecs] at HI CF T2⊢;clear ecs;have HB:=I ((Below.refl w.heap.size w).alloc Ag (.cells cs 41));have HK:=I (Blk.new w 41 cs);have hp:=(CE hx).2.1;have h3:=(CE hx).2.2.1;have b1:=(Bd hp).1;have b2:=AD p.st;have b3:=AD p.en;have b4:=Az 27 p.tr;have b5:=Az 4 p.ss;have T1:=I (fun w1=>BJ p.c w1 hp);have T3:=I (fun w1=>IF p.tr w1 (by omega));have T4:=I (fun w1=>BP p.st w1);have T5:=I (fun w1=>BP p.en w1);have HL:=I (show [prE p.c,elem 4 p.ss,elem 27 p.tr,encI p.st,encI p.en].flatten.length≤65535 by rw[Es];simp only[List.length_append];omega);have HE:=I (show ptE p=elem 99 [prE p.c,elem 4 p.ss,elem 27 p.tr,encI p.st,encI p.en].flatten from rfl);obtain⟨l1,el1⟩:∃l,l=prE p.c:=⟨_,rfl⟩;obtain⟨l2,el2⟩:∃l,l=elem 4 p.ss:=⟨_,rfl⟩;obtain⟨l3,el3⟩:∃l,l=elem 27 p.tr:=⟨_,rfl⟩;obtain⟨l4,el4⟩:∃l,l=encI p.st:=⟨_,rfl⟩;obtain⟨l5,el5⟩:∃l,l=encI p.en:=⟨_,rfl⟩;rw[←el1] at T1 HL HE;rw[←el2] at T2 HL HE;rw[←el3] at T3 HL HE;rw[←el4] at T4 HL HE;rw[←el5] at T5 HL HE;rw[HE.o,Es];clear HE el1 el2 el3 el4 el5 hp h3 b1 b2 b3 b4 b5 hk hx;go_enter Tryz.func109,Tryz.ntmps109
 go_wp2
 obtain⟨W,eW⟩:∃W,W=w.alloc (.cells cs 41):=⟨_,rfl⟩;rw[←eW] at HB HK⊢;clear eW;replace HK:=I (show Blk W.drew _ _ _ from HK.o.drewN 1);replace HB:=I (show Below _ _ W.drew from below_drewN HB.o 1)
 go_region_held3 (fun w'=>w'.cell? ⟨w.heap.size,0,none⟩=some (.string ⟨p.c.1.toArray⟩)∧w'.cell? ⟨w.heap.size,1,none⟩=some (.string ⟨p.c.2.toArray⟩)∧w'.cell? ⟨w.heap.size,34,none⟩=some (.string ⟨p.tr.toArray⟩)∧w'.cell? ⟨w.heap.size,35,none⟩=some (.int .i64 p.st)∧w'.cell? ⟨w.heap.size,36,none⟩=some (.int .i64 p.en)) (first | exact CF.o _ HK.o | exact CF.o _ (HK.o.alloc _)) ((first
  |(go_at_call 165;(with_reducible refine Calls.mono (T1.o _) ?_);rintro e w1 ⟨⟨g1,c1,rfl,hg1,hc1,hr1⟩,hb⟩;clear T1;have HR1:=I hr1;replace HK:=I (HK.o.below hb);replace HB:=HB.t hb;clear hb hr1 hg1 hc1)
  |(go_at_call 166;(with_reducible refine Calls.mono (T2.o _ HK.o) ?_);rintro e w2 ⟨⟨g2,c2,rfl,hg2,hc2,hr2⟩,hb⟩;clear T2;replace HR1:=I (AQ HR1.o hb);have HR2:=I hr2;replace HK:=I (HK.o.below hb);replace HB:=HB.t hb;clear hb hr2 hg2 hc2)
  |(go_at_call 167;(with_reducible refine Calls.mono (T3.o _) ?_);rintro e w3 ⟨⟨g3,c3,rfl,hg3,hc3,hr3⟩,hb⟩;clear T3;replace HR1:=I (AQ HR1.o hb);replace HR2:=I (AQ HR2.o hb);have HR3:=I hr3;replace HK:=I (HK.o.below hb);replace HB:=HB.t hb;clear hb hr3 hg3 hc3)
  |(go_at_call 168;(with_reducible refine Calls.mono (T4.o _) ?_);rintro e w4 ⟨⟨g4,c4,rfl,hg4,hc4,hr4⟩,hb⟩;clear T4;replace HR1:=I (AQ HR1.o hb);replace HR2:=I (AQ HR2.o hb);replace HR3:=I (AQ HR3.o hb);have HR4:=I hr4;replace HK:=I (HK.o.below hb);replace HB:=HB.t hb;clear hb hr4 hg4 hc4)
  |(go_at_call 168;(with_reducible refine Calls.mono (T5.o _) ?_);rintro e w5 ⟨⟨g5,c5,rfl,hg5,hc5,hr5⟩,hb⟩;clear T5;replace HR1:=I (AQ HR1.o hb);replace HR2:=I (AQ HR2.o hb);replace HR3:=I (AQ HR3.o hb);replace HR4:=I (AQ HR4.o hb);have HR5:=I hr5;replace HK:=I (HK.o.below hb);replace HB:=HB.t hb;clear hb hr5 hg5 hc5)
  |(go_at_call 164;refine Calls.mono (Cd 99 [l1,l2,l3,l4,l5] _ 5 5 (w5.heap.size+1) _ (Hj HR1.o HR2.o HR3.o HR4.o HR5.o) rfl (by simp) HL.o (by simp)) ?_;rintro e wz ⟨⟨gz,cz,rfl,hgz,hcz,hrz⟩,hb⟩;have hal:=(Below.refl w5.heap.size w5).alloc Ag (.cells #[.slice (some ⟨g1,0,none⟩) l1.length c1,.slice (some ⟨g2,0,none⟩) l2.length c2,.slice (some ⟨g3,0,none⟩) l3.length c3,.slice (some ⟨g4,0,none⟩) l4.length c4,.slice (some ⟨g5,0,none⟩) l5.length c5] 29);have HG:=I (Ba (l:=elem 99 [l1,l2,l3,l4,l5].flatten) ⟨⟨gz,cz,rfl,hgz,hcz,hrz⟩,hb⟩ (HB.o.trans (hal.mono HB.o.size)));rw[Es] at HG;replace HK:=I ((HK.o.alloc (.cells #[.slice (some ⟨g1,0,none⟩) l1.length c1,.slice (some ⟨g2,0,none⟩) l2.length c2,.slice (some ⟨g3,0,none⟩) l3.length c3,.slice (some ⟨g4,0,none⟩) l4.length c4,.slice (some ⟨g5,0,none⟩) l5.length c5] 29)).below hb);clear hal hgz hcz hrz hb)))
 go_wp2
 go_ret;exact HG.o
end Mc
namespace Mc
open Go.RowKit Af DerP Ms
def trB (l:L):Bool:=decide (l.length≤300)&&txtB l
def ptB' (p:Pt):Bool:=prB p.c&&(trB p.tr&&(tmB p.st&&tmB p.en))
theorem Yb (p:Pt):ptB' p=ptB p:=by
 unfold ptB' ptB trB;cases txtB p.tr<;>cases prB p.c<;>cases decide (p.tr.length≤300)<;>rfl
theorem txtf {l:L} {k:Nat} (h:k<l.length) (hb:l[k].toNat<32∨126<l[k].toNat):txtB l=false:=Mf h hb
section
attribute [local go_sem] Ef List.getElem_cons_zero List.getElem_cons_succ
theorem JV (l:L) (w:World) (ht:l.length≤1000000000):Calls Tryz.prog 162 #[.string ⟨l.toArray⟩] w fun e w'=>e = .returned (.bool (trB l))∧w=w':=by
 by_cases h3:l.length≤300
 ·have g3:decide ((300:Int)<(l.length:Int))=false:=decide_eq_false (by omega)
  have E3:=I (show trB l=txtB l by rw[trB,decide_eq_true h3];rfl);rw[E3.o];clear h3;go_enter Tryz.func162,Tryz.ntmps162
  go_wp2
  go_loop [9] (fun iv=>∃k:Nat,k≤l.length∧iv = .int .i64 (k:Int)∧FitT l k) (fun iv=>l.length - (intOf iv).toNat)
  case atStart=>exact⟨0,Nat.zero_le _,rfl,fun i _ h=>by omega⟩
  case round=>
   obtain⟨k,hk2,rfl,hf⟩:=hrel;have HF:=I hf;clear hf
   by_cases hlt:k<l.length
   ·have e1:(k:Int)<(l.length:Int):=by omega
    by_cases b1:l[k].toNat<32
    ·have E:=I (txtf hlt (Or.inl b1))
     have b1':decide ((l[k].toNat:Int)<32)=true:=by simp;omega
     clear b1
     go_wp2
     go_ret;exact⟨by rw[E.o];rfl,rfl⟩
    ·have b1':decide ((l[k].toNat:Int)<32)=false:=by simp;omega
     by_cases b2:126<l[k].toNat
     ·have E:=I (txtf hlt (Or.inr b2))
      have b2':decide (126<(l[k].toNat:Int))=true:=by simp;omega
      clear b1 b2
      go_wp2
      go_ret;exact⟨by rw[E.o];rfl,rfl⟩
     ·have b2':decide (126<(l[k].toNat:Int))=false:=by simp;omega
      have HP:=I (show 32≤l[k].toNat∧l[k].toNat≤126 from⟨by omega,by omega⟩);clear b1 b2
      go_wp2
      go_round
      case rel=>exact⟨k+1,by omega,by go_num,fun i hi hik=>by
       by_cases q:i=k
       ·subst q;exact HP.o
       ·exact HF.o i hi (by omega)⟩
      case measure=>simp [intOf];omega
   ·have HT:=I (QK (fun i hi _=>HF.o i hi (by omega)))
    have e1:¬(k:Int)<(l.length:Int):=by omega
    clear HF
    go_wp2
    go_ret;exact⟨by rw[HT.o];rfl,rfl⟩
 ·have g3:decide ((300:Int)<(l.length:Int))=true:=decide_eq_true (by omega)
  have E:=I (show trB l=false by rw[trB,decide_eq_false h3];rfl);clear h3;go_enter Tryz.func162,Tryz.ntmps162
  go_wp2
  go_ret;exact⟨by rw[E.o];rfl,rfl⟩
end
theorem Rk (p:Rp) (w:World) (hk:p.ss.length=32) (hs:pSm p.s):Calls Tryz.prog 110 #[.agg (rpC p).toArray] w fun e w'=>e = .returned (.bool (rpB p))∧Below w.heap.size w w':=by
 have HI:=I (show(Tryz.prog.info? 170).map (·.size)=some (rpC p).toArray.size by rw[Me hk];kernel_rfl);have CF:=I (show ∀w':World,Blk w' w.heap.size 170 (rpC p).toArray→w'.cell? ⟨w.heap.size,32,none⟩=some (.string ⟨p.s.1.toArray⟩)∧w'.cell? ⟨w.heap.size,33,none⟩=some (.string ⟨p.s.2.toArray⟩)∧w'.cell? ⟨w.heap.size,34,none⟩=some (.int .i64 p.st)∧w'.cell? ⟨w.heap.size,35,none⟩=some (.int .i64 p.en)∧w'.cell? ⟨w.heap.size,36,none⟩=some (.int .i64 p.no) from fun w' h=>Nl hk h);obtain⟨cs,ecs⟩:∃cs,cs=(rpC p).toArray:=⟨_,rfl⟩;rw[←ecs] at HI CF⊢;clear ecs;have HB:=I ((Below.refl w.heap.size w).alloc Ag (.cells cs 170));have HK:=I (Blk.new w 170 cs);have T1:=I (fun w1=>AV p.s w1 hs.1 hs.2);have T2:=I (fun w1=>DZ p.st w1);have T3:=I (fun w1=>DZ p.en w1);have T4:=I (fun w1=>EH p.no w1);obtain⟨k0,k1,k2,k3,k4⟩:=CF.o _ HK.o;cases h1:prB p.s with
 |false=>
  rw[h1] at T1;have E:=I (show rpB p=false by rw[rpB,h1];rfl);clear h1;go_enter Tryz.func110,Tryz.ntmps110
  go_wp2_with (go_at_call 33;(with_reducible refine Calls.mono (T1.o _) ?_);rintro e w1 ⟨rfl,hb⟩;replace HK:=I (HK.o.below hb);replace HB:=HB.t hb;clear hb T1;(try clear k0 k1 k2 k3 k4);obtain⟨k0,k1,k2,k3,k4⟩:=CF.o _ HK.o)
  go_ret;exact⟨by rw[E.o];rfl,HB.o⟩
 |true=>
  rw[h1] at T1;cases h2:tmB p.st with
  |false=>
   rw[h2] at T2;have E:=I (show rpB p=false by rw[rpB,h1,h2];rfl);clear h1 h2;go_enter Tryz.func110,Tryz.ntmps110
   go_wp2_with (first
    |(go_at_call 33;(with_reducible refine Calls.mono (T1.o _) ?_);rintro e w1 ⟨rfl,hb⟩;replace HK:=I (HK.o.below hb);replace HB:=HB.t hb;clear hb T1;(try clear k0 k1 k2 k3 k4);obtain⟨k0,k1,k2,k3,k4⟩:=CF.o _ HK.o)
    |(go_at_call 163;(with_reducible refine Calls.mono (T2.o _) ?_);rintro e w2 ⟨rfl,hw⟩;subst hw;clear T2))
   go_ret;exact⟨by rw[E.o];rfl,HB.o⟩
  |true=>
   rw[h2] at T2;cases h3:tmB p.en with
   |false=>
    rw[h3] at T3;have E:=I (show rpB p=false by rw[rpB,h1,h2,h3];rfl);clear h1 h2 h3;go_enter Tryz.func110,Tryz.ntmps110
    go_wp2_with (first
     |(go_at_call 33;(with_reducible refine Calls.mono (T1.o _) ?_);rintro e w1 ⟨rfl,hb⟩;replace HK:=I (HK.o.below hb);replace HB:=HB.t hb;clear hb T1;(try clear k0 k1 k2 k3 k4);obtain⟨k0,k1,k2,k3,k4⟩:=CF.o _ HK.o)
     |(go_at_call 163;(with_reducible refine Calls.mono (T2.o _) ?_);rintro e w2 ⟨rfl,hw⟩;subst hw;clear T2)
     |(go_at_call 163;(with_reducible refine Calls.mono (T3.o _) ?_);rintro e w3 ⟨rfl,hw⟩;subst hw;clear T3))
    go_ret;exact⟨by rw[E.o];rfl,HB.o⟩
   |true=>
    rw[h3] at T3;have E:=I (show rpB p=tmB p.no by rw[rpB,h1,h2,h3];rfl);clear h1 h2 h3;go_enter Tryz.func110,Tryz.ntmps110
    go_wp2_with (first
     |(go_at_call 33;(with_reducible refine Calls.mono (T1.o _) ?_);rintro e w1 ⟨rfl,hb⟩;replace HK:=I (HK.o.below hb);replace HB:=HB.t hb;clear hb T1;(try clear k0 k1 k2 k3 k4);obtain⟨k0,k1,k2,k3,k4⟩:=CF.o _ HK.o)
     |(go_at_call 163;(with_reducible refine Calls.mono (T2.o _) ?_);rintro e w2 ⟨rfl,hw⟩;subst hw;clear T2)
     |(go_at_call 163;(with_reducible refine Calls.mono (T3.o _) ?_);rintro e w3 ⟨rfl,hw⟩;subst hw;clear T3)
     |(go_at_call 169;(with_reducible refine Calls.mono (T4.o _) ?_);rintro e w4 ⟨rfl,hw⟩;subst hw;clear T4))
    go_ret;exact⟨by rw[E.o];rfl,HB.o⟩
theorem Mp (p:Pt) (w:World) (hk:p.ss.length=32) (hs:pSm p.c) (ht:p.tr.length≤1000000000):Calls Tryz.prog 108 #[.agg (ptC p).toArray] w fun e w'=>e = .returned (.bool (ptB' p))∧Below w.heap.size w w':=by
 have HI:=I (show(Tryz.prog.info? 41).map (·.size)=some (ptC p).toArray.size by rw[Ez hk];kernel_rfl);have CF:=I (show ∀w':World,Blk w' w.heap.size 41 (ptC p).toArray→w'.cell? ⟨w.heap.size,0,none⟩=some (.string ⟨p.c.1.toArray⟩)∧w'.cell? ⟨w.heap.size,1,none⟩=some (.string ⟨p.c.2.toArray⟩)∧w'.cell? ⟨w.heap.size,34,none⟩=some (.string ⟨p.tr.toArray⟩)∧w'.cell? ⟨w.heap.size,35,none⟩=some (.int .i64 p.st)∧w'.cell? ⟨w.heap.size,36,none⟩=some (.int .i64 p.en) from fun w' h=>Hk hk h);obtain⟨cs,ecs⟩:∃cs,cs=(ptC p).toArray:=⟨_,rfl⟩;rw[←ecs] at HI CF⊢;clear ecs;have HB:=I ((Below.refl w.heap.size w).alloc Ag (.cells cs 41));have HK:=I (Blk.new w 41 cs);have T1:=I (fun w1=>AV p.c w1 hs.1 hs.2);have T2:=I (fun w1=>JV p.tr w1 ht);have T3:=I (fun w1=>DZ p.st w1);have T4:=I (fun w1=>DZ p.en w1);obtain⟨k0,k1,k2,k3,k4⟩:=CF.o _ HK.o;cases h1:prB p.c with
 |false=>
  rw[h1] at T1;have E:=I (show ptB' p=false by rw[ptB',h1];rfl);clear h1;go_enter Tryz.func108,Tryz.ntmps108
  go_wp2_with (go_at_call 33;(with_reducible refine Calls.mono (T1.o _) ?_);rintro e w1 ⟨rfl,hb⟩;replace HK:=I (HK.o.below hb);replace HB:=HB.t hb;clear hb T1;(try clear k0 k1 k2 k3 k4);obtain⟨k0,k1,k2,k3,k4⟩:=CF.o _ HK.o)
  go_ret;exact⟨by rw[E.o];rfl,HB.o⟩
 |true=>
  rw[h1] at T1;cases h2:trB p.tr with
  |false=>
   rw[h2] at T2;have E:=I (show ptB' p=false by rw[ptB',h1,h2];rfl);clear h1 h2;go_enter Tryz.func108,Tryz.ntmps108
   go_wp2_with (first
    |(go_at_call 33;(with_reducible refine Calls.mono (T1.o _) ?_);rintro e w1 ⟨rfl,hb⟩;replace HK:=I (HK.o.below hb);replace HB:=HB.t hb;clear hb T1;(try clear k0 k1 k2 k3 k4);obtain⟨k0,k1,k2,k3,k4⟩:=CF.o _ HK.o)
    |(go_at_call 162;(with_reducible refine Calls.mono (T2.o _) ?_);rintro e w2 ⟨rfl,hw⟩;subst hw;clear T2))
   go_ret;exact⟨by rw[E.o];rfl,HB.o⟩
  |true=>
   rw[h2] at T2;cases h3:tmB p.st with
   |false=>
    rw[h3] at T3;have E:=I (show ptB' p=false by rw[ptB',h1,h2,h3];rfl);clear h1 h2 h3;go_enter Tryz.func108,Tryz.ntmps108
    go_wp2_with (first
     |(go_at_call 33;(with_reducible refine Calls.mono (T1.o _) ?_);rintro e w1 ⟨rfl,hb⟩;replace HK:=I (HK.o.below hb);replace HB:=HB.t hb;clear hb T1;(try clear k0 k1 k2 k3 k4);obtain⟨k0,k1,k2,k3,k4⟩:=CF.o _ HK.o)
     |(go_at_call 162;(with_reducible refine Calls.mono (T2.o _) ?_);rintro e w2 ⟨rfl,hw⟩;subst hw;clear T2)
     |(go_at_call 163;(with_reducible refine Calls.mono (T3.o _) ?_);rintro e w3 ⟨rfl,hw⟩;subst hw;clear T3))
    go_ret;exact⟨by rw[E.o];rfl,HB.o⟩
   |true=>
    rw[h3] at T3;have E:=I (show ptB' p=tmB p.en by rw[ptB',h1,h2,h3];rfl);clear h1 h2 h3;go_enter Tryz.func108,Tryz.ntmps108
    go_wp2_with (first
     |(go_at_call 33;(with_reducible refine Calls.mono (T1.o _) ?_);rintro e w1 ⟨rfl,hb⟩;replace HK:=I (HK.o.below hb);replace HB:=HB.t hb;clear hb T1;(try clear k0 k1 k2 k3 k4);obtain⟨k0,k1,k2,k3,k4⟩:=CF.o _ HK.o)
     |(go_at_call 162;(with_reducible refine Calls.mono (T2.o _) ?_);rintro e w2 ⟨rfl,hw⟩;subst hw;clear T2)
     |(go_at_call 163;(with_reducible refine Calls.mono (T3.o _) ?_);rintro e w3 ⟨rfl,hw⟩;subst hw;clear T3)
     |(go_at_call 163;(with_reducible refine Calls.mono (T4.o _) ?_);rintro e w4 ⟨rfl,hw⟩;subst hw;clear T4))
    go_ret;exact⟨by rw[E.o];rfl,HB.o⟩
theorem OJ (p:Pt) (w:World) (hk:p.ss.length=32) (hs:pSm p.c) (ht:p.tr.length≤1000000000):Calls Tryz.prog 108 #[.agg (ptC p).toArray] w fun e w'=>e = .returned (.bool (ptB p))∧Below w.heap.size w w':=by
 rw[←Yb];exact Mp p w hk hs ht
end Mc
end Go.Proofs.YthhlieppeahjeaaGreat
