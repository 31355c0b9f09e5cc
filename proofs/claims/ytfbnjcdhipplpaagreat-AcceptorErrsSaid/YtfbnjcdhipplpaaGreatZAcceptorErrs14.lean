import Derived.Test.YtfbnjcdhipplpaaGreatZAcceptorErrs13
set_option maxHeartbeats 25600000
set_option maxRecDepth 100000
set_option linter.unusedVariables false
set_option linter.unusedSimpArgs false
namespace Go.Proofs.YtfbnjcdhipplpaaGreat
namespace Rg
open Go.RowKit Af Se
structure DRing (w:World) (B q:Nat) (v:Value) (l:List It):Prop where
 blk:Blk w q 104 #[v]
 row:w.ownsRow B 169 35 v l.length (l.flatMap iC)
 lo:B<=q
 vq:v.ownBlock≠some q
abbrev DO (q:Nat) (v:Value) (k:Nat):Prop:=k=q\/v.ownBlock=some k
section
variable {w w':World} {B q:Nat} {v:Value} {l:List It} {S:Nat->Prop}
theorem DRing.lt (h:DRing w B q v l):q<w.heap.size:=h.blk.lt
theorem DRing.own_lo (h:DRing w B q v l) {k:Nat} (hk:DO q v k):B<=k:=by
 rcases hk with hk | hk
 ·subst hk;exact h.lo
 ·exact(World.ownsRow.lt h.row k hk).1
theorem DRing.own_lt (h:DRing w B q v l) {k:Nat} (hk:DO q v k):k<w.heap.size:=by
 rcases hk with hk | hk
 ·subst hk;exact h.blk.lt
 ·exact(World.ownsRow.lt h.row k hk).2
theorem DRing.chg (h:DRing w B q v l) (M:Chg S w w') (hs:∀k,DO q v k->¬S k):DRing w' B q v l:=
 ⟨M.blk h.blk (hs q (.inl rfl)),Bt M h.row (fun k hk=>hs k (.inr hk)),h.lo,h.vq⟩
theorem DRing.below (h:DRing w B q v l) (M:Below w.heap.size w w'):DRing w' B q v l:=h.chg (S:=fun _=>False) (Chg.of_below M) (fun _ _ x=>x)
theorem DRing.num (h:DRing w B q v l):∃A c,v=.slice A l.length c/\l.length<=c/\c<=maxLen/\RdR w w.heap.size A iC 35 l:=Bq Ce h.row
end
theorem iC_p0 (x:It):(iC x)[0]? = some (.string ⟨x.p.1.toArray⟩):=rfl
theorem iC_p1 (x:It):(iC x)[1]? = some (.string ⟨x.p.2.toArray⟩):=rfl
theorem iC_n (x:It):(iC x)[2]? = some (.int .i64 (x.n:Int)):=rfl
theorem Ud {l:List It} {i:Nat} {x:It} {p:Pr} (h:l[i]? = some x) (hp:x.p=p):numO l (BV l p (i+1))=x.n:=by
 rw[BV,if_pos (by rw[h,<-hp];rfl)];simp [numO,h]
theorem QO {l:List It} {i:Nat} {x:It} {p:Pr} (h:l[i]? = some x) (hp:x.p≠p):BV l p (i+1)=BV l p i:=by
 rw[BV,if_neg];rw[h];intro y;injection y with y;exact hp y
theorem Ue (B q:Nat) (v:Value) (l:List It) (p:Pr) (w:World) (h:DRing w B q v l) (hl:l.length<=1000) :
  Calls Tryz.prog 70 #[.pointer (some ⟨q,0,none⟩),prV p] w fun e w'=>e=.returned (.int .i64 (Ci l p:Int))/\Below w.heap.size w w':=by
 obtain⟨A,c,rfl,hc,hm,hr⟩:=h.num;have O:=h.blk;obtain⟨n,en⟩:=Ak (l.length);rw[<-en] at O hc hl;have EN:=I en;obtain⟨W,eW⟩:=Ak (w.alloc (.cells #[.string ⟨p.1.toArray⟩,.string ⟨p.2.toArray⟩] 27));have Z:Below w.heap.size w W:=eW▸Ah.alloc Ag _;have HP:=I (show Blk W w.heap.size 27 #[.string ⟨p.1.toArray⟩,.string ⟨p.2.toArray⟩] from eW▸Blk.new w _ _);have HB:=I Z;have HQ:=I (O.below Z);have HR:=I (hr.keep Z);have av:=O.lt;clear Z hr O en h;go_enter Tryz.func70,Tryz.ntmps70
 go_upto_region 1 with fail
 rw[<-eW];obtain⟨N,eN⟩:=Ak (w.heap.size);rw[<-eN] at HP HB HR av⊢;have aw:=I eN;clear eW eN
 go_wp2
 go_loopw [5,6] (fun nv iv wr=>∃i:Nat,i<=n/\iv=.int .i64 (i:Int)/\nv=.int .i64 (numO l (BV l p i):Int)/\Below N w wr/\Blk wr N 27 #[.string ⟨p.1.toArray⟩,.string ⟨p.2.toArray⟩]/\Blk wr q 104 #[.slice A n c]/\RdR wr N A iC 35 l) (fun _ iv _=>n - (intOf iv).toNat)
 case atStart=>exact⟨0,Nat.zero_le _,rfl,rfl,HB.o,HP.o,HQ.o,HR.o⟩
 case round=>
  clear HB HP HQ HR;obtain⟨i,hi,rfl,rfl,Z,hp,hq,hr⟩:=hrel;have HB:=I Z;have HP:=I hp;have HQ:=I hq;have HR:=I hr;have kq:=hq.c0;obtain⟨z,ez⟩:=Ak (numO l (BV l p i));rw[<-ez];have EZ:=I ez
  by_cases hlt:i<n
  ·have e1:(i:Int)<(n:Int):=by omega
   have e2:(0:Int)<=(i:Int):=by omega
   obtain⟨x,hx⟩:∃x,l[i]? = some x:=⟨l[i]'(by rw[<-EN.o];exact hlt),List.getElem?_eq_getElem _⟩;obtain⟨g,rfl,bn,M⟩:=hr.at_ hx;have h0:wr.cell? ⟨g,i*35,none⟩=some (.string ⟨x.p.1.toArray⟩):=M 0 _ (iC_p0 x);have h1:wr.cell? ⟨g,i*35+1,none⟩=some (.string ⟨x.p.2.toArray⟩):=M 1 _ (iC_p1 x);have h2:wr.cell? ⟨g,i*35+2,none⟩=some (.int .i64 (x.n:Int)):=M 2 _ (iC_n x);have bq:=hp.c0;have bb:=hp.c1;have HX:=I hx;clear M hx hr Z hp hq ez
   by_cases hh:x.p=p
   ·have t1:=Dp hh
    have HH:=I hh;clear hh
    go_wp2
    go_quiet (fail)
    go_wp2
    go_roundw
    case rel=>exact⟨i+1,by omega,by go_num,by rw[Ud HX.o HH.o],below_drewN HB.o _,HP.o.drewN _,HQ.o.drewN _,HR.o.keep (below_drewN Ah _)⟩
    case measure=>simp [intOf];omega
   ·have t1:=DS hh
    have HH:=I hh;clear hh
    go_wp2
    go_quiet (fail)
    go_wp2
    go_roundw
    case rel=>exact⟨i+1,by omega,by go_num,by rw[QO HX.o HH.o,EZ.o],below_drewN HB.o _,HP.o.drewN _,HQ.o.drewN _,HR.o.keep (below_drewN Ah _)⟩
    case measure=>simp [intOf];omega
  ·have e1:decide ((i:Int)<(n:Int))=false:=by simp;omega
   obtain rfl:n=i:=by omega
   clear hr Z hp hq hi hlt ez
   go_wp2
   go_ret;exact⟨by rw[EZ.o,Ci,Gc,<-EN.o];rfl,by rw[<-aw.o];exact HB.o⟩
theorem Al {P:Program} {fn:Func} {tmps:Array Value} {w:World} {v u:Value} (t q:Nat) (ty:TypeId) (a:Addr) (M:fn.results=#[.cell t ty,.tmp q]) (ht:tmps.getD t undef=.pointer (some a)) (hl:(loadVar ty a).run P w=.ok v w) (hq:tmps.getD q undef=u) :
  (results fn tmps).run P w=.ok (.tuple #[v,u]) w:=by
 have O:tmps[t]?.getD undef=.pointer (some a):=by simpa using ht
 have Z:tmps[q]?.getD undef=u:=by simpa using hq
 simp [results,M,O,Z,asAddr,hl]
theorem WD (p:Pr) (w:World) (M:p.1.length<=1000000000) (O:p.2.length<=1000000000):Calls Tryz.prog 28 #[prV p] w fun e w'=>e=.returned (.bool (prB p))/\Below w.heap.size w w':=Nm.DZ p.1 p.2 w M O
def zeroI:Array Value:=#[.string ⟨#[]⟩,.string ⟨#[]⟩,.int .i64 0,.int .u8 0,.int .u8 0,.int .u8 0,.int .u8 0,.int .u8 0,.int .u8 0,.int .u8 0,.int .u8 0,.int .u8 0,.int .u8 0,.int .u8 0,.int .u8 0,.int .u8 0,.int .u8 0,.int .u8 0,.int .u8 0,.int .u8 0,.int .u8 0,.int .u8 0,.int .u8 0,.int .u8 0,.int .u8 0,.int .u8 0,.int .u8 0,.int .u8 0,.int .u8 0,.int .u8 0,.int .u8 0,.int .u8 0,.int .u8 0,.int .u8 0,.int .u8 0]
theorem WE:(Tryz.prog.info? 169).map (fun i=>(i.zero,i.size,i.bytes))=some (some (.agg zeroI),35,72):=by kernel_rfl
theorem QP (p:Pr) (n:Nat) (k:Nat->UInt8):Tryz.prog.built 169 [(0,prV p),(1,.int .i64 (n:Int)),(2,.agg (Be k))]=some (iC ⟨p,n,k⟩).toArray:=by
 kernel_rfl
theorem PK {w Z w6:World} {B q:Nat} {v v6:Value} {l:List It} {it:It} (h:DRing w B q v l) (hb:Below w.heap.size w Z) (h5:DRing Z B q v l)
  (ho:w6.ownsRow B 169 35 v6 (l++[it]).length ((l++[it]).flatMap iC)) (hg:Z.grownBy w6 v.ownBlock) (hv:v6.ownBlock=v.ownBlock\/v6.ownBlock=some Z.heap.size) :
  DRing (w6.setCell ⟨q,0,none⟩ v6) B q v6 (l++[it])/\Chg (DO q v) w (w6.setCell ⟨q,0,none⟩ v6)/\(∀k,DO q v6 k->DO q v k\/w.heap.size<=k):=by
 have O:v6.ownBlock≠some q:=fun x=>by
  rcases hv with g | g
  ·rw[g] at x;exact h.vq x
  ·rw[g] at x;injection x with x;have:=h5.lt;omega
 have M:Chg (fun k=>k=q) w6 (w6.setCell ⟨q,0,none⟩ v6):=Chg.set (p:=⟨q,0,none⟩) (Chg.refl (fun k=>k=q) w6) (.inl rfl) v6;have hc:Chg (DO q v) w (w6.setCell ⟨q,0,none⟩ v6):=
  (((Chg.of_below hb).trans (Ih hg) (fun k _ x=>.inr x)).trans M (fun k _ x=>.inl x):Chg (DO q v) w _)
 refine⟨⟨(h5.blk.grown hg h5.vq).set 0 v6,Bt M ho (fun k hk x=>O (x▸hk)),h.lo,O⟩,hc,fun k hk=>?_⟩;rcases hk with hk | hk
 ·exact .inl (.inl hk)
 ·rcases hv with g | g
  ·exact .inl (.inr (g▸hk))
  ·rw[g] at hk;injection hk with hk;exact .inr (by have:=hb.size;omega)
theorem ag (B q:Nat) (v:Value) (l:List It) (p:Pr) (k:Nat->UInt8) (w:World) (h:DRing w B q v l) (hB:B<=w.heap.size) (h1:p.1.length<=1000000000) (h2:p.2.length<=1000000000) (hp:prB p=true) (hl:l.length<40) (hn:Ci l p<255) :
  Calls Tryz.prog 33 #[.pointer (some ⟨q,0,none⟩),prV p,.agg (Be k)] w fun e w'=>e=.returned (.tuple #[.int .i64 ((Ci l p:Int)+1),.int .i64 0])/\∃v',DRing w' B q v' (l++[⟨p,Ci l p+1,k⟩])/\Chg (DO q v) w w'/\(∀k,DO q v' k->DO q v k\/w.heap.size<=k):=by
 obtain⟨A,c,rfl,hc,hm,hr⟩:=h.num;obtain⟨n,en⟩:=Ak (l.length);have EN:=I en;obtain⟨z,ez⟩:=Ak (Ci l p);have EZ:=I ez;have CL:=I (fun(w1:World) (h:DRing w1 B q (.slice A l.length c) l)=>Ue B q (.slice A l.length c) l p w1 h (by omega));have CP:=I (fun w1=>WD p w1 h1 h2);rw[hp] at CP;rw[<-ez] at CL;obtain⟨kv,cf⟩:=Ak (Be k);rw[<-cf];have cL:=h.lt;obtain⟨W,eW⟩:=Ak ((w.alloc (.cells #[.string ⟨p.1.toArray⟩,.string ⟨p.2.toArray⟩] 27)).alloc (.cells kv 29));have hb:Below w.heap.size w W:=eW▸(Ah.alloc Ag _).alloc (by simp) _;have O:=I (show Blk W w.heap.size 27 #[.string ⟨p.1.toArray⟩,.string ⟨p.2.toArray⟩] from eW▸(Blk.new w _ _).alloc _);have Z:=I (show Blk W (w.heap.size+1) 29 kv by have:=Blk.new (w.alloc (.cells #[.string ⟨p.1.toArray⟩,.string ⟨p.2.toArray⟩] 27)) 29 kv;simp only[World.size_alloc] at this;exact eW▸this);have HB:=I hb;have M:=I (h.below hb);have HW:=I h;have cj:=O.c0;have cg:=O.c1;have cB:IntKind.i64.wrap ((z:Int)+1)=(z:Int)+1:=by rw[IntKind.wrap_i64];omega
 have EK:=I cf;have cA:=I (show(Tryz.prog.info? 29).map (·.size)=some kv.size by rw[cf];exact Kn k);obtain⟨i0,cn,ck,cm,cq⟩:=info_parts WE;have cy:=I cn;have ct:=I ck;have cr:=I cm;have cx:=I cq;have cu:=I (fun(w1:World)=>Wh.Fj (P:=Tryz.prog) w1 102 169 (iC ⟨p,z+1,k⟩).toArray i0 _ Tryz.underlying102 cn ck (by rw[cm];simp [Ce]) (by simp [Ce]) (by simp [Ce]));have cp:=I hB;have HN:=I (show z<255 by omega);have t1:decide (40<=(n:Int))=false:=by simp;omega
 have t2:decide (255<=(z:Int))=false:=by simp;omega
 have HL:=I (show n<40 by omega);clear cn ck cm cq hB hb h hr h1 h2 hp hn hl cf en hc hm;rw[<-ez];clear ez;go_enter Tryz.func33,Tryz.ntmps33
 go_upto_region 1 with fail
 rw[<-eW];clear eW
 go_wp2_with (first
  |(go_at_call 28;refine Aj (CP.o _) ?_;rintro w1 hb;replace HB:=HB.t hb;replace M:=I (M.o.below hb);replace O:=I (O.o.below hb);replace Z:=I (Z.o.below hb);have cj:=O.c0;have cg:=O.c1;have kr:w1.cell? ⟨q,0,none⟩=some (.slice A n c):=EN.o▸M.o.blk.cell 0;clear hb)
  |(go_at_call 70;refine Aj (CL.o _ M.o) ?_;rintro w2 hb;clear cj cg kr;replace HB:=HB.t hb;replace M:=I (M.o.below hb);replace O:=I (O.o.below hb);replace Z:=I (Z.o.below hb);have cj:=O.c0;have cg:=O.c1;have kr:w2.cell? ⟨q,0,none⟩=some (.slice A n c):=EN.o▸M.o.blk.cell 0;clear hb)
  |fail)
 replace O:=I (show Blk w2.drew _ _ _ from O.o.drewN 1);replace Z:=I (show Blk w2.drew _ _ _ from Z.o.drewN 1);replace M:=I (show DRing w2.drew B q _ l from M.o.below (below_drewN Ah 1));replace HB:=I (show Below w.heap.size w w2.drew from below_drewN HB.o 1);clear cj cg kr;refine Reg.BR (fun w'=>Blk w' w.heap.size 27 #[.string ⟨p.1.toArray⟩,.string ⟨p.2.toArray⟩]/\Blk w' (w.heap.size+1) 29 kv) 15 rfl (by kernel_rfl) ⟨O.o,Z.o⟩ ?_;obtain⟨W2,cw⟩:=Ak (w2.drew);rw[<-cw] at O Z M HB⊢;clear cw;refine Reg.ty 0 rfl ⟨O.o,Z.o⟩ ?_;refine Reg.ty 1 rfl ⟨O.o,Z.o⟩ ?_;refine Reg.ty 2 rfl ⟨O.o,Z.o⟩ ?_;refine Reg.ty 3 rfl ⟨O.o,Z.o⟩ ?_;refine Reg.tw 5 (v:=.agg #[.string ⟨p.1.toArray⟩,.string ⟨p.2.toArray⟩]) rfl ⟨O.o,Z.o⟩ (fun w' hS=>by exact Wh.BG (.tmp 4) rfl rfl hS.1 Tryz.underlying27 rfl Dq) ?_;refine Reg.ty 6 rfl ⟨O.o,Z.o⟩ ?_;refine Reg.tw 7 (v:=.int .i64 ((z:Int)+1)) rfl ⟨O.o,Z.o⟩ (fun w' hS=>by go_simp) ?_;refine Reg.tw 8 (v:=.agg kv) rfl ⟨O.o,Z.o⟩ (fun w' hS=>by exact Wh.BG (.tmp 5) rfl rfl hS.2 Tryz.underlying29 rfl cA.o) ?_;refine Reg.tw 9 (v:=.agg (iC ⟨p,z+1,k⟩).toArray) rfl ⟨O.o,Z.o⟩ (fun w' hS=>by exact Em (by go_simp) (EK.o▸QP p (z+1) k)) ?_;refine Reg.JC [4,10] (by kernel_rfl) (by simp) ?_;intro j0 av;have av:j0=4\/j0=10:=by simpa using av
 rcases av with rfl | rfl
 ·have kr:W2.cell? ⟨q,0,none⟩=some (.slice A n c):=EN.o▸M.o.blk.cell 0
  refine⟨_,_,_,_,_,_,_,_,rfl,by rfl,by(go_simp;rfl),⟨O.o,Z.o⟩,?_⟩;simp only[Act.put,U,Aa,Ab];clear kr;refine Reg.JC [10] (by kernel_rfl) (by simp) ?_;intro j0 av;obtain rfl:j0=10:=by simpa using av
  clear av;have hb:Below W2.heap.size W2 (W2.alloc (.cells (iC ⟨p,z+1,k⟩).toArray 169)):=Ah.alloc Ag _;refine⟨_,_,_,_,_,_,.slice (some ⟨W2.heap.size,0,none⟩) 1 1,(W2.alloc (.cells (iC ⟨p,z+1,k⟩).toArray 169)),rfl,by rfl,Cl rfl (cu.o _),⟨O.o.below hb,Z.o.below hb⟩,?_⟩;simp only[Act.put,U,Aa,Ab];have bz:=I (Blk.new W2 169 (iC ⟨p,z+1,k⟩).toArray);replace HB:=HB.t hb;replace M:=I (M.o.below hb);replace O:=I (O.o.below hb);replace Z:=I (Z.o.below hb);clear hb;obtain⟨W5,cc⟩:=Ak ((W2.alloc (.cells (iC ⟨p,z+1,k⟩).toArray 169)));obtain⟨g5,cd⟩:=Ak (W2.heap.size);rw[<-cc] at bz HB M O Z⊢;rw[<-cd] at bz⊢;clear cc cd;refine Reg.JC [11] (by kernel_rfl) (by simp) ?_;intro j0 av;obtain rfl:j0=11:=by simpa using av
  clear av;obtain⟨v6,w6,aw,bx,bb,cb⟩:=Wh.FG (P:=Tryz.prog) iC 35 72 Ce TX W5 102 102 169 i0 _ Tryz.underlying102 cy.o ct.o cr.o cx.o (by rfl) (by omega) B _ l M.o.row ⟨p,z+1,k⟩ g5 bz.o (by have:=EN.o;have:=HL.o;omega) (by omega) (Nat.le_trans cp.o HB.o.size);rw[<-EN.o] at aw;replace O:=I (O.o.grown bb (fun x=>by have:=(World.ownsRow.lt HW.o.row _ x).2;omega));replace Z:=I (Z.o.grown bb (fun x=>by have:=(World.ownsRow.lt HW.o.row _ x).2;omega));refine⟨_,_,_,_,_,_,v6,w6,rfl,by rfl,DG rfl rfl aw,⟨O.o,Z.o⟩,?_⟩;simp only[Act.put,U,Aa,Ab];refine Reg.ty 12 rfl ⟨O.o,Z.o⟩ ?_;refine Reg.ty 13 rfl ⟨O.o,Z.o⟩ ?_;have bq:=PK HW.o HB.o M.o bx bb cb;have bB:=M.o.blk.grown bb M.o.vq;obtain⟨A7,c7,e7,_⟩:=Bq Ce bx;obtain⟨m7,ca⟩:=Ak ((l++[(⟨p,z+1,k⟩:It)]).length);rw[<-ca] at e7;subst e7;have f0:=bB.frozen 0;have k6:=bB.c0;refine Reg.BD 14 (w6.setCell ⟨q,0,none⟩ (.slice A7 m7 c7)) rfl (by kernel_rfl) (by rfl) (by go_simp) ⟨Si.Blk.far O.o _ _ (by simp;have:=HW.o.lt;omega),Si.Blk.far Z.o _ _ (by simp;have:=HW.o.lt;omega)⟩ ?_;simp only[Act.put,U,Aa,Ab];refine wpAnyH_done (by kernel_rfl) ?_ _;clear f0 k6 bB bx bb cb aw ca;have bn:=I bq;clear bq
  go_wp2
  go_ret2
  exact⟨rfl,_,bn.o.1,bn.o.2.1,bn.o.2.2⟩
 ·have hb:Below W2.heap.size W2 (W2.alloc (.cells (iC ⟨p,z+1,k⟩).toArray 169)):=Ah.alloc Ag _
  refine⟨_,_,_,_,_,_,.slice (some ⟨W2.heap.size,0,none⟩) 1 1,(W2.alloc (.cells (iC ⟨p,z+1,k⟩).toArray 169)),rfl,by rfl,Cl rfl (cu.o _),⟨O.o.below hb,Z.o.below hb⟩,?_⟩;simp only[Act.put,U,Aa,Ab];have bz:=I (Blk.new W2 169 (iC ⟨p,z+1,k⟩).toArray);replace HB:=HB.t hb;replace M:=I (M.o.below hb);replace O:=I (O.o.below hb);replace Z:=I (Z.o.below hb);clear hb;obtain⟨W5,cc⟩:=Ak ((W2.alloc (.cells (iC ⟨p,z+1,k⟩).toArray 169)));obtain⟨g5,cd⟩:=Ak (W2.heap.size);rw[<-cc] at bz HB M O Z⊢;rw[<-cd] at bz⊢;clear cc cd;refine Reg.JC [4] (by kernel_rfl) (by simp) ?_;intro j0 av;obtain rfl:j0=4:=by simpa using av
  clear av;have kr:W5.cell? ⟨q,0,none⟩=some (.slice A n c):=EN.o▸M.o.blk.cell 0;refine⟨_,_,_,_,_,_,_,_,rfl,by rfl,by(go_simp;rfl),⟨O.o,Z.o⟩,?_⟩;simp only[Act.put,U,Aa,Ab];clear kr;refine Reg.JC [11] (by kernel_rfl) (by simp) ?_;intro j0 av;obtain rfl:j0=11:=by simpa using av
  clear av;obtain⟨v6,w6,aw,bx,bb,cb⟩:=Wh.FG (P:=Tryz.prog) iC 35 72 Ce TX W5 102 102 169 i0 _ Tryz.underlying102 cy.o ct.o cr.o cx.o (by rfl) (by omega) B _ l M.o.row ⟨p,z+1,k⟩ g5 bz.o (by have:=EN.o;have:=HL.o;omega) (by omega) (Nat.le_trans cp.o HB.o.size);rw[<-EN.o] at aw;replace O:=I (O.o.grown bb (fun x=>by have:=(World.ownsRow.lt HW.o.row _ x).2;omega));replace Z:=I (Z.o.grown bb (fun x=>by have:=(World.ownsRow.lt HW.o.row _ x).2;omega));refine⟨_,_,_,_,_,_,v6,w6,rfl,by rfl,DG rfl rfl aw,⟨O.o,Z.o⟩,?_⟩;simp only[Act.put,U,Aa,Ab];refine Reg.ty 12 rfl ⟨O.o,Z.o⟩ ?_;refine Reg.ty 13 rfl ⟨O.o,Z.o⟩ ?_;have bq:=PK HW.o HB.o M.o bx bb cb;have bB:=M.o.blk.grown bb M.o.vq;obtain⟨A7,c7,e7,_⟩:=Bq Ce bx;obtain⟨m7,ca⟩:=Ak ((l++[(⟨p,z+1,k⟩:It)]).length);rw[<-ca] at e7;subst e7;have f0:=bB.frozen 0;have k6:=bB.c0;refine Reg.BD 14 (w6.setCell ⟨q,0,none⟩ (.slice A7 m7 c7)) rfl (by kernel_rfl) (by rfl) (by go_simp) ⟨Si.Blk.far O.o _ _ (by simp;have:=HW.o.lt;omega),Si.Blk.far Z.o _ _ (by simp;have:=HW.o.lt;omega)⟩ ?_;simp only[Act.put,U,Aa,Ab];refine wpAnyH_done (by kernel_rfl) ?_ _;clear f0 k6 bB bx bb cb aw ca;have bn:=I bq;clear bq
  go_wp2
  go_ret2
  exact⟨rfl,_,bn.o.1,bn.o.2.1,bn.o.2.2⟩
end Rg
namespace Kd
open Go.RowKit Af Se Nm
open Rg (It Ent Ring RO DRing DO its)
open Ms (Re Tg reC tgC)
open Rt (Tp kl)
theorem Ov {l:L} (h:l.length=32):Be (ksOf l)=(bvs l).toArray:=by
 show((List.range 32).map (fun i=>bv (ksOf l i))).toArray=(bvs l).toArray
 congr 1
 apply List.ext_getElem?;intro i;simp only[List.getElem?_map,bvs]
 by_cases g:i<32
 ·rw[List.getElem?_range g,List.getElem?_eq_getElem (by omega)]
  simp [ksOf,List.getD,h,g]
 ·rw[List.getElem?_eq_none (by simp;omega),List.getElem?_eq_none (by omega)]
  rfl
theorem Ee (w:World) (g o:Nat) (u:Value):Chg (fun j=>j=g) w (w.setCell ⟨g,o,none⟩ u):=(Chg.refl (fun j=>j=g) w).set (p:=⟨g,o,none⟩) (.inl rfl) u
def SlK (K:Nat->Prop) (w:World) (v:Value) (ls:List L):Prop:=∃A c,v=.slice A ls.length c/\ls.length<=c/\(ls = []\/∃b o,A=some ⟨b,o,none⟩/\K b/\∀i u,(strs ls)[i]? = some u->w.cell? ⟨b,o+i,none⟩=some u)
def SpK (K:Nat->Prop) (w:World) (v:Value) (P:List (L×L)):Prop:=∃A c,v=.slice A P.length c/\P.length<=c/\(P = []\/∃b o,A=some ⟨b,o,none⟩/\K b/\∀i,i<P.length->w.cell? ⟨b,o+i*2,none⟩=some (.string ⟨(kl P i).1.toArray⟩)/\w.cell? ⟨b,o+i*2+1,none⟩=some (.string ⟨(kl P i).2.toArray⟩))
structure TpK (K:Nat->Prop) (w:World) (v1 v2 v3:Value) (T:Tp):Prop where
 r:SlK K w v1 T.R
 k:SpK K w v2 T.K
 n:v3=.slice none 0 0
 p:T.P = []
section
variable {K K' S:Nat->Prop} {w w':World} {v v1 v2 v3:Value} {ls:List L} {P:List (L×L)} {T:Tp}
theorem SlK.keep (h:SlK K w v ls) (hk:∀b o,K b->w'.cell? ⟨b,o,none⟩=w.cell? ⟨b,o,none⟩) (hm:∀b,K b->K' b):SlK K' w' v ls:=by
 obtain⟨A,c,h1,Z,M⟩:=h;refine⟨A,c,h1,Z,?_⟩;rcases M with M | ⟨b,o,e,O,hc⟩
 ·exact .inl M
 ·exact .inr ⟨b,o,e,hm b O,fun i u hu=>(hk b _ O).trans (hc i u hu)⟩
theorem SpK.keep (h:SpK K w v P) (hk:∀b o,K b->w'.cell? ⟨b,o,none⟩=w.cell? ⟨b,o,none⟩) (hm:∀b,K b->K' b):SpK K' w' v P:=by
 obtain⟨A,c,h1,h2,O⟩:=h;refine⟨A,c,h1,h2,?_⟩;rcases O with O | ⟨b,o,e,M,Z⟩
 ·exact .inl O
 ·exact .inr ⟨b,o,e,hm b M,fun i hi=>⟨(hk b _ M).trans (Z i hi).1,(hk b _ M).trans (Z i hi).2⟩⟩
theorem TpK.keep (h:TpK K w v1 v2 v3 T) (hk:∀b o,K b->w'.cell? ⟨b,o,none⟩=w.cell? ⟨b,o,none⟩) (hm:∀b,K b->K' b):TpK K' w' v1 v2 v3 T:=⟨h.r.keep hk hm,h.k.keep hk hm,h.n,h.p⟩
theorem TpK.chg (h:TpK K w v1 v2 v3 T) (O:Chg S w w') (hs:∀b,K b->b<w.heap.size/\¬S b):TpK K w' v1 v2 v3 T:=
 h.keep (fun b o M=>World.cell?_of_block (a:=⟨b,o,none⟩) (O.block b (hs b M).1 (hs b M).2)) (fun _ x=>x)
theorem SlK.slv {B:Nat} (h:SlK K w v ls) (hK:∀b,K b->b<B):Rt.SlV w B v ls:=by
 obtain⟨A,c,Z,O,M⟩:=h;refine⟨A,c,Z,O,?_⟩;rcases M with M | ⟨b,o,e,hb,hc⟩
 ·subst M;exact .inl rfl
 ·exact .inr ⟨b,o,e,hK b hb,hc⟩
theorem SpK.slp {B:Nat} (h:SpK K w v P) (hK:∀b,K b->b<B):Rt.SlP w B v P:=by
 obtain⟨A,c,Z,O,M⟩:=h;refine⟨A,c,Z,O,?_⟩;rcases M with M | ⟨b,o,e,hb,hc⟩
 ·exact .inl M
 ·exact .inr ⟨b,o,e,hK b hb,hc⟩
theorem TpK.tpv {B:Nat} (h:TpK K w v1 v2 v3 T) (M:∀b,K b->b<B):Rt.TpV w B (.agg #[v1,v2,v3]) T:=
 ⟨v1,v2,v3,rfl,h.r.slv M,h.k.slp M,none,0,by rw[h.n,h.p];rfl,by rw[h.p];exact Nat.le_refl _,.inl h.p⟩
theorem TpK.sizes (h:TpK K w v1 v2 v3 T):∃A1 c1 A2 c2,v1=.slice A1 T.R.length c1/\v2=.slice A2 T.K.length c2/\v3=.slice none 0 0:=by
 obtain⟨A1,c1,O,_⟩:=h.r;obtain⟨A2,c2,M,_⟩:=h.k;exact⟨A1,c1,A2,c2,O,M,h.n⟩
end
def SlN (S:Nat->Prop) (w:World) (v:Value) (l:L):Prop:=∃A c,v=.slice A l.length c/\l.length<=c/\RdA S w A (bvs l)
section
variable {S S' T:Nat->Prop} {w w':World} {v:Value} {l:L}
theorem SlN.keep (h:SlN S w v l) (hc:Chg T w w') (ht:∀i,i<w.heap.size->T i->S i) (hs:∀i,i<w.heap.size->S' i->S i):SlN S' w' v l:=by
 obtain⟨A,c,Z,O,M⟩:=h;exact⟨A,c,Z,O,M.keep hc ht hs⟩
theorem SlN.below (h:SlN S w v l) (M:Below w.heap.size w w'):SlN S w' v l:=h.keep (Chg.of_below (S:=fun _=>False) M) (fun _ _ x=>x.elim) (fun _ _ x=>x)
theorem SlN.mono (h:SlN S w v l) (hs:∀i,i<w.heap.size->S' i->S i):SlN S' w v l:=h.keep (Chg.refl (fun _=>False) w) (fun _ _ x=>x.elim) hs
theorem SlN.sl (h:SlN S w v l):Ms.SlB w w.heap.size v l:=by
 obtain⟨A,c,O,M,Z⟩:=h;exact⟨A,c,O,M,Z.rd⟩
end
def ReN (S:Nat->Prop) (w:World) (cs:Array Value) (x:Re):Prop:=∃b a,cs=(reC x b a).toArray/\SlN S w b x.t.b/\SlN S w a x.b
def TgN (S:Nat->Prop) (w:World) (cs:Array Value) (x:Tg):Prop:=∃b a,cs=(tgC x b a).toArray/\SlN S w b x.t.b/\SlN S w a x.a
section
variable {S S' T:Nat->Prop} {w w':World} {cs:Array Value} {x:Re} {y:Tg}
theorem ReN.keep (h:ReN S w cs x) (M:Chg T w w') (O:∀i,i<w.heap.size->T i->S i) (hs:∀i,i<w.heap.size->S' i->S i):ReN S' w' cs x:=by
 obtain⟨b,a,h1,Z,h3⟩:=h;exact⟨b,a,h1,Z.keep M O hs,h3.keep M O hs⟩
theorem ReN.below (h:ReN S w cs x) (M:Below w.heap.size w w'):ReN S w' cs x:=h.keep (Chg.of_below (S:=fun _=>False) M) (fun _ _ x=>x.elim) (fun _ _ x=>x)
theorem TgN.keep (h:TgN S w cs y) (M:Chg T w w') (O:∀i,i<w.heap.size->T i->S i) (hs:∀i,i<w.heap.size->S' i->S i):TgN S' w' cs y:=by
 obtain⟨b,a,h1,Z,h3⟩:=h;exact⟨b,a,h1,Z.keep M O hs,h3.keep M O hs⟩
theorem TgN.below (h:TgN S w cs y) (M:Below w.heap.size w w'):TgN S w' cs y:=h.keep (Chg.of_below (S:=fun _=>False) M) (fun _ _ x=>x.elim) (fun _ _ x=>x)
end
structure KP where
 k:Nat
 r:Nat
 lo:Nat
 hi:Nat
 R:L
 T:Tp
 v:Value
 v1:Value
 v2:Value
 v3:Value
def KT (p:KP) (j:Nat):Prop:=p.lo<=j/\j<p.hi
def KO (p:KP) (es:List Ent) (j:Nat):Prop:=j=p.k\/RO p.r p.v es j
def KA (p:KP) (es:List Ent) (j:Nat):Prop:=KO p es j\/KT p j
section
variable {w w':World} {B:Nat} {p:KP} {es es':List Ent} {n i n' i':Nat} {S:Nat->Prop}
def New' (w:World) (p:KP) (es es':List Ent):Prop:=∀j,KO p es' j->KO p es j\/w.heap.size<=j
theorem New'.refl (w:World) (p:KP) (es:List Ent):New' w p es es:=fun _ h=>.inl h
theorem New'.trans {es2:List Ent} {a:World} (h:New' a p es es') (g:New' w p es' es2) (hs:a.heap.size<=w.heap.size):New' a p es es2:=fun j M=>by
 rcases g j M with x | x
 ·exact h j x
 ·exact .inr (by omega)
end
structure DP where
 x:Nat
 q:Nat
 lo:Nat
 hi:Nat
 R:L
 T:Tp
 v:Value
 v1:Value
 v2:Value
 v3:Value
section
variable {w w':World} {B:Nat} {p:DP} {l:List It} {n m:Nat} {S:Nat->Prop}
end
end Kd
namespace Reg
open Go.RowKit Af
section
variable {P:Program} {ops:Array Oper} {Q:Exit->Act->World->Prop} {md:Region.Mode} {S:World->Prop}
theorem BH (i:Nat) {dst:Option Tmp} {O:TypeId} {x y:Operand} {ty:TypeId} {pos:String} {after:Array _} {guard:Option (Nat×Bool)} {fuel:Nat} {M:Array Bool} {a:Act} {w:World} (hi:ops[i]? = some ⟨dst,.store O x y,ty,pos,after,guard⟩)
  (hr:Region.ready md ops M = [i]) (hw:Region.wanted ⟨dst,.store O x y,ty,pos,after,guard⟩ (yielded ops a.tmps)=true) (g:Nat) (t:TypeId) (old cells:Array Value) (hb:Blk w g t old) (hx:a.eval x=.pointer (some ⟨g,0,none⟩)) (hy:a.eval y=.agg cells) (hs:old.size=cells.size)
  (hI:(P.info? O).map (·.size)=some cells.size) (h1:cells.all (·.oneCell')=true)
  (h:∀V,Blk V g t cells->w.grownBy V (some g)->S V/\wpAnyH P md ops Q S fuel (M.setIfInBounds i true) (a.put dst undef) V):wpAnyH P md ops Q S (fuel+1) M a w:=by
 have ht:w.there g 0 cells.size:=Wh.Cx hb 0 _ (by omega);have Z:(execOp a.eval ⟨dst,.store O x y,ty,pos,after,guard⟩).run P w=.ok .skip (w.setCells g 0 cells.toList):=by
  unfold execOp;simp only[hx,hy,Instr.storeAt,Instr.sureAddr,Sem.run_bind,Sem.run_pure,Result.andThen_ok,run_storeVar_mid w g 0 O cells ht hI h1]
 obtain⟨h2,h3⟩:=h _ (Wh.AK hb hs) (Wh.Fi _ _ _ _);exact BD i _ hi hr hw Z h2 h3
theorem tk (i:Nat) {dst:Option Tmp} {op:Op} {ty:TypeId} {pos:String} {after:Array _} {guard:Option (Nat×Bool)} {v:Value} {fuel:Nat} {M:Array Bool} {a:Act} {w:World} (hi:ops[i]? = some ⟨dst,op,ty,pos,after,guard⟩) (hS:S w)
  (O:∀w',S w'->(execOp a.eval ⟨dst,op,ty,pos,after,guard⟩).run P w'=.ok (.value v) w')
  (h:wpAnyH P md ops Q S fuel (M.setIfInBounds i true) (a.put dst v) w)
  (hs:Region.noSelect ops=true:=by kernel_rfl) (hf:Region.free md ops M i=true:=by kernel_rfl) (hr:(Region.ready md ops M).contains i=true:=by kernel_rfl)
  (hQ:∀c a w,Q (.panic c) (a.put dst v) w->Q (.panic c) a w:=by exact fun _ _ _ h=>h) (hw:Region.wanted ⟨dst,op,ty,pos,after,guard⟩ (yielded ops a.tmps)=true:=by rfl):wpAnyH P md ops Q S (fuel+1) M a w:=
 IM i hi hs hf hr hQ hS hw O h
theorem s0 {α:Type} (l:List α) (i:Nat) (a:α):l.toArray.setIfInBounds i a=(l.set i a).toArray:=List.setIfInBounds_toArray ..
theorem s1 {α:Type} {x:α} {xs:List α} {a:α}:(x :: xs).set 0 a=a :: xs:=rfl
theorem s2 {α:Type} {x:α} {xs:List α} {n:Nat} {a:α}:(x :: xs).set (n+1) a=x :: xs.set n a:=rfl
end
end Reg
namespace Kd
open Go.RowKit Af Se
open Ms (Pt Rp Re An Tk ptC reC anC tkC prC pr0)
abbrev prV (p:Nm.L×Nm.L):Value:=.agg #[.string ⟨p.1.toArray⟩,.string ⟨p.2.toArray⟩]
abbrev keyA (d:Nm.L):Array Value:=(bvs d).toArray
abbrev ptA (P:Pt):Array Value:=(ptC P).toArray
abbrev anA (a:An):Array Value:=(anC a).toArray
theorem Lv {l:List Value} (h:∀v∈l,v.oneCell'=true):l.toArray.all (·.oneCell')=true:=by
 rw[List.all_toArray,List.all_eq_true];exact h
theorem Uf (p:Nm.L×Nm.L):∀v∈prC p,v.oneCell'=true:=by
 intro v M;simp only[prC,List.mem_cons,List.not_mem_nil,or_false] at M;rcases M with rfl | rfl<;>rfl
theorem Ug {d:Nm.L} (h:d.length=32):(keyA d).size=32:=by simp [bvs,h]
theorem IT {d:Nm.L} (h:d.length=32):(Tryz.prog.info? 29).map (·.size)=some (keyA d).size:=by rw[Ug h];kernel_rfl
theorem FY {P:Pt} (h:P.ss.length=32):(ptA P).size=37:=by simp [ptC,prC,bvs,h]
theorem JM (P:Pt):(ptA P).all (·.oneCell')=true:=Lv fun v M=>by
 simp only[ptC,List.mem_append,List.mem_cons,List.not_mem_nil,or_false] at M;rcases M with M | M | rfl | rfl | rfl
 ·exact Uf _ v M
 ·exact BB _ v M
 ·rfl
 ·rfl
 ·rfl
theorem Ii {P:Pt} (h:P.ss.length=32):(Tryz.prog.info? 31).map (·.size)=some (ptA P).size:=by rw[FY h];kernel_rfl
section
variable {w:World} {g:Nat} {t:TypeId} {P:Pt}
theorem dh (h:P.ss.length=32) {o:Nat} {mid:List Value} (Z:Blk w g t (ptA P)) (hc:∃pre post,ptC P=pre++(mid++post)/\o=pre.length):w.rangeAt g o mid:=by
 obtain⟨pre,post,O,M⟩:=hc;exact Wh.Ec (pre:=pre) (post:=post) Z (by rw[<-O]) o M
theorem ML (h:P.ss.length=32) (M:Blk w g t (ptA P)):w.rangeAt g 2 (keyA P.ss).toList:=by
 refine dh h M ⟨prC P.c,[.string ⟨P.tr.toArray⟩,.int .i64 P.st,.int .i64 P.en],?_,rfl⟩;simp [ptC]
theorem pt_0 (M:Blk w g t (ptA P)):w.cell? ⟨g,0,none⟩=some (.string ⟨P.c.1.toArray⟩):=by rw[M.cell];rfl
theorem pt_1 (M:Blk w g t (ptA P)):w.cell? ⟨g,1,none⟩=some (.string ⟨P.c.2.toArray⟩):=by rw[M.cell];rfl
theorem ah (h:P.ss.length=32) (M:Blk w g t (ptA P)):w.rangeAt g 34 [.string ⟨P.tr.toArray⟩,.int .i64 P.st,.int .i64 P.en]:=by
 refine dh h M ⟨prC P.c++bvs P.ss,[],?_,?_⟩
 ·simp [ptC]
 ·simp [prC,bvs,h]
theorem di (h:P.ss.length=32) (M:Blk w g t (ptA P)):w.cell? ⟨g,34,none⟩=some (.string ⟨P.tr.toArray⟩):=ah h M 0 _ rfl
theorem ai (h:P.ss.length=32) (M:Blk w g t (ptA P)):w.cell? ⟨g,35,none⟩=some (.int .i64 P.st):=ah h M 1 _ rfl
theorem aj (h:P.ss.length=32) (M:Blk w g t (ptA P)):w.cell? ⟨g,36,none⟩=some (.int .i64 P.en):=ah h M 2 _ rfl
end
theorem Uh:Tryz.prog.built 31 []=some (ptA Ms.pt0):=by kernel_rfl
end Kd
namespace Kd
open Go.RowKit Af Nm Rt
theorem PM (w : World) (base : Nat) (v : Value) (K : List (L × L)) (M : OwnP w base v K) (p : L × L) (g : Nat) (bn : w.cell? ⟨g, 0, none⟩ = some (.string ⟨p.1.toArray⟩)) (bb : w.cell? ⟨g, 1, none⟩ = some (.string ⟨p.2.toArray⟩)) (hl : K.length + 1 <= 1000000) (hb : base <= w.heap.size) :
    ∃v' w',(Builtin.append_ #[43,43] 43 #[v,.slice (some ⟨g,0,none⟩) 1 1]).run Tryz.prog w=.ok v' w'/\OwnP w' base v' (K++[p])/\Below base w w'/\w.grownBy w' v.ownBlock:=by
  obtain⟨i0,bq,av,aw,Z⟩:=info_parts Ml;obtain ⟨v', w', O, h2, h3, _, _⟩ := run_append_own_at (P := Tryz.prog) w base 43 43 140 i0 _ 2 32 Tryz.underlying43 bq av aw Z rfl (by omega) v K.length (prs K) M ⟨g, 0, none⟩ 1 1 (prs [p]) rfl (fun j u hu => by
      rw[addr_add,Nat.zero_add];have e:prs [p] = [.string ⟨p.1.toArray⟩,.string ⟨p.2.toArray⟩]:=rfl;rw[e] at hu;rcases j with _ | _ | j
      · simp only [List.getElem?_cons_zero, Option.some.injEq] at hu; rw [<- hu]; exact bn
      · simp only [List.getElem?_cons_succ, List.getElem?_cons_zero, Option.some.injEq] at hu; rw [<- hu]; exact bb
      · simp at hu) (SK _) (by unfold maxLen; omega) (by omega) hb
  exact⟨v',w',O,by rw[OwnP,List.length_append,Kk];exact h2,Ah.grown h3 hb (fun k hk=>(M.lt k hk).1),h3⟩
theorem Ed {a w c:World} {row:Option Nat} (h:a.grownBy w row) (k:Below a.heap.size w c):a.grownBy c row:=
 ⟨k.os.trans h.os,k.tape.trans h.tape,k.output.trans h.output,Nat.le_trans h.size k.size,fun i hi M=>(k.block i hi).trans (h.block i hi M)⟩
theorem QQ {w w':World} {base n size:Nat} {t:TypeId} {v:Value} {xs:List Value} (h:w.ownsRow base t size v n xs) (hk:∀g,v.ownBlock=some g->w'.heap[g]? = w.heap[g]?):w'.ownsRow base t size v n xs:=by
 refine⟨h.1,?_⟩;rcases h.2 with M | ⟨g,cap,cur,O,M,h3,Z⟩
 ·exact .inl M
 ·refine .inr ⟨g,cap,cur,O,M,?_,Z⟩
  subst O;rw[hk g rfl];exact h3
theorem ak {w w':World} {base n c hi:Nat} {A:Option Addr} {ls:List L} {K:Nat->Prop} (h:Own w base (.slice A n c) ls) (hl:∀k,(Value.slice A n c).ownBlock=some k->base<=k/\k<hi) (hK:∀k,base<=k->k<hi->K k) (hw:∀k o,base<=k->k<hi->w'.cell? ⟨k,o,none⟩=w.cell? ⟨k,o,none⟩):SlK K w' (.slice A n c) ls:=by
 have hc:ls.length<=c:=by
  rcases h.2 with⟨O,Z⟩ | ⟨g,cap,cur,O,hg,hh,hc,_⟩
  ·omega
  ·injection O with _ _ O
   omega
 obtain⟨A',c',e,hr⟩:=h.slice;injection e with e1 e2 e3;subst e1 e2 e3;refine⟨A,c,rfl,hc,?_⟩;rcases hr with hr | ⟨b,o,rfl,_,M⟩
 ·left
  have h9:=congrArg List.length hr;rw[DM] at h9;exact List.eq_nil_of_length_eq_zero h9
 ·obtain⟨O,Z⟩:=hl b rfl
  exact .inr ⟨b,o,rfl,hK b O Z,fun i u hu=>(hw b _ O Z).trans (M i u hu)⟩
theorem WG {w w':World} {base n c:Nat} {A:Option Addr} {ls:List (L×L)} {K:Nat->Prop} (h:OwnP w base (.slice A n c) ls) (hK:∀k,base<=k->k<w.heap.size->K k) (hw:∀k o,base<=k->k<w.heap.size->w'.cell? ⟨k,o,none⟩=w.cell? ⟨k,o,none⟩):SpK K w' (.slice A n c) ls:=by
 have hl:=h.lt;obtain⟨A',c',e,hc,Z⟩:=h.slice;injection e with e1 e2 e3;subst e1 e2 e3;refine⟨A,c,rfl,hc,?_⟩;rcases Z with Z | ⟨b,o,rfl,_,M⟩
 ·exact .inl Z
 ·obtain⟨h1,O⟩:=hl b rfl
  exact .inr ⟨b,o,rfl,hK b h1 O,fun i hi=>⟨(hw b _ h1 O).trans (M i hi).1,(hw b _ h1 O).trans (M i hi).2⟩⟩
theorem Hf {w:World} {base g j:Nat} {v u:Value} {K:List (L×L)} (h:OwnP w base v K) (Z:g<base):OwnP (w.setCell ⟨g,j,none⟩ u) base v K:=
 QQ h fun b M=>Below.heap_setCell w _ u b (fun e=>by have O:=(h.lt b M).1;simp only at e;omega)
theorem an {P:List (L×L)} {j:Nat} (h:j<P.length):P.take (j+1)=P.take j++[kl P j]:=by
 rw[List.take_add_one,List.getElem?_eq_getElem h,Gd h];rfl
abbrev tpA (a b:Value):Array Value:=#[a,b,.slice none 0 0]
theorem Ui (T:Tp) (hs:Sm T) (hp:T.P = []) (ed:∀x∈T.K,x.1.length<=3000/\x.2.length<=3000) (v1 v2:Value) (w:World) (h1:SlV w w.heap.size v1 T.R) (h2:SlP w w.heap.size v2 T.K) :
  Calls Tryz.prog 73 #[.agg (tpA v1 v2)] w fun e w'=>∃u1 u2,e=.returned (.agg (tpA u1 u2))/\TpK (fun b=>w.heap.size<=b/\b<w'.heap.size) w' u1 u2 (.slice none 0 0) T/\Below w.heap.size w w':=by
 obtain⟨A1,c1,rfl,ey,r1⟩:=h1;obtain⟨A2,c2,rfl,ej,r2⟩:=h2;obtain⟨n,en⟩:=Ak (T.R.length);obtain⟨m,em⟩:=Ak (T.K.length);have hk:=hs.k;obtain⟨W,eW⟩:=Ak ((w.alloc (.cells (tpA (.slice A1 n c1) (.slice A2 m c2)) 46)).alloc (.cells (tpA (.slice none 0 0) (.slice none 0 0)) 46));have M:Below w.heap.size w W:=eW▸(Ah.alloc Ag _).alloc (by simp) _;have HT:=I (show Blk W w.heap.size 46 (tpA (.slice A1 n c1) (.slice A2 m c2)) from eW▸(Blk.new w _ _).alloc _);have HZ:=I (show Blk W (w.heap.size+1) 46 (tpA (.slice none 0 0) (.slice none 0 0)) by have:=Blk.new (w.alloc (.cells (tpA (.slice A1 n c1) (.slice A2 m c2)) 46)) 46 (tpA (.slice none 0 0) (.slice none 0 0));simp only[World.size_alloc] at this;exact eW▸this);have HB:=I M;have CC:=I (QL T.R A1 c1 W (by have:=hs.r;omega) (fun x hx=>hs.rt x hx) ((r1.below M).more M.size));have cr:=I (r2.below M);rw[<-en] at CC;rw[<-em] at hk;have EM:=I em;have EN:=I en;have ev:=I hp;have eB:=I ed;rw[<-en,<-em];have cT:=I HZ.o.lt;clear M r1 r2 ey ej hs hp ed en em;go_enter Tryz.func73,Tryz.ntmps73
 go_upto_region 1 with fail
 rw[<-eW];clear eW;have ei:=HT.o.cell 0
 go_upto_region 2 with(first
  |(go_at_call 119;refine Calls.mono CC.o ?_;rintro e w6 ⟨u1,rfl,ho,M⟩;clear CC ei;obtain⟨A6,c6,eu,_⟩:=ho.slice;rw[<-EN.o] at eu;subst eu;have HO:=I ho;have er:=ho.lt;replace HT:=I (HT.o.below M);replace HZ:=I (HZ.o.below M);replace cr:=I (cr.o.below (M.mono HB.o.size));have HW:=I M.size;have eR:=I HB.o.size;replace HB:=HB.t M;clear ho M)
  |fail)
 obtain⟨w8,cn⟩:=Ak (w6.alloc (.cells (tpA (.slice A6 n c6) (.slice none 0 0)) 46));have M:Below w6.heap.size w6 w8:=cn▸Ah.alloc Ag _;have HX:=I (show Blk w8 w6.heap.size 46 (tpA (.slice A6 n c6) (.slice none 0 0)) from cn▸Blk.new w6 _ _);have bn:=I (show w6.heap.size<w8.heap.size by rw[cn];simp);replace HT:=I (HT.o.below M);replace HZ:=I (HZ.o.below M);replace HO:=I (HO.o.below M);replace cr:=I (cr.o.below (M.mono HB.o.size));replace HB:=HB.t M;have cR:=I (show ∀k,(Value.slice A6 n c6).ownBlock=some k->W.heap.size<=k/\k<w6.heap.size from er);rw[<-cn];clear cn M;obtain⟨P3,cP⟩:=Ak (w6.heap.size);rw[<-cP] at HX bn cR⊢;have ct:=I (show w.heap.size+1<P3 by rw[cP];have:=cT.o;have:=HW.o;omega);clear cP;have ew:=HT.o.cell 1
 go_upto_region 3 with fail
 clear ew
 go_loopw [15] (fun iv wr=>∃(j:Nat) (vK:Value),j<=m/\iv=.int .i64 (j:Int)/\Blk wr P3 46 (tpA (.slice A6 n c6) vK)/\OwnP wr w8.heap.size vK (T.K.take j)/\w8.grownBy wr (some P3)) (fun iv _=>m - (intOf iv).toNat)
 case atStart=>exact⟨0,_,Nat.zero_le _,rfl,HX.o,OwnP.nil _ _,World.grownBy.refl _ _⟩
 case round=>
  obtain⟨j,vK,hj,rfl,hx,cQ,hg⟩:=hrel;replace HX:=I hx;have Z:=I cQ;have HG:=I hg;have O:=I hg.size;have cA:=cQ.lt;clear hx cQ hg;obtain⟨K,eK⟩:=Ak (T.K.take j);rw[<-eK] at Z;have cw:=I eK;clear eK;obtain⟨A8,c8,e8,_⟩:=Z.o.slice;subst e8
  by_cases hlt:j<m
  ·have e1:(j:Int)<(m:Int):=by omega
   have e2:(0:Int)<=(j:Int):=by omega
   have cg:j<T.K.length:=by rw[<-EM.o];exact hlt
   have cx:=I (show T.K.take (j+1)=K++[kl T.K j] from cw.o▸an cg);have HL:=I (show K.length<=3000 by rw[cw.o,List.length_take];omega);have eo:=eB.o _ (XN cg);have ec:=I (fun w1=>BZ (kl T.K j).1 w1 (by omega));have cB:=I (fun w1=>BZ (kl T.K j).2 w1 (by omega));have bB:=I (show ∀k,(Value.slice A8 K.length c8).ownBlock=some k->k<wr.heap.size from fun k hk=>(cA k hk).2);rcases cr.o with hz | ⟨bz,oz,ez,ep,cM⟩
   ·exact absurd cg (by rw[hz];simp)
   ·subst ez
    have cL:bz≠P3:=by have:=ct.o;omega
    have q0:wr.cell? ⟨bz,oz+j*2,none⟩=some (.string ⟨(kl T.K j).1.toArray⟩):=(World.cell?_of_block (a:=⟨bz,oz+j*2,none⟩) (HG.o.block bz (by have:=ct.o;have:=bn.o;omega) (fun e=>cL (by injection e)))).trans (cM j cg).1;have q1:wr.cell? ⟨bz,oz+j*2+1,none⟩=some (.string ⟨(kl T.K j).2.toArray⟩):=(World.cell?_of_block (a:=⟨bz,oz+j*2+1,none⟩) (HG.o.block bz (by have:=ct.o;have:=bn.o;omega) (fun e=>cL (by injection e)))).trans (cM j cg).2
    go_upto_region 5 with fail
    obtain⟨wt,cu⟩:=Ak (wr.alloc (.cells #[.string ⟨(kl T.K j).1.toArray⟩,.string ⟨(kl T.K j).2.toArray⟩] 140));have M:Below wr.heap.size wr wt:=cu▸Ah.alloc Ag _;have H5:=I (show Blk wt wr.heap.size 140 #[.string ⟨(kl T.K j).1.toArray⟩,.string ⟨(kl T.K j).2.toArray⟩] from cu▸Blk.new wr _ _);have cf:=I (show w8.heap.size<=wr.heap.size from O.o);rw[<-cu];clear cu q0 q1;replace HX:=I (HX.o.below M);replace Z:=I (Z.o.below M);replace HG:=I (Ed HG.o (M.mono O.o));replace O:=I (Nat.le_trans O.o M.size);have cp:=I (show P3<wr.heap.size by have:=bn.o;have:=cf.o;omega);clear M;obtain⟨PT,eb⟩:=Ak (wr.heap.size);rw[<-eb] at H5 cf bB cp⊢;clear eb cA eo cg cM ep cL;refine Reg.BR (fun w'=>Blk w' PT 140 #[.string ⟨(kl T.K j).1.toArray⟩,.string ⟨(kl T.K j).2.toArray⟩]) 13 rfl (by kernel_rfl) (H5.o.drewN 1) ?_;replace HX:=I (show Blk wt.drew _ _ _ from HX.o.drewN 1);replace H5:=I (show Blk wt.drew _ _ _ from H5.o.drewN 1);replace Z:=I (show OwnP wt.drew _ _ _ from Z.o.below (below_drewN Ah 1));replace HG:=I (Ba HG.o);replace O:=I (show w8.heap.size<=wt.drew.heap.size from O.o);obtain⟨W9,cX⟩:=Ak (wt.drew);rw[<-cX] at HX H5 Z HG O⊢;clear cX;refine Reg.ty 0 rfl H5.o ?_;refine Reg.ty 2 rfl H5.o ?_;refine Reg.tw 3 rfl H5.o (fun w' hS=>by have k1:=Blk.cell hS 0;go_simp<;>rfl) ?_;refine Reg.ty 5 rfl H5.o ?_;refine Reg.tw 6 rfl H5.o (fun w' hS=>by have k1:=Blk.cell hS 1;go_simp<;>rfl) ?_;refine Reg.b2 1 4 ?_ ?_
    ·left
     have k1:W9.cell? ⟨P3,1,none⟩=some (.slice A8 K.length c8):=HX.o.cell 1;refine⟨_,_,_,_,_,_,_,W9,rfl,by rfl,by(go_simp;rfl),H5.o,?_⟩;simp only[Act.put,U,Aa,Ab];clear k1;refine Reg.b1 4 ?_
     right
     refine⟨_,_,_,_,_,_,114,#[.string ⟨(kl T.K j).1.toArray⟩],rfl,by rfl,by go_simp,?_⟩;refine Aj (ec.o W9) ?_;rintro cm M;have M:=M;replace HX:=I (HX.o.below M);replace H5:=I (H5.o.below M);replace Z:=I (Z.o.below M);replace HG:=I (Ed HG.o (M.mono O.o));replace O:=I (Nat.le_trans O.o M.size);clear M;refine⟨_,rfl,H5.o,?_⟩;simp only[Act.put,U,Aa,Ab];refine Reg.b1 7 ?_
     right
     refine⟨_,_,_,_,_,_,114,#[.string ⟨(kl T.K j).2.toArray⟩],rfl,by rfl,by go_simp,?_⟩;refine Aj (cB.o cm) ?_;rintro av M;have M:=M;replace HX:=I (HX.o.below M);replace H5:=I (H5.o.below M);replace Z:=I (Z.o.below M);replace HG:=I (Ed HG.o (M.mono O.o));replace O:=I (Nat.le_trans O.o M.size);clear M;refine⟨_,rfl,H5.o,?_⟩;simp only[Act.put,U,Aa,Ab];refine Reg.ty 8 rfl H5.o ?_;refine Reg.b1 9 ?_
     left
     have M:Below av.heap.size av (av.alloc (.cells #[.string ⟨(kl T.K j).1.toArray⟩,.string ⟨(kl T.K j).2.toArray⟩] 140)):=Ah.alloc Ag _;have aw:=Blk.new av 140 #[.string ⟨(kl T.K j).1.toArray⟩,.string ⟨(kl T.K j).2.toArray⟩];refine⟨_,_,_,_,_,_,.slice (some ⟨av.heap.size,0,none⟩) 1 1,av.alloc (.cells #[.string ⟨(kl T.K j).1.toArray⟩,.string ⟨(kl T.K j).2.toArray⟩] 140),rfl,by rfl,(by go_simp<;>rfl),H5.o.below M,?_⟩;simp only[Act.put,U,Aa,Ab];obtain⟨wb,ca⟩:=Ak (av.alloc (.cells #[.string ⟨(kl T.K j).1.toArray⟩,.string ⟨(kl T.K j).2.toArray⟩] 140));rw[<-ca] at M aw⊢;clear ca;obtain⟨PB,cc⟩:=Ak (av.heap.size);rw[<-cc] at aw⊢;clear cc;have HN:=I aw;clear aw;have M:=M;replace HX:=I (HX.o.below M);replace H5:=I (H5.o.below M);replace Z:=I (Z.o.below M);replace HG:=I (Ed HG.o (M.mono O.o));replace O:=I (Nat.le_trans O.o M.size);clear M;refine Reg.b1 10 ?_
     left
     obtain⟨v9,w9,bq,bx,bb,cd⟩:=PM wb w8.heap.size (.slice A8 K.length c8) K Z.o (kl T.K j) PB (HN.o.cell 0) (HN.o.cell 1) (by have:=HL.o;omega) O.o;have h5:Blk w9 PT 140 _:=H5.o.grown cd (fun e=>by have:=(bB.o PT e);have:=cf.o;omega);refine⟨_,_,_,_,_,_,v9,w9,rfl,by rfl,by(simp only[execOp,resolve,invoke,builtin,Sem.run_bind,Sem.run_pure,Result.andThen_ok,List.map_toArray,List.map_cons,List.map_nil,Act.eval];refine(congrArg (fun r=>Result.andThen r _) bq).trans ?_;rfl),h5,?_⟩;simp only[Act.put,U,Aa,Ab];replace H5:=I h5;replace HX:=I (show Blk w9 P3 46 _ from(bb.block _ bn.o).trans HX.o);replace HG:=I (Ed HG.o bb);replace O:=I (Nat.le_trans O.o bb.size);obtain⟨A7,c7,e7,_⟩:=bx.slice;rw[show(K++[kl T.K j]).length=K.length+1 by simp] at e7;subst e7;replace Z:=I bx;clear bq bx bb cd h5 HN bB;refine Reg.ty 11 rfl H5.o ?_;have f0:=HX.o.frozen 1;have k9:=HX.c1;refine Reg.BD 12 (w9.setCell ⟨P3,1,none⟩ (.slice A7 (K.length+1) c7)) rfl (by kernel_rfl) (by rfl) (by go_simp) (Si.Blk.far H5.o _ _ (show P3≠PT by have:=cf.o;have:=bn.o;have:=cp.o;omega)) ?_;simp only[Act.put,U,Aa,Ab];refine wpAnyH_done (by kernel_rfl) ?_ _;have ck:=I (HX.o.set 1 (.slice A7 (K.length+1) c7));have cb:=I (Hf (j:=1) (u:=.slice A7 (K.length+1) c7) Z.o (show P3<w8.heap.size from bn.o));have cj:=I (AN HG.o (p:=⟨P3,1,none⟩) (.inl rfl) (.slice A7 (K.length+1) c7));clear f0 k9;rw[<-cx.o] at cb
     go_wp2
     go_roundw
     case rel=>exact⟨j+1,_,by omega,by go_num,ck.o,cb.o,cj.o⟩
     case measure=>simp [intOf];omega
    ·right
     refine⟨_,_,_,_,_,_,114,#[.string ⟨(kl T.K j).1.toArray⟩],rfl,by rfl,by go_simp,?_⟩;refine Aj (ec.o W9) ?_;rintro cm M;have M:=M;replace HX:=I (HX.o.below M);replace H5:=I (H5.o.below M);replace Z:=I (Z.o.below M);replace HG:=I (Ed HG.o (M.mono O.o));replace O:=I (Nat.le_trans O.o M.size);clear M;refine⟨_,rfl,H5.o,?_⟩;simp only[Act.put,U,Aa,Ab];refine Reg.b2 1 7 ?_ ?_
     ·left
      have k1:=HX.c1;refine⟨_,_,_,_,_,_,_,cm,rfl,by rfl,by(go_simp;rfl),H5.o,?_⟩;simp only[Act.put,U,Aa,Ab];clear k1;refine Reg.b1 7 ?_
      right
      refine⟨_,_,_,_,_,_,114,#[.string ⟨(kl T.K j).2.toArray⟩],rfl,by rfl,by go_simp,?_⟩;refine Aj (cB.o cm) ?_;rintro av M;have M:=M;replace HX:=I (HX.o.below M);replace H5:=I (H5.o.below M);replace Z:=I (Z.o.below M);replace HG:=I (Ed HG.o (M.mono O.o));replace O:=I (Nat.le_trans O.o M.size);clear M;refine⟨_,rfl,H5.o,?_⟩;simp only[Act.put,U,Aa,Ab];refine Reg.ty 8 rfl H5.o ?_;refine Reg.b1 9 ?_
      left
      have M:Below av.heap.size av (av.alloc (.cells #[.string ⟨(kl T.K j).1.toArray⟩,.string ⟨(kl T.K j).2.toArray⟩] 140)):=Ah.alloc Ag _;have aw:=Blk.new av 140 #[.string ⟨(kl T.K j).1.toArray⟩,.string ⟨(kl T.K j).2.toArray⟩];refine⟨_,_,_,_,_,_,.slice (some ⟨av.heap.size,0,none⟩) 1 1,av.alloc (.cells #[.string ⟨(kl T.K j).1.toArray⟩,.string ⟨(kl T.K j).2.toArray⟩] 140),rfl,by rfl,(by go_simp<;>rfl),H5.o.below M,?_⟩;simp only[Act.put,U,Aa,Ab];obtain⟨wb,ca⟩:=Ak (av.alloc (.cells #[.string ⟨(kl T.K j).1.toArray⟩,.string ⟨(kl T.K j).2.toArray⟩] 140));rw[<-ca] at M aw⊢;clear ca;obtain⟨PB,cc⟩:=Ak (av.heap.size);rw[<-cc] at aw⊢;clear cc;have HN:=I aw;clear aw;have M:=M;replace HX:=I (HX.o.below M);replace H5:=I (H5.o.below M);replace Z:=I (Z.o.below M);replace HG:=I (Ed HG.o (M.mono O.o));replace O:=I (Nat.le_trans O.o M.size);clear M;refine Reg.b1 10 ?_
      left
      obtain⟨v9,w9,bq,bx,bb,cd⟩:=PM wb w8.heap.size (.slice A8 K.length c8) K Z.o (kl T.K j) PB (HN.o.cell 0) (HN.o.cell 1) (by have:=HL.o;omega) O.o;have h5:Blk w9 PT 140 _:=H5.o.grown cd (fun e=>by have:=(bB.o PT e);have:=cf.o;omega);refine⟨_,_,_,_,_,_,v9,w9,rfl,by rfl,by(simp only[execOp,resolve,invoke,builtin,Sem.run_bind,Sem.run_pure,Result.andThen_ok,List.map_toArray,List.map_cons,List.map_nil,Act.eval];refine(congrArg (fun r=>Result.andThen r _) bq).trans ?_;rfl),h5,?_⟩;simp only[Act.put,U,Aa,Ab];replace H5:=I h5;replace HX:=I (show Blk w9 P3 46 _ from(bb.block _ bn.o).trans HX.o);replace HG:=I (Ed HG.o bb);replace O:=I (Nat.le_trans O.o bb.size);obtain⟨A7,c7,e7,_⟩:=bx.slice;rw[show(K++[kl T.K j]).length=K.length+1 by simp] at e7;subst e7;replace Z:=I bx;clear bq bx bb cd h5 HN bB;refine Reg.ty 11 rfl H5.o ?_;have f0:=HX.o.frozen 1;have k9:=HX.c1;refine Reg.BD 12 (w9.setCell ⟨P3,1,none⟩ (.slice A7 (K.length+1) c7)) rfl (by kernel_rfl) (by rfl) (by go_simp) (Si.Blk.far H5.o _ _ (show P3≠PT by have:=cf.o;have:=bn.o;have:=cp.o;omega)) ?_;simp only[Act.put,U,Aa,Ab];refine wpAnyH_done (by kernel_rfl) ?_ _;have ck:=I (HX.o.set 1 (.slice A7 (K.length+1) c7));have cb:=I (Hf (j:=1) (u:=.slice A7 (K.length+1) c7) Z.o (show P3<w8.heap.size from bn.o));have cj:=I (AN HG.o (p:=⟨P3,1,none⟩) (.inl rfl) (.slice A7 (K.length+1) c7));clear f0 k9;rw[<-cx.o] at cb
      go_wp2
      go_roundw
      case rel=>exact⟨j+1,_,by omega,by go_num,ck.o,cb.o,cj.o⟩
      case measure=>simp [intOf];omega
     ·right
      refine⟨_,_,_,_,_,_,114,#[.string ⟨(kl T.K j).2.toArray⟩],rfl,by rfl,by go_simp,?_⟩;refine Aj (cB.o cm) ?_;rintro av M;have M:=M;replace HX:=I (HX.o.below M);replace H5:=I (H5.o.below M);replace Z:=I (Z.o.below M);replace HG:=I (Ed HG.o (M.mono O.o));replace O:=I (Nat.le_trans O.o M.size);clear M;refine⟨_,rfl,H5.o,?_⟩;simp only[Act.put,U,Aa,Ab];refine Reg.ty 8 rfl H5.o ?_;refine Reg.b2 1 9 ?_ ?_
      ·left
       have k1:=HX.c1;refine⟨_,_,_,_,_,_,_,av,rfl,by rfl,by(go_simp;rfl),H5.o,?_⟩;simp only[Act.put,U,Aa,Ab];clear k1;refine Reg.b1 9 ?_
       left
       have M:Below av.heap.size av (av.alloc (.cells #[.string ⟨(kl T.K j).1.toArray⟩,.string ⟨(kl T.K j).2.toArray⟩] 140)):=Ah.alloc Ag _;have aw:=Blk.new av 140 #[.string ⟨(kl T.K j).1.toArray⟩,.string ⟨(kl T.K j).2.toArray⟩];refine⟨_,_,_,_,_,_,.slice (some ⟨av.heap.size,0,none⟩) 1 1,av.alloc (.cells #[.string ⟨(kl T.K j).1.toArray⟩,.string ⟨(kl T.K j).2.toArray⟩] 140),rfl,by rfl,(by go_simp<;>rfl),H5.o.below M,?_⟩;simp only[Act.put,U,Aa,Ab];obtain⟨wb,ca⟩:=Ak (av.alloc (.cells #[.string ⟨(kl T.K j).1.toArray⟩,.string ⟨(kl T.K j).2.toArray⟩] 140));rw[<-ca] at M aw⊢;clear ca;obtain⟨PB,cc⟩:=Ak (av.heap.size);rw[<-cc] at aw⊢;clear cc;have HN:=I aw;clear aw;have M:=M;replace HX:=I (HX.o.below M);replace H5:=I (H5.o.below M);replace Z:=I (Z.o.below M);replace HG:=I (Ed HG.o (M.mono O.o));replace O:=I (Nat.le_trans O.o M.size);clear M;refine Reg.b1 10 ?_
       left
       obtain⟨v9,w9,bq,bx,bb,cd⟩:=PM wb w8.heap.size (.slice A8 K.length c8) K Z.o (kl T.K j) PB (HN.o.cell 0) (HN.o.cell 1) (by have:=HL.o;omega) O.o;have h5:Blk w9 PT 140 _:=H5.o.grown cd (fun e=>by have:=(bB.o PT e);have:=cf.o;omega);refine⟨_,_,_,_,_,_,v9,w9,rfl,by rfl,by(simp only[execOp,resolve,invoke,builtin,Sem.run_bind,Sem.run_pure,Result.andThen_ok,List.map_toArray,List.map_cons,List.map_nil,Act.eval];refine(congrArg (fun r=>Result.andThen r _) bq).trans ?_;rfl),h5,?_⟩;simp only[Act.put,U,Aa,Ab];replace H5:=I h5;replace HX:=I (show Blk w9 P3 46 _ from(bb.block _ bn.o).trans HX.o);replace HG:=I (Ed HG.o bb);replace O:=I (Nat.le_trans O.o bb.size);obtain⟨A7,c7,e7,_⟩:=bx.slice;rw[show(K++[kl T.K j]).length=K.length+1 by simp] at e7;subst e7;replace Z:=I bx;clear bq bx bb cd h5 HN bB;refine Reg.ty 11 rfl H5.o ?_;have f0:=HX.o.frozen 1;have k9:=HX.c1;refine Reg.BD 12 (w9.setCell ⟨P3,1,none⟩ (.slice A7 (K.length+1) c7)) rfl (by kernel_rfl) (by rfl) (by go_simp) (Si.Blk.far H5.o _ _ (show P3≠PT by have:=cf.o;have:=bn.o;have:=cp.o;omega)) ?_;simp only[Act.put,U,Aa,Ab];refine wpAnyH_done (by kernel_rfl) ?_ _;have ck:=I (HX.o.set 1 (.slice A7 (K.length+1) c7));have cb:=I (Hf (j:=1) (u:=.slice A7 (K.length+1) c7) Z.o (show P3<w8.heap.size from bn.o));have cj:=I (AN HG.o (p:=⟨P3,1,none⟩) (.inl rfl) (.slice A7 (K.length+1) c7));clear f0 k9;rw[<-cx.o] at cb
       go_wp2
       go_roundw
       case rel=>exact⟨j+1,_,by omega,by go_num,ck.o,cb.o,cj.o⟩
       case measure=>simp [intOf];omega
      ·left
       have M:Below av.heap.size av (av.alloc (.cells #[.string ⟨(kl T.K j).1.toArray⟩,.string ⟨(kl T.K j).2.toArray⟩] 140)):=Ah.alloc Ag _;have aw:=Blk.new av 140 #[.string ⟨(kl T.K j).1.toArray⟩,.string ⟨(kl T.K j).2.toArray⟩];refine⟨_,_,_,_,_,_,.slice (some ⟨av.heap.size,0,none⟩) 1 1,av.alloc (.cells #[.string ⟨(kl T.K j).1.toArray⟩,.string ⟨(kl T.K j).2.toArray⟩] 140),rfl,by rfl,(by go_simp<;>rfl),H5.o.below M,?_⟩;simp only[Act.put,U,Aa,Ab];obtain⟨wb,ca⟩:=Ak (av.alloc (.cells #[.string ⟨(kl T.K j).1.toArray⟩,.string ⟨(kl T.K j).2.toArray⟩] 140));rw[<-ca] at M aw⊢;clear ca;obtain⟨PB,cc⟩:=Ak (av.heap.size);rw[<-cc] at aw⊢;clear cc;have HN:=I aw;clear aw;have M:=M;replace HX:=I (HX.o.below M);replace H5:=I (H5.o.below M);replace Z:=I (Z.o.below M);replace HG:=I (Ed HG.o (M.mono O.o));replace O:=I (Nat.le_trans O.o M.size);clear M;refine Reg.b1 1 ?_
       left
       have k1:=HX.c1;refine⟨_,_,_,_,_,_,_,wb,rfl,by rfl,by(go_simp;rfl),H5.o,?_⟩;simp only[Act.put,U,Aa,Ab];clear k1;refine Reg.b1 10 ?_
       left
       obtain⟨v9,w9,bq,bx,bb,cd⟩:=PM wb w8.heap.size (.slice A8 K.length c8) K Z.o (kl T.K j) PB (HN.o.cell 0) (HN.o.cell 1) (by have:=HL.o;omega) O.o;have h5:Blk w9 PT 140 _:=H5.o.grown cd (fun e=>by have:=(bB.o PT e);have:=cf.o;omega);refine⟨_,_,_,_,_,_,v9,w9,rfl,by rfl,by(simp only[execOp,resolve,invoke,builtin,Sem.run_bind,Sem.run_pure,Result.andThen_ok,List.map_toArray,List.map_cons,List.map_nil,Act.eval];refine(congrArg (fun r=>Result.andThen r _) bq).trans ?_;rfl),h5,?_⟩;simp only[Act.put,U,Aa,Ab];replace H5:=I h5;replace HX:=I (show Blk w9 P3 46 _ from(bb.block _ bn.o).trans HX.o);replace HG:=I (Ed HG.o bb);replace O:=I (Nat.le_trans O.o bb.size);obtain⟨A7,c7,e7,_⟩:=bx.slice;rw[show(K++[kl T.K j]).length=K.length+1 by simp] at e7;subst e7;replace Z:=I bx;clear bq bx bb cd h5 HN bB;refine Reg.ty 11 rfl H5.o ?_;have f0:=HX.o.frozen 1;have k9:=HX.c1;refine Reg.BD 12 (w9.setCell ⟨P3,1,none⟩ (.slice A7 (K.length+1) c7)) rfl (by kernel_rfl) (by rfl) (by go_simp) (Si.Blk.far H5.o _ _ (show P3≠PT by have:=cf.o;have:=bn.o;have:=cp.o;omega)) ?_;simp only[Act.put,U,Aa,Ab];refine wpAnyH_done (by kernel_rfl) ?_ _;have ck:=I (HX.o.set 1 (.slice A7 (K.length+1) c7));have cb:=I (Hf (j:=1) (u:=.slice A7 (K.length+1) c7) Z.o (show P3<w8.heap.size from bn.o));have cj:=I (AN HG.o (p:=⟨P3,1,none⟩) (.inl rfl) (.slice A7 (K.length+1) c7));clear f0 k9;rw[<-cx.o] at cb
       go_wp2
       go_roundw
       case rel=>exact⟨j+1,_,by omega,by go_num,ck.o,cb.o,cj.o⟩
       case measure=>simp [intOf];omega
  ·have e1:¬(j:Int)<(m:Int):=by omega
   have cg:T.K.length<=j:=by rw[<-EM.o];omega
   have ek:K=T.K:=by rw[cw.o,List.take_of_length_le cg]
   rw[ek] at Z;have ea:=ct.o;have cY:=bn.o;have cq:=I (HZ.o.grown HG.o (fun e=>by injection e with e;omega));have et:=I (HT.o.grown HG.o (fun e=>by injection e with e;omega));have eN:=et.o.cell 2;have eQ:=HX.o.cell 0;have eE:=HX.o.cell 1;have eJ:=HX.o.cell 2;have eM:=cq.o.cell 0;have eL:=cq.o.cell 1;have eT:=cq.o.cell 2;have fz:=cq.o.frozen;clear ea cY ek cg
   go_wp2
   go_loopw [35] (fun iv wq=>iv=.int .i64 0/\wq=wr) (fun _ _=>0)
   case atStart=>exact⟨rfl,rfl⟩
   case round=>
    obtain⟨rfl,rfl⟩:=hrel
    go_wp2
    refine bodyPost_ret (v:=.agg (tpA (.slice A6 n c6) (.slice A8 K.length c8))) ?_ ?_ ?_
    ·exact Wh.Au (v:=.agg (tpA (.slice A6 n c6) (.slice A8 K.length c8))) 2 46 ⟨w.heap.size+1,0,none⟩ Tryz.results73 rfl (Wh.Ao (((cq.o.set 0 _).set 1 _).set 2 _) Tryz.underlying46 (by rfl) (by kernel_rfl))
    ·rfl
    ·have ea:=ct.o;have cY:=bn.o;have eF:=HW.o;have eP:=cT.o
     have cy:∀k,k≠w.heap.size+1->(((wr.setCell ⟨w.heap.size+1,0,none⟩ (.slice A6 n c6)).setCell ⟨w.heap.size+1,1,none⟩ (.slice A8 K.length c8)).setCell ⟨w.heap.size+1,2,none⟩ (.slice none 0 0)).heap[k]? = wr.heap[k]?:=fun k hk=>
      (Below.heap_setCell _ _ _ k (fun e=>by simp only at e;omega)).trans ((Below.heap_setCell _ _ _ k (fun e=>by simp only at e;omega)).trans (Below.heap_setCell _ _ _ k (fun e=>by simp only at e;omega)))
     have eg:K=T.K:=by rw[cw.o,List.take_of_length_le (by rw[<-EM.o];omega)]
     rw[<-eg] at Z;have ef:(((wr.setCell ⟨w.heap.size+1,0,none⟩ (.slice A6 n c6)).setCell ⟨w.heap.size+1,1,none⟩ (.slice A8 K.length c8)).setCell ⟨w.heap.size+1,2,none⟩ (.slice none 0 0)).heap.size=wr.heap.size:=by simp
     refine⟨_,_,rfl,⟨?_,?_,rfl,ev.o⟩,?_⟩
     ·refine ak HO.o cR.o (fun k h1 h2=>⟨by omega,by rw[ef];have:=O.o;omega⟩) (fun k o h1 h2=>World.cell?_of_block (a:=⟨k,o,none⟩) ((cy k (by omega)).trans (HG.o.block k (by omega) (fun e=>by injection e with e;omega))))
     ·rw[<-eg]
      refine WG Z.o (fun k h1 h2=>⟨by omega,by rw[ef];omega⟩) (fun k o h1 h2=>World.cell?_of_block (a:=⟨k,o,none⟩) (cy k (by omega)))
     ·exact Si.AI (Si.AI (Si.AI (HB.o.grown HG.o (by omega) (fun k hk=>by injection hk with hk;omega)) (by simp) _) (by simp) _) (by simp) _
end Kd
namespace Kd
open Go.RowKit Af Se
open SeL (Cw BK TM JD)
def Made (w w':World) (v:Value) (l:List UInt8):Prop:=SlN (fun j=>j<w.heap.size) w' v l
theorem WH (w w':World):Made w w' (.slice none 0 0) []:=⟨none,0,rfl,Nat.le_refl _,.inl rfl⟩
theorem dj (ks:Nat->UInt8) (u N:Int) (A:Option Addr) (m c:Nat) (p:List UInt8) (w:World) (hm:m=p.length) (Z:Rd w w.heap.size A (bvs p)) :
  Calls Tryz.prog 41 #[.agg (Be ks),.int .i64 u,.int .i64 N,.slice A m c] w fun e w'=>∃v,e=.returned (.tuple #[v,.int .i64 (Cw ks u N p).2])/\Made w w' v (Cw ks u N p).1/\Below w.heap.size w w':=by
 by_cases hx:0<=u/\u<=255/\0<=N/\N<=1099511627776/\m<=784
 ·obtain⟨u',rfl⟩:∃k:Nat,u=(k:Int):=⟨u.toNat,by omega⟩
  obtain⟨n',rfl⟩:∃k:Nat,N=(k:Int):=⟨N.toNat,by omega⟩;have e:Cw ks (u':Int) (n':Int) p=(El ks u' n' p,0):=by rw[Cw,if_pos (by omega)];rfl
  rw[e];refine(TJ ks u' n' A m c p w (by omega) (by omega) hm (by omega) Z).mono ?_;rintro e w' ⟨A2,c2,rfl,h1,O,h3,h4⟩;have M:(El ks u' n' p).length=m+16:=by rw[CH,hm]
  exact⟨_,rfl,⟨A2,c2,by rw[M],by rw[M];exact h3,h1⟩,O⟩
 ·have e:Cw ks u N p=([],1):=by rw[Cw,if_neg (by omega)]
  rw[e];refine(TI ks u N A m c w hx).mono ?_;rintro e w' ⟨rfl,hb⟩;exact⟨_,rfl,WH _ _,hb⟩
end Kd
end Go.Proofs.YtfbnjcdhipplpaaGreat
