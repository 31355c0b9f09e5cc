import Derived.Test.YthgignaohimadaaGreatZKdcRoutes13
set_option maxHeartbeats 25600000
set_option maxRecDepth 100000
set_option linter.unusedVariables false
set_option linter.unusedSimpArgs false
namespace Go.Proofs.YthgignaohimadaaGreat
namespace Rg
open Go.RowKit Af Se
structure DRing (w:World) (B q:Nat) (v:Value) (l:List It):Prop where
 blk:Blk w q 62 #[v]
 row:w.ownsRow B 117 35 v l.length (l.flatMap iC)
 lo:B<=q
 vq:v.ownBlock≠some q
abbrev DO (q:Nat) (v:Value) (k:Nat):Prop:=k=q\/v.ownBlock=some k
section
variable {w w':World} {B q:Nat} {v:Value} {l:List It} {S:Nat->Prop}
theorem DRing.lt (h:DRing w B q v l):q<w.heap.size:=h.blk.lt
theorem DRing.own_lo (h:DRing w B q v l) {k:Nat} (hk:DO q v k):B<=k:=by
 rcases hk with hk | hk
 ·subst hk;exact h.lo
 ·exact(World.ownsRow.lt h.row k hk).1
theorem DRing.own_lt (h:DRing w B q v l) {k:Nat} (hk:DO q v k):k<w.heap.size:=by
 rcases hk with hk | hk
 ·subst hk;exact h.blk.lt
 ·exact(World.ownsRow.lt h.row k hk).2
theorem DRing.chg (h:DRing w B q v l) (D:Chg S w w') (hs:∀k,DO q v k->¬S k):DRing w' B q v l:=
 ⟨D.blk h.blk (hs q (.inl rfl)),JT D h.row (fun k hk=>hs k (.inr hk)),h.lo,h.vq⟩
theorem DRing.below (h:DRing w B q v l) (D:Below w.heap.size w w'):DRing w' B q v l:=h.chg (S:=fun _=>False) (Chg.of_below D) (fun _ _ x=>x)
theorem DRing.num (h:DRing w B q v l):∃A c,v=.slice A l.length c/\l.length<=c/\c<=maxLen/\RdR w w.heap.size A iC 35 l:=FC Cf h.row
end
theorem iC_p0 (x:It):(iC x)[0]? = some (.string ⟨x.p.1.toArray⟩):=rfl
theorem iC_p1 (x:It):(iC x)[1]? = some (.string ⟨x.p.2.toArray⟩):=rfl
theorem iC_n (x:It):(iC x)[2]? = some (.int .i64 (x.n:Int)):=rfl
theorem Uw {l:List It} {i:Nat} {x:It} {p:Pr} (h:l[i]? = some x) (hp:x.p=p):numO l (Bv l p (i+1))=x.n:=by
 rw[Bv,if_pos (by rw[h,<-hp];rfl)];simp [numO,h]
theorem Rq {l:List It} {i:Nat} {x:It} {p:Pr} (h:l[i]? = some x) (hp:x.p≠p):Bv l p (i+1)=Bv l p i:=by
 rw[Bv,if_neg];rw[h];intro y;injection y with y;exact hp y
theorem Ux (B q:Nat) (v:Value) (l:List It) (p:Pr) (w:World) (h:DRing w B q v l) (hl:l.length<=1000) :
  Calls Tryz.prog 39 #[.pointer (some ⟨q,0,none⟩),prV p] w fun e w'=>e=.returned (.int .i64 (BH l p:Int))/\Below w.heap.size w w':=by
 obtain⟨A,c,rfl,hc,hm,M⟩:=h.num;have E:=h.blk;obtain⟨n,en⟩:=Ak (l.length);rw[<-en] at E hc hl;have EN:=I en;obtain⟨W,eW⟩:=Ak (w.alloc (.cells #[.string ⟨p.1.toArray⟩,.string ⟨p.2.toArray⟩] 23));have F:Below w.heap.size w W:=eW▸Ah.alloc Ag _;have Z:=I (show Blk W w.heap.size 23 #[.string ⟨p.1.toArray⟩,.string ⟨p.2.toArray⟩] from eW▸Blk.new w _ _);have J:=I F;have HQ:=I (E.below F);have O:=I (M.keep F);have aw:=E.lt;clear F M E en h;go_enter Tryz.func39,Tryz.ntmps39
 go_upto_region 1 with fail
 rw[<-eW];obtain⟨N,eN⟩:=Ak (w.heap.size);rw[<-eN] at Z J O aw⊢;have bx:=I eN;clear eW eN
 go_wp2
 go_loopw [5,6] (fun nv iv wr=>∃i:Nat,i<=n/\iv=.int .i64 (i:Int)/\nv=.int .i64 (numO l (Bv l p i):Int)/\Below N w wr/\Blk wr N 23 #[.string ⟨p.1.toArray⟩,.string ⟨p.2.toArray⟩]/\Blk wr q 62 #[.slice A n c]/\RdR wr N A iC 35 l) (fun _ iv _=>n - (intOf iv).toNat)
 case atStart=>exact⟨0,Nat.zero_le _,rfl,rfl,J.o,Z.o,HQ.o,O.o⟩
 case round=>
  clear J Z HQ O;obtain⟨i,hi,rfl,rfl,F,hp,hq,M⟩:=hrel;have J:=I F;have Z:=I hp;have HQ:=I hq;have O:=I M;have kq:=hq.c0;obtain⟨z,ez⟩:=Ak (numO l (Bv l p i));rw[<-ez];have EZ:=I ez
  by_cases hlt:i<n
  ·have e1:(i:Int)<(n:Int):=by omega
   have e2:(0:Int)<=(i:Int):=by omega
   obtain⟨x,hx⟩:∃x,l[i]? = some x:=⟨l[i]'(by rw[<-EN.o];exact hlt),List.getElem?_eq_getElem _⟩;obtain⟨g,rfl,bz,D⟩:=M.at_ hx;have h0:wr.cell? ⟨g,i*35,none⟩=some (.string ⟨x.p.1.toArray⟩):=D 0 _ (iC_p0 x);have h1:wr.cell? ⟨g,i*35+1,none⟩=some (.string ⟨x.p.2.toArray⟩):=D 1 _ (iC_p1 x);have h2:wr.cell? ⟨g,i*35+2,none⟩=some (.int .i64 (x.n:Int)):=D 2 _ (iC_n x);have ca:=hp.c0;have bB:=hp.c1;have HX:=I hx;clear D hx M F hp hq ez
   by_cases hh:x.p=p
   ·have t1:=AQ hh
    have HH:=I hh;clear hh
    go_wp2
    go_quiet (fail)
    go_wp2
    go_roundw
    case rel=>exact⟨i+1,by omega,by go_num,by rw[Uw HX.o HH.o],below_drewN J.o _,Z.o.drewN _,HQ.o.drewN _,O.o.keep (below_drewN Ah _)⟩
    case measure=>simp [intOf];omega
   ·have t1:=Bd hh
    have HH:=I hh;clear hh
    go_wp2
    go_quiet (fail)
    go_wp2
    go_roundw
    case rel=>exact⟨i+1,by omega,by go_num,by rw[Rq HX.o HH.o,EZ.o],below_drewN J.o _,Z.o.drewN _,HQ.o.drewN _,O.o.keep (below_drewN Ah _)⟩
    case measure=>simp [intOf];omega
  ·have e1:decide ((i:Int)<(n:Int))=false:=by simp;omega
   obtain rfl:n=i:=by omega
   clear M F hp hq hi hlt ez
   go_wp2
   go_ret;exact⟨by rw[EZ.o,BH,BA,<-EN.o];rfl,by rw[<-bx.o];exact J.o⟩
theorem Ad {P:Program} {fn:Func} {tmps:Array Value} {w:World} {v u:Value} (t q:Nat) (ty:TypeId) (a:Addr) (D:fn.results=#[.cell t ty,.tmp q]) (N:tmps.getD t undef=.pointer (some a)) (M:(loadVar ty a).run P w=.ok v w) (J:tmps.getD q undef=u) :
  (results fn tmps).run P w=.ok (.tuple #[v,u]) w:=by
 have E:tmps[t]?.getD undef=.pointer (some a):=by simpa using N
 have F:tmps[q]?.getD undef=u:=by simpa using J
 simp [results,D,E,F,asAddr,M]
theorem Xd (p:Pr) (w:World) (D:p.1.length<=1000000000) (E:p.2.length<=1000000000):Calls Tryz.prog 4 #[prV p] w fun e w'=>e=.returned (.bool (prB p))/\Below w.heap.size w w':=Nm.Ip p.1 p.2 w D E
def zeroI:Array Value:=#[.string ⟨#[]⟩,.string ⟨#[]⟩,.int .i64 0,.int .u8 0,.int .u8 0,.int .u8 0,.int .u8 0,.int .u8 0,.int .u8 0,.int .u8 0,.int .u8 0,.int .u8 0,.int .u8 0,.int .u8 0,.int .u8 0,.int .u8 0,.int .u8 0,.int .u8 0,.int .u8 0,.int .u8 0,.int .u8 0,.int .u8 0,.int .u8 0,.int .u8 0,.int .u8 0,.int .u8 0,.int .u8 0,.int .u8 0,.int .u8 0,.int .u8 0,.int .u8 0,.int .u8 0,.int .u8 0,.int .u8 0,.int .u8 0]
theorem Xe:(Tryz.prog.info? 117).map (fun i=>(i.zero,i.size,i.bytes))=some (some (.agg zeroI),35,72):=by kernel_rfl
theorem Rr (p:Pr) (n:Nat) (k:Nat->UInt8):Tryz.prog.built 117 [(0,prV p),(1,.int .i64 (n:Int)),(2,.agg (AY k))]=some (iC ⟨p,n,k⟩).toArray:=by
 kernel_rfl
theorem Qf {w J E:World} {B q:Nat} {v v6:Value} {l:List It} {it:It} (h:DRing w B q v l) (N:Below w.heap.size w J) (M:DRing J B q v l)
  (ho:E.ownsRow B 117 35 v6 (l++[it]).length ((l++[it]).flatMap iC)) (Z:J.grownBy E v.ownBlock) (O:v6.ownBlock=v.ownBlock\/v6.ownBlock=some J.heap.size) :
  DRing (E.setCell ⟨q,0,none⟩ v6) B q v6 (l++[it])/\Chg (DO q v) w (E.setCell ⟨q,0,none⟩ v6)/\(∀k,DO q v6 k->DO q v k\/w.heap.size<=k):=by
 have F:v6.ownBlock≠some q:=fun x=>by
  rcases O with g | g
  ·rw[g] at x;exact h.vq x
  ·rw[g] at x;injection x with x;have:=M.lt;omega
 have D:Chg (fun k=>k=q) E (E.setCell ⟨q,0,none⟩ v6):=Chg.set (p:=⟨q,0,none⟩) (Chg.refl (fun k=>k=q) E) (.inl rfl) v6;have hc:Chg (DO q v) w (E.setCell ⟨q,0,none⟩ v6):=
  (((Chg.of_below N).trans (OI Z) (fun k _ x=>.inr x)).trans D (fun k _ x=>.inl x):Chg (DO q v) w _)
 refine⟨⟨(M.blk.grown Z M.vq).set 0 v6,JT D ho (fun k hk x=>F (x▸hk)),h.lo,F⟩,hc,fun k hk=>?_⟩;rcases hk with hk | hk
 ·exact .inl (.inl hk)
 ·rcases O with g | g
  ·exact .inl (.inr (g▸hk))
  ·rw[g] at hk;injection hk with hk;exact .inr (by have:=N.size;omega)
theorem aB (B q:Nat) (v:Value) (l:List It) (p:Pr) (k:Nat->UInt8) (w:World) (h:DRing w B q v l) (hB:B<=w.heap.size) (h1:p.1.length<=1000000000) (h2:p.2.length<=1000000000) (hp:prB p=true) (hl:l.length<40) (hn:BH l p<255) :
  Calls Tryz.prog 17 #[.pointer (some ⟨q,0,none⟩),prV p,.agg (AY k)] w fun e w'=>e=.returned (.tuple #[.int .i64 ((BH l p:Int)+1),.int .i64 0])/\∃v',DRing w' B q v' (l++[⟨p,BH l p+1,k⟩])/\Chg (DO q v) w w'/\(∀k,DO q v' k->DO q v k\/w.heap.size<=k):=by
 obtain⟨A,c,rfl,hc,hm,hr⟩:=h.num;obtain⟨n,en⟩:=Ak (l.length);have EN:=I en;obtain⟨z,ez⟩:=Ak (BH l p);have EZ:=I ez;have CL:=I (fun(w1:World) (h:DRing w1 B q (.slice A l.length c) l)=>Ux B q (.slice A l.length c) l p w1 h (by omega));have CP:=I (fun w1=>Xd p w1 h1 h2);rw[hp] at CP;rw[<-ez] at CL;obtain⟨kv,cj⟩:=Ak (AY k);rw[<-cj];have cL:=h.lt;obtain⟨W,eW⟩:=Ak ((w.alloc (.cells #[.string ⟨p.1.toArray⟩,.string ⟨p.2.toArray⟩] 23)).alloc (.cells kv 36));have J:Below w.heap.size w W:=eW▸(Ah.alloc Ag _).alloc (by simp) _;have E:=I (show Blk W w.heap.size 23 #[.string ⟨p.1.toArray⟩,.string ⟨p.2.toArray⟩] from eW▸(Blk.new w _ _).alloc _);have F:=I (show Blk W (w.heap.size+1) 36 kv by have:=Blk.new (w.alloc (.cells #[.string ⟨p.1.toArray⟩,.string ⟨p.2.toArray⟩] 23)) 36 kv;simp only[World.size_alloc] at this;exact eW▸this);have HB:=I J;have D:=I (h.below J);have HW:=I h;have cg:=E.c0;have cf:=E.c1;have cB:IntKind.i64.wrap ((z:Int)+1)=(z:Int)+1:=by rw[IntKind.wrap_i64];omega
 have EK:=I cj;have cA:=I (show(Tryz.prog.info? 36).map (·.size)=some kv.size by rw[cj];exact Gm k);obtain⟨i0,cm,cn,ck,cr⟩:=info_parts Xe;have cu:=I cm;have cy:=I cn;have cp:=I ck;have cx:=I cr;have ct:=I (fun(w1:World)=>Wh.Hf (P:=Tryz.prog) w1 60 117 (iC ⟨p,z+1,k⟩).toArray i0 _ Tryz.underlying60 cm cn (by rw[ck];simp [Cf]) (by simp [Cf]) (by simp [Cf]));have cq:=I hB;have HN:=I (show z<255 by omega);have t1:decide (40<=(n:Int))=false:=by simp;omega
 have t2:decide (255<=(z:Int))=false:=by simp;omega
 have HL:=I (show n<40 by omega);clear cm cn ck cr hB J h hr h1 h2 hp hn hl cj en hc hm;rw[<-ez];clear ez;go_enter Tryz.func17,Tryz.ntmps17
 go_upto_region 1 with fail
 rw[<-eW];clear eW
 go_wp2_with (first
  |(go_at_call 4;refine Aj (CP.o _) ?_;rintro w1 J;replace HB:=HB.t J;replace D:=I (D.o.below J);replace E:=I (E.o.below J);replace F:=I (F.o.below J);have cg:=E.c0;have cf:=E.c1;have kr:w1.cell? ⟨q,0,none⟩=some (.slice A n c):=EN.o▸D.o.blk.cell 0;clear J)
  |(go_at_call 39;refine Aj (CL.o _ D.o) ?_;rintro w2 J;clear cg cf kr;replace HB:=HB.t J;replace D:=I (D.o.below J);replace E:=I (E.o.below J);replace F:=I (F.o.below J);have cg:=E.c0;have cf:=E.c1;have kr:w2.cell? ⟨q,0,none⟩=some (.slice A n c):=EN.o▸D.o.blk.cell 0;clear J)
  |fail)
 replace E:=I (show Blk w2.drew _ _ _ from E.o.drewN 1);replace F:=I (show Blk w2.drew _ _ _ from F.o.drewN 1);replace D:=I (show DRing w2.drew B q _ l from D.o.below (below_drewN Ah 1));replace HB:=I (show Below w.heap.size w w2.drew from below_drewN HB.o 1);clear cg cf kr;refine Reg.AR (fun w'=>Blk w' w.heap.size 23 #[.string ⟨p.1.toArray⟩,.string ⟨p.2.toArray⟩]/\Blk w' (w.heap.size+1) 36 kv) 15 rfl (by kernel_rfl) ⟨E.o,F.o⟩ ?_;obtain⟨W2,cw⟩:=Ak (w2.drew);rw[<-cw] at E F D HB⊢;clear cw;refine Reg.ty 0 rfl ⟨E.o,F.o⟩ ?_;refine Reg.ty 1 rfl ⟨E.o,F.o⟩ ?_;refine Reg.ty 2 rfl ⟨E.o,F.o⟩ ?_;refine Reg.ty 3 rfl ⟨E.o,F.o⟩ ?_;refine Reg.tw 5 (v:=.agg #[.string ⟨p.1.toArray⟩,.string ⟨p.2.toArray⟩]) rfl ⟨E.o,F.o⟩ (fun w' hS=>by exact Wh.Ar (.tmp 4) rfl rfl hS.1 Tryz.underlying23 rfl AO) ?_;refine Reg.ty 6 rfl ⟨E.o,F.o⟩ ?_;refine Reg.tw 7 (v:=.int .i64 ((z:Int)+1)) rfl ⟨E.o,F.o⟩ (fun w' hS=>by go_simp) ?_;refine Reg.tw 8 (v:=.agg kv) rfl ⟨E.o,F.o⟩ (fun w' hS=>by exact Wh.Ar (.tmp 5) rfl rfl hS.2 Tryz.underlying36 rfl cA.o) ?_;refine Reg.tw 9 (v:=.agg (iC ⟨p,z+1,k⟩).toArray) rfl ⟨E.o,F.o⟩ (fun w' hS=>by exact AP (by go_simp) (EK.o▸Rr p (z+1) k)) ?_;refine Reg.JQ [4,10] (by kernel_rfl) (by simp) ?_;intro j0 M;have M:j0=4\/j0=10:=by simpa using M
 rcases M with rfl | rfl
 ·have kr:W2.cell? ⟨q,0,none⟩=some (.slice A n c):=EN.o▸D.o.blk.cell 0
  refine⟨_,_,_,_,_,_,_,_,rfl,by rfl,by(go_simp;rfl),⟨E.o,F.o⟩,?_⟩;simp only[Act.put,U,Aa,Ab];clear kr;refine Reg.JQ [10] (by kernel_rfl) (by simp) ?_;intro j0 M;obtain rfl:j0=10:=by simpa using M
  clear M;have J:Below W2.heap.size W2 (W2.alloc (.cells (iC ⟨p,z+1,k⟩).toArray 117)):=Ah.alloc Ag _;refine⟨_,_,_,_,_,_,.slice (some ⟨W2.heap.size,0,none⟩) 1 1,(W2.alloc (.cells (iC ⟨p,z+1,k⟩).toArray 117)),rfl,by rfl,DC rfl (ct.o _),⟨E.o.below J,F.o.below J⟩,?_⟩;simp only[Act.put,U,Aa,Ab];have bB:=I (Blk.new W2 117 (iC ⟨p,z+1,k⟩).toArray);replace HB:=HB.t J;replace D:=I (D.o.below J);replace E:=I (E.o.below J);replace F:=I (F.o.below J);clear J;obtain⟨W5,ca⟩:=Ak ((W2.alloc (.cells (iC ⟨p,z+1,k⟩).toArray 117)));obtain⟨g5,cc⟩:=Ak (W2.heap.size);rw[<-ca] at bB HB D E F⊢;rw[<-cc] at bB⊢;clear ca cc;refine Reg.JQ [11] (by kernel_rfl) (by simp) ?_;intro j0 M;obtain rfl:j0=11:=by simpa using M
  clear M;obtain⟨v6,w6,O,bx,Z,cb⟩:=Wh.Ii (P:=Tryz.prog) iC 35 72 Cf Ur W5 60 60 117 i0 _ Tryz.underlying60 cu.o cy.o cp.o cx.o (by rfl) (by omega) B _ l D.o.row ⟨p,z+1,k⟩ g5 bB.o (by have:=EN.o;have:=HL.o;omega) (by omega) (Nat.le_trans cq.o HB.o.size);rw[<-EN.o] at O;replace E:=I (E.o.grown Z (fun x=>by have:=(World.ownsRow.lt HW.o.row _ x).2;omega));replace F:=I (F.o.grown Z (fun x=>by have:=(World.ownsRow.lt HW.o.row _ x).2;omega));refine⟨_,_,_,_,_,_,v6,w6,rfl,by rfl,FY rfl rfl O,⟨E.o,F.o⟩,?_⟩;simp only[Act.put,U,Aa,Ab];refine Reg.ty 12 rfl ⟨E.o,F.o⟩ ?_;refine Reg.ty 13 rfl ⟨E.o,F.o⟩ ?_;have aw:=Qf HW.o HB.o D.o bx Z cb;have bz:=D.o.blk.grown Z D.o.vq;obtain⟨A7,c7,e7,_⟩:=FC Cf bx;obtain⟨m7,cd⟩:=Ak ((l++[(⟨p,z+1,k⟩:It)]).length);rw[<-cd] at e7;subst e7;have f0:=bz.frozen 0;have k6:=bz.c0;refine Reg.Bq 14 (w6.setCell ⟨q,0,none⟩ (.slice A7 m7 c7)) rfl (by kernel_rfl) (by rfl) (by go_simp) ⟨Si.Blk.far E.o _ _ (by simp;have:=HW.o.lt;omega),Si.Blk.far F.o _ _ (by simp;have:=HW.o.lt;omega)⟩ ?_;simp only[Act.put,U,Aa,Ab];refine wpAnyH_done (by kernel_rfl) ?_ _;clear f0 k6 bz bx Z cb O cd;have N:=I aw;clear aw
  go_wp2
  go_ret2
  exact⟨rfl,_,N.o.1,N.o.2.1,N.o.2.2⟩
 ·have J:Below W2.heap.size W2 (W2.alloc (.cells (iC ⟨p,z+1,k⟩).toArray 117)):=Ah.alloc Ag _
  refine⟨_,_,_,_,_,_,.slice (some ⟨W2.heap.size,0,none⟩) 1 1,(W2.alloc (.cells (iC ⟨p,z+1,k⟩).toArray 117)),rfl,by rfl,DC rfl (ct.o _),⟨E.o.below J,F.o.below J⟩,?_⟩;simp only[Act.put,U,Aa,Ab];have bB:=I (Blk.new W2 117 (iC ⟨p,z+1,k⟩).toArray);replace HB:=HB.t J;replace D:=I (D.o.below J);replace E:=I (E.o.below J);replace F:=I (F.o.below J);clear J;obtain⟨W5,ca⟩:=Ak ((W2.alloc (.cells (iC ⟨p,z+1,k⟩).toArray 117)));obtain⟨g5,cc⟩:=Ak (W2.heap.size);rw[<-ca] at bB HB D E F⊢;rw[<-cc] at bB⊢;clear ca cc;refine Reg.JQ [4] (by kernel_rfl) (by simp) ?_;intro j0 M;obtain rfl:j0=4:=by simpa using M
  clear M;have kr:W5.cell? ⟨q,0,none⟩=some (.slice A n c):=EN.o▸D.o.blk.cell 0;refine⟨_,_,_,_,_,_,_,_,rfl,by rfl,by(go_simp;rfl),⟨E.o,F.o⟩,?_⟩;simp only[Act.put,U,Aa,Ab];clear kr;refine Reg.JQ [11] (by kernel_rfl) (by simp) ?_;intro j0 M;obtain rfl:j0=11:=by simpa using M
  clear M;obtain⟨v6,w6,O,bx,Z,cb⟩:=Wh.Ii (P:=Tryz.prog) iC 35 72 Cf Ur W5 60 60 117 i0 _ Tryz.underlying60 cu.o cy.o cp.o cx.o (by rfl) (by omega) B _ l D.o.row ⟨p,z+1,k⟩ g5 bB.o (by have:=EN.o;have:=HL.o;omega) (by omega) (Nat.le_trans cq.o HB.o.size);rw[<-EN.o] at O;replace E:=I (E.o.grown Z (fun x=>by have:=(World.ownsRow.lt HW.o.row _ x).2;omega));replace F:=I (F.o.grown Z (fun x=>by have:=(World.ownsRow.lt HW.o.row _ x).2;omega));refine⟨_,_,_,_,_,_,v6,w6,rfl,by rfl,FY rfl rfl O,⟨E.o,F.o⟩,?_⟩;simp only[Act.put,U,Aa,Ab];refine Reg.ty 12 rfl ⟨E.o,F.o⟩ ?_;refine Reg.ty 13 rfl ⟨E.o,F.o⟩ ?_;have aw:=Qf HW.o HB.o D.o bx Z cb;have bz:=D.o.blk.grown Z D.o.vq;obtain⟨A7,c7,e7,_⟩:=FC Cf bx;obtain⟨m7,cd⟩:=Ak ((l++[(⟨p,z+1,k⟩:It)]).length);rw[<-cd] at e7;subst e7;have f0:=bz.frozen 0;have k6:=bz.c0;refine Reg.Bq 14 (w6.setCell ⟨q,0,none⟩ (.slice A7 m7 c7)) rfl (by kernel_rfl) (by rfl) (by go_simp) ⟨Si.Blk.far E.o _ _ (by simp;have:=HW.o.lt;omega),Si.Blk.far F.o _ _ (by simp;have:=HW.o.lt;omega)⟩ ?_;simp only[Act.put,U,Aa,Ab];refine wpAnyH_done (by kernel_rfl) ?_ _;clear f0 k6 bz bx Z cb O cd;have N:=I aw;clear aw
  go_wp2
  go_ret2
  exact⟨rfl,_,N.o.1,N.o.2.1,N.o.2.2⟩
end Rg
namespace Kd
open Go.RowKit Af Se Nm
open Rg (It Ent Ring RO DRing DO its)
open Ms (Re Tg reC tgC)
open Rt (Tp kl)
theorem JX {l:L} (h:l.length=32):AY (ksOf l)=(bvs l).toArray:=by
 show((List.range 32).map (fun i=>bv (ksOf l i))).toArray=(bvs l).toArray
 congr 1
 apply List.ext_getElem?;intro i;simp only[List.getElem?_map,bvs]
 by_cases g:i<32
 ·rw[List.getElem?_range g,List.getElem?_eq_getElem (by omega)]
  simp [ksOf,List.getD,h,g]
 ·rw[List.getElem?_eq_none (by simp;omega),List.getElem?_eq_none (by omega)]
  rfl
theorem Gz (w:World) (g o:Nat) (u:Value):Chg (fun j=>j=g) w (w.setCell ⟨g,o,none⟩ u):=(Chg.refl (fun j=>j=g) w).set (p:=⟨g,o,none⟩) (.inl rfl) u
def SlK (K:Nat->Prop) (w:World) (v:Value) (ls:List L):Prop:=∃A c,v=.slice A ls.length c/\ls.length<=c/\(ls = []\/∃b o,A=some ⟨b,o,none⟩/\K b/\∀i u,(strs ls)[i]? = some u->w.cell? ⟨b,o+i,none⟩=some u)
def SpK (K:Nat->Prop) (w:World) (v:Value) (P:List (L×L)):Prop:=∃A c,v=.slice A P.length c/\P.length<=c/\(P = []\/∃b o,A=some ⟨b,o,none⟩/\K b/\∀i,i<P.length->w.cell? ⟨b,o+i*2,none⟩=some (.string ⟨(kl P i).1.toArray⟩)/\w.cell? ⟨b,o+i*2+1,none⟩=some (.string ⟨(kl P i).2.toArray⟩))
structure TpK (K:Nat->Prop) (w:World) (v1 v2 v3:Value) (T:Tp):Prop where
 r:SlK K w v1 T.R
 k:SpK K w v2 T.K
 n:v3=.slice none 0 0
 p:T.P = []
section
variable {K K' S:Nat->Prop} {w w':World} {v v1 v2 v3:Value} {ls:List L} {P:List (L×L)} {T:Tp}
theorem SlK.keep (h:SlK K w v ls) (hk:∀b o,K b->w'.cell? ⟨b,o,none⟩=w.cell? ⟨b,o,none⟩) (hm:∀b,K b->K' b):SlK K' w' v ls:=by
 obtain⟨A,c,F,J,D⟩:=h;refine⟨A,c,F,J,?_⟩;rcases D with D | ⟨b,o,e,E,M⟩
 ·exact .inl D
 ·exact .inr ⟨b,o,e,hm b E,fun i u hu=>(hk b _ E).trans (M i u hu)⟩
theorem SpK.keep (h:SpK K w v P) (hk:∀b o,K b->w'.cell? ⟨b,o,none⟩=w.cell? ⟨b,o,none⟩) (hm:∀b,K b->K' b):SpK K' w' v P:=by
 obtain⟨A,c,J,M,E⟩:=h;refine⟨A,c,J,M,?_⟩;rcases E with E | ⟨b,o,e,D,F⟩
 ·exact .inl E
 ·exact .inr ⟨b,o,e,hm b D,fun i hi=>⟨(hk b _ D).trans (F i hi).1,(hk b _ D).trans (F i hi).2⟩⟩
theorem TpK.keep (h:TpK K w v1 v2 v3 T) (hk:∀b o,K b->w'.cell? ⟨b,o,none⟩=w.cell? ⟨b,o,none⟩) (hm:∀b,K b->K' b):TpK K' w' v1 v2 v3 T:=⟨h.r.keep hk hm,h.k.keep hk hm,h.n,h.p⟩
theorem TpK.chg (h:TpK K w v1 v2 v3 T) (E:Chg S w w') (hs:∀b,K b->b<w.heap.size/\¬S b):TpK K w' v1 v2 v3 T:=
 h.keep (fun b o D=>World.cell?_of_block (a:=⟨b,o,none⟩) (E.block b (hs b D).1 (hs b D).2)) (fun _ x=>x)
theorem SlK.slv {B:Nat} (h:SlK K w v ls) (F:∀b,K b->b<B):Rt.SlV w B v ls:=by
 obtain⟨A,c,J,M,D⟩:=h;refine⟨A,c,J,M,?_⟩;rcases D with D | ⟨b,o,e,E,N⟩
 ·subst D;exact .inl rfl
 ·exact .inr ⟨b,o,e,F b E,N⟩
theorem SpK.slp {B:Nat} (h:SpK K w v P) (F:∀b,K b->b<B):Rt.SlP w B v P:=by
 obtain⟨A,c,J,M,D⟩:=h;refine⟨A,c,J,M,?_⟩;rcases D with D | ⟨b,o,e,E,N⟩
 ·exact .inl D
 ·exact .inr ⟨b,o,e,F b E,N⟩
theorem TpK.tpv {B:Nat} (h:TpK K w v1 v2 v3 T) (D:∀b,K b->b<B):Rt.TpV w B (.agg #[v1,v2,v3]) T:=
 ⟨v1,v2,v3,rfl,h.r.slv D,h.k.slp D,none,0,by rw[h.n,h.p];rfl,by rw[h.p];exact Nat.le_refl _,.inl h.p⟩
theorem TpK.sizes (h:TpK K w v1 v2 v3 T):∃A1 c1 A2 c2,v1=.slice A1 T.R.length c1/\v2=.slice A2 T.K.length c2/\v3=.slice none 0 0:=by
 obtain⟨A1,c1,D,_⟩:=h.r;obtain⟨A2,c2,E,_⟩:=h.k;exact⟨A1,c1,A2,c2,D,E,h.n⟩
end
def SlN (S:Nat->Prop) (w:World) (v:Value) (l:L):Prop:=∃A c,v=.slice A l.length c/\l.length<=c/\RdA S w A (bvs l)
section
variable {S S' T:Nat->Prop} {w w':World} {v:Value} {l:L}
theorem SlN.keep (h:SlN S w v l) (M:Chg T w w') (D:∀i,i<w.heap.size->T i->S i) (hs:∀i,i<w.heap.size->S' i->S i):SlN S' w' v l:=by
 obtain⟨A,c,E,F,J⟩:=h;exact⟨A,c,E,F,J.keep M D hs⟩
theorem SlN.below (h:SlN S w v l) (D:Below w.heap.size w w'):SlN S w' v l:=h.keep (Chg.of_below (S:=fun _=>False) D) (fun _ _ x=>x.elim) (fun _ _ x=>x)
theorem SlN.mono (h:SlN S w v l) (hs:∀i,i<w.heap.size->S' i->S i):SlN S' w v l:=h.keep (Chg.refl (fun _=>False) w) (fun _ _ x=>x.elim) hs
theorem SlN.sl (h:SlN S w v l):Ms.SlB w w.heap.size v l:=by
 obtain⟨A,c,D,E,F⟩:=h;exact⟨A,c,D,E,F.rd⟩
end
def ReN (S:Nat->Prop) (w:World) (cs:Array Value) (x:Re):Prop:=∃b a,cs=(reC x b a).toArray/\SlN S w b x.t.b/\SlN S w a x.b
def TgN (S:Nat->Prop) (w:World) (cs:Array Value) (x:Tg):Prop:=∃b a,cs=(tgC x b a).toArray/\SlN S w b x.t.b/\SlN S w a x.a
section
variable {S S' T:Nat->Prop} {w w':World} {cs:Array Value} {x:Re} {y:Tg}
theorem ReN.keep (h:ReN S w cs x) (E:Chg T w w') (D:∀i,i<w.heap.size->T i->S i) (hs:∀i,i<w.heap.size->S' i->S i):ReN S' w' cs x:=by
 obtain⟨b,a,F,J,M⟩:=h;exact⟨b,a,F,J.keep E D hs,M.keep E D hs⟩
theorem ReN.below (h:ReN S w cs x) (D:Below w.heap.size w w'):ReN S w' cs x:=h.keep (Chg.of_below (S:=fun _=>False) D) (fun _ _ x=>x.elim) (fun _ _ x=>x)
theorem TgN.keep (h:TgN S w cs y) (E:Chg T w w') (D:∀i,i<w.heap.size->T i->S i) (hs:∀i,i<w.heap.size->S' i->S i):TgN S' w' cs y:=by
 obtain⟨b,a,F,J,M⟩:=h;exact⟨b,a,F,J.keep E D hs,M.keep E D hs⟩
theorem re0_n:ReN S w (reC Ms.re0 (.slice none 0 0) (.slice none 0 0)).toArray Ms.re0:=⟨_,_,rfl,⟨none,0,rfl,Nat.le_refl _,.inl rfl⟩,⟨none,0,rfl,Nat.le_refl _,.inl rfl⟩⟩
end
structure KP where
 k:Nat
 r:Nat
 lo:Nat
 hi:Nat
 R:L
 T:Tp
 v:Value
 v1:Value
 v2:Value
 v3:Value
def KT (p:KP) (j:Nat):Prop:=p.lo<=j/\j<p.hi
def KO (p:KP) (es:List Ent) (j:Nat):Prop:=j=p.k\/RO p.r p.v es j
def KA (p:KP) (es:List Ent) (j:Nat):Prop:=KO p es j\/KT p j
structure KD (w:World) (B:Nat) (p:KP) (es:List Ent) (n i:Nat):Prop where
 blk:Blk w p.k 127 #[.string ⟨p.R.toArray⟩,p.v1,p.v2,p.v3,.pointer (some ⟨p.r,0,none⟩),.int .i64 (n:Int),.int .i64 (i:Int)]
 ring:Ring w B p.r p.v es
 tp:TpK (KT p) w p.v1 p.v2 p.v3 p.T
 lo:B<=p.k
 tlo:B<=p.lo
 hi:p.hi<=w.heap.size
 kr:¬RO p.r p.v es p.k
 kt:¬KT p p.k
 rt:∀j,RO p.r p.v es j->¬KT p j
section
variable {w w':World} {B:Nat} {p:KP} {es es':List Ent} {n i n' i':Nat} {S:Nat->Prop}
theorem KD.ko_lt (h:KD w B p es n i) {j:Nat} (D:KO p es j):j<w.heap.size:=by
 rcases D with D | D
 ·subst D;exact h.blk.lt
 ·exact h.ring.own_lt D
theorem KD.ka_lt (h:KD w B p es n i) {j:Nat} (D:KA p es j):j<w.heap.size:=by
 rcases D with D | D
 ·exact h.ko_lt D
 ·have:=D.2;have:=h.hi;omega
theorem KD.ko_lo (h:KD w B p es n i) {j:Nat} (D:KO p es j):B<=j:=by
 rcases D with D | D
 ·subst D;exact h.lo
 ·exact h.ring.own_lo D
theorem KD.ka_lo (h:KD w B p es n i) {j:Nat} (D:KA p es j):B<=j:=by
 rcases D with D | D
 ·exact h.ko_lo D
 ·have:=D.1;have:=h.tlo;omega
theorem KD.lt (h:KD w B p es n i):p.k<w.heap.size:=h.blk.lt
theorem KD.chg (h:KD w B p es n i) (D:Chg S w w') (hs:∀j,KA p es j->¬S j):KD w' B p es n i:=
 ⟨D.blk h.blk (hs _ (.inl (.inl rfl))),h.ring.chg D (fun j E=>hs j (.inl (.inr E))),h.tp.chg D (fun j E=>⟨by have:=E.2;have:=h.hi;omega,hs j (.inr E)⟩),h.lo,h.tlo,Nat.le_trans h.hi D.size,h.kr,h.kt,h.rt⟩
theorem KD.below (h:KD w B p es n i) (D:Below w.heap.size w w'):KD w' B p es n i:=h.chg (S:=fun _=>False) (Chg.of_below D) (fun _ _ x=>x)
theorem KD.drew (h:KD w B p es n i):KD w.drew B p es n i:=h.below (below_drewN Ah 1)
theorem KD.use (h:KD w B p es n i) {q:Nat} {e:Ent} (he:es[q]? = some e) {E:Option Nat} {a o z:Nat} (F:Ring w' B p.r p.v (es.set q ⟨e.it,e.b,E,a,o,z⟩)) (hs:Cu w w' e.b e.h E):KD w' B p (es.set q ⟨e.it,e.b,E,a,o,z⟩) n i:=by
 have hk:∀j,KT p j->j<w.heap.size:=fun j D=>by have:=D.2;have:=h.hi;omega
 refine⟨hs.1.blk h.blk (fun x=>h.kr (Rg.aA he x)),F,h.tp.chg hs.1 (fun j D=>⟨hk j D,fun x=>h.rt j (Rg.aA he x) D⟩),h.lo,h.tlo,Nat.le_trans h.hi hs.1.size,fun x=>?_,h.kt,fun j D x=>?_⟩
 ·rcases h.ring.use_new he a o z hs _ x with y | y
  ·exact h.kr y
  ·have:=h.lt;omega
 ·rcases h.ring.use_new he a o z hs j D with y | y
  ·exact h.rt j y x
  ·have:=hk j x;omega
def New' (w:World) (p:KP) (es es':List Ent):Prop:=∀j,KO p es' j->KO p es j\/w.heap.size<=j
theorem New'.trans {D:List Ent} {a:World} (h:New' a p es es') (g:New' w p es' D) (hs:a.heap.size<=w.heap.size):New' a p es D:=fun j E=>by
 rcases g j E with x | x
 ·exact h j x
 ·exact .inr (by omega)
theorem KD.use_new (h:KD w B p es n i) {q:Nat} {e:Ent} (he:es[q]? = some e) {E:Option Nat} (a o z:Nat) (hs:Cu w w' e.b e.h E):New' w p es (es.set q ⟨e.it,e.b,E,a,o,z⟩):=fun j D=>by
 rcases D with D | D
 ·exact .inl (.inl D)
 ·rcases h.ring.use_new he a o z hs j D with y | y
  ·exact .inl (.inr y)
  ·exact .inr y
theorem Xf {q:Nat} {e:Ent} (he:es[q]? = some e) {j:Nat} (h:Ow e.b e.h j):KO p es j:=.inr (Rg.aA he h)
theorem KD.put5 (h:KD w B p es n i) (n':Nat):KD (w.setCell ⟨p.k,5,none⟩ (.int .i64 (n':Int))) B p es n' i:=by
 have E:Chg (fun j=>j=p.k) w (w.setCell ⟨p.k,5,none⟩ (.int .i64 (n':Int))):=Gz _ _ _ _;refine⟨?_,h.ring.chg E (fun j D x=>h.kr (x▸D)),h.tp.chg E (fun j D=>⟨by have:=D.2;have:=h.hi;omega,fun x=>h.kt (x▸D)⟩),h.lo,h.tlo,Nat.le_trans h.hi E.size,h.kr,h.kt,h.rt⟩;have:=h.blk.set 5 (.int .i64 (n':Int))
 simpa using this
theorem KD.put6 (h:KD w B p es n i) (i':Nat):KD (w.setCell ⟨p.k,6,none⟩ (.int .i64 (i':Int))) B p es n i':=by
 have E:Chg (fun j=>j=p.k) w (w.setCell ⟨p.k,6,none⟩ (.int .i64 (i':Int))):=Gz _ _ _ _;refine⟨?_,h.ring.chg E (fun j D x=>h.kr (x▸D)),h.tp.chg E (fun j D=>⟨by have:=D.2;have:=h.hi;omega,fun x=>h.kt (x▸D)⟩),h.lo,h.tlo,Nat.le_trans h.hi E.size,h.kr,h.kt,h.rt⟩;have:=h.blk.set 6 (.int .i64 (i':Int))
 simpa using this
end
structure DP where
 x:Nat
 q:Nat
 lo:Nat
 hi:Nat
 R:L
 T:Tp
 v:Value
 v1:Value
 v2:Value
 v3:Value
def DT (p:DP) (j:Nat):Prop:=p.lo<=j/\j<p.hi
def DA (p:DP) (j:Nat):Prop:=j=p.x\/DO p.q p.v j\/DT p j
structure DK (w:World) (B:Nat) (p:DP) (l:List It) (n m:Nat):Prop where
 blk:Blk w p.x 131 #[.string ⟨p.R.toArray⟩,p.v1,p.v2,p.v3,.pointer (some ⟨p.q,0,none⟩),.int .i64 (n:Int),.int .i64 (m:Int)]
 ring:DRing w B p.q p.v l
 tp:TpK (DT p) w p.v1 p.v2 p.v3 p.T
 lo:B<=p.x
 tlo:B<=p.lo
 hi:p.hi<=w.heap.size
 xr:¬DO p.q p.v p.x
 xt:¬DT p p.x
section
variable {w w':World} {B:Nat} {p:DP} {l:List It} {n m:Nat} {S:Nat->Prop}
theorem DK.da_lt (h:DK w B p l n m) {j:Nat} (D:DA p j):j<w.heap.size:=by
 rcases D with D | D | D
 ·subst D;exact h.blk.lt
 ·exact h.ring.own_lt D
 ·have:=D.2;have:=h.hi;omega
theorem DK.lt (h:DK w B p l n m):p.x<w.heap.size:=h.blk.lt
theorem DK.chg (h:DK w B p l n m) (D:Chg S w w') (hs:∀j,DA p j->¬S j):DK w' B p l n m:=
 ⟨D.blk h.blk (hs _ (.inl rfl)),h.ring.chg D (fun j E=>hs j (.inr (.inl E))),h.tp.chg D (fun j E=>⟨by have:=E.2;have:=h.hi;omega,hs j (.inr (.inr E))⟩),h.lo,h.tlo,Nat.le_trans h.hi D.size,h.xr,h.xt⟩
theorem DK.below (h:DK w B p l n m) (D:Below w.heap.size w w'):DK w' B p l n m:=h.chg (S:=fun _=>False) (Chg.of_below D) (fun _ _ x=>x)
end
end Kd
namespace Kd
open Go.RowKit Af Se
open Rg (It Ent Ring RO its)
def Cz (es:List Ent) (c:Nat):Prop:=∀(j:Nat) (e:Ent),es[j]? = some e->e.a<=c/\e.o<=c/\e.r<=c
theorem Cz.mono {es:List Ent} {c c':Nat} (h:Cz es c) (D:c<=c'):Cz es c':=fun j e he=>by have:=h j e he;omega
theorem Cz.set {es:List Ent} {c q:Nat} {e:Ent} (h:Cz es c) (he:es[q]? = some e) {F:Option Nat} {a o r:Nat} (J:a<=e.a+1) (N:o<=e.o+1) (M:r<=e.r+1):Cz (es.set q ⟨e.it,e.b,F,a,o,r⟩) (c+1):=fun j f D=>by
 have E:=(List.getElem?_eq_some_iff.1 he).1
 by_cases g:q=j
 ·subst g
  rw[List.getElem?_set_self E] at D;injection D with D;subst D;have:=h q e he;show a<=c+1/\o<=c+1/\r<=c+1;omega
 ·rw[List.getElem?_set_ne g] at D
  have:=h j f D;omega
def bts (es:List Ent):List (It×Nat):=es.map fun e=>(e.it,e.b)
theorem LK {es es':List Ent} (h:bts es'=bts es):its es'=its es:=by
 have D:its es'=(bts es').map Prod.fst:=by simp [its,bts]
 have E:its es=(bts es).map Prod.fst:=by simp [its,bts]
 rw[D,E,h]
theorem aD {es es':List Ent} (h:bts es'=bts es):es'.length=es.length:=by
 have:=congrArg List.length h
 simpa [bts] using this
theorem aE {es:List Ent} {q:Nat} {e:Ent} (he:es[q]? = some e) (D:Option Nat) (a o r:Nat):bts (es.set q ⟨e.it,e.b,D,a,o,r⟩)=bts es:=by
 have hi:=(List.getElem?_eq_some_iff.1 he).1;unfold bts;apply List.ext_getElem?;intro j;rw[List.getElem?_map,List.getElem?_map]
 by_cases g:q=j
 ·subst g;rw[List.getElem?_set_self hi,he];rfl
 ·rw[List.getElem?_set_ne g]
theorem dt {es es':List Ent} (h:bts es'=bts es) {q:Nat} {e:Ent} (he:es[q]? = some e):∃D,es'[q]? = some D/\D.it=e.it/\D.b=e.b:=by
 have E:(bts es)[q]? = some (e.it,e.b):=by simp [bts,he]
 rw[<-h] at E;have E:(es'[q]?).map (fun e=>(e.it,e.b))=some (e.it,e.b):=by simpa [bts] using E
 obtain⟨D,J,F⟩:=Option.map_eq_some_iff.1 E;injection F with h4 h5;exact⟨D,J,h4,h5⟩
structure Ss where
 b:Nat
 ks:Nat->UInt8
 h:Option Nat
 a:Nat
 o:Nat
 r:Nat
def SO (s:Option Ss) (j:Nat):Prop:=∃z,s=some z/\Ow z.b z.h j
def KSO (p:KP) (es:List Ent) (s:Option Ss) (j:Nat):Prop:=KO p es j\/SO s j
structure KS (w:World) (B:Nat) (p:KP) (es:List Ent) (s:Option Ss) (n i c:Nat):Prop where
 k:KD w B p es n i
 hB:B<=w.heap.size
 sx:∀z,s=some z->Box w z.b z.ks z.h z.a z.o z.r/\z.a<=c/\z.o<=c/\z.r<=c
 ap:∀j,SO s j->¬KA p es j
 sl:∀j,SO s j->B<=j
 cz:Cz es c
structure Kn (w0 w:World) (B:Nat) (p:KP) (es0:List Ent) (s0:Option Ss) (es:List Ent) (s:Option Ss) (n i c:Nat):Prop where
 st:KS w B p es s n i c
 eq:bts es=bts es0
 sq:∀z0,s0=some z0->∃z,s=some z/\z.b=z0.b/\z.ks=z0.ks
 chg:Chg (KSO p es0 s0) w0 w
 nw:∀j,KSO p es s j->KSO p es0 s0 j\/w0.heap.size<=j
section
variable {w0 w w':World} {B:Nat} {p:KP} {es0 es es':List Ent} {s0 s s':Option Ss} {n i c n' i' c':Nat}
theorem KS.kso_lt (h:KS w B p es s n i c) {j:Nat} (D:KSO p es s j):j<w.heap.size:=by
 rcases D with D | ⟨z,E,D⟩
 ·exact h.k.ko_lt D
 ·exact(h.sx z E).1.own_lt j D
theorem KS.kso_lo (h:KS w B p es s n i c) {j:Nat} (D:KSO p es s j):B<=j:=by
 rcases D with D | D
 ·exact h.k.ko_lo D
 ·exact h.sl j D
theorem KS.below (h:KS w B p es s n i c) (D:Below w.heap.size w w'):KS w' B p es s n i c:=
 ⟨h.k.below D,Nat.le_trans h.hB D.size,fun z E=>⟨(h.sx z E).1.below D,(h.sx z E).2⟩,h.ap,h.sl,h.cz⟩
theorem KS.chg {S:Nat->Prop} (h:KS w B p es s n i c) (D:Chg S w w') (hs:∀j,KA p es j\/SO s j->¬S j):KS w' B p es s n i c:=
 ⟨h.k.chg D (fun j F=>hs j (.inl F)),Nat.le_trans h.hB D.size,fun z E=>⟨(h.sx z E).1.chg D (fun j F=>hs j (.inr ⟨z,E,F⟩)),(h.sx z E).2⟩,h.ap,h.sl,h.cz⟩
theorem KS.more (h:KS w B p es s n i c) (E:c<=c'):KS w B p es s n i c':=⟨h.k,h.hB,fun z D=>⟨(h.sx z D).1,by have:=(h.sx z D).2;omega⟩,h.ap,h.sl,h.cz.mono E⟩
theorem KS.no_s (h:KS w B p es s n i c):KS w B p es none n i c:=⟨h.k,h.hB,fun z D=>(by cases D),fun j E=>(by obtain⟨z,D,_⟩:=E;cases D),fun j E=>(by obtain⟨z,D,_⟩:=E;cases D),h.cz⟩
theorem KS.with_s (h:KS w B p es none n i c) {b:Nat} {ks:Nat->UInt8} (M:w.heap.size<=b) (J:Box w' b ks none 0 0 0) (hw:Below w.heap.size w w'):KS w' B p es (some ⟨b,ks,none,0,0,0⟩) n i c:=by
 have F:∀j,SO (some ⟨b,ks,none,0,0,0⟩) j->j=b:=fun j D=>by
  obtain⟨z,E,D⟩:=D;injection E with E;subst E;rcases D with D | D
  ·exact D
  ·cases D
 refine⟨h.k.below hw,Nat.le_trans h.hB hw.size,fun z E=>?_,fun j D x=>?_,fun j D=>?_,h.cz⟩
 ·injection E with E
  subst E;exact⟨J,Nat.zero_le _,Nat.zero_le _,Nat.zero_le _⟩
 ·have:=F j D
  have:=h.k.ka_lt x;omega
 ·have:=F j D
  have:=h.hB;omega
theorem Kn.refl (h:KS w B p es s n i c):Kn w w B p es s es s n i c:=⟨h,rfl,fun z D=>⟨z,D,rfl,rfl⟩,Chg.refl _ _,fun _ x=>.inl x⟩
theorem Kn.below (h:Kn w0 w B p es0 s0 es s n i c) (D:Below w.heap.size w w'):Kn w0 w' B p es0 s0 es s n i c:=
 ⟨h.st.below D,h.eq,h.sq,h.chg.trans (Chg.of_below (S:=fun _=>False) D) (fun _ _ x=>x.elim),h.nw⟩
theorem Kn.drew (h:Kn w0 w B p es0 s0 es s n i c):Kn w0 w.drew B p es0 s0 es s n i c:=h.below (below_drewN Ah 1)
theorem Kn.start (h:KS w B p es s n i c) (D:Below w.heap.size w w'):Kn w w' B p es s es s n i c:=(Kn.refl h).below D
theorem Kn.size (h:Kn w0 w B p es0 s0 es s n i c):w0.heap.size<=w.heap.size:=h.chg.size
theorem Kn.trans (h:Kn w0 w B p es0 s0 es s n i c) (g:Kn w w' B p es s es' s' n' i' c'):Kn w0 w' B p es0 s0 es' s' n' i' c':=by
 refine⟨g.st,g.eq.trans h.eq,fun z0 E=>?_,h.chg.trans g.chg (fun j F x=>?_),fun j F=>?_⟩
 ·obtain⟨z,O,M,N⟩:=h.sq z0 E
  obtain⟨J,D,Z,h4⟩:=g.sq z O;exact⟨J,D,Z.trans M,h4.trans N⟩
 ·rcases h.nw j x with y | y
  ·exact y
  ·omega
 ·rcases g.nw j F with y | y
  ·exact h.nw j y
  ·have:=h.size;exact .inr (by omega)
theorem Kn.blk {P:Nat} {t:TypeId} {cs:Array Value} (h:Kn w0 w B p es0 s0 es s n i c) (E:Blk w0 P t cs) (D:¬KSO p es0 s0 P):Blk w P t cs:=h.chg.blk E D
theorem Kn.sl {v:Value} {l:Nm.L} (h:Kn w0 w B p es0 s0 es s n i c) (hs:SlN (KSO p es0 s0) w0 v l):SlN (KSO p es s) w v l:=
 hs.keep h.chg (fun _ _ x=>x) (fun j D x=>by
  rcases h.nw j x with y | y
  ·exact y
  ·omega)
def Out (w0:World) (p:KP) (es:List Ent) (s:Option Ss) (j:Nat):Prop:=j<w0.heap.size\/KSO p es s j
theorem Kn.o {v:Value} {l:Nm.L} {a:World} (h:Kn w0 w B p es0 s0 es s n i c) (D:a.heap.size<=w0.heap.size) (hs:SlN (Out a p es0 s0) w0 v l):SlN (Out a p es s) w v l:=
 hs.keep h.chg (fun _ _ x=>.inr x) (fun j E x=>by
  rcases x with x | x
  ·exact .inl x
  ·rcases h.nw j x with y | y
   ·exact .inr y
   ·omega)
theorem Out.old {v:Value} {l:Nm.L} {a b:World} (D:a.heap.size<=b.heap.size) (hs:SlN (Out b p es s) w v l):SlN (Out a p es s) w v l:=hs.mono (fun j _ x=>by
 rcases x with x | x
 ·exact .inl (by omega)
 ·exact .inr x)
theorem Out.new {A:Option Addr} {l:Nm.L} {m:Nat} {a:World} (h:KS w B p es s n i c) (hw:Below w.heap.size w w') (E:a.heap.size<=w.heap.size) (hm:l.length<=m) (D:RdA (fun j=>j<w.heap.size) w' A (bvs l)):SlN (Out a p es s) w' (.slice A l.length m) l:=
 ⟨A,m,rfl,hm,D.mono (fun j _ x=>by
  rcases x with x | x
  ·omega
  ·exact h.kso_lt x)⟩
def Hdl (es:List Ent) (s:Option Ss) (x:Nat) (ks:Nat->UInt8):Prop:=(∃(q:Nat) (e:Ent),es[q]? = some e/\e.b=x/\e.it.k=ks)\/(∃z,s=some z/\z.b=x/\z.ks=ks)
theorem Kn.hdl {x:Nat} {ks:Nat->UInt8} (h:Kn w0 w B p es0 s0 es s n i c) (O:Hdl es0 s0 x ks):Hdl es s x ks:=by
 rcases O with⟨q,e,he,F,J⟩ | ⟨z,hz,F,J⟩
 ·obtain⟨e',D,M,N⟩:=dt h.eq he
  exact .inl ⟨q,e',D,by rw[N];exact F,by rw[M];exact J⟩
 ·obtain⟨Z,E,M,N⟩:=h.sq z hz
  exact .inr ⟨Z,E,M.trans F,N.trans J⟩
theorem KS.use_r (h:KS w B p es s n i c) {q:Nat} {e:Ent} (he:es[q]? = some e) {F:Option Nat} {a o r:Nat} (M:Box w' e.b e.it.k F a o r) (hs:Cu w w' e.b e.h F) (N:a<=e.a+1) (h2:o<=e.o+1) (Z:r<=e.r+1) :
  Kn w w' B p es s (es.set q ⟨e.it,e.b,F,a,o,r⟩) s n i (c+1):=by
 have O:=h.k.ring.use he M hs h.hB;have hk:=h.k.use he O hs;have J:=h.k.use_new he a o r hs;refine⟨⟨hk,Nat.le_trans h.hB hs.1.size,fun z E=>⟨(h.sx z E).1.chg hs.1 (fun j D x=>h.ap j ⟨z,E,D⟩ (.inl (Xf he x))),by have:=(h.sx z E).2;omega⟩,fun j D x=>?_,h.sl,h.cz.set he N h2 Z⟩,aE he _ _ _ _,fun z E=>⟨z,E,rfl,rfl⟩,hs.1.mono (fun j _ x=>.inl (Xf he x)),fun j D=>?_⟩
 ·rcases x with x | x
  ·rcases J j x with y | y
   ·exact h.ap j D (.inl y)
   ·obtain⟨z,E,D⟩:=D
    have:=(h.sx z E).1.own_lt j D;omega
  ·exact h.ap j D (.inr x)
 ·rcases D with D | D
  ·rcases J j D with y | y
   ·exact .inl (.inl y)
   ·exact .inr y
  ·exact .inl (.inr D)
theorem KS.use_s {z:Ss} (h:KS w B p es (some z) n i c) {M:Option Nat} {a o r:Nat} (N:Box w' z.b z.ks M a o r) (hs:Cu w w' z.b z.h M) (O:a<=z.a+1) (h2:o<=z.o+1) (Z:r<=z.r+1) :
  Kn w w' B p es (some z) es (some ⟨z.b,z.ks,M,a,o,r⟩) n i (c+1):=by
 have hz:=h.sx z rfl;have E:∀j,Ow z.b M j->Ow z.b z.h j\/w.heap.size<=j:=fun j D=>by
  rcases Nat.lt_or_ge j w.heap.size with g | g
  ·exact .inl (hs.own j g D)
  ·exact .inr g
 have J:∀j,SO (some ⟨z.b,z.ks,M,a,o,r⟩) j->Ow z.b M j:=fun j D=>by
  obtain⟨y,F,D⟩:=D;injection F with F;subst F;exact D
 refine⟨⟨h.k.chg hs.1 (fun j D x=>h.ap j ⟨z,rfl,x⟩ D),Nat.le_trans h.hB hs.1.size,fun y F=>?_,fun j D x=>?_,fun j D=>?_,h.cz.mono (by omega)⟩,rfl,fun y F=>?_,hs.1.mono (fun j _ x=>.inr ⟨z,rfl,x⟩),fun j D=>?_⟩
 ·injection F with F
  subst F;refine⟨N,?_,?_,?_⟩
  ·show a<=c+1;omega
  ·show o<=c+1;omega
  ·show r<=c+1;omega
 ·rcases E j (J j D) with y | y
  ·exact h.ap j ⟨z,rfl,y⟩ x
  ·have:=h.k.ka_lt x;omega
 ·rcases E j (J j D) with y | y
  ·exact h.sl j ⟨z,rfl,y⟩
  ·have:=h.hB;omega
 ·injection F with F
  subst F;exact⟨_,rfl,rfl,rfl⟩
 ·rcases D with D | D
  ·exact .inl (.inl D)
  ·rcases E j (J j D) with y | y
   ·exact .inl (.inr ⟨z,rfl,y⟩)
   ·exact .inr y
theorem KS.put5 (h:KS w B p es s n i c) (n':Nat):Kn w (w.setCell ⟨p.k,5,none⟩ (.int .i64 (n':Int))) B p es s es s n' i c:=by
 have E:Chg (fun j=>j=p.k) w (w.setCell ⟨p.k,5,none⟩ (.int .i64 (n':Int))):=Gz _ _ _ _;exact⟨⟨h.k.put5 n',Nat.le_trans h.hB E.size,fun z D=>⟨(h.sx z D).1.chg E (fun j F x=>h.ap j ⟨z,D,F⟩ (x▸.inl (.inl rfl))),(h.sx z D).2⟩,h.ap,h.sl,h.cz⟩,rfl,fun z D=>⟨z,D,rfl,rfl⟩,E.mono (fun j _ x=>.inl (.inl x)),fun _ x=>.inl x⟩
theorem KS.put6 (h:KS w B p es s n i c) (i':Nat):Kn w (w.setCell ⟨p.k,6,none⟩ (.int .i64 (i':Int))) B p es s es s n i' c:=by
 have E:Chg (fun j=>j=p.k) w (w.setCell ⟨p.k,6,none⟩ (.int .i64 (i':Int))):=Gz _ _ _ _;exact⟨⟨h.k.put6 i',Nat.le_trans h.hB E.size,fun z D=>⟨(h.sx z D).1.chg E (fun j F x=>h.ap j ⟨z,D,F⟩ (x▸.inl (.inl rfl))),(h.sx z D).2⟩,h.ap,h.sl,h.cz⟩,rfl,fun z D=>⟨z,D,rfl,rfl⟩,E.mono (fun j _ x=>.inl (.inl x)),fun _ x=>.inl x⟩
theorem Kn.drop (h:Kn w0 w B p es0 none es s n i c):Kn w0 w B p es0 none es none n i c:=
 ⟨h.st.no_s,h.eq,fun z D=>(by cases D),h.chg,fun j E=>h.nw j (by
  rcases E with E | ⟨z,D,_⟩
  ·exact .inl E
  ·cases D)⟩
theorem Kn.with_s (h:Kn w0 w B p es0 none es none n i c) {b:Nat} {ks:Nat->UInt8} (J:w.heap.size<=b) (F:Box w' b ks none 0 0 0) (hw:Below w.heap.size w w'):Kn w0 w' B p es0 none es (some ⟨b,ks,none,0,0,0⟩) n i c:=
 ⟨h.st.with_s J F hw,h.eq,fun z E=>by(cases E),h.chg.trans (Chg.of_below (S:=fun _=>False) hw) (fun _ _ x=>x.elim),fun j D=>by
  rcases D with D | ⟨z,E,D⟩
  ·exact h.nw j (.inl D)
  ·injection E with E
   subst E;have:=h.size;rcases D with D | D
   ·have D:j=b:=D
    exact .inr (by omega)
   ·cases D⟩
theorem Kn.base (h:Kn w0 w B p es0 s0 es s n i c) (hk:KS w0 B p es0 s0 n' i' c'):Below B w0 w:=h.chg.below hk.hB (fun j _ D=>hk.kso_lo D)
end
end Kd
namespace Kd
open Go.RowKit Af Se
open Rg (It Ent its addL addE addN Num BH)
theorem Qg (a:Bool) {j:Nat} {i:It} (h:(itX a)[j]? = some i):addE ((itX a).take j) i.p=0:=by
 cases a with
 |false=>
  match j,h with
  |0,h=>injection h with h;subst h;decide +kernel
  |1,h=>injection h with h;subst h;decide +kernel
  |2,h=>injection h with h;subst h;decide +kernel
  |3,h=>injection h with h;subst h;decide +kernel
  |4,h=>injection h with h;subst h;decide +kernel
  |j+5,h=>simp [itX,itA] at h
 |true=>
  match j,h with
  |0,h=>injection h with h;subst h;decide +kernel
  |1,h=>injection h with h;subst h;decide +kernel
  |2,h=>injection h with h;subst h;decide +kernel
  |3,h=>injection h with h;subst h;decide +kernel
  |j+4,h=>simp [itX,itE] at h
theorem Yt (a:Bool) {j:Nat} {i:It} (h:(itX a)[j]? = some i):BH ((itX a).take j) i.p=0/\i.n=1:=by
 cases a with
 |false=>
  match j,h with
  |0,h=>injection h with h;subst h;decide +kernel
  |1,h=>injection h with h;subst h;decide +kernel
  |2,h=>injection h with h;subst h;decide +kernel
  |3,h=>injection h with h;subst h;decide +kernel
  |4,h=>injection h with h;subst h;decide +kernel
  |j+5,h=>simp [itX,itA] at h
 |true=>
  match j,h with
  |0,h=>injection h with h;subst h;decide +kernel
  |1,h=>injection h with h;subst h;decide +kernel
  |2,h=>injection h with h;subst h;decide +kernel
  |3,h=>injection h with h;subst h;decide +kernel
  |j+4,h=>simp [itX,itE] at h
theorem Yu (a:Bool) {j:Nat} {i:It} (h:(itX a)[j]? = some i):(itX a).take (j+1)=(itX a).take j++[⟨i.p,BH ((itX a).take j) i.p+1,i.k⟩]:=by
 obtain⟨E,D⟩:=Yt a h;rw[E,List.take_add_one,h];obtain⟨p,n,k⟩:=i;simp only at D;subst D
 rfl
theorem Xg {l:List It} (h:Num l) (k:Nat):Num (l.take k):=by
 intro j i D;have E:j<k:=by
  have:=(List.getElem?_eq_some_iff.1 D).1;rw[List.length_take] at this;omega
 rw[List.getElem?_take_of_lt E] at D;have J:=h j i D;have e:Rg.Bv (l.take k) i.p j=Rg.Bv l i.p j:=by
  have M:j<=(l.take k).length:=by
   have:=(List.getElem?_eq_some_iff.1 D).1;rw[List.length_take];omega
  have F:=Rg.Ku (l:=l.take k) (m:=l.drop k) (p:=i.p) M;rw[List.take_append_drop] at F;exact F.symm
 rw[e,J]
 congr 1
 cases ho:Rg.Bv l i.p j with
 |none=>rfl
 |some q=>
  have N:=(Rg.Ep ho).1;show((l[q]?).map (·.n)).getD 0=(((l.take k)[q]?).map (·.n)).getD 0;rw[List.getElem?_take_of_lt (by omega)]
end Kd
namespace Kd
open Go.RowKit Af Se
open Ms (Pt Rp Re An Tk ptC rpC reC anC tkC prC pr0)
abbrev prV (p:Nm.L×Nm.L):Value:=.agg #[.string ⟨p.1.toArray⟩,.string ⟨p.2.toArray⟩]
abbrev keyA (d:Nm.L):Array Value:=(bvs d).toArray
abbrev ptA (P:Pt):Array Value:=(ptC P).toArray
abbrev rpA (P:Rp):Array Value:=(rpC P).toArray
abbrev anA (a:An):Array Value:=(anC a).toArray
theorem Hh {l:List Value} (h:∀v∈l,v.oneCell'=true):l.toArray.all (·.oneCell')=true:=by
 rw[List.all_toArray,List.all_eq_true];exact h
theorem Yv (p:Nm.L×Nm.L):∀v∈prC p,v.oneCell'=true:=by
 intro v D;simp only[prC,List.mem_cons,List.not_mem_nil,or_false] at D;rcases D with rfl | rfl<;>rfl
theorem Uy {d:Nm.L} (h:d.length=32):(keyA d).size=32:=by simp [bvs,h]
theorem CZ {d:Nm.L} (h:d.length=32):(Tryz.prog.info? 36).map (·.size)=some (keyA d).size:=by rw[Uy h];kernel_rfl
theorem EH {P:Pt} (h:P.ss.length=32):(ptA P).size=37:=by simp [ptC,prC,bvs,h]
theorem Ij (P:Pt):(ptA P).all (·.oneCell')=true:=Hh fun v D=>by
 simp only[ptC,List.mem_append,List.mem_cons,List.not_mem_nil,or_false] at D;rcases D with D | D | rfl | rfl | rfl
 ·exact Yv _ v D
 ·exact Br _ v D
 ·rfl
 ·rfl
 ·rfl
theorem GA {P:Pt} (h:P.ss.length=32):(Tryz.prog.info? 40).map (·.size)=some (ptA P).size:=by rw[EH h];kernel_rfl
theorem Qh {P:Rp} (h:P.ss.length=32):(rpA P).size=37:=by simp [rpC,prC,bvs,h]
theorem aF (P:Rp):(rpA P).all (·.oneCell')=true:=Hh fun v D=>by
 simp only[rpC,List.mem_append,List.mem_cons,List.not_mem_nil,or_false] at D;rcases D with D | D | rfl | rfl | rfl
 ·exact Br _ v D
 ·exact Yv _ v D
 ·rfl
 ·rfl
 ·rfl
theorem aG {P:Rp} (h:P.ss.length=32):(Tryz.prog.info? 172).map (·.size)=some (rpA P).size:=by rw[Qh h];kernel_rfl
section
variable {w:World} {g:Nat} {t:TypeId} {P:Pt}
theorem du (h:P.ss.length=32) {o:Nat} {mid:List Value} (D:Blk w g t (ptA P)) (J:∃pre post,ptC P=pre++(mid++post)/\o=pre.length):w.rangeAt g o mid:=by
 obtain⟨pre,post,E,F⟩:=J;exact Wh.CU (pre:=pre) (post:=post) D (by rw[<-E]) o F
theorem KK (h:P.ss.length=32) (D:Blk w g t (ptA P)):w.rangeAt g 2 (keyA P.ss).toList:=by
 refine du h D ⟨prC P.c,[.string ⟨P.tr.toArray⟩,.int .i64 P.st,.int .i64 P.en],?_,rfl⟩;simp [ptC]
theorem pt_0 (D:Blk w g t (ptA P)):w.cell? ⟨g,0,none⟩=some (.string ⟨P.c.1.toArray⟩):=by rw[D.cell];rfl
theorem pt_1 (D:Blk w g t (ptA P)):w.cell? ⟨g,1,none⟩=some (.string ⟨P.c.2.toArray⟩):=by rw[D.cell];rfl
theorem aH (h:P.ss.length=32) (D:Blk w g t (ptA P)):w.rangeAt g 34 [.string ⟨P.tr.toArray⟩,.int .i64 P.st,.int .i64 P.en]:=by
 refine du h D ⟨prC P.c++bvs P.ss,[],?_,?_⟩
 ·simp [ptC]
 ·simp [prC,bvs,h]
theorem aI (h:P.ss.length=32) (D:Blk w g t (ptA P)):w.cell? ⟨g,34,none⟩=some (.string ⟨P.tr.toArray⟩):=aH h D 0 _ rfl
theorem aJ (h:P.ss.length=32) (D:Blk w g t (ptA P)):w.cell? ⟨g,35,none⟩=some (.int .i64 P.st):=aH h D 1 _ rfl
theorem Xh (h:P.ss.length=32) (D:Blk w g t (ptA P)):w.cell? ⟨g,36,none⟩=some (.int .i64 P.en):=aH h D 2 _ rfl
end
theorem bk_rp (f:Nat->UInt8) (s:Nm.L×Nm.L) (a b n:Int):Tryz.prog.built 172 [(0,.agg (AY f)),(1,prV s),(2,.int .i64 a),(3,.int .i64 b),(4,.int .i64 n)]=some ((AY f).toList++(prC s++([.int .i64 a,.int .i64 b,.int .i64 n]:List Value))).toArray:=by
 kernel_rfl
theorem bk_pt (f:Nat->UInt8) (c:Nm.L×Nm.L) (tr:Nm.L) (a b:Int):Tryz.prog.built 40 [(0,prV c),(1,.agg (AY f)),(2,.string ⟨tr.toArray⟩),(3,.int .i64 a),(4,.int .i64 b)]=some (prC c++((AY f).toList++([.string ⟨tr.toArray⟩,.int .i64 a,.int .i64 b]:List Value))).toArray:=by
 kernel_rfl
theorem dw (f:Nat->UInt8) (c:Nm.L×Nm.L) (a b:Int):Tryz.prog.built 40 [(0,prV c),(1,.agg (AY f)),(3,.int .i64 a),(4,.int .i64 b)]=some (prC c++((AY f).toList++([.string ⟨([]:Nm.L).toArray⟩,.int .i64 a,.int .i64 b]:List Value))).toArray:=by
 kernel_rfl
theorem Xi {ss:Nm.L} (h:ss.length=32) (s:Nm.L×Nm.L) (a b n:Int):Tryz.prog.built 172 [(0,.agg (keyA ss)),(1,prV s),(2,.int .i64 a),(3,.int .i64 b),(4,.int .i64 n)]=some (rpA ⟨ss,s,a,b,n⟩):=by
 have e:keyA ss=AY (ksOf ss):=(JX h).symm;have D:rpA ⟨ss,s,a,b,n⟩=((AY (ksOf ss)).toList++(prC s++([.int .i64 a,.int .i64 b,.int .i64 n]:List Value))).toArray:=by rw[<-e];simp [rpC]
 rw[D,e];exact bk_rp _ s a b n
theorem Xj {ss:Nm.L} (h:ss.length=32) (c:Nm.L×Nm.L) (tr:Nm.L) (a b:Int):Tryz.prog.built 40 [(0,prV c),(1,.agg (keyA ss)),(2,.string ⟨tr.toArray⟩),(3,.int .i64 a),(4,.int .i64 b)]=some (ptA ⟨c,ss,tr,a,b⟩):=by
 have e:keyA ss=AY (ksOf ss):=(JX h).symm;have D:ptA ⟨c,ss,tr,a,b⟩=(prC c++((AY (ksOf ss)).toList++([.string ⟨tr.toArray⟩,.int .i64 a,.int .i64 b]:List Value))).toArray:=by rw[<-e];simp [ptC]
 rw[D,e];exact bk_pt _ c tr a b
theorem Nk {ss:Nm.L} (h:ss.length=32) (c:Nm.L×Nm.L) (a b:Int):Tryz.prog.built 40 [(0,prV c),(1,.agg (keyA ss)),(3,.int .i64 a),(4,.int .i64 b)]=some (ptA ⟨c,ss,[],a,b⟩):=by
 have e:keyA ss=AY (ksOf ss):=(JX h).symm;have D:ptA ⟨c,ss,[],a,b⟩=(prC c++((AY (ksOf ss)).toList++([.string ⟨([]:Nm.L).toArray⟩,.int .i64 a,.int .i64 b]:List Value))).toArray:=by rw[<-e];simp [ptC]
 rw[D,e];exact dw _ c a b
theorem Uz:Tryz.prog.built 40 []=some (ptA Ms.pt0):=by kernel_rfl
theorem AM:(Tryz.prog.info? 44).map (·.size)=some 7:=by kernel_rfl
end Kd
namespace Kd
open Go.RowKit Af Se
open Rg (It Ent Ring RO its)
open SeL (Bn Bc Ns)
def oI:Option Nm.L->Int
 |none=>1
 |some _=>0
theorem Qi {w w':World} {o:Option Nm.L} {e:Ending} (h:Ms.EncR w o e w'):∃v,e=.returned (.tuple #[v,.int .i64 (oI o)])/\SlN (fun j=>j<w.heap.size) w' v (o.getD [])/\Below w.heap.size w w':=by
 obtain⟨⟨v,i,rfl,J,Z⟩,F⟩:=h;cases o with
 |none=>
  obtain⟨rfl,rfl⟩:=J rfl;exact⟨_,rfl,⟨none,0,rfl,Nat.le_refl _,.inl rfl⟩,F⟩
 |some l=>
  obtain⟨rfl,g,c,rfl,h3,M,E⟩:=Z l rfl;refine⟨_,rfl,⟨_,c,rfl,M,?_⟩,F⟩;rcases E with E | ⟨b,o,D,N,O⟩
  ·exact .inl E
  ·injection D with D
   injection D with e1 e2 _;subst e1 e2;exact .inr ⟨_,_,rfl,N,by omega,O⟩
section
variable {w w':World} {B:Nat} {p:KP} {es:List Ent} {s:Option Ss} {n i c:Nat}
theorem UA {q:Nat} {e:Ent} (he:es[q]? = some e) {F:Option Nat} {a o r j:Nat} (D:KSO p (es.set q ⟨e.it,e.b,F,a,o,r⟩) s j):KSO p es s j\/Ow e.b F j:=by
 have J:=(List.getElem?_eq_some_iff.1 he).1;rcases D with(D | D | D | ⟨k,f,E,D⟩) | D
 ·exact .inl (.inl (.inl D))
 ·exact .inl (.inl (.inr (.inl D)))
 ·exact .inl (.inl (.inr (.inr (.inl D))))
 ·by_cases g:q=k
  ·subst g
   rw[List.getElem?_set_self J] at E;injection E with E;subst E;exact .inr D
  ·rw[List.getElem?_set_ne g] at E
   exact .inl (.inl (.inr (.inr (.inr ⟨k,f,E,D⟩))))
 ·exact .inl (.inr D)
theorem Yw {N:Nat} (h:N<=1000000):(Lit.int .i64 ((N:Nat):Int)).wf=true:=by
 simp [Lit.wf,IntKind.min,IntKind.max,IntKind.signed,IntKind.bits];omega
theorem Xk {x:Nat} {ks:Nat->UInt8} (h:KS w B p es s n i c) (hh:Hdl es s x ks) (hc:c<1000000) (u:Int) (N:Nat) (hN:N<=1000000) (v:Value) (l:Nm.L) (hl:l.length<=2000) (hv:SlN (KSO p es s) w v l) :
  Calls Tryz.prog 114 #[.pointer (some ⟨x,0,none⟩),.int .i64 u,.int .i64 (N:Int),v] w fun e w'=>∃v2 er es' s',e=.returned (.tuple #[v2,.int .i64 er])/\SlN (Out w p es' s') w' v2 (Bn ks u (N:Int) l).1/\Kn w w' B p es s es' s' n i (c+1):=by
 obtain⟨A,m,rfl,bx,hr⟩:=hv;rcases hh with⟨q,e,he,rfl,rfl⟩ | ⟨z,hz,rfl,rfl⟩
 ·have aw:=h.cz q e he
  refine(SeL.PX e.b e.it.k e.h e.a e.o e.r u (N:Int) A l.length m l w (by omega) (Yw hN) rfl (by unfold maxLen;omega) (hr.mono fun j _ D=>.inl (Xf he D)) (h.k.ring.box q e he)).mono ?_;rintro e1 w1 ⟨A2,c2,Z,E,rfl,F,h2,h3,J,O,M⟩;refine⟨_,_,es.set q ⟨e.it,e.b,Z,E,e.o,e.r⟩,s,rfl,⟨A2,c2,rfl,F,h3.mono fun j _ D=>?_⟩,h.use_r he J O M (by omega) (by omega)⟩;rcases D with D | D
  ·exact .inl D
  ·rcases UA he D with g | g
   ·exact .inl (h.kso_lt g)
   ·exact .inr g
 ·subst hz
  have hx:=h.sx z rfl;refine(SeL.PX z.b z.ks z.h z.a z.o z.r u (N:Int) A l.length m l w (by omega) (Yw hN) rfl (by unfold maxLen;omega) (hr.mono fun j _ D=>.inr ⟨z,rfl,D⟩) hx.1).mono ?_;rintro e1 w1 ⟨A2,c2,Z,E,rfl,F,h2,h3,J,O,M⟩;refine⟨_,_,es,some ⟨z.b,z.ks,Z,E,z.o,z.r⟩,rfl,⟨A2,c2,rfl,F,h3.mono fun j _ D=>?_⟩,h.use_s J O M (by omega) (by omega)⟩;rcases D with D | D | ⟨y,hy,D⟩
  ·exact .inl D
  ·exact .inl (h.k.ko_lt D)
  ·injection hy with hy
   subst hy;exact .inr D
theorem EI {x:Nat} {ks:Nat->UInt8} (h:KS w B p es s n i c) (hh:Hdl es s x ks) (hc:c<1000000) (u:Int) (v:Value) (l:Nm.L) (hv:SlN (KSO p es s) w v l) :
  Calls Tryz.prog 60 #[.pointer (some ⟨x,0,none⟩),.int .i64 u,v] w fun e w'=>∃v2 es' s',e=.returned (.tuple #[v2,.int .i64 (Bc ks u l).2])/\SlN (Out w p es' s') w' v2 (Bc ks u l).1/\Kn w w' B p es s es' s' n i (c+1):=by
 obtain⟨A,m,rfl,E,hr⟩:=hv;rcases hh with⟨q,e,he,rfl,rfl⟩ | ⟨z,hz,rfl,rfl⟩
 ·have aw:=h.cz q e he
  refine(Na e.b e.it.k e.h e.a e.o e.r u A l.length m l w (by omega) (by omega) rfl E (hr.mono fun j _ D=>.inl (Xf he D)) (h.k.ring.box q e he)).mono ?_;rintro e1 w1 ⟨A2,c2,Z,o',r',rfl,F,h2,h3,J,O,M,N⟩;refine⟨_,es.set q ⟨e.it,e.b,Z,e.a,o',r'⟩,s,rfl,⟨A2,c2,rfl,F,h3.mono fun j _ D=>?_⟩,h.use_r he J O (by omega) M N⟩;rcases D with D | D
  ·exact .inl D
  ·rcases UA he D with g | g
   ·exact .inl (h.kso_lt g)
   ·exact .inr g
 ·subst hz
  have hx:=h.sx z rfl;refine(Na z.b z.ks z.h z.a z.o z.r u A l.length m l w (by omega) (by omega) rfl E (hr.mono fun j _ D=>.inr ⟨z,rfl,D⟩) hx.1).mono ?_;rintro e1 w1 ⟨A2,c2,Z,o',r',rfl,F,h2,h3,J,O,M,N⟩;refine⟨_,es,some ⟨z.b,z.ks,Z,z.a,o',r'⟩,rfl,⟨A2,c2,rfl,F,h3.mono fun j _ D=>?_⟩,h.use_s J O (by omega) M N⟩;rcases D with D | D | ⟨y,hy,D⟩
  ·exact .inl D
  ·exact .inl (h.k.ko_lt D)
  ·injection hy with hy
   subst hy;exact .inr D
def SealP (w:World) (B:Nat) (p:KP) (es:List Ent) (s:Option Ss) (n i c:Nat) (l:Nm.L) (e:Ending) (w':World):Prop:=
 ∃v2 es' s',e=.returned v2/\SlN (Out w p es' s') w' v2 l/\Kn w w' B p es s es' s' n i c
theorem Hi {x:Nat} {ks:Nat->UInt8} (h:KS w B p es s n i c) (M:Hdl es s x ks) (hc:c<1000000) (hn:n<999990) (u:Int) (v:Value) (l:Nm.L) (Z:l.length<=2000) (hv:SlN (KSO p es s) w v l) :
  Calls Tryz.prog 70 #[.pointer (some ⟨p.k,0,none⟩),.pointer (some ⟨x,0,none⟩),.int .i64 u,v] w (SealP w B p es s (n+1) i (c+1) (Bn ks u ((n+1:Nat):Int) l).1):=by
 have k1:=h.put5 (n+1);have c1:=add_one ⟨p.k,5,none⟩ n w (by omega) (h.k.blk.cell 5) (h.k.blk.frozen 5);have c2:=Xk k1.st (k1.hdl M) hc u (n+1) (by omega) v l Z (k1.sl hv);obtain⟨N,J⟩:∃N:Int,N=((n+1:Nat):Int):=⟨_,rfl⟩;rw[<-J] at c1 c2 k1⊢;obtain⟨A,m,O,F,hr⟩:=hv;obtain⟨L0,eL⟩:=Ak (l.length);rw[<-eL] at O;subst O;have K1:=I k1;have EN:=I J;clear h M hc hn k1 hr J eL F Z;go_enter Tryz.func70,Tryz.ntmps70
 go_wp2_with (first
  |(go_at_call 71;refine Aj c1 ?_;rintro w1 hw;subst hw;clear c1)
  |(go_at_call 114;refine Calls.mono c2 ?_;rintro e w2 ⟨v2,er,es',s',rfl,D,E⟩;clear c2;have HS:=I D;have HK:=I E;clear D E)
  |fail)
 go_ret;exact⟨_,es',s',rfl,Out.old K1.o.size HS.o,K1.o.trans HK.o⟩
end
end Kd
namespace Kd
open Go.RowKit Af Se
open SeL (Bn Bc Uk JR)
def Made (w w':World) (v:Value) (l:List UInt8):Prop:=SlN (fun j=>j<w.heap.size) w' v l
theorem Xl (w w':World):Made w w' (.slice none 0 0) []:=⟨none,0,rfl,Nat.le_refl _,.inl rfl⟩
theorem dx (ks:Nat->UInt8) (u N:Int) (A:Option Addr) (m c:Nat) (p:List UInt8) (w:World) (hm:m=p.length) (O:Rd w w.heap.size A (bvs p)) :
  Calls Tryz.prog 23 #[.agg (AY ks),.int .i64 u,.int .i64 N,.slice A m c] w fun e w'=>∃v,e=.returned (.tuple #[v,.int .i64 (Bn ks u N p).2])/\Made w w' v (Bn ks u N p).1/\Below w.heap.size w w':=by
 by_cases hx:0<=u/\u<=255/\0<=N/\N<=1099511627776/\m<=784
 ·obtain⟨D,rfl⟩:∃k:Nat,u=(k:Int):=⟨u.toNat,by omega⟩
  obtain⟨n',rfl⟩:∃k:Nat,N=(k:Int):=⟨N.toNat,by omega⟩;have e:Bn ks (D:Int) (n':Int) p=(DI ks D n' p,0):=by rw[Bn,if_pos (by omega)];rfl
  rw[e];refine(Ui ks D n' A m c p w (by omega) (by omega) hm (by omega) O).mono ?_;rintro e w' ⟨A2,c2,rfl,J,Z,M,h4⟩;have E:(DI ks D n' p).length=m+16:=by rw[BR,hm]
  exact⟨_,rfl,⟨A2,c2,by rw[E],by rw[E];exact M,J⟩,Z⟩
 ·have e:Bn ks u N p=([],1):=by rw[Bn,if_neg (by omega)]
  rw[e];refine(Uh ks u N A m c w hx).mono ?_;rintro e w' ⟨rfl,F⟩;exact⟨_,rfl,Xl _ _,F⟩
end Kd
namespace Reg
open Go.RowKit Af
section
variable {P:Program} {ops:Array Oper} {Q:Exit->Act->World->Prop} {md:Region.Mode} {S:World->Prop}
theorem AF (i:Nat) {dst:Option Tmp} {E:TypeId} {x y:Operand} {ty:TypeId} {pos:String} {after:Array _} {guard:Option (Nat×Bool)} {fuel:Nat} {D:Array Bool} {a:Act} {w:World} (hi:ops[i]? = some ⟨dst,.store E x y,ty,pos,after,guard⟩)
  (Z:Region.ready md ops D = [i]) (hw:Region.wanted ⟨dst,.store E x y,ty,pos,after,guard⟩ (yielded ops a.tmps)=true) (g:Nat) (t:TypeId) (old cells:Array Value) (J:Blk w g t old) (M:a.eval x=.pointer (some ⟨g,0,none⟩)) (hy:a.eval y=.agg cells) (hs:old.size=cells.size)
  (hI:(P.info? E).map (·.size)=some cells.size) (N:cells.all (·.oneCell')=true)
  (h:∀V,Blk V g t cells->w.grownBy V (some g)->S V/\wpAnyH P md ops Q S fuel (D.setIfInBounds i true) (a.put dst undef) V):wpAnyH P md ops Q S (fuel+1) D a w:=by
 have ht:w.there g 0 cells.size:=Wh.CV J 0 _ (by omega);have F:(execOp a.eval ⟨dst,.store E x y,ty,pos,after,guard⟩).run P w=.ok .skip (w.setCells g 0 cells.toList):=by
  unfold execOp;simp only[M,hy,Instr.storeAt,Instr.sureAddr,Sem.run_bind,Sem.run_pure,Result.andThen_ok,run_storeVar_mid w g 0 E cells ht hI N]
 obtain⟨h2,O⟩:=h _ (Wh.AS J hs) (Wh.EE _ _ _ _);exact Bq i _ hi Z hw F h2 O
theorem tk (i:Nat) {dst:Option Tmp} {op:Op} {ty:TypeId} {pos:String} {after:Array _} {guard:Option (Nat×Bool)} {v:Value} {fuel:Nat} {D:Array Bool} {a:Act} {w:World} (hi:ops[i]? = some ⟨dst,op,ty,pos,after,guard⟩) (hS:S w)
  (E:∀w',S w'->(execOp a.eval ⟨dst,op,ty,pos,after,guard⟩).run P w'=.ok (.value v) w')
  (h:wpAnyH P md ops Q S fuel (D.setIfInBounds i true) (a.put dst v) w)
  (hs:Region.noSelect ops=true:=by kernel_rfl) (hf:Region.free md ops D i=true:=by kernel_rfl) (hr:(Region.ready md ops D).contains i=true:=by kernel_rfl)
  (hQ:∀c a w,Q (.panic c) (a.put dst v) w->Q (.panic c) a w:=by exact fun _ _ _ h=>h) (hw:Region.wanted ⟨dst,op,ty,pos,after,guard⟩ (yielded ops a.tmps)=true:=by rfl):wpAnyH P md ops Q S (fuel+1) D a w:=
 Je i hi hs hf hr hQ hS hw E h
theorem s0 {α:Type} (l:List α) (i:Nat) (a:α):l.toArray.setIfInBounds i a=(l.set i a).toArray:=List.setIfInBounds_toArray ..
theorem s1 {α:Type} {x:α} {xs:List α} {a:α}:(x :: xs).set 0 a=a :: xs:=rfl
theorem s2 {α:Type} {x:α} {xs:List α} {n:Nat} {a:α}:(x :: xs).set (n+1) a=x :: xs.set n a:=rfl
theorem Bz (i:Nat) {dst:Option Tmp} {op:Op} {ty:TypeId} {pos:String} {after:Array _} {guard:Option (Nat×Bool)} {fuel:Nat} {D:Array Bool} {a:Act} {w:World} (hi:ops[i]? = some ⟨dst,op,ty,pos,after,guard⟩)
  (hs:Region.noSelect ops=true) (E:Region.free md ops D i=true) (F:(Region.ready md ops D).contains i=true)
  (J:∀c a w,Q (.panic c) (a.put dst undef) w->Q (.panic c) a w) (hS:S w)
  (hw:Region.wanted ⟨dst,op,ty,pos,after,guard⟩ (yielded ops a.tmps)=false)
  (h:wpAnyH P md ops Q S fuel (D.setIfInBounds i true) (a.put dst undef) w):wpAnyH P md ops Q S (fuel+1) D a w:=
 wpAnyH_take hi hs E F J (.inr ⟨hw,rfl⟩) hS h
end
end Reg
namespace Kd
open Go.RowKit Af Nm Rt
theorem Qj (w : World) (base : Nat) (v : Value) (K : List (L × L)) (D : OwnP w base v K) (p : L × L) (g : Nat) (N : w.cell? ⟨g, 0, none⟩ = some (.string ⟨p.1.toArray⟩)) (M : w.cell? ⟨g, 1, none⟩ = some (.string ⟨p.2.toArray⟩)) (hl : K.length + 1 <= 1000000) (hb : base <= w.heap.size) :
    ∃v' w',(Builtin.append_ #[71,71] 71 #[v,.slice (some ⟨g,0,none⟩) 1 1]).run Tryz.prog w=.ok v' w'/\OwnP w' base v' (K++[p])/\Below base w w'/\w.grownBy w' v.ownBlock:=by
  obtain⟨i0,Z,F,J,O⟩:=info_parts MG;obtain ⟨v', w', E, h2, h3, _, _⟩ := run_append_own_at (P := Tryz.prog) w base 71 71 128 i0 _ 2 32 Tryz.underlying71 Z F J O rfl (by omega) v K.length (prs K) D ⟨g, 0, none⟩ 1 1 (prs [p]) rfl (fun j u hu => by
      rw[addr_add,Nat.zero_add];have e:prs [p] = [.string ⟨p.1.toArray⟩,.string ⟨p.2.toArray⟩]:=rfl;rw[e] at hu;rcases j with _ | _ | j
      · simp only [List.getElem?_cons_zero, Option.some.injEq] at hu; rw [<- hu]; exact N
      · simp only [List.getElem?_cons_succ, List.getElem?_cons_zero, Option.some.injEq] at hu; rw [<- hu]; exact M
      · simp at hu) (Tf _) (by unfold maxLen; omega) (by omega) hb
  exact⟨v',w',E,by rw[OwnP,List.length_append,KE];exact h2,Ah.grown h3 hb (fun k hk=>(D.lt k hk).1),h3⟩
theorem DV {a w c:World} {row:Option Nat} (h:a.grownBy w row) (k:Below a.heap.size w c):a.grownBy c row:=
 ⟨k.os.trans h.os,k.tape.trans h.tape,k.output.trans h.output,Nat.le_trans h.size k.size,fun i hi D=>(k.block i hi).trans (h.block i hi D)⟩
theorem Rs {w w':World} {base n size:Nat} {t:TypeId} {v:Value} {xs:List Value} (h:w.ownsRow base t size v n xs) (hk:∀g,v.ownBlock=some g->w'.heap[g]? = w.heap[g]?):w'.ownsRow base t size v n xs:=by
 refine⟨h.1,?_⟩;rcases h.2 with D | ⟨g,cap,cur,E,D,F,J⟩
 ·exact .inl D
 ·refine .inr ⟨g,cap,cur,E,D,?_,J⟩
  subst E;rw[hk g rfl];exact F
theorem aK {w w':World} {base n c hi:Nat} {A:Option Addr} {ls:List L} {K:Nat->Prop} (h:Own w base (.slice A n c) ls) (Z:∀k,(Value.slice A n c).ownBlock=some k->base<=k/\k<hi) (O:∀k,base<=k->k<hi->K k) (hw:∀k o,base<=k->k<hi->w'.cell? ⟨k,o,none⟩=w.cell? ⟨k,o,none⟩):SlK K w' (.slice A n c) ls:=by
 have N:ls.length<=c:=by
  rcases h.2 with⟨E,J⟩ | ⟨g,cap,cur,E,hg,hh,N,_⟩
  ·omega
  ·injection E with _ _ E
   omega
 obtain⟨A',c',e,F⟩:=h.slice;injection e with e1 e2 e3;subst e1 e2 e3;refine⟨A,c,rfl,N,?_⟩;rcases F with F | ⟨b,o,rfl,_,D⟩
 ·left
  have M:=congrArg List.length F;rw[Df] at M;exact List.eq_nil_of_length_eq_zero M
 ·obtain⟨E,J⟩:=Z b rfl
  exact .inr ⟨b,o,rfl,O b E J,fun i u hu=>(hw b _ E J).trans (D i u hu)⟩
theorem Xm {w w':World} {base n c:Nat} {A:Option Addr} {ls:List (L×L)} {K:Nat->Prop} (h:OwnP w base (.slice A n c) ls) (M:∀k,base<=k->k<w.heap.size->K k) (hw:∀k o,base<=k->k<w.heap.size->w'.cell? ⟨k,o,none⟩=w.cell? ⟨k,o,none⟩):SpK K w' (.slice A n c) ls:=by
 have N:=h.lt;obtain⟨Z,c',e,O,F⟩:=h.slice;injection e with e1 e2 e3;subst e1 e2 e3;refine⟨A,c,rfl,O,?_⟩;rcases F with F | ⟨b,o,rfl,_,D⟩
 ·exact .inl F
 ·obtain⟨E,J⟩:=N b rfl
  exact .inr ⟨b,o,rfl,M b E J,fun i hi=>⟨(hw b _ E J).trans (D i hi).1,(hw b _ E J).trans (D i hi).2⟩⟩
theorem Hj {w:World} {base g j:Nat} {v u:Value} {K:List (L×L)} (h:OwnP w base v K) (F:g<base):OwnP (w.setCell ⟨g,j,none⟩ u) base v K:=
 Rs h fun b D=>Below.heap_setCell w _ u b (fun e=>by have E:=(h.lt b D).1;simp only at e;omega)
theorem aL {P:List (L×L)} {j:Nat} (h:j<P.length):P.take (j+1)=P.take j++[kl P j]:=by
 rw[List.take_add_one,List.getElem?_eq_getElem h,Ge h];rfl
abbrev tpA (a b:Value):Array Value:=#[a,b,.slice none 0 0]
theorem UB (T:Tp) (hs:Sm T) (hp:T.P = []) (ec:∀x∈T.K,x.1.length<=3000/\x.2.length<=3000) (v1 v2:Value) (w:World) (h1:SlV w w.heap.size v1 T.R) (h2:SlP w w.heap.size v2 T.K) :
  Calls Tryz.prog 43 #[.agg (tpA v1 v2)] w fun e w'=>∃u1 u2,e=.returned (.agg (tpA u1 u2))/\TpK (fun b=>w.heap.size<=b/\b<w'.heap.size) w' u1 u2 (.slice none 0 0) T/\Below w.heap.size w w':=by
 obtain⟨A1,c1,rfl,eM,r1⟩:=h1;obtain⟨A2,c2,rfl,eH,r2⟩:=h2;obtain⟨n,en⟩:=Ak (T.R.length);obtain⟨m,em⟩:=Ak (T.K.length);have hk:=hs.k;obtain⟨W,eW⟩:=Ak ((w.alloc (.cells (tpA (.slice A1 n c1) (.slice A2 m c2)) 74)).alloc (.cells (tpA (.slice none 0 0) (.slice none 0 0)) 74));have D:Below w.heap.size w W:=eW▸(Ah.alloc Ag _).alloc (by simp) _;have HT:=I (show Blk W w.heap.size 74 (tpA (.slice A1 n c1) (.slice A2 m c2)) from eW▸(Blk.new w _ _).alloc _);have HZ:=I (show Blk W (w.heap.size+1) 74 (tpA (.slice none 0 0) (.slice none 0 0)) by have:=Blk.new (w.alloc (.cells (tpA (.slice A1 n c1) (.slice A2 m c2)) 74)) 74 (tpA (.slice none 0 0) (.slice none 0 0));simp only[World.size_alloc] at this;exact eW▸this);have HB:=I D;have CC:=I (Rm T.R A1 c1 W (by have:=hs.r;omega) (fun x hx=>hs.rt x hx) ((r1.below D).more D.size));have ct:=I (r2.below D);rw[<-en] at CC;rw[<-em] at hk;have EM:=I em;have EN:=I en;have eD:=I hp;have eL:=I ec;rw[<-en,<-em];have eg:=I HZ.o.lt;clear D r1 r2 eM eH hs hp ec en em;go_enter Tryz.func43,Tryz.ntmps43
 go_upto_region 1 with fail
 rw[<-eW];clear eW;have ew:=HT.o.cell 0
 go_upto_region 2 with(first
  |(go_at_call 84;refine Calls.mono CC.o ?_;rintro e w6 ⟨u1,rfl,ho,D⟩;clear CC ew;obtain⟨A6,c6,eu,_⟩:=ho.slice;rw[<-EN.o] at eu;subst eu;have HO:=I ho;have eJ:=ho.lt;replace HT:=I (HT.o.below D);replace HZ:=I (HZ.o.below D);replace ct:=I (ct.o.below (D.mono HB.o.size));have HW:=I D.size;have eV:=I HB.o.size;replace HB:=HB.t D;clear ho D)
  |fail)
 obtain⟨w8,cp⟩:=Ak (w6.alloc (.cells (tpA (.slice A6 n c6) (.slice none 0 0)) 74));have D:Below w6.heap.size w6 w8:=cp▸Ah.alloc Ag _;have N:=I (show Blk w8 w6.heap.size 74 (tpA (.slice A6 n c6) (.slice none 0 0)) from cp▸Blk.new w6 _ _);have bx:=I (show w6.heap.size<w8.heap.size by rw[cp];simp);replace HT:=I (HT.o.below D);replace HZ:=I (HZ.o.below D);replace HO:=I (HO.o.below D);replace ct:=I (ct.o.below (D.mono HB.o.size));replace HB:=HB.t D;have ef:=I (show ∀k,(Value.slice A6 n c6).ownBlock=some k->W.heap.size<=k/\k<w6.heap.size from eJ);rw[<-cp];clear cp D;obtain⟨P3,ea⟩:=Ak (w6.heap.size);rw[<-ea] at N bx ef⊢;have cr:=I (show w.heap.size+1<P3 by rw[ea];have:=eg.o;have:=HW.o;omega);clear ea;have eB:=HT.o.cell 1
 go_upto_region 3 with fail
 clear eB
 go_loopw [15] (fun iv wr=>∃(j:Nat) (vK:Value),j<=m/\iv=.int .i64 (j:Int)/\Blk wr P3 74 (tpA (.slice A6 n c6) vK)/\OwnP wr w8.heap.size vK (T.K.take j)/\w8.grownBy wr (some P3)) (fun iv _=>m - (intOf iv).toNat)
 case atStart=>exact⟨0,_,Nat.zero_le _,rfl,N.o,OwnP.nil _ _,World.grownBy.refl _ _⟩
 case round=>
  obtain⟨j,vK,hj,rfl,hx,cP,hg⟩:=hrel;replace N:=I hx;have F:=I cP;have O:=I hg;have E:=I hg.size;have cL:=cP.lt;clear hx cP hg;obtain⟨K,eK⟩:=Ak (T.K.take j);rw[<-eK] at F;have cy:=I eK;clear eK;obtain⟨A8,c8,e8,_⟩:=F.o.slice;subst e8
  by_cases hlt:j<m
  ·have e1:(j:Int)<(m:Int):=by omega
   have e2:(0:Int)<=(j:Int):=by omega
   have ck:j<T.K.length:=by rw[<-EM.o];exact hlt
   have cA:=I (show T.K.take (j+1)=K++[kl T.K j] from cy.o▸aL ck);have HL:=I (show K.length<=3000 by rw[cy.o,List.length_take];omega);have ey:=eL.o _ (Yb ck);have et:=I (fun w1=>Bm (kl T.K j).1 w1 (by omega));have cR:=I (fun w1=>Bm (kl T.K j).2 w1 (by omega));have cb:=I (show ∀k,(Value.slice A8 K.length c8).ownBlock=some k->k<wr.heap.size from fun k hk=>(cL k hk).2);rcases ct.o with hz | ⟨bz,oz,ez,ev,cQ⟩
   ·exact absurd ck (by rw[hz];simp)
   ·subst ez
    have eb:bz≠P3:=by have:=cr.o;omega
    have q0:wr.cell? ⟨bz,oz+j*2,none⟩=some (.string ⟨(kl T.K j).1.toArray⟩):=(World.cell?_of_block (a:=⟨bz,oz+j*2,none⟩) (O.o.block bz (by have:=cr.o;have:=bx.o;omega) (fun e=>eb (by injection e)))).trans (cQ j ck).1;have q1:wr.cell? ⟨bz,oz+j*2+1,none⟩=some (.string ⟨(kl T.K j).2.toArray⟩):=(World.cell?_of_block (a:=⟨bz,oz+j*2+1,none⟩) (O.o.block bz (by have:=cr.o;have:=bx.o;omega) (fun e=>eb (by injection e)))).trans (cQ j ck).2
    go_upto_region 5 with fail
    obtain⟨wt,cx⟩:=Ak (wr.alloc (.cells #[.string ⟨(kl T.K j).1.toArray⟩,.string ⟨(kl T.K j).2.toArray⟩] 128));have D:Below wr.heap.size wr wt:=cx▸Ah.alloc Ag _;have M:=I (show Blk wt wr.heap.size 128 #[.string ⟨(kl T.K j).1.toArray⟩,.string ⟨(kl T.K j).2.toArray⟩] from cx▸Blk.new wr _ _);have cj:=I (show w8.heap.size<=wr.heap.size from E.o);rw[<-cx];clear cx q0 q1;replace N:=I (N.o.below D);replace F:=I (F.o.below D);replace O:=I (DV O.o (D.mono E.o));replace E:=I (Nat.le_trans E.o D.size);have cw:=I (show P3<wr.heap.size by have:=bx.o;have:=cj.o;omega);clear D;obtain⟨PT,ei⟩:=Ak (wr.heap.size);rw[<-ei] at M cj cb cw⊢;clear ei cL ey ck cQ ev eb;refine Reg.AR (fun w'=>Blk w' PT 128 #[.string ⟨(kl T.K j).1.toArray⟩,.string ⟨(kl T.K j).2.toArray⟩]) 13 rfl (by kernel_rfl) (M.o.drewN 1) ?_;replace N:=I (show Blk wt.drew _ _ _ from N.o.drewN 1);replace M:=I (show Blk wt.drew _ _ _ from M.o.drewN 1);replace F:=I (show OwnP wt.drew _ _ _ from F.o.below (below_drewN Ah 1));replace O:=I (AZ O.o);replace E:=I (show w8.heap.size<=wt.drew.heap.size from E.o);obtain⟨W9,ej⟩:=Ak (wt.drew);rw[<-ej] at N M F O E⊢;clear ej;refine Reg.ty 0 rfl M.o ?_;refine Reg.ty 2 rfl M.o ?_;refine Reg.tw 3 rfl M.o (fun w' hS=>by have k1:=Blk.cell hS 0;go_simp<;>rfl) ?_;refine Reg.ty 5 rfl M.o ?_;refine Reg.tw 6 rfl M.o (fun w' hS=>by have k1:=Blk.cell hS 1;go_simp<;>rfl) ?_;refine Reg.b2 1 4 ?_ ?_
    ·left
     have k1:W9.cell? ⟨P3,1,none⟩=some (.slice A8 K.length c8):=N.o.cell 1;refine⟨_,_,_,_,_,_,_,W9,rfl,by rfl,by(go_simp;rfl),M.o,?_⟩;simp only[Act.put,U,Aa,Ab];clear k1;refine Reg.b1 4 ?_
     right
     refine⟨_,_,_,_,_,_,42,#[.string ⟨(kl T.K j).1.toArray⟩],rfl,by rfl,by go_simp,?_⟩;refine Aj (et.o W9) ?_;rintro cq D;have D:=D;replace N:=I (N.o.below D);replace M:=I (M.o.below D);replace F:=I (F.o.below D);replace O:=I (DV O.o (D.mono E.o));replace E:=I (Nat.le_trans E.o D.size);clear D;refine⟨_,rfl,M.o,?_⟩;simp only[Act.put,U,Aa,Ab];refine Reg.b1 7 ?_
     right
     refine⟨_,_,_,_,_,_,42,#[.string ⟨(kl T.K j).2.toArray⟩],rfl,by rfl,by go_simp,?_⟩;refine Aj (cR.o cq) ?_;rintro J D;have D:=D;replace N:=I (N.o.below D);replace M:=I (M.o.below D);replace F:=I (F.o.below D);replace O:=I (DV O.o (D.mono E.o));replace E:=I (Nat.le_trans E.o D.size);clear D;refine⟨_,rfl,M.o,?_⟩;simp only[Act.put,U,Aa,Ab];refine Reg.ty 8 rfl M.o ?_;refine Reg.b1 9 ?_
     left
     have D:Below J.heap.size J (J.alloc (.cells #[.string ⟨(kl T.K j).1.toArray⟩,.string ⟨(kl T.K j).2.toArray⟩] 128)):=Ah.alloc Ag _;have Z:=Blk.new J 128 #[.string ⟨(kl T.K j).1.toArray⟩,.string ⟨(kl T.K j).2.toArray⟩];refine⟨_,_,_,_,_,_,.slice (some ⟨J.heap.size,0,none⟩) 1 1,J.alloc (.cells #[.string ⟨(kl T.K j).1.toArray⟩,.string ⟨(kl T.K j).2.toArray⟩] 128),rfl,by rfl,(by go_simp<;>rfl),M.o.below D,?_⟩;simp only[Act.put,U,Aa,Ab];obtain⟨wb,cc⟩:=Ak (J.alloc (.cells #[.string ⟨(kl T.K j).1.toArray⟩,.string ⟨(kl T.K j).2.toArray⟩] 128));rw[<-cc] at D Z⊢;clear cc;obtain⟨PB,cd⟩:=Ak (J.heap.size);rw[<-cd] at Z⊢;clear cd;have HN:=I Z;clear Z;have D:=D;replace N:=I (N.o.below D);replace M:=I (M.o.below D);replace F:=I (F.o.below D);replace O:=I (DV O.o (D.mono E.o));replace E:=I (Nat.le_trans E.o D.size);clear D;refine Reg.b1 10 ?_
     left
     obtain⟨v9,w9,bB,ca,aw,cf⟩:=Qj wb w8.heap.size (.slice A8 K.length c8) K F.o (kl T.K j) PB (HN.o.cell 0) (HN.o.cell 1) (by have:=HL.o;omega) E.o;have h5:Blk w9 PT 128 _:=M.o.grown cf (fun e=>by have:=(cb.o PT e);have:=cj.o;omega);refine⟨_,_,_,_,_,_,v9,w9,rfl,by rfl,by(simp only[execOp,resolve,invoke,builtin,Sem.run_bind,Sem.run_pure,Result.andThen_ok,List.map_toArray,List.map_cons,List.map_nil,Act.eval];refine(congrArg (fun r=>Result.andThen r _) bB).trans ?_;rfl),h5,?_⟩;simp only[Act.put,U,Aa,Ab];replace M:=I h5;replace N:=I (show Blk w9 P3 74 _ from(aw.block _ bx.o).trans N.o);replace O:=I (DV O.o aw);replace E:=I (Nat.le_trans E.o aw.size);obtain⟨A7,c7,e7,_⟩:=ca.slice;rw[show(K++[kl T.K j]).length=K.length+1 by simp] at e7;subst e7;replace F:=I ca;clear bB ca aw cf h5 HN cb;refine Reg.ty 11 rfl M.o ?_;have f0:=N.o.frozen 1;have k9:=N.c1;refine Reg.Bq 12 (w9.setCell ⟨P3,1,none⟩ (.slice A7 (K.length+1) c7)) rfl (by kernel_rfl) (by rfl) (by go_simp) (Si.Blk.far M.o _ _ (show P3≠PT by have:=cj.o;have:=bx.o;have:=cw.o;omega)) ?_;simp only[Act.put,U,Aa,Ab];refine wpAnyH_done (by kernel_rfl) ?_ _;have cn:=I (N.o.set 1 (.slice A7 (K.length+1) c7));have cg:=I (Hj (j:=1) (u:=.slice A7 (K.length+1) c7) F.o (show P3<w8.heap.size from bx.o));have cm:=I (AU O.o (p:=⟨P3,1,none⟩) (.inl rfl) (.slice A7 (K.length+1) c7));clear f0 k9;rw[<-cA.o] at cg
     go_wp2
     go_roundw
     case rel=>exact⟨j+1,_,by omega,by go_num,cn.o,cg.o,cm.o⟩
     case measure=>simp [intOf];omega
    ·right
     refine⟨_,_,_,_,_,_,42,#[.string ⟨(kl T.K j).1.toArray⟩],rfl,by rfl,by go_simp,?_⟩;refine Aj (et.o W9) ?_;rintro cq D;have D:=D;replace N:=I (N.o.below D);replace M:=I (M.o.below D);replace F:=I (F.o.below D);replace O:=I (DV O.o (D.mono E.o));replace E:=I (Nat.le_trans E.o D.size);clear D;refine⟨_,rfl,M.o,?_⟩;simp only[Act.put,U,Aa,Ab];refine Reg.b2 1 7 ?_ ?_
     ·left
      have k1:=N.c1;refine⟨_,_,_,_,_,_,_,cq,rfl,by rfl,by(go_simp;rfl),M.o,?_⟩;simp only[Act.put,U,Aa,Ab];clear k1;refine Reg.b1 7 ?_
      right
      refine⟨_,_,_,_,_,_,42,#[.string ⟨(kl T.K j).2.toArray⟩],rfl,by rfl,by go_simp,?_⟩;refine Aj (cR.o cq) ?_;rintro J D;have D:=D;replace N:=I (N.o.below D);replace M:=I (M.o.below D);replace F:=I (F.o.below D);replace O:=I (DV O.o (D.mono E.o));replace E:=I (Nat.le_trans E.o D.size);clear D;refine⟨_,rfl,M.o,?_⟩;simp only[Act.put,U,Aa,Ab];refine Reg.ty 8 rfl M.o ?_;refine Reg.b1 9 ?_
      left
      have D:Below J.heap.size J (J.alloc (.cells #[.string ⟨(kl T.K j).1.toArray⟩,.string ⟨(kl T.K j).2.toArray⟩] 128)):=Ah.alloc Ag _;have Z:=Blk.new J 128 #[.string ⟨(kl T.K j).1.toArray⟩,.string ⟨(kl T.K j).2.toArray⟩];refine⟨_,_,_,_,_,_,.slice (some ⟨J.heap.size,0,none⟩) 1 1,J.alloc (.cells #[.string ⟨(kl T.K j).1.toArray⟩,.string ⟨(kl T.K j).2.toArray⟩] 128),rfl,by rfl,(by go_simp<;>rfl),M.o.below D,?_⟩;simp only[Act.put,U,Aa,Ab];obtain⟨wb,cc⟩:=Ak (J.alloc (.cells #[.string ⟨(kl T.K j).1.toArray⟩,.string ⟨(kl T.K j).2.toArray⟩] 128));rw[<-cc] at D Z⊢;clear cc;obtain⟨PB,cd⟩:=Ak (J.heap.size);rw[<-cd] at Z⊢;clear cd;have HN:=I Z;clear Z;have D:=D;replace N:=I (N.o.below D);replace M:=I (M.o.below D);replace F:=I (F.o.below D);replace O:=I (DV O.o (D.mono E.o));replace E:=I (Nat.le_trans E.o D.size);clear D;refine Reg.b1 10 ?_
      left
      obtain⟨v9,w9,bB,ca,aw,cf⟩:=Qj wb w8.heap.size (.slice A8 K.length c8) K F.o (kl T.K j) PB (HN.o.cell 0) (HN.o.cell 1) (by have:=HL.o;omega) E.o;have h5:Blk w9 PT 128 _:=M.o.grown cf (fun e=>by have:=(cb.o PT e);have:=cj.o;omega);refine⟨_,_,_,_,_,_,v9,w9,rfl,by rfl,by(simp only[execOp,resolve,invoke,builtin,Sem.run_bind,Sem.run_pure,Result.andThen_ok,List.map_toArray,List.map_cons,List.map_nil,Act.eval];refine(congrArg (fun r=>Result.andThen r _) bB).trans ?_;rfl),h5,?_⟩;simp only[Act.put,U,Aa,Ab];replace M:=I h5;replace N:=I (show Blk w9 P3 74 _ from(aw.block _ bx.o).trans N.o);replace O:=I (DV O.o aw);replace E:=I (Nat.le_trans E.o aw.size);obtain⟨A7,c7,e7,_⟩:=ca.slice;rw[show(K++[kl T.K j]).length=K.length+1 by simp] at e7;subst e7;replace F:=I ca;clear bB ca aw cf h5 HN cb;refine Reg.ty 11 rfl M.o ?_;have f0:=N.o.frozen 1;have k9:=N.c1;refine Reg.Bq 12 (w9.setCell ⟨P3,1,none⟩ (.slice A7 (K.length+1) c7)) rfl (by kernel_rfl) (by rfl) (by go_simp) (Si.Blk.far M.o _ _ (show P3≠PT by have:=cj.o;have:=bx.o;have:=cw.o;omega)) ?_;simp only[Act.put,U,Aa,Ab];refine wpAnyH_done (by kernel_rfl) ?_ _;have cn:=I (N.o.set 1 (.slice A7 (K.length+1) c7));have cg:=I (Hj (j:=1) (u:=.slice A7 (K.length+1) c7) F.o (show P3<w8.heap.size from bx.o));have cm:=I (AU O.o (p:=⟨P3,1,none⟩) (.inl rfl) (.slice A7 (K.length+1) c7));clear f0 k9;rw[<-cA.o] at cg
      go_wp2
      go_roundw
      case rel=>exact⟨j+1,_,by omega,by go_num,cn.o,cg.o,cm.o⟩
      case measure=>simp [intOf];omega
     ·right
      refine⟨_,_,_,_,_,_,42,#[.string ⟨(kl T.K j).2.toArray⟩],rfl,by rfl,by go_simp,?_⟩;refine Aj (cR.o cq) ?_;rintro J D;have D:=D;replace N:=I (N.o.below D);replace M:=I (M.o.below D);replace F:=I (F.o.below D);replace O:=I (DV O.o (D.mono E.o));replace E:=I (Nat.le_trans E.o D.size);clear D;refine⟨_,rfl,M.o,?_⟩;simp only[Act.put,U,Aa,Ab];refine Reg.ty 8 rfl M.o ?_;refine Reg.b2 1 9 ?_ ?_
      ·left
       have k1:=N.c1;refine⟨_,_,_,_,_,_,_,J,rfl,by rfl,by(go_simp;rfl),M.o,?_⟩;simp only[Act.put,U,Aa,Ab];clear k1;refine Reg.b1 9 ?_
       left
       have D:Below J.heap.size J (J.alloc (.cells #[.string ⟨(kl T.K j).1.toArray⟩,.string ⟨(kl T.K j).2.toArray⟩] 128)):=Ah.alloc Ag _;have Z:=Blk.new J 128 #[.string ⟨(kl T.K j).1.toArray⟩,.string ⟨(kl T.K j).2.toArray⟩];refine⟨_,_,_,_,_,_,.slice (some ⟨J.heap.size,0,none⟩) 1 1,J.alloc (.cells #[.string ⟨(kl T.K j).1.toArray⟩,.string ⟨(kl T.K j).2.toArray⟩] 128),rfl,by rfl,(by go_simp<;>rfl),M.o.below D,?_⟩;simp only[Act.put,U,Aa,Ab];obtain⟨wb,cc⟩:=Ak (J.alloc (.cells #[.string ⟨(kl T.K j).1.toArray⟩,.string ⟨(kl T.K j).2.toArray⟩] 128));rw[<-cc] at D Z⊢;clear cc;obtain⟨PB,cd⟩:=Ak (J.heap.size);rw[<-cd] at Z⊢;clear cd;have HN:=I Z;clear Z;have D:=D;replace N:=I (N.o.below D);replace M:=I (M.o.below D);replace F:=I (F.o.below D);replace O:=I (DV O.o (D.mono E.o));replace E:=I (Nat.le_trans E.o D.size);clear D;refine Reg.b1 10 ?_
       left
       obtain⟨v9,w9,bB,ca,aw,cf⟩:=Qj wb w8.heap.size (.slice A8 K.length c8) K F.o (kl T.K j) PB (HN.o.cell 0) (HN.o.cell 1) (by have:=HL.o;omega) E.o;have h5:Blk w9 PT 128 _:=M.o.grown cf (fun e=>by have:=(cb.o PT e);have:=cj.o;omega);refine⟨_,_,_,_,_,_,v9,w9,rfl,by rfl,by(simp only[execOp,resolve,invoke,builtin,Sem.run_bind,Sem.run_pure,Result.andThen_ok,List.map_toArray,List.map_cons,List.map_nil,Act.eval];refine(congrArg (fun r=>Result.andThen r _) bB).trans ?_;rfl),h5,?_⟩;simp only[Act.put,U,Aa,Ab];replace M:=I h5;replace N:=I (show Blk w9 P3 74 _ from(aw.block _ bx.o).trans N.o);replace O:=I (DV O.o aw);replace E:=I (Nat.le_trans E.o aw.size);obtain⟨A7,c7,e7,_⟩:=ca.slice;rw[show(K++[kl T.K j]).length=K.length+1 by simp] at e7;subst e7;replace F:=I ca;clear bB ca aw cf h5 HN cb;refine Reg.ty 11 rfl M.o ?_;have f0:=N.o.frozen 1;have k9:=N.c1;refine Reg.Bq 12 (w9.setCell ⟨P3,1,none⟩ (.slice A7 (K.length+1) c7)) rfl (by kernel_rfl) (by rfl) (by go_simp) (Si.Blk.far M.o _ _ (show P3≠PT by have:=cj.o;have:=bx.o;have:=cw.o;omega)) ?_;simp only[Act.put,U,Aa,Ab];refine wpAnyH_done (by kernel_rfl) ?_ _;have cn:=I (N.o.set 1 (.slice A7 (K.length+1) c7));have cg:=I (Hj (j:=1) (u:=.slice A7 (K.length+1) c7) F.o (show P3<w8.heap.size from bx.o));have cm:=I (AU O.o (p:=⟨P3,1,none⟩) (.inl rfl) (.slice A7 (K.length+1) c7));clear f0 k9;rw[<-cA.o] at cg
       go_wp2
       go_roundw
       case rel=>exact⟨j+1,_,by omega,by go_num,cn.o,cg.o,cm.o⟩
       case measure=>simp [intOf];omega
      ·left
       have D:Below J.heap.size J (J.alloc (.cells #[.string ⟨(kl T.K j).1.toArray⟩,.string ⟨(kl T.K j).2.toArray⟩] 128)):=Ah.alloc Ag _;have Z:=Blk.new J 128 #[.string ⟨(kl T.K j).1.toArray⟩,.string ⟨(kl T.K j).2.toArray⟩];refine⟨_,_,_,_,_,_,.slice (some ⟨J.heap.size,0,none⟩) 1 1,J.alloc (.cells #[.string ⟨(kl T.K j).1.toArray⟩,.string ⟨(kl T.K j).2.toArray⟩] 128),rfl,by rfl,(by go_simp<;>rfl),M.o.below D,?_⟩;simp only[Act.put,U,Aa,Ab];obtain⟨wb,cc⟩:=Ak (J.alloc (.cells #[.string ⟨(kl T.K j).1.toArray⟩,.string ⟨(kl T.K j).2.toArray⟩] 128));rw[<-cc] at D Z⊢;clear cc;obtain⟨PB,cd⟩:=Ak (J.heap.size);rw[<-cd] at Z⊢;clear cd;have HN:=I Z;clear Z;have D:=D;replace N:=I (N.o.below D);replace M:=I (M.o.below D);replace F:=I (F.o.below D);replace O:=I (DV O.o (D.mono E.o));replace E:=I (Nat.le_trans E.o D.size);clear D;refine Reg.b1 1 ?_
       left
       have k1:=N.c1;refine⟨_,_,_,_,_,_,_,wb,rfl,by rfl,by(go_simp;rfl),M.o,?_⟩;simp only[Act.put,U,Aa,Ab];clear k1;refine Reg.b1 10 ?_
       left
       obtain⟨v9,w9,bB,ca,aw,cf⟩:=Qj wb w8.heap.size (.slice A8 K.length c8) K F.o (kl T.K j) PB (HN.o.cell 0) (HN.o.cell 1) (by have:=HL.o;omega) E.o;have h5:Blk w9 PT 128 _:=M.o.grown cf (fun e=>by have:=(cb.o PT e);have:=cj.o;omega);refine⟨_,_,_,_,_,_,v9,w9,rfl,by rfl,by(simp only[execOp,resolve,invoke,builtin,Sem.run_bind,Sem.run_pure,Result.andThen_ok,List.map_toArray,List.map_cons,List.map_nil,Act.eval];refine(congrArg (fun r=>Result.andThen r _) bB).trans ?_;rfl),h5,?_⟩;simp only[Act.put,U,Aa,Ab];replace M:=I h5;replace N:=I (show Blk w9 P3 74 _ from(aw.block _ bx.o).trans N.o);replace O:=I (DV O.o aw);replace E:=I (Nat.le_trans E.o aw.size);obtain⟨A7,c7,e7,_⟩:=ca.slice;rw[show(K++[kl T.K j]).length=K.length+1 by simp] at e7;subst e7;replace F:=I ca;clear bB ca aw cf h5 HN cb;refine Reg.ty 11 rfl M.o ?_;have f0:=N.o.frozen 1;have k9:=N.c1;refine Reg.Bq 12 (w9.setCell ⟨P3,1,none⟩ (.slice A7 (K.length+1) c7)) rfl (by kernel_rfl) (by rfl) (by go_simp) (Si.Blk.far M.o _ _ (show P3≠PT by have:=cj.o;have:=bx.o;have:=cw.o;omega)) ?_;simp only[Act.put,U,Aa,Ab];refine wpAnyH_done (by kernel_rfl) ?_ _;have cn:=I (N.o.set 1 (.slice A7 (K.length+1) c7));have cg:=I (Hj (j:=1) (u:=.slice A7 (K.length+1) c7) F.o (show P3<w8.heap.size from bx.o));have cm:=I (AU O.o (p:=⟨P3,1,none⟩) (.inl rfl) (.slice A7 (K.length+1) c7));clear f0 k9;rw[<-cA.o] at cg
       go_wp2
       go_roundw
       case rel=>exact⟨j+1,_,by omega,by go_num,cn.o,cg.o,cm.o⟩
       case measure=>simp [intOf];omega
  ·have e1:¬(j:Int)<(m:Int):=by omega
   have ck:T.K.length<=j:=by rw[<-EM.o];omega
   have ek:K=T.K:=by rw[cy.o,List.take_of_length_le ck]
   rw[ek] at F;have ep:=cr.o;have ed:=bx.o;have cu:=I (HZ.o.grown O.o (fun e=>by injection e with e;omega));have eF:=I (HT.o.grown O.o (fun e=>by injection e with e;omega));have eX:=eF.o.cell 2;have fb:=N.o.cell 0;have eR:=N.o.cell 1;have eP:=N.o.cell 2;have eN:=cu.o.cell 0;have eT:=cu.o.cell 1;have eS:=cu.o.cell 2;have fz:=cu.o.frozen;clear ep ed ek ck
   go_wp2
   go_loopw [35] (fun iv wq=>iv=.int .i64 0/\wq=wr) (fun _ _=>0)
   case atStart=>exact⟨rfl,rfl⟩
   case round=>
    obtain⟨rfl,rfl⟩:=hrel
    go_wp2
    refine bodyPost_ret (v:=.agg (tpA (.slice A6 n c6) (.slice A8 K.length c8))) ?_ ?_ ?_
    ·exact Wh.AD (v:=.agg (tpA (.slice A6 n c6) (.slice A8 K.length c8))) 2 74 ⟨w.heap.size+1,0,none⟩ Tryz.results43 rfl (Wh.Al (((cu.o.set 0 _).set 1 _).set 2 _) Tryz.underlying74 (by rfl) (by kernel_rfl))
    ·rfl
    ·have ep:=cr.o;have ed:=bx.o;have eQ:=HW.o;have ff:=eg.o
     have cB:∀k,k≠w.heap.size+1->(((wr.setCell ⟨w.heap.size+1,0,none⟩ (.slice A6 n c6)).setCell ⟨w.heap.size+1,1,none⟩ (.slice A8 K.length c8)).setCell ⟨w.heap.size+1,2,none⟩ (.slice none 0 0)).heap[k]? = wr.heap[k]?:=fun k hk=>
      (Below.heap_setCell _ _ _ k (fun e=>by simp only at e;omega)).trans ((Below.heap_setCell _ _ _ k (fun e=>by simp only at e;omega)).trans (Below.heap_setCell _ _ _ k (fun e=>by simp only at e;omega)))
     have eo:K=T.K:=by rw[cy.o,List.take_of_length_le (by rw[<-EM.o];omega)]
     rw[<-eo] at F;have er:(((wr.setCell ⟨w.heap.size+1,0,none⟩ (.slice A6 n c6)).setCell ⟨w.heap.size+1,1,none⟩ (.slice A8 K.length c8)).setCell ⟨w.heap.size+1,2,none⟩ (.slice none 0 0)).heap.size=wr.heap.size:=by simp
     refine⟨_,_,rfl,⟨?_,?_,rfl,eD.o⟩,?_⟩
     ·refine aK HO.o ef.o (fun k h1 h2=>⟨by omega,by rw[er];have:=E.o;omega⟩) (fun k o h1 h2=>World.cell?_of_block (a:=⟨k,o,none⟩) ((cB k (by omega)).trans (O.o.block k (by omega) (fun e=>by injection e with e;omega))))
     ·rw[<-eo]
      refine Xm F.o (fun k h1 h2=>⟨by omega,by rw[er];omega⟩) (fun k o h1 h2=>World.cell?_of_block (a:=⟨k,o,none⟩) (cB k (by omega)))
     ·exact Si.Az (Si.Az (Si.Az (HB.o.grown O.o (by omega) (fun k hk=>by injection hk with hk;omega)) (by simp) _) (by simp) _) (by simp) _
end Kd
namespace Kd
open Go.RowKit Af Se
open Nm (strs Bm)
open Rg (It Ent Ring RO its)
open Rt (Tp Sm SlV SlP TpV isT Tj)
section
variable {w:World} {B:Nat} {es:List Ent} {T:Tp} {R:Nm.L} {v1 v2 v:Value} {r:Nat}
theorem tp_v {w1:World} (D:SlV w1 w1.heap.size v1 T.R) (E:SlP w1 w1.heap.size v2 T.K) (hp:T.P = []):TpV w1 w1.heap.size (.agg (tpA v1 v2)) T:=
 ⟨v1,v2,.slice none 0 0,rfl,D,E,none,0,by rw[hp];rfl,by rw[hp];exact Nat.le_refl _,.inl hp⟩
theorem new_a (hs:Sm T) (hp:T.P = []) (bz:∀x∈T.K,x.1.length<=3000/\x.2.length<=3000) (hT:isT T=true) (cf:R.length<=1000000) (h1:SlV w w.heap.size v1 T.R) (h2:SlP w w.heap.size v2 T.K) (hR:R∈T.R) (hr:Ring w B r v es) (hB:B<=w.heap.size) :
  Calls Tryz.prog 18 #[.string ⟨R.toArray⟩,.agg (tpA v1 v2),.pointer (some ⟨r,0,none⟩)] w fun e w'=>∃k lo hi u1 u2,e=.returned (.tuple #[.pointer (some ⟨k,0,none⟩),.int .i64 0])/\w.heap.size<=k/\w.heap.size<=lo/\KD w' B ⟨k,r,lo,hi,R,T,v,u1,u2,.slice none 0 0⟩ es 0 0/\Below w.heap.size w w':=by
 have Z:=h1;have M:=h2;obtain⟨A1,c1,rfl,cn,r1⟩:=h1;obtain⟨A2,c2,rfl,cg,r2⟩:=h2;obtain⟨W,eW⟩:=Ak (w.alloc (.cells (tpA (.slice A1 T.R.length c1) (.slice A2 T.K.length c2)) 74));have D:Below w.heap.size w W:=eW▸Ah.alloc Ag _;have E:=I (show Blk W w.heap.size 74 (tpA (.slice A1 T.R.length c1) (.slice A2 T.K.length c2)) from eW▸Blk.new w _ _);have F:=I D;have CI:=I (Tj T _ W.heap.size W hs (tp_v (Z.on D) (M.on D) hp) Ag);rw[hT] at CI;have CC:=I (fun(w1:World) (b1:Below w.heap.size w w1)=>Tr.BP T.R A1 c1 w.heap.size R w1 (by have:=hs.r;omega) (r1.below b1));have CL:=I (fun w1=>Bm R w1 (by omega));have CT:=I (fun(w1:World) (b1:Below w.heap.size w w1)=>UB T hs hp bz _ _ w1 (Z.on b1) (M.on b1));obtain⟨n,en⟩:=Ak (T.R.length);obtain⟨m,em⟩:=Ak (T.K.length);rw[<-en] at CI CC CT E eW⊢;rw[<-em] at CI CT E eW⊢;have hd:decide (R∈T.R)=true:=decide_eq_true hR;rw[hd] at CC;have aw:=I hr;have cq:=I hB;clear hd hR hr Z M r1 r2 cn cg hs hp bz hT cf D en em hB;go_enter Tryz.func18,Tryz.ntmps18
 go_upto_region 1 with fail
 rw[<-eW];clear eW;have O:=E.o.cell 0;have cd:=E.o.cell 1;have cr:=E.o.cell 2
 go_upto_region 3 with(first
  |(go_at_call 40;refine Aj CI.o ?_;rintro w2 D;clear CI O cd cr;replace E:=I (E.o.below D);replace F:=F.t D;have O:=E.o.cell 0;clear D)
  |(go_at_call 41;refine Aj (CC.o _ F.o) ?_;rintro w3 hw;clear CC;subst hw)
  |fail)
 clear O;refine Reg.AR (fun w'=>Blk w' w.heap.size 74 (tpA (.slice A1 n c1) (.slice A2 m c2))) 9 rfl (by kernel_rfl) (E.o.drewN 1) ?_;replace E:=I (show Blk w2.drew _ _ _ from E.o.drewN 1);replace F:=I (below_drewN F.o 1);refine Reg.ty 0 rfl E.o ?_;refine Reg.tw 2 rfl E.o (fun w' hS=>by have k0:=Blk.cell hS 0;have k1:=Blk.cell hS 1;have k2:=Blk.cell hS 2;go_simp<;>rfl) ?_;refine Reg.ty 4 rfl E.o ?_;refine Reg.b1 1 ?_
 right
 refine⟨_,_,_,_,_,_,42,#[.string ⟨R.toArray⟩],rfl,by rfl,by go_simp,?_⟩;refine Aj (CL.o _) ?_;rintro wa D;replace E:=I (E.o.below D);replace F:=F.t D;clear D;refine⟨_,rfl,E.o,?_⟩;simp only[Act.put,U,Aa,Ab];refine Reg.b1 3 ?_
 right
 refine⟨_,_,_,_,_,_,43,#[.agg (tpA (.slice A1 n c1) (.slice A2 m c2))],rfl,by rfl,by go_simp,?_⟩;refine Calls.mono (CT.o _ F.o) ?_;rintro e J ⟨u1,u2,rfl,cb,D⟩;have cj:=I F.o.size;replace E:=I (E.o.below D);replace F:=F.t D;have cm:=I D.size;have cc:=I cb;clear D cb;refine⟨_,rfl,E.o,?_⟩;simp only[Act.put,U,Aa,Ab];refine Reg.ty 5 rfl E.o ?_;refine Reg.b1 6 ?_
 left
 obtain⟨A8,c8,A9,c9,e8,e9,_⟩:=cc.o.sizes;subst e8 e9;have D:Below J.heap.size J (J.alloc (.cells #[.string ⟨R.toArray⟩,(.slice A8 T.R.length c8),(.slice A9 T.K.length c9),.slice none 0 0,.pointer (some ⟨r,0,none⟩),.int .i64 0,.int .i64 0] 127)):=Ah.alloc Ag _;have N:=Blk.new J 127 #[.string ⟨R.toArray⟩,(.slice A8 T.R.length c8),(.slice A9 T.K.length c9),.slice none 0 0,.pointer (some ⟨r,0,none⟩),.int .i64 0,.int .i64 0];refine⟨_,_,_,_,_,_,.pointer (some ⟨J.heap.size,0,none⟩),J.alloc (.cells #[.string ⟨R.toArray⟩,(.slice A8 T.R.length c8),(.slice A9 T.K.length c9),.slice none 0 0,.pointer (some ⟨r,0,none⟩),.int .i64 0,.int .i64 0] 127),rfl,by rfl,(by go_simp<;>rfl),E.o.below D,?_⟩;simp only[Act.put,U,Aa,Ab];obtain⟨wc,bx⟩:=Ak (J.alloc (.cells #[.string ⟨R.toArray⟩,(.slice A8 T.R.length c8),(.slice A9 T.K.length c9),.slice none 0 0,.pointer (some ⟨r,0,none⟩),.int .i64 0,.int .i64 0] 127));rw[<-bx] at D N⊢;clear bx;replace E:=I (E.o.below D);have bB:=I D;have ck:=I N;have ca:=F.t D;clear D N;refine Reg.ty 7 rfl E.o ?_;refine Reg.ty 8 rfl E.o ?_;refine wpAnyH_done (by kernel_rfl) ?_ _
 go_wp2_with fail
 go_ret2
 have cp:=cj.o;have cw:=cm.o;have ct:=bB.o.size;have cu:=cq.o;refine⟨J.heap.size,wa.heap.size,J.heap.size,_,_,rfl,by omega,cp,⟨ck.o,(aw.o.below ca.o),?_,?_,?_,?_,?_,?_,?_⟩,ca.o⟩
 ·exact cc.o.keep (fun b o D=>World.cell?_of_block (a:=⟨b,o,none⟩) (bB.o.block b D.2)) (fun b D=>D)
 ·show B<=J.heap.size;omega
 ·show B<=wa.heap.size;omega
 ·show J.heap.size<=_;omega
 ·intro hx;have:=aw.o.own_lt hx;simp only at this;omega
 ·intro hx;exact absurd hx.2 (Nat.lt_irrefl _)
 ·intro j hx hy;have:=aw.o.own_lt hx;have:=hy.1;simp only at *;omega
end
end Kd
end Go.Proofs.YthgignaohimadaaGreat
