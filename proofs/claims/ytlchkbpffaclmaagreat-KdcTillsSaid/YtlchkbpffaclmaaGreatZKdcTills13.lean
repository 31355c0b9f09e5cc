import Derived.Test.YtlchkbpffaclmaaGreatZKdcTills12
set_option maxHeartbeats 25600000
set_option maxRecDepth 100000
set_option linter.unusedVariables false
set_option linter.unusedSimpArgs false
namespace Go.Proofs.YtlchkbpffaclmaaGreat
namespace Rg
open Go.RowKit Af Se
structure DRing (w:World) (B q:Nat) (v:Value) (l:List It):Prop where
 blk:Blk w q 62 #[v]
 row:w.ownsRow B 127 35 v l.length (l.flatMap iC)
 lo:B<=q
 vq:v.ownBlock≠some q
abbrev DO (q:Nat) (v:Value) (k:Nat):Prop:=k=q\/v.ownBlock=some k
section
variable {w w':World} {B q:Nat} {v:Value} {l:List It} {S:Nat->Prop}
theorem DRing.lt (h:DRing w B q v l):q<w.heap.size:=h.blk.lt
theorem DRing.own_lo (h:DRing w B q v l) {k:Nat} (hk:DO q v k):B<=k:=by
 rcases hk with hk | hk
 ·subst hk;exact h.lo
 ·exact(World.ownsRow.lt h.row k hk).1
theorem DRing.own_lt (h:DRing w B q v l) {k:Nat} (hk:DO q v k):k<w.heap.size:=by
 rcases hk with hk | hk
 ·subst hk;exact h.blk.lt
 ·exact(World.ownsRow.lt h.row k hk).2
theorem DRing.chg (h:DRing w B q v l) (hc:Chg S w w') (hs:∀k,DO q v k->¬S k):DRing w' B q v l:=
 ⟨hc.blk h.blk (hs q (.inl rfl)),Jr hc h.row (fun k hk=>hs k (.inr hk)),h.lo,h.vq⟩
theorem DRing.below (h:DRing w B q v l) (hb:Below w.heap.size w w'):DRing w' B q v l:=h.chg (S:=fun _=>False) (Chg.of_below hb) (fun _ _ x=>x)
theorem DRing.num (h:DRing w B q v l):∃A c,v=.slice A l.length c/\l.length<=c/\c<=maxLen/\RdR w w.heap.size A iC 35 l:=Fz BY h.row
end
theorem iC_p0 (x:It):(iC x)[0]? = some (.string ⟨x.p.1.toArray⟩):=rfl
theorem iC_p1 (x:It):(iC x)[1]? = some (.string ⟨x.p.2.toArray⟩):=rfl
theorem iC_n (x:It):(iC x)[2]? = some (.int .i64 (x.n:Int)):=rfl
theorem SD {l:List It} {i:Nat} {x:It} {p:Pr} (h:l[i]? = some x) (hp:x.p=p):numO l (Bo l p (i+1))=x.n:=by
 rw[Bo,if_pos (by rw[h,<-hp];rfl)];simp [numO,h]
theorem Qc {l:List It} {i:Nat} {x:It} {p:Pr} (h:l[i]? = some x) (hp:x.p≠p):Bo l p (i+1)=Bo l p i:=by
 rw[Bo,if_neg];rw[h];intro y;injection y with y;exact hp y
theorem SE (B q:Nat) (v:Value) (l:List It) (p:Pr) (w:World) (h:DRing w B q v l) (hl:l.length<=1000) :
  Calls Tryz.prog 46 #[.pointer (some ⟨q,0,none⟩),prV p] w fun e w'=>e=.returned (.int .i64 (Bw l p:Int))/\Below w.heap.size w w':=by
 obtain⟨A,c,rfl,hc,hm,hr⟩:=h.num;have hb0:=h.blk;obtain⟨n,en⟩:=Ak (l.length);rw[<-en] at hb0 hc hl;have EN:=I en;obtain⟨W,eW⟩:=Ak (w.alloc (.cells #[.string ⟨p.1.toArray⟩,.string ⟨p.2.toArray⟩] 25));have hb:Below w.heap.size w W:=eW▸Ah.alloc Ag _;have HP:=I (show Blk W w.heap.size 25 #[.string ⟨p.1.toArray⟩,.string ⟨p.2.toArray⟩] from eW▸Blk.new w _ _);have HB:=I hb;have HQ:=I (hb0.below hb);have HR:=I (hr.keep hb);have hql:=hb0.lt;clear hb hr hb0 en h;go_enter Tryz.func46,Tryz.ntmps46
 go_upto_region 1 with fail
 rw[<-eW];obtain⟨N,eN⟩:=Ak (w.heap.size);rw[<-eN] at HP HB HR hql⊢;have EN2:=I eN;clear eW eN
 go_wp2
 go_loopw [5,6] (fun nv iv wr=>∃i:Nat,i<=n/\iv=.int .i64 (i:Int)/\nv=.int .i64 (numO l (Bo l p i):Int)/\Below N w wr/\Blk wr N 25 #[.string ⟨p.1.toArray⟩,.string ⟨p.2.toArray⟩]/\Blk wr q 62 #[.slice A n c]/\RdR wr N A iC 35 l) (fun _ iv _=>n - (intOf iv).toNat)
 case atStart=>exact⟨0,Nat.zero_le _,rfl,rfl,HB.o,HP.o,HQ.o,HR.o⟩
 case round=>
  clear HB HP HQ HR;obtain⟨i,hi,rfl,rfl,hb,hp,hq,hr⟩:=hrel;have HB:=I hb;have HP:=I hp;have HQ:=I hq;have HR:=I hr;have kq:wr.cell? ⟨q,0,none⟩=some (.slice A n c):=hq.cell 0;obtain⟨z,ez⟩:=Ak (numO l (Bo l p i));rw[<-ez];have EZ:=I ez
  by_cases hlt:i<n
  ·have e1:(i:Int)<(n:Int):=by omega
   have e2:(0:Int)<=(i:Int):=by omega
   obtain⟨x,hx⟩:∃x,l[i]? = some x:=⟨l[i]'(by rw[<-EN.o];exact hlt),List.getElem?_eq_getElem _⟩;obtain⟨g,rfl,hgN,hra⟩:=hr.at_ hx;have h0:wr.cell? ⟨g,i*35,none⟩=some (.string ⟨x.p.1.toArray⟩):=hra 0 _ (iC_p0 x);have h1:wr.cell? ⟨g,i*35+1,none⟩=some (.string ⟨x.p.2.toArray⟩):=hra 1 _ (iC_p1 x);have h2:wr.cell? ⟨g,i*35+2,none⟩=some (.int .i64 (x.n:Int)):=hra 2 _ (iC_n x);have kp0:wr.cell? ⟨N,0,none⟩=some (.string ⟨p.1.toArray⟩):=hp.cell 0;have kp1:wr.cell? ⟨N,1,none⟩=some (.string ⟨p.2.toArray⟩):=hp.cell 1;have HX:=I hx;clear hra hx hr hb hp hq ez
   by_cases hh:x.p=p
   ·have t1:=BG hh
    have HH:=I hh;clear hh
    go_wp2
    go_quiet (fail)
    go_wp2
    go_roundw
    case rel=>exact⟨i+1,by omega,by go_num,by rw[SD HX.o HH.o],below_drewN HB.o _,HP.o.drewN _,HQ.o.drewN _,HR.o.keep (below_drewN Ah _)⟩
    case measure=>simp [intOf];omega
   ·have t1:=Cx hh
    have HH:=I hh;clear hh
    go_wp2
    go_quiet (fail)
    go_wp2
    go_roundw
    case rel=>exact⟨i+1,by omega,by go_num,by rw[Qc HX.o HH.o,EZ.o],below_drewN HB.o _,HP.o.drewN _,HQ.o.drewN _,HR.o.keep (below_drewN Ah _)⟩
    case measure=>simp [intOf];omega
  ·have e1:decide ((i:Int)<(n:Int))=false:=by simp;omega
   obtain rfl:n=i:=by omega
   clear hr hb hp hq hi hlt ez
   go_wp2
   go_ret;exact⟨by rw[EZ.o,Bw,Bz,<-EN.o];rfl,by rw[<-EN2.o];exact HB.o⟩
theorem Ad {P:Program} {fn:Func} {tmps:Array Value} {w:World} {v u:Value} (t q:Nat) (ty:TypeId) (a:Addr) (hres:fn.results=#[.cell t ty,.tmp q]) (ht:tmps.getD t undef=.pointer (some a)) (hl:(loadVar ty a).run P w=.ok v w) (hq:tmps.getD q undef=u) :
  (results fn tmps).run P w=.ok (.tuple #[v,u]) w:=by
 have ht':tmps[t]?.getD undef=.pointer (some a):=by simpa using ht
 have hq':tmps[q]?.getD undef=u:=by simpa using hq
 simp [results,hres,ht',hq',asAddr,hl]
theorem UN (p:Pr) (w:World) (h1:p.1.length<=1000000000) (h2:p.2.length<=1000000000):Calls Tryz.prog 45 #[prV p] w fun e w'=>e=.returned (.bool (prB p))/\Below w.heap.size w w':=Nm.Hz p.1 p.2 w h1 h2
def zeroI:Array Value:=#[.string ⟨#[]⟩,.string ⟨#[]⟩,.int .i64 0,.int .u8 0,.int .u8 0,.int .u8 0,.int .u8 0,.int .u8 0,.int .u8 0,.int .u8 0,.int .u8 0,.int .u8 0,.int .u8 0,.int .u8 0,.int .u8 0,.int .u8 0,.int .u8 0,.int .u8 0,.int .u8 0,.int .u8 0,.int .u8 0,.int .u8 0,.int .u8 0,.int .u8 0,.int .u8 0,.int .u8 0,.int .u8 0,.int .u8 0,.int .u8 0,.int .u8 0,.int .u8 0,.int .u8 0,.int .u8 0,.int .u8 0,.int .u8 0]
theorem UO:(Tryz.prog.info? 127).map (fun i=>(i.zero,i.size,i.bytes))=some (some (.agg zeroI),35,72):=by kernel_rfl
theorem Qd (p:Pr) (n:Nat) (k:Nat->UInt8):Tryz.prog.built 127 [(0,prV p),(1,.int .i64 (n:Int)),(2,.agg (AO k))]=some (iC ⟨p,n,k⟩).toArray:=by
 kernel_rfl
theorem OD {w W5 w6:World} {B q:Nat} {v v6:Value} {l:List It} {it:It} (h:DRing w B q v l) (hb:Below w.heap.size w W5) (h5:DRing W5 B q v l)
  (ho:w6.ownsRow B 127 35 v6 (l++[it]).length ((l++[it]).flatMap iC)) (hg:W5.grownBy w6 v.ownBlock) (hv:v6.ownBlock=v.ownBlock\/v6.ownBlock=some W5.heap.size) :
  DRing (w6.setCell ⟨q,0,none⟩ v6) B q v6 (l++[it])/\Chg (DO q v) w (w6.setCell ⟨q,0,none⟩ v6)/\(∀k,DO q v6 k->DO q v k\/w.heap.size<=k):=by
 have hvr:v6.ownBlock≠some q:=fun x=>by
  rcases hv with g | g
  ·rw[g] at x;exact h.vq x
  ·rw[g] at x;injection x with x;have:=h5.lt;omega
 have hset:Chg (fun k=>k=q) w6 (w6.setCell ⟨q,0,none⟩ v6):=Chg.set (p:=⟨q,0,none⟩) (Chg.refl (fun k=>k=q) w6) (.inl rfl) v6;have hc:Chg (DO q v) w (w6.setCell ⟨q,0,none⟩ v6):=
  (((Chg.of_below hb).trans (Nn hg) (fun k _ x=>.inr x)).trans hset (fun k _ x=>.inl x):Chg (DO q v) w _)
 refine⟨⟨(h5.blk.grown hg h5.vq).set 0 v6,Jr hset ho (fun k hk x=>hvr (x▸hk)),h.lo,hvr⟩,hc,fun k hk=>?_⟩;rcases hk with hk | hk
 ·exact .inl (.inl hk)
 ·rcases hv with g | g
  ·exact .inl (.inr (g▸hk))
  ·rw[g] at hk;injection hk with hk;exact .inr (by have:=hb.size;omega)
theorem XF (B q:Nat) (v:Value) (l:List It) (p:Pr) (k:Nat->UInt8) (w:World) (h:DRing w B q v l) (hB:B<=w.heap.size) (h1:p.1.length<=1000000000) (h2:p.2.length<=1000000000) (hp:prB p=true) (hl:l.length<40) (hn:Bw l p<255) :
  Calls Tryz.prog 16 #[.pointer (some ⟨q,0,none⟩),prV p,.agg (AO k)] w fun e w'=>e=.returned (.tuple #[.int .i64 ((Bw l p:Int)+1),.int .i64 0])/\∃v',DRing w' B q v' (l++[⟨p,Bw l p+1,k⟩])/\Chg (DO q v) w w'/\(∀k,DO q v' k->DO q v k\/w.heap.size<=k):=by
 obtain⟨A,c,rfl,hc,hm,hr⟩:=h.num;obtain⟨n,en⟩:=Ak (l.length);have EN:=I en;obtain⟨z,ez⟩:=Ak (Bw l p);have EZ:=I ez;have CL:=I (fun(w1:World) (h:DRing w1 B q (.slice A l.length c) l)=>SE B q (.slice A l.length c) l p w1 h (by omega));have CP:=I (fun w1=>UN p w1 h1 h2);rw[hp] at CP;rw[<-ez] at CL;obtain⟨kv,ekv⟩:=Ak (AO k);rw[<-ekv];have hrl:=h.lt;obtain⟨W,eW⟩:=Ak ((w.alloc (.cells #[.string ⟨p.1.toArray⟩,.string ⟨p.2.toArray⟩] 25)).alloc (.cells kv 35));have hb:Below w.heap.size w W:=eW▸(Ah.alloc Ag _).alloc (by simp) _;have HP:=I (show Blk W w.heap.size 25 #[.string ⟨p.1.toArray⟩,.string ⟨p.2.toArray⟩] from eW▸(Blk.new w _ _).alloc _);have HK:=I (show Blk W (w.heap.size+1) 35 kv by have:=Blk.new (w.alloc (.cells #[.string ⟨p.1.toArray⟩,.string ⟨p.2.toArray⟩] 25)) 35 kv;simp only[World.size_alloc] at this;exact eW▸this);have HB:=I hb;have HRG:=I (h.below hb);have HW:=I h;have kp0:W.cell? ⟨w.heap.size,0,none⟩=some (.string ⟨p.1.toArray⟩):=HP.o.cell 0;have kp1:W.cell? ⟨w.heap.size,1,none⟩=some (.string ⟨p.2.toArray⟩):=HP.o.cell 1;have hwr:IntKind.i64.wrap ((z:Int)+1)=(z:Int)+1:=by rw[IntKind.wrap_i64];omega
 have EK:=I ekv;have HKI:=I (show(Tryz.prog.info? 35).map (·.size)=some kv.size by rw[ekv];exact Fv k);obtain⟨i0,hi0,hz0,hs0,hb0⟩:=info_parts UO;have KI1:=I hi0;have KI2:=I hz0;have KI3:=I hs0;have KI4:=I hb0;have SL1:=I (fun(w1:World)=>Wh.GQ (P:=Tryz.prog) w1 60 127 (iC ⟨p,z+1,k⟩).toArray i0 _ Tryz.underlying60 hi0 hz0 (by rw[hs0];simp [BY]) (by simp [BY]) (by simp [BY]));have HBB:=I hB;have HN:=I (show z<255 by omega);have t1:decide (40<=(n:Int))=false:=by simp;omega
 have t2:decide (255<=(z:Int))=false:=by simp;omega
 have HL:=I (show n<40 by omega);clear hi0 hz0 hs0 hb0 hB hb h hr h1 h2 hp hn hl ekv en hc hm;rw[<-ez];clear ez;go_enter Tryz.func16,Tryz.ntmps16
 go_upto_region 1 with fail
 rw[<-eW];clear eW
 go_wp2_with (first
  |(go_at_call 45;refine Aj (CP.o _) ?_;rintro w1 hb;replace HB:=HB.t hb;replace HRG:=I (HRG.o.below hb);replace HP:=I (HP.o.below hb);replace HK:=I (HK.o.below hb);have kp0:w1.cell? ⟨w.heap.size,0,none⟩=some (.string ⟨p.1.toArray⟩):=HP.o.cell 0;have kp1:w1.cell? ⟨w.heap.size,1,none⟩=some (.string ⟨p.2.toArray⟩):=HP.o.cell 1;have kr:w1.cell? ⟨q,0,none⟩=some (.slice A n c):=EN.o▸HRG.o.blk.cell 0;clear hb)
  |(go_at_call 46;refine Aj (CL.o _ HRG.o) ?_;rintro w2 hb;clear kp0 kp1 kr;replace HB:=HB.t hb;replace HRG:=I (HRG.o.below hb);replace HP:=I (HP.o.below hb);replace HK:=I (HK.o.below hb);have kp0:w2.cell? ⟨w.heap.size,0,none⟩=some (.string ⟨p.1.toArray⟩):=HP.o.cell 0;have kp1:w2.cell? ⟨w.heap.size,1,none⟩=some (.string ⟨p.2.toArray⟩):=HP.o.cell 1;have kr:w2.cell? ⟨q,0,none⟩=some (.slice A n c):=EN.o▸HRG.o.blk.cell 0;clear hb)
  |fail)
 replace HP:=I (show Blk w2.drew _ _ _ from HP.o.drewN 1);replace HK:=I (show Blk w2.drew _ _ _ from HK.o.drewN 1);replace HRG:=I (show DRing w2.drew B q _ l from HRG.o.below (below_drewN Ah 1));replace HB:=I (show Below w.heap.size w w2.drew from below_drewN HB.o 1);clear kp0 kp1 kr;refine Reg.Bx (fun w'=>Blk w' w.heap.size 25 #[.string ⟨p.1.toArray⟩,.string ⟨p.2.toArray⟩]/\Blk w' (w.heap.size+1) 35 kv) 15 rfl (by kernel_rfl) ⟨HP.o,HK.o⟩ ?_;obtain⟨W2,eW2⟩:=Ak (w2.drew);rw[<-eW2] at HP HK HRG HB⊢;clear eW2;refine Reg.ty 0 rfl ⟨HP.o,HK.o⟩ ?_;refine Reg.ty 1 rfl ⟨HP.o,HK.o⟩ ?_;refine Reg.ty 2 rfl ⟨HP.o,HK.o⟩ ?_;refine Reg.ty 3 rfl ⟨HP.o,HK.o⟩ ?_;refine Reg.tw 5 (v:=.agg #[.string ⟨p.1.toArray⟩,.string ⟨p.2.toArray⟩]) rfl ⟨HP.o,HK.o⟩ (fun w' hS=>by exact Wh.Bq (.tmp 4) rfl rfl hS.1 Tryz.underlying25 rfl Cy) ?_;refine Reg.ty 6 rfl ⟨HP.o,HK.o⟩ ?_;refine Reg.tw 7 (v:=.int .i64 ((z:Int)+1)) rfl ⟨HP.o,HK.o⟩ (fun w' hS=>by go_simp) ?_;refine Reg.tw 8 (v:=.agg kv) rfl ⟨HP.o,HK.o⟩ (fun w' hS=>by exact Wh.Bq (.tmp 5) rfl rfl hS.2 Tryz.underlying35 rfl HKI.o) ?_;refine Reg.tw 9 (v:=.agg (iC ⟨p,z+1,k⟩).toArray) rfl ⟨HP.o,HK.o⟩ (fun w' hS=>by exact Bv (by go_simp) (EK.o▸Qd p (z+1) k)) ?_;refine Reg.Jo [4,10] (by kernel_rfl) (by simp) ?_;intro j0 hj0;have hj0:j0=4\/j0=10:=by simpa using hj0
 rcases hj0 with rfl | rfl
 ·have kr:W2.cell? ⟨q,0,none⟩=some (.slice A n c):=EN.o▸HRG.o.blk.cell 0
  refine⟨_,_,_,_,_,_,_,_,rfl,by rfl,by(go_simp;rfl),⟨HP.o,HK.o⟩,?_⟩;simp only[Act.put,U,Aa,Ab];clear kr;refine Reg.Jo [10] (by kernel_rfl) (by simp) ?_;intro j0 hj0;obtain rfl:j0=10:=by simpa using hj0
  clear hj0;have hb:Below W2.heap.size W2 (W2.alloc (.cells (iC ⟨p,z+1,k⟩).toArray 127)):=Ah.alloc Ag _;refine⟨_,_,_,_,_,_,.slice (some ⟨W2.heap.size,0,none⟩) 1 1,(W2.alloc (.cells (iC ⟨p,z+1,k⟩).toArray 127)),rfl,by rfl,Dn rfl (SL1.o _),⟨HP.o.below hb,HK.o.below hb⟩,?_⟩;simp only[Act.put,U,Aa,Ab];have HNB:=I (Blk.new W2 127 (iC ⟨p,z+1,k⟩).toArray);replace HB:=HB.t hb;replace HRG:=I (HRG.o.below hb);replace HP:=I (HP.o.below hb);replace HK:=I (HK.o.below hb);clear hb;obtain⟨W5,eW5⟩:=Ak ((W2.alloc (.cells (iC ⟨p,z+1,k⟩).toArray 127)));obtain⟨g5,eg5⟩:=Ak (W2.heap.size);rw[<-eW5] at HNB HB HRG HP HK⊢;rw[<-eg5] at HNB⊢;clear eW5 eg5;refine Reg.Jo [11] (by kernel_rfl) (by simp) ?_;intro j0 hj0;obtain rfl:j0=11:=by simpa using hj0
  clear hj0;obtain⟨v6,w6,hrun,ho6,hg6,hv6⟩:=Wh.Hs (P:=Tryz.prog) iC 35 72 BY Sy W5 60 60 127 i0 _ Tryz.underlying60 KI1.o KI2.o KI3.o KI4.o (by rfl) (by omega) B _ l HRG.o.row ⟨p,z+1,k⟩ g5 HNB.o (by have:=EN.o;have:=HL.o;omega) (by omega) (Nat.le_trans HBB.o HB.o.size);rw[<-EN.o] at hrun;replace HP:=I (HP.o.grown hg6 (fun x=>by have:=(World.ownsRow.lt HW.o.row _ x).2;omega));replace HK:=I (HK.o.grown hg6 (fun x=>by have:=(World.ownsRow.lt HW.o.row _ x).2;omega));refine⟨_,_,_,_,_,_,v6,w6,rfl,by rfl,FT rfl rfl hrun,⟨HP.o,HK.o⟩,?_⟩;simp only[Act.put,U,Aa,Ab];refine Reg.ty 12 rfl ⟨HP.o,HK.o⟩ ?_;refine Reg.ty 13 rfl ⟨HP.o,HK.o⟩ ?_;have hfin:=OD HW.o HB.o HRG.o ho6 hg6 hv6;have hr6:=HRG.o.blk.grown hg6 HRG.o.vq;obtain⟨A7,c7,e7,_⟩:=Fz BY ho6;obtain⟨m7,em7⟩:=Ak ((l++[(⟨p,z+1,k⟩:It)]).length);rw[<-em7] at e7;subst e7;have f0:=hr6.frozen 0;have k6:w6.cell? ⟨q,0,none⟩=some _:=hr6.cell 0;refine Reg.Bk 14 (w6.setCell ⟨q,0,none⟩ (.slice A7 m7 c7)) rfl (by kernel_rfl) (by rfl) (by go_simp) ⟨Si.Blk.far HP.o _ _ (by simp;have:=HW.o.lt;omega),Si.Blk.far HK.o _ _ (by simp;have:=HW.o.lt;omega)⟩ ?_;simp only[Act.put,U,Aa,Ab];refine wpAnyH_done (by kernel_rfl) ?_ _;clear f0 k6 hr6 ho6 hg6 hv6 hrun em7;have HFIN:=I hfin;clear hfin
  go_wp2
  go_ret2
  exact⟨rfl,_,HFIN.o.1,HFIN.o.2.1,HFIN.o.2.2⟩
 ·have hb:Below W2.heap.size W2 (W2.alloc (.cells (iC ⟨p,z+1,k⟩).toArray 127)):=Ah.alloc Ag _
  refine⟨_,_,_,_,_,_,.slice (some ⟨W2.heap.size,0,none⟩) 1 1,(W2.alloc (.cells (iC ⟨p,z+1,k⟩).toArray 127)),rfl,by rfl,Dn rfl (SL1.o _),⟨HP.o.below hb,HK.o.below hb⟩,?_⟩;simp only[Act.put,U,Aa,Ab];have HNB:=I (Blk.new W2 127 (iC ⟨p,z+1,k⟩).toArray);replace HB:=HB.t hb;replace HRG:=I (HRG.o.below hb);replace HP:=I (HP.o.below hb);replace HK:=I (HK.o.below hb);clear hb;obtain⟨W5,eW5⟩:=Ak ((W2.alloc (.cells (iC ⟨p,z+1,k⟩).toArray 127)));obtain⟨g5,eg5⟩:=Ak (W2.heap.size);rw[<-eW5] at HNB HB HRG HP HK⊢;rw[<-eg5] at HNB⊢;clear eW5 eg5;refine Reg.Jo [4] (by kernel_rfl) (by simp) ?_;intro j0 hj0;obtain rfl:j0=4:=by simpa using hj0
  clear hj0;have kr:W5.cell? ⟨q,0,none⟩=some (.slice A n c):=EN.o▸HRG.o.blk.cell 0;refine⟨_,_,_,_,_,_,_,_,rfl,by rfl,by(go_simp;rfl),⟨HP.o,HK.o⟩,?_⟩;simp only[Act.put,U,Aa,Ab];clear kr;refine Reg.Jo [11] (by kernel_rfl) (by simp) ?_;intro j0 hj0;obtain rfl:j0=11:=by simpa using hj0
  clear hj0;obtain⟨v6,w6,hrun,ho6,hg6,hv6⟩:=Wh.Hs (P:=Tryz.prog) iC 35 72 BY Sy W5 60 60 127 i0 _ Tryz.underlying60 KI1.o KI2.o KI3.o KI4.o (by rfl) (by omega) B _ l HRG.o.row ⟨p,z+1,k⟩ g5 HNB.o (by have:=EN.o;have:=HL.o;omega) (by omega) (Nat.le_trans HBB.o HB.o.size);rw[<-EN.o] at hrun;replace HP:=I (HP.o.grown hg6 (fun x=>by have:=(World.ownsRow.lt HW.o.row _ x).2;omega));replace HK:=I (HK.o.grown hg6 (fun x=>by have:=(World.ownsRow.lt HW.o.row _ x).2;omega));refine⟨_,_,_,_,_,_,v6,w6,rfl,by rfl,FT rfl rfl hrun,⟨HP.o,HK.o⟩,?_⟩;simp only[Act.put,U,Aa,Ab];refine Reg.ty 12 rfl ⟨HP.o,HK.o⟩ ?_;refine Reg.ty 13 rfl ⟨HP.o,HK.o⟩ ?_;have hfin:=OD HW.o HB.o HRG.o ho6 hg6 hv6;have hr6:=HRG.o.blk.grown hg6 HRG.o.vq;obtain⟨A7,c7,e7,_⟩:=Fz BY ho6;obtain⟨m7,em7⟩:=Ak ((l++[(⟨p,z+1,k⟩:It)]).length);rw[<-em7] at e7;subst e7;have f0:=hr6.frozen 0;have k6:w6.cell? ⟨q,0,none⟩=some _:=hr6.cell 0;refine Reg.Bk 14 (w6.setCell ⟨q,0,none⟩ (.slice A7 m7 c7)) rfl (by kernel_rfl) (by rfl) (by go_simp) ⟨Si.Blk.far HP.o _ _ (by simp;have:=HW.o.lt;omega),Si.Blk.far HK.o _ _ (by simp;have:=HW.o.lt;omega)⟩ ?_;simp only[Act.put,U,Aa,Ab];refine wpAnyH_done (by kernel_rfl) ?_ _;clear f0 k6 hr6 ho6 hg6 hv6 hrun em7;have HFIN:=I hfin;clear hfin
  go_wp2
  go_ret2
  exact⟨rfl,_,HFIN.o.1,HFIN.o.2.1,HFIN.o.2.2⟩
end Rg
namespace Kd
open Go.RowKit Af Se Nm
open Rg (It Ent Ring RO DRing DO its)
open Ms (Re Tg reC tgC)
open Rt (Tp kl)
theorem Jv {l:L} (h:l.length=32):AO (ksOf l)=(bvs l).toArray:=by
 show((List.range 32).map (fun i=>bv (ksOf l i))).toArray=(bvs l).toArray
 congr 1
 apply List.ext_getElem?;intro i;simp only[List.getElem?_map,bvs]
 by_cases g:i<32
 ·rw[List.getElem?_range g,List.getElem?_eq_getElem (by omega)]
  simp [ksOf,List.getD,h,g]
 ·rw[List.getElem?_eq_none (by simp;omega),List.getElem?_eq_none (by omega)]
  rfl
theorem Gs (w:World) (g o:Nat) (u:Value):Chg (fun j=>j=g) w (w.setCell ⟨g,o,none⟩ u):=(Chg.refl (fun j=>j=g) w).set (p:=⟨g,o,none⟩) (.inl rfl) u
def SlK (K:Nat->Prop) (w:World) (v:Value) (ls:List L):Prop:=∃A c,v=.slice A ls.length c/\ls.length<=c/\(ls = []\/∃b o,A=some ⟨b,o,none⟩/\K b/\∀i u,(strs ls)[i]? = some u->w.cell? ⟨b,o+i,none⟩=some u)
def SpK (K:Nat->Prop) (w:World) (v:Value) (P:List (L×L)):Prop:=∃A c,v=.slice A P.length c/\P.length<=c/\(P = []\/∃b o,A=some ⟨b,o,none⟩/\K b/\∀i,i<P.length->w.cell? ⟨b,o+i*2,none⟩=some (.string ⟨(kl P i).1.toArray⟩)/\w.cell? ⟨b,o+i*2+1,none⟩=some (.string ⟨(kl P i).2.toArray⟩))
structure TpK (K:Nat->Prop) (w:World) (v1 v2 v3:Value) (T:Tp):Prop where
 r:SlK K w v1 T.R
 k:SpK K w v2 T.K
 n:v3=.slice none 0 0
 p:T.P = []
section
variable {K K' S:Nat->Prop} {w w':World} {v v1 v2 v3:Value} {ls:List L} {P:List (L×L)} {T:Tp}
theorem SlK.keep (h:SlK K w v ls) (hk:∀b o,K b->w'.cell? ⟨b,o,none⟩=w.cell? ⟨b,o,none⟩) (hm:∀b,K b->K' b):SlK K' w' v ls:=by
 obtain⟨A,c,h1,h2,h3⟩:=h;refine⟨A,c,h1,h2,?_⟩;rcases h3 with h3 | ⟨b,o,e,hb,hc⟩
 ·exact .inl h3
 ·exact .inr ⟨b,o,e,hm b hb,fun i u hu=>(hk b _ hb).trans (hc i u hu)⟩
theorem SpK.keep (h:SpK K w v P) (hk:∀b o,K b->w'.cell? ⟨b,o,none⟩=w.cell? ⟨b,o,none⟩) (hm:∀b,K b->K' b):SpK K' w' v P:=by
 obtain⟨A,c,h1,h2,h3⟩:=h;refine⟨A,c,h1,h2,?_⟩;rcases h3 with h3 | ⟨b,o,e,hb,hc⟩
 ·exact .inl h3
 ·exact .inr ⟨b,o,e,hm b hb,fun i hi=>⟨(hk b _ hb).trans (hc i hi).1,(hk b _ hb).trans (hc i hi).2⟩⟩
theorem TpK.keep (h:TpK K w v1 v2 v3 T) (hk:∀b o,K b->w'.cell? ⟨b,o,none⟩=w.cell? ⟨b,o,none⟩) (hm:∀b,K b->K' b):TpK K' w' v1 v2 v3 T:=⟨h.r.keep hk hm,h.k.keep hk hm,h.n,h.p⟩
theorem TpK.chg (h:TpK K w v1 v2 v3 T) (hc:Chg S w w') (hs:∀b,K b->b<w.heap.size/\¬S b):TpK K w' v1 v2 v3 T:=
 h.keep (fun b o hb=>World.cell?_of_block (a:=⟨b,o,none⟩) (hc.block b (hs b hb).1 (hs b hb).2)) (fun _ x=>x)
theorem SlK.slv {B:Nat} (h:SlK K w v ls) (hK:∀b,K b->b<B):Rt.SlV w B v ls:=by
 obtain⟨A,c,h1,h2,h3⟩:=h;refine⟨A,c,h1,h2,?_⟩;rcases h3 with h3 | ⟨b,o,e,hb,hc⟩
 ·subst h3;exact .inl rfl
 ·exact .inr ⟨b,o,e,hK b hb,hc⟩
theorem SpK.slp {B:Nat} (h:SpK K w v P) (hK:∀b,K b->b<B):Rt.SlP w B v P:=by
 obtain⟨A,c,h1,h2,h3⟩:=h;refine⟨A,c,h1,h2,?_⟩;rcases h3 with h3 | ⟨b,o,e,hb,hc⟩
 ·exact .inl h3
 ·exact .inr ⟨b,o,e,hK b hb,hc⟩
theorem TpK.tpv {B:Nat} (h:TpK K w v1 v2 v3 T) (hK:∀b,K b->b<B):Rt.TpV w B (.agg #[v1,v2,v3]) T:=
 ⟨v1,v2,v3,rfl,h.r.slv hK,h.k.slp hK,none,0,by rw[h.n,h.p];rfl,by rw[h.p];exact Nat.le_refl _,.inl h.p⟩
theorem TpK.sizes (h:TpK K w v1 v2 v3 T):∃A1 c1 A2 c2,v1=.slice A1 T.R.length c1/\v2=.slice A2 T.K.length c2/\v3=.slice none 0 0:=by
 obtain⟨A1,c1,h1,_⟩:=h.r;obtain⟨A2,c2,h2,_⟩:=h.k;exact⟨A1,c1,A2,c2,h1,h2,h.n⟩
end
def SlN (S:Nat->Prop) (w:World) (v:Value) (l:L):Prop:=∃A c,v=.slice A l.length c/\l.length<=c/\RdA S w A (bvs l)
section
variable {S S' T:Nat->Prop} {w w':World} {v:Value} {l:L}
theorem SlN.keep (h:SlN S w v l) (hc:Chg T w w') (ht:∀i,i<w.heap.size->T i->S i) (hs:∀i,i<w.heap.size->S' i->S i):SlN S' w' v l:=by
 obtain⟨A,c,h1,h2,h4⟩:=h;exact⟨A,c,h1,h2,h4.keep hc ht hs⟩
theorem SlN.below (h:SlN S w v l) (hb:Below w.heap.size w w'):SlN S w' v l:=h.keep (Chg.of_below (S:=fun _=>False) hb) (fun _ _ x=>x.elim) (fun _ _ x=>x)
theorem SlN.mono (h:SlN S w v l) (hs:∀i,i<w.heap.size->S' i->S i):SlN S' w v l:=h.keep (Chg.refl (fun _=>False) w) (fun _ _ x=>x.elim) hs
theorem SlN.sl (h:SlN S w v l):Ms.SlB w w.heap.size v l:=by
 obtain⟨A,c,h1,h2,h4⟩:=h;exact⟨A,c,h1,h2,h4.rd⟩
end
def ReN (S:Nat->Prop) (w:World) (cs:Array Value) (x:Re):Prop:=∃b a,cs=(reC x b a).toArray/\SlN S w b x.t.b/\SlN S w a x.b
def TgN (S:Nat->Prop) (w:World) (cs:Array Value) (x:Tg):Prop:=∃b a,cs=(tgC x b a).toArray/\SlN S w b x.t.b/\SlN S w a x.a
section
variable {S S' T:Nat->Prop} {w w':World} {cs:Array Value} {x:Re} {y:Tg}
theorem ReN.keep (h:ReN S w cs x) (hc:Chg T w w') (ht:∀i,i<w.heap.size->T i->S i) (hs:∀i,i<w.heap.size->S' i->S i):ReN S' w' cs x:=by
 obtain⟨b,a,h1,h2,h3⟩:=h;exact⟨b,a,h1,h2.keep hc ht hs,h3.keep hc ht hs⟩
theorem ReN.below (h:ReN S w cs x) (hb:Below w.heap.size w w'):ReN S w' cs x:=h.keep (Chg.of_below (S:=fun _=>False) hb) (fun _ _ x=>x.elim) (fun _ _ x=>x)
theorem TgN.keep (h:TgN S w cs y) (hc:Chg T w w') (ht:∀i,i<w.heap.size->T i->S i) (hs:∀i,i<w.heap.size->S' i->S i):TgN S' w' cs y:=by
 obtain⟨b,a,h1,h2,h3⟩:=h;exact⟨b,a,h1,h2.keep hc ht hs,h3.keep hc ht hs⟩
theorem re0_n:ReN S w (reC Ms.re0 (.slice none 0 0) (.slice none 0 0)).toArray Ms.re0:=⟨_,_,rfl,⟨none,0,rfl,Nat.le_refl _,.inl rfl⟩,⟨none,0,rfl,Nat.le_refl _,.inl rfl⟩⟩
end
structure KP where
 k:Nat
 r:Nat
 lo:Nat
 hi:Nat
 R:L
 T:Tp
 v:Value
 v1:Value
 v2:Value
 v3:Value
def KT (p:KP) (j:Nat):Prop:=p.lo<=j/\j<p.hi
def KO (p:KP) (es:List Ent) (j:Nat):Prop:=j=p.k\/RO p.r p.v es j
def KA (p:KP) (es:List Ent) (j:Nat):Prop:=KO p es j\/KT p j
structure KD (w:World) (B:Nat) (p:KP) (es:List Ent) (n i:Nat):Prop where
 blk:Blk w p.k 137 #[.string ⟨p.R.toArray⟩,p.v1,p.v2,p.v3,.pointer (some ⟨p.r,0,none⟩),.int .i64 (n:Int),.int .i64 (i:Int)]
 ring:Ring w B p.r p.v es
 tp:TpK (KT p) w p.v1 p.v2 p.v3 p.T
 lo:B<=p.k
 tlo:B<=p.lo
 hi:p.hi<=w.heap.size
 kr:¬RO p.r p.v es p.k
 kt:¬KT p p.k
 rt:∀j,RO p.r p.v es j->¬KT p j
section
variable {w w':World} {B:Nat} {p:KP} {es es':List Ent} {n i n' i':Nat} {S:Nat->Prop}
theorem KD.ko_lt (h:KD w B p es n i) {j:Nat} (hj:KO p es j):j<w.heap.size:=by
 rcases hj with hj | hj
 ·subst hj;exact h.blk.lt
 ·exact h.ring.own_lt hj
theorem KD.ka_lt (h:KD w B p es n i) {j:Nat} (hj:KA p es j):j<w.heap.size:=by
 rcases hj with hj | hj
 ·exact h.ko_lt hj
 ·have:=hj.2;have:=h.hi;omega
theorem KD.ko_lo (h:KD w B p es n i) {j:Nat} (hj:KO p es j):B<=j:=by
 rcases hj with hj | hj
 ·subst hj;exact h.lo
 ·exact h.ring.own_lo hj
theorem KD.lt (h:KD w B p es n i):p.k<w.heap.size:=h.blk.lt
theorem KD.chg (h:KD w B p es n i) (hc:Chg S w w') (hs:∀j,KA p es j->¬S j):KD w' B p es n i:=
 ⟨hc.blk h.blk (hs _ (.inl (.inl rfl))),h.ring.chg hc (fun j hj=>hs j (.inl (.inr hj))),h.tp.chg hc (fun j hj=>⟨by have:=hj.2;have:=h.hi;omega,hs j (.inr hj)⟩),h.lo,h.tlo,Nat.le_trans h.hi hc.size,h.kr,h.kt,h.rt⟩
theorem KD.below (h:KD w B p es n i) (hb:Below w.heap.size w w'):KD w' B p es n i:=h.chg (S:=fun _=>False) (Chg.of_below hb) (fun _ _ x=>x)
theorem KD.drew (h:KD w B p es n i):KD w.drew B p es n i:=h.below (below_drewN Ah 1)
theorem KD.use (h:KD w B p es n i) {q:Nat} {e:Ent} (he:es[q]? = some e) {h':Option Nat} {a o z:Nat} (hr:Ring w' B p.r p.v (es.set q ⟨e.it,e.b,h',a,o,z⟩)) (hs:Cn w w' e.b e.h h'):KD w' B p (es.set q ⟨e.it,e.b,h',a,o,z⟩) n i:=by
 have hk:∀j,KT p j->j<w.heap.size:=fun j hj=>by have:=hj.2;have:=h.hi;omega
 refine⟨hs.1.blk h.blk (fun x=>h.kr (Rg.XE he x)),hr,h.tp.chg hs.1 (fun j hj=>⟨hk j hj,fun x=>h.rt j (Rg.XE he x) hj⟩),h.lo,h.tlo,Nat.le_trans h.hi hs.1.size,fun x=>?_,h.kt,fun j hj x=>?_⟩
 ·rcases h.ring.use_new he a o z hs _ x with y | y
  ·exact h.kr y
  ·have:=h.lt;omega
 ·rcases h.ring.use_new he a o z hs j hj with y | y
  ·exact h.rt j y x
  ·have:=hk j x;omega
def New' (w:World) (p:KP) (es es':List Ent):Prop:=∀j,KO p es' j->KO p es j\/w.heap.size<=j
theorem New'.trans {es2:List Ent} {a:World} (h:New' a p es es') (g:New' w p es' es2) (hs:a.heap.size<=w.heap.size):New' a p es es2:=fun j hj=>by
 rcases g j hj with x | x
 ·exact h j x
 ·exact .inr (by omega)
theorem KD.use_new (h:KD w B p es n i) {q:Nat} {e:Ent} (he:es[q]? = some e) {h':Option Nat} (a o z:Nat) (hs:Cn w w' e.b e.h h'):New' w p es (es.set q ⟨e.it,e.b,h',a,o,z⟩):=fun j hj=>by
 rcases hj with hj | hj
 ·exact .inl (.inl hj)
 ·rcases h.ring.use_new he a o z hs j hj with y | y
  ·exact .inl (.inr y)
  ·exact .inr y
theorem UP {q:Nat} {e:Ent} (he:es[q]? = some e) {j:Nat} (h:Ow e.b e.h j):KO p es j:=.inr (Rg.XE he h)
theorem KD.put5 (h:KD w B p es n i) (n':Nat):KD (w.setCell ⟨p.k,5,none⟩ (.int .i64 (n':Int))) B p es n' i:=by
 have hc:Chg (fun j=>j=p.k) w (w.setCell ⟨p.k,5,none⟩ (.int .i64 (n':Int))):=Gs _ _ _ _;refine⟨?_,h.ring.chg hc (fun j hj x=>h.kr (x▸hj)),h.tp.chg hc (fun j hj=>⟨by have:=hj.2;have:=h.hi;omega,fun x=>h.kt (x▸hj)⟩),h.lo,h.tlo,Nat.le_trans h.hi hc.size,h.kr,h.kt,h.rt⟩;have:=h.blk.set 5 (.int .i64 (n':Int))
 simpa using this
theorem KD.put6 (h:KD w B p es n i) (i':Nat):KD (w.setCell ⟨p.k,6,none⟩ (.int .i64 (i':Int))) B p es n i':=by
 have hc:Chg (fun j=>j=p.k) w (w.setCell ⟨p.k,6,none⟩ (.int .i64 (i':Int))):=Gs _ _ _ _;refine⟨?_,h.ring.chg hc (fun j hj x=>h.kr (x▸hj)),h.tp.chg hc (fun j hj=>⟨by have:=hj.2;have:=h.hi;omega,fun x=>h.kt (x▸hj)⟩),h.lo,h.tlo,Nat.le_trans h.hi hc.size,h.kr,h.kt,h.rt⟩;have:=h.blk.set 6 (.int .i64 (i':Int))
 simpa using this
end
structure DP where
 x:Nat
 q:Nat
 lo:Nat
 hi:Nat
 R:L
 T:Tp
 v:Value
 v1:Value
 v2:Value
 v3:Value
def DT (p:DP) (j:Nat):Prop:=p.lo<=j/\j<p.hi
def DA (p:DP) (j:Nat):Prop:=j=p.x\/DO p.q p.v j\/DT p j
structure DK (w:World) (B:Nat) (p:DP) (l:List It) (n m:Nat):Prop where
 blk:Blk w p.x 141 #[.string ⟨p.R.toArray⟩,p.v1,p.v2,p.v3,.pointer (some ⟨p.q,0,none⟩),.int .i64 (n:Int),.int .i64 (m:Int)]
 ring:DRing w B p.q p.v l
 tp:TpK (DT p) w p.v1 p.v2 p.v3 p.T
 lo:B<=p.x
 tlo:B<=p.lo
 hi:p.hi<=w.heap.size
 xr:¬DO p.q p.v p.x
 xt:¬DT p p.x
section
variable {w w':World} {B:Nat} {p:DP} {l:List It} {n m:Nat} {S:Nat->Prop}
theorem DK.da_lt (h:DK w B p l n m) {j:Nat} (hj:DA p j):j<w.heap.size:=by
 rcases hj with hj | hj | hj
 ·subst hj;exact h.blk.lt
 ·exact h.ring.own_lt hj
 ·have:=hj.2;have:=h.hi;omega
theorem DK.lt (h:DK w B p l n m):p.x<w.heap.size:=h.blk.lt
theorem DK.chg (h:DK w B p l n m) (hc:Chg S w w') (hs:∀j,DA p j->¬S j):DK w' B p l n m:=
 ⟨hc.blk h.blk (hs _ (.inl rfl)),h.ring.chg hc (fun j hj=>hs j (.inr (.inl hj))),h.tp.chg hc (fun j hj=>⟨by have:=hj.2;have:=h.hi;omega,hs j (.inr (.inr hj))⟩),h.lo,h.tlo,Nat.le_trans h.hi hc.size,h.xr,h.xt⟩
theorem DK.below (h:DK w B p l n m) (hb:Below w.heap.size w w'):DK w' B p l n m:=h.chg (S:=fun _=>False) (Chg.of_below hb) (fun _ _ x=>x)
end
end Kd
namespace Kd
open Go.RowKit Af Se
open Rg (It Ent Ring RO its)
def Cz (es:List Ent) (c:Nat):Prop:=∀(j:Nat) (e:Ent),es[j]? = some e->e.a<=c/\e.o<=c/\e.r<=c
theorem Cz.mono {es:List Ent} {c c':Nat} (h:Cz es c) (hc:c<=c'):Cz es c':=fun j e he=>by have:=h j e he;omega
theorem Cz.set {es:List Ent} {c q:Nat} {e:Ent} (h:Cz es c) (he:es[q]? = some e) {h':Option Nat} {a o r:Nat} (h1:a<=e.a+1) (h2:o<=e.o+1) (h3:r<=e.r+1):Cz (es.set q ⟨e.it,e.b,h',a,o,r⟩) (c+1):=fun j f hf=>by
 have hq:=(List.getElem?_eq_some_iff.1 he).1
 by_cases g:q=j
 ·subst g
  rw[List.getElem?_set_self hq] at hf;injection hf with hf;subst hf;have:=h q e he;show a<=c+1/\o<=c+1/\r<=c+1;omega
 ·rw[List.getElem?_set_ne g] at hf
  have:=h j f hf;omega
def bts (es:List Ent):List (It×Nat):=es.map fun e=>(e.it,e.b)
theorem KZ {es es':List Ent} (h:bts es'=bts es):its es'=its es:=by
 have h1:its es'=(bts es').map Prod.fst:=by simp [its,bts]
 have h2:its es=(bts es).map Prod.fst:=by simp [its,bts]
 rw[h1,h2,h]
theorem XG {es es':List Ent} (h:bts es'=bts es):es'.length=es.length:=by
 have:=congrArg List.length h
 simpa [bts] using this
theorem XH {es:List Ent} {q:Nat} {e:Ent} (he:es[q]? = some e) (h':Option Nat) (a o r:Nat):bts (es.set q ⟨e.it,e.b,h',a,o,r⟩)=bts es:=by
 have hi:=(List.getElem?_eq_some_iff.1 he).1;unfold bts;apply List.ext_getElem?;intro j;rw[List.getElem?_map,List.getElem?_map]
 by_cases g:q=j
 ·subst g;rw[List.getElem?_set_self hi,he];rfl
 ·rw[List.getElem?_set_ne g]
theorem ZB {es es':List Ent} (h:bts es'=bts es) {q:Nat} {e:Ent} (he:es[q]? = some e):∃e',es'[q]? = some e'/\e'.it=e.it/\e'.b=e.b:=by
 have h1:(bts es)[q]? = some (e.it,e.b):=by simp [bts,he]
 rw[<-h] at h1;have h1:(es'[q]?).map (fun e=>(e.it,e.b))=some (e.it,e.b):=by simpa [bts] using h1
 obtain⟨e',h2,h3⟩:=Option.map_eq_some_iff.1 h1;injection h3 with h4 h5;exact⟨e',h2,h4,h5⟩
structure Ss where
 b:Nat
 ks:Nat->UInt8
 h:Option Nat
 a:Nat
 o:Nat
 r:Nat
def SO (s:Option Ss) (j:Nat):Prop:=∃z,s=some z/\Ow z.b z.h j
def KSO (p:KP) (es:List Ent) (s:Option Ss) (j:Nat):Prop:=KO p es j\/SO s j
structure KS (w:World) (B:Nat) (p:KP) (es:List Ent) (s:Option Ss) (n i c:Nat):Prop where
 k:KD w B p es n i
 hB:B<=w.heap.size
 sx:∀z,s=some z->Box w z.b z.ks z.h z.a z.o z.r/\z.a<=c/\z.o<=c/\z.r<=c
 ap:∀j,SO s j->¬KA p es j
 sl:∀j,SO s j->B<=j
 cz:Cz es c
structure Kn (w0 w:World) (B:Nat) (p:KP) (es0:List Ent) (s0:Option Ss) (es:List Ent) (s:Option Ss) (n i c:Nat):Prop where
 st:KS w B p es s n i c
 eq:bts es=bts es0
 sq:∀z0,s0=some z0->∃z,s=some z/\z.b=z0.b/\z.ks=z0.ks
 chg:Chg (KSO p es0 s0) w0 w
 nw:∀j,KSO p es s j->KSO p es0 s0 j\/w0.heap.size<=j
section
variable {w0 w w':World} {B:Nat} {p:KP} {es0 es es':List Ent} {s0 s s':Option Ss} {n i c n' i' c':Nat}
theorem KS.kso_lt (h:KS w B p es s n i c) {j:Nat} (hj:KSO p es s j):j<w.heap.size:=by
 rcases hj with hj | ⟨z,hz,hj⟩
 ·exact h.k.ko_lt hj
 ·exact(h.sx z hz).1.own_lt j hj
theorem KS.kso_lo (h:KS w B p es s n i c) {j:Nat} (hj:KSO p es s j):B<=j:=by
 rcases hj with hj | hj
 ·exact h.k.ko_lo hj
 ·exact h.sl j hj
theorem KS.below (h:KS w B p es s n i c) (hb:Below w.heap.size w w'):KS w' B p es s n i c:=
 ⟨h.k.below hb,Nat.le_trans h.hB hb.size,fun z hz=>⟨(h.sx z hz).1.below hb,(h.sx z hz).2⟩,h.ap,h.sl,h.cz⟩
theorem KS.chg {S:Nat->Prop} (h:KS w B p es s n i c) (hc:Chg S w w') (hs:∀j,KA p es j\/SO s j->¬S j):KS w' B p es s n i c:=
 ⟨h.k.chg hc (fun j hj=>hs j (.inl hj)),Nat.le_trans h.hB hc.size,fun z hz=>⟨(h.sx z hz).1.chg hc (fun j hj=>hs j (.inr ⟨z,hz,hj⟩)),(h.sx z hz).2⟩,h.ap,h.sl,h.cz⟩
theorem KS.more (h:KS w B p es s n i c) (hc:c<=c'):KS w B p es s n i c':=⟨h.k,h.hB,fun z hz=>⟨(h.sx z hz).1,by have:=(h.sx z hz).2;omega⟩,h.ap,h.sl,h.cz.mono hc⟩
theorem KS.no_s (h:KS w B p es s n i c):KS w B p es none n i c:=⟨h.k,h.hB,fun z hz=>(by cases hz),fun j hj=>(by obtain⟨z,hz,_⟩:=hj;cases hz),fun j hj=>(by obtain⟨z,hz,_⟩:=hj;cases hz),h.cz⟩
theorem KS.with_s (h:KS w B p es none n i c) {b:Nat} {ks:Nat->UInt8} (hb:w.heap.size<=b) (hx:Box w' b ks none 0 0 0) (hw:Below w.heap.size w w'):KS w' B p es (some ⟨b,ks,none,0,0,0⟩) n i c:=by
 have ho:∀j,SO (some ⟨b,ks,none,0,0,0⟩) j->j=b:=fun j hj=>by
  obtain⟨z,hz,hj⟩:=hj;injection hz with hz;subst hz;rcases hj with hj | hj
  ·exact hj
  ·cases hj
 refine⟨h.k.below hw,Nat.le_trans h.hB hw.size,fun z hz=>?_,fun j hj x=>?_,fun j hj=>?_,h.cz⟩
 ·injection hz with hz
  subst hz;exact⟨hx,Nat.zero_le _,Nat.zero_le _,Nat.zero_le _⟩
 ·have:=ho j hj
  have:=h.k.ka_lt x;omega
 ·have:=ho j hj
  have:=h.hB;omega
theorem Kn.refl (h:KS w B p es s n i c):Kn w w B p es s es s n i c:=⟨h,rfl,fun z hz=>⟨z,hz,rfl,rfl⟩,Chg.refl _ _,fun _ x=>.inl x⟩
theorem Kn.below (h:Kn w0 w B p es0 s0 es s n i c) (hb:Below w.heap.size w w'):Kn w0 w' B p es0 s0 es s n i c:=
 ⟨h.st.below hb,h.eq,h.sq,h.chg.trans (Chg.of_below (S:=fun _=>False) hb) (fun _ _ x=>x.elim),h.nw⟩
theorem Kn.drew (h:Kn w0 w B p es0 s0 es s n i c):Kn w0 w.drew B p es0 s0 es s n i c:=h.below (below_drewN Ah 1)
theorem Kn.start (h:KS w B p es s n i c) (hb:Below w.heap.size w w'):Kn w w' B p es s es s n i c:=(Kn.refl h).below hb
theorem Kn.size (h:Kn w0 w B p es0 s0 es s n i c):w0.heap.size<=w.heap.size:=h.chg.size
theorem Kn.trans (h:Kn w0 w B p es0 s0 es s n i c) (g:Kn w w' B p es s es' s' n' i' c'):Kn w0 w' B p es0 s0 es' s' n' i' c':=by
 refine⟨g.st,g.eq.trans h.eq,fun z0 hz0=>?_,h.chg.trans g.chg (fun j hj x=>?_),fun j hj=>?_⟩
 ·obtain⟨z,hz,h1,h2⟩:=h.sq z0 hz0
  obtain⟨z',hz',h3,h4⟩:=g.sq z hz;exact⟨z',hz',h3.trans h1,h4.trans h2⟩
 ·rcases h.nw j x with y | y
  ·exact y
  ·omega
 ·rcases g.nw j hj with y | y
  ·exact h.nw j y
  ·have:=h.size;exact .inr (by omega)
theorem Kn.blk {P:Nat} {t:TypeId} {cs:Array Value} (h:Kn w0 w B p es0 s0 es s n i c) (hb:Blk w0 P t cs) (hn:¬KSO p es0 s0 P):Blk w P t cs:=h.chg.blk hb hn
theorem Kn.sl {v:Value} {l:Nm.L} (h:Kn w0 w B p es0 s0 es s n i c) (hs:SlN (KSO p es0 s0) w0 v l):SlN (KSO p es s) w v l:=
 hs.keep h.chg (fun _ _ x=>x) (fun j hj x=>by
  rcases h.nw j x with y | y
  ·exact y
  ·omega)
def Out (w0:World) (p:KP) (es:List Ent) (s:Option Ss) (j:Nat):Prop:=j<w0.heap.size\/KSO p es s j
theorem Kn.o {v:Value} {l:Nm.L} {a:World} (h:Kn w0 w B p es0 s0 es s n i c) (ha:a.heap.size<=w0.heap.size) (hs:SlN (Out a p es0 s0) w0 v l):SlN (Out a p es s) w v l:=
 hs.keep h.chg (fun _ _ x=>.inr x) (fun j hj x=>by
  rcases x with x | x
  ·exact .inl x
  ·rcases h.nw j x with y | y
   ·exact .inr y
   ·omega)
theorem Out.old {v:Value} {l:Nm.L} {a b:World} (ha:a.heap.size<=b.heap.size) (hs:SlN (Out b p es s) w v l):SlN (Out a p es s) w v l:=hs.mono (fun j _ x=>by
 rcases x with x | x
 ·exact .inl (by omega)
 ·exact .inr x)
theorem Out.new {A:Option Addr} {l:Nm.L} {m:Nat} {a:World} (h:KS w B p es s n i c) (hw:Below w.heap.size w w') (ha:a.heap.size<=w.heap.size) (hm:l.length<=m) (hr:RdA (fun j=>j<w.heap.size) w' A (bvs l)):SlN (Out a p es s) w' (.slice A l.length m) l:=
 ⟨A,m,rfl,hm,hr.mono (fun j _ x=>by
  rcases x with x | x
  ·omega
  ·exact h.kso_lt x)⟩
def Hdl (es:List Ent) (s:Option Ss) (x:Nat) (ks:Nat->UInt8):Prop:=(∃(q:Nat) (e:Ent),es[q]? = some e/\e.b=x/\e.it.k=ks)\/(∃z,s=some z/\z.b=x/\z.ks=ks)
theorem Kn.hdl {x:Nat} {ks:Nat->UInt8} (h:Kn w0 w B p es0 s0 es s n i c) (hh:Hdl es0 s0 x ks):Hdl es s x ks:=by
 rcases hh with⟨q,e,he,h1,h2⟩ | ⟨z,hz,h1,h2⟩
 ·obtain⟨e',he',h3,h4⟩:=ZB h.eq he
  exact .inl ⟨q,e',he',by rw[h4];exact h1,by rw[h3];exact h2⟩
 ·obtain⟨z',hz',h3,h4⟩:=h.sq z hz
  exact .inr ⟨z',hz',h3.trans h1,h4.trans h2⟩
theorem KS.use_r (h:KS w B p es s n i c) {q:Nat} {e:Ent} (he:es[q]? = some e) {h':Option Nat} {a o r:Nat} (hx:Box w' e.b e.it.k h' a o r) (hs:Cn w w' e.b e.h h') (h1:a<=e.a+1) (h2:o<=e.o+1) (h3:r<=e.r+1) :
  Kn w w' B p es s (es.set q ⟨e.it,e.b,h',a,o,r⟩) s n i (c+1):=by
 have hr:=h.k.ring.use he hx hs h.hB;have hk:=h.k.use he hr hs;have hn:=h.k.use_new he a o r hs;refine⟨⟨hk,Nat.le_trans h.hB hs.1.size,fun z hz=>⟨(h.sx z hz).1.chg hs.1 (fun j hj x=>h.ap j ⟨z,hz,hj⟩ (.inl (UP he x))),by have:=(h.sx z hz).2;omega⟩,fun j hj x=>?_,h.sl,h.cz.set he h1 h2 h3⟩,XH he _ _ _ _,fun z hz=>⟨z,hz,rfl,rfl⟩,hs.1.mono (fun j _ x=>.inl (UP he x)),fun j hj=>?_⟩
 ·rcases x with x | x
  ·rcases hn j x with y | y
   ·exact h.ap j hj (.inl y)
   ·obtain⟨z,hz,hj⟩:=hj
    have:=(h.sx z hz).1.own_lt j hj;omega
  ·exact h.ap j hj (.inr x)
 ·rcases hj with hj | hj
  ·rcases hn j hj with y | y
   ·exact .inl (.inl y)
   ·exact .inr y
  ·exact .inl (.inr hj)
theorem KS.use_s {z:Ss} (h:KS w B p es (some z) n i c) {h':Option Nat} {a o r:Nat} (hx:Box w' z.b z.ks h' a o r) (hs:Cn w w' z.b z.h h') (h1:a<=z.a+1) (h2:o<=z.o+1) (h3:r<=z.r+1) :
  Kn w w' B p es (some z) es (some ⟨z.b,z.ks,h',a,o,r⟩) n i (c+1):=by
 have hz:=h.sx z rfl;have hnew:∀j,Ow z.b h' j->Ow z.b z.h j\/w.heap.size<=j:=fun j hj=>by
  rcases Nat.lt_or_ge j w.heap.size with g | g
  ·exact .inl (hs.own j g hj)
  ·exact .inr g
 have hso:∀j,SO (some ⟨z.b,z.ks,h',a,o,r⟩) j->Ow z.b h' j:=fun j hj=>by
  obtain⟨y,hy,hj⟩:=hj;injection hy with hy;subst hy;exact hj
 refine⟨⟨h.k.chg hs.1 (fun j hj x=>h.ap j ⟨z,rfl,x⟩ hj),Nat.le_trans h.hB hs.1.size,fun y hy=>?_,fun j hj x=>?_,fun j hj=>?_,h.cz.mono (by omega)⟩,rfl,fun y hy=>?_,hs.1.mono (fun j _ x=>.inr ⟨z,rfl,x⟩),fun j hj=>?_⟩
 ·injection hy with hy
  subst hy;refine⟨hx,?_,?_,?_⟩
  ·show a<=c+1;omega
  ·show o<=c+1;omega
  ·show r<=c+1;omega
 ·rcases hnew j (hso j hj) with y | y
  ·exact h.ap j ⟨z,rfl,y⟩ x
  ·have:=h.k.ka_lt x;omega
 ·rcases hnew j (hso j hj) with y | y
  ·exact h.sl j ⟨z,rfl,y⟩
  ·have:=h.hB;omega
 ·injection hy with hy
  subst hy;exact⟨_,rfl,rfl,rfl⟩
 ·rcases hj with hj | hj
  ·exact .inl (.inl hj)
  ·rcases hnew j (hso j hj) with y | y
   ·exact .inl (.inr ⟨z,rfl,y⟩)
   ·exact .inr y
theorem KS.put5 (h:KS w B p es s n i c) (n':Nat):Kn w (w.setCell ⟨p.k,5,none⟩ (.int .i64 (n':Int))) B p es s es s n' i c:=by
 have hc:Chg (fun j=>j=p.k) w (w.setCell ⟨p.k,5,none⟩ (.int .i64 (n':Int))):=Gs _ _ _ _;exact⟨⟨h.k.put5 n',Nat.le_trans h.hB hc.size,fun z hz=>⟨(h.sx z hz).1.chg hc (fun j hj x=>h.ap j ⟨z,hz,hj⟩ (x▸.inl (.inl rfl))),(h.sx z hz).2⟩,h.ap,h.sl,h.cz⟩,rfl,fun z hz=>⟨z,hz,rfl,rfl⟩,hc.mono (fun j _ x=>.inl (.inl x)),fun _ x=>.inl x⟩
theorem KS.put6 (h:KS w B p es s n i c) (i':Nat):Kn w (w.setCell ⟨p.k,6,none⟩ (.int .i64 (i':Int))) B p es s es s n i' c:=by
 have hc:Chg (fun j=>j=p.k) w (w.setCell ⟨p.k,6,none⟩ (.int .i64 (i':Int))):=Gs _ _ _ _;exact⟨⟨h.k.put6 i',Nat.le_trans h.hB hc.size,fun z hz=>⟨(h.sx z hz).1.chg hc (fun j hj x=>h.ap j ⟨z,hz,hj⟩ (x▸.inl (.inl rfl))),(h.sx z hz).2⟩,h.ap,h.sl,h.cz⟩,rfl,fun z hz=>⟨z,hz,rfl,rfl⟩,hc.mono (fun j _ x=>.inl (.inl x)),fun _ x=>.inl x⟩
theorem Kn.drop (h:Kn w0 w B p es0 none es s n i c):Kn w0 w B p es0 none es none n i c:=
 ⟨h.st.no_s,h.eq,fun z hz=>(by cases hz),h.chg,fun j hj=>h.nw j (by
  rcases hj with hj | ⟨z,hz,_⟩
  ·exact .inl hj
  ·cases hz)⟩
theorem Kn.with_s (h:Kn w0 w B p es0 none es none n i c) {b:Nat} {ks:Nat->UInt8} (hb:w.heap.size<=b) (hx:Box w' b ks none 0 0 0) (hw:Below w.heap.size w w'):Kn w0 w' B p es0 none es (some ⟨b,ks,none,0,0,0⟩) n i c:=
 ⟨h.st.with_s hb hx hw,h.eq,fun z hz=>by(cases hz),h.chg.trans (Chg.of_below (S:=fun _=>False) hw) (fun _ _ x=>x.elim),fun j hj=>by
  rcases hj with hj | ⟨z,hz,hj⟩
  ·exact h.nw j (.inl hj)
  ·injection hz with hz
   subst hz;have:=h.size;rcases hj with hj | hj
   ·have hj:j=b:=hj
    exact .inr (by omega)
   ·cases hj⟩
theorem Kn.base (h:Kn w0 w B p es0 s0 es s n i c) (hk:KS w0 B p es0 s0 n' i' c'):Below B w0 w:=h.chg.below hk.hB (fun j _ hj=>hk.kso_lo hj)
end
end Kd
namespace Kd
open Go.RowKit Af Se
open Rg (It Ent its addL addE addN Num Bw)
theorem OE (a:Bool) {j:Nat} {i:It} (h:(itX a)[j]? = some i):addE ((itX a).take j) i.p=0:=by
 cases a with
 |false=>
  match j,h with
  |0,h=>injection h with h;subst h;decide +kernel
  |1,h=>injection h with h;subst h;decide +kernel
  |2,h=>injection h with h;subst h;decide +kernel
  |3,h=>injection h with h;subst h;decide +kernel
  |4,h=>injection h with h;subst h;decide +kernel
  |j+5,h=>simp [itX,itA] at h
 |true=>
  match j,h with
  |0,h=>injection h with h;subst h;decide +kernel
  |1,h=>injection h with h;subst h;decide +kernel
  |2,h=>injection h with h;subst h;decide +kernel
  |3,h=>injection h with h;subst h;decide +kernel
  |j+4,h=>simp [itX,itE] at h
theorem VZ (a:Bool) {j:Nat} {i:It} (h:(itX a)[j]? = some i):Bw ((itX a).take j) i.p=0/\i.n=1:=by
 cases a with
 |false=>
  match j,h with
  |0,h=>injection h with h;subst h;decide +kernel
  |1,h=>injection h with h;subst h;decide +kernel
  |2,h=>injection h with h;subst h;decide +kernel
  |3,h=>injection h with h;subst h;decide +kernel
  |4,h=>injection h with h;subst h;decide +kernel
  |j+5,h=>simp [itX,itA] at h
 |true=>
  match j,h with
  |0,h=>injection h with h;subst h;decide +kernel
  |1,h=>injection h with h;subst h;decide +kernel
  |2,h=>injection h with h;subst h;decide +kernel
  |3,h=>injection h with h;subst h;decide +kernel
  |j+4,h=>simp [itX,itE] at h
theorem Wa (a:Bool) {j:Nat} {i:It} (h:(itX a)[j]? = some i):(itX a).take (j+1)=(itX a).take j++[⟨i.p,Bw ((itX a).take j) i.p+1,i.k⟩]:=by
 obtain⟨h1,h2⟩:=VZ a h;rw[h1,List.take_add_one,h];obtain⟨p,n,k⟩:=i;simp only at h2;subst h2
 rfl
theorem UQ {l:List It} (h:Num l) (k:Nat):Num (l.take k):=by
 intro j i hj;have hjk:j<k:=by
  have:=(List.getElem?_eq_some_iff.1 hj).1;rw[List.length_take] at this;omega
 rw[List.getElem?_take_of_lt hjk] at hj;have h1:=h j i hj;have e:Rg.Bo (l.take k) i.p j=Rg.Bo l i.p j:=by
  have h2:j<=(l.take k).length:=by
   have:=(List.getElem?_eq_some_iff.1 hj).1;rw[List.length_take];omega
  have h3:=Rg.JQ (l:=l.take k) (m:=l.drop k) (p:=i.p) h2;rw[List.take_append_drop] at h3;exact h3.symm
 rw[e,h1]
 congr 1
 cases ho:Rg.Bo l i.p j with
 |none=>rfl
 |some q=>
  have hq:=(Rg.Gj ho).1;show((l[q]?).map (·.n)).getD 0=(((l.take k)[q]?).map (·.n)).getD 0;rw[List.getElem?_take_of_lt (by omega)]
end Kd
namespace Kd
open Go.RowKit Af Se
open Ms (Pt Rp Re An Tk ptC rpC reC anC tkC prC pr0)
abbrev prV (p:Nm.L×Nm.L):Value:=.agg #[.string ⟨p.1.toArray⟩,.string ⟨p.2.toArray⟩]
abbrev keyA (d:Nm.L):Array Value:=(bvs d).toArray
abbrev ptA (P:Pt):Array Value:=(ptC P).toArray
abbrev rpA (P:Rp):Array Value:=(rpC P).toArray
abbrev anA (a:An):Array Value:=(anC a).toArray
theorem GS {l:List Value} (h:∀v∈l,v.oneCell'=true):l.toArray.all (·.oneCell')=true:=by
 rw[List.all_toArray,List.all_eq_true];exact h
theorem Wb (p:Nm.L×Nm.L):∀v∈prC p,v.oneCell'=true:=by
 intro v hv;simp only[prC,List.mem_cons,List.not_mem_nil,or_false] at hv;rcases hv with rfl | rfl<;>rfl
theorem SF {d:Nm.L} (h:d.length=32):(keyA d).size=32:=by simp [bvs,h]
theorem BQ {d:Nm.L} (h:d.length=32):(Tryz.prog.info? 35).map (·.size)=some (keyA d).size:=by rw[SF h];kernel_rfl
theorem DG {P:Pt} (h:P.ss.length=32):(ptA P).size=37:=by simp [ptC,prC,bvs,h]
theorem Gt (P:Pt):(ptA P).all (·.oneCell')=true:=GS fun v hv=>by
 simp only[ptC,List.mem_append,List.mem_cons,List.not_mem_nil,or_false] at hv;rcases hv with hv | hv | rfl | rfl | rfl
 ·exact Wb _ v hv
 ·exact Bl _ v hv
 ·rfl
 ·rfl
 ·rfl
theorem FA {P:Pt} (h:P.ss.length=32):(Tryz.prog.info? 39).map (·.size)=some (ptA P).size:=by rw[DG h];kernel_rfl
theorem OF {P:Rp} (h:P.ss.length=32):(rpA P).size=37:=by simp [rpC,prC,bvs,h]
theorem XI (P:Rp):(rpA P).all (·.oneCell')=true:=GS fun v hv=>by
 simp only[rpC,List.mem_append,List.mem_cons,List.not_mem_nil,or_false] at hv;rcases hv with hv | hv | rfl | rfl | rfl
 ·exact Bl _ v hv
 ·exact Wb _ v hv
 ·rfl
 ·rfl
 ·rfl
theorem XJ {P:Rp} (h:P.ss.length=32):(Tryz.prog.info? 180).map (·.size)=some (rpA P).size:=by rw[OF h];kernel_rfl
section
variable {w:World} {g:Nat} {t:TypeId} {P:Pt}
theorem ZC (h:P.ss.length=32) {o:Nat} {mid:List Value} (hb:Blk w g t (ptA P)) (hc:∃pre post,ptC P=pre++(mid++post)/\o=pre.length):w.rangeAt g o mid:=by
 obtain⟨pre,post,h1,h2⟩:=hc;exact Wh.Cw (pre:=pre) (post:=post) hb (by rw[<-h1]) o h2
theorem Ka (h:P.ss.length=32) (hb:Blk w g t (ptA P)):w.rangeAt g 2 (keyA P.ss).toList:=by
 refine ZC h hb ⟨prC P.c,[.string ⟨P.tr.toArray⟩,.int .i64 P.st,.int .i64 P.en],?_,rfl⟩;simp [ptC]
theorem pt_0 (hb:Blk w g t (ptA P)):w.cell? ⟨g,0,none⟩=some (.string ⟨P.c.1.toArray⟩):=by rw[hb.cell];rfl
theorem pt_1 (hb:Blk w g t (ptA P)):w.cell? ⟨g,1,none⟩=some (.string ⟨P.c.2.toArray⟩):=by rw[hb.cell];rfl
theorem XK (h:P.ss.length=32) (hb:Blk w g t (ptA P)):w.rangeAt g 34 [.string ⟨P.tr.toArray⟩,.int .i64 P.st,.int .i64 P.en]:=by
 refine ZC h hb ⟨prC P.c++bvs P.ss,[],?_,?_⟩
 ·simp [ptC]
 ·simp [prC,bvs,h]
theorem pt_34 (h:P.ss.length=32) (hb:Blk w g t (ptA P)):w.cell? ⟨g,34,none⟩=some (.string ⟨P.tr.toArray⟩):=XK h hb 0 _ rfl
theorem XL (h:P.ss.length=32) (hb:Blk w g t (ptA P)):w.cell? ⟨g,35,none⟩=some (.int .i64 P.st):=XK h hb 1 _ rfl
theorem UR (h:P.ss.length=32) (hb:Blk w g t (ptA P)):w.cell? ⟨g,36,none⟩=some (.int .i64 P.en):=XK h hb 2 _ rfl
end
theorem bk_rp (f:Nat->UInt8) (s:Nm.L×Nm.L) (a b n:Int):Tryz.prog.built 180 [(0,.agg (AO f)),(1,prV s),(2,.int .i64 a),(3,.int .i64 b),(4,.int .i64 n)]=some ((AO f).toList++(prC s++([.int .i64 a,.int .i64 b,.int .i64 n]:List Value))).toArray:=by
 kernel_rfl
theorem bk_pt (f:Nat->UInt8) (c:Nm.L×Nm.L) (tr:Nm.L) (a b:Int):Tryz.prog.built 39 [(0,prV c),(1,.agg (AO f)),(2,.string ⟨tr.toArray⟩),(3,.int .i64 a),(4,.int .i64 b)]=some (prC c++((AO f).toList++([.string ⟨tr.toArray⟩,.int .i64 a,.int .i64 b]:List Value))).toArray:=by
 kernel_rfl
theorem ZD (f:Nat->UInt8) (c:Nm.L×Nm.L) (a b:Int):Tryz.prog.built 39 [(0,prV c),(1,.agg (AO f)),(3,.int .i64 a),(4,.int .i64 b)]=some (prC c++((AO f).toList++([.string ⟨([]:Nm.L).toArray⟩,.int .i64 a,.int .i64 b]:List Value))).toArray:=by
 kernel_rfl
theorem US {ss:Nm.L} (h:ss.length=32) (s:Nm.L×Nm.L) (a b n:Int):Tryz.prog.built 180 [(0,.agg (keyA ss)),(1,prV s),(2,.int .i64 a),(3,.int .i64 b),(4,.int .i64 n)]=some (rpA ⟨ss,s,a,b,n⟩):=by
 have e:keyA ss=AO (ksOf ss):=(Jv h).symm;have e2:rpA ⟨ss,s,a,b,n⟩=((AO (ksOf ss)).toList++(prC s++([.int .i64 a,.int .i64 b,.int .i64 n]:List Value))).toArray:=by rw[<-e];simp [rpC]
 rw[e2,e];exact bk_rp _ s a b n
theorem UT {ss:Nm.L} (h:ss.length=32) (c:Nm.L×Nm.L) (tr:Nm.L) (a b:Int):Tryz.prog.built 39 [(0,prV c),(1,.agg (keyA ss)),(2,.string ⟨tr.toArray⟩),(3,.int .i64 a),(4,.int .i64 b)]=some (ptA ⟨c,ss,tr,a,b⟩):=by
 have e:keyA ss=AO (ksOf ss):=(Jv h).symm;have e2:ptA ⟨c,ss,tr,a,b⟩=(prC c++((AO (ksOf ss)).toList++([.string ⟨tr.toArray⟩,.int .i64 a,.int .i64 b]:List Value))).toArray:=by rw[<-e];simp [ptC]
 rw[e2,e];exact bk_pt _ c tr a b
theorem GU {ss:Nm.L} (h:ss.length=32) (c:Nm.L×Nm.L) (a b:Int):Tryz.prog.built 39 [(0,prV c),(1,.agg (keyA ss)),(3,.int .i64 a),(4,.int .i64 b)]=some (ptA ⟨c,ss,[],a,b⟩):=by
 have e:keyA ss=AO (ksOf ss):=(Jv h).symm;have e2:ptA ⟨c,ss,[],a,b⟩=(prC c++((AO (ksOf ss)).toList++([.string ⟨([]:Nm.L).toArray⟩,.int .i64 a,.int .i64 b]:List Value))).toArray:=by rw[<-e];simp [ptC]
 rw[e2,e];exact ZD _ c a b
theorem SG:Tryz.prog.built 39 []=some (ptA Ms.pt0):=by kernel_rfl
theorem AK:(Tryz.prog.info? 43).map (·.size)=some 7:=by kernel_rfl
end Kd
namespace Kd
open Go.RowKit Af Se
open Rg (It Ent Ring RO its)
open SeL (Bd AN Ns)
def oI:Option Nm.L->Int
 |none=>1
 |some _=>0
theorem OG {w w':World} {o:Option Nm.L} {e:Ending} (h:Ms.EncR w o e w'):∃v,e=.returned (.tuple #[v,.int .i64 (oI o)])/\SlN (fun j=>j<w.heap.size) w' v (o.getD [])/\Below w.heap.size w w':=by
 obtain⟨⟨v,i,rfl,h1,h2⟩,hb⟩:=h;cases o with
 |none=>
  obtain⟨rfl,rfl⟩:=h1 rfl;exact⟨_,rfl,⟨none,0,rfl,Nat.le_refl _,.inl rfl⟩,hb⟩
 |some l=>
  obtain⟨rfl,g,c,rfl,h3,h4,h5⟩:=h2 l rfl;refine⟨_,rfl,⟨_,c,rfl,h4,?_⟩,hb⟩;rcases h5 with h5 | ⟨b,o,h6,h7,h8⟩
  ·exact .inl h5
  ·injection h6 with h6
   injection h6 with e1 e2 _;subst e1 e2;exact .inr ⟨_,_,rfl,h7,by omega,h8⟩
section
variable {w w':World} {B:Nat} {p:KP} {es:List Ent} {s:Option Ss} {n i c:Nat}
theorem SH {q:Nat} {e:Ent} (he:es[q]? = some e) {h':Option Nat} {a o r j:Nat} (hj:KSO p (es.set q ⟨e.it,e.b,h',a,o,r⟩) s j):KSO p es s j\/Ow e.b h' j:=by
 have hq:=(List.getElem?_eq_some_iff.1 he).1;rcases hj with(hj | hj | hj | ⟨k,f,hf,hj⟩) | hj
 ·exact .inl (.inl (.inl hj))
 ·exact .inl (.inl (.inr (.inl hj)))
 ·exact .inl (.inl (.inr (.inr (.inl hj))))
 ·by_cases g:q=k
  ·subst g
   rw[List.getElem?_set_self hq] at hf;injection hf with hf;subst hf;exact .inr hj
  ·rw[List.getElem?_set_ne g] at hf
   exact .inl (.inl (.inr (.inr (.inr ⟨k,f,hf,hj⟩))))
 ·exact .inl (.inr hj)
theorem Wc {N:Nat} (h:N<=1000000):(Lit.int .i64 ((N:Nat):Int)).wf=true:=by
 simp [Lit.wf,IntKind.min,IntKind.max,IntKind.signed,IntKind.bits];omega
theorem UU {x:Nat} {ks:Nat->UInt8} (h:KS w B p es s n i c) (hh:Hdl es s x ks) (hc:c<1000000) (u:Int) (N:Nat) (hN:N<=1000000) (v:Value) (l:Nm.L) (hl:l.length<=2000) (hv:SlN (KSO p es s) w v l) :
  Calls Tryz.prog 122 #[.pointer (some ⟨x,0,none⟩),.int .i64 u,.int .i64 (N:Int),v] w fun e w'=>∃v2 er es' s',e=.returned (.tuple #[v2,.int .i64 er])/\SlN (Out w p es' s') w' v2 (Bd ks u (N:Int) l).1/\Kn w w' B p es s es' s' n i (c+1):=by
 obtain⟨A,m,rfl,hm1,hr⟩:=hv;rcases hh with⟨q,e,he,rfl,rfl⟩ | ⟨z,hz,rfl,rfl⟩
 ·have hcz:=h.cz q e he
  refine(SeL.Ov e.b e.it.k e.h e.a e.o e.r u (N:Int) A l.length m l w (by omega) (Wc hN) rfl (by unfold maxLen;omega) (hr.mono fun j _ hj=>.inl (UP he hj)) (h.k.ring.box q e he)).mono ?_;rintro e1 w1 ⟨A2,c2,h',a',rfl,h1,h2,h3,h4,h5,h6⟩;refine⟨_,_,es.set q ⟨e.it,e.b,h',a',e.o,e.r⟩,s,rfl,⟨A2,c2,rfl,h1,h3.mono fun j _ hj=>?_⟩,h.use_r he h4 h5 h6 (by omega) (by omega)⟩;rcases hj with hj | hj
  ·exact .inl hj
  ·rcases SH he hj with g | g
   ·exact .inl (h.kso_lt g)
   ·exact .inr g
 ·subst hz
  have hx:=h.sx z rfl;refine(SeL.Ov z.b z.ks z.h z.a z.o z.r u (N:Int) A l.length m l w (by omega) (Wc hN) rfl (by unfold maxLen;omega) (hr.mono fun j _ hj=>.inr ⟨z,rfl,hj⟩) hx.1).mono ?_;rintro e1 w1 ⟨A2,c2,h',a',rfl,h1,h2,h3,h4,h5,h6⟩;refine⟨_,_,es,some ⟨z.b,z.ks,h',a',z.o,z.r⟩,rfl,⟨A2,c2,rfl,h1,h3.mono fun j _ hj=>?_⟩,h.use_s h4 h5 h6 (by omega) (by omega)⟩;rcases hj with hj | hj | ⟨y,hy,hj⟩
  ·exact .inl hj
  ·exact .inl (h.k.ko_lt hj)
  ·injection hy with hy
   subst hy;exact .inr hj
theorem Ep {x:Nat} {ks:Nat->UInt8} (h:KS w B p es s n i c) (hh:Hdl es s x ks) (hc:c<1000000) (u:Int) (v:Value) (l:Nm.L) (hv:SlN (KSO p es s) w v l) :
  Calls Tryz.prog 65 #[.pointer (some ⟨x,0,none⟩),.int .i64 u,v] w fun e w'=>∃v2 es' s',e=.returned (.tuple #[v2,.int .i64 (AN ks u l).2])/\SlN (Out w p es' s') w' v2 (AN ks u l).1/\Kn w w' B p es s es' s' n i (c+1):=by
 obtain⟨A,m,rfl,hm1,hr⟩:=hv;rcases hh with⟨q,e,he,rfl,rfl⟩ | ⟨z,hz,rfl,rfl⟩
 ·have hcz:=h.cz q e he
  refine(LX e.b e.it.k e.h e.a e.o e.r u A l.length m l w (by omega) (by omega) rfl hm1 (hr.mono fun j _ hj=>.inl (UP he hj)) (h.k.ring.box q e he)).mono ?_;rintro e1 w1 ⟨A2,c2,h',o',r',rfl,h1,h2,h3,h4,h5,h6,h7⟩;refine⟨_,es.set q ⟨e.it,e.b,h',e.a,o',r'⟩,s,rfl,⟨A2,c2,rfl,h1,h3.mono fun j _ hj=>?_⟩,h.use_r he h4 h5 (by omega) h6 h7⟩;rcases hj with hj | hj
  ·exact .inl hj
  ·rcases SH he hj with g | g
   ·exact .inl (h.kso_lt g)
   ·exact .inr g
 ·subst hz
  have hx:=h.sx z rfl;refine(LX z.b z.ks z.h z.a z.o z.r u A l.length m l w (by omega) (by omega) rfl hm1 (hr.mono fun j _ hj=>.inr ⟨z,rfl,hj⟩) hx.1).mono ?_;rintro e1 w1 ⟨A2,c2,h',o',r',rfl,h1,h2,h3,h4,h5,h6,h7⟩;refine⟨_,es,some ⟨z.b,z.ks,h',z.a,o',r'⟩,rfl,⟨A2,c2,rfl,h1,h3.mono fun j _ hj=>?_⟩,h.use_s h4 h5 (by omega) h6 h7⟩;rcases hj with hj | hj | ⟨y,hy,hj⟩
  ·exact .inl hj
  ·exact .inl (h.k.ko_lt hj)
  ·injection hy with hy
   subst hy;exact .inr hj
def SealP (w:World) (B:Nat) (p:KP) (es:List Ent) (s:Option Ss) (n i c:Nat) (l:Nm.L) (e:Ending) (w':World):Prop:=
 ∃v2 es' s',e=.returned v2/\SlN (Out w p es' s') w' v2 l/\Kn w w' B p es s es' s' n i c
theorem GV {x:Nat} {ks:Nat->UInt8} (h:KS w B p es s n i c) (hh:Hdl es s x ks) (hc:c<1000000) (hn:n<999990) (u:Int) (v:Value) (l:Nm.L) (hl:l.length<=2000) (hv:SlN (KSO p es s) w v l) :
  Calls Tryz.prog 75 #[.pointer (some ⟨p.k,0,none⟩),.pointer (some ⟨x,0,none⟩),.int .i64 u,v] w (SealP w B p es s (n+1) i (c+1) (Bd ks u ((n+1:Nat):Int) l).1):=by
 have k1:=h.put5 (n+1);have c1:=add_one ⟨p.k,5,none⟩ n w (by omega) (h.k.blk.cell 5) (h.k.blk.frozen 5);have c2:=UU k1.st (k1.hdl hh) hc u (n+1) (by omega) v l hl (k1.sl hv);obtain⟨N,eN⟩:∃N:Int,N=((n+1:Nat):Int):=⟨_,rfl⟩;rw[<-eN] at c1 c2 k1⊢;obtain⟨A,m,ev,hm1,hr⟩:=hv;obtain⟨L0,eL⟩:=Ak (l.length);rw[<-eL] at ev;subst ev;have K1:=I k1;have EN:=I eN;clear h hh hc hn k1 hr eN eL hm1 hl;go_enter Tryz.func75,Tryz.ntmps75
 go_wp2_with (first
  |(go_at_call 76;refine Aj c1 ?_;rintro w1 hw;subst hw;clear c1)
  |(go_at_call 122;refine Calls.mono c2 ?_;rintro e w2 ⟨v2,er,es',s',rfl,hs2,hk2⟩;clear c2;have HS:=I hs2;have HK:=I hk2;clear hs2 hk2)
  |fail)
 go_ret;exact⟨_,es',s',rfl,Out.old K1.o.size HS.o,K1.o.trans HK.o⟩
end
end Kd
namespace Kd
open Go.RowKit Af Se
open SeL (Bd AN Nf Sn Gp)
def Made (w w':World) (v:Value) (l:List UInt8):Prop:=SlN (fun j=>j<w.heap.size) w' v l
theorem UW (w w':World):Made w w' (.slice none 0 0) []:=⟨none,0,rfl,Nat.le_refl _,.inl rfl⟩
theorem ZE (ks:Nat->UInt8) (u N:Int) (A:Option Addr) (m c:Nat) (p:List UInt8) (w:World) (hm:m=p.length) (hr:Rd w w.heap.size A (bvs p)) :
  Calls Tryz.prog 22 #[.agg (AO ks),.int .i64 u,.int .i64 N,.slice A m c] w fun e w'=>∃v,e=.returned (.tuple #[v,.int .i64 (Bd ks u N p).2])/\Made w w' v (Bd ks u N p).1/\Below w.heap.size w w':=by
 by_cases hx:0<=u/\u<=255/\0<=N/\N<=1099511627776/\m<=784
 ·obtain⟨u',rfl⟩:∃k:Nat,u=(k:Int):=⟨u.toNat,by omega⟩
  obtain⟨n',rfl⟩:∃k:Nat,N=(k:Int):=⟨N.toNat,by omega⟩;have e:Bd ks (u':Int) (n':Int) p=(Dt ks u' n' p,0):=by rw[Bd,if_pos (by omega)];rfl
  rw[e];refine(Sj ks u' n' A m c p w (by omega) (by omega) hm (by omega) hr).mono ?_;rintro e w' ⟨A2,c2,rfl,h1,h2,h3,h4⟩;have hl:(Dt ks u' n' p).length=m+16:=by rw[BJ,hm]
  exact⟨_,rfl,⟨A2,c2,by rw[hl],by rw[hl];exact h3,h1⟩,h2⟩
 ·have e:Bd ks u N p=([],1):=by rw[Bd,if_neg (by omega)]
  rw[e];refine(Sh ks u N A m c w hx).mono ?_;rintro e w' ⟨rfl,hb⟩;exact⟨_,rfl,UW _ _,hb⟩
theorem ZF (ks:Nat->UInt8) (u:Int) (A:Option Addr) (n c:Nat) (l:List UInt8) (w:World) (hn:n=l.length) (hc:n<=c) (hr:Rd w w.heap.size A (bvs l)) :
  Calls Tryz.prog 12 #[.agg (AO ks),.int .i64 u,.slice A n c] w fun e w'=>∃A2 c2,e=.returned (.tuple #[.slice A2 (AN ks u l).1.length c2,.int .i64 (AN ks u l).2])/\(AN ks u l).1.length<=c2/\c2<=maxLen/\Rd w' w'.heap.size A2 (bvs (AN ks u l).1)/\Below w.heap.size w w':=by
 by_cases hx:0<=u/\u<=255
 ·obtain⟨u',rfl⟩:∃k:Nat,u=(k:Int):=⟨u.toNat,by omega⟩
  cases hi:isL ks u' l with
  |true=>
   have e:AN ks (u':Int) l=(mixL ks u' (n8 l) (midL l),0):=by rw[AN,if_pos hx];show(if isL ks u' l=true then _ else _)=_;rw[if_pos hi];rfl
   have hl:=Nf hi;have e2:(mixL ks u' (n8 l) (midL l)).length=n - 16:=by rw[Bi,Gp l hl.1,hn]
   rw[e];refine(Jp ks u' A n c l w (by omega) hn hc hr hl.1 hl.2.1 hl.2.2.1).mono ?_;rintro e w' ⟨h1,h2⟩;rw[if_pos hl.2.2.2] at h1;obtain⟨A2,c2,rfl,h3,h4,h5⟩:=h1;exact⟨A2,c2,by rw[e2],by rw[e2];exact h3,h4,h5,h2⟩
  |false=>
   have e:AN ks (u':Int) l=([],3):=by rw[AN,if_pos hx];show(if isL ks u' l=true then _ else _)=_;rw[hi];rfl
   rw[e];rcases Sn hi with h1 | ⟨h1,h2,h3,h4⟩
   ·refine(Nd ks u' A n c l w (by omega) hn hr h1).mono ?_
    rintro e w' ⟨rfl,hb⟩;exact⟨none,0,rfl,Nat.le_refl _,Nat.zero_le _,.inl rfl,hb⟩
   ·refine(Jp ks u' A n c l w (by omega) hn hc hr h1 h2 h3).mono ?_
    rintro e w' ⟨h5,h6⟩;rw[if_neg h4] at h5;exact⟨none,0,h5,Nat.le_refl _,Nat.zero_le _,.inl rfl,h6⟩
 ·have e:AN ks u l=([],1):=by rw[AN,if_neg hx]
  rw[e];refine(Sl ks u A n c w hx).mono ?_;rintro e w' ⟨rfl,hb⟩;exact⟨none,0,rfl,Nat.le_refl _,Nat.zero_le _,.inl rfl,hb⟩
end Kd
namespace Reg
open Go.RowKit Af
section
variable {P:Program} {ops:Array Oper} {Q:Exit->Act->World->Prop} {md:Region.Mode} {S:World->Prop}
theorem AP (i:Nat) {dst:Option Tmp} {sty:TypeId} {x y:Operand} {ty:TypeId} {pos:String} {after:Array _} {guard:Option (Nat×Bool)} {fuel:Nat} {listed:Array Bool} {a:Act} {w:World} (hi:ops[i]? = some ⟨dst,.store sty x y,ty,pos,after,guard⟩)
  (hr:Region.ready md ops listed = [i]) (hw:Region.wanted ⟨dst,.store sty x y,ty,pos,after,guard⟩ (yielded ops a.tmps)=true) (g:Nat) (t:TypeId) (old cells:Array Value) (hb:Blk w g t old) (hx:a.eval x=.pointer (some ⟨g,0,none⟩)) (hy:a.eval y=.agg cells) (hs:old.size=cells.size)
  (hI:(P.info? sty).map (·.size)=some cells.size) (h1:cells.all (·.oneCell')=true)
  (h:∀V,Blk V g t cells->w.grownBy V (some g)->S V/\wpAnyH P md ops Q S fuel (listed.setIfInBounds i true) (a.put dst undef) V):wpAnyH P md ops Q S (fuel+1) listed a w:=by
 have ht:w.there g 0 cells.size:=Wh.Ci hb 0 _ (by omega);have hrun:(execOp a.eval ⟨dst,.store sty x y,ty,pos,after,guard⟩).run P w=.ok .skip (w.setCells g 0 cells.toList):=by
  unfold execOp;simp only[hx,hy,Instr.storeAt,Instr.sureAddr,Sem.run_bind,Sem.run_pure,Result.andThen_ok,run_storeVar_mid w g 0 sty cells ht hI h1]
 obtain⟨h2,h3⟩:=h _ (Wh.AG hb hs) (Wh.DR _ _ _ _);exact Bk i _ hi hr hw hrun h2 h3
theorem tk (i:Nat) {dst:Option Tmp} {op:Op} {ty:TypeId} {pos:String} {after:Array _} {guard:Option (Nat×Bool)} {v:Value} {fuel:Nat} {listed:Array Bool} {a:Act} {w:World} (hi:ops[i]? = some ⟨dst,op,ty,pos,after,guard⟩) (hS:S w)
  (hy:∀w',S w'->(execOp a.eval ⟨dst,op,ty,pos,after,guard⟩).run P w'=.ok (.value v) w')
  (h:wpAnyH P md ops Q S fuel (listed.setIfInBounds i true) (a.put dst v) w)
  (hs:Region.noSelect ops=true:=by kernel_rfl) (hf:Region.free md ops listed i=true:=by kernel_rfl) (hr:(Region.ready md ops listed).contains i=true:=by kernel_rfl)
  (hQ:∀c a w,Q (.panic c) (a.put dst v) w->Q (.panic c) a w:=by exact fun _ _ _ h=>h) (hw:Region.wanted ⟨dst,op,ty,pos,after,guard⟩ (yielded ops a.tmps)=true:=by rfl):wpAnyH P md ops Q S (fuel+1) listed a w:=
 Iv i hi hs hf hr hQ hS hw hy h
theorem s0 {α:Type} (l:List α) (i:Nat) (a:α):l.toArray.setIfInBounds i a=(l.set i a).toArray:=List.setIfInBounds_toArray ..
theorem s1 {α:Type} {x:α} {xs:List α} {a:α}:(x :: xs).set 0 a=a :: xs:=rfl
theorem s2 {α:Type} {x:α} {xs:List α} {n:Nat} {a:α}:(x :: xs).set (n+1) a=x :: xs.set n a:=rfl
end
end Reg
namespace Kd
open Go.RowKit Af Nm Rt
theorem OH (w : World) (base : Nat) (v : Value) (K : List (L × L)) (hown : OwnP w base v K) (p : L × L) (g : Nat) (hc0 : w.cell? ⟨g, 0, none⟩ = some (.string ⟨p.1.toArray⟩)) (hc1 : w.cell? ⟨g, 1, none⟩ = some (.string ⟨p.2.toArray⟩)) (hl : K.length + 1 <= 1000000) (hb : base <= w.heap.size) :
    ∃v' w',(Builtin.append_ #[71,71] 71 #[v,.slice (some ⟨g,0,none⟩) 1 1]).run Tryz.prog w=.ok v' w'/\OwnP w' base v' (K++[p])/\Below base w w'/\w.grownBy w' v.ownBlock:=by
  obtain⟨i0,hi0,hz0,hs0,hb0⟩:=info_parts Ly;obtain ⟨v', w', hrun, h2, h3, _, _⟩ := run_append_own_at (P := Tryz.prog) w base 71 71 138 i0 _ 2 32 Tryz.underlying71 hi0 hz0 hs0 hb0 rfl (by omega) v K.length (prs K) hown ⟨g, 0, none⟩ 1 1 (prs [p]) rfl (fun j u hu => by
      rw[addr_add,Nat.zero_add];have e:prs [p] = [.string ⟨p.1.toArray⟩,.string ⟨p.2.toArray⟩]:=rfl;rw[e] at hu;rcases j with _ | _ | j
      · simp only [List.getElem?_cons_zero, Option.some.injEq] at hu; rw [<- hu]; exact hc0
      · simp only [List.getElem?_cons_succ, List.getElem?_cons_zero, Option.some.injEq] at hu; rw [<- hu]; exact hc1
      · simp at hu) (Rh _) (by unfold maxLen; omega) (by omega) hb
  exact⟨v',w',hrun,by rw[OwnP,List.length_append,JT];exact h2,Ah.grown h3 hb (fun k hk=>(hown.lt k hk).1),h3⟩
theorem DH {a w c:World} {row:Option Nat} (h:a.grownBy w row) (k:Below a.heap.size w c):a.grownBy c row:=
 ⟨k.os.trans h.os,k.tape.trans h.tape,k.output.trans h.output,Nat.le_trans h.size k.size,fun i hi hn=>(k.block i hi).trans (h.block i hi hn)⟩
theorem Qe {w w':World} {base n size:Nat} {t:TypeId} {v:Value} {xs:List Value} (h:w.ownsRow base t size v n xs) (hk:∀g,v.ownBlock=some g->w'.heap[g]? = w.heap[g]?):w'.ownsRow base t size v n xs:=by
 refine⟨h.1,?_⟩;rcases h.2 with h2 | ⟨g,cap,cur,h1,h2,h3,h4⟩
 ·exact .inl h2
 ·refine .inr ⟨g,cap,cur,h1,h2,?_,h4⟩
  subst h1;rw[hk g rfl];exact h3
theorem XM {w w':World} {base n c hi:Nat} {A:Option Addr} {ls:List L} {K:Nat->Prop} (h:Own w base (.slice A n c) ls) (hl:∀k,(Value.slice A n c).ownBlock=some k->base<=k/\k<hi) (hK:∀k,base<=k->k<hi->K k) (hw:∀k o,base<=k->k<hi->w'.cell? ⟨k,o,none⟩=w.cell? ⟨k,o,none⟩):SlK K w' (.slice A n c) ls:=by
 have hc:ls.length<=c:=by
  rcases h.2 with⟨h1,h2⟩ | ⟨g,cap,cur,h1,hg,hh,hc,_⟩
  ·omega
  ·injection h1 with _ _ h1
   omega
 obtain⟨A',c',e,hr⟩:=h.slice;injection e with e1 e2 e3;subst e1 e2 e3;refine⟨A,c,rfl,hc,?_⟩;rcases hr with hr | ⟨b,o,rfl,_,hcell⟩
 ·left
  have h9:=congrArg List.length hr;rw[II] at h9;exact List.eq_nil_of_length_eq_zero h9
 ·obtain⟨h1,h2⟩:=hl b rfl
  exact .inr ⟨b,o,rfl,hK b h1 h2,fun i u hu=>(hw b _ h1 h2).trans (hcell i u hu)⟩
theorem UX {w w':World} {base n c:Nat} {A:Option Addr} {ls:List (L×L)} {K:Nat->Prop} (h:OwnP w base (.slice A n c) ls) (hK:∀k,base<=k->k<w.heap.size->K k) (hw:∀k o,base<=k->k<w.heap.size->w'.cell? ⟨k,o,none⟩=w.cell? ⟨k,o,none⟩):SpK K w' (.slice A n c) ls:=by
 have hl:=h.lt;obtain⟨A',c',e,hc,hr⟩:=h.slice;injection e with e1 e2 e3;subst e1 e2 e3;refine⟨A,c,rfl,hc,?_⟩;rcases hr with hr | ⟨b,o,rfl,_,hcell⟩
 ·exact .inl hr
 ·obtain⟨h1,h2⟩:=hl b rfl
  exact .inr ⟨b,o,rfl,hK b h1 h2,fun i hi=>⟨(hw b _ h1 h2).trans (hcell i hi).1,(hw b _ h1 h2).trans (hcell i hi).2⟩⟩
theorem GW {w:World} {base g j:Nat} {v u:Value} {K:List (L×L)} (h:OwnP w base v K) (hg:g<base):OwnP (w.setCell ⟨g,j,none⟩ u) base v K:=
 Qe h fun b hb=>Below.heap_setCell w _ u b (fun e=>by have h1:=(h.lt b hb).1;simp only at e;omega)
theorem XN {P:List (L×L)} {j:Nat} (h:j<P.length):P.take (j+1)=P.take j++[kl P j]:=by
 rw[List.take_add_one,List.getElem?_eq_getElem h,Ga h];rfl
abbrev tpA (a b:Value):Array Value:=#[a,b,.slice none 0 0]
theorem SI (T:Tp) (hs:Sm T) (hp:T.P = []) (hkt:∀x∈T.K,x.1.length<=3000/\x.2.length<=3000) (v1 v2:Value) (w:World) (h1:SlV w w.heap.size v1 T.R) (h2:SlP w w.heap.size v2 T.K) :
  Calls Tryz.prog 50 #[.agg (tpA v1 v2)] w fun e w'=>∃u1 u2,e=.returned (.agg (tpA u1 u2))/\TpK (fun b=>w.heap.size<=b/\b<w'.heap.size) w' u1 u2 (.slice none 0 0) T/\Below w.heap.size w w':=by
 obtain⟨A1,c1,rfl,hc1,r1⟩:=h1;obtain⟨A2,c2,rfl,hc2,r2⟩:=h2;obtain⟨n,en⟩:=Ak (T.R.length);obtain⟨m,em⟩:=Ak (T.K.length);have hk:=hs.k;obtain⟨W,eW⟩:=Ak ((w.alloc (.cells (tpA (.slice A1 n c1) (.slice A2 m c2)) 74)).alloc (.cells (tpA (.slice none 0 0) (.slice none 0 0)) 74));have hb:Below w.heap.size w W:=eW▸(Ah.alloc Ag _).alloc (by simp) _;have HT:=I (show Blk W w.heap.size 74 (tpA (.slice A1 n c1) (.slice A2 m c2)) from eW▸(Blk.new w _ _).alloc _);have HZ:=I (show Blk W (w.heap.size+1) 74 (tpA (.slice none 0 0) (.slice none 0 0)) by have:=Blk.new (w.alloc (.cells (tpA (.slice A1 n c1) (.slice A2 m c2)) 74)) 74 (tpA (.slice none 0 0) (.slice none 0 0));simp only[World.size_alloc] at this;exact eW▸this);have HB:=I hb;have CC:=I (PZ T.R A1 c1 W (by have:=hs.r;omega) (fun x hx=>hs.rt x hx) ((r1.below hb).more hb.size));have HR2:=I (r2.below hb);rw[<-en] at CC;rw[<-em] at hk;have EM:=I em;have EN:=I en;have HPN:=I hp;have HKT:=I hkt;rw[<-en,<-em];have HZL:=I HZ.o.lt;clear hb r1 r2 hc1 hc2 hs hp hkt en em;go_enter Tryz.func50,Tryz.ntmps50
 go_upto_region 1 with fail
 rw[<-eW];clear eW;have kq0:=HT.o.cell 0
 go_upto_region 2 with(first
  |(go_at_call 97;refine Calls.mono CC.o ?_;rintro e w6 ⟨u1,rfl,ho,hb⟩;clear CC kq0;obtain⟨A6,c6,eu,_⟩:=ho.slice;rw[<-EN.o] at eu;subst eu;have HO:=I ho;have HOK:=ho.lt;replace HT:=I (HT.o.below hb);replace HZ:=I (HZ.o.below hb);replace HR2:=I (HR2.o.below (hb.mono HB.o.size));have HW:=I hb.size;have HWN:=I HB.o.size;replace HB:=HB.t hb;clear ho hb)
  |fail)
 obtain⟨w8,ew8⟩:=Ak (w6.alloc (.cells (tpA (.slice A6 n c6) (.slice none 0 0)) 74));have hb:Below w6.heap.size w6 w8:=ew8▸Ah.alloc Ag _;have HX:=I (show Blk w8 w6.heap.size 74 (tpA (.slice A6 n c6) (.slice none 0 0)) from ew8▸Blk.new w6 _ _);have HP8:=I (show w6.heap.size<w8.heap.size by rw[ew8];simp);replace HT:=I (HT.o.below hb);replace HZ:=I (HZ.o.below hb);replace HO:=I (HO.o.below hb);replace HR2:=I (HR2.o.below (hb.mono HB.o.size));replace HB:=HB.t hb;have HOL:=I (show ∀k,(Value.slice A6 n c6).ownBlock=some k->W.heap.size<=k/\k<w6.heap.size from HOK);rw[<-ew8];clear ew8 hb;obtain⟨P3,eP3⟩:=Ak (w6.heap.size);rw[<-eP3] at HX HP8 HOL⊢;have HW6:=I (show w.heap.size+1<P3 by rw[eP3];have:=HZL.o;have:=HW.o;omega);clear eP3;have kt1:=HT.o.cell 1
 go_upto_region 3 with fail
 clear kt1
 go_loopw [15] (fun iv wr=>∃(j:Nat) (vK:Value),j<=m/\iv=.int .i64 (j:Int)/\Blk wr P3 74 (tpA (.slice A6 n c6) vK)/\OwnP wr w8.heap.size vK (T.K.take j)/\w8.grownBy wr (some P3)) (fun iv _=>m - (intOf iv).toNat)
 case atStart=>exact⟨0,_,Nat.zero_le _,rfl,HX.o,OwnP.nil _ _,World.grownBy.refl _ _⟩
 case round=>
  obtain⟨j,vK,hj,rfl,hx,hop,hg⟩:=hrel;replace HX:=I hx;have HOP:=I hop;have HG:=I hg;have HGS:=I hg.size;have hlt8:=hop.lt;clear hx hop hg;obtain⟨K,eK⟩:=Ak (T.K.take j);rw[<-eK] at HOP;have HEK:=I eK;clear eK;obtain⟨A8,c8,e8,_⟩:=HOP.o.slice;subst e8
  by_cases hlt:j<m
  ·have e1:(j:Int)<(m:Int):=by omega
   have e2:(0:Int)<=(j:Int):=by omega
   have hjm:j<T.K.length:=by rw[<-EM.o];exact hlt
   have HSN:=I (show T.K.take (j+1)=K++[kl T.K j] from HEK.o▸XN hjm);have HL:=I (show K.length<=3000 by rw[HEK.o,List.length_take];omega);have hkk:=HKT.o _ (VJ hjm);have CL1:=I (fun w1=>BO (kl T.K j).1 w1 (by omega));have CL2:=I (fun w1=>BO (kl T.K j).2 w1 (by omega));have HOWN:=I (show ∀k,(Value.slice A8 K.length c8).ownBlock=some k->k<wr.heap.size from fun k hk=>(hlt8 k hk).2);rcases HR2.o with hz | ⟨bz,oz,ez,hbz,hcz⟩
   ·exact absurd hjm (by rw[hz];simp)
   ·subst ez
    have hbn:bz≠P3:=by have:=HW6.o;omega
    have q0:wr.cell? ⟨bz,oz+j*2,none⟩=some (.string ⟨(kl T.K j).1.toArray⟩):=(World.cell?_of_block (a:=⟨bz,oz+j*2,none⟩) (HG.o.block bz (by have:=HW6.o;have:=HP8.o;omega) (fun e=>hbn (by injection e)))).trans (hcz j hjm).1;have q1:wr.cell? ⟨bz,oz+j*2+1,none⟩=some (.string ⟨(kl T.K j).2.toArray⟩):=(World.cell?_of_block (a:=⟨bz,oz+j*2+1,none⟩) (HG.o.block bz (by have:=HW6.o;have:=HP8.o;omega) (fun e=>hbn (by injection e)))).trans (hcz j hjm).2
    go_upto_region 5 with fail
    obtain⟨wt,ewt⟩:=Ak (wr.alloc (.cells #[.string ⟨(kl T.K j).1.toArray⟩,.string ⟨(kl T.K j).2.toArray⟩] 138));have hb:Below wr.heap.size wr wt:=ewt▸Ah.alloc Ag _;have H5:=I (show Blk wt wr.heap.size 138 #[.string ⟨(kl T.K j).1.toArray⟩,.string ⟨(kl T.K j).2.toArray⟩] from ewt▸Blk.new wr _ _);have HPT:=I (show w8.heap.size<=wr.heap.size from HGS.o);rw[<-ewt];clear ewt q0 q1;replace HX:=I (HX.o.below hb);replace HOP:=I (HOP.o.below hb);replace HG:=I (DH HG.o (hb.mono HGS.o));replace HGS:=I (Nat.le_trans HGS.o hb.size);have HG8:=I (show P3<wr.heap.size by have:=HP8.o;have:=HPT.o;omega);clear hb;obtain⟨PT,ePT⟩:=Ak (wr.heap.size);rw[<-ePT] at H5 HPT HOWN HG8⊢;clear ePT hlt8 hkk hjm hcz hbz hbn;refine Reg.Bx (fun w'=>Blk w' PT 138 #[.string ⟨(kl T.K j).1.toArray⟩,.string ⟨(kl T.K j).2.toArray⟩]) 13 rfl (by kernel_rfl) (H5.o.drewN 1) ?_;replace HX:=I (show Blk wt.drew _ _ _ from HX.o.drewN 1);replace H5:=I (show Blk wt.drew _ _ _ from H5.o.drewN 1);replace HOP:=I (show OwnP wt.drew _ _ _ from HOP.o.below (below_drewN Ah 1));replace HG:=I (AU HG.o);replace HGS:=I (show w8.heap.size<=wt.drew.heap.size from HGS.o);obtain⟨W9,eW9⟩:=Ak (wt.drew);rw[<-eW9] at HX H5 HOP HG HGS⊢;clear eW9;refine Reg.ty 0 rfl H5.o ?_;refine Reg.ty 2 rfl H5.o ?_;refine Reg.tw 3 rfl H5.o (fun w' hS=>by have k1:=Blk.cell hS 0;go_simp<;>rfl) ?_;refine Reg.ty 5 rfl H5.o ?_;refine Reg.tw 6 rfl H5.o (fun w' hS=>by have k1:=Blk.cell hS 1;go_simp<;>rfl) ?_;refine Reg.b2 1 4 ?_ ?_
    ·left
     have k1:W9.cell? ⟨P3,1,none⟩=some (.slice A8 K.length c8):=HX.o.cell 1;refine⟨_,_,_,_,_,_,_,W9,rfl,by rfl,by(go_simp;rfl),H5.o,?_⟩;simp only[Act.put,U,Aa,Ab];clear k1;refine Reg.b1 4 ?_
     right
     refine⟨_,_,_,_,_,_,49,#[.string ⟨(kl T.K j).1.toArray⟩],rfl,by rfl,by go_simp,?_⟩;refine Aj (CL1.o W9) ?_;rintro wc1 hb;have hb:=hb;replace HX:=I (HX.o.below hb);replace H5:=I (H5.o.below hb);replace HOP:=I (HOP.o.below hb);replace HG:=I (DH HG.o (hb.mono HGS.o));replace HGS:=I (Nat.le_trans HGS.o hb.size);clear hb;refine⟨_,rfl,H5.o,?_⟩;simp only[Act.put,U,Aa,Ab];refine Reg.b1 7 ?_
     right
     refine⟨_,_,_,_,_,_,49,#[.string ⟨(kl T.K j).2.toArray⟩],rfl,by rfl,by go_simp,?_⟩;refine Aj (CL2.o wc1) ?_;rintro wc2 hb;have hb:=hb;replace HX:=I (HX.o.below hb);replace H5:=I (H5.o.below hb);replace HOP:=I (HOP.o.below hb);replace HG:=I (DH HG.o (hb.mono HGS.o));replace HGS:=I (Nat.le_trans HGS.o hb.size);clear hb;refine⟨_,rfl,H5.o,?_⟩;simp only[Act.put,U,Aa,Ab];refine Reg.ty 8 rfl H5.o ?_;refine Reg.b1 9 ?_
     left
     have hb:Below wc2.heap.size wc2 (wc2.alloc (.cells #[.string ⟨(kl T.K j).1.toArray⟩,.string ⟨(kl T.K j).2.toArray⟩] 138)):=Ah.alloc Ag _;have hnb:=Blk.new wc2 138 #[.string ⟨(kl T.K j).1.toArray⟩,.string ⟨(kl T.K j).2.toArray⟩];refine⟨_,_,_,_,_,_,.slice (some ⟨wc2.heap.size,0,none⟩) 1 1,wc2.alloc (.cells #[.string ⟨(kl T.K j).1.toArray⟩,.string ⟨(kl T.K j).2.toArray⟩] 138),rfl,by rfl,(by go_simp<;>rfl),H5.o.below hb,?_⟩;simp only[Act.put,U,Aa,Ab];obtain⟨wb,ewb⟩:=Ak (wc2.alloc (.cells #[.string ⟨(kl T.K j).1.toArray⟩,.string ⟨(kl T.K j).2.toArray⟩] 138));rw[<-ewb] at hb hnb⊢;clear ewb;obtain⟨PB,ePB⟩:=Ak (wc2.heap.size);rw[<-ePB] at hnb⊢;clear ePB;have HN:=I hnb;clear hnb;have hb:=hb;replace HX:=I (HX.o.below hb);replace H5:=I (H5.o.below hb);replace HOP:=I (HOP.o.below hb);replace HG:=I (DH HG.o (hb.mono HGS.o));replace HGS:=I (Nat.le_trans HGS.o hb.size);clear hb;refine Reg.b1 10 ?_
     left
     obtain⟨v9,w9,hrun,ho9,hb9,hg9⟩:=OH wb w8.heap.size (.slice A8 K.length c8) K HOP.o (kl T.K j) PB (HN.o.cell 0) (HN.o.cell 1) (by have:=HL.o;omega) HGS.o;have h5:Blk w9 PT 138 _:=H5.o.grown hg9 (fun e=>by have:=(HOWN.o PT e);have:=HPT.o;omega);refine⟨_,_,_,_,_,_,v9,w9,rfl,by rfl,by(simp only[execOp,resolve,invoke,builtin,Sem.run_bind,Sem.run_pure,Result.andThen_ok,List.map_toArray,List.map_cons,List.map_nil,Act.eval];refine(congrArg (fun r=>Result.andThen r _) hrun).trans ?_;rfl),h5,?_⟩;simp only[Act.put,U,Aa,Ab];replace H5:=I h5;replace HX:=I (show Blk w9 P3 74 _ from(hb9.block _ HP8.o).trans HX.o);replace HG:=I (DH HG.o hb9);replace HGS:=I (Nat.le_trans HGS.o hb9.size);obtain⟨A7,c7,e7,_⟩:=ho9.slice;rw[show(K++[kl T.K j]).length=K.length+1 by simp] at e7;subst e7;replace HOP:=I ho9;clear hrun ho9 hb9 hg9 h5 HN HOWN;refine Reg.ty 11 rfl H5.o ?_;have f0:=HX.o.frozen 1;have k9:w9.cell? ⟨P3,1,none⟩=some (.slice A8 K.length c8):=HX.o.cell 1;refine Reg.Bk 12 (w9.setCell ⟨P3,1,none⟩ (.slice A7 (K.length+1) c7)) rfl (by kernel_rfl) (by rfl) (by go_simp) (Si.Blk.far H5.o _ _ (show P3≠PT by have:=HPT.o;have:=HP8.o;have:=HG8.o;omega)) ?_;simp only[Act.put,U,Aa,Ab];refine wpAnyH_done (by kernel_rfl) ?_ _;have HX3:=I (HX.o.set 1 (.slice A7 (K.length+1) c7));have HO3:=I (GW (j:=1) (u:=.slice A7 (K.length+1) c7) HOP.o (show P3<w8.heap.size from HP8.o));have HG3:=I (AE HG.o (p:=⟨P3,1,none⟩) (.inl rfl) (.slice A7 (K.length+1) c7));clear f0 k9;rw[<-HSN.o] at HO3
     go_wp2
     go_roundw
     case rel=>exact⟨j+1,_,by omega,by go_num,HX3.o,HO3.o,HG3.o⟩
     case measure=>simp [intOf];omega
    ·right
     refine⟨_,_,_,_,_,_,49,#[.string ⟨(kl T.K j).1.toArray⟩],rfl,by rfl,by go_simp,?_⟩;refine Aj (CL1.o W9) ?_;rintro wc1 hb;have hb:=hb;replace HX:=I (HX.o.below hb);replace H5:=I (H5.o.below hb);replace HOP:=I (HOP.o.below hb);replace HG:=I (DH HG.o (hb.mono HGS.o));replace HGS:=I (Nat.le_trans HGS.o hb.size);clear hb;refine⟨_,rfl,H5.o,?_⟩;simp only[Act.put,U,Aa,Ab];refine Reg.b2 1 7 ?_ ?_
     ·left
      have k1:wc1.cell? ⟨P3,1,none⟩=some (.slice A8 K.length c8):=HX.o.cell 1;refine⟨_,_,_,_,_,_,_,wc1,rfl,by rfl,by(go_simp;rfl),H5.o,?_⟩;simp only[Act.put,U,Aa,Ab];clear k1;refine Reg.b1 7 ?_
      right
      refine⟨_,_,_,_,_,_,49,#[.string ⟨(kl T.K j).2.toArray⟩],rfl,by rfl,by go_simp,?_⟩;refine Aj (CL2.o wc1) ?_;rintro wc2 hb;have hb:=hb;replace HX:=I (HX.o.below hb);replace H5:=I (H5.o.below hb);replace HOP:=I (HOP.o.below hb);replace HG:=I (DH HG.o (hb.mono HGS.o));replace HGS:=I (Nat.le_trans HGS.o hb.size);clear hb;refine⟨_,rfl,H5.o,?_⟩;simp only[Act.put,U,Aa,Ab];refine Reg.ty 8 rfl H5.o ?_;refine Reg.b1 9 ?_
      left
      have hb:Below wc2.heap.size wc2 (wc2.alloc (.cells #[.string ⟨(kl T.K j).1.toArray⟩,.string ⟨(kl T.K j).2.toArray⟩] 138)):=Ah.alloc Ag _;have hnb:=Blk.new wc2 138 #[.string ⟨(kl T.K j).1.toArray⟩,.string ⟨(kl T.K j).2.toArray⟩];refine⟨_,_,_,_,_,_,.slice (some ⟨wc2.heap.size,0,none⟩) 1 1,wc2.alloc (.cells #[.string ⟨(kl T.K j).1.toArray⟩,.string ⟨(kl T.K j).2.toArray⟩] 138),rfl,by rfl,(by go_simp<;>rfl),H5.o.below hb,?_⟩;simp only[Act.put,U,Aa,Ab];obtain⟨wb,ewb⟩:=Ak (wc2.alloc (.cells #[.string ⟨(kl T.K j).1.toArray⟩,.string ⟨(kl T.K j).2.toArray⟩] 138));rw[<-ewb] at hb hnb⊢;clear ewb;obtain⟨PB,ePB⟩:=Ak (wc2.heap.size);rw[<-ePB] at hnb⊢;clear ePB;have HN:=I hnb;clear hnb;have hb:=hb;replace HX:=I (HX.o.below hb);replace H5:=I (H5.o.below hb);replace HOP:=I (HOP.o.below hb);replace HG:=I (DH HG.o (hb.mono HGS.o));replace HGS:=I (Nat.le_trans HGS.o hb.size);clear hb;refine Reg.b1 10 ?_
      left
      obtain⟨v9,w9,hrun,ho9,hb9,hg9⟩:=OH wb w8.heap.size (.slice A8 K.length c8) K HOP.o (kl T.K j) PB (HN.o.cell 0) (HN.o.cell 1) (by have:=HL.o;omega) HGS.o;have h5:Blk w9 PT 138 _:=H5.o.grown hg9 (fun e=>by have:=(HOWN.o PT e);have:=HPT.o;omega);refine⟨_,_,_,_,_,_,v9,w9,rfl,by rfl,by(simp only[execOp,resolve,invoke,builtin,Sem.run_bind,Sem.run_pure,Result.andThen_ok,List.map_toArray,List.map_cons,List.map_nil,Act.eval];refine(congrArg (fun r=>Result.andThen r _) hrun).trans ?_;rfl),h5,?_⟩;simp only[Act.put,U,Aa,Ab];replace H5:=I h5;replace HX:=I (show Blk w9 P3 74 _ from(hb9.block _ HP8.o).trans HX.o);replace HG:=I (DH HG.o hb9);replace HGS:=I (Nat.le_trans HGS.o hb9.size);obtain⟨A7,c7,e7,_⟩:=ho9.slice;rw[show(K++[kl T.K j]).length=K.length+1 by simp] at e7;subst e7;replace HOP:=I ho9;clear hrun ho9 hb9 hg9 h5 HN HOWN;refine Reg.ty 11 rfl H5.o ?_;have f0:=HX.o.frozen 1;have k9:w9.cell? ⟨P3,1,none⟩=some (.slice A8 K.length c8):=HX.o.cell 1;refine Reg.Bk 12 (w9.setCell ⟨P3,1,none⟩ (.slice A7 (K.length+1) c7)) rfl (by kernel_rfl) (by rfl) (by go_simp) (Si.Blk.far H5.o _ _ (show P3≠PT by have:=HPT.o;have:=HP8.o;have:=HG8.o;omega)) ?_;simp only[Act.put,U,Aa,Ab];refine wpAnyH_done (by kernel_rfl) ?_ _;have HX3:=I (HX.o.set 1 (.slice A7 (K.length+1) c7));have HO3:=I (GW (j:=1) (u:=.slice A7 (K.length+1) c7) HOP.o (show P3<w8.heap.size from HP8.o));have HG3:=I (AE HG.o (p:=⟨P3,1,none⟩) (.inl rfl) (.slice A7 (K.length+1) c7));clear f0 k9;rw[<-HSN.o] at HO3
      go_wp2
      go_roundw
      case rel=>exact⟨j+1,_,by omega,by go_num,HX3.o,HO3.o,HG3.o⟩
      case measure=>simp [intOf];omega
     ·right
      refine⟨_,_,_,_,_,_,49,#[.string ⟨(kl T.K j).2.toArray⟩],rfl,by rfl,by go_simp,?_⟩;refine Aj (CL2.o wc1) ?_;rintro wc2 hb;have hb:=hb;replace HX:=I (HX.o.below hb);replace H5:=I (H5.o.below hb);replace HOP:=I (HOP.o.below hb);replace HG:=I (DH HG.o (hb.mono HGS.o));replace HGS:=I (Nat.le_trans HGS.o hb.size);clear hb;refine⟨_,rfl,H5.o,?_⟩;simp only[Act.put,U,Aa,Ab];refine Reg.ty 8 rfl H5.o ?_;refine Reg.b2 1 9 ?_ ?_
      ·left
       have k1:wc2.cell? ⟨P3,1,none⟩=some (.slice A8 K.length c8):=HX.o.cell 1;refine⟨_,_,_,_,_,_,_,wc2,rfl,by rfl,by(go_simp;rfl),H5.o,?_⟩;simp only[Act.put,U,Aa,Ab];clear k1;refine Reg.b1 9 ?_
       left
       have hb:Below wc2.heap.size wc2 (wc2.alloc (.cells #[.string ⟨(kl T.K j).1.toArray⟩,.string ⟨(kl T.K j).2.toArray⟩] 138)):=Ah.alloc Ag _;have hnb:=Blk.new wc2 138 #[.string ⟨(kl T.K j).1.toArray⟩,.string ⟨(kl T.K j).2.toArray⟩];refine⟨_,_,_,_,_,_,.slice (some ⟨wc2.heap.size,0,none⟩) 1 1,wc2.alloc (.cells #[.string ⟨(kl T.K j).1.toArray⟩,.string ⟨(kl T.K j).2.toArray⟩] 138),rfl,by rfl,(by go_simp<;>rfl),H5.o.below hb,?_⟩;simp only[Act.put,U,Aa,Ab];obtain⟨wb,ewb⟩:=Ak (wc2.alloc (.cells #[.string ⟨(kl T.K j).1.toArray⟩,.string ⟨(kl T.K j).2.toArray⟩] 138));rw[<-ewb] at hb hnb⊢;clear ewb;obtain⟨PB,ePB⟩:=Ak (wc2.heap.size);rw[<-ePB] at hnb⊢;clear ePB;have HN:=I hnb;clear hnb;have hb:=hb;replace HX:=I (HX.o.below hb);replace H5:=I (H5.o.below hb);replace HOP:=I (HOP.o.below hb);replace HG:=I (DH HG.o (hb.mono HGS.o));replace HGS:=I (Nat.le_trans HGS.o hb.size);clear hb;refine Reg.b1 10 ?_
       left
       obtain⟨v9,w9,hrun,ho9,hb9,hg9⟩:=OH wb w8.heap.size (.slice A8 K.length c8) K HOP.o (kl T.K j) PB (HN.o.cell 0) (HN.o.cell 1) (by have:=HL.o;omega) HGS.o;have h5:Blk w9 PT 138 _:=H5.o.grown hg9 (fun e=>by have:=(HOWN.o PT e);have:=HPT.o;omega);refine⟨_,_,_,_,_,_,v9,w9,rfl,by rfl,by(simp only[execOp,resolve,invoke,builtin,Sem.run_bind,Sem.run_pure,Result.andThen_ok,List.map_toArray,List.map_cons,List.map_nil,Act.eval];refine(congrArg (fun r=>Result.andThen r _) hrun).trans ?_;rfl),h5,?_⟩;simp only[Act.put,U,Aa,Ab];replace H5:=I h5;replace HX:=I (show Blk w9 P3 74 _ from(hb9.block _ HP8.o).trans HX.o);replace HG:=I (DH HG.o hb9);replace HGS:=I (Nat.le_trans HGS.o hb9.size);obtain⟨A7,c7,e7,_⟩:=ho9.slice;rw[show(K++[kl T.K j]).length=K.length+1 by simp] at e7;subst e7;replace HOP:=I ho9;clear hrun ho9 hb9 hg9 h5 HN HOWN;refine Reg.ty 11 rfl H5.o ?_;have f0:=HX.o.frozen 1;have k9:w9.cell? ⟨P3,1,none⟩=some (.slice A8 K.length c8):=HX.o.cell 1;refine Reg.Bk 12 (w9.setCell ⟨P3,1,none⟩ (.slice A7 (K.length+1) c7)) rfl (by kernel_rfl) (by rfl) (by go_simp) (Si.Blk.far H5.o _ _ (show P3≠PT by have:=HPT.o;have:=HP8.o;have:=HG8.o;omega)) ?_;simp only[Act.put,U,Aa,Ab];refine wpAnyH_done (by kernel_rfl) ?_ _;have HX3:=I (HX.o.set 1 (.slice A7 (K.length+1) c7));have HO3:=I (GW (j:=1) (u:=.slice A7 (K.length+1) c7) HOP.o (show P3<w8.heap.size from HP8.o));have HG3:=I (AE HG.o (p:=⟨P3,1,none⟩) (.inl rfl) (.slice A7 (K.length+1) c7));clear f0 k9;rw[<-HSN.o] at HO3
       go_wp2
       go_roundw
       case rel=>exact⟨j+1,_,by omega,by go_num,HX3.o,HO3.o,HG3.o⟩
       case measure=>simp [intOf];omega
      ·left
       have hb:Below wc2.heap.size wc2 (wc2.alloc (.cells #[.string ⟨(kl T.K j).1.toArray⟩,.string ⟨(kl T.K j).2.toArray⟩] 138)):=Ah.alloc Ag _;have hnb:=Blk.new wc2 138 #[.string ⟨(kl T.K j).1.toArray⟩,.string ⟨(kl T.K j).2.toArray⟩];refine⟨_,_,_,_,_,_,.slice (some ⟨wc2.heap.size,0,none⟩) 1 1,wc2.alloc (.cells #[.string ⟨(kl T.K j).1.toArray⟩,.string ⟨(kl T.K j).2.toArray⟩] 138),rfl,by rfl,(by go_simp<;>rfl),H5.o.below hb,?_⟩;simp only[Act.put,U,Aa,Ab];obtain⟨wb,ewb⟩:=Ak (wc2.alloc (.cells #[.string ⟨(kl T.K j).1.toArray⟩,.string ⟨(kl T.K j).2.toArray⟩] 138));rw[<-ewb] at hb hnb⊢;clear ewb;obtain⟨PB,ePB⟩:=Ak (wc2.heap.size);rw[<-ePB] at hnb⊢;clear ePB;have HN:=I hnb;clear hnb;have hb:=hb;replace HX:=I (HX.o.below hb);replace H5:=I (H5.o.below hb);replace HOP:=I (HOP.o.below hb);replace HG:=I (DH HG.o (hb.mono HGS.o));replace HGS:=I (Nat.le_trans HGS.o hb.size);clear hb;refine Reg.b1 1 ?_
       left
       have k1:wb.cell? ⟨P3,1,none⟩=some (.slice A8 K.length c8):=HX.o.cell 1;refine⟨_,_,_,_,_,_,_,wb,rfl,by rfl,by(go_simp;rfl),H5.o,?_⟩;simp only[Act.put,U,Aa,Ab];clear k1;refine Reg.b1 10 ?_
       left
       obtain⟨v9,w9,hrun,ho9,hb9,hg9⟩:=OH wb w8.heap.size (.slice A8 K.length c8) K HOP.o (kl T.K j) PB (HN.o.cell 0) (HN.o.cell 1) (by have:=HL.o;omega) HGS.o;have h5:Blk w9 PT 138 _:=H5.o.grown hg9 (fun e=>by have:=(HOWN.o PT e);have:=HPT.o;omega);refine⟨_,_,_,_,_,_,v9,w9,rfl,by rfl,by(simp only[execOp,resolve,invoke,builtin,Sem.run_bind,Sem.run_pure,Result.andThen_ok,List.map_toArray,List.map_cons,List.map_nil,Act.eval];refine(congrArg (fun r=>Result.andThen r _) hrun).trans ?_;rfl),h5,?_⟩;simp only[Act.put,U,Aa,Ab];replace H5:=I h5;replace HX:=I (show Blk w9 P3 74 _ from(hb9.block _ HP8.o).trans HX.o);replace HG:=I (DH HG.o hb9);replace HGS:=I (Nat.le_trans HGS.o hb9.size);obtain⟨A7,c7,e7,_⟩:=ho9.slice;rw[show(K++[kl T.K j]).length=K.length+1 by simp] at e7;subst e7;replace HOP:=I ho9;clear hrun ho9 hb9 hg9 h5 HN HOWN;refine Reg.ty 11 rfl H5.o ?_;have f0:=HX.o.frozen 1;have k9:w9.cell? ⟨P3,1,none⟩=some (.slice A8 K.length c8):=HX.o.cell 1;refine Reg.Bk 12 (w9.setCell ⟨P3,1,none⟩ (.slice A7 (K.length+1) c7)) rfl (by kernel_rfl) (by rfl) (by go_simp) (Si.Blk.far H5.o _ _ (show P3≠PT by have:=HPT.o;have:=HP8.o;have:=HG8.o;omega)) ?_;simp only[Act.put,U,Aa,Ab];refine wpAnyH_done (by kernel_rfl) ?_ _;have HX3:=I (HX.o.set 1 (.slice A7 (K.length+1) c7));have HO3:=I (GW (j:=1) (u:=.slice A7 (K.length+1) c7) HOP.o (show P3<w8.heap.size from HP8.o));have HG3:=I (AE HG.o (p:=⟨P3,1,none⟩) (.inl rfl) (.slice A7 (K.length+1) c7));clear f0 k9;rw[<-HSN.o] at HO3
       go_wp2
       go_roundw
       case rel=>exact⟨j+1,_,by omega,by go_num,HX3.o,HO3.o,HG3.o⟩
       case measure=>simp [intOf];omega
  ·have e1:¬(j:Int)<(m:Int):=by omega
   have hjm:T.K.length<=j:=by rw[<-EM.o];omega
   have ek:K=T.K:=by rw[HEK.o,List.take_of_length_le hjm]
   rw[ek] at HOP;have hPW:=HW6.o;have hP8:=HP8.o;have HZ9:=I (HZ.o.grown HG.o (fun e=>by injection e with e;omega));have HT9:=I (HT.o.grown HG.o (fun e=>by injection e with e;omega));have kt2:=HT9.o.cell 2;have kx0:=HX.o.cell 0;have kx1:=HX.o.cell 1;have kx2:=HX.o.cell 2;have kz0:=HZ9.o.cell 0;have kz1:=HZ9.o.cell 1;have kz2:=HZ9.o.cell 2;have fz:=HZ9.o.frozen;clear hPW hP8 ek hjm
   go_wp2
   go_loopw [35] (fun iv wq=>iv=.int .i64 0/\wq=wr) (fun _ _=>0)
   case atStart=>exact⟨rfl,rfl⟩
   case round=>
    obtain⟨rfl,rfl⟩:=hrel
    go_wp2
    refine bodyPost_ret (v:=.agg (tpA (.slice A6 n c6) (.slice A8 K.length c8))) ?_ ?_ ?_
    ·exact Wh.Au (v:=.agg (tpA (.slice A6 n c6) (.slice A8 K.length c8))) 2 74 ⟨w.heap.size+1,0,none⟩ Tryz.results50 rfl (Wh.Al (((HZ9.o.set 0 _).set 1 _).set 2 _) Tryz.underlying74 (by rfl) (by kernel_rfl))
    ·rfl
    ·have hPW:=HW6.o;have hP8:=HP8.o;have hHW:=HW.o;have hZL:=HZL.o
     have hfar:∀k,k≠w.heap.size+1->(((wr.setCell ⟨w.heap.size+1,0,none⟩ (.slice A6 n c6)).setCell ⟨w.heap.size+1,1,none⟩ (.slice A8 K.length c8)).setCell ⟨w.heap.size+1,2,none⟩ (.slice none 0 0)).heap[k]? = wr.heap[k]?:=fun k hk=>
      (Below.heap_setCell _ _ _ k (fun e=>by simp only at e;omega)).trans ((Below.heap_setCell _ _ _ k (fun e=>by simp only at e;omega)).trans (Below.heap_setCell _ _ _ k (fun e=>by simp only at e;omega)))
     have hKT:K=T.K:=by rw[HEK.o,List.take_of_length_le (by rw[<-EM.o];omega)]
     rw[<-hKT] at HOP;have hsz:(((wr.setCell ⟨w.heap.size+1,0,none⟩ (.slice A6 n c6)).setCell ⟨w.heap.size+1,1,none⟩ (.slice A8 K.length c8)).setCell ⟨w.heap.size+1,2,none⟩ (.slice none 0 0)).heap.size=wr.heap.size:=by simp
     refine⟨_,_,rfl,⟨?_,?_,rfl,HPN.o⟩,?_⟩
     ·refine XM HO.o HOL.o (fun k h1 h2=>⟨by omega,by rw[hsz];have:=HGS.o;omega⟩) (fun k o h1 h2=>World.cell?_of_block (a:=⟨k,o,none⟩) ((hfar k (by omega)).trans (HG.o.block k (by omega) (fun e=>by injection e with e;omega))))
     ·rw[<-hKT]
      refine UX HOP.o (fun k h1 h2=>⟨by omega,by rw[hsz];omega⟩) (fun k o h1 h2=>World.cell?_of_block (a:=⟨k,o,none⟩) (hfar k (by omega)))
     ·exact Si.Ay (Si.Ay (Si.Ay (HB.o.grown HG.o (by omega) (fun k hk=>by injection hk with hk;omega)) (by simp) _) (by simp) _) (by simp) _
end Kd
namespace Kd
open Go.RowKit Af Se
open Nm (strs BO)
open Rg (It Ent Ring RO its)
open Rt (Tp Sm SlV SlP TpV isT Rk)
section
variable {w:World} {B:Nat} {es:List Ent} {T:Tp} {R:Nm.L} {v1 v2 v:Value} {r:Nat}
theorem tp_v {w1:World} (h1:SlV w1 w1.heap.size v1 T.R) (h2:SlP w1 w1.heap.size v2 T.K) (hp:T.P = []):TpV w1 w1.heap.size (.agg (tpA v1 v2)) T:=
 ⟨v1,v2,.slice none 0 0,rfl,h1,h2,none,0,by rw[hp];rfl,by rw[hp];exact Nat.le_refl _,.inl hp⟩
theorem new_a (hs:Sm T) (hp:T.P = []) (hkt:∀x∈T.K,x.1.length<=3000/\x.2.length<=3000) (hT:isT T=true) (hRl:R.length<=1000000) (h1:SlV w w.heap.size v1 T.R) (h2:SlP w w.heap.size v2 T.K) (hR:R∈T.R) (hr:Ring w B r v es) (hB:B<=w.heap.size) :
  Calls Tryz.prog 17 #[.string ⟨R.toArray⟩,.agg (tpA v1 v2),.pointer (some ⟨r,0,none⟩)] w fun e w'=>∃k lo hi u1 u2,e=.returned (.tuple #[.pointer (some ⟨k,0,none⟩),.int .i64 0])/\w.heap.size<=k/\w.heap.size<=lo/\KD w' B ⟨k,r,lo,hi,R,T,v,u1,u2,.slice none 0 0⟩ es 0 0/\Below w.heap.size w w':=by
 have hv1:=h1;have hv2:=h2;obtain⟨A1,c1,rfl,hc1,r1⟩:=h1;obtain⟨A2,c2,rfl,hc2,r2⟩:=h2;obtain⟨W,eW⟩:=Ak (w.alloc (.cells (tpA (.slice A1 T.R.length c1) (.slice A2 T.K.length c2)) 74));have hb:Below w.heap.size w W:=eW▸Ah.alloc Ag _;have HT:=I (show Blk W w.heap.size 74 (tpA (.slice A1 T.R.length c1) (.slice A2 T.K.length c2)) from eW▸Blk.new w _ _);have HB:=I hb;have CI:=I (Rk T _ W.heap.size W hs (tp_v (hv1.on hb) (hv2.on hb) hp) Ag);rw[hT] at CI;have CC:=I (fun(w1:World) (b1:Below w.heap.size w w1)=>Tr.DC T.R A1 c1 w.heap.size R w1 (by have:=hs.r;omega) (r1.below b1));have CL:=I (fun w1=>BO R w1 (by omega));have CT:=I (fun(w1:World) (b1:Below w.heap.size w w1)=>SI T hs hp hkt _ _ w1 (hv1.on b1) (hv2.on b1));obtain⟨n,en⟩:=Ak (T.R.length);obtain⟨m,em⟩:=Ak (T.K.length);rw[<-en] at CI CC CT HT eW⊢;rw[<-em] at CI CT HT eW⊢;have hd:decide (R∈T.R)=true:=decide_eq_true hR;rw[hd] at CC;have HRG:=I hr;have HWL:=I hB;clear hd hR hr hv1 hv2 r1 r2 hc1 hc2 hs hp hkt hT hRl hb en em hB;go_enter Tryz.func17,Tryz.ntmps17
 go_upto_region 1 with fail
 rw[<-eW];clear eW;have kq0:=HT.o.cell 0;have kq1:=HT.o.cell 1;have kq2:=HT.o.cell 2
 go_upto_region 3 with(first
  |(go_at_call 47;refine Aj CI.o ?_;rintro w2 hb;clear CI kq0 kq1 kq2;replace HT:=I (HT.o.below hb);replace HB:=HB.t hb;have kq0:=HT.o.cell 0;clear hb)
  |(go_at_call 48;refine Aj (CC.o _ HB.o) ?_;rintro w3 hw;clear CC;subst hw)
  |fail)
 clear kq0;refine Reg.Bx (fun w'=>Blk w' w.heap.size 74 (tpA (.slice A1 n c1) (.slice A2 m c2))) 9 rfl (by kernel_rfl) (HT.o.drewN 1) ?_;replace HT:=I (show Blk w2.drew _ _ _ from HT.o.drewN 1);replace HB:=I (below_drewN HB.o 1);refine Reg.ty 0 rfl HT.o ?_;refine Reg.tw 2 rfl HT.o (fun w' hS=>by have k0:=Blk.cell hS 0;have k1:=Blk.cell hS 1;have k2:=Blk.cell hS 2;go_simp<;>rfl) ?_;refine Reg.ty 4 rfl HT.o ?_;refine Reg.b1 1 ?_
 right
 refine⟨_,_,_,_,_,_,49,#[.string ⟨R.toArray⟩],rfl,by rfl,by go_simp,?_⟩;refine Aj (CL.o _) ?_;rintro wa hb;replace HT:=I (HT.o.below hb);replace HB:=HB.t hb;clear hb;refine⟨_,rfl,HT.o,?_⟩;simp only[Act.put,U,Aa,Ab];refine Reg.b1 3 ?_
 right
 refine⟨_,_,_,_,_,_,50,#[.agg (tpA (.slice A1 n c1) (.slice A2 m c2))],rfl,by rfl,by go_simp,?_⟩;refine Calls.mono (CT.o _ HB.o) ?_;rintro e wb ⟨u1,u2,rfl,htp,hb⟩;have HAS:=I HB.o.size;replace HT:=I (HT.o.below hb);replace HB:=HB.t hb;have HWB:=I hb.size;have HTP:=I htp;clear hb htp;refine⟨_,rfl,HT.o,?_⟩;simp only[Act.put,U,Aa,Ab];refine Reg.ty 5 rfl HT.o ?_;refine Reg.b1 6 ?_
 left
 obtain⟨A8,c8,A9,c9,e8,e9,_⟩:=HTP.o.sizes;subst e8 e9;have hb:Below wb.heap.size wb (wb.alloc (.cells #[.string ⟨R.toArray⟩,(.slice A8 T.R.length c8),(.slice A9 T.K.length c9),.slice none 0 0,.pointer (some ⟨r,0,none⟩),.int .i64 0,.int .i64 0] 137)):=Ah.alloc Ag _;have hnb:=Blk.new wb 137 #[.string ⟨R.toArray⟩,(.slice A8 T.R.length c8),(.slice A9 T.K.length c9),.slice none 0 0,.pointer (some ⟨r,0,none⟩),.int .i64 0,.int .i64 0];refine⟨_,_,_,_,_,_,.pointer (some ⟨wb.heap.size,0,none⟩),wb.alloc (.cells #[.string ⟨R.toArray⟩,(.slice A8 T.R.length c8),(.slice A9 T.K.length c9),.slice none 0 0,.pointer (some ⟨r,0,none⟩),.int .i64 0,.int .i64 0] 137),rfl,by rfl,(by go_simp<;>rfl),HT.o.below hb,?_⟩;simp only[Act.put,U,Aa,Ab];obtain⟨wc,ewc⟩:=Ak (wb.alloc (.cells #[.string ⟨R.toArray⟩,(.slice A8 T.R.length c8),(.slice A9 T.K.length c9),.slice none 0 0,.pointer (some ⟨r,0,none⟩),.int .i64 0,.int .i64 0] 137));rw[<-ewc] at hb hnb⊢;clear ewc;replace HT:=I (HT.o.below hb);have HBN:=I hb;have HNB:=I hnb;have HBC:=HB.t hb;clear hb hnb;refine Reg.ty 7 rfl HT.o ?_;refine Reg.ty 8 rfl HT.o ?_;refine wpAnyH_done (by kernel_rfl) ?_ _
 go_wp2_with fail
 go_ret2
 have hsz:=HAS.o;have hwb:=HWB.o;have hbs:=HBN.o.size;have hwl:=HWL.o;refine⟨wb.heap.size,wa.heap.size,wb.heap.size,_,_,rfl,by omega,hsz,⟨HNB.o,(HRG.o.below HBC.o),?_,?_,?_,?_,?_,?_,?_⟩,HBC.o⟩
 ·exact HTP.o.keep (fun b o hb=>World.cell?_of_block (a:=⟨b,o,none⟩) (HBN.o.block b hb.2)) (fun b hb=>hb)
 ·show B<=wb.heap.size;omega
 ·show B<=wa.heap.size;omega
 ·show wb.heap.size<=_;omega
 ·intro hx;have:=HRG.o.own_lt hx;simp only at this;omega
 ·intro hx;exact absurd hx.2 (Nat.lt_irrefl _)
 ·intro j hx hy;have:=HRG.o.own_lt hx;have:=hy.1;simp only at *;omega
end
end Kd
end Go.Proofs.YtlchkbpffaclmaaGreat
