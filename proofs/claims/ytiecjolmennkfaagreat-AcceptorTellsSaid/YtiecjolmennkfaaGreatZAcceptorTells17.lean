import Derived.Test.YtiecjolmennkfaaGreatZAcceptorTells15
import Derived.Test.YtiecjolmennkfaaGreatZAcceptorTells16
set_option maxHeartbeats 25600000
set_option maxRecDepth 100000
set_option linter.unusedVariables false
set_option linter.unusedSimpArgs false
namespace Go.Proofs.YtiecjolmennkfaaGreat
namespace Ac
open Go.RowKit Af Se Kd
open Nm (strs Cu Ec)
open Rt (Tp Sm SlV SlP TpV isT)
open Rp (DRp)
section
variable {w:World} {B:Nat} {T:Tp} {P:Nm.L×Nm.L} {v1 v2 v:Value} {q lo hi:Nat}
theorem XQ {now:Int} (hs:Sm T) (hT:isT T=true) (cj:P.1.length<=1000000/\P.2.length<=1000000) (cb:Cu P.1 P.2=true) (hR:P.1∈T.R) (ht:TpK (fun b=>lo<=b/\b<hi) w v1 v2 (.slice none 0 0) T) (bx:hi<=w.heap.size) :
  Calls Tryz.prog 16 #[Kd.prV P,.agg (tpA v1 v2),.pointer (some ⟨q,0,none⟩),.int .i64 now] w fun e w'=>∃x s,e=.returned (.tuple #[.pointer (some ⟨x,0,none⟩),.int .i64 0])/\Blk w' x 126 #[.string ⟨P.1.toArray⟩,.string ⟨P.2.toArray⟩,v1,v2,.slice none 0 0,.pointer (some ⟨q,0,none⟩),.pointer (some ⟨s,0,none⟩),.int .i64 0,.int .i64 0]/\DRp w' w.heap.size s (.slice none 0 0) (!decide (now=0)) now []/\s≠x/\w.heap.size<=x/\Below w.heap.size w w':=by
 obtain⟨A1,c1,A2,c2,rfl,rfl,_⟩:=ht.sizes;obtain⟨W,eW⟩:=Ak ((w.alloc (.cells #[.string ⟨P.1.toArray⟩,.string ⟨P.2.toArray⟩] 30)).alloc (.cells (tpA (.slice A1 T.R.length c1) (.slice A2 T.K.length c2)) 64));have O:Below w.heap.size w W:=eW▸(Ah.alloc Ag _).alloc (by simp) _;have Z:=I (show Blk W w.heap.size 30 #[.string ⟨P.1.toArray⟩,.string ⟨P.2.toArray⟩] from eW▸(Blk.new w _ _).alloc _);have M:=I (show Blk W (w.heap.size+1) 64 (tpA (.slice A1 T.R.length c1) (.slice A2 T.K.length c2)) by have:=Blk.new (w.alloc (.cells #[.string ⟨P.1.toArray⟩,.string ⟨P.2.toArray⟩] 30)) 64 (tpA (.slice A1 T.R.length c1) (.slice A2 T.K.length c2));simp only[World.size_alloc] at this;exact eW▸this);have HB:=I O;have CI:=I (fun(w1:World) (b1:Below w.heap.size w w1)=>Rt.XP T _ hi w1 hs ((ht.keep (K':=fun b=>lo<=b/\b<hi) (fun b o cd=>World.cell?_of_block (a:=⟨b,o,none⟩) (b1.block b (by have:=cd.2;omega))) (fun _ x=>x)).tpv (fun b x=>x.2)) (Nat.le_trans bx b1.size));rw[hT] at CI;have CQ:=I (fun(w1:World)=>Ec P.1 P.2 w1 (by omega) (by omega));rw[cb] at CQ;have CP:=I (fun(w1:World) (b1:Below w.heap.size w w1)=>Rt.Er T.R A1 c1 hi P.1 w1 (by have:=hs.r;omega) (by
  obtain⟨A,c,e,_,h⟩:=ht.r.slv (B:=hi) (fun b x=>x.2);injection e with e1 _ _;subst e1;exact h.below (b1.mono bx)))
 have bz:¬Tr.ixL P.1 T.R<0:=by
  rw[Tr.ixL,if_pos hR];omega
 have CR:=I (fun(w1:World)=>Rp.Xp now w1);obtain⟨n,en⟩:=Ak (T.R.length);obtain⟨m,em⟩:=Ak (T.K.length);obtain⟨ix,bB⟩:=Ak (Tr.ixL P.1 T.R);rw[<-bB] at CP bz;rw[<-en] at CI CP M eW⊢;rw[<-em] at CI M eW⊢;clear hs hT hR ht bx O cj cb en em bB;go_enter Tryz.func16,Tryz.ntmps16
 go_upto_region 1 with fail
 rw[<-eW];clear eW;have bq:=Z.o.cell 0;have cm:=Z.o.cell 1
 go_upto_region 3 with(first
  |(go_at_call 29;refine Aj (CQ.o _) ?_;rintro w1 O;clear CQ bq cm;replace M:=I (M.o.below O);replace Z:=I (Z.o.below O);replace HB:=HB.t O;have bn:=M.o.cell 0;have ck:=M.o.cell 1;have cc:=M.o.cell 2;clear O)
  |(go_at_call 35;refine Aj (CI.o _ HB.o) ?_;rintro w2 O;clear CI bn ck cc;replace M:=I (M.o.below O);replace Z:=I (Z.o.below O);replace HB:=HB.t O;have bn:=M.o.cell 0;have bq:=Z.o.cell 0;clear O)
  |(go_at_call 36;refine Aj (CP.o _ HB.o) ?_;rintro w3 hw;clear CP;subst hw)
  |fail)
 clear bn bq bz;have av:Below w2.heap.size w2 w2.drew:=below_drewN Ah 1;replace Z:=I (Z.o.below av);replace M:=I (M.o.below av);replace HB:=HB.t av;clear av;refine Reg.Bo (fun w'=>Blk w' w.heap.size 30 #[.string ⟨P.1.toArray⟩,.string ⟨P.2.toArray⟩]/\Blk w' (w.heap.size+1) 64 (tpA (.slice A1 n c1) (.slice A2 m c2))) 9 rfl (by kernel_rfl) ⟨Z.o,M.o⟩ ?_;refine Reg.tw 0 (v:=Kd.prV P) rfl ⟨Z.o,M.o⟩ (fun w' hS=>by obtain⟨hP,hT⟩:=hS;have q0:=hP.cell 0;have q1:=hP.cell 1;go_simp<;>rfl) ?_;refine Reg.tw 1 (v:=.agg (tpA (.slice A1 n c1) (.slice A2 m c2))) rfl ⟨Z.o,M.o⟩ (fun w' hS=>by obtain⟨hP,hT⟩:=hS;have k0:=hT.cell 0;have k1:=hT.cell 1;have k2:=hT.cell 2;go_simp<;>rfl) ?_;refine Reg.ty 2 rfl ⟨Z.o,M.o⟩ ?_;refine Reg.ty 3 rfl ⟨Z.o,M.o⟩ ?_;refine Reg.b1 4 ?_
 right
 refine⟨_,_,_,_,_,_,37,#[.int .i64 now],rfl,by rfl,(by go_simp<;>first | rfl | exact⟨rfl,rfl⟩),?_⟩;refine Calls.mono (CR.o _) ?_;rintro e wr ⟨s,rfl,hr,O⟩;have cf:=I HB.o.size;replace Z:=I (Z.o.below O);replace M:=I (M.o.below O);replace HB:=HB.t O;have bs:=I hr;clear O hr;refine⟨_,rfl,⟨Z.o,M.o⟩,?_⟩;simp only[Act.put,U,Aa,Ab];refine Reg.ty 5 rfl ⟨Z.o,M.o⟩ ?_;refine Reg.b1 6 ?_
 left
 have O:Below wr.heap.size wr (wr.alloc (.cells #[.string ⟨P.1.toArray⟩,.string ⟨P.2.toArray⟩,.slice A1 n c1,.slice A2 m c2,.slice none 0 0,.pointer (some ⟨q,0,none⟩),.pointer (some ⟨s,0,none⟩),.int .i64 0,.int .i64 0] 126)):=Ah.alloc Ag _;have bb:=Blk.new wr 126 #[.string ⟨P.1.toArray⟩,.string ⟨P.2.toArray⟩,.slice A1 n c1,.slice A2 m c2,.slice none 0 0,.pointer (some ⟨q,0,none⟩),.pointer (some ⟨s,0,none⟩),.int .i64 0,.int .i64 0];refine⟨_,_,_,_,_,_,.pointer (some ⟨wr.heap.size,0,none⟩),wr.alloc (.cells #[.string ⟨P.1.toArray⟩,.string ⟨P.2.toArray⟩,.slice A1 n c1,.slice A2 m c2,.slice none 0 0,.pointer (some ⟨q,0,none⟩),.pointer (some ⟨s,0,none⟩),.int .i64 0,.int .i64 0] 126),rfl,by rfl,(by go_simp<;>rfl),⟨Z.o.below O,M.o.below O⟩,?_⟩;simp only[Act.put,U,Aa,Ab];obtain⟨wc,ca⟩:=Ak (wr.alloc (.cells #[.string ⟨P.1.toArray⟩,.string ⟨P.2.toArray⟩,.slice A1 n c1,.slice A2 m c2,.slice none 0 0,.pointer (some ⟨q,0,none⟩),.pointer (some ⟨s,0,none⟩),.int .i64 0,.int .i64 0] 126));rw[<-ca] at O bb⊢;clear ca;have cg:=I bb;have aw:=I O;replace Z:=I (Z.o.below O);replace M:=I (M.o.below O);clear O bb;refine Reg.ty 7 rfl ⟨Z.o,M.o⟩ ?_;refine Reg.ty 8 rfl ⟨Z.o,M.o⟩ ?_;refine wpAnyH_done (by kernel_rfl) ?_ _
 go_wp2_with fail
 go_ret2
 have cp:=cf.o;have cr:=aw.o.size;have ct:=HB.o.size;have cn:=bs.o.lt;have cq:=bs.o.lo;exact⟨wr.heap.size,s,rfl,cg.o,⟨bs.o.blk.below aw.o,World.ownsRow_nil _ _ _ 4,by omega,by simp [Value.ownBlock],by simp⟩,by omega,by omega,HB.o.trans (aw.o.mono HB.o.size)⟩
end
end Ac
namespace Ac
open Go.RowKit Af Se Kd
open Nm (L)
open Ms (Pt An Mg pSm mSm ptO anO mgO ptB anB)
open SeL (Cw)
abbrev LW (kv:Int) (v1 v2:Value):Array Value:=#[.int .i64 4,.string ⟨#[]⟩,.string ⟨#[]⟩,.string ⟨#[]⟩,.string ⟨#[]⟩,.int .i64 0,.int .i64 0,.string ⟨#[]⟩,.string ⟨#[]⟩,.int .i64 0,.slice none 0 0,.slice none 0 0,.string ⟨#[]⟩,.string ⟨#[]⟩,.int .i64 0,.int .i64 0,.string ⟨#[]⟩,.string ⟨#[]⟩,.string ⟨#[]⟩,.string ⟨#[]⟩,.int .i64 0,.slice none 0 0,.slice none 0 0,.string ⟨pSv.1.toArray⟩,.string ⟨pSv.2.toArray⟩,.int .i64 kv,v1,v2,.int .i64 0,.int .i64 0]
abbrev OY (kv:Int) (v1:Value):Array Value:=#[.string ⟨pSv.1.toArray⟩,.string ⟨pSv.2.toArray⟩,.int .i64 kv,v1]
abbrev OZ (kv:Int) (v1 v2:Value):Array Value:=#[.string ⟨pSv.1.toArray⟩,.string ⟨pSv.2.toArray⟩,.int .i64 kv,v1,v2]
theorem XR (kv:Int) (A:Option Addr) (n c:Nat):Tryz.prog.built 74 [(0,Kd.prV pSv),(1,.int .i64 kv),(2,.slice A n c)]=some (OY kv (.slice A n c)):=by kernel_rfl
theorem LS (kv:Int) (A A2:Option Addr) (n c M c2:Nat):Tryz.prog.built 76 [(0,.agg (OY kv (.slice A n c))),(1,.slice A2 M c2)]=some (OZ kv (.slice A n c) (.slice A2 M c2)):=by kernel_rfl
theorem LQ (kv:Int) (A A2:Option Addr) (n c M c2:Nat):Tryz.prog.built 86 [(0,.int .i64 4),(4,.agg (OZ kv (.slice A n c) (.slice A2 M c2)))]=some (LW kv (.slice A n c) (.slice A2 M c2)):=by kernel_rfl
theorem IW (n:UInt8):Tryz.prog.built 24 [(0,.int .u8 (n.toNat:Int))]=some (AQ (k1 n)):=by kernel_rfl
theorem YK {ks:Nat->UInt8} {u N:Int} {p x:L} {cK:Array Value} {v:Value} {w:World} {S:Nat->Prop} (O:cK=AQ ks) (ex:Cw ks u N p=(x,0)) (hv:SlN S w v p) :
  Calls Tryz.prog 19 #[.agg cK,.int .i64 u,.int .i64 N,v] w fun e w'=>∃v2,e=.returned (.tuple #[v2,.int .i64 0])/\SlN (fun j=>j<w.heap.size) w' v2 x/\Below w.heap.size w w':=by
 subst O;obtain⟨A,c,rfl,hc,hr⟩:=hv.sl;refine(dM ks u N A p.length c p w rfl hr).mono ?_;rintro e w' ⟨v2,rfl,M,Z⟩;rw[ex] at M⊢;exact⟨v2,rfl,M,Z⟩
theorem XS (a:An):(Tryz.prog.info? 35).map (·.size)=some (anA a).size:=by
 show _=some 4
 kernel_rfl
theorem Qe {ks:Nat->UInt8} {l:L} {u n:Int} (hp:l.length<=784) (Z:0<=n) (M:n<=1099511627776) (hu:0<=u) (O:u<=255):Cw ks u n l=((Cw ks u n l).1,0):=by rw[IQ hp Z M hu O]
theorem lO_pt {p:Pt} (hk:p.ss.length=32):(lO (ptO p)).length<=784:=by
 cases h:ptB p with
 |true=>rw[JJ hk h,lO,Option.getD_some];have:=Lt hk h;omega
 |false=>rw[Yz h];exact Nat.zero_le _
theorem lO_an {a:An}:(lO (anO a)).length<=784:=by
 cases h:anB a with
 |true=>rw[JK h,lO,Option.getD_some];have:=Lu h;omega
 |false=>rw[YA h];exact Nat.zero_le _
theorem bw (o:Option L):oI o=0/\o.isSome=true\/oI o=1/\o.isSome=false:=by
 cases o with
 |none=>exact .inr ⟨rfl,rfl⟩
 |some l=>exact .inl ⟨rfl,rfl⟩
theorem sSv:pSm pSv:=⟨by decide,by decide⟩
section
variable {kv:Int} {n:UInt8} {p:Pt} {a:An}
theorem fl (w:World) {O S2:Nat->Prop} {v1 v2:Value} (M:SlN O w v1 (rqM kv n p a).ap.t.b) (Z:SlN S2 w v2 (rqM kv n p a).ap.a) :
  Calls Tryz.prog 20 #[.agg (LW kv v1 v2)] w fun e w'=>∃v,e=.returned (.tuple #[v,.int .i64 (oI (mgO (rqM kv n p a)))])/\SlN (fun j=>j<w.heap.size) w' v (rqL kv n p a)/\Below w.heap.size w w':=by
 obtain⟨A1,c1,rfl,_,r1⟩:=M;obtain⟨A2,c2,rfl,_,r2⟩:=Z;exact(Ms.WU (rqM kv n p a) none none none none A1 A2 0 0 0 0 c1 c2 w ⟨⟨Mc.JU,Mc.JU⟩,⟨Mc.JU,Mc.JU⟩,⟨Mc.JU,Mc.JU⟩,sSv⟩ rfl rfl rfl rfl (.inl rfl) (.inl rfl) (.inl rfl) (.inl rfl) r1.rd r2.rd).mono fun e w' h=>UL h
theorem Vj (w:World) (hk:p.ss.length=32) (cg:pSm p.c) (cX:p.tr.length<=1000000) (cp:pSm a.c) (hn:IntKind.u8.wrap kv=(n.toNat:Int)) :
  Calls Tryz.prog 5 #[.int .i64 kv,.agg (ptA p),.agg (anA a)] w fun e w'=>∃v,e=.returned (.tuple #[v,.bool (rqOk kv n p a)])/\SlN (fun j=>j<w.heap.size) w' v (rqL kv n p a)/\Below w.heap.size w w':=by
 obtain⟨cP,av⟩:=Ak (ptA p);obtain⟨cA,aw⟩:=Ak (anA a);obtain⟨cK,cc⟩:=Ak (AQ (k1 n));obtain⟨cQ,bb⟩:=Ak (keyA p.ss);rw[<-av,<-aw];obtain⟨W,eW⟩:=Ak ((w.alloc (.cells cP 33)).alloc (.cells cA 35));have M:Below w.heap.size w W:=eW▸(Ah.alloc Ag _).alloc (by simp) _;have HP:=I (show Blk W w.heap.size 33 cP from eW▸(Blk.new w _ _).alloc _);have HA:=I (show Blk W (w.heap.size+1) 35 cA by have:=Blk.new (w.alloc (.cells cP 33)) 35 cA;simp only[World.size_alloc] at this;exact eW▸this);have O:=I M;clear M;obtain⟨E1,bB⟩:=Ak (oI (ptO p));obtain⟨E2,bs⟩:=Ak (oI (anO a));obtain⟨E3,bz⟩:=Ak (oI (mgO (rqM kv n p a)));have C1:=I (show ∀w1:World,Calls Tryz.prog 17 #[.agg cP] w1 fun e w'=>∃v,e=.returned (.tuple #[v,.int .i64 E1])/\SlN (fun j=>j<w1.heap.size) w' v (lO (ptO p))/\Below w1.heap.size w1 w' from by intro w1;rw[av,bB];exact(Ms.MT p w1 hk cg (by omega)).mono fun e w' h=>UL h);have C2:=I (show ∀w1:World,Calls Tryz.prog 18 #[.agg cA] w1 fun e w'=>∃v,e=.returned (.tuple #[v,.int .i64 E2])/\SlN (fun j=>j<w1.heap.size) w' v (lO (anO a))/\Below w1.heap.size w1 w' from by intro w1;rw[aw,bs];exact(Ms.Ls a w1 cp).mono fun e w' h=>UL h);have S1:=I (fun(w1:World) (v:Value) (S:Nat->Prop) (h:SlN S w1 v (lO (ptO p)))=>YK (cK:=cK) cc (Qe (u:=2) (n:=5) (lO_pt hk) (by decide) (by decide) (by decide) (by decide)) h);have S2:=I (fun(w1:World) (v:Value) (S:Nat->Prop) (h:SlN S w1 v (lO (anO a)))=>YK (cK:=cQ) (bb.trans (OG hk).symm) (Qe (u:=11) (n:=6) lO_an (by decide) (by decide) (by decide) (by decide)) h);have CM:=I (fun w1=>Vf w1);have CE:=I (show ∀(w1:World) (S1 S2:Nat->Prop) (v1 v2:Value),SlN S1 w1 v1 (Cw (k1 n) 2 5 (lO (ptO p))).1->SlN S2 w1 v2 (Cw (ksOf p.ss) 11 6 (lO (anO a))).1->Calls Tryz.prog 20 #[.agg (LW kv v1 v2)] w1 fun e w'=>∃v,e=.returned (.tuple #[v,.int .i64 E3])/\SlN (fun j=>j<w1.heap.size) w' v (rqL kv n p a)/\Below w1.heap.size w1 w' from fun w1 S1 S2 v1 v2 h1 h2=>by rw[bz];exact fl w1 h1 h2);have Z:=I (show rqOk kv n p a=decide (E1+E2+E3=0)/\(0<=E1/\E1<=1)/\(0<=E2/\E2<=1)/\(0<=E3/\E3<=1) by
  unfold rqOk;rcases bw (ptO p) with⟨h1,g1⟩ | ⟨h1,g1⟩<;>rcases bw (anO a) with⟨h2,g2⟩ | ⟨h2,g2⟩<;>rcases bw (mgO (rqM kv n p a)) with⟨h3,g3⟩ | ⟨h3,g3⟩<;>rw[bB,bs,bz,h1,h2,h3,g1,g2,g3]<;>decide)
 obtain⟨ok,cf⟩:=Ak (rqOk kv n p a);rw[<-cf] at Z⊢;obtain⟨x1,cq⟩:=Ak ((Cw (k1 n) 2 5 (lO (ptO p))).1);obtain⟨x2,cm⟩:=Ak ((Cw (ksOf p.ss) 11 6 (lO (anO a))).1);rw[<-cq] at S1 CE;rw[<-cm] at S2 CE;obtain⟨bq,cn⟩:=Ak (rqL kv n p a);rw[<-cn] at CE⊢;have ct:=I (show(Tryz.prog.info? 33).map (·.size)=some cP.size by rw[av];exact LG hk);have cu:=I (show(Tryz.prog.info? 35).map (·.size)=some cA.size by rw[aw];exact XS a);have cx:=I (show(Tryz.prog.info? 24).map (·.size)=some cQ.size by rw[bb];exact IT hk);have cw:=I (fun(w1:World) (h:Blk w1 w.heap.size 33 cP)=>(show w1.rangeAt w.heap.size 2 cQ.toList by rw[bb];exact MS hk (av▸h)));have bn:=I (show Tryz.prog.built 24 [(0,.int .u8 (n.toNat:Int))]=some cK by rw[cc];exact IW n);obtain⟨nn,cd⟩:=Ak ((n.toNat:Int));rw[<-cd] at hn bn;clear hk cg cX cp av aw cc bb bB bs bz cf cq cm cn cd;go_enter Tryz.func5,Tryz.ntmps5
 go_upto_region 1 with fail
 rw[<-eW];clear eW
 go_upto_region 5 with(first
  |(refine Wh.AF (by rfl) 33 (.tmp 4) (by rfl) w.heap.size 0 (by rfl) cP _ (Wh.Ad HP.o) Tryz.underlying33 (by rfl) ct.o ?_)
  |(go_at_call 17;refine Calls.mono (C1.o _) ?_;rintro e w1 ⟨v1,rfl,hs,M⟩;clear C1;replace HP:=I (HP.o.below M);replace HA:=I (HA.o.below M);replace O:=O.t M;have V1:=I hs;clear hs M)
  |(refine Wh.AF (by rfl) 35 (.tmp 5) (by rfl) (w.heap.size+1) 0 (by rfl) cA _ (Wh.Ad HA.o) Tryz.underlying35 (by rfl) cu.o ?_)
  |(go_at_call 18;refine Calls.mono (C2.o _) ?_;rintro e w2 ⟨v2,rfl,hs,M⟩;clear C2;replace HP:=I (HP.o.below M);replace V1:=I (V1.o.below M);replace O:=O.t M;have V2:=I hs;clear hs M HA)
  |(refine Mc.Am (by rfl) 24 #[(0,.tmp 30)] (by rfl) cK (by simp only[List.map_toArray,List.map_cons,List.map_nil];exact bn.o) ?_)
  |(go_at_call 19;refine Calls.mono (S1.o _ _ _ V1.o) ?_;rintro e w3 ⟨v3,rfl,hs,M⟩;clear S1 V1 bn;have V3:=I hs;replace HP:=I (HP.o.below M);replace V2:=I (V2.o.below M);replace O:=O.t M;clear hs M)
  |(refine Wh.AF (by rfl) 24 (.tmp 37) (by rfl) w.heap.size 2 (by rfl) cQ _ (cw.o _ HP.o) Tryz.underlying24 (by rfl) cx.o ?_)
  |(go_at_call 19;refine Calls.mono (S2.o _ _ _ V2.o) ?_;rintro e w4 ⟨v4,rfl,hs,M⟩;clear S2 V2;have V4:=I hs;replace V3:=I (V3.o.below M);replace O:=O.t M;clear hs M HP)
  |fail)
 obtain⟨A3,c3,e3,_⟩:=V3.o.sl;obtain⟨A4,c4,e4,_⟩:=V4.o.sl;subst e3 e4;obtain⟨n3,ck⟩:=Ak (x1.length);obtain⟨n4,cr⟩:=Ak (x2.length);rw[<-ck] at V3⊢;rw[<-cr] at V4⊢;clear ck cr;obtain⟨cT,cb⟩:=Ak (OY kv (.slice A3 n3 c3));obtain⟨cR,ca⟩:=Ak (OZ kv (.slice A3 n3 c3) (.slice A4 n4 c4));obtain⟨cM,bx⟩:=Ak (LW kv (.slice A3 n3 c3) (.slice A4 n4 c4));have cB:=I (cb▸XR kv A3 n3 c3);have cy:=I (show Tryz.prog.built 76 [(0,.agg cT),(1,.slice A4 n4 c4)]=some cR by rw[cb,ca];exact LS kv A3 A4 n3 c3 n4 c4);have cL:=I (show Tryz.prog.built 86 [(0,.int .i64 4),(4,.agg cR)]=some cM by rw[ca,bx];exact LQ kv A3 A4 n3 c3 n4 c4);have cj:=I (show ∀w1:World,SlN (fun j=>j<w3.heap.size) w1 (.slice A4 n4 c4) x2->SlN (fun j=>j<w2.heap.size) w1 (.slice A3 n3 c3) x1->_ from fun w1 h4 h3=>bx▸CE.o w1 _ _ _ _ h3 h4);clear CE cb ca bx hn;have cZ:=Z.o.2.1;have cY:=Z.o.2.2.1;have ea:=Z.o.2.2.2
 go_wp2_with (first
  |(go_at_call 9;refine Aj (CM.o _) ?_;rintro w5 M;clear CM;replace V3:=I (V3.o.below M);replace V4:=I (V4.o.below M);replace O:=O.t M;clear M)
  |(refine Mc.Am (by rfl) 74 #[(0,.tmp 44),(1,.tmp 45),(2,.tmp 46)] (by rfl) cT (by simp only[List.map_toArray,List.map_cons,List.map_nil];exact cB.o) ?_)
  |(refine Mc.Am (by rfl) 76 #[(0,.tmp 47),(1,.tmp 48)] (by rfl) cR (by simp only[List.map_toArray,List.map_cons,List.map_nil];exact cy.o) ?_)
  |(refine Mc.Am (by rfl) 86 #[(0,.const (.int .i64 4)),(4,.tmp 49)] (by rfl) cM (by simp only[List.map_toArray,List.map_cons,List.map_nil];exact cL.o) ?_)
  |(go_at_call 20;refine Calls.mono (cj.o _ V4.o V3.o) ?_;rintro e w6 ⟨v6,rfl,hs,M⟩;clear cj V3 V4;have V6:=I (hs.mono (S':=fun j=>j<w.heap.size) (fun j _ x=>by have:=O.o.size;omega));replace O:=O.t M;clear hs M)
  |fail)
 go_ret2
 refine⟨v6,?_,V6.o,O.o⟩;rw[Z.o.1]
 rfl
end
end Ac
namespace Ac
open Go.RowKit Af Se Kd
open Rg (It Ent Ring RO DRing DO its PW Ci)
structure Scs (w0 w:World) (g:Nat) (p:SP) (es:List Ent) (u:Value) (st:Int):Prop where
 blk:∃x,Blk w g 44 #[.pointer (some ⟨p.a,0,none⟩),.pointer (some ⟨x,0,none⟩)]
 ad:AD w w0.heap.size p es u (!decide (st=0)) st [] 0 0 0
 e:its es=itS
 P:p.P=pSv
 T:p.T=tT
 ng:¬AA p es u g
 lo:w0.heap.size<=g
 b:Below w0.heap.size w0 w
theorem Vk {w:World} {B q:Nat} (M:Blk w q 54 #[.slice none 0 0]) (hB:B<=q):DRing w B q (.slice none 0 0) []:=
 ⟨M,World.ownsRow_nil w B _ 35,hB,by simp [Value.ownBlock]⟩
theorem Qf:Nm.Cu pSv.1 pSv.2=true:=by decide +kernel
theorem fm:pSv.1∈tT.R:=by decide
theorem it_eq (k M:Nat->UInt8):([]++[(⟨pSv,Ci [] pSv+1,k⟩:It)])++[(⟨pSv,Ci ([]++[(⟨pSv,Ci [] pSv+1,k⟩:It)]) pSv+1,M⟩:It)] = [(⟨pSv,1,k⟩:It),⟨pSv,2,M⟩]:=by
 rw[dS];show [(⟨pSv,1,k⟩:It)]++[(⟨pSv,Ci [(⟨pSv,1,k⟩:It)] pSv+1,M⟩:It)]=_;rw[YI];rfl
theorem He (st:Int) (w:World):Calls Tryz.prog 4 #[.int .i64 st] w fun e w'=>∃g p es u,e=.returned (.pointer (some ⟨g,0,none⟩))/\Scs w w' g p es u st:=by
 have C1:=I (fun(w1:World)=>PW w1.heap.size w1 Ag);have CM:=I (fun(w1:World)=>Vf w1);have CT:=I (fun(w1:World)=>eS w1);obtain⟨cK,bq⟩:=Ak (AQ (k1 1));obtain⟨cL,bn⟩:=Ak (AQ (k1 2));have bs:=I (show Tryz.prog.built 24 [(0,.int .u8 1)]=some cK by rw[bq];exact IW 1);have bx:=I (show Tryz.prog.built 24 [(0,.int .u8 2)]=some cL by rw[bn];exact IW 2);have EK:=I bq;have EL:=I bn;clear bq bn;go_enter Tryz.func4,Tryz.ntmps4
 go_upto_region 2 with(first
  |(go_at_call 11;refine Calls.mono (C1.o _) ?_;rintro e w1 ⟨r,rfl,bB,bz,M⟩;clear C1;have HR:=I bz;have O:=I M;clear bz M)
  |fail)
 obtain⟨W2,aw⟩:=Ak (w1.alloc (.cells #[.slice none 0 0] 54));have M:Below w1.heap.size w1 W2:=aw▸Ah.alloc Ag _;have bb:=O.o.size;have Z:=I (show Sa W2 w.heap.size r (.slice none 0 0) [] w1.heap.size (.slice none 0 0) [] [] from⟨HR.o.below M,Vk (aw▸Blk.new w1 _ _) bb,rfl,(fun j e he=>by simp at he),(fun k hk x=>by
  rcases hk with hk | hk
  ·have:=HR.o.own_lt x;omega
  ·simp [Value.ownBlock] at hk)⟩)
 replace O:=I (O.o.trans (M.mono bb));rw[<-aw];clear aw M bb HR bB;obtain⟨q,eq⟩:=Ak (w1.heap.size);rw[<-eq] at Z⊢;clear eq
 go_upto_region 5 with(first
  |(go_at_call 9;refine Aj (CM.o _) ?_;rintro wm M;replace Z:=I (Z.o.below M);replace O:=O.t M;clear M)
  |(refine Mc.Am (by rfl) 24 #[(0,.const (.int .u8 1))] (by rfl) cK (by simp only[List.map_toArray,List.map_cons,List.map_nil];exact bs.o) ?_)
  |(go_at_call 12;refine Calls.mono (UK Z.o O.o.size (by decide) num_0 EK.o) ?_;rintro e wa ⟨⟨nn,rfl⟩,rv,es,hs,M⟩;replace Z:=I hs;replace O:=I (O.o.trans M);clear hs M)
  |fail)
 go_upto_region 6 with(first
  |(go_at_call 9;refine Aj (CM.o _) ?_;rintro cg M;replace Z:=I (Z.o.below M);replace O:=O.t M;clear M)
  |(refine Mc.Am (by rfl) 24 #[(0,.const (.int .u8 1))] (by rfl) cK (by simp only[List.map_toArray,List.map_cons,List.map_nil];exact bs.o) ?_)
  |(go_at_call 13;refine Calls.mono (YH Z.o O.o.size (by decide) (by decide) EK.o) ?_;rintro e wb ⟨⟨ck,rfl⟩,dv,hs,M⟩;replace Z:=I hs;replace O:=I (O.o.trans M);clear hs M)
  |fail)
 go_upto_region 7 with(first
  |(go_at_call 9;refine Aj (CM.o _) ?_;rintro ca M;replace Z:=I (Z.o.below M);replace O:=O.t M;clear M)
  |(refine Mc.Am (by rfl) 24 #[(0,.const (.int .u8 2))] (by rfl) cL (by simp only[List.map_toArray,List.map_cons,List.map_nil];exact bx.o) ?_)
  |(go_at_call 12;refine Calls.mono (UK Z.o O.o.size (by show 1<10;decide) num_1 EL.o) ?_;rintro e wc ⟨⟨cn,rfl⟩,cb,es2,hs,M⟩;replace Z:=I hs;replace O:=I (O.o.trans M);clear hs M)
  |fail)
 go_upto_region 8 with(first
  |(go_at_call 9;refine Aj (CM.o _) ?_;rintro cc M;replace Z:=I (Z.o.below M);replace O:=O.t M;clear M)
  |(refine Mc.Am (by rfl) 24 #[(0,.const (.int .u8 2))] (by rfl) cL (by simp only[List.map_toArray,List.map_cons,List.map_nil];exact bx.o) ?_)
  |(go_at_call 13;refine Calls.mono (YH Z.o O.o.size (by show 1<10;decide) (by rw[show([]++[⟨pSv,Ci [] pSv+1,k1 1⟩]:List It) = [⟨pSv,1,k1 1⟩] from rfl,YI];decide) EL.o) ?_;rintro e wd ⟨⟨cj,rfl⟩,cm,hs,M⟩;replace Z:=I hs;replace O:=I (O.o.trans M);clear hs M)
  |fail)
 rw[it_eq] at Z
 go_upto_region 9 with(first
  |(go_at_call 9;refine Aj (CM.o _) ?_;rintro cd M;replace Z:=I (Z.o.below M);replace O:=O.t M;clear M)
  |(go_at_call 15;refine Calls.mono (CT.o _) ?_;rintro e wt ⟨v1,v2,rfl,av,M⟩;replace Z:=I (Z.o.below M);replace O:=O.t M;have CN:=I (aT (now:=st) ax rfl tT_kt dA (by decide) Qf (av.r.slv (B:=wt.heap.size) (fun b x=>x.2)) (av.k.slp (B:=wt.heap.size) (fun b x=>x.2)) fm Z.o.c O.o.size Z.o.z);obtain⟨A1,c1,A2,c2,rfl,rfl,_⟩:=av.sizes;clear M av)
  |(go_at_call 14;refine Calls.mono CN.o ?_;rintro e wn ⟨a,qr,lo,hi,u1,u2,rfl,h1,h2,h3,had,M⟩;clear CN;have HA:=I had;have HE:=I Z.o.e;replace O:=O.t M;clear had M h1 h2 h3 Z)
  |fail)
 go_upto_region 10 with(first
  |(go_at_call 9;refine Aj (CM.o _) ?_;rintro cp M;replace HA:=I (HA.o.below M);replace O:=O.t M;clear M)
  |(go_at_call 15;refine Calls.mono (CT.o _) ?_;rintro e cf ⟨v1,v2,rfl,av,M⟩;replace HA:=I (HA.o.below M);replace O:=O.t M;have CN:=I (XQ (now:=st) (q:=q) ax dA (by decide) Qf fm av Ag);obtain⟨A3,c3,A4,c4,rfl,rfl,_⟩:=av.sizes;clear M av)
  |(go_at_call 16;refine Calls.mono CN.o ?_;rintro e wx ⟨x,s,rfl,h1,h2,h3,h4,M⟩;clear CN;replace HA:=I (HA.o.below M);replace O:=O.t M;clear M h1 h2 h3 h4)
  |fail)
 go_wp2_with fail
 go_ret;have M:Below wx.heap.size wx (wx.alloc (.cells #[.pointer (some ⟨a,0,none⟩),.pointer (some ⟨x,0,none⟩)] 44)):=Ah.alloc Ag _;exact⟨wx.heap.size,_,es2,_,rfl,⟨x,Blk.new _ _ _⟩,HA.o.below M,HE.o,rfl,rfl,HA.o.fresh Ag,O.o.size,O.o.trans (M.mono O.o.size)⟩
end Ac
namespace Kd
open Go.RowKit Af Se
open Rg (It Ent Ring RO its Ae CV Uu PU Kh YB)
open SeL (Cw BM)
open Ms (Pt Rp Re Tk ptO pSm reC tkC prC ptD pt0)
abbrev ptZ:Array Value:=#[.string ⟨#[]⟩,.string ⟨#[]⟩,.int .u8 0,.int .u8 0,.int .u8 0,.int .u8 0,.int .u8 0,.int .u8 0,.int .u8 0,.int .u8 0,.int .u8 0,.int .u8 0,.int .u8 0,.int .u8 0,.int .u8 0,.int .u8 0,.int .u8 0,.int .u8 0,.int .u8 0,.int .u8 0,.int .u8 0,.int .u8 0,.int .u8 0,.int .u8 0,.int .u8 0,.int .u8 0,.int .u8 0,.int .u8 0,.int .u8 0,.int .u8 0,.int .u8 0,.int .u8 0,.int .u8 0,.int .u8 0,.string ⟨#[]⟩,.int .i64 0,.int .i64 0]
theorem Vl:ptA pt0=ptZ:=rfl
def ShtP (w:World) (B:Nat) (rg:Nat) (rv:Value) (es:List Ent) (s:Option Ss) (c:Nat) (r:Int×Pt) (e:Ending) (w':World):Prop:=
 ∃es' s',e=.returned (.tuple #[.agg (ptA r.2),.int .i64 r.1])/\Rn w w' B rg rv es s es' s' c
theorem Ng {ks:Nat->UInt8} {u:Int} {l:Nm.L} (M:0<=u) (O:u<=255):(BM ks u l).2=0\/(BM ks u l).2=3:=by
 unfold BM;rw[if_pos ⟨M,O⟩]
 split
 ·exact .inl rfl
 ·exact .inr rfl
section
variable {w:World} {B:Nat} {rg:Nat} {rv:Value} {es:List Ent} {s:Option Ss} {c:Nat}
theorem fo {t:Tk} {bv:Value} {now:Int} (h:RS w B rg rv es s c) (hc:c<900000) (hl:es.length<=1000) (h0:0<=now) (h9:now<=1073741824) (hv:SlN (RSO rg rv es s) w bv t.b) {rz:Int×Pt} (hr:shwL (its es) t now=rz) :
  Calls Tryz.prog 53 #[.pointer (some ⟨rg,0,none⟩),.agg #[.string ⟨t.s.1.toArray⟩,.string ⟨t.s.2.toArray⟩,.int .i64 t.k,bv],.int .i64 now] w (ShtP w B rg rv es s (c+1) rz):=by
 obtain⟨AB,mB,cr,cL,cX⟩:=hv;obtain⟨W,eW⟩:=Ak ((w.alloc (.cells #[.string ⟨t.s.1.toArray⟩,.string ⟨t.s.2.toArray⟩,.int .i64 t.k,bv] 74)).alloc (.cells ptZ 33));have hb:Below w.heap.size w W:=eW▸(Ah.alloc Ag _).alloc (by simp) _;have HT:=I (show Blk W w.heap.size 74 #[.string ⟨t.s.1.toArray⟩,.string ⟨t.s.2.toArray⟩,.int .i64 t.k,bv] from eW▸(Blk.new w _ _).alloc _);have hz:Blk W (w.heap.size+1) 33 ptZ:=by have:=Blk.new (w.alloc (.cells #[.string ⟨t.s.1.toArray⟩,.string ⟨t.s.2.toArray⟩,.int .i64 t.k,bv] 74)) 33 ptZ;simp only[World.size_alloc] at this;exact eW▸this
 have Z:=I (Rn.start h hb);have HB:=I ((show SlN (RSO rg rv es s) w bv t.b from⟨AB,mB,cr,cL,cX⟩).below hb);have cx:=I (h.offs (Nat.le_refl w.heap.size));have aw:=I (h.offs (Nat.le_add_right w.heap.size 1));obtain⟨LB,cA⟩:=Ak (t.b.length);have eb:=I cr;rw[<-cA] at cr;subst cr;clear cL cX;obtain⟨zz,cd⟩:=Ak (ptZ);have cQ:=I (show zz.size=37 by rw[cd];rfl);have bx:=I (show(Tryz.prog.info? 33).map (·.size)=some zz.size by rw[cQ.o];kernel_rfl);have cm:=I (show zz.all (·.oneCell')=true by rw[cd,<-Vl];exact LF _);have bq:=I (show Tryz.prog.built 33 []=some zz by rw[cd,<-Vl];exact Uz);have ck:=I (show ptA pt0=zz by rw[cd,Vl]);rw[<-cd] at hz;have HZ:=I hz;have HR:=I hr;have cT:=I hl;clear hr;have HC:=I hc;clear h hb hz hc hl cd cA;go_enter Tryz.func53,Tryz.ntmps53
 go_upto_region 1 with fail
 rw[<-eW];clear eW;have cy:=HT.c0;have cZ:=HT.c1;cases hf:CV (its es) t.s t.k with
 |none=>
  have er:rz=(4,pt0):=by rw[<-HR.o];unfold shwL;rw[hf]
  subst er;have CB:=I (fun(w1:World) (h1:Ring w1 B rg rv es)=>PU (z:=t.k) h1 cT.o hf);clear hf;have cb:=HT.c2
  go_upto_region 2 with(first
   |(go_at_call 87;refine Aj (CB.o _ Z.o.st.k) ?_;rintro w3 hb;clear CB cy cZ cb;replace HT:=I (HT.o.below hb);replace HZ:=I (HZ.o.below hb);replace HB:=I (HB.o.below hb);replace Z:=I (Z.o.below hb);clear hb)
   |fail)
  go_wp2_with (first
   |(refine Mc.Am (by rfl) 33 #[] (by rfl) zz (by simp;exact bq.o) ?_)
   |(refine Wh.AX (by rfl) 33 (.tmp 6) (.tmp 23) (by rfl) (w.heap.size+1) 33 _ HZ.o zz (by rfl) (by rfl) (by rfl) bx.o cm.o ?_;rintro V hV hg;replace HZ:=I hV;replace Z:=I (Z.o.over (by omega) aw.o hg);clear hV hg bq)
   |fail)
  refine bodyPost_ret (v:=.tuple #[.agg zz,.int .i64 4]) ?_ ?_ ?_
  ·exact Ae (v:=.agg zz) 6 7 33 ⟨w.heap.size+1,0,none⟩ Tryz.results53 rfl (Wh.Ao HZ.o Tryz.underlying33 (by rfl) bx.o) rfl
  ·rfl
  ·exact⟨_,_,by rw[ck.o],Z.o.more (by omega)⟩
 |some j=>
  obtain⟨y,hy,_,_⟩:=Kh hf;obtain⟨xe,hx,rfl⟩:=YB hy;have hk:keyO (its es) (some j)=xe.it.k:=by simp [keyO,hy]
  have e5:shwL (its es) t now=(if (BM xe.it.k 2 t.b).2=0 then (match ptD (BM xe.it.k 2 t.b).1 with | none=>((2,pt0):Int×Pt) | some q=>if q.en<now then (7,pt0) else if now+5<q.st then (8,pt0) else (0,q)) else (3,pt0):Int×Pt):=by
   unfold shwL;rw[hf];simp only;rw[hk]
   rfl
  replace HR:=I (e5.symm.trans HR.o);have CB:=I (fun(w1:World) (h1:Ring w1 B rg rv es)=>Uu (z:=t.k) h1 cT.o hf hx);have ea:=I hx;have cq:=I (Ng (ks:=xe.it.k) (u:=2) (l:=t.b) (by decide) (by decide));obtain⟨xr,cw⟩:∃x,x=BM xe.it.k 2 t.b:=⟨_,rfl⟩;have EX:=I cw;rw[<-cw] at HR cq;clear hf hx cw hy hk e5;have cb:=HT.c2
  go_upto_region 2 with(first
   |(go_at_call 87;refine Aj (CB.o _ Z.o.st.k) ?_;rintro w3 hb;clear CB cy cZ cb;replace HT:=I (HT.o.below hb);replace HZ:=I (HZ.o.below hb);replace HB:=I (HB.o.below hb);replace Z:=I (Z.o.below hb);clear hb)
   |fail)
  have co:=MZ Z.o.st (.inl ⟨j,xe,ea.o,rfl,rfl⟩) (by have:=HC.o;omega) 2 _ t.b HB.o;rw[<-EX.o] at co;have cb:=HT.c3;rcases cq.o with ho | ho
  ·skip
   rw[ho] at co;replace HR:=I ((if_pos ho).symm.trans HR.o);clear ho cq;cases hd:ptD xr.1 with
   |none=>
    rw[hd] at HR;have er:rz=(2,pt0):=HR.o.symm;subst er;have CD:=I (fun(A:Option Addr) (c0:Nat) (w1:World) (hr:Rd w1 w1.heap.size A (bvs xr.1))=>Mc.JS A xr.1 c0 w1 hr);rw[show Mc.ptG xr.1=pt0 from by unfold Mc.ptG;rw[hd];rfl,show Mc.ptI xr.1=2 by unfold Mc.ptI;rw[hd];rfl] at CD;have av:(pt0).ss.length=32:=rfl;obtain⟨O,M⟩:=Ak (ptA (pt0));have cn:=I (show O.size=37 by rw[M];exact Hh av);have cc:=I (show(Tryz.prog.info? 33).map (·.size)=some O.size by rw[M];exact LG av);have ct:=I (show O.all (·.oneCell')=true by rw[M];exact LF _);have ca:=I (fun(w1:World) (g:Nat) (hb:Blk w1 g 33 O)=>And.intro (dK av (M▸hb)) (dL av (M▸hb)));have cP:=I (show ptA (pt0)=O from M.symm);have bs:O=(Ms.ptC (pt0)).toArray:=M;rw[<-bs] at CD;clear M bs av;clear hd
    go_wp2_with (first
     |(go_at_call 88;refine Calls.mono co ?_;rintro e w6 ⟨v6,cY,s6,rfl,cp,bb⟩;clear co cb HB;have bB:=bb.blk HZ.o aw.o;have bn:=bb.off aw.o HZ.o.lt;replace HZ:=I bB;replace aw:=I bn;replace Z:=I (Z.o.trans bb);obtain⟨A6,m6,cg,cj,bz⟩:=cp;subst cg;have cf:=I bz.rd;clear cj bz bb bB bn HT cx)
     |(go_at_call 89;refine Aj (CD.o _ _ _ cf.o) ?_;rintro w9 hb;clear CD cf;replace HZ:=I (HZ.o.below hb);replace Z:=I (Z.o.below hb);clear hb)
     |(refine Wh.Bd (by rfl) 33 (.tmp 11) (.tmp 37) (by rfl) 33 rfl O (by rfl) (by rfl) (by rw[cn.o];rfl) cc.o ct.o ?_;rintro V hV hb;have HV:=I hV;replace Z:=I (Z.o.below hb);replace HZ:=I (HZ.o.below hb);have cB:=(ca.o _ _ hV).1;have cR:=(ca.o _ _ hV).2;clear hb hV cn ca)
     |(refine Mc.Am (by rfl) 33 #[] (by rfl) zz (by simp;exact bq.o) ?_)
     |(refine Wh.AX (by rfl) 33 (.tmp 6) (.tmp 41) (by rfl) (w.heap.size+1) 33 _ HZ.o zz (by rfl) (by rfl) (by rfl) bx.o cm.o ?_;rintro V hV hg;replace HZ:=I hV;replace Z:=I (Z.o.over (by omega) aw.o hg);clear hV hg bq)
     |fail)
    refine bodyPost_ret (v:=.tuple #[.agg zz,.int .i64 2]) ?_ ?_ ?_
    ·exact Ae (v:=.agg zz) 6 7 33 ⟨w.heap.size+1,0,none⟩ Tryz.results53 rfl (Wh.Ao HZ.o Tryz.underlying33 (by rfl) bx.o) rfl
    ·rfl
    ·exact⟨_,_,by rw[ck.o],Z.o.more (by omega)⟩
   |some P=>
    rw[hd] at HR;have CD:=I (fun(A:Option Addr) (c0:Nat) (w1:World) (hr:Rd w1 w1.heap.size A (bvs xr.1))=>Mc.JS A xr.1 c0 w1 hr);rw[show Mc.ptG xr.1=P from by unfold Mc.ptG;rw[hd];rfl,show Mc.ptI xr.1=0 by unfold Mc.ptI;rw[hd];rfl] at CD;have av:(P).ss.length=32:=by have:=Mc.OV xr.1;unfold Mc.ptG at this;rw[hd] at this;exact this
    obtain⟨O,M⟩:=Ak (ptA (P));have cn:=I (show O.size=37 by rw[M];exact Hh av);have cu:=I (show O.size=37 by rw[M];exact Hh av);have cc:=I (show(Tryz.prog.info? 33).map (·.size)=some O.size by rw[M];exact LG av);have ct:=I (show O.all (·.oneCell')=true by rw[M];exact LF _);have ca:=I (fun(w1:World) (g:Nat) (hb:Blk w1 g 33 O)=>And.intro (dK av (M▸hb)) (dL av (M▸hb)));have cP:=I (show ptA (P)=O from M.symm);have bs:O=(Ms.ptC (P)).toArray:=M;rw[<-bs] at CD;clear M bs av;clear hd
    go_upto_region 10 with(first
     |(go_at_call 88;refine Calls.mono co ?_;rintro e w6 ⟨v6,cY,s6,rfl,cp,bb⟩;clear co cb HB;have bB:=bb.blk HZ.o aw.o;have bn:=bb.off aw.o HZ.o.lt;replace HZ:=I bB;replace aw:=I bn;replace Z:=I (Z.o.trans bb);obtain⟨A6,m6,cg,cj,bz⟩:=cp;subst cg;have cf:=I bz.rd;clear cj bz bb bB bn HT cx)
     |(go_at_call 89;refine Aj (CD.o _ _ _ cf.o) ?_;rintro w9 hb;clear CD cf;replace HZ:=I (HZ.o.below hb);replace Z:=I (Z.o.below hb);clear hb)
     |(refine Wh.Bd (by rfl) 33 (.tmp 11) (.tmp 37) (by rfl) 33 rfl O (by rfl) (by rfl) (by rw[cn.o];rfl) cc.o ct.o ?_;rintro V hV hb;have HV:=I hV;replace Z:=I (Z.o.below hb);replace HZ:=I (HZ.o.below hb);have cB:=(ca.o _ _ hV).1;have cR:=(ca.o _ _ hV).2;clear hb hV cn ca)
     |fail)
    by_cases he:P.en<now
    ·skip
     have er:rz=(7,pt0):=HR.o.symm.trans (if_pos he);subst er
     go_wp2_with (first
      |(refine Mc.Am (by rfl) 33 #[] (by rfl) zz (by simp;exact bq.o) ?_)
      |(refine Wh.AX (by rfl) 33 (.tmp 6) (.tmp 46) (by rfl) (w.heap.size+1) 33 _ HZ.o zz (by rfl) (by rfl) (by rfl) bx.o cm.o ?_;rintro V hV hg;replace HZ:=I hV;replace Z:=I (Z.o.over (by omega) aw.o hg);clear hV hg bq)
      |fail)
     refine bodyPost_ret (v:=.tuple #[.agg zz,.int .i64 7]) ?_ ?_ ?_
     ·exact Ae (v:=.agg zz) 6 7 33 ⟨w.heap.size+1,0,none⟩ Tryz.results53 rfl (Wh.Ao HZ.o Tryz.underlying33 (by rfl) bx.o) rfl
     ·rfl
     ·exact⟨_,_,by rw[ck.o],Z.o.more (by omega)⟩
    ·replace HR:=I ((if_neg he).symm.trans HR.o)
     by_cases he2:now+5<P.st
     ·skip
      have er:rz=(8,pt0):=HR.o.symm.trans (if_pos he2);subst er
      go_wp2_with (first
       |(refine Mc.Am (by rfl) 33 #[] (by rfl) zz (by simp;exact bq.o) ?_)
       |(refine Wh.AX (by rfl) 33 (.tmp 6) (.tmp 52) (by rfl) (w.heap.size+1) 33 _ HZ.o zz (by rfl) (by rfl) (by rfl) bx.o cm.o ?_;rintro V hV hg;replace HZ:=I hV;replace Z:=I (Z.o.over (by omega) aw.o hg);clear hV hg bq)
       |fail)
      refine bodyPost_ret (v:=.tuple #[.agg zz,.int .i64 8]) ?_ ?_ ?_
      ·exact Ae (v:=.agg zz) 6 7 33 ⟨w.heap.size+1,0,none⟩ Tryz.results53 rfl (Wh.Ao HZ.o Tryz.underlying33 (by rfl) bx.o) rfl
      ·rfl
      ·exact⟨_,_,by rw[ck.o],Z.o.more (by omega)⟩
     ·skip
      have er:rz=(0,P):=HR.o.symm.trans (if_neg he2);subst er;clear bq
      go_wp2_with (first
       |(refine Wh.AF (by rfl) 33 (.tmp 11) (by rfl) w9.heap.size 0 (by rfl) O _ (Wh.Ad HV.o) Tryz.underlying33 (by rfl) cc.o ?_)
       |(refine Wh.AX (by rfl) 33 (.tmp 6) (.tmp 53) (by rfl) (w.heap.size+1) 33 _ HZ.o O (by rfl) (by rfl) (by rw[cQ.o,cu.o]) cc.o ct.o ?_;rintro V2 cM hg;replace HZ:=I cM;replace Z:=I (Z.o.over (by omega) aw.o hg);clear cM hg cu)
       |fail)
      refine bodyPost_ret (v:=.tuple #[.agg O,.int .i64 0]) ?_ ?_ ?_
      ·exact Ae (v:=.agg O) 6 7 33 ⟨w.heap.size+1,0,none⟩ Tryz.results53 rfl (Wh.Ao HZ.o Tryz.underlying33 (by rfl) cc.o) rfl
      ·rfl
      ·exact⟨_,_,by rw[cP.o],Z.o.more (by omega)⟩
  ·skip
   rw[ho] at co;have er:rz=(3,pt0):=HR.o.symm.trans (if_neg (by omega));subst er;clear ho cq
   go_wp2_with (first
    |(go_at_call 88;refine Calls.mono co ?_;rintro e w6 ⟨v6,cY,s6,rfl,cp,bb⟩;clear co cb HB;have bB:=bb.blk HZ.o aw.o;have bn:=bb.off aw.o HZ.o.lt;replace HZ:=I bB;replace aw:=I bn;replace Z:=I (Z.o.trans bb);obtain⟨A6,m6,cg,cj,bz⟩:=cp;subst cg;have cf:=I bz.rd;clear cj bz bb bB bn HT cx)
    |(refine Mc.Am (by rfl) 33 #[] (by rfl) zz (by simp;exact bq.o) ?_)
    |(refine Wh.AX (by rfl) 33 (.tmp 6) (.tmp 33) (by rfl) (w.heap.size+1) 33 _ HZ.o zz (by rfl) (by rfl) (by rfl) bx.o cm.o ?_;rintro V hV hg;replace HZ:=I hV;replace Z:=I (Z.o.over (by omega) aw.o hg);clear hV hg bq)
    |fail)
   refine bodyPost_ret (v:=.tuple #[.agg zz,.int .i64 3]) ?_ ?_ ?_
   ·exact Ae (v:=.agg zz) 6 7 33 ⟨w.heap.size+1,0,none⟩ Tryz.results53 rfl (Wh.Ao HZ.o Tryz.underlying33 (by rfl) bx.o) rfl
   ·rfl
   ·exact⟨_,_,by rw[ck.o],Z.o.more (by omega)⟩
theorem bA {t:Tk} {bv:Value} {now:Int} (h:RS w B rg rv es s c) (Z:c<900000) (O:es.length<=1000) (M:0<=now) (h9:now<=1073741824) (hv:SlN (RSO rg rv es s) w bv t.b) :
 Calls Tryz.prog 53 #[.pointer (some ⟨rg,0,none⟩),.agg #[.string ⟨t.s.1.toArray⟩,.string ⟨t.s.2.toArray⟩,.int .i64 t.k,bv],.int .i64 now] w (ShtP w B rg rv es s (c+1) (shwL (its es) t now)):=fo h Z O M h9 hv rfl
end
end Kd
namespace Kd
open Go.RowKit Af Se
open Rg (It Ent Ring RO its Ae Dr DV)
open SeL (Cw BM)
open Ms (Pt An anD anC an0)
abbrev anZ:Array Value:=#[.string ⟨#[]⟩,.string ⟨#[]⟩,.int .i64 0,.int .i64 0]
theorem Nh:(Tryz.prog.info? 35).map (·.size)=some 4:=by kernel_rfl
def ShaP (w:World) (B:Nat) (rg:Nat) (rv:Value) (es:List Ent) (s:Option Ss) (c:Nat) (r:Int×An) (e:Ending) (w':World):Prop:=
 ∃es' s',e=.returned (.tuple #[.agg (anA r.2),.int .i64 r.1])/\Rn w w' B rg rv es s es' s' c
section
variable {w:World} {B:Nat} {rg:Nat} {rv:Value} {es:List Ent} {s:Option Ss} {c:Nat}
theorem Rn.turn4 {w0:World} {es0:List Ent} {s0:Option Ss} (h:Rn w0 w B rg rv es0 s0 es s c) {g:Nat} (Z:w0.heap.size<=g) (hk:OffR rg rv es s g) (x y z t:Value):Rn w0 ((((w.setCell ⟨g,0,none⟩ x).setCell ⟨g,1,none⟩ y).setCell ⟨g,2,none⟩ z).setCell ⟨g,3,none⟩ t) B rg rv es0 s0 es s c:=by
 have O:Chg (fun j=>j=g) w ((((w.setCell ⟨g,0,none⟩ x).setCell ⟨g,1,none⟩ y).setCell ⟨g,2,none⟩ z).setCell ⟨g,3,none⟩ t):=(((Fm w g 0 x).set (p:=⟨g,1,none⟩) (.inl rfl) y).set (p:=⟨g,2,none⟩) (.inl rfl) z).set (p:=⟨g,3,none⟩) (.inl rfl) t;exact⟨h.st.chg O (fun j M e=>hk (e▸M)),h.eq,h.sq,h.chg.trans O (fun j M x=>by omega),h.nw⟩
theorem fp {x:Nat} {ss a:Nm.L} {cl:Rg.Pr} {av:Value} {u:Int} (h:RS w B rg rv es s c) (hc:c<900000) (hh:Hdl es s x (ksOf ss)) (hu:0<=u) (cu:u<=255) (hv:SlN (RSO rg rv es s) w av a) {rz:Int×An} (hr:athL ss a u cl=rz) :
  Calls Tryz.prog 54 #[.pointer (some ⟨x,0,none⟩),.int .i64 u,av,prV cl] w (ShaP w B rg rv es s (c+1) rz):=by
 obtain⟨W,eW⟩:=Ak ((w.alloc (.cells #[.string ⟨cl.1.toArray⟩,.string ⟨cl.2.toArray⟩] 30)).alloc (.cells anZ 35));have hb:Below w.heap.size w W:=eW▸(Ah.alloc Ag _).alloc (by simp) _;have M:=I (show Blk W w.heap.size 30 #[.string ⟨cl.1.toArray⟩,.string ⟨cl.2.toArray⟩] from eW▸(Blk.new w _ _).alloc _);have Z:=I (show Blk W (w.heap.size+1) 35 anZ by have:=Blk.new (w.alloc (.cells #[.string ⟨cl.1.toArray⟩,.string ⟨cl.2.toArray⟩] 30)) 35 anZ;simp only[World.size_alloc] at this;exact eW▸this);have hk:=Rn.start h hb;have HK:=I hk;have bq:=I (h.offs (Nat.le_refl w.heap.size));have bn:=I (h.offs (Nat.le_add_right w.heap.size 1));have co:=MZ hk.st hh (by omega) u av a (hv.below hb);obtain⟨AB,mB,cr,cy,cA⟩:=hv;obtain⟨LB,cq⟩:=Ak (a.length);rw[<-cq] at cr;subst cr;have cp:=Ng (ks:=ksOf ss) (u:=u) (l:=a) hu cu;have HR:=I ((show athL ss a u cl=(if (BM (ksOf ss) u a).2=0 then (match anD (BM (ksOf ss) u a).1 with | none=>(2,an0) | some x=>if x.c=cl then (0,x) else (9,an0)) else (3,an0):Int×An) from rfl).symm.trans hr);obtain⟨xr,cx⟩:∃x,x=BM (ksOf ss) u a:=⟨_,rfl⟩;rw[<-cx] at co cp HR;clear h hc hh cy cA hb hk cq cx hr hu cu;rcases cp with ho | ho
 ·rw[ho] at co
  replace HR:=I ((if_pos ho).symm.trans HR.o);clear ho;have CD:=I (fun(A:Option Addr) (c0:Nat) (w1:World) (hr:Rd w1 w1.heap.size A (bvs xr.1))=>Mc.Nf A xr.1 c0 w1 hr);cases hd:anD xr.1 with
  |none=>
   rw[hd] at HR;have er:rz=(2,an0):=HR.o.symm;subst er;rw[show Ms.anG xr.1=Ms.an0 from by unfold Ms.anG;rw[hd];rfl,show Ms.anI xr.1=2 by unfold Ms.anI;rw[hd];rfl] at CD;rw[show(anC (Ms.an0)).toArray=#[.string ⟨(Ms.an0).c.1.toArray⟩,.string ⟨(Ms.an0).c.2.toArray⟩,.int .i64 (Ms.an0).t,.int .i64 (Ms.an0).q] from rfl] at CD;clear hd HR;go_enter Tryz.func54,Tryz.ntmps54
   go_upto_region 1 with fail
   rw[<-eW];clear eW
   go_wp2_with (first
    |(go_at_call 88;refine Calls.mono co ?_;rintro e w6 ⟨v6,cm,s6,rfl,cc,O⟩;clear co;have bz:=O.blk Z.o bn.o;have bb:=O.off bn.o Z.o.lt;have bs:=O.blk M.o bq.o;have aw:=O.off bq.o M.o.lt;replace Z:=I bz;replace bn:=I bb;replace M:=I bs;replace bq:=I aw;replace HK:=I (HK.o.trans O);obtain⟨A6,m6,ca,cb,bx⟩:=cc;subst ca;have bB:=I bx.rd;clear cb bx O bz bb bs aw)
    |(go_at_call 90;refine Aj (CD.o _ _ _ bB.o) ?_;rintro w9 hb;clear CD bB;replace Z:=I (Z.o.below hb);replace M:=I (M.o.below hb);replace HK:=I (HK.o.below hb);have fz:=Z.o.frozen;have cg:=Z.o.cell 0;have cj:=Z.o.cell 1;have cn:=Z.o.cell 2;have ck:=Z.o.cell 3;have cf:=Z.o.lt;have ct:=M.c0;have cw:=M.c1;have cd:=M.o.lt;clear hb)
    |fail)
   refine bodyPost_ret (v:=.tuple #[.agg anZ,.int .i64 2]) ?_ ?_ ?_
   ·exact Ae (v:=.agg anZ) 8 9 35 ⟨w.heap.size+1,0,none⟩ Tryz.results54 rfl (Wh.Ao ((set4 Z.o _ _ _ _).alloc _) Tryz.underlying35 (by rfl) Nh) rfl
   ·rfl
   ·exact⟨_,_,rfl,(HK.o.turn4 (by omega) bn.o _ _ _ _).alloc _⟩
  |some xa=>
   rw[hd] at HR;replace HR:=I (show(if xa.c=cl then (0,xa) else (9,an0):Int×An)=rz from HR.o);rw[show Ms.anG xr.1=xa from by unfold Ms.anG;rw[hd];rfl,show Ms.anI xr.1=0 by unfold Ms.anI;rw[hd];rfl] at CD;rw[show(anC (xa)).toArray=#[.string ⟨(xa).c.1.toArray⟩,.string ⟨(xa).c.2.toArray⟩,.int .i64 (xa).t,.int .i64 (xa).q] from rfl] at CD;clear hd
   by_cases hne:xa.c=cl
   ·have er:rz=(0,xa):=HR.o.symm.trans (if_pos hne)
    subst er;have q1:=Dr hne;clear HR hne;go_enter Tryz.func54,Tryz.ntmps54
    go_upto_region 1 with fail
    rw[<-eW];clear eW
    go_wp2_with (first
     |(go_at_call 88;refine Calls.mono co ?_;rintro e w6 ⟨v6,cm,s6,rfl,cc,O⟩;clear co;have bz:=O.blk Z.o bn.o;have bb:=O.off bn.o Z.o.lt;have bs:=O.blk M.o bq.o;have aw:=O.off bq.o M.o.lt;replace Z:=I bz;replace bn:=I bb;replace M:=I bs;replace bq:=I aw;replace HK:=I (HK.o.trans O);obtain⟨A6,m6,ca,cb,bx⟩:=cc;subst ca;have bB:=I bx.rd;clear cb bx O bz bb bs aw)
     |(go_at_call 90;refine Aj (CD.o _ _ _ bB.o) ?_;rintro w9 hb;clear CD bB;replace Z:=I (Z.o.below hb);replace M:=I (M.o.below hb);replace HK:=I (HK.o.below hb);have fz:=Z.o.frozen;have cg:=Z.o.cell 0;have cj:=Z.o.cell 1;have cn:=Z.o.cell 2;have ck:=Z.o.cell 3;have cf:=Z.o.lt;have ct:=M.c0;have cw:=M.c1;have cd:=M.o.lt;clear hb)
     |fail)
    refine bodyPost_ret (v:=.tuple #[.agg #[.string ⟨xa.c.1.toArray⟩,.string ⟨xa.c.2.toArray⟩,.int .i64 xa.t,.int .i64 xa.q],.int .i64 0]) ?_ ?_ ?_
    ·exact Ae (v:=.agg #[.string ⟨xa.c.1.toArray⟩,.string ⟨xa.c.2.toArray⟩,.int .i64 xa.t,.int .i64 xa.q]) 8 9 35 ⟨w.heap.size+1,0,none⟩ Tryz.results54 rfl (Wh.Ao ((set4 Z.o _ _ _ _).alloc _) Tryz.underlying35 (by rfl) Nh) rfl
    ·rfl
    ·exact⟨_,_,rfl,(HK.o.turn4 (by omega) bn.o _ _ _ _).alloc _⟩
   ·have er:rz=(9,an0):=HR.o.symm.trans (if_neg hne)
    subst er;have q1:=DV hne;clear HR hne;go_enter Tryz.func54,Tryz.ntmps54
    go_upto_region 1 with fail
    rw[<-eW];clear eW
    go_wp2_with (first
     |(go_at_call 88;refine Calls.mono co ?_;rintro e w6 ⟨v6,cm,s6,rfl,cc,O⟩;clear co;have bz:=O.blk Z.o bn.o;have bb:=O.off bn.o Z.o.lt;have bs:=O.blk M.o bq.o;have aw:=O.off bq.o M.o.lt;replace Z:=I bz;replace bn:=I bb;replace M:=I bs;replace bq:=I aw;replace HK:=I (HK.o.trans O);obtain⟨A6,m6,ca,cb,bx⟩:=cc;subst ca;have bB:=I bx.rd;clear cb bx O bz bb bs aw)
     |(go_at_call 90;refine Aj (CD.o _ _ _ bB.o) ?_;rintro w9 hb;clear CD bB;replace Z:=I (Z.o.below hb);replace M:=I (M.o.below hb);replace HK:=I (HK.o.below hb);have fz:=Z.o.frozen;have cg:=Z.o.cell 0;have cj:=Z.o.cell 1;have cn:=Z.o.cell 2;have ck:=Z.o.cell 3;have cf:=Z.o.lt;have ct:=M.c0;have cw:=M.c1;have cd:=M.o.lt;clear hb)
     |fail)
    refine bodyPost_ret (v:=.tuple #[.agg anZ,.int .i64 9]) ?_ ?_ ?_
    ·exact Ae (v:=.agg anZ) 8 9 35 ⟨w.heap.size+1,0,none⟩ Tryz.results54 rfl (Wh.Ao ((set4 Z.o _ _ _ _).alloc _) Tryz.underlying35 (by rfl) Nh) rfl
    ·rfl
    ·exact⟨_,_,rfl,(HK.o.turn4 (by omega) bn.o _ _ _ _).alloc _⟩
 ·rw[ho] at co
  have er:rz=(3,an0):=HR.o.symm.trans (if_neg (by omega));subst er;clear ho HR;go_enter Tryz.func54,Tryz.ntmps54
  go_upto_region 1 with fail
  rw[<-eW];clear eW
  go_wp2_with (first
   |(go_at_call 88;refine Calls.mono co ?_;rintro e w6 ⟨v6,cm,s6,rfl,cc,O⟩;clear co;have bz:=O.blk Z.o bn.o;have bb:=O.off bn.o Z.o.lt;have bs:=O.blk M.o bq.o;have aw:=O.off bq.o M.o.lt;replace Z:=I bz;replace bn:=I bb;replace M:=I bs;replace bq:=I aw;replace HK:=I (HK.o.trans O);obtain⟨A6,m6,ca,cb,bx⟩:=cc;subst ca;have bB:=I bx.rd;clear cb bx O bz bb bs aw;have fz:=Z.o.frozen;have cg:=Z.o.cell 0;have cj:=Z.o.cell 1;have cn:=Z.o.cell 2;have ck:=Z.o.cell 3;have cf:=Z.o.lt)
   |fail)
  refine bodyPost_ret (v:=.tuple #[.agg anZ,.int .i64 3]) ?_ ?_ ?_
  ·exact Ae (v:=.agg anZ) 8 9 35 ⟨w.heap.size+1,0,none⟩ Tryz.results54 rfl (Wh.Ao (set4 Z.o _ _ _ _) Tryz.underlying35 (by rfl) Nh) rfl
  ·rfl
  ·exact⟨_,_,rfl,HK.o.turn4 (by omega) bn.o _ _ _ _⟩
theorem bC {x:Nat} {ss a:Nm.L} {cl:Rg.Pr} {O:Value} {u:Int} (h:RS w B rg rv es s c) (hc:c<900000) (Z:Hdl es s x (ksOf ss)) (hu:0<=u) (M:u<=255) (hv:SlN (RSO rg rv es s) w O a) :
 Calls Tryz.prog 54 #[.pointer (some ⟨x,0,none⟩),.int .i64 u,O,prV cl] w (ShaP w B rg rv es s (c+1) (athL ss a u cl)):=fp h hc Z hu M hv rfl
end
end Kd
end Go.Proofs.YtiecjolmennkfaaGreat
