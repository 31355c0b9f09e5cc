import Derived.Test.YthkdjblnmkkcfaaGreatZAcceptorOnce15
import Derived.Test.YthkdjblnmkkcfaaGreatZAcceptorOnce16
set_option maxHeartbeats 25600000
set_option maxRecDepth 100000
set_option linter.unusedVariables false
set_option linter.unusedSimpArgs false
namespace Go.Proofs.YthkdjblnmkkcfaaGreat
namespace Ac
open Go.RowKit Af Se Kd
open Nm (strs Ct DY)
open Rt (Tp Sm SlV SlP TpV isT)
open Rp (DRp)
section
variable {w:World} {B:Nat} {T:Tp} {P:Nm.L×Nm.L} {v1 v2 v:Value} {q lo hi:Nat}
theorem XG {now:Int} (hs:Sm T) (hT:isT T=true) (cd:P.1.length<=1000000/\P.2.length<=1000000) (bz:Ct P.1 P.2=true) (hR:P.1∈T.R) (ht:TpK (fun b=>lo<=b/\b<hi) w v1 v2 (.slice none 0 0) T) (bs:hi<=w.heap.size) :
  Calls Tryz.prog 15 #[Kd.prV P,.agg (tpA v1 v2),.pointer (some ⟨q,0,none⟩),.int .i64 now] w fun e w'=>∃x s,e=.returned (.tuple #[.pointer (some ⟨x,0,none⟩),.int .i64 0])/\Blk w' x 111 #[.string ⟨P.1.toArray⟩,.string ⟨P.2.toArray⟩,v1,v2,.slice none 0 0,.pointer (some ⟨q,0,none⟩),.pointer (some ⟨s,0,none⟩),.int .i64 0,.int .i64 0]/\DRp w' w.heap.size s (.slice none 0 0) (!decide (now=0)) now []/\s≠x/\w.heap.size<=x/\Below w.heap.size w w':=by
 obtain⟨A1,c1,A2,c2,rfl,rfl,_⟩:=ht.sizes;obtain⟨W,eW⟩:=Ak ((w.alloc (.cells #[.string ⟨P.1.toArray⟩,.string ⟨P.2.toArray⟩] 37)).alloc (.cells (tpA (.slice A1 T.R.length c1) (.slice A2 T.K.length c2)) 66));have O:Below w.heap.size w W:=eW▸(Ah.alloc Ag _).alloc (by simp) _;have Z:=I (show Blk W w.heap.size 37 #[.string ⟨P.1.toArray⟩,.string ⟨P.2.toArray⟩] from eW▸(Blk.new w _ _).alloc _);have M:=I (show Blk W (w.heap.size+1) 66 (tpA (.slice A1 T.R.length c1) (.slice A2 T.K.length c2)) by have:=Blk.new (w.alloc (.cells #[.string ⟨P.1.toArray⟩,.string ⟨P.2.toArray⟩] 37)) 66 (tpA (.slice A1 T.R.length c1) (.slice A2 T.K.length c2));simp only[World.size_alloc] at this;exact eW▸this);have HB:=I O;have CI:=I (fun(w1:World) (b1:Below w.heap.size w w1)=>Rt.XF T _ hi w1 hs ((ht.keep (K':=fun b=>lo<=b/\b<hi) (fun b o cc=>World.cell?_of_block (a:=⟨b,o,none⟩) (b1.block b (by have:=cc.2;omega))) (fun _ x=>x)).tpv (fun b x=>x.2)) (Nat.le_trans bs b1.size));rw[hT] at CI;have CQ:=I (fun(w1:World)=>DY P.1 P.2 w1 (by omega) (by omega));rw[bz] at CQ;have CP:=I (fun(w1:World) (b1:Below w.heap.size w w1)=>Rt.Eo T.R A1 c1 hi P.1 w1 (by have:=hs.r;omega) (by
  obtain⟨A,c,e,_,h⟩:=ht.r.slv (B:=hi) (fun b x=>x.2);injection e with e1 _ _;subst e1;exact h.below (b1.mono bs)))
 have ca:¬Tr.ixL P.1 T.R<0:=by
  rw[Tr.ixL,if_pos hR];omega
 have CR:=I (fun(w1:World)=>Rp.Xf now w1);obtain⟨n,en⟩:=Ak (T.R.length);obtain⟨m,em⟩:=Ak (T.K.length);obtain⟨ix,cb⟩:=Ak (Tr.ixL P.1 T.R);rw[<-cb] at CP ca;rw[<-en] at CI CP M eW⊢;rw[<-em] at CI M eW⊢;clear hs hT hR ht bs O cd bz en em cb;go_enter Tryz.func15,Tryz.ntmps15
 go_upto_region 1 with fail
 rw[<-eW];clear eW;have aw:=Z.o.cell 0;have cf:=Z.o.cell 1
 go_upto_region 3 with(first
  |(go_at_call 28;refine Aj (CQ.o _) ?_;rintro w1 O;clear CQ aw cf;replace M:=I (M.o.below O);replace Z:=I (Z.o.below O);replace HB:=HB.t O;have bn:=M.o.cell 0;have ck:=M.o.cell 1;have cj:=M.o.cell 2;clear O)
  |(go_at_call 34;refine Aj (CI.o _ HB.o) ?_;rintro w2 O;clear CI bn ck cj;replace M:=I (M.o.below O);replace Z:=I (Z.o.below O);replace HB:=HB.t O;have bn:=M.o.cell 0;have aw:=Z.o.cell 0;clear O)
  |(go_at_call 35;refine Aj (CP.o _ HB.o) ?_;rintro w3 hw;clear CP;subst hw)
  |fail)
 clear bn aw ca;have av:Below w2.heap.size w2 w2.drew:=below_drewN Ah 1;replace Z:=I (Z.o.below av);replace M:=I (M.o.below av);replace HB:=HB.t av;clear av;refine Reg.BQ (fun w'=>Blk w' w.heap.size 37 #[.string ⟨P.1.toArray⟩,.string ⟨P.2.toArray⟩]/\Blk w' (w.heap.size+1) 66 (tpA (.slice A1 n c1) (.slice A2 m c2))) 9 rfl (by kernel_rfl) ⟨Z.o,M.o⟩ ?_;refine Reg.tw 0 (v:=Kd.prV P) rfl ⟨Z.o,M.o⟩ (fun w' hS=>by obtain⟨hP,hT⟩:=hS;have q0:=hP.cell 0;have q1:=hP.cell 1;go_simp<;>rfl) ?_;refine Reg.tw 1 (v:=.agg (tpA (.slice A1 n c1) (.slice A2 m c2))) rfl ⟨Z.o,M.o⟩ (fun w' hS=>by obtain⟨hP,hT⟩:=hS;have k0:=hT.cell 0;have k1:=hT.cell 1;have k2:=hT.cell 2;go_simp<;>rfl) ?_;refine Reg.ty 2 rfl ⟨Z.o,M.o⟩ ?_;refine Reg.ty 3 rfl ⟨Z.o,M.o⟩ ?_;refine Reg.b1 4 ?_
 right
 refine⟨_,_,_,_,_,_,36,#[.int .i64 now],rfl,by rfl,(by go_simp<;>first | rfl | exact⟨rfl,rfl⟩),?_⟩;refine Calls.mono (CR.o _) ?_;rintro e wr ⟨s,rfl,hr,O⟩;have cg:=I HB.o.size;replace Z:=I (Z.o.below O);replace M:=I (M.o.below O);replace HB:=HB.t O;have bx:=I hr;clear O hr;refine⟨_,rfl,⟨Z.o,M.o⟩,?_⟩;simp only[Act.put,U,Aa,Ab];refine Reg.ty 5 rfl ⟨Z.o,M.o⟩ ?_;refine Reg.b1 6 ?_
 left
 have O:Below wr.heap.size wr (wr.alloc (.cells #[.string ⟨P.1.toArray⟩,.string ⟨P.2.toArray⟩,.slice A1 n c1,.slice A2 m c2,.slice none 0 0,.pointer (some ⟨q,0,none⟩),.pointer (some ⟨s,0,none⟩),.int .i64 0,.int .i64 0] 111)):=Ah.alloc Ag _;have bq:=Blk.new wr 111 #[.string ⟨P.1.toArray⟩,.string ⟨P.2.toArray⟩,.slice A1 n c1,.slice A2 m c2,.slice none 0 0,.pointer (some ⟨q,0,none⟩),.pointer (some ⟨s,0,none⟩),.int .i64 0,.int .i64 0];refine⟨_,_,_,_,_,_,.pointer (some ⟨wr.heap.size,0,none⟩),wr.alloc (.cells #[.string ⟨P.1.toArray⟩,.string ⟨P.2.toArray⟩,.slice A1 n c1,.slice A2 m c2,.slice none 0 0,.pointer (some ⟨q,0,none⟩),.pointer (some ⟨s,0,none⟩),.int .i64 0,.int .i64 0] 111),rfl,by rfl,(by go_simp<;>rfl),⟨Z.o.below O,M.o.below O⟩,?_⟩;simp only[Act.put,U,Aa,Ab];obtain⟨wc,bB⟩:=Ak (wr.alloc (.cells #[.string ⟨P.1.toArray⟩,.string ⟨P.2.toArray⟩,.slice A1 n c1,.slice A2 m c2,.slice none 0 0,.pointer (some ⟨q,0,none⟩),.pointer (some ⟨s,0,none⟩),.int .i64 0,.int .i64 0] 111));rw[<-bB] at O bq⊢;clear bB;have cm:=I bq;have bb:=I O;replace Z:=I (Z.o.below O);replace M:=I (M.o.below O);clear O bq;refine Reg.ty 7 rfl ⟨Z.o,M.o⟩ ?_;refine Reg.ty 8 rfl ⟨Z.o,M.o⟩ ?_;refine wpAnyH_done (by kernel_rfl) ?_ _
 go_wp2_with fail
 go_ret2
 have cr:=cg.o;have cq:=bb.o.size;have ct:=HB.o.size;have cp:=bx.o.lt;have cn:=bx.o.lo;exact⟨wr.heap.size,s,rfl,cm.o,⟨bx.o.blk.below bb.o,World.ownsRow_nil _ _ _ 4,by omega,by simp [Value.ownBlock],by simp⟩,by omega,by omega,HB.o.trans (bb.o.mono HB.o.size)⟩
end
end Ac
namespace Ac
open Go.RowKit Af Se Kd
open Nm (L)
open Ms (Pt An Mg pSm mSm ptO anO mgO ptB anB)
open SeL (Cv)
abbrev LX (kv:Int) (v1 v2:Value):Array Value:=#[.int .i64 4,.string ⟨#[]⟩,.string ⟨#[]⟩,.string ⟨#[]⟩,.string ⟨#[]⟩,.int .i64 0,.int .i64 0,.string ⟨#[]⟩,.string ⟨#[]⟩,.int .i64 0,.slice none 0 0,.slice none 0 0,.string ⟨#[]⟩,.string ⟨#[]⟩,.int .i64 0,.int .i64 0,.string ⟨#[]⟩,.string ⟨#[]⟩,.string ⟨#[]⟩,.string ⟨#[]⟩,.int .i64 0,.slice none 0 0,.slice none 0 0,.string ⟨pSv.1.toArray⟩,.string ⟨pSv.2.toArray⟩,.int .i64 kv,v1,v2,.int .i64 0,.int .i64 0]
abbrev OZ (kv:Int) (v1:Value):Array Value:=#[.string ⟨pSv.1.toArray⟩,.string ⟨pSv.2.toArray⟩,.int .i64 kv,v1]
abbrev Pb (kv:Int) (v1 v2:Value):Array Value:=#[.string ⟨pSv.1.toArray⟩,.string ⟨pSv.2.toArray⟩,.int .i64 kv,v1,v2]
theorem XH (kv:Int) (A:Option Addr) (n c:Nat):Tryz.prog.built 122 [(0,Kd.prV pSv),(1,.int .i64 kv),(2,.slice A n c)]=some (OZ kv (.slice A n c)):=by kernel_rfl
theorem LU (kv:Int) (A A2:Option Addr) (n c M c2:Nat):Tryz.prog.built 124 [(0,.agg (OZ kv (.slice A n c))),(1,.slice A2 M c2)]=some (Pb kv (.slice A n c) (.slice A2 M c2)):=by kernel_rfl
theorem LS (kv:Int) (A A2:Option Addr) (n c M c2:Nat):Tryz.prog.built 134 [(0,.int .i64 4),(4,.agg (Pb kv (.slice A n c) (.slice A2 M c2)))]=some (LX kv (.slice A n c) (.slice A2 M c2)):=by kernel_rfl
theorem IU (n:UInt8):Tryz.prog.built 39 [(0,.int .u8 (n.toNat:Int))]=some (Bk (k1 n)):=by kernel_rfl
theorem Yy {ks:Nat->UInt8} {u N:Int} {p x:L} {cK:Array Value} {v:Value} {w:World} {S:Nat->Prop} (eK:cK=Bk ks) (ex:Cv ks u N p=(x,0)) (hv:SlN S w v p) :
  Calls Tryz.prog 41 #[.agg cK,.int .i64 u,.int .i64 N,v] w fun e w'=>∃v2,e=.returned (.tuple #[v2,.int .i64 0])/\SlN (fun j=>j<w.heap.size) w' v2 x/\Below w.heap.size w w':=by
 subst eK;obtain⟨A,c,rfl,hc,O⟩:=hv.sl;refine(dD ks u N A p.length c p w rfl O).mono ?_;rintro e w' ⟨v2,rfl,M,Z⟩;rw[ex] at M⊢;exact⟨v2,rfl,M,Z⟩
theorem Hl (a:An):(Tryz.prog.info? 47).map (·.size)=some (anA a).size:=by
 show _=some 4
 kernel_rfl
theorem Qc {ks:Nat->UInt8} {l:L} {u n:Int} (hp:l.length<=784) (Z:0<=n) (M:n<=1099511627776) (hu:0<=u) (O:u<=255):Cv ks u n l=((Cv ks u n l).1,0):=by rw[IM hp Z M hu O]
theorem lO_pt {p:Pt} (hk:p.ss.length=32):(lO (ptO p)).length<=784:=by
 cases h:ptB p with
 |true=>rw[JG hk h,lO,Option.getD_some];have:=Ls hk h;omega
 |false=>rw[Yl h];exact Nat.zero_le _
theorem lO_an {a:An}:(lO (anO a)).length<=784:=by
 cases h:anB a with
 |true=>rw[JH h,lO,Option.getD_some];have:=Lt h;omega
 |false=>rw[Ym h];exact Nat.zero_le _
theorem bg (o:Option L):oI o=0/\o.isSome=true\/oI o=1/\o.isSome=false:=by
 cases o with
 |none=>exact .inr ⟨rfl,rfl⟩
 |some l=>exact .inl ⟨rfl,rfl⟩
theorem sSv:pSm pSv:=⟨by decide,by decide⟩
section
variable {kv:Int} {n:UInt8} {p:Pt} {a:An}
theorem eZ (w:World) {S1 S2:Nat->Prop} {v1 v2:Value} (h1:SlN S1 w v1 (rqM kv n p a).ap.t.b) (O:SlN S2 w v2 (rqM kv n p a).ap.a) :
  Calls Tryz.prog 42 #[.agg (LX kv v1 v2)] w fun e w'=>∃v,e=.returned (.tuple #[v,.int .i64 (oI (mgO (rqM kv n p a)))])/\SlN (fun j=>j<w.heap.size) w' v (rqL kv n p a)/\Below w.heap.size w w':=by
 obtain⟨A1,c1,rfl,_,M⟩:=h1;obtain⟨A2,c2,rfl,_,Z⟩:=O;exact(Ms.WJ (rqM kv n p a) none none none none A1 A2 0 0 0 0 c1 c2 w ⟨⟨Mc.JS,Mc.JS⟩,⟨Mc.JS,Mc.JS⟩,⟨Mc.JS,Mc.JS⟩,sSv⟩ rfl rfl rfl rfl (.inl rfl) (.inl rfl) (.inl rfl) (.inl rfl) M.rd Z.rd).mono fun e w' h=>UH h
theorem bh (w:World) (hk:p.ss.length=32) (cr:pSm p.c) (cx:p.tr.length<=1000000) (ck:pSm a.c) (hn:IntKind.u8.wrap kv=(n.toNat:Int)) :
  Calls Tryz.prog 19 #[.int .i64 kv,.agg (ptA p),.agg (anA a)] w fun e w'=>∃v,e=.returned (.tuple #[v,.bool (rqOk kv n p a)])/\SlN (fun j=>j<w.heap.size) w' v (rqL kv n p a)/\Below w.heap.size w w':=by
 obtain⟨cP,av⟩:=Ak (ptA p);obtain⟨cA,bb⟩:=Ak (anA a);obtain⟨cK,cc⟩:=Ak (Bk (k1 n));obtain⟨cQ,aw⟩:=Ak (keyA p.ss);rw[<-av,<-bb];obtain⟨W,eW⟩:=Ak ((w.alloc (.cells cP 86)).alloc (.cells cA 47));have M:Below w.heap.size w W:=eW▸(Ah.alloc Ag _).alloc (by simp) _;have HP:=I (show Blk W w.heap.size 86 cP from eW▸(Blk.new w _ _).alloc _);have HA:=I (show Blk W (w.heap.size+1) 47 cA by have:=Blk.new (w.alloc (.cells cP 86)) 47 cA;simp only[World.size_alloc] at this;exact eW▸this);have O:=I M;clear M;obtain⟨E1,ca⟩:=Ak (oI (ptO p));obtain⟨E2,cb⟩:=Ak (oI (anO a));obtain⟨E3,bn⟩:=Ak (oI (mgO (rqM kv n p a)));have C1:=I (show ∀w1:World,Calls Tryz.prog 39 #[.agg cP] w1 fun e w'=>∃v,e=.returned (.tuple #[v,.int .i64 E1])/\SlN (fun j=>j<w1.heap.size) w' v (lO (ptO p))/\Below w1.heap.size w1 w' from by intro w1;rw[av,ca];exact(Ms.MW p w1 hk cr (by omega)).mono fun e w' h=>UH h);have C2:=I (show ∀w1:World,Calls Tryz.prog 40 #[.agg cA] w1 fun e w'=>∃v,e=.returned (.tuple #[v,.int .i64 E2])/\SlN (fun j=>j<w1.heap.size) w' v (lO (anO a))/\Below w1.heap.size w1 w' from by intro w1;rw[bb,cb];exact(Ms.Lr a w1 ck).mono fun e w' h=>UH h);have S1:=I (fun(w1:World) (v:Value) (S:Nat->Prop) (h:SlN S w1 v (lO (ptO p)))=>Yy (cK:=cK) cc (Qc (u:=2) (n:=5) (lO_pt hk) (by decide) (by decide) (by decide) (by decide)) h);have S2:=I (fun(w1:World) (v:Value) (S:Nat->Prop) (h:SlN S w1 v (lO (anO a)))=>Yy (cK:=cQ) (aw.trans (OH hk).symm) (Qc (u:=11) (n:=6) lO_an (by decide) (by decide) (by decide) (by decide)) h);have CM:=I (fun w1=>Yw w1);have CE:=I (show ∀(w1:World) (S1 S2:Nat->Prop) (v1 v2:Value),SlN S1 w1 v1 (Cv (k1 n) 2 5 (lO (ptO p))).1->SlN S2 w1 v2 (Cv (ksOf p.ss) 11 6 (lO (anO a))).1->Calls Tryz.prog 42 #[.agg (LX kv v1 v2)] w1 fun e w'=>∃v,e=.returned (.tuple #[v,.int .i64 E3])/\SlN (fun j=>j<w1.heap.size) w' v (rqL kv n p a)/\Below w1.heap.size w1 w' from fun w1 S1 S2 v1 v2 h1 h2=>by rw[bn];exact eZ w1 h1 h2);have Z:=I (show rqOk kv n p a=decide (E1+E2+E3=0)/\(0<=E1/\E1<=1)/\(0<=E2/\E2<=1)/\(0<=E3/\E3<=1) by
  unfold rqOk;rcases bg (ptO p) with⟨h1,g1⟩ | ⟨h1,g1⟩<;>rcases bg (anO a) with⟨h2,g2⟩ | ⟨h2,g2⟩<;>rcases bg (mgO (rqM kv n p a)) with⟨h3,g3⟩ | ⟨h3,g3⟩<;>rw[ca,cb,bn,h1,h2,h3,g1,g2,g3]<;>decide)
 obtain⟨ok,cg⟩:=Ak (rqOk kv n p a);rw[<-cg] at Z⊢;obtain⟨x1,cm⟩:=Ak ((Cv (k1 n) 2 5 (lO (ptO p))).1);obtain⟨x2,cj⟩:=Ak ((Cv (ksOf p.ss) 11 6 (lO (anO a))).1);rw[<-cm] at S1 CE;rw[<-cj] at S2 CE;obtain⟨bq,cp⟩:=Ak (rqL kv n p a);rw[<-cp] at CE⊢;have cu:=I (show(Tryz.prog.info? 86).map (·.size)=some cP.size by rw[av];exact LF hk);have cL:=I (show(Tryz.prog.info? 47).map (·.size)=some cA.size by rw[bb];exact Hl a);have cX:=I (show(Tryz.prog.info? 39).map (·.size)=some cQ.size by rw[aw];exact IN hk);have cw:=I (fun(w1:World) (h:Blk w1 w.heap.size 86 cP)=>(show w1.rangeAt w.heap.size 2 cQ.toList by rw[aw];exact MV hk (av▸h)));have bx:=I (show Tryz.prog.built 39 [(0,.int .u8 (n.toNat:Int))]=some cK by rw[cc];exact IU n);obtain⟨nn,cn⟩:=Ak ((n.toNat:Int));rw[<-cn] at hn bx;clear hk cr cx ck av bb cc aw ca cb bn cg cm cj cp cn;go_enter Tryz.func19,Tryz.ntmps19
 go_upto_region 1 with fail
 rw[<-eW];clear eW
 go_upto_region 5 with(first
  |(refine Wh.AF (by rfl) 86 (.tmp 4) (by rfl) w.heap.size 0 (by rfl) cP _ (Wh.Ad HP.o) Tryz.underlying86 (by rfl) cu.o ?_)
  |(go_at_call 39;refine Calls.mono (C1.o _) ?_;rintro e w1 ⟨v1,rfl,hs,M⟩;clear C1;replace HP:=I (HP.o.below M);replace HA:=I (HA.o.below M);replace O:=O.t M;have V1:=I hs;clear hs M)
  |(refine Wh.AF (by rfl) 47 (.tmp 5) (by rfl) (w.heap.size+1) 0 (by rfl) cA _ (Wh.Ad HA.o) Tryz.underlying47 (by rfl) cL.o ?_)
  |(go_at_call 40;refine Calls.mono (C2.o _) ?_;rintro e w2 ⟨v2,rfl,hs,M⟩;clear C2;replace HP:=I (HP.o.below M);replace V1:=I (V1.o.below M);replace O:=O.t M;have V2:=I hs;clear hs M HA)
  |(refine Mc.Al (by rfl) 39 #[(0,.tmp 30)] (by rfl) cK (by simp only[List.map_toArray,List.map_cons,List.map_nil];exact bx.o) ?_)
  |(go_at_call 41;refine Calls.mono (S1.o _ _ _ V1.o) ?_;rintro e w3 ⟨v3,rfl,hs,M⟩;clear S1 V1 bx;have V3:=I hs;replace HP:=I (HP.o.below M);replace V2:=I (V2.o.below M);replace O:=O.t M;clear hs M)
  |(refine Wh.AF (by rfl) 39 (.tmp 37) (by rfl) w.heap.size 2 (by rfl) cQ _ (cw.o _ HP.o) Tryz.underlying39 (by rfl) cX.o ?_)
  |(go_at_call 41;refine Calls.mono (S2.o _ _ _ V2.o) ?_;rintro e w4 ⟨v4,rfl,hs,M⟩;clear S2 V2;have V4:=I hs;replace V3:=I (V3.o.below M);replace O:=O.t M;clear hs M HP)
  |fail)
 obtain⟨A3,c3,e3,_⟩:=V3.o.sl;obtain⟨A4,c4,e4,_⟩:=V4.o.sl;subst e3 e4;obtain⟨n3,cq⟩:=Ak (x1.length);obtain⟨n4,cd⟩:=Ak (x2.length);rw[<-cq] at V3⊢;rw[<-cd] at V4⊢;clear cq cd;obtain⟨cT,bs⟩:=Ak (OZ kv (.slice A3 n3 c3));obtain⟨cR,bB⟩:=Ak (Pb kv (.slice A3 n3 c3) (.slice A4 n4 c4));obtain⟨cM,bz⟩:=Ak (LX kv (.slice A3 n3 c3) (.slice A4 n4 c4));have cy:=I (bs▸XH kv A3 n3 c3);have ct:=I (show Tryz.prog.built 124 [(0,.agg cT),(1,.slice A4 n4 c4)]=some cR by rw[bs,bB];exact LU kv A3 A4 n3 c3 n4 c4);have cB:=I (show Tryz.prog.built 134 [(0,.int .i64 4),(4,.agg cR)]=some cM by rw[bB,bz];exact LS kv A3 A4 n3 c3 n4 c4);have cf:=I (show ∀w1:World,SlN (fun j=>j<w3.heap.size) w1 (.slice A4 n4 c4) x2->SlN (fun j=>j<w2.heap.size) w1 (.slice A3 n3 c3) x1->_ from fun w1 h4 h3=>bz▸CE.o w1 _ _ _ _ h3 h4);clear CE bs bB bz hn;have dz:=Z.o.2.1;have cY:=Z.o.2.2.1;have dy:=Z.o.2.2.2
 go_wp2_with (first
  |(go_at_call 11;refine Aj (CM.o _) ?_;rintro w5 M;clear CM;replace V3:=I (V3.o.below M);replace V4:=I (V4.o.below M);replace O:=O.t M;clear M)
  |(refine Mc.Al (by rfl) 122 #[(0,.tmp 44),(1,.tmp 45),(2,.tmp 46)] (by rfl) cT (by simp only[List.map_toArray,List.map_cons,List.map_nil];exact cy.o) ?_)
  |(refine Mc.Al (by rfl) 124 #[(0,.tmp 47),(1,.tmp 48)] (by rfl) cR (by simp only[List.map_toArray,List.map_cons,List.map_nil];exact ct.o) ?_)
  |(refine Mc.Al (by rfl) 134 #[(0,.const (.int .i64 4)),(4,.tmp 49)] (by rfl) cM (by simp only[List.map_toArray,List.map_cons,List.map_nil];exact cB.o) ?_)
  |(go_at_call 42;refine Calls.mono (cf.o _ V4.o V3.o) ?_;rintro e w6 ⟨v6,rfl,hs,M⟩;clear cf V3 V4;have V6:=I (hs.mono (S':=fun j=>j<w.heap.size) (fun j _ x=>by have:=O.o.size;omega));replace O:=O.t M;clear hs M)
  |fail)
 go_ret2
 refine⟨v6,?_,V6.o,O.o⟩;rw[Z.o.1]
 rfl
end
end Ac
namespace Ac
open Go.RowKit Af Se Kd
open Rg (It Ent Ring RO DRing DO its PU Ci)
structure Scs (w0 w:World) (g:Nat) (p:SP) (es:List Ent) (u:Value) (st:Int):Prop where
 blk:∃x,Blk w g 30 #[.pointer (some ⟨p.a,0,none⟩),.pointer (some ⟨x,0,none⟩)]
 ad:AD w w0.heap.size p es u (!decide (st=0)) st [] 0 0 0
 e:its es=itS
 P:p.P=pSv
 T:p.T=tT
 ng:¬AA p es u g
 lo:w0.heap.size<=g
 b:Below w0.heap.size w0 w
theorem Ve {w:World} {B q:Nat} (M:Blk w q 55 #[.slice none 0 0]) (hB:B<=q):DRing w B q (.slice none 0 0) []:=
 ⟨M,World.ownsRow_nil w B _ 35,hB,by simp [Value.ownBlock]⟩
theorem Qd:Nm.Ct pSv.1 pSv.2=true:=by decide +kernel
theorem fc:pSv.1∈tT.R:=by decide
theorem it_eq (k M:Nat->UInt8):([]++[(⟨pSv,Ci [] pSv+1,k⟩:It)])++[(⟨pSv,Ci ([]++[(⟨pSv,Ci [] pSv+1,k⟩:It)]) pSv+1,M⟩:It)] = [(⟨pSv,1,k⟩:It),⟨pSv,2,M⟩]:=by
 rw[dL];show [(⟨pSv,1,k⟩:It)]++[(⟨pSv,Ci [(⟨pSv,1,k⟩:It)] pSv+1,M⟩:It)]=_;rw[Yv];rfl
theorem Hc (st:Int) (w:World):Calls Tryz.prog 4 #[.int .i64 st] w fun e w'=>∃g p es u,e=.returned (.pointer (some ⟨g,0,none⟩))/\Scs w w' g p es u st:=by
 have C1:=I (fun(w1:World)=>PU w1.heap.size w1 Ag);have CM:=I (fun(w1:World)=>Yw w1);have CT:=I (fun(w1:World)=>eh w1);obtain⟨cK,bq⟩:=Ak (Bk (k1 1));obtain⟨cL,bb⟩:=Ak (Bk (k1 2));have bs:=I (show Tryz.prog.built 39 [(0,.int .u8 1)]=some cK by rw[bq];exact IU 1);have bz:=I (show Tryz.prog.built 39 [(0,.int .u8 2)]=some cL by rw[bb];exact IU 2);have EK:=I bq;have EL:=I bb;clear bq bb;go_enter Tryz.func4,Tryz.ntmps4
 go_upto_region 2 with(first
  |(go_at_call 9;refine Calls.mono (C1.o _) ?_;rintro e w1 ⟨r,rfl,bB,bx,M⟩;clear C1;have HR:=I bx;have O:=I M;clear bx M)
  |fail)
 obtain⟨W2,aw⟩:=Ak (w1.alloc (.cells #[.slice none 0 0] 55));have M:Below w1.heap.size w1 W2:=aw▸Ah.alloc Ag _;have bn:=O.o.size;have Z:=I (show Sa W2 w.heap.size r (.slice none 0 0) [] w1.heap.size (.slice none 0 0) [] [] from⟨HR.o.below M,Ve (aw▸Blk.new w1 _ _) bn,rfl,(fun j e he=>by simp at he),(fun k hk x=>by
  rcases hk with hk | hk
  ·have:=HR.o.own_lt x;omega
  ·simp [Value.ownBlock] at hk)⟩)
 replace O:=I (O.o.trans (M.mono bn));rw[<-aw];clear aw M bn HR bB;obtain⟨q,eq⟩:=Ak (w1.heap.size);rw[<-eq] at Z⊢;clear eq
 go_upto_region 5 with(first
  |(go_at_call 11;refine Aj (CM.o _) ?_;rintro wm M;replace Z:=I (Z.o.below M);replace O:=O.t M;clear M)
  |(refine Mc.Al (by rfl) 39 #[(0,.const (.int .u8 1))] (by rfl) cK (by simp only[List.map_toArray,List.map_cons,List.map_nil];exact bs.o) ?_)
  |(go_at_call 10;refine Calls.mono (UG Z.o O.o.size (by decide) num_0 EK.o) ?_;rintro e wa ⟨⟨nn,rfl⟩,rv,es,hs,M⟩;replace Z:=I hs;replace O:=I (O.o.trans M);clear hs M)
  |fail)
 go_upto_region 6 with(first
  |(go_at_call 11;refine Aj (CM.o _) ?_;rintro ca M;replace Z:=I (Z.o.below M);replace O:=O.t M;clear M)
  |(refine Mc.Al (by rfl) 39 #[(0,.const (.int .u8 1))] (by rfl) cK (by simp only[List.map_toArray,List.map_cons,List.map_nil];exact bs.o) ?_)
  |(go_at_call 12;refine Calls.mono (Yu Z.o O.o.size (by decide) (by decide) EK.o) ?_;rintro e wb ⟨⟨cf,rfl⟩,dv,hs,M⟩;replace Z:=I hs;replace O:=I (O.o.trans M);clear hs M)
  |fail)
 go_upto_region 7 with(first
  |(go_at_call 11;refine Aj (CM.o _) ?_;rintro cc M;replace Z:=I (Z.o.below M);replace O:=O.t M;clear M)
  |(refine Mc.Al (by rfl) 39 #[(0,.const (.int .u8 2))] (by rfl) cL (by simp only[List.map_toArray,List.map_cons,List.map_nil];exact bz.o) ?_)
  |(go_at_call 10;refine Calls.mono (UG Z.o O.o.size (by show 1<10;decide) num_1 EL.o) ?_;rintro e wc ⟨⟨cg,rfl⟩,cp,es2,hs,M⟩;replace Z:=I hs;replace O:=I (O.o.trans M);clear hs M)
  |fail)
 go_upto_region 8 with(first
  |(go_at_call 11;refine Aj (CM.o _) ?_;rintro cb M;replace Z:=I (Z.o.below M);replace O:=O.t M;clear M)
  |(refine Mc.Al (by rfl) 39 #[(0,.const (.int .u8 2))] (by rfl) cL (by simp only[List.map_toArray,List.map_cons,List.map_nil];exact bz.o) ?_)
  |(go_at_call 12;refine Calls.mono (Yu Z.o O.o.size (by show 1<10;decide) (by rw[show([]++[⟨pSv,Ci [] pSv+1,k1 1⟩]:List It) = [⟨pSv,1,k1 1⟩] from rfl,Yv];decide) EL.o) ?_;rintro e wd ⟨⟨cm,rfl⟩,cn,hs,M⟩;replace Z:=I hs;replace O:=I (O.o.trans M);clear hs M)
  |fail)
 rw[it_eq] at Z
 go_upto_region 9 with(first
  |(go_at_call 11;refine Aj (CM.o _) ?_;rintro cj M;replace Z:=I (Z.o.below M);replace O:=O.t M;clear M)
  |(go_at_call 14;refine Calls.mono (CT.o _) ?_;rintro e wt ⟨v1,v2,rfl,av,M⟩;replace Z:=I (Z.o.below M);replace O:=O.t M;have CN:=I (aL (now:=st) af rfl tT_kt dm (by decide) Qd (av.r.slv (B:=wt.heap.size) (fun b x=>x.2)) (av.k.slp (B:=wt.heap.size) (fun b x=>x.2)) fc Z.o.c O.o.size Z.o.z);obtain⟨A1,c1,A2,c2,rfl,rfl,_⟩:=av.sizes;clear M av)
  |(go_at_call 13;refine Calls.mono CN.o ?_;rintro e wn ⟨a,qr,lo,hi,u1,u2,rfl,h1,h2,h3,had,M⟩;clear CN;have HA:=I had;have HE:=I Z.o.e;replace O:=O.t M;clear had M h1 h2 h3 Z)
  |fail)
 go_upto_region 10 with(first
  |(go_at_call 11;refine Aj (CM.o _) ?_;rintro cd M;replace HA:=I (HA.o.below M);replace O:=O.t M;clear M)
  |(go_at_call 14;refine Calls.mono (CT.o _) ?_;rintro e ck ⟨v1,v2,rfl,av,M⟩;replace HA:=I (HA.o.below M);replace O:=O.t M;have CN:=I (XG (now:=st) (q:=q) af dm (by decide) Qd fc av Ag);obtain⟨A3,c3,A4,c4,rfl,rfl,_⟩:=av.sizes;clear M av)
  |(go_at_call 15;refine Calls.mono CN.o ?_;rintro e wx ⟨x,s,rfl,h1,h2,h3,h4,M⟩;clear CN;replace HA:=I (HA.o.below M);replace O:=O.t M;clear M h1 h2 h3 h4)
  |fail)
 go_wp2_with fail
 go_ret;have M:Below wx.heap.size wx (wx.alloc (.cells #[.pointer (some ⟨a,0,none⟩),.pointer (some ⟨x,0,none⟩)] 30)):=Ah.alloc Ag _;exact⟨wx.heap.size,_,es2,_,rfl,⟨x,Blk.new _ _ _⟩,HA.o.below M,HE.o,rfl,rfl,HA.o.fresh Ag,O.o.size,O.o.trans (M.mono O.o.size)⟩
end Ac
namespace Kd
open Go.RowKit Af Se
open Rg (It Ent Ring RO its Ae De Uo PS Ki Yn)
open SeL (Cv BJ)
open Ms (Pt Rp Re Tk ptO pSm reC tkC prC ptD pt0)
abbrev ptZ:Array Value:=#[.string ⟨#[]⟩,.string ⟨#[]⟩,.int .u8 0,.int .u8 0,.int .u8 0,.int .u8 0,.int .u8 0,.int .u8 0,.int .u8 0,.int .u8 0,.int .u8 0,.int .u8 0,.int .u8 0,.int .u8 0,.int .u8 0,.int .u8 0,.int .u8 0,.int .u8 0,.int .u8 0,.int .u8 0,.int .u8 0,.int .u8 0,.int .u8 0,.int .u8 0,.int .u8 0,.int .u8 0,.int .u8 0,.int .u8 0,.int .u8 0,.int .u8 0,.int .u8 0,.int .u8 0,.int .u8 0,.int .u8 0,.string ⟨#[]⟩,.int .i64 0,.int .i64 0]
theorem Vf:ptA pt0=ptZ:=rfl
def ShtP (w:World) (B:Nat) (rg:Nat) (rv:Value) (es:List Ent) (s:Option Ss) (c:Nat) (r:Int×Pt) (e:Ending) (w':World):Prop:=
 ∃es' s',e=.returned (.tuple #[.agg (ptA r.2),.int .i64 r.1])/\Rn w w' B rg rv es s es' s' c
theorem Nj {ks:Nat->UInt8} {u:Int} {l:Nm.L} (M:0<=u) (O:u<=255):(BJ ks u l).2=0\/(BJ ks u l).2=3:=by
 unfold BJ;rw[if_pos ⟨M,O⟩]
 split
 ·exact .inl rfl
 ·exact .inr rfl
section
variable {w:World} {B:Nat} {rg:Nat} {rv:Value} {es:List Ent} {s:Option Ss} {c:Nat}
theorem fe {t:Tk} {bv:Value} {now:Int} (h:RS w B rg rv es s c) (hc:c<900000) (hl:es.length<=1000) (h0:0<=now) (h9:now<=1073741824) (hv:SlN (RSO rg rv es s) w bv t.b) {rz:Int×Pt} (hr:shwL (its es) t now=rz) :
  Calls Tryz.prog 45 #[.pointer (some ⟨rg,0,none⟩),.agg #[.string ⟨t.s.1.toArray⟩,.string ⟨t.s.2.toArray⟩,.int .i64 t.k,bv],.int .i64 now] w (ShtP w B rg rv es s (c+1) rz):=by
 obtain⟨AB,mB,cq,cA,cR⟩:=hv;obtain⟨W,eW⟩:=Ak ((w.alloc (.cells #[.string ⟨t.s.1.toArray⟩,.string ⟨t.s.2.toArray⟩,.int .i64 t.k,bv] 122)).alloc (.cells ptZ 86));have hb:Below w.heap.size w W:=eW▸(Ah.alloc Ag _).alloc (by simp) _;have HT:=I (show Blk W w.heap.size 122 #[.string ⟨t.s.1.toArray⟩,.string ⟨t.s.2.toArray⟩,.int .i64 t.k,bv] from eW▸(Blk.new w _ _).alloc _);have hz:Blk W (w.heap.size+1) 86 ptZ:=by have:=Blk.new (w.alloc (.cells #[.string ⟨t.s.1.toArray⟩,.string ⟨t.s.2.toArray⟩,.int .i64 t.k,bv] 122)) 86 ptZ;simp only[World.size_alloc] at this;exact eW▸this
 have HK:=I (Rn.start h hb);have HB:=I ((show SlN (RSO rg rv es s) w bv t.b from⟨AB,mB,cq,cA,cR⟩).below hb);have cw:=I (h.offs (Nat.le_refl w.heap.size));have aw:=I (h.offs (Nat.le_add_right w.heap.size 1));obtain⟨LB,cy⟩:=Ak (t.b.length);have ea:=I cq;rw[<-cy] at cq;subst cq;clear cA cR;obtain⟨zz,cc⟩:=Ak (ptZ);have cL:=I (show zz.size=37 by rw[cc];rfl);have bx:=I (show(Tryz.prog.info? 86).map (·.size)=some zz.size by rw[cL.o];kernel_rfl);have ck:=I (show zz.all (·.oneCell')=true by rw[cc,<-Vf];exact LD _);have bq:=I (show Tryz.prog.built 86 []=some zz by rw[cc,<-Vf];exact Ut);have cp:=I (show ptA pt0=zz by rw[cc,Vf]);rw[<-cc] at hz;have Z:=I hz;have HR:=I hr;have cX:=I hl;clear hr;have HC:=I hc;clear h hb hz hc hl cc cy;go_enter Tryz.func45,Tryz.ntmps45
 go_upto_region 1 with fail
 rw[<-eW];clear eW;have dy:=HT.c0;have cY:=HT.c1;cases hf:De (its es) t.s t.k with
 |none=>
  have er:rz=(4,pt0):=by rw[<-HR.o];unfold shwL;rw[hf]
  subst er;have CB:=I (fun(w1:World) (h1:Ring w1 B rg rv es)=>PS (z:=t.k) h1 cX.o hf);clear hf;have cb:=HT.c2
  go_upto_region 2 with(first
   |(go_at_call 89;refine Aj (CB.o _ HK.o.st.k) ?_;rintro w3 hb;clear CB dy cY cb;replace HT:=I (HT.o.below hb);replace Z:=I (Z.o.below hb);replace HB:=I (HB.o.below hb);replace HK:=I (HK.o.below hb);clear hb)
   |fail)
  go_wp2_with (first
   |(refine Mc.Al (by rfl) 86 #[] (by rfl) zz (by simp;exact bq.o) ?_)
   |(refine Wh.AW (by rfl) 86 (.tmp 6) (.tmp 23) (by rfl) (w.heap.size+1) 86 _ Z.o zz (by rfl) (by rfl) (by rfl) bx.o ck.o ?_;rintro V hV hg;replace Z:=I hV;replace HK:=I (HK.o.over (by omega) aw.o hg);clear hV hg bq)
   |fail)
  refine bodyPost_ret (v:=.tuple #[.agg zz,.int .i64 4]) ?_ ?_ ?_
  ·exact Ae (v:=.agg zz) 6 7 86 ⟨w.heap.size+1,0,none⟩ Tryz.results45 rfl (Wh.Ao Z.o Tryz.underlying86 (by rfl) bx.o) rfl
  ·rfl
  ·exact⟨_,_,by rw[cp.o],HK.o.more (by omega)⟩
 |some j=>
  obtain⟨y,hy,_,_⟩:=Ki hf;obtain⟨xe,hx,rfl⟩:=Yn hy;have hk:keyO (its es) (some j)=xe.it.k:=by simp [keyO,hy]
  have e5:shwL (its es) t now=(if (BJ xe.it.k 2 t.b).2=0 then (match ptD (BJ xe.it.k 2 t.b).1 with | none=>((2,pt0):Int×Pt) | some q=>if q.en<now then (7,pt0) else if now+5<q.st then (8,pt0) else (0,q)) else (3,pt0):Int×Pt):=by
   unfold shwL;rw[hf];simp only;rw[hk]
   rfl
  replace HR:=I (e5.symm.trans HR.o);have CB:=I (fun(w1:World) (h1:Ring w1 B rg rv es)=>Uo (z:=t.k) h1 cX.o hf hx);have dz:=I hx;have cr:=I (Nj (ks:=xe.it.k) (u:=2) (l:=t.b) (by decide) (by decide));obtain⟨xr,cx⟩:∃x,x=BJ xe.it.k 2 t.b:=⟨_,rfl⟩;have EX:=I cx;rw[<-cx] at HR cr;clear hf hx cx hy hk e5;have cb:=HT.c2
  go_upto_region 2 with(first
   |(go_at_call 89;refine Aj (CB.o _ HK.o.st.k) ?_;rintro w3 hb;clear CB dy cY cb;replace HT:=I (HT.o.below hb);replace Z:=I (Z.o.below hb);replace HB:=I (HB.o.below hb);replace HK:=I (HK.o.below hb);clear hb)
   |fail)
  have co:=Nc HK.o.st (.inl ⟨j,xe,dz.o,rfl,rfl⟩) (by have:=HC.o;omega) 2 _ t.b HB.o;rw[<-EX.o] at co;have cb:=HT.c3;rcases cr.o with ho | ho
  ·skip
   rw[ho] at co;replace HR:=I ((if_pos ho).symm.trans HR.o);clear ho cr;cases hd:ptD xr.1 with
   |none=>
    rw[hd] at HR;have er:rz=(2,pt0):=HR.o.symm;subst er;have CD:=I (fun(A:Option Addr) (c0:Nat) (w1:World) (hr:Rd w1 w1.heap.size A (bvs xr.1))=>Mc.JQ A xr.1 c0 w1 hr);rw[show Mc.ptG xr.1=pt0 from by unfold Mc.ptG;rw[hd];rfl,show Mc.ptI xr.1=2 by unfold Mc.ptI;rw[hd];rfl] at CD;have av:(pt0).ss.length=32:=rfl;obtain⟨O,M⟩:=Ak (ptA (pt0));have cg:=I (show O.size=37 by rw[M];exact He av);have cd:=I (show(Tryz.prog.info? 86).map (·.size)=some O.size by rw[M];exact LF av);have ct:=I (show O.all (·.oneCell')=true by rw[M];exact LD _);have ca:=I (fun(w1:World) (g:Nat) (hb:Blk w1 g 86 O)=>And.intro (dB av (M▸hb)) (dC av (M▸hb)));have cB:=I (show ptA (pt0)=O from M.symm);have bs:O=(Ms.ptC (pt0)).toArray:=M;rw[<-bs] at CD;clear M bs av;clear hd
    go_wp2_with (first
     |(go_at_call 90;refine Calls.mono co ?_;rintro e w6 ⟨v6,cT,s6,rfl,cn,bb⟩;clear co cb HB;have bB:=bb.blk Z.o aw.o;have bn:=bb.off aw.o Z.o.lt;replace Z:=I bB;replace aw:=I bn;replace HK:=I (HK.o.trans bb);obtain⟨A6,m6,cj,cm,bz⟩:=cn;subst cj;have cf:=I bz.rd;clear cm bz bb bB bn HT cw)
     |(go_at_call 91;refine Aj (CD.o _ _ _ cf.o) ?_;rintro w9 hb;clear CD cf;replace Z:=I (Z.o.below hb);replace HK:=I (HK.o.below hb);clear hb)
     |(refine Wh.Bb (by rfl) 86 (.tmp 11) (.tmp 37) (by rfl) 86 rfl O (by rfl) (by rfl) (by rw[cg.o];rfl) cd.o ct.o ?_;rintro V hV hb;have HV:=I hV;replace HK:=I (HK.o.below hb);replace Z:=I (Z.o.below hb);have cQ:=(ca.o _ _ hV).1;have cM:=(ca.o _ _ hV).2;clear hb hV cg ca)
     |(refine Mc.Al (by rfl) 86 #[] (by rfl) zz (by simp;exact bq.o) ?_)
     |(refine Wh.AW (by rfl) 86 (.tmp 6) (.tmp 41) (by rfl) (w.heap.size+1) 86 _ Z.o zz (by rfl) (by rfl) (by rfl) bx.o ck.o ?_;rintro V hV hg;replace Z:=I hV;replace HK:=I (HK.o.over (by omega) aw.o hg);clear hV hg bq)
     |fail)
    refine bodyPost_ret (v:=.tuple #[.agg zz,.int .i64 2]) ?_ ?_ ?_
    ·exact Ae (v:=.agg zz) 6 7 86 ⟨w.heap.size+1,0,none⟩ Tryz.results45 rfl (Wh.Ao Z.o Tryz.underlying86 (by rfl) bx.o) rfl
    ·rfl
    ·exact⟨_,_,by rw[cp.o],HK.o.more (by omega)⟩
   |some P=>
    rw[hd] at HR;have CD:=I (fun(A:Option Addr) (c0:Nat) (w1:World) (hr:Rd w1 w1.heap.size A (bvs xr.1))=>Mc.JQ A xr.1 c0 w1 hr);rw[show Mc.ptG xr.1=P from by unfold Mc.ptG;rw[hd];rfl,show Mc.ptI xr.1=0 by unfold Mc.ptI;rw[hd];rfl] at CD;have av:(P).ss.length=32:=by have:=Mc.OW xr.1;unfold Mc.ptG at this;rw[hd] at this;exact this
    obtain⟨O,M⟩:=Ak (ptA (P));have cg:=I (show O.size=37 by rw[M];exact He av);have cu:=I (show O.size=37 by rw[M];exact He av);have cd:=I (show(Tryz.prog.info? 86).map (·.size)=some O.size by rw[M];exact LF av);have ct:=I (show O.all (·.oneCell')=true by rw[M];exact LD _);have ca:=I (fun(w1:World) (g:Nat) (hb:Blk w1 g 86 O)=>And.intro (dB av (M▸hb)) (dC av (M▸hb)));have cB:=I (show ptA (P)=O from M.symm);have bs:O=(Ms.ptC (P)).toArray:=M;rw[<-bs] at CD;clear M bs av;clear hd
    go_upto_region 10 with(first
     |(go_at_call 90;refine Calls.mono co ?_;rintro e w6 ⟨v6,cT,s6,rfl,cn,bb⟩;clear co cb HB;have bB:=bb.blk Z.o aw.o;have bn:=bb.off aw.o Z.o.lt;replace Z:=I bB;replace aw:=I bn;replace HK:=I (HK.o.trans bb);obtain⟨A6,m6,cj,cm,bz⟩:=cn;subst cj;have cf:=I bz.rd;clear cm bz bb bB bn HT cw)
     |(go_at_call 91;refine Aj (CD.o _ _ _ cf.o) ?_;rintro w9 hb;clear CD cf;replace Z:=I (Z.o.below hb);replace HK:=I (HK.o.below hb);clear hb)
     |(refine Wh.Bb (by rfl) 86 (.tmp 11) (.tmp 37) (by rfl) 86 rfl O (by rfl) (by rfl) (by rw[cg.o];rfl) cd.o ct.o ?_;rintro V hV hb;have HV:=I hV;replace HK:=I (HK.o.below hb);replace Z:=I (Z.o.below hb);have cQ:=(ca.o _ _ hV).1;have cM:=(ca.o _ _ hV).2;clear hb hV cg ca)
     |fail)
    by_cases he:P.en<now
    ·skip
     have er:rz=(7,pt0):=HR.o.symm.trans (if_pos he);subst er
     go_wp2_with (first
      |(refine Mc.Al (by rfl) 86 #[] (by rfl) zz (by simp;exact bq.o) ?_)
      |(refine Wh.AW (by rfl) 86 (.tmp 6) (.tmp 46) (by rfl) (w.heap.size+1) 86 _ Z.o zz (by rfl) (by rfl) (by rfl) bx.o ck.o ?_;rintro V hV hg;replace Z:=I hV;replace HK:=I (HK.o.over (by omega) aw.o hg);clear hV hg bq)
      |fail)
     refine bodyPost_ret (v:=.tuple #[.agg zz,.int .i64 7]) ?_ ?_ ?_
     ·exact Ae (v:=.agg zz) 6 7 86 ⟨w.heap.size+1,0,none⟩ Tryz.results45 rfl (Wh.Ao Z.o Tryz.underlying86 (by rfl) bx.o) rfl
     ·rfl
     ·exact⟨_,_,by rw[cp.o],HK.o.more (by omega)⟩
    ·replace HR:=I ((if_neg he).symm.trans HR.o)
     by_cases he2:now+5<P.st
     ·skip
      have er:rz=(8,pt0):=HR.o.symm.trans (if_pos he2);subst er
      go_wp2_with (first
       |(refine Mc.Al (by rfl) 86 #[] (by rfl) zz (by simp;exact bq.o) ?_)
       |(refine Wh.AW (by rfl) 86 (.tmp 6) (.tmp 52) (by rfl) (w.heap.size+1) 86 _ Z.o zz (by rfl) (by rfl) (by rfl) bx.o ck.o ?_;rintro V hV hg;replace Z:=I hV;replace HK:=I (HK.o.over (by omega) aw.o hg);clear hV hg bq)
       |fail)
      refine bodyPost_ret (v:=.tuple #[.agg zz,.int .i64 8]) ?_ ?_ ?_
      ·exact Ae (v:=.agg zz) 6 7 86 ⟨w.heap.size+1,0,none⟩ Tryz.results45 rfl (Wh.Ao Z.o Tryz.underlying86 (by rfl) bx.o) rfl
      ·rfl
      ·exact⟨_,_,by rw[cp.o],HK.o.more (by omega)⟩
     ·skip
      have er:rz=(0,P):=HR.o.symm.trans (if_neg he2);subst er;clear bq
      go_wp2_with (first
       |(refine Wh.AF (by rfl) 86 (.tmp 11) (by rfl) w9.heap.size 0 (by rfl) O _ (Wh.Ad HV.o) Tryz.underlying86 (by rfl) cd.o ?_)
       |(refine Wh.AW (by rfl) 86 (.tmp 6) (.tmp 53) (by rfl) (w.heap.size+1) 86 _ Z.o O (by rfl) (by rfl) (by rw[cL.o,cu.o]) cd.o ct.o ?_;rintro V2 cP hg;replace Z:=I cP;replace HK:=I (HK.o.over (by omega) aw.o hg);clear cP hg cu)
       |fail)
      refine bodyPost_ret (v:=.tuple #[.agg O,.int .i64 0]) ?_ ?_ ?_
      ·exact Ae (v:=.agg O) 6 7 86 ⟨w.heap.size+1,0,none⟩ Tryz.results45 rfl (Wh.Ao Z.o Tryz.underlying86 (by rfl) cd.o) rfl
      ·rfl
      ·exact⟨_,_,by rw[cB.o],HK.o.more (by omega)⟩
  ·skip
   rw[ho] at co;have er:rz=(3,pt0):=HR.o.symm.trans (if_neg (by omega));subst er;clear ho cr
   go_wp2_with (first
    |(go_at_call 90;refine Calls.mono co ?_;rintro e w6 ⟨v6,cT,s6,rfl,cn,bb⟩;clear co cb HB;have bB:=bb.blk Z.o aw.o;have bn:=bb.off aw.o Z.o.lt;replace Z:=I bB;replace aw:=I bn;replace HK:=I (HK.o.trans bb);obtain⟨A6,m6,cj,cm,bz⟩:=cn;subst cj;have cf:=I bz.rd;clear cm bz bb bB bn HT cw)
    |(refine Mc.Al (by rfl) 86 #[] (by rfl) zz (by simp;exact bq.o) ?_)
    |(refine Wh.AW (by rfl) 86 (.tmp 6) (.tmp 33) (by rfl) (w.heap.size+1) 86 _ Z.o zz (by rfl) (by rfl) (by rfl) bx.o ck.o ?_;rintro V hV hg;replace Z:=I hV;replace HK:=I (HK.o.over (by omega) aw.o hg);clear hV hg bq)
    |fail)
   refine bodyPost_ret (v:=.tuple #[.agg zz,.int .i64 3]) ?_ ?_ ?_
   ·exact Ae (v:=.agg zz) 6 7 86 ⟨w.heap.size+1,0,none⟩ Tryz.results45 rfl (Wh.Ao Z.o Tryz.underlying86 (by rfl) bx.o) rfl
   ·rfl
   ·exact⟨_,_,by rw[cp.o],HK.o.more (by omega)⟩
theorem bj {t:Tk} {bv:Value} {now:Int} (h:RS w B rg rv es s c) (hc:c<900000) (Z:es.length<=1000) (M:0<=now) (O:now<=1073741824) (hv:SlN (RSO rg rv es s) w bv t.b) :
 Calls Tryz.prog 45 #[.pointer (some ⟨rg,0,none⟩),.agg #[.string ⟨t.s.1.toArray⟩,.string ⟨t.s.2.toArray⟩,.int .i64 t.k,bv],.int .i64 now] w (ShtP w B rg rv es s (c+1) (shwL (its es) t now)):=fe h hc Z M O hv rfl
end
end Kd
namespace Kd
open Go.RowKit Af Se
open Rg (It Ent Ring RO its Ae Dn DR)
open SeL (Cv BJ)
open Ms (Pt An anD anC an0)
abbrev anZ:Array Value:=#[.string ⟨#[]⟩,.string ⟨#[]⟩,.int .i64 0,.int .i64 0]
theorem Nk:(Tryz.prog.info? 47).map (·.size)=some 4:=by kernel_rfl
def ShaP (w:World) (B:Nat) (rg:Nat) (rv:Value) (es:List Ent) (s:Option Ss) (c:Nat) (r:Int×An) (e:Ending) (w':World):Prop:=
 ∃es' s',e=.returned (.tuple #[.agg (anA r.2),.int .i64 r.1])/\Rn w w' B rg rv es s es' s' c
section
variable {w:World} {B:Nat} {rg:Nat} {rv:Value} {es:List Ent} {s:Option Ss} {c:Nat}
theorem Rn.turn4 {w0:World} {es0:List Ent} {s0:Option Ss} (h:Rn w0 w B rg rv es0 s0 es s c) {g:Nat} (Z:w0.heap.size<=g) (hk:OffR rg rv es s g) (x y z t:Value):Rn w0 ((((w.setCell ⟨g,0,none⟩ x).setCell ⟨g,1,none⟩ y).setCell ⟨g,2,none⟩ z).setCell ⟨g,3,none⟩ t) B rg rv es0 s0 es s c:=by
 have O:Chg (fun j=>j=g) w ((((w.setCell ⟨g,0,none⟩ x).setCell ⟨g,1,none⟩ y).setCell ⟨g,2,none⟩ z).setCell ⟨g,3,none⟩ t):=(((Ed w g 0 x).set (p:=⟨g,1,none⟩) (.inl rfl) y).set (p:=⟨g,2,none⟩) (.inl rfl) z).set (p:=⟨g,3,none⟩) (.inl rfl) t;exact⟨h.st.chg O (fun j M e=>hk (e▸M)),h.eq,h.sq,h.chg.trans O (fun j M x=>by omega),h.nw⟩
theorem fg {x:Nat} {ss a:Nm.L} {cl:Rg.Pr} {av:Value} {u:Int} (h:RS w B rg rv es s c) (hc:c<900000) (hh:Hdl es s x (ksOf ss)) (hu:0<=u) (cx:u<=255) (hv:SlN (RSO rg rv es s) w av a) {rz:Int×An} (hr:athL ss a u cl=rz) :
  Calls Tryz.prog 46 #[.pointer (some ⟨x,0,none⟩),.int .i64 u,av,prV cl] w (ShaP w B rg rv es s (c+1) rz):=by
 obtain⟨W,eW⟩:=Ak ((w.alloc (.cells #[.string ⟨cl.1.toArray⟩,.string ⟨cl.2.toArray⟩] 37)).alloc (.cells anZ 47));have hb:Below w.heap.size w W:=eW▸(Ah.alloc Ag _).alloc (by simp) _;have O:=I (show Blk W w.heap.size 37 #[.string ⟨cl.1.toArray⟩,.string ⟨cl.2.toArray⟩] from eW▸(Blk.new w _ _).alloc _);have Z:=I (show Blk W (w.heap.size+1) 47 anZ by have:=Blk.new (w.alloc (.cells #[.string ⟨cl.1.toArray⟩,.string ⟨cl.2.toArray⟩] 37)) 47 anZ;simp only[World.size_alloc] at this;exact eW▸this);have hk:=Rn.start h hb;have HK:=I hk;have bq:=I (h.offs (Nat.le_refl w.heap.size));have bn:=I (h.offs (Nat.le_add_right w.heap.size 1));have co:=Nc hk.st hh (by omega) u av a (hv.below hb);obtain⟨AB,mB,cr,cy,cA⟩:=hv;obtain⟨LB,cq⟩:=Ak (a.length);rw[<-cq] at cr;subst cr;have cw:=Nj (ks:=ksOf ss) (u:=u) (l:=a) hu cx;have HR:=I ((show athL ss a u cl=(if (BJ (ksOf ss) u a).2=0 then (match anD (BJ (ksOf ss) u a).1 with | none=>(2,an0) | some x=>if x.c=cl then (0,x) else (9,an0)) else (3,an0):Int×An) from rfl).symm.trans hr);obtain⟨xr,cu⟩:∃x,x=BJ (ksOf ss) u a:=⟨_,rfl⟩;rw[<-cu] at co cw HR;clear h hc hh cy cA hb hk cq cu hr hu cx;rcases cw with ho | ho
 ·rw[ho] at co
  replace HR:=I ((if_pos ho).symm.trans HR.o);clear ho;have CD:=I (fun(A:Option Addr) (c0:Nat) (w1:World) (hr:Rd w1 w1.heap.size A (bvs xr.1))=>Mc.Ni A xr.1 c0 w1 hr);cases hd:anD xr.1 with
  |none=>
   rw[hd] at HR;have er:rz=(2,an0):=HR.o.symm;subst er;rw[show Ms.anG xr.1=Ms.an0 from by unfold Ms.anG;rw[hd];rfl,show Ms.anI xr.1=2 by unfold Ms.anI;rw[hd];rfl] at CD;rw[show(anC (Ms.an0)).toArray=#[.string ⟨(Ms.an0).c.1.toArray⟩,.string ⟨(Ms.an0).c.2.toArray⟩,.int .i64 (Ms.an0).t,.int .i64 (Ms.an0).q] from rfl] at CD;clear hd HR;go_enter Tryz.func46,Tryz.ntmps46
   go_upto_region 1 with fail
   rw[<-eW];clear eW
   go_wp2_with (first
    |(go_at_call 90;refine Calls.mono co ?_;rintro e w6 ⟨v6,cm,s6,rfl,cc,M⟩;clear co;have bz:=M.blk Z.o bn.o;have bb:=M.off bn.o Z.o.lt;have bx:=M.blk O.o bq.o;have aw:=M.off bq.o O.o.lt;replace Z:=I bz;replace bn:=I bb;replace O:=I bx;replace bq:=I aw;replace HK:=I (HK.o.trans M);obtain⟨A6,m6,ca,cb,bs⟩:=cc;subst ca;have bB:=I bs.rd;clear cb bs M bz bb bx aw)
    |(go_at_call 92;refine Aj (CD.o _ _ _ bB.o) ?_;rintro w9 hb;clear CD bB;replace Z:=I (Z.o.below hb);replace O:=I (O.o.below hb);replace HK:=I (HK.o.below hb);have fz:=Z.o.frozen;have cg:=Z.o.cell 0;have ck:=Z.o.cell 1;have cf:=Z.o.cell 2;have cj:=Z.o.cell 3;have cn:=Z.o.lt;have cp:=O.c0;have ct:=O.c1;have cd:=O.o.lt;clear hb)
    |fail)
   refine bodyPost_ret (v:=.tuple #[.agg anZ,.int .i64 2]) ?_ ?_ ?_
   ·exact Ae (v:=.agg anZ) 8 9 47 ⟨w.heap.size+1,0,none⟩ Tryz.results46 rfl (Wh.Ao ((set4 Z.o _ _ _ _).alloc _) Tryz.underlying47 (by rfl) Nk) rfl
   ·rfl
   ·exact⟨_,_,rfl,(HK.o.turn4 (by omega) bn.o _ _ _ _).alloc _⟩
  |some xa=>
   rw[hd] at HR;replace HR:=I (show(if xa.c=cl then (0,xa) else (9,an0):Int×An)=rz from HR.o);rw[show Ms.anG xr.1=xa from by unfold Ms.anG;rw[hd];rfl,show Ms.anI xr.1=0 by unfold Ms.anI;rw[hd];rfl] at CD;rw[show(anC (xa)).toArray=#[.string ⟨(xa).c.1.toArray⟩,.string ⟨(xa).c.2.toArray⟩,.int .i64 (xa).t,.int .i64 (xa).q] from rfl] at CD;clear hd
   by_cases hne:xa.c=cl
   ·have er:rz=(0,xa):=HR.o.symm.trans (if_pos hne)
    subst er;have q1:=Dn hne;clear HR hne;go_enter Tryz.func46,Tryz.ntmps46
    go_upto_region 1 with fail
    rw[<-eW];clear eW
    go_wp2_with (first
     |(go_at_call 90;refine Calls.mono co ?_;rintro e w6 ⟨v6,cm,s6,rfl,cc,M⟩;clear co;have bz:=M.blk Z.o bn.o;have bb:=M.off bn.o Z.o.lt;have bx:=M.blk O.o bq.o;have aw:=M.off bq.o O.o.lt;replace Z:=I bz;replace bn:=I bb;replace O:=I bx;replace bq:=I aw;replace HK:=I (HK.o.trans M);obtain⟨A6,m6,ca,cb,bs⟩:=cc;subst ca;have bB:=I bs.rd;clear cb bs M bz bb bx aw)
     |(go_at_call 92;refine Aj (CD.o _ _ _ bB.o) ?_;rintro w9 hb;clear CD bB;replace Z:=I (Z.o.below hb);replace O:=I (O.o.below hb);replace HK:=I (HK.o.below hb);have fz:=Z.o.frozen;have cg:=Z.o.cell 0;have ck:=Z.o.cell 1;have cf:=Z.o.cell 2;have cj:=Z.o.cell 3;have cn:=Z.o.lt;have cp:=O.c0;have ct:=O.c1;have cd:=O.o.lt;clear hb)
     |fail)
    refine bodyPost_ret (v:=.tuple #[.agg #[.string ⟨xa.c.1.toArray⟩,.string ⟨xa.c.2.toArray⟩,.int .i64 xa.t,.int .i64 xa.q],.int .i64 0]) ?_ ?_ ?_
    ·exact Ae (v:=.agg #[.string ⟨xa.c.1.toArray⟩,.string ⟨xa.c.2.toArray⟩,.int .i64 xa.t,.int .i64 xa.q]) 8 9 47 ⟨w.heap.size+1,0,none⟩ Tryz.results46 rfl (Wh.Ao ((set4 Z.o _ _ _ _).alloc _) Tryz.underlying47 (by rfl) Nk) rfl
    ·rfl
    ·exact⟨_,_,rfl,(HK.o.turn4 (by omega) bn.o _ _ _ _).alloc _⟩
   ·have er:rz=(9,an0):=HR.o.symm.trans (if_neg hne)
    subst er;have q1:=DR hne;clear HR hne;go_enter Tryz.func46,Tryz.ntmps46
    go_upto_region 1 with fail
    rw[<-eW];clear eW
    go_wp2_with (first
     |(go_at_call 90;refine Calls.mono co ?_;rintro e w6 ⟨v6,cm,s6,rfl,cc,M⟩;clear co;have bz:=M.blk Z.o bn.o;have bb:=M.off bn.o Z.o.lt;have bx:=M.blk O.o bq.o;have aw:=M.off bq.o O.o.lt;replace Z:=I bz;replace bn:=I bb;replace O:=I bx;replace bq:=I aw;replace HK:=I (HK.o.trans M);obtain⟨A6,m6,ca,cb,bs⟩:=cc;subst ca;have bB:=I bs.rd;clear cb bs M bz bb bx aw)
     |(go_at_call 92;refine Aj (CD.o _ _ _ bB.o) ?_;rintro w9 hb;clear CD bB;replace Z:=I (Z.o.below hb);replace O:=I (O.o.below hb);replace HK:=I (HK.o.below hb);have fz:=Z.o.frozen;have cg:=Z.o.cell 0;have ck:=Z.o.cell 1;have cf:=Z.o.cell 2;have cj:=Z.o.cell 3;have cn:=Z.o.lt;have cp:=O.c0;have ct:=O.c1;have cd:=O.o.lt;clear hb)
     |fail)
    refine bodyPost_ret (v:=.tuple #[.agg anZ,.int .i64 9]) ?_ ?_ ?_
    ·exact Ae (v:=.agg anZ) 8 9 47 ⟨w.heap.size+1,0,none⟩ Tryz.results46 rfl (Wh.Ao ((set4 Z.o _ _ _ _).alloc _) Tryz.underlying47 (by rfl) Nk) rfl
    ·rfl
    ·exact⟨_,_,rfl,(HK.o.turn4 (by omega) bn.o _ _ _ _).alloc _⟩
 ·rw[ho] at co
  have er:rz=(3,an0):=HR.o.symm.trans (if_neg (by omega));subst er;clear ho HR;go_enter Tryz.func46,Tryz.ntmps46
  go_upto_region 1 with fail
  rw[<-eW];clear eW
  go_wp2_with (first
   |(go_at_call 90;refine Calls.mono co ?_;rintro e w6 ⟨v6,cm,s6,rfl,cc,M⟩;clear co;have bz:=M.blk Z.o bn.o;have bb:=M.off bn.o Z.o.lt;have bx:=M.blk O.o bq.o;have aw:=M.off bq.o O.o.lt;replace Z:=I bz;replace bn:=I bb;replace O:=I bx;replace bq:=I aw;replace HK:=I (HK.o.trans M);obtain⟨A6,m6,ca,cb,bs⟩:=cc;subst ca;have bB:=I bs.rd;clear cb bs M bz bb bx aw;have fz:=Z.o.frozen;have cg:=Z.o.cell 0;have ck:=Z.o.cell 1;have cf:=Z.o.cell 2;have cj:=Z.o.cell 3;have cn:=Z.o.lt)
   |fail)
  refine bodyPost_ret (v:=.tuple #[.agg anZ,.int .i64 3]) ?_ ?_ ?_
  ·exact Ae (v:=.agg anZ) 8 9 47 ⟨w.heap.size+1,0,none⟩ Tryz.results46 rfl (Wh.Ao (set4 Z.o _ _ _ _) Tryz.underlying47 (by rfl) Nk) rfl
  ·rfl
  ·exact⟨_,_,rfl,HK.o.turn4 (by omega) bn.o _ _ _ _⟩
theorem bl {x:Nat} {ss a:Nm.L} {cl:Rg.Pr} {O:Value} {u:Int} (h:RS w B rg rv es s c) (hc:c<900000) (Z:Hdl es s x (ksOf ss)) (hu:0<=u) (M:u<=255) (hv:SlN (RSO rg rv es s) w O a) :
 Calls Tryz.prog 46 #[.pointer (some ⟨x,0,none⟩),.int .i64 u,O,prV cl] w (ShaP w B rg rv es s (c+1) (athL ss a u cl)):=fg h hc Z hu M hv rfl
end
end Kd
end Go.Proofs.YthkdjblnmkkcfaaGreat
