import Derived.Test.YtcpccikongbopaaGreatZClientFirst19
set_option maxHeartbeats 25600000
set_option maxRecDepth 100000
set_option linter.unusedVariables false
set_option linter.unusedSimpArgs false
namespace Go.Proofs.YtcpccikongbopaaGreat
namespace Cl
open Go.RowKit Ad Se
open Nm (L krb)
open Ms (Pr tmB pSm mSm mgO An Mg As Tg)
open Rg (prV)
open Ca (Cr It crA getX getO)
section
variable {w w' w0:World} {B:Nat} {p:CP} {m m' m0:CM} {s:St} {c:Nat} {r:L}
theorem VX (E:Sz p s c):Ca.Fits s.l:=fun i D=>by
 have h:=E.x i D;exact⟨Nat.le_trans h.1.1 (by decide),Nat.le_trans h.1.2 (by decide),Nat.le_trans h.2 (by decide)⟩
theorem get_c (h:Cl w B p m s c) (M:Sz p s c) (q:Pr) (t:Int) {o:Option It} (X:getO s.l q t=o):Calls Tryz.prog 48 #[pv p.r,prV q,.int .i64 t] w fun e w'=>∃A D,e=.returned (.tuple #[.agg (crA (getX o) A D),.bool o.isSome])/\SlN (fun j=>j<w.heap.size) w' (.slice A (getX o).b.length D) (getX o).b/\Below w.heap.size w w':=by
 refine(Ca.Vw B p.r m.v m.es q t w h.ca (by rw[h.li];exact VX M) (by have:=congrArg List.length h.li;rw[Ca.DL] at this;have:=M.l;omega)).mono ?_;rintro e w' ⟨A,D,rfl,E,O,F⟩;rw[h.li,X] at E F⊢;exact⟨A,D,rfl,VT E F,O⟩
theorem Cl.out_b (h:Cl w B p m s c) {ou:Ou} (hk:ou.ks=p.ks) {sn:Int} (D:Chg (fun j=>j=p.k) w w') (E:Blk w' p.k 94 (clA p {m with ov:=pv p.b} {s with ou:=ou,sn:=sn})):Tu w w' B p m {m with ov:=pv p.b} {s with ou:=ou,sn:=sn} c:=
 h.cell (m':={m with ov:=pv p.b}) D E rfl rfl (.inr (.inl ⟨rfl,hk⟩))
abbrev asA (q:As):Array Value:=#[.string ⟨q.c.1.toArray⟩,.string ⟨q.c.2.toArray⟩,.string ⟨q.s.1.toArray⟩,.string ⟨q.s.2.toArray⟩,.int .i64 q.t,.int .i64 q.no]
theorem as_mg (w:World) (q:As):Mc.MgV w w.heap.size (Mc.mgA 1 (asA q) Mc.zT Mc.zR Mc.zP Mc.zF) (mAs q):=⟨_,_,_,_,_,rfl,⟨rfl,Mc.zT_v _ _,Mc.zR_v _ _,Mc.zP_v _ _,Mc.zF_v⟩⟩
theorem QV (q:As):Tryz.prog.built 63 [(0,.int .i64 1),(1,.agg (asA q))]=some (Mc.mgA 1 (asA q) Mc.zT Mc.zR Mc.zP Mc.zF):=Mc.MR rfl
theorem QW (q:As):Tryz.prog.built 51 [(0,.agg #[.string ⟨q.c.1.toArray⟩,.string ⟨q.c.2.toArray⟩]),(1,.agg #[.string ⟨q.s.1.toArray⟩,.string ⟨q.s.2.toArray⟩]),(2,.int .i64 q.t),(3,.int .i64 q.no)]=some (asA q):=by kernel_rfl
theorem VY:(Tryz.prog.info? 90).map (·.size)=some 3:=by kernel_rfl
theorem XM (h:pSm p.P/\p.P.1.length<=1000000):pSm (own p.P):=by
 refine⟨h.1.1,?_⟩;show(krb++p.P.1).length<=1000000000;have E:krb.length=7:=by decide
 have D:=h.2;rw[List.length_append];omega
theorem Tx {now:Int} {o:Option It} (h:Cl w B p m s c) (hc:c<=800000) (hz:Sz p s c) (ht:tmB now=true) (ho:getO s.l (own p.P) now=o) (hi:o=none) :
  Calls Tryz.prog 30 #[pv p.k,.int .i64 now] w fun e w'=>∃v m',e=.returned (.tuple #[.string ⟨p.P.1.toArray⟩,v])/\SlN (Out w p m') w' v (lO (mgO (mAs (firQ p.P s now))))/\Tu w w' B p m m' (firS p.ks s) c:=by
 have C1:=I (fun(w1:World) (h1:Cl w1 B p m s c)=>XK h1 hz.pp.2);have C2:=I (fun(w1:World) (h1:Cl w1 B p m s c)=>get_c h1 hz (own p.P) now ho);have E1:=I (show(own p.P).1=p.P.1 from rfl);have D:=I (Tu.refl h);have HI:=I hi;have C4:=I (fun(w1:World)=>KK now w1 ht);have C5:=I (fun(w1:World) (h1:Cl w1 B p m s c)=>Ul h1 (by have:=hz.nn;omega));have ar:mSm (mAs (firQ p.P s now)):=⟨⟨hz.pp.1,XM hz.pp⟩,⟨Mc.Co,Mc.Co⟩,⟨Mc.Co,Mc.Co⟩,Mc.Co⟩;have C6:=I (fun(w1:World) (h1:Cl w1 B p m {s with n:=s.n+1} c)=>
  KM (r:=p.P.1) (cs:=Mc.mgA 1 (asA (firQ p.P s now)) Mc.zT Mc.zR Mc.zP Mc.zF) (g:=mAs (firQ p.P s now)) (no:=((s.n+1:Nat):Int)) (u:=3) (ob:=p.b) (ks:=p.ks) (m':={m with ov:=pv p.b}) (s':=firS p.ks s) h1 ⟨hz.sn.1,by have:=hz.sn.2;show s.sn<=1000000;omega⟩ (Nat.le_trans hz.pp.2 (by decide)) (fun w2 _=>as_mg w2 _) ar (by rfl) (Mc.MgP.one (m:=mAs (firQ p.P s now)) (w:=w1) (B:=w1.heap.size) ⟨rfl,Mc.zT_v _ _,Mc.zR_v _ _,Mc.zP_v _ _,Mc.zF_v⟩ 1)
   (fun wa wb aV aM aP=>aV.out_b (ou:=⟨((s.n+1:Nat):Int),p.ks,3⟩) rfl aM aP))
 have EN:=I (show(firQ p.P s now).no=((s.n+1:Nat):Int) by simp only[firQ]);have ag:=I (show Tryz.prog.built 51 [(0,.agg #[.string ⟨p.P.1.toArray⟩,.string ⟨p.P.2.toArray⟩]),(1,.agg #[.string ⟨(own p.P).1.toArray⟩,.string ⟨(own p.P).2.toArray⟩]),(2,.int .i64 (GH now)),(3,.int .i64 ((s.n+1:Nat):Int))]=some (asA (firQ p.P s now)) from QW (firQ p.P s now));obtain⟨Q,eQ⟩:=Ah (firQ p.P s now);rw[<-eQ] at C6 EN ag⊢;clear eQ;obtain⟨T,eT⟩:=Ah (GH now);rw[<-eT] at C4 ag;obtain⟨NN,ao⟩:∃z:Int,z=((s.n+1:Nat):Int):=⟨_,rfl⟩;rw[<-ao] at EN ag C5 C6;have E9:=I (show firS p.ks s = {s with n:=s.n+1,ou:=⟨NN,p.ks,3⟩,sn:=s.sn+1} by rw[ao];rfl);obtain⟨q,eq⟩:=Ah (own p.P);rw[<-eq] at C1 C2 E1 ag;have CZ:=I (fun(A:Option Addr) (cp:Nat)=>(show(crA (getX o) A cp).size=37/\(Tryz.prog.info? 102).map (·.size)=some (crA (getX o) A cp).size/\(crA (getX o) A cp).all (·.oneCell')=true from⟨Ca.AG _ _ _,by rw[Ca.AG];exact Ca.Bj,Ca.Dv _ _ _⟩));clear h hc hz ht ho hi eq ar eT ao;go_enter Tryz.func30,Tryz.ntmps30
 go_upto_region 2 with(first
  |(go_at_call 60;refine Ag (C1.o _ D.o.cl) ?_;rintro w1 O;clear C1;replace D:=I (D.o.below O);clear O)
  |fail)
 obtain⟨W2,al⟩:=Ah (w1.alloc (.cells #[.string ⟨q.1.toArray⟩,.string ⟨q.2.toArray⟩] 36));have O:Below w1.heap.size w1 W2:=al▸Af.alloc Ae _;have E:=I (show Blk W2 w1.heap.size 36 #[.string ⟨q.1.toArray⟩,.string ⟨q.2.toArray⟩] from al▸Blk.new w1 _ _);have NQ:=I (D.o.cl.fresh (Nat.le_refl w1.heap.size));replace D:=I (D.o.below O);rw[<-al];clear al O;obtain⟨gq,aB⟩:=Ah (w1.heap.size);rw[<-aB] at E NQ⊢;clear aB
 go_cut [7,8] from 13 to 22 (fun xv ov wx=>∃(PC:Nat) (A:Option Addr) (cp:Nat),xv=.pointer (some ⟨PC,0,none⟩)/\ov=.bool o.isSome/\Blk wx PC 102 (crA (getX o) A cp)/\SlN (AO p m) wx (.slice A (getX o).b.length cp) (getX o).b/\Blk wx gq 36 #[.string ⟨q.1.toArray⟩,.string ⟨q.2.toArray⟩]/\¬AO p m gq/\¬AO p m PC/\Tu w wx B p m m s c)
 case first=>
  have ab:Below W2.heap.size W2 W2.drew:=below_drewN Af 1;replace D:=I (D.o.below ab);replace E:=I (E.o.below ab);clear ab;refine Reg.AN (fun w'=>Blk w' gq 36 #[.string ⟨q.1.toArray⟩,.string ⟨q.2.toArray⟩]/\w'.cell? ⟨p.k,3,none⟩=some (pv p.r)) 13 rfl (by kernel_rfl) ⟨E.o,(D.o).cl.blk.cell 3⟩ ?_;refine Reg.ty 0 rfl ⟨E.o,(D.o).cl.blk.cell 3⟩ ?_;refine Reg.ty 1 rfl ⟨E.o,(D.o).cl.blk.cell 3⟩ ?_;refine Reg.ty 2 rfl ⟨E.o,(D.o).cl.blk.cell 3⟩ ?_;refine Reg.tw 3 rfl ⟨E.o,(D.o).cl.blk.cell 3⟩ (fun w' hS=>by obtain⟨hQ,k3⟩:=hS;go_simp<;>rfl) ?_;refine Reg.tw 4 rfl ⟨E.o,(D.o).cl.blk.cell 3⟩ (fun w' hS=>by obtain⟨hQ,k3⟩:=hS;have q0:=hQ.cell 0;have q1:=hQ.cell 1;go_simp<;>rfl) ?_;refine Reg.ty 5 rfl ⟨E.o,(D.o).cl.blk.cell 3⟩ ?_;refine Reg.b2 6 10 ?_ ?_
  ·right
   refine⟨_,_,_,_,_,_,48,#[pv p.r,prV q,.int .i64 now],rfl,by rfl,(by go_simp<;>first | rfl | exact⟨rfl,rfl⟩),?_⟩;refine Calls.mono (C2.o _ D.o.cl) ?_;rintro e Y ⟨A,cp,rfl,hs,O⟩;have SC:=I (D.o.made hs);replace D:=I (D.o.below O);replace E:=I (E.o.below O);have HZ:=I (CZ.o A cp);clear O;clear C2 hs;refine⟨_,rfl,⟨E.o,(D.o).cl.blk.cell 3⟩,?_⟩;simp only[Act.put,J,U,Aa];refine Reg.ty 7 rfl ⟨E.o,(D.o).cl.blk.cell 3⟩ ?_;refine Reg.ty 8 rfl ⟨E.o,(D.o).cl.blk.cell 3⟩ ?_;refine Reg.ty 9 rfl ⟨E.o,(D.o).cl.blk.cell 3⟩ ?_;refine Reg.b1 10 ?_
   left
   have O:Below Y.heap.size Y (Y.alloc (.cells #[.string ⟨#[]⟩,.string ⟨#[]⟩,.int .i64 0,.slice none 0 0,.int .u8 0,.int .u8 0,.int .u8 0,.int .u8 0,.int .u8 0,.int .u8 0,.int .u8 0,.int .u8 0,.int .u8 0,.int .u8 0,.int .u8 0,.int .u8 0,.int .u8 0,.int .u8 0,.int .u8 0,.int .u8 0,.int .u8 0,.int .u8 0,.int .u8 0,.int .u8 0,.int .u8 0,.int .u8 0,.int .u8 0,.int .u8 0,.int .u8 0,.int .u8 0,.int .u8 0,.int .u8 0,.int .u8 0,.int .u8 0,.int .u8 0,.int .u8 0,.int .i64 0] 102)):=Af.alloc Ae _;have F:=Blk.new Y 102 #[.string ⟨#[]⟩,.string ⟨#[]⟩,.int .i64 0,.slice none 0 0,.int .u8 0,.int .u8 0,.int .u8 0,.int .u8 0,.int .u8 0,.int .u8 0,.int .u8 0,.int .u8 0,.int .u8 0,.int .u8 0,.int .u8 0,.int .u8 0,.int .u8 0,.int .u8 0,.int .u8 0,.int .u8 0,.int .u8 0,.int .u8 0,.int .u8 0,.int .u8 0,.int .u8 0,.int .u8 0,.int .u8 0,.int .u8 0,.int .u8 0,.int .u8 0,.int .u8 0,.int .u8 0,.int .u8 0,.int .u8 0,.int .u8 0,.int .u8 0,.int .i64 0];have LT:=I D.o.size;have NT:=I (D.o.cl.fresh (Nat.le_refl Y.heap.size));have M:=I (Nat.ne_of_lt E.o.lt);replace SC:=I (SlT.up SC.o (Nat.le_refl Y.heap.size));refine⟨_,_,_,_,_,_,.pointer (some ⟨Y.heap.size,0,none⟩),Y.alloc (.cells #[.string ⟨#[]⟩,.string ⟨#[]⟩,.int .i64 0,.slice none 0 0,.int .u8 0,.int .u8 0,.int .u8 0,.int .u8 0,.int .u8 0,.int .u8 0,.int .u8 0,.int .u8 0,.int .u8 0,.int .u8 0,.int .u8 0,.int .u8 0,.int .u8 0,.int .u8 0,.int .u8 0,.int .u8 0,.int .u8 0,.int .u8 0,.int .u8 0,.int .u8 0,.int .u8 0,.int .u8 0,.int .u8 0,.int .u8 0,.int .u8 0,.int .u8 0,.int .u8 0,.int .u8 0,.int .u8 0,.int .u8 0,.int .u8 0,.int .u8 0,.int .i64 0] 102),rfl,by rfl,(by go_simp<;>rfl),⟨(E.o.below O),((D.o.below O)).cl.blk.cell 3⟩,?_⟩;simp only[Act.put,J,U,Aa];obtain⟨aG,ah⟩:=Ah (Y.alloc (.cells #[.string ⟨#[]⟩,.string ⟨#[]⟩,.int .i64 0,.slice none 0 0,.int .u8 0,.int .u8 0,.int .u8 0,.int .u8 0,.int .u8 0,.int .u8 0,.int .u8 0,.int .u8 0,.int .u8 0,.int .u8 0,.int .u8 0,.int .u8 0,.int .u8 0,.int .u8 0,.int .u8 0,.int .u8 0,.int .u8 0,.int .u8 0,.int .u8 0,.int .u8 0,.int .u8 0,.int .u8 0,.int .u8 0,.int .u8 0,.int .u8 0,.int .u8 0,.int .u8 0,.int .u8 0,.int .u8 0,.int .u8 0,.int .u8 0,.int .u8 0,.int .i64 0] 102));rw[<-ah] at O F⊢;clear ah;replace D:=I (D.o.below O);replace E:=I (E.o.below O);replace SC:=I (SC.o.below O);have X:=I F;clear F O;obtain⟨PT,aa⟩:=Ah (Y.heap.size);rw[<-aa] at X LT NT M SC⊢;clear aa;refine Reg.AI 11 rfl (by kernel_rfl) (by rfl) PT 102 _ (crA (getX o) A cp) X.o (by rfl) (by rfl) (by rw[HZ.o.1];rfl) HZ.o.2.1 HZ.o.2.2 ?_;intro aO hV hg;replace X:=I hV;replace D:=I (D.o.over LT.o NT.o hg);replace E:=I (E.o.grown hg (fun e=>by injection e with e;exact M.o e.symm));replace SC:=I (SlT.over SC.o hg);clear hV hg M;refine⟨⟨E.o,(D.o).cl.blk.cell 3⟩,?_⟩;simp only[Act.put,J,U,Aa];refine Reg.ty 12 rfl ⟨E.o,(D.o).cl.blk.cell 3⟩ ?_;refine wpAnyH_done (by kernel_rfl) ?_ _
   go_wp2_with fail
   go_meet
   exact⟨PT,A,cp,rfl,rfl,X.o,SC.o,E.o,NQ.o,NT.o,D.o⟩
  ·left
   have O:Below W2.drew.heap.size W2.drew (W2.drew.alloc (.cells #[.string ⟨#[]⟩,.string ⟨#[]⟩,.int .i64 0,.slice none 0 0,.int .u8 0,.int .u8 0,.int .u8 0,.int .u8 0,.int .u8 0,.int .u8 0,.int .u8 0,.int .u8 0,.int .u8 0,.int .u8 0,.int .u8 0,.int .u8 0,.int .u8 0,.int .u8 0,.int .u8 0,.int .u8 0,.int .u8 0,.int .u8 0,.int .u8 0,.int .u8 0,.int .u8 0,.int .u8 0,.int .u8 0,.int .u8 0,.int .u8 0,.int .u8 0,.int .u8 0,.int .u8 0,.int .u8 0,.int .u8 0,.int .u8 0,.int .u8 0,.int .i64 0] 102)):=Af.alloc Ae _;have F:=Blk.new W2.drew 102 #[.string ⟨#[]⟩,.string ⟨#[]⟩,.int .i64 0,.slice none 0 0,.int .u8 0,.int .u8 0,.int .u8 0,.int .u8 0,.int .u8 0,.int .u8 0,.int .u8 0,.int .u8 0,.int .u8 0,.int .u8 0,.int .u8 0,.int .u8 0,.int .u8 0,.int .u8 0,.int .u8 0,.int .u8 0,.int .u8 0,.int .u8 0,.int .u8 0,.int .u8 0,.int .u8 0,.int .u8 0,.int .u8 0,.int .u8 0,.int .u8 0,.int .u8 0,.int .u8 0,.int .u8 0,.int .u8 0,.int .u8 0,.int .u8 0,.int .u8 0,.int .i64 0];have LT:=I D.o.size;have NT:=I (D.o.cl.fresh (Nat.le_refl W2.drew.heap.size));have M:=I (Nat.ne_of_lt E.o.lt);refine⟨_,_,_,_,_,_,.pointer (some ⟨W2.drew.heap.size,0,none⟩),W2.drew.alloc (.cells #[.string ⟨#[]⟩,.string ⟨#[]⟩,.int .i64 0,.slice none 0 0,.int .u8 0,.int .u8 0,.int .u8 0,.int .u8 0,.int .u8 0,.int .u8 0,.int .u8 0,.int .u8 0,.int .u8 0,.int .u8 0,.int .u8 0,.int .u8 0,.int .u8 0,.int .u8 0,.int .u8 0,.int .u8 0,.int .u8 0,.int .u8 0,.int .u8 0,.int .u8 0,.int .u8 0,.int .u8 0,.int .u8 0,.int .u8 0,.int .u8 0,.int .u8 0,.int .u8 0,.int .u8 0,.int .u8 0,.int .u8 0,.int .u8 0,.int .u8 0,.int .i64 0] 102),rfl,by rfl,(by go_simp<;>rfl),⟨(E.o.below O),((D.o.below O)).cl.blk.cell 3⟩,?_⟩;simp only[Act.put,J,U,Aa];obtain⟨aE,ae⟩:=Ah (W2.drew.alloc (.cells #[.string ⟨#[]⟩,.string ⟨#[]⟩,.int .i64 0,.slice none 0 0,.int .u8 0,.int .u8 0,.int .u8 0,.int .u8 0,.int .u8 0,.int .u8 0,.int .u8 0,.int .u8 0,.int .u8 0,.int .u8 0,.int .u8 0,.int .u8 0,.int .u8 0,.int .u8 0,.int .u8 0,.int .u8 0,.int .u8 0,.int .u8 0,.int .u8 0,.int .u8 0,.int .u8 0,.int .u8 0,.int .u8 0,.int .u8 0,.int .u8 0,.int .u8 0,.int .u8 0,.int .u8 0,.int .u8 0,.int .u8 0,.int .u8 0,.int .u8 0,.int .i64 0] 102));rw[<-ae] at O F⊢;clear ae;replace D:=I (D.o.below O);replace E:=I (E.o.below O);have X:=I F;clear F O;obtain⟨PT,aa⟩:=Ah (W2.drew.heap.size);rw[<-aa] at X LT NT M⊢;clear aa;refine Reg.b1 6 ?_
   right
   refine⟨_,_,_,_,_,_,48,#[pv p.r,prV q,.int .i64 now],rfl,by rfl,(by go_simp<;>first | rfl | exact⟨rfl,rfl⟩),?_⟩;refine Calls.mono (C2.o _ D.o.cl) ?_;rintro e aT ⟨A,cp,rfl,hs,O⟩;have SC:=I (SlT.of_made D.o.cl X.o.lt hs);replace D:=I (D.o.below O);replace E:=I (E.o.below O);replace X:=I (X.o.below O);have HZ:=I (CZ.o A cp);clear O;clear C2 hs;refine⟨_,rfl,⟨E.o,(D.o).cl.blk.cell 3⟩,?_⟩;simp only[Act.put,J,U,Aa];refine Reg.ty 7 rfl ⟨E.o,(D.o).cl.blk.cell 3⟩ ?_;refine Reg.ty 8 rfl ⟨E.o,(D.o).cl.blk.cell 3⟩ ?_;refine Reg.ty 9 rfl ⟨E.o,(D.o).cl.blk.cell 3⟩ ?_;refine Reg.AI 11 rfl (by kernel_rfl) (by rfl) PT 102 _ (crA (getX o) A cp) X.o (by rfl) (by rfl) (by rw[HZ.o.1];rfl) HZ.o.2.1 HZ.o.2.2 ?_;intro aU hV hg;replace X:=I hV;replace D:=I (D.o.over LT.o NT.o hg);replace E:=I (E.o.grown hg (fun e=>by injection e with e;exact M.o e.symm));replace SC:=I (SlT.over SC.o hg);clear hV hg M;refine⟨⟨E.o,(D.o).cl.blk.cell 3⟩,?_⟩;simp only[Act.put,J,U,Aa];refine Reg.ty 12 rfl ⟨E.o,(D.o).cl.blk.cell 3⟩ ?_;refine wpAnyH_done (by kernel_rfl) ?_ _
   go_wp2_with fail
   go_meet
   exact⟨PT,A,cp,rfl,rfl,X.o,SC.o,E.o,NQ.o,NT.o,D.o⟩
 case rest=>
  obtain⟨PC,A,cp,rfl,rfl,au,aC,hq,nq,az,hk⟩:=hcut;replace E:=I hq;replace NQ:=I nq;replace D:=I hk;have HC:=I au;have SC:=I aC;have NC:=I az;clear hq nq hk au aC az C2;have hi:=HI.o;subst hi;clear HI;clear CZ HC SC NC
  go_upto_region 5 with fail
  go_cut [9] from 32 to 43 (fun tv wx=>∃(PT:Nat),tv=.pointer (some ⟨PT,0,none⟩)/\Blk wx PT 51 (asA Q)/\¬AO p m PT/\Blk wx gq 36 #[.string ⟨q.1.toArray⟩,.string ⟨q.2.toArray⟩]/\¬AO p m gq/\Tu w wx B p m m {s with n:=s.n+1} c)
  case first=>
   have ab:Below wc.heap.size wc wc.drew:=below_drewN Af 1;replace D:=I (D.o.below ab);replace E:=I (E.o.below ab);clear ab;refine Reg.AN (fun w'=>Blk w' gq 36 #[.string ⟨q.1.toArray⟩,.string ⟨q.2.toArray⟩]/\w'.cell? ⟨p.k,0,none⟩=some (.string ⟨p.P.1.toArray⟩)/\w'.cell? ⟨p.k,1,none⟩=some (.string ⟨p.P.2.toArray⟩)) 14 rfl (by kernel_rfl) ⟨E.o,(D.o).cl.blk.cell 0,(D.o).cl.blk.cell 1⟩ ?_;refine Reg.ty 0 rfl ⟨E.o,(D.o).cl.blk.cell 0,(D.o).cl.blk.cell 1⟩ ?_;refine Reg.ty 1 rfl ⟨E.o,(D.o).cl.blk.cell 0,(D.o).cl.blk.cell 1⟩ ?_;refine Reg.ty 2 rfl ⟨E.o,(D.o).cl.blk.cell 0,(D.o).cl.blk.cell 1⟩ ?_;refine Reg.tw 3 (v:=.agg #[.string ⟨p.P.1.toArray⟩,.string ⟨p.P.2.toArray⟩]) rfl ⟨E.o,(D.o).cl.blk.cell 0,(D.o).cl.blk.cell 1⟩ (fun w' hS=>by obtain⟨hQ,k0,k1⟩:=hS;go_simp<;>rfl) ?_;refine Reg.tw 4 rfl ⟨E.o,(D.o).cl.blk.cell 0,(D.o).cl.blk.cell 1⟩ (fun w' hS=>by obtain⟨hQ,k0,k1⟩:=hS;have q0:=hQ.cell 0;have q1:=hQ.cell 1;go_simp<;>rfl) ?_;refine Reg.ty 5 rfl ⟨E.o,(D.o).cl.blk.cell 0,(D.o).cl.blk.cell 1⟩ ?_;refine Reg.ty 7 rfl ⟨E.o,(D.o).cl.blk.cell 0,(D.o).cl.blk.cell 1⟩ ?_;refine Reg.ty 8 rfl ⟨E.o,(D.o).cl.blk.cell 0,(D.o).cl.blk.cell 1⟩ ?_;refine Reg.ty 9 rfl ⟨E.o,(D.o).cl.blk.cell 0,(D.o).cl.blk.cell 1⟩ ?_;refine Reg.b2 6 12 ?_ ?_
   ·right
    refine⟨_,_,_,_,_,_,62,#[.int .i64 now],rfl,by rfl,(by go_simp<;>first | rfl | exact⟨rfl,rfl⟩),?_⟩;refine Ag (C4.o _) ?_;rintro aS hw;subst hw;clear C4;refine⟨_,rfl,⟨E.o,(D.o).cl.blk.cell 0,(D.o).cl.blk.cell 1⟩,?_⟩;simp only[Act.put,J,U,Aa];refine Reg.b2 10 12 ?_ ?_
    ·right
     refine⟨_,_,_,_,_,_,49,#[.pointer (some ⟨p.k,4,none⟩)],rfl,by rfl,(by go_simp<;>first | rfl | exact⟨rfl,rfl⟩),?_⟩;refine Ag (C5.o _ D.o.cl) ?_;rintro Z hk;have F:=hk.blk E.o NQ.o;replace NQ:=I (hk.not NQ.o E.o.lt);replace E:=I F;clear F;replace D:=I (D.o.trans hk);clear hk;clear C5;refine⟨_,rfl,⟨E.o,(D.o).cl.blk.cell 0,(D.o).cl.blk.cell 1⟩,?_⟩;simp only[Act.put,J,U,Aa];refine Reg.tw 11 (v:=.agg (asA Q)) rfl ⟨E.o,(D.o).cl.blk.cell 0,(D.o).cl.blk.cell 1⟩ (fun w' hS=>by obtain⟨hQ,k0,k1⟩:=hS;refine Cd (t:=51) (by rfl) (by simp only[List.map_toArray,List.map_cons,List.map_nil];exact ag.o)) ?_;refine Reg.b1 12 ?_
     left
     have O:Below Z.heap.size Z (Z.alloc (.cells #[.string ⟨#[]⟩,.string ⟨#[]⟩,.string ⟨#[]⟩,.string ⟨#[]⟩,.int .i64 0,.int .i64 0] 51)):=Af.alloc Ae _;have F:=Blk.new Z 51 #[.string ⟨#[]⟩,.string ⟨#[]⟩,.string ⟨#[]⟩,.string ⟨#[]⟩,.int .i64 0,.int .i64 0];have LT:=I D.o.size;have NT:=I (D.o.cl.fresh (Nat.le_refl Z.heap.size));have M:=I (Nat.ne_of_lt E.o.lt);refine⟨_,_,_,_,_,_,.pointer (some ⟨Z.heap.size,0,none⟩),Z.alloc (.cells #[.string ⟨#[]⟩,.string ⟨#[]⟩,.string ⟨#[]⟩,.string ⟨#[]⟩,.int .i64 0,.int .i64 0] 51),rfl,by rfl,(by go_simp<;>rfl),⟨(E.o.below O),((D.o.below O)).cl.blk.cell 0,((D.o.below O)).cl.blk.cell 1⟩,?_⟩;simp only[Act.put,J,U,Aa];obtain⟨aF,af⟩:=Ah (Z.alloc (.cells #[.string ⟨#[]⟩,.string ⟨#[]⟩,.string ⟨#[]⟩,.string ⟨#[]⟩,.int .i64 0,.int .i64 0] 51));rw[<-af] at O F⊢;clear af;replace D:=I (D.o.below O);replace E:=I (E.o.below O);have X:=I F;clear F O;obtain⟨PT,aa⟩:=Ah (Z.heap.size);rw[<-aa] at X LT NT M⊢;clear aa;refine Reg.AI 13 rfl (by kernel_rfl) (by rfl) PT 51 _ (asA Q) X.o (by rfl) (by rfl) (by rfl) (by kernel_rfl) (by simp [Value.oneCell']) ?_;intro aN hV hg;replace X:=I hV;replace D:=I (D.o.over LT.o NT.o hg);replace E:=I (E.o.grown hg (fun e=>by injection e with e;exact M.o e.symm));clear hV hg M;refine⟨⟨E.o,(D.o).cl.blk.cell 0,(D.o).cl.blk.cell 1⟩,?_⟩;simp only[Act.put,J,U,Aa];refine wpAnyH_done (by kernel_rfl) ?_ _
     go_wp2_with fail
     go_meet
     exact⟨PT,rfl,X.o,NT.o,E.o,NQ.o,D.o⟩
    ·left
     have O:Below wc.drew.heap.size wc.drew (wc.drew.alloc (.cells #[.string ⟨#[]⟩,.string ⟨#[]⟩,.string ⟨#[]⟩,.string ⟨#[]⟩,.int .i64 0,.int .i64 0] 51)):=Af.alloc Ae _;have F:=Blk.new wc.drew 51 #[.string ⟨#[]⟩,.string ⟨#[]⟩,.string ⟨#[]⟩,.string ⟨#[]⟩,.int .i64 0,.int .i64 0];have LT:=I D.o.size;have NT:=I (D.o.cl.fresh (Nat.le_refl wc.drew.heap.size));have M:=I (Nat.ne_of_lt E.o.lt);refine⟨_,_,_,_,_,_,.pointer (some ⟨wc.drew.heap.size,0,none⟩),wc.drew.alloc (.cells #[.string ⟨#[]⟩,.string ⟨#[]⟩,.string ⟨#[]⟩,.string ⟨#[]⟩,.int .i64 0,.int .i64 0] 51),rfl,by rfl,(by go_simp<;>rfl),⟨(E.o.below O),((D.o.below O)).cl.blk.cell 0,((D.o.below O)).cl.blk.cell 1⟩,?_⟩;simp only[Act.put,J,U,Aa];obtain⟨aI,ai⟩:=Ah (wc.drew.alloc (.cells #[.string ⟨#[]⟩,.string ⟨#[]⟩,.string ⟨#[]⟩,.string ⟨#[]⟩,.int .i64 0,.int .i64 0] 51));rw[<-ai] at O F⊢;clear ai;replace D:=I (D.o.below O);replace E:=I (E.o.below O);have X:=I F;clear F O;obtain⟨PT,aa⟩:=Ah (wc.drew.heap.size);rw[<-aa] at X LT NT M⊢;clear aa;refine Reg.b1 10 ?_
     right
     refine⟨_,_,_,_,_,_,49,#[.pointer (some ⟨p.k,4,none⟩)],rfl,by rfl,(by go_simp<;>first | rfl | exact⟨rfl,rfl⟩),?_⟩;refine Ag (C5.o _ D.o.cl) ?_;rintro aL hk;have F:=hk.blk E.o NQ.o;replace NQ:=I (hk.not NQ.o E.o.lt);replace E:=I F;clear F;have F:=hk.blk X.o NT.o;replace NT:=I (hk.not NT.o X.o.lt);replace X:=I F;clear F;replace D:=I (D.o.trans hk);clear hk;clear C5;refine⟨_,rfl,⟨E.o,(D.o).cl.blk.cell 0,(D.o).cl.blk.cell 1⟩,?_⟩;simp only[Act.put,J,U,Aa];refine Reg.tw 11 (v:=.agg (asA Q)) rfl ⟨E.o,(D.o).cl.blk.cell 0,(D.o).cl.blk.cell 1⟩ (fun w' hS=>by obtain⟨hQ,k0,k1⟩:=hS;refine Cd (t:=51) (by rfl) (by simp only[List.map_toArray,List.map_cons,List.map_nil];exact ag.o)) ?_;refine Reg.AI 13 rfl (by kernel_rfl) (by rfl) PT 51 _ (asA Q) X.o (by rfl) (by rfl) (by rfl) (by kernel_rfl) (by simp [Value.oneCell']) ?_;intro aJ hV hg;replace X:=I hV;replace D:=I (D.o.over LT.o NT.o hg);replace E:=I (E.o.grown hg (fun e=>by injection e with e;exact M.o e.symm));clear hV hg M;refine⟨⟨E.o,(D.o).cl.blk.cell 0,(D.o).cl.blk.cell 1⟩,?_⟩;simp only[Act.put,J,U,Aa];refine wpAnyH_done (by kernel_rfl) ?_ _
     go_wp2_with fail
     go_meet
     exact⟨PT,rfl,X.o,NT.o,E.o,NQ.o,D.o⟩
   ·left
    have O:Below wc.drew.heap.size wc.drew (wc.drew.alloc (.cells #[.string ⟨#[]⟩,.string ⟨#[]⟩,.string ⟨#[]⟩,.string ⟨#[]⟩,.int .i64 0,.int .i64 0] 51)):=Af.alloc Ae _;have F:=Blk.new wc.drew 51 #[.string ⟨#[]⟩,.string ⟨#[]⟩,.string ⟨#[]⟩,.string ⟨#[]⟩,.int .i64 0,.int .i64 0];have LT:=I D.o.size;have NT:=I (D.o.cl.fresh (Nat.le_refl wc.drew.heap.size));have M:=I (Nat.ne_of_lt E.o.lt);refine⟨_,_,_,_,_,_,.pointer (some ⟨wc.drew.heap.size,0,none⟩),wc.drew.alloc (.cells #[.string ⟨#[]⟩,.string ⟨#[]⟩,.string ⟨#[]⟩,.string ⟨#[]⟩,.int .i64 0,.int .i64 0] 51),rfl,by rfl,(by go_simp<;>rfl),⟨(E.o.below O),((D.o.below O)).cl.blk.cell 0,((D.o.below O)).cl.blk.cell 1⟩,?_⟩;simp only[Act.put,J,U,Aa];obtain⟨aH,aj⟩:=Ah (wc.drew.alloc (.cells #[.string ⟨#[]⟩,.string ⟨#[]⟩,.string ⟨#[]⟩,.string ⟨#[]⟩,.int .i64 0,.int .i64 0] 51));rw[<-aj] at O F⊢;clear aj;replace D:=I (D.o.below O);replace E:=I (E.o.below O);have X:=I F;clear F O;obtain⟨PT,aa⟩:=Ah (wc.drew.heap.size);rw[<-aa] at X LT NT M⊢;clear aa;refine Reg.b1 6 ?_
    right
    refine⟨_,_,_,_,_,_,62,#[.int .i64 now],rfl,by rfl,(by go_simp<;>first | rfl | exact⟨rfl,rfl⟩),?_⟩;refine Ag (C4.o _) ?_;rintro aQ hw;subst hw;clear C4;refine⟨_,rfl,⟨E.o,(D.o).cl.blk.cell 0,(D.o).cl.blk.cell 1⟩,?_⟩;simp only[Act.put,J,U,Aa];refine Reg.b1 10 ?_
    right
    refine⟨_,_,_,_,_,_,49,#[.pointer (some ⟨p.k,4,none⟩)],rfl,by rfl,(by go_simp<;>first | rfl | exact⟨rfl,rfl⟩),?_⟩;refine Ag (C5.o _ D.o.cl) ?_;rintro aW hk;have F:=hk.blk E.o NQ.o;replace NQ:=I (hk.not NQ.o E.o.lt);replace E:=I F;clear F;have F:=hk.blk X.o NT.o;replace NT:=I (hk.not NT.o X.o.lt);replace X:=I F;clear F;replace D:=I (D.o.trans hk);clear hk;clear C5;refine⟨_,rfl,⟨E.o,(D.o).cl.blk.cell 0,(D.o).cl.blk.cell 1⟩,?_⟩;simp only[Act.put,J,U,Aa];refine Reg.tw 11 (v:=.agg (asA Q)) rfl ⟨E.o,(D.o).cl.blk.cell 0,(D.o).cl.blk.cell 1⟩ (fun w' hS=>by obtain⟨hQ,k0,k1⟩:=hS;refine Cd (t:=51) (by rfl) (by simp only[List.map_toArray,List.map_cons,List.map_nil];exact ag.o)) ?_;refine Reg.AI 13 rfl (by kernel_rfl) (by rfl) PT 51 _ (asA Q) X.o (by rfl) (by rfl) (by rfl) (by kernel_rfl) (by simp [Value.oneCell']) ?_;intro aR hV hg;replace X:=I hV;replace D:=I (D.o.over LT.o NT.o hg);replace E:=I (E.o.grown hg (fun e=>by injection e with e;exact M.o e.symm));clear hV hg M;refine⟨⟨E.o,(D.o).cl.blk.cell 0,(D.o).cl.blk.cell 1⟩,?_⟩;simp only[Act.put,J,U,Aa];refine wpAnyH_done (by kernel_rfl) ?_ _
    go_wp2_with fail
    go_meet
    exact⟨PT,rfl,X.o,NT.o,E.o,NQ.o,D.o⟩
  case rest=>
   obtain⟨PT,rfl,ht,hn,hq,nq,hk⟩:=hcut;replace E:=I hq;replace NQ:=I nq;replace D:=I hk;have X:=I ht;have NT:=I hn;clear hq nq hk ht hn C4 C5 ag
   go_upto_region 6 with fail
   have HX:=I X.o;have NX:=I NT.o;have PX:∃z,z=PT:=⟨_,rfl⟩;obtain⟨gx,ay⟩:=PX;rw[<-ay] at HX NX⊢;clear X NT ay
   go_cut [10] from 44 to 50 (fun tv wx=>∃(PT:Nat),tv=.pointer (some ⟨PT,0,none⟩)/\Blk wx PT 90 (ouA NN p.b 3)/\Blk wx gx 51 (asA Q)/\Blk wx gq 36 #[.string ⟨q.1.toArray⟩,.string ⟨q.2.toArray⟩]/\Tu w wx B p m m {s with n:=s.n+1} c)
   case first=>
    have ab:Below wc.heap.size wc wc.drew:=below_drewN Af 1;replace D:=I (D.o.below ab);replace E:=I (E.o.below ab);replace HX:=I (HX.o.below ab);clear ab;refine Reg.AN (fun w'=>Blk w' gx 51 (asA Q)/\w'.cell? ⟨p.k,2,none⟩=some (pv p.b)) 9 rfl (by kernel_rfl) ⟨HX.o,(D.o).cl.blk.cell 2⟩ ?_;refine Reg.ty 0 rfl ⟨HX.o,(D.o).cl.blk.cell 2⟩ ?_;refine Reg.tw 1 (v:=.int .i64 NN) rfl ⟨HX.o,(D.o).cl.blk.cell 2⟩ (fun w' hS=>by obtain⟨hX,k2⟩:=hS;have q5:w'.cell? ⟨gx,5,none⟩=some (.int .i64 Q.no):=hX.cell 5;rw[EN.o] at q5;go_simp<;>rfl) ?_;refine Reg.ty 2 rfl ⟨HX.o,(D.o).cl.blk.cell 2⟩ ?_;refine Reg.ty 3 rfl ⟨HX.o,(D.o).cl.blk.cell 2⟩ ?_;refine Reg.ty 4 rfl ⟨HX.o,(D.o).cl.blk.cell 2⟩ ?_;refine Reg.tw 5 rfl ⟨HX.o,(D.o).cl.blk.cell 2⟩ (fun w' hS=>by obtain⟨hX,k2⟩:=hS;go_simp<;>rfl) ?_;refine Reg.tw 6 (v:=.agg (ouA NN p.b 3)) rfl ⟨HX.o,(D.o).cl.blk.cell 2⟩ (fun w' hS=>by obtain⟨hX,k2⟩:=hS;go_simp<;>rfl) ?_;refine Reg.b1 7 ?_
    left
    have O:Below wc.drew.heap.size wc.drew (wc.drew.alloc (.cells #[.int .i64 0,.pointer none,.int .i64 0] 90)):=Af.alloc Ae _;have F:=Blk.new wc.drew 90 #[.int .i64 0,.pointer none,.int .i64 0];have LT:=I D.o.size;have NT:=I (D.o.cl.fresh (Nat.le_refl wc.drew.heap.size));have M:=I (Nat.ne_of_lt E.o.lt);have ak:=I (Nat.ne_of_lt HX.o.lt);refine⟨_,_,_,_,_,_,.pointer (some ⟨wc.drew.heap.size,0,none⟩),wc.drew.alloc (.cells #[.int .i64 0,.pointer none,.int .i64 0] 90),rfl,by rfl,(by go_simp<;>rfl),⟨(HX.o.below O),((D.o.below O)).cl.blk.cell 2⟩,?_⟩;simp only[Act.put,J,U,Aa];obtain⟨aD,ad⟩:=Ah (wc.drew.alloc (.cells #[.int .i64 0,.pointer none,.int .i64 0] 90));rw[<-ad] at O F⊢;clear ad;replace D:=I (D.o.below O);replace E:=I (E.o.below O);replace HX:=I (HX.o.below O);have X:=I F;clear F O;obtain⟨PT,aa⟩:=Ah (wc.drew.heap.size);rw[<-aa] at X LT NT M ak⊢;clear aa;refine Reg.AI 8 rfl (by kernel_rfl) (by rfl) PT 90 _ (ouA NN p.b 3) X.o (by rfl) (by rfl) (by rfl) VY (by simp [Value.oneCell']) ?_;intro aK hV hg;replace X:=I hV;replace D:=I (D.o.over LT.o NT.o hg);replace E:=I (E.o.grown hg (fun e=>by injection e with e;exact M.o e.symm));replace HX:=I (HX.o.grown hg (fun e=>by injection e with e;exact ak.o e.symm));clear hV hg M ak;refine⟨⟨HX.o,(D.o).cl.blk.cell 2⟩,?_⟩;simp only[Act.put,J,U,Aa];refine wpAnyH_done (by kernel_rfl) ?_ _
    go_wp2_with fail
    go_meet
    exact⟨PT,rfl,X.o,HX.o,E.o,D.o⟩
   case rest=>
    obtain⟨PT,rfl,ht,hx,hq,hk⟩:=hcut;replace E:=I hq;replace HX:=I hx;replace D:=I hk;have X:=I ht;clear hq hx hk ht NQ NX;have av:=I (show(Tryz.prog.info? 51).map (·.size)=some (asA Q).size by kernel_rfl);have an:=I (QV Q);have c6:=C6.o wc D.o.cl;obtain⟨ct,aA⟩:=Ah (asA Q);obtain⟨cm,ax⟩:=Ah (Mc.mgA 1 (asA Q) Mc.zT Mc.zR Mc.zP Mc.zF);rw[<-ax] at c6 an;rw[<-aA] at HX av an;clear aA ax C6;have o0:wc.cell? ⟨PT,0,none⟩=some (.int .i64 NN):=X.o.cell 0;have o1:wc.cell? ⟨PT,1,none⟩=some (pv p.b):=X.o.cell 1;have o2:wc.cell? ⟨PT,2,none⟩=some (.int .i64 3):=X.o.cell 2;have aw:wc.cell? ⟨gq,0,none⟩=some (.string ⟨q.1.toArray⟩):=E.o.cell 0;rw[E1.o] at aw
    go_wp2_with (first
     |(refine Wh.Az (by rfl) 51 (.tmp 9) (by rfl) gx 0 (by rfl) ct _ (Wh.Ab HX.o) Tryz.underlying51 (by rfl) av.o ?_)
     |(refine Mc.Au (by rfl) 63 #[(0,.const (.int .i64 1)),(1,.tmp 54)] (by rfl) cm (by simp only[List.map_toArray,List.map_cons,List.map_nil];exact an.o) ?_)
     |(go_at_call 63;refine Calls.mono c6 ?_;rintro e w6 ⟨v,rfl,hs,hk⟩;clear c6 o0 o1 o2 aw;have HV:=I (Out.old D.o.size hs);replace D:=I (D.o.trans hk);clear hs hk)
     |fail)
    go_ret2
    exact⟨v,_,rfl,HV.o,D.o⟩
end
end Cl
namespace Cl
open Go.RowKit Ad Se
open Nm (L krb tgL tgR)
open Ms (Pr tmB pSm mSm mgO An Mg As Tg Re Rp rpD rpC rpB)
open Rg (prV Bh Bt)
open Ca (Cr It crA DM AD)
open SeL (BR Ck Ns)
abbrev reA (q:Re) (b a:Value):Array Value:=#[.string ⟨q.c.1.toArray⟩,.string ⟨q.c.2.toArray⟩,.string ⟨q.t.s.1.toArray⟩,.string ⟨q.t.s.2.toArray⟩,.int .i64 q.t.k,b,a]
theorem VZ {l:L} (h:l.length=32):AT (ksOf l)=(bvs l).toArray:=by
 show((List.range 32).map (fun i=>bv (ksOf l i))).toArray=(bvs l).toArray
 congr 1
 apply List.ext_getElem?;intro i;simp only[List.getElem?_map,bvs]
 by_cases g:i<32
 ·rw[List.getElem?_range g,List.getElem?_eq_getElem (by omega)]
  simp [ksOf,List.getD,h,g]
 ·rw[List.getElem?_eq_none (by simp;omega),List.getElem?_eq_none (by omega)]
  rfl
section
variable {w w' w0:World} {B:Nat} {p:CP} {m m' m0:CM} {s:St} {c:Nat} {r:L}
theorem MV (h:Cl w B p m s c) (F:s.st=1/\s.ou.u≠0) (hc:c<1000000) (u:Int) (v:Value) (l:L) (hv:SlN (AO p m) w v l) :
  Calls Tryz.prog 67 #[m.ov,.int .i64 u,v] w fun e w'=>∃v2 m',e=.returned (.tuple #[v2,.int .i64 (Ck s.ou.ks u l).2])/\m'.ov=m.ov/\SlN (Out w p m') w' v2 (Ck s.ou.ks u l).1/\Tu w w' B p m m' s (c+1):=by
 obtain⟨A,cp,rfl,E,hr⟩:=hv;rcases h.ou with⟨_,x⟩ | ⟨M,X⟩ | ⟨z,hz,M,X⟩
 ·exact absurd (x F.1) F.2
 ·rw[M,X]
  have aa:=h.bc;refine(Kt p.b p.ks m.h m.a m.o m.r u A l.length cp l w (by omega) (by omega) rfl E (hr.mono fun j _ D=>⟨1,D⟩) h.box).mono ?_;rintro e w1 ⟨A2,c2,h',Y,O,rfl,h1,h2,h3,h4,h5,h6,h7⟩;have Z:=h.use_b h4 h5 (by omega) h6 h7;refine⟨_,{m with h:=h',o:=Y,r:=O},rfl,M,⟨A2,c2,rfl,h1,h3.mono fun j _ D=>?_⟩,Z⟩;rcases D with D | ⟨i,D⟩
  ·exact .inl D
  ·match i,D with
   |0,D=>exact .inl (h.lt ⟨0,D⟩)
   |1,D=>exact .inr D
   |2,D=>exact .inl (h.lt ⟨2,D⟩)
   |3,D=>exact .inl (h.lt ⟨3,D⟩)
   |4,D=>exact .inl (h.lt ⟨4,D⟩)
   |5,D=>exact .inl (h.lt ⟨5,D⟩)
 ·rw[M,X]
  have hx:=h.sx z hz;refine(Kt z.b z.ks z.h z.a z.o z.r u A l.length cp l w (by omega) (by omega) rfl E (hr.mono fun j _ D=>⟨4,z,hz,D⟩) hx.1).mono ?_;rintro e w1 ⟨A2,c2,h',Y,O,rfl,h1,h2,h3,h4,h5,h6,h7⟩;have Z:=h.use_x hz h4 h5 (by omega) h6 h7;refine⟨_,{m with x:=some ⟨z.b,z.ks,h',z.a,Y,O⟩},rfl,M,⟨A2,c2,rfl,h1,h3.mono fun j _ D=>?_⟩,Z⟩;rcases D with D | ⟨i,D⟩
  ·exact .inl D
  ·match i,D with
   |0,D=>exact .inl (h.lt ⟨0,D⟩)
   |1,D=>exact .inl (h.lt ⟨1,D⟩)
   |2,D=>exact .inl (h.lt ⟨2,D⟩)
   |3,D=>exact .inl (h.lt ⟨3,D⟩)
   |4,D=>
    obtain⟨q,hq,D⟩:=D;injection hq with hq;subst hq;exact .inr D
   |5,D=>exact .inl (h.lt ⟨5,D⟩)
def OpeP (w:World) (B:Nat) (p:CP) (m:CM) (s:St) (c:Nat) (bv:Value) (o:Option Cr) (e:Ending) (w':World):Prop:=
 ∃cs m',e=.returned (.tuple #[.agg cs,.bool o.isSome])/\cs.size=37/\cs.all (·.oneCell')=true/\(Tryz.prog.info? 102).map (·.size)=some cs.size/\(∀x,o=some x->cs=crv x bv/\SlN (AO p m') w' bv x.b)/\Tu w w' B p m m' s (c+1)
theorem KO {D:World} (h:Tu w D B p m m' s (c+1)) (bv:Value):OpeP w B p m s c bv none (.returned (.tuple #[.agg (crA DM none 0),.bool false])) D:=
 ⟨_,m',rfl,Ca.AG _ _ _,Ca.Dv _ _ _,by rw[Ca.AG];exact Ca.Bj,(fun x E=>by cases E),h⟩
theorem ope_1 {q:Re} {bv E:Value} (h:Cl w B p m s c) (aa:s.st=1/\s.ou.u≠0) (hc:c<=800000) (ab:SlN (AO p m) w bv q.t.b) (Y:SlN (AO p m) w E q.b) (h1:q.c≠p.P) :
  Calls Tryz.prog 33 #[pv p.k,.agg (reA q bv E)] w (OpeP w B p m s c bv none):=by
 obtain⟨zs,F⟩:=Ah (crA DM none 0);have X:=I (F.trans Ca.DY);obtain⟨W,Z⟩:=Ah ((w.alloc (.cells (reA q bv E) 57)).alloc (.cells zs 102));have hb:Below w.heap.size w W:=Z▸(Af.alloc Ae _).alloc (by simp) _;have HR:=I (show Blk W w.heap.size 57 (reA q bv E) from Z▸(Blk.new w _ _).alloc _);have HZ:=I (show Blk W (w.heap.size+1) 102 zs by have:=Blk.new (w.alloc (.cells (reA q bv E) 57)) 102 zs;simp only[World.size_alloc] at this;exact Z▸this);have ad:=I (show zs.size=37 by rw[F,Ca.AG]);have D:=I (Tu.start h hb);have NR:=I (h.fresh (Nat.le_refl w.heap.size));have NZ:=I (h.fresh (Nat.le_succ w.heap.size));have SB:=I ((SlT.up (g:=w.heap.size+1) ab (Nat.le_succ _)).below hb);have SA:=I (Y.below hb);have CO:=I (fun(w1:World) (h1:Cl w1 B p m s c) (hv:SlN (AO p m) w1 E q.b)=>MV h1 aa (by omega) s.ou.u E q.b hv);have t1:=Bt h1;clear h aa hc ab Y hb F h1;go_enter Tryz.func33,Tryz.ntmps33
 go_upto_region 1 with fail
 rw[<-X.o,<-Z];clear Z X;have r0:W.cell? ⟨w.heap.size,0,none⟩=some (.string ⟨q.c.1.toArray⟩):=HR.o.cell 0;have r1:W.cell? ⟨w.heap.size,1,none⟩=some (.string ⟨q.c.2.toArray⟩):=HR.o.cell 1;have k0:W.cell? ⟨p.k,0,none⟩=some (.string ⟨p.P.1.toArray⟩):=D.o.cl.blk.cell 0;have k1:W.cell? ⟨p.k,1,none⟩=some (.string ⟨p.P.2.toArray⟩):=D.o.cl.blk.cell 1
 go_quiet (fail)
 have M:=below_drewN (Below.refl W.heap.size W) nq;replace HR:=I (HR.o.below M);replace HZ:=I (HZ.o.below M);replace D:=I (D.o.below M);replace SB:=I (SB.o.below M);replace SA:=I (SA.o.below M);clear M r0 r1 k0 k1;generalize W.drewN nq=W1 at HR HZ D SB SA⊢
 go_wp2_with (first
  |(refine Wh.BO (by rfl) 102 (.tmp 4) (.tmp 16) (by rfl) (w.heap.size+1) 102 zs HZ.o (crA DM none 0) (by rfl) (by first | exact Ca.DY▸rfl | rfl) (by rw[ad.o,Ca.AG]) (by rw[Ca.AG];exact Ca.Bj) (Ca.Dv _ _ _) ?_;rintro V2 O hg;have HV:=I O;replace D:=I (D.o.over (Nat.le_succ _) NZ.o hg);clear O hg)
  |fail)
 refine bodyPost_ret (v:=.tuple #[.agg (crA DM none 0),.bool false]) ?_ ?_ ?_
 ·exact AD 4 5 102 ⟨w.heap.size+1,0,none⟩ Tryz.results33 (by rfl) (Wh.Am HV.o Tryz.underlying102 (by rfl) (by rw[Ca.AG];exact Ca.Bj)) (by rfl)
 ·rfl
 ·exact KO (D.o.more (Nat.le_succ _)) bv
theorem XN (G:Rp):(rpC G).toArray.all (·.oneCell')=true:=by
 rw[List.all_toArray,List.all_eq_true];intro v D;simp only[rpC,Ms.prC,List.mem_append,List.mem_cons,List.not_mem_nil,or_false] at D;rcases D with D | (rfl | rfl) | rfl | rfl | rfl
 ·exact Bz _ v D
 all_goals rfl
theorem Fs {G:Rp} {g:Nat} {t:TypeId} (D:G.ss.length=32) (E:Blk w g t (rpC G).toArray):w.rangeAt g 0 (AT (ksOf G.ss)).toList/\w.cell? ⟨g,32,none⟩=some (.string ⟨G.s.1.toArray⟩)/\w.cell? ⟨g,33,none⟩=some (.string ⟨G.s.2.toArray⟩)/\w.cell? ⟨g,35,none⟩=some (.int .i64 G.en)/\w.cell? ⟨g,36,none⟩=some (.int .i64 G.no):=by
 have hk:w.rangeAt g 32 [.string ⟨G.s.1.toArray⟩,.string ⟨G.s.2.toArray⟩,.int .i64 G.st,.int .i64 G.en,.int .i64 G.no]:=Wh.CV (pre:=bvs G.ss) (post:=[]) E (by simp [rpC,Ms.prC]) 32 (by simp [bvs,D]);refine⟨?_,hk 0 _ rfl,hk 1 _ rfl,hk 3 _ rfl,hk 4 _ rfl⟩;rw[VZ D];exact Wh.CV (pre:=[]) (post:=[.string ⟨G.s.1.toArray⟩,.string ⟨G.s.2.toArray⟩,.int .i64 G.st,.int .i64 G.en,.int .i64 G.no]) E (by simp [rpC,Ms.prC]) 0 rfl
theorem Wa (x:Cr) {b:Value} (D:b.oneCell'=true):(crv x b).all (·.oneCell')=true:=by
 rw[List.all_toArray,List.all_eq_true];intro u hu;simp only[List.mem_cons,List.mem_append,List.not_mem_nil,or_false] at hu;rcases hu with h | h | h | h | h | h
 ·subst h;rfl
 ·subst h;rfl
 ·subst h;rfl
 ·subst h;exact D
 ·have:=Se.Vj x.k
  rw[Array.all_eq_true_iff_forall_mem] at this;exact this u (Array.mem_def.2 h)
 ·subst h;rfl
theorem QX (x:Cr) (b:Value):Tryz.prog.built 102 [(0,.agg #[.string ⟨x.s.1.toArray⟩,.string ⟨x.s.2.toArray⟩,.int .i64 x.n,b]),(1,.agg (AT x.k)),(2,.int .i64 x.e)]=some (crv x b):=by kernel_rfl
theorem XO {q:Re} {bv av:Value} (h:Cl w B p m s c) (aE:s.st=1/\s.ou.u≠0) (hc:c<=800000) (aC:SlN (AO p m) w bv q.t.b) (aD:SlN (AO p m) w av q.b) (h1:q.c=p.P) :
  Calls Tryz.prog 33 #[pv p.k,.agg (reA q bv av)] w (OpeP w B p m s c bv (opeL p.P s q)):=by
 obtain⟨zs,aB⟩:=Ah (crA DM none 0);have aG:=I (aB.trans Ca.DY);obtain⟨W,eW⟩:=Ah ((w.alloc (.cells (reA q bv av) 57)).alloc (.cells zs 102));have hb:Below w.heap.size w W:=eW▸(Af.alloc Ae _).alloc (by simp) _;have E:=I (show Blk W w.heap.size 57 (reA q bv av) from eW▸(Blk.new w _ _).alloc _);have M:=I (show Blk W (w.heap.size+1) 102 zs by have:=Blk.new (w.alloc (.cells (reA q bv av) 57)) 102 zs;simp only[World.size_alloc] at this;exact eW▸this);have al:=I (show zs.size=37 by rw[aB,Ca.AG]);have D:=I (Tu.start h hb);have NR:=I (h.fresh (Nat.le_refl w.heap.size));have NZ:=I (h.fresh (Nat.le_succ w.heap.size));have Y:=I ((SlT.up (g:=w.heap.size+1) aC (Nat.le_succ _)).below hb);have SA:=I (aD.below hb);have CO:=I (fun(w1:World) (h1:Cl w1 B p m s c) (hv:SlN (AO p m) w1 av q.b)=>MV h1 aE (by omega) s.ou.u av q.b hv);have t1:=Bh h1;have CD:=I (fun(w1:World) (v:Value) (m1:CM) (hv:SlN (AO p m1) w1 v (Ck s.ou.ks s.ou.u q.b).1)=>(show Calls Tryz.prog 68 #[v] w1 fun e w'=>e=.returned (.tuple #[.agg (rpC (Mc.rpG (Ck s.ou.ks s.ou.u q.b).1)).toArray,.int .i64 (Mc.rpI (Ck s.ou.ks s.ou.u q.b).1)])/\Below w1.heap.size w1 w' by
  obtain⟨A,cp,rfl,_,hr⟩:=hv;exact Mc.Oo A _ cp w1 hr.rd))
 have an:=Mc.QH (Ck s.ou.ks s.ou.u q.b).1;obtain⟨o,eo⟩:=Ah (opeL p.P s q);have e0:o=opeL p.P s q:=eo;unfold opeL at eo;rw[if_pos h1] at eo;rw[<-e0];obtain⟨r2,ax⟩:=Ah ((Ck s.ou.ks s.ou.u q.b).2);obtain⟨ob,au⟩:=Ah ((Ck s.ou.ks s.ou.u q.b).1);rw[<-au,<-ax] at CO;rw[<-au] at CD an;rw[<-au,<-ax] at eo;obtain⟨G,eG⟩:=Ah (Mc.rpG ob);obtain⟨hi,ai⟩:=Ah (Mc.rpI ob);rw[<-eG] at CD an;rw[<-ai] at CD;have aA:=I (show ¬r2=0->o=none from fun h=>by rw[eo,if_neg h]);have HI:=I (show hi=2\/hi=0 by rw[ai];unfold Mc.rpI;split<;>simp);have aa:=I (show r2=0->hi=2->o=none from fun h g=>by
  rw[eo,if_pos h];cases h3:rpD ob with
  |none=>rfl
  |some G'=>rw[ai] at g;unfold Mc.rpI at g;rw[h3] at g;simp at g)
 have ad:=I (show r2=0->hi=0->o=if G.no=s.ou.no/\G.s=q.t.s then some ⟨q.t.s,q.t.k,q.t.b,ksOf G.ss,G.en⟩ else none from fun h g=>by
  rw[eo,if_pos h];cases h3:rpD ob with
  |none=>rw[ai] at g;unfold Mc.rpI at g;rw[h3] at g;simp at g
  |some G'=>
   have:G=G':=by rw[eG];unfold Mc.rpG;rw[h3];rfl
   subst this
   rfl)
 obtain⟨rs,ar⟩:=Ah ((rpC G).toArray);rw[<-ar] at CD;have aO:=I (show rs.size=37 by rw[ar];simp [rpC,Ms.prC,bvs,an]);have aS:=I (show(Tryz.prog.info? 110).map (·.size)=some rs.size by rw[aO.o];kernel_rfl);have aR:=I (show rs.all (·.oneCell')=true by rw[ar];exact XN G);have aI:=I (fun(w1:World) (g:Nat) (hx:Blk w1 g 110 rs)=>(show w1.rangeAt g 0 (AT (ksOf G.ss)).toList/\w1.cell? ⟨g,32,none⟩=some (.string ⟨G.s.1.toArray⟩)/\w1.cell? ⟨g,33,none⟩=some (.string ⟨G.s.2.toArray⟩)/\w1.cell? ⟨g,35,none⟩=some (.int .i64 G.en)/\w1.cell? ⟨g,36,none⟩=some (.int .i64 G.no) by rw[ar] at hx;exact Fs an hx));have aV:=I (show(Tryz.prog.info? 31).map (·.size)=some (AT (ksOf G.ss)).size by rw[AR];kernel_rfl);obtain⟨xs,aj⟩:=Ah (crv ⟨q.t.s,q.t.k,q.t.b,ksOf G.ss,G.en⟩ bv);have aU:=I aj;have az:=I (show xs.size=37 by rw[aj];simp [AR]);have ay:=I (show(Tryz.prog.info? 102).map (·.size)=some xs.size by rw[az.o];exact Ca.Bj);have aF:=I (show xs.all (·.oneCell')=true by rw[aj];exact Wa _ (Um aC));have aQ:=I (show Tryz.prog.built 102 [(0,.agg #[.string ⟨q.t.s.1.toArray⟩,.string ⟨q.t.s.2.toArray⟩,.int .i64 q.t.k,bv]),(1,.agg (AT (ksOf G.ss))),(2,.int .i64 G.en)]=some xs by rw[aj];exact QX ⟨q.t.s,q.t.k,q.t.b,ksOf G.ss,G.en⟩ bv);clear h aE hc aC aD hb aB h1 an ar au ax eG ai aj eo e0;go_enter Tryz.func33,Tryz.ntmps33
 go_upto_region 1 with fail
 rw[<-aG.o,<-eW];clear eW aG;have r0:W.cell? ⟨w.heap.size,0,none⟩=some (.string ⟨q.c.1.toArray⟩):=E.o.cell 0;have r1:W.cell? ⟨w.heap.size,1,none⟩=some (.string ⟨q.c.2.toArray⟩):=E.o.cell 1;have k0:W.cell? ⟨p.k,0,none⟩=some (.string ⟨p.P.1.toArray⟩):=D.o.cl.blk.cell 0;have k1:W.cell? ⟨p.k,1,none⟩=some (.string ⟨p.P.2.toArray⟩):=D.o.cl.blk.cell 1
 go_quiet (fail)
 have O:=below_drewN (Below.refl W.heap.size W) nq;replace E:=I (E.o.below O);replace M:=I (M.o.below O);replace D:=I (D.o.below O);replace Y:=I (Y.o.below O);replace SA:=I (SA.o.below O);clear O r0 r1 k0 k1;generalize W.drewN nq=W1 at E M D Y SA⊢
 go_upto_region 3 with fail
 have F:=I (show m.ov=m.ov from rfl);have ae:Below W1.heap.size W1 W1.drew:=below_drewN Af 1;replace D:=I (D.o.below ae);replace E:=I (E.o.below ae);replace M:=I (M.o.below ae);replace Y:=I (Y.o.below ae);replace SA:=I (SA.o.below ae);clear ae;refine Reg.AN (fun w'=>Blk w' w.heap.size 57 (reA q bv av)/\w'.cell? ⟨p.k,14,none⟩=some m.ov/\w'.cell? ⟨p.k,15,none⟩=some (.int .i64 s.ou.u)) 20 rfl (by kernel_rfl) ⟨E.o,((D.o).cl.blk.cell 14).trans (congrArg some F.o),(D.o).cl.blk.cell 15⟩ ?_;refine Reg.ty 0 rfl ⟨E.o,((D.o).cl.blk.cell 14).trans (congrArg some F.o),(D.o).cl.blk.cell 15⟩ ?_;refine Reg.ty 1 rfl ⟨E.o,((D.o).cl.blk.cell 14).trans (congrArg some F.o),(D.o).cl.blk.cell 15⟩ ?_;refine Reg.ty 2 rfl ⟨E.o,((D.o).cl.blk.cell 14).trans (congrArg some F.o),(D.o).cl.blk.cell 15⟩ ?_;refine Reg.ty 3 rfl ⟨E.o,((D.o).cl.blk.cell 14).trans (congrArg some F.o),(D.o).cl.blk.cell 15⟩ ?_;refine Reg.ty 4 rfl ⟨E.o,((D.o).cl.blk.cell 14).trans (congrArg some F.o),(D.o).cl.blk.cell 15⟩ ?_;refine Reg.tw 5 rfl ⟨E.o,((D.o).cl.blk.cell 14).trans (congrArg some F.o),(D.o).cl.blk.cell 15⟩ (fun w' hS=>by obtain⟨hR,aL,aK⟩:=hS;go_simp<;>rfl) ?_;refine Reg.ty 6 rfl ⟨E.o,((D.o).cl.blk.cell 14).trans (congrArg some F.o),(D.o).cl.blk.cell 15⟩ ?_;refine Reg.ty 7 rfl ⟨E.o,((D.o).cl.blk.cell 14).trans (congrArg some F.o),(D.o).cl.blk.cell 15⟩ ?_;refine Reg.ty 8 rfl ⟨E.o,((D.o).cl.blk.cell 14).trans (congrArg some F.o),(D.o).cl.blk.cell 15⟩ ?_;refine Reg.ty 9 rfl ⟨E.o,((D.o).cl.blk.cell 14).trans (congrArg some F.o),(D.o).cl.blk.cell 15⟩ ?_;refine Reg.ty 10 rfl ⟨E.o,((D.o).cl.blk.cell 14).trans (congrArg some F.o),(D.o).cl.blk.cell 15⟩ ?_;refine Reg.tw 11 rfl ⟨E.o,((D.o).cl.blk.cell 14).trans (congrArg some F.o),(D.o).cl.blk.cell 15⟩ (fun w' hS=>by obtain⟨hR,aL,aK⟩:=hS;go_simp<;>rfl) ?_;refine Reg.ty 12 rfl ⟨E.o,((D.o).cl.blk.cell 14).trans (congrArg some F.o),(D.o).cl.blk.cell 15⟩ ?_;refine Reg.tw 13 (v:=av) rfl ⟨E.o,((D.o).cl.blk.cell 14).trans (congrArg some F.o),(D.o).cl.blk.cell 15⟩ (fun w' hS=>by obtain⟨hR,aL,aK⟩:=hS;have q6:=hR.cell 6;go_simp<;>rfl) ?_;refine Reg.b1 14 ?_
 right
 refine⟨_,_,_,_,_,_,67,#[m.ov,.int .i64 s.ou.u,av],rfl,by rfl,(by go_simp<;>first | rfl | exact⟨rfl,rfl⟩),?_⟩;refine Calls.mono (CO.o _ D.o.cl SA.o) ?_;rintro e aT ⟨v2,m3,rfl,aJ,hs,hk⟩;have X:=hk.blk E.o NR.o;replace NR:=I (hk.not NR.o E.o.lt);replace E:=I X;clear X;have X:=hk.blk M.o NZ.o;replace NZ:=I (hk.not NZ.o M.o.lt);replace M:=I X;clear X;replace Y:=I (Y.o.kn hk);replace SA:=I (hk.sl SA.o);replace D:=I (D.o.trans hk);have S2:=I (IB hs);replace F:=I aJ;clear hk;clear CO SA hs aJ;refine⟨_,rfl,⟨E.o,((D.o).cl.blk.cell 14).trans (congrArg some F.o),(D.o).cl.blk.cell 15⟩,?_⟩;simp only[Act.put,J,U,Aa];refine Reg.ty 15 rfl ⟨E.o,((D.o).cl.blk.cell 14).trans (congrArg some F.o),(D.o).cl.blk.cell 15⟩ ?_;refine Reg.ty 16 rfl ⟨E.o,((D.o).cl.blk.cell 14).trans (congrArg some F.o),(D.o).cl.blk.cell 15⟩ ?_;refine Reg.ty 17 rfl ⟨E.o,((D.o).cl.blk.cell 14).trans (congrArg some F.o),(D.o).cl.blk.cell 15⟩ ?_;refine Reg.ty 18 rfl ⟨E.o,((D.o).cl.blk.cell 14).trans (congrArg some F.o),(D.o).cl.blk.cell 15⟩ ?_;refine Reg.ty 19 rfl ⟨E.o,((D.o).cl.blk.cell 14).trans (congrArg some F.o),(D.o).cl.blk.cell 15⟩ ?_;refine wpAnyH_done (by kernel_rfl) ?_ _
 by_cases hr:r2=0
 case neg=>
  have ho:=aA.o hr;subst ho;have t2:decide (r2=0)=false:=decide_eq_false hr;have aX:(r2 != 0)=true:=by simp [hr]
  clear hr aA HI aa ad CD
  go_wp2_with (first
   |(go_at_call 67;refine Calls.mono (CO.o _ D.o.cl SA.o) ?_;rintro e w3 ⟨v2,m3,rfl,hs,hk⟩;clear CO SA;have S2:=I (IB hs);have X:=hk.blk E.o NR.o;replace NR:=I (hk.not NR.o E.o.lt);replace E:=I X;have X:=hk.blk M.o NZ.o;replace NZ:=I (hk.not NZ.o M.o.lt);replace M:=I X;replace Y:=I (Y.o.kn hk);replace D:=I (D.o.trans hk);clear hs hk X)
   |(refine Wh.BO (by rfl) 102 (.tmp 4) (.tmp 37) (by rfl) (w.heap.size+1) 102 zs M.o (crA DM none 0) (by rfl) (by first | exact Ca.DY▸rfl | rfl) (by rw[al.o,Ca.AG]) (by rw[Ca.AG];exact Ca.Bj) (Ca.Dv _ _ _) ?_;rintro V2 Z hg;have HV:=I Z;replace D:=I (D.o.over (Nat.le_succ _) NZ.o hg);clear Z hg)
   |fail)
  refine bodyPost_ret (v:=.tuple #[.agg (crA DM none 0),.bool false]) ?_ ?_ ?_
  ·exact AD 4 5 102 ⟨w.heap.size+1,0,none⟩ Tryz.results33 (by rfl) (Wh.Am HV.o Tryz.underlying102 (by rfl) (by rw[Ca.AG];exact Ca.Bj)) (by rfl)
  ·rfl
  ·exact KO D.o bv
 have aH:=aa.o hr;have aN:=ad.o hr;subst hr;clear aA aa ad;have aa:=I aH;have ad:=I aN;clear aH aN
 go_upto_region 7 with(first
  |(go_at_call 67;refine Calls.mono (CO.o _ D.o.cl SA.o) ?_;rintro e w3 ⟨v2,m3,rfl,hs,hk⟩;clear CO SA;have S2:=I (IB hs);have X:=hk.blk E.o NR.o;replace NR:=I (hk.not NR.o E.o.lt);replace E:=I X;have X:=hk.blk M.o NZ.o;replace NZ:=I (hk.not NZ.o M.o.lt);replace M:=I X;replace Y:=I (Y.o.kn hk);replace D:=I (D.o.trans hk);clear hs hk X)
  |(go_at_call 68;refine Ag (CD.o _ _ _ S2.o) ?_;rintro w4 hb;clear CD S2;replace E:=I (E.o.below hb);replace M:=I (M.o.below hb);replace D:=I (D.o.below hb);replace Y:=I (Y.o.below hb);clear hb)
  |(refine Wh.Bs (by rfl) 110 (.tmp 8) (.tmp 41) (by rfl) 110 rfl rs (by rfl) (by rfl) (by rw[aO.o];rfl) aS.o aR.o ?_;rintro V1 hV hb;have HV:=I hV;replace E:=I (E.o.below hb);replace M:=I (M.o.below hb);replace D:=I (D.o.below hb);replace Y:=I (Y.o.below hb);clear hV hb)
  |fail)
 obtain⟨v0,ao,ah,af,ak⟩:=aI.o _ _ HV.o;have r2:V1.cell? ⟨w.heap.size,2,none⟩=some (.string ⟨q.t.s.1.toArray⟩):=E.o.cell 2;have r3:V1.cell? ⟨w.heap.size,3,none⟩=some (.string ⟨q.t.s.2.toArray⟩):=E.o.cell 3;have aw:V1.cell? ⟨p.k,13,none⟩=some (.int .i64 s.ou.no):=D.o.cl.blk.cell 13;obtain⟨gv,aM⟩:=Ah (w4.heap.size);rw[<-aM] at HV v0 ao ah af ak⊢;clear aM;rcases HI.o with ag | ag
 ·have ho:=aa.o ag
  subst ho;subst ag;clear HI aa ad
  go_quiet (fail)
  have O:=below_drewN (Below.refl V1.heap.size V1) nq;replace E:=I (E.o.below O);replace M:=I (M.o.below O);replace D:=I (D.o.below O);replace Y:=I (Y.o.below O);replace HV:=I (HV.o.below O);clear O r2 r3 aw v0 ao ah af ak;generalize V1.drewN nq=V3 at E M D Y HV⊢
  go_wp2_with (first
   |(refine Wh.BO (by rfl) 102 (.tmp 4) (.tmp 64) (by rfl) (w.heap.size+1) 102 zs M.o (crA DM none 0) (by rfl) (by first | exact Ca.DY▸rfl | rfl) (by rw[al.o,Ca.AG]) (by rw[Ca.AG];exact Ca.Bj) (Ca.Dv _ _ _) ?_;rintro V2 Z hg;have ab:=I Z;replace D:=I (D.o.over (Nat.le_succ _) NZ.o hg);clear Z hg)
   |fail)
  refine bodyPost_ret (v:=.tuple #[.agg (crA DM none 0),.bool false]) ?_ ?_ ?_
  ·exact AD 4 5 102 ⟨w.heap.size+1,0,none⟩ Tryz.results33 (by rfl) (Wh.Am ab.o Tryz.underlying102 (by rfl) (by rw[Ca.AG];exact Ca.Bj)) (by rfl)
  ·rfl
  ·exact KO D.o bv
 have ho:=ad.o ag;subst ag;clear HI aa ad
 by_cases h4:G.no=s.ou.no
 case neg=>
  rw[if_neg (fun x=>h4 x.1)] at ho;subst ho;have t4:decide (G.no=s.ou.no)=false:=decide_eq_false h4;have aP:(G.no != s.ou.no)=true:=by simp [h4]
  clear h4
  go_quiet (fail)
  have O:=below_drewN (Below.refl V1.heap.size V1) nq;replace E:=I (E.o.below O);replace M:=I (M.o.below O);replace D:=I (D.o.below O);replace Y:=I (Y.o.below O);replace HV:=I (HV.o.below O);clear O r2 r3 aw v0 ao ah af ak;generalize V1.drewN nq=V3 at E M D Y HV⊢
  go_wp2_with (first
   |(refine Wh.BO (by rfl) 102 (.tmp 4) (.tmp 64) (by rfl) (w.heap.size+1) 102 zs M.o (crA DM none 0) (by rfl) (by first | exact Ca.DY▸rfl | rfl) (by rw[al.o,Ca.AG]) (by rw[Ca.AG];exact Ca.Bj) (Ca.Dv _ _ _) ?_;rintro V2 Z hg;have ab:=I Z;replace D:=I (D.o.over (Nat.le_succ _) NZ.o hg);clear Z hg)
   |fail)
  refine bodyPost_ret (v:=.tuple #[.agg (crA DM none 0),.bool false]) ?_ ?_ ?_
  ·exact AD 4 5 102 ⟨w.heap.size+1,0,none⟩ Tryz.results33 (by rfl) (Wh.Am ab.o Tryz.underlying102 (by rfl) (by rw[Ca.AG];exact Ca.Bj)) (by rfl)
  ·rfl
  ·exact KO D.o bv
 have t4:decide (G.no=s.ou.no)=true:=decide_eq_true h4;have aP:(G.no != s.ou.no)=false:=by simp [h4]
 by_cases h5:G.s=q.t.s
 case neg=>
  rw[if_neg (fun x=>h5 x.2)] at ho;subst ho;have t5:=Bt h5;clear h4 h5
  go_quiet (fail)
  have O:=below_drewN (Below.refl V1.heap.size V1) nq;replace E:=I (E.o.below O);replace M:=I (M.o.below O);replace D:=I (D.o.below O);replace Y:=I (Y.o.below O);replace HV:=I (HV.o.below O);clear O r2 r3 aw v0 ao ah af ak;generalize V1.drewN nq=V3 at E M D Y HV⊢
  go_wp2_with (first
   |(refine Wh.BO (by rfl) 102 (.tmp 4) (.tmp 64) (by rfl) (w.heap.size+1) 102 zs M.o (crA DM none 0) (by rfl) (by first | exact Ca.DY▸rfl | rfl) (by rw[al.o,Ca.AG]) (by rw[Ca.AG];exact Ca.Bj) (Ca.Dv _ _ _) ?_;rintro V2 Z hg;have ab:=I Z;replace D:=I (D.o.over (Nat.le_succ _) NZ.o hg);clear Z hg)
   |fail)
  refine bodyPost_ret (v:=.tuple #[.agg (crA DM none 0),.bool false]) ?_ ?_ ?_
  ·exact AD 4 5 102 ⟨w.heap.size+1,0,none⟩ Tryz.results33 (by rfl) (Wh.Am ab.o Tryz.underlying102 (by rfl) (by rw[Ca.AG];exact Ca.Bj)) (by rfl)
  ·rfl
  ·exact KO D.o bv
 rw[if_pos ⟨h4,h5⟩] at ho;subst ho;have t5:=Bh h5;clear h4 h5
 go_quiet (fail)
 have O:=below_drewN (Below.refl V1.heap.size V1) nq;replace E:=I (E.o.below O);replace M:=I (M.o.below O);replace D:=I (D.o.below O);replace Y:=I (Y.o.below O);replace HV:=I (HV.o.below O);clear O r2 r3 aw v0 ao ah af ak;generalize V1.drewN nq=V3 at E M D Y HV⊢;have r2:V3.cell? ⟨w.heap.size,2,none⟩=some (.string ⟨q.t.s.1.toArray⟩):=E.o.cell 2;have r3:V3.cell? ⟨w.heap.size,3,none⟩=some (.string ⟨q.t.s.2.toArray⟩):=E.o.cell 3;have r4:V3.cell? ⟨w.heap.size,4,none⟩=some (.int .i64 q.t.k):=E.o.cell 4;have r5:V3.cell? ⟨w.heap.size,5,none⟩=some bv:=E.o.cell 5;obtain⟨v0,_,_,af,_⟩:=aI.o _ _ HV.o;have aW:=I v0;clear v0
 go_wp2_with (first
  |(refine Wh.Az (by rfl) 31 (.tmp 67) (by rfl) gv 0 (by rfl) (AT (ksOf G.ss)) _ aW.o Tryz.underlying31 (by rfl) aV.o ?_)
  |(refine Mc.Au (by rfl) 102 #[(0,.tmp 66),(1,.tmp 68),(2,.tmp 70)] (by rfl) xs (by simp only[List.map_toArray,List.map_cons,List.map_nil];exact aQ.o) ?_)
  |(refine Wh.BO (by rfl) 102 (.tmp 4) (.tmp 71) (by rfl) (w.heap.size+1) 102 zs M.o xs (by rfl) (by rfl) (by rw[al.o,az.o]) ay.o aF.o ?_;rintro V2 Z hg;have ab:=I Z;replace D:=I (D.o.over (Nat.le_succ _) NZ.o hg);replace Y:=I (SlT.over Y.o hg);clear Z hg)
  |fail)
 refine bodyPost_ret (v:=.tuple #[.agg xs,.bool true]) ?_ ?_ ?_
 ·exact AD 4 5 102 ⟨w.heap.size+1,0,none⟩ Tryz.results33 (by rfl) (Wh.Am ab.o Tryz.underlying102 (by rfl) ay.o) (by rfl)
 ·rfl
 ·exact⟨xs,_,rfl,az.o,aF.o,ay.o,(fun x hx=>by rw[<-Option.some.inj hx];exact⟨aU.o,Y.o⟩),D.o⟩
theorem QY {q:Re} {bv M:Value} (h:Cl w B p m s c) (F:s.st=1/\s.ou.u≠0) (O:c<=800000) (E:SlN (AO p m) w bv q.t.b) (D:SlN (AO p m) w M q.b) :
  Calls Tryz.prog 33 #[pv p.k,.agg (reA q bv M)] w (OpeP w B p m s c bv (opeL p.P s q)):=by
 by_cases h1:q.c=p.P
 ·exact XO h F O E D h1
 ·unfold opeL;rw[if_neg h1];exact ope_1 h F O E D h1
end
end Cl
namespace Cl
open Go.RowKit Ad Se
open Nm (L krb tgL tgR Dn)
open Ms (Pr tmB pSm mSm mgO An Mg As Tg)
open Rg (prV Bh Bt)
section
variable {w w' w0:World} {B:Nat} {p:CP} {m m' m0:CM} {s:St} {c:Nat} {r:L}
theorem KP {q:Pr} (h:Cl w B p m s c) (hz:Sz p s c) (hc:c<=800000) (hq:pSm q) :
  Calls Tryz.prog 70 #[pv p.k,prV q] w fun e w'=>e=.returned (.tuple #[.string ⟨(refL p.P s q).1.toArray⟩,.int .i64 (refL p.P s q).2])/\Below w.heap.size w w':=by
 obtain⟨W,eW⟩:=Ah (w.alloc (.cells #[.string ⟨q.1.toArray⟩,.string ⟨q.2.toArray⟩] 36));have O:Below w.heap.size w W:=eW▸Af.alloc Ae _;have M:=I (show Blk W w.heap.size 36 #[.string ⟨q.1.toArray⟩,.string ⟨q.2.toArray⟩] from eW▸Blk.new w _ _);have F:=I (h.below O);have Z:=I O;have C1:=I (fun(X:World)=>Dn q.2 X hq.2);have C2:=I (fun(X:World) (h1:Cl X B p m s c)=>XK h1 hz.pp.2);obtain⟨A,cp,ab,_⟩:=h.vis.slice;have C3:=I (fun(X:World) (h1:Cl X B p m s c)=>(show Calls Tryz.prog 122 #[.slice A s.vs.length cp,.string ⟨(tgR q.2).toArray⟩] X fun e w'=>e=.returned (.bool (decide (tgR q.2∈s.vs)))/\X=w' by
  obtain⟨A2,c2,e2,hr⟩:=h1.vis.slice;rw[ab] at e2;injection e2 with e2 _ e4;subst e2 e4;exact Tr.JY s.vs A cp X.heap.size (tgR q.2) X (by have:=hz.vs.1;omega) hr))
 have aa:=I (fun(X:World) (h1:Cl X B p m s c)=>(show X.cell? ⟨p.k,12,none⟩=some (.slice A s.vs.length cp) by rw[<-ab];exact h1.blk.cell 12));have D:=I (fun(X:World) (h1:Cl X B p m s c)=>(show X.cell? ⟨p.k,15,none⟩=some (.int .i64 s.ou.u) from h1.blk.cell 15));have HL:=I (show s.vs.length<=1000000 by have:=hz.vs.1;omega);have E:=I (show refL p.P s q=(if tgL q.2=true then (if s.ou.u=3/\q≠own p.P then ([],9) else if tgR q.2∈s.vs then ([],14) else if 5<s.vs.length then ([],15) else (tgR q.2,0)) else ([],9)) from rfl);obtain⟨R,eR⟩:=Ah (refL p.P s q);rw[<-eR] at E⊢;obtain⟨n,en⟩:=Ah (s.vs.length);rw[<-en] at C3 aa HL E;obtain⟨o,eo⟩:=Ah (own p.P);rw[<-eo] at C2 E;obtain⟨t,et⟩:=Ah (tgR q.2);rw[<-et] at C1 C3 E;obtain⟨bt,ad⟩:=Ah (tgL q.2);rw[<-ad] at C1 E;obtain⟨u,eu⟩:=Ah (s.ou.u);rw[<-eu] at D E;clear h hz hc hq O ab eR en eo et ad eu;cases bt
 ·replace E:=I (show R=([],9) by rw[E.o];rfl)
  go_enter Tryz.func70,Tryz.ntmps70
  go_upto_region 1 with fail
  rw[<-eW];clear eW;have k1:W.cell? ⟨w.heap.size,1,none⟩=some (.string ⟨q.2.toArray⟩):=M.o.cell 1
  go_wp2_with (first
   |(go_at_call 57;refine Ag (C1.o _) ?_;rintro X O;clear C1 k1;replace Z:=Z.t O;clear O)
   |fail)
  go_ret2
  exact⟨by rw[E.o];rfl,Z.o⟩
 replace E:=I (show R=(if u=3/\q≠o then ([],9) else if t∈s.vs then ([],14) else if 5<n then ([],15) else (t,0)) by rw[E.o];rfl);go_enter Tryz.func70,Tryz.ntmps70
 go_upto_region 1 with fail
 rw[<-eW];clear eW;have k1:W.cell? ⟨w.heap.size,1,none⟩=some (.string ⟨q.2.toArray⟩):=M.o.cell 1
 go_upto_region 4 with(first
  |(go_at_call 57;refine Ag (C1.o _) ?_;rintro X O;clear C1 k1;replace M:=I (M.o.below O);replace F:=I (F.o.below O);replace Z:=Z.t O;clear O)
  |fail)
 go_cut [28] from 16 to 27 (fun ae wx=>ae=.bool (decide (u=3/\q≠o))/\Cl wx B p m s c/\Below w.heap.size w wx)
 case first=>
  by_cases h3:u=3
  ·subst h3
   have hd:Below X.heap.size X X.drew:=below_drewN Af 1;replace M:=I (M.o.below hd);replace F:=I (F.o.below hd);replace Z:=Z.t hd;clear hd
   by_cases ho:q=o
   ·have t1:=Bh ho
    have HO:=I ho;clear ho;refine Reg.AN (fun w'=>Blk w' w.heap.size 36 #[.string ⟨q.1.toArray⟩,.string ⟨q.2.toArray⟩]/\w'.cell? ⟨p.k,15,none⟩=some (.int .i64 3)) 13 rfl (by kernel_rfl) ⟨M.o,D.o _ (F.o)⟩ ?_;refine Reg.ty 0 rfl ⟨M.o,D.o _ (F.o)⟩ ?_;refine Reg.ty 1 rfl ⟨M.o,D.o _ (F.o)⟩ ?_;refine Reg.ty 2 rfl ⟨M.o,D.o _ (F.o)⟩ ?_;refine Reg.ty 3 rfl ⟨M.o,D.o _ (F.o)⟩ ?_;refine Reg.ty 4 rfl ⟨M.o,D.o _ (F.o)⟩ ?_;refine Reg.tw 5 rfl ⟨M.o,D.o _ (F.o)⟩ (fun w' hS=>by obtain⟨hQ,Y⟩:=hS;go_simp<;>rfl) ?_;refine Reg.tw 6 (v:=.bool true) rfl ⟨M.o,D.o _ (F.o)⟩ (fun w' hS=>by obtain⟨hQ,Y⟩:=hS;go_simp<;>rfl) ?_;refine Reg.ty 7 rfl ⟨M.o,D.o _ (F.o)⟩ ?_;refine Reg.tw 8 (v:=prV q) rfl ⟨M.o,D.o _ (F.o)⟩ (fun w' hS=>by obtain⟨hQ,Y⟩:=hS;have q0:=hQ.cell 0;have q1:=hQ.cell 1;go_simp<;>rfl) ?_;refine Reg.ty 9 rfl ⟨M.o,D.o _ (F.o)⟩ ?_;refine Reg.b1 10 ?_
    right
    refine⟨_,_,_,_,_,_,60,#[pv p.k],rfl,by rfl,(by go_simp<;>first | rfl | exact⟨rfl,rfl⟩),?_⟩;refine Ag (C2.o _ F.o) ?_;rintro af O;replace M:=I (M.o.below O);replace F:=I (F.o.below O);replace Z:=Z.t O;clear O;clear C2;refine⟨_,rfl,⟨M.o,D.o _ (F.o)⟩,?_⟩;simp only[Act.put,J,U,Aa];refine Reg.tw 11 (v:=.bool false) rfl ⟨M.o,D.o _ (F.o)⟩ (fun w' hS=>by obtain⟨hQ,Y⟩:=hS;go_simp<;>rfl) ?_;refine Reg.tw 12 (v:=.bool false) rfl ⟨M.o,D.o _ (F.o)⟩ (fun w' hS=>by obtain⟨hQ,Y⟩:=hS;go_simp<;>rfl) ?_;refine wpAnyH_done (by kernel_rfl) ?_ _
    go_wp2_with fail
    go_meet
    exact⟨congrArg Value.bool (Eq.symm (decide_eq_false (by first | exact fun x=>x.2 HO.o | exact⟨rfl,HO.o⟩ | exact⟨trivial,HO.o⟩))),F.o,Z.o⟩
   ·have t1:=Bt ho
    have HO:=I ho;clear ho;refine Reg.AN (fun w'=>Blk w' w.heap.size 36 #[.string ⟨q.1.toArray⟩,.string ⟨q.2.toArray⟩]/\w'.cell? ⟨p.k,15,none⟩=some (.int .i64 3)) 13 rfl (by kernel_rfl) ⟨M.o,D.o _ (F.o)⟩ ?_;refine Reg.ty 0 rfl ⟨M.o,D.o _ (F.o)⟩ ?_;refine Reg.ty 1 rfl ⟨M.o,D.o _ (F.o)⟩ ?_;refine Reg.ty 2 rfl ⟨M.o,D.o _ (F.o)⟩ ?_;refine Reg.ty 3 rfl ⟨M.o,D.o _ (F.o)⟩ ?_;refine Reg.ty 4 rfl ⟨M.o,D.o _ (F.o)⟩ ?_;refine Reg.tw 5 rfl ⟨M.o,D.o _ (F.o)⟩ (fun w' hS=>by obtain⟨hQ,Y⟩:=hS;go_simp<;>rfl) ?_;refine Reg.tw 6 (v:=.bool true) rfl ⟨M.o,D.o _ (F.o)⟩ (fun w' hS=>by obtain⟨hQ,Y⟩:=hS;go_simp<;>rfl) ?_;refine Reg.ty 7 rfl ⟨M.o,D.o _ (F.o)⟩ ?_;refine Reg.tw 8 (v:=prV q) rfl ⟨M.o,D.o _ (F.o)⟩ (fun w' hS=>by obtain⟨hQ,Y⟩:=hS;have q0:=hQ.cell 0;have q1:=hQ.cell 1;go_simp<;>rfl) ?_;refine Reg.ty 9 rfl ⟨M.o,D.o _ (F.o)⟩ ?_;refine Reg.b1 10 ?_
    right
    refine⟨_,_,_,_,_,_,60,#[pv p.k],rfl,by rfl,(by go_simp<;>first | rfl | exact⟨rfl,rfl⟩),?_⟩;refine Ag (C2.o _ F.o) ?_;rintro ag O;replace M:=I (M.o.below O);replace F:=I (F.o.below O);replace Z:=Z.t O;clear O;clear C2;refine⟨_,rfl,⟨M.o,D.o _ (F.o)⟩,?_⟩;simp only[Act.put,J,U,Aa];refine Reg.tw 11 (v:=.bool true) rfl ⟨M.o,D.o _ (F.o)⟩ (fun w' hS=>by obtain⟨hQ,Y⟩:=hS;go_simp<;>rfl) ?_;refine Reg.tw 12 (v:=.bool true) rfl ⟨M.o,D.o _ (F.o)⟩ (fun w' hS=>by obtain⟨hQ,Y⟩:=hS;go_simp<;>rfl) ?_;refine wpAnyH_done (by kernel_rfl) ?_ _
    go_wp2_with fail
    go_meet
    exact⟨congrArg Value.bool (Eq.symm (decide_eq_true (by first | exact fun x=>x.2 HO.o | exact⟨rfl,HO.o⟩ | exact⟨trivial,HO.o⟩))),F.o,Z.o⟩
  ·have t3:decide (u=3)=false:=decide_eq_false h3
   have Y:=D.o _ F.o
   go_quiet (fail)
   have hd:=below_drewN (Below.refl X.heap.size X) nq
   go_wp2_with fail
   go_meet
   exact⟨congrArg Value.bool (Eq.symm (decide_eq_false (fun x=>h3 x.1))),F.o.below hd,Z.o.trans (hd.mono Z.o.size)⟩
 case rest=>
  obtain⟨rfl,hk,O⟩:=hcut;replace F:=I hk;replace Z:=I O;clear hk O C2 M D;have ah:=aa.o _ F.o;have c3:=C3.o _ F.o;clear C3 aa
  by_cases h1:u=3/\q≠o
  ·rw[decide_eq_true h1]
   replace E:=I (show R=([],9) by rw[E.o,if_pos h1]);clear h1
   go_wp2_with fail
   go_ret2
   exact⟨by rw[E.o];rfl,Z.o⟩
  ·rw[decide_eq_false h1]
   replace E:=I (show R=(if t∈s.vs then ([],14) else if 5<n then ([],15) else (t,0)) by rw[E.o,if_neg h1]);clear h1
   by_cases h2:t∈s.vs
   ·rw[decide_eq_true h2] at c3
    replace E:=I (show R=([],14) by rw[E.o,if_pos h2]);clear h2
    go_wp2_with (first
     |(go_at_call 122;refine Ag c3 ?_;rintro w3 hw;subst hw;clear c3)
     |fail)
    go_ret2
    exact⟨by rw[E.o];rfl,Z.o⟩
   ·rw[decide_eq_false h2] at c3
    replace E:=I (show R=(if 5<n then ([],15) else (t,0)) by rw[E.o,if_neg h2]);clear h2
    by_cases h5:5<n
    ·have t5:decide ((5:Int)<(n:Int))=true:=decide_eq_true (by omega)
     replace E:=I (show R=([],15) by rw[E.o,if_pos h5]);clear h5
     go_wp2_with (first
      |(go_at_call 122;refine Ag c3 ?_;rintro w3 hw;subst hw;clear c3)
      |fail)
     go_ret2
     exact⟨by rw[E.o];rfl,Z.o⟩
    ·have t5:decide ((5:Int)<(n:Int))=false:=decide_eq_false (by omega)
     replace E:=I (show R=(t,0) by rw[E.o,if_neg h5]);clear h5
     go_wp2_with (first
      |(go_at_call 122;refine Ag c3 ?_;rintro w3 hw;subst hw;clear c3)
      |fail)
     go_ret2
     exact⟨by rw[E.o];rfl,Z.o⟩
end
end Cl
namespace Cl
open Go.RowKit Ad Se
open Nm (L krb tgL tgR)
open Ms (Pr tmB pSm mSm mgO An Mg As Tg Re Rp)
open Rg (prV Bh Bt)
open Ca (Cr It crA putL putE)
section
variable {w w' w0:World} {B:Nat} {p:CP} {m m' m0:CM} {s:St} {c:Nat} {r:L}
def StP (w:World) (B:Nat) (p:CP) (m:CM) (c:Nat) (r:St×(L×L)) (e:Ending) (w':World):Prop:=
 ∃v m',e=.returned (.tuple #[.string ⟨r.2.1.toArray⟩,v])/\SlN (Out w p m') w' v r.2.2/\Tu w w' B p m m' r.1 c
theorem LW {x:Cr} (h:Okx x):Ca.Fit x:=⟨Nat.le_trans h.1.1 (by decide),Nat.le_trans h.1.2 (by decide),Nat.le_trans h.2 (by decide)⟩
theorem Ty {x:Cr} {bv:Value} {now:Int} (h:Cl w B p m s c) (hz:Sz p s c) (E:Okx x) (X:SlN (AO p m) w bv x.b) :
  Calls Tryz.prog 69 #[pv p.r,prV x.s,.agg (crv x bv),.int .i64 now] w fun e w'=>e=.returned (.int .i64 ((putE s.l x.s now:Nat):Int))/\∃m',Tu w w' B p m m' (putS mC s x now) c:=by
 obtain⟨A,cp,rfl,aa,M⟩:=X;have Z:=congrArg List.length h.li;rw[Ca.DL] at Z;refine(Ca.put_b (l:=putL s.l x.s x now) (z:=putE s.l x.s now) x.s x A cp now h.ca M.rd (fun a D hn F=>?_) (LW E).1 (LW E).2.1 (LW E) (by have:=hz.l;omega) (by rw[h.li]) (by rw[h.li])).mono ?_
 ·rcases M with y | ⟨b,o,Y,_,hS,_⟩
  ·exact hn (by cases hb:x.b with
    |nil=>rfl
    |cons a l=>rw[hb] at y;simp [bvs] at y)
  ·rw[Y] at D
   injection D with D;subst D;exact hS ⟨2,F⟩
 ·rintro e w' ⟨rfl,v',es',h1,O,h3,h4⟩
  exact⟨rfl,_,h.cache h3 h1 O h4⟩
theorem QZ {x:Cr} {now:Int} (D:Sz p s c) (F:Okx x):Sz p (putS mC s x now) c:=by
 refine⟨D.nn,D.ss,D.qq,D.sn,D.vs,D.tg,Ca.RO _ _ _ _ D.l,fun i E=>?_,D.pp⟩;have E:i∈putL s.l x.s x now:=E;unfold putL at E
 split at E
 ·rcases List.mem_append.1 E with y | y
  ·exact D.x i ((List.mem_filter.1 y).1)
  ·rw[List.mem_singleton] at y
   subst y;exact F
 ·exact D.x i ((List.mem_filter.1 E).1)
theorem Tz {q:Pr} (h:pSm q):(refL p.P s q).1.length<=1000000:=by
 unfold refL
 split
 ·rename_i hb
  split
  ·exact Nat.zero_le _
  ·split
   ·exact Nat.zero_le _
   ·split
    ·exact Nat.zero_le _
    ·show(tgR q.2).length<=1000000
     have D:Nm.BD (Nm.cpL Nm.krb q.2)≠0:=by
      rw[Nm.tgL,Bool.and_eq_true] at hb;have:=hb.2;simp only[Nm.isL,decide_eq_true_eq] at this;omega
     have F:=Tr.Jm D;have E:Nm.cpL Nm.krb q.2=q.2.drop 7:=by rw[Nm.tgL,Bool.and_eq_true] at hb;rw[Nm.cpL,hb.1];rfl
     rw[Nm.tgR,hb,if_pos rfl,<-E];omega
 ·exact Nat.zero_le _
theorem Tu.more3 (h:Tu w0 w B p m0 m s c):Tu w0 w B p m0 m s (c+3):=h.more (by omega)
theorem Tu.more1 (h:Tu w0 w B p m0 m s (c+2)):Tu w0 w B p m0 m s (c+3):=h.more (by omega)
theorem go_1 {x:Cr} {bv:Value} {now:Int} (h:Cl w B p m s c) (hz:Sz p s c) (hc:c<=800000) (hx:Okx x) (ht:tmB now=true) (hv:SlN (AO p m) w bv x.b) (h1:putE s.l x.s now≠0) :
  Calls Tryz.prog 34 #[pv p.k,.agg (crv x bv),.int .i64 now] w (StP w B p m (c+3) (endS mC (putS mC s x now) 3 ((putE s.l x.s now:Nat):Int),([],[]))):=by
 have C1:=I (fun(w1:World) (h1:Cl w1 B p m s c) (hv:SlN (AO p m) w1 bv x.b)=>Ty (now:=now) h1 hz hx hv);have CE:=I (fun(w1:World) (m1:CM) (h1:Cl w1 B p m1 (putS mC s x now) c)=>Hq (st:=3) (er:=((putE s.l x.s now:Nat):Int)) h1 (by decide));obtain⟨z,ez⟩:∃z:Int,z=((putE s.l x.s now:Nat):Int):=⟨_,rfl⟩;have aa:z≠0:=by omega
 rw[<-ez] at C1 CE⊢;have t1:decide (z=0)=false:=decide_eq_false aa;have af:(z != 0)=true:=by simp [aa]
 obtain⟨cx,X⟩:=Ah (crv x bv);obtain⟨W,eW⟩:=Ah (w.alloc (.cells cx 102));have Z:Below w.heap.size w W:=eW▸Af.alloc Ae _;have E:=I (show Blk W w.heap.size 102 cx from eW▸Blk.new w _ _);have D:=I (Tu.start h Z);have NX:=I (h.fresh (Nat.le_refl w.heap.size));have SB:=I (hv.below Z);have ae:=I (show(Tryz.prog.info? 102).map (·.size)=some cx.size by rw[show cx.size=37 by rw[X];simp [AR]];exact Ca.Bj);have x0:W.cell? ⟨w.heap.size,0,none⟩=some (.string ⟨x.s.1.toArray⟩):=by have:=E.o.cell 0;rw[X] at this;exact this
 have x1:W.cell? ⟨w.heap.size,1,none⟩=some (.string ⟨x.s.2.toArray⟩):=by have:=E.o.cell 1;rw[X] at this;exact this
 rw[<-X] at C1⊢;clear h hz hc hx ht hv Z X h1 aa ez;go_enter Tryz.func34,Tryz.ntmps34
 go_upto_region 1 with fail
 rw[<-eW];clear eW
 go_upto_region 2 with fail
 obtain⟨W2,Y⟩:=Ah (W.alloc (.cells #[.string ⟨x.s.1.toArray⟩,.string ⟨x.s.2.toArray⟩] 36));have Z:Below W.heap.size W W2:=Y▸Af.alloc Ae _;have F:=I (show Blk W2 W.heap.size 36 #[.string ⟨x.s.1.toArray⟩,.string ⟨x.s.2.toArray⟩] from Y▸Blk.new W _ _);have NQ:=I (D.o.cl.fresh (Nat.le_refl W.heap.size));replace E:=I (E.o.below Z);replace D:=I (D.o.below Z);replace SB:=I (SB.o.below Z);rw[<-Y];clear Y Z x0 x1;obtain⟨gq,ab⟩:=Ah (W.heap.size);rw[<-ab] at F NQ⊢;clear ab;have O:Below W2.heap.size W2 W2.drew:=below_drewN Af 1;replace D:=I (D.o.below O);replace E:=I (E.o.below O);replace F:=I (F.o.below O);replace SB:=I (SB.o.below O);clear O;refine Reg.AN (fun w'=>Blk w' w.heap.size 102 cx/\Blk w' gq 36 #[.string ⟨x.s.1.toArray⟩,.string ⟨x.s.2.toArray⟩]/\w'.cell? ⟨p.k,3,none⟩=some (pv p.r)) 9 rfl (by kernel_rfl) ⟨E.o,F.o,(D.o).cl.blk.cell 3⟩ ?_;refine Reg.ty 0 rfl ⟨E.o,F.o,(D.o).cl.blk.cell 3⟩ ?_;refine Reg.ty 1 rfl ⟨E.o,F.o,(D.o).cl.blk.cell 3⟩ ?_;refine Reg.ty 2 rfl ⟨E.o,F.o,(D.o).cl.blk.cell 3⟩ ?_;refine Reg.tw 3 rfl ⟨E.o,F.o,(D.o).cl.blk.cell 3⟩ (fun w' hS=>by obtain⟨hX,hQ,k3⟩:=hS;go_simp<;>rfl) ?_;refine Reg.tw 4 rfl ⟨E.o,F.o,(D.o).cl.blk.cell 3⟩ (fun w' hS=>by obtain⟨hX,hQ,k3⟩:=hS;have q0:=hQ.cell 0;have q1:=hQ.cell 1;go_simp<;>rfl) ?_;refine Reg.tw 5 (v:=.agg cx) rfl ⟨E.o,F.o,(D.o).cl.blk.cell 3⟩ (fun w' hS=>by obtain⟨hX,hQ,k3⟩:=hS;exact IA (.tmp 4) rfl rfl (Wh.Ab hX) Tryz.underlying102 (by rfl) ae.o) ?_;refine Reg.ty 6 rfl ⟨E.o,F.o,(D.o).cl.blk.cell 3⟩ ?_;refine Reg.b1 7 ?_
 right
 refine⟨_,_,_,_,_,_,69,#[pv p.r,prV x.s,.agg cx,.int .i64 now],rfl,by rfl,(by go_simp<;>first | rfl | exact⟨rfl,rfl⟩),?_⟩;refine Ag (C1.o _ D.o.cl SB.o) ?_;rintro ad ⟨m3,hk⟩;have M:=hk.blk E.o NX.o;replace NX:=I (hk.not NX.o E.o.lt);replace E:=I M;clear M;have M:=hk.blk F.o NQ.o;replace NQ:=I (hk.not NQ.o F.o.lt);replace F:=I M;clear M;replace SB:=I (hk.sl SB.o);replace D:=I (D.o.trans hk);have PX:=I D.o.size;clear hk;clear C1;refine⟨_,rfl,⟨E.o,F.o,(D.o).cl.blk.cell 3⟩,?_⟩;simp only[Act.put,J,U,Aa];refine Reg.ty 8 rfl ⟨E.o,F.o,(D.o).cl.blk.cell 3⟩ ?_;refine wpAnyH_done (by kernel_rfl) ?_ _;obtain⟨V,eV⟩:=Ah (ad);rw[<-eV] at E F D SB⊢;clear eV
 go_wp2_with (first
  |(go_at_call 32;refine Ag (CE.o _ _ D.o.cl) ?_;rintro we ⟨me,hk⟩;clear CE;replace D:=I (D.o.trans hk);clear hk)
  |fail)
 go_ret2
 exact⟨.slice none 0 0,_,rfl,SlN.nil _ _,D.o.more3⟩
theorem go_2 {x:Cr} {bv:Value} {now:Int} (h:Cl w B p m s c) (hz:Sz p s c) (hc:c<=800000) (hx:Okx x) (ht:tmB now=true) (hv:SlN (AO p m) w bv x.b) (h1:putE s.l x.s now=0) (h2:x.s=s.tg) :
  Calls Tryz.prog 34 #[pv p.k,.agg (crv x bv),.int .i64 now] w (StP w B p m (c+3) (endS mC (putS mC s x now) 2 0,([],[]))):=by
 have C1:=I (fun(w1:World) (h1:Cl w1 B p m s c) (hv:SlN (AO p m) w1 bv x.b)=>Ty (now:=now) h1 hz hx hv);have CE:=I (fun(w1:World) (m1:CM) (h1:Cl w1 B p m1 (putS mC s x now) c)=>Hq (st:=2) (er:=0) h1 (by decide));rw[h1] at C1;have t2:=Bh h2;obtain⟨cx,Y⟩:=Ah (crv x bv);obtain⟨W,eW⟩:=Ah (w.alloc (.cells cx 102));have hb:Below w.heap.size w W:=eW▸Af.alloc Ae _;have E:=I (show Blk W w.heap.size 102 cx from eW▸Blk.new w _ _);have D:=I (Tu.start h hb);have NX:=I (h.fresh (Nat.le_refl w.heap.size));have M:=I (hv.below hb);have af:=I (show(Tryz.prog.info? 102).map (·.size)=some cx.size by rw[show cx.size=37 by rw[Y];simp [AR]];exact Ca.Bj);have x0:W.cell? ⟨w.heap.size,0,none⟩=some (.string ⟨x.s.1.toArray⟩):=by have:=E.o.cell 0;rw[Y] at this;exact this
 have x1:W.cell? ⟨w.heap.size,1,none⟩=some (.string ⟨x.s.2.toArray⟩):=by have:=E.o.cell 1;rw[Y] at this;exact this
 rw[<-Y] at C1⊢;clear h hz hc hx ht hv hb Y h1 h2;go_enter Tryz.func34,Tryz.ntmps34
 go_upto_region 1 with fail
 rw[<-eW];clear eW
 go_upto_region 2 with fail
 obtain⟨W2,Z⟩:=Ah (W.alloc (.cells #[.string ⟨x.s.1.toArray⟩,.string ⟨x.s.2.toArray⟩] 36));have hb:Below W.heap.size W W2:=Z▸Af.alloc Ae _;have F:=I (show Blk W2 W.heap.size 36 #[.string ⟨x.s.1.toArray⟩,.string ⟨x.s.2.toArray⟩] from Z▸Blk.new W _ _);have NQ:=I (D.o.cl.fresh (Nat.le_refl W.heap.size));replace E:=I (E.o.below hb);replace D:=I (D.o.below hb);replace M:=I (M.o.below hb);rw[<-Z];clear Z hb x0 x1;obtain⟨gq,ab⟩:=Ah (W.heap.size);rw[<-ab] at F NQ⊢;clear ab;have X:Below W2.heap.size W2 W2.drew:=below_drewN Af 1;replace D:=I (D.o.below X);replace E:=I (E.o.below X);replace F:=I (F.o.below X);replace M:=I (M.o.below X);clear X;refine Reg.AN (fun w'=>Blk w' w.heap.size 102 cx/\Blk w' gq 36 #[.string ⟨x.s.1.toArray⟩,.string ⟨x.s.2.toArray⟩]/\w'.cell? ⟨p.k,3,none⟩=some (pv p.r)) 9 rfl (by kernel_rfl) ⟨E.o,F.o,(D.o).cl.blk.cell 3⟩ ?_;refine Reg.ty 0 rfl ⟨E.o,F.o,(D.o).cl.blk.cell 3⟩ ?_;refine Reg.ty 1 rfl ⟨E.o,F.o,(D.o).cl.blk.cell 3⟩ ?_;refine Reg.ty 2 rfl ⟨E.o,F.o,(D.o).cl.blk.cell 3⟩ ?_;refine Reg.tw 3 rfl ⟨E.o,F.o,(D.o).cl.blk.cell 3⟩ (fun w' hS=>by obtain⟨hX,hQ,k3⟩:=hS;go_simp<;>rfl) ?_;refine Reg.tw 4 rfl ⟨E.o,F.o,(D.o).cl.blk.cell 3⟩ (fun w' hS=>by obtain⟨hX,hQ,k3⟩:=hS;have q0:=hQ.cell 0;have q1:=hQ.cell 1;go_simp<;>rfl) ?_;refine Reg.tw 5 (v:=.agg cx) rfl ⟨E.o,F.o,(D.o).cl.blk.cell 3⟩ (fun w' hS=>by obtain⟨hX,hQ,k3⟩:=hS;exact IA (.tmp 4) rfl rfl (Wh.Ab hX) Tryz.underlying102 (by rfl) af.o) ?_;refine Reg.ty 6 rfl ⟨E.o,F.o,(D.o).cl.blk.cell 3⟩ ?_;refine Reg.b1 7 ?_
 right
 refine⟨_,_,_,_,_,_,69,#[pv p.r,prV x.s,.agg cx,.int .i64 now],rfl,by rfl,(by go_simp<;>first | rfl | exact⟨rfl,rfl⟩),?_⟩;refine Ag (C1.o _ D.o.cl M.o) ?_;rintro aa ⟨m3,hk⟩;have O:=hk.blk E.o NX.o;replace NX:=I (hk.not NX.o E.o.lt);replace E:=I O;clear O;have O:=hk.blk F.o NQ.o;replace NQ:=I (hk.not NQ.o F.o.lt);replace F:=I O;clear O;replace M:=I (hk.sl M.o);replace D:=I (D.o.trans hk);have PX:=I D.o.size;clear hk;clear C1;refine⟨_,rfl,⟨E.o,F.o,(D.o).cl.blk.cell 3⟩,?_⟩;simp only[Act.put,J,U,Aa];refine Reg.ty 8 rfl ⟨E.o,F.o,(D.o).cl.blk.cell 3⟩ ?_;refine wpAnyH_done (by kernel_rfl) ?_ _;obtain⟨V,eV⟩:=Ah (aa);rw[<-eV] at E F D M⊢;clear eV;have q0:V.cell? ⟨gq,0,none⟩=some (.string ⟨x.s.1.toArray⟩):=F.o.cell 0;have q1:V.cell? ⟨gq,1,none⟩=some (.string ⟨x.s.2.toArray⟩):=F.o.cell 1;have ae:V.cell? ⟨p.k,10,none⟩=some (.string ⟨s.tg.1.toArray⟩):=D.o.cl.blk.cell 10;have ad:V.cell? ⟨p.k,11,none⟩=some (.string ⟨s.tg.2.toArray⟩):=D.o.cl.blk.cell 11
 go_upto_region 6 with fail
 go_quiet (fail)
 have hd:=below_drewN (Below.refl V.heap.size V) nq;replace E:=I (E.o.below hd);replace F:=I (F.o.below hd);replace D:=I (D.o.below hd);replace M:=I (M.o.below hd);clear hd q0 q1 ae ad;generalize V.drewN nq=V3 at E F D M⊢
 go_wp2_with (first
  |(go_at_call 32;refine Ag (CE.o _ _ D.o.cl) ?_;rintro we ⟨me,hk⟩;clear CE;replace D:=I (D.o.trans hk);clear hk)
  |fail)
 go_ret2
 exact⟨.slice none 0 0,_,rfl,SlN.nil _ _,D.o.more3⟩
theorem go_3 {x:Cr} {bv:Value} {now:Int} (h:Cl w B p m s c) (hz:Sz p s c) (hc:c<=800000) (hx:Okx x) (ht:tmB now=true) (hv:SlN (AO p m) w bv x.b) (h1:putE s.l x.s now=0) (h2:x.s≠s.tg) (h3:(refL p.P s x.s).2≠0) :
  Calls Tryz.prog 34 #[pv p.k,.agg (crv x bv),.int .i64 now] w (StP w B p m (c+3) (endS mC (putS mC s x now) 3 (refL p.P s x.s).2,([],[]))):=by
 have C1:=I (fun(w1:World) (h1:Cl w1 B p m s c) (hv:SlN (AO p m) w1 bv x.b)=>Ty (now:=now) h1 hz hx hv);have CE:=I (fun(w1:World) (m1:CM) (h1:Cl w1 B p m1 (putS mC s x now) c)=>Hq (st:=3) (er:=(refL p.P s x.s).2) h1 (by decide));rw[h1] at C1;have CR:=I (fun(w1:World) (m1:CM) (h1:Cl w1 B p m1 (putS mC s x now) c)=>KP (q:=x.s) h1 (QZ hz hx) hc hx.1);have ER:=I (show refL p.P (putS mC s x now) x.s=refL p.P s x.s from rfl);rw[ER.o] at CR;have t2:=Bt h2;obtain⟨z,ez⟩:=Ah ((refL p.P s x.s).2);rw[<-ez] at h3 CR CE⊢;have t3:decide (z=0)=false:=decide_eq_false h3;have ah:(z != 0)=true:=by simp [h3]
 obtain⟨cx,Z⟩:=Ah (crv x bv);obtain⟨W,eW⟩:=Ah (w.alloc (.cells cx 102));have M:Below w.heap.size w W:=eW▸Af.alloc Ae _;have E:=I (show Blk W w.heap.size 102 cx from eW▸Blk.new w _ _);have D:=I (Tu.start h M);have NX:=I (h.fresh (Nat.le_refl w.heap.size));have O:=I (hv.below M);have ag:=I (show(Tryz.prog.info? 102).map (·.size)=some cx.size by rw[show cx.size=37 by rw[Z];simp [AR]];exact Ca.Bj);have x0:W.cell? ⟨w.heap.size,0,none⟩=some (.string ⟨x.s.1.toArray⟩):=by have:=E.o.cell 0;rw[Z] at this;exact this
 have x1:W.cell? ⟨w.heap.size,1,none⟩=some (.string ⟨x.s.2.toArray⟩):=by have:=E.o.cell 1;rw[Z] at this;exact this
 rw[<-Z] at C1⊢;clear h hz hc hx ht hv M Z h1 h2 h3 ez;go_enter Tryz.func34,Tryz.ntmps34
 go_upto_region 1 with fail
 rw[<-eW];clear eW
 go_upto_region 2 with fail
 obtain⟨W2,aa⟩:=Ah (W.alloc (.cells #[.string ⟨x.s.1.toArray⟩,.string ⟨x.s.2.toArray⟩] 36));have M:Below W.heap.size W W2:=aa▸Af.alloc Ae _;have F:=I (show Blk W2 W.heap.size 36 #[.string ⟨x.s.1.toArray⟩,.string ⟨x.s.2.toArray⟩] from aa▸Blk.new W _ _);have NQ:=I (D.o.cl.fresh (Nat.le_refl W.heap.size));replace E:=I (E.o.below M);replace D:=I (D.o.below M);replace O:=I (O.o.below M);rw[<-aa];clear aa M x0 x1;obtain⟨gq,ad⟩:=Ah (W.heap.size);rw[<-ad] at F NQ⊢;clear ad;have Y:Below W2.heap.size W2 W2.drew:=below_drewN Af 1;replace D:=I (D.o.below Y);replace E:=I (E.o.below Y);replace F:=I (F.o.below Y);replace O:=I (O.o.below Y);clear Y;refine Reg.AN (fun w'=>Blk w' w.heap.size 102 cx/\Blk w' gq 36 #[.string ⟨x.s.1.toArray⟩,.string ⟨x.s.2.toArray⟩]/\w'.cell? ⟨p.k,3,none⟩=some (pv p.r)) 9 rfl (by kernel_rfl) ⟨E.o,F.o,(D.o).cl.blk.cell 3⟩ ?_;refine Reg.ty 0 rfl ⟨E.o,F.o,(D.o).cl.blk.cell 3⟩ ?_;refine Reg.ty 1 rfl ⟨E.o,F.o,(D.o).cl.blk.cell 3⟩ ?_;refine Reg.ty 2 rfl ⟨E.o,F.o,(D.o).cl.blk.cell 3⟩ ?_;refine Reg.tw 3 rfl ⟨E.o,F.o,(D.o).cl.blk.cell 3⟩ (fun w' hS=>by obtain⟨hX,hQ,k3⟩:=hS;go_simp<;>rfl) ?_;refine Reg.tw 4 rfl ⟨E.o,F.o,(D.o).cl.blk.cell 3⟩ (fun w' hS=>by obtain⟨hX,hQ,k3⟩:=hS;have q0:=hQ.cell 0;have q1:=hQ.cell 1;go_simp<;>rfl) ?_;refine Reg.tw 5 (v:=.agg cx) rfl ⟨E.o,F.o,(D.o).cl.blk.cell 3⟩ (fun w' hS=>by obtain⟨hX,hQ,k3⟩:=hS;exact IA (.tmp 4) rfl rfl (Wh.Ab hX) Tryz.underlying102 (by rfl) ag.o) ?_;refine Reg.ty 6 rfl ⟨E.o,F.o,(D.o).cl.blk.cell 3⟩ ?_;refine Reg.b1 7 ?_
 right
 refine⟨_,_,_,_,_,_,69,#[pv p.r,prV x.s,.agg cx,.int .i64 now],rfl,by rfl,(by go_simp<;>first | rfl | exact⟨rfl,rfl⟩),?_⟩;refine Ag (C1.o _ D.o.cl O.o) ?_;rintro ab ⟨m3,hk⟩;have X:=hk.blk E.o NX.o;replace NX:=I (hk.not NX.o E.o.lt);replace E:=I X;clear X;have X:=hk.blk F.o NQ.o;replace NQ:=I (hk.not NQ.o F.o.lt);replace F:=I X;clear X;replace O:=I (hk.sl O.o);replace D:=I (D.o.trans hk);have PX:=I D.o.size;clear hk;clear C1;refine⟨_,rfl,⟨E.o,F.o,(D.o).cl.blk.cell 3⟩,?_⟩;simp only[Act.put,J,U,Aa];refine Reg.ty 8 rfl ⟨E.o,F.o,(D.o).cl.blk.cell 3⟩ ?_;refine wpAnyH_done (by kernel_rfl) ?_ _;obtain⟨V,eV⟩:=Ah (ab);rw[<-eV] at E F D O⊢;clear eV;have q0:V.cell? ⟨gq,0,none⟩=some (.string ⟨x.s.1.toArray⟩):=F.o.cell 0;have q1:V.cell? ⟨gq,1,none⟩=some (.string ⟨x.s.2.toArray⟩):=F.o.cell 1;have af:V.cell? ⟨p.k,10,none⟩=some (.string ⟨s.tg.1.toArray⟩):=D.o.cl.blk.cell 10;have ae:V.cell? ⟨p.k,11,none⟩=some (.string ⟨s.tg.2.toArray⟩):=D.o.cl.blk.cell 11
 go_upto_region 6 with fail
 go_quiet (fail)
 have hd:=below_drewN (Below.refl V.heap.size V) nq;replace E:=I (E.o.below hd);replace F:=I (F.o.below hd);replace D:=I (D.o.below hd);replace O:=I (O.o.below hd);clear hd q0 q1 af ae;generalize V.drewN nq=V3 at E F D O⊢;have q0:V3.cell? ⟨gq,0,none⟩=some (.string ⟨x.s.1.toArray⟩):=F.o.cell 0;have q1:V3.cell? ⟨gq,1,none⟩=some (.string ⟨x.s.2.toArray⟩):=F.o.cell 1
 go_wp2_with (first
  |(go_at_call 70;refine Ag (CR.o _ _ D.o.cl) ?_;rintro wr M;clear CR q0 q1;replace E:=I (E.o.below M);replace D:=I (D.o.below M);replace O:=I (O.o.below M);clear M)
  |(go_at_call 32;refine Ag (CE.o _ _ D.o.cl) ?_;rintro we ⟨me,hk⟩;clear CE;replace D:=I (D.o.trans hk);clear hk)
  |fail)
 go_ret2
 exact⟨.slice none 0 0,_,rfl,SlN.nil _ _,D.o.more3⟩
theorem go_4 {x:Cr} {bv:Value} {now:Int} (h:Cl w B p m s c) (hz:Sz p s c) (hc:c<=800000) (hx:Okx x) (ht:tmB now=true) (hv:SlN (AO p m) w bv x.b) (h1:putE s.l x.s now=0) (h2:x.s≠s.tg) (h3:(refL p.P s x.s).2=0) :
  Calls Tryz.prog 34 #[pv p.k,.agg (crv x bv),.int .i64 now] w (StP w B p m (c+3) (furL p.P (putS mC s x now) (refL p.P s x.s).1 x now)):=by
 have C1:=I (fun(w1:World) (h1:Cl w1 B p m s c) (hv:SlN (AO p m) w1 bv x.b)=>Ty (now:=now) h1 hz hx hv);rw[h1] at C1;have CR:=I (fun(w1:World) (m1:CM) (h1:Cl w1 B p m1 (putS mC s x now) c)=>KP (q:=x.s) h1 (QZ hz hx) hc hx.1);have ER:=I (show refL p.P (putS mC s x now) x.s=refL p.P s x.s from rfl);rw[ER.o] at CR;have t2:=Bt h2;have ag:(refL p.P s x.s).1.length<=1000000:=Tz hx.1;have CF:=I (fun(w1:World) (m1:CM) (h1:Cl w1 B p m1 (putS mC s x now) c) (hv:SlN (AO p m1) w1 bv x.b)=>Tw (r:=(refL p.P s x.s).1) (x:=x) (bv:=bv) (now:=now) h1 hc (QZ hz hx) ag hx ht hv);rw[h3] at CR;have EF:=I (show furL p.P (putS mC s x now) (refL p.P s x.s).1 x now=(furS (putS mC s x now) (refL p.P s x.s).1 x,((refL p.P s x.s).1,(furL p.P (putS mC s x now) (refL p.P s x.s).1 x now).2.2)) from rfl);obtain⟨fb,ae⟩:=Ah ((furL p.P (putS mC s x now) (refL p.P s x.s).1 x now).2.2);rw[EF.o];rw[<-ae] at CF⊢;clear EF;obtain⟨rr,err⟩:=Ah ((refL p.P s x.s).1);rw[<-err] at CR CF⊢;obtain⟨cx,Z⟩:=Ah (crv x bv);obtain⟨W,eW⟩:=Ah (w.alloc (.cells cx 102));have O:Below w.heap.size w W:=eW▸Af.alloc Ae _;have E:=I (show Blk W w.heap.size 102 cx from eW▸Blk.new w _ _);have D:=I (Tu.start h O);have NX:=I (h.fresh (Nat.le_refl w.heap.size));have M:=I (hv.below O);have af:=I (show(Tryz.prog.info? 102).map (·.size)=some cx.size by rw[show cx.size=37 by rw[Z];simp [AR]];exact Ca.Bj);have x0:W.cell? ⟨w.heap.size,0,none⟩=some (.string ⟨x.s.1.toArray⟩):=by have:=E.o.cell 0;rw[Z] at this;exact this
 have x1:W.cell? ⟨w.heap.size,1,none⟩=some (.string ⟨x.s.2.toArray⟩):=by have:=E.o.cell 1;rw[Z] at this;exact this
 rw[<-Z] at C1 CF⊢;clear h hz hc hx ht hv O Z h1 h2 h3 ag ae err;go_enter Tryz.func34,Tryz.ntmps34
 go_upto_region 1 with fail
 rw[<-eW];clear eW
 go_upto_region 2 with fail
 obtain⟨W2,aa⟩:=Ah (W.alloc (.cells #[.string ⟨x.s.1.toArray⟩,.string ⟨x.s.2.toArray⟩] 36));have O:Below W.heap.size W W2:=aa▸Af.alloc Ae _;have F:=I (show Blk W2 W.heap.size 36 #[.string ⟨x.s.1.toArray⟩,.string ⟨x.s.2.toArray⟩] from aa▸Blk.new W _ _);have NQ:=I (D.o.cl.fresh (Nat.le_refl W.heap.size));replace E:=I (E.o.below O);replace D:=I (D.o.below O);replace M:=I (M.o.below O);rw[<-aa];clear aa O x0 x1;obtain⟨gq,ad⟩:=Ah (W.heap.size);rw[<-ad] at F NQ⊢;clear ad;have Y:Below W2.heap.size W2 W2.drew:=below_drewN Af 1;replace D:=I (D.o.below Y);replace E:=I (E.o.below Y);replace F:=I (F.o.below Y);replace M:=I (M.o.below Y);clear Y;refine Reg.AN (fun w'=>Blk w' w.heap.size 102 cx/\Blk w' gq 36 #[.string ⟨x.s.1.toArray⟩,.string ⟨x.s.2.toArray⟩]/\w'.cell? ⟨p.k,3,none⟩=some (pv p.r)) 9 rfl (by kernel_rfl) ⟨E.o,F.o,(D.o).cl.blk.cell 3⟩ ?_;refine Reg.ty 0 rfl ⟨E.o,F.o,(D.o).cl.blk.cell 3⟩ ?_;refine Reg.ty 1 rfl ⟨E.o,F.o,(D.o).cl.blk.cell 3⟩ ?_;refine Reg.ty 2 rfl ⟨E.o,F.o,(D.o).cl.blk.cell 3⟩ ?_;refine Reg.tw 3 rfl ⟨E.o,F.o,(D.o).cl.blk.cell 3⟩ (fun w' hS=>by obtain⟨hX,hQ,k3⟩:=hS;go_simp<;>rfl) ?_;refine Reg.tw 4 rfl ⟨E.o,F.o,(D.o).cl.blk.cell 3⟩ (fun w' hS=>by obtain⟨hX,hQ,k3⟩:=hS;have q0:=hQ.cell 0;have q1:=hQ.cell 1;go_simp<;>rfl) ?_;refine Reg.tw 5 (v:=.agg cx) rfl ⟨E.o,F.o,(D.o).cl.blk.cell 3⟩ (fun w' hS=>by obtain⟨hX,hQ,k3⟩:=hS;exact IA (.tmp 4) rfl rfl (Wh.Ab hX) Tryz.underlying102 (by rfl) af.o) ?_;refine Reg.ty 6 rfl ⟨E.o,F.o,(D.o).cl.blk.cell 3⟩ ?_;refine Reg.b1 7 ?_
 right
 refine⟨_,_,_,_,_,_,69,#[pv p.r,prV x.s,.agg cx,.int .i64 now],rfl,by rfl,(by go_simp<;>first | rfl | exact⟨rfl,rfl⟩),?_⟩;refine Ag (C1.o _ D.o.cl M.o) ?_;rintro ab ⟨m3,hk⟩;have X:=hk.blk E.o NX.o;replace NX:=I (hk.not NX.o E.o.lt);replace E:=I X;clear X;have X:=hk.blk F.o NQ.o;replace NQ:=I (hk.not NQ.o F.o.lt);replace F:=I X;clear X;replace M:=I (hk.sl M.o);replace D:=I (D.o.trans hk);have PX:=I D.o.size;clear hk;clear C1;refine⟨_,rfl,⟨E.o,F.o,(D.o).cl.blk.cell 3⟩,?_⟩;simp only[Act.put,J,U,Aa];refine Reg.ty 8 rfl ⟨E.o,F.o,(D.o).cl.blk.cell 3⟩ ?_;refine wpAnyH_done (by kernel_rfl) ?_ _;obtain⟨V,eV⟩:=Ah (ab);rw[<-eV] at E F D M⊢;clear eV;have q0:V.cell? ⟨gq,0,none⟩=some (.string ⟨x.s.1.toArray⟩):=F.o.cell 0;have q1:V.cell? ⟨gq,1,none⟩=some (.string ⟨x.s.2.toArray⟩):=F.o.cell 1;have ai:V.cell? ⟨p.k,10,none⟩=some (.string ⟨s.tg.1.toArray⟩):=D.o.cl.blk.cell 10;have ah:V.cell? ⟨p.k,11,none⟩=some (.string ⟨s.tg.2.toArray⟩):=D.o.cl.blk.cell 11
 go_upto_region 6 with fail
 go_quiet (fail)
 have hd:=below_drewN (Below.refl V.heap.size V) nq;replace E:=I (E.o.below hd);replace F:=I (F.o.below hd);replace D:=I (D.o.below hd);replace M:=I (M.o.below hd);clear hd q0 q1 ai ah;generalize V.drewN nq=V3 at E F D M⊢;have q0:V3.cell? ⟨gq,0,none⟩=some (.string ⟨x.s.1.toArray⟩):=F.o.cell 0;have q1:V3.cell? ⟨gq,1,none⟩=some (.string ⟨x.s.2.toArray⟩):=F.o.cell 1
 go_wp2_with (first
  |(go_at_call 70;refine Ag (CR.o _ _ D.o.cl) ?_;rintro wr O;clear CR q0 q1;replace E:=I (E.o.below O);replace D:=I (D.o.below O);replace M:=I (M.o.below O);clear O)
  |(refine Wh.Az (by rfl) 102 (.tmp 4) (by rfl) w.heap.size 0 (by rfl) cx _ (Wh.Ab E.o) Tryz.underlying102 (by rfl) af.o ?_)
  |(go_at_call 61;refine Calls.mono (CF.o _ _ D.o.cl M.o) ?_;rintro e w6 ⟨v,m6,rfl,hs,hk⟩;clear CF;have HV:=I (Out.old D.o.size hs);replace D:=I (D.o.trans hk);clear hs hk)
  |fail)
 go_ret2
 exact⟨v,m6,rfl,HV.o,D.o.more1⟩
theorem XP {x:Cr} {bv:Value} {now:Int} (h:Cl w B p m s c) (O:Sz p s c) (F:c<=800000) (M:Okx x) (E:tmB now=true) (D:SlN (AO p m) w bv x.b) :
  Calls Tryz.prog 34 #[pv p.k,.agg (crv x bv),.int .i64 now] w (StP w B p m (c+3) (goL mC p.P s x now)):=by
 unfold goL
 by_cases h1:putE s.l x.s now=0
 ·rw[if_pos (show mC.err s.l x.s now=0 from h1)]
  by_cases h2:x.s=s.tg
  ·rw[if_pos h2];exact go_2 h O F M E D h1 h2
  ·rw[if_neg h2]
   by_cases h3:(refL p.P s x.s).2=0
   ·rw[if_pos h3];exact go_4 h O F M E D h1 h2 h3
   ·rw[if_neg h3];exact go_3 h O F M E D h1 h2 h3
 ·rw[if_neg (show ¬mC.err s.l x.s now=0 from h1)];exact go_1 h O F M E D h1
end
end Cl
end Go.Proofs.YtcpccikongbopaaGreat
