import Derived.Test.YtlccngianpfalaaGreatZClientRequests20
set_option maxHeartbeats 25600000
set_option maxRecDepth 100000
set_option linter.unusedVariables false
set_option linter.unusedSimpArgs false
namespace Go.Proofs.YtlccngianpfalaaGreat
namespace Cl
open Go.RowKit Ae Se
open Nm (L krb)
open Ms (Pr tmB pSm mSm mgO An Mg As Tg)
open Rg (prV)
open Ca (Cr It crA getX getO)
section
variable {w w' w0:World} {B:Nat} {p:CP} {m m' m0:CM} {s:St} {c:Nat} {r:L}
theorem WI (M:Sz p s c):Ca.Fits s.l:=fun i O=>by
 have h:=M.x i O;exact⟨Nat.le_trans h.1.1 (by decide),Nat.le_trans h.1.2 (by decide),Nat.le_trans h.2 (by decide)⟩
theorem get_c (h:Cl w B p m s c) (X:Sz p s c) (q:Pr) (t:Int) {o:Option It} (ho:getO s.l q t=o):Calls Tryz.prog 49 #[pv p.r,prV q,.int .i64 t] w fun e w'=>∃A M,e=.returned (.tuple #[.agg (crA (getX o) A M),.bool o.isSome])/\SlN (fun j=>j<w.heap.size) w' (.slice A (getX o).b.length M) (getX o).b/\Below w.heap.size w w':=by
 refine(Ca.Wj B p.r m.v m.es q t w h.ca (by rw[h.li];exact WI X) (by have:=congrArg List.length h.li;rw[Ca.Eg] at this;have:=X.l;omega)).mono ?_;rintro e w' ⟨A,M,rfl,O,Z,Y⟩;rw[h.li,ho] at O Y⊢;exact⟨A,M,rfl,WC O Y,Z⟩
theorem Cl.out_b (h:Cl w B p m s c) {ou:Ou} (hk:ou.ks=p.ks) {sn:Int} (O:Chg (fun j=>j=p.k) w w') (M:Blk w' p.k 88 (clA p {m with ov:=pv p.b} {s with ou:=ou,sn:=sn})):Tu w w' B p m {m with ov:=pv p.b} {s with ou:=ou,sn:=sn} c:=
 h.cell (m':={m with ov:=pv p.b}) O M rfl rfl (.inr (.inl ⟨rfl,hk⟩))
abbrev asA (q:As):Array Value:=#[.string ⟨q.c.1.toArray⟩,.string ⟨q.c.2.toArray⟩,.string ⟨q.s.1.toArray⟩,.string ⟨q.s.2.toArray⟩,.int .i64 q.t,.int .i64 q.no]
theorem as_mg (w:World) (q:As):Mc.MgV w w.heap.size (Mc.mgA 1 (asA q) Mc.zT Mc.zR Mc.zP Mc.zF) (mAs q):=⟨_,_,_,_,_,rfl,⟨rfl,Mc.zT_v _ _,Mc.zR_v _ _,Mc.zP_v _ _,Mc.zF_v⟩⟩
theorem RM (q:As):Tryz.prog.built 61 [(0,.int .i64 1),(1,.agg (asA q))]=some (Mc.mgA 1 (asA q) Mc.zT Mc.zR Mc.zP Mc.zF):=Mc.Nv rfl
theorem RN (q:As):Tryz.prog.built 49 [(0,.agg #[.string ⟨q.c.1.toArray⟩,.string ⟨q.c.2.toArray⟩]),(1,.agg #[.string ⟨q.s.1.toArray⟩,.string ⟨q.s.2.toArray⟩]),(2,.int .i64 q.t),(3,.int .i64 q.no)]=some (asA q):=by kernel_rfl
theorem WJ:(Tryz.prog.info? 84).map (·.size)=some 3:=by kernel_rfl
theorem Yq (h:pSm p.P/\p.P.1.length<=1000000):pSm (own p.P):=by
 refine⟨h.1.1,?_⟩;show(krb++p.P.1).length<=1000000000;have O:krb.length=7:=by decide
 have M:=h.2;rw[List.length_append];omega
theorem Um {now:Int} {o:Option It} (h:Cl w B p m s c) (hc:c<=800000) (hz:Sz p s c) (ht:tmB now=true) (ho:getO s.l (own p.P) now=o) (hi:o=none) :
  Calls Tryz.prog 23 #[pv p.k,.int .i64 now] w fun e w'=>∃v m',e=.returned (.tuple #[.string ⟨p.P.1.toArray⟩,v])/\SlN (Out w p m') w' v (lO (mgO (mAs (firQ p.P s now))))/\Tu w w' B p m m' (firS p.ks s) c:=by
 have C1:=I (fun(w1:World) (h1:Cl w1 B p m s c)=>Yo h1 hz.pp.2);have C2:=I (fun(w1:World) (h1:Cl w1 B p m s c)=>get_c h1 hz (own p.P) now ho);have E1:=I (show(own p.P).1=p.P.1 from rfl);have M:=I (Tu.refl h);have HI:=I hi;have C4:=I (fun(w1:World)=>Ln now w1 ht);have C5:=I (fun(w1:World) (h1:Cl w1 B p m s c)=>Vb h1 (by have:=hz.nn;omega));have aB:mSm (mAs (firQ p.P s now)):=⟨⟨hz.pp.1,Yq hz.pp⟩,⟨Mc.BT,Mc.BT⟩,⟨Mc.BT,Mc.BT⟩,Mc.BT⟩;have C6:=I (fun(w1:World) (h1:Cl w1 B p m {s with n:=s.n+1} c)=>
  Lp (r:=p.P.1) (cs:=Mc.mgA 1 (asA (firQ p.P s now)) Mc.zT Mc.zR Mc.zP Mc.zF) (g:=mAs (firQ p.P s now)) (no:=((s.n+1:Nat):Int)) (u:=3) (ob:=p.b) (ks:=p.ks) (m':={m with ov:=pv p.b}) (s':=firS p.ks s) h1 ⟨hz.sn.1,by have:=hz.sn.2;show s.sn<=1000000;omega⟩ (Nat.le_trans hz.pp.2 (by decide)) (fun w2 _=>as_mg w2 _) aB (by rfl) (Mc.MgP.one (m:=mAs (firQ p.P s now)) (w:=w1) (B:=w1.heap.size) ⟨rfl,Mc.zT_v _ _,Mc.zR_v _ _,Mc.zP_v _ _,Mc.zF_v⟩ 1)
   (fun wa wb aT aO aL=>aT.out_b (ou:=⟨((s.n+1:Nat):Int),p.ks,3⟩) rfl aO aL))
 have EN:=I (show(firQ p.P s now).no=((s.n+1:Nat):Int) by simp only[firQ]);have ah:=I (show Tryz.prog.built 49 [(0,.agg #[.string ⟨p.P.1.toArray⟩,.string ⟨p.P.2.toArray⟩]),(1,.agg #[.string ⟨(own p.P).1.toArray⟩,.string ⟨(own p.P).2.toArray⟩]),(2,.int .i64 (Gk now)),(3,.int .i64 ((s.n+1:Nat):Int))]=some (asA (firQ p.P s now)) from RN (firQ p.P s now));obtain⟨Q,eQ⟩:=Aj (firQ p.P s now);rw[<-eQ] at C6 EN ah⊢;clear eQ;obtain⟨T,eT⟩:=Aj (Gk now);rw[<-eT] at C4 ah;obtain⟨NN,au⟩:∃z:Int,z=((s.n+1:Nat):Int):=⟨_,rfl⟩;rw[<-au] at EN ah C5 C6;have E9:=I (show firS p.ks s = {s with n:=s.n+1,ou:=⟨NN,p.ks,3⟩,sn:=s.sn+1} by rw[au];rfl);obtain⟨q,eq⟩:=Aj (own p.P);rw[<-eq] at C1 C2 E1 ah;have CZ:=I (fun(A:Option Addr) (cp:Nat)=>(show(crA (getX o) A cp).size=37/\(Tryz.prog.info? 96).map (·.size)=some (crA (getX o) A cp).size/\(crA (getX o) A cp).all (·.oneCell')=true from⟨Ca.AN _ _ _,by rw[Ca.AN];exact Ca.Bt,Ca.DL _ _ _⟩));clear h hc hz ht ho hi eq aB eT au;go_enter Tryz.func23,Tryz.ntmps23
 go_upto_region 2 with(first
  |(go_at_call 48;refine Ah (C1.o _ M.o.cl) ?_;rintro w1 Z;clear C1;replace M:=I (M.o.below Z);clear Z)
  |fail)
 obtain⟨W2,ao⟩:=Aj (w1.alloc (.cells #[.string ⟨q.1.toArray⟩,.string ⟨q.2.toArray⟩] 35));have Z:Below w1.heap.size w1 W2:=ao▸Ag.alloc Af _;have O:=I (show Blk W2 w1.heap.size 35 #[.string ⟨q.1.toArray⟩,.string ⟨q.2.toArray⟩] from ao▸Blk.new w1 _ _);have NQ:=I (M.o.cl.fresh (Nat.le_refl w1.heap.size));replace M:=I (M.o.below Z);rw[<-ao];clear ao Z;obtain⟨gq,aA⟩:=Aj (w1.heap.size);rw[<-aA] at O NQ⊢;clear aA
 go_cut [7,8] from 13 to 22 (fun xv ov wx=>∃(PC:Nat) (A:Option Addr) (cp:Nat),xv=.pointer (some ⟨PC,0,none⟩)/\ov=.bool o.isSome/\Blk wx PC 96 (crA (getX o) A cp)/\SlN (AO p m) wx (.slice A (getX o).b.length cp) (getX o).b/\Blk wx gq 35 #[.string ⟨q.1.toArray⟩,.string ⟨q.2.toArray⟩]/\¬AO p m gq/\¬AO p m PC/\Tu w wx B p m m s c)
 case first=>
  have ae:Below W2.heap.size W2 W2.drew:=below_drewN Ag 1;replace M:=I (M.o.below ae);replace O:=I (O.o.below ae);clear ae;refine Reg.AW (fun w'=>Blk w' gq 35 #[.string ⟨q.1.toArray⟩,.string ⟨q.2.toArray⟩]/\w'.cell? ⟨p.k,3,none⟩=some (pv p.r)) 13 rfl (by kernel_rfl) ⟨O.o,(M.o).cl.blk.cell 3⟩ ?_;refine Reg.ty 0 rfl ⟨O.o,(M.o).cl.blk.cell 3⟩ ?_;refine Reg.ty 1 rfl ⟨O.o,(M.o).cl.blk.cell 3⟩ ?_;refine Reg.ty 2 rfl ⟨O.o,(M.o).cl.blk.cell 3⟩ ?_;refine Reg.tw 3 rfl ⟨O.o,(M.o).cl.blk.cell 3⟩ (fun w' hS=>by obtain⟨hQ,k3⟩:=hS;go_simp<;>rfl) ?_;refine Reg.tw 4 rfl ⟨O.o,(M.o).cl.blk.cell 3⟩ (fun w' hS=>by obtain⟨hQ,k3⟩:=hS;have q0:=hQ.cell 0;have q1:=hQ.cell 1;go_simp<;>rfl) ?_;refine Reg.ty 5 rfl ⟨O.o,(M.o).cl.blk.cell 3⟩ ?_;refine Reg.b2 6 10 ?_ ?_
  ·right
   refine⟨_,_,_,_,_,_,49,#[pv p.r,prV q,.int .i64 now],rfl,by rfl,(by go_simp<;>first | rfl | exact⟨rfl,rfl⟩),?_⟩;refine Calls.mono (C2.o _ M.o.cl) ?_;rintro e aa ⟨A,cp,rfl,hs,Z⟩;have SC:=I (M.o.made hs);replace M:=I (M.o.below Z);replace O:=I (O.o.below Z);have HZ:=I (CZ.o A cp);clear Z;clear C2 hs;refine⟨_,rfl,⟨O.o,(M.o).cl.blk.cell 3⟩,?_⟩;simp only[Act.put,J,U,Aa];refine Reg.ty 7 rfl ⟨O.o,(M.o).cl.blk.cell 3⟩ ?_;refine Reg.ty 8 rfl ⟨O.o,(M.o).cl.blk.cell 3⟩ ?_;refine Reg.ty 9 rfl ⟨O.o,(M.o).cl.blk.cell 3⟩ ?_;refine Reg.b1 10 ?_
   left
   have Z:Below aa.heap.size aa (aa.alloc (.cells #[.string ⟨#[]⟩,.string ⟨#[]⟩,.int .i64 0,.slice none 0 0,.int .u8 0,.int .u8 0,.int .u8 0,.int .u8 0,.int .u8 0,.int .u8 0,.int .u8 0,.int .u8 0,.int .u8 0,.int .u8 0,.int .u8 0,.int .u8 0,.int .u8 0,.int .u8 0,.int .u8 0,.int .u8 0,.int .u8 0,.int .u8 0,.int .u8 0,.int .u8 0,.int .u8 0,.int .u8 0,.int .u8 0,.int .u8 0,.int .u8 0,.int .u8 0,.int .u8 0,.int .u8 0,.int .u8 0,.int .u8 0,.int .u8 0,.int .u8 0,.int .i64 0] 96)):=Ag.alloc Af _;have X:=Blk.new aa 96 #[.string ⟨#[]⟩,.string ⟨#[]⟩,.int .i64 0,.slice none 0 0,.int .u8 0,.int .u8 0,.int .u8 0,.int .u8 0,.int .u8 0,.int .u8 0,.int .u8 0,.int .u8 0,.int .u8 0,.int .u8 0,.int .u8 0,.int .u8 0,.int .u8 0,.int .u8 0,.int .u8 0,.int .u8 0,.int .u8 0,.int .u8 0,.int .u8 0,.int .u8 0,.int .u8 0,.int .u8 0,.int .u8 0,.int .u8 0,.int .u8 0,.int .u8 0,.int .u8 0,.int .u8 0,.int .u8 0,.int .u8 0,.int .u8 0,.int .u8 0,.int .i64 0];have LT:=I M.o.size;have NT:=I (M.o.cl.fresh (Nat.le_refl aa.heap.size));have Y:=I (Nat.ne_of_lt O.o.lt);replace SC:=I (SlT.up SC.o (Nat.le_refl aa.heap.size));refine⟨_,_,_,_,_,_,.pointer (some ⟨aa.heap.size,0,none⟩),aa.alloc (.cells #[.string ⟨#[]⟩,.string ⟨#[]⟩,.int .i64 0,.slice none 0 0,.int .u8 0,.int .u8 0,.int .u8 0,.int .u8 0,.int .u8 0,.int .u8 0,.int .u8 0,.int .u8 0,.int .u8 0,.int .u8 0,.int .u8 0,.int .u8 0,.int .u8 0,.int .u8 0,.int .u8 0,.int .u8 0,.int .u8 0,.int .u8 0,.int .u8 0,.int .u8 0,.int .u8 0,.int .u8 0,.int .u8 0,.int .u8 0,.int .u8 0,.int .u8 0,.int .u8 0,.int .u8 0,.int .u8 0,.int .u8 0,.int .u8 0,.int .u8 0,.int .i64 0] 96),rfl,by rfl,(by go_simp<;>rfl),⟨(O.o.below Z),((M.o.below Z)).cl.blk.cell 3⟩,?_⟩;simp only[Act.put,J,U,Aa];obtain⟨aF,ai⟩:=Aj (aa.alloc (.cells #[.string ⟨#[]⟩,.string ⟨#[]⟩,.int .i64 0,.slice none 0 0,.int .u8 0,.int .u8 0,.int .u8 0,.int .u8 0,.int .u8 0,.int .u8 0,.int .u8 0,.int .u8 0,.int .u8 0,.int .u8 0,.int .u8 0,.int .u8 0,.int .u8 0,.int .u8 0,.int .u8 0,.int .u8 0,.int .u8 0,.int .u8 0,.int .u8 0,.int .u8 0,.int .u8 0,.int .u8 0,.int .u8 0,.int .u8 0,.int .u8 0,.int .u8 0,.int .u8 0,.int .u8 0,.int .u8 0,.int .u8 0,.int .u8 0,.int .u8 0,.int .i64 0] 96));rw[<-ai] at Z X⊢;clear ai;replace M:=I (M.o.below Z);replace O:=I (O.o.below Z);replace SC:=I (SC.o.below Z);have HT:=I X;clear X Z;obtain⟨PT,ad⟩:=Aj (aa.heap.size);rw[<-ad] at HT LT NT Y SC⊢;clear ad;refine Reg.AP 11 rfl (by kernel_rfl) (by rfl) PT 96 _ (crA (getX o) A cp) HT.o (by rfl) (by rfl) (by rw[HZ.o.1];rfl) HZ.o.2.1 HZ.o.2.2 ?_;intro aQ hV hg;replace HT:=I hV;replace M:=I (M.o.over LT.o NT.o hg);replace O:=I (O.o.grown hg (fun e=>by injection e with e;exact Y.o e.symm));replace SC:=I (SlT.over SC.o hg);clear hV hg Y;refine⟨⟨O.o,(M.o).cl.blk.cell 3⟩,?_⟩;simp only[Act.put,J,U,Aa];refine Reg.ty 12 rfl ⟨O.o,(M.o).cl.blk.cell 3⟩ ?_;refine wpAnyH_done (by kernel_rfl) ?_ _
   go_wp2_with fail
   go_meet
   exact⟨PT,A,cp,rfl,rfl,HT.o,SC.o,O.o,NQ.o,NT.o,M.o⟩
  ·left
   have Z:Below W2.drew.heap.size W2.drew (W2.drew.alloc (.cells #[.string ⟨#[]⟩,.string ⟨#[]⟩,.int .i64 0,.slice none 0 0,.int .u8 0,.int .u8 0,.int .u8 0,.int .u8 0,.int .u8 0,.int .u8 0,.int .u8 0,.int .u8 0,.int .u8 0,.int .u8 0,.int .u8 0,.int .u8 0,.int .u8 0,.int .u8 0,.int .u8 0,.int .u8 0,.int .u8 0,.int .u8 0,.int .u8 0,.int .u8 0,.int .u8 0,.int .u8 0,.int .u8 0,.int .u8 0,.int .u8 0,.int .u8 0,.int .u8 0,.int .u8 0,.int .u8 0,.int .u8 0,.int .u8 0,.int .u8 0,.int .i64 0] 96)):=Ag.alloc Af _;have X:=Blk.new W2.drew 96 #[.string ⟨#[]⟩,.string ⟨#[]⟩,.int .i64 0,.slice none 0 0,.int .u8 0,.int .u8 0,.int .u8 0,.int .u8 0,.int .u8 0,.int .u8 0,.int .u8 0,.int .u8 0,.int .u8 0,.int .u8 0,.int .u8 0,.int .u8 0,.int .u8 0,.int .u8 0,.int .u8 0,.int .u8 0,.int .u8 0,.int .u8 0,.int .u8 0,.int .u8 0,.int .u8 0,.int .u8 0,.int .u8 0,.int .u8 0,.int .u8 0,.int .u8 0,.int .u8 0,.int .u8 0,.int .u8 0,.int .u8 0,.int .u8 0,.int .u8 0,.int .i64 0];have LT:=I M.o.size;have NT:=I (M.o.cl.fresh (Nat.le_refl W2.drew.heap.size));have Y:=I (Nat.ne_of_lt O.o.lt);refine⟨_,_,_,_,_,_,.pointer (some ⟨W2.drew.heap.size,0,none⟩),W2.drew.alloc (.cells #[.string ⟨#[]⟩,.string ⟨#[]⟩,.int .i64 0,.slice none 0 0,.int .u8 0,.int .u8 0,.int .u8 0,.int .u8 0,.int .u8 0,.int .u8 0,.int .u8 0,.int .u8 0,.int .u8 0,.int .u8 0,.int .u8 0,.int .u8 0,.int .u8 0,.int .u8 0,.int .u8 0,.int .u8 0,.int .u8 0,.int .u8 0,.int .u8 0,.int .u8 0,.int .u8 0,.int .u8 0,.int .u8 0,.int .u8 0,.int .u8 0,.int .u8 0,.int .u8 0,.int .u8 0,.int .u8 0,.int .u8 0,.int .u8 0,.int .u8 0,.int .i64 0] 96),rfl,by rfl,(by go_simp<;>rfl),⟨(O.o.below Z),((M.o.below Z)).cl.blk.cell 3⟩,?_⟩;simp only[Act.put,J,U,Aa];obtain⟨aH,af⟩:=Aj (W2.drew.alloc (.cells #[.string ⟨#[]⟩,.string ⟨#[]⟩,.int .i64 0,.slice none 0 0,.int .u8 0,.int .u8 0,.int .u8 0,.int .u8 0,.int .u8 0,.int .u8 0,.int .u8 0,.int .u8 0,.int .u8 0,.int .u8 0,.int .u8 0,.int .u8 0,.int .u8 0,.int .u8 0,.int .u8 0,.int .u8 0,.int .u8 0,.int .u8 0,.int .u8 0,.int .u8 0,.int .u8 0,.int .u8 0,.int .u8 0,.int .u8 0,.int .u8 0,.int .u8 0,.int .u8 0,.int .u8 0,.int .u8 0,.int .u8 0,.int .u8 0,.int .u8 0,.int .i64 0] 96));rw[<-af] at Z X⊢;clear af;replace M:=I (M.o.below Z);replace O:=I (O.o.below Z);have HT:=I X;clear X Z;obtain⟨PT,ad⟩:=Aj (W2.drew.heap.size);rw[<-ad] at HT LT NT Y⊢;clear ad;refine Reg.b1 6 ?_
   right
   refine⟨_,_,_,_,_,_,49,#[pv p.r,prV q,.int .i64 now],rfl,by rfl,(by go_simp<;>first | rfl | exact⟨rfl,rfl⟩),?_⟩;refine Calls.mono (C2.o _ M.o.cl) ?_;rintro e aX ⟨A,cp,rfl,hs,Z⟩;have SC:=I (SlT.of_made M.o.cl HT.o.lt hs);replace M:=I (M.o.below Z);replace O:=I (O.o.below Z);replace HT:=I (HT.o.below Z);have HZ:=I (CZ.o A cp);clear Z;clear C2 hs;refine⟨_,rfl,⟨O.o,(M.o).cl.blk.cell 3⟩,?_⟩;simp only[Act.put,J,U,Aa];refine Reg.ty 7 rfl ⟨O.o,(M.o).cl.blk.cell 3⟩ ?_;refine Reg.ty 8 rfl ⟨O.o,(M.o).cl.blk.cell 3⟩ ?_;refine Reg.ty 9 rfl ⟨O.o,(M.o).cl.blk.cell 3⟩ ?_;refine Reg.AP 11 rfl (by kernel_rfl) (by rfl) PT 96 _ (crA (getX o) A cp) HT.o (by rfl) (by rfl) (by rw[HZ.o.1];rfl) HZ.o.2.1 HZ.o.2.2 ?_;intro aW hV hg;replace HT:=I hV;replace M:=I (M.o.over LT.o NT.o hg);replace O:=I (O.o.grown hg (fun e=>by injection e with e;exact Y.o e.symm));replace SC:=I (SlT.over SC.o hg);clear hV hg Y;refine⟨⟨O.o,(M.o).cl.blk.cell 3⟩,?_⟩;simp only[Act.put,J,U,Aa];refine Reg.ty 12 rfl ⟨O.o,(M.o).cl.blk.cell 3⟩ ?_;refine wpAnyH_done (by kernel_rfl) ?_ _
   go_wp2_with fail
   go_meet
   exact⟨PT,A,cp,rfl,rfl,HT.o,SC.o,O.o,NQ.o,NT.o,M.o⟩
 case rest=>
  obtain⟨PC,A,cp,rfl,rfl,aC,av,hq,nq,ay,hk⟩:=hcut;replace O:=I hq;replace NQ:=I nq;replace M:=I hk;have HC:=I aC;have SC:=I av;have NC:=I ay;clear hq nq hk aC av ay C2;have hi:=HI.o;subst hi;clear HI;clear CZ HC SC NC
  go_upto_region 5 with fail
  go_cut [9] from 32 to 43 (fun tv wx=>∃(PT:Nat),tv=.pointer (some ⟨PT,0,none⟩)/\Blk wx PT 49 (asA Q)/\¬AO p m PT/\Blk wx gq 35 #[.string ⟨q.1.toArray⟩,.string ⟨q.2.toArray⟩]/\¬AO p m gq/\Tu w wx B p m m {s with n:=s.n+1} c)
  case first=>
   have ae:Below wc.heap.size wc wc.drew:=below_drewN Ag 1;replace M:=I (M.o.below ae);replace O:=I (O.o.below ae);clear ae;refine Reg.AW (fun w'=>Blk w' gq 35 #[.string ⟨q.1.toArray⟩,.string ⟨q.2.toArray⟩]/\w'.cell? ⟨p.k,0,none⟩=some (.string ⟨p.P.1.toArray⟩)/\w'.cell? ⟨p.k,1,none⟩=some (.string ⟨p.P.2.toArray⟩)) 14 rfl (by kernel_rfl) ⟨O.o,(M.o).cl.blk.cell 0,(M.o).cl.blk.cell 1⟩ ?_;refine Reg.ty 0 rfl ⟨O.o,(M.o).cl.blk.cell 0,(M.o).cl.blk.cell 1⟩ ?_;refine Reg.ty 1 rfl ⟨O.o,(M.o).cl.blk.cell 0,(M.o).cl.blk.cell 1⟩ ?_;refine Reg.ty 2 rfl ⟨O.o,(M.o).cl.blk.cell 0,(M.o).cl.blk.cell 1⟩ ?_;refine Reg.tw 3 (v:=.agg #[.string ⟨p.P.1.toArray⟩,.string ⟨p.P.2.toArray⟩]) rfl ⟨O.o,(M.o).cl.blk.cell 0,(M.o).cl.blk.cell 1⟩ (fun w' hS=>by obtain⟨hQ,k0,k1⟩:=hS;go_simp<;>rfl) ?_;refine Reg.tw 4 rfl ⟨O.o,(M.o).cl.blk.cell 0,(M.o).cl.blk.cell 1⟩ (fun w' hS=>by obtain⟨hQ,k0,k1⟩:=hS;have q0:=hQ.cell 0;have q1:=hQ.cell 1;go_simp<;>rfl) ?_;refine Reg.ty 5 rfl ⟨O.o,(M.o).cl.blk.cell 0,(M.o).cl.blk.cell 1⟩ ?_;refine Reg.ty 7 rfl ⟨O.o,(M.o).cl.blk.cell 0,(M.o).cl.blk.cell 1⟩ ?_;refine Reg.ty 8 rfl ⟨O.o,(M.o).cl.blk.cell 0,(M.o).cl.blk.cell 1⟩ ?_;refine Reg.ty 9 rfl ⟨O.o,(M.o).cl.blk.cell 0,(M.o).cl.blk.cell 1⟩ ?_;refine Reg.b2 6 12 ?_ ?_
   ·right
    refine⟨_,_,_,_,_,_,51,#[.int .i64 now],rfl,by rfl,(by go_simp<;>first | rfl | exact⟨rfl,rfl⟩),?_⟩;refine Ah (C4.o _) ?_;rintro aS hw;subst hw;clear C4;refine⟨_,rfl,⟨O.o,(M.o).cl.blk.cell 0,(M.o).cl.blk.cell 1⟩,?_⟩;simp only[Act.put,J,U,Aa];refine Reg.b2 10 12 ?_ ?_
    ·right
     refine⟨_,_,_,_,_,_,52,#[.pointer (some ⟨p.k,4,none⟩)],rfl,by rfl,(by go_simp<;>first | rfl | exact⟨rfl,rfl⟩),?_⟩;refine Ah (C5.o _ M.o.cl) ?_;rintro ab hk;have X:=hk.blk O.o NQ.o;replace NQ:=I (hk.not NQ.o O.o.lt);replace O:=I X;clear X;replace M:=I (M.o.trans hk);clear hk;clear C5;refine⟨_,rfl,⟨O.o,(M.o).cl.blk.cell 0,(M.o).cl.blk.cell 1⟩,?_⟩;simp only[Act.put,J,U,Aa];refine Reg.tw 11 (v:=.agg (asA Q)) rfl ⟨O.o,(M.o).cl.blk.cell 0,(M.o).cl.blk.cell 1⟩ (fun w' hS=>by obtain⟨hQ,k0,k1⟩:=hS;refine BP (t:=49) (by rfl) (by simp only[List.map_toArray,List.map_cons,List.map_nil];exact ah.o)) ?_;refine Reg.b1 12 ?_
     left
     have Z:Below ab.heap.size ab (ab.alloc (.cells #[.string ⟨#[]⟩,.string ⟨#[]⟩,.string ⟨#[]⟩,.string ⟨#[]⟩,.int .i64 0,.int .i64 0] 49)):=Ag.alloc Af _;have X:=Blk.new ab 49 #[.string ⟨#[]⟩,.string ⟨#[]⟩,.string ⟨#[]⟩,.string ⟨#[]⟩,.int .i64 0,.int .i64 0];have LT:=I M.o.size;have NT:=I (M.o.cl.fresh (Nat.le_refl ab.heap.size));have Y:=I (Nat.ne_of_lt O.o.lt);refine⟨_,_,_,_,_,_,.pointer (some ⟨ab.heap.size,0,none⟩),ab.alloc (.cells #[.string ⟨#[]⟩,.string ⟨#[]⟩,.string ⟨#[]⟩,.string ⟨#[]⟩,.int .i64 0,.int .i64 0] 49),rfl,by rfl,(by go_simp<;>rfl),⟨(O.o.below Z),((M.o.below Z)).cl.blk.cell 0,((M.o.below Z)).cl.blk.cell 1⟩,?_⟩;simp only[Act.put,J,U,Aa];obtain⟨aI,ak⟩:=Aj (ab.alloc (.cells #[.string ⟨#[]⟩,.string ⟨#[]⟩,.string ⟨#[]⟩,.string ⟨#[]⟩,.int .i64 0,.int .i64 0] 49));rw[<-ak] at Z X⊢;clear ak;replace M:=I (M.o.below Z);replace O:=I (O.o.below Z);have HT:=I X;clear X Z;obtain⟨PT,ad⟩:=Aj (ab.heap.size);rw[<-ad] at HT LT NT Y⊢;clear ad;refine Reg.AP 13 rfl (by kernel_rfl) (by rfl) PT 49 _ (asA Q) HT.o (by rfl) (by rfl) (by rfl) (by kernel_rfl) (by simp [Value.oneCell']) ?_;intro aN hV hg;replace HT:=I hV;replace M:=I (M.o.over LT.o NT.o hg);replace O:=I (O.o.grown hg (fun e=>by injection e with e;exact Y.o e.symm));clear hV hg Y;refine⟨⟨O.o,(M.o).cl.blk.cell 0,(M.o).cl.blk.cell 1⟩,?_⟩;simp only[Act.put,J,U,Aa];refine wpAnyH_done (by kernel_rfl) ?_ _
     go_wp2_with fail
     go_meet
     exact⟨PT,rfl,HT.o,NT.o,O.o,NQ.o,M.o⟩
    ·left
     have Z:Below wc.drew.heap.size wc.drew (wc.drew.alloc (.cells #[.string ⟨#[]⟩,.string ⟨#[]⟩,.string ⟨#[]⟩,.string ⟨#[]⟩,.int .i64 0,.int .i64 0] 49)):=Ag.alloc Af _;have X:=Blk.new wc.drew 49 #[.string ⟨#[]⟩,.string ⟨#[]⟩,.string ⟨#[]⟩,.string ⟨#[]⟩,.int .i64 0,.int .i64 0];have LT:=I M.o.size;have NT:=I (M.o.cl.fresh (Nat.le_refl wc.drew.heap.size));have Y:=I (Nat.ne_of_lt O.o.lt);refine⟨_,_,_,_,_,_,.pointer (some ⟨wc.drew.heap.size,0,none⟩),wc.drew.alloc (.cells #[.string ⟨#[]⟩,.string ⟨#[]⟩,.string ⟨#[]⟩,.string ⟨#[]⟩,.int .i64 0,.int .i64 0] 49),rfl,by rfl,(by go_simp<;>rfl),⟨(O.o.below Z),((M.o.below Z)).cl.blk.cell 0,((M.o.below Z)).cl.blk.cell 1⟩,?_⟩;simp only[Act.put,J,U,Aa];obtain⟨aJ,aj⟩:=Aj (wc.drew.alloc (.cells #[.string ⟨#[]⟩,.string ⟨#[]⟩,.string ⟨#[]⟩,.string ⟨#[]⟩,.int .i64 0,.int .i64 0] 49));rw[<-aj] at Z X⊢;clear aj;replace M:=I (M.o.below Z);replace O:=I (O.o.below Z);have HT:=I X;clear X Z;obtain⟨PT,ad⟩:=Aj (wc.drew.heap.size);rw[<-ad] at HT LT NT Y⊢;clear ad;refine Reg.b1 10 ?_
     right
     refine⟨_,_,_,_,_,_,52,#[.pointer (some ⟨p.k,4,none⟩)],rfl,by rfl,(by go_simp<;>first | rfl | exact⟨rfl,rfl⟩),?_⟩;refine Ah (C5.o _ M.o.cl) ?_;rintro aV hk;have X:=hk.blk O.o NQ.o;replace NQ:=I (hk.not NQ.o O.o.lt);replace O:=I X;clear X;have X:=hk.blk HT.o NT.o;replace NT:=I (hk.not NT.o HT.o.lt);replace HT:=I X;clear X;replace M:=I (M.o.trans hk);clear hk;clear C5;refine⟨_,rfl,⟨O.o,(M.o).cl.blk.cell 0,(M.o).cl.blk.cell 1⟩,?_⟩;simp only[Act.put,J,U,Aa];refine Reg.tw 11 (v:=.agg (asA Q)) rfl ⟨O.o,(M.o).cl.blk.cell 0,(M.o).cl.blk.cell 1⟩ (fun w' hS=>by obtain⟨hQ,k0,k1⟩:=hS;refine BP (t:=49) (by rfl) (by simp only[List.map_toArray,List.map_cons,List.map_nil];exact ah.o)) ?_;refine Reg.AP 13 rfl (by kernel_rfl) (by rfl) PT 49 _ (asA Q) HT.o (by rfl) (by rfl) (by rfl) (by kernel_rfl) (by simp [Value.oneCell']) ?_;intro aY hV hg;replace HT:=I hV;replace M:=I (M.o.over LT.o NT.o hg);replace O:=I (O.o.grown hg (fun e=>by injection e with e;exact Y.o e.symm));clear hV hg Y;refine⟨⟨O.o,(M.o).cl.blk.cell 0,(M.o).cl.blk.cell 1⟩,?_⟩;simp only[Act.put,J,U,Aa];refine wpAnyH_done (by kernel_rfl) ?_ _
     go_wp2_with fail
     go_meet
     exact⟨PT,rfl,HT.o,NT.o,O.o,NQ.o,M.o⟩
   ·left
    have Z:Below wc.drew.heap.size wc.drew (wc.drew.alloc (.cells #[.string ⟨#[]⟩,.string ⟨#[]⟩,.string ⟨#[]⟩,.string ⟨#[]⟩,.int .i64 0,.int .i64 0] 49)):=Ag.alloc Af _;have X:=Blk.new wc.drew 49 #[.string ⟨#[]⟩,.string ⟨#[]⟩,.string ⟨#[]⟩,.string ⟨#[]⟩,.int .i64 0,.int .i64 0];have LT:=I M.o.size;have NT:=I (M.o.cl.fresh (Nat.le_refl wc.drew.heap.size));have Y:=I (Nat.ne_of_lt O.o.lt);refine⟨_,_,_,_,_,_,.pointer (some ⟨wc.drew.heap.size,0,none⟩),wc.drew.alloc (.cells #[.string ⟨#[]⟩,.string ⟨#[]⟩,.string ⟨#[]⟩,.string ⟨#[]⟩,.int .i64 0,.int .i64 0] 49),rfl,by rfl,(by go_simp<;>rfl),⟨(O.o.below Z),((M.o.below Z)).cl.blk.cell 0,((M.o.below Z)).cl.blk.cell 1⟩,?_⟩;simp only[Act.put,J,U,Aa];obtain⟨aK,ag⟩:=Aj (wc.drew.alloc (.cells #[.string ⟨#[]⟩,.string ⟨#[]⟩,.string ⟨#[]⟩,.string ⟨#[]⟩,.int .i64 0,.int .i64 0] 49));rw[<-ag] at Z X⊢;clear ag;replace M:=I (M.o.below Z);replace O:=I (O.o.below Z);have HT:=I X;clear X Z;obtain⟨PT,ad⟩:=Aj (wc.drew.heap.size);rw[<-ad] at HT LT NT Y⊢;clear ad;refine Reg.b1 6 ?_
    right
    refine⟨_,_,_,_,_,_,51,#[.int .i64 now],rfl,by rfl,(by go_simp<;>first | rfl | exact⟨rfl,rfl⟩),?_⟩;refine Ah (C4.o _) ?_;rintro aP hw;subst hw;clear C4;refine⟨_,rfl,⟨O.o,(M.o).cl.blk.cell 0,(M.o).cl.blk.cell 1⟩,?_⟩;simp only[Act.put,J,U,Aa];refine Reg.b1 10 ?_
    right
    refine⟨_,_,_,_,_,_,52,#[.pointer (some ⟨p.k,4,none⟩)],rfl,by rfl,(by go_simp<;>first | rfl | exact⟨rfl,rfl⟩),?_⟩;refine Ah (C5.o _ M.o.cl) ?_;rintro aR hk;have X:=hk.blk O.o NQ.o;replace NQ:=I (hk.not NQ.o O.o.lt);replace O:=I X;clear X;have X:=hk.blk HT.o NT.o;replace NT:=I (hk.not NT.o HT.o.lt);replace HT:=I X;clear X;replace M:=I (M.o.trans hk);clear hk;clear C5;refine⟨_,rfl,⟨O.o,(M.o).cl.blk.cell 0,(M.o).cl.blk.cell 1⟩,?_⟩;simp only[Act.put,J,U,Aa];refine Reg.tw 11 (v:=.agg (asA Q)) rfl ⟨O.o,(M.o).cl.blk.cell 0,(M.o).cl.blk.cell 1⟩ (fun w' hS=>by obtain⟨hQ,k0,k1⟩:=hS;refine BP (t:=49) (by rfl) (by simp only[List.map_toArray,List.map_cons,List.map_nil];exact ah.o)) ?_;refine Reg.AP 13 rfl (by kernel_rfl) (by rfl) PT 49 _ (asA Q) HT.o (by rfl) (by rfl) (by rfl) (by kernel_rfl) (by simp [Value.oneCell']) ?_;intro aU hV hg;replace HT:=I hV;replace M:=I (M.o.over LT.o NT.o hg);replace O:=I (O.o.grown hg (fun e=>by injection e with e;exact Y.o e.symm));clear hV hg Y;refine⟨⟨O.o,(M.o).cl.blk.cell 0,(M.o).cl.blk.cell 1⟩,?_⟩;simp only[Act.put,J,U,Aa];refine wpAnyH_done (by kernel_rfl) ?_ _
    go_wp2_with fail
    go_meet
    exact⟨PT,rfl,HT.o,NT.o,O.o,NQ.o,M.o⟩
  case rest=>
   obtain⟨PT,rfl,ht,hn,hq,nq,hk⟩:=hcut;replace O:=I hq;replace NQ:=I nq;replace M:=I hk;have HT:=I ht;have NT:=I hn;clear hq nq hk ht hn C4 C5 ah
   go_upto_region 6 with fail
   have HX:=I HT.o;have NX:=I NT.o;have PX:∃z,z=PT:=⟨_,rfl⟩;obtain⟨gx,ax⟩:=PX;rw[<-ax] at HX NX⊢;clear HT NT ax
   go_cut [10] from 44 to 50 (fun tv wx=>∃(PT:Nat),tv=.pointer (some ⟨PT,0,none⟩)/\Blk wx PT 84 (ouA NN p.b 3)/\Blk wx gx 49 (asA Q)/\Blk wx gq 35 #[.string ⟨q.1.toArray⟩,.string ⟨q.2.toArray⟩]/\Tu w wx B p m m {s with n:=s.n+1} c)
   case first=>
    have ae:Below wc.heap.size wc wc.drew:=below_drewN Ag 1;replace M:=I (M.o.below ae);replace O:=I (O.o.below ae);replace HX:=I (HX.o.below ae);clear ae;refine Reg.AW (fun w'=>Blk w' gx 49 (asA Q)/\w'.cell? ⟨p.k,2,none⟩=some (pv p.b)) 9 rfl (by kernel_rfl) ⟨HX.o,(M.o).cl.blk.cell 2⟩ ?_;refine Reg.ty 0 rfl ⟨HX.o,(M.o).cl.blk.cell 2⟩ ?_;refine Reg.tw 1 (v:=.int .i64 NN) rfl ⟨HX.o,(M.o).cl.blk.cell 2⟩ (fun w' hS=>by obtain⟨hX,k2⟩:=hS;have q5:=hX.c5;rw[EN.o] at q5;go_simp<;>rfl) ?_;refine Reg.ty 2 rfl ⟨HX.o,(M.o).cl.blk.cell 2⟩ ?_;refine Reg.ty 3 rfl ⟨HX.o,(M.o).cl.blk.cell 2⟩ ?_;refine Reg.ty 4 rfl ⟨HX.o,(M.o).cl.blk.cell 2⟩ ?_;refine Reg.tw 5 rfl ⟨HX.o,(M.o).cl.blk.cell 2⟩ (fun w' hS=>by obtain⟨hX,k2⟩:=hS;go_simp<;>rfl) ?_;refine Reg.tw 6 (v:=.agg (ouA NN p.b 3)) rfl ⟨HX.o,(M.o).cl.blk.cell 2⟩ (fun w' hS=>by obtain⟨hX,k2⟩:=hS;go_simp<;>rfl) ?_;refine Reg.b1 7 ?_
    left
    have Z:Below wc.drew.heap.size wc.drew (wc.drew.alloc (.cells #[.int .i64 0,.pointer none,.int .i64 0] 84)):=Ag.alloc Af _;have X:=Blk.new wc.drew 84 #[.int .i64 0,.pointer none,.int .i64 0];have LT:=I M.o.size;have NT:=I (M.o.cl.fresh (Nat.le_refl wc.drew.heap.size));have Y:=I (Nat.ne_of_lt O.o.lt);have an:=I (Nat.ne_of_lt HX.o.lt);refine⟨_,_,_,_,_,_,.pointer (some ⟨wc.drew.heap.size,0,none⟩),wc.drew.alloc (.cells #[.int .i64 0,.pointer none,.int .i64 0] 84),rfl,by rfl,(by go_simp<;>rfl),⟨(HX.o.below Z),((M.o.below Z)).cl.blk.cell 2⟩,?_⟩;simp only[Act.put,J,U,Aa];obtain⟨aG,al⟩:=Aj (wc.drew.alloc (.cells #[.int .i64 0,.pointer none,.int .i64 0] 84));rw[<-al] at Z X⊢;clear al;replace M:=I (M.o.below Z);replace O:=I (O.o.below Z);replace HX:=I (HX.o.below Z);have HT:=I X;clear X Z;obtain⟨PT,ad⟩:=Aj (wc.drew.heap.size);rw[<-ad] at HT LT NT Y an⊢;clear ad;refine Reg.AP 8 rfl (by kernel_rfl) (by rfl) PT 84 _ (ouA NN p.b 3) HT.o (by rfl) (by rfl) (by rfl) WJ (by simp [Value.oneCell']) ?_;intro aM hV hg;replace HT:=I hV;replace M:=I (M.o.over LT.o NT.o hg);replace O:=I (O.o.grown hg (fun e=>by injection e with e;exact Y.o e.symm));replace HX:=I (HX.o.grown hg (fun e=>by injection e with e;exact an.o e.symm));clear hV hg Y an;refine⟨⟨HX.o,(M.o).cl.blk.cell 2⟩,?_⟩;simp only[Act.put,J,U,Aa];refine wpAnyH_done (by kernel_rfl) ?_ _
    go_wp2_with fail
    go_meet
    exact⟨PT,rfl,HT.o,HX.o,O.o,M.o⟩
   case rest=>
    obtain⟨PT,rfl,ht,hx,hq,hk⟩:=hcut;replace O:=I hq;replace HX:=I hx;replace M:=I hk;have HT:=I ht;clear hq hx hk ht NQ NX;have aw:=I (show(Tryz.prog.info? 49).map (·.size)=some (asA Q).size by kernel_rfl);have ar:=I (RM Q);have c6:=C6.o wc M.o.cl;obtain⟨ct,aE⟩:=Aj (asA Q);obtain⟨cm,az⟩:=Aj (Mc.mgA 1 (asA Q) Mc.zT Mc.zR Mc.zP Mc.zF);rw[<-az] at c6 ar;rw[<-aE] at HX aw ar;clear aE az C6;have o0:=HT.c0;have o1:=HT.c1;have o2:=HT.c2;have aD:=O.c0;rw[E1.o] at aD
    go_wp2_with (first
     |(refine Wh.AG (by rfl) 49 (.tmp 9) (by rfl) gx 0 (by rfl) ct _ (Wh.Ac HX.o) Tryz.underlying49 (by rfl) aw.o ?_)
     |(refine Mc.Ay (by rfl) 61 #[(0,.const (.int .i64 1)),(1,.tmp 54)] (by rfl) cm (by simp only[List.map_toArray,List.map_cons,List.map_nil];exact ar.o) ?_)
     |(go_at_call 53;refine Calls.mono c6 ?_;rintro e w6 ⟨v,rfl,hs,hk⟩;clear c6 o0 o1 o2 aD;have HV:=I (Out.old M.o.size hs);replace M:=I (M.o.trans hk);clear hs hk)
     |fail)
    go_ret2
    exact⟨v,_,rfl,HV.o,M.o⟩
end
end Cl
namespace Cl
open Go.RowKit Ae Se
open Nm (L krb tgL tgR)
open Ms (Pr tmB pSm mSm mgO An Mg As Tg Re Rp rpD rpC rpB)
open Rg (prV Bb BA)
open Ca (Cr It crA Eh AD)
open SeL (Ce BX Ns)
abbrev reA (q:Re) (b a:Value):Array Value:=#[.string ⟨q.c.1.toArray⟩,.string ⟨q.c.2.toArray⟩,.string ⟨q.t.s.1.toArray⟩,.string ⟨q.t.s.2.toArray⟩,.int .i64 q.t.k,b,a]
theorem WK {l:L} (h:l.length=32):AX (ksOf l)=(bvs l).toArray:=by
 show((List.range 32).map (fun i=>bv (ksOf l i))).toArray=(bvs l).toArray
 congr 1
 apply List.ext_getElem?;intro i;simp only[List.getElem?_map,bvs]
 by_cases g:i<32
 ·rw[List.getElem?_range g,List.getElem?_eq_getElem (by omega)]
  simp [ksOf,List.getD,h,g]
 ·rw[List.getElem?_eq_none (by simp;omega),List.getElem?_eq_none (by omega)]
  rfl
section
variable {w w' w0:World} {B:Nat} {p:CP} {m m' m0:CM} {s:St} {c:Nat} {r:L}
theorem NB (h:Cl w B p m s c) (O:s.st=1/\s.ou.u≠0) (hc:c<1000000) (u:Int) (v:Value) (l:L) (hv:SlN (AO p m) w v l) :
  Calls Tryz.prog 57 #[m.ov,.int .i64 u,v] w fun e w'=>∃v2 m',e=.returned (.tuple #[v2,.int .i64 (BX s.ou.ks u l).2])/\m'.ov=m.ov/\SlN (Out w p m') w' v2 (BX s.ou.ks u l).1/\Tu w w' B p m m' s (c+1):=by
 obtain⟨A,cp,rfl,X,hr⟩:=hv;rcases h.ou with⟨_,x⟩ | ⟨Y,e2⟩ | ⟨z,Z,Y,e2⟩
 ·exact absurd (x O.1) O.2
 ·rw[Y,e2]
  have aa:=h.bc;refine(KX p.b p.ks m.h m.a m.o m.r u A l.length cp l w (by omega) (by omega) rfl X (hr.mono fun j _ M=>⟨1,M⟩) h.box).mono ?_;rintro e w1 ⟨A2,c2,h',o',r',rfl,h1,h2,h3,h4,h5,h6,h7⟩;have hT:=h.use_b h4 h5 (by omega) h6 h7;refine⟨_,{m with h:=h',o:=o',r:=r'},rfl,Y,⟨A2,c2,rfl,h1,h3.mono fun j _ M=>?_⟩,hT⟩;rcases M with M | ⟨i,M⟩
  ·exact .inl M
  ·match i,M with
   |0,M=>exact .inl (h.lt ⟨0,M⟩)
   |1,M=>exact .inr M
   |2,M=>exact .inl (h.lt ⟨2,M⟩)
   |3,M=>exact .inl (h.lt ⟨3,M⟩)
   |4,M=>exact .inl (h.lt ⟨4,M⟩)
   |5,M=>exact .inl (h.lt ⟨5,M⟩)
 ·rw[Y,e2]
  have hx:=h.sx z Z;refine(KX z.b z.ks z.h z.a z.o z.r u A l.length cp l w (by omega) (by omega) rfl X (hr.mono fun j _ M=>⟨4,z,Z,M⟩) hx.1).mono ?_;rintro e w1 ⟨A2,c2,h',o',r',rfl,h1,h2,h3,h4,h5,h6,h7⟩;have hT:=h.use_x Z h4 h5 (by omega) h6 h7;refine⟨_,{m with x:=some ⟨z.b,z.ks,h',z.a,o',r'⟩},rfl,Y,⟨A2,c2,rfl,h1,h3.mono fun j _ M=>?_⟩,hT⟩;rcases M with M | ⟨i,M⟩
  ·exact .inl M
  ·match i,M with
   |0,M=>exact .inl (h.lt ⟨0,M⟩)
   |1,M=>exact .inl (h.lt ⟨1,M⟩)
   |2,M=>exact .inl (h.lt ⟨2,M⟩)
   |3,M=>exact .inl (h.lt ⟨3,M⟩)
   |4,M=>
    obtain⟨q,hq,M⟩:=M;injection hq with hq;subst hq;exact .inr M
   |5,M=>exact .inl (h.lt ⟨5,M⟩)
def OpeP (w:World) (B:Nat) (p:CP) (m:CM) (s:St) (c:Nat) (bv:Value) (o:Option Cr) (e:Ending) (w':World):Prop:=
 ∃cs m',e=.returned (.tuple #[.agg cs,.bool o.isSome])/\cs.size=37/\cs.all (·.oneCell')=true/\(Tryz.prog.info? 96).map (·.size)=some cs.size/\(∀x,o=some x->cs=crv x bv/\SlN (AO p m') w' bv x.b)/\Tu w w' B p m m' s (c+1)
theorem Lq {M:World} (h:Tu w M B p m m' s (c+1)) (bv:Value):OpeP w B p m s c bv none (.returned (.tuple #[.agg (crA Eh none 0),.bool false])) M:=
 ⟨_,m',rfl,Ca.AN _ _ _,Ca.DL _ _ _,by rw[Ca.AN];exact Ca.Bt,(fun x O=>by cases O),h⟩
theorem ope_1 {q:Re} {bv O:Value} (h:Cl w B p m s c) (ad:s.st=1/\s.ou.u≠0) (hc:c<=800000) (ab:SlN (AO p m) w bv q.t.b) (ae:SlN (AO p m) w O q.b) (h1:q.c≠p.P) :
  Calls Tryz.prog 26 #[pv p.k,.agg (reA q bv O)] w (OpeP w B p m s c bv none):=by
 obtain⟨zs,X⟩:=Aj (crA Eh none 0);have af:=I (X.trans Ca.Ev);obtain⟨W,eW⟩:=Aj ((w.alloc (.cells (reA q bv O) 55)).alloc (.cells zs 96));have hb:Below w.heap.size w W:=eW▸(Ag.alloc Af _).alloc (by simp) _;have Z:=I (show Blk W w.heap.size 55 (reA q bv O) from eW▸(Blk.new w _ _).alloc _);have HZ:=I (show Blk W (w.heap.size+1) 96 zs by have:=Blk.new (w.alloc (.cells (reA q bv O) 55)) 96 zs;simp only[World.size_alloc] at this;exact eW▸this);have ag:=I (show zs.size=37 by rw[X,Ca.AN]);have M:=I (Tu.start h hb);have NR:=I (h.fresh (Nat.le_refl w.heap.size));have NZ:=I (h.fresh (Nat.le_succ w.heap.size));have SB:=I ((SlT.up (g:=w.heap.size+1) ab (Nat.le_succ _)).below hb);have SA:=I (ae.below hb);have CO:=I (fun(w1:World) (h1:Cl w1 B p m s c) (hv:SlN (AO p m) w1 O q.b)=>NB h1 ad (by omega) s.ou.u O q.b hv);have t1:=BA h1;clear h ad hc ab ae hb X h1;go_enter Tryz.func26,Tryz.ntmps26
 go_upto_region 1 with fail
 rw[<-af.o,<-eW];clear eW af;have r0:=Z.c0;have r1:=Z.c1;have k0:W.cell? ⟨p.k,0,none⟩=some (.string ⟨p.P.1.toArray⟩):=M.o.cl.blk.cell 0;have k1:W.cell? ⟨p.k,1,none⟩=some (.string ⟨p.P.2.toArray⟩):=M.o.cl.blk.cell 1
 go_quiet (fail)
 have Y:=below_drewN (Below.refl W.heap.size W) nq;replace Z:=I (Z.o.below Y);replace HZ:=I (HZ.o.below Y);replace M:=I (M.o.below Y);replace SB:=I (SB.o.below Y);replace SA:=I (SA.o.below Y);clear Y r0 r1 k0 k1;generalize W.drewN nq=W1 at Z HZ M SB SA⊢
 go_wp2_with (first
  |(refine Wh.Cb (by rfl) 96 (.tmp 4) (.tmp 16) (by rfl) (w.heap.size+1) 96 zs HZ.o (crA Eh none 0) (by rfl) (by first | exact Ca.Ev▸rfl | rfl) (by rw[ag.o,Ca.AN]) (by rw[Ca.AN];exact Ca.Bt) (Ca.DL _ _ _) ?_;rintro V2 aa hg;have HV:=I aa;replace M:=I (M.o.over (Nat.le_succ _) NZ.o hg);clear aa hg)
  |fail)
 refine bodyPost_ret (v:=.tuple #[.agg (crA Eh none 0),.bool false]) ?_ ?_ ?_
 ·exact AD 4 5 96 ⟨w.heap.size+1,0,none⟩ Tryz.results26 (by rfl) (Wh.Ao HV.o Tryz.underlying96 (by rfl) (by rw[Ca.AN];exact Ca.Bt)) (by rfl)
 ·rfl
 ·exact Lq (M.o.more (Nat.le_succ _)) bv
theorem Yr (G:Rp):(rpC G).toArray.all (·.oneCell')=true:=by
 rw[List.all_toArray,List.all_eq_true];intro v M;simp only[rpC,Ms.prC,List.mem_append,List.mem_cons,List.not_mem_nil,or_false] at M;rcases M with M | (rfl | rfl) | rfl | rfl | rfl
 ·exact BM _ v M
 all_goals rfl
theorem FU {G:Rp} {g:Nat} {t:TypeId} (M:G.ss.length=32) (O:Blk w g t (rpC G).toArray):w.rangeAt g 0 (AX (ksOf G.ss)).toList/\w.cell? ⟨g,32,none⟩=some (.string ⟨G.s.1.toArray⟩)/\w.cell? ⟨g,33,none⟩=some (.string ⟨G.s.2.toArray⟩)/\w.cell? ⟨g,35,none⟩=some (.int .i64 G.en)/\w.cell? ⟨g,36,none⟩=some (.int .i64 G.no):=by
 have hk:w.rangeAt g 32 [.string ⟨G.s.1.toArray⟩,.string ⟨G.s.2.toArray⟩,.int .i64 G.st,.int .i64 G.en,.int .i64 G.no]:=Wh.Dk (pre:=bvs G.ss) (post:=[]) O (by simp [rpC,Ms.prC]) 32 (by simp [bvs,M]);refine⟨?_,hk 0 _ rfl,hk 1 _ rfl,hk 3 _ rfl,hk 4 _ rfl⟩;rw[WK M];exact Wh.Dk (pre:=[]) (post:=[.string ⟨G.s.1.toArray⟩,.string ⟨G.s.2.toArray⟩,.int .i64 G.st,.int .i64 G.en,.int .i64 G.no]) O (by simp [rpC,Ms.prC]) 0 rfl
theorem WL (x:Cr) {b:Value} (M:b.oneCell'=true):(crv x b).all (·.oneCell')=true:=by
 rw[List.all_toArray,List.all_eq_true];intro u hu;simp only[List.mem_cons,List.mem_append,List.not_mem_nil,or_false] at hu;rcases hu with h | h | h | h | h | h
 ·subst h;rfl
 ·subst h;rfl
 ·subst h;rfl
 ·subst h;exact M
 ·have:=Se.VU x.k
  rw[Array.all_eq_true_iff_forall_mem] at this;exact this u (Array.mem_def.2 h)
 ·subst h;rfl
theorem RO (x:Cr) (b:Value):Tryz.prog.built 96 [(0,.agg #[.string ⟨x.s.1.toArray⟩,.string ⟨x.s.2.toArray⟩,.int .i64 x.n,b]),(1,.agg (AX x.k)),(2,.int .i64 x.e)]=some (crv x b):=by kernel_rfl
theorem Ys {q:Re} {bv av:Value} (h:Cl w B p m s c) (aG:s.st=1/\s.ou.u≠0) (hc:c<=800000) (aA:SlN (AO p m) w bv q.t.b) (aO:SlN (AO p m) w av q.b) (h1:q.c=p.P) :
  Calls Tryz.prog 26 #[pv p.k,.agg (reA q bv av)] w (OpeP w B p m s c bv (opeL p.P s q)):=by
 obtain⟨zs,aB⟩:=Aj (crA Eh none 0);have aK:=I (aB.trans Ca.Ev);obtain⟨W,eW⟩:=Aj ((w.alloc (.cells (reA q bv av) 55)).alloc (.cells zs 96));have hb:Below w.heap.size w W:=eW▸(Ag.alloc Af _).alloc (by simp) _;have O:=I (show Blk W w.heap.size 55 (reA q bv av) from eW▸(Blk.new w _ _).alloc _);have Y:=I (show Blk W (w.heap.size+1) 96 zs by have:=Blk.new (w.alloc (.cells (reA q bv av) 55)) 96 zs;simp only[World.size_alloc] at this;exact eW▸this);have aw:=I (show zs.size=37 by rw[aB,Ca.AN]);have M:=I (Tu.start h hb);have NR:=I (h.fresh (Nat.le_refl w.heap.size));have NZ:=I (h.fresh (Nat.le_succ w.heap.size));have SB:=I ((SlT.up (g:=w.heap.size+1) aA (Nat.le_succ _)).below hb);have SA:=I (aO.below hb);have CO:=I (fun(w1:World) (h1:Cl w1 B p m s c) (hv:SlN (AO p m) w1 av q.b)=>NB h1 aG (by omega) s.ou.u av q.b hv);have t1:=Bb h1;have CD:=I (fun(w1:World) (v:Value) (m1:CM) (hv:SlN (AO p m1) w1 v (BX s.ou.ks s.ou.u q.b).1)=>(show Calls Tryz.prog 58 #[v] w1 fun e w'=>e=.returned (.tuple #[.agg (rpC (Mc.rpG (BX s.ou.ks s.ou.u q.b).1)).toArray,.int .i64 (Mc.rpI (BX s.ou.ks s.ou.u q.b).1)])/\Below w1.heap.size w1 w' by
  obtain⟨A,cp,rfl,_,hr⟩:=hv;exact Mc.Pb A _ cp w1 hr.rd))
 have ar:=Mc.Rv (BX s.ou.ks s.ou.u q.b).1;obtain⟨o,eo⟩:=Aj (opeL p.P s q);have e0:o=opeL p.P s q:=eo;unfold opeL at eo;rw[if_pos h1] at eo;rw[<-e0];obtain⟨r2,aD⟩:=Aj ((BX s.ou.ks s.ou.u q.b).2);obtain⟨ob,ax⟩:=Aj ((BX s.ou.ks s.ou.u q.b).1);rw[<-ax,<-aD] at CO;rw[<-ax] at CD ar;rw[<-ax,<-aD] at eo;obtain⟨G,eG⟩:=Aj (Mc.rpG ob);obtain⟨hi,aj⟩:=Aj (Mc.rpI ob);rw[<-eG] at CD ar;rw[<-aj] at CD;have aE:=I (show ¬r2=0->o=none from fun h=>by rw[eo,if_neg h]);have HI:=I (show hi=2\/hi=0 by rw[aj];unfold Mc.rpI;split<;>simp);have af:=I (show r2=0->hi=2->o=none from fun h g=>by
  rw[eo,if_pos h];cases h3:rpD ob with
  |none=>rfl
  |some G'=>rw[aj] at g;unfold Mc.rpI at g;rw[h3] at g;simp at g)
 have ad:=I (show r2=0->hi=0->o=if G.no=s.ou.no/\G.s=q.t.s then some ⟨q.t.s,q.t.k,q.t.b,ksOf G.ss,G.en⟩ else none from fun h g=>by
  rw[eo,if_pos h];cases h3:rpD ob with
  |none=>rw[aj] at g;unfold Mc.rpI at g;rw[h3] at g;simp at g
  |some G'=>
   have:G=G':=by rw[eG];unfold Mc.rpG;rw[h3];rfl
   subst this
   rfl)
 obtain⟨rs,ao⟩:=Aj ((rpC G).toArray);rw[<-ao] at CD;have aH:=I (show rs.size=37 by rw[ao];simp [rpC,Ms.prC,bvs,ar]);have aV:=I (show(Tryz.prog.info? 104).map (·.size)=some rs.size by rw[aH.o];kernel_rfl);have aW:=I (show rs.all (·.oneCell')=true by rw[ao];exact Yr G);have aP:=I (fun(w1:World) (g:Nat) (hx:Blk w1 g 104 rs)=>(show w1.rangeAt g 0 (AX (ksOf G.ss)).toList/\w1.cell? ⟨g,32,none⟩=some (.string ⟨G.s.1.toArray⟩)/\w1.cell? ⟨g,33,none⟩=some (.string ⟨G.s.2.toArray⟩)/\w1.cell? ⟨g,35,none⟩=some (.int .i64 G.en)/\w1.cell? ⟨g,36,none⟩=some (.int .i64 G.no) by rw[ao] at hx;exact FU ar hx));have aX:=I (show(Tryz.prog.info? 30).map (·.size)=some (AX (ksOf G.ss)).size by rw[AU];kernel_rfl);obtain⟨xs,au⟩:=Aj (crv ⟨q.t.s,q.t.k,q.t.b,ksOf G.ss,G.en⟩ bv);have aR:=I au;have aC:=I (show xs.size=37 by rw[au];simp [AU]);have az:=I (show(Tryz.prog.info? 96).map (·.size)=some xs.size by rw[aC.o];exact Ca.Bt);have aI:=I (show xs.all (·.oneCell')=true by rw[au];exact WL _ (Vc aA));have aY:=I (show Tryz.prog.built 96 [(0,.agg #[.string ⟨q.t.s.1.toArray⟩,.string ⟨q.t.s.2.toArray⟩,.int .i64 q.t.k,bv]),(1,.agg (AX (ksOf G.ss))),(2,.int .i64 G.en)]=some xs by rw[au];exact RO ⟨q.t.s,q.t.k,q.t.b,ksOf G.ss,G.en⟩ bv);clear h aG hc aA aO hb aB h1 ar ao ax aD eG aj au eo e0;go_enter Tryz.func26,Tryz.ntmps26
 go_upto_region 1 with fail
 rw[<-aK.o,<-eW];clear eW aK;have r0:=O.c0;have r1:=O.c1;have k0:W.cell? ⟨p.k,0,none⟩=some (.string ⟨p.P.1.toArray⟩):=M.o.cl.blk.cell 0;have k1:W.cell? ⟨p.k,1,none⟩=some (.string ⟨p.P.2.toArray⟩):=M.o.cl.blk.cell 1
 go_quiet (fail)
 have Z:=below_drewN (Below.refl W.heap.size W) nq;replace O:=I (O.o.below Z);replace Y:=I (Y.o.below Z);replace M:=I (M.o.below Z);replace SB:=I (SB.o.below Z);replace SA:=I (SA.o.below Z);clear Z r0 r1 k0 k1;generalize W.drewN nq=W1 at O Y M SB SA⊢
 go_upto_region 3 with fail
 have X:=I (show m.ov=m.ov from rfl);have ah:Below W1.heap.size W1 W1.drew:=below_drewN Ag 1;replace M:=I (M.o.below ah);replace O:=I (O.o.below ah);replace Y:=I (Y.o.below ah);replace SB:=I (SB.o.below ah);replace SA:=I (SA.o.below ah);clear ah;refine Reg.AW (fun w'=>Blk w' w.heap.size 55 (reA q bv av)/\w'.cell? ⟨p.k,14,none⟩=some m.ov/\w'.cell? ⟨p.k,15,none⟩=some (.int .i64 s.ou.u)) 20 rfl (by kernel_rfl) ⟨O.o,((M.o).cl.blk.cell 14).trans (congrArg some X.o),(M.o).cl.blk.cell 15⟩ ?_;refine Reg.ty 0 rfl ⟨O.o,((M.o).cl.blk.cell 14).trans (congrArg some X.o),(M.o).cl.blk.cell 15⟩ ?_;refine Reg.ty 1 rfl ⟨O.o,((M.o).cl.blk.cell 14).trans (congrArg some X.o),(M.o).cl.blk.cell 15⟩ ?_;refine Reg.ty 2 rfl ⟨O.o,((M.o).cl.blk.cell 14).trans (congrArg some X.o),(M.o).cl.blk.cell 15⟩ ?_;refine Reg.ty 3 rfl ⟨O.o,((M.o).cl.blk.cell 14).trans (congrArg some X.o),(M.o).cl.blk.cell 15⟩ ?_;refine Reg.ty 4 rfl ⟨O.o,((M.o).cl.blk.cell 14).trans (congrArg some X.o),(M.o).cl.blk.cell 15⟩ ?_;refine Reg.tw 5 rfl ⟨O.o,((M.o).cl.blk.cell 14).trans (congrArg some X.o),(M.o).cl.blk.cell 15⟩ (fun w' hS=>by obtain⟨hR,aF,aM⟩:=hS;go_simp<;>rfl) ?_;refine Reg.ty 6 rfl ⟨O.o,((M.o).cl.blk.cell 14).trans (congrArg some X.o),(M.o).cl.blk.cell 15⟩ ?_;refine Reg.ty 7 rfl ⟨O.o,((M.o).cl.blk.cell 14).trans (congrArg some X.o),(M.o).cl.blk.cell 15⟩ ?_;refine Reg.ty 8 rfl ⟨O.o,((M.o).cl.blk.cell 14).trans (congrArg some X.o),(M.o).cl.blk.cell 15⟩ ?_;refine Reg.ty 9 rfl ⟨O.o,((M.o).cl.blk.cell 14).trans (congrArg some X.o),(M.o).cl.blk.cell 15⟩ ?_;refine Reg.ty 10 rfl ⟨O.o,((M.o).cl.blk.cell 14).trans (congrArg some X.o),(M.o).cl.blk.cell 15⟩ ?_;refine Reg.tw 11 rfl ⟨O.o,((M.o).cl.blk.cell 14).trans (congrArg some X.o),(M.o).cl.blk.cell 15⟩ (fun w' hS=>by obtain⟨hR,aF,aM⟩:=hS;go_simp<;>rfl) ?_;refine Reg.ty 12 rfl ⟨O.o,((M.o).cl.blk.cell 14).trans (congrArg some X.o),(M.o).cl.blk.cell 15⟩ ?_;refine Reg.tw 13 (v:=av) rfl ⟨O.o,((M.o).cl.blk.cell 14).trans (congrArg some X.o),(M.o).cl.blk.cell 15⟩ (fun w' hS=>by obtain⟨hR,aF,aM⟩:=hS;have q6:=hR.cell 6;go_simp<;>rfl) ?_;refine Reg.b1 14 ?_
 right
 refine⟨_,_,_,_,_,_,57,#[m.ov,.int .i64 s.ou.u,av],rfl,by rfl,(by go_simp<;>first | rfl | exact⟨rfl,rfl⟩),?_⟩;refine Calls.mono (CO.o _ M.o.cl SA.o) ?_;rintro e aS ⟨v2,m3,rfl,aN,hs,hk⟩;have aa:=hk.blk O.o NR.o;replace NR:=I (hk.not NR.o O.o.lt);replace O:=I aa;clear aa;have aa:=hk.blk Y.o NZ.o;replace NZ:=I (hk.not NZ.o Y.o.lt);replace Y:=I aa;clear aa;replace SB:=I (SB.o.kn hk);replace SA:=I (hk.sl SA.o);replace M:=I (M.o.trans hk);have S2:=I (JD hs);replace X:=I aN;clear hk;clear CO SA hs aN;refine⟨_,rfl,⟨O.o,((M.o).cl.blk.cell 14).trans (congrArg some X.o),(M.o).cl.blk.cell 15⟩,?_⟩;simp only[Act.put,J,U,Aa];refine Reg.ty 15 rfl ⟨O.o,((M.o).cl.blk.cell 14).trans (congrArg some X.o),(M.o).cl.blk.cell 15⟩ ?_;refine Reg.ty 16 rfl ⟨O.o,((M.o).cl.blk.cell 14).trans (congrArg some X.o),(M.o).cl.blk.cell 15⟩ ?_;refine Reg.ty 17 rfl ⟨O.o,((M.o).cl.blk.cell 14).trans (congrArg some X.o),(M.o).cl.blk.cell 15⟩ ?_;refine Reg.ty 18 rfl ⟨O.o,((M.o).cl.blk.cell 14).trans (congrArg some X.o),(M.o).cl.blk.cell 15⟩ ?_;refine Reg.ty 19 rfl ⟨O.o,((M.o).cl.blk.cell 14).trans (congrArg some X.o),(M.o).cl.blk.cell 15⟩ ?_;refine wpAnyH_done (by kernel_rfl) ?_ _
 by_cases hr:r2=0
 case neg=>
  have ho:=aE.o hr;subst ho;have t2:decide (r2=0)=false:=decide_eq_false hr;have aZ:(r2 != 0)=true:=by simp [hr]
  clear hr aE HI af ad CD
  go_wp2_with (first
   |(go_at_call 57;refine Calls.mono (CO.o _ M.o.cl SA.o) ?_;rintro e w3 ⟨v2,m3,rfl,hs,hk⟩;clear CO SA;have S2:=I (JD hs);have aa:=hk.blk O.o NR.o;replace NR:=I (hk.not NR.o O.o.lt);replace O:=I aa;have aa:=hk.blk Y.o NZ.o;replace NZ:=I (hk.not NZ.o Y.o.lt);replace Y:=I aa;replace SB:=I (SB.o.kn hk);replace M:=I (M.o.trans hk);clear hs hk aa)
   |(refine Wh.Cb (by rfl) 96 (.tmp 4) (.tmp 37) (by rfl) (w.heap.size+1) 96 zs Y.o (crA Eh none 0) (by rfl) (by first | exact Ca.Ev▸rfl | rfl) (by rw[aw.o,Ca.AN]) (by rw[Ca.AN];exact Ca.Bt) (Ca.DL _ _ _) ?_;rintro V2 ab hg;have HV:=I ab;replace M:=I (M.o.over (Nat.le_succ _) NZ.o hg);clear ab hg)
   |fail)
  refine bodyPost_ret (v:=.tuple #[.agg (crA Eh none 0),.bool false]) ?_ ?_ ?_
  ·exact AD 4 5 96 ⟨w.heap.size+1,0,none⟩ Tryz.results26 (by rfl) (Wh.Ao HV.o Tryz.underlying96 (by rfl) (by rw[Ca.AN];exact Ca.Bt)) (by rfl)
  ·rfl
  ·exact Lq M.o bv
 have aJ:=af.o hr;have aL:=ad.o hr;subst hr;clear aE af ad;have af:=I aJ;have ad:=I aL;clear aJ aL
 go_upto_region 7 with(first
  |(go_at_call 57;refine Calls.mono (CO.o _ M.o.cl SA.o) ?_;rintro e w3 ⟨v2,m3,rfl,hs,hk⟩;clear CO SA;have S2:=I (JD hs);have aa:=hk.blk O.o NR.o;replace NR:=I (hk.not NR.o O.o.lt);replace O:=I aa;have aa:=hk.blk Y.o NZ.o;replace NZ:=I (hk.not NZ.o Y.o.lt);replace Y:=I aa;replace SB:=I (SB.o.kn hk);replace M:=I (M.o.trans hk);clear hs hk aa)
  |(go_at_call 58;refine Ah (CD.o _ _ _ S2.o) ?_;rintro w4 hb;clear CD S2;replace O:=I (O.o.below hb);replace Y:=I (Y.o.below hb);replace M:=I (M.o.below hb);replace SB:=I (SB.o.below hb);clear hb)
  |(refine Wh.Bh (by rfl) 104 (.tmp 8) (.tmp 41) (by rfl) 104 rfl rs (by rfl) (by rfl) (by rw[aH.o];rfl) aV.o aW.o ?_;rintro V1 hV hb;have HV:=I hV;replace O:=I (O.o.below hb);replace Y:=I (Y.o.below hb);replace M:=I (M.o.below hb);replace SB:=I (SB.o.below hb);clear hV hb)
  |fail)
 obtain⟨v0,an,al,ag,ai⟩:=aP.o _ _ HV.o;have r2:=O.c2;have r3:=O.c3;have ay:V1.cell? ⟨p.k,13,none⟩=some (.int .i64 s.ou.no):=M.o.cl.blk.cell 13;obtain⟨gv,aQ⟩:=Aj (w4.heap.size);rw[<-aQ] at HV v0 an al ag ai⊢;clear aQ;rcases HI.o with ak | ak
 ·have ho:=af.o ak
  subst ho;subst ak;clear HI af ad
  go_quiet (fail)
  have Z:=below_drewN (Below.refl V1.heap.size V1) nq;replace O:=I (O.o.below Z);replace Y:=I (Y.o.below Z);replace M:=I (M.o.below Z);replace SB:=I (SB.o.below Z);replace HV:=I (HV.o.below Z);clear Z r2 r3 ay v0 an al ag ai;generalize V1.drewN nq=V3 at O Y M SB HV⊢
  go_wp2_with (first
   |(refine Wh.Cb (by rfl) 96 (.tmp 4) (.tmp 64) (by rfl) (w.heap.size+1) 96 zs Y.o (crA Eh none 0) (by rfl) (by first | exact Ca.Ev▸rfl | rfl) (by rw[aw.o,Ca.AN]) (by rw[Ca.AN];exact Ca.Bt) (Ca.DL _ _ _) ?_;rintro V2 ab hg;have ae:=I ab;replace M:=I (M.o.over (Nat.le_succ _) NZ.o hg);clear ab hg)
   |fail)
  refine bodyPost_ret (v:=.tuple #[.agg (crA Eh none 0),.bool false]) ?_ ?_ ?_
  ·exact AD 4 5 96 ⟨w.heap.size+1,0,none⟩ Tryz.results26 (by rfl) (Wh.Ao ae.o Tryz.underlying96 (by rfl) (by rw[Ca.AN];exact Ca.Bt)) (by rfl)
  ·rfl
  ·exact Lq M.o bv
 have ho:=ad.o ak;subst ak;clear HI af ad
 by_cases h4:G.no=s.ou.no
 case neg=>
  rw[if_neg (fun x=>h4 x.1)] at ho;subst ho;have t4:decide (G.no=s.ou.no)=false:=decide_eq_false h4;have aT:(G.no != s.ou.no)=true:=by simp [h4]
  clear h4
  go_quiet (fail)
  have Z:=below_drewN (Below.refl V1.heap.size V1) nq;replace O:=I (O.o.below Z);replace Y:=I (Y.o.below Z);replace M:=I (M.o.below Z);replace SB:=I (SB.o.below Z);replace HV:=I (HV.o.below Z);clear Z r2 r3 ay v0 an al ag ai;generalize V1.drewN nq=V3 at O Y M SB HV⊢
  go_wp2_with (first
   |(refine Wh.Cb (by rfl) 96 (.tmp 4) (.tmp 64) (by rfl) (w.heap.size+1) 96 zs Y.o (crA Eh none 0) (by rfl) (by first | exact Ca.Ev▸rfl | rfl) (by rw[aw.o,Ca.AN]) (by rw[Ca.AN];exact Ca.Bt) (Ca.DL _ _ _) ?_;rintro V2 ab hg;have ae:=I ab;replace M:=I (M.o.over (Nat.le_succ _) NZ.o hg);clear ab hg)
   |fail)
  refine bodyPost_ret (v:=.tuple #[.agg (crA Eh none 0),.bool false]) ?_ ?_ ?_
  ·exact AD 4 5 96 ⟨w.heap.size+1,0,none⟩ Tryz.results26 (by rfl) (Wh.Ao ae.o Tryz.underlying96 (by rfl) (by rw[Ca.AN];exact Ca.Bt)) (by rfl)
  ·rfl
  ·exact Lq M.o bv
 have t4:decide (G.no=s.ou.no)=true:=decide_eq_true h4;have aT:(G.no != s.ou.no)=false:=by simp [h4]
 by_cases h5:G.s=q.t.s
 case neg=>
  rw[if_neg (fun x=>h5 x.2)] at ho;subst ho;have t5:=BA h5;clear h4 h5
  go_quiet (fail)
  have Z:=below_drewN (Below.refl V1.heap.size V1) nq;replace O:=I (O.o.below Z);replace Y:=I (Y.o.below Z);replace M:=I (M.o.below Z);replace SB:=I (SB.o.below Z);replace HV:=I (HV.o.below Z);clear Z r2 r3 ay v0 an al ag ai;generalize V1.drewN nq=V3 at O Y M SB HV⊢
  go_wp2_with (first
   |(refine Wh.Cb (by rfl) 96 (.tmp 4) (.tmp 64) (by rfl) (w.heap.size+1) 96 zs Y.o (crA Eh none 0) (by rfl) (by first | exact Ca.Ev▸rfl | rfl) (by rw[aw.o,Ca.AN]) (by rw[Ca.AN];exact Ca.Bt) (Ca.DL _ _ _) ?_;rintro V2 ab hg;have ae:=I ab;replace M:=I (M.o.over (Nat.le_succ _) NZ.o hg);clear ab hg)
   |fail)
  refine bodyPost_ret (v:=.tuple #[.agg (crA Eh none 0),.bool false]) ?_ ?_ ?_
  ·exact AD 4 5 96 ⟨w.heap.size+1,0,none⟩ Tryz.results26 (by rfl) (Wh.Ao ae.o Tryz.underlying96 (by rfl) (by rw[Ca.AN];exact Ca.Bt)) (by rfl)
  ·rfl
  ·exact Lq M.o bv
 rw[if_pos ⟨h4,h5⟩] at ho;subst ho;have t5:=Bb h5;clear h4 h5
 go_quiet (fail)
 have Z:=below_drewN (Below.refl V1.heap.size V1) nq;replace O:=I (O.o.below Z);replace Y:=I (Y.o.below Z);replace M:=I (M.o.below Z);replace SB:=I (SB.o.below Z);replace HV:=I (HV.o.below Z);clear Z r2 r3 ay v0 an al ag ai;generalize V1.drewN nq=V3 at O Y M SB HV⊢;have r2:=O.c2;have r3:=O.c3;have r4:=O.c4;have r5:=O.c5;obtain⟨v0,_,_,ag,_⟩:=aP.o _ _ HV.o;have aU:=I v0;clear v0
 go_wp2_with (first
  |(refine Wh.AG (by rfl) 30 (.tmp 67) (by rfl) gv 0 (by rfl) (AX (ksOf G.ss)) _ aU.o Tryz.underlying30 (by rfl) aX.o ?_)
  |(refine Mc.Ay (by rfl) 96 #[(0,.tmp 66),(1,.tmp 68),(2,.tmp 70)] (by rfl) xs (by simp only[List.map_toArray,List.map_cons,List.map_nil];exact aY.o) ?_)
  |(refine Wh.Cb (by rfl) 96 (.tmp 4) (.tmp 71) (by rfl) (w.heap.size+1) 96 zs Y.o xs (by rfl) (by rfl) (by rw[aw.o,aC.o]) az.o aI.o ?_;rintro V2 ab hg;have ae:=I ab;replace M:=I (M.o.over (Nat.le_succ _) NZ.o hg);replace SB:=I (SlT.over SB.o hg);clear ab hg)
  |fail)
 refine bodyPost_ret (v:=.tuple #[.agg xs,.bool true]) ?_ ?_ ?_
 ·exact AD 4 5 96 ⟨w.heap.size+1,0,none⟩ Tryz.results26 (by rfl) (Wh.Ao ae.o Tryz.underlying96 (by rfl) az.o) (by rfl)
 ·rfl
 ·exact⟨xs,_,rfl,aC.o,aI.o,az.o,(fun x hx=>by rw[<-Option.some.inj hx];exact⟨aR.o,SB.o⟩),M.o⟩
theorem RP {q:Re} {bv Z:Value} (h:Cl w B p m s c) (X:s.st=1/\s.ou.u≠0) (Y:c<=800000) (O:SlN (AO p m) w bv q.t.b) (M:SlN (AO p m) w Z q.b) :
  Calls Tryz.prog 26 #[pv p.k,.agg (reA q bv Z)] w (OpeP w B p m s c bv (opeL p.P s q)):=by
 by_cases h1:q.c=p.P
 ·exact Ys h X Y O M h1
 ·unfold opeL;rw[if_neg h1];exact ope_1 h X Y O M h1
end
end Cl
namespace Cl
open Go.RowKit Ae Se
open Nm (L krb tgL tgR DD)
open Ms (Pr tmB pSm mSm mgO An Mg As Tg)
open Rg (prV Bb BA)
section
variable {w w' w0:World} {B:Nat} {p:CP} {m m' m0:CM} {s:St} {c:Nat} {r:L}
theorem Lr {q:Pr} (h:Cl w B p m s c) (hz:Sz p s c) (hc:c<=800000) (hq:pSm q) :
  Calls Tryz.prog 60 #[pv p.k,prV q] w fun e w'=>e=.returned (.tuple #[.string ⟨(refL p.P s q).1.toArray⟩,.int .i64 (refL p.P s q).2])/\Below w.heap.size w w':=by
 obtain⟨W,eW⟩:=Aj (w.alloc (.cells #[.string ⟨q.1.toArray⟩,.string ⟨q.2.toArray⟩] 35));have Y:Below w.heap.size w W:=eW▸Ag.alloc Af _;have X:=I (show Blk W w.heap.size 35 #[.string ⟨q.1.toArray⟩,.string ⟨q.2.toArray⟩] from eW▸Blk.new w _ _);have O:=I (h.below Y);have HB:=I Y;have C1:=I (fun(Z:World)=>DD q.2 Z hq.2);have C2:=I (fun(Z:World) (h1:Cl Z B p m s c)=>Yo h1 hz.pp.2);obtain⟨A,cp,ab,_⟩:=h.vis.slice;have C3:=I (fun(Z:World) (h1:Cl Z B p m s c)=>(show Calls Tryz.prog 110 #[.slice A s.vs.length cp,.string ⟨(tgR q.2).toArray⟩] Z fun e w'=>e=.returned (.bool (decide (tgR q.2∈s.vs)))/\Z=w' by
  obtain⟨A2,c2,e2,hr⟩:=h1.vis.slice;rw[ab] at e2;injection e2 with e2 _ e4;subst e2 e4;exact Tr.KC s.vs A cp Z.heap.size (tgR q.2) Z (by have:=hz.vs.1;omega) hr))
 have ad:=I (fun(Z:World) (h1:Cl Z B p m s c)=>(show Z.cell? ⟨p.k,12,none⟩=some (.slice A s.vs.length cp) by rw[<-ab];exact h1.blk.cell 12));have M:=I (fun(Z:World) (h1:Cl Z B p m s c)=>(show Z.cell? ⟨p.k,15,none⟩=some (.int .i64 s.ou.u) from h1.blk.cell 15));have HL:=I (show s.vs.length<=1000000 by have:=hz.vs.1;omega);have E:=I (show refL p.P s q=(if tgL q.2=true then (if s.ou.u=3/\q≠own p.P then ([],9) else if tgR q.2∈s.vs then ([],14) else if 5<s.vs.length then ([],15) else (tgR q.2,0)) else ([],9)) from rfl);obtain⟨R,eR⟩:=Aj (refL p.P s q);rw[<-eR] at E⊢;obtain⟨n,en⟩:=Aj (s.vs.length);rw[<-en] at C3 ad HL E;obtain⟨o,eo⟩:=Aj (own p.P);rw[<-eo] at C2 E;obtain⟨t,et⟩:=Aj (tgR q.2);rw[<-et] at C1 C3 E;obtain⟨bt,ae⟩:=Aj (tgL q.2);rw[<-ae] at C1 E;obtain⟨u,eu⟩:=Aj (s.ou.u);rw[<-eu] at M E;clear h hz hc hq Y ab eR en eo et ae eu;cases bt
 ·replace E:=I (show R=([],9) by rw[E.o];rfl)
  go_enter Tryz.func60,Tryz.ntmps60
  go_upto_region 1 with fail
  rw[<-eW];clear eW;have k1:=X.c1
  go_wp2_with (first
   |(go_at_call 45;refine Ah (C1.o _) ?_;rintro Z Y;clear C1 k1;replace HB:=HB.t Y;clear Y)
   |fail)
  go_ret2
  exact⟨by rw[E.o];rfl,HB.o⟩
 replace E:=I (show R=(if u=3/\q≠o then ([],9) else if t∈s.vs then ([],14) else if 5<n then ([],15) else (t,0)) by rw[E.o];rfl);go_enter Tryz.func60,Tryz.ntmps60
 go_upto_region 1 with fail
 rw[<-eW];clear eW;have k1:=X.c1
 go_upto_region 4 with(first
  |(go_at_call 45;refine Ah (C1.o _) ?_;rintro Z Y;clear C1 k1;replace X:=I (X.o.below Y);replace O:=I (O.o.below Y);replace HB:=HB.t Y;clear Y)
  |fail)
 go_cut [28] from 16 to 27 (fun ah wx=>ah=.bool (decide (u=3/\q≠o))/\Cl wx B p m s c/\Below w.heap.size w wx)
 case first=>
  by_cases h3:u=3
  ·subst h3
   have hd:Below Z.heap.size Z Z.drew:=below_drewN Ag 1;replace X:=I (X.o.below hd);replace O:=I (O.o.below hd);replace HB:=HB.t hd;clear hd
   by_cases ho:q=o
   ·have t1:=Bb ho
    have HO:=I ho;clear ho;refine Reg.AW (fun w'=>Blk w' w.heap.size 35 #[.string ⟨q.1.toArray⟩,.string ⟨q.2.toArray⟩]/\w'.cell? ⟨p.k,15,none⟩=some (.int .i64 3)) 13 rfl (by kernel_rfl) ⟨X.o,M.o _ (O.o)⟩ ?_;refine Reg.ty 0 rfl ⟨X.o,M.o _ (O.o)⟩ ?_;refine Reg.ty 1 rfl ⟨X.o,M.o _ (O.o)⟩ ?_;refine Reg.ty 2 rfl ⟨X.o,M.o _ (O.o)⟩ ?_;refine Reg.ty 3 rfl ⟨X.o,M.o _ (O.o)⟩ ?_;refine Reg.ty 4 rfl ⟨X.o,M.o _ (O.o)⟩ ?_;refine Reg.tw 5 rfl ⟨X.o,M.o _ (O.o)⟩ (fun w' hS=>by obtain⟨hQ,aa⟩:=hS;go_simp<;>rfl) ?_;refine Reg.tw 6 (v:=.bool true) rfl ⟨X.o,M.o _ (O.o)⟩ (fun w' hS=>by obtain⟨hQ,aa⟩:=hS;go_simp<;>rfl) ?_;refine Reg.ty 7 rfl ⟨X.o,M.o _ (O.o)⟩ ?_;refine Reg.tw 8 (v:=prV q) rfl ⟨X.o,M.o _ (O.o)⟩ (fun w' hS=>by obtain⟨hQ,aa⟩:=hS;have q0:=hQ.cell 0;have q1:=hQ.cell 1;go_simp<;>rfl) ?_;refine Reg.ty 9 rfl ⟨X.o,M.o _ (O.o)⟩ ?_;refine Reg.b1 10 ?_
    right
    refine⟨_,_,_,_,_,_,48,#[pv p.k],rfl,by rfl,(by go_simp<;>first | rfl | exact⟨rfl,rfl⟩),?_⟩;refine Ah (C2.o _ O.o) ?_;rintro af Y;replace X:=I (X.o.below Y);replace O:=I (O.o.below Y);replace HB:=HB.t Y;clear Y;clear C2;refine⟨_,rfl,⟨X.o,M.o _ (O.o)⟩,?_⟩;simp only[Act.put,J,U,Aa];refine Reg.tw 11 (v:=.bool false) rfl ⟨X.o,M.o _ (O.o)⟩ (fun w' hS=>by obtain⟨hQ,aa⟩:=hS;go_simp<;>rfl) ?_;refine Reg.tw 12 (v:=.bool false) rfl ⟨X.o,M.o _ (O.o)⟩ (fun w' hS=>by obtain⟨hQ,aa⟩:=hS;go_simp<;>rfl) ?_;refine wpAnyH_done (by kernel_rfl) ?_ _
    go_wp2_with fail
    go_meet
    exact⟨congrArg Value.bool (Eq.symm (decide_eq_false (by first | exact fun x=>x.2 HO.o | exact⟨rfl,HO.o⟩ | exact⟨trivial,HO.o⟩))),O.o,HB.o⟩
   ·have t1:=BA ho
    have HO:=I ho;clear ho;refine Reg.AW (fun w'=>Blk w' w.heap.size 35 #[.string ⟨q.1.toArray⟩,.string ⟨q.2.toArray⟩]/\w'.cell? ⟨p.k,15,none⟩=some (.int .i64 3)) 13 rfl (by kernel_rfl) ⟨X.o,M.o _ (O.o)⟩ ?_;refine Reg.ty 0 rfl ⟨X.o,M.o _ (O.o)⟩ ?_;refine Reg.ty 1 rfl ⟨X.o,M.o _ (O.o)⟩ ?_;refine Reg.ty 2 rfl ⟨X.o,M.o _ (O.o)⟩ ?_;refine Reg.ty 3 rfl ⟨X.o,M.o _ (O.o)⟩ ?_;refine Reg.ty 4 rfl ⟨X.o,M.o _ (O.o)⟩ ?_;refine Reg.tw 5 rfl ⟨X.o,M.o _ (O.o)⟩ (fun w' hS=>by obtain⟨hQ,aa⟩:=hS;go_simp<;>rfl) ?_;refine Reg.tw 6 (v:=.bool true) rfl ⟨X.o,M.o _ (O.o)⟩ (fun w' hS=>by obtain⟨hQ,aa⟩:=hS;go_simp<;>rfl) ?_;refine Reg.ty 7 rfl ⟨X.o,M.o _ (O.o)⟩ ?_;refine Reg.tw 8 (v:=prV q) rfl ⟨X.o,M.o _ (O.o)⟩ (fun w' hS=>by obtain⟨hQ,aa⟩:=hS;have q0:=hQ.cell 0;have q1:=hQ.cell 1;go_simp<;>rfl) ?_;refine Reg.ty 9 rfl ⟨X.o,M.o _ (O.o)⟩ ?_;refine Reg.b1 10 ?_
    right
    refine⟨_,_,_,_,_,_,48,#[pv p.k],rfl,by rfl,(by go_simp<;>first | rfl | exact⟨rfl,rfl⟩),?_⟩;refine Ah (C2.o _ O.o) ?_;rintro ag Y;replace X:=I (X.o.below Y);replace O:=I (O.o.below Y);replace HB:=HB.t Y;clear Y;clear C2;refine⟨_,rfl,⟨X.o,M.o _ (O.o)⟩,?_⟩;simp only[Act.put,J,U,Aa];refine Reg.tw 11 (v:=.bool true) rfl ⟨X.o,M.o _ (O.o)⟩ (fun w' hS=>by obtain⟨hQ,aa⟩:=hS;go_simp<;>rfl) ?_;refine Reg.tw 12 (v:=.bool true) rfl ⟨X.o,M.o _ (O.o)⟩ (fun w' hS=>by obtain⟨hQ,aa⟩:=hS;go_simp<;>rfl) ?_;refine wpAnyH_done (by kernel_rfl) ?_ _
    go_wp2_with fail
    go_meet
    exact⟨congrArg Value.bool (Eq.symm (decide_eq_true (by first | exact fun x=>x.2 HO.o | exact⟨rfl,HO.o⟩ | exact⟨trivial,HO.o⟩))),O.o,HB.o⟩
  ·have t3:decide (u=3)=false:=decide_eq_false h3
   have aa:=M.o _ O.o
   go_quiet (fail)
   have hd:=below_drewN (Below.refl Z.heap.size Z) nq
   go_wp2_with fail
   go_meet
   exact⟨congrArg Value.bool (Eq.symm (decide_eq_false (fun x=>h3 x.1))),O.o.below hd,HB.o.trans (hd.mono HB.o.size)⟩
 case rest=>
  obtain⟨rfl,hk,Y⟩:=hcut;replace O:=I hk;replace HB:=I Y;clear hk Y C2 X M;have ai:=ad.o _ O.o;have c3:=C3.o _ O.o;clear C3 ad
  by_cases h1:u=3/\q≠o
  ·rw[decide_eq_true h1]
   replace E:=I (show R=([],9) by rw[E.o,if_pos h1]);clear h1
   go_wp2_with fail
   go_ret2
   exact⟨by rw[E.o];rfl,HB.o⟩
  ·rw[decide_eq_false h1]
   replace E:=I (show R=(if t∈s.vs then ([],14) else if 5<n then ([],15) else (t,0)) by rw[E.o,if_neg h1]);clear h1
   by_cases h2:t∈s.vs
   ·rw[decide_eq_true h2] at c3
    replace E:=I (show R=([],14) by rw[E.o,if_pos h2]);clear h2
    go_wp2_with (first
     |(go_at_call 110;refine Ah c3 ?_;rintro w3 hw;subst hw;clear c3)
     |fail)
    go_ret2
    exact⟨by rw[E.o];rfl,HB.o⟩
   ·rw[decide_eq_false h2] at c3
    replace E:=I (show R=(if 5<n then ([],15) else (t,0)) by rw[E.o,if_neg h2]);clear h2
    by_cases h5:5<n
    ·have t5:decide ((5:Int)<(n:Int))=true:=decide_eq_true (by omega)
     replace E:=I (show R=([],15) by rw[E.o,if_pos h5]);clear h5
     go_wp2_with (first
      |(go_at_call 110;refine Ah c3 ?_;rintro w3 hw;subst hw;clear c3)
      |fail)
     go_ret2
     exact⟨by rw[E.o];rfl,HB.o⟩
    ·have t5:decide ((5:Int)<(n:Int))=false:=decide_eq_false (by omega)
     replace E:=I (show R=(t,0) by rw[E.o,if_neg h5]);clear h5
     go_wp2_with (first
      |(go_at_call 110;refine Ah c3 ?_;rintro w3 hw;subst hw;clear c3)
      |fail)
     go_ret2
     exact⟨by rw[E.o];rfl,HB.o⟩
end
end Cl
namespace Cl
open Go.RowKit Ae Se
open Nm (L krb tgL tgR)
open Ms (Pr tmB pSm mSm mgO An Mg As Tg Re Rp)
open Rg (prV Bb BA)
open Ca (Cr It crA putL putE)
section
variable {w w' w0:World} {B:Nat} {p:CP} {m m' m0:CM} {s:St} {c:Nat} {r:L}
def StP (w:World) (B:Nat) (p:CP) (m:CM) (c:Nat) (r:St×(L×L)) (e:Ending) (w':World):Prop:=
 ∃v m',e=.returned (.tuple #[.string ⟨r.2.1.toArray⟩,v])/\SlN (Out w p m') w' v r.2.2/\Tu w w' B p m m' r.1 c
theorem MD {x:Cr} (h:Okx x):Ca.Fit x:=⟨Nat.le_trans h.1.1 (by decide),Nat.le_trans h.1.2 (by decide),Nat.le_trans h.2 (by decide)⟩
theorem Un {x:Cr} {bv:Value} {now:Int} (h:Cl w B p m s c) (hz:Sz p s c) (X:Okx x) (Z:SlN (AO p m) w bv x.b) :
  Calls Tryz.prog 59 #[pv p.r,prV x.s,.agg (crv x bv),.int .i64 now] w fun e w'=>e=.returned (.int .i64 ((putE s.l x.s now:Nat):Int))/\∃m',Tu w w' B p m m' (putS mC s x now) c:=by
 obtain⟨A,cp,rfl,aa,Y⟩:=Z;have hl:=congrArg List.length h.li;rw[Ca.Eg] at hl;refine(Ca.put_b (l:=putL s.l x.s x now) (z:=putE s.l x.s now) x.s x A cp now h.ca Y.rd (fun a M hn O=>?_) (MD X).1 (MD X).2.1 (MD X) (by have:=hz.l;omega) (by rw[h.li]) (by rw[h.li])).mono ?_
 ·rcases Y with y | ⟨b,o,e1,_,hS,_⟩
  ·exact hn (by cases hb:x.b with
    |nil=>rfl
    |cons a l=>rw[hb] at y;simp [bvs] at y)
  ·rw[e1] at M
   injection M with M;subst M;exact hS ⟨2,O⟩
 ·rintro e w' ⟨rfl,v',es',h1,h2,h3,h4⟩
  exact⟨rfl,_,h.cache h3 h1 h2 h4⟩
theorem RQ {x:Cr} {now:Int} (M:Sz p s c) (X:Okx x):Sz p (putS mC s x now) c:=by
 refine⟨M.nn,M.ss,M.qq,M.sn,M.vs,M.tg,Ca.SM _ _ _ _ M.l,fun i O=>?_,M.pp⟩;have O:i∈putL s.l x.s x now:=O;unfold putL at O
 split at O
 ·rcases List.mem_append.1 O with y | y
  ·exact M.x i ((List.mem_filter.1 y).1)
  ·rw[List.mem_singleton] at y
   subst y;exact X
 ·exact M.x i ((List.mem_filter.1 O).1)
theorem Uo {q:Pr} (h:pSm q):(refL p.P s q).1.length<=1000000:=by
 unfold refL
 split
 ·rename_i hb
  split
  ·exact Nat.zero_le _
  ·split
   ·exact Nat.zero_le _
   ·split
    ·exact Nat.zero_le _
    ·show(tgR q.2).length<=1000000
     have M:Nm.BN (Nm.cpL Nm.krb q.2)≠0:=by
      rw[Nm.tgL,Bool.and_eq_true] at hb;have:=hb.2;simp only[Nm.isL,decide_eq_true_eq] at this;omega
     have X:=Tr.JM M;have O:Nm.cpL Nm.krb q.2=q.2.drop 7:=by rw[Nm.tgL,Bool.and_eq_true] at hb;rw[Nm.cpL,hb.1];rfl
     rw[Nm.tgR,hb,if_pos rfl,<-O];omega
 ·exact Nat.zero_le _
theorem Tu.more3 (h:Tu w0 w B p m0 m s c):Tu w0 w B p m0 m s (c+3):=h.more (by omega)
theorem Tu.more1 (h:Tu w0 w B p m0 m s (c+2)):Tu w0 w B p m0 m s (c+3):=h.more (by omega)
theorem go_1 {x:Cr} {bv:Value} {now:Int} (h:Cl w B p m s c) (hz:Sz p s c) (hc:c<=800000) (hx:Okx x) (ht:tmB now=true) (hv:SlN (AO p m) w bv x.b) (h1:putE s.l x.s now≠0) :
  Calls Tryz.prog 27 #[pv p.k,.agg (crv x bv),.int .i64 now] w (StP w B p m (c+3) (endS mC (putS mC s x now) 3 ((putE s.l x.s now:Nat):Int),([],[]))):=by
 have C1:=I (fun(w1:World) (h1:Cl w1 B p m s c) (hv:SlN (AO p m) w1 bv x.b)=>Un (now:=now) h1 hz hx hv);have CE:=I (fun(w1:World) (m1:CM) (h1:Cl w1 B p m1 (putS mC s x now) c)=>Il (st:=3) (er:=((putE s.l x.s now:Nat):Int)) h1 (by decide));obtain⟨z,ez⟩:∃z:Int,z=((putE s.l x.s now:Nat):Int):=⟨_,rfl⟩;have ad:z≠0:=by omega
 rw[<-ez] at C1 CE⊢;have t1:decide (z=0)=false:=decide_eq_false ad;have ah:(z != 0)=true:=by simp [ad]
 obtain⟨cx,Y⟩:=Aj (crv x bv);obtain⟨W,eW⟩:=Aj (w.alloc (.cells cx 96));have hb:Below w.heap.size w W:=eW▸Ag.alloc Af _;have O:=I (show Blk W w.heap.size 96 cx from eW▸Blk.new w _ _);have M:=I (Tu.start h hb);have NX:=I (h.fresh (Nat.le_refl w.heap.size));have SB:=I (hv.below hb);have ag:=I (show(Tryz.prog.info? 96).map (·.size)=some cx.size by rw[show cx.size=37 by rw[Y];simp [AU]];exact Ca.Bt);have x0:W.cell? ⟨w.heap.size,0,none⟩=some (.string ⟨x.s.1.toArray⟩):=by have:=O.o.cell 0;rw[Y] at this;exact this
 have x1:W.cell? ⟨w.heap.size,1,none⟩=some (.string ⟨x.s.2.toArray⟩):=by have:=O.o.cell 1;rw[Y] at this;exact this
 rw[<-Y] at C1⊢;clear h hz hc hx ht hv hb Y h1 ad ez;go_enter Tryz.func27,Tryz.ntmps27
 go_upto_region 1 with fail
 rw[<-eW];clear eW
 go_upto_region 2 with fail
 obtain⟨W2,ab⟩:=Aj (W.alloc (.cells #[.string ⟨x.s.1.toArray⟩,.string ⟨x.s.2.toArray⟩] 35));have hb:Below W.heap.size W W2:=ab▸Ag.alloc Af _;have X:=I (show Blk W2 W.heap.size 35 #[.string ⟨x.s.1.toArray⟩,.string ⟨x.s.2.toArray⟩] from ab▸Blk.new W _ _);have NQ:=I (M.o.cl.fresh (Nat.le_refl W.heap.size));replace O:=I (O.o.below hb);replace M:=I (M.o.below hb);replace SB:=I (SB.o.below hb);rw[<-ab];clear ab hb x0 x1;obtain⟨gq,af⟩:=Aj (W.heap.size);rw[<-af] at X NQ⊢;clear af;have aa:Below W2.heap.size W2 W2.drew:=below_drewN Ag 1;replace M:=I (M.o.below aa);replace O:=I (O.o.below aa);replace X:=I (X.o.below aa);replace SB:=I (SB.o.below aa);clear aa;refine Reg.AW (fun w'=>Blk w' w.heap.size 96 cx/\Blk w' gq 35 #[.string ⟨x.s.1.toArray⟩,.string ⟨x.s.2.toArray⟩]/\w'.cell? ⟨p.k,3,none⟩=some (pv p.r)) 9 rfl (by kernel_rfl) ⟨O.o,X.o,(M.o).cl.blk.cell 3⟩ ?_;refine Reg.ty 0 rfl ⟨O.o,X.o,(M.o).cl.blk.cell 3⟩ ?_;refine Reg.ty 1 rfl ⟨O.o,X.o,(M.o).cl.blk.cell 3⟩ ?_;refine Reg.ty 2 rfl ⟨O.o,X.o,(M.o).cl.blk.cell 3⟩ ?_;refine Reg.tw 3 rfl ⟨O.o,X.o,(M.o).cl.blk.cell 3⟩ (fun w' hS=>by obtain⟨hX,hQ,k3⟩:=hS;go_simp<;>rfl) ?_;refine Reg.tw 4 rfl ⟨O.o,X.o,(M.o).cl.blk.cell 3⟩ (fun w' hS=>by obtain⟨hX,hQ,k3⟩:=hS;have q0:=hQ.cell 0;have q1:=hQ.cell 1;go_simp<;>rfl) ?_;refine Reg.tw 5 (v:=.agg cx) rfl ⟨O.o,X.o,(M.o).cl.blk.cell 3⟩ (fun w' hS=>by obtain⟨hX,hQ,k3⟩:=hS;exact IZ (.tmp 4) rfl rfl (Wh.Ac hX) Tryz.underlying96 (by rfl) ag.o) ?_;refine Reg.ty 6 rfl ⟨O.o,X.o,(M.o).cl.blk.cell 3⟩ ?_;refine Reg.b1 7 ?_
 right
 refine⟨_,_,_,_,_,_,59,#[pv p.r,prV x.s,.agg cx,.int .i64 now],rfl,by rfl,(by go_simp<;>first | rfl | exact⟨rfl,rfl⟩),?_⟩;refine Ah (C1.o _ M.o.cl SB.o) ?_;rintro ae ⟨m3,hk⟩;have Z:=hk.blk O.o NX.o;replace NX:=I (hk.not NX.o O.o.lt);replace O:=I Z;clear Z;have Z:=hk.blk X.o NQ.o;replace NQ:=I (hk.not NQ.o X.o.lt);replace X:=I Z;clear Z;replace SB:=I (hk.sl SB.o);replace M:=I (M.o.trans hk);have PX:=I M.o.size;clear hk;clear C1;refine⟨_,rfl,⟨O.o,X.o,(M.o).cl.blk.cell 3⟩,?_⟩;simp only[Act.put,J,U,Aa];refine Reg.ty 8 rfl ⟨O.o,X.o,(M.o).cl.blk.cell 3⟩ ?_;refine wpAnyH_done (by kernel_rfl) ?_ _;obtain⟨V,eV⟩:=Aj (ae);rw[<-eV] at O X M SB⊢;clear eV
 go_wp2_with (first
  |(go_at_call 25;refine Ah (CE.o _ _ M.o.cl) ?_;rintro we ⟨me,hk⟩;clear CE;replace M:=I (M.o.trans hk);clear hk)
  |fail)
 go_ret2
 exact⟨.slice none 0 0,_,rfl,SlN.nil _ _,M.o.more3⟩
theorem go_2 {x:Cr} {bv:Value} {now:Int} (h:Cl w B p m s c) (hz:Sz p s c) (hc:c<=800000) (hx:Okx x) (ht:tmB now=true) (hv:SlN (AO p m) w bv x.b) (h1:putE s.l x.s now=0) (h2:x.s=s.tg) :
  Calls Tryz.prog 27 #[pv p.k,.agg (crv x bv),.int .i64 now] w (StP w B p m (c+3) (endS mC (putS mC s x now) 2 0,([],[]))):=by
 have C1:=I (fun(w1:World) (h1:Cl w1 B p m s c) (hv:SlN (AO p m) w1 bv x.b)=>Un (now:=now) h1 hz hx hv);have CE:=I (fun(w1:World) (m1:CM) (h1:Cl w1 B p m1 (putS mC s x now) c)=>Il (st:=2) (er:=0) h1 (by decide));rw[h1] at C1;have t2:=Bb h2;obtain⟨cx,Y⟩:=Aj (crv x bv);obtain⟨W,eW⟩:=Aj (w.alloc (.cells cx 96));have hb:Below w.heap.size w W:=eW▸Ag.alloc Af _;have O:=I (show Blk W w.heap.size 96 cx from eW▸Blk.new w _ _);have M:=I (Tu.start h hb);have NX:=I (h.fresh (Nat.le_refl w.heap.size));have Z:=I (hv.below hb);have ag:=I (show(Tryz.prog.info? 96).map (·.size)=some cx.size by rw[show cx.size=37 by rw[Y];simp [AU]];exact Ca.Bt);have x0:W.cell? ⟨w.heap.size,0,none⟩=some (.string ⟨x.s.1.toArray⟩):=by have:=O.o.cell 0;rw[Y] at this;exact this
 have x1:W.cell? ⟨w.heap.size,1,none⟩=some (.string ⟨x.s.2.toArray⟩):=by have:=O.o.cell 1;rw[Y] at this;exact this
 rw[<-Y] at C1⊢;clear h hz hc hx ht hv hb Y h1 h2;go_enter Tryz.func27,Tryz.ntmps27
 go_upto_region 1 with fail
 rw[<-eW];clear eW
 go_upto_region 2 with fail
 obtain⟨W2,ad⟩:=Aj (W.alloc (.cells #[.string ⟨x.s.1.toArray⟩,.string ⟨x.s.2.toArray⟩] 35));have hb:Below W.heap.size W W2:=ad▸Ag.alloc Af _;have X:=I (show Blk W2 W.heap.size 35 #[.string ⟨x.s.1.toArray⟩,.string ⟨x.s.2.toArray⟩] from ad▸Blk.new W _ _);have NQ:=I (M.o.cl.fresh (Nat.le_refl W.heap.size));replace O:=I (O.o.below hb);replace M:=I (M.o.below hb);replace Z:=I (Z.o.below hb);rw[<-ad];clear ad hb x0 x1;obtain⟨gq,af⟩:=Aj (W.heap.size);rw[<-af] at X NQ⊢;clear af;have ab:Below W2.heap.size W2 W2.drew:=below_drewN Ag 1;replace M:=I (M.o.below ab);replace O:=I (O.o.below ab);replace X:=I (X.o.below ab);replace Z:=I (Z.o.below ab);clear ab;refine Reg.AW (fun w'=>Blk w' w.heap.size 96 cx/\Blk w' gq 35 #[.string ⟨x.s.1.toArray⟩,.string ⟨x.s.2.toArray⟩]/\w'.cell? ⟨p.k,3,none⟩=some (pv p.r)) 9 rfl (by kernel_rfl) ⟨O.o,X.o,(M.o).cl.blk.cell 3⟩ ?_;refine Reg.ty 0 rfl ⟨O.o,X.o,(M.o).cl.blk.cell 3⟩ ?_;refine Reg.ty 1 rfl ⟨O.o,X.o,(M.o).cl.blk.cell 3⟩ ?_;refine Reg.ty 2 rfl ⟨O.o,X.o,(M.o).cl.blk.cell 3⟩ ?_;refine Reg.tw 3 rfl ⟨O.o,X.o,(M.o).cl.blk.cell 3⟩ (fun w' hS=>by obtain⟨hX,hQ,k3⟩:=hS;go_simp<;>rfl) ?_;refine Reg.tw 4 rfl ⟨O.o,X.o,(M.o).cl.blk.cell 3⟩ (fun w' hS=>by obtain⟨hX,hQ,k3⟩:=hS;have q0:=hQ.cell 0;have q1:=hQ.cell 1;go_simp<;>rfl) ?_;refine Reg.tw 5 (v:=.agg cx) rfl ⟨O.o,X.o,(M.o).cl.blk.cell 3⟩ (fun w' hS=>by obtain⟨hX,hQ,k3⟩:=hS;exact IZ (.tmp 4) rfl rfl (Wh.Ac hX) Tryz.underlying96 (by rfl) ag.o) ?_;refine Reg.ty 6 rfl ⟨O.o,X.o,(M.o).cl.blk.cell 3⟩ ?_;refine Reg.b1 7 ?_
 right
 refine⟨_,_,_,_,_,_,59,#[pv p.r,prV x.s,.agg cx,.int .i64 now],rfl,by rfl,(by go_simp<;>first | rfl | exact⟨rfl,rfl⟩),?_⟩;refine Ah (C1.o _ M.o.cl Z.o) ?_;rintro ae ⟨m3,hk⟩;have aa:=hk.blk O.o NX.o;replace NX:=I (hk.not NX.o O.o.lt);replace O:=I aa;clear aa;have aa:=hk.blk X.o NQ.o;replace NQ:=I (hk.not NQ.o X.o.lt);replace X:=I aa;clear aa;replace Z:=I (hk.sl Z.o);replace M:=I (M.o.trans hk);have PX:=I M.o.size;clear hk;clear C1;refine⟨_,rfl,⟨O.o,X.o,(M.o).cl.blk.cell 3⟩,?_⟩;simp only[Act.put,J,U,Aa];refine Reg.ty 8 rfl ⟨O.o,X.o,(M.o).cl.blk.cell 3⟩ ?_;refine wpAnyH_done (by kernel_rfl) ?_ _;obtain⟨V,eV⟩:=Aj (ae);rw[<-eV] at O X M Z⊢;clear eV;have q0:V.cell? ⟨gq,0,none⟩=some (.string ⟨x.s.1.toArray⟩):=X.o.cell 0;have q1:V.cell? ⟨gq,1,none⟩=some (.string ⟨x.s.2.toArray⟩):=X.o.cell 1;have ah:V.cell? ⟨p.k,10,none⟩=some (.string ⟨s.tg.1.toArray⟩):=M.o.cl.blk.cell 10;have ai:V.cell? ⟨p.k,11,none⟩=some (.string ⟨s.tg.2.toArray⟩):=M.o.cl.blk.cell 11
 go_upto_region 6 with fail
 go_quiet (fail)
 have hd:=below_drewN (Below.refl V.heap.size V) nq;replace O:=I (O.o.below hd);replace X:=I (X.o.below hd);replace M:=I (M.o.below hd);replace Z:=I (Z.o.below hd);clear hd q0 q1 ah ai;generalize V.drewN nq=V3 at O X M Z⊢
 go_wp2_with (first
  |(go_at_call 25;refine Ah (CE.o _ _ M.o.cl) ?_;rintro we ⟨me,hk⟩;clear CE;replace M:=I (M.o.trans hk);clear hk)
  |fail)
 go_ret2
 exact⟨.slice none 0 0,_,rfl,SlN.nil _ _,M.o.more3⟩
theorem go_3 {x:Cr} {bv:Value} {now:Int} (h:Cl w B p m s c) (hz:Sz p s c) (hc:c<=800000) (hx:Okx x) (ht:tmB now=true) (hv:SlN (AO p m) w bv x.b) (h1:putE s.l x.s now=0) (h2:x.s≠s.tg) (h3:(refL p.P s x.s).2≠0) :
  Calls Tryz.prog 27 #[pv p.k,.agg (crv x bv),.int .i64 now] w (StP w B p m (c+3) (endS mC (putS mC s x now) 3 (refL p.P s x.s).2,([],[]))):=by
 have C1:=I (fun(w1:World) (h1:Cl w1 B p m s c) (hv:SlN (AO p m) w1 bv x.b)=>Un (now:=now) h1 hz hx hv);have CE:=I (fun(w1:World) (m1:CM) (h1:Cl w1 B p m1 (putS mC s x now) c)=>Il (st:=3) (er:=(refL p.P s x.s).2) h1 (by decide));rw[h1] at C1;have CR:=I (fun(w1:World) (m1:CM) (h1:Cl w1 B p m1 (putS mC s x now) c)=>Lr (q:=x.s) h1 (RQ hz hx) hc hx.1);have ER:=I (show refL p.P (putS mC s x now) x.s=refL p.P s x.s from rfl);rw[ER.o] at CR;have t2:=BA h2;obtain⟨z,ez⟩:=Aj ((refL p.P s x.s).2);rw[<-ez] at h3 CR CE⊢;have t3:decide (z=0)=false:=decide_eq_false h3;have ak:(z != 0)=true:=by simp [h3]
 obtain⟨cx,aa⟩:=Aj (crv x bv);obtain⟨W,eW⟩:=Aj (w.alloc (.cells cx 96));have Z:Below w.heap.size w W:=eW▸Ag.alloc Af _;have O:=I (show Blk W w.heap.size 96 cx from eW▸Blk.new w _ _);have M:=I (Tu.start h Z);have NX:=I (h.fresh (Nat.le_refl w.heap.size));have Y:=I (hv.below Z);have ah:=I (show(Tryz.prog.info? 96).map (·.size)=some cx.size by rw[show cx.size=37 by rw[aa];simp [AU]];exact Ca.Bt);have x0:W.cell? ⟨w.heap.size,0,none⟩=some (.string ⟨x.s.1.toArray⟩):=by have:=O.o.cell 0;rw[aa] at this;exact this
 have x1:W.cell? ⟨w.heap.size,1,none⟩=some (.string ⟨x.s.2.toArray⟩):=by have:=O.o.cell 1;rw[aa] at this;exact this
 rw[<-aa] at C1⊢;clear h hz hc hx ht hv Z aa h1 h2 h3 ez;go_enter Tryz.func27,Tryz.ntmps27
 go_upto_region 1 with fail
 rw[<-eW];clear eW
 go_upto_region 2 with fail
 obtain⟨W2,ae⟩:=Aj (W.alloc (.cells #[.string ⟨x.s.1.toArray⟩,.string ⟨x.s.2.toArray⟩] 35));have Z:Below W.heap.size W W2:=ae▸Ag.alloc Af _;have X:=I (show Blk W2 W.heap.size 35 #[.string ⟨x.s.1.toArray⟩,.string ⟨x.s.2.toArray⟩] from ae▸Blk.new W _ _);have NQ:=I (M.o.cl.fresh (Nat.le_refl W.heap.size));replace O:=I (O.o.below Z);replace M:=I (M.o.below Z);replace Y:=I (Y.o.below Z);rw[<-ae];clear ae Z x0 x1;obtain⟨gq,ag⟩:=Aj (W.heap.size);rw[<-ag] at X NQ⊢;clear ag;have ad:Below W2.heap.size W2 W2.drew:=below_drewN Ag 1;replace M:=I (M.o.below ad);replace O:=I (O.o.below ad);replace X:=I (X.o.below ad);replace Y:=I (Y.o.below ad);clear ad;refine Reg.AW (fun w'=>Blk w' w.heap.size 96 cx/\Blk w' gq 35 #[.string ⟨x.s.1.toArray⟩,.string ⟨x.s.2.toArray⟩]/\w'.cell? ⟨p.k,3,none⟩=some (pv p.r)) 9 rfl (by kernel_rfl) ⟨O.o,X.o,(M.o).cl.blk.cell 3⟩ ?_;refine Reg.ty 0 rfl ⟨O.o,X.o,(M.o).cl.blk.cell 3⟩ ?_;refine Reg.ty 1 rfl ⟨O.o,X.o,(M.o).cl.blk.cell 3⟩ ?_;refine Reg.ty 2 rfl ⟨O.o,X.o,(M.o).cl.blk.cell 3⟩ ?_;refine Reg.tw 3 rfl ⟨O.o,X.o,(M.o).cl.blk.cell 3⟩ (fun w' hS=>by obtain⟨hX,hQ,k3⟩:=hS;go_simp<;>rfl) ?_;refine Reg.tw 4 rfl ⟨O.o,X.o,(M.o).cl.blk.cell 3⟩ (fun w' hS=>by obtain⟨hX,hQ,k3⟩:=hS;have q0:=hQ.cell 0;have q1:=hQ.cell 1;go_simp<;>rfl) ?_;refine Reg.tw 5 (v:=.agg cx) rfl ⟨O.o,X.o,(M.o).cl.blk.cell 3⟩ (fun w' hS=>by obtain⟨hX,hQ,k3⟩:=hS;exact IZ (.tmp 4) rfl rfl (Wh.Ac hX) Tryz.underlying96 (by rfl) ah.o) ?_;refine Reg.ty 6 rfl ⟨O.o,X.o,(M.o).cl.blk.cell 3⟩ ?_;refine Reg.b1 7 ?_
 right
 refine⟨_,_,_,_,_,_,59,#[pv p.r,prV x.s,.agg cx,.int .i64 now],rfl,by rfl,(by go_simp<;>first | rfl | exact⟨rfl,rfl⟩),?_⟩;refine Ah (C1.o _ M.o.cl Y.o) ?_;rintro af ⟨m3,hk⟩;have ab:=hk.blk O.o NX.o;replace NX:=I (hk.not NX.o O.o.lt);replace O:=I ab;clear ab;have ab:=hk.blk X.o NQ.o;replace NQ:=I (hk.not NQ.o X.o.lt);replace X:=I ab;clear ab;replace Y:=I (hk.sl Y.o);replace M:=I (M.o.trans hk);have PX:=I M.o.size;clear hk;clear C1;refine⟨_,rfl,⟨O.o,X.o,(M.o).cl.blk.cell 3⟩,?_⟩;simp only[Act.put,J,U,Aa];refine Reg.ty 8 rfl ⟨O.o,X.o,(M.o).cl.blk.cell 3⟩ ?_;refine wpAnyH_done (by kernel_rfl) ?_ _;obtain⟨V,eV⟩:=Aj (af);rw[<-eV] at O X M Y⊢;clear eV;have q0:V.cell? ⟨gq,0,none⟩=some (.string ⟨x.s.1.toArray⟩):=X.o.cell 0;have q1:V.cell? ⟨gq,1,none⟩=some (.string ⟨x.s.2.toArray⟩):=X.o.cell 1;have ai:V.cell? ⟨p.k,10,none⟩=some (.string ⟨s.tg.1.toArray⟩):=M.o.cl.blk.cell 10;have aj:V.cell? ⟨p.k,11,none⟩=some (.string ⟨s.tg.2.toArray⟩):=M.o.cl.blk.cell 11
 go_upto_region 6 with fail
 go_quiet (fail)
 have hd:=below_drewN (Below.refl V.heap.size V) nq;replace O:=I (O.o.below hd);replace X:=I (X.o.below hd);replace M:=I (M.o.below hd);replace Y:=I (Y.o.below hd);clear hd q0 q1 ai aj;generalize V.drewN nq=V3 at O X M Y⊢;have q0:V3.cell? ⟨gq,0,none⟩=some (.string ⟨x.s.1.toArray⟩):=X.o.cell 0;have q1:V3.cell? ⟨gq,1,none⟩=some (.string ⟨x.s.2.toArray⟩):=X.o.cell 1
 go_wp2_with (first
  |(go_at_call 60;refine Ah (CR.o _ _ M.o.cl) ?_;rintro wr Z;clear CR q0 q1;replace O:=I (O.o.below Z);replace M:=I (M.o.below Z);replace Y:=I (Y.o.below Z);clear Z)
  |(go_at_call 25;refine Ah (CE.o _ _ M.o.cl) ?_;rintro we ⟨me,hk⟩;clear CE;replace M:=I (M.o.trans hk);clear hk)
  |fail)
 go_ret2
 exact⟨.slice none 0 0,_,rfl,SlN.nil _ _,M.o.more3⟩
theorem go_4 {x:Cr} {bv:Value} {now:Int} (h:Cl w B p m s c) (hz:Sz p s c) (hc:c<=800000) (hx:Okx x) (ht:tmB now=true) (hv:SlN (AO p m) w bv x.b) (h1:putE s.l x.s now=0) (h2:x.s≠s.tg) (h3:(refL p.P s x.s).2=0) :
  Calls Tryz.prog 27 #[pv p.k,.agg (crv x bv),.int .i64 now] w (StP w B p m (c+3) (furL p.P (putS mC s x now) (refL p.P s x.s).1 x now)):=by
 have C1:=I (fun(w1:World) (h1:Cl w1 B p m s c) (hv:SlN (AO p m) w1 bv x.b)=>Un (now:=now) h1 hz hx hv);rw[h1] at C1;have CR:=I (fun(w1:World) (m1:CM) (h1:Cl w1 B p m1 (putS mC s x now) c)=>Lr (q:=x.s) h1 (RQ hz hx) hc hx.1);have ER:=I (show refL p.P (putS mC s x now) x.s=refL p.P s x.s from rfl);rw[ER.o] at CR;have t2:=BA h2;have ah:(refL p.P s x.s).1.length<=1000000:=Uo hx.1;have CF:=I (fun(w1:World) (m1:CM) (h1:Cl w1 B p m1 (putS mC s x now) c) (hv:SlN (AO p m1) w1 bv x.b)=>Ul (r:=(refL p.P s x.s).1) (x:=x) (bv:=bv) (now:=now) h1 hc (RQ hz hx) ah hx ht hv);rw[h3] at CR;have EF:=I (show furL p.P (putS mC s x now) (refL p.P s x.s).1 x now=(furS (putS mC s x now) (refL p.P s x.s).1 x,((refL p.P s x.s).1,(furL p.P (putS mC s x now) (refL p.P s x.s).1 x now).2.2)) from rfl);obtain⟨fb,ai⟩:=Aj ((furL p.P (putS mC s x now) (refL p.P s x.s).1 x now).2.2);rw[EF.o];rw[<-ai] at CF⊢;clear EF;obtain⟨rr,err⟩:=Aj ((refL p.P s x.s).1);rw[<-err] at CR CF⊢;obtain⟨cx,aa⟩:=Aj (crv x bv);obtain⟨W,eW⟩:=Aj (w.alloc (.cells cx 96));have Z:Below w.heap.size w W:=eW▸Ag.alloc Af _;have O:=I (show Blk W w.heap.size 96 cx from eW▸Blk.new w _ _);have M:=I (Tu.start h Z);have NX:=I (h.fresh (Nat.le_refl w.heap.size));have Y:=I (hv.below Z);have ag:=I (show(Tryz.prog.info? 96).map (·.size)=some cx.size by rw[show cx.size=37 by rw[aa];simp [AU]];exact Ca.Bt);have x0:W.cell? ⟨w.heap.size,0,none⟩=some (.string ⟨x.s.1.toArray⟩):=by have:=O.o.cell 0;rw[aa] at this;exact this
 have x1:W.cell? ⟨w.heap.size,1,none⟩=some (.string ⟨x.s.2.toArray⟩):=by have:=O.o.cell 1;rw[aa] at this;exact this
 rw[<-aa] at C1 CF⊢;clear h hz hc hx ht hv Z aa h1 h2 h3 ah ai err;go_enter Tryz.func27,Tryz.ntmps27
 go_upto_region 1 with fail
 rw[<-eW];clear eW
 go_upto_region 2 with fail
 obtain⟨W2,ae⟩:=Aj (W.alloc (.cells #[.string ⟨x.s.1.toArray⟩,.string ⟨x.s.2.toArray⟩] 35));have Z:Below W.heap.size W W2:=ae▸Ag.alloc Af _;have X:=I (show Blk W2 W.heap.size 35 #[.string ⟨x.s.1.toArray⟩,.string ⟨x.s.2.toArray⟩] from ae▸Blk.new W _ _);have NQ:=I (M.o.cl.fresh (Nat.le_refl W.heap.size));replace O:=I (O.o.below Z);replace M:=I (M.o.below Z);replace Y:=I (Y.o.below Z);rw[<-ae];clear ae Z x0 x1;obtain⟨gq,aj⟩:=Aj (W.heap.size);rw[<-aj] at X NQ⊢;clear aj;have ad:Below W2.heap.size W2 W2.drew:=below_drewN Ag 1;replace M:=I (M.o.below ad);replace O:=I (O.o.below ad);replace X:=I (X.o.below ad);replace Y:=I (Y.o.below ad);clear ad;refine Reg.AW (fun w'=>Blk w' w.heap.size 96 cx/\Blk w' gq 35 #[.string ⟨x.s.1.toArray⟩,.string ⟨x.s.2.toArray⟩]/\w'.cell? ⟨p.k,3,none⟩=some (pv p.r)) 9 rfl (by kernel_rfl) ⟨O.o,X.o,(M.o).cl.blk.cell 3⟩ ?_;refine Reg.ty 0 rfl ⟨O.o,X.o,(M.o).cl.blk.cell 3⟩ ?_;refine Reg.ty 1 rfl ⟨O.o,X.o,(M.o).cl.blk.cell 3⟩ ?_;refine Reg.ty 2 rfl ⟨O.o,X.o,(M.o).cl.blk.cell 3⟩ ?_;refine Reg.tw 3 rfl ⟨O.o,X.o,(M.o).cl.blk.cell 3⟩ (fun w' hS=>by obtain⟨hX,hQ,k3⟩:=hS;go_simp<;>rfl) ?_;refine Reg.tw 4 rfl ⟨O.o,X.o,(M.o).cl.blk.cell 3⟩ (fun w' hS=>by obtain⟨hX,hQ,k3⟩:=hS;have q0:=hQ.cell 0;have q1:=hQ.cell 1;go_simp<;>rfl) ?_;refine Reg.tw 5 (v:=.agg cx) rfl ⟨O.o,X.o,(M.o).cl.blk.cell 3⟩ (fun w' hS=>by obtain⟨hX,hQ,k3⟩:=hS;exact IZ (.tmp 4) rfl rfl (Wh.Ac hX) Tryz.underlying96 (by rfl) ag.o) ?_;refine Reg.ty 6 rfl ⟨O.o,X.o,(M.o).cl.blk.cell 3⟩ ?_;refine Reg.b1 7 ?_
 right
 refine⟨_,_,_,_,_,_,59,#[pv p.r,prV x.s,.agg cx,.int .i64 now],rfl,by rfl,(by go_simp<;>first | rfl | exact⟨rfl,rfl⟩),?_⟩;refine Ah (C1.o _ M.o.cl Y.o) ?_;rintro af ⟨m3,hk⟩;have ab:=hk.blk O.o NX.o;replace NX:=I (hk.not NX.o O.o.lt);replace O:=I ab;clear ab;have ab:=hk.blk X.o NQ.o;replace NQ:=I (hk.not NQ.o X.o.lt);replace X:=I ab;clear ab;replace Y:=I (hk.sl Y.o);replace M:=I (M.o.trans hk);have PX:=I M.o.size;clear hk;clear C1;refine⟨_,rfl,⟨O.o,X.o,(M.o).cl.blk.cell 3⟩,?_⟩;simp only[Act.put,J,U,Aa];refine Reg.ty 8 rfl ⟨O.o,X.o,(M.o).cl.blk.cell 3⟩ ?_;refine wpAnyH_done (by kernel_rfl) ?_ _;obtain⟨V,eV⟩:=Aj (af);rw[<-eV] at O X M Y⊢;clear eV;have q0:V.cell? ⟨gq,0,none⟩=some (.string ⟨x.s.1.toArray⟩):=X.o.cell 0;have q1:V.cell? ⟨gq,1,none⟩=some (.string ⟨x.s.2.toArray⟩):=X.o.cell 1;have ak:V.cell? ⟨p.k,10,none⟩=some (.string ⟨s.tg.1.toArray⟩):=M.o.cl.blk.cell 10;have al:V.cell? ⟨p.k,11,none⟩=some (.string ⟨s.tg.2.toArray⟩):=M.o.cl.blk.cell 11
 go_upto_region 6 with fail
 go_quiet (fail)
 have hd:=below_drewN (Below.refl V.heap.size V) nq;replace O:=I (O.o.below hd);replace X:=I (X.o.below hd);replace M:=I (M.o.below hd);replace Y:=I (Y.o.below hd);clear hd q0 q1 ak al;generalize V.drewN nq=V3 at O X M Y⊢;have q0:V3.cell? ⟨gq,0,none⟩=some (.string ⟨x.s.1.toArray⟩):=X.o.cell 0;have q1:V3.cell? ⟨gq,1,none⟩=some (.string ⟨x.s.2.toArray⟩):=X.o.cell 1
 go_wp2_with (first
  |(go_at_call 60;refine Ah (CR.o _ _ M.o.cl) ?_;rintro wr Z;clear CR q0 q1;replace O:=I (O.o.below Z);replace M:=I (M.o.below Z);replace Y:=I (Y.o.below Z);clear Z)
  |(refine Wh.AG (by rfl) 96 (.tmp 4) (by rfl) w.heap.size 0 (by rfl) cx _ (Wh.Ac O.o) Tryz.underlying96 (by rfl) ag.o ?_)
  |(go_at_call 50;refine Calls.mono (CF.o _ _ M.o.cl Y.o) ?_;rintro e w6 ⟨v,m6,rfl,hs,hk⟩;clear CF;have HV:=I (Out.old M.o.size hs);replace M:=I (M.o.trans hk);clear hs hk)
  |fail)
 go_ret2
 exact⟨v,m6,rfl,HV.o,M.o.more1⟩
theorem Yt {x:Cr} {bv:Value} {now:Int} (h:Cl w B p m s c) (X:Sz p s c) (Y:c<=800000) (O:Okx x) (M:tmB now=true) (Z:SlN (AO p m) w bv x.b) :
  Calls Tryz.prog 27 #[pv p.k,.agg (crv x bv),.int .i64 now] w (StP w B p m (c+3) (goL mC p.P s x now)):=by
 unfold goL
 by_cases h1:putE s.l x.s now=0
 ·rw[if_pos (show mC.err s.l x.s now=0 from h1)]
  by_cases h2:x.s=s.tg
  ·rw[if_pos h2];exact go_2 h X Y O M Z h1 h2
  ·rw[if_neg h2]
   by_cases h3:(refL p.P s x.s).2=0
   ·rw[if_pos h3];exact go_4 h X Y O M Z h1 h2 h3
   ·rw[if_neg h3];exact go_3 h X Y O M Z h1 h2 h3
 ·rw[if_neg (show ¬mC.err s.l x.s now=0 from h1)];exact go_1 h X Y O M Z h1
end
end Cl
end Go.Proofs.YtlccngianpfalaaGreat
