import Derived.Test.YtlfmicidppccnaaGreatZClientNew9
set_option maxHeartbeats 25600000
set_option maxRecDepth 100000
set_option linter.unusedVariables false
set_option linter.unusedSimpArgs false
namespace Go.Proofs.YtlfmicidppccnaaGreat
namespace Cl
open Go.RowKit Ad Se
open Nm (L krb tgL tgR)
open Ms (Pr tmB pSm mSm mgD mgO mgE Mg)
open Rg (prV)
theorem Fg {w0 w w':World} {p:CP} {m m':CM} {s s':St} {c c':Nat} (hB:Below w0.heap.size w0 w) (hc:Cl w w0.heap.size p m s c) (hk:Tu w w' w0.heap.size p m m' s' c'):Below w0.heap.size w0 w':=hB.trans (hk.chg.below hB.size (fun j _ x=>hc.lo x))
theorem sz0 {p:CP} (hp:p.P=annP):Sz p st0 0:=by
 refine⟨Nat.le_refl _,Nat.le_refl _,Nat.le_refl _,⟨Int.le_refl _,Int.le_refl _⟩,⟨Nat.le_refl _,fun v hv=>by cases hv⟩,⟨by decide,by decide⟩,by decide,fun i hi=>(by cases hi),?_⟩;rw[hp];exact⟨⟨by decide,by decide⟩,by decide⟩
theorem DQ:pSm Cf:=⟨by decide,by decide⟩
section
variable {w w' w0:World} {B:Nat} {p:CP} {m m' m0:CM} {s:St} {c:Nat} {r:L}
theorem JK (h:Cl w B p m st0 0) (hp:p.P=annP) (hks:p.ks=k9) (now:Int) (ht:tmB now=true):Calls Tryz.prog 22 #[pv p.k,prV Cf,.int .i64 now] w fun e w'=>∃v m',e = .returned (.tuple #[.string ⟨#[65]⟩,v,.int .i64 0])∧SlN (Out w p m') w' v (lO (mgO (mAs (firQ annP st0 now))))∧Tu w w' B p m m' (s1 0) 2:=by
 have:=Ku (R:=(s1 0,([65],lO (mgO (mAs (firQ annP st0 now)))))) h (sz0 hp) (by decide) DQ (by decide) FF ht (fun w1 m1 h1'=>by
  have hf:=Ff (o:=none) h1' (by decide) (IB (sz0 hp) DQ) ht rfl rfl;rw[hp,hks] at hf;refine hf.mono ?_;rintro e w2 ⟨v,m2,rfl,a1,a2⟩;exact⟨v,m2,by rw[hp],by rw[hp];rfl,a1,a2.more (by decide)⟩)
 exact this
theorem Iq (h:Cl w B p m s c) (hz:Sz p s c) (hc:c≤700000) (now:Int) (hst:s.st=1):Calls Tryz.prog 22 #[pv p.k,prV Cf,.int .i64 now] w fun e w'=>∃v m',e = .returned (.tuple #[.string ⟨#[]⟩,v,.int .i64 16])∧SlN (Out w p m') w' v []∧Tu w w' B p m m' s (c+2):=by
 exact cha_1 (t:=Cf) (now:=now) h hz hc DQ hst
theorem sz1 {p:CP} (hp:p.P=annP):Sz p (s1 0) 2:=by
 refine⟨by decide,by decide,by decide,⟨by decide,by decide⟩,⟨by decide,fun v hv=>by cases hv⟩,DQ,by decide,fun i hi=>(by cases hi),?_⟩;rw[hp];exact⟨⟨by decide,by decide⟩,by decide⟩
theorem JL (now:Int) (ht:tmB now=true):0<(lO (mgO (mAs (firQ annP st0 now)))).length:=by
 have ha:=Kw (s:=st0) JH JI ht (by decide);rw[(Kv ha).1];show 0<(mgE (mAs (firQ annP st0 now))).length;have:mgE (mAs (firQ annP st0 now))=Ms.asE (firQ annP st0 now):=rfl;rw[this,Ms.asE];have h:=DerP.Ce 106 [Ms.prE (firQ annP st0 now).c,Ms.prE (firQ annP st0 now).s,DerP.encI (firQ annP st0 now).t,DerP.encI (firQ annP st0 now).no].flatten;rw[h];omega
end
theorem BR (w:World):Calls Tryz.prog 21 #[] w fun e w'=>e = .returned (.bool true)∧Below w.heap.size w w':=by
 have CB:=I (JJ w);have L1:=I (fun(w1:World)=>Kx w1);go_enter Tryz.func21,Tryz.ntmps21
 go_upto_region 4 with(first
  |(go_at_call 14;refine Calls.mono CB.o ?_;rintro e w1 ⟨g,x,p,m,rfl,hp,hks,hc,hn,hg,hlo,hb⟩;clear CB;have HC:=I hc;have NG:=I hn;have HG0:=I hg;have HB:=I hb;clear hc hn hg hb)
  |fail)
 obtain⟨cg,ecg⟩:∃z,z=prA p.k x pq0:=⟨_,rfl⟩;have HG:=I (show Blk w1 g 37 cg by rw[ecg];exact HG0.o);have HCG:=I (show cg[0]? = some (pv p.k) by rw[ecg];rfl);have CC:=I (fun(w2:World) (m2:CM) (h:Cl w2 w.heap.size p m2 st0 0)=>JK h hp hks 1 (by decide));have CC2:=I (fun(w2:World) (m2:CM) (h:Cl w2 w.heap.size p m2 (s1 0) 2)=>Iq h (sz1 hp) (by decide) 1 rfl);have CS:=I (fun(w2:World) (m2:CM) (h:Cl w2 w.heap.size p m2 (s1 0) (2+2))=>(show Calls Tryz.prog 16 #[pv p.k] w2 fun e w'=>e = .returned (.tuple #[.int .i64 1,.int .i64 0,.int .i64 1])∧Below w2.heap.size w2 w' from JG h));have hl0:=JL 1 (by decide);obtain⟨b0,eb0⟩:∃z,z=lO (mgO (mAs (firQ annP st0 1))):=⟨_,rfl⟩;rw[←eb0] at CC hl0;clear HG0 hp hks hlo ecg eb0;have hdr:Below w1.heap.size w1 w1.drew:=below_drewN Af 1;replace HC:=I (HC.o.below hdr);replace HB:=HB.t hdr;replace HG:=I (HG.o.below hdr);clear hdr;refine Reg.Bp (fun w'=>Blk w' g 37 cg) 13 rfl (by kernel_rfl) HG.o ?_;refine Reg.tk 0 (v:=?vka1) rfl HG.o (fun w' hS=>?hka1) ?rka1
 case hka1=>go_simp<;>rfl
 simp only[Act.put,J,U,Aa];refine Reg.tk 1 (v:=?vka2) rfl HG.o (fun w' hS=>?hka2) ?rka2
 case hka2=>go_simp<;>rfl
 simp only[Act.put,J,U,Aa];refine Reg.tk 2 (v:=?vka3) rfl HG.o (fun w' hS=>?hka3) ?rka3
 case hka3=>go_simp<;>rfl
 simp only[Act.put,J,U,Aa];refine Reg.tk 3 (v:=pv p.k) rfl HG.o (fun w' hS=>?hka4) ?rka4
 case hka4=>have q0:=(hS.cell 0).trans HCG.o;go_simp<;>rfl
 simp only[Act.put,J,U,Aa];refine Reg.Au [4] (by kernel_rfl) (by simp) ?_;intro j0 hj0;obtain rfl:j0=4:=by simpa using hj0
 clear hj0
 right
 refine⟨_,_,_,_,_,_,18,#[],rfl,by rfl,(by go_simp<;>first | rfl | exact⟨rfl,rfl⟩),?_⟩;refine Calls.mono (L1.o _) ?_;rintro e wka5 ⟨rfl,hb⟩;replace HC:=I (HC.o.below hb);replace HB:=HB.t hb;replace HG:=I (HG.o.below hb);clear hb;refine⟨_,rfl,HG.o,?_⟩;simp only[Act.put,J,U,Aa];refine Reg.Au [5] (by kernel_rfl) (by simp) ?_;intro j0 hj0;obtain rfl:j0=5:=by simpa using hj0
 clear hj0
 right
 refine⟨_,_,_,_,_,_,22,#[pv p.k,prV Cf,.int .i64 1],rfl,by rfl,(by go_simp<;>first | rfl | exact⟨rfl,rfl⟩),?_⟩;refine Calls.mono (CC.o _ _ HC.o) ?_;rintro e wka6 ⟨v1,m1,rfl,hs,hk⟩;have hnb:=hk.blk HG.o NG.o;replace NG:=I (hk.not NG.o HG.o.lt);replace HG:=I hnb;clear hnb;replace HB:=I (Fg HB.o HC.o hk);replace HC:=I hk.cl;obtain⟨A1,c1,ev1,_⟩:=hs;have EV1:=I ev1;clear ev1;clear hk;clear CC;refine⟨_,rfl,HG.o,?_⟩;simp only[Act.put,J,U,Aa];refine Reg.tk 6 (v:=?vka7) rfl HG.o (fun w' hS=>?hka7) ?rka7
 case hka7=>go_simp<;>rfl
 simp only[Act.put,J,U,Aa];refine Reg.tk 7 (v:=?vka8) rfl HG.o (fun w' hS=>?hka8) ?rka8
 case hka8=>go_simp<;>rfl
 simp only[Act.put,J,U,Aa];refine Reg.tk 8 (v:=?vka9) rfl HG.o (fun w' hS=>?hka9) ?rka9
 case hka9=>go_simp<;>rfl
 simp only[Act.put,J,U,Aa];refine Reg.tk 9 (v:=?vka10) rfl HG.o (fun w' hS=>?hka10) ?rka10
 case hka10=>go_simp<;>rfl
 simp only[Act.put,J,U,Aa];refine Reg.tk 10 (v:=?vka11) rfl HG.o (fun w' hS=>?hka11) ?rka11
 case hka11=>go_simp<;>rfl
 simp only[Act.put,J,U,Aa];refine Reg.tk 11 (v:=?vka12) rfl HG.o (fun w' hS=>?hka12) ?rka12
 case hka12=>go_simp<;>rfl
 simp only[Act.put,J,U,Aa];refine Reg.tk 12 (v:=?vka13) rfl HG.o (fun w' hS=>?hka13) ?rka13
 case hka13=>go_simp<;>rfl
 simp only[Act.put,J,U,Aa];refine wpAnyH_done (by kernel_rfl) ?_ _
 go_upto_region 5 with fail
 obtain⟨w5,ew5⟩:∃z,z=wka6:=⟨_,rfl⟩;rw[←ew5] at HC HG HB⊢;clear ew5;have hdr:Below w5.heap.size w5 w5.drew:=below_drewN Af 1;replace HC:=I (HC.o.below hdr);replace HB:=HB.t hdr;replace HG:=I (HG.o.below hdr);clear hdr;refine Reg.Bp (fun w'=>Blk w' g 37 cg) 13 rfl (by kernel_rfl) HG.o ?_;refine Reg.tk 0 (v:=?vkb14) rfl HG.o (fun w' hS=>?hkb14) ?rkb14
 case hkb14=>go_simp<;>rfl
 simp only[Act.put,J,U,Aa];refine Reg.tk 1 (v:=?vkb15) rfl HG.o (fun w' hS=>?hkb15) ?rkb15
 case hkb15=>go_simp<;>rfl
 simp only[Act.put,J,U,Aa];refine Reg.tk 2 (v:=?vkb16) rfl HG.o (fun w' hS=>?hkb16) ?rkb16
 case hkb16=>go_simp<;>rfl
 simp only[Act.put,J,U,Aa];refine Reg.tk 3 (v:=pv p.k) rfl HG.o (fun w' hS=>?hkb17) ?rkb17
 case hkb17=>have q0:=(hS.cell 0).trans HCG.o;go_simp<;>rfl
 simp only[Act.put,J,U,Aa];refine Reg.Au [4] (by kernel_rfl) (by simp) ?_;intro j0 hj0;obtain rfl:j0=4:=by simpa using hj0
 clear hj0
 right
 refine⟨_,_,_,_,_,_,18,#[],rfl,by rfl,(by go_simp<;>first | rfl | exact⟨rfl,rfl⟩),?_⟩;refine Calls.mono (L1.o _) ?_;rintro e wkb18 ⟨rfl,hb⟩;replace HC:=I (HC.o.below hb);replace HB:=HB.t hb;replace HG:=I (HG.o.below hb);clear hb;refine⟨_,rfl,HG.o,?_⟩;simp only[Act.put,J,U,Aa];refine Reg.Au [5] (by kernel_rfl) (by simp) ?_;intro j0 hj0;obtain rfl:j0=5:=by simpa using hj0
 clear hj0
 right
 refine⟨_,_,_,_,_,_,22,#[pv p.k,prV Cf,.int .i64 1],rfl,by rfl,(by go_simp<;>first | rfl | exact⟨rfl,rfl⟩),?_⟩;refine Calls.mono (CC2.o _ _ HC.o) ?_;rintro e wkb19 ⟨v2,m2,rfl,_,hk⟩;have hnb:=hk.blk HG.o NG.o;replace NG:=I (hk.not NG.o HG.o.lt);replace HG:=I hnb;clear hnb;replace HB:=I (Fg HB.o HC.o hk);replace HC:=I hk.cl;clear hk;clear CC2;refine⟨_,rfl,HG.o,?_⟩;simp only[Act.put,J,U,Aa];refine Reg.tk 6 (v:=?vkb20) rfl HG.o (fun w' hS=>?hkb20) ?rkb20
 case hkb20=>go_simp<;>rfl
 simp only[Act.put,J,U,Aa];refine Reg.tk 7 (v:=?vkb21) rfl HG.o (fun w' hS=>?hkb21) ?rkb21
 case hkb21=>go_simp<;>rfl
 simp only[Act.put,J,U,Aa];refine Reg.tk 8 (v:=?vkb22) rfl HG.o (fun w' hS=>?hkb22) ?rkb22
 case hkb22=>go_simp<;>rfl
 simp only[Act.put,J,U,Aa];refine Reg.tk 9 (v:=?vkb23) rfl HG.o (fun w' hS=>?hkb23) ?rkb23
 case hkb23=>go_simp<;>rfl
 simp only[Act.put,J,U,Aa];refine Reg.tk 10 (v:=?vkb24) rfl HG.o (fun w' hS=>?hkb24) ?rkb24
 case hkb24=>go_simp<;>rfl
 simp only[Act.put,J,U,Aa];refine Reg.tk 11 (v:=?vkb25) rfl HG.o (fun w' hS=>?hkb25) ?rkb25
 case hkb25=>go_simp<;>rfl
 simp only[Act.put,J,U,Aa];refine Reg.tk 12 (v:=?vkb26) rfl HG.o (fun w' hS=>?hkb26) ?rkb26
 case hkb26=>go_simp<;>rfl
 simp only[Act.put,J,U,Aa];refine wpAnyH_done (by kernel_rfl) ?_ _;have q0:wkb19.cell? ⟨g,0,none⟩=some (pv p.k):=(HG.o.cell 0).trans HCG.o;have ev1:=EV1.o;subst ev1;clear EV1;obtain⟨nb,enb⟩:∃z,z=b0.length:=⟨_,rfl⟩;rw[←enb] at hl0⊢;have t1:decide ((0:Int)<(nb:Int))=true:=decide_eq_true (by omega);clear enb
 go_wp2_with (first
  |(go_at_call 16;refine Calls.mono (CS.o _ _ HC.o) ?_;rintro e w9 ⟨rfl,hb⟩;clear CS q0;replace HB:=HB.t hb;clear hb)
  |fail)
 go_ret;exact⟨rfl,HB.o⟩
end Cl
end Go.Proofs.YtlfmicidppccnaaGreat
