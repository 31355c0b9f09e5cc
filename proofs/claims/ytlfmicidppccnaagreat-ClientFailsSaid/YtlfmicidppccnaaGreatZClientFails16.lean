import Derived.Test.YtlfmicidppccnaaGreatZClientFails14
import Derived.Test.YtlfmicidppccnaaGreatZClientFails15
set_option maxHeartbeats 25600000
set_option maxRecDepth 100000
set_option linter.unusedVariables false
set_option linter.unusedSimpArgs false
namespace Go.Proofs.YtlfmicidppccnaaGreat
namespace Cl
open Go.RowKit Ad Se
open Nm (L krb tgL tgR)
open Ms (Pr tmB pSm mSm mgD mgO mgE Mg)
open Rg (prV)
theorem CI {w0 w w':World} {p:CP} {m m':CM} {s s':St} {c c':Nat} (hB:Below w0.heap.size w0 w) (hc:Cl w w0.heap.size p m s c) (hk:Tu w w' w0.heap.size p m m' s' c'):Below w0.heap.size w0 w':=hB.trans (hk.chg.below hB.size (fun j _ x=>hc.lo x))
theorem OQ {w0 w w':World} {g:Nat} (hB:Below w0.heap.size w0 w) (hg:w0.heap.size≤g) (hc:Chg (fun j=>j=g) w w'):Below w0.heap.size w0 w':=hB.trans (hc.below hB.size (fun j _ x=>by omega))
theorem sz0 {p:CP} (hp:p.P=annP):Sz p st0 0:=by
 refine⟨Nat.le_refl _,Nat.le_refl _,Nat.le_refl _,⟨Int.le_refl _,Int.le_refl _⟩,⟨Nat.le_refl _,fun v hv=>by cases hv⟩,⟨by decide,by decide⟩,by decide,fun i hi=>(by cases hi),?_⟩;rw[hp];exact⟨⟨by decide,by decide⟩,by decide⟩
theorem Er:pSm Ci:=⟨by decide,by decide⟩
section
variable {w w' w0:World} {B:Nat} {p:CP} {m m' m0:CM} {s:St} {c:Nat} {r:L}
theorem Hu (h:Cl w B p m st0 0) (hp:p.P=annP) (hks:p.ks=k9) (now:Int) (ht:tmB now=true):Calls Tryz.prog 22 #[pv p.k,prV Ci,.int .i64 now] w fun e w'=>∃v m',e = .returned (.tuple #[.string ⟨#[65]⟩,v,.int .i64 0])∧SlN (Out w p m') w' v (lO (mgO (mAs (firQ annP st0 now))))∧Tu w w' B p m m' (s1 0) 2:=by
 have:=ON (R:=(s1 0,([65],lO (mgO (mAs (firQ annP st0 now)))))) h (sz0 hp) (by decide) Er (by decide) FP ht (fun w1 m1 h1'=>by
  have hf:=Iw (o:=none) h1' (by decide) (Mv (sz0 hp) Er) ht rfl rfl;rw[hp,hks] at hf;refine hf.mono ?_;rintro e w2 ⟨v,m2,rfl,a1,a2⟩;exact⟨v,m2,by rw[hp],by rw[hp];rfl,a1,a2.more (by decide)⟩)
 exact this
theorem Mh (h:Cl w B p m s c) (hz:Sz p s c) (hc:c≤700000) (now:Int) (hst:s.st=1):Calls Tryz.prog 22 #[pv p.k,prV Ci,.int .i64 now] w fun e w'=>∃v m',e = .returned (.tuple #[.string ⟨#[]⟩,v,.int .i64 16])∧SlN (Out w p m') w' v []∧Tu w w' B p m m' s (c+2):=by
 exact cha_1 (t:=Ci) (now:=now) h hz hc Er hst
theorem sz1 {p:CP} (hp:p.P=annP):Sz p (s1 0) 2:=by
 refine⟨by decide,by decide,by decide,⟨by decide,by decide⟩,⟨by decide,fun v hv=>by cases hv⟩,Er,by decide,fun i hi=>(by cases hi),?_⟩;rw[hp];exact⟨⟨by decide,by decide⟩,by decide⟩
theorem NW (now:Int) (ht:tmB now=true):0<(lO (mgO (mAs (firQ annP st0 now)))).length:=by
 have ha:=KH (s:=st0) Hr Hs ht (by decide);rw[(KG ha).1];show 0<(mgE (mAs (firQ annP st0 now))).length;have:mgE (mAs (firQ annP st0 now))=Ms.asE (firQ annP st0 now):=rfl;rw[this,Ms.asE];have h:=DerP.BW 106 [Ms.prE (firQ annP st0 now).c,Ms.prE (firQ annP st0 now).s,DerP.encI (firQ annP st0 now).t,DerP.encI (firQ annP st0 now).no].flatten;rw[h];omega
theorem OR {c x:Nat} {q:Pq}:(prA c x q)[35]? = some (.int .i64 q.u):=by kernel_rfl
theorem pr_35 {c x:Nat} {q:Pq} {g:Nat} {t:TypeId} (h:Blk w g t (prA c x q)):w.cell? ⟨g,35,none⟩=some (.int .i64 q.u):=by
 have e:(prA c x q)[35]? = some (.int .i64 q.u):=by kernel_rfl
 exact(h.cell 35).trans e
theorem OS {c x:Nat} {q:Pq} {g:Nat} {t:TypeId} {no:Int} {cy:Array Value} {ks:Nat→UInt8} (h1:Blk w g t ((prA c x q).setIfInBounds 2 (.int .i64 no))) (hy:cy=Bo ks):Blk (w.setCells g 3 cy.toList) g t (prA c x ⟨no,ks,q.u⟩):=by
 subst hy;have h2:=Se.Blk.setCells (Bo ks).toList 3 _ _ h1;have e:(JM ((prA c x q).setIfInBounds 2 (.int .i64 no)) 3 (Bo ks).toList)=prA c x ⟨no,ks,q.u⟩:=by kernel_rfl
 rw[e] at h2;exact h2
theorem NY {c x:Nat} {q:Pq} {g:Nat} {t:TypeId} (h:Blk w g t (prA c x q)) (u:Int):Blk (w.setCell ⟨g,35,none⟩ (.int .i64 u)) g t (prA c x ⟨q.no,q.ks,u⟩):=by
 have h3:=h.set 35 (.int .i64 u);have e:(prA c x q).setIfInBounds 35 (.int .i64 u)=prA c x ⟨q.no,q.ks,u⟩:=by kernel_rfl
 rw[e] at h3;exact h3
theorem OT (w:World) (g:Nat) (a u:Value) (vs:List Value):Chg (fun j=>j=g) w (((w.setCell ⟨g,2,none⟩ a).setCells g 3 vs).setCell ⟨g,35,none⟩ u):=by
 have h1:Chg (fun j=>j=g) w (w.setCell ⟨g,2,none⟩ a):=Hp _ _ _ _;have h2:Chg (fun j=>j=g) (w.setCell ⟨g,2,none⟩ a) ((w.setCell ⟨g,2,none⟩ a).setCells g 3 vs):=Chg.of_grown (Wh.BY _ _ _ _) rfl;exact(h1.trans h2 (fun _ _ x=>x)).trans (Hp _ _ _ _) (fun _ _ x=>x)
abbrev RdP (w:World) (b:L) (e:Ending) (w':World):Prop:=∃ds,e = .returned (.tuple #[.agg ds,.int .i64 (Mc.mgI b)])∧Mc.MgV w' w.heap.size ds (Mc.mgG b)∧Below w.heap.size w w'
abbrev RdQ (w:World) (b:L) (e:Ending) (w':World):Prop:=∃ds,e = .returned (.tuple #[.agg ds,.int .i64 (Mc.mgI b)])∧(ds.size=30∧ds.all (·.oneCell')=true∧(Tryz.prog.info? 76).map (·.size)=some ds.size)∧
 (∀(w1:World) (gb:Nat) (t:TypeId),Blk w1 gb t ds→w1.cell? ⟨gb,0,none⟩=some (.int .i64 (Mc.mgG b).k)∧w1.rangeAt gb 1 (asA (Mc.mgG b).aq).toList∧w1.cell? ⟨gb,15,none⟩=some (.int .i64 (Mc.mgG b).tg.no))∧Mc.MgV w' w.heap.size ds (Mc.mgG b)∧Below w.heap.size w w'
theorem NZ {v:Value} {b:L} (h:Calls Tryz.prog 27 #[v] w (RdP w b)):Calls Tryz.prog 27 #[v] w (RdQ w b):=by
 refine h.mono ?_;rintro e w' ⟨ds,rfl,hm,hb⟩;have hm2:=hm;obtain⟨pa,pt,pr,pp,pf,h1,h2⟩:=hm;have h6:pa=asA (Mc.mgG b).aq:=h2.a;obtain⟨bv,av,h7,_,_⟩:=h2.t;subst h6;refine⟨ds,rfl,⟨by rw[h1];exact h2.size _,by rw[h1];exact h2.one _,by rw[h1,h2.size];exact Mc.AA⟩,fun w1 gb t hx=>?_,hm2,hb⟩;rw[h1] at hx;have ha:=h2.at_ hx;have ht:=ha.t;rw[h7] at ht;exact⟨ha.k,ha.a,ht 8 _ rfl⟩
theorem mgD_p {b:L} {G:Mg} (h:mgD b=some G):Ms.mgP b=G:=by
 unfold Ms.mgD at h
 split at h
 ·injection h
 ·cases h
theorem Oa {b:L} {G:Mg} (h:mgD b=some G) (hk:G.k=1):∃r,b=106 :: r:=by
 have hp:=mgD_p h;cases b with
 |nil=>rw[←hp] at hk;exact absurd hk (by decide)
 |cons t r=>
  by_cases e:t=106
  ·exact⟨r,by rw[e]⟩
  ·unfold Ms.mgP at hp
   simp only[if_neg e] at hp
   exfalso
   split at hp
   ·rw[←hp] at hk;exact absurd hk (by show ¬(2:Int)=1;decide)
   ·split at hp
    ·rw[←hp] at hk;exact absurd hk (by show ¬(3:Int)=1;decide)
    ·split at hp
     ·rw[←hp] at hk;exact absurd hk (by show ¬(4:Int)=1;decide)
     ·split at hp
      ·rw[←hp] at hk;exact absurd hk (by show ¬(5:Int)=1;decide)
      ·rw[←hp] at hk;exact absurd hk (by decide)
theorem KJ {v:Value} {b:L} {S:Nat→Prop} {G:Mg} (hv:SlN S w v b) (hl:b.length≤20000) (h:mgD b=some G) (hk:G.k=1):Calls Tryz.prog 27 #[v] w (RdQ w b):=by
 obtain⟨r,rfl⟩:=Oa h hk;obtain⟨A,cp,rfl,hc,hr⟩:=hv;exact NZ (Mc.NV 106 r A cp w hr.rd hc hl rfl)
def SenP (w:World) (g c x:Nat) (q:Pq) (e:Ending) (w':World):Prop:=e = .returned (.tuple #[])∧Blk w' g 37 (prA c x q)∧Chg (fun j=>j=g) w w'
theorem OU {b:L} {v:Value} {g k x:Nat} {q:Pq} {S:Nat→Prop} (h:Blk w g 37 (prA k x q)) (hl:b.length≤20000) (hv:SlN S w v b) {G:Mg} (h3:mgD b=some G) (h4:G.k=1) :
  Calls Tryz.prog 23 #[pv g,v] w (SenP w g k x ⟨G.aq.no,k9,3⟩):=by
 have CD:=I (KJ hv hl h3 h4);have HG:=I h;have HB:=I (Chg.refl (fun j=>j=g) w);have hi:Mc.mgI b=0:=by unfold Mc.mgI;rw[h3];rfl
 have hg:Mc.mgG b=G:=by unfold Mc.mgG;rw[h3];rfl
 unfold RdQ at CD;rw[hi,hg] at CD;have HKI:=I (fun(ks:Nat→UInt8)=>(show(Tryz.prog.info? 35).map (·.size)=some (Bo ks).size by rw[Bc];kernel_rfl));have HKO:=I NS;have HB9:=I Ix;clear h hl hv h3 hi hg;go_enter Tryz.func23,Tryz.ntmps23
 go_upto_region 2 with(first
  |(go_at_call 27;refine Calls.mono CD.o ?_;rintro e wd ⟨ds,rfl,⟨hs,ho,hi⟩,hat,_,hb⟩;clear CD;have HDS:=I hs;have HDO:=I ho;have HDI:=I hi;have HAT:=I hat;replace HG:=I (HG.o.below hb);replace HB:=I (HB.o.trans (Chg.of_below hb) (fun _ _ x=>x));clear hs ho hi hat hb)
  |(refine Wh.BZ (by rfl) 76 (.tmp 4) (.tmp 9) (by rfl) 76 rfl ds (by rfl) (by rfl) (by rw[HDS.o];rfl) HDI.o HDO.o ?_;rintro V1 hV hb;have HM:=I hV;replace HG:=I (HG.o.below hb);replace HB:=I (HB.o.trans (Chg.of_below hb) (fun _ _ x=>x));clear hV hb)
  |fail)
 obtain⟨gm,egm⟩:∃z,z=wd.heap.size:=⟨_,rfl⟩;rw[←egm] at HM⊢;clear egm;obtain⟨m0,m1,_⟩:=HAT.o _ _ _ HM.o;rw[h4] at m0;have m6:V1.cell? ⟨gm,6,none⟩=some (.int .i64 G.aq.no):=m1 5 _ rfl;have M1:=I m1;clear m1;have p2:V1.cell? ⟨g,2,none⟩=some (.int .i64 q.no):=HG.o.cell 2;have fz:=HG.o.frozen
 go_upto_region 4 with fail
 obtain⟨W1,eW1⟩:∃z,z=V1.setCell ⟨g,2,none⟩ (.int .i64 G.aq.no):=⟨_,rfl⟩;have HG1:=I (show Blk W1 g 37 ((prA k x q).setIfInBounds 2 (.int .i64 G.aq.no)) by rw[eW1];exact HG.o.set 2 _);have EW1:=I eW1;rw[←eW1];clear eW1 m0 m6 p2 fz;have NEG:=I (show gm≠g by have:=HM.o;have h1:=HG.o.cell 35;have h2:=HM.o.cell 35;intro e;rw[e] at h2;have h3:=h1.symm.trans h2;exact absurd (congrArg Option.isSome h3) (by rw[show(prA k x q)[35]? = some (.int .i64 q.u) from OR,show ds[35]? = none from by rw[Array.getElem?_eq_none];rw[HDS.o];decide];simp));obtain⟨cy,ecy⟩:∃z,z=Bo k9:=⟨_,rfl⟩;have HKI2:=I (show(Tryz.prog.info? 35).map (·.size)=some cy.size by rw[ecy];exact HKI.o _);have HKO2:=I (show cy.all (·.oneCell')=true by rw[ecy];exact HKO.o _);rw[←ecy] at HB9;have HTH:=I (show W1.there g 3 cy.size from Wh.Bl HG1.o 3 _ (by rw[ecy,Bc];simp [Bc]));have ECY:=I ecy;clear ecy
 go_upto_region 5 with(first
  |(refine Mc.Am (by rfl) 35 #[(0,.const (.int .u8 9))] (by rfl) cy (by simp only[List.map_toArray,List.map_cons,List.map_nil];exact HB9.o) ?_)
  |(refine wpList_store_mid (by rfl) 35 (.tmp 26) (.tmp 24) (by rfl) g 3 cy (by rfl) (by rfl) HTH.o HKI2.o HKO2.o ?_;have HQ:=I (OS HG1.o ECY.o);have p35:(W1.setCells g 3 cy.toList).cell? ⟨g,35,none⟩=some (.int .i64 q.u):=(by have h:=pr_35 HQ.o;exact h);have fz:=HQ.o.frozen)
  |fail)
 obtain⟨V9,eV9⟩:∃z,z=(W1.setCells g 3 cy.toList).setCell ⟨g,35,none⟩ (.int .i64 3):=⟨_,rfl⟩;have H9:=I (show Blk V9 g 37 (prA k x ⟨G.aq.no,k9,3⟩) by rw[eV9];exact NY HQ.o 3);have hc9:Chg (fun j=>j=g) V1 V9:=by rw[eV9,EW1.o];exact OT _ _ _ _ _
 have m0:V9.cell? ⟨gm,0,none⟩=some (.int .i64 1):=by
  have:=(HAT.o _ _ _ (hc9.blk HM.o NEG.o)).1;rw[h4] at this;exact this
 have HC9:=I (HB.o.trans hc9 (fun _ _ x=>x));rw[←eV9];clear eV9 hc9 p35 fz
 go_wp2_with fail
 go_end0
 exact⟨rfl,H9.o,HC9.o⟩
end
theorem KK (w:World):Calls Tryz.prog 21 #[] w fun e w'=>e = .returned (.bool true)∧Below w.heap.size w w':=by
 have CB:=I (Ht w);have L1:=I (fun(w1:World)=>KI w1);go_enter Tryz.func21,Tryz.ntmps21
 go_upto_region 4 with(first
  |(go_at_call 14;refine Calls.mono CB.o ?_;rintro e w1 ⟨g,x,p,m,rfl,hp,hks,hc,hn,hg,hlo,hb⟩;clear CB;have HC:=I hc;have NG:=I hn;have HG0:=I hg;have HB:=I hb;clear hc hn hg hb)
  |fail)
 obtain⟨cg,ecg⟩:∃z,z=prA p.k x pq0:=⟨_,rfl⟩;have HG:=I (show Blk w1 g 37 cg by rw[ecg];exact HG0.o);have HCG:=I (show cg[0]? = some (pv p.k) by rw[ecg];rfl);have CC:=I (fun(w2:World) (m2:CM) (h:Cl w2 w.heap.size p m2 st0 0)=>Hu h hp hks 1 (by decide));have CC2:=I (fun(w2:World) (m2:CM) (h:Cl w2 w.heap.size p m2 (s1 0) 2)=>Mh h (sz1 hp) (by decide) 1 rfl);have CS:=I (fun(w2:World) (m2:CM) (h:Cl w2 w.heap.size p m2 (s1 0) (2+2))=>(show Calls Tryz.prog 16 #[pv p.k] w2 fun e w'=>e = .returned (.tuple #[.int .i64 1,.int .i64 0,.int .i64 1])∧Below w2.heap.size w2 w' from Hq h));have hl0:=NW 1 (by decide);obtain⟨b0,eb0⟩:∃z,z=lO (mgO (mAs (firQ annP st0 1))):=⟨_,rfl⟩;rw[←eb0] at CC hl0;clear HG0 hp hks hlo ecg eb0;have hdr:Below w1.heap.size w1 w1.drew:=below_drewN Af 1;replace HC:=I (HC.o.below hdr);replace HB:=HB.t hdr;replace HG:=I (HG.o.below hdr);clear hdr;refine Reg.Bk (fun w'=>Blk w' g 37 cg) 13 rfl (by kernel_rfl) HG.o ?_;refine Reg.tk 0 (v:=?vka1) rfl HG.o (fun w' hS=>?hka1) ?rka1
 case hka1=>go_simp<;>rfl
 simp only[Act.put,J,U,Aa];refine Reg.tk 1 (v:=?vka2) rfl HG.o (fun w' hS=>?hka2) ?rka2
 case hka2=>go_simp<;>rfl
 simp only[Act.put,J,U,Aa];refine Reg.tk 2 (v:=?vka3) rfl HG.o (fun w' hS=>?hka3) ?rka3
 case hka3=>go_simp<;>rfl
 simp only[Act.put,J,U,Aa];refine Reg.tk 3 (v:=pv p.k) rfl HG.o (fun w' hS=>?hka4) ?rka4
 case hka4=>have q0:=(hS.cell 0).trans HCG.o;go_simp<;>rfl
 simp only[Act.put,J,U,Aa];refine Reg.AB [4] (by kernel_rfl) (by simp) ?_;intro j0 hj0;obtain rfl:j0=4:=by simpa using hj0
 clear hj0
 right
 refine⟨_,_,_,_,_,_,18,#[],rfl,by rfl,(by go_simp<;>first | rfl | exact⟨rfl,rfl⟩),?_⟩;refine Calls.mono (L1.o _) ?_;rintro e wka5 ⟨rfl,hb⟩;replace HC:=I (HC.o.below hb);replace HB:=HB.t hb;replace HG:=I (HG.o.below hb);clear hb;refine⟨_,rfl,HG.o,?_⟩;simp only[Act.put,J,U,Aa];refine Reg.AB [5] (by kernel_rfl) (by simp) ?_;intro j0 hj0;obtain rfl:j0=5:=by simpa using hj0
 clear hj0
 right
 refine⟨_,_,_,_,_,_,22,#[pv p.k,prV Ci,.int .i64 1],rfl,by rfl,(by go_simp<;>first | rfl | exact⟨rfl,rfl⟩),?_⟩;refine Calls.mono (CC.o _ _ HC.o) ?_;rintro e wka6 ⟨v1,m1,rfl,hs,hk⟩;have hnb:=hk.blk HG.o NG.o;replace NG:=I (hk.not NG.o HG.o.lt);replace HG:=I hnb;clear hnb;replace HB:=I (CI HB.o HC.o hk);replace HC:=I hk.cl;obtain⟨A1,c1,ev1,_⟩:=hs;have EV1:=I ev1;clear ev1;clear hk;clear CC;refine⟨_,rfl,HG.o,?_⟩;simp only[Act.put,J,U,Aa];refine Reg.tk 6 (v:=?vka7) rfl HG.o (fun w' hS=>?hka7) ?rka7
 case hka7=>go_simp<;>rfl
 simp only[Act.put,J,U,Aa];refine Reg.tk 7 (v:=?vka8) rfl HG.o (fun w' hS=>?hka8) ?rka8
 case hka8=>go_simp<;>rfl
 simp only[Act.put,J,U,Aa];refine Reg.tk 8 (v:=?vka9) rfl HG.o (fun w' hS=>?hka9) ?rka9
 case hka9=>go_simp<;>rfl
 simp only[Act.put,J,U,Aa];refine Reg.tk 9 (v:=?vka10) rfl HG.o (fun w' hS=>?hka10) ?rka10
 case hka10=>go_simp<;>rfl
 simp only[Act.put,J,U,Aa];refine Reg.tk 10 (v:=?vka11) rfl HG.o (fun w' hS=>?hka11) ?rka11
 case hka11=>go_simp<;>rfl
 simp only[Act.put,J,U,Aa];refine Reg.tk 11 (v:=?vka12) rfl HG.o (fun w' hS=>?hka12) ?rka12
 case hka12=>go_simp<;>rfl
 simp only[Act.put,J,U,Aa];refine Reg.tk 12 (v:=?vka13) rfl HG.o (fun w' hS=>?hka13) ?rka13
 case hka13=>go_simp<;>rfl
 simp only[Act.put,J,U,Aa];refine wpAnyH_done (by kernel_rfl) ?_ _
 go_upto_region 5 with fail
 obtain⟨w5,ew5⟩:∃z,z=wka6:=⟨_,rfl⟩;rw[←ew5] at HC HG HB⊢;clear ew5;have hdr:Below w5.heap.size w5 w5.drew:=below_drewN Af 1;replace HC:=I (HC.o.below hdr);replace HB:=HB.t hdr;replace HG:=I (HG.o.below hdr);clear hdr;refine Reg.Bk (fun w'=>Blk w' g 37 cg) 13 rfl (by kernel_rfl) HG.o ?_;refine Reg.tk 0 (v:=?vkb14) rfl HG.o (fun w' hS=>?hkb14) ?rkb14
 case hkb14=>go_simp<;>rfl
 simp only[Act.put,J,U,Aa];refine Reg.tk 1 (v:=?vkb15) rfl HG.o (fun w' hS=>?hkb15) ?rkb15
 case hkb15=>go_simp<;>rfl
 simp only[Act.put,J,U,Aa];refine Reg.tk 2 (v:=?vkb16) rfl HG.o (fun w' hS=>?hkb16) ?rkb16
 case hkb16=>go_simp<;>rfl
 simp only[Act.put,J,U,Aa];refine Reg.tk 3 (v:=pv p.k) rfl HG.o (fun w' hS=>?hkb17) ?rkb17
 case hkb17=>have q0:=(hS.cell 0).trans HCG.o;go_simp<;>rfl
 simp only[Act.put,J,U,Aa];refine Reg.AB [4] (by kernel_rfl) (by simp) ?_;intro j0 hj0;obtain rfl:j0=4:=by simpa using hj0
 clear hj0
 right
 refine⟨_,_,_,_,_,_,18,#[],rfl,by rfl,(by go_simp<;>first | rfl | exact⟨rfl,rfl⟩),?_⟩;refine Calls.mono (L1.o _) ?_;rintro e wkb18 ⟨rfl,hb⟩;replace HC:=I (HC.o.below hb);replace HB:=HB.t hb;replace HG:=I (HG.o.below hb);clear hb;refine⟨_,rfl,HG.o,?_⟩;simp only[Act.put,J,U,Aa];refine Reg.AB [5] (by kernel_rfl) (by simp) ?_;intro j0 hj0;obtain rfl:j0=5:=by simpa using hj0
 clear hj0
 right
 refine⟨_,_,_,_,_,_,22,#[pv p.k,prV Ci,.int .i64 1],rfl,by rfl,(by go_simp<;>first | rfl | exact⟨rfl,rfl⟩),?_⟩;refine Calls.mono (CC2.o _ _ HC.o) ?_;rintro e wkb19 ⟨v2,m2,rfl,_,hk⟩;have hnb:=hk.blk HG.o NG.o;replace NG:=I (hk.not NG.o HG.o.lt);replace HG:=I hnb;clear hnb;replace HB:=I (CI HB.o HC.o hk);replace HC:=I hk.cl;clear hk;clear CC2;refine⟨_,rfl,HG.o,?_⟩;simp only[Act.put,J,U,Aa];refine Reg.tk 6 (v:=?vkb20) rfl HG.o (fun w' hS=>?hkb20) ?rkb20
 case hkb20=>go_simp<;>rfl
 simp only[Act.put,J,U,Aa];refine Reg.tk 7 (v:=?vkb21) rfl HG.o (fun w' hS=>?hkb21) ?rkb21
 case hkb21=>go_simp<;>rfl
 simp only[Act.put,J,U,Aa];refine Reg.tk 8 (v:=?vkb22) rfl HG.o (fun w' hS=>?hkb22) ?rkb22
 case hkb22=>go_simp<;>rfl
 simp only[Act.put,J,U,Aa];refine Reg.tk 9 (v:=?vkb23) rfl HG.o (fun w' hS=>?hkb23) ?rkb23
 case hkb23=>go_simp<;>rfl
 simp only[Act.put,J,U,Aa];refine Reg.tk 10 (v:=?vkb24) rfl HG.o (fun w' hS=>?hkb24) ?rkb24
 case hkb24=>go_simp<;>rfl
 simp only[Act.put,J,U,Aa];refine Reg.tk 11 (v:=?vkb25) rfl HG.o (fun w' hS=>?hkb25) ?rkb25
 case hkb25=>go_simp<;>rfl
 simp only[Act.put,J,U,Aa];refine Reg.tk 12 (v:=?vkb26) rfl HG.o (fun w' hS=>?hkb26) ?rkb26
 case hkb26=>go_simp<;>rfl
 simp only[Act.put,J,U,Aa];refine wpAnyH_done (by kernel_rfl) ?_ _;have q0:wkb19.cell? ⟨g,0,none⟩=some (pv p.k):=(HG.o.cell 0).trans HCG.o;have ev1:=EV1.o;subst ev1;clear EV1;obtain⟨nb,enb⟩:∃z,z=b0.length:=⟨_,rfl⟩;rw[←enb] at hl0⊢;have t1:decide ((0:Int)<(nb:Int))=true:=decide_eq_true (by omega);clear enb
 go_wp2_with (first
  |(go_at_call 16;refine Calls.mono (CS.o _ _ HC.o) ?_;rintro e w9 ⟨rfl,hb⟩;clear CS q0;replace HB:=HB.t hb;clear hb)
  |fail)
 go_ret;exact⟨rfl,HB.o⟩
end Cl
namespace Clf
open Cl Go.RowKit Ad Se
open Nm (L krb tgL tgR)
open Ms (Pr tmB pSm mSm mgO mgD mgB mgE Mg As Tg Re Tk prB)
open Rg (prV)
open Ca (Cr It putL putE)
def pq1:Pq:=⟨1,k9,3⟩
theorem Mi {g:Mg}:(lO (mgO g)).length≤2000:=by
 cases e:mgO g with
 |none=>exact Nat.zero_le _
 |some b=>exact(Ms.BM.1 e).2.2▸(Ms.BM.1 e).2.1
theorem Iz {w:World} {now:Int} (ht:tmB now=true) {g k x:Nat} {q:Pq} {v:Value} {S:Nat→Prop} (h:Blk w g 37 (prA k x q)) (hv:SlN S w v (lO (mgO (mAs (firQ annP st0 now))))):Calls Tryz.prog 23 #[pv g,v] w (SenP w g k x pq1):=by
 have ha:=KH (s:=st0) Hr Hs ht (by decide);have hm:=KG ha;exact OU (G:=mAs (firQ annP st0 now)) h (Nat.le_trans Mi (by decide)) hv (by rw[hm.1];exact hm.2) rfl
abbrev faA (e no:Int):Array Value:=#[.int .i64 e,.int .i64 no]
theorem GM (e no:Int):Tryz.prog.built 76 [(0,.int .i64 5),(5,.agg (faA e no))]=some (Mc.mgA 5 Mc.zA Mc.zT Mc.zR Mc.zP (faA e no)):=by kernel_rfl
theorem KL (e no:Int) (w:World):Calls Tryz.prog 36 #[.agg (Mc.mgA 5 Mc.zA Mc.zT Mc.zR Mc.zP (faA e no))] w (Ms.EncR w (mgO (mFa ⟨e,no⟩))):=
 Ms.GJ (mFa ⟨e,no⟩) none none none none none none 0 0 0 0 0 0 w ⟨⟨Mc.BJ,Mc.BJ⟩,⟨Mc.BJ,Mc.BJ⟩,⟨Mc.BJ,Mc.BJ⟩,Mc.BJ⟩ (.inl rfl) (.inl rfl) (.inl rfl) (.inl rfl) (.inl rfl) (.inl rfl)
theorem MA {e no:Int} (h1:1≤e) (h2:e≤255) (h3:0≤no) (h4:no≤100):Ms.faB ⟨e,no⟩=true:=by
 unfold Ms.faB tmB Ms.inB;simp;omega
def sF (e:Int):St:=endS mC (s1 0) 3 e
theorem szF {p:CP} (hp:p.P=annP) (e:Int):Sz p (sF e) 6:=by
 have h:=sz1 hp;exact⟨(by decide:1≤6),(by decide:0≤6),(by decide:0≤6),⟨(by decide:(0:Int)≤1),(by decide:(1:Int)≤6)⟩,⟨(by decide:0≤6),fun v hv=>by cases hv⟩,⟨(by decide:0≤1000000000),(by decide:0≤1000000000)⟩,(by decide:0≤10),fun i hi=>(by cases hi),h.pp⟩
def sG (e:Int):St:=begS (sF e) Ci
theorem cha_F {w:World} {B:Nat} {p:CP} {m:CM} {e now:Int} (ht:tmB now=true) (h:Cl w B p m (sF e) 6) (hp:p.P=annP) (hks:p.ks=k9):Calls Tryz.prog 22 #[pv p.k,prV Ci,.int .i64 now] w fun e' w'=>∃v m',e' = .returned (.tuple #[.string ⟨#[65]⟩,v,.int .i64 0])∧SlN (Out w p m') w' v (lO (mgO (mAs (firQ annP (sG e) now))))∧Tu w w' B p m m' (firS k9 (sG e)) 8:=by
 obtain⟨S2,eS2⟩:∃z,z=sG e:=⟨_,rfl⟩;have hS2:begS (sF e) Ci=S2:=eS2.symm;have hg:Ca.getO S2.l (own annP) now=none:=by rw[eS2];rfl
 have hz2:=Mv (szF hp e) Er;rw[hS2] at hz2;rw[←eS2];have:=ON (now:=now) (R:=(firS k9 S2,([65],lO (mgO (mAs (firQ annP S2 now)))))) h (szF hp e) (by decide) Er (by show ¬(3:Int)=1;decide) FP ht (fun w1 m1 h1'=>by
  rw[hS2] at h1';have hf:=Iw (now:=now) (o:=none) h1' (by decide) hz2 ht (by rw[hp];exact hg) rfl;rw[hp,hks] at hf;rw[hp];refine hf.mono ?_;rintro e2 w2 ⟨v,m2,rfl,a1,a2⟩;exact⟨v,m2,rfl,rfl,a1,a2.more (by decide)⟩)
 exact this
theorem as_2 (e:Int):Ms.asB (firQ annP (sG e) 1)=true:=KH Hr Hs (by decide) (by show 1<1000000;decide)
theorem Ob (er no:Int) (w:World) (h:¬(1≤er∧er≤255∧0≤no∧no≤100)):Calls Tryz.prog 11 #[.int .i64 er,.int .i64 no] w fun e w'=>e = .returned (.bool true)∧Below w.heap.size w w':=by
 by_cases h1:er<1
 ·go_enter Tryz.func11,Tryz.ntmps11
  go_wp2
  go_ret;exact⟨rfl,Below.refl _ _⟩
 ·by_cases h2:255<er
  ·go_enter Tryz.func11,Tryz.ntmps11
   go_wp2
   go_ret;exact⟨rfl,Below.refl _ _⟩
  ·by_cases h3:no<0
   ·go_enter Tryz.func11,Tryz.ntmps11
    go_wp2
    go_ret;exact⟨rfl,Below.refl _ _⟩
   ·have h4:100<no:=by omega
    go_enter Tryz.func11,Tryz.ntmps11
    go_wp2
    go_ret;exact⟨rfl,Below.refl _ _⟩
theorem Oc (er no:Int) (w:World) (g1:1≤er) (g2:er≤255) (g3:0≤no) (g4:no≤100) (g5:no≠1):Calls Tryz.prog 11 #[.int .i64 er,.int .i64 no] w fun e w'=>e = .returned (.bool true)∧Below w.heap.size w w':=by
 have n1:¬er<1:=by omega
 have n2:¬255<er:=by omega
 have n3:¬no<0:=by omega
 have n4:¬100<no:=by omega
 have CB:=I (Ht w);have L1:=I (fun(w1:World)=>KI w1);have KN:=I (fun(w1:World)=>KK w1);have CC:=I (fun(w2:World) (B:Nat) (p:CP) (m2:CM) (h:Cl w2 B p m2 st0 0) (hp:p.P=annP) (hks:p.ks=k9)=>Hu h hp hks 1 (by decide));have CS:=I (fun(w2:World) (g k x:Nat) (v:Value) (S:Nat→Prop) (h:Blk w2 g 37 (prA k x pq0)) (hv:SlN S w2 v (lO (mgO (mAs (firQ annP st0 1)))))=>Iz (by decide) h hv);have CE:=I (fun(w2:World)=>KL er no w2);have hfa:=My (MA g1 g2 g3 g4);have hle:(lO (mgO (mFa ⟨er,no⟩))).length≤100000:=Nat.le_trans Mi (by decide);have hD:mgD (lO (mgO (mFa ⟨er,no⟩)))=some (mFa ⟨er,no⟩):=by rw[hfa.1];exact hfa.2
 have HBM:=I (GM er no);obtain⟨cm,ecm⟩:∃z,z=Mc.mgA 5 Mc.zA Mc.zT Mc.zR Mc.zP (faA er no):=⟨_,rfl⟩;rw[←ecm] at CE HBM;obtain⟨b0,eb0⟩:∃z,z=lO (mgO (mAs (firQ annP st0 1))):=⟨_,rfl⟩;rw[←eb0] at CC CS;have g5':¬(no=1):=g5;have g5b:(no != 1)=true:=by simp [g5]
 have C5:=I (fun(w2:World) (B:Nat) (p:CP) (m2:CM) (v:Value) (h:Cl w2 B p m2 (s1 0) 2) (hp:p.P=annP) (hv:SlN (AO p m2) w2 v (lO (mgO (mFa ⟨er,no⟩))))=>tak_5 (now:=1) h (sz1 hp) (by decide) hle hv rfl (by decide) hD rfl g5);have C6:=I (fun(w2:World) (B:Nat) (p:CP) (m2:CM) (h:Cl w2 B p m2 (s1 0) 6)=>(show Calls Tryz.prog 16 #[pv p.k] w2 fun e w'=>e = .returned (.tuple #[.int .i64 1,.int .i64 0,.int .i64 1])∧Below w2.heap.size w2 w' from Hq h));clear g1 g2 g3 g4 hfa hle hD ecm eb0 g5;go_enter Tryz.func11,Tryz.ntmps11
 go_upto_region 6 with(first
  |(go_at_call 14;refine Calls.mono CB.o ?_;rintro e w1 ⟨g,x,p,m,rfl,hp,hks,hc,hn,hg,hlo,hb⟩;clear CB;have HP:=I hp;have HKS:=I hks;have HC:=I hc;have NG:=I hn;have HG:=I hg;have HLO:=I hlo;have HB:=I hb;clear hp hks hc hn hg hlo hb)
  |fail)
 have hdr:Below w1.heap.size w1 w1.drew:=below_drewN Af 1;replace HC:=I (HC.o.below hdr);replace HB:=HB.t hdr;replace HG:=I (HG.o.below hdr);clear hdr;refine Reg.Bk (fun w'=>Blk w' g 37 (prA p.k x pq0)) 13 rfl (by kernel_rfl) HG.o ?_;refine Reg.tk 0 (v:=?vw2r1) rfl HG.o (fun w' hS=>?hw2r1) ?rw2r1
 case hw2r1=>go_simp<;>rfl
 simp only[Act.put,J,U,Aa];refine Reg.tk 1 (v:=?vw2r2) rfl HG.o (fun w' hS=>?hw2r2) ?rw2r2
 case hw2r2=>go_simp<;>rfl
 simp only[Act.put,J,U,Aa];refine Reg.tk 2 (v:=?vw2r3) rfl HG.o (fun w' hS=>?hw2r3) ?rw2r3
 case hw2r3=>go_simp<;>rfl
 simp only[Act.put,J,U,Aa];refine Reg.tk 3 (v:=pv p.k) rfl HG.o (fun w' hS=>?hw2r4) ?rw2r4
 case hw2r4=>have q0:w'.cell? ⟨g,0,none⟩=some (pv p.k):=hS.cell 0;go_simp<;>rfl
 simp only[Act.put,J,U,Aa];refine Reg.AB [4] (by kernel_rfl) (by simp) ?_;intro j0 hj0;obtain rfl:j0=4:=by simpa using hj0
 clear hj0
 right
 refine⟨_,_,_,_,_,_,18,#[],rfl,by rfl,(by go_simp<;>first | rfl | exact⟨rfl,rfl⟩),?_⟩;refine Calls.mono (L1.o _) ?_;rintro e ww2r5 ⟨rfl,hb⟩;replace HC:=I (HC.o.below hb);replace HB:=HB.t hb;replace HG:=I (HG.o.below hb);clear hb;refine⟨_,rfl,HG.o,?_⟩;simp only[Act.put,J,U,Aa];refine Reg.AB [5] (by kernel_rfl) (by simp) ?_;intro j0 hj0;obtain rfl:j0=5:=by simpa using hj0
 clear hj0
 right
 refine⟨_,_,_,_,_,_,22,#[pv p.k,prV Ci,.int .i64 1],rfl,by rfl,(by go_simp<;>first | rfl | exact⟨rfl,rfl⟩),?_⟩;refine Calls.mono (CC.o _ _ _ _ HC.o HP.o HKS.o) ?_;rintro e ww2r6 ⟨v1,m1,rfl,hs,hk⟩;have hnb:=hk.blk HG.o NG.o;replace NG:=I (hk.not NG.o HG.o.lt);replace HG:=I hnb;clear hnb;replace HB:=I (CI HB.o HC.o hk);replace HC:=I hk.cl;have S1:=I (KC hs);clear hk;clear CC hs;refine⟨_,rfl,HG.o,?_⟩;simp only[Act.put,J,U,Aa];refine Reg.tk 6 (v:=?vw2r7) rfl HG.o (fun w' hS=>?hw2r7) ?rw2r7
 case hw2r7=>go_simp<;>rfl
 simp only[Act.put,J,U,Aa];refine Reg.tk 7 (v:=?vw2r8) rfl HG.o (fun w' hS=>?hw2r8) ?rw2r8
 case hw2r8=>go_simp<;>rfl
 simp only[Act.put,J,U,Aa];refine Reg.tk 8 (v:=?vw2r9) rfl HG.o (fun w' hS=>?hw2r9) ?rw2r9
 case hw2r9=>go_simp<;>rfl
 simp only[Act.put,J,U,Aa];refine Reg.tk 9 (v:=?vw2r10) rfl HG.o (fun w' hS=>?hw2r10) ?rw2r10
 case hw2r10=>go_simp<;>rfl
 simp only[Act.put,J,U,Aa];refine Reg.tk 10 (v:=?vw2r11) rfl HG.o (fun w' hS=>?hw2r11) ?rw2r11
 case hw2r11=>go_simp<;>rfl
 simp only[Act.put,J,U,Aa];refine Reg.tk 11 (v:=?vw2r12) rfl HG.o (fun w' hS=>?hw2r12) ?rw2r12
 case hw2r12=>go_simp<;>rfl
 simp only[Act.put,J,U,Aa];refine Reg.tk 12 (v:=?vw2r13) rfl HG.o (fun w' hS=>?hw2r13) ?rw2r13
 case hw2r13=>go_simp<;>rfl
 simp only[Act.put,J,U,Aa];refine wpAnyH_done (by kernel_rfl) ?_ _;obtain⟨w2,ew2⟩:∃z,z=ww2r6:=⟨_,rfl⟩;rw[←ew2] at HC HB HG S1⊢;clear ew2
 go_upto_region 9 with(first
  |(go_at_call 23;refine Calls.mono (CS.o _ _ _ _ _ _ HG.o S1.o) ?_;rintro e w3 ⟨rfl,hbk,hcg⟩;replace HG:=I hbk;replace HB:=I (OQ HB.o HLO.o hcg);replace HC:=I (HC.o.chg hcg (fun j hj y=>NG.o (y▸hj)));clear hbk hcg)
  |(refine Mc.Am (by rfl) 76 #[(0,.const (.int .i64 5)),(5,.tmp 52)] (by rfl) cm (by simp only[List.map_toArray,List.map_cons,List.map_nil];exact HBM.o) ?_)
  |(go_at_call 36;refine Calls.mono (CE.o _) ?_;rintro e w4 he;obtain⟨v2,rfl,hs,hb⟩:=KA he;clear CE S1 CS he;have S2:=I (hs.mono (S':=AO p m1) (fun j _ y=>HC.o.lt y));replace HC:=I (HC.o.below hb);replace HB:=HB.t hb;replace HG:=I (HG.o.below hb);clear hs hb)
  |fail)
 have q0:w4.cell? ⟨g,0,none⟩=some (pv p.k):=HG.o.cell 0;have c5:=C5.o w4 _ p m1 v2 HC.o HP.o S2.o;clear C5 S2
 go_wp2_with (first
  |(go_at_call 24;refine Calls.mono c5 ?_;rintro e w5 ⟨v5,m5,rfl,_,hk⟩;clear c5 q0;have hnb:=hk.blk HG.o NG.o;replace NG:=I (hk.not NG.o HG.o.lt);replace HG:=I hnb;replace HB:=I (CI HB.o HC.o hk);replace HC:=I hk.cl;clear hnb hk;have q0:w5.cell? ⟨g,0,none⟩=some (pv p.k):=HG.o.cell 0;have c6:=C6.o _ _ p _ HC.o)
  |(go_at_call 16;refine Calls.mono c6 ?_;rintro e w6 ⟨rfl,hb⟩;clear c6 q0 C6;replace HB:=HB.t hb;replace HC:=I (HC.o.below hb);replace HG:=I (HG.o.below hb);have q2:w6.cell? ⟨g,2,none⟩=some (.int .i64 1):=HG.o.cell 2;clear hb)
  |(go_at_call 21;refine Calls.mono (KN.o _) ?_;rintro e w9 ⟨rfl,hb⟩;clear KN;replace HB:=HB.t hb;clear hb)
  |fail)
 go_ret;exact⟨rfl,HB.o⟩
theorem Od (er no:Int) (w:World) (g1:1≤er) (g2:er≤255) (g3:0≤no) (g4:no≤100) (g5:no=1):Calls Tryz.prog 11 #[.int .i64 er,.int .i64 no] w fun e w'=>e = .returned (.bool true)∧Below w.heap.size w w':=by
 have n1:¬er<1:=by omega
 have n2:¬255<er:=by omega
 have n3:¬no<0:=by omega
 have n4:¬100<no:=by omega
 have CB:=I (Ht w);have L1:=I (fun(w1:World)=>KI w1);have KN:=I (fun(w1:World)=>KK w1);have CC:=I (fun(w2:World) (B:Nat) (p:CP) (m2:CM) (h:Cl w2 B p m2 st0 0) (hp:p.P=annP) (hks:p.ks=k9)=>Hu h hp hks 1 (by decide));have CS:=I (fun(w2:World) (g k x:Nat) (v:Value) (S:Nat→Prop) (h:Blk w2 g 37 (prA k x pq0)) (hv:SlN S w2 v (lO (mgO (mAs (firQ annP st0 1)))))=>Iz (by decide) h hv);have CE:=I (fun(w2:World)=>KL er no w2);have hfa:=My (MA g1 g2 g3 g4);have hle:(lO (mgO (mFa ⟨er,no⟩))).length≤100000:=Nat.le_trans Mi (by decide);have hD:mgD (lO (mgO (mFa ⟨er,no⟩)))=some (mFa ⟨er,no⟩):=by rw[hfa.1];exact hfa.2
 have HBM:=I (GM er no);obtain⟨cm,ecm⟩:∃z,z=Mc.mgA 5 Mc.zA Mc.zT Mc.zR Mc.zP (faA er no):=⟨_,rfl⟩;rw[←ecm] at CE HBM;obtain⟨b0,eb0⟩:∃z,z=lO (mgO (mAs (firQ annP st0 1))):=⟨_,rfl⟩;rw[←eb0] at CC CS;subst g5;have C5:=I (fun(w2:World) (B:Nat) (p:CP) (m2:CM) (v:Value) (h:Cl w2 B p m2 (s1 0) 2) (hp:p.P=annP) (hv:SlN (AO p m2) w2 v (lO (mgO (mFa ⟨er,1⟩))))=>tak_4 (now:=1) h (sz1 hp) (by decide) hle hv rfl (by decide) hD rfl rfl);have C6:=I (fun(w2:World) (B:Nat) (p:CP) (m2:CM) (h:Cl w2 B p m2 (sF er) 6)=>(show Calls Tryz.prog 16 #[pv p.k] w2 fun e w'=>e = .returned (.tuple #[.int .i64 3,.int .i64 er,.int .i64 1])∧Below w2.heap.size w2 w' from Hq h));have C7:=I (fun(w2:World) (B:Nat) (p:CP) (m2:CM) (h:Cl w2 B p m2 (sF er) 6) (hp:p.P=annP) (hks:p.ks=k9)=>cha_F (now:=1) (by decide) h hp hks);have ha2:=KG (as_2 er);have hD2:mgD (lO (mgO (mAs (firQ annP (sG er) 1))))=some (mAs (firQ annP (sG er) 1)):=by rw[ha2.1];exact ha2.2
 have hle2:(lO (mgO (mAs (firQ annP (sG er) 1)))).length≤20000:=Nat.le_trans Mi (by decide);have hI2:Mc.mgI (lO (mgO (mAs (firQ annP (sG er) 1))))=0:=by unfold Mc.mgI;rw[hD2];rfl
 have hG2:Mc.mgG (lO (mgO (mAs (firQ annP (sG er) 1))))=mAs (firQ annP (sG er) 1):=by unfold Mc.mgG;rw[hD2];rfl
 have C8:=I (fun(w2:World) (S:Nat→Prop) (v:Value) (hv:SlN S w2 v (lO (mgO (mAs (firQ annP (sG er) 1)))))=>KJ hv hle2 hD2 rfl);unfold RdQ at C8;rw[hI2,hG2] at C8;obtain⟨b2,eb2⟩:∃z,z=lO (mgO (mAs (firQ annP (sG er) 1))):=⟨_,rfl⟩;rw[←eb2] at C7 C8;obtain⟨sg,esg⟩:∃z,z=sF er:=⟨_,rfl⟩;have ESG:=I esg;clear g1 g2 g3 g4 hfa hle hD ecm eb0 ha2 hD2 hle2 hI2 hG2 eb2 esg;go_enter Tryz.func11,Tryz.ntmps11
 go_upto_region 6 with(first
  |(go_at_call 14;refine Calls.mono CB.o ?_;rintro e w1 ⟨g,x,p,m,rfl,hp,hks,hc,hn,hg,hlo,hb⟩;clear CB;have HP:=I hp;have HKS:=I hks;have HC:=I hc;have NG:=I hn;have HG:=I hg;have HLO:=I hlo;have HB:=I hb;clear hp hks hc hn hg hlo hb)
  |fail)
 have hdr:Below w1.heap.size w1 w1.drew:=below_drewN Af 1;replace HC:=I (HC.o.below hdr);replace HB:=HB.t hdr;replace HG:=I (HG.o.below hdr);clear hdr;refine Reg.Bk (fun w'=>Blk w' g 37 (prA p.k x pq0)) 13 rfl (by kernel_rfl) HG.o ?_;refine Reg.tk 0 (v:=?vw2r14) rfl HG.o (fun w' hS=>?hw2r14) ?rw2r14
 case hw2r14=>go_simp<;>rfl
 simp only[Act.put,J,U,Aa];refine Reg.tk 1 (v:=?vw2r15) rfl HG.o (fun w' hS=>?hw2r15) ?rw2r15
 case hw2r15=>go_simp<;>rfl
 simp only[Act.put,J,U,Aa];refine Reg.tk 2 (v:=?vw2r16) rfl HG.o (fun w' hS=>?hw2r16) ?rw2r16
 case hw2r16=>go_simp<;>rfl
 simp only[Act.put,J,U,Aa];refine Reg.tk 3 (v:=pv p.k) rfl HG.o (fun w' hS=>?hw2r17) ?rw2r17
 case hw2r17=>have q0:w'.cell? ⟨g,0,none⟩=some (pv p.k):=hS.cell 0;go_simp<;>rfl
 simp only[Act.put,J,U,Aa];refine Reg.AB [4] (by kernel_rfl) (by simp) ?_;intro j0 hj0;obtain rfl:j0=4:=by simpa using hj0
 clear hj0
 right
 refine⟨_,_,_,_,_,_,18,#[],rfl,by rfl,(by go_simp<;>first | rfl | exact⟨rfl,rfl⟩),?_⟩;refine Calls.mono (L1.o _) ?_;rintro e ww2r18 ⟨rfl,hb⟩;replace HC:=I (HC.o.below hb);replace HB:=HB.t hb;replace HG:=I (HG.o.below hb);clear hb;refine⟨_,rfl,HG.o,?_⟩;simp only[Act.put,J,U,Aa];refine Reg.AB [5] (by kernel_rfl) (by simp) ?_;intro j0 hj0;obtain rfl:j0=5:=by simpa using hj0
 clear hj0
 right
 refine⟨_,_,_,_,_,_,22,#[pv p.k,prV Ci,.int .i64 1],rfl,by rfl,(by go_simp<;>first | rfl | exact⟨rfl,rfl⟩),?_⟩;refine Calls.mono (CC.o _ _ _ _ HC.o HP.o HKS.o) ?_;rintro e ww2r19 ⟨v1,m1,rfl,hs,hk⟩;have hnb:=hk.blk HG.o NG.o;replace NG:=I (hk.not NG.o HG.o.lt);replace HG:=I hnb;clear hnb;replace HB:=I (CI HB.o HC.o hk);replace HC:=I hk.cl;have S1:=I (KC hs);clear hk;clear CC hs;refine⟨_,rfl,HG.o,?_⟩;simp only[Act.put,J,U,Aa];refine Reg.tk 6 (v:=?vw2r20) rfl HG.o (fun w' hS=>?hw2r20) ?rw2r20
 case hw2r20=>go_simp<;>rfl
 simp only[Act.put,J,U,Aa];refine Reg.tk 7 (v:=?vw2r21) rfl HG.o (fun w' hS=>?hw2r21) ?rw2r21
 case hw2r21=>go_simp<;>rfl
 simp only[Act.put,J,U,Aa];refine Reg.tk 8 (v:=?vw2r22) rfl HG.o (fun w' hS=>?hw2r22) ?rw2r22
 case hw2r22=>go_simp<;>rfl
 simp only[Act.put,J,U,Aa];refine Reg.tk 9 (v:=?vw2r23) rfl HG.o (fun w' hS=>?hw2r23) ?rw2r23
 case hw2r23=>go_simp<;>rfl
 simp only[Act.put,J,U,Aa];refine Reg.tk 10 (v:=?vw2r24) rfl HG.o (fun w' hS=>?hw2r24) ?rw2r24
 case hw2r24=>go_simp<;>rfl
 simp only[Act.put,J,U,Aa];refine Reg.tk 11 (v:=?vw2r25) rfl HG.o (fun w' hS=>?hw2r25) ?rw2r25
 case hw2r25=>go_simp<;>rfl
 simp only[Act.put,J,U,Aa];refine Reg.tk 12 (v:=?vw2r26) rfl HG.o (fun w' hS=>?hw2r26) ?rw2r26
 case hw2r26=>go_simp<;>rfl
 simp only[Act.put,J,U,Aa];refine wpAnyH_done (by kernel_rfl) ?_ _;obtain⟨w2,ew2⟩:∃z,z=ww2r19:=⟨_,rfl⟩;rw[←ew2] at HC HB HG S1⊢;clear ew2
 go_upto_region 9 with(first
  |(go_at_call 23;refine Calls.mono (CS.o _ _ _ _ _ _ HG.o S1.o) ?_;rintro e w3 ⟨rfl,hbk,hcg⟩;replace HG:=I hbk;replace HB:=I (OQ HB.o HLO.o hcg);replace HC:=I (HC.o.chg hcg (fun j hj y=>NG.o (y▸hj)));clear hbk hcg)
  |(refine Mc.Am (by rfl) 76 #[(0,.const (.int .i64 5)),(5,.tmp 52)] (by rfl) cm (by simp only[List.map_toArray,List.map_cons,List.map_nil];exact HBM.o) ?_)
  |(go_at_call 36;refine Calls.mono (CE.o _) ?_;rintro e w4 he;obtain⟨v2,rfl,hs,hb⟩:=KA he;clear CE S1 CS he;have S2:=I (hs.mono (S':=AO p m1) (fun j _ y=>HC.o.lt y));replace HC:=I (HC.o.below hb);replace HB:=HB.t hb;replace HG:=I (HG.o.below hb);clear hs hb)
  |fail)
 have q0:w4.cell? ⟨g,0,none⟩=some (pv p.k):=HG.o.cell 0;have c5:=C5.o w4 _ p m1 v2 HC.o HP.o S2.o;clear C5 S2
 go_upto_region 15 with(first
  |(go_at_call 24;refine Calls.mono c5 ?_;rintro e w5 ⟨v5,m5,rfl,_,hk⟩;clear c5 q0;have hnb:=hk.blk HG.o NG.o;replace NG:=I (hk.not NG.o HG.o.lt);replace HG:=I hnb;replace HB:=I (CI HB.o HC.o hk);replace HC:=I hk.cl;clear hnb hk;have q0:w5.cell? ⟨g,0,none⟩=some (pv p.k):=HG.o.cell 0;have c6:=C6.o _ _ p _ HC.o)
  |(go_at_call 16;refine Calls.mono c6 ?_;rintro e w6 ⟨rfl,hb⟩;clear c6 q0 C6;replace HB:=HB.t hb;replace HC:=I (HC.o.below hb);replace HG:=I (HG.o.below hb);have q2:w6.cell? ⟨g,2,none⟩=some (.int .i64 1):=HG.o.cell 2;clear hb)
  |fail)
 clear q2;have hdr:Below w6.heap.size w6 w6.drew:=below_drewN Af 1;replace HC:=I (HC.o.below hdr);replace HB:=HB.t hdr;replace HG:=I (HG.o.below hdr);clear hdr;refine Reg.Bk (fun w'=>Blk w' g 37 (prA p.k x pq1)) 13 rfl (by kernel_rfl) HG.o ?_;refine Reg.tk 0 (v:=?vw7r27) rfl HG.o (fun w' hS=>?hw7r27) ?rw7r27
 case hw7r27=>go_simp<;>rfl
 simp only[Act.put,J,U,Aa];refine Reg.tk 1 (v:=?vw7r28) rfl HG.o (fun w' hS=>?hw7r28) ?rw7r28
 case hw7r28=>go_simp<;>rfl
 simp only[Act.put,J,U,Aa];refine Reg.tk 2 (v:=?vw7r29) rfl HG.o (fun w' hS=>?hw7r29) ?rw7r29
 case hw7r29=>go_simp<;>rfl
 simp only[Act.put,J,U,Aa];refine Reg.tk 3 (v:=pv p.k) rfl HG.o (fun w' hS=>?hw7r30) ?rw7r30
 case hw7r30=>have q0:w'.cell? ⟨g,0,none⟩=some (pv p.k):=hS.cell 0;go_simp<;>rfl
 simp only[Act.put,J,U,Aa];refine Reg.AB [4] (by kernel_rfl) (by simp) ?_;intro j0 hj0;obtain rfl:j0=4:=by simpa using hj0
 clear hj0
 right
 refine⟨_,_,_,_,_,_,18,#[],rfl,by rfl,(by go_simp<;>first | rfl | exact⟨rfl,rfl⟩),?_⟩;refine Calls.mono (L1.o _) ?_;rintro e ww7r31 ⟨rfl,hb⟩;replace HC:=I (HC.o.below hb);replace HB:=HB.t hb;replace HG:=I (HG.o.below hb);clear hb;refine⟨_,rfl,HG.o,?_⟩;simp only[Act.put,J,U,Aa];refine Reg.AB [5] (by kernel_rfl) (by simp) ?_;intro j0 hj0;obtain rfl:j0=5:=by simpa using hj0
 clear hj0
 right
 refine⟨_,_,_,_,_,_,22,#[pv p.k,prV Ci,.int .i64 1],rfl,by rfl,(by go_simp<;>first | rfl | exact⟨rfl,rfl⟩),?_⟩;refine Calls.mono (C7.o _ _ _ _ HC.o HP.o HKS.o) ?_;rintro e ww7r32 ⟨v7,m7,rfl,hs,hk⟩;have hnb:=hk.blk HG.o NG.o;replace NG:=I (hk.not NG.o HG.o.lt);replace HG:=I hnb;clear hnb;replace HB:=I (CI HB.o HC.o hk);replace HC:=I hk.cl;have S7:=I (KC hs);clear hk;clear C7 hs;refine⟨_,rfl,HG.o,?_⟩;simp only[Act.put,J,U,Aa];refine Reg.tk 6 (v:=?vw7r33) rfl HG.o (fun w' hS=>?hw7r33) ?rw7r33
 case hw7r33=>go_simp<;>rfl
 simp only[Act.put,J,U,Aa];refine Reg.tk 7 (v:=?vw7r34) rfl HG.o (fun w' hS=>?hw7r34) ?rw7r34
 case hw7r34=>go_simp<;>rfl
 simp only[Act.put,J,U,Aa];refine Reg.tk 8 (v:=?vw7r35) rfl HG.o (fun w' hS=>?hw7r35) ?rw7r35
 case hw7r35=>go_simp<;>rfl
 simp only[Act.put,J,U,Aa];refine Reg.tk 9 (v:=?vw7r36) rfl HG.o (fun w' hS=>?hw7r36) ?rw7r36
 case hw7r36=>go_simp<;>rfl
 simp only[Act.put,J,U,Aa];refine Reg.tk 10 (v:=?vw7r37) rfl HG.o (fun w' hS=>?hw7r37) ?rw7r37
 case hw7r37=>go_simp<;>rfl
 simp only[Act.put,J,U,Aa];refine Reg.tk 11 (v:=?vw7r38) rfl HG.o (fun w' hS=>?hw7r38) ?rw7r38
 case hw7r38=>go_simp<;>rfl
 simp only[Act.put,J,U,Aa];refine Reg.tk 12 (v:=?vw7r39) rfl HG.o (fun w' hS=>?hw7r39) ?rw7r39
 case hw7r39=>go_simp<;>rfl
 simp only[Act.put,J,U,Aa];refine wpAnyH_done (by kernel_rfl) ?_ _;obtain⟨w7,ew7⟩:∃z,z=ww7r32:=⟨_,rfl⟩;rw[←ew7] at HC HB HG S7⊢;clear ew7
 go_upto_region 17 with(first
  |(go_at_call 27;refine Calls.mono (C8.o _ _ _ S7.o) ?_;rintro e w8 ⟨ds,rfl,⟨hs,ho,hi⟩,hat,_,hb⟩;clear C8 S7;have HDS:=I hs;have HDO:=I ho;have HDI:=I hi;have HAT:=I hat;replace HG:=I (HG.o.below hb);replace HC:=I (HC.o.below hb);replace HB:=HB.t hb;clear hs ho hi hat hb)
  |(refine Wh.BZ (by rfl) 76 (.tmp 17) (.tmp 107) (by rfl) 76 rfl ds (by rfl) (by rfl) (by rw[HDS.o];rfl) HDI.o HDO.o ?_;rintro V1 hV hb;have HM:=I hV;replace HG:=I (HG.o.below hb);replace HC:=I (HC.o.below hb);replace HB:=HB.t hb;clear hV hb)
  |fail)
 obtain⟨gm,egm⟩:∃z,z=w8.heap.size:=⟨_,rfl⟩;rw[←egm] at HM⊢;clear egm;have hdr:Below V1.heap.size V1 V1.drew:=below_drewN Af 1;replace HC:=I (HC.o.below hdr);replace HB:=HB.t hdr;replace HG:=I (HG.o.below hdr);replace HM:=I (HM.o.below hdr);clear hdr;refine Reg.Bk (fun w'=>Blk w' g 37 (prA p.k x pq1)∧Blk w' gm 76 ds) 21 rfl (by kernel_rfl) ⟨HG.o,HM.o⟩ ?_;refine Reg.tk 0 (v:=?vfz40) rfl ⟨HG.o,HM.o⟩ (fun w' hS=>?hfz40) ?rfz40
 case hfz40=>go_simp<;>rfl
 simp only[Act.put,J,U,Aa];refine Reg.tk 1 (v:=?vfz41) rfl ⟨HG.o,HM.o⟩ (fun w' hS=>?hfz41) ?rfz41
 case hfz41=>go_simp<;>rfl
 simp only[Act.put,J,U,Aa];refine Reg.tk 2 (v:=?vfz42) rfl ⟨HG.o,HM.o⟩ (fun w' hS=>?hfz42) ?rfz42
 case hfz42=>go_simp<;>rfl
 simp only[Act.put,J,U,Aa];refine Reg.tk 3 (v:=?vfz43) rfl ⟨HG.o,HM.o⟩ (fun w' hS=>?hfz43) ?rfz43
 case hfz43=>go_simp<;>rfl
 simp only[Act.put,J,U,Aa];refine Reg.tk 4 (v:=?vfz44) rfl ⟨HG.o,HM.o⟩ (fun w' hS=>?hfz44) ?rfz44
 case hfz44=>go_simp<;>rfl
 simp only[Act.put,J,U,Aa];refine Reg.tk 5 (v:=?vfz45) rfl ⟨HG.o,HM.o⟩ (fun w' hS=>?hfz45) ?rfz45
 case hfz45=>go_simp<;>rfl
 simp only[Act.put,J,U,Aa];refine Reg.tk 6 (v:=?vfz46) rfl ⟨HG.o,HM.o⟩ (fun w' hS=>?hfz46) ?rfz46
 case hfz46=>go_simp<;>rfl
 simp only[Act.put,J,U,Aa];refine Reg.tk 7 (v:=?vfz47) rfl ⟨HG.o,HM.o⟩ (fun w' hS=>?hfz47) ?rfz47
 case hfz47=>go_simp<;>rfl
 simp only[Act.put,J,U,Aa];refine Reg.tk 8 (v:=?vfz48) rfl ⟨HG.o,HM.o⟩ (fun w' hS=>?hfz48) ?rfz48
 case hfz48=>go_simp<;>rfl
 simp only[Act.put,J,U,Aa];refine Reg.tk 9 (v:=.int .i64 2) rfl ⟨HG.o,HM.o⟩ (fun w' hS=>?hfz49) ?rfz49
 case hfz49=>obtain⟨hG,hM⟩:=hS;have q6:w'.cell? ⟨gm,6,none⟩=some (.int .i64 2):=(HAT.o _ _ _ hM).2.1 5 _ rfl;go_simp<;>rfl
 simp only[Act.put,J,U,Aa];refine Reg.tk 10 (v:=?vfz50) rfl ⟨HG.o,HM.o⟩ (fun w' hS=>?hfz50) ?rfz50
 case hfz50=>go_simp<;>rfl
 simp only[Act.put,J,U,Aa];refine Reg.tk 11 (v:=?vfz51) rfl ⟨HG.o,HM.o⟩ (fun w' hS=>?hfz51) ?rfz51
 case hfz51=>go_simp<;>rfl
 simp only[Act.put,J,U,Aa];refine Reg.tk 12 (v:=?vfz52) rfl ⟨HG.o,HM.o⟩ (fun w' hS=>?hfz52) ?rfz52
 case hfz52=>go_simp<;>rfl
 simp only[Act.put,J,U,Aa];refine Reg.tk 13 (v:=.int .i64 1) rfl ⟨HG.o,HM.o⟩ (fun w' hS=>?hfz53) ?rfz53
 case hfz53=>obtain⟨hG,hM⟩:=hS;have q2:w'.cell? ⟨g,2,none⟩=some (.int .i64 1):=hG.cell 2;go_simp<;>rfl
 simp only[Act.put,J,U,Aa];refine Reg.tk 14 (v:=?vfz54) rfl ⟨HG.o,HM.o⟩ (fun w' hS=>?hfz54) ?rfz54
 case hfz54=>go_simp<;>rfl
 simp only[Act.put,J,U,Aa];refine Reg.tk 15 (v:=?vfz55) rfl ⟨HG.o,HM.o⟩ (fun w' hS=>?hfz55) ?rfz55
 case hfz55=>go_simp<;>rfl
 simp only[Act.put,J,U,Aa];refine Reg.tk 16 (v:=?vfz56) rfl ⟨HG.o,HM.o⟩ (fun w' hS=>?hfz56) ?rfz56
 case hfz56=>go_simp<;>rfl
 simp only[Act.put,J,U,Aa];refine Reg.tk 17 (v:=?vfz57) rfl ⟨HG.o,HM.o⟩ (fun w' hS=>?hfz57) ?rfz57
 case hfz57=>go_simp<;>rfl
 simp only[Act.put,J,U,Aa];refine Reg.AB [18] (by kernel_rfl) (by simp) ?_;intro j0 hj0;obtain rfl:j0=18:=by simpa using hj0
 clear hj0
 right
 refine⟨_,_,_,_,_,_,21,#[],rfl,by rfl,(by go_simp<;>first | rfl | exact⟨rfl,rfl⟩),?_⟩;refine Calls.mono (KN.o _) ?_;rintro e wfz58 ⟨rfl,hb⟩;replace HC:=I (HC.o.below hb);replace HB:=HB.t hb;replace HG:=I (HG.o.below hb);replace HM:=I (HM.o.below hb);clear hb;clear KN;refine⟨_,rfl,⟨HG.o,HM.o⟩,?_⟩;simp only[Act.put,J,U,Aa];refine Reg.tk 19 (v:=?vfz59) rfl ⟨HG.o,HM.o⟩ (fun w' hS=>?hfz59) ?rfz59
 case hfz59=>go_simp<;>rfl
 simp only[Act.put,J,U,Aa];refine Reg.tk 20 (v:=?vfz60) rfl ⟨HG.o,HM.o⟩ (fun w' hS=>?hfz60) ?rfz60
 case hfz60=>go_simp<;>rfl
 simp only[Act.put,J,U,Aa];refine wpAnyH_done (by kernel_rfl) ?_ _
 go_wp2
 go_ret;exact⟨rfl,HB.o⟩
theorem KM (er no:Int) (w:World):Calls Tryz.prog 11 #[.int .i64 er,.int .i64 no] w fun e w'=>e = .returned (.bool true)∧Below w.heap.size w w':=by
 by_cases h:1≤er∧er≤255∧0≤no∧no≤100
 ·by_cases h5:no=1
  ·exact Od er no w h.1 h.2.1 h.2.2.1 h.2.2.2 h5
  ·exact Oc er no w h.1 h.2.1 h.2.2.1 h.2.2.2 h5
 ·exact Ob er no w h
end Clf
end Go.Proofs.YtlfmicidppccnaaGreat
