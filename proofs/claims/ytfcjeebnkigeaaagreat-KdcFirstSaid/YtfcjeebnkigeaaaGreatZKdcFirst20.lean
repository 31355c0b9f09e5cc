import Derived.Test.YtfcjeebnkigeaaaGreatZKdcFirst18
import Derived.Test.YtfcjeebnkigeaaaGreatZKdcFirst19
set_option maxHeartbeats 25600000
set_option maxRecDepth 100000
set_option linter.unusedVariables false
set_option linter.unusedSimpArgs false
namespace Go.Proofs.YtfcjeebnkigeaaaGreat
section
namespace Ms
open Go.RowKit Af DerP DerR
theorem wh_eq (c:Option L):DerC.Nf c=whC c:=by
 cases c with
 |none=>rfl
 |some l=>cases l<;>rfl
theorem NY {a b c:World} {row:Option Nat} (h:a.grownBy b row) (k:b.grownBy c row):a.grownBy c row:=
 ⟨k.os.trans h.os,k.tape.trans h.tape,k.output.trans h.output,Nat.le_trans h.size k.size,fun i hi hn=>(k.block i (Nat.lt_of_lt_of_le hi h.size) hn).trans (h.block i hi hn)⟩
theorem Sf {a b c:World} {row:Option Nat} {q:Nat} (h:a.grownBy b row) (k:b.grownBy c (some q)) (hq:a.heap.size≤q):a.grownBy c row:=
 ⟨k.os.trans h.os,k.tape.trans h.tape,k.output.trans h.output,Nat.le_trans h.size k.size,fun i hi hn=>(k.block i (Nat.lt_of_lt_of_le hi h.size) (fun e=>by injection e with e;omega)).trans (h.block i hi hn)⟩
theorem Ls {w:World} {B g:Nat} {c:Option L} (h:RC w B g c):g<w.heap.size:=by
 obtain⟨A,n,cap,e,hb,_⟩:=h;exact hb.lt
theorem BP {w w':World} {B g q:Nat} {c:Option L} (h:RC w B g c) (hg:w.grownBy w' (some q)) (hq:q≠g) (hB:B≤w.heap.size) (hBq:B≤q):RC w' B g c:=
 h.keep hg (fun e=>hq (by injection e)) hB (fun k hk=>by injection hk with hk;omega)
theorem Hs {w:World} {B g:Nat} {c:Option L} (h:RC w B g c) (hB:B≤w.heap.size) (o:Obj):RC (w.alloc o) B g c:=
 h.keep (row:=none) (FF (World.grownBy.refl _ _) o) (by simp) hB (by simp)
theorem Sg {w:World} {B g:Nat} {c:Option L} (h:RC w B g c):RC (w.setCell ⟨g,1,none⟩ (.bool true)) B g none:=by
 obtain⟨A,n,cap,e,hb,_⟩:=h;exact⟨A,n,cap,true,hb.set 1 _,rfl⟩
theorem Hh {w:World} {B g q j:Nat} {c:Option L} {u:Value} (h:RC w B g c) (hq:q≠g) (hB:B≤w.heap.size) (hBq:B≤q):RC (w.setCell ⟨q,j,none⟩ u) B g c:=
 BP (q:=q) h (Ay (World.grownBy.refl _ _) (.inl rfl) u) hq hB hBq
theorem Cy {w:World} {B g:Nat} {c:Option L} (h:RC w B g c):w.cell? ⟨g,1,none⟩=some (.bool (!c.isSome))∧w.frozen? ⟨g,1,none⟩=false:=by
 obtain⟨A,n,cap,e,hb,hr⟩:=h;refine⟨?_,hb.frozen 1⟩;cases c with
 |none=>obtain rfl:e=true:=hr;exact hb.cell 1
 |some l=>obtain rfl:e=false:=hr.1;exact hb.cell 1
theorem WD {w:World} {B g:Nat} {l:L} (h:RC w B g (some l)):RC (w.setCell ⟨g,1,none⟩ (.bool false)) B g (some l):=by
 obtain⟨A,n,cap,e,hb,hr⟩:=h;obtain rfl:e=false:=hr.1;have hB:=hr.2.2.2;refine⟨A,n,cap,false,hb.set 1 _,rfl,hr.2.1,hr.2.2.1,?_⟩;refine hB.keep fun b o hb'=>?_
 by_cases e:b=g
 ·subst e
  rw[(hb.set 1 (.bool false)).cell,hb.cell]
  rfl
 ·exact World.cell?_setCell_other _ _ _ _ (fun h=>e (by injection h with h;exact h.symm))
theorem An {P:Program} {fn:Func} {tmps:Array Value} {w:World} {v:Value} (t:Nat) (ty:TypeId) (a:Addr) (hres:fn.results=#[.cell t ty]) (ht:tmps.getD t undef = .pointer (some a)) (hl:(loadVar ty a).run P w = .ok v w) :
  (results fn tmps).run P w = .ok v w:=by
 have ht':tmps[t]?.getD undef = .pointer (some a):=by simpa using ht
 simp [results,hres,ht',asAddr,hl]
theorem Ak {P:Program} {w:World} {g:Nat} {t ty:TypeId} {cs:Array Value} {d:TypeDesc} (h:Blk w g t cs) (hu:P.underlying ty=some d) (hd:d.isRow=true) (hi:(P.info? ty).map (·.size)=some cs.size) :
  (loadVar ty ⟨g,0,none⟩).run P w = .ok (.agg cs) w:=by
 have hc:w.rangeAt g 0 cs.toList:=fun j v hv=>by rw[Nat.zero_add,h.cell];simpa using hv
 have:=run_loadVar_mid (P:=P) w g 0 ty cs.toList d hc hu hd (by simpa using hi)
 simpa using this
theorem Hi (B g:Nat) (c:Option L) (w:World) (h:RC w B g c) (hB:B≤w.heap.size) (hBg:B≤g) (hu:(c.getD []).length≤100000) :
  Calls Tryz.prog 75 #[.pointer (some ⟨g,0,none⟩)] w fun e w'=>e = .returned (.agg #[.string ⟨(prP c).1.1.toArray⟩,.string ⟨(prP c).1.2.toArray⟩])∧RC w' B g (prP c).2∧w.grownBy w' (some g):=by
 have hlt:=Ls h;obtain⟨W,eW⟩:∃W,W=w.alloc (.cells #[.string ⟨#[]⟩,.string ⟨#[]⟩] 27):=⟨_,rfl⟩;have hWs:W.heap.size=w.heap.size+1:=by rw[eW];simp
 have h1:RC W B g c:=by rw[eW];exact Hs h hB _
 have HG:=I (show w.grownBy W (some g) by rw[eW];exact FF (World.grownBy.refl _ _) _);have HR:=I (show Blk W w.heap.size 27 #[.string ⟨#[]⟩,.string ⟨#[]⟩] by rw[eW];exact Blk.new _ _ _);have c1:=IX 48 B g c W h1 (by omega) hBg hu;have HBW:=I (show B≤W.heap.size by omega);have HWS:=I hWs;have HLT:=I hlt;have HBg:=I hBg;have HB0:=I hB;have hl1:=(BJ 48 c).1;have HP1:=I (show(prP c).1=(txC (AF 48 c),txC (AZ 27 (AF 48 c))) from rfl);have HP2:=I (show(prP c).2=if whC (AZ 27 (AZ 27 (AF 48 c))) then AZ 48 c else none from rfl);obtain⟨d,ed⟩:∃d,d=AF 48 c:=⟨_,rfl⟩;obtain⟨r,er⟩:∃r,r=AZ 48 c:=⟨_,rfl⟩;rw[←ed] at c1 hl1 HP1 HP2;rw[←er] at c1 HP2;rw[HP1.o,HP2.o];have hl2:=(BJ 27 d).2;have HL1:=I (show(d.getD []).length≤100000 by omega);have HL2:=I (show((AZ 27 d).getD []).length≤100000 by omega);have T1:=I (fun B g w h h1 h2=>(IW B g d w h h1 h2 HL1.o));have T2:=I (fun B g w h h1 h2=>(IW B g (AZ 27 d) w h h1 h2 HL2.o));have WH:=I (fun B g w h=>Pw B g (AZ 27 (AZ 27 d)) w h);rw[wh_eq] at WH;rw[show(AF 27 d).getD []=txC d from rfl] at T1;rw[show(AF 27 (AZ 27 d)).getD []=txC (AZ 27 d) from rfl] at T2;obtain⟨t1,et1⟩:∃t,t=txC d:=⟨_,rfl⟩;obtain⟨t2,et2⟩:∃t,t=txC (AZ 27 d):=⟨_,rfl⟩;obtain⟨d2,ed2⟩:∃q,q=AZ 27 d:=⟨_,rfl⟩;rw[←et1] at T1⊢;rw[←et2] at T2⊢;rw[←ed2] at T1 T2 WH⊢;obtain⟨d3,ed3⟩:∃q,q=AZ 27 d2:=⟨_,rfl⟩;rw[←ed3] at T2 WH⊢;obtain⟨fi,efi⟩:∃q,q=if whC d3=true then r else none:=⟨_,rfl⟩
 rw[←efi];have EF:=I efi;clear efi;clear h h1 hB hBg hu hlt hWs hl1 hl2 HP1 HP2 HL1 HL2 ed er et1 et2 ed2 ed3;subst eW;go_enter Tryz.func75,Tryz.ntmps75
 go_upto_region 3 with(first
  |(go_at_call 74;refine Calls.mono c1 ?_;rintro e w2 ⟨⟨gd,rfl,hgd,hd⟩,hc,hg2⟩;clear c1;have HD:=I hd;have HC:=I hc;have HGD:=I (show w.heap.size+1≤gd by have:=HWS.o;omega);replace HR:=I (HR.o.grown hg2 (by intro e;injection e with e;have:=HLT.o;omega));replace HG:=I (NY HG.o hg2);replace HBW:=I (Nat.le_trans HBW.o hg2.size);have HDL:=I (Ls hd);clear hgd hd hc hg2)
  |(go_at_call 77;refine Calls.mono (T1.o B gd _ HD.o HBW.o (by have:=HGD.o;have:=HLT.o;have:=HBg.o;omega)) ?_;rintro e w3 ⟨rfl,hd,hg3⟩;clear T1;replace HD:=I hd;replace HC:=I (BP HC.o hg3 (by have:=HGD.o;have:=HLT.o;omega) HBW.o (by have:=HGD.o;have:=HLT.o;have:=HBg.o;omega));replace HR:=I (HR.o.grown hg3 (by intro e;injection e with e;have:=HGD.o;omega));replace HG:=I (Sf HG.o hg3 (by have:=HGD.o;omega));replace HBW:=I (Nat.le_trans HBW.o hg3.size);replace HDL:=I (Ls hd);clear hd hg3))
 obtain⟨P,eP⟩:∃P,P=w3.heap.size:=⟨_,rfl⟩;obtain⟨W4,e4⟩:∃W4,W4=w3.alloc (.cells #[.string ⟨t1.toArray⟩,.string ⟨#[]⟩] 27):=⟨_,rfl⟩;have HPB:=I (show Blk W4 P 27 #[.string ⟨t1.toArray⟩,.string ⟨#[]⟩] by rw[e4,eP];exact Blk.new _ _ _);have h4s:W4.heap.size=P+1:=by rw[e4,eP];simp
 have HPG:=I (show gd<P by rw[eP];exact HDL.o);have hbp:B≤P:=by rw[eP];exact HBW.o
 have HBP:=I hbp;have HNP:=I (show w.heap.size<P by have:=HPG.o;have:=HGD.o;omega);have HGP:=I (show g<P by have:=HLT.o;have:=HNP.o;omega);replace HD:=I (show RC W4 B gd d2 by rw[e4];exact Hs HD.o HBW.o _);replace HC:=I (show RC W4 B g r by rw[e4];exact Hs HC.o HBW.o _);replace HR:=I (show Blk W4 w.heap.size 27 _ by rw[e4];exact HR.o.alloc _);replace HG:=I (show w.grownBy W4 (some g) by rw[e4];exact FF HG.o _);replace HBW:=I (show B≤W4.heap.size by omega);rw[←e4,←eP];clear e4 eP h4s hbp
 go_upto_region 4 with(go_at_call 77;refine Calls.mono (T2.o B gd _ HD.o HBW.o (by have:=HGD.o;have:=HLT.o;have:=HBg.o;omega)) ?_;rintro e w5 ⟨rfl,hd,hg3⟩;clear T2;replace HD:=I hd;replace HC:=I (BP HC.o hg3 (by have:=HGD.o;have:=HLT.o;omega) HBW.o (by have:=HGD.o;have:=HLT.o;have:=HBg.o;omega));replace HR:=I (HR.o.grown hg3 (by intro e;injection e with e;have:=HGD.o;omega));replace HPB:=I (HPB.o.grown hg3 (by intro e;injection e with e;have:=HPG.o;omega));replace HG:=I (Sf HG.o hg3 (by have:=HGD.o;omega));replace HBW:=I (Nat.le_trans HBW.o hg3.size);have f0:=HPB.o.frozen 1;have k9:w5.cell? ⟨P,1,none⟩=some (.string ⟨#[]⟩):=HPB.o.cell 1;clear hd hg3)
 have H1:=I (show Blk (w5.setCell ⟨P,1,none⟩ (.string ⟨t2.toArray⟩)) P 27 #[.string ⟨t1.toArray⟩,.string ⟨t2.toArray⟩] from HPB.o.set 1 (.string ⟨t2.toArray⟩));have H2:=I (Hh (j:=1) (u:=.string ⟨t2.toArray⟩) HD.o (q:=P) (by have:=HPG.o;omega) HBW.o HBP.o);have H3:=I (Hh (j:=1) (u:=.string ⟨t2.toArray⟩) HC.o (q:=P) (by have:=HGP.o;omega) HBW.o HBP.o);have H4:=I (show Blk (w5.setCell ⟨P,1,none⟩ (.string ⟨t2.toArray⟩)) w.heap.size 27 _ from(Below.heap_setCell w5 _ _ w.heap.size (fun e=>by have:=HNP.o;simp only at e;omega)).trans HR.o);have H5:=I (Ay HG.o (p:=⟨P,1,none⟩) (.inr (show w.heap.size≤P by have:=HNP.o;omega)) (.string ⟨t2.toArray⟩));have H6:=I (show B≤(w5.setCell ⟨P,1,none⟩ (.string ⟨t2.toArray⟩)).heap.size from Nat.le_trans HBW.o (Ay (World.grownBy.refl w5 (some P)) (p:=⟨P,1,none⟩) (.inl rfl) (.string ⟨t2.toArray⟩)).size);obtain⟨V,eV⟩:∃V,V=w5.setCell ⟨P,1,none⟩ (.string ⟨t2.toArray⟩):=⟨_,rfl⟩;rw[←eV] at H1 H2 H3 H4 H5 H6⊢;clear eV k9 f0 HPB HD HC HR HG HBW;have hcl:=Cy H3.o;have k1:=hcl.1;have f1:=hcl.2;clear hcl;cases r with
 |none=>
  simp only[Option.isSome_none,Bool.not_false] at k1
  go_upto_region 5 with fail
  have K1:=I (show Blk (V.setCell ⟨g,1,none⟩ (.bool true)) P 27 _ from(Below.heap_setCell V _ _ P (fun e=>by have:=HGP.o;simp only at e;omega)).trans H1.o);have K2:=I (show Blk (V.setCell ⟨g,1,none⟩ (.bool true)) w.heap.size 27 _ from(Below.heap_setCell V _ _ w.heap.size (fun e=>by have:=HLT.o;simp only at e;omega)).trans H4.o);have K3:=I (show RC (V.setCell ⟨g,1,none⟩ (.bool true)) B g fi by rw[EF.o];have h:=Sg H3.o;cases whC d3<;>exact h);have K4:=I (Ay H5.o (p:=⟨g,1,none⟩) (.inl rfl) (.bool true));have K5:=I (show B≤(V.setCell ⟨g,1,none⟩ (.bool true)).heap.size from Nat.le_trans H6.o (Ay (World.grownBy.refl V (some g)) (p:=⟨g,1,none⟩) (.inl rfl) (.bool true)).size);obtain⟨Z,eZ⟩:∃Z,Z=V.setCell ⟨g,1,none⟩ (.bool true):=⟨_,rfl⟩;rw[←eZ] at K1 K2 K3 K4 K5⊢;clear eZ k1 f1 H1 H2 H3 H4 H5 H6;have p0:Z.cell? ⟨P,0,none⟩=some (.string ⟨t1.toArray⟩):=K1.o.cell 0;have p1:Z.cell? ⟨P,1,none⟩=some (.string ⟨t2.toArray⟩):=K1.o.cell 1;have n0:Z.cell? ⟨w.heap.size,0,none⟩=some (.string ⟨#[]⟩):=K2.o.cell 0;have n1:Z.cell? ⟨w.heap.size,1,none⟩=some (.string ⟨#[]⟩):=K2.o.cell 1;have z0:=K2.o.frozen 0;have z1:=K2.o.frozen 1
  go_wp2
  have hE:Blk ((Z.setCell ⟨w.heap.size,0,none⟩ (.string ⟨t1.toArray⟩)).setCell ⟨w.heap.size,1,none⟩ (.string ⟨t2.toArray⟩)) w.heap.size 27 #[.string ⟨t1.toArray⟩,.string ⟨t2.toArray⟩]:=(K2.o.set 0 _).set 1 _;have hq:=Ak (P:=Tryz.prog) hE Tryz.underlying27 rfl (by kernel_rfl);refine bodyPost_ret (v:=.agg #[.string ⟨t1.toArray⟩,.string ⟨t2.toArray⟩]) ?_ ?_ ?_
  ·exact An 2 27 ⟨w.heap.size,0,none⟩ Tryz.results75 rfl hq
  ·rfl
  refine⟨rfl,?_,?_⟩
  ·exact Hh (Hh K3.o (by have:=HLT.o;omega) K5.o HB0.o) (by have:=HLT.o;omega) (Nat.le_trans K5.o (Ay (World.grownBy.refl Z (some w.heap.size)) (p:=⟨w.heap.size,0,none⟩) (.inl rfl) _).size) HB0.o
  ·exact Ay (Ay K4.o (.inr (Nat.le_refl _)) _) (.inr (Nat.le_refl _)) _
 |some l=>
  simp only[Option.isSome_some,Bool.not_true] at k1;have c5:=WH.o B gd _ H2.o;clear WH;cases q:whC d3 with
  |false=>
   rw[q] at c5;rw[q,if_neg Bool.false_ne_true] at EF;clear q
   go_upto_region 5 with(go_at_call 136;refine Calls.mono c5 ?_;rintro e wv ⟨rfl,hw⟩;subst hw;clear c5)
   have K1:=I (show Blk (V.setCell ⟨g,1,none⟩ (.bool true)) P 27 _ from(Below.heap_setCell V _ _ P (fun e=>by have:=HGP.o;simp only at e;omega)).trans H1.o);have K2:=I (show Blk (V.setCell ⟨g,1,none⟩ (.bool true)) w.heap.size 27 _ from(Below.heap_setCell V _ _ w.heap.size (fun e=>by have:=HLT.o;simp only at e;omega)).trans H4.o);have K3:=I (show RC (V.setCell ⟨g,1,none⟩ (.bool true)) B g fi by rw[EF.o];exact Sg H3.o);have K4:=I (Ay H5.o (p:=⟨g,1,none⟩) (.inl rfl) (.bool true));have K5:=I (show B≤(V.setCell ⟨g,1,none⟩ (.bool true)).heap.size from Nat.le_trans H6.o (Ay (World.grownBy.refl V (some g)) (p:=⟨g,1,none⟩) (.inl rfl) (.bool true)).size);obtain⟨Z,eZ⟩:∃Z,Z=V.setCell ⟨g,1,none⟩ (.bool true):=⟨_,rfl⟩;rw[←eZ] at K1 K2 K3 K4 K5⊢;clear eZ k1 f1 H1 H2 H3 H4 H5 H6;have p0:Z.cell? ⟨P,0,none⟩=some (.string ⟨t1.toArray⟩):=K1.o.cell 0;have p1:Z.cell? ⟨P,1,none⟩=some (.string ⟨t2.toArray⟩):=K1.o.cell 1;have n0:Z.cell? ⟨w.heap.size,0,none⟩=some (.string ⟨#[]⟩):=K2.o.cell 0;have n1:Z.cell? ⟨w.heap.size,1,none⟩=some (.string ⟨#[]⟩):=K2.o.cell 1;have z0:=K2.o.frozen 0;have z1:=K2.o.frozen 1
   go_wp2
   have hE:Blk ((Z.setCell ⟨w.heap.size,0,none⟩ (.string ⟨t1.toArray⟩)).setCell ⟨w.heap.size,1,none⟩ (.string ⟨t2.toArray⟩)) w.heap.size 27 #[.string ⟨t1.toArray⟩,.string ⟨t2.toArray⟩]:=(K2.o.set 0 _).set 1 _;have hq:=Ak (P:=Tryz.prog) hE Tryz.underlying27 rfl (by kernel_rfl);refine bodyPost_ret (v:=.agg #[.string ⟨t1.toArray⟩,.string ⟨t2.toArray⟩]) ?_ ?_ ?_
   ·exact An 2 27 ⟨w.heap.size,0,none⟩ Tryz.results75 rfl hq
   ·rfl
   refine⟨rfl,?_,?_⟩
   ·exact Hh (Hh K3.o (by have:=HLT.o;omega) K5.o HB0.o) (by have:=HLT.o;omega) (Nat.le_trans K5.o (Ay (World.grownBy.refl Z (some w.heap.size)) (p:=⟨w.heap.size,0,none⟩) (.inl rfl) _).size) HB0.o
   ·exact Ay (Ay K4.o (.inr (Nat.le_refl _)) _) (.inr (Nat.le_refl _)) _
  |true=>
   rw[q] at c5;rw[q,if_pos rfl] at EF;clear q
   go_upto_region 5 with(go_at_call 136;refine Calls.mono c5 ?_;rintro e wv ⟨rfl,hw⟩;subst hw;clear c5)
   have K1:=I (show Blk (V.setCell ⟨g,1,none⟩ (.bool false)) P 27 _ from(Below.heap_setCell V _ _ P (fun e=>by have:=HGP.o;simp only at e;omega)).trans H1.o);have K2:=I (show Blk (V.setCell ⟨g,1,none⟩ (.bool false)) w.heap.size 27 _ from(Below.heap_setCell V _ _ w.heap.size (fun e=>by have:=HLT.o;simp only at e;omega)).trans H4.o);have K3:=I (show RC (V.setCell ⟨g,1,none⟩ (.bool false)) B g fi by rw[EF.o];exact WD H3.o);have K4:=I (Ay H5.o (p:=⟨g,1,none⟩) (.inl rfl) (.bool false));have K5:=I (show B≤(V.setCell ⟨g,1,none⟩ (.bool false)).heap.size from Nat.le_trans H6.o (Ay (World.grownBy.refl V (some g)) (p:=⟨g,1,none⟩) (.inl rfl) (.bool false)).size);obtain⟨Z,eZ⟩:∃Z,Z=V.setCell ⟨g,1,none⟩ (.bool false):=⟨_,rfl⟩;rw[←eZ] at K1 K2 K3 K4 K5⊢;clear eZ k1 f1 H1 H2 H3 H4 H5 H6;have p0:Z.cell? ⟨P,0,none⟩=some (.string ⟨t1.toArray⟩):=K1.o.cell 0;have p1:Z.cell? ⟨P,1,none⟩=some (.string ⟨t2.toArray⟩):=K1.o.cell 1;have n0:Z.cell? ⟨w.heap.size,0,none⟩=some (.string ⟨#[]⟩):=K2.o.cell 0;have n1:Z.cell? ⟨w.heap.size,1,none⟩=some (.string ⟨#[]⟩):=K2.o.cell 1;have z0:=K2.o.frozen 0;have z1:=K2.o.frozen 1
   go_wp2
   have hE:Blk ((Z.setCell ⟨w.heap.size,0,none⟩ (.string ⟨t1.toArray⟩)).setCell ⟨w.heap.size,1,none⟩ (.string ⟨t2.toArray⟩)) w.heap.size 27 #[.string ⟨t1.toArray⟩,.string ⟨t2.toArray⟩]:=(K2.o.set 0 _).set 1 _;have hq:=Ak (P:=Tryz.prog) hE Tryz.underlying27 rfl (by kernel_rfl);refine bodyPost_ret (v:=.agg #[.string ⟨t1.toArray⟩,.string ⟨t2.toArray⟩]) ?_ ?_ ?_
   ·exact An 2 27 ⟨w.heap.size,0,none⟩ Tryz.results75 rfl hq
   ·rfl
   refine⟨rfl,?_,?_⟩
   ·exact Hh (Hh K3.o (by have:=HLT.o;omega) K5.o HB0.o) (by have:=HLT.o;omega) (Nat.le_trans K5.o (Ay (World.grownBy.refl Z (some w.heap.size)) (p:=⟨w.heap.size,0,none⟩) (.inl rfl) _).size) HB0.o
   ·exact Ay (Ay K4.o (.inr (Nat.le_refl _)) _) (.inr (Nat.le_refl _)) _
end Ms
end
section
namespace Ms
open Go.RowKit Af DerP DerR
theorem Um (c:Option L):((intC c).2.getD []).length≤(c.getD []).length:=by
 unfold intC;cases h:AF 2 c with
 |none=>simp
 |some b=>
  simp only;cases numL b with
  |none=>simp
  |some n=>exact(BJ 2 c).2
theorem WE (c:Option L):((prP c).2.getD []).length≤(c.getD []).length:=by
 unfold prP;simp only
 split
 ·exact(BJ 48 c).2
 ·simp
end Ms
end
section
namespace Ms
open Go.RowKit Af DerP DerR
theorem Ah {P:Program} {fn:Func} {tmps:Array Value} {w:World} {v u:Value} (t q:Nat) (ty:TypeId) (a:Addr) (hres:fn.results=#[.cell t ty,.tmp q]) (ht:tmps.getD t undef = .pointer (some a)) (hl:(loadVar ty a).run P w = .ok v w) (hq:tmps.getD q undef=u) :
  (results fn tmps).run P w = .ok (.tuple #[v,u]) w:=by
 have ht':tmps[t]?.getD undef = .pointer (some a):=by simpa using ht
 have hq':tmps[q]?.getD undef=u:=by simpa using hq
 simp [results,hres,ht',hq',asAddr,hl]
end Ms
end
section
namespace Mc
open Go.RowKit Af DerP DerC Ms
def OwnB (w:World) (base:Nat) (v:Value) (l:L):Prop:=
 ∃b c,v = .slice (some ⟨b,0,none⟩) l.length c∧l.length≤c∧base≤b∧b<w.heap.size∧∀i u,(bvs l)[i]? = some u→w.cell? ⟨b,i,none⟩=some u
theorem OwnB.keep {w w':World} {base g:Nat} {v:Value} {l:L} (h:OwnB w base v l) (hg:w.grownBy w' (some g)) (hlt:g<base):OwnB w' base v l:=by
 obtain⟨b,c,h1,h2,h3,h4,h5⟩:=h;exact⟨b,c,h1,h2,h3,Nat.lt_of_lt_of_le h4 hg.size,fun i u hu=>(World.cell?_of_block (a:=⟨b,i,none⟩) (hg.block b h4 (fun e=>by injection e with e;omega))).trans (h5 i u hu)⟩
theorem OwnB.below {w w':World} {base:Nat} {v:Value} {l:L} (h:OwnB w base v l) (hb:Below w.heap.size w w'):OwnB w' base v l:=by
 obtain⟨b,c,h1,h2,h3,h4,h5⟩:=h;exact⟨b,c,h1,h2,h3,Nat.lt_of_lt_of_le h4 hb.size,fun i u hu=>(hb.cell (p:=⟨b,i,none⟩) h4).trans (h5 i u hu)⟩
theorem OwnB.less {w:World} {base base':Nat} {v:Value} {l:L} (h:OwnB w base v l) (hb:base'≤base):OwnB w base' v l:=by
 obtain⟨b,c,h1,h2,h3,h4,h5⟩:=h;exact⟨b,c,h1,h2,Nat.le_trans hb h3,h4,h5⟩
theorem OwnB.slb {w:World} {base:Nat} {v:Value} {l:L} (h:OwnB w base v l):SlB w w.heap.size v l:=by
 obtain⟨b,c,h1,h2,h3,h4,h5⟩:=h;exact⟨_,c,h1,h2,.inr ⟨b,0,rfl,h4,fun i u hu=>by rw[Nat.zero_add];exact h5 i u hu⟩⟩
theorem Ao {w:World} {g:Nat} {t:TypeId} {cs:Array Value} (h:Blk w g t cs) (n:Nat) (hn:n≤cs.size):w.there g 0 n:=fun j hj=>by
 rw[Nat.zero_add,h.cell,Array.getElem?_eq_getElem (by omega)];exact⟨rfl,h.frozen j⟩
theorem BN {g:Nat} {t:TypeId}:∀(vs:List Value) (o:Nat) (w:World) (cs:Array Value),Blk w g t cs→o+vs.length≤cs.size→
  ∃ds:Array Value,Blk (w.setCells g o vs) g t ds∧ds.size=cs.size∧(∀i,o≤i→i<o+vs.length→ds[i]? = vs[i - o]?)∧(∀i,i<o∨o+vs.length≤i→ds[i]? = cs[i]?)
 | [],o,w,cs,h,hl=>⟨cs,h,rfl,fun i h1 h2=>by simp at h2;omega,fun i _=>rfl⟩
 |v :: r,o,w,cs,h,hl=>by
  rw[World.setCells];simp only[List.length_cons] at hl;obtain⟨ds,h1,h2,h3,h4⟩:=BN r (o+1) _ _ (h.set o v) (by simp;omega);simp only[List.length_cons];refine⟨ds,h1,by simpa using h2,fun i hi hj=>?_,fun i hi=>?_⟩
  ·by_cases e:i=o
   ·subst e
    rw[h4 i (by omega),Nat.sub_self];rw[Array.getElem?_setIfInBounds_self_of_lt (by omega)]
    rfl
   ·rw[h3 i (by omega) (by omega),show i - o=(i - (o+1))+1 by omega]
    simp
  ·rw[h4 i (by omega)]
   exact Array.getElem?_setIfInBounds_ne (by omega)
theorem AK {w:World} {g:Nat} {t:TypeId} {cs ds:Array Value} (h:Blk w g t cs) (hs:cs.size=ds.size):Blk (w.setCells g 0 ds.toList) g t ds:=by
 obtain⟨es,h1,h2,h3,_⟩:=BN ds.toList 0 w cs h (by simp;omega);have e:es=ds:=by
  apply Array.ext_getElem?;intro i
  by_cases hi:i<ds.size
  ·rw[h3 i (by omega) (by simp;omega)];simp
  ·rw[Array.getElem?_eq_none (by omega),Array.getElem?_eq_none (by omega)]
 rw[←e];rw[←e] at h1;exact h1
theorem GS {row:Option Nat} {a:World} {g:Nat} (hp:row=some g∨a.heap.size≤g):∀(vs:List Value) (o:Nat) (w:World),a.grownBy w row→a.grownBy (w.setCells g o vs) row
 | [],_,_,h=>h
 |v :: r,o,w,h=>by rw[World.setCells];exact GS hp r (o+1) _ (Ay h (p:=⟨g,o,none⟩) hp v)
theorem AV (w:World) (g:Nat) (vs:List Value):w.grownBy (w.setCells g 0 vs) (some g):=GS (.inl rfl) vs 0 w (World.grownBy.refl _ _)
theorem UW (t:UInt8) {c:Option L} {n:Nat} (h:(c.getD []).length≤n):((AZ t c).getD []).length≤n:=Nat.le_trans (BJ t c).2 h
theorem UX (t:UInt8) {c:Option L} {n:Nat} (h:(c.getD []).length≤n):((AF t c).getD []).length≤n:=Nat.le_trans (BJ t c).1 h
theorem Lt {c:Option L} {n:Nat} (h:(c.getD []).length≤n):((intC c).2.getD []).length≤n:=Nat.le_trans (Um c) h
end Mc
end
section
namespace Mc
open Go.RowKit Af DerP DerC Ms
theorem Cr:(Tryz.prog.info? 47).map (·.size)=some 32:=by kernel_rfl
theorem bvs_one' (l:L):(bvs l).toArray.all (·.oneCell')=true:=all_oneCell_toArray (Bf l)
end Mc
end
section
namespace Mc
open Go.RowKit Af DerP DerC Ms
theorem Az {P:Program} {ops:Array Oper} {rest:List Oper} {o:Oper} {a:Act} {w:World} {Q:Exit→Act→World→Prop} (hg:o.guard=none) (t:TypeId) (parts:Array (Nat×Operand)) (ho:o.op = .build t parts)
  (cells:Array Value) (hc:P.built t (parts.map fun(i,x)=>(i,a.eval x)).toList=some cells) (h:wpList P ops Q rest (a.put o.dst (.agg cells)) w):wpList P ops Q (o :: rest) a w:=
 wpList_build hg t parts ho (by rw[hc];rfl) (by rw[hc];exact h)
theorem Un {v:L} (h:v.length=32):∃k0 k1 k2 k3 k4 k5 k6 k7 k8 k9 k10 k11 k12 k13 k14 k15 k16 k17 k18 k19 k20 k21 k22 k23 k24 k25 k26 k27 k28 k29 k30 k31:UInt8,v = [k0,k1,k2,k3,k4,k5,k6,k7,k8,k9,k10,k11,k12,k13,k14,k15,k16,k17,k18,k19,k20,k21,k22,k23,k24,k25,k26,k27,k28,k29,k30,k31]:=by
 rcases v with _ | ⟨k0,v⟩
 ·simp at h
 rcases v with _ | ⟨k1,v⟩
 ·simp at h
 rcases v with _ | ⟨k2,v⟩
 ·simp at h
 rcases v with _ | ⟨k3,v⟩
 ·simp at h
 rcases v with _ | ⟨k4,v⟩
 ·simp at h
 rcases v with _ | ⟨k5,v⟩
 ·simp at h
 rcases v with _ | ⟨k6,v⟩
 ·simp at h
 rcases v with _ | ⟨k7,v⟩
 ·simp at h
 rcases v with _ | ⟨k8,v⟩
 ·simp at h
 rcases v with _ | ⟨k9,v⟩
 ·simp at h
 rcases v with _ | ⟨k10,v⟩
 ·simp at h
 rcases v with _ | ⟨k11,v⟩
 ·simp at h
 rcases v with _ | ⟨k12,v⟩
 ·simp at h
 rcases v with _ | ⟨k13,v⟩
 ·simp at h
 rcases v with _ | ⟨k14,v⟩
 ·simp at h
 rcases v with _ | ⟨k15,v⟩
 ·simp at h
 rcases v with _ | ⟨k16,v⟩
 ·simp at h
 rcases v with _ | ⟨k17,v⟩
 ·simp at h
 rcases v with _ | ⟨k18,v⟩
 ·simp at h
 rcases v with _ | ⟨k19,v⟩
 ·simp at h
 rcases v with _ | ⟨k20,v⟩
 ·simp at h
 rcases v with _ | ⟨k21,v⟩
 ·simp at h
 rcases v with _ | ⟨k22,v⟩
 ·simp at h
 rcases v with _ | ⟨k23,v⟩
 ·simp at h
 rcases v with _ | ⟨k24,v⟩
 ·simp at h
 rcases v with _ | ⟨k25,v⟩
 ·simp at h
 rcases v with _ | ⟨k26,v⟩
 ·simp at h
 rcases v with _ | ⟨k27,v⟩
 ·simp at h
 rcases v with _ | ⟨k28,v⟩
 ·simp at h
 rcases v with _ | ⟨k29,v⟩
 ·simp at h
 rcases v with _ | ⟨k30,v⟩
 ·simp at h
 rcases v with _ | ⟨k31,v⟩
 ·simp at h
 rcases v with _ | ⟨x,v⟩
 ·exact⟨k0,k1,k2,k3,k4,k5,k6,k7,k8,k9,k10,k11,k12,k13,k14,k15,k16,k17,k18,k19,k20,k21,k22,k23,k24,k25,k26,k27,k28,k29,k30,k31,rfl⟩
 ·simp at h
theorem MM (c:Pr) (k tr:L) (st en:Int):(ptC ⟨c,k,tr,st,en⟩).toArray.all (·.oneCell')=true:=all_oneCell_toArray fun v hv=>by
 simp only[ptC,prC,List.mem_append,List.mem_cons,List.not_mem_nil,or_false] at hv;rcases hv with(rfl | rfl) | hv | rfl | rfl | rfl
 ·rfl
 ·rfl
 ·exact Bf _ v hv
 ·rfl
 ·rfl
 ·rfl
theorem MN (k:L) (s:Pr) (st en no:Int):(rpC ⟨k,s,st,en,no⟩).toArray.all (·.oneCell')=true:=all_oneCell_toArray fun v hv=>by
 simp only[rpC,prC,List.mem_append,List.mem_cons,List.not_mem_nil,or_false] at hv;rcases hv with hv | (rfl | rfl) | rfl | rfl | rfl
 ·exact Bf _ v hv
 ·rfl
 ·rfl
 ·rfl
 ·rfl
 ·rfl
end Mc
end
section
namespace Mc
open Go.RowKit Af DerP DerC Ms
def AsV (cs:Array Value) (q:As):Prop:=cs=(asC q).toArray
def FaV (cs:Array Value) (q:Fa):Prop:=cs=(faC q).toArray
def TgV (w:World) (B:Nat) (cs:Array Value) (q:Tg):Prop:=∃b a,cs=(tgC q b a).toArray∧SlB w B b q.t.b∧SlB w B a q.a
def ReV (w:World) (B:Nat) (cs:Array Value) (q:Re):Prop:=∃b a,cs=(reC q b a).toArray∧SlB w B b q.t.b∧SlB w B a q.b
def ApV (w:World) (B:Nat) (cs:Array Value) (q:Ap):Prop:=∃b a,cs=(apC q b a).toArray∧SlB w B b q.t.b∧SlB w B a q.a
section
variable {w w':World} {B B':Nat} {cs:Array Value}
theorem TgV.keep {q:Tg} (h:TgV w B cs q) (hb:Below B w w'):TgV w' B cs q:=by obtain⟨b,a,h1,h2,h3⟩:=h;exact⟨b,a,h1,h2.keep hb,h3.keep hb⟩
theorem ReV.keep {q:Re} (h:ReV w B cs q) (hb:Below B w w'):ReV w' B cs q:=by obtain⟨b,a,h1,h2,h3⟩:=h;exact⟨b,a,h1,h2.keep hb,h3.keep hb⟩
theorem ApV.keep {q:Ap} (h:ApV w B cs q) (hb:Below B w w'):ApV w' B cs q:=by obtain⟨b,a,h1,h2,h3⟩:=h;exact⟨b,a,h1,h2.keep hb,h3.keep hb⟩
theorem TgV.more {q:Tg} (h:TgV w B cs q) (hB:B≤B'):TgV w B' cs q:=by obtain⟨b,a,h1,h2,h3⟩:=h;exact⟨b,a,h1,h2.more hB,h3.more hB⟩
theorem ReV.more {q:Re} (h:ReV w B cs q) (hB:B≤B'):ReV w B' cs q:=by obtain⟨b,a,h1,h2,h3⟩:=h;exact⟨b,a,h1,h2.more hB,h3.more hB⟩
theorem ApV.more {q:Ap} (h:ApV w B cs q) (hB:B≤B'):ApV w B' cs q:=by obtain⟨b,a,h1,h2,h3⟩:=h;exact⟨b,a,h1,h2.more hB,h3.more hB⟩
theorem GW {v:Value} {l:L} (h:SlB w B v l):v.oneCell'=true:=by obtain⟨A,c,rfl,_⟩:=h;rfl
theorem AsV.size {q:As} (h:AsV cs q):cs.size=6:=by rw[h];rfl
theorem FaV.size {q:Fa} (h:FaV cs q):cs.size=2:=by rw[h];rfl
theorem TgV.size {q:Tg} (h:TgV w B cs q):cs.size=9:=by obtain⟨b,a,h1,_⟩:=h;rw[h1];rfl
theorem ReV.size {q:Re} (h:ReV w B cs q):cs.size=7:=by obtain⟨b,a,h1,_⟩:=h;rw[h1];rfl
theorem ApV.size {q:Ap} (h:ApV w B cs q):cs.size=5:=by obtain⟨b,a,h1,_⟩:=h;rw[h1];rfl
def One (cs:Array Value):Prop:=cs.all (·.oneCell')=true
theorem AsV.one {q:As} (h:AsV cs q):One cs:=by
 rw[h];refine all_oneCell_toArray fun v hv=>?_
 simp only[asC,List.mem_cons,List.not_mem_nil,or_false] at hv;rcases hv with rfl | rfl | rfl | rfl | rfl | rfl<;>rfl
theorem FaV.one {q:Fa} (h:FaV cs q):One cs:=by
 rw[h];refine all_oneCell_toArray fun v hv=>?_
 simp only[faC,List.mem_cons,List.not_mem_nil,or_false] at hv;rcases hv with rfl | rfl<;>rfl
theorem TgV.one {q:Tg} (h:TgV w B cs q):One cs:=by
 obtain⟨b,a,h1,h2,h3⟩:=h;rw[h1];refine all_oneCell_toArray fun v hv=>?_
 simp only[tgC,tkC,List.mem_append,List.mem_cons,List.not_mem_nil,or_false] at hv;rcases hv with(rfl | rfl | rfl | rfl) | rfl | rfl | rfl | rfl | rfl
 all_goals first | rfl | exact GW h2 | exact GW h3
theorem ReV.one {q:Re} (h:ReV w B cs q):One cs:=by
 obtain⟨b,a,h1,h2,h3⟩:=h;rw[h1];refine all_oneCell_toArray fun v hv=>?_
 simp only[reC,prC,tkC,List.mem_append,List.mem_cons,List.not_mem_nil,or_false] at hv;rcases hv with(rfl | rfl) | (rfl | rfl | rfl | rfl) | rfl
 all_goals first | rfl | exact GW h2 | exact GW h3
theorem ApV.one {q:Ap} (h:ApV w B cs q):One cs:=by
 obtain⟨b,a,h1,h2,h3⟩:=h;rw[h1];refine all_oneCell_toArray fun v hv=>?_
 simp only[apC,tkC,List.mem_append,List.mem_cons,List.not_mem_nil,or_false] at hv;rcases hv with(rfl | rfl | rfl | rfl) | rfl
 all_goals first | rfl | exact GW h2 | exact GW h3
end
def mgA (k:Int) (pa pt pr pp pf:Array Value):Array Value:=(Value.int .i64 k :: (pa.toList++(pt.toList++(pr.toList++(pp.toList++pf.toList))))).toArray
structure MgP (w:World) (B:Nat) (pa pt pr pp pf:Array Value) (m:Mg):Prop where
 a:AsV pa m.aq
 t:TgV w B pt m.tg
 r:ReV w B pr m.re
 p:ApV w B pp m.ap
 f:FaV pf m.fa
def MgV (w:World) (B:Nat) (cs:Array Value) (m:Mg):Prop:=∃pa pt pr pp pf,cs=mgA m.k pa pt pr pp pf∧MgP w B pa pt pr pp pf m
section
variable {w w':World} {B B':Nat} {cs pa pt pr pp pf:Array Value} {m:Mg}
theorem MgP.keep (h:MgP w B pa pt pr pp pf m) (hb:Below B w w'):MgP w' B pa pt pr pp pf m:=⟨h.a,h.t.keep hb,h.r.keep hb,h.p.keep hb,h.f⟩
theorem MgP.more (h:MgP w B pa pt pr pp pf m) (hB:B≤B'):MgP w B' pa pt pr pp pf m:=⟨h.a,h.t.more hB,h.r.more hB,h.p.more hB,h.f⟩
theorem MgV.keep (h:MgV w B cs m) (hb:Below B w w'):MgV w' B cs m:=by obtain⟨pa,pt,pr,pp,pf,h1,h2⟩:=h;exact⟨pa,pt,pr,pp,pf,h1,h2.keep hb⟩
theorem MgV.more (h:MgV w B cs m) (hB:B≤B'):MgV w B' cs m:=by obtain⟨pa,pt,pr,pp,pf,h1,h2⟩:=h;exact⟨pa,pt,pr,pp,pf,h1,h2.more hB⟩
theorem MgP.sizes (h:MgP w B pa pt pr pp pf m):pa.size=6∧pt.size=9∧pr.size=7∧pp.size=5∧pf.size=2:=⟨h.a.size,h.t.size,h.r.size,h.p.size,h.f.size⟩
theorem MgP.size (h:MgP w B pa pt pr pp pf m) (k:Int):(mgA k pa pt pr pp pf).size=30:=by
 obtain⟨h1,h2,h3,h4,h5⟩:=h.sizes;simp [mgA,h1,h2,h3,h4,h5]
theorem MgP.one (h:MgP w B pa pt pr pp pf m) (k:Int):One (mgA k pa pt pr pp pf):=by
 refine all_oneCell_toArray fun v hv=>?_
 simp only[List.mem_cons,List.mem_append] at hv;have key:∀{cs:Array Value},One cs→v∈cs.toList→v.oneCell'=true:=fun h1 h2=>Array.all_eq_true_iff_forall_mem.1 h1 v (by simpa using h2)
 rcases hv with rfl | hv | hv | hv | hv | hv
 ·rfl
 ·exact key h.a.one hv
 ·exact key h.t.one hv
 ·exact key h.r.one hv
 ·exact key h.p.one hv
 ·exact key h.f.one hv
theorem Dm {g:Nat} {t:TypeId} {pre mid post:List Value} (h:Blk w g t cs) (hc:cs.toList=pre++(mid++post)) (o:Nat) (ho:o=pre.length):w.rangeAt g o mid:=fun j v hv=>by
 subst ho;have hj:j<mid.length:=(List.getElem?_eq_some_iff.1 hv).1;rw[h.cell,←Array.getElem?_toList,hc,List.getElem?_append_right (by omega),Nat.add_sub_cancel_left,List.getElem?_append_left hj];exact hv
structure At (w:World) (g:Nat) (k:Int) (pa pt pr pp pf:Array Value):Prop where
 k:w.cell? ⟨g,0,none⟩=some (.int .i64 k)
 a:w.rangeAt g 1 pa.toList
 t:w.rangeAt g 7 pt.toList
 r:w.rangeAt g 16 pr.toList
 p:w.rangeAt g 23 pp.toList
 f:w.rangeAt g 28 pf.toList
theorem MgP.at_ (h:MgP w' B pa pt pr pp pf m) {g:Nat} {k:Int} {t:TypeId} (hb:Blk w g t (mgA k pa pt pr pp pf)):At w g k pa pt pr pp pf:=by
 obtain⟨h1,h2,h3,h4,h5⟩:=h.sizes;refine⟨by rw[hb.cell];rfl,?_,?_,?_,?_,?_⟩
 ·exact Dm (pre:=[.int .i64 k]) (post:=pt.toList++(pr.toList++(pp.toList++pf.toList))) hb (by simp [mgA]) 1 rfl
 ·exact Dm (pre:=.int .i64 k :: pa.toList) (post:=pr.toList++(pp.toList++pf.toList)) hb (by simp [mgA]) 7 (by simp [h1])
 ·exact Dm (pre:=.int .i64 k :: (pa.toList++pt.toList)) (post:=pp.toList++pf.toList) hb (by simp [mgA]) 16 (by simp [h1,h2])
 ·exact Dm (pre:=.int .i64 k :: (pa.toList++(pt.toList++pr.toList))) (post:=pf.toList) hb (by simp [mgA]) 23 (by simp [h1,h2,h3])
 ·exact Dm (pre:=.int .i64 k :: (pa.toList++(pt.toList++(pr.toList++pp.toList)))) (post:=[]) hb (by simp [mgA]) 28 (by simp [h1,h2,h3,h4])
end
theorem BR:(Tryz.prog.info? 29).map (·.size)=some 6:=by kernel_rfl
theorem Cd:(Tryz.prog.info? 34).map (·.size)=some 9:=by kernel_rfl
theorem AI:(Tryz.prog.info? 38).map (·.size)=some 7:=by kernel_rfl
theorem Dv:(Tryz.prog.info? 89).map (·.size)=some 5:=by kernel_rfl
theorem Fc:(Tryz.prog.info? 91).map (·.size)=some 2:=by kernel_rfl
theorem Db:(Tryz.prog.info? 93).map (·.size)=some 30:=by kernel_rfl
theorem AA {P:Program} {ops:Array Oper} {rest:List Oper} {op:Oper} {a:Act} {w:World} {Q:Exit→Act→World→Prop} (hw:Region.wanted op (yielded ops a.tmps)=true) (ty:TypeId) (x:Operand) (ho:op.op = .load ty x)
  (g o:Nat) (hx:a.eval x = .pointer (some ⟨g,o,none⟩)) (cs:Array Value) (d:TypeDesc) (hc:w.rangeAt g o cs.toList)
  (hu:P.underlying ty=some d) (hd:d.isRow=true) (hi:(P.info? ty).map (·.size)=some cs.size)
  (h:wpList P ops Q rest (a.put op.dst (.agg cs)) w):wpList P ops Q (op :: rest) a w:=
 BigFrame.wpList_want hw fun _ hK=>wp_load_mid ty x ho g o hx cs.toList d hc hu hd (by rw[Array.length_toList];exact hi) (by simpa using hK _ _ h)
theorem Cq {w:World} {g o:Nat} {t:TypeId} {cs ps ds:Array Value} {pre mid post:List Value} (h:Blk w g t cs) (hc:cs.toList=pre++(mid++post)) (ho:o=pre.length) (hm:mid.length=ps.size) (hd:ds=(pre++(ps.toList++post)).toArray):Blk (w.setCells g o ps.toList) g t ds:=by
 subst ho;have hs:cs.size=pre.length+(mid.length+post.length):=by rw[←Array.length_toList,hc];simp
 obtain⟨es,h1,h2,h3,h4⟩:=BN ps.toList pre.length w cs h (by simp;omega);have e:es=ds:=by
  apply Array.ext_getElem?;intro i;rw[hd,show(pre++(ps.toList++post)).toArray[i]? = (pre++(ps.toList++post))[i]? by simp];have hci:∀i,cs[i]? = (pre++(mid++post))[i]?:=fun i=>by rw[←hc,Array.getElem?_toList]
  by_cases hi:i<pre.length
  ·rw[h4 i (.inl hi),hci,List.getElem?_append_left hi,List.getElem?_append_left hi]
  ·by_cases hj:i<pre.length+ps.size
   ·rw[h3 i (by omega) (by simpa using hj),List.getElem?_append_right (by omega),List.getElem?_append_left (by simp;omega)]
   ·rw[h4 i (.inr (by simp;omega)),hci,List.getElem?_append_right (by omega),List.getElem?_append_right (by omega),List.getElem?_append_right (by omega),List.getElem?_append_right (by simp;omega),hm]
    simp
 rw[←e];exact h1
theorem BX {w:World} {g:Nat} {t:TypeId} {cs:Array Value} (h:Blk w g t cs) (o n:Nat) (hn:o+n≤cs.size):w.there g o n:=fun j hj=>by
 rw[h.cell,Array.getElem?_eq_getElem (by omega)];exact⟨rfl,h.frozen _⟩
theorem Ds (w:World) (g o:Nat) (vs:List Value):w.grownBy (w.setCells g o vs) (some g):=GS (.inl rfl) vs o w (World.grownBy.refl _ _)
end Mc
end
section
namespace Mc
open Go.RowKit Af DerP DerC Ms
theorem By (w:World) (t:TypeId) (lit cs:Array Value) (hs:lit.size=cs.size):Blk ((w.alloc (.cells lit t)).setCells w.heap.size 0 cs.toList) w.heap.size t cs∧Below w.heap.size w ((w.alloc (.cells lit t)).setCells w.heap.size 0 cs.toList):=
 ⟨AK (Blk.new w t lit) hs,Al ((Below.refl w.heap.size w).alloc (Nat.le_refl _) _) (AV _ _ _) (by simp) (Nat.le_refl _)⟩
theorem Yk {c:Option L} (h:(c.getD []).length≤100000):pSm (prQ c).1:=by
 have e2:=(BJ 27 (AF 48 c)).1;have e3:=(BJ 27 (AF 48 c)).2;have e4:=(BJ 27 (AZ 27 (AF 48 c))).1;have e5:=(BJ 48 c).1;exact⟨by show((AF 27 (AF 48 c)).getD []).length≤1000000000;omega,by show((AF 27 (AZ 27 (AF 48 c))).getD []).length≤1000000000;omega⟩
theorem Yl {c:Option L} (h:(c.getD []).length≤100000):(txC c).length≤100000:=Nat.le_trans (BJ 27 c).1 h
def ptG (b:L):Pt:=(ptD b).getD pt0
def ptI (b:L):Int:=if (ptD b).isSome then 0 else 2
def rpG (b:L):Rp:=(rpD b).getD rp0
def rpI (b:L):Int:=if (rpD b).isSome then 0 else 2
end Mc
end
section
namespace Mc
open Go.RowKit Af DerP DerC Ms
def zA:Array Value:=(asC as0).toArray
def zT:Array Value:=(tgC tg0 (.slice none 0 0) (.slice none 0 0)).toArray
def zR:Array Value:=(reC re0 (.slice none 0 0) (.slice none 0 0)).toArray
def zP:Array Value:=(apC ap0 (.slice none 0 0) (.slice none 0 0)).toArray
def zF:Array Value:=(faC fa0).toArray
theorem zA_v:AsV zA as0:=rfl
theorem zF_v:FaV zF fa0:=rfl
theorem zT_v (w:World) (B:Nat):TgV w B zT tg0:=⟨_,_,rfl,SlB.nil w B,SlB.nil w B⟩
theorem zR_v (w:World) (B:Nat):ReV w B zR re0:=⟨_,_,rfl,SlB.nil w B,SlB.nil w B⟩
theorem zP_v (w:World) (B:Nat):ApV w B zP ap0:=⟨_,_,rfl,SlB.nil w B,SlB.nil w B⟩
theorem zM_v (w:World) (B:Nat) (k:Int):MgP w B zA zT zR zP zF ⟨k,as0,tg0,re0,ap0,fa0⟩:=⟨zA_v,zT_v w B,zR_v w B,zP_v w B,zF_v⟩
def nm (m:Mg):Mg:=if m.k=1 then ⟨1,m.aq,tg0,re0,ap0,fa0⟩ else if m.k=2 then ⟨2,as0,m.tg,re0,ap0,fa0⟩ else if m.k=3 then ⟨3,as0,tg0,m.re,ap0,fa0⟩ else if m.k=4 then ⟨4,as0,tg0,re0,m.ap,fa0⟩ else if m.k=5 then ⟨5,as0,tg0,re0,ap0,m.fa⟩ else ⟨m.k,as0,tg0,re0,ap0,fa0⟩
theorem Uo (k:Int):Tryz.prog.built 93 [(0,.int .i64 k)]=some (mgA k zA zT zR zP zF):=by kernel_rfl
theorem Sh (cs:Array Value) (m:Mg) (w:World) (h:MgV w w.heap.size cs m):Calls Tryz.prog 190 #[.agg cs] w fun e w'=>∃ds,e = .returned (.agg ds)∧MgV w' w'.heap.size ds (nm m)∧Below w.heap.size w w':=by
 obtain⟨pa,pt,pr,pp,pf,hc,hp⟩:=h;obtain⟨zz,ezz⟩:∃z:Array Value,z=#[.int .i64 0,.string ⟨#[]⟩,.string ⟨#[]⟩,.string ⟨#[]⟩,.string ⟨#[]⟩,.int .i64 0,.int .i64 0,.string ⟨#[]⟩,.string ⟨#[]⟩,.int .i64 0,.slice none 0 0,.slice none 0 0,.string ⟨#[]⟩,.string ⟨#[]⟩,.int .i64 0,.int .i64 0,.string ⟨#[]⟩,.string ⟨#[]⟩,.string ⟨#[]⟩,.string ⟨#[]⟩,.int .i64 0,.slice none 0 0,.slice none 0 0,.string ⟨#[]⟩,.string ⟨#[]⟩,.int .i64 0,.slice none 0 0,.slice none 0 0,.int .i64 0,.int .i64 0]:=⟨_,rfl⟩;have ez0:zz=mgA 0 zA zT zR zP zF:=by rw[ezz];rfl
 have hzs:zz.size=30:=by rw[ez0];exact(zM_v w 0 0).size 0
 have HZS:=I hzs;obtain⟨W,eW⟩:∃W,W=(w.alloc (.cells cs 93)).alloc (.cells zz 93):=⟨_,rfl⟩;have hWs:W.heap.size=w.heap.size+1+1:=by rw[eW];simp
 have HK:=I (show Blk W w.heap.size 93 (mgA m.k pa pt pr pp pf) by rw[eW,←hc];exact(Blk.new _ _ _).alloc _);have hq:=Blk.new (w.alloc (.cells cs 93)) 93 zz;rw[show(w.alloc (.cells cs 93)).heap.size=w.heap.size+1 by simp,←eW] at hq;have HR:=I hq;clear hq;have HG:=I (show Below w.heap.size w W by rw[eW];exact((Below.refl _ _).alloc (Nat.le_refl _) _).alloc (by simp) _);have HA:=I (hp.at_ HK.o);have k0:=HA.o.k;have HP:=I hp;have HWS:=I hWs;have HBT:=I (Uo m.k);obtain⟨c0,ec0⟩:∃c,c=mgA m.k zA zT zR zP zF:=⟨_,rfl⟩;have hc0:c0.size=30:=by rw[ec0];exact(zM_v w 0 m.k).size m.k
 have HO:=I (show c0.all (·.oneCell')=true by rw[ec0];exact(zM_v w 0 m.k).one m.k);have HI:=I (show(Tryz.prog.info? 93).map (·.size)=some c0.size by rw[hc0];exact Db);have HCS:=I hc0;rw[←ec0] at HBT;have EC:=I ec0;clear hc hp hWs hzs hc0 ec0 ez0
 by_cases m1:m.k=1
 ·have y1:(m.k==1)=true:=by simpa using m1
  have y2:(m.k==2)=false:=by simp;omega
  have y3:(m.k==3)=false:=by simp;omega
  have y4:(m.k==4)=false:=by simp;omega
  have y5:(m.k==5)=false:=by simp;omega
  have EN:=I (show nm m=⟨m.k,m.aq,tg0,re0,ap0,fa0⟩ by rw[nm,if_pos m1,m1]);clear m1;have HM:=I (show MgP w w.heap.size pa zT zR zP zF ⟨m.k,m.aq,tg0,re0,ap0,fa0⟩ from⟨HP.o.a,zT_v w w.heap.size,zR_v w w.heap.size,zP_v w w.heap.size,zF_v⟩);have HDI:=I (show(Tryz.prog.info? 93).map (·.size)=some (mgA m.k pa zT zR zP zF).size by rw[HM.o.size];exact Db);go_enter Tryz.func190,Tryz.ntmps190
  go_upto_region 1 with fail
  rw[←ezz,←eW];clear ezz eW
  go_wp2_with (first
   |(refine Az (by rfl) 93 #[(0,.tmp 5)] (by rfl) c0 (by simp only[List.map_toArray,List.map_cons,List.map_nil];exact HBT.o) ?_)
   |(refine wpList_store_mid (by rfl) 93 (.tmp 3) (.tmp 6) (by rfl) W.heap.size 0 c0 (by rfl) (by rfl) (Ao (Blk.new W 93 #[.int .i64 0,.string ⟨#[]⟩,.string ⟨#[]⟩,.string ⟨#[]⟩,.string ⟨#[]⟩,.int .i64 0,.int .i64 0,.string ⟨#[]⟩,.string ⟨#[]⟩,.int .i64 0,.slice none 0 0,.slice none 0 0,.string ⟨#[]⟩,.string ⟨#[]⟩,.int .i64 0,.int .i64 0,.string ⟨#[]⟩,.string ⟨#[]⟩,.string ⟨#[]⟩,.string ⟨#[]⟩,.int .i64 0,.slice none 0 0,.slice none 0 0,.string ⟨#[]⟩,.string ⟨#[]⟩,.int .i64 0,.slice none 0 0,.slice none 0 0,.int .i64 0,.int .i64 0]) _ (by have:=HCS.o;simp;omega)) HI.o HO.o ?_;have hV:=By W 93 #[.int .i64 0,.string ⟨#[]⟩,.string ⟨#[]⟩,.string ⟨#[]⟩,.string ⟨#[]⟩,.int .i64 0,.int .i64 0,.string ⟨#[]⟩,.string ⟨#[]⟩,.int .i64 0,.slice none 0 0,.slice none 0 0,.string ⟨#[]⟩,.string ⟨#[]⟩,.int .i64 0,.int .i64 0,.string ⟨#[]⟩,.string ⟨#[]⟩,.string ⟨#[]⟩,.string ⟨#[]⟩,.int .i64 0,.slice none 0 0,.slice none 0 0,.string ⟨#[]⟩,.string ⟨#[]⟩,.int .i64 0,.slice none 0 0,.slice none 0 0,.int .i64 0,.int .i64 0] c0 (by have:=HCS.o;simp;omega);generalize ((W.alloc (.cells #[.int .i64 0,.string ⟨#[]⟩,.string ⟨#[]⟩,.string ⟨#[]⟩,.string ⟨#[]⟩,.int .i64 0,.int .i64 0,.string ⟨#[]⟩,.string ⟨#[]⟩,.int .i64 0,.slice none 0 0,.slice none 0 0,.string ⟨#[]⟩,.string ⟨#[]⟩,.int .i64 0,.int .i64 0,.string ⟨#[]⟩,.string ⟨#[]⟩,.string ⟨#[]⟩,.string ⟨#[]⟩,.int .i64 0,.slice none 0 0,.slice none 0 0,.string ⟨#[]⟩,.string ⟨#[]⟩,.int .i64 0,.slice none 0 0,.slice none 0 0,.int .i64 0,.int .i64 0] 93)).setCells W.heap.size 0 c0.toList)=V at hV⊢;have HX:=I (show Blk V W.heap.size 93 (mgA m.k zA zT zR zP zF) from EC.o▸hV.1);replace HK:=I (HK.o.below hV.2);replace HR:=I (HR.o.below hV.2);replace HG:=I (HG.o.trans (hV.2.mono HG.o.size));clear hV HA k0;have HA:=I (HP.o.at_ HK.o);have k0:=HA.o.k)
   |(refine Ae (by rfl) 29 (.tmp 11) (by rfl) w.heap.size 1 (by rfl) pa _ HA.o.a Tryz.underlying29 (by rfl) (by rw[HP.o.a.size];exact BR) ?_)
   |(refine wpList_store_mid (by rfl) 29 (.tmp 13) (.tmp 12) (by rfl) W.heap.size 1 pa (by rfl) (by rfl) (BX HX.o 1 _ (by rw[(zM_v W 0 m.k).size m.k,HP.o.a.size];omega)) (by rw[HP.o.a.size];exact BR) HP.o.a.one ?_;have hX:=Cq (ps:=pa) (ds:=mgA m.k pa zT zR zP zF) (pre:=[.int .i64 m.k]) (mid:=zA.toList) (post:=zT.toList++zR.toList++zP.toList++zF.toList) (o:=1) HX.o (by simp [mgA]) (by rfl) (by rw[HP.o.a.size];rfl) (by simp [mgA]);have hpm:=Ds V W.heap.size 1 pa.toList;generalize V.setCells W.heap.size 1 pa.toList=V2 at hX hpm⊢;replace HX:=I hX;replace HR:=I (HR.o.grown hpm (by intro e;injection e with e;have:=HWS.o;omega));replace HG:=I (Al HG.o hpm HG.o.size (by have:=HWS.o;omega));clear hX hpm HA HK k0)
   |(refine Ae (by rfl) 93 (.tmp 3) (by rfl) W.heap.size 0 (by rfl) (mgA m.k pa zT zR zP zF) _ (Ag HX.o) Tryz.underlying93 (by rfl) HDI.o ?_)
   |(refine wpList_store_mid (by rfl) 93 (.tmp 2) (.tmp 34) (by rfl) (w.heap.size+1) 0 (mgA m.k pa zT zR zP zF) (by rfl) (by rfl) (Ao HR.o _ (by rw[HM.o.size];have:=HZS.o;omega)) HDI.o (HM.o.one _) ?_)
   |fail)
  have hE:=AK (ds:=mgA m.k pa zT zR zP zF) HR.o (by rw[HM.o.size];have:=HZS.o;omega);have hp:=AV V2 (w.heap.size+1) (mgA m.k pa zT zR zP zF).toList;have hq:=Ak (P:=Tryz.prog) hE Tryz.underlying93 rfl HDI.o;refine bodyPost_ret (v:=.agg (mgA m.k pa zT zR zP zF)) ?_ ?_ ?_
  ·exact An 2 93 ⟨w.heap.size+1,0,none⟩ Tryz.results190 rfl hq
  ·rfl
  have hB:=Al HG.o hp HG.o.size (by omega);refine⟨_,rfl,?_,hB⟩;rw[EN.o];exact⟨pa,zT,zR,zP,zF,rfl,(HM.o.keep hB).more hB.size⟩
 ·have nm1:=m1
  by_cases m2:m.k=2
  ·have y1:(m.k==1)=false:=by simp;omega
   have y2:(m.k==2)=true:=by simpa using m2
   have y3:(m.k==3)=false:=by simp;omega
   have y4:(m.k==4)=false:=by simp;omega
   have y5:(m.k==5)=false:=by simp;omega
   have EN:=I (show nm m=⟨m.k,as0,m.tg,re0,ap0,fa0⟩ by rw[nm,if_neg m1,if_pos m2,m2]);clear m1 m2;have HM:=I (show MgP w w.heap.size zA pt zR zP zF ⟨m.k,as0,m.tg,re0,ap0,fa0⟩ from⟨zA_v,HP.o.t,zR_v w w.heap.size,zP_v w w.heap.size,zF_v⟩);have HDI:=I (show(Tryz.prog.info? 93).map (·.size)=some (mgA m.k zA pt zR zP zF).size by rw[HM.o.size];exact Db);go_enter Tryz.func190,Tryz.ntmps190
   go_upto_region 1 with fail
   rw[←ezz,←eW];clear ezz eW
   go_wp2_with (first
    |(refine Az (by rfl) 93 #[(0,.tmp 5)] (by rfl) c0 (by simp only[List.map_toArray,List.map_cons,List.map_nil];exact HBT.o) ?_)
    |(refine wpList_store_mid (by rfl) 93 (.tmp 3) (.tmp 6) (by rfl) W.heap.size 0 c0 (by rfl) (by rfl) (Ao (Blk.new W 93 #[.int .i64 0,.string ⟨#[]⟩,.string ⟨#[]⟩,.string ⟨#[]⟩,.string ⟨#[]⟩,.int .i64 0,.int .i64 0,.string ⟨#[]⟩,.string ⟨#[]⟩,.int .i64 0,.slice none 0 0,.slice none 0 0,.string ⟨#[]⟩,.string ⟨#[]⟩,.int .i64 0,.int .i64 0,.string ⟨#[]⟩,.string ⟨#[]⟩,.string ⟨#[]⟩,.string ⟨#[]⟩,.int .i64 0,.slice none 0 0,.slice none 0 0,.string ⟨#[]⟩,.string ⟨#[]⟩,.int .i64 0,.slice none 0 0,.slice none 0 0,.int .i64 0,.int .i64 0]) _ (by have:=HCS.o;simp;omega)) HI.o HO.o ?_;have hV:=By W 93 #[.int .i64 0,.string ⟨#[]⟩,.string ⟨#[]⟩,.string ⟨#[]⟩,.string ⟨#[]⟩,.int .i64 0,.int .i64 0,.string ⟨#[]⟩,.string ⟨#[]⟩,.int .i64 0,.slice none 0 0,.slice none 0 0,.string ⟨#[]⟩,.string ⟨#[]⟩,.int .i64 0,.int .i64 0,.string ⟨#[]⟩,.string ⟨#[]⟩,.string ⟨#[]⟩,.string ⟨#[]⟩,.int .i64 0,.slice none 0 0,.slice none 0 0,.string ⟨#[]⟩,.string ⟨#[]⟩,.int .i64 0,.slice none 0 0,.slice none 0 0,.int .i64 0,.int .i64 0] c0 (by have:=HCS.o;simp;omega);generalize ((W.alloc (.cells #[.int .i64 0,.string ⟨#[]⟩,.string ⟨#[]⟩,.string ⟨#[]⟩,.string ⟨#[]⟩,.int .i64 0,.int .i64 0,.string ⟨#[]⟩,.string ⟨#[]⟩,.int .i64 0,.slice none 0 0,.slice none 0 0,.string ⟨#[]⟩,.string ⟨#[]⟩,.int .i64 0,.int .i64 0,.string ⟨#[]⟩,.string ⟨#[]⟩,.string ⟨#[]⟩,.string ⟨#[]⟩,.int .i64 0,.slice none 0 0,.slice none 0 0,.string ⟨#[]⟩,.string ⟨#[]⟩,.int .i64 0,.slice none 0 0,.slice none 0 0,.int .i64 0,.int .i64 0] 93)).setCells W.heap.size 0 c0.toList)=V at hV⊢;have HX:=I (show Blk V W.heap.size 93 (mgA m.k zA zT zR zP zF) from EC.o▸hV.1);replace HK:=I (HK.o.below hV.2);replace HR:=I (HR.o.below hV.2);replace HG:=I (HG.o.trans (hV.2.mono HG.o.size));clear hV HA k0;have HA:=I (HP.o.at_ HK.o);have k0:=HA.o.k)
    |(refine Ae (by rfl) 34 (.tmp 16) (by rfl) w.heap.size 7 (by rfl) pt _ HA.o.t Tryz.underlying34 (by rfl) (by rw[HP.o.t.size];exact Cd) ?_)
    |(refine wpList_store_mid (by rfl) 34 (.tmp 18) (.tmp 17) (by rfl) W.heap.size 7 pt (by rfl) (by rfl) (BX HX.o 7 _ (by rw[(zM_v W 0 m.k).size m.k,HP.o.t.size];omega)) (by rw[HP.o.t.size];exact Cd) HP.o.t.one ?_;have hX:=Cq (ps:=pt) (ds:=mgA m.k zA pt zR zP zF) (pre:=[.int .i64 m.k]++zA.toList) (mid:=zT.toList) (post:=zR.toList++zP.toList++zF.toList) (o:=7) HX.o (by simp [mgA]) (by rfl) (by rw[HP.o.t.size];rfl) (by simp [mgA]);have hpm:=Ds V W.heap.size 7 pt.toList;generalize V.setCells W.heap.size 7 pt.toList=V2 at hX hpm⊢;replace HX:=I hX;replace HR:=I (HR.o.grown hpm (by intro e;injection e with e;have:=HWS.o;omega));replace HG:=I (Al HG.o hpm HG.o.size (by have:=HWS.o;omega));clear hX hpm HA HK k0)
    |(refine Ae (by rfl) 93 (.tmp 3) (by rfl) W.heap.size 0 (by rfl) (mgA m.k zA pt zR zP zF) _ (Ag HX.o) Tryz.underlying93 (by rfl) HDI.o ?_)
    |(refine wpList_store_mid (by rfl) 93 (.tmp 2) (.tmp 34) (by rfl) (w.heap.size+1) 0 (mgA m.k zA pt zR zP zF) (by rfl) (by rfl) (Ao HR.o _ (by rw[HM.o.size];have:=HZS.o;omega)) HDI.o (HM.o.one _) ?_)
    |fail)
   have hE:=AK (ds:=mgA m.k zA pt zR zP zF) HR.o (by rw[HM.o.size];have:=HZS.o;omega);have hp:=AV V2 (w.heap.size+1) (mgA m.k zA pt zR zP zF).toList;have hq:=Ak (P:=Tryz.prog) hE Tryz.underlying93 rfl HDI.o;refine bodyPost_ret (v:=.agg (mgA m.k zA pt zR zP zF)) ?_ ?_ ?_
   ·exact An 2 93 ⟨w.heap.size+1,0,none⟩ Tryz.results190 rfl hq
   ·rfl
   have hB:=Al HG.o hp HG.o.size (by omega);refine⟨_,rfl,?_,hB⟩;rw[EN.o];exact⟨zA,pt,zR,zP,zF,rfl,(HM.o.keep hB).more hB.size⟩
  ·have nm2:=m2
   by_cases m3:m.k=3
   ·have y1:(m.k==1)=false:=by simp;omega
    have y2:(m.k==2)=false:=by simp;omega
    have y3:(m.k==3)=true:=by simpa using m3
    have y4:(m.k==4)=false:=by simp;omega
    have y5:(m.k==5)=false:=by simp;omega
    have EN:=I (show nm m=⟨m.k,as0,tg0,m.re,ap0,fa0⟩ by rw[nm,if_neg m1,if_neg m2,if_pos m3,m3]);clear m1 m2 m3;have HM:=I (show MgP w w.heap.size zA zT pr zP zF ⟨m.k,as0,tg0,m.re,ap0,fa0⟩ from⟨zA_v,zT_v w w.heap.size,HP.o.r,zP_v w w.heap.size,zF_v⟩);have HDI:=I (show(Tryz.prog.info? 93).map (·.size)=some (mgA m.k zA zT pr zP zF).size by rw[HM.o.size];exact Db);go_enter Tryz.func190,Tryz.ntmps190
    go_upto_region 1 with fail
    rw[←ezz,←eW];clear ezz eW
    go_wp2_with (first
     |(refine Az (by rfl) 93 #[(0,.tmp 5)] (by rfl) c0 (by simp only[List.map_toArray,List.map_cons,List.map_nil];exact HBT.o) ?_)
     |(refine wpList_store_mid (by rfl) 93 (.tmp 3) (.tmp 6) (by rfl) W.heap.size 0 c0 (by rfl) (by rfl) (Ao (Blk.new W 93 #[.int .i64 0,.string ⟨#[]⟩,.string ⟨#[]⟩,.string ⟨#[]⟩,.string ⟨#[]⟩,.int .i64 0,.int .i64 0,.string ⟨#[]⟩,.string ⟨#[]⟩,.int .i64 0,.slice none 0 0,.slice none 0 0,.string ⟨#[]⟩,.string ⟨#[]⟩,.int .i64 0,.int .i64 0,.string ⟨#[]⟩,.string ⟨#[]⟩,.string ⟨#[]⟩,.string ⟨#[]⟩,.int .i64 0,.slice none 0 0,.slice none 0 0,.string ⟨#[]⟩,.string ⟨#[]⟩,.int .i64 0,.slice none 0 0,.slice none 0 0,.int .i64 0,.int .i64 0]) _ (by have:=HCS.o;simp;omega)) HI.o HO.o ?_;have hV:=By W 93 #[.int .i64 0,.string ⟨#[]⟩,.string ⟨#[]⟩,.string ⟨#[]⟩,.string ⟨#[]⟩,.int .i64 0,.int .i64 0,.string ⟨#[]⟩,.string ⟨#[]⟩,.int .i64 0,.slice none 0 0,.slice none 0 0,.string ⟨#[]⟩,.string ⟨#[]⟩,.int .i64 0,.int .i64 0,.string ⟨#[]⟩,.string ⟨#[]⟩,.string ⟨#[]⟩,.string ⟨#[]⟩,.int .i64 0,.slice none 0 0,.slice none 0 0,.string ⟨#[]⟩,.string ⟨#[]⟩,.int .i64 0,.slice none 0 0,.slice none 0 0,.int .i64 0,.int .i64 0] c0 (by have:=HCS.o;simp;omega);generalize ((W.alloc (.cells #[.int .i64 0,.string ⟨#[]⟩,.string ⟨#[]⟩,.string ⟨#[]⟩,.string ⟨#[]⟩,.int .i64 0,.int .i64 0,.string ⟨#[]⟩,.string ⟨#[]⟩,.int .i64 0,.slice none 0 0,.slice none 0 0,.string ⟨#[]⟩,.string ⟨#[]⟩,.int .i64 0,.int .i64 0,.string ⟨#[]⟩,.string ⟨#[]⟩,.string ⟨#[]⟩,.string ⟨#[]⟩,.int .i64 0,.slice none 0 0,.slice none 0 0,.string ⟨#[]⟩,.string ⟨#[]⟩,.int .i64 0,.slice none 0 0,.slice none 0 0,.int .i64 0,.int .i64 0] 93)).setCells W.heap.size 0 c0.toList)=V at hV⊢;have HX:=I (show Blk V W.heap.size 93 (mgA m.k zA zT zR zP zF) from EC.o▸hV.1);replace HK:=I (HK.o.below hV.2);replace HR:=I (HR.o.below hV.2);replace HG:=I (HG.o.trans (hV.2.mono HG.o.size));clear hV HA k0;have HA:=I (HP.o.at_ HK.o);have k0:=HA.o.k)
     |(refine Ae (by rfl) 38 (.tmp 21) (by rfl) w.heap.size 16 (by rfl) pr _ HA.o.r Tryz.underlying38 (by rfl) (by rw[HP.o.r.size];exact AI) ?_)
     |(refine wpList_store_mid (by rfl) 38 (.tmp 23) (.tmp 22) (by rfl) W.heap.size 16 pr (by rfl) (by rfl) (BX HX.o 16 _ (by rw[(zM_v W 0 m.k).size m.k,HP.o.r.size];omega)) (by rw[HP.o.r.size];exact AI) HP.o.r.one ?_;have hX:=Cq (ps:=pr) (ds:=mgA m.k zA zT pr zP zF) (pre:=[.int .i64 m.k]++zA.toList++zT.toList) (mid:=zR.toList) (post:=zP.toList++zF.toList) (o:=16) HX.o (by simp [mgA]) (by rfl) (by rw[HP.o.r.size];rfl) (by simp [mgA]);have hpm:=Ds V W.heap.size 16 pr.toList;generalize V.setCells W.heap.size 16 pr.toList=V2 at hX hpm⊢;replace HX:=I hX;replace HR:=I (HR.o.grown hpm (by intro e;injection e with e;have:=HWS.o;omega));replace HG:=I (Al HG.o hpm HG.o.size (by have:=HWS.o;omega));clear hX hpm HA HK k0)
     |(refine Ae (by rfl) 93 (.tmp 3) (by rfl) W.heap.size 0 (by rfl) (mgA m.k zA zT pr zP zF) _ (Ag HX.o) Tryz.underlying93 (by rfl) HDI.o ?_)
     |(refine wpList_store_mid (by rfl) 93 (.tmp 2) (.tmp 34) (by rfl) (w.heap.size+1) 0 (mgA m.k zA zT pr zP zF) (by rfl) (by rfl) (Ao HR.o _ (by rw[HM.o.size];have:=HZS.o;omega)) HDI.o (HM.o.one _) ?_)
     |fail)
    have hE:=AK (ds:=mgA m.k zA zT pr zP zF) HR.o (by rw[HM.o.size];have:=HZS.o;omega);have hp:=AV V2 (w.heap.size+1) (mgA m.k zA zT pr zP zF).toList;have hq:=Ak (P:=Tryz.prog) hE Tryz.underlying93 rfl HDI.o;refine bodyPost_ret (v:=.agg (mgA m.k zA zT pr zP zF)) ?_ ?_ ?_
    ·exact An 2 93 ⟨w.heap.size+1,0,none⟩ Tryz.results190 rfl hq
    ·rfl
    have hB:=Al HG.o hp HG.o.size (by omega);refine⟨_,rfl,?_,hB⟩;rw[EN.o];exact⟨zA,zT,pr,zP,zF,rfl,(HM.o.keep hB).more hB.size⟩
   ·have nm3:=m3
    by_cases m4:m.k=4
    ·have y1:(m.k==1)=false:=by simp;omega
     have y2:(m.k==2)=false:=by simp;omega
     have y3:(m.k==3)=false:=by simp;omega
     have y4:(m.k==4)=true:=by simpa using m4
     have y5:(m.k==5)=false:=by simp;omega
     have EN:=I (show nm m=⟨m.k,as0,tg0,re0,m.ap,fa0⟩ by rw[nm,if_neg m1,if_neg m2,if_neg m3,if_pos m4,m4]);clear m1 m2 m3 m4;have HM:=I (show MgP w w.heap.size zA zT zR pp zF ⟨m.k,as0,tg0,re0,m.ap,fa0⟩ from⟨zA_v,zT_v w w.heap.size,zR_v w w.heap.size,HP.o.p,zF_v⟩);have HDI:=I (show(Tryz.prog.info? 93).map (·.size)=some (mgA m.k zA zT zR pp zF).size by rw[HM.o.size];exact Db);go_enter Tryz.func190,Tryz.ntmps190
     go_upto_region 1 with fail
     rw[←ezz,←eW];clear ezz eW
     go_wp2_with (first
      |(refine Az (by rfl) 93 #[(0,.tmp 5)] (by rfl) c0 (by simp only[List.map_toArray,List.map_cons,List.map_nil];exact HBT.o) ?_)
      |(refine wpList_store_mid (by rfl) 93 (.tmp 3) (.tmp 6) (by rfl) W.heap.size 0 c0 (by rfl) (by rfl) (Ao (Blk.new W 93 #[.int .i64 0,.string ⟨#[]⟩,.string ⟨#[]⟩,.string ⟨#[]⟩,.string ⟨#[]⟩,.int .i64 0,.int .i64 0,.string ⟨#[]⟩,.string ⟨#[]⟩,.int .i64 0,.slice none 0 0,.slice none 0 0,.string ⟨#[]⟩,.string ⟨#[]⟩,.int .i64 0,.int .i64 0,.string ⟨#[]⟩,.string ⟨#[]⟩,.string ⟨#[]⟩,.string ⟨#[]⟩,.int .i64 0,.slice none 0 0,.slice none 0 0,.string ⟨#[]⟩,.string ⟨#[]⟩,.int .i64 0,.slice none 0 0,.slice none 0 0,.int .i64 0,.int .i64 0]) _ (by have:=HCS.o;simp;omega)) HI.o HO.o ?_;have hV:=By W 93 #[.int .i64 0,.string ⟨#[]⟩,.string ⟨#[]⟩,.string ⟨#[]⟩,.string ⟨#[]⟩,.int .i64 0,.int .i64 0,.string ⟨#[]⟩,.string ⟨#[]⟩,.int .i64 0,.slice none 0 0,.slice none 0 0,.string ⟨#[]⟩,.string ⟨#[]⟩,.int .i64 0,.int .i64 0,.string ⟨#[]⟩,.string ⟨#[]⟩,.string ⟨#[]⟩,.string ⟨#[]⟩,.int .i64 0,.slice none 0 0,.slice none 0 0,.string ⟨#[]⟩,.string ⟨#[]⟩,.int .i64 0,.slice none 0 0,.slice none 0 0,.int .i64 0,.int .i64 0] c0 (by have:=HCS.o;simp;omega);generalize ((W.alloc (.cells #[.int .i64 0,.string ⟨#[]⟩,.string ⟨#[]⟩,.string ⟨#[]⟩,.string ⟨#[]⟩,.int .i64 0,.int .i64 0,.string ⟨#[]⟩,.string ⟨#[]⟩,.int .i64 0,.slice none 0 0,.slice none 0 0,.string ⟨#[]⟩,.string ⟨#[]⟩,.int .i64 0,.int .i64 0,.string ⟨#[]⟩,.string ⟨#[]⟩,.string ⟨#[]⟩,.string ⟨#[]⟩,.int .i64 0,.slice none 0 0,.slice none 0 0,.string ⟨#[]⟩,.string ⟨#[]⟩,.int .i64 0,.slice none 0 0,.slice none 0 0,.int .i64 0,.int .i64 0] 93)).setCells W.heap.size 0 c0.toList)=V at hV⊢;have HX:=I (show Blk V W.heap.size 93 (mgA m.k zA zT zR zP zF) from EC.o▸hV.1);replace HK:=I (HK.o.below hV.2);replace HR:=I (HR.o.below hV.2);replace HG:=I (HG.o.trans (hV.2.mono HG.o.size));clear hV HA k0;have HA:=I (HP.o.at_ HK.o);have k0:=HA.o.k)
      |(refine Ae (by rfl) 89 (.tmp 26) (by rfl) w.heap.size 23 (by rfl) pp _ HA.o.p Tryz.underlying89 (by rfl) (by rw[HP.o.p.size];exact Dv) ?_)
      |(refine wpList_store_mid (by rfl) 89 (.tmp 28) (.tmp 27) (by rfl) W.heap.size 23 pp (by rfl) (by rfl) (BX HX.o 23 _ (by rw[(zM_v W 0 m.k).size m.k,HP.o.p.size];omega)) (by rw[HP.o.p.size];exact Dv) HP.o.p.one ?_;have hX:=Cq (ps:=pp) (ds:=mgA m.k zA zT zR pp zF) (pre:=[.int .i64 m.k]++zA.toList++zT.toList++zR.toList) (mid:=zP.toList) (post:=zF.toList) (o:=23) HX.o (by simp [mgA]) (by rfl) (by rw[HP.o.p.size];rfl) (by simp [mgA]);have hpm:=Ds V W.heap.size 23 pp.toList;generalize V.setCells W.heap.size 23 pp.toList=V2 at hX hpm⊢;replace HX:=I hX;replace HR:=I (HR.o.grown hpm (by intro e;injection e with e;have:=HWS.o;omega));replace HG:=I (Al HG.o hpm HG.o.size (by have:=HWS.o;omega));clear hX hpm HA HK k0)
      |(refine Ae (by rfl) 93 (.tmp 3) (by rfl) W.heap.size 0 (by rfl) (mgA m.k zA zT zR pp zF) _ (Ag HX.o) Tryz.underlying93 (by rfl) HDI.o ?_)
      |(refine wpList_store_mid (by rfl) 93 (.tmp 2) (.tmp 34) (by rfl) (w.heap.size+1) 0 (mgA m.k zA zT zR pp zF) (by rfl) (by rfl) (Ao HR.o _ (by rw[HM.o.size];have:=HZS.o;omega)) HDI.o (HM.o.one _) ?_)
      |fail)
     have hE:=AK (ds:=mgA m.k zA zT zR pp zF) HR.o (by rw[HM.o.size];have:=HZS.o;omega);have hp:=AV V2 (w.heap.size+1) (mgA m.k zA zT zR pp zF).toList;have hq:=Ak (P:=Tryz.prog) hE Tryz.underlying93 rfl HDI.o;refine bodyPost_ret (v:=.agg (mgA m.k zA zT zR pp zF)) ?_ ?_ ?_
     ·exact An 2 93 ⟨w.heap.size+1,0,none⟩ Tryz.results190 rfl hq
     ·rfl
     have hB:=Al HG.o hp HG.o.size (by omega);refine⟨_,rfl,?_,hB⟩;rw[EN.o];exact⟨zA,zT,zR,pp,zF,rfl,(HM.o.keep hB).more hB.size⟩
    ·have nm4:=m4
     by_cases m5:m.k=5
     ·have y1:(m.k==1)=false:=by simp;omega
      have y2:(m.k==2)=false:=by simp;omega
      have y3:(m.k==3)=false:=by simp;omega
      have y4:(m.k==4)=false:=by simp;omega
      have y5:(m.k==5)=true:=by simpa using m5
      have EN:=I (show nm m=⟨m.k,as0,tg0,re0,ap0,m.fa⟩ by rw[nm,if_neg m1,if_neg m2,if_neg m3,if_neg m4,if_pos m5,m5]);clear m1 m2 m3 m4 m5;have HM:=I (show MgP w w.heap.size zA zT zR zP pf ⟨m.k,as0,tg0,re0,ap0,m.fa⟩ from⟨zA_v,zT_v w w.heap.size,zR_v w w.heap.size,zP_v w w.heap.size,HP.o.f⟩);have HDI:=I (show(Tryz.prog.info? 93).map (·.size)=some (mgA m.k zA zT zR zP pf).size by rw[HM.o.size];exact Db);go_enter Tryz.func190,Tryz.ntmps190
      go_upto_region 1 with fail
      rw[←ezz,←eW];clear ezz eW
      go_wp2_with (first
       |(refine Az (by rfl) 93 #[(0,.tmp 5)] (by rfl) c0 (by simp only[List.map_toArray,List.map_cons,List.map_nil];exact HBT.o) ?_)
       |(refine wpList_store_mid (by rfl) 93 (.tmp 3) (.tmp 6) (by rfl) W.heap.size 0 c0 (by rfl) (by rfl) (Ao (Blk.new W 93 #[.int .i64 0,.string ⟨#[]⟩,.string ⟨#[]⟩,.string ⟨#[]⟩,.string ⟨#[]⟩,.int .i64 0,.int .i64 0,.string ⟨#[]⟩,.string ⟨#[]⟩,.int .i64 0,.slice none 0 0,.slice none 0 0,.string ⟨#[]⟩,.string ⟨#[]⟩,.int .i64 0,.int .i64 0,.string ⟨#[]⟩,.string ⟨#[]⟩,.string ⟨#[]⟩,.string ⟨#[]⟩,.int .i64 0,.slice none 0 0,.slice none 0 0,.string ⟨#[]⟩,.string ⟨#[]⟩,.int .i64 0,.slice none 0 0,.slice none 0 0,.int .i64 0,.int .i64 0]) _ (by have:=HCS.o;simp;omega)) HI.o HO.o ?_;have hV:=By W 93 #[.int .i64 0,.string ⟨#[]⟩,.string ⟨#[]⟩,.string ⟨#[]⟩,.string ⟨#[]⟩,.int .i64 0,.int .i64 0,.string ⟨#[]⟩,.string ⟨#[]⟩,.int .i64 0,.slice none 0 0,.slice none 0 0,.string ⟨#[]⟩,.string ⟨#[]⟩,.int .i64 0,.int .i64 0,.string ⟨#[]⟩,.string ⟨#[]⟩,.string ⟨#[]⟩,.string ⟨#[]⟩,.int .i64 0,.slice none 0 0,.slice none 0 0,.string ⟨#[]⟩,.string ⟨#[]⟩,.int .i64 0,.slice none 0 0,.slice none 0 0,.int .i64 0,.int .i64 0] c0 (by have:=HCS.o;simp;omega);generalize ((W.alloc (.cells #[.int .i64 0,.string ⟨#[]⟩,.string ⟨#[]⟩,.string ⟨#[]⟩,.string ⟨#[]⟩,.int .i64 0,.int .i64 0,.string ⟨#[]⟩,.string ⟨#[]⟩,.int .i64 0,.slice none 0 0,.slice none 0 0,.string ⟨#[]⟩,.string ⟨#[]⟩,.int .i64 0,.int .i64 0,.string ⟨#[]⟩,.string ⟨#[]⟩,.string ⟨#[]⟩,.string ⟨#[]⟩,.int .i64 0,.slice none 0 0,.slice none 0 0,.string ⟨#[]⟩,.string ⟨#[]⟩,.int .i64 0,.slice none 0 0,.slice none 0 0,.int .i64 0,.int .i64 0] 93)).setCells W.heap.size 0 c0.toList)=V at hV⊢;have HX:=I (show Blk V W.heap.size 93 (mgA m.k zA zT zR zP zF) from EC.o▸hV.1);replace HK:=I (HK.o.below hV.2);replace HR:=I (HR.o.below hV.2);replace HG:=I (HG.o.trans (hV.2.mono HG.o.size));clear hV HA k0;have HA:=I (HP.o.at_ HK.o);have k0:=HA.o.k)
       |(refine Ae (by rfl) 91 (.tmp 31) (by rfl) w.heap.size 28 (by rfl) pf _ HA.o.f Tryz.underlying91 (by rfl) (by rw[HP.o.f.size];exact Fc) ?_)
       |(refine wpList_store_mid (by rfl) 91 (.tmp 33) (.tmp 32) (by rfl) W.heap.size 28 pf (by rfl) (by rfl) (BX HX.o 28 _ (by rw[(zM_v W 0 m.k).size m.k,HP.o.f.size];omega)) (by rw[HP.o.f.size];exact Fc) HP.o.f.one ?_;have hX:=Cq (ps:=pf) (ds:=mgA m.k zA zT zR zP pf) (pre:=[.int .i64 m.k]++zA.toList++zT.toList++zR.toList++zP.toList) (mid:=zF.toList) (post:=[]) (o:=28) HX.o (by simp [mgA]) (by rfl) (by rw[HP.o.f.size];rfl) (by simp [mgA]);have hpm:=Ds V W.heap.size 28 pf.toList;generalize V.setCells W.heap.size 28 pf.toList=V2 at hX hpm⊢;replace HX:=I hX;replace HR:=I (HR.o.grown hpm (by intro e;injection e with e;have:=HWS.o;omega));replace HG:=I (Al HG.o hpm HG.o.size (by have:=HWS.o;omega));clear hX hpm HA HK k0)
       |(refine Ae (by rfl) 93 (.tmp 3) (by rfl) W.heap.size 0 (by rfl) (mgA m.k zA zT zR zP pf) _ (Ag HX.o) Tryz.underlying93 (by rfl) HDI.o ?_)
       |(refine wpList_store_mid (by rfl) 93 (.tmp 2) (.tmp 34) (by rfl) (w.heap.size+1) 0 (mgA m.k zA zT zR zP pf) (by rfl) (by rfl) (Ao HR.o _ (by rw[HM.o.size];have:=HZS.o;omega)) HDI.o (HM.o.one _) ?_)
       |fail)
      have hE:=AK (ds:=mgA m.k zA zT zR zP pf) HR.o (by rw[HM.o.size];have:=HZS.o;omega);have hp:=AV V2 (w.heap.size+1) (mgA m.k zA zT zR zP pf).toList;have hq:=Ak (P:=Tryz.prog) hE Tryz.underlying93 rfl HDI.o;refine bodyPost_ret (v:=.agg (mgA m.k zA zT zR zP pf)) ?_ ?_ ?_
      ·exact An 2 93 ⟨w.heap.size+1,0,none⟩ Tryz.results190 rfl hq
      ·rfl
      have hB:=Al HG.o hp HG.o.size (by omega);refine⟨_,rfl,?_,hB⟩;rw[EN.o];exact⟨zA,zT,zR,zP,pf,rfl,(HM.o.keep hB).more hB.size⟩
     ·have nm5:=m5
      have y1:(m.k==1)=false:=by simp;omega
      have y2:(m.k==2)=false:=by simp;omega
      have y3:(m.k==3)=false:=by simp;omega
      have y4:(m.k==4)=false:=by simp;omega
      have y5:(m.k==5)=false:=by simp;omega
      have EN:=I (show nm m=⟨m.k,as0,tg0,re0,ap0,fa0⟩ by rw[nm,if_neg m1,if_neg m2,if_neg m3,if_neg m4,if_neg m5]);clear m1 m2 m3 m4 m5;have HM:=I (show MgP w w.heap.size zA zT zR zP zF ⟨m.k,as0,tg0,re0,ap0,fa0⟩ from⟨zA_v,zT_v w w.heap.size,zR_v w w.heap.size,zP_v w w.heap.size,zF_v⟩);have HDI:=I (show(Tryz.prog.info? 93).map (·.size)=some (mgA m.k zA zT zR zP zF).size by rw[HM.o.size];exact Db);go_enter Tryz.func190,Tryz.ntmps190
      go_upto_region 1 with fail
      rw[←ezz,←eW];clear ezz eW
      go_wp2_with (first
       |(refine Az (by rfl) 93 #[(0,.tmp 5)] (by rfl) c0 (by simp only[List.map_toArray,List.map_cons,List.map_nil];exact HBT.o) ?_)
       |(refine wpList_store_mid (by rfl) 93 (.tmp 3) (.tmp 6) (by rfl) W.heap.size 0 c0 (by rfl) (by rfl) (Ao (Blk.new W 93 #[.int .i64 0,.string ⟨#[]⟩,.string ⟨#[]⟩,.string ⟨#[]⟩,.string ⟨#[]⟩,.int .i64 0,.int .i64 0,.string ⟨#[]⟩,.string ⟨#[]⟩,.int .i64 0,.slice none 0 0,.slice none 0 0,.string ⟨#[]⟩,.string ⟨#[]⟩,.int .i64 0,.int .i64 0,.string ⟨#[]⟩,.string ⟨#[]⟩,.string ⟨#[]⟩,.string ⟨#[]⟩,.int .i64 0,.slice none 0 0,.slice none 0 0,.string ⟨#[]⟩,.string ⟨#[]⟩,.int .i64 0,.slice none 0 0,.slice none 0 0,.int .i64 0,.int .i64 0]) _ (by have:=HCS.o;simp;omega)) HI.o HO.o ?_;have hV:=By W 93 #[.int .i64 0,.string ⟨#[]⟩,.string ⟨#[]⟩,.string ⟨#[]⟩,.string ⟨#[]⟩,.int .i64 0,.int .i64 0,.string ⟨#[]⟩,.string ⟨#[]⟩,.int .i64 0,.slice none 0 0,.slice none 0 0,.string ⟨#[]⟩,.string ⟨#[]⟩,.int .i64 0,.int .i64 0,.string ⟨#[]⟩,.string ⟨#[]⟩,.string ⟨#[]⟩,.string ⟨#[]⟩,.int .i64 0,.slice none 0 0,.slice none 0 0,.string ⟨#[]⟩,.string ⟨#[]⟩,.int .i64 0,.slice none 0 0,.slice none 0 0,.int .i64 0,.int .i64 0] c0 (by have:=HCS.o;simp;omega);generalize ((W.alloc (.cells #[.int .i64 0,.string ⟨#[]⟩,.string ⟨#[]⟩,.string ⟨#[]⟩,.string ⟨#[]⟩,.int .i64 0,.int .i64 0,.string ⟨#[]⟩,.string ⟨#[]⟩,.int .i64 0,.slice none 0 0,.slice none 0 0,.string ⟨#[]⟩,.string ⟨#[]⟩,.int .i64 0,.int .i64 0,.string ⟨#[]⟩,.string ⟨#[]⟩,.string ⟨#[]⟩,.string ⟨#[]⟩,.int .i64 0,.slice none 0 0,.slice none 0 0,.string ⟨#[]⟩,.string ⟨#[]⟩,.int .i64 0,.slice none 0 0,.slice none 0 0,.int .i64 0,.int .i64 0] 93)).setCells W.heap.size 0 c0.toList)=V at hV⊢;have HX:=I (show Blk V W.heap.size 93 (mgA m.k zA zT zR zP zF) from EC.o▸hV.1);replace HK:=I (HK.o.below hV.2);replace HR:=I (HR.o.below hV.2);replace HG:=I (HG.o.trans (hV.2.mono HG.o.size));clear hV HA k0;have HA:=I (HP.o.at_ HK.o);have k0:=HA.o.k)
       |(refine Ae (by rfl) 93 (.tmp 3) (by rfl) W.heap.size 0 (by rfl) (mgA m.k zA zT zR zP zF) _ (Ag HX.o) Tryz.underlying93 (by rfl) HDI.o ?_)
       |(refine wpList_store_mid (by rfl) 93 (.tmp 2) (.tmp 34) (by rfl) (w.heap.size+1) 0 (mgA m.k zA zT zR zP zF) (by rfl) (by rfl) (Ao HR.o _ (by rw[HM.o.size];have:=HZS.o;omega)) HDI.o (HM.o.one _) ?_)
       |fail)
      have hE:=AK (ds:=mgA m.k zA zT zR zP zF) HR.o (by rw[HM.o.size];have:=HZS.o;omega);have hp:=AV V (w.heap.size+1) (mgA m.k zA zT zR zP zF).toList;have hq:=Ak (P:=Tryz.prog) hE Tryz.underlying93 rfl HDI.o;refine bodyPost_ret (v:=.agg (mgA m.k zA zT zR zP zF)) ?_ ?_ ?_
      ·exact An 2 93 ⟨w.heap.size+1,0,none⟩ Tryz.results190 rfl hq
      ·rfl
      have hB:=Al HG.o hp HG.o.size (by omega);refine⟨_,rfl,?_,hB⟩;rw[EN.o];exact⟨zA,zT,zR,zP,zF,rfl,(HM.o.keep hB).more hB.size⟩
end Mc
end
section
namespace Mc
open Go.RowKit Af DerP DerC Ms
def OwnN (w:World) (base:Nat) (v:Value) (l:L):Prop:=(v = .slice none 0 0∧l = [])∨OwnB w base v l
section
variable {w w':World} {base base' g:Nat} {v:Value} {l:L} {cs:Array Value}
theorem OwnN.keep (h:OwnN w base v l) (hg:w.grownBy w' (some g)) (hlt:g<base):OwnN w' base v l:=h.imp id fun h=>h.keep hg hlt
theorem OwnN.below (h:OwnN w base v l) (hb:Below w.heap.size w w'):OwnN w' base v l:=h.imp id fun h=>h.below hb
theorem OwnN.less (h:OwnN w base v l) (hb:base'≤base):OwnN w base' v l:=h.imp id fun h=>h.less hb
theorem OwnN.slb (h:OwnN w base v l):SlB w w.heap.size v l:=by
 rcases h with⟨rfl,rfl⟩ | h
 ·exact SlB.nil _ _
 ·exact h.slb
def TgO (w:World) (B:Nat) (cs:Array Value) (q:Tg):Prop:=∃b a,cs=(tgC q b a).toArray∧OwnN w B b q.t.b∧OwnN w B a q.a
def ReO (w:World) (B:Nat) (cs:Array Value) (q:Re):Prop:=∃b a,cs=(reC q b a).toArray∧OwnN w B b q.t.b∧OwnN w B a q.b
def ApO (w:World) (B:Nat) (cs:Array Value) (q:Ap):Prop:=∃b a,cs=(apC q b a).toArray∧OwnN w B b q.t.b∧OwnN w B a q.a
theorem TgO.keep {q:Tg} (h:TgO w base cs q) (hg:w.grownBy w' (some g)) (hlt:g<base):TgO w' base cs q:=by obtain⟨b,a,h1,h2,h3⟩:=h;exact⟨b,a,h1,h2.keep hg hlt,h3.keep hg hlt⟩
theorem TgO.below {q:Tg} (h:TgO w base cs q) (hb:Below w.heap.size w w'):TgO w' base cs q:=by obtain⟨b,a,h1,h2,h3⟩:=h;exact⟨b,a,h1,h2.below hb,h3.below hb⟩
theorem TgO.less {q:Tg} (h:TgO w base cs q) (hb:base'≤base):TgO w base' cs q:=by obtain⟨b,a,h1,h2,h3⟩:=h;exact⟨b,a,h1,h2.less hb,h3.less hb⟩
theorem TgO.toV {q:Tg} (h:TgO w base cs q):TgV w w.heap.size cs q:=by obtain⟨b,a,h1,h2,h3⟩:=h;exact⟨b,a,h1,h2.slb,h3.slb⟩
theorem ReO.keep {q:Re} (h:ReO w base cs q) (hg:w.grownBy w' (some g)) (hlt:g<base):ReO w' base cs q:=by obtain⟨b,a,h1,h2,h3⟩:=h;exact⟨b,a,h1,h2.keep hg hlt,h3.keep hg hlt⟩
theorem ReO.below {q:Re} (h:ReO w base cs q) (hb:Below w.heap.size w w'):ReO w' base cs q:=by obtain⟨b,a,h1,h2,h3⟩:=h;exact⟨b,a,h1,h2.below hb,h3.below hb⟩
theorem ReO.less {q:Re} (h:ReO w base cs q) (hb:base'≤base):ReO w base' cs q:=by obtain⟨b,a,h1,h2,h3⟩:=h;exact⟨b,a,h1,h2.less hb,h3.less hb⟩
theorem ReO.toV {q:Re} (h:ReO w base cs q):ReV w w.heap.size cs q:=by obtain⟨b,a,h1,h2,h3⟩:=h;exact⟨b,a,h1,h2.slb,h3.slb⟩
theorem ApO.keep {q:Ap} (h:ApO w base cs q) (hg:w.grownBy w' (some g)) (hlt:g<base):ApO w' base cs q:=by obtain⟨b,a,h1,h2,h3⟩:=h;exact⟨b,a,h1,h2.keep hg hlt,h3.keep hg hlt⟩
theorem ApO.below {q:Ap} (h:ApO w base cs q) (hb:Below w.heap.size w w'):ApO w' base cs q:=by obtain⟨b,a,h1,h2,h3⟩:=h;exact⟨b,a,h1,h2.below hb,h3.below hb⟩
theorem ApO.less {q:Ap} (h:ApO w base cs q) (hb:base'≤base):ApO w base' cs q:=by obtain⟨b,a,h1,h2,h3⟩:=h;exact⟨b,a,h1,h2.less hb,h3.less hb⟩
theorem ApO.toV {q:Ap} (h:ApO w base cs q):ApV w w.heap.size cs q:=by obtain⟨b,a,h1,h2,h3⟩:=h;exact⟨b,a,h1,h2.slb,h3.slb⟩
structure MpO (w:World) (B:Nat) (pa pt pr pp pf:Array Value) (m:Mg):Prop where
 a:AsV pa m.aq
 t:TgO w B pt m.tg
 r:ReO w B pr m.re
 p:ApO w B pp m.ap
 f:FaV pf m.fa
def MgO (w:World) (B:Nat) (cs:Array Value) (m:Mg):Prop:=∃pa pt pr pp pf,cs=mgA m.k pa pt pr pp pf∧MpO w B pa pt pr pp pf m
variable {pa pt pr pp pf:Array Value} {m:Mg}
theorem MpO.toV (h:MpO w base pa pt pr pp pf m):MgP w w.heap.size pa pt pr pp pf m:=⟨h.a,h.t.toV,h.r.toV,h.p.toV,h.f⟩
theorem MpO.keep (h:MpO w base pa pt pr pp pf m) (hg:w.grownBy w' (some g)) (hlt:g<base):MpO w' base pa pt pr pp pf m:=⟨h.a,h.t.keep hg hlt,h.r.keep hg hlt,h.p.keep hg hlt,h.f⟩
theorem MpO.below (h:MpO w base pa pt pr pp pf m) (hb:Below w.heap.size w w'):MpO w' base pa pt pr pp pf m:=⟨h.a,h.t.below hb,h.r.below hb,h.p.below hb,h.f⟩
theorem MpO.less (h:MpO w base pa pt pr pp pf m) (hb:base'≤base):MpO w base' pa pt pr pp pf m:=⟨h.a,h.t.less hb,h.r.less hb,h.p.less hb,h.f⟩
theorem MgO.toV (h:MgO w base cs m):MgV w w.heap.size cs m:=by obtain⟨pa,pt,pr,pp,pf,h1,h2⟩:=h;exact⟨pa,pt,pr,pp,pf,h1,h2.toV⟩
theorem MgO.keep (h:MgO w base cs m) (hg:w.grownBy w' (some g)) (hlt:g<base):MgO w' base cs m:=by obtain⟨pa,pt,pr,pp,pf,h1,h2⟩:=h;exact⟨pa,pt,pr,pp,pf,h1,h2.keep hg hlt⟩
theorem MgO.below (h:MgO w base cs m) (hb:Below w.heap.size w w'):MgO w' base cs m:=by obtain⟨pa,pt,pr,pp,pf,h1,h2⟩:=h;exact⟨pa,pt,pr,pp,pf,h1,h2.below hb⟩
theorem MgO.less (h:MgO w base cs m) (hb:base'≤base):MgO w base' cs m:=by obtain⟨pa,pt,pr,pp,pf,h1,h2⟩:=h;exact⟨pa,pt,pr,pp,pf,h1,h2.less hb⟩
theorem MgO.size (h:MgO w base cs m):cs.size=30:=by obtain⟨pa,pt,pr,pp,pf,h1,h2⟩:=h;rw[h1];exact h2.toV.size m.k
theorem MgO.one (h:MgO w base cs m):One cs:=by obtain⟨pa,pt,pr,pp,pf,h1,h2⟩:=h;rw[h1];exact h2.toV.one m.k
end
section
variable (g:Nat) (c:Option L) (w:World) (h:Cur w g c) (hs:(c.getD []).length≤100000)
include h hs
end
theorem Ht {ps:Array Value} {q:As} (h:AsV ps q):Tryz.prog.built 93 [(0,.int .i64 1),(1,.agg ps)]=some (mgA 1 ps zT zR zP zF):=by rw[h];kernel_rfl
end Mc
end
end Go.Proofs.YtfcjeebnkigeaaaGreat
