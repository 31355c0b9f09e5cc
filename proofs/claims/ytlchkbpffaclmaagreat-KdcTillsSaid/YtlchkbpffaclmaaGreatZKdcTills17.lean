import Derived.Test.YtlchkbpffaclmaaGreatZKdcTills15
import Derived.Test.YtlchkbpffaclmaaGreatZKdcTills16
set_option maxHeartbeats 25600000
set_option maxRecDepth 100000
set_option linter.unusedVariables false
set_option linter.unusedSimpArgs false
namespace Go.Proofs.YtlchkbpffaclmaaGreat
namespace Ms
open Go.RowKit Af DerP DerR
theorem wh_eq (c:Option L):DerC.NS c=whC c:=by
 cases c with
 |none=>rfl
 |some l=>cases l<;>rfl
theorem Kh {a b c:World} {row:Option Nat} (h:a.grownBy b row) (k:b.grownBy c row):a.grownBy c row:=
 ⟨k.os.trans h.os,k.tape.trans h.tape,k.output.trans h.output,Nat.le_trans h.size k.size,fun i hi hn=>(k.block i (Nat.lt_of_lt_of_le hi h.size) hn).trans (h.block i hi hn)⟩
theorem JM {a b c:World} {row:Option Nat} {q:Nat} (h:a.grownBy b row) (k:b.grownBy c (some q)) (hq:a.heap.size<=q):a.grownBy c row:=
 ⟨k.os.trans h.os,k.tape.trans h.tape,k.output.trans h.output,Nat.le_trans h.size k.size,fun i hi hn=>(k.block i (Nat.lt_of_lt_of_le hi h.size) (fun e=>by injection e with e;omega)).trans (h.block i hi hn)⟩
theorem Qk {w:World} {B g:Nat} {c:Option L} (h:RC w B g c):g<w.heap.size:=by
 obtain⟨A,n,cap,e,hb,_⟩:=h;exact hb.lt
theorem DI {w w':World} {B g q:Nat} {c:Option L} (h:RC w B g c) (hg:w.grownBy w' (some q)) (hq:q≠g) (hB:B<=w.heap.size) (hBq:B<=q):RC w' B g c:=
 h.keep hg (fun e=>hq (by injection e)) hB (fun k hk=>by injection hk with hk;omega)
theorem Iz {w:World} {B g:Nat} {c:Option L} (h:RC w B g c) (hB:B<=w.heap.size) (o:Obj):RC (w.alloc o) B g c:=
 h.keep (row:=none) (Dp (World.grownBy.refl _ _) o) (by simp) hB (by simp)
theorem SZ {w:World} {B g:Nat} {c:Option L} (h:RC w B g c):RC (w.setCell ⟨g,1,none⟩ (.bool true)) B g none:=by
 obtain⟨A,n,cap,e,hb,_⟩:=h;exact⟨A,n,cap,true,hb.set 1 _,rfl⟩
theorem Ii {w:World} {B g q j:Nat} {c:Option L} {u:Value} (h:RC w B g c) (hq:q≠g) (hB:B<=w.heap.size) (hBq:B<=q):RC (w.setCell ⟨q,j,none⟩ u) B g c:=
 DI (q:=q) h (AE (World.grownBy.refl _ _) (.inl rfl) u) hq hB hBq
theorem Gu {w:World} {B g:Nat} {c:Option L} (h:RC w B g c):w.cell? ⟨g,1,none⟩=some (.bool (!c.isSome))/\w.frozen? ⟨g,1,none⟩=false:=by
 obtain⟨A,n,cap,e,hb,hr⟩:=h;refine⟨?_,hb.frozen 1⟩;cases c with
 |none=>obtain rfl:e=true:=hr;exact hb.cell 1
 |some l=>obtain rfl:e=false:=hr.1;exact hb.cell 1
theorem XR {w:World} {B g:Nat} {l:L} (h:RC w B g (some l)):RC (w.setCell ⟨g,1,none⟩ (.bool false)) B g (some l):=by
 obtain⟨A,n,cap,e,hb,hr⟩:=h;obtain rfl:e=false:=hr.1;have hB:=hr.2.2.2;refine⟨A,n,cap,false,hb.set 1 _,rfl,hr.2.1,hr.2.2.1,?_⟩;refine hB.keep fun b o hb'=>?_
 by_cases e:b=g
 ·subst e
  rw[(hb.set 1 (.bool false)).cell,hb.cell]
  rfl
 ·exact World.cell?_setCell_other _ _ _ _ (fun h=>e (by injection h with h;exact h.symm))
theorem Au {P:Program} {fn:Func} {tmps:Array Value} {w:World} {v:Value} (t:Nat) (ty:TypeId) (a:Addr) (hres:fn.results=#[.cell t ty]) (ht:tmps.getD t undef=.pointer (some a)) (hl:(loadVar ty a).run P w=.ok v w) :
  (results fn tmps).run P w=.ok v w:=by
 have ht':tmps[t]?.getD undef=.pointer (some a):=by simpa using ht
 simp [results,hres,ht',asAddr,hl]
theorem Al {P:Program} {w:World} {g:Nat} {t ty:TypeId} {cs:Array Value} {d:TypeDesc} (h:Blk w g t cs) (hu:P.underlying ty=some d) (hd:d.isRow=true) (hi:(P.info? ty).map (·.size)=some cs.size) :
  (loadVar ty ⟨g,0,none⟩).run P w=.ok (.agg cs) w:=by
 have hc:w.rangeAt g 0 cs.toList:=fun j v hv=>by rw[Nat.zero_add,h.cell];simpa using hv
 have:=run_loadVar_mid (P:=P) w g 0 ty cs.toList d hc hu hd (by simpa using hi)
 simpa using this
theorem Mk (B g:Nat) (c:Option L) (w:World) (h:RC w B g c) (hB:B<=w.heap.size) (hBg:B<=g) (hu:(c.getD []).length<=100000) :
  Calls Tryz.prog 38 #[.pointer (some ⟨g,0,none⟩)] w fun e w'=>e=.returned (.agg #[.string ⟨(prP c).1.1.toArray⟩,.string ⟨(prP c).1.2.toArray⟩])/\RC w' B g (prP c).2/\w.grownBy w' (some g):=by
 have hlt:=Qk h;obtain⟨W,eW⟩:=Ak (w.alloc (.cells #[.string ⟨#[]⟩,.string ⟨#[]⟩] 25));have hWs:W.heap.size=w.heap.size+1:=by rw[eW];simp
 have h1:RC W B g c:=by rw[eW];exact Iz h hB _
 have HG:=I (show w.grownBy W (some g) by rw[eW];exact Dp (World.grownBy.refl _ _) _);have HR:=I (show Blk W w.heap.size 25 #[.string ⟨#[]⟩,.string ⟨#[]⟩] by rw[eW];exact Blk.new _ _ _);have c1:=Mj 48 B g c W h1 (by omega) hBg hu;have HBW:=I (show B<=W.heap.size by omega);have HWS:=I hWs;have HLT:=I hlt;have HBg:=I hBg;have HB0:=I hB;have hl1:=(Ca 48 c).1;have HP1:=I (show(prP c).1=(txC (AJ 48 c),txC (AQ 27 (AJ 48 c))) from rfl);have HP2:=I (show(prP c).2=if whC (AQ 27 (AQ 27 (AJ 48 c))) then AQ 48 c else none from rfl);obtain⟨d,ed⟩:=Ak (AJ 48 c);obtain⟨r,er⟩:=Ak (AQ 48 c);rw[<-ed] at c1 hl1 HP1 HP2;rw[<-er] at c1 HP2;rw[HP1.o,HP2.o];have hl2:=(Ca 27 d).2;have HL1:=I (show(d.getD []).length<=100000 by omega);have HL2:=I (show((AQ 27 d).getD []).length<=100000 by omega);have T1:=I (fun B g w h h1 h2=>(Jz B g d w h h1 h2 HL1.o));have T2:=I (fun B g w h h1 h2=>(Jz B g (AQ 27 d) w h h1 h2 HL2.o));have WH:=I (fun B g w h=>Qj B g (AQ 27 (AQ 27 d)) w h);rw[wh_eq] at WH;rw[show(AJ 27 d).getD []=txC d from rfl] at T1;rw[show(AJ 27 (AQ 27 d)).getD []=txC (AQ 27 d) from rfl] at T2;obtain⟨t1,et1⟩:∃t,t=txC d:=⟨_,rfl⟩;obtain⟨t2,et2⟩:∃t,t=txC (AQ 27 d):=⟨_,rfl⟩;obtain⟨d2,ed2⟩:∃q,q=AQ 27 d:=⟨_,rfl⟩;rw[<-et1] at T1⊢;rw[<-et2] at T2⊢;rw[<-ed2] at T1 T2 WH⊢;obtain⟨d3,ed3⟩:∃q,q=AQ 27 d2:=⟨_,rfl⟩;rw[<-ed3] at T2 WH⊢;obtain⟨fi,efi⟩:∃q,q=if whC d3=true then r else none:=⟨_,rfl⟩
 rw[<-efi];have EF:=I efi;clear efi;clear h h1 hB hBg hu hlt hWs hl1 hl2 HP1 HP2 HL1 HL2 ed er et1 et2 ed2 ed3;subst eW;go_enter Tryz.func38,Tryz.ntmps38
 go_upto_region 3 with(first
  |(go_at_call 37;refine Calls.mono c1 ?_;rintro e w2 ⟨⟨gd,rfl,hgd,hd⟩,hc,hg2⟩;clear c1;have HD:=I hd;have HC:=I hc;have HGD:=I (show w.heap.size+1<=gd by have:=HWS.o;omega);replace HR:=I (HR.o.grown hg2 (by intro e;injection e with e;have:=HLT.o;omega));replace HG:=I (Kh HG.o hg2);replace HBW:=I (Nat.le_trans HBW.o hg2.size);have HDL:=I (Qk hd);clear hgd hd hc hg2)
  |(go_at_call 40;refine Aj (T1.o B gd _ HD.o HBW.o (by have:=HGD.o;have:=HLT.o;have:=HBg.o;omega)) ?_;rintro w3 ⟨hd,hg3⟩;clear T1;replace HD:=I hd;replace HC:=I (DI HC.o hg3 (by have:=HGD.o;have:=HLT.o;omega) HBW.o (by have:=HGD.o;have:=HLT.o;have:=HBg.o;omega));replace HR:=I (HR.o.grown hg3 (by intro e;injection e with e;have:=HGD.o;omega));replace HG:=I (JM HG.o hg3 (by have:=HGD.o;omega));replace HBW:=I (Nat.le_trans HBW.o hg3.size);replace HDL:=I (Qk hd);clear hd hg3))
 obtain⟨P,eP⟩:=Ak (w3.heap.size);obtain⟨W4,e4⟩:=Ak (w3.alloc (.cells #[.string ⟨t1.toArray⟩,.string ⟨#[]⟩] 25));have HPB:=I (show Blk W4 P 25 #[.string ⟨t1.toArray⟩,.string ⟨#[]⟩] by rw[e4,eP];exact Blk.new _ _ _);have h4s:W4.heap.size=P+1:=by rw[e4,eP];simp
 have HPG:=I (show gd<P by rw[eP];exact HDL.o);have hbp:B<=P:=by rw[eP];exact HBW.o
 have HBP:=I hbp;have HNP:=I (show w.heap.size<P by have:=HPG.o;have:=HGD.o;omega);have HGP:=I (show g<P by have:=HLT.o;have:=HNP.o;omega);replace HD:=I (show RC W4 B gd d2 by rw[e4];exact Iz HD.o HBW.o _);replace HC:=I (show RC W4 B g r by rw[e4];exact Iz HC.o HBW.o _);replace HR:=I (show Blk W4 w.heap.size 25 _ by rw[e4];exact HR.o.alloc _);replace HG:=I (show w.grownBy W4 (some g) by rw[e4];exact Dp HG.o _);replace HBW:=I (show B<=W4.heap.size by omega);rw[<-e4,<-eP];clear e4 eP h4s hbp
 go_upto_region 4 with(go_at_call 40;refine Aj (T2.o B gd _ HD.o HBW.o (by have:=HGD.o;have:=HLT.o;have:=HBg.o;omega)) ?_;rintro w5 ⟨hd,hg3⟩;clear T2;replace HD:=I hd;replace HC:=I (DI HC.o hg3 (by have:=HGD.o;have:=HLT.o;omega) HBW.o (by have:=HGD.o;have:=HLT.o;have:=HBg.o;omega));replace HR:=I (HR.o.grown hg3 (by intro e;injection e with e;have:=HGD.o;omega));replace HPB:=I (HPB.o.grown hg3 (by intro e;injection e with e;have:=HPG.o;omega));replace HG:=I (JM HG.o hg3 (by have:=HGD.o;omega));replace HBW:=I (Nat.le_trans HBW.o hg3.size);have f0:=HPB.o.frozen 1;have k9:w5.cell? ⟨P,1,none⟩=some (.string ⟨#[]⟩):=HPB.o.cell 1;clear hd hg3)
 have H1:=I (show Blk (w5.setCell ⟨P,1,none⟩ (.string ⟨t2.toArray⟩)) P 25 #[.string ⟨t1.toArray⟩,.string ⟨t2.toArray⟩] from HPB.o.set 1 (.string ⟨t2.toArray⟩));have H2:=I (Ii (j:=1) (u:=.string ⟨t2.toArray⟩) HD.o (q:=P) (by have:=HPG.o;omega) HBW.o HBP.o);have H3:=I (Ii (j:=1) (u:=.string ⟨t2.toArray⟩) HC.o (q:=P) (by have:=HGP.o;omega) HBW.o HBP.o);have H4:=I (show Blk (w5.setCell ⟨P,1,none⟩ (.string ⟨t2.toArray⟩)) w.heap.size 25 _ from(Below.heap_setCell w5 _ _ w.heap.size (fun e=>by have:=HNP.o;simp only at e;omega)).trans HR.o);have H5:=I (AE HG.o (p:=⟨P,1,none⟩) (.inr (show w.heap.size<=P by have:=HNP.o;omega)) (.string ⟨t2.toArray⟩));have H6:=I (show B<=(w5.setCell ⟨P,1,none⟩ (.string ⟨t2.toArray⟩)).heap.size from Nat.le_trans HBW.o (AE (World.grownBy.refl w5 (some P)) (p:=⟨P,1,none⟩) (.inl rfl) (.string ⟨t2.toArray⟩)).size);obtain⟨V,eV⟩:=Ak (w5.setCell ⟨P,1,none⟩ (.string ⟨t2.toArray⟩));rw[<-eV] at H1 H2 H3 H4 H5 H6⊢;clear eV k9 f0 HPB HD HC HR HG HBW;have hcl:=Gu H3.o;have k1:=hcl.1;have f1:=hcl.2;clear hcl;cases r with
 |none=>
  simp only[Option.isSome_none,Bool.not_false] at k1
  go_upto_region 5 with fail
  have K1:=I (show Blk (V.setCell ⟨g,1,none⟩ (.bool true)) P 25 _ from(Below.heap_setCell V _ _ P (fun e=>by have:=HGP.o;simp only at e;omega)).trans H1.o);have K2:=I (show Blk (V.setCell ⟨g,1,none⟩ (.bool true)) w.heap.size 25 _ from(Below.heap_setCell V _ _ w.heap.size (fun e=>by have:=HLT.o;simp only at e;omega)).trans H4.o);have K3:=I (show RC (V.setCell ⟨g,1,none⟩ (.bool true)) B g fi by rw[EF.o];have h:=SZ H3.o;cases whC d3<;>exact h);have K4:=I (AE H5.o (p:=⟨g,1,none⟩) (.inl rfl) (.bool true));have K5:=I (show B<=(V.setCell ⟨g,1,none⟩ (.bool true)).heap.size from Nat.le_trans H6.o (AE (World.grownBy.refl V (some g)) (p:=⟨g,1,none⟩) (.inl rfl) (.bool true)).size);obtain⟨Z,eZ⟩:=Ak (V.setCell ⟨g,1,none⟩ (.bool true));rw[<-eZ] at K1 K2 K3 K4 K5⊢;clear eZ k1 f1 H1 H2 H3 H4 H5 H6;have p0:Z.cell? ⟨P,0,none⟩=some (.string ⟨t1.toArray⟩):=K1.o.cell 0;have p1:Z.cell? ⟨P,1,none⟩=some (.string ⟨t2.toArray⟩):=K1.o.cell 1;have n0:Z.cell? ⟨w.heap.size,0,none⟩=some (.string ⟨#[]⟩):=K2.o.cell 0;have n1:Z.cell? ⟨w.heap.size,1,none⟩=some (.string ⟨#[]⟩):=K2.o.cell 1;have z0:=K2.o.frozen 0;have z1:=K2.o.frozen 1
  go_wp2
  have hE:Blk ((Z.setCell ⟨w.heap.size,0,none⟩ (.string ⟨t1.toArray⟩)).setCell ⟨w.heap.size,1,none⟩ (.string ⟨t2.toArray⟩)) w.heap.size 25 #[.string ⟨t1.toArray⟩,.string ⟨t2.toArray⟩]:=(K2.o.set 0 _).set 1 _;have hq:=Al (P:=Tryz.prog) hE Tryz.underlying25 rfl (by kernel_rfl);refine bodyPost_ret (v:=.agg #[.string ⟨t1.toArray⟩,.string ⟨t2.toArray⟩]) ?_ ?_ ?_
  ·exact Au 2 25 ⟨w.heap.size,0,none⟩ Tryz.results38 rfl hq
  ·rfl
  refine⟨rfl,?_,?_⟩
  ·exact Ii (Ii K3.o (by have:=HLT.o;omega) K5.o HB0.o) (by have:=HLT.o;omega) (Nat.le_trans K5.o (AE (World.grownBy.refl Z (some w.heap.size)) (p:=⟨w.heap.size,0,none⟩) (.inl rfl) _).size) HB0.o
  ·exact AE (AE K4.o (.inr Ag) _) (.inr Ag) _
 |some l=>
  simp only[Option.isSome_some,Bool.not_true] at k1;have c5:=WH.o B gd _ H2.o;clear WH;cases q:whC d3 with
  |false=>
   rw[q] at c5;rw[q,if_neg Bool.false_ne_true] at EF;clear q
   go_upto_region 5 with(go_at_call 83;refine Aj c5 ?_;rintro wv hw;subst hw;clear c5)
   have K1:=I (show Blk (V.setCell ⟨g,1,none⟩ (.bool true)) P 25 _ from(Below.heap_setCell V _ _ P (fun e=>by have:=HGP.o;simp only at e;omega)).trans H1.o);have K2:=I (show Blk (V.setCell ⟨g,1,none⟩ (.bool true)) w.heap.size 25 _ from(Below.heap_setCell V _ _ w.heap.size (fun e=>by have:=HLT.o;simp only at e;omega)).trans H4.o);have K3:=I (show RC (V.setCell ⟨g,1,none⟩ (.bool true)) B g fi by rw[EF.o];exact SZ H3.o);have K4:=I (AE H5.o (p:=⟨g,1,none⟩) (.inl rfl) (.bool true));have K5:=I (show B<=(V.setCell ⟨g,1,none⟩ (.bool true)).heap.size from Nat.le_trans H6.o (AE (World.grownBy.refl V (some g)) (p:=⟨g,1,none⟩) (.inl rfl) (.bool true)).size);obtain⟨Z,eZ⟩:=Ak (V.setCell ⟨g,1,none⟩ (.bool true));rw[<-eZ] at K1 K2 K3 K4 K5⊢;clear eZ k1 f1 H1 H2 H3 H4 H5 H6;have p0:Z.cell? ⟨P,0,none⟩=some (.string ⟨t1.toArray⟩):=K1.o.cell 0;have p1:Z.cell? ⟨P,1,none⟩=some (.string ⟨t2.toArray⟩):=K1.o.cell 1;have n0:Z.cell? ⟨w.heap.size,0,none⟩=some (.string ⟨#[]⟩):=K2.o.cell 0;have n1:Z.cell? ⟨w.heap.size,1,none⟩=some (.string ⟨#[]⟩):=K2.o.cell 1;have z0:=K2.o.frozen 0;have z1:=K2.o.frozen 1
   go_wp2
   have hE:Blk ((Z.setCell ⟨w.heap.size,0,none⟩ (.string ⟨t1.toArray⟩)).setCell ⟨w.heap.size,1,none⟩ (.string ⟨t2.toArray⟩)) w.heap.size 25 #[.string ⟨t1.toArray⟩,.string ⟨t2.toArray⟩]:=(K2.o.set 0 _).set 1 _;have hq:=Al (P:=Tryz.prog) hE Tryz.underlying25 rfl (by kernel_rfl);refine bodyPost_ret (v:=.agg #[.string ⟨t1.toArray⟩,.string ⟨t2.toArray⟩]) ?_ ?_ ?_
   ·exact Au 2 25 ⟨w.heap.size,0,none⟩ Tryz.results38 rfl hq
   ·rfl
   refine⟨rfl,?_,?_⟩
   ·exact Ii (Ii K3.o (by have:=HLT.o;omega) K5.o HB0.o) (by have:=HLT.o;omega) (Nat.le_trans K5.o (AE (World.grownBy.refl Z (some w.heap.size)) (p:=⟨w.heap.size,0,none⟩) (.inl rfl) _).size) HB0.o
   ·exact AE (AE K4.o (.inr Ag) _) (.inr Ag) _
  |true=>
   rw[q] at c5;rw[q,if_pos rfl] at EF;clear q
   go_upto_region 5 with(go_at_call 83;refine Aj c5 ?_;rintro wv hw;subst hw;clear c5)
   have K1:=I (show Blk (V.setCell ⟨g,1,none⟩ (.bool false)) P 25 _ from(Below.heap_setCell V _ _ P (fun e=>by have:=HGP.o;simp only at e;omega)).trans H1.o);have K2:=I (show Blk (V.setCell ⟨g,1,none⟩ (.bool false)) w.heap.size 25 _ from(Below.heap_setCell V _ _ w.heap.size (fun e=>by have:=HLT.o;simp only at e;omega)).trans H4.o);have K3:=I (show RC (V.setCell ⟨g,1,none⟩ (.bool false)) B g fi by rw[EF.o];exact XR H3.o);have K4:=I (AE H5.o (p:=⟨g,1,none⟩) (.inl rfl) (.bool false));have K5:=I (show B<=(V.setCell ⟨g,1,none⟩ (.bool false)).heap.size from Nat.le_trans H6.o (AE (World.grownBy.refl V (some g)) (p:=⟨g,1,none⟩) (.inl rfl) (.bool false)).size);obtain⟨Z,eZ⟩:=Ak (V.setCell ⟨g,1,none⟩ (.bool false));rw[<-eZ] at K1 K2 K3 K4 K5⊢;clear eZ k1 f1 H1 H2 H3 H4 H5 H6;have p0:Z.cell? ⟨P,0,none⟩=some (.string ⟨t1.toArray⟩):=K1.o.cell 0;have p1:Z.cell? ⟨P,1,none⟩=some (.string ⟨t2.toArray⟩):=K1.o.cell 1;have n0:Z.cell? ⟨w.heap.size,0,none⟩=some (.string ⟨#[]⟩):=K2.o.cell 0;have n1:Z.cell? ⟨w.heap.size,1,none⟩=some (.string ⟨#[]⟩):=K2.o.cell 1;have z0:=K2.o.frozen 0;have z1:=K2.o.frozen 1
   go_wp2
   have hE:Blk ((Z.setCell ⟨w.heap.size,0,none⟩ (.string ⟨t1.toArray⟩)).setCell ⟨w.heap.size,1,none⟩ (.string ⟨t2.toArray⟩)) w.heap.size 25 #[.string ⟨t1.toArray⟩,.string ⟨t2.toArray⟩]:=(K2.o.set 0 _).set 1 _;have hq:=Al (P:=Tryz.prog) hE Tryz.underlying25 rfl (by kernel_rfl);refine bodyPost_ret (v:=.agg #[.string ⟨t1.toArray⟩,.string ⟨t2.toArray⟩]) ?_ ?_ ?_
   ·exact Au 2 25 ⟨w.heap.size,0,none⟩ Tryz.results38 rfl hq
   ·rfl
   refine⟨rfl,?_,?_⟩
   ·exact Ii (Ii K3.o (by have:=HLT.o;omega) K5.o HB0.o) (by have:=HLT.o;omega) (Nat.le_trans K5.o (AE (World.grownBy.refl Z (some w.heap.size)) (p:=⟨w.heap.size,0,none⟩) (.inl rfl) _).size) HB0.o
   ·exact AE (AE K4.o (.inr Ag) _) (.inr Ag) _
theorem Vi (c:Option L):((intC c).2.getD []).length<=(c.getD []).length:=by
 unfold intC;cases h:AJ 2 c with
 |none=>simp
 |some b=>
  simp only;cases numL b with
  |none=>simp
  |some n=>exact(Ca 2 c).2
theorem XS (c:Option L):((prP c).2.getD []).length<=(c.getD []).length:=by
 unfold prP;simp only
 split
 ·exact(Ca 48 c).2
 ·simp
theorem Ad {P:Program} {fn:Func} {tmps:Array Value} {w:World} {v u:Value} (t q:Nat) (ty:TypeId) (a:Addr) (hres:fn.results=#[.cell t ty,.tmp q]) (ht:tmps.getD t undef=.pointer (some a)) (hl:(loadVar ty a).run P w=.ok v w) (hq:tmps.getD q undef=u) :
  (results fn tmps).run P w=.ok (.tuple #[v,u]) w:=by
 have ht':tmps[t]?.getD undef=.pointer (some a):=by simpa using ht
 have hq':tmps[q]?.getD undef=u:=by simpa using hq
 simp [results,hres,ht',hq',asAddr,hl]
def anG (b:L):An:=(anD b).getD an0
def anI (b:L):Int:=if (anD b).isSome then 0 else 2
end Ms
namespace Mc
open Go.RowKit Af DerP DerC Ms
def OwnB (w:World) (base:Nat) (v:Value) (l:L):Prop:=
 ∃b c,v=.slice (some ⟨b,0,none⟩) l.length c/\l.length<=c/\base<=b/\b<w.heap.size/\∀i u,(bvs l)[i]? = some u->w.cell? ⟨b,i,none⟩=some u
theorem OwnB.of_fresh {w:World} {base b c:Nat} {l:L} (h:Qt w base b l) (hc:l.length<=c):OwnB w base (.slice (some ⟨b,0,none⟩) l.length c) l:=by
 refine⟨b,c,rfl,hc,h.1,h.2.1,fun i u hu=>?_⟩;have hi:i<l.length:=by
  rcases Nat.lt_or_ge i l.length with g | g
  ·exact g
  ·rw[List.getElem?_eq_none (by rw[Ao];exact g)] at hu;cases hu
 rw[Dy hi] at hu;injection hu with hu;subst hu;exact(h.2.2 i hi).1
theorem OwnB.keep {w w':World} {base g:Nat} {v:Value} {l:L} (h:OwnB w base v l) (hg:w.grownBy w' (some g)) (hlt:g<base):OwnB w' base v l:=by
 obtain⟨b,c,h1,h2,h3,h4,h5⟩:=h;exact⟨b,c,h1,h2,h3,Nat.lt_of_lt_of_le h4 hg.size,fun i u hu=>(World.cell?_of_block (a:=⟨b,i,none⟩) (hg.block b h4 (fun e=>by injection e with e;omega))).trans (h5 i u hu)⟩
theorem OwnB.slb {w:World} {base:Nat} {v:Value} {l:L} (h:OwnB w base v l):SlB w w.heap.size v l:=by
 obtain⟨b,c,h1,h2,h3,h4,h5⟩:=h;exact⟨_,c,h1,h2,.inr ⟨b,0,rfl,h4,fun i u hu=>by rw[Nat.zero_add];exact h5 i u hu⟩⟩
theorem Ar {w:World} {g:Nat} {t:TypeId} {cs:Array Value} (h:Blk w g t cs) (n:Nat) (hn:n<=cs.size):w.there g 0 n:=fun j hj=>by
 rw[Nat.zero_add,h.cell,Array.getElem?_eq_getElem (by omega)];exact⟨rfl,h.frozen j⟩
theorem BN {g:Nat} {t:TypeId}:∀(vs:List Value) (o:Nat) (w:World) (cs:Array Value),Blk w g t cs->o+vs.length<=cs.size->
  ∃ds:Array Value,Blk (w.setCells g o vs) g t ds/\ds.size=cs.size/\(∀i,o<=i->i<o+vs.length->ds[i]? = vs[i - o]?)/\(∀i,i<o\/o+vs.length<=i->ds[i]? = cs[i]?)
 | [],o,w,cs,h,hl=>⟨cs,h,rfl,fun i h1 h2=>by simp at h2;omega,fun i _=>rfl⟩
 |v :: r,o,w,cs,h,hl=>by
  rw[World.setCells];simp only[List.length_cons] at hl;obtain⟨ds,h1,h2,h3,h4⟩:=BN r (o+1) _ _ (h.set o v) (by simp;omega);simp only[List.length_cons];refine⟨ds,h1,by simpa using h2,fun i hi hj=>?_,fun i hi=>?_⟩
  ·by_cases e:i=o
   ·subst e
    rw[h4 i (by omega),Nat.sub_self];rw[Array.getElem?_setIfInBounds_self_of_lt (by omega)]
    rfl
   ·rw[h3 i (by omega) (by omega),show i - o=(i - (o+1))+1 by omega]
    simp
  ·rw[h4 i (by omega)]
   exact Array.getElem?_setIfInBounds_ne (by omega)
theorem Ql {w:World} {g:Nat} {t:TypeId} {x:L} (h:Blk w g t (bvs key0).toArray):Blk (w.setCells g 0 (bvs (x.take 32))) g t (bvs ((x++key0).take 32)).toArray:=by
 have hk:key0.length=32:=rfl;obtain⟨es,h1,h2,h3,h4⟩:=BN (bvs (x.take 32)) 0 w _ h (by simp [Ao,hk];omega);have e:es=(bvs ((x++key0).take 32)).toArray:=by
  apply Array.ext_getElem?;intro i;rw[show(bvs ((x++key0).take 32)).toArray[i]? = (bvs ((x++key0).take 32))[i]? by simp]
  by_cases hi:i<(x.take 32).length
  ·rw[h3 i (by omega) (by rw[Ao];omega),Nat.sub_zero]
   simp only[bvs,List.getElem?_map]
   congr 1
   rw[List.length_take] at hi;rw[List.getElem?_take_of_lt (by omega),List.getElem?_take_of_lt (by omega),List.getElem?_append_left (by omega)]
  ·rw[h4 i (by rw[Ao];omega),show(bvs key0).toArray[i]? = (bvs key0)[i]? by simp]
   simp only[bvs,List.getElem?_map]
   congr 1
   rw[List.length_take] at hi
   by_cases h5:i<32
   ·rw[List.getElem?_take_of_lt h5,List.getElem?_append_right (by omega)]
    simp only[key0,List.getElem?_replicate];rw[if_pos h5,if_pos (by omega)]
   ·rw[List.getElem?_eq_none (by rw[hk];omega),List.getElem?_eq_none (by rw[List.length_take];omega)]
 rw[<-e];exact h1
theorem AG {w:World} {g:Nat} {t:TypeId} {cs ds:Array Value} (h:Blk w g t cs) (hs:cs.size=ds.size):Blk (w.setCells g 0 ds.toList) g t ds:=by
 obtain⟨es,h1,h2,h3,_⟩:=BN ds.toList 0 w cs h (by simp;omega);have e:es=ds:=by
  apply Array.ext_getElem?;intro i
  by_cases hi:i<ds.size
  ·rw[h3 i (by omega) (by simp;omega)];simp
  ·rw[Array.getElem?_eq_none (by omega),Array.getElem?_eq_none (by omega)]
 rw[<-e];rw[<-e] at h1;exact h1
theorem Gr {row:Option Nat} {a:World} {g:Nat} (hp:row=some g\/a.heap.size<=g):∀(vs:List Value) (o:Nat) (w:World),a.grownBy w row->a.grownBy (w.setCells g o vs) row
 | [],_,_,h=>h
 |v :: r,o,w,h=>by rw[World.setCells];exact Gr hp r (o+1) _ (AE h (p:=⟨g,o,none⟩) hp v)
theorem AM (w:World) (g:Nat) (vs:List Value):w.grownBy (w.setCells g 0 vs) (some g):=Gr (.inl rfl) vs 0 w (World.grownBy.refl _ _)
theorem Ml {w:World} {g:Nat} {c:Option L} (h:Cur w g c):g<w.heap.size:=Blk.lt h
theorem JA {w w':World} {g q:Nat} {c:Option L} (h:Cur w g c) (hg:w.grownBy w' (some q)) (hq:q≠g):Cur w' g c:=Blk.grown h hg (fun e=>hq (by injection e))
theorem Nz (g:Nat) (c:Option L) (w:World) (h:Cur w g c) (hs:((c.getD []).length:Int)<=100000):Calls Tryz.prog 201 #[.pointer (some ⟨g,0,none⟩)] w fun e w'=>
  (∃v,e=.returned v/\OwnB w' w.heap.size v (ocC c))/\Cur w' g (AQ 4 c)/\w.grownBy w' (some g):=
 (DW g c w h hs).mono fun e w' hh=>by
  obtain⟨⟨b,cap,rfl,hc,hf⟩,h2,h3⟩:=hh;exact⟨⟨_,rfl,OwnB.of_fresh hf hc⟩,h2,h3⟩
theorem FD (g:Nat) (c:Option L) (w:World) (h:Cur w g c) (hs:((c.getD []).length:Int)<=100000):Calls Tryz.prog 160 #[.pointer (some ⟨g,0,none⟩)] w fun e w'=>
 e=.returned (.string ⟨(txC c).toArray⟩)/\Cur w' g (AQ 27 c)/\w.grownBy w' (some g):=Eh g c w h hs
theorem Gh (t:UInt8) {c:Option L} {n:Nat} (h:(c.getD []).length<=n):((AQ t c).getD []).length<=n:=Nat.le_trans (Ca t c).2 h
theorem Ki (t:UInt8) {c:Option L} {n:Nat} (h:(c.getD []).length<=n):((AJ t c).getD []).length<=n:=Nat.le_trans (Ca t c).1 h
theorem Kj {c:Option L} {n:Nat} (h:(c.getD []).length<=n):((intC c).2.getD []).length<=n:=Nat.le_trans (Vi c) h
theorem GY (g:Nat) (c:Option L) (w:World) (h:Cur w g c) (hs:(c.getD []).length<=100000):Calls Tryz.prog 158 #[.pointer (some ⟨g,0,none⟩)] w fun e w'=>e=.returned (.agg #[.string ⟨(prQ c).1.1.toArray⟩,.string ⟨(prQ c).1.2.toArray⟩])/\Cur w' g (prQ c).2/\w.grownBy w' (some g):=by
 obtain⟨W,eW⟩:=Ak (w.alloc (.cells #[.string ⟨#[]⟩,.string ⟨#[]⟩] 25));have hWs:W.heap.size=w.heap.size+1:=by rw[eW];simp
 have HR:=I (show Blk W w.heap.size 25 #[.string ⟨#[]⟩,.string ⟨#[]⟩] by rw[eW];exact Blk.new _ _ _);have hlt:=Ml h;have hc0:Cur W g c:=by rw[eW];exact h.alloc _
 have HG:=I (show w.grownBy W (some g) by rw[eW];exact Dp (World.grownBy.refl _ _) _);have c1:=Kx 48 g c W hc0 (by omega);have hs0:=Ki 48 hs;obtain⟨s0,es0⟩:∃s,s=AJ 48 c:=⟨_,rfl⟩;obtain⟨r,er⟩:∃s,s=AQ 48 c:=⟨_,rfl⟩;rw[<-es0] at c1 hs0;rw[<-er] at c1;have HLT:=I hlt;have hs1:((AQ 27 s0).getD []).length<=100000:=Gh 27 hs0;have T1:=I (fun g w h=>FD g s0 w h (by omega));obtain⟨v1,ev1⟩:∃x:L,x=txC s0:=⟨_,rfl⟩;obtain⟨s1,es1⟩:∃s,s=AQ 27 s0:=⟨_,rfl⟩;rw[<-ev1,<-es1] at T1;rw[<-es1] at hs1;have hs2:((AQ 27 s1).getD []).length<=100000:=Gh 27 hs1;have T2:=I (fun g w h=>FD g s1 w h (by omega));obtain⟨v2,ev2⟩:∃x:L,x=txC s1:=⟨_,rfl⟩;obtain⟨s2,es2⟩:∃s,s=AQ 27 s1:=⟨_,rfl⟩;rw[<-ev2,<-es2] at T2;rw[<-es2] at hs2;have FV1:=I (show(prQ c).1.1=v1 by rw[ev1,es0];rfl);have FV2:=I (show(prQ c).1.2=v2 by rw[ev2,es1,es0];rfl);have FS:=I (show(prQ c).2=r by rw[er];rfl);rw[FV1.o,FV2.o,FS.o];clear h hs hs0 hs1 hs2 FV1 ev1 es1 FV2 ev2 es2 es0 FS hlt er hc0;have HWS:=I hWs;clear hWs;subst eW;go_enter Tryz.func158,Tryz.ntmps158
 go_wp2_with (first
  |(go_at_call 157;refine Calls.mono c1 ?_;rintro e wi ⟨⟨gd,rfl,hgd,hd⟩,hc,hg⟩;clear c1;have HD:=I hd;have HC:=I hc;have HGD:=I (show w.heap.size+1<=gd by have:=HWS.o;omega);have HDL:=I (Ml hd);replace HR:=I (HR.o.grown hg (by intro e;injection e with e;have:=HLT.o;omega));replace HG:=I (Kh HG.o hg);clear hgd hd hc hg)
  |(go_at_call 160;(with_reducible refine Calls.mono (T1.o _ _ HD.o) ?_);rintro e w1 ⟨rfl,hd,hg⟩;clear T1;replace HD:=I hd;replace HR:=I (HR.o.grown hg (by intro e;injection e with e;have:=HGD.o;omega));replace HC:=I (JA HC.o hg (by have:=HGD.o;have:=HLT.o;omega));replace HG:=I (JM HG.o hg (by have:=HGD.o;omega));replace HDL:=I (Nat.lt_of_lt_of_le HDL.o hg.size);clear hd hg)
  |(go_at_call 160;(with_reducible refine Calls.mono (T2.o _ _ HD.o) ?_);rintro e w2 ⟨rfl,hd,hg⟩;clear T2;replace HD:=I hd;replace HR:=I (HR.o.grown hg (by intro e;injection e with e;have:=HGD.o;omega));replace HC:=I (JA HC.o hg (by have:=HGD.o;have:=HLT.o;omega));replace HG:=I (JM HG.o hg (by have:=HGD.o;omega));replace HDL:=I (Nat.lt_of_lt_of_le HDL.o hg.size);clear hd hg;have n0:w2.cell? ⟨w.heap.size,0,none⟩=some (.string ⟨#[]⟩):=HR.o.cell 0;have y0:=HR.o.frozen 0;have n1:w2.cell? ⟨w.heap.size,1,none⟩=some (.string ⟨#[]⟩):=HR.o.cell 1;have y1:=HR.o.frozen 1)
  |fail)
 have hE:Blk ((w2.setCell ⟨w.heap.size,0,none⟩ (.string ⟨v1.toArray⟩)).setCell ⟨w.heap.size,1,none⟩ (.string ⟨v2.toArray⟩)) w.heap.size 25 #[.string ⟨v1.toArray⟩,.string ⟨v2.toArray⟩]:=((HR.o.set 0 (.string ⟨v1.toArray⟩)).set 1 (.string ⟨v2.toArray⟩));have hp:=(AE (AE (World.grownBy.refl w2 (some w.heap.size)) (p:=⟨w.heap.size,0,none⟩) (.inl rfl) (.string ⟨v1.toArray⟩)) (p:=⟨w.heap.size,1,none⟩) (.inl rfl) (.string ⟨v2.toArray⟩));have hq:=Al (P:=Tryz.prog) hE Tryz.underlying25 rfl (by kernel_rfl);refine bodyPost_ret (v:=.agg #[.string ⟨v1.toArray⟩,.string ⟨v2.toArray⟩]) ?_ ?_ ?_
 ·exact Au 2 25 ⟨w.heap.size,0,none⟩ Tryz.results158 rfl hq
 ·rfl
 exact⟨rfl,JA HC.o hp (by have:=HLT.o;omega),JM HG.o hp Ag⟩
theorem Qm (A:Option Addr) (b:L) (cap:Nat) (w:World) (h:Rd w w.heap.size A (bvs b)) (hs:b.length<=100000):Calls Tryz.prog 111 #[.slice A b.length cap] w fun e w'=>e=.returned (.agg #[.string ⟨(anQ b).1.c.1.toArray⟩,.string ⟨(anQ b).1.c.2.toArray⟩,.int .i64 (anQ b).1.t,.int .i64 (anQ b).1.q])/\Below w.heap.size w w':=by
 obtain⟨W,eW⟩:=Ak (w.alloc (.cells #[.string ⟨#[]⟩,.string ⟨#[]⟩,.int .i64 0,.int .i64 0] 41));have hWs:W.heap.size=w.heap.size+1:=by rw[eW];simp
 have HR:=I (show Blk W w.heap.size 41 #[.string ⟨#[]⟩,.string ⟨#[]⟩,.int .i64 0,.int .i64 0] by rw[eW];exact Blk.new _ _ _);have HG:=I (show Below w.heap.size w W by rw[eW];exact Ah.alloc Ag _);have c0:=NV w.heap.size A b b.length cap W (by rw[eW];exact h.alloc Ag _) rfl;have c1:=I (fun g w h=>Kx 98 g (some b) w h (by show((b.length:Int))<=100000;omega));have hs0:((AJ 98 (some b)).getD []).length<=100000:=Ki 98 (show((some b:Option L).getD []).length<=100000 from hs);obtain⟨s0,es0⟩:∃s,s=AJ 98 (some b):=⟨_,rfl⟩;rw[<-es0] at c1 hs0;have hs1:(((prQ s0).2).getD []).length<=100000:=Gh 48 hs0;have T1:=I (fun g w h=>GY g s0 w h hs0);obtain⟨v1,ev1⟩:∃x:Pr,x=(prQ s0).1:=⟨_,rfl⟩;obtain⟨s1,es1⟩:∃s,s=(prQ s0).2:=⟨_,rfl⟩;rw[<-ev1,<-es1] at T1;rw[<-es1] at hs1;have hs2:(((intC s1).2).getD []).length<=100000:=Kj hs1;have T2:=I (fun g w h=>CR g s1 w h (by omega));obtain⟨v2,ev2⟩:∃x:Int,x=((intC s1).1:Int):=⟨_,rfl⟩;obtain⟨s2,es2⟩:∃s,s=(intC s1).2:=⟨_,rfl⟩;rw[<-ev2,<-es2] at T2;rw[<-es2] at hs2;have hs3:(((intC s2).2).getD []).length<=100000:=Kj hs2;have T3:=I (fun g w h=>CR g s2 w h (by omega));obtain⟨v3,ev3⟩:∃x:Int,x=((intC s2).1:Int):=⟨_,rfl⟩;obtain⟨s3,es3⟩:∃s,s=(intC s2).2:=⟨_,rfl⟩;rw[<-ev3,<-es3] at T3;rw[<-es3] at hs3;have FV1:=I (show(anQ b).1.c=v1 by rw[ev1,es0];rfl);have FV2:=I (show(anQ b).1.t=v2 by rw[ev2,es1,es0];rfl);have FV3:=I (show(anQ b).1.q=v3 by rw[ev3,es2,es1,es0];rfl);rw[FV1.o,FV2.o,FV3.o];clear h hs hs0 hs1 hs2 hs3 FV1 ev1 es1 FV2 ev2 es2 FV3 ev3 es3 es0;have HWS:=I hWs;clear hWs;subst eW;go_enter Tryz.func111,Tryz.ntmps111
 go_wp2_with (first
  |(go_at_call 156;refine Calls.mono c0 ?_;rintro e wo ⟨go,rfl,hgo,hco,hb⟩;clear c0;have HC:=I hco;have HGO:=I (show w.heap.size+1<=go by have:=HWS.o;omega);replace HR:=I (HR.o.below hb);replace HG:=I (Hc HG.o (by have:=HWS.o;omega) hb);have HWO:=I (show w.heap.size+1<=wo.heap.size by have:=hb.size;have:=HWS.o;omega);clear hgo hco hb)
  |(go_at_call 157;refine Calls.mono (c1.o _ _ HC.o) ?_;rintro e wi ⟨⟨gd,rfl,hgd,hd⟩,hc,hg⟩;clear c1 HC;have HD:=I hd;have HGD:=I (show w.heap.size+1<=gd by have:=HWO.o;omega);have HDL:=I (Ml hd);replace HR:=I (HR.o.grown hg (by intro e;injection e with e;have:=HGO.o;omega));replace HG:=I (Av HG.o hg (by have:=HWO.o;omega) (by have:=HGO.o;omega));clear hgd hd hc hg HWO HGO)
  |(go_at_call 158;(with_reducible refine Calls.mono (T1.o _ _ HD.o) ?_);rintro e w1 ⟨rfl,hd,hg⟩;clear T1;replace HD:=I hd;replace HR:=I (HR.o.grown hg (by intro e;injection e with e;have:=HGD.o;omega));replace HG:=I (Av HG.o hg (by have:=HGD.o;have:=HDL.o;omega) (by have:=HGD.o;omega));replace HDL:=I (Nat.lt_of_lt_of_le HDL.o hg.size);clear hd hg)
  |(go_at_call 161;(with_reducible refine Calls.mono (T2.o _ _ HD.o) ?_);rintro e w2 ⟨rfl,hd,hg⟩;clear T2;replace HD:=I hd;replace HR:=I (HR.o.grown hg (by intro e;injection e with e;have:=HGD.o;omega));replace HG:=I (Av HG.o hg (by have:=HGD.o;have:=HDL.o;omega) (by have:=HGD.o;omega));replace HDL:=I (Nat.lt_of_lt_of_le HDL.o hg.size);clear hd hg)
  |(go_at_call 161;(with_reducible refine Calls.mono (T3.o _ _ HD.o) ?_);rintro e w3 ⟨rfl,hd,hg⟩;clear T3;replace HD:=I hd;replace HR:=I (HR.o.grown hg (by intro e;injection e with e;have:=HGD.o;omega));replace HG:=I (Av HG.o hg (by have:=HGD.o;have:=HDL.o;omega) (by have:=HGD.o;omega));replace HDL:=I (Nat.lt_of_lt_of_le HDL.o hg.size);clear hd hg;have n0:w3.cell? ⟨w.heap.size,0,none⟩=some (.string ⟨#[]⟩):=HR.o.cell 0;have y0:=HR.o.frozen 0;have n1:w3.cell? ⟨w.heap.size,1,none⟩=some (.string ⟨#[]⟩):=HR.o.cell 1;have y1:=HR.o.frozen 1;have n2:w3.cell? ⟨w.heap.size,2,none⟩=some (.int .i64 0):=HR.o.cell 2;have y2:=HR.o.frozen 2;have n3:w3.cell? ⟨w.heap.size,3,none⟩=some (.int .i64 0):=HR.o.cell 3;have y3:=HR.o.frozen 3)
  |fail)
 have hE:Blk ((((w3.setCell ⟨w.heap.size,0,none⟩ (.string ⟨v1.1.toArray⟩)).setCell ⟨w.heap.size,1,none⟩ (.string ⟨v1.2.toArray⟩)).setCell ⟨w.heap.size,2,none⟩ (.int .i64 v2)).setCell ⟨w.heap.size,3,none⟩ (.int .i64 v3)) w.heap.size 41 #[.string ⟨v1.1.toArray⟩,.string ⟨v1.2.toArray⟩,.int .i64 v2,.int .i64 v3]:=((((HR.o.set 0 (.string ⟨v1.1.toArray⟩)).set 1 (.string ⟨v1.2.toArray⟩)).set 2 (.int .i64 v2)).set 3 (.int .i64 v3));have hp:=(AE (AE (AE (AE (World.grownBy.refl w3 (some w.heap.size)) (p:=⟨w.heap.size,0,none⟩) (.inl rfl) (.string ⟨v1.1.toArray⟩)) (p:=⟨w.heap.size,1,none⟩) (.inl rfl) (.string ⟨v1.2.toArray⟩)) (p:=⟨w.heap.size,2,none⟩) (.inl rfl) (.int .i64 v2)) (p:=⟨w.heap.size,3,none⟩) (.inl rfl) (.int .i64 v3));have hq:=Al (P:=Tryz.prog) hE Tryz.underlying41 rfl (by kernel_rfl);refine bodyPost_ret (v:=.agg #[.string ⟨v1.1.toArray⟩,.string ⟨v1.2.toArray⟩,.int .i64 v2,.int .i64 v3]) ?_ ?_ ?_
 ·exact Au 2 41 ⟨w.heap.size,0,none⟩ Tryz.results111 rfl hq
 ·rfl
 exact⟨rfl,Av HG.o hp (by have:=HR.o.lt;omega) Ag⟩
theorem XT:(Tryz.prog.info? 5).map (·.size)=some 1:=by kernel_rfl
theorem BQ:(Tryz.prog.info? 35).map (·.size)=some 32:=by kernel_rfl
theorem bvs_one' (l:L):(bvs l).toArray.all (·.oneCell')=true:=all_oneCell_toArray (Bl l)
theorem Qn {W:World} {K b c:Nat} {t:TypeId} {x:L} (h:Blk W K t (bvs key0).toArray) (hx:∀i u,(bvs x)[i]? = some u->W.cell? ⟨b,i,none⟩=some u) :
  (Builtin.copy_ #[26,26] 3 #[.slice (some ⟨K,0,none⟩) 32 32,.slice (some ⟨b,0,none⟩) x.length c]).run Tryz.prog W=.ok (goInt (bvs (x.take 32)).length) (W.setCells K 0 (bvs (x.take 32))):=by
 refine run_copy_cells (P:=Tryz.prog) W 26 26 3 5 K 0 32 32 ⟨b,0,none⟩ x.length c (bvs (x.take 32)) Tryz.underlying26 XT ?_ ?_ ?_ ?_ (Bl _)
 ·rw[Ao,List.length_take];exact Nat.min_comm _ _
 ·intro j v hv
  rw[addr_add,Nat.zero_add];apply hx;have hj:j<(bvs (x.take 32)).length:=(List.getElem?_eq_some_iff.1 hv).1;rw[Ao,List.length_take] at hj;rw[<-hv];simp only[bvs,List.getElem?_map];rw[List.getElem?_take_of_lt (by omega)]
 ·intro j hj
  rw[Ao,List.length_take] at hj;exact(Ar h 32 (by simp [Ao,key0]) j (by omega)).1
 ·intro j hj
  rw[Ao,List.length_take] at hj;exact(Ar h 32 (by simp [Ao,key0]) j (by omega)).2
theorem NA (g:Nat) (c:Option L) (w:World) (h:Cur w g c) (hs:(c.getD []).length<=100000):Calls Tryz.prog 159 #[.pointer (some ⟨g,0,none⟩)] w fun e w'=>e=.returned (.agg (bvs (keQ c).1).toArray)/\Cur w' g (keQ c).2/\w.grownBy w' (some g):=by
 have ez:(bvs key0).toArray=#[.int .u8 0,.int .u8 0,.int .u8 0,.int .u8 0,.int .u8 0,.int .u8 0,.int .u8 0,.int .u8 0,.int .u8 0,.int .u8 0,.int .u8 0,.int .u8 0,.int .u8 0,.int .u8 0,.int .u8 0,.int .u8 0,.int .u8 0,.int .u8 0,.int .u8 0,.int .u8 0,.int .u8 0,.int .u8 0,.int .u8 0,.int .u8 0,.int .u8 0,.int .u8 0,.int .u8 0,.int .u8 0,.int .u8 0,.int .u8 0,.int .u8 0,.int .u8 0]:=by rfl
 have T1:=I (fun w1 (h:Cur w1 g c)=>Nz g c w1 h (by omega));have E1:=I (show(keQ c).1=(ocC c++key0).take 32 from rfl);have E2:=I (show(keQ c).2=AQ 4 c from rfl);rw[E1.o,E2.o];obtain⟨x,ex⟩:=Ak (ocC c);obtain⟨r,er⟩:=Ak (AQ 4 c);rw[<-ex,<-er] at T1⊢;go_enter Tryz.func159,Tryz.ntmps159
 go_upto_region 2 with fail
 rw[<-ez];obtain⟨W,eW⟩:=Ak ((w.alloc (.cells (bvs key0).toArray 35)).alloc (.cells (bvs key0).toArray 35));have hq:=Blk.new (w.alloc (.cells (bvs key0).toArray 35)) 35 (bvs key0).toArray;rw[show(w.alloc (.cells (bvs key0).toArray 35)).heap.size=w.heap.size+1 by simp,<-eW] at hq;have HR:=I (show Blk W w.heap.size 35 (bvs key0).toArray by rw[eW];exact(Blk.new _ _ _).alloc _);have HC:=I (show Cur W g c by rw[eW];exact(h.alloc _).alloc _);have HG:=I (show w.grownBy W (some g) by rw[eW];exact Dp (Dp (World.grownBy.refl _ _) _) _);have HLT:=I (Ml h);have HQ:=I hq;rw[<-eW];clear eW ez hq h hs E1 E2 ex er;replace HR:=I (show Blk W.drew _ _ _ from HR.o.drewN 1);replace HQ:=I (show Blk W.drew _ _ _ from HQ.o.drewN 1);replace HC:=I (show Cur W.drew g c from Blk.drewN HC.o 1);replace HG:=I (show w.grownBy W.drew (some g) from Ey HG.o 1)
 go_region_held3 (fun w'=>True) (trivial) ((go_at_call 201;refine Calls.mono (T1.o _ HC.o) ?_;rintro e w1 ⟨⟨v,rfl,ho⟩,hd,hg⟩;obtain⟨b,cp,rfl,x1,x2,x3,x4⟩:=ho;clear T1;replace HC:=I hd;replace HR:=I (HR.o.grown hg (by intro e;injection e with e;have:=HLT.o;omega));replace HQ:=I (HQ.o.grown hg (by intro e;injection e with e;have:=HLT.o;omega));replace HG:=I (Kh HG.o hg);have hcp:=Qn (c:=cp) HQ.o x4;clear hd hg x1 x2 x3 x4))
 have hks:(bvs ((x++key0).take 32)).toArray.size=32:=by simp [Ao,key0]
 have hp:=Gr (a:=w1) (.inl rfl:some (w.heap.size+1)=some (w.heap.size+1)\/_) (bvs (x.take 32)) 0 w1 (World.grownBy.refl _ _);replace HQ:=I (Ql (x:=x) HQ.o);have HO:=I (bvs_one' ((x++key0).take 32));obtain⟨ks,eks⟩:=Ak ((bvs ((x++key0).take 32)).toArray);rw[<-eks] at HQ hks HO;obtain⟨V,eV⟩:=Ak (w1.setCells (w.heap.size+1) 0 (bvs (x.take 32)));rw[<-eV] at HQ hp⊢;replace HR:=I (HR.o.grown hp (by intro e;injection e with e;omega));replace HC:=I (JA HC.o hp (by have:=HLT.o;omega));replace HG:=I (JM HG.o hp (by omega));have HI:=I (show(Tryz.prog.info? 35).map (·.size)=some ks.size by rw[hks];exact BQ);have HT:=I (Ar HR.o ks.size (by rw[hks];simp [Ao,key0]));have EK:=I eks;have HS:=I hks;clear hcp eV hp eks hks
 go_wp2_with (first
  |(refine Am (by rfl) 35 (.tmp 3) (by rfl) (w.heap.size+1) 0 (by rfl) ks _ (Ae HQ.o) Tryz.underlying35 (by rfl) HI.o ?_)
  |(refine wpList_store_mid (by rfl) 35 (.tmp 2) (.tmp 8) (by rfl) w.heap.size 0 ks (by rfl) (by rfl) HT.o HI.o HO.o ?_)
  |fail)
 have hE:=AG (ds:=ks) HR.o (by rw[HS.o];simp [Ao,key0]);have hp:=AM V w.heap.size ks.toList;have hq:=Al (P:=Tryz.prog) hE Tryz.underlying35 rfl HI.o;refine bodyPost_ret (v:=.agg ks) ?_ ?_ ?_
 ·exact Au 2 35 ⟨w.heap.size,0,none⟩ Tryz.results159 rfl hq
 ·rfl
 exact⟨by rw[EK.o],JA HC.o hp (by have:=HLT.o;omega),JM HG.o hp Ag⟩
theorem AA {P:Program} {ops:Array Oper} {rest:List Oper} {o:Oper} {a:Act} {w:World} {Q:Exit->Act->World->Prop} (hg:o.guard=none) (t:TypeId) (parts:Array (Nat×Operand)) (ho:o.op=.build t parts)
  (cells:Array Value) (hc:P.built t (parts.map fun(i,x)=>(i,a.eval x)).toList=some cells) (h:wpList P ops Q rest (a.put o.dst (.agg cells)) w):wpList P ops Q (o :: rest) a w:=
 wpList_build hg t parts ho (by rw[hc];rfl) (by rw[hc];exact h)
theorem len32 {v:L} (h:v.length=32):∃k0 k1 k2 k3 k4 k5 k6 k7 k8 k9 k10 k11 k12 k13 k14 k15 k16 k17 k18 k19 k20 k21 k22 k23 k24 k25 k26 k27 k28 k29 k30 k31:UInt8,v = [k0,k1,k2,k3,k4,k5,k6,k7,k8,k9,k10,k11,k12,k13,k14,k15,k16,k17,k18,k19,k20,k21,k22,k23,k24,k25,k26,k27,k28,k29,k30,k31]:=by
 rcases v with _ | ⟨k0,v⟩
 ·simp at h
 rcases v with _ | ⟨k1,v⟩
 ·simp at h
 rcases v with _ | ⟨k2,v⟩
 ·simp at h
 rcases v with _ | ⟨k3,v⟩
 ·simp at h
 rcases v with _ | ⟨k4,v⟩
 ·simp at h
 rcases v with _ | ⟨k5,v⟩
 ·simp at h
 rcases v with _ | ⟨k6,v⟩
 ·simp at h
 rcases v with _ | ⟨k7,v⟩
 ·simp at h
 rcases v with _ | ⟨k8,v⟩
 ·simp at h
 rcases v with _ | ⟨k9,v⟩
 ·simp at h
 rcases v with _ | ⟨k10,v⟩
 ·simp at h
 rcases v with _ | ⟨k11,v⟩
 ·simp at h
 rcases v with _ | ⟨k12,v⟩
 ·simp at h
 rcases v with _ | ⟨k13,v⟩
 ·simp at h
 rcases v with _ | ⟨k14,v⟩
 ·simp at h
 rcases v with _ | ⟨k15,v⟩
 ·simp at h
 rcases v with _ | ⟨k16,v⟩
 ·simp at h
 rcases v with _ | ⟨k17,v⟩
 ·simp at h
 rcases v with _ | ⟨k18,v⟩
 ·simp at h
 rcases v with _ | ⟨k19,v⟩
 ·simp at h
 rcases v with _ | ⟨k20,v⟩
 ·simp at h
 rcases v with _ | ⟨k21,v⟩
 ·simp at h
 rcases v with _ | ⟨k22,v⟩
 ·simp at h
 rcases v with _ | ⟨k23,v⟩
 ·simp at h
 rcases v with _ | ⟨k24,v⟩
 ·simp at h
 rcases v with _ | ⟨k25,v⟩
 ·simp at h
 rcases v with _ | ⟨k26,v⟩
 ·simp at h
 rcases v with _ | ⟨k27,v⟩
 ·simp at h
 rcases v with _ | ⟨k28,v⟩
 ·simp at h
 rcases v with _ | ⟨k29,v⟩
 ·simp at h
 rcases v with _ | ⟨k30,v⟩
 ·simp at h
 rcases v with _ | ⟨k31,v⟩
 ·simp at h
 rcases v with _ | ⟨x,v⟩
 ·exact⟨k0,k1,k2,k3,k4,k5,k6,k7,k8,k9,k10,k11,k12,k13,k14,k15,k16,k17,k18,k19,k20,k21,k22,k23,k24,k25,k26,k27,k28,k29,k30,k31,rfl⟩
 ·simp at h
theorem Ta (c:Pr) (k tr:L) (st en:Int) (hk:k.length=32):Tryz.prog.built 39 [(0,.agg #[.string ⟨c.1.toArray⟩,.string ⟨c.2.toArray⟩]),(1,.agg (bvs k).toArray),(2,.string ⟨tr.toArray⟩),(3,.int .i64 st),(4,.int .i64 en)]=some (ptC ⟨c,k,tr,st,en⟩).toArray:=by
 obtain⟨k0,k1,k2,k3,k4,k5,k6,k7,k8,k9,k10,k11,k12,k13,k14,k15,k16,k17,k18,k19,k20,k21,k22,k23,k24,k25,k26,k27,k28,k29,k30,k31,rfl⟩:=len32 hk
 kernel_rfl
theorem Gv (c:Pr) (k tr:L) (st en:Int):(ptC ⟨c,k,tr,st,en⟩).toArray.all (·.oneCell')=true:=all_oneCell_toArray fun v hv=>by
 simp only[ptC,prC,List.mem_append,List.mem_cons,List.not_mem_nil,or_false] at hv;rcases hv with(rfl | rfl) | hv | rfl | rfl | rfl
 ·rfl
 ·rfl
 ·exact Bl _ v hv
 ·rfl
 ·rfl
 ·rfl
theorem Qo (A:Option Addr) (b:L) (cap:Nat) (w:World) (h:Rd w w.heap.size A (bvs b)) (hs:b.length<=100000):Calls Tryz.prog 109 #[.slice A b.length cap] w fun e w'=>e=.returned (.agg (ptC (ptQ b).1).toArray)/\Below w.heap.size w w':=by
 obtain⟨zz,ezz⟩:∃z:Array Value,z=#[.string ⟨#[]⟩,.string ⟨#[]⟩,.int .u8 0,.int .u8 0,.int .u8 0,.int .u8 0,.int .u8 0,.int .u8 0,.int .u8 0,.int .u8 0,.int .u8 0,.int .u8 0,.int .u8 0,.int .u8 0,.int .u8 0,.int .u8 0,.int .u8 0,.int .u8 0,.int .u8 0,.int .u8 0,.int .u8 0,.int .u8 0,.int .u8 0,.int .u8 0,.int .u8 0,.int .u8 0,.int .u8 0,.int .u8 0,.int .u8 0,.int .u8 0,.int .u8 0,.int .u8 0,.int .u8 0,.int .u8 0,.string ⟨#[]⟩,.int .i64 0,.int .i64 0]:=⟨_,rfl⟩;have HZS:=I (show zz.size=37 by rw[ezz];simp);obtain⟨W,eW⟩:=Ak (w.alloc (.cells zz 39));have hWs:W.heap.size=w.heap.size+1:=by rw[eW];simp
 have HR:=I (show Blk W w.heap.size 39 zz by rw[eW];exact Blk.new _ _ _);have HG:=I (show Below w.heap.size w W by rw[eW];exact Ah.alloc Ag _);have c0:=NV w.heap.size A b b.length cap W (by rw[eW];exact h.alloc Ag _) rfl;have c1:=I (fun g w h=>Kx 99 g (some b) w h (by show((b.length:Int))<=100000;omega));have hs0:((AJ 99 (some b)).getD []).length<=100000:=Ki 99 (show((some b:Option L).getD []).length<=100000 from hs);obtain⟨s0,es0⟩:∃s,s=AJ 99 (some b):=⟨_,rfl⟩;rw[<-es0] at c1 hs0;have hs1:(((prQ s0).2).getD []).length<=100000:=Gh 48 hs0;have T1:=I (fun g w h=>GY g s0 w h hs0);obtain⟨v1,ev1⟩:∃x:Pr,x=(prQ s0).1:=⟨_,rfl⟩;obtain⟨s1,es1⟩:∃s,s=(prQ s0).2:=⟨_,rfl⟩;rw[<-ev1,<-es1] at T1;rw[<-es1] at hs1;have hs2:(((keQ s1).2).getD []).length<=100000:=Gh 4 hs1;have T2:=I (fun g w h=>NA g s1 w h hs1);have hk:=SU s1;obtain⟨v2,ev2⟩:∃x:L,x=(keQ s1).1:=⟨_,rfl⟩;obtain⟨s2,es2⟩:∃s,s=(keQ s1).2:=⟨_,rfl⟩;rw[<-ev2,<-es2] at T2;rw[<-ev2] at hk;rw[<-es2] at hs2;have hs3:((AQ 27 s2).getD []).length<=100000:=Gh 27 hs2;have T3:=I (fun g w h=>FD g s2 w h (by omega));obtain⟨v3,ev3⟩:∃x:L,x=txC s2:=⟨_,rfl⟩;obtain⟨s3,es3⟩:∃s,s=AQ 27 s2:=⟨_,rfl⟩;rw[<-ev3,<-es3] at T3;rw[<-es3] at hs3;have hs4:(((intC s3).2).getD []).length<=100000:=Kj hs3;have T4:=I (fun g w h=>CR g s3 w h (by omega));obtain⟨v4,ev4⟩:∃x:Int,x=((intC s3).1:Int):=⟨_,rfl⟩;obtain⟨s4,es4⟩:∃s,s=(intC s3).2:=⟨_,rfl⟩;rw[<-ev4,<-es4] at T4;rw[<-es4] at hs4;have hs5:(((intC s4).2).getD []).length<=100000:=Kj hs4;have T5:=I (fun g w h=>CR g s4 w h (by omega));obtain⟨v5,ev5⟩:∃x:Int,x=((intC s4).1:Int):=⟨_,rfl⟩;obtain⟨s5,es5⟩:∃s,s=(intC s4).2:=⟨_,rfl⟩;rw[<-ev5,<-es5] at T5;rw[<-es5] at hs5;have FV:(ptQ b).1=⟨v1,v2,v3,v4,v5⟩:=by rw[ev1,ev2,ev3,ev4,ev5,es4,es3,es2,es1,es0];rfl
 rw[FV];have HBT:=Ta v1 v2 v3 v4 v5 hk;have hcs:(ptC ⟨v1,v2,v3,v4,v5⟩).toArray.size=37:=Du hk;have hone:(ptC ⟨v1,v2,v3,v4,v5⟩).toArray.all (·.oneCell')=true:=Gv v1 v2 v3 v4 v5;obtain⟨ks,eks⟩:=Ak ((bvs v2).toArray);rw[<-eks] at HBT T2;obtain⟨cs,ecs⟩:=Ak ((ptC ⟨v1,v2,v3,v4,v5⟩).toArray);rw[<-ecs] at HBT hcs hone⊢;have HBU:=I HBT;have HCS:=I hcs;have HO:=I hone;have HI:=I (show(Tryz.prog.info? 39).map (·.size)=some cs.size by rw[hcs];kernel_rfl);clear h hs hk HBT hcs hone eks ecs FV es0 hs0 hs1 hs2 hs3 hs4 hs5 ev1 es1 ev2 es2 ev3 es3 ev4 es4 ev5 es5;have HWS:=I hWs;clear hWs;go_enter Tryz.func109,Tryz.ntmps109
 go_upto_region 1 with fail
 rw[<-ezz,<-eW];clear ezz eW
 go_wp2_with (first
  |(go_at_call 156;refine Calls.mono c0 ?_;rintro e wo ⟨go,rfl,hgo,hco,hb⟩;clear c0;have HC:=I hco;have HGO:=I (show w.heap.size+1<=go by have:=HWS.o;omega);replace HR:=I (HR.o.below hb);replace HG:=I (Hc HG.o (by have:=HWS.o;omega) hb);have HWO:=I (show w.heap.size+1<=wo.heap.size by have:=hb.size;have:=HWS.o;omega);clear hgo hco hb)
  |(go_at_call 157;refine Calls.mono (c1.o _ _ HC.o) ?_;rintro e wi ⟨⟨gd,rfl,hgd,hd⟩,hc,hg⟩;clear c1 HC;have HD:=I hd;have HGD:=I (show w.heap.size+1<=gd by have:=HWO.o;omega);have HDL:=I (Ml hd);replace HR:=I (HR.o.grown hg (by intro e;injection e with e;have:=HGO.o;omega));replace HG:=I (Av HG.o hg (by have:=HWO.o;omega) (by have:=HGO.o;omega));clear hgd hd hc hg HWO HGO)
  |(go_at_call 158;(with_reducible refine Calls.mono (T1.o _ _ HD.o) ?_);rintro e w1 ⟨rfl,hd,hg⟩;clear T1;replace HD:=I hd;replace HR:=I (HR.o.grown hg (by intro e;injection e with e;have:=HGD.o;omega));replace HG:=I (Av HG.o hg (by have:=HGD.o;have:=HDL.o;omega) (by have:=HGD.o;omega));replace HDL:=I (Nat.lt_of_lt_of_le HDL.o hg.size);clear hd hg)
  |(go_at_call 159;(with_reducible refine Calls.mono (T2.o _ _ HD.o) ?_);rintro e w2 ⟨rfl,hd,hg⟩;clear T2;replace HD:=I hd;replace HR:=I (HR.o.grown hg (by intro e;injection e with e;have:=HGD.o;omega));replace HG:=I (Av HG.o hg (by have:=HGD.o;have:=HDL.o;omega) (by have:=HGD.o;omega));replace HDL:=I (Nat.lt_of_lt_of_le HDL.o hg.size);clear hd hg)
  |(go_at_call 160;(with_reducible refine Calls.mono (T3.o _ _ HD.o) ?_);rintro e w3 ⟨rfl,hd,hg⟩;clear T3;replace HD:=I hd;replace HR:=I (HR.o.grown hg (by intro e;injection e with e;have:=HGD.o;omega));replace HG:=I (Av HG.o hg (by have:=HGD.o;have:=HDL.o;omega) (by have:=HGD.o;omega));replace HDL:=I (Nat.lt_of_lt_of_le HDL.o hg.size);clear hd hg)
  |(go_at_call 161;(with_reducible refine Calls.mono (T4.o _ _ HD.o) ?_);rintro e w4 ⟨rfl,hd,hg⟩;clear T4;replace HD:=I hd;replace HR:=I (HR.o.grown hg (by intro e;injection e with e;have:=HGD.o;omega));replace HG:=I (Av HG.o hg (by have:=HGD.o;have:=HDL.o;omega) (by have:=HGD.o;omega));replace HDL:=I (Nat.lt_of_lt_of_le HDL.o hg.size);clear hd hg)
  |(go_at_call 161;(with_reducible refine Calls.mono (T5.o _ _ HD.o) ?_);rintro e w5 ⟨rfl,hd,hg⟩;clear T5;replace HD:=I hd;replace HR:=I (HR.o.grown hg (by intro e;injection e with e;have:=HGD.o;omega));replace HG:=I (Av HG.o hg (by have:=HGD.o;have:=HDL.o;omega) (by have:=HGD.o;omega));replace HDL:=I (Nat.lt_of_lt_of_le HDL.o hg.size);clear hd hg)
  |(refine AA (by rfl) 39 #[(0,.tmp 8),(1,.tmp 10),(2,.tmp 12),(3,.tmp 14),(4,.tmp 16)] (by rfl) cs (by simp only[List.map_toArray,List.map_cons,List.map_nil];exact HBU.o) ?_)
  |(refine wpList_store_mid (by rfl) 39 (.tmp 2) (.tmp 17) (by rfl) w.heap.size 0 cs (by rfl) (by rfl) (Ar HR.o _ (by have:=HZS.o;have:=HCS.o;omega)) HI.o HO.o ?_)
  |fail)
 have hE:=AG (ds:=cs) HR.o (by have:=HZS.o;have:=HCS.o;omega);have hp:=AM w5 w.heap.size cs.toList;have hq:=Al (P:=Tryz.prog) hE Tryz.underlying39 rfl HI.o;refine bodyPost_ret (v:=.agg cs) ?_ ?_ ?_
 ·exact Au 2 39 ⟨w.heap.size,0,none⟩ Tryz.results109 rfl hq
 ·rfl
 exact⟨rfl,Av HG.o hp (by have:=HR.o.lt;omega) Ag⟩
def AsV (cs:Array Value) (q:As):Prop:=cs=(asC q).toArray
def FaV (cs:Array Value) (q:Fa):Prop:=cs=(faC q).toArray
def TgV (w:World) (B:Nat) (cs:Array Value) (q:Tg):Prop:=∃b a,cs=(tgC q b a).toArray/\SlB w B b q.t.b/\SlB w B a q.a
def ReV (w:World) (B:Nat) (cs:Array Value) (q:Re):Prop:=∃b a,cs=(reC q b a).toArray/\SlB w B b q.t.b/\SlB w B a q.b
def ApV (w:World) (B:Nat) (cs:Array Value) (q:Ap):Prop:=∃b a,cs=(apC q b a).toArray/\SlB w B b q.t.b/\SlB w B a q.a
section
variable {w w':World} {B B':Nat} {cs:Array Value}
theorem TgV.keep {q:Tg} (h:TgV w B cs q) (hb:Below B w w'):TgV w' B cs q:=by obtain⟨b,a,h1,h2,h3⟩:=h;exact⟨b,a,h1,h2.keep hb,h3.keep hb⟩
theorem ReV.keep {q:Re} (h:ReV w B cs q) (hb:Below B w w'):ReV w' B cs q:=by obtain⟨b,a,h1,h2,h3⟩:=h;exact⟨b,a,h1,h2.keep hb,h3.keep hb⟩
theorem ApV.keep {q:Ap} (h:ApV w B cs q) (hb:Below B w w'):ApV w' B cs q:=by obtain⟨b,a,h1,h2,h3⟩:=h;exact⟨b,a,h1,h2.keep hb,h3.keep hb⟩
theorem TgV.more {q:Tg} (h:TgV w B cs q) (hB:B<=B'):TgV w B' cs q:=by obtain⟨b,a,h1,h2,h3⟩:=h;exact⟨b,a,h1,h2.more hB,h3.more hB⟩
theorem ReV.more {q:Re} (h:ReV w B cs q) (hB:B<=B'):ReV w B' cs q:=by obtain⟨b,a,h1,h2,h3⟩:=h;exact⟨b,a,h1,h2.more hB,h3.more hB⟩
theorem ApV.more {q:Ap} (h:ApV w B cs q) (hB:B<=B'):ApV w B' cs q:=by obtain⟨b,a,h1,h2,h3⟩:=h;exact⟨b,a,h1,h2.more hB,h3.more hB⟩
theorem Hv {v:Value} {l:L} (h:SlB w B v l):v.oneCell'=true:=by obtain⟨A,c,rfl,_⟩:=h;rfl
theorem AsV.size {q:As} (h:AsV cs q):cs.size=6:=by rw[h];rfl
theorem FaV.size {q:Fa} (h:FaV cs q):cs.size=2:=by rw[h];rfl
theorem TgV.size {q:Tg} (h:TgV w B cs q):cs.size=9:=by obtain⟨b,a,h1,_⟩:=h;rw[h1];rfl
theorem ReV.size {q:Re} (h:ReV w B cs q):cs.size=7:=by obtain⟨b,a,h1,_⟩:=h;rw[h1];rfl
theorem ApV.size {q:Ap} (h:ApV w B cs q):cs.size=5:=by obtain⟨b,a,h1,_⟩:=h;rw[h1];rfl
def One (cs:Array Value):Prop:=cs.all (·.oneCell')=true
theorem AsV.one {q:As} (h:AsV cs q):One cs:=by
 rw[h];refine all_oneCell_toArray fun v hv=>?_
 simp only[asC,List.mem_cons,List.not_mem_nil,or_false] at hv;rcases hv with rfl | rfl | rfl | rfl | rfl | rfl<;>rfl
theorem FaV.one {q:Fa} (h:FaV cs q):One cs:=by
 rw[h];refine all_oneCell_toArray fun v hv=>?_
 simp only[faC,List.mem_cons,List.not_mem_nil,or_false] at hv;rcases hv with rfl | rfl<;>rfl
theorem TgV.one {q:Tg} (h:TgV w B cs q):One cs:=by
 obtain⟨b,a,h1,h2,h3⟩:=h;rw[h1];refine all_oneCell_toArray fun v hv=>?_
 simp only[tgC,tkC,List.mem_append,List.mem_cons,List.not_mem_nil,or_false] at hv;rcases hv with(rfl | rfl | rfl | rfl) | rfl | rfl | rfl | rfl | rfl
 all_goals first | rfl | exact Hv h2 | exact Hv h3
theorem ReV.one {q:Re} (h:ReV w B cs q):One cs:=by
 obtain⟨b,a,h1,h2,h3⟩:=h;rw[h1];refine all_oneCell_toArray fun v hv=>?_
 simp only[reC,prC,tkC,List.mem_append,List.mem_cons,List.not_mem_nil,or_false] at hv;rcases hv with(rfl | rfl) | (rfl | rfl | rfl | rfl) | rfl
 all_goals first | rfl | exact Hv h2 | exact Hv h3
theorem ApV.one {q:Ap} (h:ApV w B cs q):One cs:=by
 obtain⟨b,a,h1,h2,h3⟩:=h;rw[h1];refine all_oneCell_toArray fun v hv=>?_
 simp only[apC,tkC,List.mem_append,List.mem_cons,List.not_mem_nil,or_false] at hv;rcases hv with(rfl | rfl | rfl | rfl) | rfl
 all_goals first | rfl | exact Hv h2 | exact Hv h3
end
def mgA (k:Int) (pa pt pr pp pf:Array Value):Array Value:=(Value.int .i64 k :: (pa.toList++(pt.toList++(pr.toList++(pp.toList++pf.toList))))).toArray
structure MgP (w:World) (B:Nat) (pa pt pr pp pf:Array Value) (m:Mg):Prop where
 a:AsV pa m.aq
 t:TgV w B pt m.tg
 r:ReV w B pr m.re
 p:ApV w B pp m.ap
 f:FaV pf m.fa
def MgV (w:World) (B:Nat) (cs:Array Value) (m:Mg):Prop:=∃pa pt pr pp pf,cs=mgA m.k pa pt pr pp pf/\MgP w B pa pt pr pp pf m
section
variable {w w':World} {B B':Nat} {cs pa pt pr pp pf:Array Value} {m:Mg}
theorem MgP.keep (h:MgP w B pa pt pr pp pf m) (hb:Below B w w'):MgP w' B pa pt pr pp pf m:=⟨h.a,h.t.keep hb,h.r.keep hb,h.p.keep hb,h.f⟩
theorem MgP.more (h:MgP w B pa pt pr pp pf m) (hB:B<=B'):MgP w B' pa pt pr pp pf m:=⟨h.a,h.t.more hB,h.r.more hB,h.p.more hB,h.f⟩
theorem MgV.keep (h:MgV w B cs m) (hb:Below B w w'):MgV w' B cs m:=by obtain⟨pa,pt,pr,pp,pf,h1,h2⟩:=h;exact⟨pa,pt,pr,pp,pf,h1,h2.keep hb⟩
theorem MgV.more (h:MgV w B cs m) (hB:B<=B'):MgV w B' cs m:=by obtain⟨pa,pt,pr,pp,pf,h1,h2⟩:=h;exact⟨pa,pt,pr,pp,pf,h1,h2.more hB⟩
theorem MgP.sizes (h:MgP w B pa pt pr pp pf m):pa.size=6/\pt.size=9/\pr.size=7/\pp.size=5/\pf.size=2:=⟨h.a.size,h.t.size,h.r.size,h.p.size,h.f.size⟩
theorem MgP.size (h:MgP w B pa pt pr pp pf m) (k:Int):(mgA k pa pt pr pp pf).size=30:=by
 obtain⟨h1,h2,h3,h4,h5⟩:=h.sizes;simp [mgA,h1,h2,h3,h4,h5]
theorem MgP.one (h:MgP w B pa pt pr pp pf m) (k:Int):One (mgA k pa pt pr pp pf):=by
 refine all_oneCell_toArray fun v hv=>?_
 simp only[List.mem_cons,List.mem_append] at hv;have key:∀{cs:Array Value},One cs->v∈cs.toList->v.oneCell'=true:=fun h1 h2=>Array.all_eq_true_iff_forall_mem.1 h1 v (by simpa using h2)
 rcases hv with rfl | hv | hv | hv | hv | hv
 ·rfl
 ·exact key h.a.one hv
 ·exact key h.t.one hv
 ·exact key h.r.one hv
 ·exact key h.p.one hv
 ·exact key h.f.one hv
theorem Cw {g:Nat} {t:TypeId} {pre mid post:List Value} (h:Blk w g t cs) (hc:cs.toList=pre++(mid++post)) (o:Nat) (ho:o=pre.length):w.rangeAt g o mid:=fun j v hv=>by
 subst ho;have hj:j<mid.length:=(List.getElem?_eq_some_iff.1 hv).1;rw[h.cell,<-Array.getElem?_toList,hc,List.getElem?_append_right (by omega),Nat.add_sub_cancel_left,List.getElem?_append_left hj];exact hv
structure At (w:World) (g:Nat) (k:Int) (pa pt pr pp pf:Array Value):Prop where
 k:w.cell? ⟨g,0,none⟩=some (.int .i64 k)
 a:w.rangeAt g 1 pa.toList
 t:w.rangeAt g 7 pt.toList
 r:w.rangeAt g 16 pr.toList
 p:w.rangeAt g 23 pp.toList
 f:w.rangeAt g 28 pf.toList
theorem MgP.at_ (h:MgP w' B pa pt pr pp pf m) {g:Nat} {k:Int} {t:TypeId} (hb:Blk w g t (mgA k pa pt pr pp pf)):At w g k pa pt pr pp pf:=by
 obtain⟨h1,h2,h3,h4,h5⟩:=h.sizes;refine⟨by rw[hb.cell];rfl,?_,?_,?_,?_,?_⟩
 ·exact Cw (pre:=[.int .i64 k]) (post:=pt.toList++(pr.toList++(pp.toList++pf.toList))) hb (by simp [mgA]) 1 rfl
 ·exact Cw (pre:=.int .i64 k :: pa.toList) (post:=pr.toList++(pp.toList++pf.toList)) hb (by simp [mgA]) 7 (by simp [h1])
 ·exact Cw (pre:=.int .i64 k :: (pa.toList++pt.toList)) (post:=pp.toList++pf.toList) hb (by simp [mgA]) 16 (by simp [h1,h2])
 ·exact Cw (pre:=.int .i64 k :: (pa.toList++(pt.toList++pr.toList))) (post:=pf.toList) hb (by simp [mgA]) 23 (by simp [h1,h2,h3])
 ·exact Cw (pre:=.int .i64 k :: (pa.toList++(pt.toList++(pr.toList++pp.toList)))) (post:=[]) hb (by simp [mgA]) 28 (by simp [h1,h2,h3,h4])
end
theorem Cd:(Tryz.prog.info? 85).map (·.size)=some 6:=by kernel_rfl
theorem Bs:(Tryz.prog.info? 30).map (·.size)=some 9:=by kernel_rfl
theorem AK:(Tryz.prog.info? 43).map (·.size)=some 7:=by kernel_rfl
theorem DU:(Tryz.prog.info? 87).map (·.size)=some 5:=by kernel_rfl
theorem FE:(Tryz.prog.info? 89).map (·.size)=some 2:=by kernel_rfl
theorem Dv:(Tryz.prog.info? 91).map (·.size)=some 30:=by kernel_rfl
theorem Ax {P:Program} {ops:Array Oper} {rest:List Oper} {op:Oper} {a:Act} {w:World} {Q:Exit->Act->World->Prop} (hw:Region.wanted op (yielded ops a.tmps)=true) (ty:TypeId) (x:Operand) (ho:op.op=.load ty x)
  (g o:Nat) (hx:a.eval x=.pointer (some ⟨g,o,none⟩)) (cs:Array Value) (d:TypeDesc) (hc:w.rangeAt g o cs.toList)
  (hu:P.underlying ty=some d) (hd:d.isRow=true) (hi:(P.info? ty).map (·.size)=some cs.size)
  (h:wpList P ops Q rest (a.put op.dst (.agg cs)) w):wpList P ops Q (op :: rest) a w:=
 BigFrame.wpList_want hw fun _ hK=>wp_load_mid ty x ho g o hx cs.toList d hc hu hd (by rw[Array.length_toList];exact hi) (by simpa using hK _ _ h)
theorem Et {w:World} {g o:Nat} {t:TypeId} {cs ps ds:Array Value} {pre mid post:List Value} (h:Blk w g t cs) (hc:cs.toList=pre++(mid++post)) (ho:o=pre.length) (hm:mid.length=ps.size) (hd:ds=(pre++(ps.toList++post)).toArray):Blk (w.setCells g o ps.toList) g t ds:=by
 subst ho;have hs:cs.size=pre.length+(mid.length+post.length):=by rw[<-Array.length_toList,hc];simp
 obtain⟨es,h1,h2,h3,h4⟩:=BN ps.toList pre.length w cs h (by simp;omega);have e:es=ds:=by
  apply Array.ext_getElem?;intro i;rw[hd,show(pre++(ps.toList++post)).toArray[i]? = (pre++(ps.toList++post))[i]? by simp];have hci:∀i,cs[i]? = (pre++(mid++post))[i]?:=fun i=>by rw[<-hc,Array.getElem?_toList]
  by_cases hi:i<pre.length
  ·rw[h4 i (.inl hi),hci,List.getElem?_append_left hi,List.getElem?_append_left hi]
  ·by_cases hj:i<pre.length+ps.size
   ·rw[h3 i (by omega) (by simpa using hj),List.getElem?_append_right (by omega),List.getElem?_append_left (by simp;omega)]
   ·rw[h4 i (.inr (by simp;omega)),hci,List.getElem?_append_right (by omega),List.getElem?_append_right (by omega),List.getElem?_append_right (by omega),List.getElem?_append_right (by simp;omega),hm]
    simp
 rw[<-e];exact h1
theorem Ci {w:World} {g:Nat} {t:TypeId} {cs:Array Value} (h:Blk w g t cs) (o n:Nat) (hn:o+n<=cs.size):w.there g o n:=fun j hj=>by
 rw[h.cell,Array.getElem?_eq_getElem (by omega)];exact⟨rfl,h.frozen _⟩
theorem DR (w:World) (g o:Nat) (vs:List Value):w.grownBy (w.setCells g o vs) (some g):=Gr (.inl rfl) vs o w (World.grownBy.refl _ _)
theorem Bc (w:World) (t:TypeId) (lit cs:Array Value) (hs:lit.size=cs.size):Blk ((w.alloc (.cells lit t)).setCells w.heap.size 0 cs.toList) w.heap.size t cs/\Below w.heap.size w ((w.alloc (.cells lit t)).setCells w.heap.size 0 cs.toList):=
 ⟨AG (Blk.new w t lit) hs,Av ((Below.refl w.heap.size w).alloc Ag _) (AM _ _ _) (by simp) Ag⟩
theorem Tb {c:Option L} (h:(c.getD []).length<=100000):pSm (prQ c).1:=by
 have e2:=(Ca 27 (AJ 48 c)).1;have e3:=(Ca 27 (AJ 48 c)).2;have e4:=(Ca 27 (AQ 27 (AJ 48 c))).1;have e5:=(Ca 48 c).1;exact⟨by show((AJ 27 (AJ 48 c)).getD []).length<=1000000000;omega,by show((AJ 27 (AQ 27 (AJ 48 c))).getD []).length<=1000000000;omega⟩
theorem Wf {c:Option L} (h:(c.getD []).length<=100000):(txC c).length<=100000:=Nat.le_trans (Ca 27 c).1 h
theorem NB (a:An):(anC a).toArray.all (·.oneCell')=true:=all_oneCell_toArray fun v hv=>by
 simp only[anC,prC,List.mem_append,List.mem_cons,List.not_mem_nil,or_false] at hv;rcases hv with(rfl | rfl) | rfl | rfl<;>rfl
def ptG (b:L):Pt:=(ptD b).getD pt0
def ptI (b:L):Int:=if (ptD b).isSome then 0 else 2
theorem NC (b:L):(ptG b).ss.length=32:=by
 unfold ptG;rw[SV]
 split
 ·exact Lb b
 ·rfl
theorem Tc (A:Option Addr) (b:L) (c:Nat) (w:World) (hr:Rd w w.heap.size A (bvs b)):Calls Tryz.prog 110 #[.slice A b.length c,.func (.func 111) #[] #[],.func (.func 112) #[] #[]] w fun e w'=>e=.returned (.tuple #[.agg (anC (anG b)).toArray,.int .i64 (anI b)])/\Below w.heap.size w w':=by
 obtain⟨zz,ezz⟩:∃z:Array Value,z=#[.string ⟨#[]⟩,.string ⟨#[]⟩,.int .i64 0,.int .i64 0]:=⟨_,rfl⟩;have ez0:(anC an0).toArray=zz:=by rw[ezz];rfl
 have hzs:zz.size=4:=by rw[ezz];simp
 have hzo:zz.all (·.oneCell')=true:=by rw[<-ez0];exact NB _
 obtain⟨W,eW⟩:=Ak ((w.alloc (.cells zz 41)).alloc (.cells zz 41));have hWs:W.heap.size=w.heap.size+1+1:=by rw[eW];simp
 have hq:=Blk.new (w.alloc (.cells zz 41)) 41 zz;rw[show(w.alloc (.cells zz 41)).heap.size=w.heap.size+1 by simp,<-eW] at hq;have HZ:=I hq;clear hq;have HR:=I (show Blk W w.heap.size 41 zz by rw[eW];exact(Blk.new _ _ _).alloc _);have HG:=I (show Below w.heap.size w W by rw[eW];exact(Ah.alloc Ag _).alloc (by simp) _);have HRD:=I (fun w1 (h:Below w.heap.size w w1)=>(hr.below h).more h.size);have HIZ:=I (show(Tryz.prog.info? 41).map (·.size)=some zz.size by rw[hzs];kernel_rfl);have HZO:=I hzo;have HZS:=I hzs;have ED:=I (XQ b);have HWS:=I hWs;clear hWs hzo hzs
 by_cases hl:b.length<=2000
 ·have t1:decide ((2000:Int)<(b.length:Int))=false:=decide_eq_false (by omega)
  have hl1:b.length<=100000:=by omega
  have hsm:pSm (anQ b).1.c:=Tb (Ki 98 (show((some b:Option L).getD []).length<=100000 from hl1));have T1:=I (fun w1 (h:Rd w1 w1.heap.size A (bvs b))=>(show Calls Tryz.prog 111 #[.slice A b.length c] w1 fun e w'=>e=.returned (.agg (anC (anQ b).1).toArray)/\Below w1.heap.size w1 w' from Qm A b c w1 h hl1));have EN:=I (fun w1=>(show Calls Tryz.prog 112 #[.agg (anC (anQ b).1).toArray] w1 (EncR w1 (anO (anQ b).1)) from Mi (anQ b).1 w1 hsm));have hcs:(anC (anQ b).1).toArray.size=4:=by rfl
  have hco:(anC (anQ b).1).toArray.all (·.oneCell')=true:=NB _;have BE:=I (fun(l:L) (g c2:Nat) (w1:World) (h:Rd w1 w1.heap.size (some ⟨g,0,none⟩) (bvs l)) (hb:Below w.heap.size w w1)=>Ht l b (some ⟨g,0,none⟩) A c2 c w1.heap.size w1 h (HRD.o w1 hb));obtain⟨cs,ecs⟩:=Ak ((anC (anQ b).1).toArray);rw[<-ecs] at T1 EN hcs hco;have HCI:=I (show(Tryz.prog.info? 41).map (·.size)=some cs.size by rw[hcs];kernel_rfl);have HCO:=I hco;have HCS:=I hcs;clear hcs hco hl hl1 hr hsm;cases ho:anO (anQ b).1 with
  |none=>
   rw[ho] at EN;have hD:anD b=none:=by rw[ED.o,ho];rfl
   have GE:=I (show(anC (anG b)).toArray=zz by rw[anG,hD];exact ez0);have IE:=I (show anI b=2 by rw[anI,hD];rfl);clear ED ho hD ecs ez0 BE;go_enter Tryz.func110,Tryz.ntmps110
   go_upto_region 2 with fail
   rw[<-ezz,<-eW];clear ezz eW
   go_wp2_with (first
    |(refine Am (by rfl) 41 (.tmp 8) (by rfl) (w.heap.size+1) 0 (by rfl) zz _ (Ae HZ.o) Tryz.underlying41 (by rfl) HIZ.o ?_)
    |(refine wpList_store_mid (by rfl) 41 (.tmp 6) (.tmp 33) (by rfl) w.heap.size 0 zz (by rfl) (by rfl) (Ar HR.o _ Ag) HIZ.o HZO.o ?_)
    |(go_at_call 111;refine Aj (T1.o _ (HRD.o _ HG.o)) ?_;rintro w4 hb;clear T1;replace HZ:=I (HZ.o.below hb);replace HR:=I (HR.o.below hb);replace HG:=HG.t hb;clear hb)
    |(refine wpList_store_mid (by rfl) 41 (.tmp 9) (.tmp 18) (by rfl) w4.heap.size 0 cs (by rfl) (by rfl) (Ar (Blk.new w4 41 #[.string ⟨#[]⟩,.string ⟨#[]⟩,.int .i64 0,.int .i64 0]) _ (by have:=HCS.o;simp;omega)) HCI.o HCO.o ?_;have hV:=Bc w4 41 #[.string ⟨#[]⟩,.string ⟨#[]⟩,.int .i64 0,.int .i64 0] cs (by have:=HCS.o;simp;omega);generalize ((w4.alloc (.cells #[.string ⟨#[]⟩,.string ⟨#[]⟩,.int .i64 0,.int .i64 0] 41)).setCells w4.heap.size 0 cs.toList)=V at hV⊢;have HX:=I hV.1;replace HZ:=I (HZ.o.below hV.2);replace HR:=I (HR.o.below hV.2);replace HG:=I (HG.o.trans (hV.2.mono HG.o.size));clear hV)
    |(refine Am (by rfl) 41 (.tmp 9) (by rfl) w4.heap.size 0 (by rfl) cs _ (Ae HX.o) Tryz.underlying41 (by rfl) HCI.o ?_)
    |(go_at_call 112;refine Calls.mono (EN.o _) ?_;rintro e we ⟨⟨v,i,rfl,hn,hsm⟩,hb⟩;obtain⟨rfl,rfl⟩:=hn rfl;clear EN;replace HX:=I (HX.o.below hb);replace HZ:=I (HZ.o.below hb);replace HR:=I (HR.o.below hb);replace HG:=HG.t hb;clear hb hn hsm)
    |fail)
   have hE:=AG (ds:=zz) HR.o (by rfl);have hp:=AM we w.heap.size zz.toList;have hq:=Al (P:=Tryz.prog) hE Tryz.underlying41 rfl HIZ.o;refine bodyPost_ret (v:=.tuple #[.agg zz,.int .i64 2]) ?_ ?_ ?_
   ·exact Ad (v:=.agg zz) 6 7 41 ⟨w.heap.size,0,none⟩ Tryz.results110 rfl hq rfl
   ·rfl
   exact⟨by rw[GE.o,IE.o],Av HG.o hp (by have:=HR.o.lt;omega) Ag⟩
  |some l=>
   rw[ho] at EN
   by_cases hlb:l=b
   ·have BF:=I (decide_eq_true hlb)
    have hD:anD b=some (anQ b).1:=by rw[ED.o,ho,if_pos (by rw[hlb])]
    have GE:=I (show(anC (anG b)).toArray=cs by rw[anG,hD];exact ecs.symm);have IE:=I (show anI b=0 by rw[anI,hD];rfl);clear ED ho hlb hD ecs ez0;go_enter Tryz.func110,Tryz.ntmps110
    go_upto_region 2 with fail
    rw[<-ezz,<-eW];clear ezz eW
    go_wp2_with (first
     |(refine Am (by rfl) 41 (.tmp 8) (by rfl) (w.heap.size+1) 0 (by rfl) zz _ (Ae HZ.o) Tryz.underlying41 (by rfl) HIZ.o ?_)
     |(refine wpList_store_mid (by rfl) 41 (.tmp 6) (.tmp 34) (by rfl) w.heap.size 0 cs (by rfl) (by rfl) (Ar HR.o _ (by have:=HZS.o;have:=HCS.o;omega)) HCI.o HCO.o ?_)
     |(go_at_call 111;refine Aj (T1.o _ (HRD.o _ HG.o)) ?_;rintro w4 hb;clear T1;replace HZ:=I (HZ.o.below hb);replace HR:=I (HR.o.below hb);replace HG:=HG.t hb;clear hb)
     |(refine wpList_store_mid (by rfl) 41 (.tmp 9) (.tmp 18) (by rfl) w4.heap.size 0 cs (by rfl) (by rfl) (Ar (Blk.new w4 41 #[.string ⟨#[]⟩,.string ⟨#[]⟩,.int .i64 0,.int .i64 0]) _ (by have:=HCS.o;simp;omega)) HCI.o HCO.o ?_;have hV:=Bc w4 41 #[.string ⟨#[]⟩,.string ⟨#[]⟩,.int .i64 0,.int .i64 0] cs (by have:=HCS.o;simp;omega);generalize ((w4.alloc (.cells #[.string ⟨#[]⟩,.string ⟨#[]⟩,.int .i64 0,.int .i64 0] 41)).setCells w4.heap.size 0 cs.toList)=V at hV⊢;have HX:=I hV.1;replace HZ:=I (HZ.o.below hV.2);replace HR:=I (HR.o.below hV.2);replace HG:=I (HG.o.trans (hV.2.mono HG.o.size));clear hV)
     |(refine Am (by rfl) 41 (.tmp 9) (by rfl) w4.heap.size 0 (by rfl) cs _ (Ae HX.o) Tryz.underlying41 (by rfl) HCI.o ?_)
     |(go_at_call 112;refine Calls.mono (EN.o _) ?_;rintro e we ⟨⟨v,i,rfl,hn,hsm⟩,hb⟩;obtain⟨rfl,gx,cx,rfl,hgx,hcx,hrx⟩:=hsm l rfl;have HRX:=I hrx;clear hgx hcx hrx;clear EN;replace HX:=I (HX.o.below hb);replace HZ:=I (HZ.o.below hb);replace HR:=I (HR.o.below hb);replace HG:=HG.t hb;clear hb hn hsm)
     |(go_at_call 155;refine Calls.mono (BE.o l gx cx _ HRX.o HG.o) ?_;rw[BF.o];rintro e wb ⟨rfl,hw⟩;subst hw;clear BE)
     |fail)
    have hE:=AG (ds:=cs) HR.o (by have:=HZS.o;have:=HCS.o;omega);have hp:=AM we w.heap.size cs.toList;have hq:=Al (P:=Tryz.prog) hE Tryz.underlying41 rfl HCI.o;refine bodyPost_ret (v:=.tuple #[.agg cs,.int .i64 0]) ?_ ?_ ?_
    ·exact Ad (v:=.agg cs) 6 7 41 ⟨w.heap.size,0,none⟩ Tryz.results110 rfl hq rfl
    ·rfl
    exact⟨by rw[GE.o,IE.o],Av HG.o hp (by have:=HR.o.lt;omega) Ag⟩
   ·have BF:=I (decide_eq_false hlb)
    have hD:anD b=none:=by rw[ED.o,ho,if_neg (fun h=>hlb (Option.some.inj h))]
    have GE:=I (show(anC (anG b)).toArray=zz by rw[anG,hD];exact ez0);have IE:=I (show anI b=2 by rw[anI,hD];rfl);clear ED ho hlb hD ecs ez0;go_enter Tryz.func110,Tryz.ntmps110
    go_upto_region 2 with fail
    rw[<-ezz,<-eW];clear ezz eW
    go_wp2_with (first
     |(refine Am (by rfl) 41 (.tmp 8) (by rfl) (w.heap.size+1) 0 (by rfl) zz _ (Ae HZ.o) Tryz.underlying41 (by rfl) HIZ.o ?_)
     |(refine wpList_store_mid (by rfl) 41 (.tmp 6) (.tmp 33) (by rfl) w.heap.size 0 zz (by rfl) (by rfl) (Ar HR.o _ Ag) HIZ.o HZO.o ?_)
     |(go_at_call 111;refine Aj (T1.o _ (HRD.o _ HG.o)) ?_;rintro w4 hb;clear T1;replace HZ:=I (HZ.o.below hb);replace HR:=I (HR.o.below hb);replace HG:=HG.t hb;clear hb)
     |(refine wpList_store_mid (by rfl) 41 (.tmp 9) (.tmp 18) (by rfl) w4.heap.size 0 cs (by rfl) (by rfl) (Ar (Blk.new w4 41 #[.string ⟨#[]⟩,.string ⟨#[]⟩,.int .i64 0,.int .i64 0]) _ (by have:=HCS.o;simp;omega)) HCI.o HCO.o ?_;have hV:=Bc w4 41 #[.string ⟨#[]⟩,.string ⟨#[]⟩,.int .i64 0,.int .i64 0] cs (by have:=HCS.o;simp;omega);generalize ((w4.alloc (.cells #[.string ⟨#[]⟩,.string ⟨#[]⟩,.int .i64 0,.int .i64 0] 41)).setCells w4.heap.size 0 cs.toList)=V at hV⊢;have HX:=I hV.1;replace HZ:=I (HZ.o.below hV.2);replace HR:=I (HR.o.below hV.2);replace HG:=I (HG.o.trans (hV.2.mono HG.o.size));clear hV)
     |(refine Am (by rfl) 41 (.tmp 9) (by rfl) w4.heap.size 0 (by rfl) cs _ (Ae HX.o) Tryz.underlying41 (by rfl) HCI.o ?_)
     |(go_at_call 112;refine Calls.mono (EN.o _) ?_;rintro e we ⟨⟨v,i,rfl,hn,hsm⟩,hb⟩;obtain⟨rfl,gx,cx,rfl,hgx,hcx,hrx⟩:=hsm l rfl;have HRX:=I hrx;clear hgx hcx hrx;clear EN;replace HX:=I (HX.o.below hb);replace HZ:=I (HZ.o.below hb);replace HR:=I (HR.o.below hb);replace HG:=HG.t hb;clear hb hn hsm)
     |(go_at_call 155;refine Calls.mono (BE.o l gx cx _ HRX.o HG.o) ?_;rw[BF.o];rintro e wb ⟨rfl,hw⟩;subst hw;clear BE)
     |fail)
    have hE:=AG (ds:=zz) HR.o (by rfl);have hp:=AM we w.heap.size zz.toList;have hq:=Al (P:=Tryz.prog) hE Tryz.underlying41 rfl HIZ.o;refine bodyPost_ret (v:=.tuple #[.agg zz,.int .i64 2]) ?_ ?_ ?_
    ·exact Ad (v:=.agg zz) 6 7 41 ⟨w.heap.size,0,none⟩ Tryz.results110 rfl hq rfl
    ·rfl
    exact⟨by rw[GE.o,IE.o],Av HG.o hp (by have:=HR.o.lt;omega) Ag⟩
 ·have t1:decide ((2000:Int)<(b.length:Int))=true:=decide_eq_true (by omega)
  have hD:anD b=none:=by
   rw[ED.o,if_neg];intro h;have h2:=CS.1 h;exact hl (by rw[<-h2.2.2];exact h2.2.1)
  have GE:=I (show(anC (anG b)).toArray=zz by rw[anG,hD];exact ez0);have IE:=I (show anI b=2 by rw[anI,hD];rfl);clear ED hD hl ez0 hr HRD;go_enter Tryz.func110,Tryz.ntmps110
  go_upto_region 2 with fail
  rw[<-ezz,<-eW];clear ezz eW
  go_wp2_with (first
   |(refine Am (by rfl) 41 (.tmp 8) (by rfl) (w.heap.size+1) 0 (by rfl) zz _ (Ae HZ.o) Tryz.underlying41 (by rfl) HIZ.o ?_)
   |(refine wpList_store_mid (by rfl) 41 (.tmp 6) (.tmp 15) (by rfl) w.heap.size 0 zz (by rfl) (by rfl) (Ar HR.o _ Ag) HIZ.o HZO.o ?_)
   |fail)
  have hE:=AG (ds:=zz) HR.o (by rfl);have hp:=AM W w.heap.size zz.toList;have hq:=Al (P:=Tryz.prog) hE Tryz.underlying41 rfl HIZ.o;refine bodyPost_ret (v:=.tuple #[.agg zz,.int .i64 2]) ?_ ?_ ?_
  ·exact Ad (v:=.agg zz) 6 7 41 ⟨w.heap.size,0,none⟩ Tryz.results110 rfl hq rfl
  ·rfl
  exact⟨by rw[GE.o,IE.o],Av HG.o hp (by have:=HR.o.lt;omega) Ag⟩
theorem Dc (A:Option Addr) (b:L) (c:Nat) (w:World) (hr:Rd w w.heap.size A (bvs b)):Calls Tryz.prog 67 #[.slice A b.length c] w fun e w'=>e=.returned (.tuple #[.agg (anC (anG b)).toArray,.int .i64 (anI b)])/\Below w.heap.size w w':=by
 obtain⟨zz,ezz⟩:∃z:Array Value,z=#[.string ⟨#[]⟩,.string ⟨#[]⟩,.int .i64 0,.int .i64 0]:=⟨_,rfl⟩;have hzs:zz.size=4:=by rw[ezz];simp
 have hgs:(anC (anG b)).toArray.size=4:=by rfl
 have hgo:(anC (anG b)).toArray.all (·.oneCell')=true:=NB _;have c1:=Tc A b c (w.alloc (.cells zz 41)) ((hr.alloc Ag _).more (by simp));obtain⟨cs,ecs⟩:=Ak ((anC (anG b)).toArray);rw[<-ecs] at hgs hgo c1⊢;have HI:=I (show(Tryz.prog.info? 41).map (·.size)=some cs.size by rw[hgs];kernel_rfl);have HO:=I hgo;have HCS:=I hgs;have HZS:=I hzs;have HR:=I (Blk.new w 41 zz);have HG:=I ((Below.refl w.heap.size w).alloc Ag (.cells zz 41));clear hgs hgo hzs ecs hr;go_enter Tryz.func67,Tryz.ntmps67
 go_upto_region 1 with fail
 rw[<-ezz];clear ezz
 go_wp2_with (first
  |(go_at_call 110;refine Aj c1 ?_;rintro w1 hb;clear c1;replace HR:=I (HR.o.below hb);replace HG:=HG.t hb;clear hb)
  |(refine wpList_store_mid (by rfl) 41 (.tmp 2) (.tmp 6) (by rfl) w.heap.size 0 cs (by rfl) (by rfl) (Ar HR.o _ (by have:=HZS.o;have:=HCS.o;omega)) HI.o HO.o ?_)
  |fail)
 have hE:=AG (ds:=cs) HR.o (by have:=HZS.o;have:=HCS.o;omega);have hp:=AM w1 w.heap.size cs.toList;have hq:=Al (P:=Tryz.prog) hE Tryz.underlying41 rfl HI.o;refine bodyPost_ret (v:=.tuple #[.agg cs,.int .i64 (anI b)]) ?_ ?_ ?_
 ·exact Ad (v:=.agg cs) 2 3 41 ⟨w.heap.size,0,none⟩ Tryz.results67 rfl hq rfl
 ·rfl
 exact⟨rfl,Av HG.o hp (by have:=HR.o.lt;omega) Ag⟩
theorem Td (A:Option Addr) (b:L) (c:Nat) (w:World) (hr:Rd w w.heap.size A (bvs b)):Calls Tryz.prog 108 #[.slice A b.length c,.func (.func 109) #[] #[],.func (.func 72) #[] #[]] w fun e w'=>e=.returned (.tuple #[.agg (ptC (ptG b)).toArray,.int .i64 (ptI b)])/\Below w.heap.size w w':=by
 obtain⟨zz,ezz⟩:∃z:Array Value,z=#[.string ⟨#[]⟩,.string ⟨#[]⟩,.int .u8 0,.int .u8 0,.int .u8 0,.int .u8 0,.int .u8 0,.int .u8 0,.int .u8 0,.int .u8 0,.int .u8 0,.int .u8 0,.int .u8 0,.int .u8 0,.int .u8 0,.int .u8 0,.int .u8 0,.int .u8 0,.int .u8 0,.int .u8 0,.int .u8 0,.int .u8 0,.int .u8 0,.int .u8 0,.int .u8 0,.int .u8 0,.int .u8 0,.int .u8 0,.int .u8 0,.int .u8 0,.int .u8 0,.int .u8 0,.int .u8 0,.int .u8 0,.string ⟨#[]⟩,.int .i64 0,.int .i64 0]:=⟨_,rfl⟩;have ez0:(ptC pt0).toArray=zz:=by rw[ezz];rfl
 have hzs:zz.size=37:=by rw[ezz];simp
 have hzo:zz.all (·.oneCell')=true:=by rw[<-ez0];exact Gv _ _ _ _ _
 obtain⟨W,eW⟩:=Ak ((w.alloc (.cells zz 39)).alloc (.cells zz 39));have hWs:W.heap.size=w.heap.size+1+1:=by rw[eW];simp
 have hq:=Blk.new (w.alloc (.cells zz 39)) 39 zz;rw[show(w.alloc (.cells zz 39)).heap.size=w.heap.size+1 by simp,<-eW] at hq;have HZ:=I hq;clear hq;have HR:=I (show Blk W w.heap.size 39 zz by rw[eW];exact(Blk.new _ _ _).alloc _);have HG:=I (show Below w.heap.size w W by rw[eW];exact(Ah.alloc Ag _).alloc (by simp) _);have HRD:=I (fun w1 (h:Below w.heap.size w w1)=>(hr.below h).more h.size);have HIZ:=I (show(Tryz.prog.info? 39).map (·.size)=some zz.size by rw[hzs];kernel_rfl);have HZO:=I hzo;have HZS:=I hzs;have ED:=I (SV b);have HWS:=I hWs;clear hWs hzo hzs
 by_cases hl:b.length<=2000
 ·have t1:decide ((2000:Int)<(b.length:Int))=false:=decide_eq_false (by omega)
  have hl1:b.length<=100000:=by omega
  have hb0:=Ki 99 (show((some b:Option L).getD []).length<=100000 from hl1);have hsm:pSm (ptQ b).1.c:=Tb hb0;have htr:(ptQ b).1.tr.length<=1000000000:=Nat.le_trans (Wf (Gh 4 (Gh 48 hb0))) (by omega);have T1:=I (fun w1 (h:Rd w1 w1.heap.size A (bvs b))=>(show Calls Tryz.prog 109 #[.slice A b.length c] w1 fun e w'=>e=.returned (.agg (ptC (ptQ b).1).toArray)/\Below w1.heap.size w1 w' from Qo A b c w1 h hl1));have EN:=I (fun w1=>(show Calls Tryz.prog 72 #[.agg (ptC (ptQ b).1).toArray] w1 (EncR w1 (ptO (ptQ b).1)) from Jx (ptQ b).1 w1 (Lb b) hsm htr));have hcs:(ptC (ptQ b).1).toArray.size=37:=by exact Du (Lb b)
  have hco:(ptC (ptQ b).1).toArray.all (·.oneCell')=true:=Gv _ _ _ _ _;have BE:=I (fun(l:L) (g c2:Nat) (w1:World) (h:Rd w1 w1.heap.size (some ⟨g,0,none⟩) (bvs l)) (hb:Below w.heap.size w w1)=>Ht l b (some ⟨g,0,none⟩) A c2 c w1.heap.size w1 h (HRD.o w1 hb));obtain⟨cs,ecs⟩:=Ak ((ptC (ptQ b).1).toArray);rw[<-ecs] at T1 EN hcs hco;have HCI:=I (show(Tryz.prog.info? 39).map (·.size)=some cs.size by rw[hcs];kernel_rfl);have HCO:=I hco;have HCS:=I hcs;clear hcs hco hl hl1 hr hsm htr hb0;cases ho:ptO (ptQ b).1 with
  |none=>
   rw[ho] at EN;have hD:ptD b=none:=by rw[ED.o,ho];rfl
   have GE:=I (show(ptC (ptG b)).toArray=zz by rw[ptG,hD];exact ez0);have IE:=I (show ptI b=2 by rw[ptI,hD];rfl);clear ED ho hD ecs ez0 BE;go_enter Tryz.func108,Tryz.ntmps108
   go_upto_region 2 with fail
   rw[<-ezz,<-eW];clear ezz eW
   go_wp2_with (first
    |(refine Am (by rfl) 39 (.tmp 8) (by rfl) (w.heap.size+1) 0 (by rfl) zz _ (Ae HZ.o) Tryz.underlying39 (by rfl) HIZ.o ?_)
    |(refine wpList_store_mid (by rfl) 39 (.tmp 6) (.tmp 33) (by rfl) w.heap.size 0 zz (by rfl) (by rfl) (Ar HR.o _ Ag) HIZ.o HZO.o ?_)
    |(go_at_call 109;refine Aj (T1.o _ (HRD.o _ HG.o)) ?_;rintro w4 hb;clear T1;replace HZ:=I (HZ.o.below hb);replace HR:=I (HR.o.below hb);replace HG:=HG.t hb;clear hb)
    |(refine wpList_store_mid (by rfl) 39 (.tmp 9) (.tmp 18) (by rfl) w4.heap.size 0 cs (by rfl) (by rfl) (Ar (Blk.new w4 39 #[.string ⟨#[]⟩,.string ⟨#[]⟩,.int .u8 0,.int .u8 0,.int .u8 0,.int .u8 0,.int .u8 0,.int .u8 0,.int .u8 0,.int .u8 0,.int .u8 0,.int .u8 0,.int .u8 0,.int .u8 0,.int .u8 0,.int .u8 0,.int .u8 0,.int .u8 0,.int .u8 0,.int .u8 0,.int .u8 0,.int .u8 0,.int .u8 0,.int .u8 0,.int .u8 0,.int .u8 0,.int .u8 0,.int .u8 0,.int .u8 0,.int .u8 0,.int .u8 0,.int .u8 0,.int .u8 0,.int .u8 0,.string ⟨#[]⟩,.int .i64 0,.int .i64 0]) _ (by have:=HCS.o;simp;omega)) HCI.o HCO.o ?_;have hV:=Bc w4 39 #[.string ⟨#[]⟩,.string ⟨#[]⟩,.int .u8 0,.int .u8 0,.int .u8 0,.int .u8 0,.int .u8 0,.int .u8 0,.int .u8 0,.int .u8 0,.int .u8 0,.int .u8 0,.int .u8 0,.int .u8 0,.int .u8 0,.int .u8 0,.int .u8 0,.int .u8 0,.int .u8 0,.int .u8 0,.int .u8 0,.int .u8 0,.int .u8 0,.int .u8 0,.int .u8 0,.int .u8 0,.int .u8 0,.int .u8 0,.int .u8 0,.int .u8 0,.int .u8 0,.int .u8 0,.int .u8 0,.int .u8 0,.string ⟨#[]⟩,.int .i64 0,.int .i64 0] cs (by have:=HCS.o;simp;omega);generalize ((w4.alloc (.cells #[.string ⟨#[]⟩,.string ⟨#[]⟩,.int .u8 0,.int .u8 0,.int .u8 0,.int .u8 0,.int .u8 0,.int .u8 0,.int .u8 0,.int .u8 0,.int .u8 0,.int .u8 0,.int .u8 0,.int .u8 0,.int .u8 0,.int .u8 0,.int .u8 0,.int .u8 0,.int .u8 0,.int .u8 0,.int .u8 0,.int .u8 0,.int .u8 0,.int .u8 0,.int .u8 0,.int .u8 0,.int .u8 0,.int .u8 0,.int .u8 0,.int .u8 0,.int .u8 0,.int .u8 0,.int .u8 0,.int .u8 0,.string ⟨#[]⟩,.int .i64 0,.int .i64 0] 39)).setCells w4.heap.size 0 cs.toList)=V at hV⊢;have HX:=I hV.1;replace HZ:=I (HZ.o.below hV.2);replace HR:=I (HR.o.below hV.2);replace HG:=I (HG.o.trans (hV.2.mono HG.o.size));clear hV)
    |(refine Am (by rfl) 39 (.tmp 9) (by rfl) w4.heap.size 0 (by rfl) cs _ (Ae HX.o) Tryz.underlying39 (by rfl) HCI.o ?_)
    |(go_at_call 72;refine Calls.mono (EN.o _) ?_;rintro e we ⟨⟨v,i,rfl,hn,hsm⟩,hb⟩;obtain⟨rfl,rfl⟩:=hn rfl;clear EN;replace HX:=I (HX.o.below hb);replace HZ:=I (HZ.o.below hb);replace HR:=I (HR.o.below hb);replace HG:=HG.t hb;clear hb hn hsm)
    |fail)
   have hE:=AG (ds:=zz) HR.o (by rfl);have hp:=AM we w.heap.size zz.toList;have hq:=Al (P:=Tryz.prog) hE Tryz.underlying39 rfl HIZ.o;refine bodyPost_ret (v:=.tuple #[.agg zz,.int .i64 2]) ?_ ?_ ?_
   ·exact Ad (v:=.agg zz) 6 7 39 ⟨w.heap.size,0,none⟩ Tryz.results108 rfl hq rfl
   ·rfl
   exact⟨by rw[GE.o,IE.o],Av HG.o hp (by have:=HR.o.lt;omega) Ag⟩
  |some l=>
   rw[ho] at EN
   by_cases hlb:l=b
   ·have BF:=I (decide_eq_true hlb)
    have hD:ptD b=some (ptQ b).1:=by rw[ED.o,ho,if_pos (by rw[hlb])]
    have GE:=I (show(ptC (ptG b)).toArray=cs by rw[ptG,hD];exact ecs.symm);have IE:=I (show ptI b=0 by rw[ptI,hD];rfl);clear ED ho hlb hD ecs ez0;go_enter Tryz.func108,Tryz.ntmps108
    go_upto_region 2 with fail
    rw[<-ezz,<-eW];clear ezz eW
    go_wp2_with (first
     |(refine Am (by rfl) 39 (.tmp 8) (by rfl) (w.heap.size+1) 0 (by rfl) zz _ (Ae HZ.o) Tryz.underlying39 (by rfl) HIZ.o ?_)
     |(refine wpList_store_mid (by rfl) 39 (.tmp 6) (.tmp 34) (by rfl) w.heap.size 0 cs (by rfl) (by rfl) (Ar HR.o _ (by have:=HZS.o;have:=HCS.o;omega)) HCI.o HCO.o ?_)
     |(go_at_call 109;refine Aj (T1.o _ (HRD.o _ HG.o)) ?_;rintro w4 hb;clear T1;replace HZ:=I (HZ.o.below hb);replace HR:=I (HR.o.below hb);replace HG:=HG.t hb;clear hb)
     |(refine wpList_store_mid (by rfl) 39 (.tmp 9) (.tmp 18) (by rfl) w4.heap.size 0 cs (by rfl) (by rfl) (Ar (Blk.new w4 39 #[.string ⟨#[]⟩,.string ⟨#[]⟩,.int .u8 0,.int .u8 0,.int .u8 0,.int .u8 0,.int .u8 0,.int .u8 0,.int .u8 0,.int .u8 0,.int .u8 0,.int .u8 0,.int .u8 0,.int .u8 0,.int .u8 0,.int .u8 0,.int .u8 0,.int .u8 0,.int .u8 0,.int .u8 0,.int .u8 0,.int .u8 0,.int .u8 0,.int .u8 0,.int .u8 0,.int .u8 0,.int .u8 0,.int .u8 0,.int .u8 0,.int .u8 0,.int .u8 0,.int .u8 0,.int .u8 0,.int .u8 0,.string ⟨#[]⟩,.int .i64 0,.int .i64 0]) _ (by have:=HCS.o;simp;omega)) HCI.o HCO.o ?_;have hV:=Bc w4 39 #[.string ⟨#[]⟩,.string ⟨#[]⟩,.int .u8 0,.int .u8 0,.int .u8 0,.int .u8 0,.int .u8 0,.int .u8 0,.int .u8 0,.int .u8 0,.int .u8 0,.int .u8 0,.int .u8 0,.int .u8 0,.int .u8 0,.int .u8 0,.int .u8 0,.int .u8 0,.int .u8 0,.int .u8 0,.int .u8 0,.int .u8 0,.int .u8 0,.int .u8 0,.int .u8 0,.int .u8 0,.int .u8 0,.int .u8 0,.int .u8 0,.int .u8 0,.int .u8 0,.int .u8 0,.int .u8 0,.int .u8 0,.string ⟨#[]⟩,.int .i64 0,.int .i64 0] cs (by have:=HCS.o;simp;omega);generalize ((w4.alloc (.cells #[.string ⟨#[]⟩,.string ⟨#[]⟩,.int .u8 0,.int .u8 0,.int .u8 0,.int .u8 0,.int .u8 0,.int .u8 0,.int .u8 0,.int .u8 0,.int .u8 0,.int .u8 0,.int .u8 0,.int .u8 0,.int .u8 0,.int .u8 0,.int .u8 0,.int .u8 0,.int .u8 0,.int .u8 0,.int .u8 0,.int .u8 0,.int .u8 0,.int .u8 0,.int .u8 0,.int .u8 0,.int .u8 0,.int .u8 0,.int .u8 0,.int .u8 0,.int .u8 0,.int .u8 0,.int .u8 0,.int .u8 0,.string ⟨#[]⟩,.int .i64 0,.int .i64 0] 39)).setCells w4.heap.size 0 cs.toList)=V at hV⊢;have HX:=I hV.1;replace HZ:=I (HZ.o.below hV.2);replace HR:=I (HR.o.below hV.2);replace HG:=I (HG.o.trans (hV.2.mono HG.o.size));clear hV)
     |(refine Am (by rfl) 39 (.tmp 9) (by rfl) w4.heap.size 0 (by rfl) cs _ (Ae HX.o) Tryz.underlying39 (by rfl) HCI.o ?_)
     |(go_at_call 72;refine Calls.mono (EN.o _) ?_;rintro e we ⟨⟨v,i,rfl,hn,hsm⟩,hb⟩;obtain⟨rfl,gx,cx,rfl,hgx,hcx,hrx⟩:=hsm l rfl;have HRX:=I hrx;clear hgx hcx hrx;clear EN;replace HX:=I (HX.o.below hb);replace HZ:=I (HZ.o.below hb);replace HR:=I (HR.o.below hb);replace HG:=HG.t hb;clear hb hn hsm)
     |(go_at_call 155;refine Calls.mono (BE.o l gx cx _ HRX.o HG.o) ?_;rw[BF.o];rintro e wb ⟨rfl,hw⟩;subst hw;clear BE)
     |fail)
    have hE:=AG (ds:=cs) HR.o (by have:=HZS.o;have:=HCS.o;omega);have hp:=AM we w.heap.size cs.toList;have hq:=Al (P:=Tryz.prog) hE Tryz.underlying39 rfl HCI.o;refine bodyPost_ret (v:=.tuple #[.agg cs,.int .i64 0]) ?_ ?_ ?_
    ·exact Ad (v:=.agg cs) 6 7 39 ⟨w.heap.size,0,none⟩ Tryz.results108 rfl hq rfl
    ·rfl
    exact⟨by rw[GE.o,IE.o],Av HG.o hp (by have:=HR.o.lt;omega) Ag⟩
   ·have BF:=I (decide_eq_false hlb)
    have hD:ptD b=none:=by rw[ED.o,ho,if_neg (fun h=>hlb (Option.some.inj h))]
    have GE:=I (show(ptC (ptG b)).toArray=zz by rw[ptG,hD];exact ez0);have IE:=I (show ptI b=2 by rw[ptI,hD];rfl);clear ED ho hlb hD ecs ez0;go_enter Tryz.func108,Tryz.ntmps108
    go_upto_region 2 with fail
    rw[<-ezz,<-eW];clear ezz eW
    go_wp2_with (first
     |(refine Am (by rfl) 39 (.tmp 8) (by rfl) (w.heap.size+1) 0 (by rfl) zz _ (Ae HZ.o) Tryz.underlying39 (by rfl) HIZ.o ?_)
     |(refine wpList_store_mid (by rfl) 39 (.tmp 6) (.tmp 33) (by rfl) w.heap.size 0 zz (by rfl) (by rfl) (Ar HR.o _ Ag) HIZ.o HZO.o ?_)
     |(go_at_call 109;refine Aj (T1.o _ (HRD.o _ HG.o)) ?_;rintro w4 hb;clear T1;replace HZ:=I (HZ.o.below hb);replace HR:=I (HR.o.below hb);replace HG:=HG.t hb;clear hb)
     |(refine wpList_store_mid (by rfl) 39 (.tmp 9) (.tmp 18) (by rfl) w4.heap.size 0 cs (by rfl) (by rfl) (Ar (Blk.new w4 39 #[.string ⟨#[]⟩,.string ⟨#[]⟩,.int .u8 0,.int .u8 0,.int .u8 0,.int .u8 0,.int .u8 0,.int .u8 0,.int .u8 0,.int .u8 0,.int .u8 0,.int .u8 0,.int .u8 0,.int .u8 0,.int .u8 0,.int .u8 0,.int .u8 0,.int .u8 0,.int .u8 0,.int .u8 0,.int .u8 0,.int .u8 0,.int .u8 0,.int .u8 0,.int .u8 0,.int .u8 0,.int .u8 0,.int .u8 0,.int .u8 0,.int .u8 0,.int .u8 0,.int .u8 0,.int .u8 0,.int .u8 0,.string ⟨#[]⟩,.int .i64 0,.int .i64 0]) _ (by have:=HCS.o;simp;omega)) HCI.o HCO.o ?_;have hV:=Bc w4 39 #[.string ⟨#[]⟩,.string ⟨#[]⟩,.int .u8 0,.int .u8 0,.int .u8 0,.int .u8 0,.int .u8 0,.int .u8 0,.int .u8 0,.int .u8 0,.int .u8 0,.int .u8 0,.int .u8 0,.int .u8 0,.int .u8 0,.int .u8 0,.int .u8 0,.int .u8 0,.int .u8 0,.int .u8 0,.int .u8 0,.int .u8 0,.int .u8 0,.int .u8 0,.int .u8 0,.int .u8 0,.int .u8 0,.int .u8 0,.int .u8 0,.int .u8 0,.int .u8 0,.int .u8 0,.int .u8 0,.int .u8 0,.string ⟨#[]⟩,.int .i64 0,.int .i64 0] cs (by have:=HCS.o;simp;omega);generalize ((w4.alloc (.cells #[.string ⟨#[]⟩,.string ⟨#[]⟩,.int .u8 0,.int .u8 0,.int .u8 0,.int .u8 0,.int .u8 0,.int .u8 0,.int .u8 0,.int .u8 0,.int .u8 0,.int .u8 0,.int .u8 0,.int .u8 0,.int .u8 0,.int .u8 0,.int .u8 0,.int .u8 0,.int .u8 0,.int .u8 0,.int .u8 0,.int .u8 0,.int .u8 0,.int .u8 0,.int .u8 0,.int .u8 0,.int .u8 0,.int .u8 0,.int .u8 0,.int .u8 0,.int .u8 0,.int .u8 0,.int .u8 0,.int .u8 0,.string ⟨#[]⟩,.int .i64 0,.int .i64 0] 39)).setCells w4.heap.size 0 cs.toList)=V at hV⊢;have HX:=I hV.1;replace HZ:=I (HZ.o.below hV.2);replace HR:=I (HR.o.below hV.2);replace HG:=I (HG.o.trans (hV.2.mono HG.o.size));clear hV)
     |(refine Am (by rfl) 39 (.tmp 9) (by rfl) w4.heap.size 0 (by rfl) cs _ (Ae HX.o) Tryz.underlying39 (by rfl) HCI.o ?_)
     |(go_at_call 72;refine Calls.mono (EN.o _) ?_;rintro e we ⟨⟨v,i,rfl,hn,hsm⟩,hb⟩;obtain⟨rfl,gx,cx,rfl,hgx,hcx,hrx⟩:=hsm l rfl;have HRX:=I hrx;clear hgx hcx hrx;clear EN;replace HX:=I (HX.o.below hb);replace HZ:=I (HZ.o.below hb);replace HR:=I (HR.o.below hb);replace HG:=HG.t hb;clear hb hn hsm)
     |(go_at_call 155;refine Calls.mono (BE.o l gx cx _ HRX.o HG.o) ?_;rw[BF.o];rintro e wb ⟨rfl,hw⟩;subst hw;clear BE)
     |fail)
    have hE:=AG (ds:=zz) HR.o (by rfl);have hp:=AM we w.heap.size zz.toList;have hq:=Al (P:=Tryz.prog) hE Tryz.underlying39 rfl HIZ.o;refine bodyPost_ret (v:=.tuple #[.agg zz,.int .i64 2]) ?_ ?_ ?_
    ·exact Ad (v:=.agg zz) 6 7 39 ⟨w.heap.size,0,none⟩ Tryz.results108 rfl hq rfl
    ·rfl
    exact⟨by rw[GE.o,IE.o],Av HG.o hp (by have:=HR.o.lt;omega) Ag⟩
 ·have t1:decide ((2000:Int)<(b.length:Int))=true:=decide_eq_true (by omega)
  have hD:ptD b=none:=by
   rw[ED.o,if_neg];intro h;have h2:=CS.1 h;exact hl (by rw[<-h2.2.2];exact h2.2.1)
  have GE:=I (show(ptC (ptG b)).toArray=zz by rw[ptG,hD];exact ez0);have IE:=I (show ptI b=2 by rw[ptI,hD];rfl);clear ED hD hl ez0 hr HRD;go_enter Tryz.func108,Tryz.ntmps108
  go_upto_region 2 with fail
  rw[<-ezz,<-eW];clear ezz eW
  go_wp2_with (first
   |(refine Am (by rfl) 39 (.tmp 8) (by rfl) (w.heap.size+1) 0 (by rfl) zz _ (Ae HZ.o) Tryz.underlying39 (by rfl) HIZ.o ?_)
   |(refine wpList_store_mid (by rfl) 39 (.tmp 6) (.tmp 15) (by rfl) w.heap.size 0 zz (by rfl) (by rfl) (Ar HR.o _ Ag) HIZ.o HZO.o ?_)
   |fail)
  have hE:=AG (ds:=zz) HR.o (by rfl);have hp:=AM W w.heap.size zz.toList;have hq:=Al (P:=Tryz.prog) hE Tryz.underlying39 rfl HIZ.o;refine bodyPost_ret (v:=.tuple #[.agg zz,.int .i64 2]) ?_ ?_ ?_
  ·exact Ad (v:=.agg zz) 6 7 39 ⟨w.heap.size,0,none⟩ Tryz.results108 rfl hq rfl
  ·rfl
  exact⟨by rw[GE.o,IE.o],Av HG.o hp (by have:=HR.o.lt;omega) Ag⟩
theorem JB (A:Option Addr) (b:L) (c:Nat) (w:World) (hr:Rd w w.heap.size A (bvs b)):Calls Tryz.prog 66 #[.slice A b.length c] w fun e w'=>e=.returned (.tuple #[.agg (ptC (ptG b)).toArray,.int .i64 (ptI b)])/\Below w.heap.size w w':=by
 obtain⟨zz,ezz⟩:∃z:Array Value,z=#[.string ⟨#[]⟩,.string ⟨#[]⟩,.int .u8 0,.int .u8 0,.int .u8 0,.int .u8 0,.int .u8 0,.int .u8 0,.int .u8 0,.int .u8 0,.int .u8 0,.int .u8 0,.int .u8 0,.int .u8 0,.int .u8 0,.int .u8 0,.int .u8 0,.int .u8 0,.int .u8 0,.int .u8 0,.int .u8 0,.int .u8 0,.int .u8 0,.int .u8 0,.int .u8 0,.int .u8 0,.int .u8 0,.int .u8 0,.int .u8 0,.int .u8 0,.int .u8 0,.int .u8 0,.int .u8 0,.int .u8 0,.string ⟨#[]⟩,.int .i64 0,.int .i64 0]:=⟨_,rfl⟩;have hzs:zz.size=37:=by rw[ezz];simp
 have hgs:(ptC (ptG b)).toArray.size=37:=by exact Du (NC b)
 have hgo:(ptC (ptG b)).toArray.all (·.oneCell')=true:=Gv _ _ _ _ _;have c1:=Td A b c (w.alloc (.cells zz 39)) ((hr.alloc Ag _).more (by simp));obtain⟨cs,ecs⟩:=Ak ((ptC (ptG b)).toArray);rw[<-ecs] at hgs hgo c1⊢;have HI:=I (show(Tryz.prog.info? 39).map (·.size)=some cs.size by rw[hgs];kernel_rfl);have HO:=I hgo;have HCS:=I hgs;have HZS:=I hzs;have HR:=I (Blk.new w 39 zz);have HG:=I ((Below.refl w.heap.size w).alloc Ag (.cells zz 39));clear hgs hgo hzs ecs hr;go_enter Tryz.func66,Tryz.ntmps66
 go_upto_region 1 with fail
 rw[<-ezz];clear ezz
 go_wp2_with (first
  |(go_at_call 108;refine Aj c1 ?_;rintro w1 hb;clear c1;replace HR:=I (HR.o.below hb);replace HG:=HG.t hb;clear hb)
  |(refine wpList_store_mid (by rfl) 39 (.tmp 2) (.tmp 6) (by rfl) w.heap.size 0 cs (by rfl) (by rfl) (Ar HR.o _ (by have:=HZS.o;have:=HCS.o;omega)) HI.o HO.o ?_)
  |fail)
 have hE:=AG (ds:=cs) HR.o (by have:=HZS.o;have:=HCS.o;omega);have hp:=AM w1 w.heap.size cs.toList;have hq:=Al (P:=Tryz.prog) hE Tryz.underlying39 rfl HI.o;refine bodyPost_ret (v:=.tuple #[.agg cs,.int .i64 (ptI b)]) ?_ ?_ ?_
 ·exact Ad (v:=.agg cs) 2 3 39 ⟨w.heap.size,0,none⟩ Tryz.results66 rfl hq rfl
 ·rfl
 exact⟨rfl,Av HG.o hp (by have:=HR.o.lt;omega) Ag⟩
end Mc
end Go.Proofs.YtlchkbpffaclmaaGreat
