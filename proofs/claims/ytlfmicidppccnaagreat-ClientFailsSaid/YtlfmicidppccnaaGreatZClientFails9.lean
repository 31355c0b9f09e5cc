import Derived.Test.YtlfmicidppccnaaGreatZClientFails8
set_option maxHeartbeats 25600000
set_option maxRecDepth 100000
set_option linter.unusedVariables false
set_option linter.unusedSimpArgs false
namespace Go.Proofs.YtlfmicidppccnaaGreat
namespace Ms
open Go.RowKit Ad DerP
theorem LA (m:Mg) (A1 A2 A3 A4 A5 A6:Option Addr) (c1 c2 c3 c4 c5 c6:Nat) (w:World) (hs:mSm m) :
  Calls Tryz.prog 69 #[.agg #[.int .i64 m.k,.string ⟨m.aq.c.1.toArray⟩,.string ⟨m.aq.c.2.toArray⟩,.string ⟨m.aq.s.1.toArray⟩,.string ⟨m.aq.s.2.toArray⟩,.int .i64 m.aq.t,.int .i64 m.aq.no,.string ⟨m.tg.t.s.1.toArray⟩,.string ⟨m.tg.t.s.2.toArray⟩,.int .i64 m.tg.t.k,.slice A1 m.tg.t.b.length c1,.slice A2 m.tg.a.length c2,.string ⟨m.tg.s.1.toArray⟩,.string ⟨m.tg.s.2.toArray⟩,.int .i64 m.tg.u,.int .i64 m.tg.no,.string ⟨m.re.c.1.toArray⟩,.string ⟨m.re.c.2.toArray⟩,.string ⟨m.re.t.s.1.toArray⟩,.string ⟨m.re.t.s.2.toArray⟩,.int .i64 m.re.t.k,.slice A3 m.re.t.b.length c3,.slice A4 m.re.b.length c4,.string ⟨m.ap.t.s.1.toArray⟩,.string ⟨m.ap.t.s.2.toArray⟩,.int .i64 m.ap.t.k,.slice A5 m.ap.t.b.length c5,.slice A6 m.ap.a.length c6,.int .i64 m.fa.e,.int .i64 m.fa.no]] w fun e w'=>e = .returned (.bool (mgB m))∧Below w.heap.size w w':=by
 have HB:=I ((Below.refl w.heap.size w).alloc Ae (.cells #[.int .i64 m.k,.string ⟨m.aq.c.1.toArray⟩,.string ⟨m.aq.c.2.toArray⟩,.string ⟨m.aq.s.1.toArray⟩,.string ⟨m.aq.s.2.toArray⟩,.int .i64 m.aq.t,.int .i64 m.aq.no,.string ⟨m.tg.t.s.1.toArray⟩,.string ⟨m.tg.t.s.2.toArray⟩,.int .i64 m.tg.t.k,.slice A1 m.tg.t.b.length c1,.slice A2 m.tg.a.length c2,.string ⟨m.tg.s.1.toArray⟩,.string ⟨m.tg.s.2.toArray⟩,.int .i64 m.tg.u,.int .i64 m.tg.no,.string ⟨m.re.c.1.toArray⟩,.string ⟨m.re.c.2.toArray⟩,.string ⟨m.re.t.s.1.toArray⟩,.string ⟨m.re.t.s.2.toArray⟩,.int .i64 m.re.t.k,.slice A3 m.re.t.b.length c3,.slice A4 m.re.b.length c4,.string ⟨m.ap.t.s.1.toArray⟩,.string ⟨m.ap.t.s.2.toArray⟩,.int .i64 m.ap.t.k,.slice A5 m.ap.t.b.length c5,.slice A6 m.ap.a.length c6,.int .i64 m.fa.e,.int .i64 m.fa.no] 76));have HK:=I (Blk.new w 76 #[.int .i64 m.k,.string ⟨m.aq.c.1.toArray⟩,.string ⟨m.aq.c.2.toArray⟩,.string ⟨m.aq.s.1.toArray⟩,.string ⟨m.aq.s.2.toArray⟩,.int .i64 m.aq.t,.int .i64 m.aq.no,.string ⟨m.tg.t.s.1.toArray⟩,.string ⟨m.tg.t.s.2.toArray⟩,.int .i64 m.tg.t.k,.slice A1 m.tg.t.b.length c1,.slice A2 m.tg.a.length c2,.string ⟨m.tg.s.1.toArray⟩,.string ⟨m.tg.s.2.toArray⟩,.int .i64 m.tg.u,.int .i64 m.tg.no,.string ⟨m.re.c.1.toArray⟩,.string ⟨m.re.c.2.toArray⟩,.string ⟨m.re.t.s.1.toArray⟩,.string ⟨m.re.t.s.2.toArray⟩,.int .i64 m.re.t.k,.slice A3 m.re.t.b.length c3,.slice A4 m.re.b.length c4,.string ⟨m.ap.t.s.1.toArray⟩,.string ⟨m.ap.t.s.2.toArray⟩,.int .i64 m.ap.t.k,.slice A5 m.ap.t.b.length c5,.slice A6 m.ap.a.length c6,.int .i64 m.fa.e,.int .i64 m.fa.no]);have N1:=I (fun w1=>Fm m.tg.t A1 c1 w1);have N2:=I (fun w1=>Fm m.re.t A3 c3 w1);have N3:=I (fun w1=>Fm m.ap.t A5 c5 w1);have HZ:=I hs;clear hs;go_enter Tryz.func69,Tryz.ntmps69
 go_upto_region 2 with fail
 obtain⟨W,eW⟩:∃W,W=w.alloc (.cells #[.int .i64 m.k,.string ⟨m.aq.c.1.toArray⟩,.string ⟨m.aq.c.2.toArray⟩,.string ⟨m.aq.s.1.toArray⟩,.string ⟨m.aq.s.2.toArray⟩,.int .i64 m.aq.t,.int .i64 m.aq.no,.string ⟨m.tg.t.s.1.toArray⟩,.string ⟨m.tg.t.s.2.toArray⟩,.int .i64 m.tg.t.k,.slice A1 m.tg.t.b.length c1,.slice A2 m.tg.a.length c2,.string ⟨m.tg.s.1.toArray⟩,.string ⟨m.tg.s.2.toArray⟩,.int .i64 m.tg.u,.int .i64 m.tg.no,.string ⟨m.re.c.1.toArray⟩,.string ⟨m.re.c.2.toArray⟩,.string ⟨m.re.t.s.1.toArray⟩,.string ⟨m.re.t.s.2.toArray⟩,.int .i64 m.re.t.k,.slice A3 m.re.t.b.length c3,.slice A4 m.re.b.length c4,.string ⟨m.ap.t.s.1.toArray⟩,.string ⟨m.ap.t.s.2.toArray⟩,.int .i64 m.ap.t.k,.slice A5 m.ap.t.b.length c5,.slice A6 m.ap.a.length c6,.int .i64 m.fa.e,.int .i64 m.fa.no] 76):=⟨_,rfl⟩;rw[←eW] at HB HK⊢;clear eW
 go_cut [4,5] from 11 to 44 (fun av tv wx=>av = .bool (decide (m.aq=as0))∧tv = .bool (decide (m.tg=tg0))∧Below w.heap.size w wx∧Blk wx w.heap.size 76 #[.int .i64 m.k,.string ⟨m.aq.c.1.toArray⟩,.string ⟨m.aq.c.2.toArray⟩,.string ⟨m.aq.s.1.toArray⟩,.string ⟨m.aq.s.2.toArray⟩,.int .i64 m.aq.t,.int .i64 m.aq.no,.string ⟨m.tg.t.s.1.toArray⟩,.string ⟨m.tg.t.s.2.toArray⟩,.int .i64 m.tg.t.k,.slice A1 m.tg.t.b.length c1,.slice A2 m.tg.a.length c2,.string ⟨m.tg.s.1.toArray⟩,.string ⟨m.tg.s.2.toArray⟩,.int .i64 m.tg.u,.int .i64 m.tg.no,.string ⟨m.re.c.1.toArray⟩,.string ⟨m.re.c.2.toArray⟩,.string ⟨m.re.t.s.1.toArray⟩,.string ⟨m.re.t.s.2.toArray⟩,.int .i64 m.re.t.k,.slice A3 m.re.t.b.length c3,.slice A4 m.re.b.length c4,.string ⟨m.ap.t.s.1.toArray⟩,.string ⟨m.ap.t.s.2.toArray⟩,.int .i64 m.ap.t.k,.slice A5 m.ap.t.b.length c5,.slice A6 m.ap.a.length c6,.int .i64 m.fa.e,.int .i64 m.fa.no])
 case first=>
  have TF:=I (Ns m.tg);replace HK:=I (show Blk W.drew _ _ _ from HK.o.drewN 1);replace HB:=I (show Below _ _ W.drew from below_drewN HB.o 1);cases q1:decide (m.tg.t=tk0) with
  |false=>
   rw[q1] at N1;have E:=I (show decide (m.tg=tg0)=false by rw[TF.o,q1];rfl);clear q1;refine Reg.AF 36 rfl (by kernel_rfl) ?_;refine Reg.Ab 0 (v:=?va0) rfl (by kernel_rfl) (by kernel_rfl) (by kernel_rfl) (fun _ _ _ h=>h) (by rfl) (fun w' hS=>?ha0) ?ra0
   case ha0=>go_simp;rfl
   simp only[Act.put,J,U,Aa];refine Reg.Ab 1 (v:=?va1) rfl (by kernel_rfl) (by kernel_rfl) (by kernel_rfl) (fun _ _ _ h=>h) (by rfl) (fun w' hS=>?ha1) ?ra1
   case ha1=>have hk:=HK.o.below hS;have k1:w'.cell? ⟨w.heap.size,1,none⟩=some (.string ⟨m.aq.c.1.toArray⟩):=hk.cell 1;have k2:w'.cell? ⟨w.heap.size,2,none⟩=some (.string ⟨m.aq.c.2.toArray⟩):=hk.cell 2;have k3:w'.cell? ⟨w.heap.size,3,none⟩=some (.string ⟨m.aq.s.1.toArray⟩):=hk.cell 3;have k4:w'.cell? ⟨w.heap.size,4,none⟩=some (.string ⟨m.aq.s.2.toArray⟩):=hk.cell 4;have k5:w'.cell? ⟨w.heap.size,5,none⟩=some (.int .i64 m.aq.t):=hk.cell 5;have k6:w'.cell? ⟨w.heap.size,6,none⟩=some (.int .i64 m.aq.no):=hk.cell 6;go_simp;rfl
   simp only[Act.put,J,U,Aa];refine Reg.Ab 2 (v:=?va2) rfl (by kernel_rfl) (by kernel_rfl) (by kernel_rfl) (fun _ _ _ h=>h) (by rfl) (fun w' hS=>?ha2) ?ra2
   case ha2=>go_simp;rfl
   simp only[Act.put,J,U,Aa];refine Reg.Ab 3 (v:=.bool (decide (m.aq=as0))) rfl (by kernel_rfl) (by kernel_rfl) (by kernel_rfl) (fun _ _ _ h=>h) (by rfl) (fun w' hS=>?ha3) ?ra3
   case ha3=>go_simp;exact FO m.aq (fun b=>Result.ok (Next.value (.bool b)) w')
   simp only[Act.put,J,U,Aa];refine Reg.Ab 4 (v:=?va4) rfl (by kernel_rfl) (by kernel_rfl) (by kernel_rfl) (fun _ _ _ h=>h) (by rfl) (fun w' hS=>?ha4) ?ra4
   case ha4=>go_simp;rfl
   simp only[Act.put,J,U,Aa];refine Reg.Ab 5 (v:=?va5) rfl (by kernel_rfl) (by kernel_rfl) (by kernel_rfl) (fun _ _ _ h=>h) (by rfl) (fun w' hS=>?ha5) ?ra5
   case ha5=>go_simp;rfl
   simp only[Act.put,J,U,Aa];refine Reg.Ab 6 (v:=?va6) rfl (by kernel_rfl) (by kernel_rfl) (by kernel_rfl) (fun _ _ _ h=>h) (by rfl) (fun w' hS=>?ha6) ?ra6
   case ha6=>have hk:=HK.o.below hS;have k7:w'.cell? ⟨w.heap.size,7,none⟩=some (.string ⟨m.tg.t.s.1.toArray⟩):=hk.cell 7;have k8:w'.cell? ⟨w.heap.size,8,none⟩=some (.string ⟨m.tg.t.s.2.toArray⟩):=hk.cell 8;have k9:w'.cell? ⟨w.heap.size,9,none⟩=some (.int .i64 m.tg.t.k):=hk.cell 9;have k10:w'.cell? ⟨w.heap.size,10,none⟩=some (.slice A1 m.tg.t.b.length c1):=hk.cell 10;go_simp;rfl
   simp only[Act.put,J,U,Aa];refine Reg.Bj 7 rfl (by kernel_rfl) (by rfl) 115 #[.agg #[.string ⟨m.tg.t.s.1.toArray⟩,.string ⟨m.tg.t.s.2.toArray⟩,.int .i64 m.tg.t.k,.slice A1 m.tg.t.b.length c1]] (by go_simp) ?_;refine Calls.mono (N1.o _) ?_;rintro e wn ⟨rfl,hb⟩;refine⟨_,rfl,hb,?_⟩;replace HK:=I (HK.o.below hb);replace HB:=HB.t hb;clear hb;simp only[Act.put,J,U,Aa];refine Reg.Ab 8 (v:=?va8) rfl (by kernel_rfl) (by kernel_rfl) (by kernel_rfl) (fun _ _ _ h=>h) (by rfl) (fun w' hS=>?ha8) ?ra8
   case ha8=>go_simp;rfl
   simp only[Act.put,J,U,Aa];refine Reg.Ar 9 rfl (by kernel_rfl) (by kernel_rfl) (by kernel_rfl) (fun _ _ _ h=>h) (by rfl) ?_;simp only[Act.put,J,U,Aa];refine Reg.Ar 10 rfl (by kernel_rfl) (by kernel_rfl) (by kernel_rfl) (fun _ _ _ h=>h) (by rfl) ?_;simp only[Act.put,J,U,Aa];refine Reg.Ar 11 rfl (by kernel_rfl) (by kernel_rfl) (by kernel_rfl) (fun _ _ _ h=>h) (by rfl) ?_;simp only[Act.put,J,U,Aa];refine Reg.Ar 12 rfl (by kernel_rfl) (by kernel_rfl) (by kernel_rfl) (fun _ _ _ h=>h) (by rfl) ?_;simp only[Act.put,J,U,Aa];refine Reg.Ar 13 rfl (by kernel_rfl) (by kernel_rfl) (by kernel_rfl) (fun _ _ _ h=>h) (by rfl) ?_;simp only[Act.put,J,U,Aa];refine Reg.Ab 14 (v:=?va14) rfl (by kernel_rfl) (by kernel_rfl) (by kernel_rfl) (fun _ _ _ h=>h) (by rfl) (fun w' hS=>?ha14) ?ra14
   case ha14=>go_simp;rfl
   simp only[Act.put,J,U,Aa];refine Reg.Ab 15 (v:=?va15) rfl (by kernel_rfl) (by kernel_rfl) (by kernel_rfl) (fun _ _ _ h=>h) (by rfl) (fun w' hS=>?ha15) ?ra15
   case ha15=>go_simp;rfl
   simp only[Act.put,J,U,Aa];refine Reg.Ar 16 rfl (by kernel_rfl) (by kernel_rfl) (by kernel_rfl) (fun _ _ _ h=>h) (by rfl) ?_;simp only[Act.put,J,U,Aa];refine Reg.Ar 17 rfl (by kernel_rfl) (by kernel_rfl) (by kernel_rfl) (fun _ _ _ h=>h) (by rfl) ?_;simp only[Act.put,J,U,Aa];refine Reg.Ar 18 rfl (by kernel_rfl) (by kernel_rfl) (by kernel_rfl) (fun _ _ _ h=>h) (by rfl) ?_;simp only[Act.put,J,U,Aa];refine Reg.Ar 19 rfl (by kernel_rfl) (by kernel_rfl) (by kernel_rfl) (fun _ _ _ h=>h) (by rfl) ?_;simp only[Act.put,J,U,Aa];refine Reg.Ar 20 rfl (by kernel_rfl) (by kernel_rfl) (by kernel_rfl) (fun _ _ _ h=>h) (by rfl) ?_;simp only[Act.put,J,U,Aa];refine Reg.Ab 21 (v:=?va21) rfl (by kernel_rfl) (by kernel_rfl) (by kernel_rfl) (fun _ _ _ h=>h) (by rfl) (fun w' hS=>?ha21) ?ra21
   case ha21=>go_simp;rfl
   simp only[Act.put,J,U,Aa];refine Reg.Ab 22 (v:=?va22) rfl (by kernel_rfl) (by kernel_rfl) (by kernel_rfl) (fun _ _ _ h=>h) (by rfl) (fun w' hS=>?ha22) ?ra22
   case ha22=>go_simp;rfl
   simp only[Act.put,J,U,Aa];refine Reg.Ar 23 rfl (by kernel_rfl) (by kernel_rfl) (by kernel_rfl) (fun _ _ _ h=>h) (by rfl) ?_;simp only[Act.put,J,U,Aa];refine Reg.Ar 24 rfl (by kernel_rfl) (by kernel_rfl) (by kernel_rfl) (fun _ _ _ h=>h) (by rfl) ?_;simp only[Act.put,J,U,Aa];refine Reg.Ar 25 rfl (by kernel_rfl) (by kernel_rfl) (by kernel_rfl) (fun _ _ _ h=>h) (by rfl) ?_;simp only[Act.put,J,U,Aa];refine Reg.Ar 26 rfl (by kernel_rfl) (by kernel_rfl) (by kernel_rfl) (fun _ _ _ h=>h) (by rfl) ?_;simp only[Act.put,J,U,Aa];refine Reg.Ab 27 (v:=?va27) rfl (by kernel_rfl) (by kernel_rfl) (by kernel_rfl) (fun _ _ _ h=>h) (by rfl) (fun w' hS=>?ha27) ?ra27
   case ha27=>go_simp;rfl
   simp only[Act.put,J,U,Aa];refine Reg.Ab 28 (v:=?va28) rfl (by kernel_rfl) (by kernel_rfl) (by kernel_rfl) (fun _ _ _ h=>h) (by rfl) (fun w' hS=>?ha28) ?ra28
   case ha28=>go_simp;rfl
   simp only[Act.put,J,U,Aa];refine Reg.Ar 29 rfl (by kernel_rfl) (by kernel_rfl) (by kernel_rfl) (fun _ _ _ h=>h) (by rfl) ?_;simp only[Act.put,J,U,Aa];refine Reg.Ar 30 rfl (by kernel_rfl) (by kernel_rfl) (by kernel_rfl) (fun _ _ _ h=>h) (by rfl) ?_;simp only[Act.put,J,U,Aa];refine Reg.Ar 31 rfl (by kernel_rfl) (by kernel_rfl) (by kernel_rfl) (fun _ _ _ h=>h) (by rfl) ?_;simp only[Act.put,J,U,Aa];refine Reg.Ar 32 rfl (by kernel_rfl) (by kernel_rfl) (by kernel_rfl) (fun _ _ _ h=>h) (by rfl) ?_;simp only[Act.put,J,U,Aa];refine Reg.Ab 33 (v:=?va33) rfl (by kernel_rfl) (by kernel_rfl) (by kernel_rfl) (fun _ _ _ h=>h) (by rfl) (fun w' hS=>?ha33) ?ra33
   case ha33=>go_simp;rfl
   simp only[Act.put,J,U,Aa];refine Reg.Ab 34 (v:=?va34) rfl (by kernel_rfl) (by kernel_rfl) (by kernel_rfl) (fun _ _ _ h=>h) (by rfl) (fun w' hS=>?ha34) ?ra34
   case ha34=>go_simp;rfl
   simp only[Act.put,J,U,Aa];refine Reg.Ab 35 (v:=?va35) rfl (by kernel_rfl) (by kernel_rfl) (by kernel_rfl) (fun _ _ _ h=>h) (by rfl) (fun w' hS=>?ha35) ?ra35
   case ha35=>go_simp;rfl
   simp only[Act.put,J,U,Aa];refine wpAnyH_done (by kernel_rfl) ?_ _
   go_wp2_with fail
   go_meet
   exact⟨rfl,by rw[E.o],HB.o,HK.o⟩
  |true=>
   rw[q1] at N1;cases q2:decide (m.tg.a = []) with
   |false=>
    have t2:((m.tg.a.length:Int)==0)=false:=by simpa using q2
    have E:=I (show decide (m.tg=tg0)=false by rw[TF.o,q1,q2];rfl);clear q1 q2;refine Reg.AF 36 rfl (by kernel_rfl) ?_;refine Reg.Ab 0 (v:=?vb0) rfl (by kernel_rfl) (by kernel_rfl) (by kernel_rfl) (fun _ _ _ h=>h) (by rfl) (fun w' hS=>?hb0) ?rb0
    case hb0=>go_simp;rfl
    simp only[Act.put,J,U,Aa];refine Reg.Ab 1 (v:=?vb1) rfl (by kernel_rfl) (by kernel_rfl) (by kernel_rfl) (fun _ _ _ h=>h) (by rfl) (fun w' hS=>?hb1) ?rb1
    case hb1=>have hk:=HK.o.below hS;have k1:w'.cell? ⟨w.heap.size,1,none⟩=some (.string ⟨m.aq.c.1.toArray⟩):=hk.cell 1;have k2:w'.cell? ⟨w.heap.size,2,none⟩=some (.string ⟨m.aq.c.2.toArray⟩):=hk.cell 2;have k3:w'.cell? ⟨w.heap.size,3,none⟩=some (.string ⟨m.aq.s.1.toArray⟩):=hk.cell 3;have k4:w'.cell? ⟨w.heap.size,4,none⟩=some (.string ⟨m.aq.s.2.toArray⟩):=hk.cell 4;have k5:w'.cell? ⟨w.heap.size,5,none⟩=some (.int .i64 m.aq.t):=hk.cell 5;have k6:w'.cell? ⟨w.heap.size,6,none⟩=some (.int .i64 m.aq.no):=hk.cell 6;go_simp;rfl
    simp only[Act.put,J,U,Aa];refine Reg.Ab 2 (v:=?vb2) rfl (by kernel_rfl) (by kernel_rfl) (by kernel_rfl) (fun _ _ _ h=>h) (by rfl) (fun w' hS=>?hb2) ?rb2
    case hb2=>go_simp;rfl
    simp only[Act.put,J,U,Aa];refine Reg.Ab 3 (v:=.bool (decide (m.aq=as0))) rfl (by kernel_rfl) (by kernel_rfl) (by kernel_rfl) (fun _ _ _ h=>h) (by rfl) (fun w' hS=>?hb3) ?rb3
    case hb3=>go_simp;exact FO m.aq (fun b=>Result.ok (Next.value (.bool b)) w')
    simp only[Act.put,J,U,Aa];refine Reg.Ab 4 (v:=?vb4) rfl (by kernel_rfl) (by kernel_rfl) (by kernel_rfl) (fun _ _ _ h=>h) (by rfl) (fun w' hS=>?hb4) ?rb4
    case hb4=>go_simp;rfl
    simp only[Act.put,J,U,Aa];refine Reg.Ab 5 (v:=?vb5) rfl (by kernel_rfl) (by kernel_rfl) (by kernel_rfl) (fun _ _ _ h=>h) (by rfl) (fun w' hS=>?hb5) ?rb5
    case hb5=>go_simp;rfl
    simp only[Act.put,J,U,Aa];refine Reg.Ab 6 (v:=?vb6) rfl (by kernel_rfl) (by kernel_rfl) (by kernel_rfl) (fun _ _ _ h=>h) (by rfl) (fun w' hS=>?hb6) ?rb6
    case hb6=>have hk:=HK.o.below hS;have k7:w'.cell? ⟨w.heap.size,7,none⟩=some (.string ⟨m.tg.t.s.1.toArray⟩):=hk.cell 7;have k8:w'.cell? ⟨w.heap.size,8,none⟩=some (.string ⟨m.tg.t.s.2.toArray⟩):=hk.cell 8;have k9:w'.cell? ⟨w.heap.size,9,none⟩=some (.int .i64 m.tg.t.k):=hk.cell 9;have k10:w'.cell? ⟨w.heap.size,10,none⟩=some (.slice A1 m.tg.t.b.length c1):=hk.cell 10;go_simp;rfl
    simp only[Act.put,J,U,Aa];refine Reg.Bj 7 rfl (by kernel_rfl) (by rfl) 115 #[.agg #[.string ⟨m.tg.t.s.1.toArray⟩,.string ⟨m.tg.t.s.2.toArray⟩,.int .i64 m.tg.t.k,.slice A1 m.tg.t.b.length c1]] (by go_simp) ?_;refine Calls.mono (N1.o _) ?_;rintro e wn ⟨rfl,hb⟩;refine⟨_,rfl,hb,?_⟩;replace HK:=I (HK.o.below hb);replace HB:=HB.t hb;clear hb;simp only[Act.put,J,U,Aa];refine Reg.Ab 8 (v:=?vb8) rfl (by kernel_rfl) (by kernel_rfl) (by kernel_rfl) (fun _ _ _ h=>h) (by rfl) (fun w' hS=>?hb8) ?rb8
    case hb8=>go_simp;rfl
    simp only[Act.put,J,U,Aa];refine Reg.Ab 9 (v:=?vb9) rfl (by kernel_rfl) (by kernel_rfl) (by kernel_rfl) (fun _ _ _ h=>h) (by rfl) (fun w' hS=>?hb9) ?rb9
    case hb9=>go_simp;rfl
    simp only[Act.put,J,U,Aa];refine Reg.Ab 10 (v:=?vb10) rfl (by kernel_rfl) (by kernel_rfl) (by kernel_rfl) (fun _ _ _ h=>h) (by rfl) (fun w' hS=>?hb10) ?rb10
    case hb10=>go_simp;rfl
    simp only[Act.put,J,U,Aa];refine Reg.Ab 11 (v:=?vb11) rfl (by kernel_rfl) (by kernel_rfl) (by kernel_rfl) (fun _ _ _ h=>h) (by rfl) (fun w' hS=>?hb11) ?rb11
    case hb11=>have hk:=HK.o.below hS;have k11:w'.cell? ⟨w.heap.size,11,none⟩=some (.slice A2 m.tg.a.length c2):=hk.cell 11;go_simp;rfl
    simp only[Act.put,J,U,Aa];refine Reg.Ab 12 (v:=?vb12) rfl (by kernel_rfl) (by kernel_rfl) (by kernel_rfl) (fun _ _ _ h=>h) (by rfl) (fun w' hS=>?hb12) ?rb12
    case hb12=>go_simp;rfl
    simp only[Act.put,J,U,Aa];refine Reg.Ab 13 (v:=?vb13) rfl (by kernel_rfl) (by kernel_rfl) (by kernel_rfl) (fun _ _ _ h=>h) (by rfl) (fun w' hS=>?hb13) ?rb13
    case hb13=>go_simp;rfl
    simp only[Act.put,J,U,Aa];refine Reg.Ab 14 (v:=?vb14) rfl (by kernel_rfl) (by kernel_rfl) (by kernel_rfl) (fun _ _ _ h=>h) (by rfl) (fun w' hS=>?hb14) ?rb14
    case hb14=>go_simp;rfl
    simp only[Act.put,J,U,Aa];refine Reg.Ab 15 (v:=?vb15) rfl (by kernel_rfl) (by kernel_rfl) (by kernel_rfl) (fun _ _ _ h=>h) (by rfl) (fun w' hS=>?hb15) ?rb15
    case hb15=>go_simp;rfl
    simp only[Act.put,J,U,Aa];refine Reg.Ar 16 rfl (by kernel_rfl) (by kernel_rfl) (by kernel_rfl) (fun _ _ _ h=>h) (by rfl) ?_;simp only[Act.put,J,U,Aa];refine Reg.Ar 17 rfl (by kernel_rfl) (by kernel_rfl) (by kernel_rfl) (fun _ _ _ h=>h) (by rfl) ?_;simp only[Act.put,J,U,Aa];refine Reg.Ar 18 rfl (by kernel_rfl) (by kernel_rfl) (by kernel_rfl) (fun _ _ _ h=>h) (by rfl) ?_;simp only[Act.put,J,U,Aa];refine Reg.Ar 19 rfl (by kernel_rfl) (by kernel_rfl) (by kernel_rfl) (fun _ _ _ h=>h) (by rfl) ?_;simp only[Act.put,J,U,Aa];refine Reg.Ar 20 rfl (by kernel_rfl) (by kernel_rfl) (by kernel_rfl) (fun _ _ _ h=>h) (by rfl) ?_;simp only[Act.put,J,U,Aa];refine Reg.Ab 21 (v:=?vb21) rfl (by kernel_rfl) (by kernel_rfl) (by kernel_rfl) (fun _ _ _ h=>h) (by rfl) (fun w' hS=>?hb21) ?rb21
    case hb21=>go_simp;rfl
    simp only[Act.put,J,U,Aa];refine Reg.Ab 22 (v:=?vb22) rfl (by kernel_rfl) (by kernel_rfl) (by kernel_rfl) (fun _ _ _ h=>h) (by rfl) (fun w' hS=>?hb22) ?rb22
    case hb22=>go_simp;rfl
    simp only[Act.put,J,U,Aa];refine Reg.Ar 23 rfl (by kernel_rfl) (by kernel_rfl) (by kernel_rfl) (fun _ _ _ h=>h) (by rfl) ?_;simp only[Act.put,J,U,Aa];refine Reg.Ar 24 rfl (by kernel_rfl) (by kernel_rfl) (by kernel_rfl) (fun _ _ _ h=>h) (by rfl) ?_;simp only[Act.put,J,U,Aa];refine Reg.Ar 25 rfl (by kernel_rfl) (by kernel_rfl) (by kernel_rfl) (fun _ _ _ h=>h) (by rfl) ?_;simp only[Act.put,J,U,Aa];refine Reg.Ar 26 rfl (by kernel_rfl) (by kernel_rfl) (by kernel_rfl) (fun _ _ _ h=>h) (by rfl) ?_;simp only[Act.put,J,U,Aa];refine Reg.Ab 27 (v:=?vb27) rfl (by kernel_rfl) (by kernel_rfl) (by kernel_rfl) (fun _ _ _ h=>h) (by rfl) (fun w' hS=>?hb27) ?rb27
    case hb27=>go_simp;rfl
    simp only[Act.put,J,U,Aa];refine Reg.Ab 28 (v:=?vb28) rfl (by kernel_rfl) (by kernel_rfl) (by kernel_rfl) (fun _ _ _ h=>h) (by rfl) (fun w' hS=>?hb28) ?rb28
    case hb28=>go_simp;rfl
    simp only[Act.put,J,U,Aa];refine Reg.Ar 29 rfl (by kernel_rfl) (by kernel_rfl) (by kernel_rfl) (fun _ _ _ h=>h) (by rfl) ?_;simp only[Act.put,J,U,Aa];refine Reg.Ar 30 rfl (by kernel_rfl) (by kernel_rfl) (by kernel_rfl) (fun _ _ _ h=>h) (by rfl) ?_;simp only[Act.put,J,U,Aa];refine Reg.Ar 31 rfl (by kernel_rfl) (by kernel_rfl) (by kernel_rfl) (fun _ _ _ h=>h) (by rfl) ?_;simp only[Act.put,J,U,Aa];refine Reg.Ar 32 rfl (by kernel_rfl) (by kernel_rfl) (by kernel_rfl) (fun _ _ _ h=>h) (by rfl) ?_;simp only[Act.put,J,U,Aa];refine Reg.Ab 33 (v:=?vb33) rfl (by kernel_rfl) (by kernel_rfl) (by kernel_rfl) (fun _ _ _ h=>h) (by rfl) (fun w' hS=>?hb33) ?rb33
    case hb33=>go_simp;rfl
    simp only[Act.put,J,U,Aa];refine Reg.Ab 34 (v:=?vb34) rfl (by kernel_rfl) (by kernel_rfl) (by kernel_rfl) (fun _ _ _ h=>h) (by rfl) (fun w' hS=>?hb34) ?rb34
    case hb34=>go_simp;rfl
    simp only[Act.put,J,U,Aa];refine Reg.Ab 35 (v:=?vb35) rfl (by kernel_rfl) (by kernel_rfl) (by kernel_rfl) (fun _ _ _ h=>h) (by rfl) (fun w' hS=>?hb35) ?rb35
    case hb35=>go_simp;rfl
    simp only[Act.put,J,U,Aa];refine wpAnyH_done (by kernel_rfl) ?_ _
    go_wp2_with fail
    go_meet
    exact⟨rfl,by rw[E.o],HB.o,HK.o⟩
   |true=>
    have t2:((m.tg.a.length:Int)==0)=true:=by simpa using q2
    cases q3:decide (m.tg.s=pr0) with
    |false=>
     have SQ:=I q3;have E:=I (show decide (m.tg=tg0)=false by rw[TF.o,q1,q2,q3];rfl);clear q1 q2 q3;refine Reg.AF 36 rfl (by kernel_rfl) ?_;refine Reg.Ab 0 (v:=?vc0) rfl (by kernel_rfl) (by kernel_rfl) (by kernel_rfl) (fun _ _ _ h=>h) (by rfl) (fun w' hS=>?hc0) ?rc0
     case hc0=>go_simp;rfl
     simp only[Act.put,J,U,Aa];refine Reg.Ab 1 (v:=?vc1) rfl (by kernel_rfl) (by kernel_rfl) (by kernel_rfl) (fun _ _ _ h=>h) (by rfl) (fun w' hS=>?hc1) ?rc1
     case hc1=>have hk:=HK.o.below hS;have k1:w'.cell? ⟨w.heap.size,1,none⟩=some (.string ⟨m.aq.c.1.toArray⟩):=hk.cell 1;have k2:w'.cell? ⟨w.heap.size,2,none⟩=some (.string ⟨m.aq.c.2.toArray⟩):=hk.cell 2;have k3:w'.cell? ⟨w.heap.size,3,none⟩=some (.string ⟨m.aq.s.1.toArray⟩):=hk.cell 3;have k4:w'.cell? ⟨w.heap.size,4,none⟩=some (.string ⟨m.aq.s.2.toArray⟩):=hk.cell 4;have k5:w'.cell? ⟨w.heap.size,5,none⟩=some (.int .i64 m.aq.t):=hk.cell 5;have k6:w'.cell? ⟨w.heap.size,6,none⟩=some (.int .i64 m.aq.no):=hk.cell 6;go_simp;rfl
     simp only[Act.put,J,U,Aa];refine Reg.Ab 2 (v:=?vc2) rfl (by kernel_rfl) (by kernel_rfl) (by kernel_rfl) (fun _ _ _ h=>h) (by rfl) (fun w' hS=>?hc2) ?rc2
     case hc2=>go_simp;rfl
     simp only[Act.put,J,U,Aa];refine Reg.Ab 3 (v:=.bool (decide (m.aq=as0))) rfl (by kernel_rfl) (by kernel_rfl) (by kernel_rfl) (fun _ _ _ h=>h) (by rfl) (fun w' hS=>?hc3) ?rc3
     case hc3=>go_simp;exact FO m.aq (fun b=>Result.ok (Next.value (.bool b)) w')
     simp only[Act.put,J,U,Aa];refine Reg.Ab 4 (v:=?vc4) rfl (by kernel_rfl) (by kernel_rfl) (by kernel_rfl) (fun _ _ _ h=>h) (by rfl) (fun w' hS=>?hc4) ?rc4
     case hc4=>go_simp;rfl
     simp only[Act.put,J,U,Aa];refine Reg.Ab 5 (v:=?vc5) rfl (by kernel_rfl) (by kernel_rfl) (by kernel_rfl) (fun _ _ _ h=>h) (by rfl) (fun w' hS=>?hc5) ?rc5
     case hc5=>go_simp;rfl
     simp only[Act.put,J,U,Aa];refine Reg.Ab 6 (v:=?vc6) rfl (by kernel_rfl) (by kernel_rfl) (by kernel_rfl) (fun _ _ _ h=>h) (by rfl) (fun w' hS=>?hc6) ?rc6
     case hc6=>have hk:=HK.o.below hS;have k7:w'.cell? ⟨w.heap.size,7,none⟩=some (.string ⟨m.tg.t.s.1.toArray⟩):=hk.cell 7;have k8:w'.cell? ⟨w.heap.size,8,none⟩=some (.string ⟨m.tg.t.s.2.toArray⟩):=hk.cell 8;have k9:w'.cell? ⟨w.heap.size,9,none⟩=some (.int .i64 m.tg.t.k):=hk.cell 9;have k10:w'.cell? ⟨w.heap.size,10,none⟩=some (.slice A1 m.tg.t.b.length c1):=hk.cell 10;go_simp;rfl
     simp only[Act.put,J,U,Aa];refine Reg.Bj 7 rfl (by kernel_rfl) (by rfl) 115 #[.agg #[.string ⟨m.tg.t.s.1.toArray⟩,.string ⟨m.tg.t.s.2.toArray⟩,.int .i64 m.tg.t.k,.slice A1 m.tg.t.b.length c1]] (by go_simp) ?_;refine Calls.mono (N1.o _) ?_;rintro e wn ⟨rfl,hb⟩;refine⟨_,rfl,hb,?_⟩;replace HK:=I (HK.o.below hb);replace HB:=HB.t hb;clear hb;simp only[Act.put,J,U,Aa];refine Reg.Ab 8 (v:=?vc8) rfl (by kernel_rfl) (by kernel_rfl) (by kernel_rfl) (fun _ _ _ h=>h) (by rfl) (fun w' hS=>?hc8) ?rc8
     case hc8=>go_simp;rfl
     simp only[Act.put,J,U,Aa];refine Reg.Ab 9 (v:=?vc9) rfl (by kernel_rfl) (by kernel_rfl) (by kernel_rfl) (fun _ _ _ h=>h) (by rfl) (fun w' hS=>?hc9) ?rc9
     case hc9=>go_simp;rfl
     simp only[Act.put,J,U,Aa];refine Reg.Ab 10 (v:=?vc10) rfl (by kernel_rfl) (by kernel_rfl) (by kernel_rfl) (fun _ _ _ h=>h) (by rfl) (fun w' hS=>?hc10) ?rc10
     case hc10=>go_simp;rfl
     simp only[Act.put,J,U,Aa];refine Reg.Ab 11 (v:=?vc11) rfl (by kernel_rfl) (by kernel_rfl) (by kernel_rfl) (fun _ _ _ h=>h) (by rfl) (fun w' hS=>?hc11) ?rc11
     case hc11=>have hk:=HK.o.below hS;have k11:w'.cell? ⟨w.heap.size,11,none⟩=some (.slice A2 m.tg.a.length c2):=hk.cell 11;go_simp;rfl
     simp only[Act.put,J,U,Aa];refine Reg.Ab 12 (v:=?vc12) rfl (by kernel_rfl) (by kernel_rfl) (by kernel_rfl) (fun _ _ _ h=>h) (by rfl) (fun w' hS=>?hc12) ?rc12
     case hc12=>go_simp;rfl
     simp only[Act.put,J,U,Aa];refine Reg.Ab 13 (v:=?vc13) rfl (by kernel_rfl) (by kernel_rfl) (by kernel_rfl) (fun _ _ _ h=>h) (by rfl) (fun w' hS=>?hc13) ?rc13
     case hc13=>go_simp;rfl
     simp only[Act.put,J,U,Aa];refine Reg.Ab 14 (v:=?vc14) rfl (by kernel_rfl) (by kernel_rfl) (by kernel_rfl) (fun _ _ _ h=>h) (by rfl) (fun w' hS=>?hc14) ?rc14
     case hc14=>go_simp;rfl
     simp only[Act.put,J,U,Aa];refine Reg.Ab 15 (v:=?vc15) rfl (by kernel_rfl) (by kernel_rfl) (by kernel_rfl) (fun _ _ _ h=>h) (by rfl) (fun w' hS=>?hc15) ?rc15
     case hc15=>go_simp;rfl
     simp only[Act.put,J,U,Aa];refine Reg.Ab 16 (v:=?vc16) rfl (by kernel_rfl) (by kernel_rfl) (by kernel_rfl) (fun _ _ _ h=>h) (by rfl) (fun w' hS=>?hc16) ?rc16
     case hc16=>go_simp;rfl
     simp only[Act.put,J,U,Aa];refine Reg.Ab 17 (v:=?vc17) rfl (by kernel_rfl) (by kernel_rfl) (by kernel_rfl) (fun _ _ _ h=>h) (by rfl) (fun w' hS=>?hc17) ?rc17
     case hc17=>go_simp;rfl
     simp only[Act.put,J,U,Aa];refine Reg.Ab 18 (v:=?vc18) rfl (by kernel_rfl) (by kernel_rfl) (by kernel_rfl) (fun _ _ _ h=>h) (by rfl) (fun w' hS=>?hc18) ?rc18
     case hc18=>have hk:=HK.o.below hS;have k12:w'.cell? ⟨w.heap.size,12,none⟩=some (.string ⟨m.tg.s.1.toArray⟩):=hk.cell 12;have k13:w'.cell? ⟨w.heap.size,13,none⟩=some (.string ⟨m.tg.s.2.toArray⟩):=hk.cell 13;go_simp;rfl
     simp only[Act.put,J,U,Aa];refine Reg.Ab 19 (v:=?vc19) rfl (by kernel_rfl) (by kernel_rfl) (by kernel_rfl) (fun _ _ _ h=>h) (by rfl) (fun w' hS=>?hc19) ?rc19
     case hc19=>go_simp;rfl
     simp only[Act.put,J,U,Aa];refine Reg.Ab 20 (v:=.bool false) rfl (by kernel_rfl) (by kernel_rfl) (by kernel_rfl) (fun _ _ _ h=>h) (by rfl) (fun w' hS=>?hc20) ?rc20
     case hc20=>go_simp;exact fun h1 h2=>by have h3:=SQ.o;rw[show m.tg.s=pr0 from Prod.ext h1 h2] at h3;cases h3
     simp only[Act.put,J,U,Aa];refine Reg.Ab 21 (v:=?vc21) rfl (by kernel_rfl) (by kernel_rfl) (by kernel_rfl) (fun _ _ _ h=>h) (by rfl) (fun w' hS=>?hc21) ?rc21
     case hc21=>go_simp;rfl
     simp only[Act.put,J,U,Aa];refine Reg.Ab 22 (v:=?vc22) rfl (by kernel_rfl) (by kernel_rfl) (by kernel_rfl) (fun _ _ _ h=>h) (by rfl) (fun w' hS=>?hc22) ?rc22
     case hc22=>go_simp;rfl
     simp only[Act.put,J,U,Aa];refine Reg.Ar 23 rfl (by kernel_rfl) (by kernel_rfl) (by kernel_rfl) (fun _ _ _ h=>h) (by rfl) ?_;simp only[Act.put,J,U,Aa];refine Reg.Ar 24 rfl (by kernel_rfl) (by kernel_rfl) (by kernel_rfl) (fun _ _ _ h=>h) (by rfl) ?_;simp only[Act.put,J,U,Aa];refine Reg.Ar 25 rfl (by kernel_rfl) (by kernel_rfl) (by kernel_rfl) (fun _ _ _ h=>h) (by rfl) ?_;simp only[Act.put,J,U,Aa];refine Reg.Ar 26 rfl (by kernel_rfl) (by kernel_rfl) (by kernel_rfl) (fun _ _ _ h=>h) (by rfl) ?_;simp only[Act.put,J,U,Aa];refine Reg.Ab 27 (v:=?vc27) rfl (by kernel_rfl) (by kernel_rfl) (by kernel_rfl) (fun _ _ _ h=>h) (by rfl) (fun w' hS=>?hc27) ?rc27
     case hc27=>go_simp;rfl
     simp only[Act.put,J,U,Aa];refine Reg.Ab 28 (v:=?vc28) rfl (by kernel_rfl) (by kernel_rfl) (by kernel_rfl) (fun _ _ _ h=>h) (by rfl) (fun w' hS=>?hc28) ?rc28
     case hc28=>go_simp;rfl
     simp only[Act.put,J,U,Aa];refine Reg.Ar 29 rfl (by kernel_rfl) (by kernel_rfl) (by kernel_rfl) (fun _ _ _ h=>h) (by rfl) ?_;simp only[Act.put,J,U,Aa];refine Reg.Ar 30 rfl (by kernel_rfl) (by kernel_rfl) (by kernel_rfl) (fun _ _ _ h=>h) (by rfl) ?_;simp only[Act.put,J,U,Aa];refine Reg.Ar 31 rfl (by kernel_rfl) (by kernel_rfl) (by kernel_rfl) (fun _ _ _ h=>h) (by rfl) ?_;simp only[Act.put,J,U,Aa];refine Reg.Ar 32 rfl (by kernel_rfl) (by kernel_rfl) (by kernel_rfl) (fun _ _ _ h=>h) (by rfl) ?_;simp only[Act.put,J,U,Aa];refine Reg.Ab 33 (v:=?vc33) rfl (by kernel_rfl) (by kernel_rfl) (by kernel_rfl) (fun _ _ _ h=>h) (by rfl) (fun w' hS=>?hc33) ?rc33
     case hc33=>go_simp;rfl
     simp only[Act.put,J,U,Aa];refine Reg.Ab 34 (v:=?vc34) rfl (by kernel_rfl) (by kernel_rfl) (by kernel_rfl) (fun _ _ _ h=>h) (by rfl) (fun w' hS=>?hc34) ?rc34
     case hc34=>go_simp;rfl
     simp only[Act.put,J,U,Aa];refine Reg.Ab 35 (v:=?vc35) rfl (by kernel_rfl) (by kernel_rfl) (by kernel_rfl) (fun _ _ _ h=>h) (by rfl) (fun w' hS=>?hc35) ?rc35
     case hc35=>go_simp;rfl
     simp only[Act.put,J,U,Aa];refine wpAnyH_done (by kernel_rfl) ?_ _
     go_wp2_with fail
     go_meet
     exact⟨rfl,by rw[E.o],HB.o,HK.o⟩
    |true=>
     have SQ:=I q3;cases q4:decide (m.tg.u=0) with
     |false=>
      have t4:(m.tg.u==0)=false:=by simpa using q4
      have E:=I (show decide (m.tg=tg0)=false by rw[TF.o,q1,q2,q3,q4];rfl);clear q1 q2 q3 q4;refine Reg.AF 36 rfl (by kernel_rfl) ?_;refine Reg.Ab 0 (v:=?vd0) rfl (by kernel_rfl) (by kernel_rfl) (by kernel_rfl) (fun _ _ _ h=>h) (by rfl) (fun w' hS=>?hd0) ?rd0
      case hd0=>go_simp;rfl
      simp only[Act.put,J,U,Aa];refine Reg.Ab 1 (v:=?vd1) rfl (by kernel_rfl) (by kernel_rfl) (by kernel_rfl) (fun _ _ _ h=>h) (by rfl) (fun w' hS=>?hd1) ?rd1
      case hd1=>have hk:=HK.o.below hS;have k1:w'.cell? ⟨w.heap.size,1,none⟩=some (.string ⟨m.aq.c.1.toArray⟩):=hk.cell 1;have k2:w'.cell? ⟨w.heap.size,2,none⟩=some (.string ⟨m.aq.c.2.toArray⟩):=hk.cell 2;have k3:w'.cell? ⟨w.heap.size,3,none⟩=some (.string ⟨m.aq.s.1.toArray⟩):=hk.cell 3;have k4:w'.cell? ⟨w.heap.size,4,none⟩=some (.string ⟨m.aq.s.2.toArray⟩):=hk.cell 4;have k5:w'.cell? ⟨w.heap.size,5,none⟩=some (.int .i64 m.aq.t):=hk.cell 5;have k6:w'.cell? ⟨w.heap.size,6,none⟩=some (.int .i64 m.aq.no):=hk.cell 6;go_simp;rfl
      simp only[Act.put,J,U,Aa];refine Reg.Ab 2 (v:=?vd2) rfl (by kernel_rfl) (by kernel_rfl) (by kernel_rfl) (fun _ _ _ h=>h) (by rfl) (fun w' hS=>?hd2) ?rd2
      case hd2=>go_simp;rfl
      simp only[Act.put,J,U,Aa];refine Reg.Ab 3 (v:=.bool (decide (m.aq=as0))) rfl (by kernel_rfl) (by kernel_rfl) (by kernel_rfl) (fun _ _ _ h=>h) (by rfl) (fun w' hS=>?hd3) ?rd3
      case hd3=>go_simp;exact FO m.aq (fun b=>Result.ok (Next.value (.bool b)) w')
      simp only[Act.put,J,U,Aa];refine Reg.Ab 4 (v:=?vd4) rfl (by kernel_rfl) (by kernel_rfl) (by kernel_rfl) (fun _ _ _ h=>h) (by rfl) (fun w' hS=>?hd4) ?rd4
      case hd4=>go_simp;rfl
      simp only[Act.put,J,U,Aa];refine Reg.Ab 5 (v:=?vd5) rfl (by kernel_rfl) (by kernel_rfl) (by kernel_rfl) (fun _ _ _ h=>h) (by rfl) (fun w' hS=>?hd5) ?rd5
      case hd5=>go_simp;rfl
      simp only[Act.put,J,U,Aa];refine Reg.Ab 6 (v:=?vd6) rfl (by kernel_rfl) (by kernel_rfl) (by kernel_rfl) (fun _ _ _ h=>h) (by rfl) (fun w' hS=>?hd6) ?rd6
      case hd6=>have hk:=HK.o.below hS;have k7:w'.cell? ⟨w.heap.size,7,none⟩=some (.string ⟨m.tg.t.s.1.toArray⟩):=hk.cell 7;have k8:w'.cell? ⟨w.heap.size,8,none⟩=some (.string ⟨m.tg.t.s.2.toArray⟩):=hk.cell 8;have k9:w'.cell? ⟨w.heap.size,9,none⟩=some (.int .i64 m.tg.t.k):=hk.cell 9;have k10:w'.cell? ⟨w.heap.size,10,none⟩=some (.slice A1 m.tg.t.b.length c1):=hk.cell 10;go_simp;rfl
      simp only[Act.put,J,U,Aa];refine Reg.Bj 7 rfl (by kernel_rfl) (by rfl) 115 #[.agg #[.string ⟨m.tg.t.s.1.toArray⟩,.string ⟨m.tg.t.s.2.toArray⟩,.int .i64 m.tg.t.k,.slice A1 m.tg.t.b.length c1]] (by go_simp) ?_;refine Calls.mono (N1.o _) ?_;rintro e wn ⟨rfl,hb⟩;refine⟨_,rfl,hb,?_⟩;replace HK:=I (HK.o.below hb);replace HB:=HB.t hb;clear hb;simp only[Act.put,J,U,Aa];refine Reg.Ab 8 (v:=?vd8) rfl (by kernel_rfl) (by kernel_rfl) (by kernel_rfl) (fun _ _ _ h=>h) (by rfl) (fun w' hS=>?hd8) ?rd8
      case hd8=>go_simp;rfl
      simp only[Act.put,J,U,Aa];refine Reg.Ab 9 (v:=?vd9) rfl (by kernel_rfl) (by kernel_rfl) (by kernel_rfl) (fun _ _ _ h=>h) (by rfl) (fun w' hS=>?hd9) ?rd9
      case hd9=>go_simp;rfl
      simp only[Act.put,J,U,Aa];refine Reg.Ab 10 (v:=?vd10) rfl (by kernel_rfl) (by kernel_rfl) (by kernel_rfl) (fun _ _ _ h=>h) (by rfl) (fun w' hS=>?hd10) ?rd10
      case hd10=>go_simp;rfl
      simp only[Act.put,J,U,Aa];refine Reg.Ab 11 (v:=?vd11) rfl (by kernel_rfl) (by kernel_rfl) (by kernel_rfl) (fun _ _ _ h=>h) (by rfl) (fun w' hS=>?hd11) ?rd11
      case hd11=>have hk:=HK.o.below hS;have k11:w'.cell? ⟨w.heap.size,11,none⟩=some (.slice A2 m.tg.a.length c2):=hk.cell 11;go_simp;rfl
      simp only[Act.put,J,U,Aa];refine Reg.Ab 12 (v:=?vd12) rfl (by kernel_rfl) (by kernel_rfl) (by kernel_rfl) (fun _ _ _ h=>h) (by rfl) (fun w' hS=>?hd12) ?rd12
      case hd12=>go_simp;rfl
      simp only[Act.put,J,U,Aa];refine Reg.Ab 13 (v:=?vd13) rfl (by kernel_rfl) (by kernel_rfl) (by kernel_rfl) (fun _ _ _ h=>h) (by rfl) (fun w' hS=>?hd13) ?rd13
      case hd13=>go_simp;rfl
      simp only[Act.put,J,U,Aa];refine Reg.Ab 14 (v:=?vd14) rfl (by kernel_rfl) (by kernel_rfl) (by kernel_rfl) (fun _ _ _ h=>h) (by rfl) (fun w' hS=>?hd14) ?rd14
      case hd14=>go_simp;rfl
      simp only[Act.put,J,U,Aa];refine Reg.Ab 15 (v:=?vd15) rfl (by kernel_rfl) (by kernel_rfl) (by kernel_rfl) (fun _ _ _ h=>h) (by rfl) (fun w' hS=>?hd15) ?rd15
      case hd15=>go_simp;rfl
      simp only[Act.put,J,U,Aa];refine Reg.Ab 16 (v:=?vd16) rfl (by kernel_rfl) (by kernel_rfl) (by kernel_rfl) (fun _ _ _ h=>h) (by rfl) (fun w' hS=>?hd16) ?rd16
      case hd16=>go_simp;rfl
      simp only[Act.put,J,U,Aa];refine Reg.Ab 17 (v:=?vd17) rfl (by kernel_rfl) (by kernel_rfl) (by kernel_rfl) (fun _ _ _ h=>h) (by rfl) (fun w' hS=>?hd17) ?rd17
      case hd17=>go_simp;rfl
      simp only[Act.put,J,U,Aa];refine Reg.Ab 18 (v:=?vd18) rfl (by kernel_rfl) (by kernel_rfl) (by kernel_rfl) (fun _ _ _ h=>h) (by rfl) (fun w' hS=>?hd18) ?rd18
      case hd18=>have hk:=HK.o.below hS;have k12:w'.cell? ⟨w.heap.size,12,none⟩=some (.string ⟨m.tg.s.1.toArray⟩):=hk.cell 12;have k13:w'.cell? ⟨w.heap.size,13,none⟩=some (.string ⟨m.tg.s.2.toArray⟩):=hk.cell 13;go_simp;rfl
      simp only[Act.put,J,U,Aa];refine Reg.Ab 19 (v:=?vd19) rfl (by kernel_rfl) (by kernel_rfl) (by kernel_rfl) (fun _ _ _ h=>h) (by rfl) (fun w' hS=>?hd19) ?rd19
      case hd19=>go_simp;rfl
      simp only[Act.put,J,U,Aa];refine Reg.Ab 20 (v:=.bool true) rfl (by kernel_rfl) (by kernel_rfl) (by kernel_rfl) (fun _ _ _ h=>h) (by rfl) (fun w' hS=>?hd20) ?rd20
      case hd20=>go_simp;exact(Kh m.tg.s (fun b=>Result.ok (Next.value (.bool b)) w')).trans (by rw[SQ.o])
      simp only[Act.put,J,U,Aa];refine Reg.Ab 21 (v:=?vd21) rfl (by kernel_rfl) (by kernel_rfl) (by kernel_rfl) (fun _ _ _ h=>h) (by rfl) (fun w' hS=>?hd21) ?rd21
      case hd21=>go_simp;rfl
      simp only[Act.put,J,U,Aa];refine Reg.Ab 22 (v:=?vd22) rfl (by kernel_rfl) (by kernel_rfl) (by kernel_rfl) (fun _ _ _ h=>h) (by rfl) (fun w' hS=>?hd22) ?rd22
      case hd22=>go_simp;rfl
      simp only[Act.put,J,U,Aa];refine Reg.Ab 23 (v:=?vd23) rfl (by kernel_rfl) (by kernel_rfl) (by kernel_rfl) (fun _ _ _ h=>h) (by rfl) (fun w' hS=>?hd23) ?rd23
      case hd23=>go_simp;rfl
      simp only[Act.put,J,U,Aa];refine Reg.Ab 24 (v:=?vd24) rfl (by kernel_rfl) (by kernel_rfl) (by kernel_rfl) (fun _ _ _ h=>h) (by rfl) (fun w' hS=>?hd24) ?rd24
      case hd24=>go_simp;rfl
      simp only[Act.put,J,U,Aa];refine Reg.Ab 25 (v:=?vd25) rfl (by kernel_rfl) (by kernel_rfl) (by kernel_rfl) (fun _ _ _ h=>h) (by rfl) (fun w' hS=>?hd25) ?rd25
      case hd25=>have hk:=HK.o.below hS;have k14:w'.cell? ⟨w.heap.size,14,none⟩=some (.int .i64 m.tg.u):=hk.cell 14;go_simp;rfl
      simp only[Act.put,J,U,Aa];refine Reg.Ab 26 (v:=?vd26) rfl (by kernel_rfl) (by kernel_rfl) (by kernel_rfl) (fun _ _ _ h=>h) (by rfl) (fun w' hS=>?hd26) ?rd26
      case hd26=>go_simp;rfl
      simp only[Act.put,J,U,Aa];refine Reg.Ab 27 (v:=?vd27) rfl (by kernel_rfl) (by kernel_rfl) (by kernel_rfl) (fun _ _ _ h=>h) (by rfl) (fun w' hS=>?hd27) ?rd27
      case hd27=>go_simp;rfl
      simp only[Act.put,J,U,Aa];refine Reg.Ab 28 (v:=?vd28) rfl (by kernel_rfl) (by kernel_rfl) (by kernel_rfl) (fun _ _ _ h=>h) (by rfl) (fun w' hS=>?hd28) ?rd28
      case hd28=>go_simp;rfl
      simp only[Act.put,J,U,Aa];refine Reg.Ar 29 rfl (by kernel_rfl) (by kernel_rfl) (by kernel_rfl) (fun _ _ _ h=>h) (by rfl) ?_;simp only[Act.put,J,U,Aa];refine Reg.Ar 30 rfl (by kernel_rfl) (by kernel_rfl) (by kernel_rfl) (fun _ _ _ h=>h) (by rfl) ?_;simp only[Act.put,J,U,Aa];refine Reg.Ar 31 rfl (by kernel_rfl) (by kernel_rfl) (by kernel_rfl) (fun _ _ _ h=>h) (by rfl) ?_;simp only[Act.put,J,U,Aa];refine Reg.Ar 32 rfl (by kernel_rfl) (by kernel_rfl) (by kernel_rfl) (fun _ _ _ h=>h) (by rfl) ?_;simp only[Act.put,J,U,Aa];refine Reg.Ab 33 (v:=?vd33) rfl (by kernel_rfl) (by kernel_rfl) (by kernel_rfl) (fun _ _ _ h=>h) (by rfl) (fun w' hS=>?hd33) ?rd33
      case hd33=>go_simp;rfl
      simp only[Act.put,J,U,Aa];refine Reg.Ab 34 (v:=?vd34) rfl (by kernel_rfl) (by kernel_rfl) (by kernel_rfl) (fun _ _ _ h=>h) (by rfl) (fun w' hS=>?hd34) ?rd34
      case hd34=>go_simp;rfl
      simp only[Act.put,J,U,Aa];refine Reg.Ab 35 (v:=?vd35) rfl (by kernel_rfl) (by kernel_rfl) (by kernel_rfl) (fun _ _ _ h=>h) (by rfl) (fun w' hS=>?hd35) ?rd35
      case hd35=>go_simp;rfl
      simp only[Act.put,J,U,Aa];refine wpAnyH_done (by kernel_rfl) ?_ _
      go_wp2_with fail
      go_meet
      exact⟨rfl,by rw[E.o],HB.o,HK.o⟩
     |true=>
      have t4:(m.tg.u==0)=true:=by simpa using q4
      cases q5:decide (m.tg.no=0) with
      |false=>
       have t5:(m.tg.no==0)=false:=by simpa using q5
       have E:=I (show decide (m.tg=tg0)=false by rw[TF.o,q1,q2,q3,q4,q5];rfl);clear q1 q2 q3 q4 q5;refine Reg.AF 36 rfl (by kernel_rfl) ?_;refine Reg.Ab 0 (v:=?ve0) rfl (by kernel_rfl) (by kernel_rfl) (by kernel_rfl) (fun _ _ _ h=>h) (by rfl) (fun w' hS=>?he0) ?re0
       case he0=>go_simp;rfl
       simp only[Act.put,J,U,Aa];refine Reg.Ab 1 (v:=?ve1) rfl (by kernel_rfl) (by kernel_rfl) (by kernel_rfl) (fun _ _ _ h=>h) (by rfl) (fun w' hS=>?he1) ?re1
       case he1=>have hk:=HK.o.below hS;have k1:w'.cell? ⟨w.heap.size,1,none⟩=some (.string ⟨m.aq.c.1.toArray⟩):=hk.cell 1;have k2:w'.cell? ⟨w.heap.size,2,none⟩=some (.string ⟨m.aq.c.2.toArray⟩):=hk.cell 2;have k3:w'.cell? ⟨w.heap.size,3,none⟩=some (.string ⟨m.aq.s.1.toArray⟩):=hk.cell 3;have k4:w'.cell? ⟨w.heap.size,4,none⟩=some (.string ⟨m.aq.s.2.toArray⟩):=hk.cell 4;have k5:w'.cell? ⟨w.heap.size,5,none⟩=some (.int .i64 m.aq.t):=hk.cell 5;have k6:w'.cell? ⟨w.heap.size,6,none⟩=some (.int .i64 m.aq.no):=hk.cell 6;go_simp;rfl
       simp only[Act.put,J,U,Aa];refine Reg.Ab 2 (v:=?ve2) rfl (by kernel_rfl) (by kernel_rfl) (by kernel_rfl) (fun _ _ _ h=>h) (by rfl) (fun w' hS=>?he2) ?re2
       case he2=>go_simp;rfl
       simp only[Act.put,J,U,Aa];refine Reg.Ab 3 (v:=.bool (decide (m.aq=as0))) rfl (by kernel_rfl) (by kernel_rfl) (by kernel_rfl) (fun _ _ _ h=>h) (by rfl) (fun w' hS=>?he3) ?re3
       case he3=>go_simp;exact FO m.aq (fun b=>Result.ok (Next.value (.bool b)) w')
       simp only[Act.put,J,U,Aa];refine Reg.Ab 4 (v:=?ve4) rfl (by kernel_rfl) (by kernel_rfl) (by kernel_rfl) (fun _ _ _ h=>h) (by rfl) (fun w' hS=>?he4) ?re4
       case he4=>go_simp;rfl
       simp only[Act.put,J,U,Aa];refine Reg.Ab 5 (v:=?ve5) rfl (by kernel_rfl) (by kernel_rfl) (by kernel_rfl) (fun _ _ _ h=>h) (by rfl) (fun w' hS=>?he5) ?re5
       case he5=>go_simp;rfl
       simp only[Act.put,J,U,Aa];refine Reg.Ab 6 (v:=?ve6) rfl (by kernel_rfl) (by kernel_rfl) (by kernel_rfl) (fun _ _ _ h=>h) (by rfl) (fun w' hS=>?he6) ?re6
       case he6=>have hk:=HK.o.below hS;have k7:w'.cell? ⟨w.heap.size,7,none⟩=some (.string ⟨m.tg.t.s.1.toArray⟩):=hk.cell 7;have k8:w'.cell? ⟨w.heap.size,8,none⟩=some (.string ⟨m.tg.t.s.2.toArray⟩):=hk.cell 8;have k9:w'.cell? ⟨w.heap.size,9,none⟩=some (.int .i64 m.tg.t.k):=hk.cell 9;have k10:w'.cell? ⟨w.heap.size,10,none⟩=some (.slice A1 m.tg.t.b.length c1):=hk.cell 10;go_simp;rfl
       simp only[Act.put,J,U,Aa];refine Reg.Bj 7 rfl (by kernel_rfl) (by rfl) 115 #[.agg #[.string ⟨m.tg.t.s.1.toArray⟩,.string ⟨m.tg.t.s.2.toArray⟩,.int .i64 m.tg.t.k,.slice A1 m.tg.t.b.length c1]] (by go_simp) ?_;refine Calls.mono (N1.o _) ?_;rintro e wn ⟨rfl,hb⟩;refine⟨_,rfl,hb,?_⟩;replace HK:=I (HK.o.below hb);replace HB:=HB.t hb;clear hb;simp only[Act.put,J,U,Aa];refine Reg.Ab 8 (v:=?ve8) rfl (by kernel_rfl) (by kernel_rfl) (by kernel_rfl) (fun _ _ _ h=>h) (by rfl) (fun w' hS=>?he8) ?re8
       case he8=>go_simp;rfl
       simp only[Act.put,J,U,Aa];refine Reg.Ab 9 (v:=?ve9) rfl (by kernel_rfl) (by kernel_rfl) (by kernel_rfl) (fun _ _ _ h=>h) (by rfl) (fun w' hS=>?he9) ?re9
       case he9=>go_simp;rfl
       simp only[Act.put,J,U,Aa];refine Reg.Ab 10 (v:=?ve10) rfl (by kernel_rfl) (by kernel_rfl) (by kernel_rfl) (fun _ _ _ h=>h) (by rfl) (fun w' hS=>?he10) ?re10
       case he10=>go_simp;rfl
       simp only[Act.put,J,U,Aa];refine Reg.Ab 11 (v:=?ve11) rfl (by kernel_rfl) (by kernel_rfl) (by kernel_rfl) (fun _ _ _ h=>h) (by rfl) (fun w' hS=>?he11) ?re11
       case he11=>have hk:=HK.o.below hS;have k11:w'.cell? ⟨w.heap.size,11,none⟩=some (.slice A2 m.tg.a.length c2):=hk.cell 11;go_simp;rfl
       simp only[Act.put,J,U,Aa];refine Reg.Ab 12 (v:=?ve12) rfl (by kernel_rfl) (by kernel_rfl) (by kernel_rfl) (fun _ _ _ h=>h) (by rfl) (fun w' hS=>?he12) ?re12
       case he12=>go_simp;rfl
       simp only[Act.put,J,U,Aa];refine Reg.Ab 13 (v:=?ve13) rfl (by kernel_rfl) (by kernel_rfl) (by kernel_rfl) (fun _ _ _ h=>h) (by rfl) (fun w' hS=>?he13) ?re13
       case he13=>go_simp;rfl
       simp only[Act.put,J,U,Aa];refine Reg.Ab 14 (v:=?ve14) rfl (by kernel_rfl) (by kernel_rfl) (by kernel_rfl) (fun _ _ _ h=>h) (by rfl) (fun w' hS=>?he14) ?re14
       case he14=>go_simp;rfl
       simp only[Act.put,J,U,Aa];refine Reg.Ab 15 (v:=?ve15) rfl (by kernel_rfl) (by kernel_rfl) (by kernel_rfl) (fun _ _ _ h=>h) (by rfl) (fun w' hS=>?he15) ?re15
       case he15=>go_simp;rfl
       simp only[Act.put,J,U,Aa];refine Reg.Ab 16 (v:=?ve16) rfl (by kernel_rfl) (by kernel_rfl) (by kernel_rfl) (fun _ _ _ h=>h) (by rfl) (fun w' hS=>?he16) ?re16
       case he16=>go_simp;rfl
       simp only[Act.put,J,U,Aa];refine Reg.Ab 17 (v:=?ve17) rfl (by kernel_rfl) (by kernel_rfl) (by kernel_rfl) (fun _ _ _ h=>h) (by rfl) (fun w' hS=>?he17) ?re17
       case he17=>go_simp;rfl
       simp only[Act.put,J,U,Aa];refine Reg.Ab 18 (v:=?ve18) rfl (by kernel_rfl) (by kernel_rfl) (by kernel_rfl) (fun _ _ _ h=>h) (by rfl) (fun w' hS=>?he18) ?re18
       case he18=>have hk:=HK.o.below hS;have k12:w'.cell? ⟨w.heap.size,12,none⟩=some (.string ⟨m.tg.s.1.toArray⟩):=hk.cell 12;have k13:w'.cell? ⟨w.heap.size,13,none⟩=some (.string ⟨m.tg.s.2.toArray⟩):=hk.cell 13;go_simp;rfl
       simp only[Act.put,J,U,Aa];refine Reg.Ab 19 (v:=?ve19) rfl (by kernel_rfl) (by kernel_rfl) (by kernel_rfl) (fun _ _ _ h=>h) (by rfl) (fun w' hS=>?he19) ?re19
       case he19=>go_simp;rfl
       simp only[Act.put,J,U,Aa];refine Reg.Ab 20 (v:=.bool true) rfl (by kernel_rfl) (by kernel_rfl) (by kernel_rfl) (fun _ _ _ h=>h) (by rfl) (fun w' hS=>?he20) ?re20
       case he20=>go_simp;exact(Kh m.tg.s (fun b=>Result.ok (Next.value (.bool b)) w')).trans (by rw[SQ.o])
       simp only[Act.put,J,U,Aa];refine Reg.Ab 21 (v:=?ve21) rfl (by kernel_rfl) (by kernel_rfl) (by kernel_rfl) (fun _ _ _ h=>h) (by rfl) (fun w' hS=>?he21) ?re21
       case he21=>go_simp;rfl
       simp only[Act.put,J,U,Aa];refine Reg.Ab 22 (v:=?ve22) rfl (by kernel_rfl) (by kernel_rfl) (by kernel_rfl) (fun _ _ _ h=>h) (by rfl) (fun w' hS=>?he22) ?re22
       case he22=>go_simp;rfl
       simp only[Act.put,J,U,Aa];refine Reg.Ab 23 (v:=?ve23) rfl (by kernel_rfl) (by kernel_rfl) (by kernel_rfl) (fun _ _ _ h=>h) (by rfl) (fun w' hS=>?he23) ?re23
       case he23=>go_simp;rfl
       simp only[Act.put,J,U,Aa];refine Reg.Ab 24 (v:=?ve24) rfl (by kernel_rfl) (by kernel_rfl) (by kernel_rfl) (fun _ _ _ h=>h) (by rfl) (fun w' hS=>?he24) ?re24
       case he24=>go_simp;rfl
       simp only[Act.put,J,U,Aa];refine Reg.Ab 25 (v:=?ve25) rfl (by kernel_rfl) (by kernel_rfl) (by kernel_rfl) (fun _ _ _ h=>h) (by rfl) (fun w' hS=>?he25) ?re25
       case he25=>have hk:=HK.o.below hS;have k14:w'.cell? ⟨w.heap.size,14,none⟩=some (.int .i64 m.tg.u):=hk.cell 14;go_simp;rfl
       simp only[Act.put,J,U,Aa];refine Reg.Ab 26 (v:=?ve26) rfl (by kernel_rfl) (by kernel_rfl) (by kernel_rfl) (fun _ _ _ h=>h) (by rfl) (fun w' hS=>?he26) ?re26
       case he26=>go_simp;rfl
       simp only[Act.put,J,U,Aa];refine Reg.Ab 27 (v:=?ve27) rfl (by kernel_rfl) (by kernel_rfl) (by kernel_rfl) (fun _ _ _ h=>h) (by rfl) (fun w' hS=>?he27) ?re27
       case he27=>go_simp;rfl
       simp only[Act.put,J,U,Aa];refine Reg.Ab 28 (v:=?ve28) rfl (by kernel_rfl) (by kernel_rfl) (by kernel_rfl) (fun _ _ _ h=>h) (by rfl) (fun w' hS=>?he28) ?re28
       case he28=>go_simp;rfl
       simp only[Act.put,J,U,Aa];refine Reg.Ab 29 (v:=?ve29) rfl (by kernel_rfl) (by kernel_rfl) (by kernel_rfl) (fun _ _ _ h=>h) (by rfl) (fun w' hS=>?he29) ?re29
       case he29=>go_simp;rfl
       simp only[Act.put,J,U,Aa];refine Reg.Ab 30 (v:=?ve30) rfl (by kernel_rfl) (by kernel_rfl) (by kernel_rfl) (fun _ _ _ h=>h) (by rfl) (fun w' hS=>?he30) ?re30
       case he30=>go_simp;rfl
       simp only[Act.put,J,U,Aa];refine Reg.Ab 31 (v:=?ve31) rfl (by kernel_rfl) (by kernel_rfl) (by kernel_rfl) (fun _ _ _ h=>h) (by rfl) (fun w' hS=>?he31) ?re31
       case he31=>have hk:=HK.o.below hS;have k15:w'.cell? ⟨w.heap.size,15,none⟩=some (.int .i64 m.tg.no):=hk.cell 15;go_simp;rfl
       simp only[Act.put,J,U,Aa];refine Reg.Ab 32 (v:=?ve32) rfl (by kernel_rfl) (by kernel_rfl) (by kernel_rfl) (fun _ _ _ h=>h) (by rfl) (fun w' hS=>?he32) ?re32
       case he32=>go_simp;rfl
       simp only[Act.put,J,U,Aa];refine Reg.Ab 33 (v:=?ve33) rfl (by kernel_rfl) (by kernel_rfl) (by kernel_rfl) (fun _ _ _ h=>h) (by rfl) (fun w' hS=>?he33) ?re33
       case he33=>go_simp;rfl
       simp only[Act.put,J,U,Aa];refine Reg.Ab 34 (v:=?ve34) rfl (by kernel_rfl) (by kernel_rfl) (by kernel_rfl) (fun _ _ _ h=>h) (by rfl) (fun w' hS=>?he34) ?re34
       case he34=>go_simp;rfl
       simp only[Act.put,J,U,Aa];refine Reg.Ab 35 (v:=?ve35) rfl (by kernel_rfl) (by kernel_rfl) (by kernel_rfl) (fun _ _ _ h=>h) (by rfl) (fun w' hS=>?he35) ?re35
       case he35=>go_simp;rfl
       simp only[Act.put,J,U,Aa];refine wpAnyH_done (by kernel_rfl) ?_ _
       go_wp2_with fail
       go_meet
       exact⟨rfl,by rw[E.o],HB.o,HK.o⟩
      |true=>
       have t5:(m.tg.no==0)=true:=by simpa using q5
       have E:=I (show decide (m.tg=tg0)=true by rw[TF.o,q1,q2,q3,q4,q5];rfl);clear q1 q2 q3 q4 q5;refine Reg.AF 36 rfl (by kernel_rfl) ?_;refine Reg.Ab 0 (v:=?vf0) rfl (by kernel_rfl) (by kernel_rfl) (by kernel_rfl) (fun _ _ _ h=>h) (by rfl) (fun w' hS=>?hf0) ?rf0
       case hf0=>go_simp;rfl
       simp only[Act.put,J,U,Aa];refine Reg.Ab 1 (v:=?vf1) rfl (by kernel_rfl) (by kernel_rfl) (by kernel_rfl) (fun _ _ _ h=>h) (by rfl) (fun w' hS=>?hf1) ?rf1
       case hf1=>have hk:=HK.o.below hS;have k1:w'.cell? ⟨w.heap.size,1,none⟩=some (.string ⟨m.aq.c.1.toArray⟩):=hk.cell 1;have k2:w'.cell? ⟨w.heap.size,2,none⟩=some (.string ⟨m.aq.c.2.toArray⟩):=hk.cell 2;have k3:w'.cell? ⟨w.heap.size,3,none⟩=some (.string ⟨m.aq.s.1.toArray⟩):=hk.cell 3;have k4:w'.cell? ⟨w.heap.size,4,none⟩=some (.string ⟨m.aq.s.2.toArray⟩):=hk.cell 4;have k5:w'.cell? ⟨w.heap.size,5,none⟩=some (.int .i64 m.aq.t):=hk.cell 5;have k6:w'.cell? ⟨w.heap.size,6,none⟩=some (.int .i64 m.aq.no):=hk.cell 6;go_simp;rfl
       simp only[Act.put,J,U,Aa];refine Reg.Ab 2 (v:=?vf2) rfl (by kernel_rfl) (by kernel_rfl) (by kernel_rfl) (fun _ _ _ h=>h) (by rfl) (fun w' hS=>?hf2) ?rf2
       case hf2=>go_simp;rfl
       simp only[Act.put,J,U,Aa];refine Reg.Ab 3 (v:=.bool (decide (m.aq=as0))) rfl (by kernel_rfl) (by kernel_rfl) (by kernel_rfl) (fun _ _ _ h=>h) (by rfl) (fun w' hS=>?hf3) ?rf3
       case hf3=>go_simp;exact FO m.aq (fun b=>Result.ok (Next.value (.bool b)) w')
       simp only[Act.put,J,U,Aa];refine Reg.Ab 4 (v:=?vf4) rfl (by kernel_rfl) (by kernel_rfl) (by kernel_rfl) (fun _ _ _ h=>h) (by rfl) (fun w' hS=>?hf4) ?rf4
       case hf4=>go_simp;rfl
       simp only[Act.put,J,U,Aa];refine Reg.Ab 5 (v:=?vf5) rfl (by kernel_rfl) (by kernel_rfl) (by kernel_rfl) (fun _ _ _ h=>h) (by rfl) (fun w' hS=>?hf5) ?rf5
       case hf5=>go_simp;rfl
       simp only[Act.put,J,U,Aa];refine Reg.Ab 6 (v:=?vf6) rfl (by kernel_rfl) (by kernel_rfl) (by kernel_rfl) (fun _ _ _ h=>h) (by rfl) (fun w' hS=>?hf6) ?rf6
       case hf6=>have hk:=HK.o.below hS;have k7:w'.cell? ⟨w.heap.size,7,none⟩=some (.string ⟨m.tg.t.s.1.toArray⟩):=hk.cell 7;have k8:w'.cell? ⟨w.heap.size,8,none⟩=some (.string ⟨m.tg.t.s.2.toArray⟩):=hk.cell 8;have k9:w'.cell? ⟨w.heap.size,9,none⟩=some (.int .i64 m.tg.t.k):=hk.cell 9;have k10:w'.cell? ⟨w.heap.size,10,none⟩=some (.slice A1 m.tg.t.b.length c1):=hk.cell 10;go_simp;rfl
       simp only[Act.put,J,U,Aa];refine Reg.Bj 7 rfl (by kernel_rfl) (by rfl) 115 #[.agg #[.string ⟨m.tg.t.s.1.toArray⟩,.string ⟨m.tg.t.s.2.toArray⟩,.int .i64 m.tg.t.k,.slice A1 m.tg.t.b.length c1]] (by go_simp) ?_;refine Calls.mono (N1.o _) ?_;rintro e wn ⟨rfl,hb⟩;refine⟨_,rfl,hb,?_⟩;replace HK:=I (HK.o.below hb);replace HB:=HB.t hb;clear hb;simp only[Act.put,J,U,Aa];refine Reg.Ab 8 (v:=?vf8) rfl (by kernel_rfl) (by kernel_rfl) (by kernel_rfl) (fun _ _ _ h=>h) (by rfl) (fun w' hS=>?hf8) ?rf8
       case hf8=>go_simp;rfl
       simp only[Act.put,J,U,Aa];refine Reg.Ab 9 (v:=?vf9) rfl (by kernel_rfl) (by kernel_rfl) (by kernel_rfl) (fun _ _ _ h=>h) (by rfl) (fun w' hS=>?hf9) ?rf9
       case hf9=>go_simp;rfl
       simp only[Act.put,J,U,Aa];refine Reg.Ab 10 (v:=?vf10) rfl (by kernel_rfl) (by kernel_rfl) (by kernel_rfl) (fun _ _ _ h=>h) (by rfl) (fun w' hS=>?hf10) ?rf10
       case hf10=>go_simp;rfl
       simp only[Act.put,J,U,Aa];refine Reg.Ab 11 (v:=?vf11) rfl (by kernel_rfl) (by kernel_rfl) (by kernel_rfl) (fun _ _ _ h=>h) (by rfl) (fun w' hS=>?hf11) ?rf11
       case hf11=>have hk:=HK.o.below hS;have k11:w'.cell? ⟨w.heap.size,11,none⟩=some (.slice A2 m.tg.a.length c2):=hk.cell 11;go_simp;rfl
       simp only[Act.put,J,U,Aa];refine Reg.Ab 12 (v:=?vf12) rfl (by kernel_rfl) (by kernel_rfl) (by kernel_rfl) (fun _ _ _ h=>h) (by rfl) (fun w' hS=>?hf12) ?rf12
       case hf12=>go_simp;rfl
       simp only[Act.put,J,U,Aa];refine Reg.Ab 13 (v:=?vf13) rfl (by kernel_rfl) (by kernel_rfl) (by kernel_rfl) (fun _ _ _ h=>h) (by rfl) (fun w' hS=>?hf13) ?rf13
       case hf13=>go_simp;rfl
       simp only[Act.put,J,U,Aa];refine Reg.Ab 14 (v:=?vf14) rfl (by kernel_rfl) (by kernel_rfl) (by kernel_rfl) (fun _ _ _ h=>h) (by rfl) (fun w' hS=>?hf14) ?rf14
       case hf14=>go_simp;rfl
       simp only[Act.put,J,U,Aa];refine Reg.Ab 15 (v:=?vf15) rfl (by kernel_rfl) (by kernel_rfl) (by kernel_rfl) (fun _ _ _ h=>h) (by rfl) (fun w' hS=>?hf15) ?rf15
       case hf15=>go_simp;rfl
       simp only[Act.put,J,U,Aa];refine Reg.Ab 16 (v:=?vf16) rfl (by kernel_rfl) (by kernel_rfl) (by kernel_rfl) (fun _ _ _ h=>h) (by rfl) (fun w' hS=>?hf16) ?rf16
       case hf16=>go_simp;rfl
       simp only[Act.put,J,U,Aa];refine Reg.Ab 17 (v:=?vf17) rfl (by kernel_rfl) (by kernel_rfl) (by kernel_rfl) (fun _ _ _ h=>h) (by rfl) (fun w' hS=>?hf17) ?rf17
       case hf17=>go_simp;rfl
       simp only[Act.put,J,U,Aa];refine Reg.Ab 18 (v:=?vf18) rfl (by kernel_rfl) (by kernel_rfl) (by kernel_rfl) (fun _ _ _ h=>h) (by rfl) (fun w' hS=>?hf18) ?rf18
       case hf18=>have hk:=HK.o.below hS;have k12:w'.cell? ⟨w.heap.size,12,none⟩=some (.string ⟨m.tg.s.1.toArray⟩):=hk.cell 12;have k13:w'.cell? ⟨w.heap.size,13,none⟩=some (.string ⟨m.tg.s.2.toArray⟩):=hk.cell 13;go_simp;rfl
       simp only[Act.put,J,U,Aa];refine Reg.Ab 19 (v:=?vf19) rfl (by kernel_rfl) (by kernel_rfl) (by kernel_rfl) (fun _ _ _ h=>h) (by rfl) (fun w' hS=>?hf19) ?rf19
       case hf19=>go_simp;rfl
       simp only[Act.put,J,U,Aa];refine Reg.Ab 20 (v:=.bool true) rfl (by kernel_rfl) (by kernel_rfl) (by kernel_rfl) (fun _ _ _ h=>h) (by rfl) (fun w' hS=>?hf20) ?rf20
       case hf20=>go_simp;exact(Kh m.tg.s (fun b=>Result.ok (Next.value (.bool b)) w')).trans (by rw[SQ.o])
       simp only[Act.put,J,U,Aa];refine Reg.Ab 21 (v:=?vf21) rfl (by kernel_rfl) (by kernel_rfl) (by kernel_rfl) (fun _ _ _ h=>h) (by rfl) (fun w' hS=>?hf21) ?rf21
       case hf21=>go_simp;rfl
       simp only[Act.put,J,U,Aa];refine Reg.Ab 22 (v:=?vf22) rfl (by kernel_rfl) (by kernel_rfl) (by kernel_rfl) (fun _ _ _ h=>h) (by rfl) (fun w' hS=>?hf22) ?rf22
       case hf22=>go_simp;rfl
       simp only[Act.put,J,U,Aa];refine Reg.Ab 23 (v:=?vf23) rfl (by kernel_rfl) (by kernel_rfl) (by kernel_rfl) (fun _ _ _ h=>h) (by rfl) (fun w' hS=>?hf23) ?rf23
       case hf23=>go_simp;rfl
       simp only[Act.put,J,U,Aa];refine Reg.Ab 24 (v:=?vf24) rfl (by kernel_rfl) (by kernel_rfl) (by kernel_rfl) (fun _ _ _ h=>h) (by rfl) (fun w' hS=>?hf24) ?rf24
       case hf24=>go_simp;rfl
       simp only[Act.put,J,U,Aa];refine Reg.Ab 25 (v:=?vf25) rfl (by kernel_rfl) (by kernel_rfl) (by kernel_rfl) (fun _ _ _ h=>h) (by rfl) (fun w' hS=>?hf25) ?rf25
       case hf25=>have hk:=HK.o.below hS;have k14:w'.cell? ⟨w.heap.size,14,none⟩=some (.int .i64 m.tg.u):=hk.cell 14;go_simp;rfl
       simp only[Act.put,J,U,Aa];refine Reg.Ab 26 (v:=?vf26) rfl (by kernel_rfl) (by kernel_rfl) (by kernel_rfl) (fun _ _ _ h=>h) (by rfl) (fun w' hS=>?hf26) ?rf26
       case hf26=>go_simp;rfl
       simp only[Act.put,J,U,Aa];refine Reg.Ab 27 (v:=?vf27) rfl (by kernel_rfl) (by kernel_rfl) (by kernel_rfl) (fun _ _ _ h=>h) (by rfl) (fun w' hS=>?hf27) ?rf27
       case hf27=>go_simp;rfl
       simp only[Act.put,J,U,Aa];refine Reg.Ab 28 (v:=?vf28) rfl (by kernel_rfl) (by kernel_rfl) (by kernel_rfl) (fun _ _ _ h=>h) (by rfl) (fun w' hS=>?hf28) ?rf28
       case hf28=>go_simp;rfl
       simp only[Act.put,J,U,Aa];refine Reg.Ab 29 (v:=?vf29) rfl (by kernel_rfl) (by kernel_rfl) (by kernel_rfl) (fun _ _ _ h=>h) (by rfl) (fun w' hS=>?hf29) ?rf29
       case hf29=>go_simp;rfl
       simp only[Act.put,J,U,Aa];refine Reg.Ab 30 (v:=?vf30) rfl (by kernel_rfl) (by kernel_rfl) (by kernel_rfl) (fun _ _ _ h=>h) (by rfl) (fun w' hS=>?hf30) ?rf30
       case hf30=>go_simp;rfl
       simp only[Act.put,J,U,Aa];refine Reg.Ab 31 (v:=?vf31) rfl (by kernel_rfl) (by kernel_rfl) (by kernel_rfl) (fun _ _ _ h=>h) (by rfl) (fun w' hS=>?hf31) ?rf31
       case hf31=>have hk:=HK.o.below hS;have k15:w'.cell? ⟨w.heap.size,15,none⟩=some (.int .i64 m.tg.no):=hk.cell 15;go_simp;rfl
       simp only[Act.put,J,U,Aa];refine Reg.Ab 32 (v:=?vf32) rfl (by kernel_rfl) (by kernel_rfl) (by kernel_rfl) (fun _ _ _ h=>h) (by rfl) (fun w' hS=>?hf32) ?rf32
       case hf32=>go_simp;rfl
       simp only[Act.put,J,U,Aa];refine Reg.Ab 33 (v:=?vf33) rfl (by kernel_rfl) (by kernel_rfl) (by kernel_rfl) (fun _ _ _ h=>h) (by rfl) (fun w' hS=>?hf33) ?rf33
       case hf33=>go_simp;rfl
       simp only[Act.put,J,U,Aa];refine Reg.Ab 34 (v:=?vf34) rfl (by kernel_rfl) (by kernel_rfl) (by kernel_rfl) (fun _ _ _ h=>h) (by rfl) (fun w' hS=>?hf34) ?rf34
       case hf34=>go_simp;rfl
       simp only[Act.put,J,U,Aa];refine Reg.Ab 35 (v:=?vf35) rfl (by kernel_rfl) (by kernel_rfl) (by kernel_rfl) (fun _ _ _ h=>h) (by rfl) (fun w' hS=>?hf35) ?rf35
       case hf35=>go_simp;rfl
       simp only[Act.put,J,U,Aa];refine wpAnyH_done (by kernel_rfl) ?_ _
       go_wp2_with fail
       go_meet
       exact⟨rfl,by rw[E.o],HB.o,HK.o⟩
 case rest=>
  obtain⟨rfl,rfl,hb,hk⟩:=hcut;replace HB:=I hb;replace HK:=I hk;clear hb hk;obtain⟨zA,eA⟩:∃z,z=decide (m.aq=as0):=⟨_,rfl⟩;obtain⟨zT,eT⟩:∃z,z=decide (m.tg=tg0):=⟨_,rfl⟩;rw[←eA,←eT];have EA:=I eA;have ET:=I eT;clear eA eT;obtain⟨v0,ev0⟩:∃v:Value,v = .agg #[.int .i64 m.k,.string ⟨m.aq.c.1.toArray⟩,.string ⟨m.aq.c.2.toArray⟩,.string ⟨m.aq.s.1.toArray⟩,.string ⟨m.aq.s.2.toArray⟩,.int .i64 m.aq.t,.int .i64 m.aq.no,.string ⟨m.tg.t.s.1.toArray⟩,.string ⟨m.tg.t.s.2.toArray⟩,.int .i64 m.tg.t.k,.slice A1 m.tg.t.b.length c1,.slice A2 m.tg.a.length c2,.string ⟨m.tg.s.1.toArray⟩,.string ⟨m.tg.s.2.toArray⟩,.int .i64 m.tg.u,.int .i64 m.tg.no,.string ⟨m.re.c.1.toArray⟩,.string ⟨m.re.c.2.toArray⟩,.string ⟨m.re.t.s.1.toArray⟩,.string ⟨m.re.t.s.2.toArray⟩,.int .i64 m.re.t.k,.slice A3 m.re.t.b.length c3,.slice A4 m.re.b.length c4,.string ⟨m.ap.t.s.1.toArray⟩,.string ⟨m.ap.t.s.2.toArray⟩,.int .i64 m.ap.t.k,.slice A5 m.ap.t.b.length c5,.slice A6 m.ap.a.length c6,.int .i64 m.fa.e,.int .i64 m.fa.no]:=⟨_,rfl⟩;rw[←ev0];clear ev0
  go_upto_region 3 with fail
  go_cut [6] from 45 to 62 (fun rv wx=>rv = .bool (decide (m.re=re0))∧Below w.heap.size w wx∧Blk wx w.heap.size 76 #[.int .i64 m.k,.string ⟨m.aq.c.1.toArray⟩,.string ⟨m.aq.c.2.toArray⟩,.string ⟨m.aq.s.1.toArray⟩,.string ⟨m.aq.s.2.toArray⟩,.int .i64 m.aq.t,.int .i64 m.aq.no,.string ⟨m.tg.t.s.1.toArray⟩,.string ⟨m.tg.t.s.2.toArray⟩,.int .i64 m.tg.t.k,.slice A1 m.tg.t.b.length c1,.slice A2 m.tg.a.length c2,.string ⟨m.tg.s.1.toArray⟩,.string ⟨m.tg.s.2.toArray⟩,.int .i64 m.tg.u,.int .i64 m.tg.no,.string ⟨m.re.c.1.toArray⟩,.string ⟨m.re.c.2.toArray⟩,.string ⟨m.re.t.s.1.toArray⟩,.string ⟨m.re.t.s.2.toArray⟩,.int .i64 m.re.t.k,.slice A3 m.re.t.b.length c3,.slice A4 m.re.b.length c4,.string ⟨m.ap.t.s.1.toArray⟩,.string ⟨m.ap.t.s.2.toArray⟩,.int .i64 m.ap.t.k,.slice A5 m.ap.t.b.length c5,.slice A6 m.ap.a.length c6,.int .i64 m.fa.e,.int .i64 m.fa.no])
  case first=>
   have k16:wc.cell? ⟨w.heap.size,16,none⟩=some (.string ⟨m.re.c.1.toArray⟩):=HK.o.cell 16;have k17:wc.cell? ⟨w.heap.size,17,none⟩=some (.string ⟨m.re.c.2.toArray⟩):=HK.o.cell 17;have k18:wc.cell? ⟨w.heap.size,18,none⟩=some (.string ⟨m.re.t.s.1.toArray⟩):=HK.o.cell 18;have k19:wc.cell? ⟨w.heap.size,19,none⟩=some (.string ⟨m.re.t.s.2.toArray⟩):=HK.o.cell 19;have k20:wc.cell? ⟨w.heap.size,20,none⟩=some (.int .i64 m.re.t.k):=HK.o.cell 20;have k21:wc.cell? ⟨w.heap.size,21,none⟩=some (.slice A3 m.re.t.b.length c3):=HK.o.cell 21;have k22:wc.cell? ⟨w.heap.size,22,none⟩=some (.slice A4 m.re.b.length c4):=HK.o.cell 22;have RF:=I (Nt m.re);cases q1:decide (m.re.c=pr0) with
   |false=>
    have E:=I (show decide (m.re=re0)=false by rw[RF.o,q1];rfl)
    by_cases a1:m.re.c.1 = []
    ·have a2:¬m.re.c.2 = []:=fun h=>by rw[show m.re.c=pr0 from Prod.ext a1 h] at q1;cases q1
     clear q1
     go_wp2_with fail
     go_meet
     exact⟨by rw[E.o],HB.o,HK.o⟩
    ·clear q1
     go_wp2_with fail
     go_meet
     exact⟨by rw[E.o],HB.o,HK.o⟩
   |true=>
    have a0:m.re.c=pr0:=of_decide_eq_true q1;have a1:m.re.c.1 = []:=by rw[a0];rfl
    have a2:m.re.c.2 = []:=by rw[a0];rfl
    clear a0;cases q2:decide (m.re.t=tk0) with
    |false=>
     rw[q2] at N2;have E:=I (show decide (m.re=re0)=false by rw[RF.o,q1,q2];rfl);clear q1 q2
     go_wp2_with (go_at_call 115;refine Calls.mono (N2.o _) ?_;rintro e wn ⟨rfl,hb⟩;replace HK:=I (HK.o.below hb);replace HB:=HB.t hb;clear hb;clear k16 k17 k18 k19 k20 k21 k22;have k16:wn.cell? ⟨w.heap.size,16,none⟩=some (.string ⟨m.re.c.1.toArray⟩):=HK.o.cell 16;have k17:wn.cell? ⟨w.heap.size,17,none⟩=some (.string ⟨m.re.c.2.toArray⟩):=HK.o.cell 17;have k18:wn.cell? ⟨w.heap.size,18,none⟩=some (.string ⟨m.re.t.s.1.toArray⟩):=HK.o.cell 18;have k19:wn.cell? ⟨w.heap.size,19,none⟩=some (.string ⟨m.re.t.s.2.toArray⟩):=HK.o.cell 19;have k20:wn.cell? ⟨w.heap.size,20,none⟩=some (.int .i64 m.re.t.k):=HK.o.cell 20;have k21:wn.cell? ⟨w.heap.size,21,none⟩=some (.slice A3 m.re.t.b.length c3):=HK.o.cell 21;have k22:wn.cell? ⟨w.heap.size,22,none⟩=some (.slice A4 m.re.b.length c4):=HK.o.cell 22)
     go_meet
     exact⟨by rw[E.o],HB.o,HK.o⟩
    |true=>
     rw[q2] at N2;cases q3:decide (m.re.b = []) with
     |false=>
      have t2:((m.re.b.length:Int)==0)=false:=by simpa using q3
      have E:=I (show decide (m.re=re0)=false by rw[RF.o,q1,q2,q3];rfl);clear q1 q2 q3
      go_wp2_with (go_at_call 115;refine Calls.mono (N2.o _) ?_;rintro e wn ⟨rfl,hb⟩;replace HK:=I (HK.o.below hb);replace HB:=HB.t hb;clear hb;clear k16 k17 k18 k19 k20 k21 k22;have k16:wn.cell? ⟨w.heap.size,16,none⟩=some (.string ⟨m.re.c.1.toArray⟩):=HK.o.cell 16;have k17:wn.cell? ⟨w.heap.size,17,none⟩=some (.string ⟨m.re.c.2.toArray⟩):=HK.o.cell 17;have k18:wn.cell? ⟨w.heap.size,18,none⟩=some (.string ⟨m.re.t.s.1.toArray⟩):=HK.o.cell 18;have k19:wn.cell? ⟨w.heap.size,19,none⟩=some (.string ⟨m.re.t.s.2.toArray⟩):=HK.o.cell 19;have k20:wn.cell? ⟨w.heap.size,20,none⟩=some (.int .i64 m.re.t.k):=HK.o.cell 20;have k21:wn.cell? ⟨w.heap.size,21,none⟩=some (.slice A3 m.re.t.b.length c3):=HK.o.cell 21;have k22:wn.cell? ⟨w.heap.size,22,none⟩=some (.slice A4 m.re.b.length c4):=HK.o.cell 22)
      go_meet
      exact⟨by rw[E.o],HB.o,HK.o⟩
     |true=>
      have t2:((m.re.b.length:Int)==0)=true:=by simpa using q3
      have E:=I (show decide (m.re=re0)=true by rw[RF.o,q1,q2,q3];rfl);clear q1 q2 q3
      go_wp2_with (go_at_call 115;refine Calls.mono (N2.o _) ?_;rintro e wn ⟨rfl,hb⟩;replace HK:=I (HK.o.below hb);replace HB:=HB.t hb;clear hb;clear k16 k17 k18 k19 k20 k21 k22;have k16:wn.cell? ⟨w.heap.size,16,none⟩=some (.string ⟨m.re.c.1.toArray⟩):=HK.o.cell 16;have k17:wn.cell? ⟨w.heap.size,17,none⟩=some (.string ⟨m.re.c.2.toArray⟩):=HK.o.cell 17;have k18:wn.cell? ⟨w.heap.size,18,none⟩=some (.string ⟨m.re.t.s.1.toArray⟩):=HK.o.cell 18;have k19:wn.cell? ⟨w.heap.size,19,none⟩=some (.string ⟨m.re.t.s.2.toArray⟩):=HK.o.cell 19;have k20:wn.cell? ⟨w.heap.size,20,none⟩=some (.int .i64 m.re.t.k):=HK.o.cell 20;have k21:wn.cell? ⟨w.heap.size,21,none⟩=some (.slice A3 m.re.t.b.length c3):=HK.o.cell 21;have k22:wn.cell? ⟨w.heap.size,22,none⟩=some (.slice A4 m.re.b.length c4):=HK.o.cell 22)
      go_meet
      exact⟨by rw[E.o],HB.o,HK.o⟩
  case rest=>
   obtain⟨rfl,hb,hk⟩:=hcut;replace HB:=I hb;replace HK:=I hk;clear hb hk;obtain⟨zR,eR⟩:∃z,z=decide (m.re=re0):=⟨_,rfl⟩;rw[←eR];have ER:=I eR;clear eR
   go_upto_region 4 with fail
   go_cut [7,8] from 63 to 77 (fun av fv wx=>av = .bool (decide (m.ap=ap0))∧fv = .bool (decide (m.fa=fa0))∧Below w.heap.size w wx∧Blk wx w.heap.size 76 #[.int .i64 m.k,.string ⟨m.aq.c.1.toArray⟩,.string ⟨m.aq.c.2.toArray⟩,.string ⟨m.aq.s.1.toArray⟩,.string ⟨m.aq.s.2.toArray⟩,.int .i64 m.aq.t,.int .i64 m.aq.no,.string ⟨m.tg.t.s.1.toArray⟩,.string ⟨m.tg.t.s.2.toArray⟩,.int .i64 m.tg.t.k,.slice A1 m.tg.t.b.length c1,.slice A2 m.tg.a.length c2,.string ⟨m.tg.s.1.toArray⟩,.string ⟨m.tg.s.2.toArray⟩,.int .i64 m.tg.u,.int .i64 m.tg.no,.string ⟨m.re.c.1.toArray⟩,.string ⟨m.re.c.2.toArray⟩,.string ⟨m.re.t.s.1.toArray⟩,.string ⟨m.re.t.s.2.toArray⟩,.int .i64 m.re.t.k,.slice A3 m.re.t.b.length c3,.slice A4 m.re.b.length c4,.string ⟨m.ap.t.s.1.toArray⟩,.string ⟨m.ap.t.s.2.toArray⟩,.int .i64 m.ap.t.k,.slice A5 m.ap.t.b.length c5,.slice A6 m.ap.a.length c6,.int .i64 m.fa.e,.int .i64 m.fa.no])
   case first=>
    have PF:=I (Nu m.ap);replace HK:=I (show Blk wc.drew _ _ _ from HK.o.drewN 1);replace HB:=I (show Below _ _ wc.drew from below_drewN HB.o 1);cases q1:decide (m.ap.t=tk0) with
    |false=>
     rw[q1] at N3;have E:=I (show decide (m.ap=ap0)=false by rw[PF.o,q1];rfl);clear q1;refine Reg.AF 17 rfl (by kernel_rfl) ?_;refine Reg.Ab 0 (v:=?vg0) rfl (by kernel_rfl) (by kernel_rfl) (by kernel_rfl) (fun _ _ _ h=>h) (by rfl) (fun w' hS=>?hg0) ?rg0
     case hg0=>go_simp;rfl
     simp only[Act.put,J,U,Aa];refine Reg.Ab 1 (v:=?vg1) rfl (by kernel_rfl) (by kernel_rfl) (by kernel_rfl) (fun _ _ _ h=>h) (by rfl) (fun w' hS=>?hg1) ?rg1
     case hg1=>go_simp;rfl
     simp only[Act.put,J,U,Aa];refine Reg.Ab 2 (v:=?vg2) rfl (by kernel_rfl) (by kernel_rfl) (by kernel_rfl) (fun _ _ _ h=>h) (by rfl) (fun w' hS=>?hg2) ?rg2
     case hg2=>have hk:=HK.o.below hS;have k23:w'.cell? ⟨w.heap.size,23,none⟩=some (.string ⟨m.ap.t.s.1.toArray⟩):=hk.cell 23;have k24:w'.cell? ⟨w.heap.size,24,none⟩=some (.string ⟨m.ap.t.s.2.toArray⟩):=hk.cell 24;have k25:w'.cell? ⟨w.heap.size,25,none⟩=some (.int .i64 m.ap.t.k):=hk.cell 25;have k26:w'.cell? ⟨w.heap.size,26,none⟩=some (.slice A5 m.ap.t.b.length c5):=hk.cell 26;go_simp;rfl
     simp only[Act.put,J,U,Aa];refine Reg.Ab 11 (v:=?vg11) rfl (by kernel_rfl) (by kernel_rfl) (by kernel_rfl) (fun _ _ _ h=>h) (by rfl) (fun w' hS=>?hg11) ?rg11
     case hg11=>go_simp;rfl
     simp only[Act.put,J,U,Aa];refine Reg.Ab 12 (v:=?vg12) rfl (by kernel_rfl) (by kernel_rfl) (by kernel_rfl) (fun _ _ _ h=>h) (by rfl) (fun w' hS=>?hg12) ?rg12
     case hg12=>have hk:=HK.o.below hS;have k28:w'.cell? ⟨w.heap.size,28,none⟩=some (.int .i64 m.fa.e):=hk.cell 28;have k29:w'.cell? ⟨w.heap.size,29,none⟩=some (.int .i64 m.fa.no):=hk.cell 29;go_simp;rfl
     simp only[Act.put,J,U,Aa];refine Reg.Ab 13 (v:=?vg13) rfl (by kernel_rfl) (by kernel_rfl) (by kernel_rfl) (fun _ _ _ h=>h) (by rfl) (fun w' hS=>?hg13) ?rg13
     case hg13=>go_simp;rfl
     simp only[Act.put,J,U,Aa];refine Reg.Ab 14 (v:=.bool (decide (m.fa=fa0))) rfl (by kernel_rfl) (by kernel_rfl) (by kernel_rfl) (fun _ _ _ h=>h) (by rfl) (fun w' hS=>?hg14) ?rg14
     case hg14=>go_simp;exact Ki m.fa (fun b=>Result.ok (Next.value (.bool b)) w')
     simp only[Act.put,J,U,Aa];refine Reg.Bj 3 rfl (by kernel_rfl) (by rfl) 115 #[.agg #[.string ⟨m.ap.t.s.1.toArray⟩,.string ⟨m.ap.t.s.2.toArray⟩,.int .i64 m.ap.t.k,.slice A5 m.ap.t.b.length c5]] (by go_simp) ?_;refine Calls.mono (N3.o _) ?_;rintro e wn ⟨rfl,hb⟩;refine⟨_,rfl,hb,?_⟩;replace HK:=I (HK.o.below hb);replace HB:=HB.t hb;clear hb;simp only[Act.put,J,U,Aa];refine Reg.Ab 4 (v:=?vg4) rfl (by kernel_rfl) (by kernel_rfl) (by kernel_rfl) (fun _ _ _ h=>h) (by rfl) (fun w' hS=>?hg4) ?rg4
     case hg4=>go_simp;rfl
     simp only[Act.put,J,U,Aa];refine Reg.Ar 5 rfl (by kernel_rfl) (by kernel_rfl) (by kernel_rfl) (fun _ _ _ h=>h) (by rfl) ?_;simp only[Act.put,J,U,Aa];refine Reg.Ar 6 rfl (by kernel_rfl) (by kernel_rfl) (by kernel_rfl) (fun _ _ _ h=>h) (by rfl) ?_;simp only[Act.put,J,U,Aa];refine Reg.Ar 7 rfl (by kernel_rfl) (by kernel_rfl) (by kernel_rfl) (fun _ _ _ h=>h) (by rfl) ?_;simp only[Act.put,J,U,Aa];refine Reg.Ar 8 rfl (by kernel_rfl) (by kernel_rfl) (by kernel_rfl) (fun _ _ _ h=>h) (by rfl) ?_;simp only[Act.put,J,U,Aa];refine Reg.Ar 9 rfl (by kernel_rfl) (by kernel_rfl) (by kernel_rfl) (fun _ _ _ h=>h) (by rfl) ?_;simp only[Act.put,J,U,Aa];refine Reg.Ab 10 (v:=?vg10) rfl (by kernel_rfl) (by kernel_rfl) (by kernel_rfl) (fun _ _ _ h=>h) (by rfl) (fun w' hS=>?hg10) ?rg10
     case hg10=>go_simp;rfl
     simp only[Act.put,J,U,Aa];refine Reg.Ab 15 (v:=?vg15) rfl (by kernel_rfl) (by kernel_rfl) (by kernel_rfl) (fun _ _ _ h=>h) (by rfl) (fun w' hS=>?hg15) ?rg15
     case hg15=>go_simp;rfl
     simp only[Act.put,J,U,Aa];refine Reg.Ab 16 (v:=?vg16) rfl (by kernel_rfl) (by kernel_rfl) (by kernel_rfl) (fun _ _ _ h=>h) (by rfl) (fun w' hS=>?hg16) ?rg16
     case hg16=>go_simp;rfl
     simp only[Act.put,J,U,Aa];refine wpAnyH_done (by kernel_rfl) ?_ _
     go_wp2_with fail
     go_meet
     exact⟨by rw[E.o],rfl,HB.o,HK.o⟩
    |true=>
     rw[q1] at N3;cases q2:decide (m.ap.a = []) with
     |false=>
      have t2:((m.ap.a.length:Int)==0)=false:=by simpa using q2
      have E:=I (show decide (m.ap=ap0)=false by rw[PF.o,q1,q2];rfl);clear q1 q2;refine Reg.AF 17 rfl (by kernel_rfl) ?_;refine Reg.Ab 0 (v:=?vh0) rfl (by kernel_rfl) (by kernel_rfl) (by kernel_rfl) (fun _ _ _ h=>h) (by rfl) (fun w' hS=>?hh0) ?rh0
      case hh0=>go_simp;rfl
      simp only[Act.put,J,U,Aa];refine Reg.Ab 1 (v:=?vh1) rfl (by kernel_rfl) (by kernel_rfl) (by kernel_rfl) (fun _ _ _ h=>h) (by rfl) (fun w' hS=>?hh1) ?rh1
      case hh1=>go_simp;rfl
      simp only[Act.put,J,U,Aa];refine Reg.Ab 2 (v:=?vh2) rfl (by kernel_rfl) (by kernel_rfl) (by kernel_rfl) (fun _ _ _ h=>h) (by rfl) (fun w' hS=>?hh2) ?rh2
      case hh2=>have hk:=HK.o.below hS;have k23:w'.cell? ⟨w.heap.size,23,none⟩=some (.string ⟨m.ap.t.s.1.toArray⟩):=hk.cell 23;have k24:w'.cell? ⟨w.heap.size,24,none⟩=some (.string ⟨m.ap.t.s.2.toArray⟩):=hk.cell 24;have k25:w'.cell? ⟨w.heap.size,25,none⟩=some (.int .i64 m.ap.t.k):=hk.cell 25;have k26:w'.cell? ⟨w.heap.size,26,none⟩=some (.slice A5 m.ap.t.b.length c5):=hk.cell 26;go_simp;rfl
      simp only[Act.put,J,U,Aa];refine Reg.Ab 11 (v:=?vh11) rfl (by kernel_rfl) (by kernel_rfl) (by kernel_rfl) (fun _ _ _ h=>h) (by rfl) (fun w' hS=>?hh11) ?rh11
      case hh11=>go_simp;rfl
      simp only[Act.put,J,U,Aa];refine Reg.Ab 12 (v:=?vh12) rfl (by kernel_rfl) (by kernel_rfl) (by kernel_rfl) (fun _ _ _ h=>h) (by rfl) (fun w' hS=>?hh12) ?rh12
      case hh12=>have hk:=HK.o.below hS;have k28:w'.cell? ⟨w.heap.size,28,none⟩=some (.int .i64 m.fa.e):=hk.cell 28;have k29:w'.cell? ⟨w.heap.size,29,none⟩=some (.int .i64 m.fa.no):=hk.cell 29;go_simp;rfl
      simp only[Act.put,J,U,Aa];refine Reg.Ab 13 (v:=?vh13) rfl (by kernel_rfl) (by kernel_rfl) (by kernel_rfl) (fun _ _ _ h=>h) (by rfl) (fun w' hS=>?hh13) ?rh13
      case hh13=>go_simp;rfl
      simp only[Act.put,J,U,Aa];refine Reg.Ab 14 (v:=.bool (decide (m.fa=fa0))) rfl (by kernel_rfl) (by kernel_rfl) (by kernel_rfl) (fun _ _ _ h=>h) (by rfl) (fun w' hS=>?hh14) ?rh14
      case hh14=>go_simp;exact Ki m.fa (fun b=>Result.ok (Next.value (.bool b)) w')
      simp only[Act.put,J,U,Aa];refine Reg.Bj 3 rfl (by kernel_rfl) (by rfl) 115 #[.agg #[.string ⟨m.ap.t.s.1.toArray⟩,.string ⟨m.ap.t.s.2.toArray⟩,.int .i64 m.ap.t.k,.slice A5 m.ap.t.b.length c5]] (by go_simp) ?_;refine Calls.mono (N3.o _) ?_;rintro e wn ⟨rfl,hb⟩;refine⟨_,rfl,hb,?_⟩;replace HK:=I (HK.o.below hb);replace HB:=HB.t hb;clear hb;simp only[Act.put,J,U,Aa];refine Reg.Ab 4 (v:=?vh4) rfl (by kernel_rfl) (by kernel_rfl) (by kernel_rfl) (fun _ _ _ h=>h) (by rfl) (fun w' hS=>?hh4) ?rh4
      case hh4=>go_simp;rfl
      simp only[Act.put,J,U,Aa];refine Reg.Ab 5 (v:=?vh5) rfl (by kernel_rfl) (by kernel_rfl) (by kernel_rfl) (fun _ _ _ h=>h) (by rfl) (fun w' hS=>?hh5) ?rh5
      case hh5=>go_simp;rfl
      simp only[Act.put,J,U,Aa];refine Reg.Ab 6 (v:=?vh6) rfl (by kernel_rfl) (by kernel_rfl) (by kernel_rfl) (fun _ _ _ h=>h) (by rfl) (fun w' hS=>?hh6) ?rh6
      case hh6=>go_simp;rfl
      simp only[Act.put,J,U,Aa];refine Reg.Ab 7 (v:=?vh7) rfl (by kernel_rfl) (by kernel_rfl) (by kernel_rfl) (fun _ _ _ h=>h) (by rfl) (fun w' hS=>?hh7) ?rh7
      case hh7=>have hk:=HK.o.below hS;have k27:w'.cell? ⟨w.heap.size,27,none⟩=some (.slice A6 m.ap.a.length c6):=hk.cell 27;go_simp;rfl
      simp only[Act.put,J,U,Aa];refine Reg.Ab 8 (v:=?vh8) rfl (by kernel_rfl) (by kernel_rfl) (by kernel_rfl) (fun _ _ _ h=>h) (by rfl) (fun w' hS=>?hh8) ?rh8
      case hh8=>go_simp;rfl
      simp only[Act.put,J,U,Aa];refine Reg.Ab 9 (v:=?vh9) rfl (by kernel_rfl) (by kernel_rfl) (by kernel_rfl) (fun _ _ _ h=>h) (by rfl) (fun w' hS=>?hh9) ?rh9
      case hh9=>go_simp;rfl
      simp only[Act.put,J,U,Aa];refine Reg.Ab 10 (v:=?vh10) rfl (by kernel_rfl) (by kernel_rfl) (by kernel_rfl) (fun _ _ _ h=>h) (by rfl) (fun w' hS=>?hh10) ?rh10
      case hh10=>go_simp;rfl
      simp only[Act.put,J,U,Aa];refine Reg.Ab 15 (v:=?vh15) rfl (by kernel_rfl) (by kernel_rfl) (by kernel_rfl) (fun _ _ _ h=>h) (by rfl) (fun w' hS=>?hh15) ?rh15
      case hh15=>go_simp;rfl
      simp only[Act.put,J,U,Aa];refine Reg.Ab 16 (v:=?vh16) rfl (by kernel_rfl) (by kernel_rfl) (by kernel_rfl) (fun _ _ _ h=>h) (by rfl) (fun w' hS=>?hh16) ?rh16
      case hh16=>go_simp;rfl
      simp only[Act.put,J,U,Aa];refine wpAnyH_done (by kernel_rfl) ?_ _
      go_wp2_with fail
      go_meet
      exact⟨by rw[E.o],rfl,HB.o,HK.o⟩
     |true=>
      have t2:((m.ap.a.length:Int)==0)=true:=by simpa using q2
      have E:=I (show decide (m.ap=ap0)=true by rw[PF.o,q1,q2];rfl);clear q1 q2;refine Reg.AF 17 rfl (by kernel_rfl) ?_;refine Reg.Ab 0 (v:=?vi0) rfl (by kernel_rfl) (by kernel_rfl) (by kernel_rfl) (fun _ _ _ h=>h) (by rfl) (fun w' hS=>?hi0) ?ri0
      case hi0=>go_simp;rfl
      simp only[Act.put,J,U,Aa];refine Reg.Ab 1 (v:=?vi1) rfl (by kernel_rfl) (by kernel_rfl) (by kernel_rfl) (fun _ _ _ h=>h) (by rfl) (fun w' hS=>?hi1) ?ri1
      case hi1=>go_simp;rfl
      simp only[Act.put,J,U,Aa];refine Reg.Ab 2 (v:=?vi2) rfl (by kernel_rfl) (by kernel_rfl) (by kernel_rfl) (fun _ _ _ h=>h) (by rfl) (fun w' hS=>?hi2) ?ri2
      case hi2=>have hk:=HK.o.below hS;have k23:w'.cell? ⟨w.heap.size,23,none⟩=some (.string ⟨m.ap.t.s.1.toArray⟩):=hk.cell 23;have k24:w'.cell? ⟨w.heap.size,24,none⟩=some (.string ⟨m.ap.t.s.2.toArray⟩):=hk.cell 24;have k25:w'.cell? ⟨w.heap.size,25,none⟩=some (.int .i64 m.ap.t.k):=hk.cell 25;have k26:w'.cell? ⟨w.heap.size,26,none⟩=some (.slice A5 m.ap.t.b.length c5):=hk.cell 26;go_simp;rfl
      simp only[Act.put,J,U,Aa];refine Reg.Ab 11 (v:=?vi11) rfl (by kernel_rfl) (by kernel_rfl) (by kernel_rfl) (fun _ _ _ h=>h) (by rfl) (fun w' hS=>?hi11) ?ri11
      case hi11=>go_simp;rfl
      simp only[Act.put,J,U,Aa];refine Reg.Ab 12 (v:=?vi12) rfl (by kernel_rfl) (by kernel_rfl) (by kernel_rfl) (fun _ _ _ h=>h) (by rfl) (fun w' hS=>?hi12) ?ri12
      case hi12=>have hk:=HK.o.below hS;have k28:w'.cell? ⟨w.heap.size,28,none⟩=some (.int .i64 m.fa.e):=hk.cell 28;have k29:w'.cell? ⟨w.heap.size,29,none⟩=some (.int .i64 m.fa.no):=hk.cell 29;go_simp;rfl
      simp only[Act.put,J,U,Aa];refine Reg.Ab 13 (v:=?vi13) rfl (by kernel_rfl) (by kernel_rfl) (by kernel_rfl) (fun _ _ _ h=>h) (by rfl) (fun w' hS=>?hi13) ?ri13
      case hi13=>go_simp;rfl
      simp only[Act.put,J,U,Aa];refine Reg.Ab 14 (v:=.bool (decide (m.fa=fa0))) rfl (by kernel_rfl) (by kernel_rfl) (by kernel_rfl) (fun _ _ _ h=>h) (by rfl) (fun w' hS=>?hi14) ?ri14
      case hi14=>go_simp;exact Ki m.fa (fun b=>Result.ok (Next.value (.bool b)) w')
      simp only[Act.put,J,U,Aa];refine Reg.Bj 3 rfl (by kernel_rfl) (by rfl) 115 #[.agg #[.string ⟨m.ap.t.s.1.toArray⟩,.string ⟨m.ap.t.s.2.toArray⟩,.int .i64 m.ap.t.k,.slice A5 m.ap.t.b.length c5]] (by go_simp) ?_;refine Calls.mono (N3.o _) ?_;rintro e wn ⟨rfl,hb⟩;refine⟨_,rfl,hb,?_⟩;replace HK:=I (HK.o.below hb);replace HB:=HB.t hb;clear hb;simp only[Act.put,J,U,Aa];refine Reg.Ab 4 (v:=?vi4) rfl (by kernel_rfl) (by kernel_rfl) (by kernel_rfl) (fun _ _ _ h=>h) (by rfl) (fun w' hS=>?hi4) ?ri4
      case hi4=>go_simp;rfl
      simp only[Act.put,J,U,Aa];refine Reg.Ab 5 (v:=?vi5) rfl (by kernel_rfl) (by kernel_rfl) (by kernel_rfl) (fun _ _ _ h=>h) (by rfl) (fun w' hS=>?hi5) ?ri5
      case hi5=>go_simp;rfl
      simp only[Act.put,J,U,Aa];refine Reg.Ab 6 (v:=?vi6) rfl (by kernel_rfl) (by kernel_rfl) (by kernel_rfl) (fun _ _ _ h=>h) (by rfl) (fun w' hS=>?hi6) ?ri6
      case hi6=>go_simp;rfl
      simp only[Act.put,J,U,Aa];refine Reg.Ab 7 (v:=?vi7) rfl (by kernel_rfl) (by kernel_rfl) (by kernel_rfl) (fun _ _ _ h=>h) (by rfl) (fun w' hS=>?hi7) ?ri7
      case hi7=>have hk:=HK.o.below hS;have k27:w'.cell? ⟨w.heap.size,27,none⟩=some (.slice A6 m.ap.a.length c6):=hk.cell 27;go_simp;rfl
      simp only[Act.put,J,U,Aa];refine Reg.Ab 8 (v:=?vi8) rfl (by kernel_rfl) (by kernel_rfl) (by kernel_rfl) (fun _ _ _ h=>h) (by rfl) (fun w' hS=>?hi8) ?ri8
      case hi8=>go_simp;rfl
      simp only[Act.put,J,U,Aa];refine Reg.Ab 9 (v:=?vi9) rfl (by kernel_rfl) (by kernel_rfl) (by kernel_rfl) (fun _ _ _ h=>h) (by rfl) (fun w' hS=>?hi9) ?ri9
      case hi9=>go_simp;rfl
      simp only[Act.put,J,U,Aa];refine Reg.Ab 10 (v:=?vi10) rfl (by kernel_rfl) (by kernel_rfl) (by kernel_rfl) (fun _ _ _ h=>h) (by rfl) (fun w' hS=>?hi10) ?ri10
      case hi10=>go_simp;rfl
      simp only[Act.put,J,U,Aa];refine Reg.Ab 15 (v:=?vi15) rfl (by kernel_rfl) (by kernel_rfl) (by kernel_rfl) (fun _ _ _ h=>h) (by rfl) (fun w' hS=>?hi15) ?ri15
      case hi15=>go_simp;rfl
      simp only[Act.put,J,U,Aa];refine Reg.Ab 16 (v:=?vi16) rfl (by kernel_rfl) (by kernel_rfl) (by kernel_rfl) (fun _ _ _ h=>h) (by rfl) (fun w' hS=>?hi16) ?ri16
      case hi16=>go_simp;rfl
      simp only[Act.put,J,U,Aa];refine wpAnyH_done (by kernel_rfl) ?_ _
      go_wp2_with fail
      go_meet
      exact⟨by rw[E.o],rfl,HB.o,HK.o⟩
   case rest=>
    obtain⟨rfl,rfl,hb,hk⟩:=hcut;replace HB:=I hb;replace HK:=I hk;clear hb hk;obtain⟨zP,eP⟩:∃z,z=decide (m.ap=ap0):=⟨_,rfl⟩;obtain⟨zF,eF⟩:∃z,z=decide (m.fa=fa0):=⟨_,rfl⟩;rw[←eP,←eF];have HF:=I (Nv m);rw[←EA.o,←ET.o,←ER.o,←eP,←eF] at HF;clear eP eF EA ET ER N1 N2 N3
    by_cases m1:m.k=1
    ·have y1:(m.k==1)=true:=by simpa using m1
     have y2:(m.k==2)=false:=by simp;omega
     have y3:(m.k==3)=false:=by simp;omega
     have y4:(m.k==4)=false:=by simp;omega
     have y5:(m.k==5)=false:=by simp;omega
     have T1:=I (fun w1=>Kg m.aq w1 HZ.o.1.1 HZ.o.1.2);have k1:wc.cell? ⟨w.heap.size,1,none⟩=some (.string ⟨m.aq.c.1.toArray⟩):=HK.o.cell 1;have k2:wc.cell? ⟨w.heap.size,2,none⟩=some (.string ⟨m.aq.c.2.toArray⟩):=HK.o.cell 2;have k3:wc.cell? ⟨w.heap.size,3,none⟩=some (.string ⟨m.aq.s.1.toArray⟩):=HK.o.cell 3;have k4:wc.cell? ⟨w.heap.size,4,none⟩=some (.string ⟨m.aq.s.2.toArray⟩):=HK.o.cell 4;have k5:wc.cell? ⟨w.heap.size,5,none⟩=some (.int .i64 m.aq.t):=HK.o.cell 5;have k6:wc.cell? ⟨w.heap.size,6,none⟩=some (.int .i64 m.aq.no):=HK.o.cell 6;rw[if_pos m1] at HF;clear m1;cases g1:asB m.aq with
     |false=>
      rw[g1] at T1;have E:=I (show mgB m=false by rw[HF.o,g1];rfl);clear g1
      go_wp2_with (go_at_call 116;(with_reducible refine Calls.mono (T1.o _) ?_);rintro e u1 ⟨rfl,hb⟩;replace HK:=I (HK.o.below hb);replace HB:=HB.t hb;clear hb T1;clear k1 k2 k3 k4 k5 k6;have k1:u1.cell? ⟨w.heap.size,1,none⟩=some (.string ⟨m.aq.c.1.toArray⟩):=HK.o.cell 1;have k2:u1.cell? ⟨w.heap.size,2,none⟩=some (.string ⟨m.aq.c.2.toArray⟩):=HK.o.cell 2;have k3:u1.cell? ⟨w.heap.size,3,none⟩=some (.string ⟨m.aq.s.1.toArray⟩):=HK.o.cell 3;have k4:u1.cell? ⟨w.heap.size,4,none⟩=some (.string ⟨m.aq.s.2.toArray⟩):=HK.o.cell 4;have k5:u1.cell? ⟨w.heap.size,5,none⟩=some (.int .i64 m.aq.t):=HK.o.cell 5;have k6:u1.cell? ⟨w.heap.size,6,none⟩=some (.int .i64 m.aq.no):=HK.o.cell 6)
      go_ret;exact⟨by rw[E.o];rfl,HB.o⟩
     |true=>
      rw[g1] at T1;cases zT with
      |false=>
       have E:=I (show mgB m=false by rw[HF.o,g1];rfl);clear g1
       go_wp2_with (go_at_call 116;(with_reducible refine Calls.mono (T1.o _) ?_);rintro e u1 ⟨rfl,hb⟩;replace HK:=I (HK.o.below hb);replace HB:=HB.t hb;clear hb T1;clear k1 k2 k3 k4 k5 k6;have k1:u1.cell? ⟨w.heap.size,1,none⟩=some (.string ⟨m.aq.c.1.toArray⟩):=HK.o.cell 1;have k2:u1.cell? ⟨w.heap.size,2,none⟩=some (.string ⟨m.aq.c.2.toArray⟩):=HK.o.cell 2;have k3:u1.cell? ⟨w.heap.size,3,none⟩=some (.string ⟨m.aq.s.1.toArray⟩):=HK.o.cell 3;have k4:u1.cell? ⟨w.heap.size,4,none⟩=some (.string ⟨m.aq.s.2.toArray⟩):=HK.o.cell 4;have k5:u1.cell? ⟨w.heap.size,5,none⟩=some (.int .i64 m.aq.t):=HK.o.cell 5;have k6:u1.cell? ⟨w.heap.size,6,none⟩=some (.int .i64 m.aq.no):=HK.o.cell 6)
       go_ret;exact⟨by rw[E.o];rfl,HB.o⟩
      |true=>
       cases zR with
       |false=>
        have E:=I (show mgB m=false by rw[HF.o,g1];rfl);clear g1
        go_wp2_with (go_at_call 116;(with_reducible refine Calls.mono (T1.o _) ?_);rintro e u1 ⟨rfl,hb⟩;replace HK:=I (HK.o.below hb);replace HB:=HB.t hb;clear hb T1;clear k1 k2 k3 k4 k5 k6;have k1:u1.cell? ⟨w.heap.size,1,none⟩=some (.string ⟨m.aq.c.1.toArray⟩):=HK.o.cell 1;have k2:u1.cell? ⟨w.heap.size,2,none⟩=some (.string ⟨m.aq.c.2.toArray⟩):=HK.o.cell 2;have k3:u1.cell? ⟨w.heap.size,3,none⟩=some (.string ⟨m.aq.s.1.toArray⟩):=HK.o.cell 3;have k4:u1.cell? ⟨w.heap.size,4,none⟩=some (.string ⟨m.aq.s.2.toArray⟩):=HK.o.cell 4;have k5:u1.cell? ⟨w.heap.size,5,none⟩=some (.int .i64 m.aq.t):=HK.o.cell 5;have k6:u1.cell? ⟨w.heap.size,6,none⟩=some (.int .i64 m.aq.no):=HK.o.cell 6)
        go_ret;exact⟨by rw[E.o];rfl,HB.o⟩
       |true=>
        cases zP with
        |false=>
         have E:=I (show mgB m=false by rw[HF.o,g1];rfl);clear g1
         go_wp2_with (go_at_call 116;(with_reducible refine Calls.mono (T1.o _) ?_);rintro e u1 ⟨rfl,hb⟩;replace HK:=I (HK.o.below hb);replace HB:=HB.t hb;clear hb T1;clear k1 k2 k3 k4 k5 k6;have k1:u1.cell? ⟨w.heap.size,1,none⟩=some (.string ⟨m.aq.c.1.toArray⟩):=HK.o.cell 1;have k2:u1.cell? ⟨w.heap.size,2,none⟩=some (.string ⟨m.aq.c.2.toArray⟩):=HK.o.cell 2;have k3:u1.cell? ⟨w.heap.size,3,none⟩=some (.string ⟨m.aq.s.1.toArray⟩):=HK.o.cell 3;have k4:u1.cell? ⟨w.heap.size,4,none⟩=some (.string ⟨m.aq.s.2.toArray⟩):=HK.o.cell 4;have k5:u1.cell? ⟨w.heap.size,5,none⟩=some (.int .i64 m.aq.t):=HK.o.cell 5;have k6:u1.cell? ⟨w.heap.size,6,none⟩=some (.int .i64 m.aq.no):=HK.o.cell 6)
         go_ret;exact⟨by rw[E.o];rfl,HB.o⟩
        |true=>
         have E:=I (show mgB m=zF by rw[HF.o,g1];rfl);clear g1
         go_wp2_with (go_at_call 116;(with_reducible refine Calls.mono (T1.o _) ?_);rintro e u1 ⟨rfl,hb⟩;replace HK:=I (HK.o.below hb);replace HB:=HB.t hb;clear hb T1;clear k1 k2 k3 k4 k5 k6;have k1:u1.cell? ⟨w.heap.size,1,none⟩=some (.string ⟨m.aq.c.1.toArray⟩):=HK.o.cell 1;have k2:u1.cell? ⟨w.heap.size,2,none⟩=some (.string ⟨m.aq.c.2.toArray⟩):=HK.o.cell 2;have k3:u1.cell? ⟨w.heap.size,3,none⟩=some (.string ⟨m.aq.s.1.toArray⟩):=HK.o.cell 3;have k4:u1.cell? ⟨w.heap.size,4,none⟩=some (.string ⟨m.aq.s.2.toArray⟩):=HK.o.cell 4;have k5:u1.cell? ⟨w.heap.size,5,none⟩=some (.int .i64 m.aq.t):=HK.o.cell 5;have k6:u1.cell? ⟨w.heap.size,6,none⟩=some (.int .i64 m.aq.no):=HK.o.cell 6)
         go_ret;exact⟨by rw[E.o];rfl,HB.o⟩
    ·have nm1:=m1
     by_cases m2:m.k=2
     ·have y1:(m.k==1)=false:=by simp;omega
      have y2:(m.k==2)=true:=by simpa using m2
      have y3:(m.k==3)=false:=by simp;omega
      have y4:(m.k==4)=false:=by simp;omega
      have y5:(m.k==5)=false:=by simp;omega
      have T1:=I (fun w1=>Je m.tg A1 A2 c1 c2 w1 HZ.o.2.1.1 HZ.o.2.1.2);have k7:wc.cell? ⟨w.heap.size,7,none⟩=some (.string ⟨m.tg.t.s.1.toArray⟩):=HK.o.cell 7;have k8:wc.cell? ⟨w.heap.size,8,none⟩=some (.string ⟨m.tg.t.s.2.toArray⟩):=HK.o.cell 8;have k9:wc.cell? ⟨w.heap.size,9,none⟩=some (.int .i64 m.tg.t.k):=HK.o.cell 9;have k10:wc.cell? ⟨w.heap.size,10,none⟩=some (.slice A1 m.tg.t.b.length c1):=HK.o.cell 10;have k11:wc.cell? ⟨w.heap.size,11,none⟩=some (.slice A2 m.tg.a.length c2):=HK.o.cell 11;have k12:wc.cell? ⟨w.heap.size,12,none⟩=some (.string ⟨m.tg.s.1.toArray⟩):=HK.o.cell 12;have k13:wc.cell? ⟨w.heap.size,13,none⟩=some (.string ⟨m.tg.s.2.toArray⟩):=HK.o.cell 13;have k14:wc.cell? ⟨w.heap.size,14,none⟩=some (.int .i64 m.tg.u):=HK.o.cell 14;have k15:wc.cell? ⟨w.heap.size,15,none⟩=some (.int .i64 m.tg.no):=HK.o.cell 15;rw[if_neg m1,if_pos m2] at HF;clear m1 m2;cases g1:tgB m.tg with
      |false=>
       rw[g1] at T1;have E:=I (show mgB m=false by rw[HF.o,g1];rfl);clear g1
       go_wp2_with (go_at_call 117;(with_reducible refine Calls.mono (T1.o _) ?_);rintro e u1 ⟨rfl,hb⟩;replace HK:=I (HK.o.below hb);replace HB:=HB.t hb;clear hb T1;clear k7 k8 k9 k10 k11 k12 k13 k14 k15;have k7:u1.cell? ⟨w.heap.size,7,none⟩=some (.string ⟨m.tg.t.s.1.toArray⟩):=HK.o.cell 7;have k8:u1.cell? ⟨w.heap.size,8,none⟩=some (.string ⟨m.tg.t.s.2.toArray⟩):=HK.o.cell 8;have k9:u1.cell? ⟨w.heap.size,9,none⟩=some (.int .i64 m.tg.t.k):=HK.o.cell 9;have k10:u1.cell? ⟨w.heap.size,10,none⟩=some (.slice A1 m.tg.t.b.length c1):=HK.o.cell 10;have k11:u1.cell? ⟨w.heap.size,11,none⟩=some (.slice A2 m.tg.a.length c2):=HK.o.cell 11;have k12:u1.cell? ⟨w.heap.size,12,none⟩=some (.string ⟨m.tg.s.1.toArray⟩):=HK.o.cell 12;have k13:u1.cell? ⟨w.heap.size,13,none⟩=some (.string ⟨m.tg.s.2.toArray⟩):=HK.o.cell 13;have k14:u1.cell? ⟨w.heap.size,14,none⟩=some (.int .i64 m.tg.u):=HK.o.cell 14;have k15:u1.cell? ⟨w.heap.size,15,none⟩=some (.int .i64 m.tg.no):=HK.o.cell 15)
       go_ret;exact⟨by rw[E.o];rfl,HB.o⟩
      |true=>
       rw[g1] at T1;cases zA with
       |false=>
        have E:=I (show mgB m=false by rw[HF.o,g1];rfl);clear g1
        go_wp2_with (go_at_call 117;(with_reducible refine Calls.mono (T1.o _) ?_);rintro e u1 ⟨rfl,hb⟩;replace HK:=I (HK.o.below hb);replace HB:=HB.t hb;clear hb T1;clear k7 k8 k9 k10 k11 k12 k13 k14 k15;have k7:u1.cell? ⟨w.heap.size,7,none⟩=some (.string ⟨m.tg.t.s.1.toArray⟩):=HK.o.cell 7;have k8:u1.cell? ⟨w.heap.size,8,none⟩=some (.string ⟨m.tg.t.s.2.toArray⟩):=HK.o.cell 8;have k9:u1.cell? ⟨w.heap.size,9,none⟩=some (.int .i64 m.tg.t.k):=HK.o.cell 9;have k10:u1.cell? ⟨w.heap.size,10,none⟩=some (.slice A1 m.tg.t.b.length c1):=HK.o.cell 10;have k11:u1.cell? ⟨w.heap.size,11,none⟩=some (.slice A2 m.tg.a.length c2):=HK.o.cell 11;have k12:u1.cell? ⟨w.heap.size,12,none⟩=some (.string ⟨m.tg.s.1.toArray⟩):=HK.o.cell 12;have k13:u1.cell? ⟨w.heap.size,13,none⟩=some (.string ⟨m.tg.s.2.toArray⟩):=HK.o.cell 13;have k14:u1.cell? ⟨w.heap.size,14,none⟩=some (.int .i64 m.tg.u):=HK.o.cell 14;have k15:u1.cell? ⟨w.heap.size,15,none⟩=some (.int .i64 m.tg.no):=HK.o.cell 15)
        go_ret;exact⟨by rw[E.o];rfl,HB.o⟩
       |true=>
        cases zR with
        |false=>
         have E:=I (show mgB m=false by rw[HF.o,g1];rfl);clear g1
         go_wp2_with (go_at_call 117;(with_reducible refine Calls.mono (T1.o _) ?_);rintro e u1 ⟨rfl,hb⟩;replace HK:=I (HK.o.below hb);replace HB:=HB.t hb;clear hb T1;clear k7 k8 k9 k10 k11 k12 k13 k14 k15;have k7:u1.cell? ⟨w.heap.size,7,none⟩=some (.string ⟨m.tg.t.s.1.toArray⟩):=HK.o.cell 7;have k8:u1.cell? ⟨w.heap.size,8,none⟩=some (.string ⟨m.tg.t.s.2.toArray⟩):=HK.o.cell 8;have k9:u1.cell? ⟨w.heap.size,9,none⟩=some (.int .i64 m.tg.t.k):=HK.o.cell 9;have k10:u1.cell? ⟨w.heap.size,10,none⟩=some (.slice A1 m.tg.t.b.length c1):=HK.o.cell 10;have k11:u1.cell? ⟨w.heap.size,11,none⟩=some (.slice A2 m.tg.a.length c2):=HK.o.cell 11;have k12:u1.cell? ⟨w.heap.size,12,none⟩=some (.string ⟨m.tg.s.1.toArray⟩):=HK.o.cell 12;have k13:u1.cell? ⟨w.heap.size,13,none⟩=some (.string ⟨m.tg.s.2.toArray⟩):=HK.o.cell 13;have k14:u1.cell? ⟨w.heap.size,14,none⟩=some (.int .i64 m.tg.u):=HK.o.cell 14;have k15:u1.cell? ⟨w.heap.size,15,none⟩=some (.int .i64 m.tg.no):=HK.o.cell 15)
         go_ret;exact⟨by rw[E.o];rfl,HB.o⟩
        |true=>
         cases zP with
         |false=>
          have E:=I (show mgB m=false by rw[HF.o,g1];rfl);clear g1
          go_wp2_with (go_at_call 117;(with_reducible refine Calls.mono (T1.o _) ?_);rintro e u1 ⟨rfl,hb⟩;replace HK:=I (HK.o.below hb);replace HB:=HB.t hb;clear hb T1;clear k7 k8 k9 k10 k11 k12 k13 k14 k15;have k7:u1.cell? ⟨w.heap.size,7,none⟩=some (.string ⟨m.tg.t.s.1.toArray⟩):=HK.o.cell 7;have k8:u1.cell? ⟨w.heap.size,8,none⟩=some (.string ⟨m.tg.t.s.2.toArray⟩):=HK.o.cell 8;have k9:u1.cell? ⟨w.heap.size,9,none⟩=some (.int .i64 m.tg.t.k):=HK.o.cell 9;have k10:u1.cell? ⟨w.heap.size,10,none⟩=some (.slice A1 m.tg.t.b.length c1):=HK.o.cell 10;have k11:u1.cell? ⟨w.heap.size,11,none⟩=some (.slice A2 m.tg.a.length c2):=HK.o.cell 11;have k12:u1.cell? ⟨w.heap.size,12,none⟩=some (.string ⟨m.tg.s.1.toArray⟩):=HK.o.cell 12;have k13:u1.cell? ⟨w.heap.size,13,none⟩=some (.string ⟨m.tg.s.2.toArray⟩):=HK.o.cell 13;have k14:u1.cell? ⟨w.heap.size,14,none⟩=some (.int .i64 m.tg.u):=HK.o.cell 14;have k15:u1.cell? ⟨w.heap.size,15,none⟩=some (.int .i64 m.tg.no):=HK.o.cell 15)
          go_ret;exact⟨by rw[E.o];rfl,HB.o⟩
         |true=>
          have E:=I (show mgB m=zF by rw[HF.o,g1];rfl);clear g1
          go_wp2_with (go_at_call 117;(with_reducible refine Calls.mono (T1.o _) ?_);rintro e u1 ⟨rfl,hb⟩;replace HK:=I (HK.o.below hb);replace HB:=HB.t hb;clear hb T1;clear k7 k8 k9 k10 k11 k12 k13 k14 k15;have k7:u1.cell? ⟨w.heap.size,7,none⟩=some (.string ⟨m.tg.t.s.1.toArray⟩):=HK.o.cell 7;have k8:u1.cell? ⟨w.heap.size,8,none⟩=some (.string ⟨m.tg.t.s.2.toArray⟩):=HK.o.cell 8;have k9:u1.cell? ⟨w.heap.size,9,none⟩=some (.int .i64 m.tg.t.k):=HK.o.cell 9;have k10:u1.cell? ⟨w.heap.size,10,none⟩=some (.slice A1 m.tg.t.b.length c1):=HK.o.cell 10;have k11:u1.cell? ⟨w.heap.size,11,none⟩=some (.slice A2 m.tg.a.length c2):=HK.o.cell 11;have k12:u1.cell? ⟨w.heap.size,12,none⟩=some (.string ⟨m.tg.s.1.toArray⟩):=HK.o.cell 12;have k13:u1.cell? ⟨w.heap.size,13,none⟩=some (.string ⟨m.tg.s.2.toArray⟩):=HK.o.cell 13;have k14:u1.cell? ⟨w.heap.size,14,none⟩=some (.int .i64 m.tg.u):=HK.o.cell 14;have k15:u1.cell? ⟨w.heap.size,15,none⟩=some (.int .i64 m.tg.no):=HK.o.cell 15)
          go_ret;exact⟨by rw[E.o];rfl,HB.o⟩
     ·have nm2:=m2
      by_cases m3:m.k=3
      ·have y1:(m.k==1)=false:=by simp;omega
       have y2:(m.k==2)=false:=by simp;omega
       have y3:(m.k==3)=true:=by simpa using m3
       have y4:(m.k==4)=false:=by simp;omega
       have y5:(m.k==5)=false:=by simp;omega
       have T1:=I (fun w1=>AE m.re.c w1 HZ.o.2.2.1.1.1 HZ.o.2.2.1.1.2);have T2:=I (fun w1=>DB m.re.t A3 c3 w1 HZ.o.2.2.1.2);have T3:=I (fun w1=>DT m.re.b A4 c4 w1);have k16:wc.cell? ⟨w.heap.size,16,none⟩=some (.string ⟨m.re.c.1.toArray⟩):=HK.o.cell 16;have k17:wc.cell? ⟨w.heap.size,17,none⟩=some (.string ⟨m.re.c.2.toArray⟩):=HK.o.cell 17;have k18:wc.cell? ⟨w.heap.size,18,none⟩=some (.string ⟨m.re.t.s.1.toArray⟩):=HK.o.cell 18;have k19:wc.cell? ⟨w.heap.size,19,none⟩=some (.string ⟨m.re.t.s.2.toArray⟩):=HK.o.cell 19;have k20:wc.cell? ⟨w.heap.size,20,none⟩=some (.int .i64 m.re.t.k):=HK.o.cell 20;have k21:wc.cell? ⟨w.heap.size,21,none⟩=some (.slice A3 m.re.t.b.length c3):=HK.o.cell 21;have k22:wc.cell? ⟨w.heap.size,22,none⟩=some (.slice A4 m.re.b.length c4):=HK.o.cell 22;rw[if_neg m1,if_neg m2,if_pos m3] at HF;clear m1 m2 m3;cases g1:prB m.re.c with
       |false=>
        rw[g1] at T1;have E:=I (show mgB m=false by rw[HF.o,g1];rfl);clear g1
        go_wp2_with (go_at_call 35;(with_reducible refine Calls.mono (T1.o _) ?_);rintro e u1 ⟨rfl,hb⟩;replace HK:=I (HK.o.below hb);replace HB:=HB.t hb;clear hb T1;clear k16 k17 k18 k19 k20 k21 k22;have k16:u1.cell? ⟨w.heap.size,16,none⟩=some (.string ⟨m.re.c.1.toArray⟩):=HK.o.cell 16;have k17:u1.cell? ⟨w.heap.size,17,none⟩=some (.string ⟨m.re.c.2.toArray⟩):=HK.o.cell 17;have k18:u1.cell? ⟨w.heap.size,18,none⟩=some (.string ⟨m.re.t.s.1.toArray⟩):=HK.o.cell 18;have k19:u1.cell? ⟨w.heap.size,19,none⟩=some (.string ⟨m.re.t.s.2.toArray⟩):=HK.o.cell 19;have k20:u1.cell? ⟨w.heap.size,20,none⟩=some (.int .i64 m.re.t.k):=HK.o.cell 20;have k21:u1.cell? ⟨w.heap.size,21,none⟩=some (.slice A3 m.re.t.b.length c3):=HK.o.cell 21;have k22:u1.cell? ⟨w.heap.size,22,none⟩=some (.slice A4 m.re.b.length c4):=HK.o.cell 22)
        go_ret;exact⟨by rw[E.o];rfl,HB.o⟩
       |true=>
        rw[g1] at T1;cases g2:tkB m.re.t with
        |false=>
         rw[g2] at T2;have E:=I (show mgB m=false by rw[HF.o,g1,g2];rfl);clear g1 g2
         go_wp2_with (first
          |(go_at_call 35;(with_reducible refine Calls.mono (T1.o _) ?_);rintro e u1 ⟨rfl,hb⟩;replace HK:=I (HK.o.below hb);replace HB:=HB.t hb;clear hb T1;clear k16 k17 k18 k19 k20 k21 k22;have k16:u1.cell? ⟨w.heap.size,16,none⟩=some (.string ⟨m.re.c.1.toArray⟩):=HK.o.cell 16;have k17:u1.cell? ⟨w.heap.size,17,none⟩=some (.string ⟨m.re.c.2.toArray⟩):=HK.o.cell 17;have k18:u1.cell? ⟨w.heap.size,18,none⟩=some (.string ⟨m.re.t.s.1.toArray⟩):=HK.o.cell 18;have k19:u1.cell? ⟨w.heap.size,19,none⟩=some (.string ⟨m.re.t.s.2.toArray⟩):=HK.o.cell 19;have k20:u1.cell? ⟨w.heap.size,20,none⟩=some (.int .i64 m.re.t.k):=HK.o.cell 20;have k21:u1.cell? ⟨w.heap.size,21,none⟩=some (.slice A3 m.re.t.b.length c3):=HK.o.cell 21;have k22:u1.cell? ⟨w.heap.size,22,none⟩=some (.slice A4 m.re.b.length c4):=HK.o.cell 22)
          |(go_at_call 118;(with_reducible refine Calls.mono (T2.o _) ?_);rintro e u2 ⟨rfl,hb⟩;replace HK:=I (HK.o.below hb);replace HB:=HB.t hb;clear hb T2;clear k16 k17 k18 k19 k20 k21 k22;have k16:u2.cell? ⟨w.heap.size,16,none⟩=some (.string ⟨m.re.c.1.toArray⟩):=HK.o.cell 16;have k17:u2.cell? ⟨w.heap.size,17,none⟩=some (.string ⟨m.re.c.2.toArray⟩):=HK.o.cell 17;have k18:u2.cell? ⟨w.heap.size,18,none⟩=some (.string ⟨m.re.t.s.1.toArray⟩):=HK.o.cell 18;have k19:u2.cell? ⟨w.heap.size,19,none⟩=some (.string ⟨m.re.t.s.2.toArray⟩):=HK.o.cell 19;have k20:u2.cell? ⟨w.heap.size,20,none⟩=some (.int .i64 m.re.t.k):=HK.o.cell 20;have k21:u2.cell? ⟨w.heap.size,21,none⟩=some (.slice A3 m.re.t.b.length c3):=HK.o.cell 21;have k22:u2.cell? ⟨w.heap.size,22,none⟩=some (.slice A4 m.re.b.length c4):=HK.o.cell 22))
         go_ret;exact⟨by rw[E.o];rfl,HB.o⟩
        |true=>
         rw[g2] at T2;cases g3:Bd m.re.b with
         |false=>
          rw[g3] at T3;have E:=I (show mgB m=false by rw[HF.o,g1,g2,g3];rfl);clear g1 g2 g3
          go_wp2_with (first
           |(go_at_call 35;(with_reducible refine Calls.mono (T1.o _) ?_);rintro e u1 ⟨rfl,hb⟩;replace HK:=I (HK.o.below hb);replace HB:=HB.t hb;clear hb T1;clear k16 k17 k18 k19 k20 k21 k22;have k16:u1.cell? ⟨w.heap.size,16,none⟩=some (.string ⟨m.re.c.1.toArray⟩):=HK.o.cell 16;have k17:u1.cell? ⟨w.heap.size,17,none⟩=some (.string ⟨m.re.c.2.toArray⟩):=HK.o.cell 17;have k18:u1.cell? ⟨w.heap.size,18,none⟩=some (.string ⟨m.re.t.s.1.toArray⟩):=HK.o.cell 18;have k19:u1.cell? ⟨w.heap.size,19,none⟩=some (.string ⟨m.re.t.s.2.toArray⟩):=HK.o.cell 19;have k20:u1.cell? ⟨w.heap.size,20,none⟩=some (.int .i64 m.re.t.k):=HK.o.cell 20;have k21:u1.cell? ⟨w.heap.size,21,none⟩=some (.slice A3 m.re.t.b.length c3):=HK.o.cell 21;have k22:u1.cell? ⟨w.heap.size,22,none⟩=some (.slice A4 m.re.b.length c4):=HK.o.cell 22)
           |(go_at_call 118;(with_reducible refine Calls.mono (T2.o _) ?_);rintro e u2 ⟨rfl,hb⟩;replace HK:=I (HK.o.below hb);replace HB:=HB.t hb;clear hb T2;clear k16 k17 k18 k19 k20 k21 k22;have k16:u2.cell? ⟨w.heap.size,16,none⟩=some (.string ⟨m.re.c.1.toArray⟩):=HK.o.cell 16;have k17:u2.cell? ⟨w.heap.size,17,none⟩=some (.string ⟨m.re.c.2.toArray⟩):=HK.o.cell 17;have k18:u2.cell? ⟨w.heap.size,18,none⟩=some (.string ⟨m.re.t.s.1.toArray⟩):=HK.o.cell 18;have k19:u2.cell? ⟨w.heap.size,19,none⟩=some (.string ⟨m.re.t.s.2.toArray⟩):=HK.o.cell 19;have k20:u2.cell? ⟨w.heap.size,20,none⟩=some (.int .i64 m.re.t.k):=HK.o.cell 20;have k21:u2.cell? ⟨w.heap.size,21,none⟩=some (.slice A3 m.re.t.b.length c3):=HK.o.cell 21;have k22:u2.cell? ⟨w.heap.size,22,none⟩=some (.slice A4 m.re.b.length c4):=HK.o.cell 22)
           |(go_at_call 119;(with_reducible refine Calls.mono (T3.o _) ?_);rintro e u3 ⟨rfl,hw⟩;subst hw;clear T3))
          go_ret;exact⟨by rw[E.o];rfl,HB.o⟩
         |true=>
          rw[g3] at T3;cases zA with
          |false=>
           have E:=I (show mgB m=false by rw[HF.o,g1,g2,g3];rfl);clear g1 g2 g3
           go_wp2_with (first
            |(go_at_call 35;(with_reducible refine Calls.mono (T1.o _) ?_);rintro e u1 ⟨rfl,hb⟩;replace HK:=I (HK.o.below hb);replace HB:=HB.t hb;clear hb T1;clear k16 k17 k18 k19 k20 k21 k22;have k16:u1.cell? ⟨w.heap.size,16,none⟩=some (.string ⟨m.re.c.1.toArray⟩):=HK.o.cell 16;have k17:u1.cell? ⟨w.heap.size,17,none⟩=some (.string ⟨m.re.c.2.toArray⟩):=HK.o.cell 17;have k18:u1.cell? ⟨w.heap.size,18,none⟩=some (.string ⟨m.re.t.s.1.toArray⟩):=HK.o.cell 18;have k19:u1.cell? ⟨w.heap.size,19,none⟩=some (.string ⟨m.re.t.s.2.toArray⟩):=HK.o.cell 19;have k20:u1.cell? ⟨w.heap.size,20,none⟩=some (.int .i64 m.re.t.k):=HK.o.cell 20;have k21:u1.cell? ⟨w.heap.size,21,none⟩=some (.slice A3 m.re.t.b.length c3):=HK.o.cell 21;have k22:u1.cell? ⟨w.heap.size,22,none⟩=some (.slice A4 m.re.b.length c4):=HK.o.cell 22)
            |(go_at_call 118;(with_reducible refine Calls.mono (T2.o _) ?_);rintro e u2 ⟨rfl,hb⟩;replace HK:=I (HK.o.below hb);replace HB:=HB.t hb;clear hb T2;clear k16 k17 k18 k19 k20 k21 k22;have k16:u2.cell? ⟨w.heap.size,16,none⟩=some (.string ⟨m.re.c.1.toArray⟩):=HK.o.cell 16;have k17:u2.cell? ⟨w.heap.size,17,none⟩=some (.string ⟨m.re.c.2.toArray⟩):=HK.o.cell 17;have k18:u2.cell? ⟨w.heap.size,18,none⟩=some (.string ⟨m.re.t.s.1.toArray⟩):=HK.o.cell 18;have k19:u2.cell? ⟨w.heap.size,19,none⟩=some (.string ⟨m.re.t.s.2.toArray⟩):=HK.o.cell 19;have k20:u2.cell? ⟨w.heap.size,20,none⟩=some (.int .i64 m.re.t.k):=HK.o.cell 20;have k21:u2.cell? ⟨w.heap.size,21,none⟩=some (.slice A3 m.re.t.b.length c3):=HK.o.cell 21;have k22:u2.cell? ⟨w.heap.size,22,none⟩=some (.slice A4 m.re.b.length c4):=HK.o.cell 22)
            |(go_at_call 119;(with_reducible refine Calls.mono (T3.o _) ?_);rintro e u3 ⟨rfl,hw⟩;subst hw;clear T3))
           go_ret;exact⟨by rw[E.o];rfl,HB.o⟩
          |true=>
           cases zT with
           |false=>
            have E:=I (show mgB m=false by rw[HF.o,g1,g2,g3];rfl);clear g1 g2 g3
            go_wp2_with (first
             |(go_at_call 35;(with_reducible refine Calls.mono (T1.o _) ?_);rintro e u1 ⟨rfl,hb⟩;replace HK:=I (HK.o.below hb);replace HB:=HB.t hb;clear hb T1;clear k16 k17 k18 k19 k20 k21 k22;have k16:u1.cell? ⟨w.heap.size,16,none⟩=some (.string ⟨m.re.c.1.toArray⟩):=HK.o.cell 16;have k17:u1.cell? ⟨w.heap.size,17,none⟩=some (.string ⟨m.re.c.2.toArray⟩):=HK.o.cell 17;have k18:u1.cell? ⟨w.heap.size,18,none⟩=some (.string ⟨m.re.t.s.1.toArray⟩):=HK.o.cell 18;have k19:u1.cell? ⟨w.heap.size,19,none⟩=some (.string ⟨m.re.t.s.2.toArray⟩):=HK.o.cell 19;have k20:u1.cell? ⟨w.heap.size,20,none⟩=some (.int .i64 m.re.t.k):=HK.o.cell 20;have k21:u1.cell? ⟨w.heap.size,21,none⟩=some (.slice A3 m.re.t.b.length c3):=HK.o.cell 21;have k22:u1.cell? ⟨w.heap.size,22,none⟩=some (.slice A4 m.re.b.length c4):=HK.o.cell 22)
             |(go_at_call 118;(with_reducible refine Calls.mono (T2.o _) ?_);rintro e u2 ⟨rfl,hb⟩;replace HK:=I (HK.o.below hb);replace HB:=HB.t hb;clear hb T2;clear k16 k17 k18 k19 k20 k21 k22;have k16:u2.cell? ⟨w.heap.size,16,none⟩=some (.string ⟨m.re.c.1.toArray⟩):=HK.o.cell 16;have k17:u2.cell? ⟨w.heap.size,17,none⟩=some (.string ⟨m.re.c.2.toArray⟩):=HK.o.cell 17;have k18:u2.cell? ⟨w.heap.size,18,none⟩=some (.string ⟨m.re.t.s.1.toArray⟩):=HK.o.cell 18;have k19:u2.cell? ⟨w.heap.size,19,none⟩=some (.string ⟨m.re.t.s.2.toArray⟩):=HK.o.cell 19;have k20:u2.cell? ⟨w.heap.size,20,none⟩=some (.int .i64 m.re.t.k):=HK.o.cell 20;have k21:u2.cell? ⟨w.heap.size,21,none⟩=some (.slice A3 m.re.t.b.length c3):=HK.o.cell 21;have k22:u2.cell? ⟨w.heap.size,22,none⟩=some (.slice A4 m.re.b.length c4):=HK.o.cell 22)
             |(go_at_call 119;(with_reducible refine Calls.mono (T3.o _) ?_);rintro e u3 ⟨rfl,hw⟩;subst hw;clear T3))
            go_ret;exact⟨by rw[E.o];rfl,HB.o⟩
           |true=>
            cases zP with
            |false=>
             have E:=I (show mgB m=false by rw[HF.o,g1,g2,g3];rfl);clear g1 g2 g3
             go_wp2_with (first
              |(go_at_call 35;(with_reducible refine Calls.mono (T1.o _) ?_);rintro e u1 ⟨rfl,hb⟩;replace HK:=I (HK.o.below hb);replace HB:=HB.t hb;clear hb T1;clear k16 k17 k18 k19 k20 k21 k22;have k16:u1.cell? ⟨w.heap.size,16,none⟩=some (.string ⟨m.re.c.1.toArray⟩):=HK.o.cell 16;have k17:u1.cell? ⟨w.heap.size,17,none⟩=some (.string ⟨m.re.c.2.toArray⟩):=HK.o.cell 17;have k18:u1.cell? ⟨w.heap.size,18,none⟩=some (.string ⟨m.re.t.s.1.toArray⟩):=HK.o.cell 18;have k19:u1.cell? ⟨w.heap.size,19,none⟩=some (.string ⟨m.re.t.s.2.toArray⟩):=HK.o.cell 19;have k20:u1.cell? ⟨w.heap.size,20,none⟩=some (.int .i64 m.re.t.k):=HK.o.cell 20;have k21:u1.cell? ⟨w.heap.size,21,none⟩=some (.slice A3 m.re.t.b.length c3):=HK.o.cell 21;have k22:u1.cell? ⟨w.heap.size,22,none⟩=some (.slice A4 m.re.b.length c4):=HK.o.cell 22)
              |(go_at_call 118;(with_reducible refine Calls.mono (T2.o _) ?_);rintro e u2 ⟨rfl,hb⟩;replace HK:=I (HK.o.below hb);replace HB:=HB.t hb;clear hb T2;clear k16 k17 k18 k19 k20 k21 k22;have k16:u2.cell? ⟨w.heap.size,16,none⟩=some (.string ⟨m.re.c.1.toArray⟩):=HK.o.cell 16;have k17:u2.cell? ⟨w.heap.size,17,none⟩=some (.string ⟨m.re.c.2.toArray⟩):=HK.o.cell 17;have k18:u2.cell? ⟨w.heap.size,18,none⟩=some (.string ⟨m.re.t.s.1.toArray⟩):=HK.o.cell 18;have k19:u2.cell? ⟨w.heap.size,19,none⟩=some (.string ⟨m.re.t.s.2.toArray⟩):=HK.o.cell 19;have k20:u2.cell? ⟨w.heap.size,20,none⟩=some (.int .i64 m.re.t.k):=HK.o.cell 20;have k21:u2.cell? ⟨w.heap.size,21,none⟩=some (.slice A3 m.re.t.b.length c3):=HK.o.cell 21;have k22:u2.cell? ⟨w.heap.size,22,none⟩=some (.slice A4 m.re.b.length c4):=HK.o.cell 22)
              |(go_at_call 119;(with_reducible refine Calls.mono (T3.o _) ?_);rintro e u3 ⟨rfl,hw⟩;subst hw;clear T3))
             go_ret;exact⟨by rw[E.o];rfl,HB.o⟩
            |true=>
             have E:=I (show mgB m=zF by rw[HF.o,g1,g2,g3];rfl);clear g1 g2 g3
             go_wp2_with (first
              |(go_at_call 35;(with_reducible refine Calls.mono (T1.o _) ?_);rintro e u1 ⟨rfl,hb⟩;replace HK:=I (HK.o.below hb);replace HB:=HB.t hb;clear hb T1;clear k16 k17 k18 k19 k20 k21 k22;have k16:u1.cell? ⟨w.heap.size,16,none⟩=some (.string ⟨m.re.c.1.toArray⟩):=HK.o.cell 16;have k17:u1.cell? ⟨w.heap.size,17,none⟩=some (.string ⟨m.re.c.2.toArray⟩):=HK.o.cell 17;have k18:u1.cell? ⟨w.heap.size,18,none⟩=some (.string ⟨m.re.t.s.1.toArray⟩):=HK.o.cell 18;have k19:u1.cell? ⟨w.heap.size,19,none⟩=some (.string ⟨m.re.t.s.2.toArray⟩):=HK.o.cell 19;have k20:u1.cell? ⟨w.heap.size,20,none⟩=some (.int .i64 m.re.t.k):=HK.o.cell 20;have k21:u1.cell? ⟨w.heap.size,21,none⟩=some (.slice A3 m.re.t.b.length c3):=HK.o.cell 21;have k22:u1.cell? ⟨w.heap.size,22,none⟩=some (.slice A4 m.re.b.length c4):=HK.o.cell 22)
              |(go_at_call 118;(with_reducible refine Calls.mono (T2.o _) ?_);rintro e u2 ⟨rfl,hb⟩;replace HK:=I (HK.o.below hb);replace HB:=HB.t hb;clear hb T2;clear k16 k17 k18 k19 k20 k21 k22;have k16:u2.cell? ⟨w.heap.size,16,none⟩=some (.string ⟨m.re.c.1.toArray⟩):=HK.o.cell 16;have k17:u2.cell? ⟨w.heap.size,17,none⟩=some (.string ⟨m.re.c.2.toArray⟩):=HK.o.cell 17;have k18:u2.cell? ⟨w.heap.size,18,none⟩=some (.string ⟨m.re.t.s.1.toArray⟩):=HK.o.cell 18;have k19:u2.cell? ⟨w.heap.size,19,none⟩=some (.string ⟨m.re.t.s.2.toArray⟩):=HK.o.cell 19;have k20:u2.cell? ⟨w.heap.size,20,none⟩=some (.int .i64 m.re.t.k):=HK.o.cell 20;have k21:u2.cell? ⟨w.heap.size,21,none⟩=some (.slice A3 m.re.t.b.length c3):=HK.o.cell 21;have k22:u2.cell? ⟨w.heap.size,22,none⟩=some (.slice A4 m.re.b.length c4):=HK.o.cell 22)
              |(go_at_call 119;(with_reducible refine Calls.mono (T3.o _) ?_);rintro e u3 ⟨rfl,hw⟩;subst hw;clear T3))
             go_ret;exact⟨by rw[E.o];rfl,HB.o⟩
      ·have nm3:=m3
       by_cases m4:m.k=4
       ·have y1:(m.k==1)=false:=by simp;omega
        have y2:(m.k==2)=false:=by simp;omega
        have y3:(m.k==3)=false:=by simp;omega
        have y4:(m.k==4)=true:=by simpa using m4
        have y5:(m.k==5)=false:=by simp;omega
        have T1:=I (fun w1=>DB m.ap.t A5 c5 w1 HZ.o.2.2.2);have T2:=I (fun w1=>DT m.ap.a A6 c6 w1);have k23:wc.cell? ⟨w.heap.size,23,none⟩=some (.string ⟨m.ap.t.s.1.toArray⟩):=HK.o.cell 23;have k24:wc.cell? ⟨w.heap.size,24,none⟩=some (.string ⟨m.ap.t.s.2.toArray⟩):=HK.o.cell 24;have k25:wc.cell? ⟨w.heap.size,25,none⟩=some (.int .i64 m.ap.t.k):=HK.o.cell 25;have k26:wc.cell? ⟨w.heap.size,26,none⟩=some (.slice A5 m.ap.t.b.length c5):=HK.o.cell 26;have k27:wc.cell? ⟨w.heap.size,27,none⟩=some (.slice A6 m.ap.a.length c6):=HK.o.cell 27;rw[if_neg m1,if_neg m2,if_neg m3,if_pos m4] at HF;clear m1 m2 m3 m4;cases g1:tkB m.ap.t with
        |false=>
         rw[g1] at T1;have E:=I (show mgB m=false by rw[HF.o,g1];rfl);clear g1
         go_wp2_with (go_at_call 118;(with_reducible refine Calls.mono (T1.o _) ?_);rintro e u1 ⟨rfl,hb⟩;replace HK:=I (HK.o.below hb);replace HB:=HB.t hb;clear hb T1;clear k23 k24 k25 k26 k27;have k23:u1.cell? ⟨w.heap.size,23,none⟩=some (.string ⟨m.ap.t.s.1.toArray⟩):=HK.o.cell 23;have k24:u1.cell? ⟨w.heap.size,24,none⟩=some (.string ⟨m.ap.t.s.2.toArray⟩):=HK.o.cell 24;have k25:u1.cell? ⟨w.heap.size,25,none⟩=some (.int .i64 m.ap.t.k):=HK.o.cell 25;have k26:u1.cell? ⟨w.heap.size,26,none⟩=some (.slice A5 m.ap.t.b.length c5):=HK.o.cell 26;have k27:u1.cell? ⟨w.heap.size,27,none⟩=some (.slice A6 m.ap.a.length c6):=HK.o.cell 27)
         go_ret;exact⟨by rw[E.o];rfl,HB.o⟩
        |true=>
         rw[g1] at T1;cases g2:Bd m.ap.a with
         |false=>
          rw[g2] at T2;have E:=I (show mgB m=false by rw[HF.o,g1,g2];rfl);clear g1 g2
          go_wp2_with (first
           |(go_at_call 118;(with_reducible refine Calls.mono (T1.o _) ?_);rintro e u1 ⟨rfl,hb⟩;replace HK:=I (HK.o.below hb);replace HB:=HB.t hb;clear hb T1;clear k23 k24 k25 k26 k27;have k23:u1.cell? ⟨w.heap.size,23,none⟩=some (.string ⟨m.ap.t.s.1.toArray⟩):=HK.o.cell 23;have k24:u1.cell? ⟨w.heap.size,24,none⟩=some (.string ⟨m.ap.t.s.2.toArray⟩):=HK.o.cell 24;have k25:u1.cell? ⟨w.heap.size,25,none⟩=some (.int .i64 m.ap.t.k):=HK.o.cell 25;have k26:u1.cell? ⟨w.heap.size,26,none⟩=some (.slice A5 m.ap.t.b.length c5):=HK.o.cell 26;have k27:u1.cell? ⟨w.heap.size,27,none⟩=some (.slice A6 m.ap.a.length c6):=HK.o.cell 27)
           |(go_at_call 119;(with_reducible refine Calls.mono (T2.o _) ?_);rintro e u2 ⟨rfl,hw⟩;subst hw;clear T2))
          go_ret;exact⟨by rw[E.o];rfl,HB.o⟩
         |true=>
          rw[g2] at T2;cases zA with
          |false=>
           have E:=I (show mgB m=false by rw[HF.o,g1,g2];rfl);clear g1 g2
           go_wp2_with (first
            |(go_at_call 118;(with_reducible refine Calls.mono (T1.o _) ?_);rintro e u1 ⟨rfl,hb⟩;replace HK:=I (HK.o.below hb);replace HB:=HB.t hb;clear hb T1;clear k23 k24 k25 k26 k27;have k23:u1.cell? ⟨w.heap.size,23,none⟩=some (.string ⟨m.ap.t.s.1.toArray⟩):=HK.o.cell 23;have k24:u1.cell? ⟨w.heap.size,24,none⟩=some (.string ⟨m.ap.t.s.2.toArray⟩):=HK.o.cell 24;have k25:u1.cell? ⟨w.heap.size,25,none⟩=some (.int .i64 m.ap.t.k):=HK.o.cell 25;have k26:u1.cell? ⟨w.heap.size,26,none⟩=some (.slice A5 m.ap.t.b.length c5):=HK.o.cell 26;have k27:u1.cell? ⟨w.heap.size,27,none⟩=some (.slice A6 m.ap.a.length c6):=HK.o.cell 27)
            |(go_at_call 119;(with_reducible refine Calls.mono (T2.o _) ?_);rintro e u2 ⟨rfl,hw⟩;subst hw;clear T2))
           go_ret;exact⟨by rw[E.o];rfl,HB.o⟩
          |true=>
           cases zT with
           |false=>
            have E:=I (show mgB m=false by rw[HF.o,g1,g2];rfl);clear g1 g2
            go_wp2_with (first
             |(go_at_call 118;(with_reducible refine Calls.mono (T1.o _) ?_);rintro e u1 ⟨rfl,hb⟩;replace HK:=I (HK.o.below hb);replace HB:=HB.t hb;clear hb T1;clear k23 k24 k25 k26 k27;have k23:u1.cell? ⟨w.heap.size,23,none⟩=some (.string ⟨m.ap.t.s.1.toArray⟩):=HK.o.cell 23;have k24:u1.cell? ⟨w.heap.size,24,none⟩=some (.string ⟨m.ap.t.s.2.toArray⟩):=HK.o.cell 24;have k25:u1.cell? ⟨w.heap.size,25,none⟩=some (.int .i64 m.ap.t.k):=HK.o.cell 25;have k26:u1.cell? ⟨w.heap.size,26,none⟩=some (.slice A5 m.ap.t.b.length c5):=HK.o.cell 26;have k27:u1.cell? ⟨w.heap.size,27,none⟩=some (.slice A6 m.ap.a.length c6):=HK.o.cell 27)
             |(go_at_call 119;(with_reducible refine Calls.mono (T2.o _) ?_);rintro e u2 ⟨rfl,hw⟩;subst hw;clear T2))
            go_ret;exact⟨by rw[E.o];rfl,HB.o⟩
           |true=>
            cases zR with
            |false=>
             have E:=I (show mgB m=false by rw[HF.o,g1,g2];rfl);clear g1 g2
             go_wp2_with (first
              |(go_at_call 118;(with_reducible refine Calls.mono (T1.o _) ?_);rintro e u1 ⟨rfl,hb⟩;replace HK:=I (HK.o.below hb);replace HB:=HB.t hb;clear hb T1;clear k23 k24 k25 k26 k27;have k23:u1.cell? ⟨w.heap.size,23,none⟩=some (.string ⟨m.ap.t.s.1.toArray⟩):=HK.o.cell 23;have k24:u1.cell? ⟨w.heap.size,24,none⟩=some (.string ⟨m.ap.t.s.2.toArray⟩):=HK.o.cell 24;have k25:u1.cell? ⟨w.heap.size,25,none⟩=some (.int .i64 m.ap.t.k):=HK.o.cell 25;have k26:u1.cell? ⟨w.heap.size,26,none⟩=some (.slice A5 m.ap.t.b.length c5):=HK.o.cell 26;have k27:u1.cell? ⟨w.heap.size,27,none⟩=some (.slice A6 m.ap.a.length c6):=HK.o.cell 27)
              |(go_at_call 119;(with_reducible refine Calls.mono (T2.o _) ?_);rintro e u2 ⟨rfl,hw⟩;subst hw;clear T2))
             go_ret;exact⟨by rw[E.o];rfl,HB.o⟩
            |true=>
             have E:=I (show mgB m=zF by rw[HF.o,g1,g2];rfl);clear g1 g2
             go_wp2_with (first
              |(go_at_call 118;(with_reducible refine Calls.mono (T1.o _) ?_);rintro e u1 ⟨rfl,hb⟩;replace HK:=I (HK.o.below hb);replace HB:=HB.t hb;clear hb T1;clear k23 k24 k25 k26 k27;have k23:u1.cell? ⟨w.heap.size,23,none⟩=some (.string ⟨m.ap.t.s.1.toArray⟩):=HK.o.cell 23;have k24:u1.cell? ⟨w.heap.size,24,none⟩=some (.string ⟨m.ap.t.s.2.toArray⟩):=HK.o.cell 24;have k25:u1.cell? ⟨w.heap.size,25,none⟩=some (.int .i64 m.ap.t.k):=HK.o.cell 25;have k26:u1.cell? ⟨w.heap.size,26,none⟩=some (.slice A5 m.ap.t.b.length c5):=HK.o.cell 26;have k27:u1.cell? ⟨w.heap.size,27,none⟩=some (.slice A6 m.ap.a.length c6):=HK.o.cell 27)
              |(go_at_call 119;(with_reducible refine Calls.mono (T2.o _) ?_);rintro e u2 ⟨rfl,hw⟩;subst hw;clear T2))
             go_ret;exact⟨by rw[E.o];rfl,HB.o⟩
       ·have nm4:=m4
        by_cases m5:m.k=5
        ·have y1:(m.k==1)=false:=by simp;omega
         have y2:(m.k==2)=false:=by simp;omega
         have y3:(m.k==3)=false:=by simp;omega
         have y4:(m.k==4)=false:=by simp;omega
         have y5:(m.k==5)=true:=by simpa using m5
         have T1:=I (fun w1=>Gk m.fa.e 1 255 w1);have T2:=I (fun w1=>Fk m.fa.no w1);have k28:wc.cell? ⟨w.heap.size,28,none⟩=some (.int .i64 m.fa.e):=HK.o.cell 28;have k29:wc.cell? ⟨w.heap.size,29,none⟩=some (.int .i64 m.fa.no):=HK.o.cell 29;rw[if_neg m1,if_neg m2,if_neg m3,if_neg m4,if_pos m5] at HF;clear m1 m2 m3 m4 m5;cases g1:inB m.fa.e 1 255 with
         |false=>
          rw[g1] at T1;have E:=I (show mgB m=false by rw[HF.o,g1];rfl);clear g1
          go_wp2_with (go_at_call 120;(with_reducible refine Calls.mono (T1.o _) ?_);rintro e u1 ⟨rfl,hw⟩;subst hw;clear T1)
          go_ret;exact⟨by rw[E.o];rfl,HB.o⟩
         |true=>
          rw[g1] at T1;cases g2:tmB m.fa.no with
          |false=>
           rw[g2] at T2;have E:=I (show mgB m=false by rw[HF.o,g1,g2];rfl);clear g1 g2
           go_wp2_with (first
            |(go_at_call 120;(with_reducible refine Calls.mono (T1.o _) ?_);rintro e u1 ⟨rfl,hw⟩;subst hw;clear T1)
            |(go_at_call 120;(with_reducible refine Calls.mono (T2.o _) ?_);rintro e u2 ⟨rfl,hw⟩;subst hw;clear T2))
           go_ret;exact⟨by rw[E.o];rfl,HB.o⟩
          |true=>
           rw[g2] at T2;cases zA with
           |false=>
            have E:=I (show mgB m=false by rw[HF.o,g1,g2];rfl);clear g1 g2
            go_wp2_with (first
             |(go_at_call 120;(with_reducible refine Calls.mono (T1.o _) ?_);rintro e u1 ⟨rfl,hw⟩;subst hw;clear T1)
             |(go_at_call 120;(with_reducible refine Calls.mono (T2.o _) ?_);rintro e u2 ⟨rfl,hw⟩;subst hw;clear T2))
            go_ret;exact⟨by rw[E.o];rfl,HB.o⟩
           |true=>
            cases zT with
            |false=>
             have E:=I (show mgB m=false by rw[HF.o,g1,g2];rfl);clear g1 g2
             go_wp2_with (first
              |(go_at_call 120;(with_reducible refine Calls.mono (T1.o _) ?_);rintro e u1 ⟨rfl,hw⟩;subst hw;clear T1)
              |(go_at_call 120;(with_reducible refine Calls.mono (T2.o _) ?_);rintro e u2 ⟨rfl,hw⟩;subst hw;clear T2))
             go_ret;exact⟨by rw[E.o];rfl,HB.o⟩
            |true=>
             cases zR with
             |false=>
              have E:=I (show mgB m=false by rw[HF.o,g1,g2];rfl);clear g1 g2
              go_wp2_with (first
               |(go_at_call 120;(with_reducible refine Calls.mono (T1.o _) ?_);rintro e u1 ⟨rfl,hw⟩;subst hw;clear T1)
               |(go_at_call 120;(with_reducible refine Calls.mono (T2.o _) ?_);rintro e u2 ⟨rfl,hw⟩;subst hw;clear T2))
              go_ret;exact⟨by rw[E.o];rfl,HB.o⟩
             |true=>
              have E:=I (show mgB m=zP by rw[HF.o,g1,g2];rfl);clear g1 g2
              go_wp2_with (first
               |(go_at_call 120;(with_reducible refine Calls.mono (T1.o _) ?_);rintro e u1 ⟨rfl,hw⟩;subst hw;clear T1)
               |(go_at_call 120;(with_reducible refine Calls.mono (T2.o _) ?_);rintro e u2 ⟨rfl,hw⟩;subst hw;clear T2))
              go_ret;exact⟨by rw[E.o];rfl,HB.o⟩
        ·have nm5:=m5
         have y1:(m.k==1)=false:=by simp;omega
         have y2:(m.k==2)=false:=by simp;omega
         have y3:(m.k==3)=false:=by simp;omega
         have y4:(m.k==4)=false:=by simp;omega
         have y5:(m.k==5)=false:=by simp;omega
         have E:=I (show mgB m=false by rw[HF.o,if_neg m1,if_neg m2,if_neg m3,if_neg m4,if_neg m5]);clear m1 m2 m3 m4 m5 nm1 nm2 nm3 nm4 nm5
         go_wp2
         go_ret;exact⟨by rw[E.o];rfl,HB.o⟩
end Ms
end Go.Proofs.YtlfmicidppccnaaGreat
