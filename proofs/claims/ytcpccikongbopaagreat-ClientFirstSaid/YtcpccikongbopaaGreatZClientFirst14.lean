import Derived.Test.YtcpccikongbopaaGreatZClientFirst13
set_option maxHeartbeats 25600000
set_option maxRecDepth 100000
set_option linter.unusedVariables false
set_option linter.unusedSimpArgs false
namespace Go.Proofs.YtcpccikongbopaaGreat
namespace Ms
open Go.RowKit Ad DerP
theorem VG (m:Mg) (A1 A2 A3 A4 A5 A6:Option Addr) (c1 c2 c3 c4 c5 c6:Nat) (w:World) (hs:mSm m) (ae:m.k=1\/m.k=3) (hT:m.tg=tg0) (hA:m.ap=ap0) :
  Calls Tryz.prog 71 #[.agg #[.int .i64 m.k,.string ⟨m.aq.c.1.toArray⟩,.string ⟨m.aq.c.2.toArray⟩,.string ⟨m.aq.s.1.toArray⟩,.string ⟨m.aq.s.2.toArray⟩,.int .i64 m.aq.t,.int .i64 m.aq.no,.string ⟨m.tg.t.s.1.toArray⟩,.string ⟨m.tg.t.s.2.toArray⟩,.int .i64 m.tg.t.k,.slice A1 m.tg.t.b.length c1,.slice A2 m.tg.a.length c2,.string ⟨m.tg.s.1.toArray⟩,.string ⟨m.tg.s.2.toArray⟩,.int .i64 m.tg.u,.int .i64 m.tg.no,.string ⟨m.re.c.1.toArray⟩,.string ⟨m.re.c.2.toArray⟩,.string ⟨m.re.t.s.1.toArray⟩,.string ⟨m.re.t.s.2.toArray⟩,.int .i64 m.re.t.k,.slice A3 m.re.t.b.length c3,.slice A4 m.re.b.length c4,.string ⟨m.ap.t.s.1.toArray⟩,.string ⟨m.ap.t.s.2.toArray⟩,.int .i64 m.ap.t.k,.slice A5 m.ap.t.b.length c5,.slice A6 m.ap.a.length c6,.int .i64 m.fa.e,.int .i64 m.fa.no]] w fun e w'=>e=.returned (.bool (mgB m))/\Below w.heap.size w w':=by
 have M:=I ((Below.refl w.heap.size w).alloc Ae (.cells #[.int .i64 m.k,.string ⟨m.aq.c.1.toArray⟩,.string ⟨m.aq.c.2.toArray⟩,.string ⟨m.aq.s.1.toArray⟩,.string ⟨m.aq.s.2.toArray⟩,.int .i64 m.aq.t,.int .i64 m.aq.no,.string ⟨m.tg.t.s.1.toArray⟩,.string ⟨m.tg.t.s.2.toArray⟩,.int .i64 m.tg.t.k,.slice A1 m.tg.t.b.length c1,.slice A2 m.tg.a.length c2,.string ⟨m.tg.s.1.toArray⟩,.string ⟨m.tg.s.2.toArray⟩,.int .i64 m.tg.u,.int .i64 m.tg.no,.string ⟨m.re.c.1.toArray⟩,.string ⟨m.re.c.2.toArray⟩,.string ⟨m.re.t.s.1.toArray⟩,.string ⟨m.re.t.s.2.toArray⟩,.int .i64 m.re.t.k,.slice A3 m.re.t.b.length c3,.slice A4 m.re.b.length c4,.string ⟨m.ap.t.s.1.toArray⟩,.string ⟨m.ap.t.s.2.toArray⟩,.int .i64 m.ap.t.k,.slice A5 m.ap.t.b.length c5,.slice A6 m.ap.a.length c6,.int .i64 m.fa.e,.int .i64 m.fa.no] 63));have D:=I (Blk.new w 63 #[.int .i64 m.k,.string ⟨m.aq.c.1.toArray⟩,.string ⟨m.aq.c.2.toArray⟩,.string ⟨m.aq.s.1.toArray⟩,.string ⟨m.aq.s.2.toArray⟩,.int .i64 m.aq.t,.int .i64 m.aq.no,.string ⟨m.tg.t.s.1.toArray⟩,.string ⟨m.tg.t.s.2.toArray⟩,.int .i64 m.tg.t.k,.slice A1 m.tg.t.b.length c1,.slice A2 m.tg.a.length c2,.string ⟨m.tg.s.1.toArray⟩,.string ⟨m.tg.s.2.toArray⟩,.int .i64 m.tg.u,.int .i64 m.tg.no,.string ⟨m.re.c.1.toArray⟩,.string ⟨m.re.c.2.toArray⟩,.string ⟨m.re.t.s.1.toArray⟩,.string ⟨m.re.t.s.2.toArray⟩,.int .i64 m.re.t.k,.slice A3 m.re.t.b.length c3,.slice A4 m.re.b.length c4,.string ⟨m.ap.t.s.1.toArray⟩,.string ⟨m.ap.t.s.2.toArray⟩,.int .i64 m.ap.t.k,.slice A5 m.ap.t.b.length c5,.slice A6 m.ap.a.length c6,.int .i64 m.fa.e,.int .i64 m.fa.no]);have N1:=I (fun w1=>Ix m.tg.t A1 c1 w1);have N2:=I (fun w1=>Ix m.re.t A3 c3 w1);have N3:=I (fun w1=>Ix m.ap.t A5 c5 w1);have af:=I ae;have HT:=I hT;have HA:=I hA;have HZ:=I hs;clear hs ae hT hA;go_enter Tryz.func71,Tryz.ntmps71
 go_upto_region 2 with fail
 obtain⟨W,eW⟩:=Ah (w.alloc (.cells #[.int .i64 m.k,.string ⟨m.aq.c.1.toArray⟩,.string ⟨m.aq.c.2.toArray⟩,.string ⟨m.aq.s.1.toArray⟩,.string ⟨m.aq.s.2.toArray⟩,.int .i64 m.aq.t,.int .i64 m.aq.no,.string ⟨m.tg.t.s.1.toArray⟩,.string ⟨m.tg.t.s.2.toArray⟩,.int .i64 m.tg.t.k,.slice A1 m.tg.t.b.length c1,.slice A2 m.tg.a.length c2,.string ⟨m.tg.s.1.toArray⟩,.string ⟨m.tg.s.2.toArray⟩,.int .i64 m.tg.u,.int .i64 m.tg.no,.string ⟨m.re.c.1.toArray⟩,.string ⟨m.re.c.2.toArray⟩,.string ⟨m.re.t.s.1.toArray⟩,.string ⟨m.re.t.s.2.toArray⟩,.int .i64 m.re.t.k,.slice A3 m.re.t.b.length c3,.slice A4 m.re.b.length c4,.string ⟨m.ap.t.s.1.toArray⟩,.string ⟨m.ap.t.s.2.toArray⟩,.int .i64 m.ap.t.k,.slice A5 m.ap.t.b.length c5,.slice A6 m.ap.a.length c6,.int .i64 m.fa.e,.int .i64 m.fa.no] 63));rw[<-eW] at M D⊢;clear eW
 go_cut [4,5] from 11 to 44 (fun av tv wx=>av=.bool (decide (m.aq=as0))/\tv=.bool (decide (m.tg=tg0))/\Below w.heap.size w wx/\Blk wx w.heap.size 63 #[.int .i64 m.k,.string ⟨m.aq.c.1.toArray⟩,.string ⟨m.aq.c.2.toArray⟩,.string ⟨m.aq.s.1.toArray⟩,.string ⟨m.aq.s.2.toArray⟩,.int .i64 m.aq.t,.int .i64 m.aq.no,.string ⟨m.tg.t.s.1.toArray⟩,.string ⟨m.tg.t.s.2.toArray⟩,.int .i64 m.tg.t.k,.slice A1 m.tg.t.b.length c1,.slice A2 m.tg.a.length c2,.string ⟨m.tg.s.1.toArray⟩,.string ⟨m.tg.s.2.toArray⟩,.int .i64 m.tg.u,.int .i64 m.tg.no,.string ⟨m.re.c.1.toArray⟩,.string ⟨m.re.c.2.toArray⟩,.string ⟨m.re.t.s.1.toArray⟩,.string ⟨m.re.t.s.2.toArray⟩,.int .i64 m.re.t.k,.slice A3 m.re.t.b.length c3,.slice A4 m.re.b.length c4,.string ⟨m.ap.t.s.1.toArray⟩,.string ⟨m.ap.t.s.2.toArray⟩,.int .i64 m.ap.t.k,.slice A5 m.ap.t.b.length c5,.slice A6 m.ap.a.length c6,.int .i64 m.fa.e,.int .i64 m.fa.no])
 case first=>
  have TF:=I (VC m.tg);replace D:=I (show Blk W.drew _ _ _ from D.o.drewN 1);replace M:=I (show Below _ _ W.drew from below_drewN M.o 1);cases q1:decide (m.tg.t=tk0) with
  |false=>exact absurd (decide_eq_true (show m.tg.t=tk0 by have h:=HT.o;rw[h];first | done | rfl)) (by rw[q1];decide)
  |true=>
   rw[q1] at N1;cases q2:decide (m.tg.a = []) with
   |false=>exact absurd (decide_eq_true (show m.tg.a = [] by have h:=HT.o;rw[h];first | done | rfl)) (by rw[q2];decide)
   |true=>
    have t2:((m.tg.a.length:Int)==0)=true:=by simpa using q2
    cases q3:decide (m.tg.s=pr0) with
    |false=>exact absurd (decide_eq_true (show m.tg.s=pr0 by have h:=HT.o;rw[h];first | done | rfl)) (by rw[q3];decide)
    |true=>
     have SQ:=I q3;cases q4:decide (m.tg.u=0) with
     |false=>exact absurd (decide_eq_true (show m.tg.u=0 by have h:=HT.o;rw[h];first | done | rfl)) (by rw[q4];decide)
     |true=>
      have t4:(m.tg.u==0)=true:=by simpa using q4
      cases q5:decide (m.tg.no=0) with
      |false=>exact absurd (decide_eq_true (show m.tg.no=0 by have h:=HT.o;rw[h];first | done | rfl)) (by rw[q5];decide)
      |true=>
       have t5:(m.tg.no==0)=true:=by simpa using q5
       have E:=I (show decide (m.tg=tg0)=true by rw[TF.o,q1,q2,q3,q4,q5];rfl);clear q1 q2 q3 q4 q5;refine Reg.Cv 36 rfl (by kernel_rfl) ?_;refine Reg.tz 0 rfl ?_;refine Reg.tx 1 rfl (fun w' hS=>by have hk:=D.o.below hS;have k1:w'.cell? ⟨w.heap.size,1,none⟩=some (.string ⟨m.aq.c.1.toArray⟩):=hk.cell 1;have k2:w'.cell? ⟨w.heap.size,2,none⟩=some (.string ⟨m.aq.c.2.toArray⟩):=hk.cell 2;have k3:w'.cell? ⟨w.heap.size,3,none⟩=some (.string ⟨m.aq.s.1.toArray⟩):=hk.cell 3;have k4:w'.cell? ⟨w.heap.size,4,none⟩=some (.string ⟨m.aq.s.2.toArray⟩):=hk.cell 4;have k5:w'.cell? ⟨w.heap.size,5,none⟩=some (.int .i64 m.aq.t):=hk.cell 5;have k6:w'.cell? ⟨w.heap.size,6,none⟩=some (.int .i64 m.aq.no):=hk.cell 6;go_simp;rfl) ?_;refine Reg.tz 2 rfl ?_;refine Reg.tx 3 (v:=.bool (decide (m.aq=as0))) rfl (fun w' hS=>by go_simp;exact Xu m.aq (fun b=>Result.ok (Next.value (.bool b)) w')) ?_;refine Reg.tz 4 rfl ?_;refine Reg.tz 5 rfl ?_;refine Reg.tx 6 rfl (fun w' hS=>by have hk:=D.o.below hS;have k7:w'.cell? ⟨w.heap.size,7,none⟩=some (.string ⟨m.tg.t.s.1.toArray⟩):=hk.cell 7;have k8:w'.cell? ⟨w.heap.size,8,none⟩=some (.string ⟨m.tg.t.s.2.toArray⟩):=hk.cell 8;have k9:w'.cell? ⟨w.heap.size,9,none⟩=some (.int .i64 m.tg.t.k):=hk.cell 9;have ao:w'.cell? ⟨w.heap.size,10,none⟩=some (.slice A1 m.tg.t.b.length c1):=hk.cell 10;go_simp;rfl) ?_;refine Reg.DD 7 rfl (by kernel_rfl) (by rfl) 123 #[.agg #[.string ⟨m.tg.t.s.1.toArray⟩,.string ⟨m.tg.t.s.2.toArray⟩,.int .i64 m.tg.t.k,.slice A1 m.tg.t.b.length c1]] (by go_simp) ?_;refine Ag (N1.o _) ?_;rintro wn F;refine⟨_,rfl,F,?_⟩;replace D:=I (D.o.below F);replace M:=M.t F;clear F;simp only[Act.put,J,U,Aa];refine Reg.tz 8 rfl ?_;refine Reg.tz 9 rfl ?_;refine Reg.tz 10 rfl ?_;refine Reg.tx 11 rfl (fun w' hS=>by have hk:=D.o.below hS;have ai:w'.cell? ⟨w.heap.size,11,none⟩=some (.slice A2 m.tg.a.length c2):=hk.cell 11;go_simp;rfl) ?_;refine Reg.tz 12 rfl ?_;refine Reg.tz 13 rfl ?_;refine Reg.tz 14 rfl ?_;refine Reg.tz 15 rfl ?_;refine Reg.tz 16 rfl ?_;refine Reg.tz 17 rfl ?_;refine Reg.tx 18 rfl (fun w' hS=>by have hk:=D.o.below hS;have ag:w'.cell? ⟨w.heap.size,12,none⟩=some (.string ⟨m.tg.s.1.toArray⟩):=hk.cell 12;have az:w'.cell? ⟨w.heap.size,13,none⟩=some (.string ⟨m.tg.s.2.toArray⟩):=hk.cell 13;go_simp;rfl) ?_;refine Reg.tz 19 rfl ?_;refine Reg.tx 20 (v:=.bool true) rfl (fun w' hS=>by go_simp;exact(Xv m.tg.s (fun b=>Result.ok (Next.value (.bool b)) w')).trans (by rw[SQ.o])) ?_;refine Reg.tz 21 rfl ?_;refine Reg.tz 22 rfl ?_;refine Reg.tz 23 rfl ?_;refine Reg.tz 24 rfl ?_;refine Reg.tx 25 rfl (fun w' hS=>by have hk:=D.o.below hS;have ar:w'.cell? ⟨w.heap.size,14,none⟩=some (.int .i64 m.tg.u):=hk.cell 14;go_simp;rfl) ?_;refine Reg.tz 26 rfl ?_;refine Reg.tz 27 rfl ?_;refine Reg.tz 28 rfl ?_;refine Reg.tz 29 rfl ?_;refine Reg.tz 30 rfl ?_;refine Reg.tx 31 rfl (fun w' hS=>by have hk:=D.o.below hS;have al:w'.cell? ⟨w.heap.size,15,none⟩=some (.int .i64 m.tg.no):=hk.cell 15;go_simp;rfl) ?_;refine Reg.tz 32 rfl ?_;refine Reg.tz 33 rfl ?_;refine Reg.tz 34 rfl ?_;refine Reg.tz 35 rfl ?_;refine wpAnyH_done (by kernel_rfl) ?_ _
       go_wp2_with fail
       go_meet
       exact⟨rfl,by rw[E.o],M.o,D.o⟩
 case rest=>
  obtain⟨rfl,rfl,F,hk⟩:=hcut;replace M:=I F;replace D:=I hk;clear F hk;obtain⟨zA,eA⟩:=Ah (decide (m.aq=as0));obtain⟨zT,eT⟩:=Ah (decide (m.tg=tg0));rw[<-eA,<-eT];have EA:=I eA;have ET:=I eT;clear eA eT;obtain⟨v0,ad⟩:∃v:Value,v=.agg #[.int .i64 m.k,.string ⟨m.aq.c.1.toArray⟩,.string ⟨m.aq.c.2.toArray⟩,.string ⟨m.aq.s.1.toArray⟩,.string ⟨m.aq.s.2.toArray⟩,.int .i64 m.aq.t,.int .i64 m.aq.no,.string ⟨m.tg.t.s.1.toArray⟩,.string ⟨m.tg.t.s.2.toArray⟩,.int .i64 m.tg.t.k,.slice A1 m.tg.t.b.length c1,.slice A2 m.tg.a.length c2,.string ⟨m.tg.s.1.toArray⟩,.string ⟨m.tg.s.2.toArray⟩,.int .i64 m.tg.u,.int .i64 m.tg.no,.string ⟨m.re.c.1.toArray⟩,.string ⟨m.re.c.2.toArray⟩,.string ⟨m.re.t.s.1.toArray⟩,.string ⟨m.re.t.s.2.toArray⟩,.int .i64 m.re.t.k,.slice A3 m.re.t.b.length c3,.slice A4 m.re.b.length c4,.string ⟨m.ap.t.s.1.toArray⟩,.string ⟨m.ap.t.s.2.toArray⟩,.int .i64 m.ap.t.k,.slice A5 m.ap.t.b.length c5,.slice A6 m.ap.a.length c6,.int .i64 m.fa.e,.int .i64 m.fa.no]:=⟨_,rfl⟩;rw[<-ad];clear ad
  go_upto_region 3 with fail
  go_cut [6] from 45 to 62 (fun rv wx=>rv=.bool (decide (m.re=re0))/\Below w.heap.size w wx/\Blk wx w.heap.size 63 #[.int .i64 m.k,.string ⟨m.aq.c.1.toArray⟩,.string ⟨m.aq.c.2.toArray⟩,.string ⟨m.aq.s.1.toArray⟩,.string ⟨m.aq.s.2.toArray⟩,.int .i64 m.aq.t,.int .i64 m.aq.no,.string ⟨m.tg.t.s.1.toArray⟩,.string ⟨m.tg.t.s.2.toArray⟩,.int .i64 m.tg.t.k,.slice A1 m.tg.t.b.length c1,.slice A2 m.tg.a.length c2,.string ⟨m.tg.s.1.toArray⟩,.string ⟨m.tg.s.2.toArray⟩,.int .i64 m.tg.u,.int .i64 m.tg.no,.string ⟨m.re.c.1.toArray⟩,.string ⟨m.re.c.2.toArray⟩,.string ⟨m.re.t.s.1.toArray⟩,.string ⟨m.re.t.s.2.toArray⟩,.int .i64 m.re.t.k,.slice A3 m.re.t.b.length c3,.slice A4 m.re.b.length c4,.string ⟨m.ap.t.s.1.toArray⟩,.string ⟨m.ap.t.s.2.toArray⟩,.int .i64 m.ap.t.k,.slice A5 m.ap.t.b.length c5,.slice A6 m.ap.a.length c6,.int .i64 m.fa.e,.int .i64 m.fa.no])
  case first=>
   have k16:wc.cell? ⟨w.heap.size,16,none⟩=some (.string ⟨m.re.c.1.toArray⟩):=D.o.cell 16;have X:wc.cell? ⟨w.heap.size,17,none⟩=some (.string ⟨m.re.c.2.toArray⟩):=D.o.cell 17;have ab:wc.cell? ⟨w.heap.size,18,none⟩=some (.string ⟨m.re.t.s.1.toArray⟩):=D.o.cell 18;have Y:wc.cell? ⟨w.heap.size,19,none⟩=some (.string ⟨m.re.t.s.2.toArray⟩):=D.o.cell 19;have Z:wc.cell? ⟨w.heap.size,20,none⟩=some (.int .i64 m.re.t.k):=D.o.cell 20;have aa:wc.cell? ⟨w.heap.size,21,none⟩=some (.slice A3 m.re.t.b.length c3):=D.o.cell 21;have O:wc.cell? ⟨w.heap.size,22,none⟩=some (.slice A4 m.re.b.length c4):=D.o.cell 22;have RF:=I (VD m.re);cases q1:decide (m.re.c=pr0) with
   |false=>
    have E:=I (show decide (m.re=re0)=false by rw[RF.o,q1];rfl)
    by_cases a1:m.re.c.1 = []
    ·have a2:¬m.re.c.2 = []:=fun h=>by rw[show m.re.c=pr0 from Prod.ext a1 h] at q1;cases q1
     clear q1
     go_wp2_with fail
     go_meet
     exact⟨by rw[E.o],M.o,D.o⟩
    ·clear q1
     go_wp2_with fail
     go_meet
     exact⟨by rw[E.o],M.o,D.o⟩
   |true=>
    have a0:m.re.c=pr0:=of_decide_eq_true q1;have a1:m.re.c.1 = []:=by rw[a0];rfl
    have a2:m.re.c.2 = []:=by rw[a0];rfl
    clear a0;cases q2:decide (m.re.t=tk0) with
    |false=>
     rw[q2] at N2;have E:=I (show decide (m.re=re0)=false by rw[RF.o,q1,q2];rfl);clear q1 q2
     go_wp2_with (go_at_call 123;refine Ag (N2.o _) ?_;rintro wn F;replace D:=I (D.o.below F);replace M:=M.t F;clear F;clear k16 X ab Y Z aa O;have k16:wn.cell? ⟨w.heap.size,16,none⟩=some (.string ⟨m.re.c.1.toArray⟩):=D.o.cell 16;have X:wn.cell? ⟨w.heap.size,17,none⟩=some (.string ⟨m.re.c.2.toArray⟩):=D.o.cell 17;have ab:wn.cell? ⟨w.heap.size,18,none⟩=some (.string ⟨m.re.t.s.1.toArray⟩):=D.o.cell 18;have Y:wn.cell? ⟨w.heap.size,19,none⟩=some (.string ⟨m.re.t.s.2.toArray⟩):=D.o.cell 19;have Z:wn.cell? ⟨w.heap.size,20,none⟩=some (.int .i64 m.re.t.k):=D.o.cell 20;have aa:wn.cell? ⟨w.heap.size,21,none⟩=some (.slice A3 m.re.t.b.length c3):=D.o.cell 21;have O:wn.cell? ⟨w.heap.size,22,none⟩=some (.slice A4 m.re.b.length c4):=D.o.cell 22)
     go_meet
     exact⟨by rw[E.o],M.o,D.o⟩
    |true=>
     rw[q2] at N2;cases q3:decide (m.re.b = []) with
     |false=>
      have t2:((m.re.b.length:Int)==0)=false:=by simpa using q3
      have E:=I (show decide (m.re=re0)=false by rw[RF.o,q1,q2,q3];rfl);clear q1 q2 q3
      go_wp2_with (go_at_call 123;refine Ag (N2.o _) ?_;rintro wn F;replace D:=I (D.o.below F);replace M:=M.t F;clear F;clear k16 X ab Y Z aa O;have k16:wn.cell? ⟨w.heap.size,16,none⟩=some (.string ⟨m.re.c.1.toArray⟩):=D.o.cell 16;have X:wn.cell? ⟨w.heap.size,17,none⟩=some (.string ⟨m.re.c.2.toArray⟩):=D.o.cell 17;have ab:wn.cell? ⟨w.heap.size,18,none⟩=some (.string ⟨m.re.t.s.1.toArray⟩):=D.o.cell 18;have Y:wn.cell? ⟨w.heap.size,19,none⟩=some (.string ⟨m.re.t.s.2.toArray⟩):=D.o.cell 19;have Z:wn.cell? ⟨w.heap.size,20,none⟩=some (.int .i64 m.re.t.k):=D.o.cell 20;have aa:wn.cell? ⟨w.heap.size,21,none⟩=some (.slice A3 m.re.t.b.length c3):=D.o.cell 21;have O:wn.cell? ⟨w.heap.size,22,none⟩=some (.slice A4 m.re.b.length c4):=D.o.cell 22)
      go_meet
      exact⟨by rw[E.o],M.o,D.o⟩
     |true=>
      have t2:((m.re.b.length:Int)==0)=true:=by simpa using q3
      have E:=I (show decide (m.re=re0)=true by rw[RF.o,q1,q2,q3];rfl);clear q1 q2 q3
      go_wp2_with (go_at_call 123;refine Ag (N2.o _) ?_;rintro wn F;replace D:=I (D.o.below F);replace M:=M.t F;clear F;clear k16 X ab Y Z aa O;have k16:wn.cell? ⟨w.heap.size,16,none⟩=some (.string ⟨m.re.c.1.toArray⟩):=D.o.cell 16;have X:wn.cell? ⟨w.heap.size,17,none⟩=some (.string ⟨m.re.c.2.toArray⟩):=D.o.cell 17;have ab:wn.cell? ⟨w.heap.size,18,none⟩=some (.string ⟨m.re.t.s.1.toArray⟩):=D.o.cell 18;have Y:wn.cell? ⟨w.heap.size,19,none⟩=some (.string ⟨m.re.t.s.2.toArray⟩):=D.o.cell 19;have Z:wn.cell? ⟨w.heap.size,20,none⟩=some (.int .i64 m.re.t.k):=D.o.cell 20;have aa:wn.cell? ⟨w.heap.size,21,none⟩=some (.slice A3 m.re.t.b.length c3):=D.o.cell 21;have O:wn.cell? ⟨w.heap.size,22,none⟩=some (.slice A4 m.re.b.length c4):=D.o.cell 22)
      go_meet
      exact⟨by rw[E.o],M.o,D.o⟩
  case rest=>
   obtain⟨rfl,F,hk⟩:=hcut;replace M:=I F;replace D:=I hk;clear F hk;obtain⟨zR,eR⟩:=Ah (decide (m.re=re0));rw[<-eR];have ER:=I eR;clear eR
   go_upto_region 4 with fail
   go_cut [7,8] from 63 to 77 (fun av fv wx=>av=.bool (decide (m.ap=ap0))/\fv=.bool (decide (m.fa=fa0))/\Below w.heap.size w wx/\Blk wx w.heap.size 63 #[.int .i64 m.k,.string ⟨m.aq.c.1.toArray⟩,.string ⟨m.aq.c.2.toArray⟩,.string ⟨m.aq.s.1.toArray⟩,.string ⟨m.aq.s.2.toArray⟩,.int .i64 m.aq.t,.int .i64 m.aq.no,.string ⟨m.tg.t.s.1.toArray⟩,.string ⟨m.tg.t.s.2.toArray⟩,.int .i64 m.tg.t.k,.slice A1 m.tg.t.b.length c1,.slice A2 m.tg.a.length c2,.string ⟨m.tg.s.1.toArray⟩,.string ⟨m.tg.s.2.toArray⟩,.int .i64 m.tg.u,.int .i64 m.tg.no,.string ⟨m.re.c.1.toArray⟩,.string ⟨m.re.c.2.toArray⟩,.string ⟨m.re.t.s.1.toArray⟩,.string ⟨m.re.t.s.2.toArray⟩,.int .i64 m.re.t.k,.slice A3 m.re.t.b.length c3,.slice A4 m.re.b.length c4,.string ⟨m.ap.t.s.1.toArray⟩,.string ⟨m.ap.t.s.2.toArray⟩,.int .i64 m.ap.t.k,.slice A5 m.ap.t.b.length c5,.slice A6 m.ap.a.length c6,.int .i64 m.fa.e,.int .i64 m.fa.no])
   case first=>
    have PF:=I (VE m.ap);replace D:=I (show Blk wc.drew _ _ _ from D.o.drewN 1);replace M:=I (show Below _ _ wc.drew from below_drewN M.o 1);cases q1:decide (m.ap.t=tk0) with
    |false=>exact absurd (decide_eq_true (show m.ap.t=tk0 by have h:=HA.o;rw[h];first | done | rfl)) (by rw[q1];decide)
    |true=>
     rw[q1] at N3;cases q2:decide (m.ap.a = []) with
     |false=>exact absurd (decide_eq_true (show m.ap.a = [] by have h:=HA.o;rw[h];first | done | rfl)) (by rw[q2];decide)
     |true=>
      have t2:((m.ap.a.length:Int)==0)=true:=by simpa using q2
      have E:=I (show decide (m.ap=ap0)=true by rw[PF.o,q1,q2];rfl);clear q1 q2;refine Reg.Cv 17 rfl (by kernel_rfl) ?_;refine Reg.tz 0 rfl ?_;refine Reg.tz 1 rfl ?_;refine Reg.tx 2 rfl (fun w' hS=>by have hk:=D.o.below hS;have ay:w'.cell? ⟨w.heap.size,23,none⟩=some (.string ⟨m.ap.t.s.1.toArray⟩):=hk.cell 23;have ah:w'.cell? ⟨w.heap.size,24,none⟩=some (.string ⟨m.ap.t.s.2.toArray⟩):=hk.cell 24;have aw:w'.cell? ⟨w.heap.size,25,none⟩=some (.int .i64 m.ap.t.k):=hk.cell 25;have ax:w'.cell? ⟨w.heap.size,26,none⟩=some (.slice A5 m.ap.t.b.length c5):=hk.cell 26;go_simp;rfl) ?_;refine Reg.tz 11 rfl ?_;refine Reg.tx 12 rfl (fun w' hS=>by have hk:=D.o.below hS;have aA:w'.cell? ⟨w.heap.size,28,none⟩=some (.int .i64 m.fa.e):=hk.cell 28;have aj:w'.cell? ⟨w.heap.size,29,none⟩=some (.int .i64 m.fa.no):=hk.cell 29;go_simp;rfl) ?_;refine Reg.tz 13 rfl ?_;refine Reg.tx 14 (v:=.bool (decide (m.fa=fa0))) rfl (fun w' hS=>by go_simp;exact Xw m.fa (fun b=>Result.ok (Next.value (.bool b)) w')) ?_;refine Reg.DD 3 rfl (by kernel_rfl) (by rfl) 123 #[.agg #[.string ⟨m.ap.t.s.1.toArray⟩,.string ⟨m.ap.t.s.2.toArray⟩,.int .i64 m.ap.t.k,.slice A5 m.ap.t.b.length c5]] (by go_simp) ?_;refine Ag (N3.o _) ?_;rintro wn F;refine⟨_,rfl,F,?_⟩;replace D:=I (D.o.below F);replace M:=M.t F;clear F;simp only[Act.put,J,U,Aa];refine Reg.tz 4 rfl ?_;refine Reg.tz 5 rfl ?_;refine Reg.tz 6 rfl ?_;refine Reg.tx 7 rfl (fun w' hS=>by have hk:=D.o.below hS;have au:w'.cell? ⟨w.heap.size,27,none⟩=some (.slice A6 m.ap.a.length c6):=hk.cell 27;go_simp;rfl) ?_;refine Reg.tz 8 rfl ?_;refine Reg.tz 9 rfl ?_;refine Reg.tz 10 rfl ?_;refine Reg.tz 15 rfl ?_;refine Reg.tz 16 rfl ?_;refine wpAnyH_done (by kernel_rfl) ?_ _
      go_wp2_with fail
      go_meet
      exact⟨by rw[E.o],rfl,M.o,D.o⟩
   case rest=>
    obtain⟨rfl,rfl,F,hk⟩:=hcut;replace M:=I F;replace D:=I hk;clear F hk;obtain⟨zP,eP⟩:=Ah (decide (m.ap=ap0));obtain⟨zF,eF⟩:=Ah (decide (m.fa=fa0));rw[<-eP,<-eF];have HF:=I (VF m);rw[<-EA.o,<-ET.o,<-ER.o,<-eP,<-eF] at HF;clear eP eF EA ET ER N1 N2 N3
    by_cases m1:m.k=1
    ·have y1:(m.k==1)=true:=by simpa using m1
     have y2:(m.k==2)=false:=by simp;omega
     have y3:(m.k==3)=false:=by simp;omega
     have y4:(m.k==4)=false:=by simp;omega
     have y5:(m.k==5)=false:=by simp;omega
     have T1:=I (fun w1=>Qv m.aq w1 HZ.o.1.1 HZ.o.1.2);have k1:wc.cell? ⟨w.heap.size,1,none⟩=some (.string ⟨m.aq.c.1.toArray⟩):=D.o.cell 1;have k2:wc.cell? ⟨w.heap.size,2,none⟩=some (.string ⟨m.aq.c.2.toArray⟩):=D.o.cell 2;have k3:wc.cell? ⟨w.heap.size,3,none⟩=some (.string ⟨m.aq.s.1.toArray⟩):=D.o.cell 3;have k4:wc.cell? ⟨w.heap.size,4,none⟩=some (.string ⟨m.aq.s.2.toArray⟩):=D.o.cell 4;have k5:wc.cell? ⟨w.heap.size,5,none⟩=some (.int .i64 m.aq.t):=D.o.cell 5;have k6:wc.cell? ⟨w.heap.size,6,none⟩=some (.int .i64 m.aq.no):=D.o.cell 6;rw[if_pos m1] at HF;clear m1;cases g1:asB m.aq with
     |false=>
      rw[g1] at T1;have E:=I (show mgB m=false by rw[HF.o,g1];rfl);clear g1
      go_wp2_with (go_at_call 124;(with_reducible refine Calls.mono (T1.o _) ?_);rintro e u1 ⟨rfl,F⟩;replace D:=I (D.o.below F);replace M:=M.t F;clear F T1;clear k1 k2 k3 k4 k5 k6;have k1:u1.cell? ⟨w.heap.size,1,none⟩=some (.string ⟨m.aq.c.1.toArray⟩):=D.o.cell 1;have k2:u1.cell? ⟨w.heap.size,2,none⟩=some (.string ⟨m.aq.c.2.toArray⟩):=D.o.cell 2;have k3:u1.cell? ⟨w.heap.size,3,none⟩=some (.string ⟨m.aq.s.1.toArray⟩):=D.o.cell 3;have k4:u1.cell? ⟨w.heap.size,4,none⟩=some (.string ⟨m.aq.s.2.toArray⟩):=D.o.cell 4;have k5:u1.cell? ⟨w.heap.size,5,none⟩=some (.int .i64 m.aq.t):=D.o.cell 5;have k6:u1.cell? ⟨w.heap.size,6,none⟩=some (.int .i64 m.aq.no):=D.o.cell 6)
      go_ret;exact⟨by rw[E.o];rfl,M.o⟩
     |true=>
      rw[g1] at T1;cases zT with
      |false=>
       have E:=I (show mgB m=false by rw[HF.o,g1];rfl);clear g1
       go_wp2_with (go_at_call 124;(with_reducible refine Calls.mono (T1.o _) ?_);rintro e u1 ⟨rfl,F⟩;replace D:=I (D.o.below F);replace M:=M.t F;clear F T1;clear k1 k2 k3 k4 k5 k6;have k1:u1.cell? ⟨w.heap.size,1,none⟩=some (.string ⟨m.aq.c.1.toArray⟩):=D.o.cell 1;have k2:u1.cell? ⟨w.heap.size,2,none⟩=some (.string ⟨m.aq.c.2.toArray⟩):=D.o.cell 2;have k3:u1.cell? ⟨w.heap.size,3,none⟩=some (.string ⟨m.aq.s.1.toArray⟩):=D.o.cell 3;have k4:u1.cell? ⟨w.heap.size,4,none⟩=some (.string ⟨m.aq.s.2.toArray⟩):=D.o.cell 4;have k5:u1.cell? ⟨w.heap.size,5,none⟩=some (.int .i64 m.aq.t):=D.o.cell 5;have k6:u1.cell? ⟨w.heap.size,6,none⟩=some (.int .i64 m.aq.no):=D.o.cell 6)
       go_ret;exact⟨by rw[E.o];rfl,M.o⟩
      |true=>
       cases zR with
       |false=>
        have E:=I (show mgB m=false by rw[HF.o,g1];rfl);clear g1
        go_wp2_with (go_at_call 124;(with_reducible refine Calls.mono (T1.o _) ?_);rintro e u1 ⟨rfl,F⟩;replace D:=I (D.o.below F);replace M:=M.t F;clear F T1;clear k1 k2 k3 k4 k5 k6;have k1:u1.cell? ⟨w.heap.size,1,none⟩=some (.string ⟨m.aq.c.1.toArray⟩):=D.o.cell 1;have k2:u1.cell? ⟨w.heap.size,2,none⟩=some (.string ⟨m.aq.c.2.toArray⟩):=D.o.cell 2;have k3:u1.cell? ⟨w.heap.size,3,none⟩=some (.string ⟨m.aq.s.1.toArray⟩):=D.o.cell 3;have k4:u1.cell? ⟨w.heap.size,4,none⟩=some (.string ⟨m.aq.s.2.toArray⟩):=D.o.cell 4;have k5:u1.cell? ⟨w.heap.size,5,none⟩=some (.int .i64 m.aq.t):=D.o.cell 5;have k6:u1.cell? ⟨w.heap.size,6,none⟩=some (.int .i64 m.aq.no):=D.o.cell 6)
        go_ret;exact⟨by rw[E.o];rfl,M.o⟩
       |true=>
        cases zP with
        |false=>
         have E:=I (show mgB m=false by rw[HF.o,g1];rfl);clear g1
         go_wp2_with (go_at_call 124;(with_reducible refine Calls.mono (T1.o _) ?_);rintro e u1 ⟨rfl,F⟩;replace D:=I (D.o.below F);replace M:=M.t F;clear F T1;clear k1 k2 k3 k4 k5 k6;have k1:u1.cell? ⟨w.heap.size,1,none⟩=some (.string ⟨m.aq.c.1.toArray⟩):=D.o.cell 1;have k2:u1.cell? ⟨w.heap.size,2,none⟩=some (.string ⟨m.aq.c.2.toArray⟩):=D.o.cell 2;have k3:u1.cell? ⟨w.heap.size,3,none⟩=some (.string ⟨m.aq.s.1.toArray⟩):=D.o.cell 3;have k4:u1.cell? ⟨w.heap.size,4,none⟩=some (.string ⟨m.aq.s.2.toArray⟩):=D.o.cell 4;have k5:u1.cell? ⟨w.heap.size,5,none⟩=some (.int .i64 m.aq.t):=D.o.cell 5;have k6:u1.cell? ⟨w.heap.size,6,none⟩=some (.int .i64 m.aq.no):=D.o.cell 6)
         go_ret;exact⟨by rw[E.o];rfl,M.o⟩
        |true=>
         have E:=I (show mgB m=zF by rw[HF.o,g1];rfl);clear g1
         go_wp2_with (go_at_call 124;(with_reducible refine Calls.mono (T1.o _) ?_);rintro e u1 ⟨rfl,F⟩;replace D:=I (D.o.below F);replace M:=M.t F;clear F T1;clear k1 k2 k3 k4 k5 k6;have k1:u1.cell? ⟨w.heap.size,1,none⟩=some (.string ⟨m.aq.c.1.toArray⟩):=D.o.cell 1;have k2:u1.cell? ⟨w.heap.size,2,none⟩=some (.string ⟨m.aq.c.2.toArray⟩):=D.o.cell 2;have k3:u1.cell? ⟨w.heap.size,3,none⟩=some (.string ⟨m.aq.s.1.toArray⟩):=D.o.cell 3;have k4:u1.cell? ⟨w.heap.size,4,none⟩=some (.string ⟨m.aq.s.2.toArray⟩):=D.o.cell 4;have k5:u1.cell? ⟨w.heap.size,5,none⟩=some (.int .i64 m.aq.t):=D.o.cell 5;have k6:u1.cell? ⟨w.heap.size,6,none⟩=some (.int .i64 m.aq.no):=D.o.cell 6)
         go_ret;exact⟨by rw[E.o];rfl,M.o⟩
    ·have ak:=m1
     by_cases m2:m.k=2
     ·exact absurd m2 (by rcases af.o with h | h<;>rw[h]<;>decide)
     ·have an:=m2
      by_cases m3:m.k=3
      ·have y1:(m.k==1)=false:=by simp;omega
       have y2:(m.k==2)=false:=by simp;omega
       have y3:(m.k==3)=true:=by simpa using m3
       have y4:(m.k==4)=false:=by simp;omega
       have y5:(m.k==5)=false:=by simp;omega
       have T1:=I (fun w1=>AM m.re.c w1 HZ.o.2.2.1.1.1 HZ.o.2.2.1.1.2);have T2:=I (fun w1=>LJ m.re.t A3 c3 w1 HZ.o.2.2.1.2);have T3:=I (fun w1=>KG m.re.b A4 c4 w1);have k16:wc.cell? ⟨w.heap.size,16,none⟩=some (.string ⟨m.re.c.1.toArray⟩):=D.o.cell 16;have X:wc.cell? ⟨w.heap.size,17,none⟩=some (.string ⟨m.re.c.2.toArray⟩):=D.o.cell 17;have ab:wc.cell? ⟨w.heap.size,18,none⟩=some (.string ⟨m.re.t.s.1.toArray⟩):=D.o.cell 18;have Y:wc.cell? ⟨w.heap.size,19,none⟩=some (.string ⟨m.re.t.s.2.toArray⟩):=D.o.cell 19;have Z:wc.cell? ⟨w.heap.size,20,none⟩=some (.int .i64 m.re.t.k):=D.o.cell 20;have aa:wc.cell? ⟨w.heap.size,21,none⟩=some (.slice A3 m.re.t.b.length c3):=D.o.cell 21;have O:wc.cell? ⟨w.heap.size,22,none⟩=some (.slice A4 m.re.b.length c4):=D.o.cell 22;rw[if_neg m1,if_neg m2,if_pos m3] at HF;clear m1 m2 m3;cases g1:prB m.re.c with
       |false=>
        rw[g1] at T1;have E:=I (show mgB m=false by rw[HF.o,g1];rfl);clear g1
        go_wp2_with (go_at_call 56;(with_reducible refine Calls.mono (T1.o _) ?_);rintro e u1 ⟨rfl,F⟩;replace D:=I (D.o.below F);replace M:=M.t F;clear F T1;clear k16 X ab Y Z aa O;have k16:u1.cell? ⟨w.heap.size,16,none⟩=some (.string ⟨m.re.c.1.toArray⟩):=D.o.cell 16;have X:u1.cell? ⟨w.heap.size,17,none⟩=some (.string ⟨m.re.c.2.toArray⟩):=D.o.cell 17;have ab:u1.cell? ⟨w.heap.size,18,none⟩=some (.string ⟨m.re.t.s.1.toArray⟩):=D.o.cell 18;have Y:u1.cell? ⟨w.heap.size,19,none⟩=some (.string ⟨m.re.t.s.2.toArray⟩):=D.o.cell 19;have Z:u1.cell? ⟨w.heap.size,20,none⟩=some (.int .i64 m.re.t.k):=D.o.cell 20;have aa:u1.cell? ⟨w.heap.size,21,none⟩=some (.slice A3 m.re.t.b.length c3):=D.o.cell 21;have O:u1.cell? ⟨w.heap.size,22,none⟩=some (.slice A4 m.re.b.length c4):=D.o.cell 22)
        go_ret;exact⟨by rw[E.o];rfl,M.o⟩
       |true=>
        rw[g1] at T1;cases g2:tkB m.re.t with
        |false=>
         rw[g2] at T2;have E:=I (show mgB m=false by rw[HF.o,g1,g2];rfl);clear g1 g2
         go_wp2_with (first
          |(go_at_call 56;(with_reducible refine Calls.mono (T1.o _) ?_);rintro e u1 ⟨rfl,F⟩;replace D:=I (D.o.below F);replace M:=M.t F;clear F T1;clear k16 X ab Y Z aa O;have k16:u1.cell? ⟨w.heap.size,16,none⟩=some (.string ⟨m.re.c.1.toArray⟩):=D.o.cell 16;have X:u1.cell? ⟨w.heap.size,17,none⟩=some (.string ⟨m.re.c.2.toArray⟩):=D.o.cell 17;have ab:u1.cell? ⟨w.heap.size,18,none⟩=some (.string ⟨m.re.t.s.1.toArray⟩):=D.o.cell 18;have Y:u1.cell? ⟨w.heap.size,19,none⟩=some (.string ⟨m.re.t.s.2.toArray⟩):=D.o.cell 19;have Z:u1.cell? ⟨w.heap.size,20,none⟩=some (.int .i64 m.re.t.k):=D.o.cell 20;have aa:u1.cell? ⟨w.heap.size,21,none⟩=some (.slice A3 m.re.t.b.length c3):=D.o.cell 21;have O:u1.cell? ⟨w.heap.size,22,none⟩=some (.slice A4 m.re.b.length c4):=D.o.cell 22)
          |(go_at_call 126;(with_reducible refine Calls.mono (T2.o _) ?_);rintro e u2 ⟨rfl,F⟩;replace D:=I (D.o.below F);replace M:=M.t F;clear F T2;clear k16 X ab Y Z aa O;have k16:u2.cell? ⟨w.heap.size,16,none⟩=some (.string ⟨m.re.c.1.toArray⟩):=D.o.cell 16;have X:u2.cell? ⟨w.heap.size,17,none⟩=some (.string ⟨m.re.c.2.toArray⟩):=D.o.cell 17;have ab:u2.cell? ⟨w.heap.size,18,none⟩=some (.string ⟨m.re.t.s.1.toArray⟩):=D.o.cell 18;have Y:u2.cell? ⟨w.heap.size,19,none⟩=some (.string ⟨m.re.t.s.2.toArray⟩):=D.o.cell 19;have Z:u2.cell? ⟨w.heap.size,20,none⟩=some (.int .i64 m.re.t.k):=D.o.cell 20;have aa:u2.cell? ⟨w.heap.size,21,none⟩=some (.slice A3 m.re.t.b.length c3):=D.o.cell 21;have O:u2.cell? ⟨w.heap.size,22,none⟩=some (.slice A4 m.re.b.length c4):=D.o.cell 22))
         go_ret;exact⟨by rw[E.o];rfl,M.o⟩
        |true=>
         rw[g2] at T2;cases g3:Bv m.re.b with
         |false=>
          rw[g3] at T3;have E:=I (show mgB m=false by rw[HF.o,g1,g2,g3];rfl);clear g1 g2 g3
          go_wp2_with (first
           |(go_at_call 56;(with_reducible refine Calls.mono (T1.o _) ?_);rintro e u1 ⟨rfl,F⟩;replace D:=I (D.o.below F);replace M:=M.t F;clear F T1;clear k16 X ab Y Z aa O;have k16:u1.cell? ⟨w.heap.size,16,none⟩=some (.string ⟨m.re.c.1.toArray⟩):=D.o.cell 16;have X:u1.cell? ⟨w.heap.size,17,none⟩=some (.string ⟨m.re.c.2.toArray⟩):=D.o.cell 17;have ab:u1.cell? ⟨w.heap.size,18,none⟩=some (.string ⟨m.re.t.s.1.toArray⟩):=D.o.cell 18;have Y:u1.cell? ⟨w.heap.size,19,none⟩=some (.string ⟨m.re.t.s.2.toArray⟩):=D.o.cell 19;have Z:u1.cell? ⟨w.heap.size,20,none⟩=some (.int .i64 m.re.t.k):=D.o.cell 20;have aa:u1.cell? ⟨w.heap.size,21,none⟩=some (.slice A3 m.re.t.b.length c3):=D.o.cell 21;have O:u1.cell? ⟨w.heap.size,22,none⟩=some (.slice A4 m.re.b.length c4):=D.o.cell 22)
           |(go_at_call 126;(with_reducible refine Calls.mono (T2.o _) ?_);rintro e u2 ⟨rfl,F⟩;replace D:=I (D.o.below F);replace M:=M.t F;clear F T2;clear k16 X ab Y Z aa O;have k16:u2.cell? ⟨w.heap.size,16,none⟩=some (.string ⟨m.re.c.1.toArray⟩):=D.o.cell 16;have X:u2.cell? ⟨w.heap.size,17,none⟩=some (.string ⟨m.re.c.2.toArray⟩):=D.o.cell 17;have ab:u2.cell? ⟨w.heap.size,18,none⟩=some (.string ⟨m.re.t.s.1.toArray⟩):=D.o.cell 18;have Y:u2.cell? ⟨w.heap.size,19,none⟩=some (.string ⟨m.re.t.s.2.toArray⟩):=D.o.cell 19;have Z:u2.cell? ⟨w.heap.size,20,none⟩=some (.int .i64 m.re.t.k):=D.o.cell 20;have aa:u2.cell? ⟨w.heap.size,21,none⟩=some (.slice A3 m.re.t.b.length c3):=D.o.cell 21;have O:u2.cell? ⟨w.heap.size,22,none⟩=some (.slice A4 m.re.b.length c4):=D.o.cell 22)
           |(go_at_call 127;(with_reducible refine Calls.mono (T3.o _) ?_);rintro e u3 ⟨rfl,hw⟩;subst hw;clear T3))
          go_ret;exact⟨by rw[E.o];rfl,M.o⟩
         |true=>
          rw[g3] at T3;cases zA with
          |false=>
           have E:=I (show mgB m=false by rw[HF.o,g1,g2,g3];rfl);clear g1 g2 g3
           go_wp2_with (first
            |(go_at_call 56;(with_reducible refine Calls.mono (T1.o _) ?_);rintro e u1 ⟨rfl,F⟩;replace D:=I (D.o.below F);replace M:=M.t F;clear F T1;clear k16 X ab Y Z aa O;have k16:u1.cell? ⟨w.heap.size,16,none⟩=some (.string ⟨m.re.c.1.toArray⟩):=D.o.cell 16;have X:u1.cell? ⟨w.heap.size,17,none⟩=some (.string ⟨m.re.c.2.toArray⟩):=D.o.cell 17;have ab:u1.cell? ⟨w.heap.size,18,none⟩=some (.string ⟨m.re.t.s.1.toArray⟩):=D.o.cell 18;have Y:u1.cell? ⟨w.heap.size,19,none⟩=some (.string ⟨m.re.t.s.2.toArray⟩):=D.o.cell 19;have Z:u1.cell? ⟨w.heap.size,20,none⟩=some (.int .i64 m.re.t.k):=D.o.cell 20;have aa:u1.cell? ⟨w.heap.size,21,none⟩=some (.slice A3 m.re.t.b.length c3):=D.o.cell 21;have O:u1.cell? ⟨w.heap.size,22,none⟩=some (.slice A4 m.re.b.length c4):=D.o.cell 22)
            |(go_at_call 126;(with_reducible refine Calls.mono (T2.o _) ?_);rintro e u2 ⟨rfl,F⟩;replace D:=I (D.o.below F);replace M:=M.t F;clear F T2;clear k16 X ab Y Z aa O;have k16:u2.cell? ⟨w.heap.size,16,none⟩=some (.string ⟨m.re.c.1.toArray⟩):=D.o.cell 16;have X:u2.cell? ⟨w.heap.size,17,none⟩=some (.string ⟨m.re.c.2.toArray⟩):=D.o.cell 17;have ab:u2.cell? ⟨w.heap.size,18,none⟩=some (.string ⟨m.re.t.s.1.toArray⟩):=D.o.cell 18;have Y:u2.cell? ⟨w.heap.size,19,none⟩=some (.string ⟨m.re.t.s.2.toArray⟩):=D.o.cell 19;have Z:u2.cell? ⟨w.heap.size,20,none⟩=some (.int .i64 m.re.t.k):=D.o.cell 20;have aa:u2.cell? ⟨w.heap.size,21,none⟩=some (.slice A3 m.re.t.b.length c3):=D.o.cell 21;have O:u2.cell? ⟨w.heap.size,22,none⟩=some (.slice A4 m.re.b.length c4):=D.o.cell 22)
            |(go_at_call 127;(with_reducible refine Calls.mono (T3.o _) ?_);rintro e u3 ⟨rfl,hw⟩;subst hw;clear T3))
           go_ret;exact⟨by rw[E.o];rfl,M.o⟩
          |true=>
           cases zT with
           |false=>
            have E:=I (show mgB m=false by rw[HF.o,g1,g2,g3];rfl);clear g1 g2 g3
            go_wp2_with (first
             |(go_at_call 56;(with_reducible refine Calls.mono (T1.o _) ?_);rintro e u1 ⟨rfl,F⟩;replace D:=I (D.o.below F);replace M:=M.t F;clear F T1;clear k16 X ab Y Z aa O;have k16:u1.cell? ⟨w.heap.size,16,none⟩=some (.string ⟨m.re.c.1.toArray⟩):=D.o.cell 16;have X:u1.cell? ⟨w.heap.size,17,none⟩=some (.string ⟨m.re.c.2.toArray⟩):=D.o.cell 17;have ab:u1.cell? ⟨w.heap.size,18,none⟩=some (.string ⟨m.re.t.s.1.toArray⟩):=D.o.cell 18;have Y:u1.cell? ⟨w.heap.size,19,none⟩=some (.string ⟨m.re.t.s.2.toArray⟩):=D.o.cell 19;have Z:u1.cell? ⟨w.heap.size,20,none⟩=some (.int .i64 m.re.t.k):=D.o.cell 20;have aa:u1.cell? ⟨w.heap.size,21,none⟩=some (.slice A3 m.re.t.b.length c3):=D.o.cell 21;have O:u1.cell? ⟨w.heap.size,22,none⟩=some (.slice A4 m.re.b.length c4):=D.o.cell 22)
             |(go_at_call 126;(with_reducible refine Calls.mono (T2.o _) ?_);rintro e u2 ⟨rfl,F⟩;replace D:=I (D.o.below F);replace M:=M.t F;clear F T2;clear k16 X ab Y Z aa O;have k16:u2.cell? ⟨w.heap.size,16,none⟩=some (.string ⟨m.re.c.1.toArray⟩):=D.o.cell 16;have X:u2.cell? ⟨w.heap.size,17,none⟩=some (.string ⟨m.re.c.2.toArray⟩):=D.o.cell 17;have ab:u2.cell? ⟨w.heap.size,18,none⟩=some (.string ⟨m.re.t.s.1.toArray⟩):=D.o.cell 18;have Y:u2.cell? ⟨w.heap.size,19,none⟩=some (.string ⟨m.re.t.s.2.toArray⟩):=D.o.cell 19;have Z:u2.cell? ⟨w.heap.size,20,none⟩=some (.int .i64 m.re.t.k):=D.o.cell 20;have aa:u2.cell? ⟨w.heap.size,21,none⟩=some (.slice A3 m.re.t.b.length c3):=D.o.cell 21;have O:u2.cell? ⟨w.heap.size,22,none⟩=some (.slice A4 m.re.b.length c4):=D.o.cell 22)
             |(go_at_call 127;(with_reducible refine Calls.mono (T3.o _) ?_);rintro e u3 ⟨rfl,hw⟩;subst hw;clear T3))
            go_ret;exact⟨by rw[E.o];rfl,M.o⟩
           |true=>
            cases zP with
            |false=>
             have E:=I (show mgB m=false by rw[HF.o,g1,g2,g3];rfl);clear g1 g2 g3
             go_wp2_with (first
              |(go_at_call 56;(with_reducible refine Calls.mono (T1.o _) ?_);rintro e u1 ⟨rfl,F⟩;replace D:=I (D.o.below F);replace M:=M.t F;clear F T1;clear k16 X ab Y Z aa O;have k16:u1.cell? ⟨w.heap.size,16,none⟩=some (.string ⟨m.re.c.1.toArray⟩):=D.o.cell 16;have X:u1.cell? ⟨w.heap.size,17,none⟩=some (.string ⟨m.re.c.2.toArray⟩):=D.o.cell 17;have ab:u1.cell? ⟨w.heap.size,18,none⟩=some (.string ⟨m.re.t.s.1.toArray⟩):=D.o.cell 18;have Y:u1.cell? ⟨w.heap.size,19,none⟩=some (.string ⟨m.re.t.s.2.toArray⟩):=D.o.cell 19;have Z:u1.cell? ⟨w.heap.size,20,none⟩=some (.int .i64 m.re.t.k):=D.o.cell 20;have aa:u1.cell? ⟨w.heap.size,21,none⟩=some (.slice A3 m.re.t.b.length c3):=D.o.cell 21;have O:u1.cell? ⟨w.heap.size,22,none⟩=some (.slice A4 m.re.b.length c4):=D.o.cell 22)
              |(go_at_call 126;(with_reducible refine Calls.mono (T2.o _) ?_);rintro e u2 ⟨rfl,F⟩;replace D:=I (D.o.below F);replace M:=M.t F;clear F T2;clear k16 X ab Y Z aa O;have k16:u2.cell? ⟨w.heap.size,16,none⟩=some (.string ⟨m.re.c.1.toArray⟩):=D.o.cell 16;have X:u2.cell? ⟨w.heap.size,17,none⟩=some (.string ⟨m.re.c.2.toArray⟩):=D.o.cell 17;have ab:u2.cell? ⟨w.heap.size,18,none⟩=some (.string ⟨m.re.t.s.1.toArray⟩):=D.o.cell 18;have Y:u2.cell? ⟨w.heap.size,19,none⟩=some (.string ⟨m.re.t.s.2.toArray⟩):=D.o.cell 19;have Z:u2.cell? ⟨w.heap.size,20,none⟩=some (.int .i64 m.re.t.k):=D.o.cell 20;have aa:u2.cell? ⟨w.heap.size,21,none⟩=some (.slice A3 m.re.t.b.length c3):=D.o.cell 21;have O:u2.cell? ⟨w.heap.size,22,none⟩=some (.slice A4 m.re.b.length c4):=D.o.cell 22)
              |(go_at_call 127;(with_reducible refine Calls.mono (T3.o _) ?_);rintro e u3 ⟨rfl,hw⟩;subst hw;clear T3))
             go_ret;exact⟨by rw[E.o];rfl,M.o⟩
            |true=>
             have E:=I (show mgB m=zF by rw[HF.o,g1,g2,g3];rfl);clear g1 g2 g3
             go_wp2_with (first
              |(go_at_call 56;(with_reducible refine Calls.mono (T1.o _) ?_);rintro e u1 ⟨rfl,F⟩;replace D:=I (D.o.below F);replace M:=M.t F;clear F T1;clear k16 X ab Y Z aa O;have k16:u1.cell? ⟨w.heap.size,16,none⟩=some (.string ⟨m.re.c.1.toArray⟩):=D.o.cell 16;have X:u1.cell? ⟨w.heap.size,17,none⟩=some (.string ⟨m.re.c.2.toArray⟩):=D.o.cell 17;have ab:u1.cell? ⟨w.heap.size,18,none⟩=some (.string ⟨m.re.t.s.1.toArray⟩):=D.o.cell 18;have Y:u1.cell? ⟨w.heap.size,19,none⟩=some (.string ⟨m.re.t.s.2.toArray⟩):=D.o.cell 19;have Z:u1.cell? ⟨w.heap.size,20,none⟩=some (.int .i64 m.re.t.k):=D.o.cell 20;have aa:u1.cell? ⟨w.heap.size,21,none⟩=some (.slice A3 m.re.t.b.length c3):=D.o.cell 21;have O:u1.cell? ⟨w.heap.size,22,none⟩=some (.slice A4 m.re.b.length c4):=D.o.cell 22)
              |(go_at_call 126;(with_reducible refine Calls.mono (T2.o _) ?_);rintro e u2 ⟨rfl,F⟩;replace D:=I (D.o.below F);replace M:=M.t F;clear F T2;clear k16 X ab Y Z aa O;have k16:u2.cell? ⟨w.heap.size,16,none⟩=some (.string ⟨m.re.c.1.toArray⟩):=D.o.cell 16;have X:u2.cell? ⟨w.heap.size,17,none⟩=some (.string ⟨m.re.c.2.toArray⟩):=D.o.cell 17;have ab:u2.cell? ⟨w.heap.size,18,none⟩=some (.string ⟨m.re.t.s.1.toArray⟩):=D.o.cell 18;have Y:u2.cell? ⟨w.heap.size,19,none⟩=some (.string ⟨m.re.t.s.2.toArray⟩):=D.o.cell 19;have Z:u2.cell? ⟨w.heap.size,20,none⟩=some (.int .i64 m.re.t.k):=D.o.cell 20;have aa:u2.cell? ⟨w.heap.size,21,none⟩=some (.slice A3 m.re.t.b.length c3):=D.o.cell 21;have O:u2.cell? ⟨w.heap.size,22,none⟩=some (.slice A4 m.re.b.length c4):=D.o.cell 22)
              |(go_at_call 127;(with_reducible refine Calls.mono (T3.o _) ?_);rintro e u3 ⟨rfl,hw⟩;subst hw;clear T3))
             go_ret;exact⟨by rw[E.o];rfl,M.o⟩
      ·exact(af.o.elim m1 m3).elim
open DerR
theorem MQ (m:Mg) (A1 A2 A3 A4 A5 A6:Option Addr) (c1 c2 c3 c4 c5 c6:Nat) (w:World) (hs:mSm m) (ax:m.k=1\/m.k=3) (hT:m.tg=tg0) (hA:m.ap=ap0) (r1:Rd w w.heap.size A1 (bvs m.tg.t.b)) (r2:Rd w w.heap.size A2 (bvs m.tg.a)) (r3:Rd w w.heap.size A3 (bvs m.re.t.b)) (r4:Rd w w.heap.size A4 (bvs m.re.b)) (r5:Rd w w.heap.size A5 (bvs m.ap.t.b)) (r6:Rd w w.heap.size A6 (bvs m.ap.a)) :
  Calls Tryz.prog 36 #[.agg #[.int .i64 m.k,.string ⟨m.aq.c.1.toArray⟩,.string ⟨m.aq.c.2.toArray⟩,.string ⟨m.aq.s.1.toArray⟩,.string ⟨m.aq.s.2.toArray⟩,.int .i64 m.aq.t,.int .i64 m.aq.no,.string ⟨m.tg.t.s.1.toArray⟩,.string ⟨m.tg.t.s.2.toArray⟩,.int .i64 m.tg.t.k,.slice A1 m.tg.t.b.length c1,.slice A2 m.tg.a.length c2,.string ⟨m.tg.s.1.toArray⟩,.string ⟨m.tg.s.2.toArray⟩,.int .i64 m.tg.u,.int .i64 m.tg.no,.string ⟨m.re.c.1.toArray⟩,.string ⟨m.re.c.2.toArray⟩,.string ⟨m.re.t.s.1.toArray⟩,.string ⟨m.re.t.s.2.toArray⟩,.int .i64 m.re.t.k,.slice A3 m.re.t.b.length c3,.slice A4 m.re.b.length c4,.string ⟨m.ap.t.s.1.toArray⟩,.string ⟨m.ap.t.s.2.toArray⟩,.int .i64 m.ap.t.k,.slice A5 m.ap.t.b.length c5,.slice A6 m.ap.a.length c6,.int .i64 m.fa.e,.int .i64 m.fa.no]] w (EncR w (mgO m)):=by
 have I1:=I (fun X=>VG m A1 A2 A3 A4 A5 A6 c1 c2 c3 c4 c5 c6 X hs ax hT hA);have aB:=I ax;clear ax hT hA;have HI:=I (show(Tryz.prog.info? 63).map (·.size)=some (#[.int .i64 m.k,.string ⟨m.aq.c.1.toArray⟩,.string ⟨m.aq.c.2.toArray⟩,.string ⟨m.aq.s.1.toArray⟩,.string ⟨m.aq.s.2.toArray⟩,.int .i64 m.aq.t,.int .i64 m.aq.no,.string ⟨m.tg.t.s.1.toArray⟩,.string ⟨m.tg.t.s.2.toArray⟩,.int .i64 m.tg.t.k,.slice A1 m.tg.t.b.length c1,.slice A2 m.tg.a.length c2,.string ⟨m.tg.s.1.toArray⟩,.string ⟨m.tg.s.2.toArray⟩,.int .i64 m.tg.u,.int .i64 m.tg.no,.string ⟨m.re.c.1.toArray⟩,.string ⟨m.re.c.2.toArray⟩,.string ⟨m.re.t.s.1.toArray⟩,.string ⟨m.re.t.s.2.toArray⟩,.int .i64 m.re.t.k,.slice A3 m.re.t.b.length c3,.slice A4 m.re.b.length c4,.string ⟨m.ap.t.s.1.toArray⟩,.string ⟨m.ap.t.s.2.toArray⟩,.int .i64 m.ap.t.k,.slice A5 m.ap.t.b.length c5,.slice A6 m.ap.a.length c6,.int .i64 m.fa.e,.int .i64 m.fa.no]:Array Value).size by kernel_rfl);obtain⟨cs,av⟩:∃cs:Array Value,cs=#[.int .i64 m.k,.string ⟨m.aq.c.1.toArray⟩,.string ⟨m.aq.c.2.toArray⟩,.string ⟨m.aq.s.1.toArray⟩,.string ⟨m.aq.s.2.toArray⟩,.int .i64 m.aq.t,.int .i64 m.aq.no,.string ⟨m.tg.t.s.1.toArray⟩,.string ⟨m.tg.t.s.2.toArray⟩,.int .i64 m.tg.t.k,.slice A1 m.tg.t.b.length c1,.slice A2 m.tg.a.length c2,.string ⟨m.tg.s.1.toArray⟩,.string ⟨m.tg.s.2.toArray⟩,.int .i64 m.tg.u,.int .i64 m.tg.no,.string ⟨m.re.c.1.toArray⟩,.string ⟨m.re.c.2.toArray⟩,.string ⟨m.re.t.s.1.toArray⟩,.string ⟨m.re.t.s.2.toArray⟩,.int .i64 m.re.t.k,.slice A3 m.re.t.b.length c3,.slice A4 m.re.b.length c4,.string ⟨m.ap.t.s.1.toArray⟩,.string ⟨m.ap.t.s.2.toArray⟩,.int .i64 m.ap.t.k,.slice A5 m.ap.t.b.length c5,.slice A6 m.ap.a.length c6,.int .i64 m.fa.e,.int .i64 m.fa.no]:=⟨_,rfl⟩;rw[<-av] at I1 HI⊢;have EC:=I av;clear av;have M:=I ((Below.refl w.heap.size w).alloc Ae (.cells cs 63));have D:=I (Blk.new w 63 cs);cases hx:mgB m with
 |false=>
  rw[hx] at I1;have E:=I (show mgO m=none by unfold mgO limO;rw[hx];rfl);rw[E.o];clear hx E hs r1 r2 r3 r4 r5 r6;go_enter Tryz.func36,Tryz.ntmps36
  go_wp2_with (first
   |(refine Ac (by rfl) 63 (.tmp 1) (by rfl) w.heap.size 0 (by rfl) cs _ (Ab (Blk.new w 63 cs)) Tryz.underlying63 (by rfl) HI.o ?_)
   |(go_at_call 71;refine Ag (I1.o _) ?_;rintro X F;replace M:=M.t F;clear F I1)
   |fail)
  go_ret2
  exact Gn M.o
 |true=>
  rw[hx] at I1;rcases Ge hx with⟨h1,e⟩ | ⟨h1,e⟩ | ⟨h1,e⟩ | ⟨h1,e⟩ | ⟨h1,e⟩
  ·have h':prB m.aq.c=true/\prB m.aq.s=true/\tmB m.aq.t=true/\tmB m.aq.no=true:=by simpa [asB] using h1
   have b1:=Gd h'.1;have b2:=Gd h'.2.1;have b3:=(AP h'.1).1;have b4:=(AP h'.2.1).1;have b5:=AB m.aq.t;have b6:=AB m.aq.no;have hk:m.k=1:=by rw[e]
   have y1:(m.k==1)=true:=by rw[hk];rfl
   have y2:(m.k==2)=false:=by rw[hk];rfl
   have y3:(m.k==3)=false:=by rw[hk];rfl
   have y4:(m.k==4)=false:=by rw[hk];rfl
   have y5:(m.k==5)=false:=by rw[hk];rfl
   have ab:mgE m=elem 106 [prE m.aq.c,prE m.aq.s,encI m.aq.t,encI m.aq.no].flatten:=by rw[e];rfl
   have hO:∀l,mgE m=l->l.length<=2000->mgO m=some l:=fun l e2 h2=>BA.2 ⟨hx,by rw[e2];exact h2,e2⟩
   have hN:∀l,mgE m=l->¬l.length<=2000->mgO m=none:=fun l e2 h2=>by unfold mgO limO;rw[e2,if_neg (fun h=>h2 h.2)]
   have HO:=I (hO _ ab);have HN:=I (hN _ ab);have T1:=I (fun X=>DO m.aq.c X (by omega) (by omega));have T2:=I (fun X=>DO m.aq.s X (by omega) (by omega));have T3:=I (fun X=>DerR.BB m.aq.t X);have T4:=I (fun X=>DerR.BB m.aq.no X);have hl:[prE m.aq.c,prE m.aq.s,encI m.aq.t,encI m.aq.no].flatten.length<=60000:=by rw[IC];simp only[List.length_append];omega
   have Y:[prE m.aq.c,prE m.aq.s,encI m.aq.t,encI m.aq.no].flatten.length<=1990:=by rw[IC];simp only[List.length_append];omega
   have HL:=I (show [prE m.aq.c,prE m.aq.s,encI m.aq.t,encI m.aq.no].flatten.length<=65535 by omega);have hE:=Ax 106 [prE m.aq.c,prE m.aq.s,encI m.aq.t,encI m.aq.no].flatten;rw[IC] at hE hl HO HN Y;obtain⟨l1,ag⟩:∃l,l=prE m.aq.c:=⟨_,rfl⟩;obtain⟨l2,aj⟩:∃l,l=prE m.aq.s:=⟨_,rfl⟩;obtain⟨l3,ak⟩:∃l,l=encI m.aq.t:=⟨_,rfl⟩;obtain⟨l4,aC⟩:∃l,l=encI m.aq.no:=⟨_,rfl⟩;rw[<-ag] at T1 HL hE hl HO HN Y;rw[<-aj] at T2 HL hE hl HO HN Y;rw[<-ak] at T3 HL hE hl HO HN Y;rw[<-aC] at T4 HL hE hl HO HN Y;have aa:(elem 106 (l1++(l2++(l3++l4)))).length<=2000:=by omega
   have LM:=I (fun A c X=>Iw (elem 106 (l1++(l2++(l3++l4)))) A _ c X rfl aa);rw[HO.o aa];clear h1 e h' hx ab hO hN hk hs r1 r2 r3 r4 r5 r6 hE hl Y b1 b2 b3 b4 b5 b6 ag aj ak aC HO HN aa;go_enter Tryz.func36,Tryz.ntmps36
   go_wp2_with (first
    |(refine Ac (by rfl) 63 (.tmp 1) (by rfl) w.heap.size 0 (by rfl) cs _ (Ab (Blk.new w 63 cs)) Tryz.underlying63 (by rfl) HI.o ?_)
    |(go_at_call 71;refine Ag (I1.o _) ?_;rintro w0 F;replace D:=I (D.o.below F);replace M:=M.t F;clear F I1;replace D:=I (EC.o▸D.o);have k0:w0.cell? ⟨w.heap.size,0,none⟩=some (.int .i64 m.k):=D.o.cell 0;have k1:w0.cell? ⟨w.heap.size,1,none⟩=some (.string ⟨m.aq.c.1.toArray⟩):=D.o.cell 1;have k2:w0.cell? ⟨w.heap.size,2,none⟩=some (.string ⟨m.aq.c.2.toArray⟩):=D.o.cell 2;have k3:w0.cell? ⟨w.heap.size,3,none⟩=some (.string ⟨m.aq.s.1.toArray⟩):=D.o.cell 3;have k4:w0.cell? ⟨w.heap.size,4,none⟩=some (.string ⟨m.aq.s.2.toArray⟩):=D.o.cell 4;have k5:w0.cell? ⟨w.heap.size,5,none⟩=some (.int .i64 m.aq.t):=D.o.cell 5;have k6:w0.cell? ⟨w.heap.size,6,none⟩=some (.int .i64 m.aq.no):=D.o.cell 6)
    |fail)
   clear k0 k1 k2 k3 k4 k5 k6;replace M:=I (M.o.alloc M.o.size (.cells #[.string ⟨m.aq.c.1.toArray⟩,.string ⟨m.aq.c.2.toArray⟩,.string ⟨m.aq.s.1.toArray⟩,.string ⟨m.aq.s.2.toArray⟩,.int .i64 m.aq.t,.int .i64 m.aq.no] 51));replace D:=I (Blk.new w0 51 #[.string ⟨m.aq.c.1.toArray⟩,.string ⟨m.aq.c.2.toArray⟩,.string ⟨m.aq.s.1.toArray⟩,.string ⟨m.aq.s.2.toArray⟩,.int .i64 m.aq.t,.int .i64 m.aq.no]);obtain⟨W,eW⟩:=Ah (w0.alloc (.cells #[.string ⟨m.aq.c.1.toArray⟩,.string ⟨m.aq.c.2.toArray⟩,.string ⟨m.aq.s.1.toArray⟩,.string ⟨m.aq.s.2.toArray⟩,.int .i64 m.aq.t,.int .i64 m.aq.no] 51));rw[<-eW] at M D⊢;clear eW;replace D:=I (show Blk W.drew _ _ _ from D.o.drewN 1);replace M:=I (show Below _ _ W.drew from below_drewN M.o 1)
   go_region_held3 (fun w'=>w'.cell? ⟨w0.heap.size,0,none⟩=some (.string ⟨m.aq.c.1.toArray⟩)/\w'.cell? ⟨w0.heap.size,1,none⟩=some (.string ⟨m.aq.c.2.toArray⟩)/\w'.cell? ⟨w0.heap.size,2,none⟩=some (.string ⟨m.aq.s.1.toArray⟩)/\w'.cell? ⟨w0.heap.size,3,none⟩=some (.string ⟨m.aq.s.2.toArray⟩)/\w'.cell? ⟨w0.heap.size,4,none⟩=some (.int .i64 m.aq.t)/\w'.cell? ⟨w0.heap.size,5,none⟩=some (.int .i64 m.aq.no)) (first | exact⟨D.o.cell 0,D.o.cell 1,D.o.cell 2,D.o.cell 3,D.o.cell 4,D.o.cell 5⟩ | exact⟨(D.o.alloc _).cell 0,(D.o.alloc _).cell 1,(D.o.alloc _).cell 2,(D.o.alloc _).cell 3,(D.o.alloc _).cell 4,(D.o.alloc _).cell 5⟩) ((first
    |(go_at_call 74;(with_reducible refine Calls.mono (T1.o _) ?_);rintro e X ⟨⟨g1,c1,rfl,ar,az,af⟩,F⟩;clear T1;have O:=I af;replace D:=I (D.o.below F);replace M:=M.t F;clear F af ar az)
    |(go_at_call 74;(with_reducible refine Calls.mono (T2.o _) ?_);rintro e w2 ⟨⟨g2,c2,rfl,ay,aw,ao⟩,F⟩;clear T2;replace O:=I (AW O.o F);have Z:=I ao;replace D:=I (D.o.below F);replace M:=M.t F;clear F ao ay aw)
    |(go_at_call 75;(with_reducible refine Calls.mono (T3.o _) ?_);rintro e w3 ⟨⟨g3,c3,rfl,aA,au,an⟩,F⟩;clear T3;replace O:=I (AW O.o F);replace Z:=I (AW Z.o F);have al:=I an;replace D:=I (D.o.below F);replace M:=M.t F;clear F an aA au)
    |(go_at_call 75;(with_reducible refine Calls.mono (T4.o _) ?_);rintro e w4 ⟨⟨g4,c4,rfl,aF,aG,aD⟩,F⟩;clear T4;replace O:=I (AW O.o F);replace Z:=I (AW Z.o F);replace al:=I (AW al.o F);have aE:=I aD;replace D:=I (D.o.below F);replace M:=M.t F;clear F aD aF aG)
    |(go_at_call 73;refine Calls.mono (CY 106 [l1,l2,l3,l4] _ 4 4 (w4.heap.size+1) _ (MP O.o Z.o al.o aE.o) rfl (by simp) HL.o (by simp)) ?_;rintro e wz ⟨⟨gz,cz,rfl,ai,ae,ah⟩,F⟩;have ad:=(Below.refl w4.heap.size w4).alloc Ae (.cells #[.slice (some ⟨g1,0,none⟩) l1.length c1,.slice (some ⟨g2,0,none⟩) l2.length c2,.slice (some ⟨g3,0,none⟩) l3.length c3,.slice (some ⟨g4,0,none⟩) l4.length c4] 25);have HG:=I (Ba (l:=elem 106 [l1,l2,l3,l4].flatten) ⟨⟨gz,cz,rfl,ai,ae,ah⟩,F⟩ (M.o.trans (ad.mono M.o.size)));rw[IC] at HG;replace D:=I ((D.o.alloc (.cells #[.slice (some ⟨g1,0,none⟩) l1.length c1,.slice (some ⟨g2,0,none⟩) l2.length c2,.slice (some ⟨g3,0,none⟩) l3.length c3,.slice (some ⟨g4,0,none⟩) l4.length c4] 25)).below F);clear ad ai ae ah F)
    |(go_at_call 72;refine Ag (LM.o _ _ _) ?_;rintro wy rfl)))
   go_wp2
   go_ret2
   exact Ft HG.o
  ·have hk:m.k=2:=by rw[e]
   exact absurd aB.o (by rw[hk];decide)
  ·have h':prB m.re.c=true/\tkB m.re.t=true/\Bv m.re.b=true:=by simpa [reB] using h1
   have b1:=Fj h'.2.1;have b2:=Gd b1.1;have b3:=(BU h'.2.1).1;have b4:=Bc h'.2.2;have b5:=Ax 4 m.re.b;have b6:=Gd h'.1;have b7:=(AP h'.1).1;have hk:m.k=3:=by rw[e]
   have y1:(m.k==1)=false:=by rw[hk];rfl
   have y2:(m.k==2)=false:=by rw[hk];rfl
   have y3:(m.k==3)=true:=by rw[hk];rfl
   have y4:(m.k==4)=false:=by rw[hk];rfl
   have y5:(m.k==5)=false:=by rw[hk];rfl
   have ab:mgE m=elem 107 [prE m.re.c,tkE m.re.t,elem 4 m.re.b].flatten:=by rw[e];rfl
   have hO:∀l,mgE m=l->l.length<=2000->mgO m=some l:=fun l e2 h2=>BA.2 ⟨hx,by rw[e2];exact h2,e2⟩
   have hN:∀l,mgE m=l->¬l.length<=2000->mgO m=none:=fun l e2 h2=>by unfold mgO limO;rw[e2,if_neg (fun h=>h2 h.2)]
   have HO:=I (hO _ ab);have HN:=I (hN _ ab);have T1:=I (fun X=>DO m.re.c X (by omega) (by omega));have T2:=I (fun X (h:Below w.heap.size w X)=>Qu m.re.t A3 c3 X.heap.size X (by omega) (by omega) (by omega) ((r3.below h).more h.size) Ae);have T3:=I (fun X (h:Below w.heap.size w X)=>DerR.CU m.re.b A4 m.re.b.length c4 X.heap.size X ((r4.below h).more h.size) rfl Ae (by omega));have hl:[prE m.re.c,tkE m.re.t,elem 4 m.re.b].flatten.length<=60000:=by rw[Dz];simp only[List.length_append];omega
   have Y:[prE m.re.c,tkE m.re.t,elem 4 m.re.b].flatten.length<=1990:=by rw[Dz];simp only[List.length_append];omega
   have HL:=I (show [prE m.re.c,tkE m.re.t,elem 4 m.re.b].flatten.length<=65535 by omega);have hE:=Ax 107 [prE m.re.c,tkE m.re.t,elem 4 m.re.b].flatten;rw[Dz] at hE hl HO HN Y;obtain⟨l1,ag⟩:∃l,l=prE m.re.c:=⟨_,rfl⟩;obtain⟨l2,aj⟩:∃l,l=tkE m.re.t:=⟨_,rfl⟩;obtain⟨l3,ak⟩:∃l,l=elem 4 m.re.b:=⟨_,rfl⟩;rw[<-ag] at T1 HL hE hl HO HN Y;rw[<-aj] at T2 HL hE hl HO HN Y;rw[<-ak] at T3 HL hE hl HO HN Y;have aa:(elem 107 (l1++(l2++l3))).length<=2000:=by omega
   have LM:=I (fun A c X=>Iw (elem 107 (l1++(l2++l3))) A _ c X rfl aa);rw[HO.o aa];clear h1 e h' hx ab hO hN hk hs r1 r2 r3 r4 r5 r6 hE hl Y b1 b2 b3 b4 b5 b6 b7 ag aj ak HO HN aa;go_enter Tryz.func36,Tryz.ntmps36
   go_wp2_with (first
    |(refine Ac (by rfl) 63 (.tmp 1) (by rfl) w.heap.size 0 (by rfl) cs _ (Ab (Blk.new w 63 cs)) Tryz.underlying63 (by rfl) HI.o ?_)
    |(go_at_call 71;refine Ag (I1.o _) ?_;rintro w0 F;replace D:=I (D.o.below F);replace M:=M.t F;clear F I1;replace D:=I (EC.o▸D.o);have k0:w0.cell? ⟨w.heap.size,0,none⟩=some (.int .i64 m.k):=D.o.cell 0)
    |fail)
   clear k0;replace D:=I (show Blk w0.drew _ _ _ from D.o.drewN 1);replace M:=I (show Below _ _ w0.drew from below_drewN M.o 1)
   go_region_held3 (fun w'=>w'.cell? ⟨w.heap.size,16,none⟩=some (.string ⟨m.re.c.1.toArray⟩)/\w'.cell? ⟨w.heap.size,17,none⟩=some (.string ⟨m.re.c.2.toArray⟩)/\w'.cell? ⟨w.heap.size,18,none⟩=some (.string ⟨m.re.t.s.1.toArray⟩)/\w'.cell? ⟨w.heap.size,19,none⟩=some (.string ⟨m.re.t.s.2.toArray⟩)/\w'.cell? ⟨w.heap.size,20,none⟩=some (.int .i64 m.re.t.k)/\w'.cell? ⟨w.heap.size,21,none⟩=some (.slice A3 m.re.t.b.length c3)/\w'.cell? ⟨w.heap.size,22,none⟩=some (.slice A4 m.re.b.length c4)) (first | exact⟨D.o.cell 16,D.o.cell 17,D.o.cell 18,D.o.cell 19,D.o.cell 20,D.o.cell 21,D.o.cell 22⟩ | exact⟨(D.o.alloc _).cell 16,(D.o.alloc _).cell 17,(D.o.alloc _).cell 18,(D.o.alloc _).cell 19,(D.o.alloc _).cell 20,(D.o.alloc _).cell 21,(D.o.alloc _).cell 22⟩) ((first
    |(go_at_call 74;(with_reducible refine Calls.mono (T1.o _) ?_);rintro e X ⟨⟨g1,c1,rfl,ar,az,af⟩,F⟩;clear T1;have O:=I af;replace D:=I (D.o.below F);replace M:=M.t F;clear F af ar az)
    |(go_at_call 76;(with_reducible refine Calls.mono (T2.o _ M.o) ?_);rintro e w2 ⟨⟨g2,c2,rfl,ay,aw,ao⟩,F⟩;clear T2;replace O:=I (AW O.o F);have Z:=I ao;replace D:=I (D.o.below F);replace M:=M.t F;clear F ao ay aw)
    |(go_at_call 77;(with_reducible refine Calls.mono (T3.o _ M.o) ?_);rintro e w3 ⟨⟨g3,c3,rfl,aA,au,an⟩,F⟩;clear T3;replace O:=I (AW O.o F);replace Z:=I (AW Z.o F);have al:=I an;replace D:=I (D.o.below F);replace M:=M.t F;clear F an aA au)
    |(go_at_call 73;refine Calls.mono (CY 107 [l1,l2,l3] _ 3 3 (w3.heap.size+1) _ (EW O.o Z.o al.o) rfl (by simp) HL.o (by simp)) ?_;rintro e wz ⟨⟨gz,cz,rfl,ai,ae,ah⟩,F⟩;have ad:=(Below.refl w3.heap.size w3).alloc Ae (.cells #[.slice (some ⟨g1,0,none⟩) l1.length c1,.slice (some ⟨g2,0,none⟩) l2.length c2,.slice (some ⟨g3,0,none⟩) l3.length c3] 25);have HG:=I (Ba (l:=elem 107 [l1,l2,l3].flatten) ⟨⟨gz,cz,rfl,ai,ae,ah⟩,F⟩ (M.o.trans (ad.mono M.o.size)));rw[Dz] at HG;replace D:=I ((D.o.alloc (.cells #[.slice (some ⟨g1,0,none⟩) l1.length c1,.slice (some ⟨g2,0,none⟩) l2.length c2,.slice (some ⟨g3,0,none⟩) l3.length c3] 25)).below F);clear ad ai ae ah F)
    |(go_at_call 72;refine Ag (LM.o _ _ _) ?_;rintro wy rfl)))
   go_wp2
   go_ret2
   exact Ft HG.o
  ·have hk:m.k=4:=by rw[e]
   exact absurd aB.o (by rw[hk];decide)
  ·have hk:m.k=5:=by rw[e]
   exact absurd aB.o (by rw[hk];decide)
end Ms
end Go.Proofs.YtcpccikongbopaaGreat
