import Derived.Test.YtlccngianpfalaaGreatZClientLoops13
set_option maxHeartbeats 25600000
set_option maxRecDepth 100000
set_option linter.unusedVariables false
set_option linter.unusedSimpArgs false
namespace Go.Proofs.YtlccngianpfalaaGreat
namespace Ms
open Go.RowKit Ae DerP
theorem Tq (m:Mg) (A1 A2 A3 A4 A5 A6:Option Addr) (c1 c2 c3 c4 c5 c6:Nat) (w:World) (hs:mSm m) :
  Calls Tryz.prog 61 #[.agg #[.int .i64 m.k,.string ⟨m.aq.c.1.toArray⟩,.string ⟨m.aq.c.2.toArray⟩,.string ⟨m.aq.s.1.toArray⟩,.string ⟨m.aq.s.2.toArray⟩,.int .i64 m.aq.t,.int .i64 m.aq.no,.string ⟨m.tg.t.s.1.toArray⟩,.string ⟨m.tg.t.s.2.toArray⟩,.int .i64 m.tg.t.k,.slice A1 m.tg.t.b.length c1,.slice A2 m.tg.a.length c2,.string ⟨m.tg.s.1.toArray⟩,.string ⟨m.tg.s.2.toArray⟩,.int .i64 m.tg.u,.int .i64 m.tg.no,.string ⟨m.re.c.1.toArray⟩,.string ⟨m.re.c.2.toArray⟩,.string ⟨m.re.t.s.1.toArray⟩,.string ⟨m.re.t.s.2.toArray⟩,.int .i64 m.re.t.k,.slice A3 m.re.t.b.length c3,.slice A4 m.re.b.length c4,.string ⟨m.ap.t.s.1.toArray⟩,.string ⟨m.ap.t.s.2.toArray⟩,.int .i64 m.ap.t.k,.slice A5 m.ap.t.b.length c5,.slice A6 m.ap.a.length c6,.int .i64 m.fa.e,.int .i64 m.fa.no]] w fun e w'=>e=.returned (.bool (mgB m))/\Below w.heap.size w w':=by
 have X:=I ((Below.refl w.heap.size w).alloc Af (.cells #[.int .i64 m.k,.string ⟨m.aq.c.1.toArray⟩,.string ⟨m.aq.c.2.toArray⟩,.string ⟨m.aq.s.1.toArray⟩,.string ⟨m.aq.s.2.toArray⟩,.int .i64 m.aq.t,.int .i64 m.aq.no,.string ⟨m.tg.t.s.1.toArray⟩,.string ⟨m.tg.t.s.2.toArray⟩,.int .i64 m.tg.t.k,.slice A1 m.tg.t.b.length c1,.slice A2 m.tg.a.length c2,.string ⟨m.tg.s.1.toArray⟩,.string ⟨m.tg.s.2.toArray⟩,.int .i64 m.tg.u,.int .i64 m.tg.no,.string ⟨m.re.c.1.toArray⟩,.string ⟨m.re.c.2.toArray⟩,.string ⟨m.re.t.s.1.toArray⟩,.string ⟨m.re.t.s.2.toArray⟩,.int .i64 m.re.t.k,.slice A3 m.re.t.b.length c3,.slice A4 m.re.b.length c4,.string ⟨m.ap.t.s.1.toArray⟩,.string ⟨m.ap.t.s.2.toArray⟩,.int .i64 m.ap.t.k,.slice A5 m.ap.t.b.length c5,.slice A6 m.ap.a.length c6,.int .i64 m.fa.e,.int .i64 m.fa.no] 61));have M:=I (Blk.new w 61 #[.int .i64 m.k,.string ⟨m.aq.c.1.toArray⟩,.string ⟨m.aq.c.2.toArray⟩,.string ⟨m.aq.s.1.toArray⟩,.string ⟨m.aq.s.2.toArray⟩,.int .i64 m.aq.t,.int .i64 m.aq.no,.string ⟨m.tg.t.s.1.toArray⟩,.string ⟨m.tg.t.s.2.toArray⟩,.int .i64 m.tg.t.k,.slice A1 m.tg.t.b.length c1,.slice A2 m.tg.a.length c2,.string ⟨m.tg.s.1.toArray⟩,.string ⟨m.tg.s.2.toArray⟩,.int .i64 m.tg.u,.int .i64 m.tg.no,.string ⟨m.re.c.1.toArray⟩,.string ⟨m.re.c.2.toArray⟩,.string ⟨m.re.t.s.1.toArray⟩,.string ⟨m.re.t.s.2.toArray⟩,.int .i64 m.re.t.k,.slice A3 m.re.t.b.length c3,.slice A4 m.re.b.length c4,.string ⟨m.ap.t.s.1.toArray⟩,.string ⟨m.ap.t.s.2.toArray⟩,.int .i64 m.ap.t.k,.slice A5 m.ap.t.b.length c5,.slice A6 m.ap.a.length c6,.int .i64 m.fa.e,.int .i64 m.fa.no]);have N1:=I (fun w1=>IT m.tg.t A1 c1 w1);have N2:=I (fun w1=>IT m.re.t A3 c3 w1);have N3:=I (fun w1=>IT m.ap.t A5 c5 w1);have HZ:=I hs;clear hs;go_enter Tryz.func61,Tryz.ntmps61
 go_upto_region 2 with fail
 obtain⟨W,eW⟩:=Aj (w.alloc (.cells #[.int .i64 m.k,.string ⟨m.aq.c.1.toArray⟩,.string ⟨m.aq.c.2.toArray⟩,.string ⟨m.aq.s.1.toArray⟩,.string ⟨m.aq.s.2.toArray⟩,.int .i64 m.aq.t,.int .i64 m.aq.no,.string ⟨m.tg.t.s.1.toArray⟩,.string ⟨m.tg.t.s.2.toArray⟩,.int .i64 m.tg.t.k,.slice A1 m.tg.t.b.length c1,.slice A2 m.tg.a.length c2,.string ⟨m.tg.s.1.toArray⟩,.string ⟨m.tg.s.2.toArray⟩,.int .i64 m.tg.u,.int .i64 m.tg.no,.string ⟨m.re.c.1.toArray⟩,.string ⟨m.re.c.2.toArray⟩,.string ⟨m.re.t.s.1.toArray⟩,.string ⟨m.re.t.s.2.toArray⟩,.int .i64 m.re.t.k,.slice A3 m.re.t.b.length c3,.slice A4 m.re.b.length c4,.string ⟨m.ap.t.s.1.toArray⟩,.string ⟨m.ap.t.s.2.toArray⟩,.int .i64 m.ap.t.k,.slice A5 m.ap.t.b.length c5,.slice A6 m.ap.a.length c6,.int .i64 m.fa.e,.int .i64 m.fa.no] 61));rw[<-eW] at X M⊢;clear eW
 go_cut [4,5] from 11 to 44 (fun av tv wx=>av=.bool (decide (m.aq=as0))/\tv=.bool (decide (m.tg=tg0))/\Below w.heap.size w wx/\Blk wx w.heap.size 61 #[.int .i64 m.k,.string ⟨m.aq.c.1.toArray⟩,.string ⟨m.aq.c.2.toArray⟩,.string ⟨m.aq.s.1.toArray⟩,.string ⟨m.aq.s.2.toArray⟩,.int .i64 m.aq.t,.int .i64 m.aq.no,.string ⟨m.tg.t.s.1.toArray⟩,.string ⟨m.tg.t.s.2.toArray⟩,.int .i64 m.tg.t.k,.slice A1 m.tg.t.b.length c1,.slice A2 m.tg.a.length c2,.string ⟨m.tg.s.1.toArray⟩,.string ⟨m.tg.s.2.toArray⟩,.int .i64 m.tg.u,.int .i64 m.tg.no,.string ⟨m.re.c.1.toArray⟩,.string ⟨m.re.c.2.toArray⟩,.string ⟨m.re.t.s.1.toArray⟩,.string ⟨m.re.t.s.2.toArray⟩,.int .i64 m.re.t.k,.slice A3 m.re.t.b.length c3,.slice A4 m.re.b.length c4,.string ⟨m.ap.t.s.1.toArray⟩,.string ⟨m.ap.t.s.2.toArray⟩,.int .i64 m.ap.t.k,.slice A5 m.ap.t.b.length c5,.slice A6 m.ap.a.length c6,.int .i64 m.fa.e,.int .i64 m.fa.no])
 case first=>
  have TF:=I (Wa m.tg);replace M:=I (show Blk W.drew _ _ _ from M.o.drewN 1);replace X:=I (show Below _ _ W.drew from below_drewN X.o 1);obtain⟨b1,q1⟩:∃b,b=decide (m.tg.t=tk0):=⟨_,rfl⟩;rw[<-q1] at N1;have Q1:=I q1;clear q1;refine Reg.BU 36 rfl (by kernel_rfl) ?_;refine Reg.tz 0 rfl ?_;refine Reg.tx 1 rfl (fun w' hS=>by have hk:=M.o.below hS;have k1:=hk.c1;have k2:=hk.c2;have k3:=hk.c3;have k4:=hk.c4;have k5:=hk.c5;have k6:=hk.c6;go_simp;rfl) ?_;refine Reg.tz 2 rfl ?_;refine Reg.tx 3 (v:=.bool (decide (m.aq=as0))) rfl (fun w' hS=>by go_simp;exact XO m.aq (fun b=>Result.ok (Next.value (.bool b)) w')) ?_;refine Reg.tz 4 rfl ?_;refine Reg.tz 5 rfl ?_;refine Reg.tx 6 rfl (fun w' hS=>by have hk:=M.o.below hS;have k7:=hk.c7;have k8:=hk.c8;have k9:=hk.c9;have ax:=hk.c10;go_simp;rfl) ?_;refine Reg.Dn 7 rfl (by kernel_rfl) (by rfl) 111 #[.agg #[.string ⟨m.tg.t.s.1.toArray⟩,.string ⟨m.tg.t.s.2.toArray⟩,.int .i64 m.tg.t.k,.slice A1 m.tg.t.b.length c1]] (by go_simp) ?_;refine Ah (N1.o _) ?_;rintro wn O;refine⟨_,rfl,O,?_⟩;replace M:=I (M.o.below O);replace X:=X.t O;clear O;simp only[Act.put,J,U,Aa];refine Reg.tz 8 rfl ?_;cases b1 with
  |false=>
   have E:=I (show decide (m.tg=tg0)=false by rw[TF.o,<-Q1.o];rfl);refine Reg.sk 9 rfl ?_;refine Reg.sk 10 rfl ?_;refine Reg.sk 11 rfl ?_;refine Reg.sk 12 rfl ?_;refine Reg.sk 13 rfl ?_;refine Reg.tz 14 rfl ?_;refine Reg.tz 15 rfl ?_;refine Reg.sk 16 rfl ?_;refine Reg.sk 17 rfl ?_;refine Reg.sk 18 rfl ?_;refine Reg.sk 19 rfl ?_;refine Reg.sk 20 rfl ?_;refine Reg.tz 21 rfl ?_;refine Reg.tz 22 rfl ?_;refine Reg.sk 23 rfl ?_;refine Reg.sk 24 rfl ?_;refine Reg.sk 25 rfl ?_;refine Reg.sk 26 rfl ?_;refine Reg.tz 27 rfl ?_;refine Reg.tz 28 rfl ?_;refine Reg.sk 29 rfl ?_;refine Reg.sk 30 rfl ?_;refine Reg.sk 31 rfl ?_;refine Reg.sk 32 rfl ?_;refine Reg.tz 33 rfl ?_;refine Reg.tz 34 rfl ?_;refine Reg.tz 35 rfl ?_;refine wpAnyH_done (by kernel_rfl) ?_ _
   go_wp2_with fail
   go_meet
   exact⟨rfl,by rw[E.o],X.o,M.o⟩
  |true=>
   cases q2:decide (m.tg.a = []) with
   |false=>
    have t2:((m.tg.a.length:Int)==0)=false:=by simpa using q2
    have E:=I (show decide (m.tg=tg0)=false by rw[TF.o,<-Q1.o,q2];rfl);clear q2;refine Reg.tz 9 rfl ?_;refine Reg.tz 10 rfl ?_;refine Reg.tx 11 rfl (fun w' hS=>by have hk:=M.o.below hS;have au:=hk.c11;go_simp;rfl) ?_;refine Reg.tz 12 rfl ?_;refine Reg.tz 13 rfl ?_;refine Reg.tz 14 rfl ?_;refine Reg.tz 15 rfl ?_;refine Reg.sk 16 rfl ?_;refine Reg.sk 17 rfl ?_;refine Reg.sk 18 rfl ?_;refine Reg.sk 19 rfl ?_;refine Reg.sk 20 rfl ?_;refine Reg.tz 21 rfl ?_;refine Reg.tz 22 rfl ?_;refine Reg.sk 23 rfl ?_;refine Reg.sk 24 rfl ?_;refine Reg.sk 25 rfl ?_;refine Reg.sk 26 rfl ?_;refine Reg.tz 27 rfl ?_;refine Reg.tz 28 rfl ?_;refine Reg.sk 29 rfl ?_;refine Reg.sk 30 rfl ?_;refine Reg.sk 31 rfl ?_;refine Reg.sk 32 rfl ?_;refine Reg.tz 33 rfl ?_;refine Reg.tz 34 rfl ?_;refine Reg.tz 35 rfl ?_;refine wpAnyH_done (by kernel_rfl) ?_ _
    go_wp2_with fail
    go_meet
    exact⟨rfl,by rw[E.o],X.o,M.o⟩
   |true=>
    have t2:((m.tg.a.length:Int)==0)=true:=by simpa using q2
    have Q2:=I q2;clear q2;refine Reg.tz 9 rfl ?_;refine Reg.tz 10 rfl ?_;refine Reg.tx 11 rfl (fun w' hS=>by have hk:=M.o.below hS;have au:=hk.c11;go_simp;rfl) ?_;refine Reg.tz 12 rfl ?_;refine Reg.tz 13 rfl ?_;refine Reg.tz 14 rfl ?_;refine Reg.tz 15 rfl ?_;cases q3:decide (m.tg.s=pr0) with
    |false=>
     have SQ:=I q3;have E:=I (show decide (m.tg=tg0)=false by rw[TF.o,<-Q1.o,Q2.o,q3];rfl);clear q3;refine Reg.tz 16 rfl ?_;refine Reg.tz 17 rfl ?_;refine Reg.tx 18 rfl (fun w' hS=>by have hk:=M.o.below hS;have an:=hk.c12;have ar:=hk.c13;go_simp;rfl) ?_;refine Reg.tz 19 rfl ?_;refine Reg.tx 20 (v:=.bool false) rfl (fun w' hS=>by go_simp;exact fun h1 h2=>by have h3:=SQ.o;rw[show m.tg.s=pr0 from Prod.ext h1 h2] at h3;cases h3) ?_;refine Reg.tz 21 rfl ?_;refine Reg.tz 22 rfl ?_;refine Reg.sk 23 rfl ?_;refine Reg.sk 24 rfl ?_;refine Reg.sk 25 rfl ?_;refine Reg.sk 26 rfl ?_;refine Reg.tz 27 rfl ?_;refine Reg.tz 28 rfl ?_;refine Reg.sk 29 rfl ?_;refine Reg.sk 30 rfl ?_;refine Reg.sk 31 rfl ?_;refine Reg.sk 32 rfl ?_;refine Reg.tz 33 rfl ?_;refine Reg.tz 34 rfl ?_;refine Reg.tz 35 rfl ?_;refine wpAnyH_done (by kernel_rfl) ?_ _
     go_wp2_with fail
     go_meet
     exact⟨rfl,by rw[E.o],X.o,M.o⟩
    |true=>
     have SQ:=I q3;clear q3;refine Reg.tz 16 rfl ?_;refine Reg.tz 17 rfl ?_;refine Reg.tx 18 rfl (fun w' hS=>by have hk:=M.o.below hS;have an:=hk.c12;have ar:=hk.c13;go_simp;rfl) ?_;refine Reg.tz 19 rfl ?_;refine Reg.tx 20 (v:=.bool true) rfl (fun w' hS=>by go_simp;exact(XP m.tg.s (fun b=>Result.ok (Next.value (.bool b)) w')).trans (by rw[SQ.o])) ?_;refine Reg.tz 21 rfl ?_;refine Reg.tz 22 rfl ?_;cases q4:decide (m.tg.u=0) with
     |false=>
      have t4:(m.tg.u==0)=false:=by simpa using q4
      have E:=I (show decide (m.tg=tg0)=false by rw[TF.o,<-Q1.o,Q2.o,SQ.o,q4];rfl);clear q4;refine Reg.tz 23 rfl ?_;refine Reg.tz 24 rfl ?_;refine Reg.tx 25 rfl (fun w' hS=>by have hk:=M.o.below hS;have aw:=hk.c14;go_simp;rfl) ?_;refine Reg.tz 26 rfl ?_;refine Reg.tz 27 rfl ?_;refine Reg.tz 28 rfl ?_;refine Reg.sk 29 rfl ?_;refine Reg.sk 30 rfl ?_;refine Reg.sk 31 rfl ?_;refine Reg.sk 32 rfl ?_;refine Reg.tz 33 rfl ?_;refine Reg.tz 34 rfl ?_;refine Reg.tz 35 rfl ?_;refine wpAnyH_done (by kernel_rfl) ?_ _
      go_wp2_with fail
      go_meet
      exact⟨rfl,by rw[E.o],X.o,M.o⟩
     |true=>
      have t4:(m.tg.u==0)=true:=by simpa using q4
      have Q4:=I q4;clear q4;refine Reg.tz 23 rfl ?_;refine Reg.tz 24 rfl ?_;refine Reg.tx 25 rfl (fun w' hS=>by have hk:=M.o.below hS;have aw:=hk.c14;go_simp;rfl) ?_;refine Reg.tz 26 rfl ?_;refine Reg.tz 27 rfl ?_;refine Reg.tz 28 rfl ?_;cases q5:decide (m.tg.no=0) with
      |false=>
       have t5:(m.tg.no==0)=false:=by simpa using q5
       have E:=I (show decide (m.tg=tg0)=false by rw[TF.o,<-Q1.o,Q2.o,SQ.o,Q4.o,q5];rfl);clear q5;refine Reg.tz 29 rfl ?_;refine Reg.tz 30 rfl ?_;refine Reg.tx 31 rfl (fun w' hS=>by have hk:=M.o.below hS;have ao:=hk.c15;go_simp;rfl) ?_;refine Reg.tz 32 rfl ?_;refine Reg.tz 33 rfl ?_;refine Reg.tz 34 rfl ?_;refine Reg.tz 35 rfl ?_;refine wpAnyH_done (by kernel_rfl) ?_ _
       go_wp2_with fail
       go_meet
       exact⟨rfl,by rw[E.o],X.o,M.o⟩
      |true=>
       have t5:(m.tg.no==0)=true:=by simpa using q5
       have E:=I (show decide (m.tg=tg0)=true by rw[TF.o,<-Q1.o,Q2.o,SQ.o,Q4.o,q5];rfl);clear q5;refine Reg.tz 29 rfl ?_;refine Reg.tz 30 rfl ?_;refine Reg.tx 31 rfl (fun w' hS=>by have hk:=M.o.below hS;have ao:=hk.c15;go_simp;rfl) ?_;refine Reg.tz 32 rfl ?_;refine Reg.tz 33 rfl ?_;refine Reg.tz 34 rfl ?_;refine Reg.tz 35 rfl ?_;refine wpAnyH_done (by kernel_rfl) ?_ _
       go_wp2_with fail
       go_meet
       exact⟨rfl,by rw[E.o],X.o,M.o⟩
 case rest=>
  obtain⟨rfl,rfl,O,hk⟩:=hcut;replace X:=I O;replace M:=I hk;clear O hk;obtain⟨zA,eA⟩:=Aj (decide (m.aq=as0));obtain⟨zT,eT⟩:=Aj (decide (m.tg=tg0));rw[<-eA,<-eT];have EA:=I eA;have ET:=I eT;clear eA eT;obtain⟨v0,aA⟩:∃v:Value,v=.agg #[.int .i64 m.k,.string ⟨m.aq.c.1.toArray⟩,.string ⟨m.aq.c.2.toArray⟩,.string ⟨m.aq.s.1.toArray⟩,.string ⟨m.aq.s.2.toArray⟩,.int .i64 m.aq.t,.int .i64 m.aq.no,.string ⟨m.tg.t.s.1.toArray⟩,.string ⟨m.tg.t.s.2.toArray⟩,.int .i64 m.tg.t.k,.slice A1 m.tg.t.b.length c1,.slice A2 m.tg.a.length c2,.string ⟨m.tg.s.1.toArray⟩,.string ⟨m.tg.s.2.toArray⟩,.int .i64 m.tg.u,.int .i64 m.tg.no,.string ⟨m.re.c.1.toArray⟩,.string ⟨m.re.c.2.toArray⟩,.string ⟨m.re.t.s.1.toArray⟩,.string ⟨m.re.t.s.2.toArray⟩,.int .i64 m.re.t.k,.slice A3 m.re.t.b.length c3,.slice A4 m.re.b.length c4,.string ⟨m.ap.t.s.1.toArray⟩,.string ⟨m.ap.t.s.2.toArray⟩,.int .i64 m.ap.t.k,.slice A5 m.ap.t.b.length c5,.slice A6 m.ap.a.length c6,.int .i64 m.fa.e,.int .i64 m.fa.no]:=⟨_,rfl⟩;rw[<-aA];clear aA
  go_upto_region 3 with fail
  go_cut [6] from 45 to 62 (fun rv wx=>rv=.bool (decide (m.re=re0))/\Below w.heap.size w wx/\Blk wx w.heap.size 61 #[.int .i64 m.k,.string ⟨m.aq.c.1.toArray⟩,.string ⟨m.aq.c.2.toArray⟩,.string ⟨m.aq.s.1.toArray⟩,.string ⟨m.aq.s.2.toArray⟩,.int .i64 m.aq.t,.int .i64 m.aq.no,.string ⟨m.tg.t.s.1.toArray⟩,.string ⟨m.tg.t.s.2.toArray⟩,.int .i64 m.tg.t.k,.slice A1 m.tg.t.b.length c1,.slice A2 m.tg.a.length c2,.string ⟨m.tg.s.1.toArray⟩,.string ⟨m.tg.s.2.toArray⟩,.int .i64 m.tg.u,.int .i64 m.tg.no,.string ⟨m.re.c.1.toArray⟩,.string ⟨m.re.c.2.toArray⟩,.string ⟨m.re.t.s.1.toArray⟩,.string ⟨m.re.t.s.2.toArray⟩,.int .i64 m.re.t.k,.slice A3 m.re.t.b.length c3,.slice A4 m.re.b.length c4,.string ⟨m.ap.t.s.1.toArray⟩,.string ⟨m.ap.t.s.2.toArray⟩,.int .i64 m.ap.t.k,.slice A5 m.ap.t.b.length c5,.slice A6 m.ap.a.length c6,.int .i64 m.fa.e,.int .i64 m.fa.no])
  case first=>
   have k16:=M.c16;have Z:=M.c17;have af:=M.c18;have aa:=M.c19;have ae:=M.c20;have ab:=M.c21;have ad:=M.c22;have RF:=I (Wb m.re);cases q1:decide (m.re.c=pr0) with
   |false=>
    have E:=I (show decide (m.re=re0)=false by rw[RF.o,q1];rfl)
    by_cases a1:m.re.c.1 = []
    ·have a2:¬m.re.c.2 = []:=fun h=>by rw[show m.re.c=pr0 from Prod.ext a1 h] at q1;cases q1
     clear q1
     go_wp2_with fail
     go_meet
     exact⟨by rw[E.o],X.o,M.o⟩
    ·clear q1
     go_wp2_with fail
     go_meet
     exact⟨by rw[E.o],X.o,M.o⟩
   |true=>
    have a0:m.re.c=pr0:=of_decide_eq_true q1;have a1:m.re.c.1 = []:=by rw[a0];rfl
    have a2:m.re.c.2 = []:=by rw[a0];rfl
    clear a0;cases q2:decide (m.re.t=tk0) with
    |false=>
     rw[q2] at N2;have E:=I (show decide (m.re=re0)=false by rw[RF.o,q1,q2];rfl);clear q1 q2
     go_wp2_with (go_at_call 111;refine Ah (N2.o _) ?_;rintro wn O;replace M:=I (M.o.below O);replace X:=X.t O;clear O;clear k16 Z af aa ae ab ad;have k16:=M.c16;have Z:=M.c17;have af:=M.c18;have aa:=M.c19;have ae:=M.c20;have ab:=M.c21;have ad:=M.c22)
     go_meet
     exact⟨by rw[E.o],X.o,M.o⟩
    |true=>
     rw[q2] at N2;cases q3:decide (m.re.b = []) with
     |false=>
      have t2:((m.re.b.length:Int)==0)=false:=by simpa using q3
      have E:=I (show decide (m.re=re0)=false by rw[RF.o,q1,q2,q3];rfl);clear q1 q2 q3
      go_wp2_with (go_at_call 111;refine Ah (N2.o _) ?_;rintro wn O;replace M:=I (M.o.below O);replace X:=X.t O;clear O;clear k16 Z af aa ae ab ad;have k16:=M.c16;have Z:=M.c17;have af:=M.c18;have aa:=M.c19;have ae:=M.c20;have ab:=M.c21;have ad:=M.c22)
      go_meet
      exact⟨by rw[E.o],X.o,M.o⟩
     |true=>
      have t2:((m.re.b.length:Int)==0)=true:=by simpa using q3
      have E:=I (show decide (m.re=re0)=true by rw[RF.o,q1,q2,q3];rfl);clear q1 q2 q3
      go_wp2_with (go_at_call 111;refine Ah (N2.o _) ?_;rintro wn O;replace M:=I (M.o.below O);replace X:=X.t O;clear O;clear k16 Z af aa ae ab ad;have k16:=M.c16;have Z:=M.c17;have af:=M.c18;have aa:=M.c19;have ae:=M.c20;have ab:=M.c21;have ad:=M.c22)
      go_meet
      exact⟨by rw[E.o],X.o,M.o⟩
  case rest=>
   obtain⟨rfl,O,hk⟩:=hcut;replace X:=I O;replace M:=I hk;clear O hk;obtain⟨zR,eR⟩:=Aj (decide (m.re=re0));rw[<-eR];have ER:=I eR;clear eR
   go_upto_region 4 with fail
   go_cut [7,8] from 63 to 77 (fun av fv wx=>av=.bool (decide (m.ap=ap0))/\fv=.bool (decide (m.fa=fa0))/\Below w.heap.size w wx/\Blk wx w.heap.size 61 #[.int .i64 m.k,.string ⟨m.aq.c.1.toArray⟩,.string ⟨m.aq.c.2.toArray⟩,.string ⟨m.aq.s.1.toArray⟩,.string ⟨m.aq.s.2.toArray⟩,.int .i64 m.aq.t,.int .i64 m.aq.no,.string ⟨m.tg.t.s.1.toArray⟩,.string ⟨m.tg.t.s.2.toArray⟩,.int .i64 m.tg.t.k,.slice A1 m.tg.t.b.length c1,.slice A2 m.tg.a.length c2,.string ⟨m.tg.s.1.toArray⟩,.string ⟨m.tg.s.2.toArray⟩,.int .i64 m.tg.u,.int .i64 m.tg.no,.string ⟨m.re.c.1.toArray⟩,.string ⟨m.re.c.2.toArray⟩,.string ⟨m.re.t.s.1.toArray⟩,.string ⟨m.re.t.s.2.toArray⟩,.int .i64 m.re.t.k,.slice A3 m.re.t.b.length c3,.slice A4 m.re.b.length c4,.string ⟨m.ap.t.s.1.toArray⟩,.string ⟨m.ap.t.s.2.toArray⟩,.int .i64 m.ap.t.k,.slice A5 m.ap.t.b.length c5,.slice A6 m.ap.a.length c6,.int .i64 m.fa.e,.int .i64 m.fa.no])
   case first=>
    have PF:=I (Wc m.ap);replace M:=I (show Blk wc.drew _ _ _ from M.o.drewN 1);replace X:=I (show Below _ _ wc.drew from below_drewN X.o 1);cases q1:decide (m.ap.t=tk0) with
    |false=>
     rw[q1] at N3;have E:=I (show decide (m.ap=ap0)=false by rw[PF.o,q1];rfl);clear q1;refine Reg.BU 17 rfl (by kernel_rfl) ?_;refine Reg.tz 0 rfl ?_;refine Reg.tz 1 rfl ?_;refine Reg.tx 2 rfl (fun w' hS=>by have hk:=M.o.below hS;have ag:=hk.c23;have ai:=hk.c24;have ah:=hk.c25;have aj:=hk.c26;go_simp;rfl) ?_;refine Reg.tz 11 rfl ?_;refine Reg.tx 12 rfl (fun w' hS=>by have hk:=M.o.below hS;have az:=hk.c28;have ay:=hk.c29;go_simp;rfl) ?_;refine Reg.tz 13 rfl ?_;refine Reg.tx 14 (v:=.bool (decide (m.fa=fa0))) rfl (fun w' hS=>by go_simp;exact QT m.fa (fun b=>Result.ok (Next.value (.bool b)) w')) ?_;refine Reg.Dn 3 rfl (by kernel_rfl) (by rfl) 111 #[.agg #[.string ⟨m.ap.t.s.1.toArray⟩,.string ⟨m.ap.t.s.2.toArray⟩,.int .i64 m.ap.t.k,.slice A5 m.ap.t.b.length c5]] (by go_simp) ?_;refine Ah (N3.o _) ?_;rintro wn O;refine⟨_,rfl,O,?_⟩;replace M:=I (M.o.below O);replace X:=X.t O;clear O;simp only[Act.put,J,U,Aa];refine Reg.tz 4 rfl ?_;refine Reg.sk 5 rfl ?_;refine Reg.sk 6 rfl ?_;refine Reg.sk 7 rfl ?_;refine Reg.sk 8 rfl ?_;refine Reg.sk 9 rfl ?_;refine Reg.tz 10 rfl ?_;refine Reg.tz 15 rfl ?_;refine Reg.tz 16 rfl ?_;refine wpAnyH_done (by kernel_rfl) ?_ _
     go_wp2_with fail
     go_meet
     exact⟨by rw[E.o],rfl,X.o,M.o⟩
    |true=>
     rw[q1] at N3;cases q2:decide (m.ap.a = []) with
     |false=>
      have t2:((m.ap.a.length:Int)==0)=false:=by simpa using q2
      have E:=I (show decide (m.ap=ap0)=false by rw[PF.o,q1,q2];rfl);clear q1 q2;refine Reg.BU 17 rfl (by kernel_rfl) ?_;refine Reg.tz 0 rfl ?_;refine Reg.tz 1 rfl ?_;refine Reg.tx 2 rfl (fun w' hS=>by have hk:=M.o.below hS;have ag:=hk.c23;have ai:=hk.c24;have ah:=hk.c25;have aj:=hk.c26;go_simp;rfl) ?_;refine Reg.tz 11 rfl ?_;refine Reg.tx 12 rfl (fun w' hS=>by have hk:=M.o.below hS;have az:=hk.c28;have ay:=hk.c29;go_simp;rfl) ?_;refine Reg.tz 13 rfl ?_;refine Reg.tx 14 (v:=.bool (decide (m.fa=fa0))) rfl (fun w' hS=>by go_simp;exact QT m.fa (fun b=>Result.ok (Next.value (.bool b)) w')) ?_;refine Reg.Dn 3 rfl (by kernel_rfl) (by rfl) 111 #[.agg #[.string ⟨m.ap.t.s.1.toArray⟩,.string ⟨m.ap.t.s.2.toArray⟩,.int .i64 m.ap.t.k,.slice A5 m.ap.t.b.length c5]] (by go_simp) ?_;refine Ah (N3.o _) ?_;rintro wn O;refine⟨_,rfl,O,?_⟩;replace M:=I (M.o.below O);replace X:=X.t O;clear O;simp only[Act.put,J,U,Aa];refine Reg.tz 4 rfl ?_;refine Reg.tz 5 rfl ?_;refine Reg.tz 6 rfl ?_;refine Reg.tx 7 rfl (fun w' hS=>by have hk:=M.o.below hS;have ak:=hk.c27;go_simp;rfl) ?_;refine Reg.tz 8 rfl ?_;refine Reg.tz 9 rfl ?_;refine Reg.tz 10 rfl ?_;refine Reg.tz 15 rfl ?_;refine Reg.tz 16 rfl ?_;refine wpAnyH_done (by kernel_rfl) ?_ _
      go_wp2_with fail
      go_meet
      exact⟨by rw[E.o],rfl,X.o,M.o⟩
     |true=>
      have t2:((m.ap.a.length:Int)==0)=true:=by simpa using q2
      have E:=I (show decide (m.ap=ap0)=true by rw[PF.o,q1,q2];rfl);clear q1 q2;refine Reg.BU 17 rfl (by kernel_rfl) ?_;refine Reg.tz 0 rfl ?_;refine Reg.tz 1 rfl ?_;refine Reg.tx 2 rfl (fun w' hS=>by have hk:=M.o.below hS;have ag:=hk.c23;have ai:=hk.c24;have ah:=hk.c25;have aj:=hk.c26;go_simp;rfl) ?_;refine Reg.tz 11 rfl ?_;refine Reg.tx 12 rfl (fun w' hS=>by have hk:=M.o.below hS;have az:=hk.c28;have ay:=hk.c29;go_simp;rfl) ?_;refine Reg.tz 13 rfl ?_;refine Reg.tx 14 (v:=.bool (decide (m.fa=fa0))) rfl (fun w' hS=>by go_simp;exact QT m.fa (fun b=>Result.ok (Next.value (.bool b)) w')) ?_;refine Reg.Dn 3 rfl (by kernel_rfl) (by rfl) 111 #[.agg #[.string ⟨m.ap.t.s.1.toArray⟩,.string ⟨m.ap.t.s.2.toArray⟩,.int .i64 m.ap.t.k,.slice A5 m.ap.t.b.length c5]] (by go_simp) ?_;refine Ah (N3.o _) ?_;rintro wn O;refine⟨_,rfl,O,?_⟩;replace M:=I (M.o.below O);replace X:=X.t O;clear O;simp only[Act.put,J,U,Aa];refine Reg.tz 4 rfl ?_;refine Reg.tz 5 rfl ?_;refine Reg.tz 6 rfl ?_;refine Reg.tx 7 rfl (fun w' hS=>by have hk:=M.o.below hS;have ak:=hk.c27;go_simp;rfl) ?_;refine Reg.tz 8 rfl ?_;refine Reg.tz 9 rfl ?_;refine Reg.tz 10 rfl ?_;refine Reg.tz 15 rfl ?_;refine Reg.tz 16 rfl ?_;refine wpAnyH_done (by kernel_rfl) ?_ _
      go_wp2_with fail
      go_meet
      exact⟨by rw[E.o],rfl,X.o,M.o⟩
   case rest=>
    obtain⟨rfl,rfl,O,hk⟩:=hcut;replace X:=I O;replace M:=I hk;clear O hk;obtain⟨zP,eP⟩:=Aj (decide (m.ap=ap0));obtain⟨zF,eF⟩:=Aj (decide (m.fa=fa0));rw[<-eP,<-eF];have HF:=I (We m);rw[<-EA.o,<-ET.o,<-ER.o,<-eP,<-eF] at HF;clear eP eF EA ET ER N1 N2 N3
    by_cases m1:m.k=1
    ·have y1:(m.k==1)=true:=by simpa using m1
     have y2:(m.k==2)=false:=by simp;omega
     have y3:(m.k==3)=false:=by simp;omega
     have y4:(m.k==4)=false:=by simp;omega
     have y5:(m.k==5)=false:=by simp;omega
     have Y:=I (fun w1=>QP m.aq w1 HZ.o.1.1 HZ.o.1.2);have k1:=M.c1;have k2:=M.c2;have k3:=M.c3;have k4:=M.c4;have k5:=M.c5;have k6:=M.c6;rw[if_pos m1] at HF;clear m1;cases g1:asB m.aq with
     |false=>
      rw[g1] at Y;have E:=I (show mgB m=false by rw[HF.o,g1];rfl);clear g1
      go_wp2_with (go_at_call 112;(with_reducible refine Calls.mono (Y.o _) ?_);rintro e u1 ⟨rfl,O⟩;replace M:=I (M.o.below O);replace X:=X.t O;clear O Y;clear k1 k2 k3 k4 k5 k6;have k1:=M.c1;have k2:=M.c2;have k3:=M.c3;have k4:=M.c4;have k5:=M.c5;have k6:=M.c6)
      go_ret;exact⟨by rw[E.o];rfl,X.o⟩
     |true=>
      rw[g1] at Y;cases zT with
      |false=>
       have E:=I (show mgB m=false by rw[HF.o,g1];rfl);clear g1
       go_wp2_with (go_at_call 112;(with_reducible refine Calls.mono (Y.o _) ?_);rintro e u1 ⟨rfl,O⟩;replace M:=I (M.o.below O);replace X:=X.t O;clear O Y;clear k1 k2 k3 k4 k5 k6;have k1:=M.c1;have k2:=M.c2;have k3:=M.c3;have k4:=M.c4;have k5:=M.c5;have k6:=M.c6)
       go_ret;exact⟨by rw[E.o];rfl,X.o⟩
      |true=>
       cases zR with
       |false=>
        have E:=I (show mgB m=false by rw[HF.o,g1];rfl);clear g1
        go_wp2_with (go_at_call 112;(with_reducible refine Calls.mono (Y.o _) ?_);rintro e u1 ⟨rfl,O⟩;replace M:=I (M.o.below O);replace X:=X.t O;clear O Y;clear k1 k2 k3 k4 k5 k6;have k1:=M.c1;have k2:=M.c2;have k3:=M.c3;have k4:=M.c4;have k5:=M.c5;have k6:=M.c6)
        go_ret;exact⟨by rw[E.o];rfl,X.o⟩
       |true=>
        cases zP with
        |false=>
         have E:=I (show mgB m=false by rw[HF.o,g1];rfl);clear g1
         go_wp2_with (go_at_call 112;(with_reducible refine Calls.mono (Y.o _) ?_);rintro e u1 ⟨rfl,O⟩;replace M:=I (M.o.below O);replace X:=X.t O;clear O Y;clear k1 k2 k3 k4 k5 k6;have k1:=M.c1;have k2:=M.c2;have k3:=M.c3;have k4:=M.c4;have k5:=M.c5;have k6:=M.c6)
         go_ret;exact⟨by rw[E.o];rfl,X.o⟩
        |true=>
         have E:=I (show mgB m=zF by rw[HF.o,g1];rfl);clear g1
         go_wp2_with (go_at_call 112;(with_reducible refine Calls.mono (Y.o _) ?_);rintro e u1 ⟨rfl,O⟩;replace M:=I (M.o.below O);replace X:=X.t O;clear O Y;clear k1 k2 k3 k4 k5 k6;have k1:=M.c1;have k2:=M.c2;have k3:=M.c3;have k4:=M.c4;have k5:=M.c5;have k6:=M.c6)
         go_ret;exact⟨by rw[E.o];rfl,X.o⟩
    ·have aE:=m1
     by_cases m2:m.k=2
     ·have y1:(m.k==1)=false:=by simp;omega
      have y2:(m.k==2)=true:=by simpa using m2
      have y3:(m.k==3)=false:=by simp;omega
      have y4:(m.k==4)=false:=by simp;omega
      have y5:(m.k==5)=false:=by simp;omega
      have Y:=I (fun w1=>OC m.tg A1 A2 c1 c2 w1 HZ.o.2.1.1 HZ.o.2.1.2);have k7:=M.c7;have k8:=M.c8;have k9:=M.c9;have ax:=M.c10;have au:=M.c11;have an:=M.c12;have ar:=M.c13;have aw:=M.c14;have ao:=M.c15;rw[if_neg m1,if_pos m2] at HF;clear m1 m2;cases g1:tgB m.tg with
      |false=>
       rw[g1] at Y;have E:=I (show mgB m=false by rw[HF.o,g1];rfl);clear g1
       go_wp2_with (go_at_call 113;(with_reducible refine Calls.mono (Y.o _) ?_);rintro e u1 ⟨rfl,O⟩;replace M:=I (M.o.below O);replace X:=X.t O;clear O Y;clear k7 k8 k9 ax au an ar aw ao;have k7:=M.c7;have k8:=M.c8;have k9:=M.c9;have ax:=M.c10;have au:=M.c11;have an:=M.c12;have ar:=M.c13;have aw:=M.c14;have ao:=M.c15)
       go_ret;exact⟨by rw[E.o];rfl,X.o⟩
      |true=>
       rw[g1] at Y;cases zA with
       |false=>
        have E:=I (show mgB m=false by rw[HF.o,g1];rfl);clear g1
        go_wp2_with (go_at_call 113;(with_reducible refine Calls.mono (Y.o _) ?_);rintro e u1 ⟨rfl,O⟩;replace M:=I (M.o.below O);replace X:=X.t O;clear O Y;clear k7 k8 k9 ax au an ar aw ao;have k7:=M.c7;have k8:=M.c8;have k9:=M.c9;have ax:=M.c10;have au:=M.c11;have an:=M.c12;have ar:=M.c13;have aw:=M.c14;have ao:=M.c15)
        go_ret;exact⟨by rw[E.o];rfl,X.o⟩
       |true=>
        cases zR with
        |false=>
         have E:=I (show mgB m=false by rw[HF.o,g1];rfl);clear g1
         go_wp2_with (go_at_call 113;(with_reducible refine Calls.mono (Y.o _) ?_);rintro e u1 ⟨rfl,O⟩;replace M:=I (M.o.below O);replace X:=X.t O;clear O Y;clear k7 k8 k9 ax au an ar aw ao;have k7:=M.c7;have k8:=M.c8;have k9:=M.c9;have ax:=M.c10;have au:=M.c11;have an:=M.c12;have ar:=M.c13;have aw:=M.c14;have ao:=M.c15)
         go_ret;exact⟨by rw[E.o];rfl,X.o⟩
        |true=>
         cases zP with
         |false=>
          have E:=I (show mgB m=false by rw[HF.o,g1];rfl);clear g1
          go_wp2_with (go_at_call 113;(with_reducible refine Calls.mono (Y.o _) ?_);rintro e u1 ⟨rfl,O⟩;replace M:=I (M.o.below O);replace X:=X.t O;clear O Y;clear k7 k8 k9 ax au an ar aw ao;have k7:=M.c7;have k8:=M.c8;have k9:=M.c9;have ax:=M.c10;have au:=M.c11;have an:=M.c12;have ar:=M.c13;have aw:=M.c14;have ao:=M.c15)
          go_ret;exact⟨by rw[E.o];rfl,X.o⟩
         |true=>
          have E:=I (show mgB m=zF by rw[HF.o,g1];rfl);clear g1
          go_wp2_with (go_at_call 113;(with_reducible refine Calls.mono (Y.o _) ?_);rintro e u1 ⟨rfl,O⟩;replace M:=I (M.o.below O);replace X:=X.t O;clear O Y;clear k7 k8 k9 ax au an ar aw ao;have k7:=M.c7;have k8:=M.c8;have k9:=M.c9;have ax:=M.c10;have au:=M.c11;have an:=M.c12;have ar:=M.c13;have aw:=M.c14;have ao:=M.c15)
          go_ret;exact⟨by rw[E.o];rfl,X.o⟩
     ·have aF:=m2
      by_cases m3:m.k=3
      ·have y1:(m.k==1)=false:=by simp;omega
       have y2:(m.k==2)=false:=by simp;omega
       have y3:(m.k==3)=true:=by simpa using m3
       have y4:(m.k==4)=false:=by simp;omega
       have y5:(m.k==5)=false:=by simp;omega
       have Y:=I (fun w1=>AU m.re.c w1 HZ.o.2.2.1.1.1 HZ.o.2.2.1.1.2);have T2:=I (fun w1=>Ge m.re.t A3 c3 w1 HZ.o.2.2.1.2);have T3:=I (fun w1=>GG m.re.b A4 c4 w1);have k16:=M.c16;have Z:=M.c17;have af:=M.c18;have aa:=M.c19;have ae:=M.c20;have ab:=M.c21;have ad:=M.c22;rw[if_neg m1,if_neg m2,if_pos m3] at HF;clear m1 m2 m3;cases g1:prB m.re.c with
       |false=>
        rw[g1] at Y;have E:=I (show mgB m=false by rw[HF.o,g1];rfl);clear g1
        go_wp2_with (go_at_call 44;(with_reducible refine Calls.mono (Y.o _) ?_);rintro e u1 ⟨rfl,O⟩;replace M:=I (M.o.below O);replace X:=X.t O;clear O Y;clear k16 Z af aa ae ab ad;have k16:=M.c16;have Z:=M.c17;have af:=M.c18;have aa:=M.c19;have ae:=M.c20;have ab:=M.c21;have ad:=M.c22)
        go_ret;exact⟨by rw[E.o];rfl,X.o⟩
       |true=>
        rw[g1] at Y;cases g2:tkB m.re.t with
        |false=>
         rw[g2] at T2;have E:=I (show mgB m=false by rw[HF.o,g1,g2];rfl);clear g1 g2
         go_wp2_with (first
          |(go_at_call 44;(with_reducible refine Calls.mono (Y.o _) ?_);rintro e u1 ⟨rfl,O⟩;replace M:=I (M.o.below O);replace X:=X.t O;clear O Y;clear k16 Z af aa ae ab ad;have k16:=M.c16;have Z:=M.c17;have af:=M.c18;have aa:=M.c19;have ae:=M.c20;have ab:=M.c21;have ad:=M.c22)
          |(go_at_call 114;(with_reducible refine Calls.mono (T2.o _) ?_);rintro e u2 ⟨rfl,O⟩;replace M:=I (M.o.below O);replace X:=X.t O;clear O T2;clear k16 Z af aa ae ab ad;have k16:=M.c16;have Z:=M.c17;have af:=M.c18;have aa:=M.c19;have ae:=M.c20;have ab:=M.c21;have ad:=M.c22))
         go_ret;exact⟨by rw[E.o];rfl,X.o⟩
        |true=>
         rw[g2] at T2;cases g3:Bu m.re.b with
         |false=>
          rw[g3] at T3;have E:=I (show mgB m=false by rw[HF.o,g1,g2,g3];rfl);clear g1 g2 g3
          go_wp2_with (first
           |(go_at_call 44;(with_reducible refine Calls.mono (Y.o _) ?_);rintro e u1 ⟨rfl,O⟩;replace M:=I (M.o.below O);replace X:=X.t O;clear O Y;clear k16 Z af aa ae ab ad;have k16:=M.c16;have Z:=M.c17;have af:=M.c18;have aa:=M.c19;have ae:=M.c20;have ab:=M.c21;have ad:=M.c22)
           |(go_at_call 114;(with_reducible refine Calls.mono (T2.o _) ?_);rintro e u2 ⟨rfl,O⟩;replace M:=I (M.o.below O);replace X:=X.t O;clear O T2;clear k16 Z af aa ae ab ad;have k16:=M.c16;have Z:=M.c17;have af:=M.c18;have aa:=M.c19;have ae:=M.c20;have ab:=M.c21;have ad:=M.c22)
           |(go_at_call 115;(with_reducible refine Calls.mono (T3.o _) ?_);rintro e u3 ⟨rfl,hw⟩;subst hw;clear T3))
          go_ret;exact⟨by rw[E.o];rfl,X.o⟩
         |true=>
          rw[g3] at T3;cases zA with
          |false=>
           have E:=I (show mgB m=false by rw[HF.o,g1,g2,g3];rfl);clear g1 g2 g3
           go_wp2_with (first
            |(go_at_call 44;(with_reducible refine Calls.mono (Y.o _) ?_);rintro e u1 ⟨rfl,O⟩;replace M:=I (M.o.below O);replace X:=X.t O;clear O Y;clear k16 Z af aa ae ab ad;have k16:=M.c16;have Z:=M.c17;have af:=M.c18;have aa:=M.c19;have ae:=M.c20;have ab:=M.c21;have ad:=M.c22)
            |(go_at_call 114;(with_reducible refine Calls.mono (T2.o _) ?_);rintro e u2 ⟨rfl,O⟩;replace M:=I (M.o.below O);replace X:=X.t O;clear O T2;clear k16 Z af aa ae ab ad;have k16:=M.c16;have Z:=M.c17;have af:=M.c18;have aa:=M.c19;have ae:=M.c20;have ab:=M.c21;have ad:=M.c22)
            |(go_at_call 115;(with_reducible refine Calls.mono (T3.o _) ?_);rintro e u3 ⟨rfl,hw⟩;subst hw;clear T3))
           go_ret;exact⟨by rw[E.o];rfl,X.o⟩
          |true=>
           cases zT with
           |false=>
            have E:=I (show mgB m=false by rw[HF.o,g1,g2,g3];rfl);clear g1 g2 g3
            go_wp2_with (first
             |(go_at_call 44;(with_reducible refine Calls.mono (Y.o _) ?_);rintro e u1 ⟨rfl,O⟩;replace M:=I (M.o.below O);replace X:=X.t O;clear O Y;clear k16 Z af aa ae ab ad;have k16:=M.c16;have Z:=M.c17;have af:=M.c18;have aa:=M.c19;have ae:=M.c20;have ab:=M.c21;have ad:=M.c22)
             |(go_at_call 114;(with_reducible refine Calls.mono (T2.o _) ?_);rintro e u2 ⟨rfl,O⟩;replace M:=I (M.o.below O);replace X:=X.t O;clear O T2;clear k16 Z af aa ae ab ad;have k16:=M.c16;have Z:=M.c17;have af:=M.c18;have aa:=M.c19;have ae:=M.c20;have ab:=M.c21;have ad:=M.c22)
             |(go_at_call 115;(with_reducible refine Calls.mono (T3.o _) ?_);rintro e u3 ⟨rfl,hw⟩;subst hw;clear T3))
            go_ret;exact⟨by rw[E.o];rfl,X.o⟩
           |true=>
            cases zP with
            |false=>
             have E:=I (show mgB m=false by rw[HF.o,g1,g2,g3];rfl);clear g1 g2 g3
             go_wp2_with (first
              |(go_at_call 44;(with_reducible refine Calls.mono (Y.o _) ?_);rintro e u1 ⟨rfl,O⟩;replace M:=I (M.o.below O);replace X:=X.t O;clear O Y;clear k16 Z af aa ae ab ad;have k16:=M.c16;have Z:=M.c17;have af:=M.c18;have aa:=M.c19;have ae:=M.c20;have ab:=M.c21;have ad:=M.c22)
              |(go_at_call 114;(with_reducible refine Calls.mono (T2.o _) ?_);rintro e u2 ⟨rfl,O⟩;replace M:=I (M.o.below O);replace X:=X.t O;clear O T2;clear k16 Z af aa ae ab ad;have k16:=M.c16;have Z:=M.c17;have af:=M.c18;have aa:=M.c19;have ae:=M.c20;have ab:=M.c21;have ad:=M.c22)
              |(go_at_call 115;(with_reducible refine Calls.mono (T3.o _) ?_);rintro e u3 ⟨rfl,hw⟩;subst hw;clear T3))
             go_ret;exact⟨by rw[E.o];rfl,X.o⟩
            |true=>
             have E:=I (show mgB m=zF by rw[HF.o,g1,g2,g3];rfl);clear g1 g2 g3
             go_wp2_with (first
              |(go_at_call 44;(with_reducible refine Calls.mono (Y.o _) ?_);rintro e u1 ⟨rfl,O⟩;replace M:=I (M.o.below O);replace X:=X.t O;clear O Y;clear k16 Z af aa ae ab ad;have k16:=M.c16;have Z:=M.c17;have af:=M.c18;have aa:=M.c19;have ae:=M.c20;have ab:=M.c21;have ad:=M.c22)
              |(go_at_call 114;(with_reducible refine Calls.mono (T2.o _) ?_);rintro e u2 ⟨rfl,O⟩;replace M:=I (M.o.below O);replace X:=X.t O;clear O T2;clear k16 Z af aa ae ab ad;have k16:=M.c16;have Z:=M.c17;have af:=M.c18;have aa:=M.c19;have ae:=M.c20;have ab:=M.c21;have ad:=M.c22)
              |(go_at_call 115;(with_reducible refine Calls.mono (T3.o _) ?_);rintro e u3 ⟨rfl,hw⟩;subst hw;clear T3))
             go_ret;exact⟨by rw[E.o];rfl,X.o⟩
      ·have aC:=m3
       by_cases m4:m.k=4
       ·have y1:(m.k==1)=false:=by simp;omega
        have y2:(m.k==2)=false:=by simp;omega
        have y3:(m.k==3)=false:=by simp;omega
        have y4:(m.k==4)=true:=by simpa using m4
        have y5:(m.k==5)=false:=by simp;omega
        have Y:=I (fun w1=>Ge m.ap.t A5 c5 w1 HZ.o.2.2.2);have T2:=I (fun w1=>GG m.ap.a A6 c6 w1);have ag:=M.c23;have ai:=M.c24;have ah:=M.c25;have aj:=M.c26;have ak:=M.c27;rw[if_neg m1,if_neg m2,if_neg m3,if_pos m4] at HF;clear m1 m2 m3 m4;cases g1:tkB m.ap.t with
        |false=>
         rw[g1] at Y;have E:=I (show mgB m=false by rw[HF.o,g1];rfl);clear g1
         go_wp2_with (go_at_call 114;(with_reducible refine Calls.mono (Y.o _) ?_);rintro e u1 ⟨rfl,O⟩;replace M:=I (M.o.below O);replace X:=X.t O;clear O Y;clear ag ai ah aj ak;have ag:=M.c23;have ai:=M.c24;have ah:=M.c25;have aj:=M.c26;have ak:=M.c27)
         go_ret;exact⟨by rw[E.o];rfl,X.o⟩
        |true=>
         rw[g1] at Y;cases g2:Bu m.ap.a with
         |false=>
          rw[g2] at T2;have E:=I (show mgB m=false by rw[HF.o,g1,g2];rfl);clear g1 g2
          go_wp2_with (first
           |(go_at_call 114;(with_reducible refine Calls.mono (Y.o _) ?_);rintro e u1 ⟨rfl,O⟩;replace M:=I (M.o.below O);replace X:=X.t O;clear O Y;clear ag ai ah aj ak;have ag:=M.c23;have ai:=M.c24;have ah:=M.c25;have aj:=M.c26;have ak:=M.c27)
           |(go_at_call 115;(with_reducible refine Calls.mono (T2.o _) ?_);rintro e u2 ⟨rfl,hw⟩;subst hw;clear T2))
          go_ret;exact⟨by rw[E.o];rfl,X.o⟩
         |true=>
          rw[g2] at T2;cases zA with
          |false=>
           have E:=I (show mgB m=false by rw[HF.o,g1,g2];rfl);clear g1 g2
           go_wp2_with (first
            |(go_at_call 114;(with_reducible refine Calls.mono (Y.o _) ?_);rintro e u1 ⟨rfl,O⟩;replace M:=I (M.o.below O);replace X:=X.t O;clear O Y;clear ag ai ah aj ak;have ag:=M.c23;have ai:=M.c24;have ah:=M.c25;have aj:=M.c26;have ak:=M.c27)
            |(go_at_call 115;(with_reducible refine Calls.mono (T2.o _) ?_);rintro e u2 ⟨rfl,hw⟩;subst hw;clear T2))
           go_ret;exact⟨by rw[E.o];rfl,X.o⟩
          |true=>
           cases zT with
           |false=>
            have E:=I (show mgB m=false by rw[HF.o,g1,g2];rfl);clear g1 g2
            go_wp2_with (first
             |(go_at_call 114;(with_reducible refine Calls.mono (Y.o _) ?_);rintro e u1 ⟨rfl,O⟩;replace M:=I (M.o.below O);replace X:=X.t O;clear O Y;clear ag ai ah aj ak;have ag:=M.c23;have ai:=M.c24;have ah:=M.c25;have aj:=M.c26;have ak:=M.c27)
             |(go_at_call 115;(with_reducible refine Calls.mono (T2.o _) ?_);rintro e u2 ⟨rfl,hw⟩;subst hw;clear T2))
            go_ret;exact⟨by rw[E.o];rfl,X.o⟩
           |true=>
            cases zR with
            |false=>
             have E:=I (show mgB m=false by rw[HF.o,g1,g2];rfl);clear g1 g2
             go_wp2_with (first
              |(go_at_call 114;(with_reducible refine Calls.mono (Y.o _) ?_);rintro e u1 ⟨rfl,O⟩;replace M:=I (M.o.below O);replace X:=X.t O;clear O Y;clear ag ai ah aj ak;have ag:=M.c23;have ai:=M.c24;have ah:=M.c25;have aj:=M.c26;have ak:=M.c27)
              |(go_at_call 115;(with_reducible refine Calls.mono (T2.o _) ?_);rintro e u2 ⟨rfl,hw⟩;subst hw;clear T2))
             go_ret;exact⟨by rw[E.o];rfl,X.o⟩
            |true=>
             have E:=I (show mgB m=zF by rw[HF.o,g1,g2];rfl);clear g1 g2
             go_wp2_with (first
              |(go_at_call 114;(with_reducible refine Calls.mono (Y.o _) ?_);rintro e u1 ⟨rfl,O⟩;replace M:=I (M.o.below O);replace X:=X.t O;clear O Y;clear ag ai ah aj ak;have ag:=M.c23;have ai:=M.c24;have ah:=M.c25;have aj:=M.c26;have ak:=M.c27)
              |(go_at_call 115;(with_reducible refine Calls.mono (T2.o _) ?_);rintro e u2 ⟨rfl,hw⟩;subst hw;clear T2))
             go_ret;exact⟨by rw[E.o];rfl,X.o⟩
       ·have aB:=m4
        by_cases m5:m.k=5
        ·have y1:(m.k==1)=false:=by simp;omega
         have y2:(m.k==2)=false:=by simp;omega
         have y3:(m.k==3)=false:=by simp;omega
         have y4:(m.k==4)=false:=by simp;omega
         have y5:(m.k==5)=true:=by simpa using m5
         have Y:=I (fun w1=>JZ m.fa.e 1 255 w1);have T2:=I (fun w1=>Fu m.fa.no w1);have az:=M.c28;have ay:=M.c29;rw[if_neg m1,if_neg m2,if_neg m3,if_neg m4,if_pos m5] at HF;clear m1 m2 m3 m4 m5;cases g1:inB m.fa.e 1 255 with
         |false=>
          rw[g1] at Y;have E:=I (show mgB m=false by rw[HF.o,g1];rfl);clear g1
          go_wp2_with (go_at_call 116;(with_reducible refine Calls.mono (Y.o _) ?_);rintro e u1 ⟨rfl,hw⟩;subst hw;clear Y)
          go_ret;exact⟨by rw[E.o];rfl,X.o⟩
         |true=>
          rw[g1] at Y;cases g2:tmB m.fa.no with
          |false=>
           rw[g2] at T2;have E:=I (show mgB m=false by rw[HF.o,g1,g2];rfl);clear g1 g2
           go_wp2_with (first
            |(go_at_call 116;(with_reducible refine Calls.mono (Y.o _) ?_);rintro e u1 ⟨rfl,hw⟩;subst hw;clear Y)
            |(go_at_call 116;(with_reducible refine Calls.mono (T2.o _) ?_);rintro e u2 ⟨rfl,hw⟩;subst hw;clear T2))
           go_ret;exact⟨by rw[E.o];rfl,X.o⟩
          |true=>
           rw[g2] at T2;cases zA with
           |false=>
            have E:=I (show mgB m=false by rw[HF.o,g1,g2];rfl);clear g1 g2
            go_wp2_with (first
             |(go_at_call 116;(with_reducible refine Calls.mono (Y.o _) ?_);rintro e u1 ⟨rfl,hw⟩;subst hw;clear Y)
             |(go_at_call 116;(with_reducible refine Calls.mono (T2.o _) ?_);rintro e u2 ⟨rfl,hw⟩;subst hw;clear T2))
            go_ret;exact⟨by rw[E.o];rfl,X.o⟩
           |true=>
            cases zT with
            |false=>
             have E:=I (show mgB m=false by rw[HF.o,g1,g2];rfl);clear g1 g2
             go_wp2_with (first
              |(go_at_call 116;(with_reducible refine Calls.mono (Y.o _) ?_);rintro e u1 ⟨rfl,hw⟩;subst hw;clear Y)
              |(go_at_call 116;(with_reducible refine Calls.mono (T2.o _) ?_);rintro e u2 ⟨rfl,hw⟩;subst hw;clear T2))
             go_ret;exact⟨by rw[E.o];rfl,X.o⟩
            |true=>
             cases zR with
             |false=>
              have E:=I (show mgB m=false by rw[HF.o,g1,g2];rfl);clear g1 g2
              go_wp2_with (first
               |(go_at_call 116;(with_reducible refine Calls.mono (Y.o _) ?_);rintro e u1 ⟨rfl,hw⟩;subst hw;clear Y)
               |(go_at_call 116;(with_reducible refine Calls.mono (T2.o _) ?_);rintro e u2 ⟨rfl,hw⟩;subst hw;clear T2))
              go_ret;exact⟨by rw[E.o];rfl,X.o⟩
             |true=>
              have E:=I (show mgB m=zP by rw[HF.o,g1,g2];rfl);clear g1 g2
              go_wp2_with (first
               |(go_at_call 116;(with_reducible refine Calls.mono (Y.o _) ?_);rintro e u1 ⟨rfl,hw⟩;subst hw;clear Y)
               |(go_at_call 116;(with_reducible refine Calls.mono (T2.o _) ?_);rintro e u2 ⟨rfl,hw⟩;subst hw;clear T2))
              go_ret;exact⟨by rw[E.o];rfl,X.o⟩
        ·have aD:=m5
         have y1:(m.k==1)=false:=by simp;omega
         have y2:(m.k==2)=false:=by simp;omega
         have y3:(m.k==3)=false:=by simp;omega
         have y4:(m.k==4)=false:=by simp;omega
         have y5:(m.k==5)=false:=by simp;omega
         have E:=I (show mgB m=false by rw[HF.o,if_neg m1,if_neg m2,if_neg m3,if_neg m4,if_neg m5]);clear m1 m2 m3 m4 m5 aE aF aC aB aD
         go_wp2
         go_ret;exact⟨by rw[E.o];rfl,X.o⟩
end Ms
end Go.Proofs.YtlccngianpfalaaGreat
