import Derived.Test.YtlccngianpfalaaGreatZClientRequests14
set_option maxHeartbeats 25600000
set_option maxRecDepth 100000
set_option linter.unusedVariables false
set_option linter.unusedSimpArgs false
namespace Go.Proofs.YtlccngianpfalaaGreat
namespace Ms
open Go.RowKit Ae DerP DerR
theorem Rh (l:L) (A:Option Addr) (n c:Nat) (w:World) (M:n=l.length) (h:¬l.length<=2000):Calls Tryz.prog 62 #[.slice A n c] w fun e w'=>e=.returned (.tuple #[.slice none 0 0,.int .i64 1])/\w=w':=by
 have:=JC l A n c w M
 rwa [if_neg h] at this
theorem Lj (m:Mg) (A1 A2 A3 A4 A5 A6:Option Addr) (c1 c2 c3 c4 c5 c6:Nat) (w:World) (hs:mSm m) (r1:Rd w w.heap.size A1 (bvs m.tg.t.b)) (r2:Rd w w.heap.size A2 (bvs m.tg.a)) (r3:Rd w w.heap.size A3 (bvs m.re.t.b)) (r4:Rd w w.heap.size A4 (bvs m.re.b)) (r5:Rd w w.heap.size A5 (bvs m.ap.t.b)) (r6:Rd w w.heap.size A6 (bvs m.ap.a)) :
  Calls Tryz.prog 29 #[.agg #[.int .i64 m.k,.string ⟨m.aq.c.1.toArray⟩,.string ⟨m.aq.c.2.toArray⟩,.string ⟨m.aq.s.1.toArray⟩,.string ⟨m.aq.s.2.toArray⟩,.int .i64 m.aq.t,.int .i64 m.aq.no,.string ⟨m.tg.t.s.1.toArray⟩,.string ⟨m.tg.t.s.2.toArray⟩,.int .i64 m.tg.t.k,.slice A1 m.tg.t.b.length c1,.slice A2 m.tg.a.length c2,.string ⟨m.tg.s.1.toArray⟩,.string ⟨m.tg.s.2.toArray⟩,.int .i64 m.tg.u,.int .i64 m.tg.no,.string ⟨m.re.c.1.toArray⟩,.string ⟨m.re.c.2.toArray⟩,.string ⟨m.re.t.s.1.toArray⟩,.string ⟨m.re.t.s.2.toArray⟩,.int .i64 m.re.t.k,.slice A3 m.re.t.b.length c3,.slice A4 m.re.b.length c4,.string ⟨m.ap.t.s.1.toArray⟩,.string ⟨m.ap.t.s.2.toArray⟩,.int .i64 m.ap.t.k,.slice A5 m.ap.t.b.length c5,.slice A6 m.ap.a.length c6,.int .i64 m.fa.e,.int .i64 m.fa.no]] w (EncR w (mgO m)):=by
 have I1:=I (fun Z=>TH m A1 A2 A3 A4 A5 A6 c1 c2 c3 c4 c5 c6 Z hs);have HI:=I (show(Tryz.prog.info? 61).map (·.size)=some (#[.int .i64 m.k,.string ⟨m.aq.c.1.toArray⟩,.string ⟨m.aq.c.2.toArray⟩,.string ⟨m.aq.s.1.toArray⟩,.string ⟨m.aq.s.2.toArray⟩,.int .i64 m.aq.t,.int .i64 m.aq.no,.string ⟨m.tg.t.s.1.toArray⟩,.string ⟨m.tg.t.s.2.toArray⟩,.int .i64 m.tg.t.k,.slice A1 m.tg.t.b.length c1,.slice A2 m.tg.a.length c2,.string ⟨m.tg.s.1.toArray⟩,.string ⟨m.tg.s.2.toArray⟩,.int .i64 m.tg.u,.int .i64 m.tg.no,.string ⟨m.re.c.1.toArray⟩,.string ⟨m.re.c.2.toArray⟩,.string ⟨m.re.t.s.1.toArray⟩,.string ⟨m.re.t.s.2.toArray⟩,.int .i64 m.re.t.k,.slice A3 m.re.t.b.length c3,.slice A4 m.re.b.length c4,.string ⟨m.ap.t.s.1.toArray⟩,.string ⟨m.ap.t.s.2.toArray⟩,.int .i64 m.ap.t.k,.slice A5 m.ap.t.b.length c5,.slice A6 m.ap.a.length c6,.int .i64 m.fa.e,.int .i64 m.fa.no]:Array Value).size by kernel_rfl);obtain⟨cs,aO⟩:∃cs:Array Value,cs=#[.int .i64 m.k,.string ⟨m.aq.c.1.toArray⟩,.string ⟨m.aq.c.2.toArray⟩,.string ⟨m.aq.s.1.toArray⟩,.string ⟨m.aq.s.2.toArray⟩,.int .i64 m.aq.t,.int .i64 m.aq.no,.string ⟨m.tg.t.s.1.toArray⟩,.string ⟨m.tg.t.s.2.toArray⟩,.int .i64 m.tg.t.k,.slice A1 m.tg.t.b.length c1,.slice A2 m.tg.a.length c2,.string ⟨m.tg.s.1.toArray⟩,.string ⟨m.tg.s.2.toArray⟩,.int .i64 m.tg.u,.int .i64 m.tg.no,.string ⟨m.re.c.1.toArray⟩,.string ⟨m.re.c.2.toArray⟩,.string ⟨m.re.t.s.1.toArray⟩,.string ⟨m.re.t.s.2.toArray⟩,.int .i64 m.re.t.k,.slice A3 m.re.t.b.length c3,.slice A4 m.re.b.length c4,.string ⟨m.ap.t.s.1.toArray⟩,.string ⟨m.ap.t.s.2.toArray⟩,.int .i64 m.ap.t.k,.slice A5 m.ap.t.b.length c5,.slice A6 m.ap.a.length c6,.int .i64 m.fa.e,.int .i64 m.fa.no]:=⟨_,rfl⟩;rw[<-aO] at I1 HI⊢;have EC:=I aO;clear aO;have X:=I ((Below.refl w.heap.size w).alloc Af (.cells cs 61));have M:=I (Blk.new w 61 cs);cases hx:mgB m with
 |false=>
  rw[hx] at I1;have E:=I (show mgO m=none by unfold mgO limO;rw[hx];rfl);rw[E.o];clear hx E hs r1 r2 r3 r4 r5 r6;go_enter Tryz.func29,Tryz.ntmps29
  go_wp2_with (first
   |(refine Ad (by rfl) 61 (.tmp 1) (by rfl) w.heap.size 0 (by rfl) cs _ (Ac (Blk.new w 61 cs)) Tryz.underlying61 (by rfl) HI.o ?_)
   |(go_at_call 61;refine Ah (I1.o _) ?_;rintro Z O;replace X:=X.t O;clear O I1)
   |fail)
  go_ret2
  exact Ey X.o
 |true=>
  rw[hx] at I1;rcases GC hx with⟨h1,e⟩ | ⟨h1,e⟩ | ⟨h1,e⟩ | ⟨h1,e⟩ | ⟨h1,e⟩
  ·have h':prB m.aq.c=true/\prB m.aq.s=true/\tmB m.aq.t=true/\tmB m.aq.no=true:=by simpa [asB] using h1
   have b1:=Ec h'.1;have b2:=Ec h'.2.1;have b3:=(AV h'.1).1;have b4:=(AV h'.2.1).1;have b5:=AE m.aq.t;have b6:=AE m.aq.no;have hk:m.k=1:=by rw[e]
   have y1:(m.k==1)=true:=by rw[hk];rfl
   have y2:(m.k==2)=false:=by rw[hk];rfl
   have y3:(m.k==3)=false:=by rw[hk];rfl
   have y4:(m.k==4)=false:=by rw[hk];rfl
   have y5:(m.k==5)=false:=by rw[hk];rfl
   have ae:mgE m=elem 106 [prE m.aq.c,prE m.aq.s,encI m.aq.t,encI m.aq.no].flatten:=by rw[e];rfl
   have hO:∀l,mgE m=l->l.length<=2000->mgO m=some l:=fun l e2 h2=>Br.2 ⟨hx,by rw[e2];exact h2,e2⟩
   have hN:∀l,mgE m=l->¬l.length<=2000->mgO m=none:=fun l e2 h2=>by unfold mgO limO;rw[e2,if_neg (fun h=>h2 h.2)]
   have HO:=I (hO _ ae);have HN:=I (hN _ ae);have T1:=I (fun Z=>Dj m.aq.c Z (by omega) (by omega));have T2:=I (fun Z=>Dj m.aq.s Z (by omega) (by omega));have T3:=I (fun Z=>DerR.Bk m.aq.t Z);have T4:=I (fun Z=>DerR.Bk m.aq.no Z);have hl:[prE m.aq.c,prE m.aq.s,encI m.aq.t,encI m.aq.no].flatten.length<=60000:=by rw[Ja];simp only[List.length_append];omega
   have ab:[prE m.aq.c,prE m.aq.s,encI m.aq.t,encI m.aq.no].flatten.length<=1990:=by rw[Ja];simp only[List.length_append];omega
   have HL:=I (show [prE m.aq.c,prE m.aq.s,encI m.aq.t,encI m.aq.no].flatten.length<=65535 by omega);have hE:=Az 106 [prE m.aq.c,prE m.aq.s,encI m.aq.t,encI m.aq.no].flatten;rw[Ja] at hE hl HO HN ab;obtain⟨l1,ao⟩:∃l,l=prE m.aq.c:=⟨_,rfl⟩;obtain⟨l2,an⟩:∃l,l=prE m.aq.s:=⟨_,rfl⟩;obtain⟨l3,az⟩:∃l,l=encI m.aq.t:=⟨_,rfl⟩;obtain⟨l4,aD⟩:∃l,l=encI m.aq.no:=⟨_,rfl⟩;rw[<-ao] at T1 HL hE hl HO HN ab;rw[<-an] at T2 HL hE hl HO HN ab;rw[<-az] at T3 HL hE hl HO HN ab;rw[<-aD] at T4 HL hE hl HO HN ab;have ad:(elem 106 (l1++(l2++(l3++l4)))).length<=2000:=by omega
   have LM:=I (fun A c Z=>DM (elem 106 (l1++(l2++(l3++l4)))) A _ c Z rfl ad);rw[HO.o ad];clear h1 e h' hx ae hO hN hk hs r1 r2 r3 r4 r5 r6 hE hl ab b1 b2 b3 b4 b5 b6 ao an az aD HO HN ad;go_enter Tryz.func29,Tryz.ntmps29
   go_wp2_with (first
    |(refine Ad (by rfl) 61 (.tmp 1) (by rfl) w.heap.size 0 (by rfl) cs _ (Ac (Blk.new w 61 cs)) Tryz.underlying61 (by rfl) HI.o ?_)
    |(go_at_call 61;refine Ah (I1.o _) ?_;rintro w0 O;replace M:=I (M.o.below O);replace X:=X.t O;clear O I1;replace M:=I (EC.o▸M.o);have k0:=M.c0;have k1:=M.c1;have k2:=M.c2;have k3:=M.c3;have k4:=M.c4;have k5:=M.c5;have k6:=M.c6)
    |fail)
   clear k0 k1 k2 k3 k4 k5 k6;replace X:=I (X.o.alloc X.o.size (.cells #[.string ⟨m.aq.c.1.toArray⟩,.string ⟨m.aq.c.2.toArray⟩,.string ⟨m.aq.s.1.toArray⟩,.string ⟨m.aq.s.2.toArray⟩,.int .i64 m.aq.t,.int .i64 m.aq.no] 49));replace M:=I (Blk.new w0 49 #[.string ⟨m.aq.c.1.toArray⟩,.string ⟨m.aq.c.2.toArray⟩,.string ⟨m.aq.s.1.toArray⟩,.string ⟨m.aq.s.2.toArray⟩,.int .i64 m.aq.t,.int .i64 m.aq.no]);obtain⟨W,eW⟩:=Aj (w0.alloc (.cells #[.string ⟨m.aq.c.1.toArray⟩,.string ⟨m.aq.c.2.toArray⟩,.string ⟨m.aq.s.1.toArray⟩,.string ⟨m.aq.s.2.toArray⟩,.int .i64 m.aq.t,.int .i64 m.aq.no] 49));rw[<-eW] at X M⊢;clear eW;replace M:=I (show Blk W.drew _ _ _ from M.o.drewN 1);replace X:=I (show Below _ _ W.drew from below_drewN X.o 1)
   go_region_held3 (fun w'=>w'.cell? ⟨w0.heap.size,0,none⟩=some (.string ⟨m.aq.c.1.toArray⟩)/\w'.cell? ⟨w0.heap.size,1,none⟩=some (.string ⟨m.aq.c.2.toArray⟩)/\w'.cell? ⟨w0.heap.size,2,none⟩=some (.string ⟨m.aq.s.1.toArray⟩)/\w'.cell? ⟨w0.heap.size,3,none⟩=some (.string ⟨m.aq.s.2.toArray⟩)/\w'.cell? ⟨w0.heap.size,4,none⟩=some (.int .i64 m.aq.t)/\w'.cell? ⟨w0.heap.size,5,none⟩=some (.int .i64 m.aq.no)) (first | exact⟨M.o.cell 0,M.o.cell 1,M.o.cell 2,M.o.cell 3,M.o.cell 4,M.o.cell 5⟩ | exact⟨(M.o.alloc _).cell 0,(M.o.alloc _).cell 1,(M.o.alloc _).cell 2,(M.o.alloc _).cell 3,(M.o.alloc _).cell 4,(M.o.alloc _).cell 5⟩) ((first
    |(go_at_call 64;(with_reducible refine Calls.mono (T1.o _) ?_);rintro e Z ⟨⟨g1,c1,rfl,ax,av,af⟩,O⟩;clear T1;have Y:=I af;replace M:=I (M.o.below O);replace X:=X.t O;clear O af ax av)
    |(go_at_call 64;(with_reducible refine Calls.mono (T2.o _) ?_);rintro e w2 ⟨⟨g2,c2,rfl,aw,ar,ag⟩,O⟩;clear T2;replace Y:=I (AR Y.o O);have aa:=I ag;replace M:=I (M.o.below O);replace X:=X.t O;clear O ag aw ar)
    |(go_at_call 65;(with_reducible refine Calls.mono (T3.o _) ?_);rintro e w3 ⟨⟨g3,c3,rfl,aB,aC,au⟩,O⟩;clear T3;replace Y:=I (AR Y.o O);replace aa:=I (AR aa.o O);have ai:=I au;replace M:=I (M.o.below O);replace X:=X.t O;clear O au aB aC)
    |(go_at_call 65;(with_reducible refine Calls.mono (T4.o _) ?_);rintro e w4 ⟨⟨g4,c4,rfl,aG,aF,aA⟩,O⟩;clear T4;replace Y:=I (AR Y.o O);replace aa:=I (AR aa.o O);replace ai:=I (AR ai.o O);have ay:=I aA;replace M:=I (M.o.below O);replace X:=X.t O;clear O aA aG aF)
    |(go_at_call 63;refine Calls.mono (BY 106 [l1,l2,l3,l4] _ 4 4 (w4.heap.size+1) _ (Nr Y.o aa.o ai.o ay.o) rfl (by simp) HL.o (by simp)) ?_;rintro e wz ⟨⟨gz,cz,rfl,aj,ah,al⟩,O⟩;have ak:=(Below.refl w4.heap.size w4).alloc Af (.cells #[.slice (some ⟨g1,0,none⟩) l1.length c1,.slice (some ⟨g2,0,none⟩) l2.length c2,.slice (some ⟨g3,0,none⟩) l3.length c3,.slice (some ⟨g4,0,none⟩) l4.length c4] 24);have HG:=I (Ba (l:=elem 106 [l1,l2,l3,l4].flatten) ⟨⟨gz,cz,rfl,aj,ah,al⟩,O⟩ (X.o.trans (ak.mono X.o.size)));rw[Ja] at HG;replace M:=I ((M.o.alloc (.cells #[.slice (some ⟨g1,0,none⟩) l1.length c1,.slice (some ⟨g2,0,none⟩) l2.length c2,.slice (some ⟨g3,0,none⟩) l3.length c3,.slice (some ⟨g4,0,none⟩) l4.length c4] 24)).below O);clear ak aj ah al O)
    |(go_at_call 62;refine Ah (LM.o _ _ _) ?_;rintro wy rfl)))
   go_wp2
   go_ret2
   exact Dl HG.o
  ·have h':tkB m.tg.t=true/\Bv m.tg.a=true/\prB m.tg.s=true/\tmB m.tg.u=true/\tmB m.tg.no=true:=by simpa [tgB] using h1
   have b1:=DS h'.1;have b2:=Ec b1.1;have b3:=(BU h'.1).1;have b4:=Bd h'.2.1;have b5:=Az 4 m.tg.a;have b6:=Ec h'.2.2.1;have b7:=(AV h'.2.2.1).1;have b8:=AE m.tg.u;have b9:=AE m.tg.no;have hk:m.k=2:=by rw[e]
   have y1:(m.k==1)=false:=by rw[hk];rfl
   have y2:(m.k==2)=true:=by rw[hk];rfl
   have y3:(m.k==3)=false:=by rw[hk];rfl
   have y4:(m.k==4)=false:=by rw[hk];rfl
   have y5:(m.k==5)=false:=by rw[hk];rfl
   have ae:mgE m=elem 108 [tkE m.tg.t,elem 4 m.tg.a,prE m.tg.s,encI m.tg.u,encI m.tg.no].flatten:=by rw[e];rfl
   have hO:∀l,mgE m=l->l.length<=2000->mgO m=some l:=fun l e2 h2=>Br.2 ⟨hx,by rw[e2];exact h2,e2⟩
   have hN:∀l,mgE m=l->¬l.length<=2000->mgO m=none:=fun l e2 h2=>by unfold mgO limO;rw[e2,if_neg (fun h=>h2 h.2)]
   have HO:=I (hO _ ae);have HN:=I (hN _ ae);have T1:=I (fun Z (h:Below w.heap.size w Z)=>IV m.tg.t A1 c1 Z.heap.size Z (by omega) (by omega) (by omega) ((r1.below h).more h.size) Af);have T2:=I (fun Z (h:Below w.heap.size w Z)=>DerR.Cq m.tg.a A2 m.tg.a.length c2 Z.heap.size Z ((r2.below h).more h.size) rfl Af (by omega));have T3:=I (fun Z=>Dj m.tg.s Z (by omega) (by omega));have T4:=I (fun Z=>DerR.Bk m.tg.u Z);have T5:=I (fun Z=>DerR.Bk m.tg.no Z);have hl:[tkE m.tg.t,elem 4 m.tg.a,prE m.tg.s,encI m.tg.u,encI m.tg.no].flatten.length<=60000:=by rw[Eo];simp only[List.length_append];omega
   have ab:True:=by trivial
   have HL:=I (show [tkE m.tg.t,elem 4 m.tg.a,prE m.tg.s,encI m.tg.u,encI m.tg.no].flatten.length<=65535 by omega);have hE:=Az 108 [tkE m.tg.t,elem 4 m.tg.a,prE m.tg.s,encI m.tg.u,encI m.tg.no].flatten;rw[Eo] at hE hl HO HN;obtain⟨l1,ao⟩:∃l,l=tkE m.tg.t:=⟨_,rfl⟩;obtain⟨l2,an⟩:∃l,l=elem 4 m.tg.a:=⟨_,rfl⟩;obtain⟨l3,az⟩:∃l,l=prE m.tg.s:=⟨_,rfl⟩;obtain⟨l4,aD⟩:∃l,l=encI m.tg.u:=⟨_,rfl⟩;obtain⟨l5,aJ⟩:∃l,l=encI m.tg.no:=⟨_,rfl⟩;rw[<-ao] at T1 HL hE hl HO HN;rw[<-an] at T2 HL hE hl HO HN;rw[<-az] at T3 HL hE hl HO HN;rw[<-aD] at T4 HL hE hl HO HN;rw[<-aJ] at T5 HL hE hl HO HN
   by_cases hlim:(elem 108 (l1++(l2++(l3++(l4++l5))))).length<=2000
   ·have ad:(elem 108 (l1++(l2++(l3++(l4++l5))))).length<=2000:=hlim
    have LM:=I (fun A c Z=>DM (elem 108 (l1++(l2++(l3++(l4++l5))))) A _ c Z rfl ad);rw[HO.o ad];clear h1 e h' hx ae hO hN hk hs r1 r2 r3 r4 r5 r6 hE hl ab b1 b2 b3 b4 b5 b6 b7 b8 b9 ao an az aD aJ HO HN ad hlim;go_enter Tryz.func29,Tryz.ntmps29
    go_wp2_with (first
     |(refine Ad (by rfl) 61 (.tmp 1) (by rfl) w.heap.size 0 (by rfl) cs _ (Ac (Blk.new w 61 cs)) Tryz.underlying61 (by rfl) HI.o ?_)
     |(go_at_call 61;refine Ah (I1.o _) ?_;rintro w0 O;replace M:=I (M.o.below O);replace X:=X.t O;clear O I1;replace M:=I (EC.o▸M.o);have k0:=M.c0;have k7:=M.c7;have k8:=M.c8;have k9:=M.c9;have aI:=M.c10;have aK:=M.c11;have aQ:=M.c12;have aR:=M.c13;have aH:=M.c14;have aP:=M.c15)
     |fail)
    clear k0 k7 k8 k9 aI aK aQ aR aH aP;replace X:=I (X.o.alloc X.o.size (.cells #[.string ⟨m.tg.t.s.1.toArray⟩,.string ⟨m.tg.t.s.2.toArray⟩,.int .i64 m.tg.t.k,.slice A1 m.tg.t.b.length c1,.slice A2 m.tg.a.length c2,.string ⟨m.tg.s.1.toArray⟩,.string ⟨m.tg.s.2.toArray⟩,.int .i64 m.tg.u,.int .i64 m.tg.no] 53));replace M:=I (Blk.new w0 53 #[.string ⟨m.tg.t.s.1.toArray⟩,.string ⟨m.tg.t.s.2.toArray⟩,.int .i64 m.tg.t.k,.slice A1 m.tg.t.b.length c1,.slice A2 m.tg.a.length c2,.string ⟨m.tg.s.1.toArray⟩,.string ⟨m.tg.s.2.toArray⟩,.int .i64 m.tg.u,.int .i64 m.tg.no]);obtain⟨W,eW⟩:=Aj (w0.alloc (.cells #[.string ⟨m.tg.t.s.1.toArray⟩,.string ⟨m.tg.t.s.2.toArray⟩,.int .i64 m.tg.t.k,.slice A1 m.tg.t.b.length c1,.slice A2 m.tg.a.length c2,.string ⟨m.tg.s.1.toArray⟩,.string ⟨m.tg.s.2.toArray⟩,.int .i64 m.tg.u,.int .i64 m.tg.no] 53));rw[<-eW] at X M⊢;clear eW;replace M:=I (show Blk W.drew _ _ _ from M.o.drewN 1);replace X:=I (show Below _ _ W.drew from below_drewN X.o 1)
    go_region_held3 (fun w'=>w'.cell? ⟨w0.heap.size,0,none⟩=some (.string ⟨m.tg.t.s.1.toArray⟩)/\w'.cell? ⟨w0.heap.size,1,none⟩=some (.string ⟨m.tg.t.s.2.toArray⟩)/\w'.cell? ⟨w0.heap.size,2,none⟩=some (.int .i64 m.tg.t.k)/\w'.cell? ⟨w0.heap.size,3,none⟩=some (.slice A1 m.tg.t.b.length c1)/\w'.cell? ⟨w0.heap.size,4,none⟩=some (.slice A2 m.tg.a.length c2)/\w'.cell? ⟨w0.heap.size,5,none⟩=some (.string ⟨m.tg.s.1.toArray⟩)/\w'.cell? ⟨w0.heap.size,6,none⟩=some (.string ⟨m.tg.s.2.toArray⟩)/\w'.cell? ⟨w0.heap.size,7,none⟩=some (.int .i64 m.tg.u)/\w'.cell? ⟨w0.heap.size,8,none⟩=some (.int .i64 m.tg.no)) (first | exact⟨M.o.cell 0,M.o.cell 1,M.o.cell 2,M.o.cell 3,M.o.cell 4,M.o.cell 5,M.o.cell 6,M.o.cell 7,M.o.cell 8⟩ | exact⟨(M.o.alloc _).cell 0,(M.o.alloc _).cell 1,(M.o.alloc _).cell 2,(M.o.alloc _).cell 3,(M.o.alloc _).cell 4,(M.o.alloc _).cell 5,(M.o.alloc _).cell 6,(M.o.alloc _).cell 7,(M.o.alloc _).cell 8⟩) ((first
     |(go_at_call 66;(with_reducible refine Calls.mono (T1.o _ X.o) ?_);rintro e Z ⟨⟨g1,c1,rfl,ax,av,af⟩,O⟩;clear T1;have Y:=I af;replace M:=I (M.o.below O);replace X:=X.t O;clear O af ax av)
     |(go_at_call 67;(with_reducible refine Calls.mono (T2.o _ X.o) ?_);rintro e w2 ⟨⟨g2,c2,rfl,aw,ar,ag⟩,O⟩;clear T2;replace Y:=I (AR Y.o O);have aa:=I ag;replace M:=I (M.o.below O);replace X:=X.t O;clear O ag aw ar)
     |(go_at_call 64;(with_reducible refine Calls.mono (T3.o _) ?_);rintro e w3 ⟨⟨g3,c3,rfl,aB,aC,au⟩,O⟩;clear T3;replace Y:=I (AR Y.o O);replace aa:=I (AR aa.o O);have ai:=I au;replace M:=I (M.o.below O);replace X:=X.t O;clear O au aB aC)
     |(go_at_call 65;(with_reducible refine Calls.mono (T4.o _) ?_);rintro e w4 ⟨⟨g4,c4,rfl,aG,aF,aA⟩,O⟩;clear T4;replace Y:=I (AR Y.o O);replace aa:=I (AR aa.o O);replace ai:=I (AR ai.o O);have ay:=I aA;replace M:=I (M.o.below O);replace X:=X.t O;clear O aA aG aF)
     |(go_at_call 65;(with_reducible refine Calls.mono (T5.o _) ?_);rintro e w5 ⟨⟨g5,c5,rfl,aM,aN,aE⟩,O⟩;clear T5;replace Y:=I (AR Y.o O);replace aa:=I (AR aa.o O);replace ai:=I (AR ai.o O);replace ay:=I (AR ay.o O);have aL:=I aE;replace M:=I (M.o.below O);replace X:=X.t O;clear O aE aM aN)
     |(go_at_call 63;refine Calls.mono (BY 108 [l1,l2,l3,l4,l5] _ 5 5 (w5.heap.size+1) _ (GN Y.o aa.o ai.o ay.o aL.o) rfl (by simp) HL.o (by simp)) ?_;rintro e wz ⟨⟨gz,cz,rfl,aj,ah,al⟩,O⟩;have ak:=(Below.refl w5.heap.size w5).alloc Af (.cells #[.slice (some ⟨g1,0,none⟩) l1.length c1,.slice (some ⟨g2,0,none⟩) l2.length c2,.slice (some ⟨g3,0,none⟩) l3.length c3,.slice (some ⟨g4,0,none⟩) l4.length c4,.slice (some ⟨g5,0,none⟩) l5.length c5] 24);have HG:=I (Ba (l:=elem 108 [l1,l2,l3,l4,l5].flatten) ⟨⟨gz,cz,rfl,aj,ah,al⟩,O⟩ (X.o.trans (ak.mono X.o.size)));rw[Eo] at HG;replace M:=I ((M.o.alloc (.cells #[.slice (some ⟨g1,0,none⟩) l1.length c1,.slice (some ⟨g2,0,none⟩) l2.length c2,.slice (some ⟨g3,0,none⟩) l3.length c3,.slice (some ⟨g4,0,none⟩) l4.length c4,.slice (some ⟨g5,0,none⟩) l5.length c5] 24)).below O);clear ak aj ah al O)
     |(go_at_call 62;refine Ah (LM.o _ _ _) ?_;rintro wy rfl)))
    go_wp2
    go_ret2
    exact Dl HG.o
   ·have ad:¬(elem 108 (l1++(l2++(l3++(l4++l5))))).length<=2000:=hlim
    have LM:=I (fun A c Z=>Rh (elem 108 (l1++(l2++(l3++(l4++l5))))) A _ c Z rfl ad);rw[HN.o ad];clear h1 e h' hx ae hO hN hk hs r1 r2 r3 r4 r5 r6 hE hl ab b1 b2 b3 b4 b5 b6 b7 b8 b9 ao an az aD aJ HO HN ad hlim;go_enter Tryz.func29,Tryz.ntmps29
    go_wp2_with (first
     |(refine Ad (by rfl) 61 (.tmp 1) (by rfl) w.heap.size 0 (by rfl) cs _ (Ac (Blk.new w 61 cs)) Tryz.underlying61 (by rfl) HI.o ?_)
     |(go_at_call 61;refine Ah (I1.o _) ?_;rintro w0 O;replace M:=I (M.o.below O);replace X:=X.t O;clear O I1;replace M:=I (EC.o▸M.o);have k0:=M.c0;have k7:=M.c7;have k8:=M.c8;have k9:=M.c9;have aI:=M.c10;have aK:=M.c11;have aQ:=M.c12;have aR:=M.c13;have aH:=M.c14;have aP:=M.c15)
     |fail)
    clear k0 k7 k8 k9 aI aK aQ aR aH aP;replace X:=I (X.o.alloc X.o.size (.cells #[.string ⟨m.tg.t.s.1.toArray⟩,.string ⟨m.tg.t.s.2.toArray⟩,.int .i64 m.tg.t.k,.slice A1 m.tg.t.b.length c1,.slice A2 m.tg.a.length c2,.string ⟨m.tg.s.1.toArray⟩,.string ⟨m.tg.s.2.toArray⟩,.int .i64 m.tg.u,.int .i64 m.tg.no] 53));replace M:=I (Blk.new w0 53 #[.string ⟨m.tg.t.s.1.toArray⟩,.string ⟨m.tg.t.s.2.toArray⟩,.int .i64 m.tg.t.k,.slice A1 m.tg.t.b.length c1,.slice A2 m.tg.a.length c2,.string ⟨m.tg.s.1.toArray⟩,.string ⟨m.tg.s.2.toArray⟩,.int .i64 m.tg.u,.int .i64 m.tg.no]);obtain⟨W,eW⟩:=Aj (w0.alloc (.cells #[.string ⟨m.tg.t.s.1.toArray⟩,.string ⟨m.tg.t.s.2.toArray⟩,.int .i64 m.tg.t.k,.slice A1 m.tg.t.b.length c1,.slice A2 m.tg.a.length c2,.string ⟨m.tg.s.1.toArray⟩,.string ⟨m.tg.s.2.toArray⟩,.int .i64 m.tg.u,.int .i64 m.tg.no] 53));rw[<-eW] at X M⊢;clear eW;replace M:=I (show Blk W.drew _ _ _ from M.o.drewN 1);replace X:=I (show Below _ _ W.drew from below_drewN X.o 1)
    go_region_held3 (fun w'=>w'.cell? ⟨w0.heap.size,0,none⟩=some (.string ⟨m.tg.t.s.1.toArray⟩)/\w'.cell? ⟨w0.heap.size,1,none⟩=some (.string ⟨m.tg.t.s.2.toArray⟩)/\w'.cell? ⟨w0.heap.size,2,none⟩=some (.int .i64 m.tg.t.k)/\w'.cell? ⟨w0.heap.size,3,none⟩=some (.slice A1 m.tg.t.b.length c1)/\w'.cell? ⟨w0.heap.size,4,none⟩=some (.slice A2 m.tg.a.length c2)/\w'.cell? ⟨w0.heap.size,5,none⟩=some (.string ⟨m.tg.s.1.toArray⟩)/\w'.cell? ⟨w0.heap.size,6,none⟩=some (.string ⟨m.tg.s.2.toArray⟩)/\w'.cell? ⟨w0.heap.size,7,none⟩=some (.int .i64 m.tg.u)/\w'.cell? ⟨w0.heap.size,8,none⟩=some (.int .i64 m.tg.no)) (first | exact⟨M.o.cell 0,M.o.cell 1,M.o.cell 2,M.o.cell 3,M.o.cell 4,M.o.cell 5,M.o.cell 6,M.o.cell 7,M.o.cell 8⟩ | exact⟨(M.o.alloc _).cell 0,(M.o.alloc _).cell 1,(M.o.alloc _).cell 2,(M.o.alloc _).cell 3,(M.o.alloc _).cell 4,(M.o.alloc _).cell 5,(M.o.alloc _).cell 6,(M.o.alloc _).cell 7,(M.o.alloc _).cell 8⟩) ((first
     |(go_at_call 66;(with_reducible refine Calls.mono (T1.o _ X.o) ?_);rintro e Z ⟨⟨g1,c1,rfl,ax,av,af⟩,O⟩;clear T1;have Y:=I af;replace M:=I (M.o.below O);replace X:=X.t O;clear O af ax av)
     |(go_at_call 67;(with_reducible refine Calls.mono (T2.o _ X.o) ?_);rintro e w2 ⟨⟨g2,c2,rfl,aw,ar,ag⟩,O⟩;clear T2;replace Y:=I (AR Y.o O);have aa:=I ag;replace M:=I (M.o.below O);replace X:=X.t O;clear O ag aw ar)
     |(go_at_call 64;(with_reducible refine Calls.mono (T3.o _) ?_);rintro e w3 ⟨⟨g3,c3,rfl,aB,aC,au⟩,O⟩;clear T3;replace Y:=I (AR Y.o O);replace aa:=I (AR aa.o O);have ai:=I au;replace M:=I (M.o.below O);replace X:=X.t O;clear O au aB aC)
     |(go_at_call 65;(with_reducible refine Calls.mono (T4.o _) ?_);rintro e w4 ⟨⟨g4,c4,rfl,aG,aF,aA⟩,O⟩;clear T4;replace Y:=I (AR Y.o O);replace aa:=I (AR aa.o O);replace ai:=I (AR ai.o O);have ay:=I aA;replace M:=I (M.o.below O);replace X:=X.t O;clear O aA aG aF)
     |(go_at_call 65;(with_reducible refine Calls.mono (T5.o _) ?_);rintro e w5 ⟨⟨g5,c5,rfl,aM,aN,aE⟩,O⟩;clear T5;replace Y:=I (AR Y.o O);replace aa:=I (AR aa.o O);replace ai:=I (AR ai.o O);replace ay:=I (AR ay.o O);have aL:=I aE;replace M:=I (M.o.below O);replace X:=X.t O;clear O aE aM aN)
     |(go_at_call 63;refine Calls.mono (BY 108 [l1,l2,l3,l4,l5] _ 5 5 (w5.heap.size+1) _ (GN Y.o aa.o ai.o ay.o aL.o) rfl (by simp) HL.o (by simp)) ?_;rintro e wz ⟨⟨gz,cz,rfl,aj,ah,al⟩,O⟩;have ak:=(Below.refl w5.heap.size w5).alloc Af (.cells #[.slice (some ⟨g1,0,none⟩) l1.length c1,.slice (some ⟨g2,0,none⟩) l2.length c2,.slice (some ⟨g3,0,none⟩) l3.length c3,.slice (some ⟨g4,0,none⟩) l4.length c4,.slice (some ⟨g5,0,none⟩) l5.length c5] 24);have HG:=I (Ba (l:=elem 108 [l1,l2,l3,l4,l5].flatten) ⟨⟨gz,cz,rfl,aj,ah,al⟩,O⟩ (X.o.trans (ak.mono X.o.size)));rw[Eo] at HG;replace M:=I ((M.o.alloc (.cells #[.slice (some ⟨g1,0,none⟩) l1.length c1,.slice (some ⟨g2,0,none⟩) l2.length c2,.slice (some ⟨g3,0,none⟩) l3.length c3,.slice (some ⟨g4,0,none⟩) l4.length c4,.slice (some ⟨g5,0,none⟩) l5.length c5] 24)).below O);clear ak aj ah al O)
     |(go_at_call 62;refine Ah (LM.o _ _ _) ?_;rintro wy rfl)))
    go_wp2
    go_ret2
    exact Ey HG.o.2
  ·have h':prB m.re.c=true/\tkB m.re.t=true/\Bv m.re.b=true:=by simpa [reB] using h1
   have b1:=DS h'.2.1;have b2:=Ec b1.1;have b3:=(BU h'.2.1).1;have b4:=Bd h'.2.2;have b5:=Az 4 m.re.b;have b6:=Ec h'.1;have b7:=(AV h'.1).1;have hk:m.k=3:=by rw[e]
   have y1:(m.k==1)=false:=by rw[hk];rfl
   have y2:(m.k==2)=false:=by rw[hk];rfl
   have y3:(m.k==3)=true:=by rw[hk];rfl
   have y4:(m.k==4)=false:=by rw[hk];rfl
   have y5:(m.k==5)=false:=by rw[hk];rfl
   have ae:mgE m=elem 107 [prE m.re.c,tkE m.re.t,elem 4 m.re.b].flatten:=by rw[e];rfl
   have hO:∀l,mgE m=l->l.length<=2000->mgO m=some l:=fun l e2 h2=>Br.2 ⟨hx,by rw[e2];exact h2,e2⟩
   have hN:∀l,mgE m=l->¬l.length<=2000->mgO m=none:=fun l e2 h2=>by unfold mgO limO;rw[e2,if_neg (fun h=>h2 h.2)]
   have HO:=I (hO _ ae);have HN:=I (hN _ ae);have T1:=I (fun Z=>Dj m.re.c Z (by omega) (by omega));have T2:=I (fun Z (h:Below w.heap.size w Z)=>IV m.re.t A3 c3 Z.heap.size Z (by omega) (by omega) (by omega) ((r3.below h).more h.size) Af);have T3:=I (fun Z (h:Below w.heap.size w Z)=>DerR.Cq m.re.b A4 m.re.b.length c4 Z.heap.size Z ((r4.below h).more h.size) rfl Af (by omega));have hl:[prE m.re.c,tkE m.re.t,elem 4 m.re.b].flatten.length<=60000:=by rw[Dn];simp only[List.length_append];omega
   have ab:[prE m.re.c,tkE m.re.t,elem 4 m.re.b].flatten.length<=1990:=by rw[Dn];simp only[List.length_append];omega
   have HL:=I (show [prE m.re.c,tkE m.re.t,elem 4 m.re.b].flatten.length<=65535 by omega);have hE:=Az 107 [prE m.re.c,tkE m.re.t,elem 4 m.re.b].flatten;rw[Dn] at hE hl HO HN ab;obtain⟨l1,ao⟩:∃l,l=prE m.re.c:=⟨_,rfl⟩;obtain⟨l2,an⟩:∃l,l=tkE m.re.t:=⟨_,rfl⟩;obtain⟨l3,az⟩:∃l,l=elem 4 m.re.b:=⟨_,rfl⟩;rw[<-ao] at T1 HL hE hl HO HN ab;rw[<-an] at T2 HL hE hl HO HN ab;rw[<-az] at T3 HL hE hl HO HN ab;have ad:(elem 107 (l1++(l2++l3))).length<=2000:=by omega
   have LM:=I (fun A c Z=>DM (elem 107 (l1++(l2++l3))) A _ c Z rfl ad);rw[HO.o ad];clear h1 e h' hx ae hO hN hk hs r1 r2 r3 r4 r5 r6 hE hl ab b1 b2 b3 b4 b5 b6 b7 ao an az HO HN ad;go_enter Tryz.func29,Tryz.ntmps29
   go_wp2_with (first
    |(refine Ad (by rfl) 61 (.tmp 1) (by rfl) w.heap.size 0 (by rfl) cs _ (Ac (Blk.new w 61 cs)) Tryz.underlying61 (by rfl) HI.o ?_)
    |(go_at_call 61;refine Ah (I1.o _) ?_;rintro w0 O;replace M:=I (M.o.below O);replace X:=X.t O;clear O I1;replace M:=I (EC.o▸M.o);have k0:=M.c0)
    |fail)
   clear k0;replace M:=I (show Blk w0.drew _ _ _ from M.o.drewN 1);replace X:=I (show Below _ _ w0.drew from below_drewN X.o 1)
   go_region_held3 (fun w'=>w'.cell? ⟨w.heap.size,16,none⟩=some (.string ⟨m.re.c.1.toArray⟩)/\w'.cell? ⟨w.heap.size,17,none⟩=some (.string ⟨m.re.c.2.toArray⟩)/\w'.cell? ⟨w.heap.size,18,none⟩=some (.string ⟨m.re.t.s.1.toArray⟩)/\w'.cell? ⟨w.heap.size,19,none⟩=some (.string ⟨m.re.t.s.2.toArray⟩)/\w'.cell? ⟨w.heap.size,20,none⟩=some (.int .i64 m.re.t.k)/\w'.cell? ⟨w.heap.size,21,none⟩=some (.slice A3 m.re.t.b.length c3)/\w'.cell? ⟨w.heap.size,22,none⟩=some (.slice A4 m.re.b.length c4)) (first | exact⟨M.o.cell 16,M.o.cell 17,M.o.cell 18,M.o.cell 19,M.o.cell 20,M.o.cell 21,M.o.cell 22⟩ | exact⟨(M.o.alloc _).cell 16,(M.o.alloc _).cell 17,(M.o.alloc _).cell 18,(M.o.alloc _).cell 19,(M.o.alloc _).cell 20,(M.o.alloc _).cell 21,(M.o.alloc _).cell 22⟩) ((first
    |(go_at_call 64;(with_reducible refine Calls.mono (T1.o _) ?_);rintro e Z ⟨⟨g1,c1,rfl,ax,av,af⟩,O⟩;clear T1;have Y:=I af;replace M:=I (M.o.below O);replace X:=X.t O;clear O af ax av)
    |(go_at_call 66;(with_reducible refine Calls.mono (T2.o _ X.o) ?_);rintro e w2 ⟨⟨g2,c2,rfl,aw,ar,ag⟩,O⟩;clear T2;replace Y:=I (AR Y.o O);have aa:=I ag;replace M:=I (M.o.below O);replace X:=X.t O;clear O ag aw ar)
    |(go_at_call 67;(with_reducible refine Calls.mono (T3.o _ X.o) ?_);rintro e w3 ⟨⟨g3,c3,rfl,aB,aC,au⟩,O⟩;clear T3;replace Y:=I (AR Y.o O);replace aa:=I (AR aa.o O);have ai:=I au;replace M:=I (M.o.below O);replace X:=X.t O;clear O au aB aC)
    |(go_at_call 63;refine Calls.mono (BY 107 [l1,l2,l3] _ 3 3 (w3.heap.size+1) _ (Ej Y.o aa.o ai.o) rfl (by simp) HL.o (by simp)) ?_;rintro e wz ⟨⟨gz,cz,rfl,aj,ah,al⟩,O⟩;have ak:=(Below.refl w3.heap.size w3).alloc Af (.cells #[.slice (some ⟨g1,0,none⟩) l1.length c1,.slice (some ⟨g2,0,none⟩) l2.length c2,.slice (some ⟨g3,0,none⟩) l3.length c3] 24);have HG:=I (Ba (l:=elem 107 [l1,l2,l3].flatten) ⟨⟨gz,cz,rfl,aj,ah,al⟩,O⟩ (X.o.trans (ak.mono X.o.size)));rw[Dn] at HG;replace M:=I ((M.o.alloc (.cells #[.slice (some ⟨g1,0,none⟩) l1.length c1,.slice (some ⟨g2,0,none⟩) l2.length c2,.slice (some ⟨g3,0,none⟩) l3.length c3] 24)).below O);clear ak aj ah al O)
    |(go_at_call 62;refine Ah (LM.o _ _ _) ?_;rintro wy rfl)))
   go_wp2
   go_ret2
   exact Dl HG.o
  ·have h':tkB m.ap.t=true/\Bv m.ap.a=true:=by simpa [apB] using h1
   have b1:=DS h'.1;have b2:=Ec b1.1;have b3:=(BU h'.1).1;have b4:=Bd h'.2;have b5:=Az 4 m.ap.a;have hk:m.k=4:=by rw[e]
   have y1:(m.k==1)=false:=by rw[hk];rfl
   have y2:(m.k==2)=false:=by rw[hk];rfl
   have y3:(m.k==3)=false:=by rw[hk];rfl
   have y4:(m.k==4)=true:=by rw[hk];rfl
   have y5:(m.k==5)=false:=by rw[hk];rfl
   have ae:mgE m=elem 110 [tkE m.ap.t,elem 4 m.ap.a].flatten:=by rw[e];rfl
   have hO:∀l,mgE m=l->l.length<=2000->mgO m=some l:=fun l e2 h2=>Br.2 ⟨hx,by rw[e2];exact h2,e2⟩
   have hN:∀l,mgE m=l->¬l.length<=2000->mgO m=none:=fun l e2 h2=>by unfold mgO limO;rw[e2,if_neg (fun h=>h2 h.2)]
   have HO:=I (hO _ ae);have HN:=I (hN _ ae);have T1:=I (fun Z (h:Below w.heap.size w Z)=>IV m.ap.t A5 c5 Z.heap.size Z (by omega) (by omega) (by omega) ((r5.below h).more h.size) Af);have T2:=I (fun Z (h:Below w.heap.size w Z)=>DerR.Cq m.ap.a A6 m.ap.a.length c6 Z.heap.size Z ((r6.below h).more h.size) rfl Af (by omega));have hl:[tkE m.ap.t,elem 4 m.ap.a].flatten.length<=60000:=by rw[Db];simp only[List.length_append];omega
   have ab:[tkE m.ap.t,elem 4 m.ap.a].flatten.length<=1990:=by rw[Db];simp only[List.length_append];omega
   have HL:=I (show [tkE m.ap.t,elem 4 m.ap.a].flatten.length<=65535 by omega);have hE:=Az 110 [tkE m.ap.t,elem 4 m.ap.a].flatten;rw[Db] at hE hl HO HN ab;obtain⟨l1,ao⟩:∃l,l=tkE m.ap.t:=⟨_,rfl⟩;obtain⟨l2,an⟩:∃l,l=elem 4 m.ap.a:=⟨_,rfl⟩;rw[<-ao] at T1 HL hE hl HO HN ab;rw[<-an] at T2 HL hE hl HO HN ab;have ad:(elem 110 (l1++l2)).length<=2000:=by omega
   have LM:=I (fun A c Z=>DM (elem 110 (l1++l2)) A _ c Z rfl ad);rw[HO.o ad];clear h1 e h' hx ae hO hN hk hs r1 r2 r3 r4 r5 r6 hE hl ab b1 b2 b3 b4 b5 ao an HO HN ad;go_enter Tryz.func29,Tryz.ntmps29
   go_wp2_with (first
    |(refine Ad (by rfl) 61 (.tmp 1) (by rfl) w.heap.size 0 (by rfl) cs _ (Ac (Blk.new w 61 cs)) Tryz.underlying61 (by rfl) HI.o ?_)
    |(go_at_call 61;refine Ah (I1.o _) ?_;rintro w0 O;replace M:=I (M.o.below O);replace X:=X.t O;clear O I1;replace M:=I (EC.o▸M.o);have k0:=M.c0)
    |fail)
   clear k0;replace M:=I (show Blk w0.drew _ _ _ from M.o.drewN 1);replace X:=I (show Below _ _ w0.drew from below_drewN X.o 1)
   go_region_held3 (fun w'=>w'.cell? ⟨w.heap.size,23,none⟩=some (.string ⟨m.ap.t.s.1.toArray⟩)/\w'.cell? ⟨w.heap.size,24,none⟩=some (.string ⟨m.ap.t.s.2.toArray⟩)/\w'.cell? ⟨w.heap.size,25,none⟩=some (.int .i64 m.ap.t.k)/\w'.cell? ⟨w.heap.size,26,none⟩=some (.slice A5 m.ap.t.b.length c5)/\w'.cell? ⟨w.heap.size,27,none⟩=some (.slice A6 m.ap.a.length c6)) (first | exact⟨M.o.cell 23,M.o.cell 24,M.o.cell 25,M.o.cell 26,M.o.cell 27⟩ | exact⟨(M.o.alloc _).cell 23,(M.o.alloc _).cell 24,(M.o.alloc _).cell 25,(M.o.alloc _).cell 26,(M.o.alloc _).cell 27⟩) ((first
    |(go_at_call 66;(with_reducible refine Calls.mono (T1.o _ X.o) ?_);rintro e Z ⟨⟨g1,c1,rfl,ax,av,af⟩,O⟩;clear T1;have Y:=I af;replace M:=I (M.o.below O);replace X:=X.t O;clear O af ax av)
    |(go_at_call 67;(with_reducible refine Calls.mono (T2.o _ X.o) ?_);rintro e w2 ⟨⟨g2,c2,rfl,aw,ar,ag⟩,O⟩;clear T2;replace Y:=I (AR Y.o O);have aa:=I ag;replace M:=I (M.o.below O);replace X:=X.t O;clear O ag aw ar)
    |(go_at_call 63;refine Calls.mono (BY 110 [l1,l2] _ 2 2 (w2.heap.size+1) _ (Hj Y.o aa.o) rfl (by simp) HL.o (by simp)) ?_;rintro e wz ⟨⟨gz,cz,rfl,aj,ah,al⟩,O⟩;have ak:=(Below.refl w2.heap.size w2).alloc Af (.cells #[.slice (some ⟨g1,0,none⟩) l1.length c1,.slice (some ⟨g2,0,none⟩) l2.length c2] 24);have HG:=I (Ba (l:=elem 110 [l1,l2].flatten) ⟨⟨gz,cz,rfl,aj,ah,al⟩,O⟩ (X.o.trans (ak.mono X.o.size)));rw[Db] at HG;replace M:=I ((M.o.alloc (.cells #[.slice (some ⟨g1,0,none⟩) l1.length c1,.slice (some ⟨g2,0,none⟩) l2.length c2] 24)).below O);clear ak aj ah al O)
    |(go_at_call 62;refine Ah (LM.o _ _ _) ?_;rintro wy rfl)))
   go_wp2
   go_ret2
   exact Dl HG.o
  ·have h':=h1
   have b1:=AE m.fa.e;have b2:=AE m.fa.no;have hk:m.k=5:=by rw[e]
   have y1:(m.k==1)=false:=by rw[hk];rfl
   have y2:(m.k==2)=false:=by rw[hk];rfl
   have y3:(m.k==3)=false:=by rw[hk];rfl
   have y4:(m.k==4)=false:=by rw[hk];rfl
   have y5:(m.k==5)=true:=by rw[hk];rfl
   have ae:mgE m=elem 126 [encI m.fa.e,encI m.fa.no].flatten:=by rw[e];rfl
   have hO:∀l,mgE m=l->l.length<=2000->mgO m=some l:=fun l e2 h2=>Br.2 ⟨hx,by rw[e2];exact h2,e2⟩
   have hN:∀l,mgE m=l->¬l.length<=2000->mgO m=none:=fun l e2 h2=>by unfold mgO limO;rw[e2,if_neg (fun h=>h2 h.2)]
   have HO:=I (hO _ ae);have HN:=I (hN _ ae);have T1:=I (fun Z=>DerR.Bk m.fa.e Z);have T2:=I (fun Z=>DerR.Bk m.fa.no Z);have hl:[encI m.fa.e,encI m.fa.no].flatten.length<=60000:=by rw[Db];simp only[List.length_append];omega
   have ab:[encI m.fa.e,encI m.fa.no].flatten.length<=1990:=by rw[Db];simp only[List.length_append];omega
   have HL:=I (show [encI m.fa.e,encI m.fa.no].flatten.length<=65535 by omega);have hE:=Az 126 [encI m.fa.e,encI m.fa.no].flatten;rw[Db] at hE hl HO HN ab;obtain⟨l1,ao⟩:∃l,l=encI m.fa.e:=⟨_,rfl⟩;obtain⟨l2,an⟩:∃l,l=encI m.fa.no:=⟨_,rfl⟩;rw[<-ao] at T1 HL hE hl HO HN ab;rw[<-an] at T2 HL hE hl HO HN ab;have ad:(elem 126 (l1++l2)).length<=2000:=by omega
   have LM:=I (fun A c Z=>DM (elem 126 (l1++l2)) A _ c Z rfl ad);rw[HO.o ad];clear h1 e h' hx ae hO hN hk hs r1 r2 r3 r4 r5 r6 hE hl ab b1 b2 ao an HO HN ad;go_enter Tryz.func29,Tryz.ntmps29
   go_wp2_with (first
    |(refine Ad (by rfl) 61 (.tmp 1) (by rfl) w.heap.size 0 (by rfl) cs _ (Ac (Blk.new w 61 cs)) Tryz.underlying61 (by rfl) HI.o ?_)
    |(go_at_call 61;refine Ah (I1.o _) ?_;rintro w0 O;replace M:=I (M.o.below O);replace X:=X.t O;clear O I1;replace M:=I (EC.o▸M.o);have k0:=M.c0)
    |fail)
   clear k0;replace M:=I (show Blk w0.drew _ _ _ from M.o.drewN 1);replace X:=I (show Below _ _ w0.drew from below_drewN X.o 1)
   go_region_held3 (fun w'=>w'.cell? ⟨w.heap.size,28,none⟩=some (.int .i64 m.fa.e)/\w'.cell? ⟨w.heap.size,29,none⟩=some (.int .i64 m.fa.no)) (first | exact⟨M.o.cell 28,M.o.cell 29⟩ | exact⟨(M.o.alloc _).cell 28,(M.o.alloc _).cell 29⟩) ((first
    |(go_at_call 65;(with_reducible refine Calls.mono (T1.o _) ?_);rintro e Z ⟨⟨g1,c1,rfl,ax,av,af⟩,O⟩;clear T1;have Y:=I af;replace M:=I (M.o.below O);replace X:=X.t O;clear O af ax av)
    |(go_at_call 65;(with_reducible refine Calls.mono (T2.o _) ?_);rintro e w2 ⟨⟨g2,c2,rfl,aw,ar,ag⟩,O⟩;clear T2;replace Y:=I (AR Y.o O);have aa:=I ag;replace M:=I (M.o.below O);replace X:=X.t O;clear O ag aw ar)
    |(go_at_call 63;refine Calls.mono (BY 126 [l1,l2] _ 2 2 (w2.heap.size+1) _ (Hj Y.o aa.o) rfl (by simp) HL.o (by simp)) ?_;rintro e wz ⟨⟨gz,cz,rfl,aj,ah,al⟩,O⟩;have ak:=(Below.refl w2.heap.size w2).alloc Af (.cells #[.slice (some ⟨g1,0,none⟩) l1.length c1,.slice (some ⟨g2,0,none⟩) l2.length c2] 24);have HG:=I (Ba (l:=elem 126 [l1,l2].flatten) ⟨⟨gz,cz,rfl,aj,ah,al⟩,O⟩ (X.o.trans (ak.mono X.o.size)));rw[Db] at HG;replace M:=I ((M.o.alloc (.cells #[.slice (some ⟨g1,0,none⟩) l1.length c1,.slice (some ⟨g2,0,none⟩) l2.length c2] 24)).below O);clear ak aj ah al O)
    |(go_at_call 62;refine Ah (LM.o _ _ _) ?_;rintro wy rfl)))
   go_wp2
   go_ret2
   exact Dl HG.o
theorem Nu (m:Mg) (A1 A2 A3 A4 A5 M:Option Addr) (c1 c2 c3 c4 c5 O:Nat) (w:World) (hs:mSm m) (aa:m.k=1\/m.k=3) (hT:m.tg=tg0) (hA:m.ap=ap0) (r1:Rd w w.heap.size A1 (bvs m.tg.t.b)) (r2:Rd w w.heap.size A2 (bvs m.tg.a)) (r3:Rd w w.heap.size A3 (bvs m.re.t.b)) (Y:Rd w w.heap.size A4 (bvs m.re.b)) (X:Rd w w.heap.size A5 (bvs m.ap.t.b)) (Z:Rd w w.heap.size M (bvs m.ap.a)) :
  Calls Tryz.prog 29 #[.agg #[.int .i64 m.k,.string ⟨m.aq.c.1.toArray⟩,.string ⟨m.aq.c.2.toArray⟩,.string ⟨m.aq.s.1.toArray⟩,.string ⟨m.aq.s.2.toArray⟩,.int .i64 m.aq.t,.int .i64 m.aq.no,.string ⟨m.tg.t.s.1.toArray⟩,.string ⟨m.tg.t.s.2.toArray⟩,.int .i64 m.tg.t.k,.slice A1 m.tg.t.b.length c1,.slice A2 m.tg.a.length c2,.string ⟨m.tg.s.1.toArray⟩,.string ⟨m.tg.s.2.toArray⟩,.int .i64 m.tg.u,.int .i64 m.tg.no,.string ⟨m.re.c.1.toArray⟩,.string ⟨m.re.c.2.toArray⟩,.string ⟨m.re.t.s.1.toArray⟩,.string ⟨m.re.t.s.2.toArray⟩,.int .i64 m.re.t.k,.slice A3 m.re.t.b.length c3,.slice A4 m.re.b.length c4,.string ⟨m.ap.t.s.1.toArray⟩,.string ⟨m.ap.t.s.2.toArray⟩,.int .i64 m.ap.t.k,.slice A5 m.ap.t.b.length c5,.slice M m.ap.a.length O,.int .i64 m.fa.e,.int .i64 m.fa.no]] w (EncR w (mgO m)):=
 Lj m A1 A2 A3 A4 A5 M c1 c2 c3 c4 c5 O w hs r1 r2 r3 Y X Z
end Ms
end Go.Proofs.YtlccngianpfalaaGreat
