import Derived.Test.YthgignaohimadaaGreatZKdcRoutes11
set_option maxHeartbeats 25600000
set_option maxRecDepth 100000
set_option linter.unusedVariables false
set_option linter.unusedSimpArgs false
namespace Go.Proofs.YthgignaohimadaaGreat
namespace Rt
open Go.RowKit Af Nm
theorem Ej (ls:List L) (A:Option Addr) (c B:Nat) (r:L) (w:World) (hl:ls.length<=9000000000000000) (M:Rd w B A (strs ls)) :
  Calls Tryz.prog 45 #[.slice A ls.length c,.string ⟨r.toArray⟩] w fun e w'=>e=.returned (.int .i64 (Tr.ixL r ls))/\w=w':=by
 have O:=I M;clear M;obtain⟨n,en⟩:=Ak (ls.length);rw[<-en] at hl⊢;have D:=I en;clear en;go_enter Tryz.func45,Tryz.ntmps45
 go_wp2
 go_loop [5] (fun J=>∃i:Nat,i<=n/\J=.int .i64 (i:Int)/\∀k,k<i->pl ls k≠r) (fun J=>n - (intOf J).toNat)
 case atStart=>exact⟨0,Nat.zero_le _,rfl,fun k h=>absurd h (Nat.not_lt_zero k)⟩
 case round=>
  obtain⟨i,hi,rfl,N⟩:=hrel;have F:=I N;clear N
  by_cases hlt:i<n
  ·have e1:(i:Int)<(n:Int):=by omega
   have e2:(0:Int)<=(i:Int):=by omega
   obtain⟨b,o,rfl,_,h1⟩:=CQ O.o (i:=i) (by rw[<-D.o];exact hlt)
   by_cases hx:pl ls i=r
   ·have Z:(pl ls i==r)=true:=by simpa using hx
    have E:=I (Tr.Px (by rw[<-D.o];exact hlt) hx F.o);clear hx
    go_wp2
    go_ret;exact⟨by rw[E.o];rfl,rfl⟩
   ·have Z:(pl ls i==r)=false:=by simpa using hx
    have HX:=I hx;clear hx
    go_wp2
    go_round
    case rel=>exact⟨i+1,by omega,by go_num,fun k hk=>by
     by_cases q:k=i
     ·rw[q];exact HX.o
     ·exact F.o k (by omega)⟩
    case measure=>simp [intOf];omega
  ·have e1:¬(i:Int)<(n:Int):=by omega
   have E:=I (Tr.SQ (ls:=ls) (r:=r) fun k hk=>F.o k (by have:=D.o;omega))
   go_wp2
   go_ret;exact⟨by rw[E.o];rfl,rfl⟩
theorem Dw {ls:List L} {r:L} (h:r∈ls):∃z:Int,z=Tr.ixL r ls/\0<=z:=⟨_,rfl,by have:=Tr.Zk r ls;simpa [h] using this⟩
theorem DL {ls:List L} {r:L} (h:r∉ls):∃z:Int,z=Tr.ixL r ls/\z<0:=⟨_,rfl,by have:=Tr.Zk r ls;simpa [h] using this⟩
theorem Vi {w:World} {B b o i:Nat} {ls:List L} (h:Rd w B (some ⟨b,o,none⟩) (strs ls)) (hi:i<ls.length):w.cell? ⟨b,o+i,none⟩=some (.string ⟨(pl ls i).toArray⟩):=by
 obtain⟨F,E,e,_,D⟩:=CQ h hi;injection e with e;injection e with e1 e2;subst e1;subst e2;exact D
theorem Pb (ls:List L) (A:Option Addr) (c B:Nat) (w:World) (hl:ls.length<=1000000) (hc:ls.length<=c) (hr:Rd w B A (strs ls)) (hB:B<=w.heap.size) (hs:∀i,i<ls.length->(pl ls i).length<=1000000000) :
  Calls Tryz.prog 85 #[.slice A ls.length c] w fun e w'=>e=.returned (.bool (BJ ls&&(decide (1<=ls.length)&&decide (ls.length<=6))))/\Below w.heap.size w w':=by
 obtain⟨N,eN⟩:=Ak (w.heap.size);rw[<-eN] at hB⊢;have bB:=I (show Below N w w from Below.refl _ _);have bz:=I eN;clear eN;have Z:=I (show ∀w1:World,Below N w w1->N<=w1.heap.size from fun w1 h=>by have:=h.size;have:=bz.o;omega);have HR:=I hr;clear hr;have IS:=I (fun(i:Nat) (h:i<ls.length) w1=>NI (pl ls i) w1 (hs i h));have PL:=I (fun(i:Nat) (hi:i<ls.length) w1 (h:Rd w1 B A (strs ls))=>Ej (ls.take i) A c B (pl ls i) w1 (by simp;omega) (Lr h (by omega)));have EQ:=I (show BJ ls=(ls.all isL&&decide ls.Nodup) from rfl);obtain⟨n,en⟩:=Ak (ls.length);rw[<-en] at hl hc⊢;have EN:=I en;clear en hs;go_enter Tryz.func85,Tryz.ntmps85
 go_wp2
 go_loopw [3] (fun iv wr=>∃i:Nat,i<=n/\iv=.int .i64 (i:Int)/\(ls.take i).all isL=true/\(ls.take i).Nodup/\Below N w wr) (fun iv _=>n - (intOf iv).toNat)
 case atStart=>exact⟨0,Nat.zero_le _,rfl,by simp,by simp,bB.o⟩
 case round=>
  obtain⟨i,hi,rfl,hn,hd,M⟩:=hrel;have HN:=I hn;clear hn;have HD:=I hd;clear hd;have J:=I M;clear M
  by_cases hlt:i<n
  ·have e1:(i:Int)<(n:Int):=by omega
   have e2:(0:Int)<=(i:Int):=by omega
   have e3:(i:Int)<=(c:Int):=by omega
   have D:i<ls.length:=by rw[<-EN.o];exact hlt
   have hlen:(ls.take i).length=i:=by simp;omega
   have c1:=IS.o i D;have c2:=PL.o i D;rw[hlen] at c2;have aw:=all_succ (p:=isL) D;rw[HN.o,Bool.true_and,<-Ct D] at aw;have O:=Dz D;rw[<-Ct D] at O;have F:=I (HR.o.below (J.o.mono hB));obtain⟨b,o,eA,_,h1⟩:=CQ F.o D;subst eA;cases hx:isL (pl ls i) with
   |false=>
    rw[hx] at c1;have E:=I (show BJ ls=false by
     rw[EQ.o,all_false D (by rw[<-Ct D];exact hx)];rfl)
    clear c2 aw O hx
    go_wp2
    replace J:=I (below_drewN J.o 1);have HC:=I (show ∀w',Reg.Ez wr.drew w'->w'.cell? ⟨b,o+i,none⟩=some (.string ⟨(pl ls i).toArray⟩) from fun w' hS=>Vi ((F.o.drewN 1).below (w':=w') (hS.mono (Nat.le_trans hB (Z.o _ J.o)))) D);clear h1 D hlen;refine Reg.FA 17 rfl (by kernel_rfl) ?_;refine Reg.tz 0 rfl ?_;refine Reg.tz 1 rfl ?_;refine Reg.tz 2 rfl ?_;refine Reg.tx 3 rfl (fun w' hS=>by have hh:=HC.o w' hS;go_simp;rfl) ?_;refine Reg.JP 4 rfl (by kernel_rfl) (by rfl) 13 #[.string ⟨(pl ls i).toArray⟩] (by go_simp) ?_;refine Aj (c1 _) ?_;rintro w1 M;refine⟨_,rfl,M,?_⟩;have H1:=I (J.o.trans (M.mono (Z.o _ J.o)));clear M;simp only[Act.put,U,Aa,Ab];refine Reg.tz 5 rfl ?_;refine Reg.tz 6 rfl ?_;refine Reg.sk 7 rfl ?_;refine Reg.sk 8 rfl ?_;refine Reg.sk 9 rfl ?_;refine Reg.sk 10 rfl ?_;refine Reg.sk 11 rfl ?_;refine Reg.sk 12 rfl ?_;refine Reg.sk 13 rfl ?_;refine Reg.sk 14 rfl ?_;refine Reg.sk 15 rfl ?_;refine Reg.tz 16 rfl ?_;refine wpAnyH_done (by kernel_rfl) ?_ _
    go_wp2
    go_ret;exact⟨by rw[E.o];rfl,H1.o⟩
   |true=>
    rw[hx] at c1;have C1:=I c1;have C2:=I c2;clear c1 c2;have HC:=I (fun w' (h:Rd w' B (some ⟨b,o,none⟩) (strs ls))=>Vi h D)
    by_cases hy:pl ls i∈ls.take i
    ·obtain⟨z,ez,hz⟩:=Dw hy
     rw[<-ez] at C2;have z1:decide (0<=z)=true:=decide_eq_true hz;have E:=I (show BJ ls=false by
      rw[EQ.o,decide_eq_false (fun h=>(O.1 (FO h)).2 hy)];simp)
     clear ez hy hz hx aw O D hlen
     go_wp2
     replace J:=I (below_drewN J.o 1);replace F:=I (F.o.drewN 1)
     go_region_held3 (fun w'=>w'.cell? ⟨b,o+i,none⟩=some (.string ⟨(pl ls i).toArray⟩)) (exact HC.o _ F.o) ((first
      |(go_at_call 13;refine Aj (C1.o _) ?_;rintro w1 M;replace F:=I (F.o.below (M.mono (Nat.le_trans hB (Z.o _ J.o))));replace J:=I (J.o.trans (M.mono (Z.o _ J.o)));clear M)
      |(go_at_call 45;refine Aj (C2.o _ F.o) ?_;rintro w2 rfl)))
     go_wp2
     go_ret;exact⟨by rw[E.o];rfl,J.o⟩
    ·obtain⟨z,ez,hz⟩:=DL hy
     rw[<-ez] at C2;have z1:decide (0<=z)=false:=decide_eq_false (by omega);have E:=I (aw.trans hx);have E2:=I (O.2 ⟨HD.o,hy⟩);clear ez hy hz hx aw O D hlen
     go_wp2
     replace J:=I (below_drewN J.o 1);replace F:=I (F.o.drewN 1)
     go_region_held3 (fun w'=>w'.cell? ⟨b,o+i,none⟩=some (.string ⟨(pl ls i).toArray⟩)) (exact HC.o _ F.o) ((first
      |(go_at_call 13;refine Aj (C1.o _) ?_;rintro w1 M;replace F:=I (F.o.below (M.mono (Nat.le_trans hB (Z.o _ J.o))));replace J:=I (J.o.trans (M.mono (Z.o _ J.o)));clear M)
      |(go_at_call 45;refine Aj (C2.o _ F.o) ?_;rintro w2 rfl)))
     go_wp2
     go_roundw
     case rel=>exact⟨i+1,by omega,by go_num,E.o,E2.o,J.o⟩
     case measure=>simp [intOf];omega
  ·have e1:¬(i:Int)<(n:Int):=by omega
   have bx:ls.length<=i:=by have:=EN.o;omega
   have E:=I (show BJ ls=true by
    have h:=HD.o;rw[List.take_of_length_le bx] at h;rw[EQ.o,Dk bx HN.o,decide_eq_true h];rfl)
   by_cases q1:1<=n
   ·have t1:decide ((1:Int)<=(n:Int))=true:=by simp;omega
    by_cases q2:n<=6
    ·have t2:decide ((n:Int)<=6)=true:=by simp;omega
     have E2:=I (show(BJ ls&&(decide (1<=n)&&decide (n<=6)))=true by rw[E.o,decide_eq_true q1,decide_eq_true q2];rfl);clear q1 q2
     go_wp2
     go_ret;exact⟨by rw[E2.o];rfl,J.o⟩
    ·have t2:decide ((n:Int)<=6)=false:=by simp;omega
     have E2:=I (show(BJ ls&&(decide (1<=n)&&decide (n<=6)))=false by rw[decide_eq_false q2];simp);clear q1 q2
     go_wp2
     go_ret;exact⟨by rw[E2.o];rfl,J.o⟩
   ·have t1:decide ((1:Int)<=(n:Int))=false:=by simp;omega
    have E2:=I (show(BJ ls&&(decide (1<=n)&&decide (n<=6)))=false by rw[decide_eq_false q1];simp);clear q1
    go_wp2
    go_ret;exact⟨by rw[E2.o];rfl,J.o⟩
theorem Vj (p:Pa) (T:Tp) (v u:Value) (B:Nat) (w:World) (hs:Sm T) (hp:p.v.length<=3000) (hv:TpV w B v T) (hu:PaV w B u p) (hB:B<=w.heap.size) (hq:Db T.R (p.f,p.t)=true) (h4:p.v.length<=4) :
  Calls Tryz.prog 86 #[v,u] w fun e w'=>e=.returned (.bool (viaB T.R p))/\Below w.heap.size w w':=by
 obtain⟨v1,v2,v3,rfl,⟨A1,d1,rfl,cx,r1⟩,⟨A2,d2,rfl,cu,r2⟩,⟨A3,d3,rfl,cB,r3⟩⟩:=hv;obtain⟨u1,rfl,⟨A5,d5,rfl,ct,r5⟩⟩:=hu;have ck:=(Below.refl w.heap.size w).alloc Ag (.cells #[.slice A1 T.R.length d1,.slice A2 T.K.length d2,.slice A3 T.P.length d3] 74);have cb:=ck.alloc ck.size (.cells #[.string ⟨p.f.toArray⟩,.string ⟨p.t.toArray⟩,.slice A5 p.v.length d5] 186);have N:=I cb;have F:=I (Blk.new (w.alloc (.cells #[.slice A1 T.R.length d1,.slice A2 T.K.length d2,.slice A3 T.P.length d3] 74)) 186 #[.string ⟨p.f.toArray⟩,.string ⟨p.t.toArray⟩,.slice A5 p.v.length d5]);have ca:=I ((Blk.new w 74 #[.slice A1 T.R.length d1,.slice A2 T.K.length d2,.slice A3 T.P.length d3]).alloc (.cells #[.string ⟨p.f.toArray⟩,.string ⟨p.t.toArray⟩,.slice A5 p.v.length d5] 186));have HR:=I (r1.below (cb.mono hB));have HV:=I (r5.below (cb.mono hB));have PR:=I (fun x w1 (h:Rd w1 B A1 (strs T.R))=>Ej T.R A1 d1 B x w1 (by have:=hs.r;omega) h);have PV:=I (fun(i:Nat) (hi:i<p.v.length) w1 (h:Rd w1 B A5 (strs p.v))=>Ej (p.v.take i) A5 d5 B (pl p.v i) w1 (by simp;omega) (Lr h (by omega)));rw[Db,Bool.and_eq_true,Bool.and_eq_true,decide_eq_true_eq,decide_eq_true_eq,decide_eq_true_eq] at hq;obtain⟨cj,hf,ht⟩:=hq;simp only at cj hf ht;have t1:(p.f==p.t)=false:=by simpa using cj
 obtain⟨z1,cp,cA⟩:=Dw hf;obtain⟨z2,cm,cy⟩:=Dw ht;have c1:=PR.o p.f;have c2:=PR.o p.t;rw[<-cp] at c1;rw[<-cm] at c2;have s1:decide (z1<0)=false:=decide_eq_false (by omega);have s2:decide (z2<0)=false:=decide_eq_false (by omega);have EQ:=I (show viaB T.R p=(p.v.all (onB T.R p)&&decide p.v.Nodup) by rw[viaB,decide_eq_true h4];rfl);obtain⟨n,en⟩:=Ak (p.v.length);obtain⟨m,em⟩:=Ak (T.R.length);clear ck cb;rw[<-en] at N ca F HR HV ct h4 hp;rw[<-em] at N ca F HR HV PR c1 c2;rw[<-en,<-em];have s3:decide (4<(n:Int))=false:=by simp;omega
 have EN:=I en;clear en em cp cm cA cy cj hf ht r1 r2 r3 r5 hB hs cx cu cB h4;have C1:=I c1;have C2:=I c2;clear c1 c2;go_enter Tryz.func86,Tryz.ntmps86
 go_wp2_with (first
  |(go_at_call 45;with_reducible refine Aj (C1.o _ HR.o) ?_;rintro w1 rfl;clear C1)
  |(go_at_call 45;with_reducible refine Aj (C2.o _ HR.o) ?_;rintro w1 rfl;clear C2))
 obtain⟨W,eW⟩:=Ak ((w.alloc (.cells #[.slice A1 m d1,.slice A2 T.K.length d2,.slice A3 T.P.length d3] 74)).alloc (.cells #[.string ⟨p.f.toArray⟩,.string ⟨p.t.toArray⟩,.slice A5 n d5] 186));rw[<-eW] at N ca F HR HV⊢;clear eW;have cq:(w.alloc (.cells #[.slice A1 m d1,.slice A2 T.K.length d2,.slice A3 T.P.length d3] 74)).heap.size=w.heap.size+1:=by simp
 rw[cq] at F;clear cq
 go_loopw [5] (fun iv wr=>∃i:Nat,i<=n/\iv=.int .i64 (i:Int)/\(p.v.take i).all (onB T.R p)=true/\(p.v.take i).Nodup/\AW W wr) (fun iv _=>n - (intOf iv).toNat)
 case atStart=>exact⟨0,Nat.zero_le _,rfl,by simp,by simp,AW.refl _⟩
 case round=>
  obtain⟨i,hi,rfl,hn,J,hd⟩:=hrel;have HN:=I hn;clear hn;have cr:=I J;clear J;have O:=I (show Rd wr B A1 (strs T.R) by obtain⟨q,rfl⟩:=hd;exact HR.o.drewN q);have Z:=I (show Rd wr B A5 (strs p.v) by obtain⟨q,rfl⟩:=hd;exact HV.o.drewN q);have k0:wr.cell? ⟨w.heap.size,0,none⟩=some (.slice A1 m d1):=by obtain⟨q,rfl⟩:=hd;exact ca.o.cell 0
  have k1:wr.cell? ⟨w.heap.size+1,0,none⟩=some (.string ⟨p.f.toArray⟩):=by obtain⟨q,rfl⟩:=hd;exact F.o.cell 0
  have k2:wr.cell? ⟨w.heap.size+1,1,none⟩=some (.string ⟨p.t.toArray⟩):=by obtain⟨q,rfl⟩:=hd;exact F.o.cell 1
  have k3:wr.cell? ⟨w.heap.size+1,2,none⟩=some (.slice A5 n d5):=by obtain⟨q,rfl⟩:=hd;exact F.o.cell 2
  have M:=I hd;clear hd
  by_cases hlt:i<n
  ·have e1:(i:Int)<(n:Int):=by omega
   have e2:(0:Int)<=(i:Int):=by omega
   have e3:(i:Int)<=(d5:Int):=by omega
   have D:i<p.v.length:=by rw[<-EN.o];exact hlt
   have hlen:(p.v.take i).length=i:=by simp;omega
   have C4:=I (PV.o i D);rw[hlen] at C4;have bB:=all_succ (p:=onB T.R p) D;rw[HN.o,Bool.true_and,<-Ct D] at bB;have cc:=all_false (p:=onB T.R p) D;rw[<-Ct D] at cc;have J:=Dz D;rw[<-Ct D] at J;obtain⟨b,o,eA,_,h1⟩:=CQ Z.o D;subst eA;obtain⟨x,ex⟩:=Ak (pl p.v i);rw[<-ex] at bB cc J h1 C4;have C3:=I (PR.o x);have cw:=I bB;have cg:=I cc;have cf:=I J;clear ex D hlen bB cc J
   by_cases q1:x∈T.R
   ·obtain⟨y1,bx,cd⟩:=Dw q1
    rw[<-bx] at C3;have s4:decide (y1<0)=false:=decide_eq_false (by omega);have Q1:=I q1;clear bx cd q1
    by_cases q2:x∈p.v.take i
    ·obtain⟨y2,aw,bz⟩:=Dw q2
     rw[<-aw] at C4;have s5:decide (0<=y2)=true:=decide_eq_true bz;have E:=I (show viaB T.R p=false by rw[EQ.o,decide_eq_false (fun h=>(cf.o.1 (FO h)).2 q2)];simp);clear aw bz q2
     go_wp2
     go_quiet (first
      |(go_at_call 45;with_reducible refine Aj (C3.o _ (O.o.drewN _)) ?_;rintro w9 rfl;exact⟨rfl,_,rfl⟩)
      |(go_at_call 45;with_reducible refine Aj (C4.o _ (Z.o.drewN _)) ?_;rintro w9 rfl;exact⟨rfl,_,rfl⟩))
     go_wp2
     go_ret;exact⟨by rw[E.o];rfl,N.o.trans ((M.o.trans ⟨_,rfl⟩).below.mono N.o.size)⟩
    ·obtain⟨y2,aw,bz⟩:=DL q2
     rw[<-aw] at C4;have s5:decide (0<=y2)=false:=decide_eq_false (by omega);have E2:=I (cf.o.2 ⟨cr.o,q2⟩);clear aw bz q2
     by_cases q3:x=p.f
     ·have t3:(x==p.f)=true:=by simpa using q3
      have E:=I (show viaB T.R p=false by rw[EQ.o,cg.o (by rw[onB,decide_eq_false (fun h=>h q3)];rfl)];rfl);clear q3
      go_wp2
      go_quiet (first
       |(go_at_call 45;with_reducible refine Aj (C3.o _ (O.o.drewN _)) ?_;rintro w9 rfl;exact⟨rfl,_,rfl⟩)
       |(go_at_call 45;with_reducible refine Aj (C4.o _ (Z.o.drewN _)) ?_;rintro w9 rfl;exact⟨rfl,_,rfl⟩))
      go_wp2
      go_ret;exact⟨by rw[E.o];rfl,N.o.trans ((M.o.trans ⟨_,rfl⟩).below.mono N.o.size)⟩
     ·have t3:(x==p.f)=false:=by simpa using q3
      by_cases q4:x=p.t
      ·have t4:(x==p.t)=true:=by simpa using q4
       have E:=I (show viaB T.R p=false by rw[EQ.o,cg.o (by rw[onB,decide_eq_false (p:=x≠p.t) (fun h=>h q4)];simp)];rfl);clear q3 q4
       go_wp2
       go_quiet (first
        |(go_at_call 45;with_reducible refine Aj (C3.o _ (O.o.drewN _)) ?_;rintro w9 rfl;exact⟨rfl,_,rfl⟩)
        |(go_at_call 45;with_reducible refine Aj (C4.o _ (Z.o.drewN _)) ?_;rintro w9 rfl;exact⟨rfl,_,rfl⟩))
       go_wp2
       go_ret;exact⟨by rw[E.o];rfl,N.o.trans ((M.o.trans ⟨_,rfl⟩).below.mono N.o.size)⟩
      ·have t4:(x==p.t)=false:=by simpa using q4
       have E:=I (cw.o.trans (show onB T.R p x=true by rw[onB,decide_eq_true q3,decide_eq_true q4,decide_eq_true Q1.o];rfl));clear q3 q4
       go_wp2
       go_quiet (first
        |(go_at_call 45;with_reducible refine Aj (C3.o _ (O.o.drewN _)) ?_;rintro w9 rfl;exact⟨rfl,_,rfl⟩)
        |(go_at_call 45;with_reducible refine Aj (C4.o _ (Z.o.drewN _)) ?_;rintro w9 rfl;exact⟨rfl,_,rfl⟩))
       go_wp2
       go_roundw
       case rel=>exact⟨i+1,by omega,by go_num,E.o,E2.o,M.o.trans ⟨_,rfl⟩⟩
       case measure=>simp [intOf];omega
   ·obtain⟨y1,bx,cd⟩:=DL q1
    rw[<-bx] at C3;have s4:decide (y1<0)=true:=decide_eq_true cd;have E:=I (show viaB T.R p=false by rw[EQ.o,cg.o (by rw[onB,decide_eq_false q1];simp)];rfl);clear bx cd q1
    go_wp2
    go_quiet (first
     |(go_at_call 45;with_reducible refine Aj (C3.o _ (O.o.drewN _)) ?_;rintro w9 rfl;exact⟨rfl,_,rfl⟩))
    go_wp2
    go_ret;exact⟨by rw[E.o];rfl,N.o.trans ((M.o.trans ⟨_,rfl⟩).below.mono N.o.size)⟩
  ·have e1:¬(i:Int)<(n:Int):=by omega
   have cn:p.v.length<=i:=by have:=EN.o;omega
   have E:=I (show viaB T.R p=true by
    have h:=cr.o;rw[List.take_of_length_le cn] at h;rw[EQ.o,Dk cn HN.o,decide_eq_true h];rfl)
   go_wp2
   go_ret;exact⟨by rw[E.o];rfl,N.o.trans (M.o.below.mono N.o.size)⟩
theorem bl {R:List L} {p:Pa} (h:Db R (p.f,p.t)=true):Fe R p=viaB R p:=by rw[Fe,h];rfl
theorem fk {R:List L} {p:Pa} (h:p.f∉R):Fe R p=false:=by rw[Fe,Db];simp [h]
theorem fl {R:List L} {p:Pa} (h:p.t∉R):Fe R p=false:=by rw[Fe,Db];simp [h]
theorem fm {R:List L} {p:Pa} (h:p.f=p.t):Fe R p=false:=by rw[Fe,Db];simp [h]
theorem fo {R:List L} {p:Pa} (h:¬p.v.length<=4):Fe R p=false:=by rw[Fe,viaB,decide_eq_false h];simp
theorem Vk (p:Pa) (T:Tp) (v u:Value) (B:Nat) (w:World) (hs:Sm T) (hp:p.v.length<=3000) (hv:TpV w B v T) (hu:PaV w B u p) (hB:B<=w.heap.size) :
  Calls Tryz.prog 86 #[v,u] w fun e w'=>e=.returned (.bool (Fe T.R p))/\Below w.heap.size w w':=by
 by_cases hgood:Db T.R (p.f,p.t)=true/\p.v.length<=4
 ·rw[bl hgood.1]
  exact Vj p T v u B w hs hp hv hu hB hgood.1 hgood.2
 obtain⟨v1,v2,v3,rfl,⟨A1,d1,rfl,bx,r1⟩,⟨A2,d2,rfl,bB,r2⟩,⟨A3,d3,rfl,ca,r3⟩⟩:=hv;obtain⟨u1,rfl,⟨A5,d5,rfl,bz,r5⟩⟩:=hu;have aw:=(Below.refl w.heap.size w).alloc Ag (.cells #[.slice A1 T.R.length d1,.slice A2 T.K.length d2,.slice A3 T.P.length d3] 74);have Z:=aw.alloc aw.size (.cells #[.string ⟨p.f.toArray⟩,.string ⟨p.t.toArray⟩,.slice A5 p.v.length d5] 186);have HB:=I Z;have J:=I (r1.below (Z.mono hB));have PR:=I (fun x w1 (h:Rd w1 B A1 (strs T.R))=>Ej T.R A1 d1 B x w1 (by have:=hs.r;omega) h);have c1:=PR.o p.f;have c2:=PR.o p.t;have EA:=I (@fk T.R p);have EB:=I (@fl T.R p);have EC:=I (@fm T.R p);have ED:=I (@fo T.R p);have HG:=I (show ¬(p.f∈T.R/\p.t∈T.R/\p.f≠p.t/\p.v.length<=4) from fun h=>hgood ⟨by rw[Db];simp [h.1,h.2.1,h.2.2.1],h.2.2.2⟩);obtain⟨n,en⟩:=Ak (p.v.length);obtain⟨m,em⟩:=Ak (T.R.length);clear aw Z hgood;rw[<-en] at HB J ED HG hp;rw[<-em] at HB J PR c1 c2;rw[<-en,<-em];clear en em r1 r2 r3 r5 hB hs bx bB ca bz
 by_cases q1:p.f∈T.R
 ·obtain⟨z1,D,N⟩:=Dw q1
  rw[<-D] at c1;have s1:decide (z1<0)=false:=decide_eq_false (by omega);have M:=I c1;clear c1 D N
  by_cases q2:p.t∈T.R
  ·obtain⟨z2,F,O⟩:=Dw q2
   rw[<-F] at c2;have s2:decide (z2<0)=false:=decide_eq_false (by omega);have C2:=I c2;clear c2 F O
   by_cases q3:p.f=p.t
   ·have t3:(p.f==p.t)=true:=by simpa using q3
    have E:=I (EC.o q3);clear q1 q2 q3;go_enter Tryz.func86,Tryz.ntmps86
    go_wp2_with (first
     |(go_at_call 45;with_reducible refine Aj (M.o _ J.o) ?_;rintro w1 rfl;clear M)
     |(go_at_call 45;with_reducible refine Aj (C2.o _ J.o) ?_;rintro w1 rfl;clear C2))
    go_ret;exact⟨by rw[E.o];rfl,HB.o⟩
   ·have t3:(p.f==p.t)=false:=by simpa using q3
    have h4:¬n<=4:=fun h=>HG.o ⟨q1,q2,q3,h⟩
    have s3:decide (4<(n:Int))=true:=by simp;omega
    have E:=I (ED.o h4);clear q1 q2 q3 h4;go_enter Tryz.func86,Tryz.ntmps86
    go_wp2_with (first
     |(go_at_call 45;with_reducible refine Aj (M.o _ J.o) ?_;rintro w1 rfl;clear M)
     |(go_at_call 45;with_reducible refine Aj (C2.o _ J.o) ?_;rintro w1 rfl;clear C2))
    go_ret;exact⟨by rw[E.o];rfl,HB.o⟩
  ·obtain⟨z2,F,O⟩:=DL q2
   rw[<-F] at c2;have s2:decide (z2<0)=true:=decide_eq_true O;have C2:=I c2;clear c2 F O;have E:=I (EB.o q2);clear q1 q2;go_enter Tryz.func86,Tryz.ntmps86
   go_wp2_with (first
    |(go_at_call 45;with_reducible refine Aj (M.o _ J.o) ?_;rintro w1 rfl;clear M)
    |(go_at_call 45;with_reducible refine Aj (C2.o _ J.o) ?_;rintro w1 rfl;clear C2))
   go_ret;exact⟨by rw[E.o];rfl,HB.o⟩
 ·obtain⟨z1,D,N⟩:=DL q1
  rw[<-D] at c1;have s1:decide (z1<0)=true:=decide_eq_true N;have M:=I c1;clear c1 c2 D N;have E:=I (EA.o q1);clear q1;go_enter Tryz.func86,Tryz.ntmps86
  go_wp2_with (go_at_call 45;with_reducible refine Aj (M.o _ J.o) ?_;rintro w1 rfl;clear M)
  go_ret;exact⟨by rw[E.o];rfl,HB.o⟩
theorem isr_k {T:Tp} {i:Nat} (hi:i<T.K.length) (h:Db T.R (kl T.K i)=false):isT T=false:=by
 rw[Ge hi] at h;exact ZA (by rw[CS,all_false hi h];rfl)
theorem fp {T:Tp} {i k:Nat} (hi:i<T.K.length) (hk:k<i) (h:kl T.K k=kl T.K i):isT T=false:=by
 refine ZA ?_;rw[CS,decide_eq_false,Bool.and_false];intro D;rw[List.nodup_iff_pairwise_ne,List.pairwise_iff_getElem] at D;rw[Ge hi,Ge (by omega)] at h;exact D k i (by omega) hi hk h
theorem YH {T:Tp} (h:Gk T.P T.R=false):isT T=false:=by rw[isT,h];simp
theorem isr_p {T:Tp} {i:Nat} (hi:i<T.P.length) (h:Fe T.R (al T.P i)=false):isT T=false:=by
 rw[Kl hi] at h;exact YH (by rw[Lq,all_false hi h];rfl)
theorem Md {P:List Pa} {i:Nat} (hi:i<P.length):(Ee P)[i]'(by rw[BK];exact hi)=((al P i).f,(al P i).t):=by
 simp [Ee,Kl hi]
theorem fq {T:Tp} {i k:Nat} (hi:i<T.P.length) (hk:k<i) (E:(al T.P k).f=(al T.P i).f) (F:(al T.P k).t=(al T.P i).t):isT T=false:=by
 refine YH ?_;rw[Lq,decide_eq_false,Bool.and_false];intro D;rw[List.nodup_iff_pairwise_ne,List.pairwise_iff_getElem] at D;refine D k i (by rw[BK];omega) (by rw[BK];exact hi) hk ?_;rw[Md hi,Md (by omega),E,F]
theorem bm {T:Tp} (h:(BJ T.R&&(decide (1<=T.R.length)&&decide (T.R.length<=6)))=true) (J:T.K.length<=20) (M:T.P.length<=8) (E:T.K.all (Db T.R)=true) (N:T.K.Nodup) (D:T.P.all (Fe T.R)=true) (F:(Ee T.P).Nodup):isT T=true:=by
 rw[Bool.and_eq_true,Bool.and_eq_true] at h;rw[isT,h.1,h.2.1,h.2.2,decide_eq_true J,decide_eq_true M,CS,E,decide_eq_true N,Lq,D,decide_eq_true F];rfl
theorem isr_a {T:Tp} (h:(BJ T.R&&(decide (1<=T.R.length)&&decide (T.R.length<=6)))=false):isT T=false:=by
 rw[isT];cases h1:BJ T.R
 ·simp
 ·rw[h1,Bool.true_and] at h
  rw[h];rfl
theorem Kg {α:Type} {l:List α} {i:Nat} (hi:i<l.length) (h:∀k (hk:k<i),l[k]'(by omega)≠l[i]):l[i]∉l.take i:=by
 intro hm;obtain⟨k,hk,e⟩:=List.getElem_of_mem hm;simp only[List.length_take] at hk;rw[List.getElem_take] at e;exact h k (by omega) e
theorem fr {K:List Pr} {i:Nat} (hi:i<K.length) (h:(K.take i).Nodup) (D:∀q,q<i->kl K q≠kl K i):(K.take (i+1)).Nodup:=by
 rw[Dz hi];refine⟨h,Kg hi fun k hk e=>D k hk ?_⟩;rw[Ge hi,Ge (by omega)];exact e
theorem ft {P:List Pa} {i:Nat} (hi:i<P.length) (h:((Ee P).take i).Nodup) (E:∀q,q<i->¬((al P q).f=(al P i).f/\(al P q).t=(al P i).t)):((Ee P).take (i+1)).Nodup:=by
 have D:i<(Ee P).length:=by rw[BK];exact hi
 rw[Dz D];refine⟨h,Kg D fun k hk e=>E k hk ?_⟩;rw[Md hi,Md (by omega)] at e;exact Prod.mk.inj e
theorem XH (T:Tp) (v:Value) (B:Nat) (w:World) (hs:Sm T) (hv:TpV w B v T) (hB:B<=w.heap.size) :
  Calls Tryz.prog 44 #[v] w fun e w'=>e=.returned (.bool (isT T))/\Below w.heap.size w w':=by
 have eB:=hv;obtain⟨v1,v2,v3,rfl,⟨A1,d1,rfl,eg,r1⟩,⟨A2,d2,rfl,ez,r2⟩,⟨A3,d3,rfl,eF,r3⟩⟩:=eB;obtain⟨N,eN⟩:=Ak (w.heap.size);have O:=(Below.refl w.heap.size w).alloc Ag (.cells #[.slice A1 T.R.length d1,.slice A2 T.K.length d2,.slice A3 T.P.length d3] 74);have HB:=I O;have HK:=I (Blk.new w 74 #[.slice A1 T.R.length d1,.slice A2 T.K.length d2,.slice A3 T.P.length d3]);have c1:=Pb T.R A1 d1 B _ (by have:=hs.r;omega) eg (r1.below (O.mono hB)) (Nat.le_trans hB O.size) (fun i hi=>by have:=hs.rt _ (Dc hi);omega);have KB:=I (fun w1 (h:Below N w w1)=>r2.below (h.mono (by omega)));have AB:=I (fun w1 (h:Below N w w1)=>r3.below (h.mono (by omega)));have PL:=I (fun x w1 (h:Below N w w1)=>Ej T.R A1 d1 B x w1 (by have:=hs.r;omega) (r1.below (h.mono (by omega))));have RP:=I (fun(i:Nat) (hi:i<T.P.length) u w1 (h:Below N w w1) (hu:PaV w1 B u (al T.P i))=>Vk (al T.P i) T _ u B w1 hs (hs.v _ (Ta hi)) (hv.below (h.mono (by omega))) hu (Nat.le_trans hB (by have:=h.size;omega)));rw[<-eN] at HB;have et:=I eN;have ev:=I (show B<=N by omega);rw[<-eN];have aw:=I (show ∀w1:World,Below N w w1->N<=w1.heap.size from fun w1 h=>by have:=h.size;have:=et.o;omega);have s2:=hs.k;have s3:=hs.p;have IA:=I (@isr_a T);have IK:=I (fun i=>@isr_k T i);have cQ:=I (fun i k=>@fp T i k);have IP:=I (fun i=>@isr_p T i);have ey:=I (fun i k=>@fq T i k);have IY:=I (@bm T);have IC:=I (@bR T);have ID:=I (@bS T);obtain⟨Q,eQ⟩:=Ak ((BJ T.R&&(decide (1<=T.R.length)&&decide (T.R.length<=6))));rw[<-eQ] at c1 IA IY;obtain⟨n,en⟩:=Ak (T.R.length);obtain⟨m,em⟩:=Ak (T.K.length);obtain⟨k,ek⟩:=Ak (T.P.length);clear O hv;rw[<-en,<-em,<-ek] at HK HB c1 RP;rw[<-en] at PL;rw[<-em] at s2 IC IY;rw[<-ek] at s3 ID IY;rw[<-en,<-em,<-ek];have EM:=I em;have EK:=I ek;clear en em ek eQ eN hs r1 r2 r3 eg ez eF hB;cases Q with
 |false=>
  have E:=I (IA.o rfl);go_enter Tryz.func44,Tryz.ntmps44
  go_wp2_with (go_at_call 85;refine Aj c1 ?_;rintro w1 O;clear c1;replace HB:=I (HB.o.trans (O.mono (aw.o _ HB.o)));clear O)
  go_ret;exact⟨by rw[E.o];rfl,HB.o⟩
 |true=>
  by_cases q1:m<=20
  ·have t1:decide (20<(m:Int))=false:=by simp;omega
   by_cases q2:k<=8
   ·have t2:decide (8<(k:Int))=false:=by simp;omega
    have cP:=I (IY.o rfl q1 q2);go_enter Tryz.func44,Tryz.ntmps44
    go_wp2_with (go_at_call 85;refine Aj c1 ?_;rintro w1 O;clear c1;replace HK:=I (HK.o.below O);replace HB:=I (HB.o.trans (O.mono (aw.o _ HB.o)));clear O;have k0:=HK.o.cell 0;have k1:=HK.o.cell 1;have k2:=HK.o.cell 2;simp only[List.getElem?_toArray,List.getElem?_cons_zero,List.getElem?_cons_succ] at k0 k1 k2)
    clear IA IC ID IY;obtain⟨W1,ea⟩:=Ak (w1);rw[<-ea] at HK HB k0 k1 k2⊢;clear ea
    go_loopw [3] (fun iv wr=>∃i:Nat,i<=m/\iv=.int .i64 (i:Int)/\(T.K.take i).all (Db T.R)=true/\(T.K.take i).Nodup/\Below W1.heap.size W1 wr) (fun iv _=>m - (intOf iv).toNat)
    case atStart=>exact⟨0,Nat.zero_le _,rfl,by simp,by simp,Below.refl _ _⟩
    case round=>
     obtain⟨i,hi,rfl,hn,Z,cw⟩:=hrel;have HN:=I hn;clear hn;have ck:=I Z;clear Z;have J:=I cw;clear cw;have F:=I (HB.o.trans (J.o.mono (aw.o _ HB.o)));clear k0 k1 k2;have D:=I (HK.o.below J.o);have k0:=D.o.cell 0;have k1:=D.o.cell 1;have k2:=D.o.cell 2;simp only[List.getElem?_toArray,List.getElem?_cons_zero,List.getElem?_cons_succ] at k0 k1 k2
     by_cases hlt:i<m
     ·have e1:(i:Int)<(m:Int):=by omega
      have e2:(0:Int)<=(i:Int):=by omega
      have M:i<T.K.length:=by rw[<-EM.o];exact hlt
      have bx:=all_succ (p:=Db T.R) M;rw[HN.o,Bool.true_and,<-Ge M] at bx;have Z:=fr M ck.o;have ik:=IK.o i M;have cq:=I (fun q=>cQ.o i q M);obtain⟨b,o,eA,_,h1,h2⟩:=MF (KB.o _ F.o) M;have cB:=I (fun w1 (h:Below N w w1) j (hj:j<i)=>MF (KB.o w1 h) (Nat.lt_trans hj M));subst eA;obtain⟨x,ex⟩:=Ak (kl T.K i);rw[<-ex] at Z;rw[<-ex] at bx ik h1 h2 cq;have cm:=I bx;have cA:=I Z;have cx:=I ik;have C3:=I (PL.o x.1);have C4:=I (PL.o x.2);clear ex M bx Z ik;have HA:=I (Blk.new wr 128 #[.string ⟨x.1.toArray⟩,.string ⟨x.2.toArray⟩]);have ct:=I ((Below.refl wr.heap.size wr).alloc Ag (.cells #[.string ⟨x.1.toArray⟩,.string ⟨x.2.toArray⟩] 128));have H2:=I (F.o.trans (ct.o.mono (aw.o _ F.o)));have H3:=I (J.o.trans (ct.o.mono J.o.size));have ei:=D.o.below ct.o;have ka:=ei.cell 0;simp only[List.getElem?_toArray,List.getElem?_cons_zero] at ka;clear ei
      by_cases g1:x.1∈T.R
      ·obtain⟨z1,cb,cg⟩:=Dw g1
       rw[<-cb] at C3;have s4:decide (z1<0)=false:=decide_eq_false (by omega)
       by_cases g2:x.2∈T.R
       ·obtain⟨z2,cf,cp⟩:=Dw g2
        rw[<-cf] at C4;have s5:decide (z2<0)=false:=decide_eq_false (by omega)
        by_cases g3:x.1=x.2
        ·have t3:(x.1==x.2)=true:=by simpa using g3
         have E:=I (cx.o (by rw[Db,decide_eq_false (fun h=>h g3)];rfl));clear g1 g2 g3 cb cf cg cp
         go_wp2_with (first
         |(go_at_call 45;with_reducible refine Aj (C3.o _ H2.o) ?_;rintro w9 rfl;clear C3)
         |(go_at_call 45;with_reducible refine Aj (C4.o _ H2.o) ?_;rintro w9 rfl;clear C4))
         go_ret;exact⟨by rw[E.o];rfl,H2.o⟩
        ·have t3:(x.1==x.2)=false:=by simpa using g3
         have E:=I (cm.o.trans (show Db T.R x=true by rw[Db,decide_eq_true g1,decide_eq_true g2,decide_eq_true g3];rfl));clear g1 g2 g3 cb cf cg cp
         go_wp2_with (first
         |(go_at_call 45;with_reducible refine Aj (C3.o _ H2.o) ?_;rintro w9 rfl;clear C3)
         |(go_at_call 45;with_reducible refine Aj (C4.o _ H2.o) ?_;rintro w9 rfl;clear C4))
         obtain⟨W2,ec⟩:=Ak (wr.alloc (.cells #[.string ⟨x.1.toArray⟩,.string ⟨x.2.toArray⟩] 128));rw[<-ec] at HA ct H2 H3⊢;clear ec;have ej:=I (D.o.below ct.o);obtain⟨W0,ep⟩:=Ak (wr);rw[<-ep] at HA⊢;clear ep;clear k0 k1 k2 ka h1 h2
         go_loopw [5] (fun jv wq=>∃j:Nat,j<=i/\jv=.int .i64 (j:Int)/\(∀q,q<j->kl T.K q≠x)/\AW W2 wq) (fun jv _=>i - (intOf jv).toNat)
         case atStart=>exact⟨0,Nat.zero_le _,rfl,fun q hq=>absurd hq (Nat.not_lt_zero q),AW.refl _⟩
         case round=>
          obtain⟨j,hj,rfl,cn,hd⟩:=hrel;have cj:=I cn;clear cn;have k0:wr.cell? ⟨w.heap.size,0,none⟩=some (.slice A1 n d1):=by obtain⟨q,rfl⟩:=hd;exact ej.o.cell 0
          have k1:wr.cell? ⟨w.heap.size,1,none⟩=some (.slice (some ⟨b,o,none⟩) m d2):=by obtain⟨q,rfl⟩:=hd;exact ej.o.cell 1
          have y0:wr.cell? ⟨W0.heap.size,0,none⟩=some (.string ⟨x.1.toArray⟩):=by obtain⟨q,rfl⟩:=hd;exact HA.o.cell 0
          have y1:wr.cell? ⟨W0.heap.size,1,none⟩=some (.string ⟨x.2.toArray⟩):=by obtain⟨q,rfl⟩:=hd;exact HA.o.cell 1
          have cu:=I (H2.o.trans (hd.below.mono (aw.o _ H2.o)));have cr:=I (H3.o.trans (hd.below.mono H3.o.size));have cy:=I hd;clear hd
          by_cases hlj:j<i
          ·have f1:(j:Int)<(i:Int):=by omega
           have f2:(0:Int)<=(j:Int):=by omega
           have f3:(j:Int)<(m:Int):=by omega
           obtain⟨b',o',eA,_,h1,h2⟩:=cB.o _ cu.o j hlj;injection eA with eA;injection eA with eb eo;subst eb;subst eo
           by_cases hx:kl T.K j=x
           ·have t4:=Td (kl T.K j) x hx
            have E2:=I (cq.o j hlj hx);clear hx
            go_wp2
            go_quiet (fail)
            go_wp2
            go_ret;exact⟨by rw[E2.o];rfl,below_drewN cu.o _⟩
           ·have t4:=Yc (kl T.K j) x hx
            have HX:=I hx;clear hx
            go_wp2
            go_quiet (fail)
            go_wp2
            go_roundw
            case rel=>exact⟨j+1,by omega,by go_num,fun q hq=>by
             by_cases e:q=j
             ·rw[e];exact HX.o
             ·exact cj.o q (by omega),cy.o.trans ⟨_,rfl⟩⟩
            case measure=>simp [intOf];omega
          ·have f1:¬(j:Int)<(i:Int):=by omega
           have E2:=I (cA.o fun q hq=>cj.o q (by omega))
           go_wp2
           go_roundw
           case rel=>exact⟨i+1,by omega,by go_num,E.o,E2.o,cr.o⟩
           case measure=>simp [intOf];omega
       ·obtain⟨z2,cf,cp⟩:=DL g2
        rw[<-cf] at C4;have s5:decide (z2<0)=true:=decide_eq_true cp;have E:=I (cx.o (by rw[Db,decide_eq_false g2];simp));clear g1 g2 cb cf cg cp
        go_wp2_with (first
         |(go_at_call 45;with_reducible refine Aj (C3.o _ H2.o) ?_;rintro w9 rfl;clear C3)
         |(go_at_call 45;with_reducible refine Aj (C4.o _ H2.o) ?_;rintro w9 rfl;clear C4))
        go_ret;exact⟨by rw[E.o];rfl,H2.o⟩
      ·obtain⟨z1,cb,cg⟩:=DL g1
       rw[<-cb] at C3;have s4:decide (z1<0)=true:=decide_eq_true cg;have E:=I (cx.o (by rw[Db,decide_eq_false g1];simp));clear g1 cb cg
       go_wp2_with (go_at_call 45;with_reducible refine Aj (C3.o _ H2.o) ?_;rintro w9 rfl;clear C3)
       go_ret;exact⟨by rw[E.o];rfl,H2.o⟩
     ·have e1:¬(i:Int)<(m:Int):=by omega
      have ca:T.K.length<=i:=by have:=EM.o;omega
      have eD:=I (cP.o (Dk ca HN.o) (by have h:=ck.o;rwa [List.take_of_length_le ca] at h));clear cP HN ck IK cQ ca
      go_wp2
      obtain⟨W3,ed⟩:=Ak (wr);rw[<-ed] at D F⊢;clear ed k0 k1 k2 HK HB J KB hi hlt e1
      go_loopw [6] (fun iv wr=>∃i:Nat,i<=k/\iv=.int .i64 (i:Int)/\(T.P.take i).all (Fe T.R)=true/\((Ee T.P).take i).Nodup/\Below W3.heap.size W3 wr) (fun iv _=>k - (intOf iv).toNat)
      case atStart=>exact⟨0,Nat.zero_le _,rfl,by simp,by simp,Below.refl _ _⟩
      case round=>
       have HK:=D;have HB:=F;clear D F;obtain⟨i,hi,rfl,hn,Z,cw⟩:=hrel;have HN:=I hn;clear hn;have ck:=I Z;clear Z;have J:=I cw;clear cw;have F:=I (HB.o.trans (J.o.mono (aw.o _ HB.o)));have D:=I (HK.o.below J.o);have k0:=D.o.cell 0;have k1:=D.o.cell 1;have k2:=D.o.cell 2;simp only[List.getElem?_toArray,List.getElem?_cons_zero,List.getElem?_cons_succ] at k0 k1 k2
       by_cases hlt:i<k
       ·have e1:(i:Int)<(k:Int):=by omega
        have e2:(0:Int)<=(i:Int):=by omega
        have M:i<T.P.length:=by rw[<-EK.o];exact hlt
        have bx:=all_succ (p:=Fe T.R) M;rw[HN.o,Bool.true_and,<-Kl M] at bx;have Z:=ft M ck.o;have ik:=IP.o i M;have cq:=I (fun q=>ey.o i q M);obtain⟨b,o,eA,ef,h1,h2,u,h3,h4⟩:=PA (AB.o _ F.o) M;have cB:=I (fun w1 (h:Below N w w1) j (hj:j<i)=>PA (AB.o w1 h) (Nat.lt_trans hj M));have er:=I (RP.o i hlt);subst eA;obtain⟨x,ex⟩:=Ak (al T.P i);rw[<-ex] at Z bx ik cq h1 h2 h4 er;have cm:=I bx;have cA:=I Z;have cx:=I ik;have ew:=h4;obtain⟨A5,d5,eu,_⟩:=ew;subst eu;obtain⟨k5,cL⟩:∃k,k=x.v.length:=⟨_,rfl⟩;rw[<-cL] at h3 h4;have c5:=er.o _ wr.drew (below_drewN F.o 1) ⟨_,rfl,h4.below (B:=B) (w':=wr.drew) (below_drewN (Below.refl B wr) 1)⟩;have cd:=I (show b<wr.heap.size from Nat.lt_of_lt_of_le ef (Nat.le_trans ev.o (aw.o _ F.o)));have bB:=I (show wr.drew.cell? ⟨b,o+i*3,none⟩=_ from h1);have bz:=I (show wr.drew.cell? ⟨b,o+i*3+1,none⟩=_ from h2);have cc:=I (show wr.drew.cell? ⟨b,o+i*3+2,none⟩=_ from h3);have eH:=I (show x.f=(al T.P i).f/\x.t=(al T.P i).t from by rw[ex];exact⟨rfl,rfl⟩);clear ex M bx Z ik h1 h2 h3 h4 cL ef;cases hpx:Fe T.R x with
        |false=>
         rw[hpx] at c5;have E:=I (cx.o hpx);clear hpx
         go_wp2
         clear k0 k1 k2;replace D:=I (D.o.drewN 1);replace F:=I (below_drewN F.o 1);replace J:=I (below_drewN J.o 1)
         go_region_held3 (fun w'=>w'.cell? ⟨w.heap.size,0,none⟩=some (.slice A1 n d1)/\w'.cell? ⟨w.heap.size,1,none⟩=some (.slice A2 m d2)/\w'.cell? ⟨w.heap.size,2,none⟩=some (.slice (some ⟨b,o,none⟩) k d3)/\w'.cell? ⟨b,o+i*3,none⟩=some (.string ⟨x.f.toArray⟩)/\w'.cell? ⟨b,o+i*3+1,none⟩=some (.string ⟨x.t.toArray⟩)/\w'.cell? ⟨b,o+i*3+2,none⟩=some (.slice A5 k5 d5)) (exact⟨D.o.cell 0,D.o.cell 1,D.o.cell 2,bB.o,bz.o,cc.o⟩) ((go_at_call 86;refine Aj c5 ?_;rintro w9 O;clear c5;replace D:=I (D.o.below O);replace bB:=I ((O.cell cd.o).trans bB.o);replace bz:=I ((O.cell cd.o).trans bz.o);replace cc:=I ((O.cell cd.o).trans cc.o);replace F:=I (F.o.trans (O.mono (aw.o _ F.o)));replace J:=J.t O;clear O))
         go_wp2
         go_ret;exact⟨by rw[E.o];rfl,F.o⟩
        |true=>
         rw[hpx] at c5;have E:=I (cm.o.trans hpx);clear hpx
         go_wp2
         clear k0 k1 k2;replace D:=I (D.o.drewN 1);replace F:=I (below_drewN F.o 1);replace J:=I (below_drewN J.o 1)
         go_region_held3 (fun w'=>w'.cell? ⟨w.heap.size,0,none⟩=some (.slice A1 n d1)/\w'.cell? ⟨w.heap.size,1,none⟩=some (.slice A2 m d2)/\w'.cell? ⟨w.heap.size,2,none⟩=some (.slice (some ⟨b,o,none⟩) k d3)/\w'.cell? ⟨b,o+i*3,none⟩=some (.string ⟨x.f.toArray⟩)/\w'.cell? ⟨b,o+i*3+1,none⟩=some (.string ⟨x.t.toArray⟩)/\w'.cell? ⟨b,o+i*3+2,none⟩=some (.slice A5 k5 d5)) (exact⟨D.o.cell 0,D.o.cell 1,D.o.cell 2,bB.o,bz.o,cc.o⟩) ((go_at_call 86;refine Aj c5 ?_;rintro w9 O;clear c5;replace D:=I (D.o.below O);replace bB:=I ((O.cell cd.o).trans bB.o);replace bz:=I ((O.cell cd.o).trans bz.o);replace cc:=I ((O.cell cd.o).trans cc.o);replace F:=I (F.o.trans (O.mono (aw.o _ F.o)));replace J:=J.t O;clear O))
         go_wp2
         obtain⟨W4,cR⟩:=Ak (w9);rw[<-cR] at D F J bB bz cc⊢;clear cR;have eJ:(i:Int)<(k:Int):=e1
         go_loopw [7] (fun jv wq=>∃j:Nat,j<=i/\jv=.int .i64 (j:Int)/\(∀q,q<j->¬((al T.P q).f=x.f/\(al T.P q).t=x.t))/\AW W4 wq) (fun jv _=>i - (intOf jv).toNat)
         case atStart=>exact⟨0,Nat.zero_le _,rfl,fun q hq=>absurd hq (Nat.not_lt_zero q),AW.refl _⟩
         case round=>
          obtain⟨j,hj,rfl,cn,hd⟩:=hrel;have cj:=I cn;clear cn;have k0:wr.cell? ⟨w.heap.size,0,none⟩=some (.slice A1 n d1):=by obtain⟨q,rfl⟩:=hd;exact D.o.cell 0
          have k2:wr.cell? ⟨w.heap.size,2,none⟩=some (.slice (some ⟨b,o,none⟩) k d3):=by obtain⟨q,rfl⟩:=hd;exact D.o.cell 2
          have x0:wr.cell? ⟨b,o+i*3,none⟩=some (.string ⟨x.f.toArray⟩):=by obtain⟨q,rfl⟩:=hd;exact bB.o
          have x1:wr.cell? ⟨b,o+i*3+1,none⟩=some (.string ⟨x.t.toArray⟩):=by obtain⟨q,rfl⟩:=hd;exact bz.o
          have cu:=I (F.o.trans (hd.below.mono (aw.o _ F.o)));have cr:=I (J.o.trans (hd.below.mono J.o.size));have cy:=I hd;clear hd
          by_cases hlj:j<i
          ·have f1:(j:Int)<(i:Int):=by omega
           have f2:(0:Int)<=(j:Int):=by omega
           have f3:(j:Int)<(k:Int):=by omega
           obtain⟨b',o',eA,_,h1,h2,u9,h3,h4⟩:=cB.o _ cu.o j hlj;injection eA with eA;injection eA with eb eo;subst eb;subst eo;clear h3 h4
           by_cases g1:(al T.P j).f=x.f
           ·have t3:((al T.P j).f==x.f)=true:=by simpa using g1
            by_cases g2:(al T.P j).t=x.t
            ·have t4:((al T.P j).t==x.t)=true:=by simpa using g2
             have E2:=I (cq.o j hlj g1 g2);clear g1 g2
             go_wp2
             go_quiet (fail)
             go_wp2
             go_ret;exact⟨by rw[E2.o];rfl,below_drewN cu.o _⟩
            ·have t4:((al T.P j).t==x.t)=false:=by simpa using g2
             have HX:=I (show ¬((al T.P j).f=x.f/\(al T.P j).t=x.t) from fun h=>g2 h.2);clear g1 g2
             go_wp2
             go_quiet (fail)
             go_wp2
             go_roundw
             case rel=>exact⟨j+1,by omega,by go_num,fun q hq=>by
              by_cases e:q=j
              ·rw[e];exact HX.o
              ·exact cj.o q (by omega),cy.o.trans ⟨_,rfl⟩⟩
             case measure=>simp [intOf];omega
           ·have t3:((al T.P j).f==x.f)=false:=by simpa using g1
            have HX:=I (show ¬((al T.P j).f=x.f/\(al T.P j).t=x.t) from fun h=>g1 h.1);clear g1
            go_wp2
            go_quiet (fail)
            go_wp2
            go_roundw
            case rel=>exact⟨j+1,by omega,by go_num,fun q hq=>by
             by_cases e:q=j
             ·rw[e];exact HX.o
             ·exact cj.o q (by omega),cy.o.trans ⟨_,rfl⟩⟩
            case measure=>simp [intOf];omega
          ·have f1:¬(j:Int)<(i:Int):=by omega
           have E2:=I (cA.o fun q hq=>cj.o q (by omega))
           go_wp2
           go_roundw
           case rel=>exact⟨i+1,by omega,by go_num,E.o,E2.o,cr.o⟩
           case measure=>simp [intOf];omega
       ·have e1:¬(i:Int)<(k:Int):=by omega
        have ca:T.P.length<=i:=by have:=EK.o;omega
        have E:=I (eD.o (Dk ca HN.o) (by have h:=ck.o;rwa [List.take_of_length_le (by rw[BK];exact ca)] at h));clear ca
        go_wp2
        go_ret;exact⟨by rw[E.o];rfl,F.o⟩
   ·have t2:decide (8<(k:Int))=true:=by simp;omega
    have E:=I (ID.o q2);clear q1 q2;go_enter Tryz.func44,Tryz.ntmps44
    go_wp2_with (go_at_call 85;refine Aj c1 ?_;rintro w1 O;clear c1;replace HK:=I (HK.o.below O);replace HB:=I (HB.o.trans (O.mono (aw.o _ HB.o)));clear O;have k0:=HK.o.cell 0;have k1:=HK.o.cell 1;have k2:=HK.o.cell 2;simp only[List.getElem?_toArray,List.getElem?_cons_zero,List.getElem?_cons_succ] at k0 k1 k2)
    go_ret;exact⟨by rw[E.o];rfl,HB.o⟩
  ·have t1:decide (20<(m:Int))=true:=by simp;omega
   have E:=I (IC.o q1);clear q1;go_enter Tryz.func44,Tryz.ntmps44
   go_wp2_with (go_at_call 85;refine Aj c1 ?_;rintro w1 O;clear c1;replace HK:=I (HK.o.below O);replace HB:=I (HB.o.trans (O.mono (aw.o _ HB.o)));clear O;have k0:=HK.o.cell 0;have k1:=HK.o.cell 1;have k2:=HK.o.cell 2;simp only[List.getElem?_toArray,List.getElem?_cons_zero,List.getElem?_cons_succ] at k0 k1 k2)
   go_ret;exact⟨by rw[E.o];rfl,HB.o⟩
end Rt
end Go.Proofs.YthgignaohimadaaGreat
