import Derived.Deep.LoopGhost
import Derived.DeepKeys
import Derived.Laws.StructEq
import Derived.StillTailTactics
import Derived.Laws.OwnMore
import Derived.Test.YtfcjeebnkigeaaaGreatZKdcNonces1
import Derived.Test.YtfcjeebnkigeaaaGreatZKdcNonces2
import Derived.Test.YtfcjeebnkigeaaaGreatZKdcNonces3
import Derived.Test.YtfcjeebnkigeaaaGreatZKdcNonces4
import Derived.Test.YtfcjeebnkigeaaaGreatZKdcNonces5
import Derived.Test.YtfcjeebnkigeaaaGreatZKdcNonces6
import Derived.Test.YtfcjeebnkigeaaaGreatZKdcNonces7
import Derived.Test.YtfcjeebnkigeaaaGreatZKdcNonces8
import Derived.Test.YtfcjeebnkigeaaaGreatZKdcNonces9
import Derived.Test.YtfcjeebnkigeaaaGreatZKdcNonces10
import Derived.Test.YtfcjeebnkigeaaaGreatZKdcNonces11
import Derived.Test.YtfcjeebnkigeaaaGreatZKdcNonces12
import Derived.Test.YtfcjeebnkigeaaaGreatZKdcNonces13
import Derived.Test.YtfcjeebnkigeaaaGreatZKdcNonces14
import Derived.Test.YtfcjeebnkigeaaaGreatZKdcNonces17
import Derived.Test.YtfcjeebnkigeaaaGreatZKdcNonces18
import Derived.Test.YtfcjeebnkigeaaaGreatZKdcNonces19
section
set_option linter.unusedVariables false
namespace Go.Proofs.YtfcjeebnkigeaaaGreat.Rt
open Go.RowKit Go.Proofs.YtfcjeebnkigeaaaGreat.Mem Go.Proofs.YtfcjeebnkigeaaaGreat.Nm
theorem isr_k {T:Tp} {i:Nat} (hi:i<T.K.length) (h:pairB T.R (kl T.K i)=false):isT T=false:=by
 rw[kl_lt hi] at h
 exact ist_f (by rw[pairsB,all_false hi h];rfl)
theorem isr_k2 {T:Tp} {i k:Nat} (hi:i<T.K.length) (hk:k<i) (h:kl T.K k=kl T.K i):isT T=false:=by
 refine ist_f ?_
 rw[pairsB,decide_eq_false,Bool.and_false]
 intro hn
 rw[List.nodup_iff_pairwise_ne,List.pairwise_iff_getElem] at hn
 rw[kl_lt hi,kl_lt (by omega)] at h
 exact hn k i (by omega) hi hk h
theorem isr_p0 {T:Tp} (h:pathsB T.P T.R=false):isT T=false:=by rw[isT,h];simp
theorem isr_p {T:Tp} {i:Nat} (hi:i<T.P.length) (h:pathB T.R (al T.P i)=false):isT T=false:=by
 rw[al_lt hi] at h
 exact isr_p0 (by rw[paths_eq,all_false hi h];rfl)
theorem ends_at {P:List Pa} {i:Nat} (hi:i<P.length):(endsL P)[i]'(by rw[ends_length];exact hi)=((al P i).f,(al P i).t):=by
 simp [endsL,al_lt hi]
theorem isr_p2 {T:Tp} {i k:Nat} (hi:i<T.P.length) (hk:k<i) (h1:(al T.P k).f=(al T.P i).f) (h2:(al T.P k).t=(al T.P i).t):isT T=false:=by
 refine isr_p0 ?_
 rw[paths_eq,decide_eq_false,Bool.and_false]
 intro hn
 rw[List.nodup_iff_pairwise_ne,List.pairwise_iff_getElem] at hn
 refine hn k i (by rw[ends_length];omega) (by rw[ends_length];exact hi) hk ?_
 rw[ends_at hi,ends_at (by omega),h1,h2]
theorem isr_yes {T:Tp} (h:(realmsB T.R&&(decide (1≤T.R.length)&&decide (T.R.length≤6)))=true) (h3:T.K.length≤20) (h4:T.P.length≤8) (h5:T.K.all (pairB T.R)=true) (h6:T.K.Nodup) (h7:T.P.all (pathB T.R)=true) (h8:(endsL T.P).Nodup):isT T=true:=by
 rw[Bool.and_eq_true,Bool.and_eq_true] at h
 rw[isT,h.1,h.2.1,h.2.2,decide_eq_true h3,decide_eq_true h4,pairsB,h5,decide_eq_true h6,paths_eq,h7,decide_eq_true h8];rfl
theorem isr_a {T:Tp} (h:(realmsB T.R&&(decide (1≤T.R.length)&&decide (T.R.length≤6)))=false):isT T=false:=by
 rw[isT]
 cases h1:realmsB T.R
 ·simp
 ·rw[h1,Bool.true_and] at h
  rw[h];rfl
theorem not_in_take {α:Type} {l:List α} {i:Nat} (hi:i<l.length) (h:∀k (hk:k<i),l[k]'(by omega)≠l[i]):l[i]∉l.take i:=by
 intro hm
 obtain⟨k,hk,e⟩:=List.getElem_of_mem hm
 simp only[List.length_take] at hk
 rw[List.getElem_take] at e
 exact h k (by omega) e
theorem knodup {K:List Pr} {i:Nat} (hi:i<K.length) (h:(K.take i).Nodup) (hn:∀q,q<i→kl K q≠kl K i):(K.take (i+1)).Nodup:=by
 rw[nodup_succ hi]
 refine⟨h,not_in_take hi fun k hk e=>hn k hk ?_⟩
 rw[kl_lt hi,kl_lt (by omega)];exact e
theorem enodup {P:List Pa} {i:Nat} (hi:i<P.length) (h:((endsL P).take i).Nodup) (hn:∀q,q<i→¬((al P q).f=(al P i).f∧(al P q).t=(al P i).t)):((endsL P).take (i+1)).Nodup:=by
 have hi':i<(endsL P).length:=by rw[ends_length];exact hi
 rw[nodup_succ hi']
 refine⟨h,not_in_take hi' fun k hk e=>hn k hk ?_⟩
 rw[ends_at hi,ends_at (by omega)] at e
 exact Prod.mk.inj e
set_option maxHeartbeats 3200000 in
theorem rist_any (T:Tp) (v:Value) (B:Nat) (w:World) (hs:Sm T) (hv:TpV w B v T) (hB:B≤w.heap.size) :
  Calls Tryz.prog 103 #[v] w fun e w'=>e = .returned (.bool (isT T))∧Below w.heap.size w w':=by
 have hv':=hv
 obtain⟨v1,v2,v3,rfl,⟨A1,d1,rfl,hc1,r1⟩,⟨A2,d2,rfl,hc2,r2⟩,⟨A3,d3,rfl,hc3,r3⟩⟩:=hv'
 obtain⟨N,eN⟩:∃N,N=w.heap.size:=⟨_,rfl⟩
 have hb:=(Below.refl w.heap.size w).alloc (Nat.le_refl _) (.cells #[.slice A1 T.R.length d1,.slice A2 T.K.length d2,.slice A3 T.P.length d3] 60)
 have HB:=Lib.hid hb
 have HK:=Lib.hid (Blk.new w 60 #[.slice A1 T.R.length d1,.slice A2 T.K.length d2,.slice A3 T.P.length d3])
 have c1:=rrealms_any T.R A1 d1 B _ (by have:=hs.r;omega) hc1 (r1.below (hb.mono hB)) (Nat.le_trans hB hb.size) (fun i hi=>by have:=hs.rt _ (pl_mem hi);omega)
 have KB:=Lib.hid (fun w1 (h:Below N w w1)=>r2.below (h.mono (by omega)))
 have AB:=Lib.hid (fun w1 (h:Below N w w1)=>r3.below (h.mono (by omega)))
 have PL:=Lib.hid (fun x w1 (h:Below N w w1)=>place_any T.R A1 d1 B x w1 (by have:=hs.r;omega) (r1.below (h.mono (by omega))))
 have RP:=Lib.hid (fun(i:Nat) (hi:i<T.P.length) u w1 (h:Below N w w1) (hu:PaV w1 B u (al T.P i))=>rpath_any (al T.P i) T _ u B w1 hs (hs.v _ (al_mem hi)) (hv.below (h.mono (by omega))) hu (Nat.le_trans hB (by have:=h.size;omega)))
 rw[←eN] at HB
 have EN0:=Lib.hid eN
 have hBN:=Lib.hid (show B≤N by omega)
 rw[←eN]
 have HSZ:=Lib.hid (show ∀w1:World,Below N w w1→N≤w1.heap.size from fun w1 h=>by have:=h.size;have:=EN0.out;omega)
 have s2:=hs.k;have s3:=hs.p
 have IA:=Lib.hid (@isr_a T);have IK:=Lib.hid (fun i=>@isr_k T i);have IK2:=Lib.hid (fun i k=>@isr_k2 T i k);have IP:=Lib.hid (fun i=>@isr_p T i);have IP2:=Lib.hid (fun i k=>@isr_p2 T i k);have IY:=Lib.hid (@isr_yes T)
 have IC:=Lib.hid (@ist_c T);have ID:=Lib.hid (@ist_d T)
 obtain⟨Q,eQ⟩:∃Q,Q=(realmsB T.R&&(decide (1≤T.R.length)&&decide (T.R.length≤6))):=⟨_,rfl⟩
 rw[←eQ] at c1 IA IY
 obtain⟨n,en⟩:∃n,n=T.R.length:=⟨_,rfl⟩
 obtain⟨m,em⟩:∃m,m=T.K.length:=⟨_,rfl⟩
 obtain⟨k,ek⟩:∃k,k=T.P.length:=⟨_,rfl⟩
 clear hb hv
 rw[←en,←em,←ek] at HK HB c1 RP
 rw[←en] at PL
 rw[←em] at s2 IC IY
 rw[←ek] at s3 ID IY
 rw[←en,←em,←ek]
 have EM:=Lib.hid em;have EK:=Lib.hid ek
 clear en em ek eQ eN hs r1 r2 r3 hc1 hc2 hc3 hB
 cases Q with
 |false=>
  have E:=Lib.hid (IA.out rfl)
  go_enter Tryz.func103,Tryz.ntmps103
  go_wp2_with (go_at_call 153;refine Calls.mono c1 ?_;rintro e w1 ⟨rfl,hb⟩;clear c1;replace HB:=Lib.hid (HB.out.trans (hb.mono (HSZ.out _ HB.out)));clear hb)
  go_ret
  exact⟨by rw[E.out];rfl,HB.out⟩
 |true=>
  by_cases q1:m≤20
  ·have t1:decide (20<(m:Int))=false:=by simp;omega
   by_cases q2:k≤8
   ·have t2:decide (8<(k:Int))=false:=by simp;omega
    have IY2:=Lib.hid (IY.out rfl q1 q2)
    go_enter Tryz.func103,Tryz.ntmps103
    go_wp2_with (go_at_call 153;refine Calls.mono c1 ?_;rintro e w1 ⟨rfl,hb⟩;clear c1;replace HK:=Lib.hid (HK.out.below hb);replace HB:=Lib.hid (HB.out.trans (hb.mono (HSZ.out _ HB.out)));clear hb;have k0:=HK.out.cell 0;have k1:=HK.out.cell 1;have k2:=HK.out.cell 2;simp only[List.getElem?_toArray,List.getElem?_cons_zero,List.getElem?_cons_succ] at k0 k1 k2)
    clear IA IC ID IY
    obtain⟨W1,eW1⟩:∃W1,W1=w1:=⟨_,rfl⟩
    rw[←eW1] at HK HB k0 k1 k2⊢
    clear eW1
    go_loopw [3] (fun iv wr=>∃i:Nat,i≤m∧iv = .int .i64 (i:Int)∧(T.K.take i).all (pairB T.R)=true∧(T.K.take i).Nodup∧Below W1.heap.size W1 wr) (fun iv _=>m - (intOf iv).toNat)
    case atStart=>exact⟨0,Nat.zero_le _,rfl,by simp,by simp,Below.refl _ _⟩
    case round=>
     obtain⟨i,hi,rfl,hn,hnd,hbw⟩:=hrel
     have HN:=Lib.hid hn;clear hn
     have HND:=Lib.hid hnd;clear hnd
     have HBW:=Lib.hid hbw;clear hbw
     have HBN:=Lib.hid (HB.out.trans (HBW.out.mono (HSZ.out _ HB.out)))
     clear k0 k1 k2
     have HKr:=Lib.hid (HK.out.below HBW.out)
     have k0:=HKr.out.cell 0;have k1:=HKr.out.cell 1;have k2:=HKr.out.cell 2
     simp only[List.getElem?_toArray,List.getElem?_cons_zero,List.getElem?_cons_succ] at k0 k1 k2
     by_cases hlt:i<m
     ·have e1:(i:Int)<(m:Int):=by omega
      have e2:(0:Int)≤(i:Int):=by omega
      have him:i<T.K.length:=by rw[←EM.out];exact hlt
      have hal:=all_succ (p:=pairB T.R) him
      rw[HN.out,Bool.true_and,←kl_lt him] at hal
      have hnd:=knodup him HND.out
      have ik:=IK.out i him
      have IK3:=Lib.hid (fun q=>IK2.out i q him)
      obtain⟨b,o,eA,_,h1,h2⟩:=rdp_at (KB.out _ HBN.out) him
      have KBB:=Lib.hid (fun w1 (h:Below N w w1) j (hj:j<i)=>rdp_at (KB.out w1 h) (Nat.lt_trans hj him))
      subst eA
      obtain⟨x,ex⟩:∃x,x=kl T.K i:=⟨_,rfl⟩
      rw[←ex] at hnd
      rw[←ex] at hal ik h1 h2 IK3
      have HALL:=Lib.hid hal;have HNS:=Lib.hid hnd;have IKI:=Lib.hid ik
      have C3:=Lib.hid (PL.out x.1);have C4:=Lib.hid (PL.out x.2)
      clear ex him hal hnd ik
      have HA:=Lib.hid (Blk.new wr 196 #[.string ⟨x.1.toArray⟩,.string ⟨x.2.toArray⟩])
      have HAB:=Lib.hid ((Below.refl wr.heap.size wr).alloc (Nat.le_refl _) (.cells #[.string ⟨x.1.toArray⟩,.string ⟨x.2.toArray⟩] 196))
      have H2:=Lib.hid (HBN.out.trans (HAB.out.mono (HSZ.out _ HBN.out)))
      have H3:=Lib.hid (HBW.out.trans (HAB.out.mono HBW.out.size))
      have HKA:=HKr.out.below HAB.out
      have ka:=HKA.cell 0
      simp only[List.getElem?_toArray,List.getElem?_cons_zero] at ka
      clear HKA
      by_cases g1:x.1∈T.R
      ·obtain⟨z1,ez1,hz1⟩:=place_in g1
       rw[←ez1] at C3
       have s4:decide (z1<0)=false:=decide_eq_false (by omega)
       by_cases g2:x.2∈T.R
       ·obtain⟨z2,ez2,hz2⟩:=place_in g2
        rw[←ez2] at C4
        have s5:decide (z2<0)=false:=decide_eq_false (by omega)
        by_cases g3:x.1=x.2
        ·have t3:(x.1==x.2)=true:=by simpa using g3
         have E:=Lib.hid (IKI.out (by rw[pairB,decide_eq_false (fun h=>h g3)];rfl))
         clear g1 g2 g3 ez1 ez2 hz1 hz2
         go_wp2_with (first
         |(go_at_call 104;with_reducible refine Calls.mono (C3.out _ H2.out) ?_;rintro e w9 ⟨rfl,rfl⟩;clear C3)
         |(go_at_call 104;with_reducible refine Calls.mono (C4.out _ H2.out) ?_;rintro e w9 ⟨rfl,rfl⟩;clear C4))
         go_ret
         exact⟨by rw[E.out];rfl,H2.out⟩
        ·have t3:(x.1==x.2)=false:=by simpa using g3
         have E:=Lib.hid (HALL.out.trans (show pairB T.R x=true by rw[pairB,decide_eq_true g1,decide_eq_true g2,decide_eq_true g3];rfl))
         clear g1 g2 g3 ez1 ez2 hz1 hz2
         go_wp2_with (first
         |(go_at_call 104;with_reducible refine Calls.mono (C3.out _ H2.out) ?_;rintro e w9 ⟨rfl,rfl⟩;clear C3)
         |(go_at_call 104;with_reducible refine Calls.mono (C4.out _ H2.out) ?_;rintro e w9 ⟨rfl,rfl⟩;clear C4))
         obtain⟨W2,eW2⟩:∃W2,W2=wr.alloc (.cells #[.string ⟨x.1.toArray⟩,.string ⟨x.2.toArray⟩] 196):=⟨_,rfl⟩
         rw[←eW2] at HA HAB H2 H3⊢
         clear eW2
         have HKw:=Lib.hid (HKr.out.below HAB.out)
         obtain⟨W0,eW0⟩:∃W0,W0=wr:=⟨_,rfl⟩
         rw[←eW0] at HA⊢
         clear eW0
         clear k0 k1 k2 ka h1 h2
         go_loopw [5] (fun jv wq=>∃j:Nat,j≤i∧jv = .int .i64 (j:Int)∧(∀q,q<j→kl T.K q≠x)∧Drawn W2 wq) (fun jv _=>i - (intOf jv).toNat)
         case atStart=>exact⟨0,Nat.zero_le _,rfl,fun q hq=>absurd hq (Nat.not_lt_zero q),Drawn.refl _⟩
         case round=>
          obtain⟨j,hj,rfl,hnq,hd⟩:=hrel
          have HNQ:=Lib.hid hnq;clear hnq
          have k0:wr.cell? ⟨w.heap.size,0,none⟩=some (.slice A1 n d1):=by obtain⟨q,rfl⟩:=hd;exact HKw.out.cell 0
          have k1:wr.cell? ⟨w.heap.size,1,none⟩=some (.slice (some ⟨b,o,none⟩) m d2):=by obtain⟨q,rfl⟩:=hd;exact HKw.out.cell 1
          have y0:wr.cell? ⟨W0.heap.size,0,none⟩=some (.string ⟨x.1.toArray⟩):=by obtain⟨q,rfl⟩:=hd;exact HA.out.cell 0
          have y1:wr.cell? ⟨W0.heap.size,1,none⟩=some (.string ⟨x.2.toArray⟩):=by obtain⟨q,rfl⟩:=hd;exact HA.out.cell 1
          have HDB:=Lib.hid (H2.out.trans (hd.below.mono (HSZ.out _ H2.out)))
          have HDB3:=Lib.hid (H3.out.trans (hd.below.mono H3.out.size))
          have HDR:=Lib.hid hd;clear hd
          by_cases hlj:j<i
          ·have f1:(j:Int)<(i:Int):=by omega
           have f2:(0:Int)≤(j:Int):=by omega
           have f3:(j:Int)<(m:Int):=by omega
           obtain⟨b',o',eA,_,h1,h2⟩:=KBB.out _ HDB.out j hlj
           injection eA with eA
           injection eA with eb eo
           subst eb;subst eo
           by_cases hx:kl T.K j=x
           ·have t4:=eql_yes (kl T.K j) x hx
            have E2:=Lib.hid (IK3.out j hlj hx)
            clear hx
            go_wp2
            go_quiet (fail)
            go_wp2
            go_ret
            exact⟨by rw[E2.out];rfl,below_drewN HDB.out _⟩
           ·have t4:=eql_no (kl T.K j) x hx
            have HX:=Lib.hid hx;clear hx
            go_wp2
            go_quiet (fail)
            go_wp2
            go_roundw
            case rel=>exact⟨j+1,by omega,by go_num,fun q hq=>by
             by_cases e:q=j
             ·rw[e];exact HX.out
             ·exact HNQ.out q (by omega),HDR.out.trans ⟨_,rfl⟩⟩
            case measure=>simp [intOf];omega
          ·have f1:¬(j:Int)<(i:Int):=by omega
           have E2:=Lib.hid (HNS.out fun q hq=>HNQ.out q (by omega))
           go_wp2
           go_roundw
           case rel=>exact⟨i+1,by omega,by go_num,E.out,E2.out,HDB3.out⟩
           case measure=>simp [intOf];omega
       ·obtain⟨z2,ez2,hz2⟩:=place_out g2
        rw[←ez2] at C4
        have s5:decide (z2<0)=true:=decide_eq_true hz2
        have E:=Lib.hid (IKI.out (by rw[pairB,decide_eq_false g2];simp))
        clear g1 g2 ez1 ez2 hz1 hz2
        go_wp2_with (first
         |(go_at_call 104;with_reducible refine Calls.mono (C3.out _ H2.out) ?_;rintro e w9 ⟨rfl,rfl⟩;clear C3)
         |(go_at_call 104;with_reducible refine Calls.mono (C4.out _ H2.out) ?_;rintro e w9 ⟨rfl,rfl⟩;clear C4))
        go_ret
        exact⟨by rw[E.out];rfl,H2.out⟩
      ·obtain⟨z1,ez1,hz1⟩:=place_out g1
       rw[←ez1] at C3
       have s4:decide (z1<0)=true:=decide_eq_true hz1
       have E:=Lib.hid (IKI.out (by rw[pairB,decide_eq_false g1];simp))
       clear g1 ez1 hz1
       go_wp2_with (go_at_call 104;with_reducible refine Calls.mono (C3.out _ H2.out) ?_;rintro e w9 ⟨rfl,rfl⟩;clear C3)
       go_ret
       exact⟨by rw[E.out];rfl,H2.out⟩
     ·have e1:¬(i:Int)<(m:Int):=by omega
      have hiP:T.K.length≤i:=by have:=EM.out;omega
      have IY3:=Lib.hid (IY2.out (all_take hiP HN.out) (by have h:=HND.out;rwa [List.take_of_length_le hiP] at h))
      clear IY2 HN HND IK IK2 hiP
      go_wp2
      obtain⟨W3,eW3⟩:∃W3,W3=wr:=⟨_,rfl⟩
      rw[←eW3] at HKr HBN⊢
      clear eW3 k0 k1 k2 HK HB HBW KB hi hlt e1
      go_loopw [6] (fun iv wr=>∃i:Nat,i≤k∧iv = .int .i64 (i:Int)∧(T.P.take i).all (pathB T.R)=true∧((endsL T.P).take i).Nodup∧Below W3.heap.size W3 wr) (fun iv _=>k - (intOf iv).toNat)
      case atStart=>exact⟨0,Nat.zero_le _,rfl,by simp,by simp,Below.refl _ _⟩
      case round=>
       have HK:=HKr;have HB:=HBN;clear HKr HBN
       obtain⟨i,hi,rfl,hn,hnd,hbw⟩:=hrel
       have HN:=Lib.hid hn;clear hn
       have HND:=Lib.hid hnd;clear hnd
       have HBW:=Lib.hid hbw;clear hbw
       have HBN:=Lib.hid (HB.out.trans (HBW.out.mono (HSZ.out _ HB.out)))
       have HKr:=Lib.hid (HK.out.below HBW.out)
       have k0:=HKr.out.cell 0;have k1:=HKr.out.cell 1;have k2:=HKr.out.cell 2
       simp only[List.getElem?_toArray,List.getElem?_cons_zero,List.getElem?_cons_succ] at k0 k1 k2
       by_cases hlt:i<k
       ·have e1:(i:Int)<(k:Int):=by omega
        have e2:(0:Int)≤(i:Int):=by omega
        have him:i<T.P.length:=by rw[←EK.out];exact hlt
        have hal:=all_succ (p:=pathB T.R) him
        rw[HN.out,Bool.true_and,←al_lt him] at hal
        have hnd:=enodup him HND.out
        have ik:=IP.out i him
        have IK3:=Lib.hid (fun q=>IP2.out i q him)
        obtain⟨b,o,eA,hbB,h1,h2,u,h3,h4⟩:=rda_at (AB.out _ HBN.out) him
        have KBB:=Lib.hid (fun w1 (h:Below N w w1) j (hj:j<i)=>rda_at (AB.out w1 h) (Nat.lt_trans hj him))
        have RPI:=Lib.hid (RP.out i hlt)
        subst eA
        obtain⟨x,ex⟩:∃x,x=al T.P i:=⟨_,rfl⟩
        rw[←ex] at hnd hal ik IK3 h1 h2 h4 RPI
        have HALL:=Lib.hid hal;have HNS:=Lib.hid hnd;have IKI:=Lib.hid ik
        have h4':=h4
        obtain⟨A5,d5,eu,_⟩:=h4'
        subst eu
        obtain⟨k5,ek5⟩:∃k,k=x.v.length:=⟨_,rfl⟩
        rw[←ek5] at h3 h4
        have c5:=RPI.out _ wr.drew (below_drewN HBN.out 1) ⟨_,rfl,h4.below (B:=B) (w':=wr.drew) (below_drewN (Below.refl B wr) 1)⟩
        have HBB:=Lib.hid (show b<wr.heap.size from Nat.lt_of_lt_of_le hbB (Nat.le_trans hBN.out (HSZ.out _ HBN.out)))
        have HP0:=Lib.hid (show wr.drew.cell? ⟨b,o+i*3,none⟩=_ from h1)
        have HP1:=Lib.hid (show wr.drew.cell? ⟨b,o+i*3+1,none⟩=_ from h2)
        have HP2:=Lib.hid (show wr.drew.cell? ⟨b,o+i*3+2,none⟩=_ from h3)
        have HX2:=Lib.hid (show x.f=(al T.P i).f∧x.t=(al T.P i).t from by rw[ex];exact⟨rfl,rfl⟩)
        clear ex him hal hnd ik h1 h2 h3 h4 ek5 hbB
        cases hpx:pathB T.R x with
        |false=>
         rw[hpx] at c5
         have E:=Lib.hid (IKI.out hpx)
         clear hpx
         go_wp2
         clear k0 k1 k2
         replace HKr:=Lib.hid (HKr.out.drewN 1)
         replace HBN:=Lib.hid (below_drewN HBN.out 1)
         replace HBW:=Lib.hid (below_drewN HBW.out 1)
         go_region_held3 (fun w'=>w'.cell? ⟨w.heap.size,0,none⟩=some (.slice A1 n d1)∧w'.cell? ⟨w.heap.size,1,none⟩=some (.slice A2 m d2)∧w'.cell? ⟨w.heap.size,2,none⟩=some (.slice (some ⟨b,o,none⟩) k d3)∧w'.cell? ⟨b,o+i*3,none⟩=some (.string ⟨x.f.toArray⟩)∧w'.cell? ⟨b,o+i*3+1,none⟩=some (.string ⟨x.t.toArray⟩)∧w'.cell? ⟨b,o+i*3+2,none⟩=some (.slice A5 k5 d5)) (exact⟨HKr.out.cell 0,HKr.out.cell 1,HKr.out.cell 2,HP0.out,HP1.out,HP2.out⟩) ((go_at_call 154;refine Calls.mono c5 ?_;rintro e w9 ⟨rfl,hb⟩;clear c5;replace HKr:=Lib.hid (HKr.out.below hb);replace HP0:=Lib.hid ((hb.cell HBB.out).trans HP0.out);replace HP1:=Lib.hid ((hb.cell HBB.out).trans HP1.out);replace HP2:=Lib.hid ((hb.cell HBB.out).trans HP2.out);replace HBN:=Lib.hid (HBN.out.trans (hb.mono (HSZ.out _ HBN.out)));replace HBW:=Lib.hid (HBW.out.trans (hb.mono HBW.out.size));clear hb))
         go_wp2
         go_ret
         exact⟨by rw[E.out];rfl,HBN.out⟩
        |true=>
         rw[hpx] at c5
         have E:=Lib.hid (HALL.out.trans hpx)
         clear hpx
         go_wp2
         clear k0 k1 k2
         replace HKr:=Lib.hid (HKr.out.drewN 1)
         replace HBN:=Lib.hid (below_drewN HBN.out 1)
         replace HBW:=Lib.hid (below_drewN HBW.out 1)
         go_region_held3 (fun w'=>w'.cell? ⟨w.heap.size,0,none⟩=some (.slice A1 n d1)∧w'.cell? ⟨w.heap.size,1,none⟩=some (.slice A2 m d2)∧w'.cell? ⟨w.heap.size,2,none⟩=some (.slice (some ⟨b,o,none⟩) k d3)∧w'.cell? ⟨b,o+i*3,none⟩=some (.string ⟨x.f.toArray⟩)∧w'.cell? ⟨b,o+i*3+1,none⟩=some (.string ⟨x.t.toArray⟩)∧w'.cell? ⟨b,o+i*3+2,none⟩=some (.slice A5 k5 d5)) (exact⟨HKr.out.cell 0,HKr.out.cell 1,HKr.out.cell 2,HP0.out,HP1.out,HP2.out⟩) ((go_at_call 154;refine Calls.mono c5 ?_;rintro e w9 ⟨rfl,hb⟩;clear c5;replace HKr:=Lib.hid (HKr.out.below hb);replace HP0:=Lib.hid ((hb.cell HBB.out).trans HP0.out);replace HP1:=Lib.hid ((hb.cell HBB.out).trans HP1.out);replace HP2:=Lib.hid ((hb.cell HBB.out).trans HP2.out);replace HBN:=Lib.hid (HBN.out.trans (hb.mono (HSZ.out _ HBN.out)));replace HBW:=Lib.hid (HBW.out.trans (hb.mono HBW.out.size));clear hb))
         go_wp2
         obtain⟨W4,eW4⟩:∃W4,W4=w9:=⟨_,rfl⟩
         rw[←eW4] at HKr HBN HBW HP0 HP1 HP2⊢
         clear eW4
         have hik:(i:Int)<(k:Int):=e1
         go_loopw [7] (fun jv wq=>∃j:Nat,j≤i∧jv = .int .i64 (j:Int)∧(∀q,q<j→¬((al T.P q).f=x.f∧(al T.P q).t=x.t))∧Drawn W4 wq) (fun jv _=>i - (intOf jv).toNat)
         case atStart=>exact⟨0,Nat.zero_le _,rfl,fun q hq=>absurd hq (Nat.not_lt_zero q),Drawn.refl _⟩
         case round=>
          obtain⟨j,hj,rfl,hnq,hd⟩:=hrel
          have HNQ:=Lib.hid hnq;clear hnq
          have k0:wr.cell? ⟨w.heap.size,0,none⟩=some (.slice A1 n d1):=by obtain⟨q,rfl⟩:=hd;exact HKr.out.cell 0
          have k2:wr.cell? ⟨w.heap.size,2,none⟩=some (.slice (some ⟨b,o,none⟩) k d3):=by obtain⟨q,rfl⟩:=hd;exact HKr.out.cell 2
          have x0:wr.cell? ⟨b,o+i*3,none⟩=some (.string ⟨x.f.toArray⟩):=by obtain⟨q,rfl⟩:=hd;exact HP0.out
          have x1:wr.cell? ⟨b,o+i*3+1,none⟩=some (.string ⟨x.t.toArray⟩):=by obtain⟨q,rfl⟩:=hd;exact HP1.out
          have HDB:=Lib.hid (HBN.out.trans (hd.below.mono (HSZ.out _ HBN.out)))
          have HDB3:=Lib.hid (HBW.out.trans (hd.below.mono HBW.out.size))
          have HDR:=Lib.hid hd;clear hd
          by_cases hlj:j<i
          ·have f1:(j:Int)<(i:Int):=by omega
           have f2:(0:Int)≤(j:Int):=by omega
           have f3:(j:Int)<(k:Int):=by omega
           obtain⟨b',o',eA,_,h1,h2,u9,h3,h4⟩:=KBB.out _ HDB.out j hlj
           injection eA with eA
           injection eA with eb eo
           subst eb;subst eo
           clear h3 h4
           by_cases g1:(al T.P j).f=x.f
           ·have t3:((al T.P j).f==x.f)=true:=by simpa using g1
            by_cases g2:(al T.P j).t=x.t
            ·have t4:((al T.P j).t==x.t)=true:=by simpa using g2
             have E2:=Lib.hid (IK3.out j hlj g1 g2)
             clear g1 g2
             go_wp2
             go_quiet (fail)
             go_wp2
             go_ret
             exact⟨by rw[E2.out];rfl,below_drewN HDB.out _⟩
            ·have t4:((al T.P j).t==x.t)=false:=by simpa using g2
             have HX:=Lib.hid (show ¬((al T.P j).f=x.f∧(al T.P j).t=x.t) from fun h=>g2 h.2)
             clear g1 g2
             go_wp2
             go_quiet (fail)
             go_wp2
             go_roundw
             case rel=>exact⟨j+1,by omega,by go_num,fun q hq=>by
              by_cases e:q=j
              ·rw[e];exact HX.out
              ·exact HNQ.out q (by omega),HDR.out.trans ⟨_,rfl⟩⟩
             case measure=>simp [intOf];omega
           ·have t3:((al T.P j).f==x.f)=false:=by simpa using g1
            have HX:=Lib.hid (show ¬((al T.P j).f=x.f∧(al T.P j).t=x.t) from fun h=>g1 h.1)
            clear g1
            go_wp2
            go_quiet (fail)
            go_wp2
            go_roundw
            case rel=>exact⟨j+1,by omega,by go_num,fun q hq=>by
             by_cases e:q=j
             ·rw[e];exact HX.out
             ·exact HNQ.out q (by omega),HDR.out.trans ⟨_,rfl⟩⟩
            case measure=>simp [intOf];omega
          ·have f1:¬(j:Int)<(i:Int):=by omega
           have E2:=Lib.hid (HNS.out fun q hq=>HNQ.out q (by omega))
           go_wp2
           go_roundw
           case rel=>exact⟨i+1,by omega,by go_num,E.out,E2.out,HDB3.out⟩
           case measure=>simp [intOf];omega
       ·have e1:¬(i:Int)<(k:Int):=by omega
        have hiP:T.P.length≤i:=by have:=EK.out;omega
        have E:=Lib.hid (IY3.out (all_take hiP HN.out) (by have h:=HND.out;rwa [List.take_of_length_le (by rw[ends_length];exact hiP)] at h))
        clear hiP
        go_wp2
        go_ret
        exact⟨by rw[E.out];rfl,HBN.out⟩
   ·have t2:decide (8<(k:Int))=true:=by simp;omega
    have E:=Lib.hid (ID.out q2)
    clear q1 q2
    go_enter Tryz.func103,Tryz.ntmps103
    go_wp2_with (go_at_call 153;refine Calls.mono c1 ?_;rintro e w1 ⟨rfl,hb⟩;clear c1;replace HK:=Lib.hid (HK.out.below hb);replace HB:=Lib.hid (HB.out.trans (hb.mono (HSZ.out _ HB.out)));clear hb;have k0:=HK.out.cell 0;have k1:=HK.out.cell 1;have k2:=HK.out.cell 2;simp only[List.getElem?_toArray,List.getElem?_cons_zero,List.getElem?_cons_succ] at k0 k1 k2)
    go_ret
    exact⟨by rw[E.out];rfl,HB.out⟩
  ·have t1:decide (20<(m:Int))=true:=by simp;omega
   have E:=Lib.hid (IC.out q1)
   clear q1
   go_enter Tryz.func103,Tryz.ntmps103
   go_wp2_with (go_at_call 153;refine Calls.mono c1 ?_;rintro e w1 ⟨rfl,hb⟩;clear c1;replace HK:=Lib.hid (HK.out.below hb);replace HB:=Lib.hid (HB.out.trans (hb.mono (HSZ.out _ HB.out)));clear hb;have k0:=HK.out.cell 0;have k1:=HK.out.cell 1;have k2:=HK.out.cell 2;simp only[List.getElem?_toArray,List.getElem?_cons_zero,List.getElem?_cons_succ] at k0 k1 k2)
   go_ret
   exact⟨by rw[E.out];rfl,HB.out⟩
end Go.Proofs.YtfcjeebnkigeaaaGreat.Rt
end

section
set_option linter.unusedVariables false
set_option linter.unusedSimpArgs false
namespace Go.Proofs.YtfcjeebnkigeaaaGreat.Kd
open Go.RowKit Go.Proofs.YtfcjeebnkigeaaaGreat.Mem Go.Proofs.YtfcjeebnkigeaaaGreat.Se
open Go.Proofs.YtfcjeebnkigeaaaGreat.Nm (strs clone_any)
open Go.Proofs.YtfcjeebnkigeaaaGreat.Rg (It Ent Ring RO its DRing DO)
open Go.Proofs.YtfcjeebnkigeaaaGreat.Rt (Tp Sm SlV SlP TpV isT)
section
variable {w:World} {B:Nat} {l:List It} {T:Tp} {R:Nm.L} {v1 v2 v:Value} {q lo hi:Nat}
set_option maxRecDepth 100000 in
set_option maxHeartbeats 3200000 in
theorem dnew_a (hs:Sm T) (hT:isT T=true) (hR:R∈T.R) (ht:TpK (fun b=>lo≤b∧b<hi) w v1 v2 (.slice none 0 0) T) (hlo:B≤lo) (hhi:hi≤w.heap.size) (hd:DRing w B q v l) (hB:B≤w.heap.size) :
  Calls Tryz.prog 46 #[.string ⟨R.toArray⟩,.agg (tpA v1 v2),.pointer (some ⟨q,0,none⟩)] w fun e w'=>∃x,e = .returned (.tuple #[.pointer (some ⟨x,0,none⟩),.int .i64 0])∧w.heap.size≤x∧DK w' B ⟨x,q,lo,hi,R,T,v,v1,v2,.slice none 0 0⟩ l 0 0∧Below w.heap.size w w':=by
 obtain⟨A1,c1,A2,c2,rfl,rfl,_⟩:=ht.sizes
 obtain⟨W,eW⟩:∃W,W=w.alloc (.cells (tpA (.slice A1 T.R.length c1) (.slice A2 T.K.length c2)) 60):=⟨_,rfl⟩
 have hb:Below w.heap.size w W:=eW▸(Below.refl _ _).alloc (Nat.le_refl _) _
 have htW:TpK (fun b=>lo≤b∧b<hi) W (.slice A1 T.R.length c1) (.slice A2 T.K.length c2) (.slice none 0 0) T:=ht.keep (fun b o hb2=>World.cell?_of_block (a:=⟨b,o,none⟩) (hb.block b (by have:=hb2.2;omega))) (fun _ x=>x)
 have HT:=Lib.hid (show Blk W w.heap.size 60 (tpA (.slice A1 T.R.length c1) (.slice A2 T.K.length c2)) from eW▸Blk.new w _ _)
 have HB:=Lib.hid hb
 have CI:=Lib.hid (Rt.rist_any T _ hi W hs (htW.tpv (fun b x=>x.2)) (Nat.le_trans hhi hb.size))
 rw[hT] at CI
 have CP:=Lib.hid (fun(w1:World) (b1:Below w.heap.size w w1)=>Rt.place_any T.R A1 c1 hi R w1 (by have:=hs.r;omega) (by
  obtain⟨A,c,e,_,h⟩:=ht.r.slv (B:=hi) (fun b x=>x.2)
  injection e with e1 _ _
  subst e1
  exact h.below (b1.mono hhi)))
 have hix:¬Tr.ixL R T.R<0:=by
  rw[Tr.ixL,if_pos hR];omega
 have HTP:=Lib.hid ht
 have HDR:=Lib.hid hd
 have HLO:=Lib.hid hlo;have HHI:=Lib.hid hhi;have HBW:=Lib.hid hB
 obtain⟨n,en⟩:∃n,n=T.R.length:=⟨_,rfl⟩
 obtain⟨m,em⟩:∃m,m=T.K.length:=⟨_,rfl⟩
 obtain⟨ix,eix⟩:∃z,z=Tr.ixL R T.R:=⟨_,rfl⟩
 rw[←eix] at CP hix
 rw[←en] at CI CP HT eW HTP⊢
 rw[←em] at CI HT eW HTP⊢
 clear hs hT hR ht hlo hhi hd hB hb htW en em eix
 go_enter Tryz.func46,Tryz.ntmps46
 go_upto_region 1 with fail
 rw[←eW]
 clear eW
 have kq0:=HT.out.cell 0
 have kq1:=HT.out.cell 1
 have kq2:=HT.out.cell 2
 go_upto_region 3 with(first
  |(go_at_call 103;refine Calls.mono CI.out ?_;rintro e w2 ⟨rfl,hb⟩;clear CI kq0 kq1 kq2;replace HT:=Lib.hid (HT.out.below hb);replace HB:=Lib.hid (HB.out.trans (hb.mono HB.out.size));have kq0:=HT.out.cell 0;have kq1:=HT.out.cell 1;have kq2:=HT.out.cell 2;clear hb)
  |(go_at_call 104;refine Calls.mono (CP.out _ HB.out) ?_;rintro e w3 ⟨rfl,hw⟩;clear CP;subst hw)
  |fail)
 go_wp2_with fail
 go_ret2
 have hsz:=HB.out.size;have hlo:=HLO.out;have hhi:=HHI.out;have hbw:=HBW.out
 have hb2:Below w2.heap.size w2 (w2.alloc (.cells #[.string ⟨R.toArray⟩,.slice A1 n c1,.slice A2 m c2,.slice none 0 0,.pointer (some ⟨q,0,none⟩),.int .i64 0,.int .i64 0] 63)):=(Below.refl _ _).alloc (Nat.le_refl _) _
 have hbc:=HB.out.trans (hb2.mono hsz)
 refine⟨w2.heap.size,rfl,hsz,⟨Blk.new _ _ _,HDR.out.below hbc,?_,?_,hlo,?_,?_,?_⟩,hbc⟩
 ·exact HTP.out.keep (fun b o hb=>World.cell?_of_block (a:=⟨b,o,none⟩) (hbc.block b (by have:=hb.2;omega))) (fun b hb=>hb)
 ·show B≤w2.heap.size;omega
 ·show hi≤_;have:=hbc.size;omega
 ·intro hx;have:=HDR.out.own_lt hx;simp only at this;omega
 ·intro hx;have:=hx.2;simp only at this;omega
end
end Go.Proofs.YtfcjeebnkigeaaaGreat.Kd
end
