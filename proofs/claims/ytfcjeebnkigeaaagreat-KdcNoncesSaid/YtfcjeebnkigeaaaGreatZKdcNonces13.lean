import Derived.Deep.LoopGhost
import Derived.DeepKeys
import Derived.Laws.StructEq
import Derived.StillTailTactics
import Derived.Laws.OwnMore
import Derived.Test.YtfcjeebnkigeaaaGreatZKdcNonces1
import Derived.Test.YtfcjeebnkigeaaaGreatZKdcNonces2
import Derived.Test.YtfcjeebnkigeaaaGreatZKdcNonces3
import Derived.Test.YtfcjeebnkigeaaaGreatZKdcNonces4
import Derived.Test.YtfcjeebnkigeaaaGreatZKdcNonces5
import Derived.Test.YtfcjeebnkigeaaaGreatZKdcNonces6
import Derived.Test.YtfcjeebnkigeaaaGreatZKdcNonces7
import Derived.Test.YtfcjeebnkigeaaaGreatZKdcNonces9
import Derived.Test.YtfcjeebnkigeaaaGreatZKdcNonces11
import Derived.Test.YtfcjeebnkigeaaaGreatZKdcNonces12
section
set_option linter.unusedVariables false
namespace Go.Proofs.YtfcjeebnkigeaaaGreat.Nm
open Go.RowKit Go.Proofs.YtfcjeebnkigeaaaGreat.Mem
attribute [local go_sem] mk_at List.getElem_cons_zero List.getElem_cons_succ ext_rng
theorem labs_bad {ls:List L} {i:Nat} (hi:i<ls.length) (h:wordL capB (pl ls i)=false):labsL ls=false:=by
 cases e:labsL ls with
 |false=>rfl
 |true=>
  have:=((labsL_iff ls).1 e).2.2
  rw[List.all_eq_true] at this
  have:=this _ (pl_mem hi)
  rw[h] at this;cases this
theorem labs_all {ls:List L} (h:∀i,i<ls.length→wordL capB (pl ls i)=true) (h1:1≤ls.length):labsL ls=decide (ls.length≤4):=by
 have ha:ls.all (wordL capB)=true:=by
  rw[List.all_eq_true]
  intro x hx
  obtain⟨i,hi,rfl⟩:=mem_pl hx
  exact h i hi
 rw[labsL,ha,decide_eq_true h1];simp
set_option maxHeartbeats 3200000 in
set_option maxRecDepth 100000 in
theorem labels_some (ls:List L) (b o c:Nat) (w:World) (h1:1≤ls.length) (hl:ls.length≤8000000000000) (hs:∀i,i<ls.length→(pl ls i).length≤1000000000)
  (hc:∀i,i<ls.length→w.cell? ⟨b,o+i,none⟩=some (.string ⟨(pl ls i).toArray⟩)) :
  Calls Tryz.prog 208 #[.slice (some ⟨b,o,none⟩) ls.length c] w fun e w'=>e = .returned (.bool (labsL ls))∧w=w':=by
 obtain⟨n,en⟩:∃n,n=ls.length:=⟨_,rfl⟩
 rw[←en] at h1 hl hs hc⊢
 have HS:=Lib.hid hs;clear hs
 have HC:=Lib.hid hc;clear hc
 have EN:=Lib.hid en;clear en
 go_enter Tryz.func208,Tryz.ntmps208
 go_wp2
 go_loop [3] (fun iv=>∃i:Nat,i≤n∧iv = .int .i64 (i:Int)∧∀j,j<i→wordL capB (pl ls j)=true) (fun iv=>n - (intOf iv).toNat)
 case atStart=>exact⟨0,Nat.zero_le _,rfl,fun j h=>absurd h (Nat.not_lt_zero j)⟩
 case round=>
  obtain⟨i,hi,rfl,hw⟩:=hrel
  have HW:=Lib.hid hw;clear hw
  by_cases hlt:i<n
  ·have e1:(i:Int)<(n:Int):=by omega
   have hc:=HC.out i hlt
   have hsz:=HS.out i hlt
   obtain⟨l,el⟩:∃l,l=pl ls i:=⟨_,rfl⟩
   rw[←el] at hc hsz
   have EL:=Lib.hid el;clear el
   by_cases g1:l.length<1
   ·have t1:decide ((l.length:Int)<1)=true:=by simp;omega
    have E:=Lib.hid (labs_bad (by rw[←EN.out];exact hlt) (by rw[←EL.out];exact word_short g1))
    clear g1
    go_wp2
    go_ret
    exact⟨by rw[E.out];rfl,rfl⟩
   ·have t1:decide ((l.length:Int)<1)=false:=by simp;omega
    by_cases g2:8<l.length
    ·have t2:decide (8<(l.length:Int))=true:=by simp;omega
     have E:=Lib.hid (labs_bad (by rw[←EN.out];exact hlt) (by rw[←EL.out];exact word_long g2))
     clear g1 g2
     go_wp2
     go_ret
     exact⟨by rw[E.out];rfl,rfl⟩
    ·have t2:decide (8<(l.length:Int))=false:=by simp;omega
     have HA:=Lib.hid (fun h=>word_all (p:=capB) (l:=l) h (by omega) (by omega))
     clear g1 g2
     go_wp2
     go_loop [4] (fun kv=>∃k:Nat,k≤l.length∧kv = .int .i64 (k:Int)∧Fit capB l k) (fun kv=>l.length - (intOf kv).toNat)
     case atStart=>exact⟨0,Nat.zero_le _,rfl,fun i _ h=>by omega⟩
     case round=>
      obtain⟨k,hk,rfl,hf⟩:=hrel
      have HF:=Lib.hid hf;clear hf
      by_cases hkl:k<l.length
      ·have e2:(k:Int)<(l.length:Int):=by omega
       have hb:=u8_le l[k]
       by_cases q1:l[k].toNat<65
       ·have s1:decide ((l[k].toNat:Int)<65)=true:=by simp;omega
        have E:=Lib.hid (labs_bad (ls:=ls) (i:=i) (by rw[←EN.out];exact hlt) (by rw[←EL.out];exact word_bad hkl (by simp [capB];omega)))
        clear q1
        go_wp2
        go_ret
        exact⟨by rw[E.out];rfl,rfl⟩
       ·have s1:decide ((l[k].toNat:Int)<65)=false:=by simp;omega
        by_cases q2:90<l[k].toNat
        ·have s2:decide (90<(l[k].toNat:Int))=true:=by simp;omega
         have E:=Lib.hid (labs_bad (ls:=ls) (i:=i) (by rw[←EN.out];exact hlt) (by rw[←EL.out];exact word_bad hkl (by simp [capB];omega)))
         clear q1 q2
         go_wp2
         go_ret
         exact⟨by rw[E.out];rfl,rfl⟩
        ·have s2:decide (90<(l[k].toNat:Int))=false:=by simp;omega
         have HP:=Lib.hid (show capB l[k]=true by simp [capB];omega)
         clear q1 q2
         go_wp2
         go_round
         case rel=>exact⟨k+1,by omega,by go_num,fun i hi hik=>by
          by_cases q:i=k
          ·subst q;exact HP.out
          ·exact HF.out i hi (by omega)⟩
         case measure=>simp [intOf];omega
      ·have e2:¬(k:Int)<(l.length:Int):=by omega
       have E:=Lib.hid (HA.out (fun i hi=>HF.out i hi (by omega)))
       go_wp2
       go_round
       case rel=>exact⟨i+1,by omega,by go_num,fun j hj=>by
        by_cases q:j=i
        ·rw[q,←EL.out];exact E.out
        ·exact HW.out j (by omega)⟩
       case measure=>simp [intOf];omega
  ·obtain rfl:i=n:=by omega
   have e1:¬(i:Int)<(i:Int):=by omega
   have hE:=labs_all (ls:=ls) (fun j hj=>HW.out j (by rw[EN.out];exact hj)) (by rw[←EN.out];exact h1)
   rw[←EN.out] at hE
   have E:=Lib.hid hE;clear hE
   have t1:decide ((1:Int)≤(i:Int))=true:=by simp;omega
   by_cases g:i≤4
   ·have t2:decide ((i:Int)≤4)=true:=by simp;omega
    have E2:=Lib.hid (decide_eq_true g)
    clear g
    go_wp2
    go_ret
    exact⟨by rw[E.out,E2.out];rfl,rfl⟩
   ·have t2:decide ((i:Int)≤4)=false:=by simp;omega
    have E2:=Lib.hid (decide_eq_false g)
    clear g
    go_wp2
    go_ret
    exact⟨by rw[E.out,E2.out];rfl,rfl⟩
theorem labels_any (ls:List L) (A:Option Addr) (c B:Nat) (w:World) (h1:1≤ls.length) (hl:ls.length≤8000000000000) (hs:∀i,i<ls.length→(pl ls i).length≤1000000000) (hr:Rd w B A (strs ls)) :
  Calls Tryz.prog 208 #[.slice A ls.length c] w fun e w'=>e = .returned (.bool (labsL ls))∧w=w':=by
 obtain⟨b,o,rfl,_,_⟩:=rd_txt hr (i:=0) h1
 refine labels_some ls b o c w h1 hl hs fun i hi=>?_
 obtain⟨b',o',e,_,hc⟩:=rd_txt hr hi
 injection e with e
 injection e with e1 e2
 subst e1;subst e2
 exact hc
end Go.Proofs.YtfcjeebnkigeaaaGreat.Nm
end

section
set_option linter.unusedVariables false
namespace Go.Proofs.YtfcjeebnkigeaaaGreat.Nm
open Go.RowKit Go.Proofs.YtfcjeebnkigeaaaGreat.Mem
attribute [local go_sem] mk_at List.getElem_cons_zero List.getElem_cons_succ ext_tail ext_drop ext_take
theorem split_mem (c:UInt8) (l:L):∀x,x∈split c l→x.length≤l.length:=by
 induction l with
 |nil=>intro x hx;simp [split] at hx;simp [hx]
 |cons a r ih=>
  intro x hx
  rw[split] at hx
  split at hx
  ·rcases List.mem_cons.1 hx with rfl | h
   ·simp
   ·have:=ih x h;simp;omega
  ·cases hs:split c r with
   |nil=>rw[hs] at hx;simp at hx;subst hx;simp
   |cons u t=>
    rw[hs] at hx ih
    rcases List.mem_cons.1 hx with rfl | h
    ·have:=ih u List.mem_cons_self;simp;omega
    ·have:=ih x (List.mem_cons_of_mem _ h);simp;omega
theorem slab_any (l:L) (c:UInt8) (w':World) (base:Nat) (v:Value) (hs:l.length≤1000000000) (ho:Own w' base v (split c l)) :
  ∃A n cap,v = .slice A n cap∧∀w1,Below w'.heap.size w' w1→Calls Tryz.prog 208 #[.slice A n cap] w1 fun e w2=>e = .returned (.bool (labsL (split c l)))∧w1=w2:=by
 obtain⟨A,cap,rfl,hr⟩:=ho.slice
 refine⟨A,_,cap,rfl,fun w1 hb=>?_⟩
 exact labels_any (split c l) A cap w'.heap.size w1 (split_len c l) (by have:=split_le c l;omega) (fun i hi=>by have:=split_mem c l _ (pl_mem hi);omega) (hr.below hb)
set_option maxHeartbeats 1600000 in
set_option maxRecDepth 100000 in
theorem rkind_any (l:L) (w:World) (hs:l.length≤1000000000):Calls Tryz.prog 141 #[.string ⟨l.toArray⟩] w fun e w'=>e = .returned (.int .i64 (kindL l:Int))∧Below w.heap.size w w':=by
 have C2:=Lib.hid (fun w1=>split_any l 46 w1 hs)
 have S2:=Lib.hid (fun w' base v ho=>slab_any l 46 w' base v hs ho)
 have HB0:=Lib.hid (Below.refl w.heap.size w)
 cases l with
 |nil=>
  have E:=Lib.hid kind_nil
  have c2:=C2.out w
  have EL:=Lib.hid (show labsL (split 46 [])=false by decide)
  clear hs
  go_enter Tryz.func141,Tryz.ntmps141
  go_wp2_with (first
   |(go_at_call 177;refine Calls.mono c2 ?_;rintro e w1 ⟨v,rfl,ho,hb⟩;clear c2;obtain⟨A,n,cap,rfl,hc⟩:=S2.out w1 _ v ho;have c3:=hc w1 (Below.refl _ _);rw[EL.out] at c3;have H1:=Lib.hid hb;clear hb ho hc)
   |(go_at_call 208;refine Calls.mono c3 ?_;rintro e w2 ⟨rfl,rfl⟩;clear c3))
  go_ret
  exact⟨by rw[E.out];rfl,H1.out⟩
 |cons x r=>
  have e0:(0:Int)<(r.length:Int)+1:=by omega
  have hs':r.length≤1000000000:=by simp at hs;omega
  have ek:kindL (x :: r)=if slL (x :: r) then 2 else if labsL (split 46 (x :: r)) then 1 else 0:=rfl
  by_cases hx:x=47
  ·subst hx
   have esl:slL (47 :: r)=labsL (split 47 r):=by simp [slL]
   rw[esl] at ek
   have c1:=split_any r 47 w hs'
   have S1:=Lib.hid (fun w' base v ho=>slab_any r 47 w' base v hs' ho)
   cases h1:labsL (split 47 r) with
   |true=>
    have E:=Lib.hid (show kindL (47 :: r)=2 by rw[ek,h1];rfl)
    have H:=Lib.hid h1
    clear ek esl h1 hs hs'
    go_enter Tryz.func141,Tryz.ntmps141
    go_wp2_with (first
     |(go_at_call 177;refine Calls.mono c1 ?_;rintro e w1 ⟨v,rfl,ho,hb⟩;clear c1;obtain⟨A,n,cap,rfl,hc⟩:=S1.out w1 _ v ho;have c3:=hc w1 (Below.refl _ _);rw[H.out] at c3;have H1:=Lib.hid hb;clear hb ho hc)
     |(go_at_call 208;refine Calls.mono c3 ?_;rintro e w2 ⟨rfl,rfl⟩;clear c3))
    go_ret
    exact⟨by rw[E.out];rfl,H1.out⟩
   |false=>
    rw[h1,if_neg (by simp)] at ek
    have H:=Lib.hid h1
    have hd:labsL (split 46 (47 :: r))=false:=by
     cases q:labsL (split 46 (47 :: r)) with
     |false=>rfl
     |true=>exact absurd rfl (dom_head q)
    have HD:=Lib.hid hd
    have E:=Lib.hid (show kindL (47 :: r)=0 by rw[ek,hd];rfl)
    clear ek esl h1 hd hs hs'
    go_enter Tryz.func141,Tryz.ntmps141
    go_wp2_with (first
     |(go_at_call 177;refine Calls.mono c1 ?_;rintro e w1 ⟨v,rfl,ho,hb⟩;clear c1;obtain⟨A,n,cap,rfl,hc⟩:=S1.out w1 _ v ho;have c3:=hc w1 (Below.refl _ _);rw[H.out] at c3;have H1:=Lib.hid hb;clear hb ho hc;have c2:=C2.out w1)
     |(go_at_call 208;refine Calls.mono c3 ?_;rintro e w2 ⟨rfl,rfl⟩;clear c3)
     |(go_at_call 177;refine Calls.mono c2 ?_;rintro e w4 ⟨v4,rfl,ho,hb⟩;clear c2;obtain⟨A4,n4,cap4,rfl,hc⟩:=S2.out w4 _ v4 ho;have c5:=hc w4 (Below.refl _ _);rw[HD.out] at c5;have H4:=Lib.hid (H1.out.trans (hb.mono H1.out.size));clear hb ho hc)
     |(go_at_call 208;refine Calls.mono c5 ?_;rintro e w6 ⟨rfl,rfl⟩;clear c5))
    go_ret
    exact⟨by rw[E.out];rfl,H4.out⟩
  ·have t1:((x.toNat:Int)==47)=false:=by
    simp only[beq_eq_false_iff_ne,ne_eq]
    intro q
    exact hx (UInt8.toNat_inj.1 (by have:(47:UInt8).toNat=47:=rfl;omega))
   have esl:slL (x :: r)=false:=by simp [slL,hx]
   rw[esl,if_neg (by simp)] at ek
   have c2:=C2.out w
   cases h1:labsL (split 46 (x :: r)) with
   |true=>
    have E:=Lib.hid (show kindL (x :: r)=1 by rw[ek,h1];rfl)
    have H:=Lib.hid h1
    clear ek esl h1 hs hs' hx
    go_enter Tryz.func141,Tryz.ntmps141
    go_wp2_with (first
     |(go_at_call 177;refine Calls.mono c2 ?_;rintro e w1 ⟨v,rfl,ho,hb⟩;clear c2;obtain⟨A,n,cap,rfl,hc⟩:=S2.out w1 _ v ho;have c3:=hc w1 (Below.refl _ _);rw[H.out] at c3;have H1:=Lib.hid hb;clear hb ho hc)
     |(go_at_call 208;refine Calls.mono c3 ?_;rintro e w2 ⟨rfl,rfl⟩;clear c3))
    go_ret
    exact⟨by rw[E.out];rfl,H1.out⟩
   |false=>
    have E:=Lib.hid (show kindL (x :: r)=0 by rw[ek,h1];rfl)
    have H:=Lib.hid h1
    clear ek esl h1 hs hs' hx
    go_enter Tryz.func141,Tryz.ntmps141
    go_wp2_with (first
     |(go_at_call 177;refine Calls.mono c2 ?_;rintro e w1 ⟨v,rfl,ho,hb⟩;clear c2;obtain⟨A,n,cap,rfl,hc⟩:=S2.out w1 _ v ho;have c3:=hc w1 (Below.refl _ _);rw[H.out] at c3;have H1:=Lib.hid hb;clear hb ho hc)
     |(go_at_call 208;refine Calls.mono c3 ?_;rintro e w2 ⟨rfl,rfl⟩;clear c3))
    go_ret
    exact⟨by rw[E.out];rfl,H1.out⟩
set_option maxHeartbeats 400000 in
theorem ris_any (l:L) (w:World) (hs:l.length≤1000000000):Calls Tryz.prog 81 #[.string ⟨l.toArray⟩] w fun e w'=>e = .returned (.bool (isL l))∧Below w.heap.size w w':=by
 have c1:=rkind_any l w hs
 by_cases h:1≤kindL l
 ·have E:=Lib.hid (show isL l=true by simp [isL,h])
  have t:decide (0<kindL l)=true:=by simp;omega
  clear h
  go_enter Tryz.func81,Tryz.ntmps81
  go_wp2_with (go_at_call 141;refine Calls.mono c1 ?_;rintro e w1 ⟨rfl,hd⟩;clear c1;have H1:=Lib.hid hd;clear hd)
  go_ret
  exact⟨by rw[E.out];rfl,H1.out⟩
 ·have E:=Lib.hid (show isL l=false by simp [isL];omega)
  have e0:kindL l=0:=by omega
  rw[e0] at c1
  clear h e0
  go_enter Tryz.func81,Tryz.ntmps81
  go_wp2_with (go_at_call 141;refine Calls.mono c1 ?_;rintro e w1 ⟨rfl,hd⟩;clear c1;have H1:=Lib.hid hd;clear hd)
  go_ret
  exact⟨by rw[E.out];rfl,H1.out⟩
end Go.Proofs.YtfcjeebnkigeaaaGreat.Nm
end

section
set_option linter.unusedVariables false
namespace Go.Proofs.YtfcjeebnkigeaaaGreat.Nm
open Go.RowKit Go.Proofs.YtfcjeebnkigeaaaGreat.Mem
attribute [local go_sem] mk_at List.getElem_cons_zero List.getElem_cons_succ ext_tail ext_drop ext_take
theorem tg_short {n:L} (h:n.length<8):tgL n=false:=by
 cases q:preL krb n with
 |false=>rw[tgL,q];rfl
 |true=>
  have h1:n.drop 7 = []:=List.drop_of_length_le (by omega)
  have h2:cpL krb n = []:=by rw[cpL,q,if_pos rfl];exact h1
  rw[tgL,h2,show isL []=false from by decide,Bool.and_false]
theorem tg_eq (n:L):tgL n=((n.take 7==krb)&&isL (n.drop 7)):=by
 have e:=pre_take krb n
 rw[show krb.length=7 from rfl] at e
 rw[tgL,e]
 cases q:preL krb n with
 |false=>rfl
 |true=>rw[cpL,q];rfl
set_option maxHeartbeats 800000 in
theorem rtarget_any (n:L) (w:World) (hs:n.length≤1000000000):Calls Tryz.prog 82 #[.string ⟨n.toArray⟩] w fun e w'=>e = .returned (.tuple #[.string ⟨(tgR n).toArray⟩,.bool (tgL n)])∧Below w.heap.size w w':=by
 have c2:=ris_any (n.drop 7) w (by simp;omega)
 have HB0:=Lib.hid (Below.refl w.heap.size w)
 by_cases h8:n.length<8
 ·have E1:=Lib.hid (tg_short h8)
  have E2:=Lib.hid (show tgR n = [] by rw[tgR,E1.out];rfl)
  have t1:decide ((n.length:Int)<8)=true:=by simp;omega
  clear h8 hs
  go_enter Tryz.func82,Tryz.ntmps82
  go_wp2_with fail
  go_ret2
  exact⟨by rw[E1.out,E2.out];rfl,HB0.out⟩
 ·have t1:decide ((n.length:Int)<8)=false:=by simp;omega
  have e7:(7:Int)≤(n.length:Int):=by omega
  have eq:=tg_eq n
  clear h8
  cases h1:(n.take 7==krb) with
  |false=>
   rw[h1] at eq
   have t2:(n.take 7 == [107,114,98,116,103,116,47])=false:=h1
   have E1:=Lib.hid (show tgL n=false from eq)
   have E2:=Lib.hid (show tgR n = [] by rw[tgR,E1.out];rfl)
   clear eq h1 hs
   go_enter Tryz.func82,Tryz.ntmps82
   go_wp2_with fail
   go_ret2
   exact⟨by rw[E1.out,E2.out];rfl,HB0.out⟩
  |true=>
   rw[h1,Bool.true_and] at eq
   have t2:(n.take 7 == [107,114,98,116,103,116,47])=true:=h1
   clear h1 hs
   cases h2:isL (n.drop 7) with
   |false=>
    rw[h2] at c2 eq
    have E1:=Lib.hid eq
    have E2:=Lib.hid (show tgR n = [] by rw[tgR,E1.out];rfl)
    clear eq h2
    go_enter Tryz.func82,Tryz.ntmps82
    go_wp2_with (go_at_call 81;refine Calls.mono c2 ?_;rintro e w2 ⟨rfl,hd⟩;clear c2;have H2:=Lib.hid hd;clear hd)
    go_ret2
    exact⟨by rw[E1.out,E2.out];rfl,H2.out⟩
   |true=>
    rw[h2] at c2 eq
    have E1:=Lib.hid eq
    have E2:=Lib.hid (show tgR n=n.drop 7 by rw[tgR,E1.out];rfl)
    clear eq h2
    go_enter Tryz.func82,Tryz.ntmps82
    go_wp2_with (go_at_call 81;refine Calls.mono c2 ?_;rintro e w2 ⟨rfl,hd⟩;clear c2;have H2:=Lib.hid hd;clear hd)
    go_ret2
    exact⟨by rw[E1.out,E2.out];rfl,H2.out⟩
theorem word_fit {p:UInt8→Bool} {l:L} (h:∀i (h:i<l.length),p l[i]=true):wordL p l=(decide (1≤l.length)&&decide (l.length≤8)):=by
 have ha:l.all p=true:=by
  rw[List.all_eq_true]
  intro x hx
  obtain⟨i,hi,rfl⟩:=List.getElem_of_mem hx
  exact h i hi
 rw[wordL,ha,Bool.and_true]
set_option maxHeartbeats 1600000 in
set_option maxRecDepth 100000 in
theorem risprinc_any (r n:L) (w:World) (hs:r.length≤1000000000) (hs2:n.length≤1000000000):Calls Tryz.prog 33 #[.agg #[.string ⟨r.toArray⟩,.string ⟨n.toArray⟩]] w fun e w'=>e = .returned (.bool (princL r n))∧Below w.heap.size w w':=by
 have c1:=ris_any r (w.alloc (.cells #[.string ⟨r.toArray⟩,.string ⟨n.toArray⟩] 27)) hs
 have hk:=Blk.new w 27 #[.string ⟨r.toArray⟩,.string ⟨n.toArray⟩]
 have hb0:=(Below.refl w.heap.size w).alloc (Nat.le_refl _) (.cells #[.string ⟨r.toArray⟩,.string ⟨n.toArray⟩] 27)
 have hsz:w.heap.size<(w.alloc (.cells #[.string ⟨r.toArray⟩,.string ⟨n.toArray⟩] 27)).heap.size:=by simp
 obtain⟨N,eN⟩:∃N,N=w.heap.size:=⟨_,rfl⟩
 have C2:=Lib.hid (fun w1=>rtarget_any n w1 hs2)
 have E1:=Lib.hid (show princL r n=(isL r&&(tgL n||wordL wordB n)) from rfl)
 rw[←eN] at hk hb0 hsz⊢
 have EN:=Lib.hid eN;clear eN
 have HK:=Lib.hid hk;clear hk
 have HB0:=Lib.hid hb0;clear hb0
 have HSZ:=Lib.hid hsz;clear hsz hs
 cases h1:isL r with
 |false=>
  rw[h1] at c1
  have E:=Lib.hid (show princL r n=false by rw[E1.out,h1];rfl)
  clear h1
  go_enter Tryz.func33,Tryz.ntmps33
  go_wp2_with (go_at_call 81;refine Calls.mono c1 ?_;rintro e w1 ⟨rfl,hd⟩;clear c1;have H1:=Lib.hid (HB0.out.trans (hd.mono (Nat.le_of_lt HSZ.out)));clear hd)
  go_ret
  exact⟨by rw[E.out];rfl,H1.out⟩
 |true=>
  rw[h1] at c1
  cases h2:tgL n with
  |true=>
   have E:=Lib.hid (show princL r n=true by rw[E1.out,h1,h2];rfl)
   have HT:=Lib.hid h2
   clear h1 h2
   go_enter Tryz.func33,Tryz.ntmps33
   go_wp2_with (first
    |(go_at_call 81;refine Calls.mono c1 ?_;rintro e w1 ⟨rfl,hd⟩;clear c1;have H1:=Lib.hid (HB0.out.trans (hd.mono (Nat.le_of_lt HSZ.out)));have hkk:=HK.out.below hd;have HKK:=Lib.hid hkk;have hk1:=hkk.cell 1;have hs1:N<w1.heap.size:=(by have:=hd.size;have:=HSZ.out;omega);have HS1:=Lib.hid hs1;rw[EN.out] at hk1;clear hd hs1 hkk;have c2:=C2.out w1;rw[HT.out] at c2)
    |(go_at_call 82;refine Calls.mono c2 ?_;rintro e w2 ⟨rfl,hb⟩;clear c2 hk1;have H2:=Lib.hid (H1.out.trans (hb.mono (Nat.le_of_lt HS1.out)));have hk2:=(HKK.out.below hb).cell 1;rw[EN.out] at hk2;clear hb))
   go_ret
   exact⟨by rw[E.out];rfl,H2.out⟩
  |false=>
   have E:=Lib.hid (show princL r n=wordL wordB n by rw[E1.out,h1,h2];rfl)
   have HT:=Lib.hid h2
   clear h1 h2
   go_enter Tryz.func33,Tryz.ntmps33
   go_wp2_with (first
    |(go_at_call 81;refine Calls.mono c1 ?_;rintro e w1 ⟨rfl,hd⟩;clear c1;have H1:=Lib.hid (HB0.out.trans (hd.mono (Nat.le_of_lt HSZ.out)));have hkk:=HK.out.below hd;have HKK:=Lib.hid hkk;have hk1:=hkk.cell 1;have hs1:N<w1.heap.size:=(by have:=hd.size;have:=HSZ.out;omega);have HS1:=Lib.hid hs1;rw[EN.out] at hk1;clear hd hs1 hkk;have c2:=C2.out w1;rw[HT.out] at c2)
    |(go_at_call 82;refine Calls.mono c2 ?_;rintro e w2 ⟨rfl,hb⟩;clear c2 hk1;have H2:=Lib.hid (H1.out.trans (hb.mono (Nat.le_of_lt HS1.out)));have hk2:=(HKK.out.below hb).cell 1;rw[EN.out] at hk2;clear hb))
   go_loop [5] (fun iv=>∃k:Nat,k≤n.length∧iv = .int .i64 (k:Int)∧Fit wordB n k) (fun iv=>n.length - (intOf iv).toNat)
   case atStart=>exact⟨0,Nat.zero_le _,rfl,fun i _ h=>by omega⟩
   case round=>
    obtain⟨k,hk,rfl,hf⟩:=hrel
    have HF:=Lib.hid hf;clear hf
    by_cases hlt:k<n.length
    ·have e1:(k:Int)<(n.length:Int):=by omega
     have hb:=u8_le n[k]
     have hbad:wordB n[k]=false→Hid (princL r n=false):=fun h=>Lib.hid (by rw[E.out];exact word_bad hlt h)
     have HBAD:=Lib.hid hbad;clear hbad
     have hgood:wordB n[k]=true→Hid (Fit wordB n (k+1)):=fun h=>Lib.hid (fun i hi hik=>by
      by_cases q:i=k
      ·subst q;exact h
      ·exact HF.out i hi (by omega))
     have HGOOD:=Lib.hid hgood;clear hgood
     by_cases q1:n[k].toNat<97
     ·have s1:decide ((n[k].toNat:Int)<97)=true:=by simp;omega
      by_cases q2:n[k].toNat<48
      ·have s2:decide ((n[k].toNat:Int)<48)=true:=by simp;omega
       have E2:=HBAD.out (by simp [wordB,smallB];omega)
       clear q1 q2
       go_wp2
       go_ret
       exact⟨by rw[E2.out];rfl,H2.out⟩
      ·have s2:decide ((n[k].toNat:Int)<48)=false:=by simp;omega
       by_cases q3:57<n[k].toNat
       ·have s3:decide (57<(n[k].toNat:Int))=true:=by simp;omega
        have E2:=HBAD.out (by simp [wordB,smallB];omega)
        clear q1 q2 q3
        go_wp2
        go_ret
        exact⟨by rw[E2.out];rfl,H2.out⟩
       ·have s3:decide (57<(n[k].toNat:Int))=false:=by simp;omega
        have E2:=HGOOD.out (by simp [wordB,smallB];omega)
        clear q1 q2 q3
        go_wp2
        go_round
        case rel=>exact⟨k+1,by omega,by go_num,E2.out⟩
        case measure=>simp [intOf];omega
     ·have s1:decide ((n[k].toNat:Int)<97)=false:=by simp;omega
      by_cases q2:122<n[k].toNat
      ·have s2:decide (122<(n[k].toNat:Int))=true:=by simp;omega
       have s3:decide ((n[k].toNat:Int)<48)=false:=by simp;omega
       have s4:decide (57<(n[k].toNat:Int))=true:=by simp;omega
       have E2:=HBAD.out (by simp [wordB,smallB];omega)
       clear q1 q2
       go_wp2
       go_ret
       exact⟨by rw[E2.out];rfl,H2.out⟩
      ·have s2:decide (122<(n[k].toNat:Int))=false:=by simp;omega
       have E2:=HGOOD.out (by simp [wordB,smallB];omega)
       clear q1 q2
       go_wp2
       go_round
       case rel=>exact⟨k+1,by omega,by go_num,E2.out⟩
       case measure=>simp [intOf];omega
    ·obtain rfl:k=n.length:=by omega
     have e1:¬(n.length:Int)<(n.length:Int):=by omega
     have E2:=Lib.hid (E.out.trans (word_fit (fun i hi=>HF.out i hi hi)))
     by_cases g1:1≤n.length
     ·have t1:decide ((1:Int)≤(n.length:Int))=true:=by simp;omega
      by_cases g2:n.length≤8
      ·have t2:decide ((n.length:Int)≤8)=true:=by simp;omega
       have E3:=Lib.hid (E2.out.trans (show(decide (1≤n.length)&&decide (n.length≤8))=true by simp;omega))
       clear g1 g2
       go_wp2
       go_ret
       exact⟨by rw[E3.out];rfl,H2.out⟩
      ·have t2:decide ((n.length:Int)≤8)=false:=by simp;omega
       have E3:=Lib.hid (E2.out.trans (show(decide (1≤n.length)&&decide (n.length≤8))=false by simp;omega))
       clear g1 g2
       go_wp2
       go_ret
       exact⟨by rw[E3.out];rfl,H2.out⟩
     ·have t1:decide ((1:Int)≤(n.length:Int))=false:=by simp;omega
      have E3:=Lib.hid (E2.out.trans (show(decide (1≤n.length)&&decide (n.length≤8))=false by simp;omega))
      clear g1
      go_wp2
      go_ret
      exact⟨by rw[E3.out];rfl,H2.out⟩
end Go.Proofs.YtfcjeebnkigeaaaGreat.Nm
end

section
set_option linter.unusedVariables false
set_option linter.unusedSimpArgs false
namespace Go.Proofs.YtfcjeebnkigeaaaGreat.Rg
open Go.RowKit Go.Proofs.YtfcjeebnkigeaaaGreat.Mem Go.Proofs.YtfcjeebnkigeaaaGreat.Se
structure DRing (w:World) (B q:Nat) (v:Value) (l:List It):Prop where
 blk:Blk w q 115 #[v]
 row:w.ownsRow B 210 35 v l.length (l.flatMap iC)
 lo:B≤q
 vq:v.ownBlock≠some q
abbrev DO (q:Nat) (v:Value) (k:Nat):Prop:=k=q∨v.ownBlock=some k
section
variable {w w':World} {B q:Nat} {v:Value} {l:List It} {S:Nat→Prop}
theorem DRing.lt (h:DRing w B q v l):q<w.heap.size:=h.blk.lt
theorem DRing.own_lo (h:DRing w B q v l) {k:Nat} (hk:DO q v k):B≤k:=by
 rcases hk with hk | hk
 ·subst hk;exact h.lo
 ·exact(World.ownsRow.lt h.row k hk).1
theorem DRing.own_lt (h:DRing w B q v l) {k:Nat} (hk:DO q v k):k<w.heap.size:=by
 rcases hk with hk | hk
 ·subst hk;exact h.blk.lt
 ·exact(World.ownsRow.lt h.row k hk).2
theorem DRing.chg (h:DRing w B q v l) (hc:Chg S w w') (hs:∀k,DO q v k→¬S k):DRing w' B q v l:=
 ⟨hc.blk h.blk (hs q (.inl rfl)),own_chg hc h.row (fun k hk=>hs k (.inr hk)),h.lo,h.vq⟩
theorem DRing.below (h:DRing w B q v l) (hb:Below w.heap.size w w'):DRing w' B q v l:=h.chg (S:=fun _=>False) (Chg.of_below hb) (fun _ _ x=>x)
theorem DRing.num (h:DRing w B q v l):∃A c,v = .slice A l.length c∧l.length≤c∧c≤maxLen∧RdR w w.heap.size A iC 35 l:=own_rdr iC_length h.row
end
theorem iC_p0 (x:It):(iC x)[0]? = some (.string ⟨x.p.1.toArray⟩):=rfl
theorem iC_p1 (x:It):(iC x)[1]? = some (.string ⟨x.p.2.toArray⟩):=rfl
theorem iC_n (x:It):(iC x)[2]? = some (.int .i64 (x.n:Int)):=rfl
theorem lastL_hit {l:List It} {i:Nat} {x:It} {p:Pr} (h:l[i]? = some x) (hp:x.p=p):numO l (lastTo l p (i+1))=x.n:=by
 rw[lastTo,if_pos (by rw[h,←hp];rfl)];simp [numO,h]
theorem lastL_miss {l:List It} {i:Nat} {x:It} {p:Pr} (h:l[i]? = some x) (hp:x.p≠p):lastTo l p (i+1)=lastTo l p i:=by
 rw[lastTo,if_neg]
 rw[h]
 intro y
 injection y with y
 exact hp y
set_option maxRecDepth 100000 in
set_option maxHeartbeats 1600000 in
theorem dlast_any (B q:Nat) (v:Value) (l:List It) (p:Pr) (w:World) (h:DRing w B q v l) (hl:l.length≤1000) :
  Calls Tryz.prog 102 #[.pointer (some ⟨q,0,none⟩),prV p] w fun e w'=>e = .returned (.int .i64 (lastN l p:Int))∧Below w.heap.size w w':=by
 obtain⟨A,c,rfl,hc,hm,hr⟩:=h.num
 have hb0:=h.blk
 obtain⟨n,en⟩:∃n,n=l.length:=⟨_,rfl⟩
 rw[←en] at hb0 hc hl
 have EN:=Lib.hid en
 obtain⟨W,eW⟩:∃W,W=w.alloc (.cells #[.string ⟨p.1.toArray⟩,.string ⟨p.2.toArray⟩] 27):=⟨_,rfl⟩
 have hb:Below w.heap.size w W:=eW▸(Below.refl _ _).alloc (Nat.le_refl _) _
 have HP:=Lib.hid (show Blk W w.heap.size 27 #[.string ⟨p.1.toArray⟩,.string ⟨p.2.toArray⟩] from eW▸Blk.new w _ _)
 have HB:=Lib.hid hb
 have HQ:=Lib.hid (hb0.below hb)
 have HR:=Lib.hid (hr.keep hb)
 have hql:=hb0.lt
 clear hb hr hb0 en h
 go_enter Tryz.func102,Tryz.ntmps102
 go_upto_region 1 with fail
 rw[←eW]
 obtain⟨N,eN⟩:∃N,N=w.heap.size:=⟨_,rfl⟩
 rw[←eN] at HP HB HR hql⊢
 have EN2:=Lib.hid eN
 clear eW eN
 go_wp2
 go_loopw [5,6] (fun nv iv wr=>∃i:Nat,i≤n∧iv = .int .i64 (i:Int)∧nv = .int .i64 (numO l (lastTo l p i):Int)∧Below N w wr∧Blk wr N 27 #[.string ⟨p.1.toArray⟩,.string ⟨p.2.toArray⟩]∧Blk wr q 115 #[.slice A n c]∧RdR wr N A iC 35 l) (fun _ iv _=>n - (intOf iv).toNat)
 case atStart=>exact⟨0,Nat.zero_le _,rfl,rfl,HB.out,HP.out,HQ.out,HR.out⟩
 case round=>
  clear HB HP HQ HR
  obtain⟨i,hi,rfl,rfl,hb,hp,hq,hr⟩:=hrel
  have HB:=Lib.hid hb;have HP:=Lib.hid hp;have HQ:=Lib.hid hq;have HR:=Lib.hid hr
  have kq:wr.cell? ⟨q,0,none⟩=some (.slice A n c):=hq.cell 0
  obtain⟨z,ez⟩:∃z,z=numO l (lastTo l p i):=⟨_,rfl⟩
  rw[←ez]
  have EZ:=Lib.hid ez
  by_cases hlt:i<n
  ·have e1:(i:Int)<(n:Int):=by omega
   have e2:(0:Int)≤(i:Int):=by omega
   obtain⟨x,hx⟩:∃x,l[i]? = some x:=⟨l[i]'(by rw[←EN.out];exact hlt),List.getElem?_eq_getElem _⟩
   obtain⟨g,rfl,hgN,hra⟩:=hr.at_ hx
   have h0:wr.cell? ⟨g,i*35,none⟩=some (.string ⟨x.p.1.toArray⟩):=hra 0 _ (iC_p0 x)
   have h1:wr.cell? ⟨g,i*35+1,none⟩=some (.string ⟨x.p.2.toArray⟩):=hra 1 _ (iC_p1 x)
   have h2:wr.cell? ⟨g,i*35+2,none⟩=some (.int .i64 (x.n:Int)):=hra 2 _ (iC_n x)
   have kp0:wr.cell? ⟨N,0,none⟩=some (.string ⟨p.1.toArray⟩):=hp.cell 0
   have kp1:wr.cell? ⟨N,1,none⟩=some (.string ⟨p.2.toArray⟩):=hp.cell 1
   have HX:=Lib.hid hx
   clear hra hx hr hb hp hq ez
   by_cases hh:x.p=p
   ·have t1:=eql_pr_yes hh
    have HH:=Lib.hid hh;clear hh
    go_wp2
    go_quiet (fail)
    go_wp2
    go_roundw
    case rel=>exact⟨i+1,by omega,by go_num,by rw[lastL_hit HX.out HH.out],below_drewN HB.out _,HP.out.drewN _,HQ.out.drewN _,HR.out.keep (below_drewN (Below.refl _ _) _)⟩
    case measure=>simp [intOf];omega
   ·have t1:=eql_pr_no hh
    have HH:=Lib.hid hh;clear hh
    go_wp2
    go_quiet (fail)
    go_wp2
    go_roundw
    case rel=>exact⟨i+1,by omega,by go_num,by rw[lastL_miss HX.out HH.out,EZ.out],below_drewN HB.out _,HP.out.drewN _,HQ.out.drewN _,HR.out.keep (below_drewN (Below.refl _ _) _)⟩
    case measure=>simp [intOf];omega
  ·have e1:decide ((i:Int)<(n:Int))=false:=by simp;omega
   obtain rfl:n=i:=by omega
   clear hr hb hp hq hi hlt ez
   go_wp2
   go_ret
   exact⟨by rw[EZ.out,lastN,lastI,←EN.out];rfl,by rw[←EN2.out];exact HB.out⟩
theorem results_pair {P:Program} {fn:Func} {tmps:Array Value} {w:World} {v u:Value} (t q:Nat) (ty:TypeId) (a:Addr) (hres:fn.results=#[.cell t ty,.tmp q]) (ht:tmps.getD t undef = .pointer (some a)) (hl:(loadVar ty a).run P w = .ok v w) (hq:tmps.getD q undef=u) :
  (results fn tmps).run P w = .ok (.tuple #[v,u]) w:=by
 have ht':tmps[t]?.getD undef = .pointer (some a):=by simpa using ht
 have hq':tmps[q]?.getD undef=u:=by simpa using hq
 simp [results,hres,ht',hq',asAddr,hl]
theorem risprinc (p:Pr) (w:World) (h1:p.1.length≤1000000000) (h2:p.2.length≤1000000000):Calls Tryz.prog 33 #[prV p] w fun e w'=>e = .returned (.bool (prB p))∧Below w.heap.size w w':=Nm.risprinc_any p.1 p.2 w h1 h2
def zeroI:Array Value:=#[.string ⟨#[]⟩,.string ⟨#[]⟩,.int .i64 0,.int .u8 0,.int .u8 0,.int .u8 0,.int .u8 0,.int .u8 0,.int .u8 0,.int .u8 0,.int .u8 0,.int .u8 0,.int .u8 0,.int .u8 0,.int .u8 0,.int .u8 0,.int .u8 0,.int .u8 0,.int .u8 0,.int .u8 0,.int .u8 0,.int .u8 0,.int .u8 0,.int .u8 0,.int .u8 0,.int .u8 0,.int .u8 0,.int .u8 0,.int .u8 0,.int .u8 0,.int .u8 0,.int .u8 0,.int .u8 0,.int .u8 0,.int .u8 0]
theorem item_all:(Tryz.prog.info? 210).map (fun i=>(i.zero,i.size,i.bytes))=some (some (.agg zeroI),35,72):=by kernel_rfl
theorem built_item (p:Pr) (n:Nat) (k:Nat→UInt8):Tryz.prog.built 210 [(0,prV p),(1,.int .i64 (n:Int)),(2,.agg (key32 k))]=some (iC ⟨p,n,k⟩).toArray:=by
 kernel_rfl
theorem dadd_fin {w W5 w6:World} {B q:Nat} {v v6:Value} {l:List It} {it:It} (h:DRing w B q v l) (hb:Below w.heap.size w W5) (h5:DRing W5 B q v l)
  (ho:w6.ownsRow B 210 35 v6 (l++[it]).length ((l++[it]).flatMap iC)) (hg:W5.grownBy w6 v.ownBlock) (hv:v6.ownBlock=v.ownBlock∨v6.ownBlock=some W5.heap.size) :
  DRing (w6.setCell ⟨q,0,none⟩ v6) B q v6 (l++[it])∧Chg (DO q v) w (w6.setCell ⟨q,0,none⟩ v6)∧(∀k,DO q v6 k→DO q v k∨w.heap.size≤k):=by
 have hvr:v6.ownBlock≠some q:=fun x=>by
  rcases hv with g | g
  ·rw[g] at x;exact h.vq x
  ·rw[g] at x;injection x with x;have:=h5.lt;omega
 have hset:Chg (fun k=>k=q) w6 (w6.setCell ⟨q,0,none⟩ v6):=Chg.set (p:=⟨q,0,none⟩) (Chg.refl (fun k=>k=q) w6) (.inl rfl) v6
 have hc:Chg (DO q v) w (w6.setCell ⟨q,0,none⟩ v6):=
  (((Chg.of_below hb).trans (chg_row hg) (fun k _ x=>.inr x)).trans hset (fun k _ x=>.inl x):Chg (DO q v) w _)
 refine⟨⟨(h5.blk.grown hg h5.vq).set 0 v6,own_chg hset ho (fun k hk x=>hvr (x▸hk)),h.lo,hvr⟩,hc,fun k hk=>?_⟩
 rcases hk with hk | hk
 ·exact .inl (.inl hk)
 ·rcases hv with g | g
  ·exact .inl (.inr (g▸hk))
  ·rw[g] at hk;injection hk with hk;exact .inr (by have:=hb.size;omega)
set_option maxRecDepth 100000 in
set_option maxHeartbeats 3200000 in
theorem dadd_ok (B q:Nat) (v:Value) (l:List It) (p:Pr) (k:Nat→UInt8) (w:World) (h:DRing w B q v l) (hB:B≤w.heap.size) (h1:p.1.length≤1000000000) (h2:p.2.length≤1000000000) (hp:prB p=true) (hl:l.length<40) (hn:lastN l p<255) :
  Calls Tryz.prog 45 #[.pointer (some ⟨q,0,none⟩),prV p,.agg (key32 k)] w fun e w'=>e = .returned (.tuple #[.int .i64 ((lastN l p:Int)+1),.int .i64 0])∧∃v',DRing w' B q v' (l++[⟨p,lastN l p+1,k⟩])∧Chg (DO q v) w w'∧(∀k,DO q v' k→DO q v k∨w.heap.size≤k):=by
 obtain⟨A,c,rfl,hc,hm,hr⟩:=h.num
 obtain⟨n,en⟩:∃n,n=l.length:=⟨_,rfl⟩
 have EN:=Lib.hid en
 obtain⟨z,ez⟩:∃z,z=lastN l p:=⟨_,rfl⟩
 have EZ:=Lib.hid ez
 have CL:=Lib.hid (fun(w1:World) (h:DRing w1 B q (.slice A l.length c) l)=>dlast_any B q (.slice A l.length c) l p w1 h (by omega))
 have CP:=Lib.hid (fun w1=>risprinc p w1 h1 h2)
 rw[hp] at CP
 rw[←ez] at CL
 obtain⟨kv,ekv⟩:∃kv,kv=key32 k:=⟨_,rfl⟩
 rw[←ekv]
 have hrl:=h.lt
 obtain⟨W,eW⟩:∃W,W=(w.alloc (.cells #[.string ⟨p.1.toArray⟩,.string ⟨p.2.toArray⟩] 27)).alloc (.cells kv 47):=⟨_,rfl⟩
 have hb:Below w.heap.size w W:=eW▸((Below.refl _ _).alloc (Nat.le_refl _) _).alloc (by simp) _
 have HP:=Lib.hid (show Blk W w.heap.size 27 #[.string ⟨p.1.toArray⟩,.string ⟨p.2.toArray⟩] from eW▸(Blk.new w _ _).alloc _)
 have HK:=Lib.hid (show Blk W (w.heap.size+1) 47 kv by have:=Blk.new (w.alloc (.cells #[.string ⟨p.1.toArray⟩,.string ⟨p.2.toArray⟩] 27)) 47 kv;simp only[World.size_alloc] at this;exact eW▸this)
 have HB:=Lib.hid hb
 have HRG:=Lib.hid (h.below hb)
 have HW:=Lib.hid h
 have kp0:W.cell? ⟨w.heap.size,0,none⟩=some (.string ⟨p.1.toArray⟩):=HP.out.cell 0
 have kp1:W.cell? ⟨w.heap.size,1,none⟩=some (.string ⟨p.2.toArray⟩):=HP.out.cell 1
 have hwr:IntKind.i64.wrap ((z:Int)+1)=(z:Int)+1:=by rw[IntKind.wrap_i64];omega
 have EK:=Lib.hid ekv
 have HKI:=Lib.hid (show(Tryz.prog.info? 47).map (·.size)=some kv.size by rw[ekv];exact info32 k)
 obtain⟨i0,hi0,hz0,hs0,hb0⟩:=info_parts item_all
 have KI1:=Lib.hid hi0;have KI2:=Lib.hid hz0;have KI3:=Lib.hid hs0;have KI4:=Lib.hid hb0
 have SL1:=Lib.hid (fun(w1:World)=>Wh.run_build_one (P:=Tryz.prog) w1 113 210 (iC ⟨p,z+1,k⟩).toArray i0 _ Tryz.underlying113 hi0 hz0 (by rw[hs0];simp [iC_length]) (by simp [iC_length]) (by simp [iC_length]))
 have HBB:=Lib.hid hB
 have HN:=Lib.hid (show z<255 by omega)
 have t1:decide (40≤(n:Int))=false:=by simp;omega
 have t2:decide (255≤(z:Int))=false:=by simp;omega
 have HL:=Lib.hid (show n<40 by omega)
 clear hi0 hz0 hs0 hb0 hB hb h hr h1 h2 hp hn hl ekv en hc hm
 rw[←ez]
 clear ez
 go_enter Tryz.func45,Tryz.ntmps45
 go_upto_region 1 with fail
 rw[←eW]
 clear eW
 go_wp2_with (first
  |(go_at_call 33;refine Calls.mono (CP.out _) ?_;rintro e w1 ⟨rfl,hb⟩;replace HB:=Lib.hid (HB.out.trans (hb.mono HB.out.size));replace HRG:=Lib.hid (HRG.out.below hb);replace HP:=Lib.hid (HP.out.below hb);replace HK:=Lib.hid (HK.out.below hb);have kp0:w1.cell? ⟨w.heap.size,0,none⟩=some (.string ⟨p.1.toArray⟩):=HP.out.cell 0;have kp1:w1.cell? ⟨w.heap.size,1,none⟩=some (.string ⟨p.2.toArray⟩):=HP.out.cell 1;have kr:w1.cell? ⟨q,0,none⟩=some (.slice A n c):=EN.out▸HRG.out.blk.cell 0;clear hb)
  |(go_at_call 102;refine Calls.mono (CL.out _ HRG.out) ?_;rintro e w2 ⟨rfl,hb⟩;clear kp0 kp1 kr;replace HB:=Lib.hid (HB.out.trans (hb.mono HB.out.size));replace HRG:=Lib.hid (HRG.out.below hb);replace HP:=Lib.hid (HP.out.below hb);replace HK:=Lib.hid (HK.out.below hb);have kp0:w2.cell? ⟨w.heap.size,0,none⟩=some (.string ⟨p.1.toArray⟩):=HP.out.cell 0;have kp1:w2.cell? ⟨w.heap.size,1,none⟩=some (.string ⟨p.2.toArray⟩):=HP.out.cell 1;have kr:w2.cell? ⟨q,0,none⟩=some (.slice A n c):=EN.out▸HRG.out.blk.cell 0;clear hb)
  |fail)
 replace HP:=Lib.hid (show Blk w2.drew _ _ _ from HP.out.drewN 1)
 replace HK:=Lib.hid (show Blk w2.drew _ _ _ from HK.out.drewN 1)
 replace HRG:=Lib.hid (show DRing w2.drew B q _ l from HRG.out.below (below_drewN (Below.refl _ _) 1))
 replace HB:=Lib.hid (show Below w.heap.size w w2.drew from below_drewN HB.out 1)
 clear kp0 kp1 kr
 refine Reg.any_begin (fun w'=>Blk w' w.heap.size 27 #[.string ⟨p.1.toArray⟩,.string ⟨p.2.toArray⟩]∧Blk w' (w.heap.size+1) 47 kv) 15 rfl (by kernel_rfl) ⟨HP.out,HK.out⟩ ?_
 obtain⟨W2,eW2⟩:∃W2,W2=w2.drew:=⟨_,rfl⟩
 rw[←eW2] at HP HK HRG HB⊢
 clear eW2
 refine Reg.any_take 0 (v:=?vu1) rfl (by kernel_rfl) (by kernel_rfl) (by kernel_rfl) (fun _ _ _ h=>h) ⟨HP.out,HK.out⟩ (by rfl) (fun w' hS=>?hu1) ?ru1
 case hu1=>go_simp;rfl
 simp only[Act.put,List.setIfInBounds_toArray,List.set_cons_zero,List.set_cons_succ]
 refine Reg.any_take 1 (v:=?vu2) rfl (by kernel_rfl) (by kernel_rfl) (by kernel_rfl) (fun _ _ _ h=>h) ⟨HP.out,HK.out⟩ (by rfl) (fun w' hS=>?hu2) ?ru2
 case hu2=>go_simp;rfl
 simp only[Act.put,List.setIfInBounds_toArray,List.set_cons_zero,List.set_cons_succ]
 refine Reg.any_take 2 (v:=?vu3) rfl (by kernel_rfl) (by kernel_rfl) (by kernel_rfl) (fun _ _ _ h=>h) ⟨HP.out,HK.out⟩ (by rfl) (fun w' hS=>?hu3) ?ru3
 case hu3=>go_simp;rfl
 simp only[Act.put,List.setIfInBounds_toArray,List.set_cons_zero,List.set_cons_succ]
 refine Reg.any_take 3 (v:=?vu4) rfl (by kernel_rfl) (by kernel_rfl) (by kernel_rfl) (fun _ _ _ h=>h) ⟨HP.out,HK.out⟩ (by rfl) (fun w' hS=>?hu4) ?ru4
 case hu4=>go_simp;rfl
 simp only[Act.put,List.setIfInBounds_toArray,List.set_cons_zero,List.set_cons_succ]
 refine Reg.any_take 5 (v:=.agg #[.string ⟨p.1.toArray⟩,.string ⟨p.2.toArray⟩]) rfl (by kernel_rfl) (by kernel_rfl) (by kernel_rfl) (fun _ _ _ h=>h) ⟨HP.out,HK.out⟩ (by rfl) (fun w' hS=>?hu5) ?ru5
 case hu5=>exact Wh.exec_load (.tmp 4) rfl rfl hS.1 Tryz.underlying27 rfl pr_info
 simp only[Act.put,List.setIfInBounds_toArray,List.set_cons_zero,List.set_cons_succ]
 refine Reg.any_take 6 (v:=?vu6) rfl (by kernel_rfl) (by kernel_rfl) (by kernel_rfl) (fun _ _ _ h=>h) ⟨HP.out,HK.out⟩ (by rfl) (fun w' hS=>?hu6) ?ru6
 case hu6=>go_simp;rfl
 simp only[Act.put,List.setIfInBounds_toArray,List.set_cons_zero,List.set_cons_succ]
 refine Reg.any_take 7 (v:=.int .i64 ((z:Int)+1)) rfl (by kernel_rfl) (by kernel_rfl) (by kernel_rfl) (fun _ _ _ h=>h) ⟨HP.out,HK.out⟩ (by rfl) (fun w' hS=>?hu7) ?ru7
 case hu7=>go_simp
 simp only[Act.put,List.setIfInBounds_toArray,List.set_cons_zero,List.set_cons_succ]
 refine Reg.any_take 8 (v:=.agg kv) rfl (by kernel_rfl) (by kernel_rfl) (by kernel_rfl) (fun _ _ _ h=>h) ⟨HP.out,HK.out⟩ (by rfl) (fun w' hS=>?hu8) ?ru8
 case hu8=>exact Wh.exec_load (.tmp 5) rfl rfl hS.2 Tryz.underlying47 rfl HKI.out
 simp only[Act.put,List.setIfInBounds_toArray,List.set_cons_zero,List.set_cons_succ]
 refine Reg.any_take 9 (v:=.agg (iC ⟨p,z+1,k⟩).toArray) rfl (by kernel_rfl) (by kernel_rfl) (by kernel_rfl) (fun _ _ _ h=>h) ⟨HP.out,HK.out⟩ (by rfl) (fun w' hS=>?hu9) ?ru9
 case hu9=>exact exec_build (by go_simp) (EK.out▸built_item p (z+1) k)
 simp only[Act.put,List.setIfInBounds_toArray,List.set_cons_zero,List.set_cons_succ]
 refine Reg.eff_all [4,10] (by kernel_rfl) (by simp) ?_
 intro j0 hj0
 have hj0:j0=4∨j0=10:=by simpa using hj0
 rcases hj0 with rfl | rfl
 ·have kr:W2.cell? ⟨q,0,none⟩=some (.slice A n c):=EN.out▸HRG.out.blk.cell 0
  refine⟨_,_,_,_,_,_,_,_,rfl,by rfl,by(go_simp;rfl),⟨HP.out,HK.out⟩,?_⟩
  simp only[Act.put,List.setIfInBounds_toArray,List.set_cons_zero,List.set_cons_succ]
  clear kr
  refine Reg.eff_all [10] (by kernel_rfl) (by simp) ?_
  intro j0 hj0
  obtain rfl:j0=10:=by simpa using hj0
  clear hj0
  have hb:Below W2.heap.size W2 (W2.alloc (.cells (iC ⟨p,z+1,k⟩).toArray 210)):=(Below.refl _ _).alloc (Nat.le_refl _) _
  refine⟨_,_,_,_,_,_,.slice (some ⟨W2.heap.size,0,none⟩) 1 1,(W2.alloc (.cells (iC ⟨p,z+1,k⟩).toArray 210)),rfl,by rfl,exec_slice rfl (SL1.out _),⟨HP.out.below hb,HK.out.below hb⟩,?_⟩
  simp only[Act.put,List.setIfInBounds_toArray,List.set_cons_zero,List.set_cons_succ]
  have HNB:=Lib.hid (Blk.new W2 210 (iC ⟨p,z+1,k⟩).toArray)
  replace HB:=Lib.hid (HB.out.trans (hb.mono HB.out.size));replace HRG:=Lib.hid (HRG.out.below hb);replace HP:=Lib.hid (HP.out.below hb);replace HK:=Lib.hid (HK.out.below hb)
  clear hb
  obtain⟨W5,eW5⟩:∃W5,W5=(W2.alloc (.cells (iC ⟨p,z+1,k⟩).toArray 210)):=⟨_,rfl⟩
  obtain⟨g5,eg5⟩:∃g5,g5=W2.heap.size:=⟨_,rfl⟩
  rw[←eW5] at HNB HB HRG HP HK⊢
  rw[←eg5] at HNB⊢
  clear eW5 eg5
  refine Reg.eff_all [11] (by kernel_rfl) (by simp) ?_
  intro j0 hj0
  obtain rfl:j0=11:=by simpa using hj0
  clear hj0
  obtain⟨v6,w6,hrun,ho6,hg6,hv6⟩:=Wh.app_run (P:=Tryz.prog) iC 35 72 iC_length iC_one W5 113 113 210 i0 _ Tryz.underlying113 KI1.out KI2.out KI3.out KI4.out (by rfl) (by omega) B _ l HRG.out.row ⟨p,z+1,k⟩ g5 HNB.out (by have:=EN.out;have:=HL.out;omega) (by omega) (Nat.le_trans HBB.out HB.out.size)
  rw[←EN.out] at hrun
  replace HP:=Lib.hid (HP.out.grown hg6 (fun x=>by have:=(World.ownsRow.lt HW.out.row _ x).2;omega))
  replace HK:=Lib.hid (HK.out.grown hg6 (fun x=>by have:=(World.ownsRow.lt HW.out.row _ x).2;omega))
  refine⟨_,_,_,_,_,_,v6,w6,rfl,by rfl,exec_app rfl rfl hrun,⟨HP.out,HK.out⟩,?_⟩
  simp only[Act.put,List.setIfInBounds_toArray,List.set_cons_zero,List.set_cons_succ]
  refine Reg.any_take 12 (v:=?vu10) rfl (by kernel_rfl) (by kernel_rfl) (by kernel_rfl) (fun _ _ _ h=>h) ⟨HP.out,HK.out⟩ (by rfl) (fun w' hS=>?hu10) ?ru10
  case hu10=>go_simp;rfl
  simp only[Act.put,List.setIfInBounds_toArray,List.set_cons_zero,List.set_cons_succ]
  refine Reg.any_take 13 (v:=?vu11) rfl (by kernel_rfl) (by kernel_rfl) (by kernel_rfl) (fun _ _ _ h=>h) ⟨HP.out,HK.out⟩ (by rfl) (fun w' hS=>?hu11) ?ru11
  case hu11=>go_simp;rfl
  simp only[Act.put,List.setIfInBounds_toArray,List.set_cons_zero,List.set_cons_succ]
  have hfin:=dadd_fin HW.out HB.out HRG.out ho6 hg6 hv6
  have hr6:=HRG.out.blk.grown hg6 HRG.out.vq
  obtain⟨A7,c7,e7,_⟩:=own_rdr iC_length ho6
  obtain⟨m7,em7⟩:∃m7,m7=(l++[(⟨p,z+1,k⟩:It)]).length:=⟨_,rfl⟩
  rw[←em7] at e7
  subst e7
  have f0:=hr6.frozen 0
  have k6:w6.cell? ⟨q,0,none⟩=some _:=hr6.cell 0
  refine Reg.any_store 14 (w6.setCell ⟨q,0,none⟩ (.slice A7 m7 c7)) rfl (by kernel_rfl) (by rfl) (by go_simp) ⟨Si.Blk.far HP.out _ _ (by simp;have:=HW.out.lt;omega),Si.Blk.far HK.out _ _ (by simp;have:=HW.out.lt;omega)⟩ ?_
  simp only[Act.put,List.setIfInBounds_toArray,List.set_cons_zero,List.set_cons_succ]
  refine wpAnyH_done (by kernel_rfl) ?_ _
  clear f0 k6 hr6 ho6 hg6 hv6 hrun em7
  have HFIN:=Lib.hid hfin
  clear hfin
  go_wp2
  go_ret2
  exact⟨rfl,_,HFIN.out.1,HFIN.out.2.1,HFIN.out.2.2⟩
 ·have hb:Below W2.heap.size W2 (W2.alloc (.cells (iC ⟨p,z+1,k⟩).toArray 210)):=(Below.refl _ _).alloc (Nat.le_refl _) _
  refine⟨_,_,_,_,_,_,.slice (some ⟨W2.heap.size,0,none⟩) 1 1,(W2.alloc (.cells (iC ⟨p,z+1,k⟩).toArray 210)),rfl,by rfl,exec_slice rfl (SL1.out _),⟨HP.out.below hb,HK.out.below hb⟩,?_⟩
  simp only[Act.put,List.setIfInBounds_toArray,List.set_cons_zero,List.set_cons_succ]
  have HNB:=Lib.hid (Blk.new W2 210 (iC ⟨p,z+1,k⟩).toArray)
  replace HB:=Lib.hid (HB.out.trans (hb.mono HB.out.size));replace HRG:=Lib.hid (HRG.out.below hb);replace HP:=Lib.hid (HP.out.below hb);replace HK:=Lib.hid (HK.out.below hb)
  clear hb
  obtain⟨W5,eW5⟩:∃W5,W5=(W2.alloc (.cells (iC ⟨p,z+1,k⟩).toArray 210)):=⟨_,rfl⟩
  obtain⟨g5,eg5⟩:∃g5,g5=W2.heap.size:=⟨_,rfl⟩
  rw[←eW5] at HNB HB HRG HP HK⊢
  rw[←eg5] at HNB⊢
  clear eW5 eg5
  refine Reg.eff_all [4] (by kernel_rfl) (by simp) ?_
  intro j0 hj0
  obtain rfl:j0=4:=by simpa using hj0
  clear hj0
  have kr:W5.cell? ⟨q,0,none⟩=some (.slice A n c):=EN.out▸HRG.out.blk.cell 0
  refine⟨_,_,_,_,_,_,_,_,rfl,by rfl,by(go_simp;rfl),⟨HP.out,HK.out⟩,?_⟩
  simp only[Act.put,List.setIfInBounds_toArray,List.set_cons_zero,List.set_cons_succ]
  clear kr
  refine Reg.eff_all [11] (by kernel_rfl) (by simp) ?_
  intro j0 hj0
  obtain rfl:j0=11:=by simpa using hj0
  clear hj0
  obtain⟨v6,w6,hrun,ho6,hg6,hv6⟩:=Wh.app_run (P:=Tryz.prog) iC 35 72 iC_length iC_one W5 113 113 210 i0 _ Tryz.underlying113 KI1.out KI2.out KI3.out KI4.out (by rfl) (by omega) B _ l HRG.out.row ⟨p,z+1,k⟩ g5 HNB.out (by have:=EN.out;have:=HL.out;omega) (by omega) (Nat.le_trans HBB.out HB.out.size)
  rw[←EN.out] at hrun
  replace HP:=Lib.hid (HP.out.grown hg6 (fun x=>by have:=(World.ownsRow.lt HW.out.row _ x).2;omega))
  replace HK:=Lib.hid (HK.out.grown hg6 (fun x=>by have:=(World.ownsRow.lt HW.out.row _ x).2;omega))
  refine⟨_,_,_,_,_,_,v6,w6,rfl,by rfl,exec_app rfl rfl hrun,⟨HP.out,HK.out⟩,?_⟩
  simp only[Act.put,List.setIfInBounds_toArray,List.set_cons_zero,List.set_cons_succ]
  refine Reg.any_take 12 (v:=?vu12) rfl (by kernel_rfl) (by kernel_rfl) (by kernel_rfl) (fun _ _ _ h=>h) ⟨HP.out,HK.out⟩ (by rfl) (fun w' hS=>?hu12) ?ru12
  case hu12=>go_simp;rfl
  simp only[Act.put,List.setIfInBounds_toArray,List.set_cons_zero,List.set_cons_succ]
  refine Reg.any_take 13 (v:=?vu13) rfl (by kernel_rfl) (by kernel_rfl) (by kernel_rfl) (fun _ _ _ h=>h) ⟨HP.out,HK.out⟩ (by rfl) (fun w' hS=>?hu13) ?ru13
  case hu13=>go_simp;rfl
  simp only[Act.put,List.setIfInBounds_toArray,List.set_cons_zero,List.set_cons_succ]
  have hfin:=dadd_fin HW.out HB.out HRG.out ho6 hg6 hv6
  have hr6:=HRG.out.blk.grown hg6 HRG.out.vq
  obtain⟨A7,c7,e7,_⟩:=own_rdr iC_length ho6
  obtain⟨m7,em7⟩:∃m7,m7=(l++[(⟨p,z+1,k⟩:It)]).length:=⟨_,rfl⟩
  rw[←em7] at e7
  subst e7
  have f0:=hr6.frozen 0
  have k6:w6.cell? ⟨q,0,none⟩=some _:=hr6.cell 0
  refine Reg.any_store 14 (w6.setCell ⟨q,0,none⟩ (.slice A7 m7 c7)) rfl (by kernel_rfl) (by rfl) (by go_simp) ⟨Si.Blk.far HP.out _ _ (by simp;have:=HW.out.lt;omega),Si.Blk.far HK.out _ _ (by simp;have:=HW.out.lt;omega)⟩ ?_
  simp only[Act.put,List.setIfInBounds_toArray,List.set_cons_zero,List.set_cons_succ]
  refine wpAnyH_done (by kernel_rfl) ?_ _
  clear f0 k6 hr6 ho6 hg6 hv6 hrun em7
  have HFIN:=Lib.hid hfin
  clear hfin
  go_wp2
  go_ret2
  exact⟨rfl,_,HFIN.out.1,HFIN.out.2.1,HFIN.out.2.2⟩
end Go.Proofs.YtfcjeebnkigeaaaGreat.Rg
end
