import Derived.Deep.LoopGhost
import Derived.Deep.MidRow
import Derived.Deep.Cut
import Derived.Deep.CutRange
import Derived.Deep.CutBlock
import Derived.Deep.RegionHeld3
import Derived.Laws.IdiomCopy
import Derived.Laws.Tables
import Derived.StillTailTactics
import Derived.BigQuiet
import Derived.Deep.QuietTactic
import Derived.DeepKeys
import Derived.Laws.StructEq
import Derived.Laws.OwnMore
import Derived.SizedLaws
import Derived.Test.YtfcjeebnkigeaaaGreatRows
import Derived.Lib.SmallJoins
import Derived.Deep.Strs
import Derived.ChangeSame
import Derived.Test.YtfcjeebnkigeaaaGreatZKdcNonces1
import Derived.Test.YtfcjeebnkigeaaaGreatZKdcNonces2
import Derived.Test.YtfcjeebnkigeaaaGreatZKdcNonces3
import Derived.Test.YtfcjeebnkigeaaaGreatZKdcNonces4
import Derived.Test.YtfcjeebnkigeaaaGreatZKdcNonces5
import Derived.Test.YtfcjeebnkigeaaaGreatZKdcNonces6
import Derived.Test.YtfcjeebnkigeaaaGreatZKdcNonces7
import Derived.Test.YtfcjeebnkigeaaaGreatZKdcNonces8
import Derived.Test.YtfcjeebnkigeaaaGreatZKdcNonces9
import Derived.Test.YtfcjeebnkigeaaaGreatZKdcNonces10
import Derived.Test.YtfcjeebnkigeaaaGreatZKdcNonces11
import Derived.Test.YtfcjeebnkigeaaaGreatZKdcNonces12
import Derived.Test.YtfcjeebnkigeaaaGreatZKdcNonces13
import Derived.Test.YtfcjeebnkigeaaaGreatZKdcNonces14
import Derived.Test.YtfcjeebnkigeaaaGreatZKdcNonces15
import Derived.Test.YtfcjeebnkigeaaaGreatZKdcNonces16
section
set_option linter.unusedVariables false
set_option linter.unusedSimpArgs false
namespace Go.Proofs.YtfcjeebnkigeaaaGreat.Mc
open Go.RowKit Go.Proofs.YtfcjeebnkigeaaaGreat.Mem Go.Proofs.YtfcjeebnkigeaaaGreat.DerP Go.Proofs.YtfcjeebnkigeaaaGreat.Ms
def trB (l:L):Bool:=decide (l.length≤300)&&txtB l
def ptB' (p:Pt):Bool:=prB p.c&&(trB p.tr&&(tmB p.st&&tmB p.en))
theorem ptB_eq (p:Pt):ptB' p=ptB p:=by
 unfold ptB' ptB trB
 cases txtB p.tr<;>cases prB p.c<;>cases decide (p.tr.length≤300)<;>rfl
theorem txtf {l:L} {k:Nat} (h:k<l.length) (hb:l[k].toNat<32∨126<l[k].toNat):txtB l=false:=txt_bad h hb
section
attribute [local go_sem] mk_at List.getElem_cons_zero List.getElem_cons_succ
set_option maxRecDepth 4000 in
set_option maxHeartbeats 1600000 in
theorem transited_any (l:L) (w:World) (ht:l.length≤1000000000):Calls Tryz.prog 215 #[.string ⟨l.toArray⟩] w fun e w'=>e = .returned (.bool (trB l))∧w=w':=by
 by_cases h3:l.length≤300
 ·have g3:decide ((300:Int)<(l.length:Int))=false:=decide_eq_false (by omega)
  have E3:=Lib.hid (show trB l=txtB l by rw[trB,decide_eq_true h3];rfl)
  rw[E3.out]
  clear h3
  go_enter Tryz.func215,Tryz.ntmps215
  go_wp2
  go_loop [9] (fun iv=>∃k:Nat,k≤l.length∧iv = .int .i64 (k:Int)∧FitT l k) (fun iv=>l.length - (intOf iv).toNat)
  case atStart=>exact⟨0,Nat.zero_le _,rfl,fun i _ h=>by omega⟩
  case round=>
   obtain⟨k,hk2,rfl,hf⟩:=hrel
   have HF:=Lib.hid hf;clear hf
   by_cases hlt:k<l.length
   ·have e1:(k:Int)<(l.length:Int):=by omega
    by_cases b1:l[k].toNat<32
    ·have E:=Lib.hid (txtf hlt (Or.inl b1))
     have b1':decide ((l[k].toNat:Int)<32)=true:=by simp;omega
     clear b1
     go_wp2
     go_ret
     exact⟨by rw[E.out];rfl,rfl⟩
    ·have b1':decide ((l[k].toNat:Int)<32)=false:=by simp;omega
     by_cases b2:126<l[k].toNat
     ·have E:=Lib.hid (txtf hlt (Or.inr b2))
      have b2':decide (126<(l[k].toNat:Int))=true:=by simp;omega
      clear b1 b2
      go_wp2
      go_ret
      exact⟨by rw[E.out];rfl,rfl⟩
     ·have b2':decide (126<(l[k].toNat:Int))=false:=by simp;omega
      have HP:=Lib.hid (show 32≤l[k].toNat∧l[k].toNat≤126 from⟨by omega,by omega⟩)
      clear b1 b2
      go_wp2
      go_round
      case rel=>exact⟨k+1,by omega,by go_num,fun i hi hik=>by
       by_cases q:i=k
       ·subst q;exact HP.out
       ·exact HF.out i hi (by omega)⟩
      case measure=>simp [intOf];omega
   ·have HT:=Lib.hid (txt_all (fun i hi _=>HF.out i hi (by omega)))
    have e1:¬(k:Int)<(l.length:Int):=by omega
    clear HF
    go_wp2
    go_ret
    exact⟨by rw[HT.out];rfl,rfl⟩
 ·have g3:decide ((300:Int)<(l.length:Int))=true:=decide_eq_true (by omega)
  have E:=Lib.hid (show trB l=false by rw[trB,decide_eq_false h3];rfl)
  clear h3
  go_enter Tryz.func215,Tryz.ntmps215
  go_wp2
  go_ret
  exact⟨by rw[E.out];rfl,rfl⟩
end
set_option maxHeartbeats 3200000 in
theorem isrep_any (p:Rp) (w:World) (hk:p.ss.length=32) (hs:pSm p.s):Calls Tryz.prog 157 #[.agg (rpC p).toArray] w fun e w'=>e = .returned (.bool (rpB p))∧Below w.heap.size w w':=by
 have HI:=Lib.hid (show(Tryz.prog.info? 75).map (·.size)=some (rpC p).toArray.size by rw[rp_size hk];kernel_rfl)
 have CF:=Lib.hid (show ∀w':World,Blk w' w.heap.size 75 (rpC p).toArray→w'.cell? ⟨w.heap.size,32,none⟩=some (.string ⟨p.s.1.toArray⟩)∧w'.cell? ⟨w.heap.size,33,none⟩=some (.string ⟨p.s.2.toArray⟩)∧w'.cell? ⟨w.heap.size,34,none⟩=some (.int .i64 p.st)∧w'.cell? ⟨w.heap.size,35,none⟩=some (.int .i64 p.en)∧w'.cell? ⟨w.heap.size,36,none⟩=some (.int .i64 p.no) from fun w' h=>rp_cells hk h)
 obtain⟨cs,ecs⟩:∃cs,cs=(rpC p).toArray:=⟨_,rfl⟩
 rw[←ecs] at HI CF⊢
 clear ecs
 have HB:=Lib.hid ((Below.refl w.heap.size w).alloc (Nat.le_refl _) (.cells cs 75))
 have HK:=Lib.hid (Blk.new w 75 cs)
 have T1:=Lib.hid (fun w1=>isprinc_any p.s w1 hs.1 hs.2)
 have T2:=Lib.hid (fun w1=>time_any p.st w1)
 have T3:=Lib.hid (fun w1=>time_any p.en w1)
 have T4:=Lib.hid (fun w1=>nonce_any p.no w1)
 obtain⟨k0,k1,k2,k3,k4⟩:=CF.out _ HK.out
 cases h1:prB p.s with
 |false=>
  rw[h1] at T1
  have E:=Lib.hid (show rpB p=false by rw[rpB,h1];rfl)
  clear h1
  go_enter Tryz.func157,Tryz.ntmps157
  go_wp2_with (go_at_call 99;(with_reducible refine Calls.mono (T1.out _) ?_);rintro e w1 ⟨rfl,hb⟩;replace HK:=Lib.hid (HK.out.below hb);replace HB:=Lib.hid (HB.out.trans (hb.mono HB.out.size));clear hb T1;(try clear k0 k1 k2 k3 k4);obtain⟨k0,k1,k2,k3,k4⟩:=CF.out _ HK.out)
  go_ret
  exact⟨by rw[E.out];rfl,HB.out⟩
 |true=>
  rw[h1] at T1
  cases h2:tmB p.st with
  |false=>
   rw[h2] at T2
   have E:=Lib.hid (show rpB p=false by rw[rpB,h1,h2];rfl)
   clear h1 h2
   go_enter Tryz.func157,Tryz.ntmps157
   go_wp2_with (first
    |(go_at_call 99;(with_reducible refine Calls.mono (T1.out _) ?_);rintro e w1 ⟨rfl,hb⟩;replace HK:=Lib.hid (HK.out.below hb);replace HB:=Lib.hid (HB.out.trans (hb.mono HB.out.size));clear hb T1;(try clear k0 k1 k2 k3 k4);obtain⟨k0,k1,k2,k3,k4⟩:=CF.out _ HK.out)
    |(go_at_call 216;(with_reducible refine Calls.mono (T2.out _) ?_);rintro e w2 ⟨rfl,hw⟩;subst hw;clear T2))
   go_ret
   exact⟨by rw[E.out];rfl,HB.out⟩
  |true=>
   rw[h2] at T2
   cases h3:tmB p.en with
   |false=>
    rw[h3] at T3
    have E:=Lib.hid (show rpB p=false by rw[rpB,h1,h2,h3];rfl)
    clear h1 h2 h3
    go_enter Tryz.func157,Tryz.ntmps157
    go_wp2_with (first
     |(go_at_call 99;(with_reducible refine Calls.mono (T1.out _) ?_);rintro e w1 ⟨rfl,hb⟩;replace HK:=Lib.hid (HK.out.below hb);replace HB:=Lib.hid (HB.out.trans (hb.mono HB.out.size));clear hb T1;(try clear k0 k1 k2 k3 k4);obtain⟨k0,k1,k2,k3,k4⟩:=CF.out _ HK.out)
     |(go_at_call 216;(with_reducible refine Calls.mono (T2.out _) ?_);rintro e w2 ⟨rfl,hw⟩;subst hw;clear T2)
     |(go_at_call 216;(with_reducible refine Calls.mono (T3.out _) ?_);rintro e w3 ⟨rfl,hw⟩;subst hw;clear T3))
    go_ret
    exact⟨by rw[E.out];rfl,HB.out⟩
   |true=>
    rw[h3] at T3
    have E:=Lib.hid (show rpB p=tmB p.no by rw[rpB,h1,h2,h3];rfl)
    clear h1 h2 h3
    go_enter Tryz.func157,Tryz.ntmps157
    go_wp2_with (first
     |(go_at_call 99;(with_reducible refine Calls.mono (T1.out _) ?_);rintro e w1 ⟨rfl,hb⟩;replace HK:=Lib.hid (HK.out.below hb);replace HB:=Lib.hid (HB.out.trans (hb.mono HB.out.size));clear hb T1;(try clear k0 k1 k2 k3 k4);obtain⟨k0,k1,k2,k3,k4⟩:=CF.out _ HK.out)
     |(go_at_call 216;(with_reducible refine Calls.mono (T2.out _) ?_);rintro e w2 ⟨rfl,hw⟩;subst hw;clear T2)
     |(go_at_call 216;(with_reducible refine Calls.mono (T3.out _) ?_);rintro e w3 ⟨rfl,hw⟩;subst hw;clear T3)
     |(go_at_call 222;(with_reducible refine Calls.mono (T4.out _) ?_);rintro e w4 ⟨rfl,hw⟩;subst hw;clear T4))
    go_ret
    exact⟨by rw[E.out];rfl,HB.out⟩
set_option maxHeartbeats 3200000 in
theorem ispart_any0 (p:Pt) (w:World) (hk:p.ss.length=32) (hs:pSm p.c) (ht:p.tr.length≤1000000000):Calls Tryz.prog 155 #[.agg (ptC p).toArray] w fun e w'=>e = .returned (.bool (ptB' p))∧Below w.heap.size w w':=by
 have HI:=Lib.hid (show(Tryz.prog.info? 71).map (·.size)=some (ptC p).toArray.size by rw[pt_size hk];kernel_rfl)
 have CF:=Lib.hid (show ∀w':World,Blk w' w.heap.size 71 (ptC p).toArray→w'.cell? ⟨w.heap.size,0,none⟩=some (.string ⟨p.c.1.toArray⟩)∧w'.cell? ⟨w.heap.size,1,none⟩=some (.string ⟨p.c.2.toArray⟩)∧w'.cell? ⟨w.heap.size,34,none⟩=some (.string ⟨p.tr.toArray⟩)∧w'.cell? ⟨w.heap.size,35,none⟩=some (.int .i64 p.st)∧w'.cell? ⟨w.heap.size,36,none⟩=some (.int .i64 p.en) from fun w' h=>pt_cells hk h)
 obtain⟨cs,ecs⟩:∃cs,cs=(ptC p).toArray:=⟨_,rfl⟩
 rw[←ecs] at HI CF⊢
 clear ecs
 have HB:=Lib.hid ((Below.refl w.heap.size w).alloc (Nat.le_refl _) (.cells cs 71))
 have HK:=Lib.hid (Blk.new w 71 cs)
 have T1:=Lib.hid (fun w1=>isprinc_any p.c w1 hs.1 hs.2)
 have T2:=Lib.hid (fun w1=>transited_any p.tr w1 ht)
 have T3:=Lib.hid (fun w1=>time_any p.st w1)
 have T4:=Lib.hid (fun w1=>time_any p.en w1)
 obtain⟨k0,k1,k2,k3,k4⟩:=CF.out _ HK.out
 cases h1:prB p.c with
 |false=>
  rw[h1] at T1
  have E:=Lib.hid (show ptB' p=false by rw[ptB',h1];rfl)
  clear h1
  go_enter Tryz.func155,Tryz.ntmps155
  go_wp2_with (go_at_call 99;(with_reducible refine Calls.mono (T1.out _) ?_);rintro e w1 ⟨rfl,hb⟩;replace HK:=Lib.hid (HK.out.below hb);replace HB:=Lib.hid (HB.out.trans (hb.mono HB.out.size));clear hb T1;(try clear k0 k1 k2 k3 k4);obtain⟨k0,k1,k2,k3,k4⟩:=CF.out _ HK.out)
  go_ret
  exact⟨by rw[E.out];rfl,HB.out⟩
 |true=>
  rw[h1] at T1
  cases h2:trB p.tr with
  |false=>
   rw[h2] at T2
   have E:=Lib.hid (show ptB' p=false by rw[ptB',h1,h2];rfl)
   clear h1 h2
   go_enter Tryz.func155,Tryz.ntmps155
   go_wp2_with (first
    |(go_at_call 99;(with_reducible refine Calls.mono (T1.out _) ?_);rintro e w1 ⟨rfl,hb⟩;replace HK:=Lib.hid (HK.out.below hb);replace HB:=Lib.hid (HB.out.trans (hb.mono HB.out.size));clear hb T1;(try clear k0 k1 k2 k3 k4);obtain⟨k0,k1,k2,k3,k4⟩:=CF.out _ HK.out)
    |(go_at_call 215;(with_reducible refine Calls.mono (T2.out _) ?_);rintro e w2 ⟨rfl,hw⟩;subst hw;clear T2))
   go_ret
   exact⟨by rw[E.out];rfl,HB.out⟩
  |true=>
   rw[h2] at T2
   cases h3:tmB p.st with
   |false=>
    rw[h3] at T3
    have E:=Lib.hid (show ptB' p=false by rw[ptB',h1,h2,h3];rfl)
    clear h1 h2 h3
    go_enter Tryz.func155,Tryz.ntmps155
    go_wp2_with (first
     |(go_at_call 99;(with_reducible refine Calls.mono (T1.out _) ?_);rintro e w1 ⟨rfl,hb⟩;replace HK:=Lib.hid (HK.out.below hb);replace HB:=Lib.hid (HB.out.trans (hb.mono HB.out.size));clear hb T1;(try clear k0 k1 k2 k3 k4);obtain⟨k0,k1,k2,k3,k4⟩:=CF.out _ HK.out)
     |(go_at_call 215;(with_reducible refine Calls.mono (T2.out _) ?_);rintro e w2 ⟨rfl,hw⟩;subst hw;clear T2)
     |(go_at_call 216;(with_reducible refine Calls.mono (T3.out _) ?_);rintro e w3 ⟨rfl,hw⟩;subst hw;clear T3))
    go_ret
    exact⟨by rw[E.out];rfl,HB.out⟩
   |true=>
    rw[h3] at T3
    have E:=Lib.hid (show ptB' p=tmB p.en by rw[ptB',h1,h2,h3];rfl)
    clear h1 h2 h3
    go_enter Tryz.func155,Tryz.ntmps155
    go_wp2_with (first
     |(go_at_call 99;(with_reducible refine Calls.mono (T1.out _) ?_);rintro e w1 ⟨rfl,hb⟩;replace HK:=Lib.hid (HK.out.below hb);replace HB:=Lib.hid (HB.out.trans (hb.mono HB.out.size));clear hb T1;(try clear k0 k1 k2 k3 k4);obtain⟨k0,k1,k2,k3,k4⟩:=CF.out _ HK.out)
     |(go_at_call 215;(with_reducible refine Calls.mono (T2.out _) ?_);rintro e w2 ⟨rfl,hw⟩;subst hw;clear T2)
     |(go_at_call 216;(with_reducible refine Calls.mono (T3.out _) ?_);rintro e w3 ⟨rfl,hw⟩;subst hw;clear T3)
     |(go_at_call 216;(with_reducible refine Calls.mono (T4.out _) ?_);rintro e w4 ⟨rfl,hw⟩;subst hw;clear T4))
    go_ret
    exact⟨by rw[E.out];rfl,HB.out⟩
theorem ispart_any (p:Pt) (w:World) (hk:p.ss.length=32) (hs:pSm p.c) (ht:p.tr.length≤1000000000):Calls Tryz.prog 155 #[.agg (ptC p).toArray] w fun e w'=>e = .returned (.bool (ptB p))∧Below w.heap.size w w':=by
 rw[←ptB_eq];exact ispart_any0 p w hk hs ht
end Go.Proofs.YtfcjeebnkigeaaaGreat.Mc
end

section
set_option linter.unusedVariables false
set_option linter.unusedSimpArgs false
namespace Go.Proofs.YtfcjeebnkigeaaaGreat.Mc
open Go.RowKit Go.Proofs.YtfcjeebnkigeaaaGreat.Mem Go.Proofs.YtfcjeebnkigeaaaGreat.DerP Go.Proofs.YtfcjeebnkigeaaaGreat.DerR Go.Proofs.YtfcjeebnkigeaaaGreat.Ms
theorem bounded_ok (l:L) (A:Option Addr) (n c:Nat) (w:World) (hn:n=l.length) (h:l.length≤2000):Calls Tryz.prog 128 #[.slice A n c] w fun e w'=>e = .returned (.tuple #[.slice A n c,.int .i64 0])∧w=w':=by
 subst hn
 have t1:decide ((2000:Int)<(l.length:Int))=false:=decide_eq_false (by omega)
 clear h
 go_enter Tryz.func128,Tryz.ntmps128
 go_wp2
 go_ret2
 exact⟨rfl,rfl⟩
theorem rp_len {p:Rp} (hk:p.ss.length=32) (hx:rpB p=true):(rpE p).length≤2000:=by
 have hp:prB p.s=true:=(show prB p.s=true∧tmB p.st=true∧tmB p.en=true∧tmB p.no=true by simpa [rpB] using hx).1
 have b1:=(prE_len hp).1;have b2:=encI_le p.st;have b3:=encI_le p.en;have b4:=encI_le p.no;have b5:=elem_len 4 p.ss
 have:=elem_len 122 [elem 4 p.ss,prE p.s,encI p.st,encI p.en,encI p.no].flatten
 rw[rpE];rw[flat5] at this⊢;simp only[List.length_append] at this;omega
theorem pt_len {p:Pt} (hk:p.ss.length=32) (hx:ptB p=true):(ptE p).length≤2000:=by
 have hp:=(pt_parts hx).2.1;have h3:=(pt_parts hx).2.2.1
 have b1:=(prE_len hp).1;have b2:=encI_le p.st;have b3:=encI_le p.en;have b4:=elem_len 27 p.tr;have b5:=elem_len 4 p.ss
 have:=elem_len 99 [prE p.c,elem 4 p.ss,elem 27 p.tr,encI p.st,encI p.en].flatten
 rw[ptE];rw[flat5] at this⊢;simp only[List.length_append] at this;omega
set_option maxHeartbeats 3200000 in
theorem encrep_any (p:Rp) (w:World) (hk:p.ss.length=32) (hs:pSm p.s):Calls Tryz.prog 108 #[.agg (rpC p).toArray] w (EncR w (rpO p)):=by
 have HI:=Lib.hid (show(Tryz.prog.info? 75).map (·.size)=some ((rpC p).toArray:Array Value).size by rw[rp_size hk];kernel_rfl)
 have I1:=Lib.hid (fun w1=>isrep_any p w1 hk hs)
 have T0:=Lib.hid (fun(hx:rpB p=true)=>fun w1=>layrep_any p w1 hk hx)
 have HLEN:=Lib.hid (fun(hx:rpB p=true)=>rp_len hk hx)
 obtain⟨cs,ecs⟩:∃cs:Array Value,cs=(rpC p).toArray:=⟨_,rfl⟩
 rw[←ecs] at HI I1 T0⊢
 clear ecs
 have HB:=Lib.hid ((Below.refl w.heap.size w).alloc (Nat.le_refl _) (.cells cs 75))
 have HK:=Lib.hid (Blk.new w 75 cs)
 cases hx:rpB p with
 |false=>
  rw[hx] at I1
  have E:=Lib.hid (show rpO p=none by unfold rpO limO;rw[hx];rfl)
  rw[E.out]
  clear hx E T0 HLEN hs hk
  go_enter Tryz.func108,Tryz.ntmps108
  go_wp2_with (first
   |(refine load_cells (by rfl) 75 (.tmp 1) (by rfl) w.heap.size 0 (by rfl) cs _ (range_blk HK.out) Tryz.underlying75 (by rfl) HI.out ?_)
   |(go_at_call 157;refine Calls.mono (I1.out _) ?_;rintro e w1 ⟨rfl,hb⟩;replace HB:=Lib.hid (HB.out.trans (hb.mono HB.out.size));clear hb I1)
   |fail)
  go_ret2
  exact enc_none HB.out
 |true=>
  rw[hx] at I1
  have T1:=Lib.hid (T0.out hx)
  have hlm:=HLEN.out hx
  have E:=Lib.hid (show rpO p=some (rpE p) from lim_iff.2 ⟨hx,hlm,rfl⟩)
  rw[E.out]
  obtain⟨l,el⟩:∃l,l=rpE p:=⟨_,rfl⟩
  rw[←el] at T1 hlm⊢
  have LM:=Lib.hid (fun A c w1=>bounded_ok l A _ c w1 rfl hlm)
  clear hx E el hlm T0 HLEN hs hk
  go_enter Tryz.func108,Tryz.ntmps108
  go_wp2_with (first
   |(refine load_cells (by rfl) 75 (.tmp 1) (by rfl) w.heap.size 0 (by rfl) cs _ (range_blk HK.out) Tryz.underlying75 (by rfl) HI.out ?_)
   |(go_at_call 157;refine Calls.mono (I1.out _) ?_;rintro e w1 ⟨rfl,hb⟩;replace HK:=Lib.hid (HK.out.below hb);replace HB:=Lib.hid (HB.out.trans (hb.mono HB.out.size));clear hb I1)
   |(go_at_call 158;refine Calls.mono (T1.out _) ?_;rintro e w2 ⟨⟨g,c,rfl,h2,h3,h4⟩,hb⟩;have HG:=Lib.hid (gives_on (l:=l) ⟨⟨g,c,rfl,h2,h3,h4⟩,hb⟩ HB.out);clear h2 h3 h4 hb T1)
   |(go_at_call 128;refine Calls.mono (LM.out _ _ _) ?_;rintro e wy ⟨rfl,rfl⟩;clear LM)
   |fail)
  go_ret2
  exact enc_some HG.out
set_option maxHeartbeats 3200000 in
theorem encpart_any (p:Pt) (w:World) (hk:p.ss.length=32) (hs:pSm p.c) (ht:p.tr.length≤1000000000):Calls Tryz.prog 107 #[.agg (ptC p).toArray] w (EncR w (ptO p)):=by
 have HI:=Lib.hid (show(Tryz.prog.info? 71).map (·.size)=some ((ptC p).toArray:Array Value).size by rw[pt_size hk];kernel_rfl)
 have I1:=Lib.hid (fun w1=>ispart_any p w1 hk hs ht)
 have T0:=Lib.hid (fun(hx:ptB p=true)=>fun w1=>laypart_any p w1 hk hx)
 have HLEN:=Lib.hid (fun(hx:ptB p=true)=>pt_len hk hx)
 obtain⟨cs,ecs⟩:∃cs:Array Value,cs=(ptC p).toArray:=⟨_,rfl⟩
 rw[←ecs] at HI I1 T0⊢
 clear ecs
 have HB:=Lib.hid ((Below.refl w.heap.size w).alloc (Nat.le_refl _) (.cells cs 71))
 have HK:=Lib.hid (Blk.new w 71 cs)
 cases hx:ptB p with
 |false=>
  rw[hx] at I1
  have E:=Lib.hid (show ptO p=none by unfold ptO limO;rw[hx];rfl)
  rw[E.out]
  clear hx E T0 HLEN hs hk ht
  go_enter Tryz.func107,Tryz.ntmps107
  go_wp2_with (first
   |(refine load_cells (by rfl) 71 (.tmp 1) (by rfl) w.heap.size 0 (by rfl) cs _ (range_blk HK.out) Tryz.underlying71 (by rfl) HI.out ?_)
   |(go_at_call 155;refine Calls.mono (I1.out _) ?_;rintro e w1 ⟨rfl,hb⟩;replace HB:=Lib.hid (HB.out.trans (hb.mono HB.out.size));clear hb I1)
   |fail)
  go_ret2
  exact enc_none HB.out
 |true=>
  rw[hx] at I1
  have T1:=Lib.hid (T0.out hx)
  have hlm:=HLEN.out hx
  have E:=Lib.hid (show ptO p=some (ptE p) from lim_iff.2 ⟨hx,hlm,rfl⟩)
  rw[E.out]
  obtain⟨l,el⟩:∃l,l=ptE p:=⟨_,rfl⟩
  rw[←el] at T1 hlm⊢
  have LM:=Lib.hid (fun A c w1=>bounded_ok l A _ c w1 rfl hlm)
  clear hx E el hlm T0 HLEN hs hk ht
  go_enter Tryz.func107,Tryz.ntmps107
  go_wp2_with (first
   |(refine load_cells (by rfl) 71 (.tmp 1) (by rfl) w.heap.size 0 (by rfl) cs _ (range_blk HK.out) Tryz.underlying71 (by rfl) HI.out ?_)
   |(go_at_call 155;refine Calls.mono (I1.out _) ?_;rintro e w1 ⟨rfl,hb⟩;replace HK:=Lib.hid (HK.out.below hb);replace HB:=Lib.hid (HB.out.trans (hb.mono HB.out.size));clear hb I1)
   |(go_at_call 156;refine Calls.mono (T1.out _) ?_;rintro e w2 ⟨⟨g,c,rfl,h2,h3,h4⟩,hb⟩;have HG:=Lib.hid (gives_on (l:=l) ⟨⟨g,c,rfl,h2,h3,h4⟩,hb⟩ HB.out);clear h2 h3 h4 hb T1)
   |(go_at_call 128;refine Calls.mono (LM.out _ _ _) ?_;rintro e wy ⟨rfl,rfl⟩;clear LM)
   |fail)
  go_ret2
  exact enc_some HG.out
end Go.Proofs.YtfcjeebnkigeaaaGreat.Mc
end

section
set_option linter.unusedVariables false
namespace Go.Proofs.YtfcjeebnkigeaaaGreat.DerR
open Go.RowKit Go.Proofs.YtfcjeebnkigeaaaGreat.Mem Go.Proofs.YtfcjeebnkigeaaaGreat.DerP
theorem rd_take {w:World} {B:Nat} {A:Option Addr} {l:L} (h:Rd w B A (bvs l)) (m:Nat):Rd w B A (bvs (l.take m)):=by
 rcases h with h | ⟨b,o,h1,h2,h3⟩
 ·have:l = []:=List.map_eq_nil_iff.1 h
  subst this
  exact .inl (by simp [bvs])
 ·refine .inr ⟨b,o,h1,h2,fun i u hu=>h3 i u ?_⟩
  by_cases hi:i<m
  ·rw[←hu];simp only[bvs,List.getElem?_map,List.getElem?_take,if_pos hi]
  ·rw[List.getElem?_eq_none (by rw[bvs_length,List.length_take];omega)] at hu;cases hu
def RS (w:World) (B:Nat) (A:Option Addr) (n cap:Nat) (e:Bool):Option L→Prop
 |none=>e=true
 |some l=>e=false∧n=l.length∧n≤cap∧Rd w B A (bvs l)
def RC (w:World) (B g:Nat) (c:Option L):Prop:=∃A n cap e,Blk w g 175 #[.slice A n cap,.bool e]∧RS w B A n cap e c
theorem RC.keep {w w':World} {B g:Nat} {c:Option L} (h:RC w B g c) {row:Option Nat} (hg:w.grownBy w' row) (hne:row≠some g) (hB:B≤w.heap.size) (hr:∀k,row=some k→B≤k):RC w' B g c:=by
 obtain⟨A,n,cap,e,h1,h2⟩:=h
 refine⟨A,n,cap,e,h1.grown hg hne,?_⟩
 cases c with
 |none=>exact h2
 |some l=>exact⟨h2.1,h2.2.1,h2.2.2.1,h2.2.2.2.grown hg hB hr⟩
end Go.Proofs.YtfcjeebnkigeaaaGreat.DerR
end

section
set_option linter.unusedVariables false
namespace Go.Proofs.YtfcjeebnkigeaaaGreat.DerR
open Go.RowKit Go.Proofs.YtfcjeebnkigeaaaGreat.Mem Go.Proofs.YtfcjeebnkigeaaaGreat.DerP
theorem split_at {t:UInt8} {s:L} {m k:Nat} (h:lenR s=(m,k,true)) (hf:m+k≤s.length):splitL t (t :: s)=some (((t :: s).drop (k+1)).take m,(t :: s).drop (k+1+m)):=by
 rw[splitL,h,if_pos ⟨rfl,rfl,hf⟩]
 congr 2
 rw[List.drop_drop,show k+1+m=(k+m)+1 by omega]
 rfl
end Go.Proofs.YtfcjeebnkigeaaaGreat.DerR
end

section
set_option linter.unusedVariables false
set_option linter.unusedSimpArgs false
namespace Go.Proofs.YtfcjeebnkigeaaaGreat.Ms
open Go.RowKit Go.Proofs.YtfcjeebnkigeaaaGreat.Mem Go.Proofs.YtfcjeebnkigeaaaGreat.DerP Go.Proofs.YtfcjeebnkigeaaaGreat.DerR
theorem results_cell {P:Program} {fn:Func} {tmps:Array Value} {w:World} {v:Value} (t:Nat) (ty:TypeId) (a:Addr) (hres:fn.results=#[.cell t ty]) (ht:tmps.getD t undef = .pointer (some a)) (hl:(loadVar ty a).run P w = .ok v w) :
  (results fn tmps).run P w = .ok v w:=by
 have ht':tmps[t]?.getD undef = .pointer (some a):=by simpa using ht
 simp [results,hres,ht',asAddr,hl]
theorem load_blk {P:Program} {w:World} {g:Nat} {t ty:TypeId} {cs:Array Value} {d:TypeDesc} (h:Blk w g t cs) (hu:P.underlying ty=some d) (hd:d.isRow=true) (hi:(P.info? ty).map (·.size)=some cs.size) :
  (loadVar ty ⟨g,0,none⟩).run P w = .ok (.agg cs) w:=by
 have hc:w.rangeAt g 0 cs.toList:=fun j v hv=>by rw[Nat.zero_add,h.cell];simpa using hv
 have:=run_loadVar_mid (P:=P) w g 0 ty cs.toList d hc hu hd (by simpa using hi)
 simpa using this
end Go.Proofs.YtfcjeebnkigeaaaGreat.Ms
end

section
set_option linter.unusedVariables false
namespace Go.Proofs.YtfcjeebnkigeaaaGreat.Mc
open Go.RowKit Go.Proofs.YtfcjeebnkigeaaaGreat.Mem Go.Proofs.YtfcjeebnkigeaaaGreat.DerP Go.Proofs.YtfcjeebnkigeaaaGreat.DerC Go.Proofs.YtfcjeebnkigeaaaGreat.Ms
def OwnB (w:World) (base:Nat) (v:Value) (l:L):Prop:=
 ∃b c,v = .slice (some ⟨b,0,none⟩) l.length c∧l.length≤c∧base≤b∧b<w.heap.size∧∀i u,(bvs l)[i]? = some u→w.cell? ⟨b,i,none⟩=some u
theorem OwnB.keep {w w':World} {base g:Nat} {v:Value} {l:L} (h:OwnB w base v l) (hg:w.grownBy w' (some g)) (hlt:g<base):OwnB w' base v l:=by
 obtain⟨b,c,h1,h2,h3,h4,h5⟩:=h
 exact⟨b,c,h1,h2,h3,Nat.lt_of_lt_of_le h4 hg.size,fun i u hu=>(World.cell?_of_block (a:=⟨b,i,none⟩) (hg.block b h4 (fun e=>by injection e with e;omega))).trans (h5 i u hu)⟩
theorem OwnB.below {w w':World} {base:Nat} {v:Value} {l:L} (h:OwnB w base v l) (hb:Below w.heap.size w w'):OwnB w' base v l:=by
 obtain⟨b,c,h1,h2,h3,h4,h5⟩:=h
 exact⟨b,c,h1,h2,h3,Nat.lt_of_lt_of_le h4 hb.size,fun i u hu=>(hb.cell (p:=⟨b,i,none⟩) h4).trans (h5 i u hu)⟩
theorem OwnB.less {w:World} {base base':Nat} {v:Value} {l:L} (h:OwnB w base v l) (hb:base'≤base):OwnB w base' v l:=by
 obtain⟨b,c,h1,h2,h3,h4,h5⟩:=h
 exact⟨b,c,h1,h2,Nat.le_trans hb h3,h4,h5⟩
theorem OwnB.slb {w:World} {base:Nat} {v:Value} {l:L} (h:OwnB w base v l):SlB w w.heap.size v l:=by
 obtain⟨b,c,h1,h2,h3,h4,h5⟩:=h
 exact⟨_,c,h1,h2,.inr ⟨b,0,rfl,h4,fun i u hu=>by rw[Nat.zero_add];exact h5 i u hu⟩⟩
theorem there_blk {w:World} {g:Nat} {t:TypeId} {cs:Array Value} (h:Blk w g t cs) (n:Nat) (hn:n≤cs.size):w.there g 0 n:=fun j hj=>by
 rw[Nat.zero_add,h.cell,Array.getElem?_eq_getElem (by omega)]
 exact⟨rfl,h.frozen j⟩
theorem blk_cells_aux {g:Nat} {t:TypeId}:∀(vs:List Value) (o:Nat) (w:World) (cs:Array Value),Blk w g t cs→o+vs.length≤cs.size→
  ∃ds:Array Value,Blk (w.setCells g o vs) g t ds∧ds.size=cs.size∧(∀i,o≤i→i<o+vs.length→ds[i]? = vs[i - o]?)∧(∀i,i<o∨o+vs.length≤i→ds[i]? = cs[i]?)
 | [],o,w,cs,h,hl=>⟨cs,h,rfl,fun i h1 h2=>by simp at h2;omega,fun i _=>rfl⟩
 |v :: r,o,w,cs,h,hl=>by
  rw[World.setCells]
  simp only[List.length_cons] at hl
  obtain⟨ds,h1,h2,h3,h4⟩:=blk_cells_aux r (o+1) _ _ (h.set o v) (by simp;omega)
  simp only[List.length_cons]
  refine⟨ds,h1,by simpa using h2,fun i hi hj=>?_,fun i hi=>?_⟩
  ·by_cases e:i=o
   ·subst e
    rw[h4 i (by omega),Nat.sub_self]
    rw[Array.getElem?_setIfInBounds_self_of_lt (by omega)]
    rfl
   ·rw[h3 i (by omega) (by omega),show i - o=(i - (o+1))+1 by omega]
    simp
  ·rw[h4 i (by omega)]
   exact Array.getElem?_setIfInBounds_ne (by omega)
theorem blk_cells {w:World} {g:Nat} {t:TypeId} {cs ds:Array Value} (h:Blk w g t cs) (hs:cs.size=ds.size):Blk (w.setCells g 0 ds.toList) g t ds:=by
 obtain⟨es,h1,h2,h3,_⟩:=blk_cells_aux ds.toList 0 w cs h (by simp;omega)
 have e:es=ds:=by
  apply Array.ext_getElem?
  intro i
  by_cases hi:i<ds.size
  ·rw[h3 i (by omega) (by simp;omega)];simp
  ·rw[Array.getElem?_eq_none (by omega),Array.getElem?_eq_none (by omega)]
 rw[←e];rw[←e] at h1;exact h1
theorem g_cells {row:Option Nat} {a:World} {g:Nat} (hp:row=some g∨a.heap.size≤g):∀(vs:List Value) (o:Nat) (w:World),a.grownBy w row→a.grownBy (w.setCells g o vs) row
 | [],_,_,h=>h
 |v :: r,o,w,h=>by rw[World.setCells];exact g_cells hp r (o+1) _ (g_set h (p:=⟨g,o,none⟩) hp v)
theorem put_cells (w:World) (g:Nat) (vs:List Value):w.grownBy (w.setCells g 0 vs) (some g):=g_cells (.inl rfl) vs 0 w (World.grownBy.refl _ _)
end Go.Proofs.YtfcjeebnkigeaaaGreat.Mc
end

section
set_option linter.unusedVariables false
set_option linter.unusedSimpArgs false
namespace Go.Proofs.YtfcjeebnkigeaaaGreat.Mc
open Go.RowKit Go.Proofs.YtfcjeebnkigeaaaGreat.Mem Go.Proofs.YtfcjeebnkigeaaaGreat.DerP Go.Proofs.YtfcjeebnkigeaaaGreat.DerC Go.Proofs.YtfcjeebnkigeaaaGreat.Ms
theorem key_info:(Tryz.prog.info? 47).map (·.size)=some 32:=by kernel_rfl
end Go.Proofs.YtfcjeebnkigeaaaGreat.Mc
end

section
set_option linter.unusedVariables false
set_option linter.unusedSimpArgs false
namespace Go.Proofs.YtfcjeebnkigeaaaGreat.Mc
open Go.RowKit Go.Proofs.YtfcjeebnkigeaaaGreat.Mem Go.Proofs.YtfcjeebnkigeaaaGreat.DerP Go.Proofs.YtfcjeebnkigeaaaGreat.DerC Go.Proofs.YtfcjeebnkigeaaaGreat.Ms
theorem wpList_built {P:Program} {ops:Array Oper} {rest:List Oper} {o:Oper} {a:Act} {w:World} {Q:Exit→Act→World→Prop} (hg:o.guard=none) (t:TypeId) (parts:Array (Nat×Operand)) (ho:o.op = .build t parts)
  (cells:Array Value) (hc:P.built t (parts.map fun(i,x)=>(i,a.eval x)).toList=some cells) (h:wpList P ops Q rest (a.put o.dst (.agg cells)) w):wpList P ops Q (o :: rest) a w:=
 wpList_build hg t parts ho (by rw[hc];rfl) (by rw[hc];exact h)
end Go.Proofs.YtfcjeebnkigeaaaGreat.Mc
end

section
set_option linter.unusedVariables false
set_option linter.unusedSimpArgs false
namespace Go.Proofs.YtfcjeebnkigeaaaGreat.Kd
open Go.RowKit Go.Proofs.YtfcjeebnkigeaaaGreat.Mem Go.Proofs.YtfcjeebnkigeaaaGreat.Se
open Go.Proofs.YtfcjeebnkigeaaaGreat.Rg (It Ent Ring RO its results_pair)
open Go.Proofs.YtfcjeebnkigeaaaGreat.SeL (sealR)
open Go.Proofs.YtfcjeebnkigeaaaGreat.Ms (Pt Rp Re ptO rpO pSm reC tkC prC)
theorem Kn.more {w0 w:World} {B:Nat} {p:KP} {es0 es:List Ent} {s0 s:Option Ss} {n i c c':Nat} (h:Kn w0 w B p es0 s0 es s n i c) (hc:c≤c'):Kn w0 w B p es0 s0 es s n i c':=⟨h.st.more hc,h.eq,h.sq,h.chg,h.nw⟩
def ansK (n:Nat) (k1:Nat→UInt8) (kv:Nat) (sv:Ms.Pr) (P:Pt) (no:Int) (k2:Nat→UInt8) (u:Int):Int×Re:=
 if (ptO P).isSome&&(rpO (rpOf P sv no)).isSome then
  (0,⟨P.c,⟨sv,kv,(sealR k1 2 ((n+1:Nat):Int) ((ptO P).getD [])).1⟩,(sealR k2 u ((n+1+1:Nat):Int) ((rpO (rpOf P sv no)).getD [])).1⟩)
 else (2,Ms.re0)
def AnsR (w:World) (B:Nat) (p:KP) (es:List Ent) (s:Option Ss) (n i c:Nat) (r:Int×Re) (e:Ending) (w':World):Prop:=
 ∃cs es' s',e = .returned (.tuple #[.agg cs,.int .i64 r.1])∧ReN (Out w p es' s') w' cs r.2∧Kn w w' B p es s es' s' (n+2*cnt r.1) (i+cnt r.1) c
theorem ans_err {w w':World} {B:Nat} {p:KP} {es es':List Ent} {s s':Option Ss} {n i c:Nat} {r:Int} (h:Kn w w' B p es s es' s' n i c) (hr:r≠0):AnsR w B p es s n i c (r,Ms.re0) (.returned (.tuple #[.agg #[.string ⟨#[]⟩,.string ⟨#[]⟩,.string ⟨#[]⟩,.string ⟨#[]⟩,.int .i64 0,.slice none 0 0,.slice none 0 0],.int .i64 r])) w':=by
 refine⟨_,es',s',rfl,re0_n,?_⟩
 show Kn w w' B p es s es' s' (n+2*cnt r) (i+cnt r) c
 rw[cnt,if_neg hr]
 exact h
theorem enc_some_to {w w':World} {l:Nm.L} {e:Ending} (h:Ms.EncR w (some l) e w'):∃v,e = .returned (.tuple #[v,.int .i64 0])∧SlN (fun j=>j<w.heap.size) w' v l∧Below w.heap.size w w':=enc_to h
theorem enc_none_to {w w':World} {e:Ending} (h:Ms.EncR w none e w'):∃v,e = .returned (.tuple #[v,.int .i64 1])∧Below w.heap.size w w':=by
 obtain⟨v,h1,_,h3⟩:=enc_to h
 exact⟨v,h1,h3⟩
theorem Kn.alloc {w0 w:World} {B:Nat} {p:KP} {es0 es:List Ent} {s0 s:Option Ss} {n i c:Nat} (h:Kn w0 w B p es0 s0 es s n i c) (o:Obj):Kn w0 (w.alloc o) B p es0 s0 es s n i c:=h.below ((Below.refl _ _).alloc (Nat.le_refl _) _)
theorem SlN.alloc {S:Nat→Prop} {w:World} {v:Value} {l:Nm.L} (h:SlN S w v l) (o:Obj):SlN S (w.alloc o) v l:=h.below ((Below.refl _ _).alloc (Nat.le_refl _) _)
theorem SlN.old {w0 w w1:World} {B:Nat} {p:KP} {es0 es:List Ent} {s0 s:Option Ss} {n i c:Nat} {v:Value} {l:Nm.L} (hk:Kn w0 w B p es0 s0 es s n i c) (h:SlN (fun j=>j<w.heap.size) w1 v l):SlN (KSO p es s) w1 v l:=h.mono (fun j _ x=>hk.st.kso_lt x)
theorem far4 {w:World} {g h:Nat} {t:TypeId} {cs:Array Value} (hb:Blk w g t cs) (hn:h≠g) (a b c d:Value):Blk ((((w.setCell ⟨h,0,none⟩ a).setCell ⟨h,1,none⟩ b).setCell ⟨h,2,none⟩ c).setCell ⟨h,3,none⟩ d) g t cs:=
 Si.Blk.far (Si.Blk.far (Si.Blk.far (Si.Blk.far hb _ _ hn) _ _ hn) _ _ hn) _ _ hn
theorem set4 {w:World} {g:Nat} {t:TypeId} {z0 z1 z2 z3:Value} (hb:Blk w g t #[z0,z1,z2,z3]) (a b c d:Value):Blk ((((w.setCell ⟨g,0,none⟩ a).setCell ⟨g,1,none⟩ b).setCell ⟨g,2,none⟩ c).setCell ⟨g,3,none⟩ d) g t #[a,b,c,d]:=
 (((hb.set 0 a).set 1 b).set 2 c).set 3 d
theorem below4 {B:Nat} {a w:World} {g:Nat} (h:Below B a w) (hg:B≤g) (x y z u:Value):Below B a ((((w.setCell ⟨g,0,none⟩ x).setCell ⟨g,1,none⟩ y).setCell ⟨g,2,none⟩ z).setCell ⟨g,3,none⟩ u):=
 Si.below_set (Si.below_set (Si.below_set (Si.below_set h hg _) hg _) hg _) hg _
theorem set7 {w:World} {g:Nat} {t:TypeId} {z0 z1 z2 z3 z4 z5 z6:Value} (hb:Blk w g t #[z0,z1,z2,z3,z4,z5,z6]) (a b c d e f k:Value):Blk (((((((w.setCell ⟨g,0,none⟩ a).setCell ⟨g,1,none⟩ b).setCell ⟨g,2,none⟩ c).setCell ⟨g,3,none⟩ d).setCell ⟨g,4,none⟩ e).setCell ⟨g,5,none⟩ f).setCell ⟨g,6,none⟩ k) g t #[a,b,c,d,e,f,k]:=by
 have h:=((((((hb.set 0 a).set 1 b).set 2 c).set 3 d).set 4 e).set 5 f).set 6 k
 simpa only[List.setIfInBounds_toArray,List.set_cons_zero,List.set_cons_succ] using h
theorem Kn.put {w0 w:World} {B:Nat} {p:KP} {es0 es:List Ent} {s0 s:Option Ss} {n i c:Nat} (h:Kn w0 w B p es0 s0 es s n i c) {g:Nat} (hg:w0.heap.size≤g) (hk:∀j,KA p es j∨SO s j→j≠g) (o:Nat) (u:Value):Kn w0 (w.setCell ⟨g,o,none⟩ u) B p es0 s0 es s n i c:=
 ⟨h.st.chg (put_one w g o u) hk,h.eq,h.sq,h.chg.trans (put_one w g o u) (fun j hj x=>by omega),h.nw⟩
theorem Kn.put7 {w0 w:World} {B:Nat} {p:KP} {es0 es:List Ent} {s0 s:Option Ss} {n i c:Nat} (h:Kn w0 w B p es0 s0 es s n i c) {g:Nat} (hg:w0.heap.size≤g) (hk:∀j,KA p es j∨SO s j→j≠g) (a b c' d e f k:Value):Kn w0 (((((((w.setCell ⟨g,0,none⟩ a).setCell ⟨g,1,none⟩ b).setCell ⟨g,2,none⟩ c').setCell ⟨g,3,none⟩ d).setCell ⟨g,4,none⟩ e).setCell ⟨g,5,none⟩ f).setCell ⟨g,6,none⟩ k) B p es0 s0 es s n i c:=
 ((((((h.put hg hk 0 a).put hg hk 1 b).put hg hk 2 c').put hg hk 3 d).put hg hk 4 e).put hg hk 5 f).put hg hk 6 k
def Off (p:KP) (es:List Ent) (s:Option Ss) (g:Nat):Prop:=∀j,KA p es j∨SO s j→j≠g
theorem KS.offs {w:World} {B:Nat} {p:KP} {es:List Ent} {s:Option Ss} {n i c:Nat} (h:KS w B p es s n i c) {g:Nat} (hg:w.heap.size≤g):Off p es s g:=fun j hj e=>by
 subst e
 rcases hj with hj | hj
 ·have:=h.k.ka_lt hj;omega
 ·have:=h.kso_lt (p:=p) (es:=es) (.inr hj);omega
theorem Kn.off {w0 w:World} {B:Nat} {p:KP} {es0 es:List Ent} {s0 s:Option Ss} {n i c:Nat} (h:Kn w0 w B p es0 s0 es s n i c) {g:Nat} (hg:Off p es0 s0 g) (hl:g<w0.heap.size):Off p es s g:=fun j hj e=>by
 subst e
 rcases hj with(hj | hj) | hj
 ·rcases h.nw _ (.inl hj) with y | y
  ·rcases y with y | y
   ·exact hg _ (.inl (.inl y)) rfl
   ·exact hg _ (.inr y) rfl
  ·omega
 ·exact hg _ (.inl (.inr hj)) rfl
 ·rcases h.nw _ (.inr hj) with y | y
  ·rcases y with y | y
   ·exact hg _ (.inl (.inl y)) rfl
   ·exact hg _ (.inr y) rfl
  ·omega
theorem Off.no {p:KP} {es:List Ent} {s:Option Ss} {g:Nat} (h:Off p es s g):¬KSO p es s g:=fun x=>by
 rcases x with x | x
 ·exact h g (.inl (.inl x)) rfl
 ·exact h g (.inr x) rfl
theorem far7 {w:World} {g h:Nat} {t:TypeId} {cs:Array Value} (hb:Blk w g t cs) (hn:h≠g) (a b c d e f k:Value):Blk (((((((w.setCell ⟨h,0,none⟩ a).setCell ⟨h,1,none⟩ b).setCell ⟨h,2,none⟩ c).setCell ⟨h,3,none⟩ d).setCell ⟨h,4,none⟩ e).setCell ⟨h,5,none⟩ f).setCell ⟨h,6,none⟩ k) g t cs:=
 Si.Blk.far (Si.Blk.far (Si.Blk.far (Si.Blk.far (Si.Blk.far (Si.Blk.far (Si.Blk.far hb _ _ hn) _ _ hn) _ _ hn) _ _ hn) _ _ hn) _ _ hn) _ _ hn
def SlX (X:Nat→Prop) (p:KP) (es:List Ent) (s:Option Ss) (w:World) (v:Value) (l:Nm.L):Prop:=SlN (fun j=>KSO p es s j∨X j) w v l
section
variable {X Y:Nat→Prop} {p:KP} {es0 es:List Ent} {s0 s:Option Ss} {w0 w:World} {B n i c:Nat} {v:Value} {l:Nm.L}
theorem SlX.kn (h:SlX X p es0 s0 w0 v l) (hk:Kn w0 w B p es0 s0 es s n i c):SlX X p es s w v l:=
 h.keep hk.chg (fun _ _ x=>.inl x) (fun j hj x=>by
  rcases x with x | x
  ·rcases hk.nw j x with y | y
   ·exact .inl y
   ·omega
  ·exact .inr x)
theorem SlX.below {w':World} (h:SlX X p es s w v l) (hb:Below w.heap.size w w'):SlX X p es s w' v l:=SlN.below h hb
theorem SlX.less (h:SlX X p es s w v l) (hx:∀j,Y j→X j):SlX Y p es s w v l:=h.mono (fun j _ x=>x.imp id (hx j))
theorem SlX.up (h:SlX X p es s w v l) (g:Nat) (hg:w.heap.size≤g):SlX (fun j=>X j∨j=g) p es s w v l:=h.mono (fun j hj x=>by
 rcases x with x | x | x
 ·exact .inl x
 ·exact .inr x
 ·omega)
theorem SlX.put (h:SlX X p es s w v l) {g:Nat} (hx:X g) (o:Nat) (u:Value):SlX X p es s (w.setCell ⟨g,o,none⟩ u) v l:=h.keep (put_one w g o u) (fun j _ x=>.inr (x▸hx)) (fun _ _ x=>x)
theorem SlX.put7 (h:SlX X p es s w v l) {g:Nat} (hx:X g) (a b c' d e f k:Value):SlX X p es s (((((((w.setCell ⟨g,0,none⟩ a).setCell ⟨g,1,none⟩ b).setCell ⟨g,2,none⟩ c').setCell ⟨g,3,none⟩ d).setCell ⟨g,4,none⟩ e).setCell ⟨g,5,none⟩ f).setCell ⟨g,6,none⟩ k) v l:=
 ((((((h.put hx 0 a).put hx 1 b).put hx 2 c').put hx 3 d).put hx 4 e).put hx 5 f).put hx 6 k
theorem SlX.of_out {a:World} (h:SlN (Out a p es s) w v l) (hx:∀j,X j→j<a.heap.size):SlX X p es s w v l:=h.mono (fun j _ x=>by
 rcases x with x | x
 ·exact .inr x
 ·exact .inl (hx j x))
theorem SlX.up0 (h:SlN (KSO p es s) w v l) (g:Nat) (hg:w.heap.size≤g):SlX (fun j=>j=g) p es s w v l:=h.mono (fun j hj x=>by
 rcases x with x | x
 ·exact x
 ·omega)
theorem SlX.kso (h:SlX X p es s w v l):SlN (KSO p es s) w v l:=h.mono (fun j _ x=>.inl x)
theorem SlX.out {a:World} (h:SlX X p es s w v l) (hx:∀j,j<a.heap.size→X j):SlN (Out a p es s) w v l:=h.mono (fun j _ x=>by
 rcases x with x | x
 ·exact .inr (hx j x)
 ·exact .inl x)
end
abbrev tkZ:Array Value:=#[.string ⟨#[]⟩,.string ⟨#[]⟩,.int .i64 0,.slice none 0 0]
abbrev reZ:Array Value:=#[.string ⟨#[]⟩,.string ⟨#[]⟩,.string ⟨#[]⟩,.string ⟨#[]⟩,.int .i64 0,.slice none 0 0,.slice none 0 0]
end Go.Proofs.YtfcjeebnkigeaaaGreat.Kd
end

section
set_option linter.unusedVariables false
namespace Go.Proofs.YtfcjeebnkigeaaaGreat.Kd
open Go.RowKit Go.Proofs.YtfcjeebnkigeaaaGreat.Mem Go.Proofs.YtfcjeebnkigeaaaGreat.Se
open Go.Proofs.YtfcjeebnkigeaaaGreat.Rg (It Ent Ring RO DRing DO Ap its)
structure Scn (a:Bool) (w0 w:World) (g:Nat) (p:KP) (es:List Ent) (d:DP):Prop where
 blk:Blk w g 44 #[.pointer (some ⟨p.k,0,none⟩),.pointer (some ⟨d.x,0,none⟩)]
 ks:KS w w0.heap.size p es none 0 0 0
 dk:DK w w0.heap.size d (itX a) 0 0
 e:its es=itX a
 R:p.R=rX a
 T:p.T=tT
 dR:d.R=rX a
 dT:d.T=tT
 ap:∀j,DA d j→¬KA p es j
 gk:Off p es none g
 gd:¬DA d g
 lo:w0.heap.size≤g
 b:Below w0.heap.size w0 w
theorem scn_mk {a:Bool} {G:Nat→Prop} {w0 W w1 w2 w3 w4:World} {es:List Ent} {j:Nat} {p:KP} {d:DP} (hj:(itX a).length≤j)
  (hs:Sc a W w0.heap.size p.r p.v es d.q d.v j G) (b1:Below W.heap.size W w1) (hk:w1.heap.size≤p.k) (hl:w1.heap.size≤p.lo) (hd:KD w2 w0.heap.size p es 0 0) (b2:Below w1.heap.size w1 w2) (b3:Below w2.heap.size w2 w3)
  (hx:w3.heap.size≤d.x) (hlo:d.lo=w2.heap.size) (hdk:DK w4 w0.heap.size d (itX a) 0 0) (b4:Below w3.heap.size w3 w4) (hb:Below w0.heap.size w0 w4) (e1:p.R=rX a) (e2:p.T=tT) (e3:d.R=rX a) (e4:d.T=tT) :
  Scn a w0 (w4.alloc (.cells #[.pointer (some ⟨p.k,0,none⟩),.pointer (some ⟨d.x,0,none⟩)] 44)) w4.heap.size p es d:=by
 have hb5:Below w4.heap.size w4 (w4.alloc (.cells #[.pointer (some ⟨p.k,0,none⟩),.pointer (some ⟨d.x,0,none⟩)] 44)):=(Below.refl _ _).alloc (Nat.le_refl _) _
 have s1:=b1.size;have s2:=b2.size;have s3:=b3.size;have s4:=b4.size;have s5:=hb5.size;have s0:=hb.size
 have hd4:KD w4 w0.heap.size p es 0 0:=(hd.below b3).below (b4.mono (Nat.le_refl _))
 have hks:KS w4 w0.heap.size p es none 0 0 0:=⟨hd4,s0,fun z hz=>(by cases hz),fun j hj=>(by obtain⟨z,hz,_⟩:=hj;cases hz),fun j hj=>(by obtain⟨z,hz,_⟩:=hj;cases hz),hs.z⟩
 have hks5:=hks.below hb5
 refine⟨Blk.new _ _ _,hks5,hdk.below hb5,?_,e1,e2,e3,e4,fun i hi x=>?_,hks.offs (Nat.le_refl _),fun x=>?_,s0,hb.trans (hb5.mono s0)⟩
 ·rw[hs.e,List.take_of_length_le hj]
 ·have hlt:=hd.ka_lt x
  rcases hi with hi | hi | hi
  ·omega
  ·have hi2:=hs.d.own_lt hi
   rcases x with(x | x) | x
   ·omega
   ·exact hs.ap i hi x
   ·have:=x.1;omega
  ·have:=hi.1;omega
 ·have:=hdk.da_lt x;omega
theorem scn_key (a:Bool) {j:Nat} {i:It} (h:(itX a)[j]? = some i):(i.p=kr rA rE→i.k=kq 99)∧(¬i.p=kr rA rE→i.k=kq (UInt8.ofNat (10+j))):=by
 cases a with
 |false=>
  match j,h with
  |0,h=>injection h with h;subst h;exact⟨fun h=>absurd h (by decide +kernel),fun _=>congrArg kq (show(10:UInt8)=UInt8.ofNat (10+0) by decide +kernel)⟩
  |1,h=>injection h with h;subst h;exact⟨fun _=>rfl,fun h=>absurd rfl h⟩
  |2,h=>injection h with h;subst h;exact⟨fun h=>absurd h (by decide +kernel),fun _=>congrArg kq (show(12:UInt8)=UInt8.ofNat (10+2) by decide +kernel)⟩
  |3,h=>injection h with h;subst h;exact⟨fun h=>absurd h (by decide +kernel),fun _=>congrArg kq (show(13:UInt8)=UInt8.ofNat (10+3) by decide +kernel)⟩
  |4,h=>injection h with h;subst h;exact⟨fun h=>absurd h (by decide +kernel),fun _=>congrArg kq (show(14:UInt8)=UInt8.ofNat (10+4) by decide +kernel)⟩
  |j+5,h=>simp [itX,itA] at h
 |true=>
  match j,h with
  |0,h=>injection h with h;subst h;exact⟨fun h=>absurd h (by decide +kernel),fun _=>congrArg kq (show(10:UInt8)=UInt8.ofNat (10+0) by decide +kernel)⟩
  |1,h=>injection h with h;subst h;exact⟨fun _=>rfl,fun h=>absurd rfl h⟩
  |2,h=>injection h with h;subst h;exact⟨fun h=>absurd h (by decide +kernel),fun _=>congrArg kq (show(12:UInt8)=UInt8.ofNat (10+2) by decide +kernel)⟩
  |3,h=>injection h with h;subst h;exact⟨fun h=>absurd h (by decide +kernel),fun _=>congrArg kq (show(13:UInt8)=UInt8.ofNat (10+3) by decide +kernel)⟩
  |j+4,h=>simp [itX,itE] at h
theorem scn_wrap {j:Nat} (h:j<5):IntKind.u8.wrap (10+(j:Int))=((UInt8.ofNat (10+j)).toNat:Int):=by
 match j,h with
 |0,_=>rfl
 |1,_=>rfl
 |2,_=>rfl
 |3,_=>rfl
 |4,_=>rfl
end Go.Proofs.YtfcjeebnkigeaaaGreat.Kd
end

section
set_option linter.unusedVariables false
namespace Go.Proofs.YtfcjeebnkigeaaaGreat.Rt
open Go.RowKit Go.Proofs.YtfcjeebnkigeaaaGreat.Mem Go.Proofs.YtfcjeebnkigeaaaGreat.Nm
theorem isp_yes {a b:L} {p:Pa} (h1:p.f=a) (h2:p.t=b):isP a b p=true:=by rw[isP,decide_eq_true h1,decide_eq_true h2];rfl
theorem isp_no1 {a b:L} {p:Pa} (h1:p.f≠a):isP a b p=false:=by rw[isP,decide_eq_false h1];rfl
theorem isp_no2 {a b:L} {p:Pa} (h2:p.t≠b):isP a b p=false:=by rw[isP,decide_eq_false h2];simp
theorem laidb_yes {T:Tp} {a b:L} {i:Nat} (hi:i<T.P.length) (h:isP a b (al T.P i)=true) (hn:∀k,k<i→isP a b (al T.P k)=false):laidB T a b=true∧vL T a b=(al T.P i).v:=by
 have e:=laid_at hi h hn
 exact⟨by rw[laidB,e];exact decide_eq_true hi,by rw[vL,e]⟩
theorem laidb_no {T:Tp} {a b:L} (hn:∀k,k<T.P.length→isP a b (al T.P k)=false):laidB T a b=false∧vL T a b = []:=by
 have e:=laid_none hn
 refine⟨by rw[laidB,e];exact decide_eq_false (by omega),?_⟩
 rw[vL,e,al];simp
set_option maxHeartbeats 800000 in
theorem laid_any (T:Tp) (v:Value) (B:Nat) (a b:L) (w:World) (hs:Sm T) (hv:TpV w B v T) (hB:B≤w.heap.size) :
  Calls Tryz.prog 234 #[v,.string ⟨a.toArray⟩,.string ⟨b.toArray⟩] w fun e w'=>∃u,e = .returned (.tuple #[u,.bool (laidB T a b)])∧SlV w' B u (vL T a b)∧Below w.heap.size w w':=by
 obtain⟨v1,v2,v3,rfl,⟨A1,c1,rfl,hc1,r1⟩,⟨A2,c2,rfl,hc2,r2⟩,⟨A3,c3,rfl,hc3,r3⟩⟩:=hv
 obtain⟨N,eN⟩:∃N,N=w.heap.size:=⟨_,rfl⟩
 have hb:=(Below.refl w.heap.size w).alloc (Nat.le_refl _) (.cells #[.slice A1 T.R.length c1,.slice A2 T.K.length c2,.slice A3 T.P.length c3] 60)
 have HB0:=Lib.hid hb;clear hb
 have HK:=Lib.hid (Blk.new w 60 #[.slice A1 T.R.length c1,.slice A2 T.K.length c2,.slice A3 T.P.length c3])
 have h3:=hs.p
 obtain⟨n,en⟩:∃n,n=T.P.length:=⟨_,rfl⟩
 rw[←en] at h3 HK HB0
 rw[←eN] at HB0 HK hB
 have EN0:=Lib.hid eN;clear eN
 have HSZ:=Lib.hid (show ∀w1:World,Below N w w1→N≤w1.heap.size from fun w1 h=>by have:=h.size;have:=EN0.out;omega)
 have HR:=Lib.hid r3
 rw[←en]
 have EN:=Lib.hid en
 clear r1 r2 r3 hc1 hc2 hc3 hs en
 go_enter Tryz.func234,Tryz.ntmps234
 go_wp2
 obtain⟨W,eW⟩:∃W,W=w.alloc (.cells #[.slice A1 T.R.length c1,.slice A2 T.K.length c2,.slice A3 n c3] 60):=⟨_,rfl⟩
 rw[←eW] at HB0 HK⊢
 have hsz:W.heap.size=N+1:=by rw[eW,EN0.out];simp
 clear eW
 have HSW:=Lib.hid (show ∀w1:World,Below W.heap.size W w1→W.heap.size≤w1.heap.size from fun w1 h=>h.size)
 go_loopw [13] (fun iv wr=>∃i:Nat,i≤n∧iv = .int .i64 (i:Int)∧(∀k,k<i→isP a b (al T.P k)=false)∧Below W.heap.size W wr) (fun iv _=>n - (intOf iv).toNat)
 case atStart=>exact⟨0,Nat.zero_le _,rfl,fun k h=>absurd h (Nat.not_lt_zero k),Below.refl _ _⟩
 case round=>
  obtain⟨i,hi,rfl,hn,hb⟩:=hrel
  have HN:=Lib.hid hn;clear hn
  have HBW:=Lib.hid hb;clear hb
  have HB:=Lib.hid (HB0.out.trans (HBW.out.mono (HSZ.out _ HB0.out)))
  by_cases hlt:i<n
  ·have e1:(i:Int)<(n:Int):=by omega
   have e2:(0:Int)≤(i:Int):=by omega
   have him:i<T.P.length:=by rw[←EN.out];exact hlt
   obtain⟨b1,o,rfl,_,h1,h2,u,h3,h4⟩:=rda_at (HR.out.below (HB.out.mono hB)) him
   obtain⟨x,ex⟩:∃x,x=al T.P i:=⟨_,rfl⟩
   rw[←ex] at h1 h2 h4
   have EX:=Lib.hid ex;clear ex
   have h4':=h4
   obtain⟨A5,c5,eu,_⟩:=h4'
   subst eu
   obtain⟨k5,ek5⟩:∃k,k=x.v.length:=⟨_,rfl⟩
   rw[←ek5] at h3 h4
   have H4:=Lib.hid h4;clear h4 ek5
   have H:=Lib.hid ((Below.refl wr.heap.size wr).alloc (Nat.le_refl _) (.cells #[.string ⟨x.f.toArray⟩,.string ⟨x.t.toArray⟩,.slice A5 k5 c5] 273))
   have H1:=Lib.hid (HBW.out.trans (H.out.mono HBW.out.size))
   have H2:=Lib.hid (HB0.out.trans (H1.out.mono (HSZ.out _ HB0.out)))
   by_cases q1:x.f=a
   ·have t1:(x.f==a)=true:=by simpa using q1
    by_cases q2:x.t=b
    ·have t2:(x.t==b)=true:=by simpa using q2
     have E:=Lib.hid (laidb_yes (T:=T) (a:=a) (b:=b) him (by rw[←EX.out];exact isp_yes q1 q2) HN.out)
     rw[←EX.out] at E
     clear q1 q2 him
     go_wp2_with fail
     go_ret2
     exact⟨_,by rw[E.out.1];rfl,by rw[E.out.2];exact H4.out.below (H.out.mono (Nat.le_trans hB (HSZ.out _ HB.out))),by rw[←EN0.out];exact H2.out⟩
    ·have t2:(x.t==b)=false:=by simpa using q2
     have E:=Lib.hid (isp_no2 (a:=a) q2)
     rw[EX.out] at E
     clear q1 q2 him
     go_wp2_with fail
     go_roundw
     case rel=>exact⟨i+1,by omega,by go_num,fun k hk=>by
      by_cases q:k=i
      ·rw[q];exact E.out
      ·exact HN.out k (by omega),H1.out⟩
     case measure=>simp [intOf];omega
   ·have t1:(x.f==a)=false:=by simpa using q1
    have E:=Lib.hid (isp_no1 (b:=b) q1)
    rw[EX.out] at E
    clear q1 him
    go_wp2_with fail
    go_roundw
    case rel=>exact⟨i+1,by omega,by go_num,fun k hk=>by
     by_cases q:k=i
     ·rw[q];exact E.out
     ·exact HN.out k (by omega),H1.out⟩
    case measure=>simp [intOf];omega
  ·have e1:¬(i:Int)<(n:Int):=by omega
   have E:=Lib.hid (laidb_no (T:=T) (a:=a) (b:=b) fun k hk=>HN.out k (by have:=EN.out;omega))
   go_wp2
   go_ret2
   exact⟨_,by rw[E.out.1];rfl,by rw[E.out.2];exact⟨none,0,rfl,Nat.le_refl _,.inl rfl⟩,by rw[←EN0.out];exact HB.out⟩
end Go.Proofs.YtfcjeebnkigeaaaGreat.Rt
end

section
set_option linter.unusedVariables false
namespace Go.Proofs.YtfcjeebnkigeaaaGreat.Rt
open Go.RowKit Go.Proofs.YtfcjeebnkigeaaaGreat.Mem Go.Proofs.YtfcjeebnkigeaaaGreat.Nm
theorem run_make_strs (n:Nat) (hn:n≤1000000) (w:World) :
  ∃cs:Array Value,cs.size=n∧(Instr.makeSlice 56 (.int .i64 0) (.int .i64 (n:Int))).run Tryz.prog w = .ok (.slice (some ⟨w.heap.size,0,none⟩) 0 n) (w.alloc (.cells cs 9)):=by
 obtain⟨i0,hi0,hz0,hs0,hb0⟩:=info_parts str_info
 have h:=run_make (P:=Tryz.prog) w 56 9 i0 _ Tryz.underlying56 hi0 hz0 .i64 .i64 0 (n:Int) (by omega) (by omega) (by rw[hb0];omega) (by omega)
 refine⟨_,?_,h⟩
 rw[hs0,Int.toNat_natCast,Nat.mul_one,show(Value.string ⟨#[]⟩).cells=#[Value.string ⟨#[]⟩] from rfl]
 have e:=toList_madeCells_one (.string ⟨#[]⟩) n
 have:=congrArg List.length e
 simpa using this
theorem own_made (w:World) (cs:Array Value) (n:Nat) (h:cs.size=n) (hn:n≤1000000):Own (w.alloc (.cells cs 9)) w.heap.size (.slice (some ⟨w.heap.size,0,none⟩) 0 n) []:=
 World.ownsRow_made w cs n (Nat.le_refl _) (by unfold maxLen;omega) (by omega)
end Go.Proofs.YtfcjeebnkigeaaaGreat.Rt
end

section
set_option linter.unusedVariables false
set_option linter.unusedSimpArgs false
namespace Go.Proofs.YtfcjeebnkigeaaaGreat.Kd
open Go.RowKit Go.Proofs.YtfcjeebnkigeaaaGreat.Mem Go.Proofs.YtfcjeebnkigeaaaGreat.Nm Go.Proofs.YtfcjeebnkigeaaaGreat.Rt
set_option maxHeartbeats 1600000 in
set_option maxRecDepth 100000 in
theorem ctexts_any (V:List L) (A5:Option Addr) (c5:Nat) (w:World) (h1:V.length≤3000) (h2:∀x∈V,x.length≤3000) (hr:Rd w w.heap.size A5 (strs V)) :
  Calls Tryz.prog 148 #[.slice A5 V.length c5] w fun e w'=>∃u,e = .returned u∧Own w' w.heap.size u V∧Below w.heap.size w w':=by
 have CL:=Lib.hid (fun(i:Nat) (h:i<V.length) w1=>clone_any (pl V i) w1 (by have:=h2 _ (pl_mem h);omega))
 obtain⟨n,en⟩:∃n,n=V.length:=⟨_,rfl⟩
 rw[←en] at h1
 have EN:=Lib.hid en
 obtain⟨N,eN⟩:∃N,N=w.heap.size:=⟨_,rfl⟩
 rw[←eN] at hr⊢
 have HSZ:=Lib.hid (show ∀w1:World,Below N w w1→N≤w1.heap.size from fun w1 h=>by have:=h.size;omega)
 have HB:=Lib.hid (Below.refl N w)
 have MK:=Lib.hid (fun w1=>run_make_strs n (by omega) w1)
 obtain⟨cs,hcs,hmk⟩:=MK.out w
 have HO:=Lib.hid (eN▸own_made w cs n hcs (by omega):Own (w.alloc (.cells cs 9)) N (.slice (some ⟨w.heap.size,0,none⟩) 0 n) [])
 have HR:=Lib.hid (hr.alloc (HSZ.out _ HB.out) (.cells cs 9))
 replace HB:=Lib.hid (HB.out.alloc (HSZ.out _ HB.out) (.cells cs 9))
 rw[←en]
 clear h2 hr eN MK en
 go_enter Tryz.func148,Tryz.ntmps148
 go_wp2
 go_loopw [3,11] (fun ev iv wr=>∃i:Nat,i≤n∧iv = .int .i64 (i:Int)∧Own wr N ev (V.take i)∧Rd wr N A5 (strs V)∧Below N w wr) (fun _ iv _=>n - (intOf iv).toNat)
 case atStart=>exact⟨0,Nat.zero_le _,rfl,HO.out,HR.out,HB.out⟩
 case round=>
  obtain⟨i,hi,rfl,ho,hr,hb2⟩:=hrel
  have HO:=Lib.hid ho;clear ho
  have HRR:=Lib.hid hr;clear hr
  have HB2:=Lib.hid hb2;clear hb2
  by_cases hlt:i<n
  ·have e1:(i:Int)<(n:Int):=by omega
   have e2:(0:Int)≤(i:Int):=by omega
   have him:i<V.length:=by rw[←EN.out];exact hlt
   have c2:=CL.out i him
   have hst:=take_succ_pl him
   have HL:=Lib.hid (show(V.take i).length=i by simp;omega)
   have HST:=Lib.hid hst;clear hst him
   obtain⟨bx,o,rfl,_,h1⟩:=rd_txt HRR.out (i:=i) (by rw[←EN.out];exact hlt)
   go_wp2_with (first
    |(go_at_call 94;refine Calls.mono (c2 _) ?_;rintro e w3 ⟨rfl,hb⟩;clear c2;have H3:=Lib.hid (HB2.out.trans (hb.mono (HSZ.out _ HB2.out)));have HO3:=Lib.hid (HO.out.below hb);have HR3:=Lib.hid (HRR.out.below (hb.mono (HSZ.out _ HB2.out)));clear hb)
    |(at_builtin;refine app_one rfl (.tmp 15) (.tmp 18) rfl N _ (V.take i) rfl HO3.out (pl V i) rfl (by have:=HL.out;omega) (HSZ.out _ H3.out) ?_;intro v4 w4 ho4 hb4;rw[←HST.out] at ho4;have HO4:=Lib.hid ho4;have H4:=Lib.hid (H3.out.trans hb4);have HR4:=Lib.hid (HR3.out.below hb4);clear ho4 hb4))
   go_roundw
   case rel=>exact⟨i+1,by omega,by go_num,HO4.out,HR4.out,H4.out⟩
   case measure=>simp [intOf];omega
  ·have e1:¬(i:Int)<(n:Int):=by omega
   have hiP:V.length≤i:=by have:=EN.out;omega
   rw[List.take_of_length_le hiP] at HO
   go_wp2
   go_ret
   exact⟨_,rfl,HO.out,HB2.out⟩
end Go.Proofs.YtfcjeebnkigeaaaGreat.Kd
end
