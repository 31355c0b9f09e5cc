/-
  The statement of RingPlays: the walk's contract carried to the row: for every input the call answers true, and each argument reads as it did.
-/
import Derived.Deep.LoopGhost
import Derived.Deep.RegionHeld3
import Derived.Test.YtcjibpjdfhhhkaaGreatRows
import Derived.WalkKit
import Derived.ProofKit
import Derived.OpenShut
import Derived.ShutString
import Derived.ChangeOld
import Derived.Below
import Derived.SizedLaws
import Derived.Test.YtcjibpjdfhhhkaaGreatZRingPlays1
import Derived.Test.YtcjibpjdfhhhkaaGreatZRingPlays2
import Derived.Test.YtcjibpjdfhhhkaaGreatZRingPlays3
import Derived.Test.YtcjibpjdfhhhkaaGreatZRingPlays4
import Derived.Test.YtcjibpjdfhhhkaaGreatZRingPlays5
import Derived.Test.YtcjibpjdfhhhkaaGreatZRingPlays6
import Derived.Test.YtcjibpjdfhhhkaaGreatZRingPlays7
import Derived.Test.YtcjibpjdfhhhkaaGreatZRingPlays8
import Derived.Test.YtcjibpjdfhhhkaaGreatZRingPlays9
import Derived.Test.YtcjibpjdfhhhkaaGreatZRingPlays10
import Derived.Test.YtcjibpjdfhhhkaaGreatZRingPlays11
import Derived.Test.YtcjibpjdfhhhkaaGreatZRingPlays12
import Derived.Test.YtcjibpjdfhhhkaaGreatZRingPlays13
section
set_option linter.unusedVariables false
set_option linter.unusedSimpArgs false
namespace Go.Proofs.YtcjibpjdfhhhkaaGreat.Rg
open Go.RowKit Go.Proofs.YtcjibpjdfhhhkaaGreat.Mem Go.Proofs.YtcjibpjdfhhhkaaGreat.Se Go.Proofs.YtcjibpjdfhhhkaaGreat.OpenQ

set_option maxRecDepth 100000 in
set_option maxHeartbeats 12800000 in
theorem plays (A : Option Addr) (l : List Ac) (c : Nat) (w : World) (hr : RdAc w w.heap.size A l) (hz : ∀ (i : Nat) (x : Ac), l[i]? = some x → x.p.1.length ≤ 140737488351232 ∧ x.p.2.length ≤ 140737488351232) :
    Calls Tryz.prog 3 #[.slice A l.length c] w fun e w' => e = .returned (.bool true) ∧ Below w.heap.size w w' := by
  have CLG := Lib.hid (long_any A l c w hr hz)
  obtain ⟨B, eB⟩ : ∃ B, B = w.heap.size := ⟨_, rfl⟩
  have EB := Lib.hid eB
  rw [← eB] at hr
  have HR := Lib.hid hr
  obtain ⟨n, en⟩ : ∃ n, n = l.length := ⟨_, rfl⟩
  rw [← en] at CLG ⊢
  have EN := Lib.hid en
  have CK := Lib.hid (fun w1 => rknown_any w1)
  clear hr hz en eB
  go_enter Tryz.func3, Tryz.ntmps3
  go_upto_region 1 with fail
  go_upto_if 32 with (go_at_call 5; refine Calls.mono CLG.out ?_; rintro e w1 ⟨bl, rfl, hbl, hb⟩; have HBL := Lib.hid hbl; have HB0 := Lib.hid (EB.out ▸ hb : Below B w w1); have c2 := ring_new B w1 (Nat.le_trans (Nat.le_of_eq EB.out) hb.size); clear hb hbl CLG)
  cases bl with
  | true =>
    clear c2 HBL
    go_wp2
    go_ret
    exact ⟨rfl, by have h := HB0.out; rw [EB.out] at h; exact h⟩
  | false =>
    have HSM := Lib.hid (HBL.out rfl)
    clear HBL
    go_wp2_with (first
      | (go_at_call 6; refine Calls.mono c2 ?_; rintro e w2 ⟨r, rfl, hr, hrg, hb⟩; clear c2; have HRG0 := Lib.hid hrg; have HB1 := Lib.hid (HB0.out.trans (hb.mono (Nat.le_trans (Nat.le_of_eq EB.out) HB0.out.size))); clear hb hr hrg)
      | fail)
    have hal := (Below.refl w2.heap.size w2).alloc (Nat.le_refl _) (.cells #[.slice none 0 0] 29)
    have hqb : B ≤ w2.heap.size := (Nat.le_trans (Nat.le_of_eq EB.out) HB1.out.size)
    have hdr : DRing (w2.alloc (.cells #[.slice none 0 0] 29)) B w2.heap.size (.slice none 0 0) [] := ⟨Blk.new w2 _ _, World.ownsRow_nil _ _ _ _, hqb, by simp [Value.ownBlock]⟩
    have HRG := Lib.hid (HRG0.out.below hal)
    have HB := Lib.hid (HB1.out.trans (hal.mono hqb))
    have hap : Ap r (.slice none 0 0) [] w2.heap.size (.slice none 0 0) := fun k hk x => by
      have h1 := nil_ro x
      have h2 := HRG0.out.lt
      rcases hk with hk | hk
      · omega
      · cases hk
    obtain ⟨W3, eW3⟩ : ∃ W3, W3 = w2.alloc (.cells #[.slice none 0 0] 29) := ⟨_, rfl⟩
    obtain ⟨q, eq⟩ : ∃ q, q = w2.heap.size := ⟨_, rfl⟩
    rw [← eW3] at HRG HB hdr ⊢
    rw [← eq] at hdr hap ⊢
    have HD := Lib.hid hdr; have HAP := Lib.hid hap
    clear hdr hap hal hqb eW3 eq HRG0 HB1 HB0
    go_loopw [5] (fun iv wr => ∃ (i : Nat) (v dv : Value) (es : List Ent), i ≤ n ∧ i ≤ 60 ∧ iv = .int .i64 (i : Int) ∧ Below B w wr ∧ Ring wr B r v es ∧ DRing wr B q dv (its es) ∧ Ap r v es q dv ∧ Num (its es) ∧ es.length ≤ 40 ∧ Ct es i) (fun iv _ => n - (intOf iv).toNat)
    case atStart => exact ⟨0, _, _, [], Nat.zero_le _, Nat.zero_le _, rfl, HB.out, HRG.out, HD.out, HAP.out, num_nil, by simp, fun j e he => by simp at he⟩
    case round =>
      clear HB HRG HD HAP
      obtain ⟨i, v, dv, es, hi, hi6, rfl, hb, hr, hd, hap, hnum, hle, hct⟩ := hrel
      have HB := Lib.hid hb; have HRG := Lib.hid hr; have HD := Lib.hid hd; have HAP := Lib.hid hap; have HNUM := Lib.hid hnum; have HLE := Lib.hid hle; have HCT := Lib.hid hct
      clear hb hr hd hap hnum hle hct
      by_cases hlt : i < n
      · have e1 : decide ((i : Int) < (n : Int)) = true := by simp; omega
        have f1 : (i : Int) < (n : Int) := by omega
        by_cases h6 : i < 60
        · have e2 : decide ((i : Int) < 60) = true := by simp; omega
          have f2 : (0 : Int) ≤ (i : Int) := by omega
          have f3 : (i : Int) < 60 := by omega
          obtain ⟨x, hx⟩ : ∃ x, l[i]? = some x := ⟨l[i]'(by rw [← EN.out]; exact hlt), List.getElem?_eq_getElem _⟩
          obtain ⟨ga, oa, rfl, hga, hra⟩ := HR.out.at_ hx
          obtain ⟨acs, eas⟩ : ∃ acs, acs = aA x := ⟨_, rfl⟩
          have EAS := Lib.hid eas
          have HRA := Lib.hid (show wr.rangeAt ga (oa + i * 36) acs.toList by rw [eas, aA_toList]; exact fun j u hu => (HB.out.cell (p := ⟨ga, _, none⟩) hga).trans (hra j u hu))
          have HASS := Lib.hid (show acs.size = 36 by rw [eas]; exact aA_size x)
          have HASI := Lib.hid (show (Tryz.prog.info? 35).map (·.size) = some acs.size by rw [HASS.out]; exact ac_info)
          have HAS1 := Lib.hid (show acs.all (·.oneCell') = true by rw [eas]; exact aA_one x)
          obtain ⟨ka, eka⟩ : ∃ ka, ka = key32 x.y := ⟨_, rfl⟩
          have EKA := Lib.hid eka
          have HKAI := Lib.hid (show (Tryz.prog.info? 33).map (·.size) = some ka.size by rw [eka]; exact info32 _)
          have HS1 := Lib.hid (show x.p.1.length ≤ 1000000000 by have := (HSM.out i x h6 hx).1; omega)
          have HS2 := Lib.hid (show x.p.2.length ≤ 1000000000 by have := (HSM.out i x h6 hx).2; omega)
          have HPN := Lib.hid (Nat.lt_of_le_of_lt (Nat.zero_le i) hlt)
          clear hra hx eas eka
          go_upto_region 10 with (first
            | (refine Wh.load_g (by rfl) 35 (.tmp 50) (by rfl) ga _ (by rfl) acs _ HRA.out Tryz.underlying35 (by rfl) HASI.out ?_)
            | (refine Wh.store_new (by rfl) 35 (.tmp 6) (.tmp 51) (by rfl) 35 rfl acs (by rfl) (by rfl) (by rw [HASS.out]; rfl) HASI.out HAS1.out ?_; rintro W1 hW1 hb; have HPB := Lib.hid (EAS.out ▸ hW1); have HNP := Lib.hid (show ¬ RO r v es wr.heap.size from fun x => by have := HRG.out.own_lt x; omega); have HNDP := Lib.hid (show ¬ DO q dv wr.heap.size from fun x => by have := HD.out.own_lt x; omega); replace HB := Lib.hid (HB.out.trans (hb.mono (Nat.le_trans (Nat.le_of_eq EB.out) HB.out.size))); replace HRG := Lib.hid (HRG.out.below hb); replace HD := Lib.hid (HD.out.below hb); have HA1 := Lib.hid (aA_p HPB.out); have HA3 := Lib.hid (EKA.out ▸ aA_k HPB.out); have ka0 := aA_0 HPB.out; have ka35 := aA_35 HPB.out; clear hb hW1)
            | fail)
          go_upto_block 2 with fail
          go_cut [7, 8, 9, 10, 11, 12, 13, 14, 15, 16, 17, 18, 19, 20, 21, 22, 23, 24, 25, 26, 27, 28] from 52 to 191 (fun s7 s8 s9 s10 s11 s12 s13 s14 s15 s16 s17 s18 s19 s20 s21 s22 s23 s24 s25 s26 s27 s28 wx => ∃ (v4 dv4 : Value) (es4 : List Ent), Below B w wx ∧ Ring wx B r v4 es4 ∧ DRing wx B q dv4 (its es4) ∧ Ap r v4 es4 q dv4 ∧ Num (its es4) ∧ es4.length ≤ 40 ∧ Ct es4 (i + 1))
          case first =>
            by_cases k1 : x.k = 1
            · have hq1 : x.k = 1 := k1
              rw [k1] at ka0
              clear hq1
              go_wp2_with (first
                | (refine Wh.load_g (by rfl) 31 (.tmp 114) (by rfl) wr.heap.size 1 (by rfl) _ _ HA1.out Tryz.underlying31 (by rfl) pr_info ?_)
                | (refine Wh.load_g (by rfl) 33 (.tmp 116) (by rfl) wr.heap.size 3 (by rfl) ka _ HA3.out Tryz.underlying33 (by rfl) HKAI.out ?_)
                | (go_at_call 7; refine Calls.mono (add_any B r v es x.p x.y _ HRG.out (Nat.le_trans (Nat.le_of_eq EB.out) HB.out.size) HS1.out HS2.out HLE.out HNUM.out |> fun h => EKA.out ▸ h) ?_; rintro e w2 ⟨rfl, v2, es2, hrg, hes, hct, hc, hnw⟩; have hpb := blk_add HPB.out HNP.out hc; have hnp := not_add HPB.out.lt HNP.out hnw; have hd2 := doc_add HAP.out HD.out hc; have hap := ap_code HAP.out HD.out hnw; replace HB := Lib.hid (ring_below HB.out (Nat.le_trans (Nat.le_of_eq EB.out) HB.out.size) HRG.out hc); clear HPB HRG HD HAP HNP HA1 HA3 ka0 ka35; have HPB := Lib.hid hpb; have HRG := Lib.hid hrg; have HD := Lib.hid hd2; have HAP := Lib.hid hap; have HNP := Lib.hid hnp; have HES2 := Lib.hid hes; have HCT2 := Lib.hid (ct_add HCT.out hct); have HA1 := Lib.hid (aA_p HPB.out); have HA3 := Lib.hid (EKA.out ▸ aA_k HPB.out); have ka0 := aA_0 HPB.out; have ka35 := aA_35 HPB.out; clear hpb hrg hd2 hap hnp hes hct hc hnw)
                | (refine Wh.load_g (by rfl) 31 (.tmp 123) (by rfl) wr.heap.size 1 (by rfl) _ _ HA1.out Tryz.underlying31 (by rfl) pr_info ?_)
                | (refine Wh.load_g (by rfl) 33 (.tmp 125) (by rfl) wr.heap.size 3 (by rfl) ka _ HA3.out Tryz.underlying33 (by rfl) HKAI.out ?_)
                | (go_at_call 8; refine Calls.mono (dadd_any B q dv (its es) x.p x.y _ HD.out (Nat.le_trans (Nat.le_of_eq EB.out) HB.out.size) HS1.out HS2.out (by rw [its_length]; exact HLE.out) HNUM.out |> fun h => EKA.out ▸ h) ?_; rintro e w3 ⟨rfl, dv3, hd3, hc, hnw⟩; have hr3 := code_add HAP.out HRG.out hc; have hap := ap_doc HAP.out HRG.out hnw; replace HB := Lib.hid (below_doc HB.out (Nat.le_trans (Nat.le_of_eq EB.out) HB.out.size) HD.out hc); clear HRG HD HAP HPB HNP HNDP HA1 HA3 ka0 ka35; have HRG := Lib.hid hr3; have HD := Lib.hid (HES2.out ▸ hd3); have HAP := Lib.hid hap; clear hr3 hd3 hap hc hnw)
                | fail)
              have hnum2 := add_num HNUM.out x.p x.y
              have hle2 := add_len x.p x.y (by rw [its_length]; exact HLE.out : (its es).length ≤ 40)
              rw [← HES2.out] at hnum2 hle2
              rw [its_length] at hle2
              have HLE2 := Lib.hid hle2; have HNUM2 := Lib.hid hnum2
              clear hle2 hnum2
              go_meet
              exact ⟨v2, dv3, es2, HB.out, HRG.out, HD.out, HAP.out, HNUM2.out, HLE2.out, HCT2.out⟩
            · by_cases k2 : x.k = 2
              · rw [k2] at ka0
                cases hf : firstI (its es) x.p x.n with
                | some i2 =>
                  obtain ⟨y2, hy2, hyp2, hyn2⟩ := first_some hf
                  obtain ⟨e2, he2, hye2⟩ := its_of hy2
                  have hbk : boxK (its es) x.p x.n = e2.it.k := by unfold boxK; rw [hf]; simp only [hy2, hye2]
                  have hbe : boxE (its es) x.p x.n = 0 := by unfold boxE; rw [hf]; rfl
                  have HF := Lib.hid hf; have HE2 := Lib.hid he2; have HBK := Lib.hid hbk; have HBE := Lib.hid hbe; have HNE := Lib.hid (show (e2.it.n : Int) = x.n by rw [hye2]; exact hyn2)
                  have HA2 := Lib.hid (show e2.a < 1000000 by have := (HCT.out i2 e2 he2).1; omega)
                  have HCT2 := Lib.hid (ct_more HCT.out)
                  clear hf he2 hbk hbe hy2 hye2 hyp2 hyn2
                  obtain ⟨kz, ekz⟩ : ∃ kz, kz = key32 e2.it.k := ⟨_, rfl⟩
                  have EKZ := Lib.hid ekz
                  have HKZ1 := Lib.hid (show (Tryz.prog.info? 33).map (·.size) = some kz.size by rw [ekz]; exact info32 _)
                  have HKZ2 := Lib.hid (show kz.size = 32 by rw [ekz]; exact key32_size _)
                  have HKZ3 := Lib.hid (show kz.all (·.oneCell') = true by rw [ekz]; exact one32 _)
                  clear ekz
                  have kc := fun (w : World) (C : Array Value) (n c : Nat) => Lib.run_convert_bytes_const (P := Tryz.prog) w 46 5 C n c Tryz.underlying46 Tryz.underlying5
                  obtain ⟨SL, esl⟩ : ∃ SL, SL = sealL e2.it.k 1 2 [120] := ⟨_, rfl⟩
                  have ESL := Lib.hid esl
                  clear esl
                  go_wp2_with (first
                    | (refine Wh.load_g (by rfl) 31 (.tmp 142) (by rfl) wr.heap.size 1 (by rfl) _ _ HA1.out Tryz.underlying31 (by rfl) pr_info ?_)
                    | (go_at_call 9; refine Calls.mono (box_hit HRG.out (by have := HLE.out; omega) HF.out HE2.out) ?_; rintro e w4 ⟨rfl, hb⟩; replace HB := Lib.hid (HB.out.trans (hb.mono (Nat.le_trans (Nat.le_of_eq EB.out) HB.out.size))); replace HRG := Lib.hid (HRG.out.below hb); replace HD := Lib.hid (HD.out.below hb); replace HPB := Lib.hid (HPB.out.below hb); clear HA1 HA3 ka0 ka35 ; have HA1 := Lib.hid (aA_p HPB.out); have HA3 := Lib.hid (EKA.out ▸ aA_k HPB.out); have ka0 := aA_0 HPB.out; have ka35 := aA_35 HPB.out; clear hb)
                    | (refine Wh.load_g (by rfl) 31 (.tmp 151) (by rfl) wr.heap.size 1 (by rfl) _ _ HA1.out Tryz.underlying31 (by rfl) pr_info ?_)
                    | (go_at_call 10; refine Calls.mono (dbox_any B q dv (its es) x.p x.n _ HD.out (by rw [its_length]; have := HLE.out; omega)) ?_; rw [HBK.out, HBE.out, ← EKZ.out]; rintro e w5 ⟨rfl, hb⟩; replace HB := Lib.hid (HB.out.trans (hb.mono (Nat.le_trans (Nat.le_of_eq EB.out) HB.out.size))); replace HRG := Lib.hid (HRG.out.below hb); replace HD := Lib.hid (HD.out.below hb); clear hb HPB HNP HNDP HA1 HA3 ka0 ka35)
                    | (refine Wh.store_new (by rfl) 33 (.tmp 13) (.tmp 156) (by rfl) 33 rfl kz (by rfl) (by rfl) (by rw [HKZ2.out]; rfl) HKZ1.out HKZ3.out ?_; rintro W6 hW6 hb; have HK := Lib.hid hW6; have HNK := Lib.hid (show ¬ RO r v es w5.heap.size from fun y => by have := HRG.out.own_lt y; omega); replace HB := Lib.hid (HB.out.trans (hb.mono (Nat.le_trans (Nat.le_of_eq EB.out) HB.out.size))); replace HRG := Lib.hid (HRG.out.below hb); replace HD := Lib.hid (HD.out.below hb); clear hb hW6)
                    | (go_at_call 11; have cs := ring_seal1 HRG.out HE2.out HA2.out (Nat.le_trans (Nat.le_of_eq EB.out) HB.out.size) 120; rw [← ESL.out] at cs; refine Calls.mono cs ?_; clear cs; rintro e w7 ⟨A2, c2, h7, a7, rfl, x1, x2, x3, x4, x5⟩; have hd2 := doc_use HAP.out HD.out HE2.out x4; have hap := ap_code HAP.out HD.out x5; have hk2 := x4.blk HK.out (fun y => HNK.out (ow_ro HE2.out y)); replace HB := Lib.hid (HB.out.trans (x4.below (Nat.le_trans (Nat.le_of_eq EB.out) HB.out.size) (fun k _ hk => HRG.out.own_lo (ow_ro HE2.out hk)))); clear HRG HD HAP HK HNK; have HRG := Lib.hid x2; have HD := Lib.hid hd2; have HAP := Lib.hid hap; have HK := Lib.hid hk2; have HZ := Lib.hid x1; have HA7 := Lib.hid x3; have cd := dseal1 e2.it.k 120 w7; rw [← EKZ.out, ← ESL.out] at cd; clear x1 x2 x3 x4 x5 hd2 hap hk2)
                    | (refine Wh.load_g (by rfl) 33 (.tmp 13) (by rfl) w5.heap.size 0 (by rfl) kz _ (Wh.range_at (pre := []) (post := []) HK.out (by simp) 0 rfl) Tryz.underlying33 (by rfl) HKZ1.out ?_)
                    | (go_at_call 12; refine Calls.mono cd ?_; rintro e w8 ⟨A3, c3, rfl, x6, x7⟩; clear cd; have hz8 := rda_below HZ.out x7; have hv1 := run_bytes_str (P := Tryz.prog) w8 46 5 Tryz.underlying46 Tryz.underlying5 hz8.rd _ c2 rfl 9 Tryz.underlying9; have hv2 := run_bytes_str (P := Tryz.prog) w8 46 5 Tryz.underlying46 Tryz.underlying5 x6 _ c3 rfl 9 Tryz.underlying9; replace HB := Lib.hid (HB.out.trans (x7.mono (Nat.le_trans (Nat.le_of_eq EB.out) HB.out.size))); replace HRG := Lib.hid (HRG.out.below x7); replace HD := Lib.hid (HD.out.below x7); clear x6 x7 hz8 HZ HK)
                    | fail)
                  clear hv1 hv2 kc
                  have hits := its_set HE2.out h7 a7 e2.o e2.r
                  obtain ⟨es2, ees⟩ : ∃ es2, es2 = es.set i2 ⟨e2.it, e2.b, h7, a7, e2.o, e2.r⟩ := ⟨_, rfl⟩
                  have HCT3 := Lib.hid (ees ▸ ct_use HCT.out HE2.out HA7.out (h' := h7))
                  rw [← ees] at hits HRG HAP
                  replace HD : Hid (DRing w8 B q dv (its es2)) := Lib.hid (by rw [hits]; exact HD.out)
                  have HNUM2 := Lib.hid (show Num (its es2) by rw [hits]; exact HNUM.out)
                  have HLE2 := Lib.hid (show es2.length ≤ 40 by rw [ees, List.length_set]; exact HLE.out)
                  clear ees hits
                  go_meet
                  exact ⟨v, dv, es2, HB.out, HRG.out, HD.out, HAP.out, HNUM2.out, HLE2.out, HCT3.out⟩
                | none =>
                  have hbk : boxK (its es) x.p x.n = zeroK := by unfold boxK; rw [hf]
                  have hbe : boxE (its es) x.p x.n = 4 := by unfold boxE; rw [hf]; rfl
                  have HF := Lib.hid hf; have HBK := Lib.hid hbk; have HBE := Lib.hid hbe
                  have HCT2 := Lib.hid (ct_more HCT.out)
                  clear hf hbk hbe
                  obtain ⟨kz, ekz⟩ : ∃ kz, kz = key32 zeroK := ⟨_, rfl⟩
                  have EKZ := Lib.hid ekz
                  have HKZ1 := Lib.hid (show (Tryz.prog.info? 33).map (·.size) = some kz.size by rw [ekz]; exact info32 _)
                  have HKZ2 := Lib.hid (show kz.size = 32 by rw [ekz]; exact key32_size _)
                  have HKZ3 := Lib.hid (show kz.all (·.oneCell') = true by rw [ekz]; exact one32 _)
                  clear ekz
                  go_wp2_with (first
                    | (refine Wh.load_g (by rfl) 31 (.tmp 142) (by rfl) wr.heap.size 1 (by rfl) _ _ HA1.out Tryz.underlying31 (by rfl) pr_info ?_)
                    | (go_at_call 9; refine Calls.mono (box_miss HRG.out (by have := HLE.out; omega) HF.out) ?_; rintro e w4 ⟨rfl, hb⟩; replace HB := Lib.hid (HB.out.trans (hb.mono (Nat.le_trans (Nat.le_of_eq EB.out) HB.out.size))); replace HRG := Lib.hid (HRG.out.below hb); replace HD := Lib.hid (HD.out.below hb); replace HPB := Lib.hid (HPB.out.below hb); clear HA1 HA3 ka0 ka35 ; have HA1 := Lib.hid (aA_p HPB.out); have HA3 := Lib.hid (EKA.out ▸ aA_k HPB.out); have ka0 := aA_0 HPB.out; have ka35 := aA_35 HPB.out; clear hb)
                    | (refine Wh.load_g (by rfl) 31 (.tmp 151) (by rfl) wr.heap.size 1 (by rfl) _ _ HA1.out Tryz.underlying31 (by rfl) pr_info ?_)
                    | (go_at_call 10; refine Calls.mono (dbox_any B q dv (its es) x.p x.n _ HD.out (by rw [its_length]; have := HLE.out; omega)) ?_; rw [HBK.out, HBE.out, ← EKZ.out]; rintro e w5 ⟨rfl, hb⟩; replace HB := Lib.hid (HB.out.trans (hb.mono (Nat.le_trans (Nat.le_of_eq EB.out) HB.out.size))); replace HRG := Lib.hid (HRG.out.below hb); replace HD := Lib.hid (HD.out.below hb); clear hb HPB HNP HNDP HA1 HA3 ka0 ka35)
                    | (refine Wh.store_new (by rfl) 33 (.tmp 13) (.tmp 156) (by rfl) 33 rfl kz (by rfl) (by rfl) (by rw [HKZ2.out]; rfl) HKZ1.out HKZ3.out ?_; rintro W6 hW6 hb; replace HB := Lib.hid (HB.out.trans (hb.mono (Nat.le_trans (Nat.le_of_eq EB.out) HB.out.size))); replace HRG := Lib.hid (HRG.out.below hb); replace HD := Lib.hid (HD.out.below hb); clear hb hW6)
                    | fail)
                  go_meet
                  exact ⟨v, dv, es, HB.out, HRG.out, HD.out, HAP.out, HNUM.out, HLE.out, HCT2.out⟩
              · cases hf : firstI (its es) x.p (lastN (its es) x.p : Int) with
                | some i2 =>
                  obtain ⟨y2, hy2, hyp2, hyn2⟩ := first_some hf
                  obtain ⟨e2, he2, hye2⟩ := its_of hy2
                  have HL := Lib.hid ((first_last HNUM.out x.p).symm.trans hf)
                  have HF := Lib.hid hf; have HE2 := Lib.hid he2; have HNE := Lib.hid (show (e2.it.n : Int) = (lastN (its es) x.p : Int) by rw [hye2]; exact hyn2)
                  have HA2 := Lib.hid (show e2.a < 1000000 by have := (HCT.out i2 e2 he2).1; omega)
                  have HCT2 := Lib.hid (ct_more HCT.out)
                  clear hf he2 hy2 hye2 hyp2 hyn2
                  obtain ⟨kz, ekz⟩ : ∃ kz, kz = key32 e2.it.k := ⟨_, rfl⟩
                  have EKZ := Lib.hid ekz
                  have HKZ1 := Lib.hid (show (Tryz.prog.info? 33).map (·.size) = some kz.size by rw [ekz]; exact info32 _)
                  have HKZ2 := Lib.hid (show kz.size = 32 by rw [ekz]; exact key32_size _)
                  have HKZ3 := Lib.hid (show kz.all (·.oneCell') = true by rw [ekz]; exact one32 _)
                  clear ekz
                  have kc := fun (w : World) (C : Array Value) (n c : Nat) => Lib.run_convert_bytes_const (P := Tryz.prog) w 46 5 C n c Tryz.underlying46 Tryz.underlying5
                  obtain ⟨SL, esl⟩ : ∃ SL, SL = sealL e2.it.k 1 2 [121] := ⟨_, rfl⟩
                  have ESL := Lib.hid esl
                  clear esl
                  go_wp2_with (first
                    | (refine Wh.load_g (by rfl) 31 (.tmp 56) (by rfl) wr.heap.size 1 (by rfl) _ _ HA1.out Tryz.underlying31 (by rfl) pr_info ?_)
                    | (go_at_call 13; refine Calls.mono (lastp_hit HRG.out (by have := HLE.out; omega) HL.out HE2.out) ?_; rw [HNE.out]; rintro e w4 ⟨rfl, hb⟩; replace HB := Lib.hid (HB.out.trans (hb.mono (Nat.le_trans (Nat.le_of_eq EB.out) HB.out.size))); replace HRG := Lib.hid (HRG.out.below hb); replace HD := Lib.hid (HD.out.below hb); replace HPB := Lib.hid (HPB.out.below hb); clear HA1 HA3 ka0 ka35 ; have HA1 := Lib.hid (aA_p HPB.out); have HA3 := Lib.hid (EKA.out ▸ aA_k HPB.out); have ka0 := aA_0 HPB.out; have ka35 := aA_35 HPB.out; clear hb)
                    | (refine Wh.load_g (by rfl) 31 (.tmp 64) (by rfl) wr.heap.size 1 (by rfl) _ _ HA1.out Tryz.underlying31 (by rfl) pr_info ?_)
                    | (refine Wh.load_g (by rfl) 31 (.tmp 65) (by rfl) wr.heap.size 1 (by rfl) _ _ HA1.out Tryz.underlying31 (by rfl) pr_info ?_)
                    | (go_at_call 14; refine Calls.mono (dlastp_hit HF.out (its_at HE2.out) HD.out (by rw [its_length]; have := HLE.out; omega)) ?_; rw [← EKZ.out]; rintro e w5 ⟨rfl, hb⟩; replace HB := Lib.hid (HB.out.trans (hb.mono (Nat.le_trans (Nat.le_of_eq EB.out) HB.out.size))); replace HRG := Lib.hid (HRG.out.below hb); replace HD := Lib.hid (HD.out.below hb); clear hb HPB HNP HNDP HA1 HA3 ka0 ka35)
                    | (refine Wh.store_new (by rfl) 33 (.tmp 22) (.tmp 67) (by rfl) 33 rfl kz (by rfl) (by rfl) (by rw [HKZ2.out]; rfl) HKZ1.out HKZ3.out ?_; rintro W6 hW6 hb; have HK := Lib.hid hW6; have HNK := Lib.hid (show ¬ RO r v es w5.heap.size from fun y => by have := HRG.out.own_lt y; omega); replace HB := Lib.hid (HB.out.trans (hb.mono (Nat.le_trans (Nat.le_of_eq EB.out) HB.out.size))); replace HRG := Lib.hid (HRG.out.below hb); replace HD := Lib.hid (HD.out.below hb); clear hb hW6)
                    | (go_at_call 11; have cs := ring_seal1 HRG.out HE2.out HA2.out (Nat.le_trans (Nat.le_of_eq EB.out) HB.out.size) 121; rw [← ESL.out] at cs; refine Calls.mono cs ?_; clear cs; rintro e w7 ⟨A2, c2, h7, a7, rfl, x1, x2, x3, x4, x5⟩; have hd2 := doc_use HAP.out HD.out HE2.out x4; have hap := ap_code HAP.out HD.out x5; have hk2 := x4.blk HK.out (fun y => HNK.out (ow_ro HE2.out y)); replace HB := Lib.hid (HB.out.trans (x4.below (Nat.le_trans (Nat.le_of_eq EB.out) HB.out.size) (fun k _ hk => HRG.out.own_lo (ow_ro HE2.out hk)))); clear HRG HD HAP HK HNK; have HRG := Lib.hid x2; have HD := Lib.hid hd2; have HAP := Lib.hid hap; have HK := Lib.hid hk2; have HZ := Lib.hid x1; have HA7 := Lib.hid x3; have cd := dseal1 e2.it.k 121 w7; rw [← EKZ.out, ← ESL.out] at cd; clear x1 x2 x3 x4 x5 hd2 hap hk2)
                    | (refine Wh.load_g (by rfl) 33 (.tmp 22) (by rfl) w5.heap.size 0 (by rfl) kz _ (Wh.range_at (pre := []) (post := []) HK.out (by simp) 0 rfl) Tryz.underlying33 (by rfl) HKZ1.out ?_)
                    | (go_at_call 12; refine Calls.mono cd ?_; rintro e w8 ⟨A3, c3, rfl, x6, x7⟩; clear cd; have hz8 := rda_below HZ.out x7; have hv1 := run_bytes_str (P := Tryz.prog) w8 46 5 Tryz.underlying46 Tryz.underlying5 hz8.rd _ c2 rfl 9 Tryz.underlying9; have hv2 := run_bytes_str (P := Tryz.prog) w8 46 5 Tryz.underlying46 Tryz.underlying5 x6 _ c3 rfl 9 Tryz.underlying9; replace HB := Lib.hid (HB.out.trans (x7.mono (Nat.le_trans (Nat.le_of_eq EB.out) HB.out.size))); replace HRG := Lib.hid (HRG.out.below x7); replace HD := Lib.hid (HD.out.below x7); clear x6 x7 hz8 HZ HK)
                    | fail)
                  clear hv1 hv2 kc
                  have hits := its_set HE2.out h7 a7 e2.o e2.r
                  obtain ⟨es2, ees⟩ : ∃ es2, es2 = es.set i2 ⟨e2.it, e2.b, h7, a7, e2.o, e2.r⟩ := ⟨_, rfl⟩
                  have HCT3 := Lib.hid (ees ▸ ct_use HCT.out HE2.out HA7.out (h' := h7))
                  rw [← ees] at hits HRG HAP
                  replace HD : Hid (DRing w8 B q dv (its es2)) := Lib.hid (by rw [hits]; exact HD.out)
                  have HNUM2 := Lib.hid (show Num (its es2) by rw [hits]; exact HNUM.out)
                  have HLE2 := Lib.hid (show es2.length ≤ 40 by rw [ees, List.length_set]; exact HLE.out)
                  clear ees hits
                  go_meet
                  exact ⟨v, dv, es2, HB.out, HRG.out, HD.out, HAP.out, HNUM2.out, HLE2.out, HCT3.out⟩
                | none =>
                  have HL := Lib.hid ((first_last HNUM.out x.p).symm.trans hf)
                  have HF := Lib.hid hf
                  have HCT2 := Lib.hid (ct_more HCT.out)
                  clear hf
                  obtain ⟨kz, ekz⟩ : ∃ kz, kz = key32 zeroK := ⟨_, rfl⟩
                  have EKZ := Lib.hid ekz
                  have HKZ1 := Lib.hid (show (Tryz.prog.info? 33).map (·.size) = some kz.size by rw [ekz]; exact info32 _)
                  have HKZ2 := Lib.hid (show kz.size = 32 by rw [ekz]; exact key32_size _)
                  have HKZ3 := Lib.hid (show kz.all (·.oneCell') = true by rw [ekz]; exact one32 _)
                  clear ekz
                  go_wp2_with (first
                    | (refine Wh.load_g (by rfl) 31 (.tmp 56) (by rfl) wr.heap.size 1 (by rfl) _ _ HA1.out Tryz.underlying31 (by rfl) pr_info ?_)
                    | (go_at_call 13; refine Calls.mono (lastp_miss HRG.out (by have := HLE.out; omega) HL.out) ?_; rintro e w4 ⟨rfl, hb⟩; replace HB := Lib.hid (HB.out.trans (hb.mono (Nat.le_trans (Nat.le_of_eq EB.out) HB.out.size))); replace HRG := Lib.hid (HRG.out.below hb); replace HD := Lib.hid (HD.out.below hb); replace HPB := Lib.hid (HPB.out.below hb); clear HA1 HA3 ka0 ka35 ; have HA1 := Lib.hid (aA_p HPB.out); have HA3 := Lib.hid (EKA.out ▸ aA_k HPB.out); have ka0 := aA_0 HPB.out; have ka35 := aA_35 HPB.out; clear hb)
                    | (refine Wh.load_g (by rfl) 31 (.tmp 64) (by rfl) wr.heap.size 1 (by rfl) _ _ HA1.out Tryz.underlying31 (by rfl) pr_info ?_)
                    | (refine Wh.load_g (by rfl) 31 (.tmp 65) (by rfl) wr.heap.size 1 (by rfl) _ _ HA1.out Tryz.underlying31 (by rfl) pr_info ?_)
                    | (go_at_call 14; refine Calls.mono (dlastp_miss HF.out HD.out (by rw [its_length]; have := HLE.out; omega)) ?_; rw [← EKZ.out]; rintro e w5 ⟨rfl, hb⟩; replace HB := Lib.hid (HB.out.trans (hb.mono (Nat.le_trans (Nat.le_of_eq EB.out) HB.out.size))); replace HRG := Lib.hid (HRG.out.below hb); replace HD := Lib.hid (HD.out.below hb); clear hb HPB HNP HNDP HA1 HA3 ka0 ka35)
                    | (refine Wh.store_new (by rfl) 33 (.tmp 22) (.tmp 67) (by rfl) 33 rfl kz (by rfl) (by rfl) (by rw [HKZ2.out]; rfl) HKZ1.out HKZ3.out ?_; rintro W6 hW6 hb; replace HB := Lib.hid (HB.out.trans (hb.mono (Nat.le_trans (Nat.le_of_eq EB.out) HB.out.size))); replace HRG := Lib.hid (HRG.out.below hb); replace HD := Lib.hid (HD.out.below hb); clear hb hW6)
                    | fail)
                  go_meet
                  exact ⟨v, dv, es, HB.out, HRG.out, HD.out, HAP.out, HNUM.out, HLE.out, HCT2.out⟩
          case rest =>
            clear HB HRG HD HAP HNUM HLE HCT HPB HNP HNDP HA1 HA3 ka0 ka35
            obtain ⟨v4, dv4, es4, c1, c2, c3, c4, c5, c6, c7⟩ := hcut
            have HB := Lib.hid c1; have HRG := Lib.hid c2; have HD := Lib.hid c3; have HAP := Lib.hid c4; have HNUM := Lib.hid c5; have HLE := Lib.hid c6; have HCT := Lib.hid c7
            clear c1 c2 c3 c4 c5 c6 c7
            obtain ⟨n9, en9⟩ : ∃ n9, n9 = (es4).length := ⟨_, rfl⟩
            have EN9 := Lib.hid en9
            clear en9
            go_wp2_with (first
              | (go_at_call 15; refine Calls.mono (keys_any B r v4 es4 _ HRG.out (by have := HLE.out; omega)) ?_; rintro e w7 ⟨vk, rfl, hk, hb⟩; obtain ⟨Ak, ck, ek, hck, hmk, hrk⟩ := own_rdr kC_length hk; rw [ksE_length, ← EN9.out] at ek; subst ek; replace HB := Lib.hid (HB.out.trans (hb.mono (Nat.le_trans (Nat.le_of_eq EB.out) HB.out.size))); replace HRG := Lib.hid (HRG.out.below hb); replace HD := Lib.hid (HD.out.below hb); have HRK := Lib.hid hrk; clear hb hk hrk hck hmk)
              | fail)
            obtain ⟨A5, c5, e5, hc5, hm5, hr5⟩ := HD.out.num
            have hkq : w7.cell? ⟨q, 0, none⟩ = some dv4 := HD.out.blk.cell 0
            rw [its_length, ← EN9.out] at e5
            rw [e5] at hkq
            have HKQ := Lib.hid hkq
            have HRI := Lib.hid hr5
            have CLEN := Lib.hid (fun (w1 : World) (h : Ring w1 B r v4 (es4)) => by have x := len_any B r v4 (es4) w1 h; rw [← EN9.out] at x; exact x)
            clear hc5 hm5 hr5 e5
            go_quiet ((go_at_call 16; refine (CLEN.out _ (HRG.out.below (below_drewN (Below.refl _ _) _))).mono ?_; rintro e w' ⟨rfl, rfl⟩; exact ⟨rfl, _, rfl⟩))
            clear hkq CLEN
            go_wp2
            have hB7 : ∀ k, Below w7.heap.size w7 (w7.drewN k) := fun k => below_drewN (Below.refl _ _) k
            go_loopw [30] (fun iv w2 => ∃ j : Nat, j ≤ n9 ∧ iv = .int .i64 (j : Int) ∧ Below w7.heap.size w7 w2) (fun iv _ => n9 - (intOf iv).toNat)
            case atStart => exact ⟨0, Nat.zero_le _, rfl, hB7 _⟩
            case round =>
              clear hB7
              obtain ⟨j, hj, rfl, hb2⟩ := hrel
              have HB2 := Lib.hid hb2
              clear hb2
              by_cases hjt : j < n9
              · have g1 : decide ((j : Int) < (n9 : Int)) = true := by simp; omega
                have g2 : (0 : Int) ≤ (j : Int) := by omega
                have g3 : (j : Int) < (n9 : Int) := by omega
                have g4 : (j : Int) ≤ 40 := by have := HLE.out; have := EN9.out; omega
                obtain ⟨y, hy⟩ : ∃ y, (es4)[j]? = some y := ⟨(es4)[j]'(by rw [← EN9.out]; exact hjt), List.getElem?_eq_getElem _⟩
                obtain ⟨g5, rfl, hg5, hra5⟩ := HRK.out.at_ (show (ksE (es4))[j]? = some y.it.k by simp [ksE, hy])
                obtain ⟨g6, rfl, hg6, hra6⟩ := HRI.out.at_ (its_at hy)
                obtain ⟨kv, ekv⟩ : ∃ kv, kv = key32 y.it.k := ⟨_, rfl⟩
                have HS := Lib.hid (show wr.drew.rangeAt g5 (j * 32) kv.toList ∧ wr.drew.cell? ⟨q, 0, none⟩ = some (.slice (some ⟨g6, 0, none⟩) n9 c5) ∧ wr.drew.rangeAt g6 (j * 35 + 3) kv.toList from ⟨fun u x hu => (HB2.out.cell (p := ⟨g5, _, none⟩) hg5).trans (hra5 u x (by rw [ekv] at hu; exact hu)), (HB2.out.cell (p := ⟨q, 0, none⟩) HD.out.lt).trans HKQ.out, fun u x hu => (HB2.out.cell (p := ⟨g6, _, none⟩) hg6).trans (iC_k hra6 u x (by rw [ekv] at hu; exact hu))⟩)
                have HKI := Lib.hid (show (Tryz.prog.info? 33).map (·.size) = some kv.size by rw [ekv]; exact info32 _)
                have HEQ := Lib.hid (show ∀ w, (Op.equalIn 10000 33 (.agg kv) (.agg kv)).run Tryz.prog w = .ok true w by rw [ekv]; exact fun w => eql_key_same _ w)
                clear hra5 hra6 hy ekv hg5 hg6
                go_wp2
                refine Reg.any_begin (fun w' => w'.rangeAt g5 (j * 32) kv.toList ∧ w'.cell? ⟨q, 0, none⟩ = some (.slice (some ⟨g6, 0, none⟩) n9 c5) ∧ w'.rangeAt g6 (j * 35 + 3) kv.toList) 13 rfl (by kernel_rfl) HS.out ?_
                refine Reg.any_take 0 (v := ?vqt0) rfl (by kernel_rfl) (by kernel_rfl) (by kernel_rfl) (fun _ _ _ h => h) HS.out (by rfl) (fun w' hS => ?hqt0) ?rqt0
                case hqt0 => go_simp; rfl
                simp only [Act.put, List.setIfInBounds_toArray, List.set_cons_zero, List.set_cons_succ]
                refine Reg.any_take 1 (v := ?vqt1) rfl (by kernel_rfl) (by kernel_rfl) (by kernel_rfl) (fun _ _ _ h => h) HS.out (by rfl) (fun w' hS => ?hqt1) ?rqt1
                case hqt1 => go_simp; rfl
                simp only [Act.put, List.setIfInBounds_toArray, List.set_cons_zero, List.set_cons_succ]
                refine Reg.any_take 2 (v := ?vqt2) rfl (by kernel_rfl) (by kernel_rfl) (by kernel_rfl) (fun _ _ _ h => h) HS.out (by rfl) (fun w' hS => ?hqt2) ?rqt2
                case hqt2 => go_simp; rfl
                simp only [Act.put, List.setIfInBounds_toArray, List.set_cons_zero, List.set_cons_succ]
                refine Reg.any_take 3 (v := .agg kv) rfl (by kernel_rfl) (by kernel_rfl) (by kernel_rfl) (fun _ _ _ h => h) HS.out (by rfl) (fun w' hS => ?hqt3) ?rqt3
                case hqt3 => exact exec_load_mid (.tmp 221) rfl rfl hS.1 Tryz.underlying33 rfl HKI.out
                simp only [Act.put, List.setIfInBounds_toArray, List.set_cons_zero, List.set_cons_succ]
                refine Reg.any_take 4 (v := ?vqt4) rfl (by kernel_rfl) (by kernel_rfl) (by kernel_rfl) (fun _ _ _ h => h) HS.out (by rfl) (fun w' hS => ?hqt4) ?rqt4
                case hqt4 => go_simp; rfl
                simp only [Act.put, List.setIfInBounds_toArray, List.set_cons_zero, List.set_cons_succ]
                refine Reg.any_take 5 (v := ?vqt5) rfl (by kernel_rfl) (by kernel_rfl) (by kernel_rfl) (fun _ _ _ h => h) HS.out (by rfl) (fun w' hS => ?hqt5) ?rqt5
                case hqt5 => go_simp; rfl
                simp only [Act.put, List.setIfInBounds_toArray, List.set_cons_zero, List.set_cons_succ]
                refine Reg.any_take 6 (v := ?vqt6) rfl (by kernel_rfl) (by kernel_rfl) (by kernel_rfl) (fun _ _ _ h => h) HS.out (by rfl) (fun w' hS => ?hqt6) ?rqt6
                case hqt6 => go_simp; rfl
                simp only [Act.put, List.setIfInBounds_toArray, List.set_cons_zero, List.set_cons_succ]
                refine Reg.any_take 7 (v := .slice (some ⟨g6, 0, none⟩) n9 c5) rfl (by kernel_rfl) (by kernel_rfl) (by kernel_rfl) (fun _ _ _ h => h) HS.out (by rfl) (fun w' hS => ?hqt7) ?rqt7
                case hqt7 => have h1 := hS.2.1; go_simp
                simp only [Act.put, List.setIfInBounds_toArray, List.set_cons_zero, List.set_cons_succ]
                refine Reg.any_take 8 (v := ?vqt8) rfl (by kernel_rfl) (by kernel_rfl) (by kernel_rfl) (fun _ _ _ h => h) HS.out (by rfl) (fun w' hS => ?hqt8) ?rqt8
                case hqt8 => go_simp; rfl
                simp only [Act.put, List.setIfInBounds_toArray, List.set_cons_zero, List.set_cons_succ]
                refine Reg.any_take 9 (v := ?vqt9) rfl (by kernel_rfl) (by kernel_rfl) (by kernel_rfl) (fun _ _ _ h => h) HS.out (by rfl) (fun w' hS => ?hqt9) ?rqt9
                case hqt9 => go_simp; rfl
                simp only [Act.put, List.setIfInBounds_toArray, List.set_cons_zero, List.set_cons_succ]
                refine Reg.any_take 10 (v := ?vqt10) rfl (by kernel_rfl) (by kernel_rfl) (by kernel_rfl) (fun _ _ _ h => h) HS.out (by rfl) (fun w' hS => ?hqt10) ?rqt10
                case hqt10 => go_simp; rfl
                simp only [Act.put, List.setIfInBounds_toArray, List.set_cons_zero, List.set_cons_succ]
                refine Reg.any_take 11 (v := .agg kv) rfl (by kernel_rfl) (by kernel_rfl) (by kernel_rfl) (fun _ _ _ h => h) HS.out (by rfl) (fun w' hS => ?hqt11) ?rqt11
                case hqt11 => exact exec_load_mid (.tmp 229) rfl rfl hS.2.2 Tryz.underlying33 rfl HKI.out
                simp only [Act.put, List.setIfInBounds_toArray, List.set_cons_zero, List.set_cons_succ]
                refine Reg.any_take 12 (v := .bool false) rfl (by kernel_rfl) (by kernel_rfl) (by kernel_rfl) (fun _ _ _ h => h) HS.out (by rfl) (fun w' hS => ?hqt12) ?rqt12
                case hqt12 => have h1 := HEQ.out; go_simp
                simp only [Act.put, List.setIfInBounds_toArray, List.set_cons_zero, List.set_cons_succ]
                refine wpAnyH_done (by kernel_rfl) ?_ _
                go_wp2
                go_roundw
                case rel => exact ⟨j + 1, by omega, by go_num, below_drewN HB2.out 1⟩
                case measure => simp [intOf]; omega
              · have g1 : decide ((j : Int) < (n9 : Int)) = false := by simp; omega
                have hbe := HB.out.trans (HB2.out.mono (Nat.le_trans (Nat.le_of_eq EB.out) HB.out.size))
                have hre := HRG.out.below HB2.out
                have hde := HD.out.below HB2.out
                have HBE := Lib.hid hbe; have HRE := Lib.hid hre; have HDE := Lib.hid hde
                clear hbe hre hde
                go_wp2
                go_roundw
                case rel => exact ⟨i + 1, v4, dv4, es4, by omega, by omega, by go_num, HBE.out, HRE.out, HDE.out, HAP.out, HNUM.out, HLE.out, HCT.out⟩
                case measure => simp [intOf]; omega
        · have e2 : decide ((i : Int) < 60) = false := by simp; omega
          have f2 : (0 : Int) ≤ (i : Int) := by omega
          clear h6
          go_wp2_with (first
            | (go_at_call 17; refine Calls.mono (CK.out _) ?_; rintro e w8 ⟨rfl, hb⟩; clear CK; have HBE := Lib.hid (HB.out.trans (hb.mono (Nat.le_trans (Nat.le_of_eq EB.out) HB.out.size))); clear hb)
            | fail)
          go_ret
          exact ⟨rfl, by rw [← EB.out]; exact HBE.out⟩
      · have e1 : decide ((i : Int) < (n : Int)) = false := by simp; omega
        obtain rfl : n = i := by omega
        clear hlt hi hi6
        go_wp2_with (first
            | (go_at_call 17; refine Calls.mono (CK.out _) ?_; rintro e w8 ⟨rfl, hb⟩; clear CK; have HBE := Lib.hid (HB.out.trans (hb.mono (Nat.le_trans (Nat.le_of_eq EB.out) HB.out.size))); clear hb)
            | fail)
        go_ret
        exact ⟨rfl, by rw [← EB.out]; exact HBE.out⟩
end Go.Proofs.YtcjibpjdfhhhkaaGreat.Rg
end

section
namespace Go.Proofs.YtcjibpjdfhhhkaaGreat.ringPlays
open Go.ChangeShapes Go.WideShapes Go.ChangeAt Go.RowKit Go.Proofs.YtcjibpjdfhhhkaaGreat
open Go.ChangeMaps (open_string shut_string)

theorem own : ownKnob Tryz.prog.godebug = none := by kernel_rfl
theorem laidOut : laidOutB Tryz.prog = true := by kernel_rfl

set_option maxRecDepth 100000 in
theorem lifted (os : Os) (started : os.Started) (H : Type) (enc : TypeId × Value → H) :
    ReturnsInHanded {} Tryz.checked os 3 .any (Rows.ringPlaysSpec.pre6 enc Tryz.prog Tryz.f3 Rows.ringPlaysRow.domain false) (Rows.ringPlaysSpec.post enc Tryz.prog Tryz.f3 false true false false) := by
  refine returnsInHanded_of_change_sized (C := Tryz.checked) own started (by kernel_rfl) Tryz.func3
    (ChangeSpec.witness6 (enc := enc) (C := Tryz.checked) false ⟨#[], #[.slice none 0 0], []⟩ 8 (by kernel_rfl) (by kernel_rfl) (by kernel_rfl) (by kernel_rfl)) ?_
  intro W base args ds gs before hval0 hW hcnd hsz _
  have hval : ∀ (j : Nat) t v, Tryz.f3.params[j]? = some t → args[j]? = some v → Value.okWide Tryz.prog W .any base t v := hval0
  have hW' := hW
  obtain ⟨p, q, hA0, hV, rfl, hfz, hnd⟩ := hW
  have hA : DataW.TrodAll enc Tryz.prog W 0 (fun _ => true) true Tryz.f3.params.toList args.toList ds p := hA0
  rw [Tryz.params3] at hA hval
  obtain ⟨v0, vs0, d0, ds0, p0, q0, hargs, rfl, rfl, h0, r0⟩ := trodAll_cons hA
  obtain ⟨rfl, rfl, rfl⟩ := trodAll_nil r0
  obtain rfl : args = #[v0] := by cases args; simp_all
  obtain ⟨rfl, rfl⟩ := trodVars_none hV
  have k0 := h0
  have lt0 : ∀ x ∈ p0, x.block < W.heap.size := by obtain ⟨m, hm⟩ := k0; exact DataW.trod_lt m _ _ _ hm
  have wt0 : ∀ n ∈ DataW.weights Tryz.prog 22 d0, n ≤ reachBytes := fun n hn => by have := List.all_eq_true.1 hsz n (DataW.weights_mem_each (j := 0) (t := 22) (d := d0) (by rw [Tryz.params3]; rfl) rfl n hn); simpa using this
  obtain ⟨A0, l0, c0, rfl, w0, x0, y0, lp0⟩ := OpenQ.open_acts (okWide_slice Tryz.underlying22 (hval 0 22 v0 rfl rfl)) h0 wt0
  clear hA0 hval0
  refine (Rg.plays A0 l0 c0 W w0 lp0).mono fun e W' ⟨he, bel⟩ => ?_
  subst he
  exact ⟨_, rfl, _, _, _, [], _, [], hW', trodAll_mk1 (shut_bool Tryz.underlying4 _), (trodAll_cons_mk (Below.trod laidOut (by kernel_rfl) (of_decide_eq_true (by kernel_rfl)) k0 bel lt0) trodAll_mk0), rfl, bel.frame _, fun h => by cases h⟩

theorem over : Rows.ringPlaysRow.holds Tryz.pinned (OpenSpec.ofChange Rows.ringPlaysSpec) :=
  OpenClaim.holds_of_wide 3 Tryz.f3 rfl rfl rfl rfl rfl rfl rfl ⟨rfl, rfl, rfl, rfl, rfl⟩ rfl rfl rfl rfl rfl (by kernel_rfl) Tryz.func3 (by kernel_rfl)
    (of_decide_eq_true (by kernel_rfl)) (by unfold Func.isWrapper; first | (rw [if_pos (by decide +kernel)]; kernel_rfl) | (rw [if_neg (by decide +kernel)]; exact ⟨rfl, rfl⟩))
    (fun os started H enc _ => lifted os started H enc)

theorem proved : Rows.RingPlaysSaid := over
end Go.Proofs.YtcjibpjdfhhhkaaGreat.ringPlays
end
