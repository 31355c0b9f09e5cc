/-
  NameTells and NameUnders walked.
-/
import Derived.Test.YtpjilcngibaepaaNmLaw1
import Derived.Test.YtpjilcngibaepaaNmRefB
import Derived.Test.YtpjilcngibaepaaNmPlain3
import Derived.Deep.RegionHeld3
set_option linter.unusedVariables false
namespace Go.Proofs.Ytpjilcngibaepaa.NmW
open Go.RowKit Go.Proofs.Ytpjilcngibaepaa.Mem Go.Proofs.Ytpjilcngibaepaa.Nm

set_option maxHeartbeats 3200000 in
set_option maxRecDepth 100000 in
theorem tells_yes (a b n : L) (w : World) (hs : a.length + b.length + n.length ≤ 400) : Calls Try.prog 3 #[.string ⟨a.toArray⟩, .string ⟨b.toArray⟩, .string ⟨n.toArray⟩] w fun e w' => e = .returned (.bool true) ∧ Below w.heap.size w w' := by
  have T1 := Lib.hid (fun w1 => target_any n w1 (by omega))
  have T2 := Lib.hid (fun w1 => rtarget_any n w1 (by omega))
  have K1 := Lib.hid (fun w1 => kind_any a w1 (by omega))
  have K2 := Lib.hid (fun w1 => rkind_any a w1 (by omega))
  have I1 := Lib.hid (fun w1 => is_any a w1 (by omega))
  have I2 := Lib.hid (fun w1 => ris_any a w1 (by omega))
  have C1 := Lib.hid (fun w1 => canon_any a w1 (by omega))
  have C2 := Lib.hid (fun w1 => rcanon_any a w1 (by omega))
  have U1 := Lib.hid (fun w1 => up_any a w1 (by omega))
  have U2 := Lib.hid (fun w1 => rup_any a w1 (by omega))
  have D1 := Lib.hid (fun w1 => under_any a b w1 (by omega))
  have D2 := Lib.hid (fun w1 => runder_any a b w1 (by omega) (by omega))
  have B1 := Lib.hid (fun w1 => between_any a b w1 (by omega) (by omega))
  have B2 := Lib.hid (fun w1 => rbetween_any a b w1 (by omega) (by omega))
  have G1 := Lib.hid (fun w1 => krbtgt_any a w1 (by omega))
  have G2 := Lib.hid (fun w1 => rkrbtgt_any a w1 (by omega))
  have P1 := Lib.hid (fun w1 => isprinc_any a n w1 (by omega) (by omega))
  have P2 := Lib.hid (fun w1 => risprinc_any a n w1 (by omega) (by omega))
  have X1 := Lib.hid (fun A A2 c c2 B w1 => texts_same (betweenL a b) A A2 c c2 B w1 (by have := between_len a b; omega))
  have CK := Lib.hid (fun w1 => known_any w1)
  have H := Lib.hid (Below.refl w.heap.size w)
  have e400 : ¬ (400 : Int) < (a.length : Int) + (b.length : Int) + (n.length : Int) := by omega
  go_enter Try.func3, Try.ntmps3
  go_wp2_with (first
    | (go_at_call 12; with_reducible refine Calls.mono (T1.out _) ?_; rintro e w1 ⟨rfl, hb⟩; replace H := Lib.hid (H.out.trans (hb.mono H.out.size)); clear hb)
    | (go_at_call 13; with_reducible refine Calls.mono (T2.out _) ?_; rintro e w2 ⟨rfl, hb⟩; replace H := Lib.hid (H.out.trans (hb.mono H.out.size)); clear hb))
  have HK := Lib.hid (show Blk (w2.alloc (.cells #[.string ⟨a.toArray⟩, .string ⟨n.toArray⟩] 25)).drew w2.heap.size 25 #[.string ⟨a.toArray⟩, .string ⟨n.toArray⟩] from (Blk.new w2 25 _).drewN 1)
  replace H := Lib.hid (show Below w.heap.size w (w2.alloc (.cells #[.string ⟨a.toArray⟩, .string ⟨n.toArray⟩] 25)).drew from below_drewN (H.out.alloc H.out.size _) 1)
  simp only [List.append_eq, List.cons_append, List.nil_append]
  go_region_held3 (fun w' => w'.cell? ⟨w2.heap.size, 0, none⟩ = some (.string ⟨a.toArray⟩) ∧ w'.cell? ⟨w2.heap.size, 1, none⟩ = some (.string ⟨n.toArray⟩)) (exact ⟨HK.out.cell 0, HK.out.cell 1⟩) (first
    | (go_at_call 14; with_reducible refine Calls.mono (K1.out _) ?_; rintro e w3 ⟨rfl, hd⟩; have hb := hd.below; clear hd; replace H := Lib.hid (H.out.trans (hb.mono H.out.size)); replace HK := Lib.hid (HK.out.below hb); clear hb)
    | (go_at_call 15; with_reducible refine Calls.mono (K2.out _) ?_; rintro e w4 ⟨rfl, hb⟩; replace H := Lib.hid (H.out.trans (hb.mono H.out.size)); replace HK := Lib.hid (HK.out.below hb); clear hb)
    | (go_at_call 16; with_reducible refine Calls.mono (I1.out _) ?_; rintro e w5 ⟨rfl, hd⟩; have hb := hd.below; clear hd; replace H := Lib.hid (H.out.trans (hb.mono H.out.size)); replace HK := Lib.hid (HK.out.below hb); clear hb)
    | (go_at_call 17; with_reducible refine Calls.mono (I2.out _) ?_; rintro e w6 ⟨rfl, hb⟩; replace H := Lib.hid (H.out.trans (hb.mono H.out.size)); replace HK := Lib.hid (HK.out.below hb); clear hb)
    | (go_at_call 18; with_reducible refine Calls.mono (C1.out _) ?_; rintro e w7 ⟨rfl, hb⟩; replace H := Lib.hid (H.out.trans (hb.mono H.out.size)); replace HK := Lib.hid (HK.out.below hb); clear hb)
    | (go_at_call 19; with_reducible refine Calls.mono (C2.out _) ?_; rintro e w8 ⟨rfl, hb⟩; replace H := Lib.hid (H.out.trans (hb.mono H.out.size)); replace HK := Lib.hid (HK.out.below hb); clear hb)
    | (go_at_call 20; with_reducible refine Calls.mono (U1.out _) ?_; rintro e w9 ⟨rfl, hb⟩; replace H := Lib.hid (H.out.trans (hb.mono H.out.size)); replace HK := Lib.hid (HK.out.below hb); clear hb)
    | (go_at_call 21; with_reducible refine Calls.mono (U2.out _) ?_; rintro e w10 ⟨rfl, hb⟩; replace H := Lib.hid (H.out.trans (hb.mono H.out.size)); replace HK := Lib.hid (HK.out.below hb); clear hb)
    | (go_at_call 22; with_reducible refine Calls.mono (D1.out _) ?_; rintro e w11 ⟨rfl, hb⟩; replace H := Lib.hid (H.out.trans (hb.mono H.out.size)); replace HK := Lib.hid (HK.out.below hb); clear hb)
    | (go_at_call 23; with_reducible refine Calls.mono (D2.out _) ?_; rintro e w12 ⟨rfl, hb⟩; replace H := Lib.hid (H.out.trans (hb.mono H.out.size)); replace HK := Lib.hid (HK.out.below hb); clear hb)
    | (go_at_call 25; with_reducible refine Calls.mono (B1.out _) ?_; rintro e w13 ⟨v13, rfl, ho, hb⟩; have HO := Lib.hid ho; clear ho; replace H := Lib.hid (H.out.trans (hb.mono H.out.size)); replace HK := Lib.hid (HK.out.below hb); clear hb)
    | (go_at_call 26; with_reducible refine Calls.mono (B2.out _) ?_; rintro e w14 ⟨v14, rfl, ho, hb⟩; obtain ⟨A1, c1, e1, r1⟩ := (HO.out.below hb).slice; subst e1; obtain ⟨A2, c2, e2, r2⟩ := ho.slice; subst e2; have x1 := X1.out A1 A2 c1 c2 _ w14 r1 r2; clear HO ho r1 r2; replace H := Lib.hid (H.out.trans (hb.mono H.out.size)); replace HK := Lib.hid (HK.out.below hb); clear hb)
    | (go_at_call 24; with_reducible refine Calls.mono x1 ?_; rintro e w15 ⟨rfl, hd⟩; have hb := hd.below; clear hd x1; replace H := Lib.hid (H.out.trans (hb.mono H.out.size)); replace HK := Lib.hid (HK.out.below hb); clear hb)
    | (go_at_call 27; with_reducible refine Calls.mono (G1.out _) ?_; rintro e w16 ⟨rfl, rfl⟩)
    | (go_at_call 28; with_reducible refine Calls.mono (G2.out _) ?_; rintro e w17 ⟨rfl, rfl⟩)
    | (go_at_call 29; with_reducible refine Calls.mono (P1.out _) ?_; rintro e w18 ⟨rfl, hb⟩; replace H := Lib.hid (H.out.trans (hb.mono H.out.size)); replace HK := Lib.hid (HK.out.below hb); clear hb)
    | (go_at_call 30; with_reducible refine Calls.mono (P2.out _) ?_; rintro e w19 ⟨rfl, hb⟩; replace H := Lib.hid (H.out.trans (hb.mono H.out.size)); replace HK := Lib.hid (HK.out.below hb); clear hb)
    | (go_at_call 31; with_reducible refine Calls.mono (CK.out _) ?_; rintro e w20 ⟨rfl, hb⟩; replace H := Lib.hid (H.out.trans (hb.mono H.out.size)); replace HK := Lib.hid (HK.out.below hb); clear hb))
  go_wp2
  go_ret
  exact ⟨rfl, H.out⟩
theorem tells_no (a b n : L) (w : World) (h1 : a.length ≤ 140737488351232) (h2 : b.length ≤ 140737488351232) (h3 : n.length ≤ 140737488351232) (hs : 400 < a.length + b.length + n.length) : Calls Try.prog 3 #[.string ⟨a.toArray⟩, .string ⟨b.toArray⟩, .string ⟨n.toArray⟩] w fun e w' => e = .returned (.bool true) ∧ Below w.heap.size w w' := by
  have e400 : (400 : Int) < (a.length : Int) + (b.length : Int) + (n.length : Int) := by omega
  have HB := Lib.hid (Below.refl w.heap.size w)
  go_enter Try.func3, Try.ntmps3
  go_wp2
  go_ret
  exact ⟨rfl, HB.out⟩
theorem tells_ (s1 s2 s3 : ByteArray) (w : World) (h1 : s1.data.toList.length ≤ reachBytes) (h2 : s2.data.toList.length ≤ reachBytes) (h3 : s3.data.toList.length ≤ reachBytes) : Calls Try.prog 3 #[.string s1, .string s2, .string s3] w fun e w' => e = .returned (.bool true) ∧ Below w.heap.size w w' := by
  rw [reach_val] at h1 h2 h3
  obtain ⟨a, rfl⟩ : ∃ a : L, s1 = ⟨a.toArray⟩ := ⟨_, bytes_eta s1⟩
  obtain ⟨b, rfl⟩ : ∃ a : L, s2 = ⟨a.toArray⟩ := ⟨_, bytes_eta s2⟩
  obtain ⟨n, rfl⟩ : ∃ a : L, s3 = ⟨a.toArray⟩ := ⟨_, bytes_eta s3⟩
  simp only at h1 h2 h3
  by_cases h : a.length + b.length + n.length ≤ 400
  · exact tells_yes a b n w h
  · exact tells_no a b n w h1 h2 h3 (by omega)
end Go.Proofs.Ytpjilcngibaepaa.NmW
