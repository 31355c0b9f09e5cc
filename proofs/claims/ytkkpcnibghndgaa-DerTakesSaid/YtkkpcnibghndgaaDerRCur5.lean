/-
  The document's own Cursor of chapter 1: Octets, Text, Into, Whole.
-/
import Derived.Test.YtkkpcnibghndgaaDerRCur4
set_option linter.unusedVariables false
namespace Go.Proofs.Ytkkpcnibghndgaa.DerR
open Go.RowKit Go.Proofs.Ytkkpcnibghndgaa.Mem Go.Proofs.Ytkkpcnibghndgaa.DerP Go.Proofs.Ytkkpcnibghndgaa.Reg

set_option maxRecDepth 100000 in
theorem roctets_any (B g : Nat) (c : Option L) (w : World) (h : RC w B g c) (hB : B ≤ w.heap.size) (hBg : B ≤ g) (hu : (c.getD []).length ≤ 100000) :
    Calls Try.prog 27 #[.pointer (some ⟨g, 0, none⟩)] w (Took w B g 4 c) := by
  have HT := Lib.hid (rtake_any 4 B g w c h hB hBg hu)
  clear h hB hBg hu
  go_enter Try.func27, Try.ntmps27
  go_wp2_with (go_at_call 42; refine HT.out.mono ?_; rintro e w1 ⟨⟨A', cap', rfl, hcap, hrd⟩, hrc, hg⟩)
  go_ret
  exact ⟨⟨A', cap', rfl, hcap, hrd⟩, hrc, hg⟩

set_option maxRecDepth 100000 in
theorem rtext_any (B g : Nat) (c : Option L) (w : World) (h : RC w B g c) (hB : B ≤ w.heap.size) (hBg : B ≤ g) (hu : (c.getD []).length ≤ 100000) :
    Calls Try.prog 29 #[.pointer (some ⟨g, 0, none⟩)] w fun e w' => e = .returned (.string ⟨((bodyC 27 c).getD []).toArray⟩) ∧ RC w' B g (nextC 27 c) ∧ w.grownBy w' (some g) := by
  have HT := Lib.hid (rtake_any 27 B g w c h hB hBg hu)
  clear h hB hBg hu
  go_enter Try.func29, Try.ntmps29
  go_wp2_with (go_at_call 42; refine HT.out.mono ?_; rintro e w1 ⟨⟨A', cap', rfl, hcap, hrd⟩, hrc, hg⟩
               have hcv := run_bytes_str (P := Try.prog) w1 22 5 Try.underlying22 Try.underlying5 hrd ((bodyC 27 c).getD []).length cap' rfl 9 Try.underlying9)
  go_ret
  exact ⟨rfl, hrc, hg⟩

theorem body_next_some {t : UInt8} {c : Option L} {p : L} (h : bodyC t c = some p) : ∃ r, nextC t c = some r := by
  cases c with
  | none => simp [bodyC] at h
  | some s =>
    cases hs : splitL t s with
    | none => rw [(body_none hs).1] at h; cases h
    | some x => exact ⟨_, (body_some (b := x.1) (r := x.2) hs).2⟩

set_option maxRecDepth 100000 in
set_option maxHeartbeats 1000000 in
theorem rinto_any (t : UInt8) (B g : Nat) (c : Option L) (w : World) (h : RC w B g c) (hB : B ≤ w.heap.size) (hBg : B ≤ g) (hu : (c.getD []).length ≤ 100000) :
    Calls Try.prog 31 #[.pointer (some ⟨g, 0, none⟩), .int .u8 t.toNat] w fun e w' =>
      (∃ g', e = .returned (.pointer (some ⟨g', 0, none⟩)) ∧ w.heap.size ≤ g' ∧ RC w' B g' (bodyC t c)) ∧ RC w' B g (nextC t c) ∧ w.grownBy w' (some g) := by
  have HT := Lib.hid (rtake_any t B g w c h hB hBg hu)
  have HB := Lib.hid hB
  cases hb : bodyC t c with
  | none =>
    have hn := body_next t c hb
    unfold Took at HT
    rw [hb, hn] at HT
    rw [hn]
    clear h hB hBg hu hb hn
    go_enter Try.func31, Try.ntmps31
    go_wp2_with (go_at_call 42; refine HT.out.mono ?_; rintro e w1 ⟨⟨A', cap', rfl, hcap, hrd⟩, ⟨A, n, cap, e, hb, rfl⟩, hg⟩
                 have HBK := Lib.hid hb
                 have h1 : w1.cell? ⟨g, 1, none⟩ = some (.bool true) := hb.cell 1
                 clear hb)
    go_ret
    exact ⟨⟨_, rfl, hg.size, _, _, _, true, Blk.new w1 _ _, rfl⟩, ⟨A, n, cap, true, HBK.out.alloc _, rfl⟩, g_alloc hg _⟩
  | some p =>
    obtain ⟨r, hn⟩ := body_next_some hb
    unfold Took at HT
    rw [hb, hn] at HT
    rw [hn]
    clear h hB hBg hu hb hn
    go_enter Try.func31, Try.ntmps31
    go_wp2_with (go_at_call 42; refine HT.out.mono ?_; rintro e w1 ⟨⟨A', cap', rfl, hcap, hrd⟩, ⟨A, n, cap, e, hb, rfl, hrs⟩, hg⟩
                 have HBK := Lib.hid hb
                 have HRS := Lib.hid hrs
                 have HRD := Lib.hid hrd
                 have HCP := Lib.hid hcap
                 have h1 : w1.cell? ⟨g, 1, none⟩ = some (.bool false) := hb.cell 1
                 clear hb hrs hrd hcap)
    go_ret
    have hs := Nat.le_trans HB.out hg.size
    exact ⟨⟨_, rfl, hg.size, _, _, _, false, Blk.new w1 _ _, rfl, rfl, HCP.out, HRD.out.alloc hs _⟩, ⟨A, n, cap, false, HBK.out.alloc _, rfl, HRS.out.1, HRS.out.2.1, HRS.out.2.2.alloc hs _⟩, g_alloc hg _⟩

set_option maxRecDepth 100000 in
theorem rwhole_any (B g : Nat) (c : Option L) (w : World) (h : RC w B g c) : Calls Try.prog 34 #[.pointer (some ⟨g, 0, none⟩)] w fun e w' => e = .returned (.bool (DerC.wholeC c)) ∧ w = w' := by
  obtain ⟨A, n, cap, e, hb, hrs⟩ := h
  have h0 : w.cell? ⟨g, 0, none⟩ = some (.slice A n cap) := hb.cell 0
  have h1 : w.cell? ⟨g, 1, none⟩ = some (.bool e) := hb.cell 1
  cases c with
  | none =>
    obtain rfl : e = true := hrs
    clear hb
    go_enter Try.func34, Try.ntmps34
    go_wp2
    go_ret
    exact ⟨rfl, rfl⟩
  | some l =>
    obtain ⟨rfl, hn, _⟩ := hrs
    clear hb
    by_cases hz : n = 0
    · have hl : DerC.wholeC (some l) = true := by
        have : l = [] := List.length_eq_zero_iff.1 (by omega)
        subst this; rfl
      subst hz
      rw [hl]
      clear hl hn
      go_enter Try.func34, Try.ntmps34
      go_wp2
      go_ret
      exact ⟨rfl, rfl⟩
    · have hl : DerC.wholeC (some l) = false := by
        cases l with
        | nil => exact absurd hn hz
        | cons a r => rfl
      have g0 : ((n : Int) == 0) = false := by simp only [beq_eq_false_iff_ne, ne_eq]; omega
      rw [hl]
      clear hl hn hz
      go_enter Try.func34, Try.ntmps34
      go_wp2
      go_ret
      exact ⟨rfl, rfl⟩

end Go.Proofs.Ytkkpcnibghndgaa.DerR
