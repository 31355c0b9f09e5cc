/-
  slices.Reverse of a row of texts of the call's own.
-/
import Derived.Test.YtnalnhplcchdoaaNmRow
set_option linter.unusedVariables false
namespace Go.Proofs.Ytnalnhplcchdoaa.Nm
open Go.RowKit Go.Proofs.Ytnalnhplcchdoaa.Mem

set_option maxHeartbeats 1600000 in
set_option maxRecDepth 1000000 in
theorem reverse_any (v : Value) (ls : List L) (w : World) (base : Nat) (h : Own w base v ls) (hb : base ≤ w.heap.size) (hl : ls.length ≤ 100000) :
    Calls Try.prog 50 #[v] w fun e w' => e = .returned (.tuple #[]) ∧ Own w' base v ls.reverse ∧ Below base w w' := by
  rcases Nat.eq_zero_or_pos ls.length with h0 | h0
  · obtain ⟨A, c, rfl, _⟩ := h.slice
    have e : ls = [] := List.eq_nil_of_length_eq_zero h0
    subst e
    have HO := Lib.hid h; clear h
    simp only [List.length_nil]
    clear h0
    go_enter Try.func50, Try.ntmps50
    go_wp2
    go_loopg [2, 3] 0 (fun _ s2 s3 wr => s2 = .int .i64 0 ∧ s3 = .int .i64 (-1) ∧ wr = w)
    case atStart => exact ⟨rfl, rfl, rfl⟩
    case round =>
      obtain ⟨rfl, rfl, rfl⟩ := hrel
      go_wp2
      go_end0
      exact ⟨rfl, HO.out, Below.refl _ _⟩
  · obtain ⟨g, cap, rfl, hg⟩ : ∃ g cap, v = .slice (some ⟨g, 0, none⟩) ls.length cap ∧ base ≤ g := by
      rcases h.2 with ⟨_, h2⟩ | ⟨g, cap, cur, h1, h2, _⟩
      · omega
      · exact ⟨g, cap, h1, h2⟩
    obtain ⟨n, en⟩ : ∃ n, n = ls.length := ⟨_, rfl⟩
    rw [← en] at h hl h0 ⊢
    have HE := Lib.hid en; clear en
    have HO := Lib.hid h; clear h
    have HB := Lib.hid (show Below base w w from Below.refl _ _)
    have HG := Lib.hid hg; clear hg
    have HBB := Lib.hid hb; clear hb
    go_enter Try.func50, Try.ntmps50
    go_wp2
    go_loopg [2, 3] n (fun q s2 s3 wr => ∃ i j : Nat, i + j + 1 = n ∧ i + q = n ∧ i ≤ j + 1 ∧ s2 = .int .i64 (i : Int) ∧ s3 = .int .i64 (j : Int) ∧ Own wr base (.slice (some ⟨g, 0, none⟩) n cap) (rev ls i) ∧ Below base w wr)
    case atStart => exact ⟨0, n - 1, by omega, by omega, by omega, rfl, by congr 1; omega, by rw [rev_zero]; exact HO.out, HB.out⟩
    case round =>
      obtain ⟨i, j, h1, h2, h3, rfl, rfl, ho, hb⟩ := hrel
      have HB1 := Lib.hid hb; clear hb
      by_cases hlt : i < j
      · have hr := ho.slice
        have ci : wr.cell? ⟨g, i, none⟩ = some (.string ⟨(pl (rev ls i) i).toArray⟩) := by
          obtain ⟨A, c, e, hrd⟩ := hr
          injection e with e1 e2 e3
          subst e1
          obtain ⟨b', o', e4, _, e5⟩ := rd_txt hrd (i := i) (by rw [rev_length, ← HE.out]; omega)
          injection e4 with e4; injection e4 with e6 e7
          subst e6; subst e7
          rwa [Nat.zero_add] at e5
        have cj : wr.cell? ⟨g, j, none⟩ = some (.string ⟨(pl (rev ls i) j).toArray⟩) := by
          obtain ⟨A, c, e, hrd⟩ := hr
          injection e with e1 e2 e3
          subst e1
          obtain ⟨b', o', e4, _, e5⟩ := rd_txt hrd (i := j) (by rw [rev_length, ← HE.out]; omega)
          injection e4 with e4; injection e4 with e6 e7
          subst e6; subst e7
          rwa [Nat.zero_add] at e5
        have fi : wr.frozen? ⟨g, i, none⟩ = false := World.ownsRow.frozenAt (n := n) (by have := ho; rw [Own, rev_length, ← HE.out] at this; exact this) i
        have fj : wr.frozen? ⟨g, j, none⟩ = false := World.ownsRow.frozenAt (n := n) (by have := ho; rw [Own, rev_length, ← HE.out] at this; exact this) j
        clear hr
        have HO1 := Lib.hid ho; clear ho
        have e1 : (i : Int) < (j : Int) := by omega
        have H1 := Lib.hid h1
        have H2 := Lib.hid h2; clear h2
        have H3 := Lib.hid h3; clear h3
        go_wp2_with fail
        go_region
        go_wp2
        have s1 := HO1.out.stored (by rw [rev_length, ← HE.out]) i (pl (rev ls i) j)
        have s2 := s1.1.stored (by rw [List.length_set, rev_length, ← HE.out]) j (pl (rev ls i) i)
        have er : ((rev ls i).set i (pl (rev ls i) j)).set j (pl (rev ls i) i) = rev ls (i + 1) := by
          have := rev_step ls i (by have := HE.out; have := H1.out; omega)
          rwa [show ls.length - 1 - i = j by have := HE.out; have := H1.out; omega] at this
        rw [er] at s2
        go_roundg (n - (i + 1))
        case measure => have := H2.out; omega
        case rel =>
          refine ⟨i + 1, j - 1, by have := H1.out; omega, by have := H2.out; omega, by omega, by go_num, by congr 1; omega, s2.1, ?_⟩
          have b1 := HB1.out.grown s1.2 (by have := HB1.out.size; have := HBB.out; omega) (fun k hk => by injection hk with hk; have := HG.out; omega)
          have b2 := b1.grown s2.2 (by have := b1.size; have := HBB.out; omega) (fun k hk => by injection hk with hk; have := HG.out; omega)
          exact below_drewN b2 1
      · have HO1 := Lib.hid ho; clear ho
        have e1 : ¬ (i : Int) < (j : Int) := by omega
        have E := Lib.hid (rev_all ls i (by have := HE.out; omega) (by have := HE.out; omega))
        have H1 := Lib.hid h1; clear h1
        have H2 := Lib.hid h2; clear h2
        have H3 := Lib.hid h3; clear h3
        go_wp2
        go_end0
        exact ⟨rfl, by rw [← E.out]; exact HO1.out, HB1.out⟩
end Go.Proofs.Ytnalnhplcchdoaa.Nm
