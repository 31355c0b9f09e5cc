/-
  The code's Up and Under of chapter 5.
-/
import Derived.Test.YtnalnhplcchdoaaNmKind
import Derived.Deep.LoopGhost
set_option linter.unusedVariables false
namespace Go.Proofs.Ytnalnhplcchdoaa.Nm
open Go.RowKit Go.Proofs.Ytnalnhplcchdoaa.Mem
attribute [local go_sem] mk_at List.getElem_cons_zero List.getElem_cons_succ ext_tail ext_drop ext_mid ext_take

theorem up_len (l : L) : (upL l).length ≤ l.length := by
  by_cases h : l = []
  · subst h; rw [up_nil]; exact Nat.le_refl _
  · exact Nat.le_of_lt (up_lt h)

set_option maxHeartbeats 800000 in
theorem up_any (l : L) (w : World) (hs : l.length ≤ 1000000000) : Calls Try.prog 55 #[.string ⟨l.toArray⟩] w fun e w' => e = .returned (.string ⟨(upL l).toArray⟩) ∧ Below w.heap.size w w' := by
  have c1 := kind_any l w hs
  by_cases h1 : kindL l = 1
  · rw [h1] at c1
    have c2 := fun w1 => cut_one l 46 w1 hs
    have eu : upL l = aft 46 l := by rw [upL, if_pos h1]
    rw [← eu] at c2
    have C2 := Lib.hid c2; clear c2
    have C3 := Lib.hid (fun w1 => clone_any (upL l) w1 (Nat.le_trans (up_len l) hs))
    clear h1 eu hs
    go_enter Try.func55, Try.ntmps55
    go_wp2_with (first
      | (go_at_call 59; refine Calls.mono c1 ?_; rintro e w1 ⟨rfl, hd⟩; clear c1; have H1 := Lib.hid hd.below; clear hd; have c2 := C2.out w1)
      | (go_at_call 60; refine Calls.mono c2 ?_; rintro e w2 ⟨rfl, hd⟩; clear c2; have H2 := Lib.hid (H1.out.trans (hd.below.mono H1.out.size)); clear hd; have c3 := C3.out w2)
      | (go_at_call 38; refine Calls.mono c3 ?_; rintro e w3 ⟨rfl, hb⟩; clear c3; have H3 := Lib.hid (H2.out.trans (hb.mono H2.out.size)); clear hb))
    go_ret
    exact ⟨rfl, H3.out⟩
  · by_cases h2 : kindL l = 2
    · obtain ⟨u, v, e, hv, eu⟩ := up_two h2
      rw [h2] at c1
      have c2 := fun w1 => lastidx_any u v 47 hv w1 (by rw [← e]; exact hs)
      rw [← e] at c2
      obtain ⟨n, en⟩ : ∃ n, n = u.length := ⟨_, rfl⟩
      have et : l.take n = upL l := by rw [eu, en, e]; simp
      have ht : (n : Int) ≤ (l.length : Int) := by rw [e, en]; simp; omega
      rw [← en] at c2
      have C2 := Lib.hid c2; clear c2
      have C3 := Lib.hid (fun w1 => clone_any (l.take n) w1 (Nat.le_trans (by simp; omega) hs))
      have E := Lib.hid et
      clear en et eu e hv h1 h2 hs
      go_enter Try.func55, Try.ntmps55
      go_wp2_with (first
        | (go_at_call 59; refine Calls.mono c1 ?_; rintro e w1 ⟨rfl, hd⟩; clear c1; have H1 := Lib.hid hd.below; clear hd; have c2 := C2.out w1)
        | (go_at_call 61; refine Calls.mono c2 ?_; rintro e w2 ⟨rfl, rfl⟩; clear c2; have c3 := C3.out w1)
        | (go_at_call 38; refine Calls.mono c3 ?_; rintro e w3 ⟨rfl, hb⟩; clear c3; have H3 := Lib.hid (H1.out.trans (hb.mono H1.out.size)); clear hb))
      go_ret
      exact ⟨by rw [← E.out]; rfl, H3.out⟩
    · have hk := kind_le l
      have e0 : kindL l = 0 := by omega
      have E := Lib.hid (up_none e0)
      rw [e0] at c1
      clear e0 hk h1 h2 hs
      go_enter Try.func55, Try.ntmps55
      go_wp2_with (go_at_call 59; refine Calls.mono c1 ?_; rintro e w1 ⟨rfl, hd⟩; clear c1; have H1 := Lib.hid hd.below; clear hd)
      go_ret
      exact ⟨by rw [E.out]; rfl, H1.out⟩

set_option maxHeartbeats 800000 in
theorem under_any (a b : L) (w : World) (hs : a.length ≤ 1000000000) : Calls Try.prog 54 #[.string ⟨a.toArray⟩, .string ⟨b.toArray⟩] w fun e w' => e = .returned (.bool (underL a b)) ∧ Below w.heap.size w w' := by
  have c1 := up_any a w hs
  have c2 := fun (i : Nat) w1 => up_any (pl (ch (upL a)) i) w1 (by
    rcases Nat.lt_or_ge i (ch (upL a)).length with g | g
    · have h1 := mem_len (pl_mem g); have := up_len a; omega
    · rw [pl_ge g]; simp)
  obtain ⟨A, eA⟩ : ∃ A, A = ch (upL a) := ⟨_, rfl⟩
  have h0 : upL a = pl A 0 := by
    rw [eA]
    by_cases h : upL a = []
    · rw [h, ch_nil]; rfl
    · exact (ch_zero h).symm
  have hup : ∀ i, i < A.length → upL (pl A i) = pl A (i + 1) := by rw [eA]; exact fun i h => up_at _ h
  have hne : ∀ i, i < A.length → pl A i ≠ [] := by rw [eA]; exact fun i h => at_ne _ h
  have hu : underL a b = decide (b ∈ A) := by rw [eA]; rfl
  rw [← eA] at c2
  rw [h0] at c1
  clear eA hs
  have C2 := Lib.hid c2; clear c2
  have HUP := Lib.hid hup; clear hup
  have HNE := Lib.hid hne; clear hne
  have HU := Lib.hid hu; clear hu h0
  have HB0 := Lib.hid (Below.refl w.heap.size w)
  go_enter Try.func54, Try.ntmps54
  go_wp2_with (go_at_call 55; refine Calls.mono c1 ?_; rintro e w1 ⟨rfl, hb⟩; clear c1; have H1 := Lib.hid hb; clear hb)
  go_loopg [5] A.length (fun g sv wr => ∃ i : Nat, i + g = A.length ∧ sv = .string ⟨(pl A i).toArray⟩ ∧ (∀ k, k < i → pl A k ≠ b) ∧ Below w.heap.size w wr)
  case atStart => exact ⟨0, Nat.zero_add _, rfl, fun k h => absurd h (Nat.not_lt_zero k), H1.out⟩
  case round =>
    obtain ⟨i, hi, rfl, hn, hb⟩ := hrel
    have HN := Lib.hid hn; clear hn
    have HB := Lib.hid hb; clear hb
    by_cases hlt : i < A.length
    · have t1 : (pl A i == []) = false := by simpa using HNE.out i hlt
      have c3 := C2.out i wr
      rw [HUP.out i hlt] at c3
      by_cases hx : pl A i = b
      · have t2 : (pl A i == b) = true := by simpa using hx
        have E := Lib.hid (show underL a b = true by rw [HU.out, ← hx]; simpa using pl_mem hlt)
        clear hx c3
        have HI := Lib.hid hi; clear hi
        go_wp2_with fail
        go_ret
        exact ⟨by rw [E.out]; rfl, HB.out⟩
      · have t2 : (pl A i == b) = false := by simpa using hx
        have HX := Lib.hid hx; clear hx
        have HI := Lib.hid hi; clear hi
        go_wp2_with (go_at_call 55; refine Calls.mono c3 ?_; rintro e w3 ⟨rfl, hb⟩; clear c3; have H3 := Lib.hid (HB.out.trans (hb.mono HB.out.size)); clear hb)
        go_roundg (A.length - (i + 1))
        case measure => have := HI.out; omega
        case rel => exact ⟨i + 1, by have := HI.out; omega, rfl, fun k hk => by
          by_cases q : k = i
          · rw [q]; exact HX.out
          · exact HN.out k (by omega), H3.out⟩
    · have E := Lib.hid (show underL a b = false by
        rw [HU.out, decide_eq_false_iff_not]
        intro hm
        obtain ⟨k, hk, e⟩ := mem_pl hm
        exact HN.out k (by omega) e)
      have t1 : pl A i = [] := pl_ge (by omega)
      rw [t1]
      clear t1 hi hlt
      go_wp2_with fail
      go_ret
      exact ⟨by rw [E.out]; rfl, HB.out⟩
end Go.Proofs.Ytnalnhplcchdoaa.Nm
