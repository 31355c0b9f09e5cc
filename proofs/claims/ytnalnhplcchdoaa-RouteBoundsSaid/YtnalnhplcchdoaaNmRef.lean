/-
  The document's own of chapter 5: Split, labels.
-/
import Derived.Test.YtnalnhplcchdoaaNmRow
import Derived.Test.YtnalnhplcchdoaaNmPrinc
set_option linter.unusedVariables false
namespace Go.Proofs.Ytnalnhplcchdoaa.Nm
open Go.RowKit Go.Proofs.Ytnalnhplcchdoaa.Mem
theorem ext_rng (l : List UInt8) (f k : Nat) : (ByteArray.mk l.toArray).extract f k = ByteArray.mk ((l.drop f).take (k - f)).toArray := by
  rw [ByteArray.extract_mk]
attribute [local go_sem] mk_at List.getElem_cons_zero List.getElem_cons_succ ext_rng

/-- the bytes from f up to k -/
def piece (l : L) (f k : Nat) : L := (l.drop f).take (k - f)
theorem piece_cut {l : L} {f k : Nat} (hf : f ≤ k) (hk : k < l.length) : l.drop f = piece l f k ++ l[k] :: l.drop (k + 1) := by
  have h1 : l.drop f = (l.drop f).take (k - f) ++ (l.drop f).drop (k - f) := (List.take_append_drop _ _).symm
  rw [List.drop_drop, show f + (k - f) = k by omega, List.drop_eq_getElem_cons hk] at h1
  exact h1
theorem piece_succ {l : L} {f k : Nat} (hf : f ≤ k) (hk : k < l.length) : piece l f (k + 1) = piece l f k ++ [l[k]] := by
  have h := piece_cut hf hk
  have hl : (piece l f k).length = k - f := by rw [piece, List.length_take, List.length_drop]; omega
  rw [piece, h, show k + 1 - f = (piece l f k).length + 1 by omega, List.take_append, List.take_of_length_le (by omega), Nat.add_sub_cancel_left]
  rfl
theorem piece_all {l : L} {f : Nat} : piece l f l.length = l.drop f := by rw [piece, List.take_of_length_le (by simp)]
theorem split_le (c : UInt8) (l : L) : (split c l).length ≤ l.length + 1 := by
  induction l with
  | nil => simp [split]
  | cons x r ih =>
    rw [split]; split
    · simp; omega
    · split <;> simp_all <;> omega

set_option maxHeartbeats 1600000 in
set_option maxRecDepth 100000 in
theorem split_any (l : L) (c : UInt8) (w : World) (hs : l.length ≤ 1000000000) : Calls Try.prog 58 #[.string ⟨l.toArray⟩, .int .u8 (c.toNat : Int)] w fun e w' => ∃ v, e = .returned v ∧ Own w' w.heap.size v (split c l) ∧ Below w.heap.size w w' := by
  obtain ⟨N, eN⟩ : ∃ N, N = w.heap.size := ⟨_, rfl⟩
  rw [← eN]
  have HB0 := Lib.hid (show Below N w w by exact Below.refl _ _)
  have EN := Lib.hid eN; clear eN
  have HNE0 := Lib.hid (show ∀ w1 : World, Below N w w1 → N ≤ w1.heap.size from fun w1 h => by have := h.size; have := EN.out; omega)
  go_enter Try.func58, Try.ntmps58
  go_wp2
  go_loopw [5, 6, 7] (fun vv fv iv wr => ∃ (f k : Nat) (ls : List L), f ≤ k ∧ k ≤ l.length ∧ fv = .int .i64 (f : Int) ∧ iv = .int .i64 (k : Int) ∧ Own wr N vv ls ∧ c ∉ piece l f k ∧ ls ++ split c (l.drop f) = split c l ∧ ls.length ≤ f ∧ Below N w wr) (fun _ _ iv _ => l.length - (intOf iv).toNat)
  case atStart => exact ⟨0, 0, [], Nat.le_refl _, Nat.zero_le _, rfl, rfl, Own.nil _ _, by simp [piece], by simp, by simp, HB0.out⟩
  case round =>
    obtain ⟨f, k, ls, hf, hk, rfl, rfl, ho, hc, hsp, hll, hb⟩ := hrel
    have HO := Lib.hid ho; clear ho
    have HB := Lib.hid hb; clear hb
    have HC := Lib.hid hc; clear hc
    have HSP := Lib.hid hsp; clear hsp
    by_cases hlt : k < l.length
    · have e1 : (k : Int) < (l.length : Int) := by omega
      have hpc := piece_cut hf hlt
      have hps := piece_succ hf hlt
      by_cases hx : l[k] = c
      · have t1 : ((l[k].toNat : Int) == (c.toNat : Int)) = true := by simp [hx]
        have hn : (ls ++ [piece l f k]) ++ split c (l.drop (k + 1)) = split c l := by
          rw [← HSP.out, hpc, hx, split_head HC.out]; simp
        have HN := Lib.hid hn; clear hn hpc hps hx
        have e2 : (f : Int) ≤ (k : Int) := by omega
        go_wp2_with (at_builtin; refine app_one rfl (.tmp 19) (.tmp 24) rfl N _ ls rfl HO.out (piece l f k) rfl (by omega) (HNE0.out _ HB.out) ?_; intro v' w3 ho3 hb3; have H3 := Lib.hid (HB.out.trans hb3); have HO3 := Lib.hid ho3; clear ho3 hb3)
        go_roundw
        case rel => exact ⟨k + 1, k + 1, _, Nat.le_refl _, by omega, by go_num, by go_num, HO3.out, by simp [piece], HN.out, by simp; omega, H3.out⟩
        case measure => simp [intOf]; omega
      · have t1 : ((l[k].toNat : Int) == (c.toNat : Int)) = false := by
          simp only [beq_eq_false_iff_ne, ne_eq]
          intro q
          exact hx (UInt8.toNat_inj.1 (by omega))
        have HC1 := Lib.hid (show c ∉ piece l f (k + 1) by
          rw [hps, List.mem_append, not_or]
          exact ⟨HC.out, by simpa using fun q : c = l[k] => hx q.symm⟩)
        clear hpc hps hx
        go_wp2
        go_roundw
        case rel => exact ⟨f, k + 1, ls, by omega, by omega, rfl, by go_num, HO.out, HC1.out, HSP.out, hll, HB.out⟩
        case measure => simp [intOf]; omega
    · obtain rfl : k = l.length := by omega
      have e1 : ¬ (l.length : Int) < (l.length : Int) := by omega
      have e2 : (f : Int) ≤ (l.length : Int) := by omega
      have hc := HC.out
      rw [piece_all] at hc
      have hn : ls ++ [piece l f l.length] = split c l := by rw [← HSP.out, split_none hc, piece_all]
      have HN := Lib.hid hn; clear hn hc
      go_wp2_with (at_builtin; refine app_one rfl (.tmp 28) (.tmp 32) rfl N _ ls rfl HO.out (piece l f l.length) rfl (by omega) (HNE0.out _ HB.out) ?_; intro v' w3 ho3 hb3; have H3 := Lib.hid (HB.out.trans hb3); have HO3 := Lib.hid ho3; clear ho3 hb3)
      go_ret
      exact ⟨_, rfl, by rw [← HN.out]; exact HO3.out, H3.out⟩
end Go.Proofs.Ytnalnhplcchdoaa.Nm
