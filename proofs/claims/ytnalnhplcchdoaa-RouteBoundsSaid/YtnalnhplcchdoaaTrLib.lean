/-
  The library's functions that chapter 6 calls beside chapter 5's, at this program: a suffix, a text without it, without a prefix, is a text in a row.
-/
import Derived.Test.YtnalnhplcchdoaaNmRow
import Derived.Test.YtnalnhplcchdoaaTrPlain2
import Derived.IntWalk
set_option linter.unusedVariables false
namespace Go.Proofs.Ytnalnhplcchdoaa.Tr
open Go.RowKit Go.Proofs.Ytnalnhplcchdoaa.Mem Go.Proofs.Ytnalnhplcchdoaa.Nm
attribute [local go_sem] mk_at List.getElem_cons_zero List.getElem_cons_succ ext_tail ext_drop ext_mid ext_take

theorem suf_drop {p l : L} {k : Nat} (h : l.length = k + p.length) : (l.drop k == p) = sufL p l := by
  rw [Bool.eq_iff_iff, suf_iff, beq_iff_eq]
  constructor
  · intro e
    exact ⟨l.take k, by conv => rhs; rw [← e]
                        exact (List.take_append_drop k l).symm⟩
  · rintro ⟨u, rfl⟩
    have : k = u.length := by simp at h; omega
    rw [this]; simp
theorem suf_len {p l : L} (h : sufL p l = true) : p.length ≤ l.length := by
  obtain ⟨u, rfl⟩ := suf_iff.1 h
  simp
def tsL (p l : L) : L := if sufL p l then l.take (l.length - p.length) else l
def tpL (p l : L) : L := if preB p l then l.drop p.length else l
theorem preB_len {p l : L} (h : preB p l = true) : p.length ≤ l.length := by
  obtain ⟨u, rfl⟩ := preB_iff.1 h
  simp
/-! ### is a text in a row? -/
/-- the first place of it, or -1 -/
def ixL (r : L) (ls : List L) : Int := if r ∈ ls then ((ls.findIdx fun x => decide (x = r) : Nat) : Int) else -1
theorem ix_found {ls : List L} {r : L} {i : Nat} (hi : i < ls.length) (h : pl ls i = r) (hn : ∀ k, k < i → pl ls k ≠ r) : ixL r ls = (i : Int) := by
  have hm : r ∈ ls := by rw [← h]; exact pl_mem hi
  rw [ixL, if_pos hm]
  congr 1
  rcases Nat.lt_trichotomy (ls.findIdx fun x => decide (x = r)) i with g | g | g
  · have := List.findIdx_getElem (p := fun x => decide (x = r)) (w := (by omega : (ls.findIdx fun x => decide (x = r)) < ls.length))
    exact absurd (by rw [pl_lt (by omega)]; simpa using this) (hn _ g)
  · exact g
  · have := List.not_of_lt_findIdx g
    rw [pl_lt hi] at h
    simp [h] at this
theorem ix_none {ls : List L} {r : L} (hn : ∀ k, k < ls.length → pl ls k ≠ r) : ixL r ls = -1 := by
  rw [ixL, if_neg]
  intro hm
  obtain ⟨i, hi, e⟩ := mem_pl hm
  exact hn i hi e
theorem ix_ge (r : L) (ls : List L) : decide (0 ≤ ixL r ls) = decide (r ∈ ls) := by
  rw [ixL]
  by_cases h : r ∈ ls
  · rw [if_pos h]; simp [h]
  · rw [if_neg h]; simp [h]
set_option maxHeartbeats 400000 in
theorem sindex_any (ls : List L) (A : Option Addr) (c B : Nat) (r : L) (w : World) (hl : ls.length ≤ 9000000000000000) (hr : Rd w B A (strs ls)) :
    Calls Try.prog 52 #[.slice A ls.length c, .string ⟨r.toArray⟩] w fun e w' => e = .returned (.int .i64 (ixL r ls)) ∧ w = w' := by
  have HR := Lib.hid hr; clear hr
  obtain ⟨n, en⟩ : ∃ n, n = ls.length := ⟨_, rfl⟩
  rw [← en] at hl ⊢
  have EN := Lib.hid en; clear en
  go_enter Try.func52, Try.ntmps52
  go_wp2
  go_loop [8] (fun iv => ∃ i : Nat, i ≤ n ∧ iv = .int .i64 (i : Int) ∧ ∀ k, k < i → pl ls k ≠ r) (fun iv => n - (intOf iv).toNat)
  case atStart => exact ⟨0, Nat.zero_le _, rfl, fun k h => absurd h (Nat.not_lt_zero k)⟩
  case round =>
    obtain ⟨i, hi, rfl, hn⟩ := hrel
    have HN := Lib.hid hn; clear hn
    by_cases hlt : i < n
    · have e1 : (i : Int) < (n : Int) := by omega
      have e2 : (0 : Int) ≤ (i : Int) := by omega
      obtain ⟨b, o, rfl, _, h1⟩ := rd_txt HR.out (i := i) (by rw [← EN.out]; exact hlt)
      by_cases hx : pl ls i = r
      · have t1 : (r == pl ls i) = true := by simpa using hx.symm
        have E := Lib.hid (ix_found (by rw [← EN.out]; exact hlt) hx HN.out)
        clear hx
        go_wp2
        go_ret
        exact ⟨by rw [E.out]; rfl, rfl⟩
      · have t1 : (r == pl ls i) = false := by simpa using fun g : r = pl ls i => hx g.symm
        have HX := Lib.hid hx; clear hx
        go_wp2
        go_round
        case rel => exact ⟨i + 1, by omega, by go_num, fun k hk => by
          by_cases q : k = i
          · rw [q]; exact HX.out
          · exact HN.out k (by omega)⟩
        case measure => simp [intOf]; omega
    · have e1 : ¬ (i : Int) < (n : Int) := by omega
      have E := Lib.hid (ix_none (ls := ls) (r := r) fun k hk => HN.out k (by have := EN.out; omega))
      go_wp2
      go_ret
      exact ⟨by rw [E.out]; rfl, rfl⟩
theorem contains_any (ls : List L) (A : Option Addr) (c B : Nat) (r : L) (w : World) (hl : ls.length ≤ 9000000000000000) (hr : Rd w B A (strs ls)) :
    Calls Try.prog 40 #[.slice A ls.length c, .string ⟨r.toArray⟩] w fun e w' => e = .returned (.bool (decide (r ∈ ls))) ∧ w = w' := by
  have c1 := sindex_any ls A c B r w hl hr
  have E := Lib.hid (ix_ge r ls)
  obtain ⟨z, ez⟩ : ∃ z, z = ixL r ls := ⟨_, rfl⟩
  rw [← ez] at c1
  have EZ := Lib.hid ez; clear ez hr
  go_enter Try.func40, Try.ntmps40
  go_wp2_with (go_at_call 52; refine Calls.mono c1 ?_; rintro e w1 ⟨rfl, rfl⟩)
  go_ret
  exact ⟨by rw [← E.out, ← EZ.out]; rfl, rfl⟩
end Go.Proofs.Ytnalnhplcchdoaa.Tr
