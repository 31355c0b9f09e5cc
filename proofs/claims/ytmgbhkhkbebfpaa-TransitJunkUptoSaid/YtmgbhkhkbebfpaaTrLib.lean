/-
  The library's functions that chapter 6 calls beside chapter 5's, at this program: a suffix, a text without it, without a prefix, is a text in a row.
-/
import Derived.Test.YtmgbhkhkbebfpaaNmRow
import Derived.Test.YtmgbhkhkbebfpaaTrPlain2
import Derived.IntWalk
set_option linter.unusedVariables false
namespace Go.Proofs.Ytmgbhkhkbebfpaa.Tr
open Go.RowKit Go.Proofs.Ytmgbhkhkbebfpaa.Mem Go.Proofs.Ytmgbhkhkbebfpaa.Nm
attribute [local go_sem] mk_at List.getElem_cons_zero List.getElem_cons_succ ext_tail ext_drop ext_mid ext_take

theorem suf_drop {p l : L} {k : Nat} (h : l.length = k + p.length) : (l.drop k == p) = sufL p l := by
  rw [Bool.eq_iff_iff, suf_iff, beq_iff_eq]
  constructor
  · intro e
    exact ⟨l.take k, by conv => rhs; rw [← e]
                        exact (List.take_append_drop k l).symm⟩
  · rintro ⟨u, rfl⟩
    have : k = u.length := by simp at h; omega
    rw [this]; simp
theorem suf_len {p l : L} (h : sufL p l = true) : p.length ≤ l.length := by
  obtain ⟨u, rfl⟩ := suf_iff.1 h
  simp
set_option maxHeartbeats 400000 in
theorem hassuffix_any (l p : L) (w : World) (hs : l.length ≤ 1000000000) (hp : p.length ≤ 1000000000) : Calls Try.prog 57 #[.string ⟨l.toArray⟩, .string ⟨p.toArray⟩] w fun e w' =>
    e = .returned (.bool (sufL p l)) ∧ w = w' := by
  by_cases h : p.length ≤ l.length
  · obtain ⟨k, hk⟩ : ∃ k, l.length = k + p.length := ⟨l.length - p.length, by omega⟩
    have E := Lib.hid (suf_drop hk)
    have e1 : (p.length : Int) ≤ (l.length : Int) := by omega
    have e2 : (l.length : Int) - (p.length : Int) = (k : Int) := by omega
    have e3 : (k : Int) ≤ (l.length : Int) := by omega
    clear h hk
    go_enter Try.func57, Try.ntmps57
    go_wp2
    go_ret
    exact ⟨by rw [← E.out]; rfl, rfl⟩
  · have E := Lib.hid (show sufL p l = false by
      cases q : sufL p l with
      | false => rfl
      | true => exact absurd (suf_len q) h)
    have e1 : ¬ (p.length : Int) ≤ (l.length : Int) := by omega
    clear h
    go_enter Try.func57, Try.ntmps57
    go_wp2
    go_ret
    exact ⟨by rw [E.out]; rfl, rfl⟩
theorem shassuffix_any (l p : L) (w : World) (hs : l.length ≤ 1000000000) (hp : p.length ≤ 1000000000) : Calls Try.prog 46 #[.string ⟨l.toArray⟩, .string ⟨p.toArray⟩] w fun e w' =>
    e = .returned (.bool (sufL p l)) ∧ w = w' := by
  have c1 := hassuffix_any l p w hs hp
  go_enter Try.func46, Try.ntmps46
  go_wp2_with (go_at_call 57; refine Calls.mono c1 ?_; rintro e w1 ⟨rfl, rfl⟩)
  go_ret
  exact ⟨rfl, rfl⟩
theorem shasprefix_any (l p : L) (w : World) (hs : l.length ≤ 1000000000) (hp : p.length ≤ 1000000000) : Calls Try.prog 47 #[.string ⟨l.toArray⟩, .string ⟨p.toArray⟩] w fun e w' =>
    e = .returned (.bool (preB p l)) ∧ w = w' := by
  have c1 : Calls Try.prog 58 #[.string ⟨l.toArray⟩, .string ⟨p.toArray⟩] w fun e w' => e = .returned (.bool (preB p l)) ∧ w = w' := hasprefix_any l p w hs hp
  go_enter Try.func47, Try.ntmps47
  go_wp2_with (go_at_call 58; refine Calls.mono c1 ?_; rintro e w1 ⟨rfl, rfl⟩)
  go_ret
  exact ⟨rfl, rfl⟩
def tsL (p l : L) : L := if sufL p l then l.take (l.length - p.length) else l
def tpL (p l : L) : L := if preB p l then l.drop p.length else l
set_option maxHeartbeats 400000 in
theorem litetrimsuffix_any (l p : L) (w : World) (hs : l.length ≤ 1000000000) (hp : p.length ≤ 1000000000) : Calls Try.prog 54 #[.string ⟨l.toArray⟩, .string ⟨p.toArray⟩] w fun e w' =>
    e = .returned (.string ⟨(tsL p l).toArray⟩) ∧ w = w' := by
  have c1 := hassuffix_any l p w hs hp
  by_cases h : sufL p l = true
  · have h1 := suf_len h
    obtain ⟨k, hk⟩ : ∃ k, l.length = k + p.length := ⟨l.length - p.length, by omega⟩
    have E := Lib.hid (show tsL p l = l.take k by rw [tsL, if_pos h]; congr 1; omega)
    rw [h] at c1
    have e2 : (l.length : Int) - (p.length : Int) = (k : Int) := by omega
    have e3 : (k : Int) ≤ (l.length : Int) := by omega
    clear h h1 hk
    go_enter Try.func54, Try.ntmps54
    go_wp2_with (go_at_call 57; refine Calls.mono c1 ?_; rintro e w1 ⟨rfl, rfl⟩)
    go_ret
    exact ⟨by rw [E.out]; rfl, rfl⟩
  · have h : sufL p l = false := by simpa using h
    have E := Lib.hid (show tsL p l = l by rw [tsL, if_neg (by simp [h])])
    rw [h] at c1
    clear h
    go_enter Try.func54, Try.ntmps54
    go_wp2_with (go_at_call 57; refine Calls.mono c1 ?_; rintro e w1 ⟨rfl, rfl⟩)
    go_ret
    exact ⟨by rw [E.out]; rfl, rfl⟩
theorem trimsuffix_any (l p : L) (w : World) (hs : l.length ≤ 1000000000) (hp : p.length ≤ 1000000000) : Calls Try.prog 43 #[.string ⟨l.toArray⟩, .string ⟨p.toArray⟩] w fun e w' =>
    e = .returned (.string ⟨(tsL p l).toArray⟩) ∧ w = w' := by
  have c1 := litetrimsuffix_any l p w hs hp
  go_enter Try.func43, Try.ntmps43
  go_wp2_with (go_at_call 54; refine Calls.mono c1 ?_; rintro e w1 ⟨rfl, rfl⟩)
  go_ret
  exact ⟨rfl, rfl⟩
theorem preB_len {p l : L} (h : preB p l = true) : p.length ≤ l.length := by
  obtain ⟨u, rfl⟩ := preB_iff.1 h
  simp
set_option maxHeartbeats 400000 in
theorem litetrimprefix_any (l p : L) (w : World) (hs : l.length ≤ 1000000000) (hp : p.length ≤ 1000000000) : Calls Try.prog 55 #[.string ⟨l.toArray⟩, .string ⟨p.toArray⟩] w fun e w' =>
    e = .returned (.string ⟨(tpL p l).toArray⟩) ∧ w = w' := by
  have c1 : Calls Try.prog 58 #[.string ⟨l.toArray⟩, .string ⟨p.toArray⟩] w fun e w' => e = .returned (.bool (preB p l)) ∧ w = w' := hasprefix_any l p w hs hp
  by_cases h : preB p l = true
  · have h1 := preB_len h
    have E := Lib.hid (show tpL p l = l.drop p.length by rw [tpL, if_pos h])
    rw [h] at c1
    have e3 : (p.length : Int) ≤ (l.length : Int) := by omega
    clear h h1
    go_enter Try.func55, Try.ntmps55
    go_wp2_with (go_at_call 58; refine Calls.mono c1 ?_; rintro e w1 ⟨rfl, rfl⟩)
    go_ret
    exact ⟨by rw [E.out]; rfl, rfl⟩
  · have h : preB p l = false := by simpa using h
    have E := Lib.hid (show tpL p l = l by rw [tpL, if_neg (by simp [h])])
    rw [h] at c1
    clear h
    go_enter Try.func55, Try.ntmps55
    go_wp2_with (go_at_call 58; refine Calls.mono c1 ?_; rintro e w1 ⟨rfl, rfl⟩)
    go_ret
    exact ⟨by rw [E.out]; rfl, rfl⟩
theorem trimprefix_any (l p : L) (w : World) (hs : l.length ≤ 1000000000) (hp : p.length ≤ 1000000000) : Calls Try.prog 44 #[.string ⟨l.toArray⟩, .string ⟨p.toArray⟩] w fun e w' =>
    e = .returned (.string ⟨(tpL p l).toArray⟩) ∧ w = w' := by
  have c1 := litetrimprefix_any l p w hs hp
  go_enter Try.func44, Try.ntmps44
  go_wp2_with (go_at_call 55; refine Calls.mono c1 ?_; rintro e w1 ⟨rfl, rfl⟩)
  go_ret
  exact ⟨rfl, rfl⟩

/-! ### is a text in a row? -/
/-- the first place of it, or -1 -/
def ixL (r : L) (ls : List L) : Int := if r ∈ ls then ((ls.findIdx fun x => decide (x = r) : Nat) : Int) else -1
theorem ix_found {ls : List L} {r : L} {i : Nat} (hi : i < ls.length) (h : pl ls i = r) (hn : ∀ k, k < i → pl ls k ≠ r) : ixL r ls = (i : Int) := by
  have hm : r ∈ ls := by rw [← h]; exact pl_mem hi
  rw [ixL, if_pos hm]
  congr 1
  rcases Nat.lt_trichotomy (ls.findIdx fun x => decide (x = r)) i with g | g | g
  · have := List.findIdx_getElem (p := fun x => decide (x = r)) (w := (by omega : (ls.findIdx fun x => decide (x = r)) < ls.length))
    exact absurd (by rw [pl_lt (by omega)]; simpa using this) (hn _ g)
  · exact g
  · have := List.not_of_lt_findIdx g
    rw [pl_lt hi] at h
    simp [h] at this
theorem ix_none {ls : List L} {r : L} (hn : ∀ k, k < ls.length → pl ls k ≠ r) : ixL r ls = -1 := by
  rw [ixL, if_neg]
  intro hm
  obtain ⟨i, hi, e⟩ := mem_pl hm
  exact hn i hi e
theorem ix_ge (r : L) (ls : List L) : decide (0 ≤ ixL r ls) = decide (r ∈ ls) := by
  rw [ixL]
  by_cases h : r ∈ ls
  · rw [if_pos h]; simp [h]
  · rw [if_neg h]; simp [h]
set_option maxHeartbeats 400000 in
theorem sindex_any (ls : List L) (A : Option Addr) (c B : Nat) (r : L) (w : World) (hl : ls.length ≤ 9000000000000000) (hr : Rd w B A (strs ls)) :
    Calls Try.prog 50 #[.slice A ls.length c, .string ⟨r.toArray⟩] w fun e w' => e = .returned (.int .i64 (ixL r ls)) ∧ w = w' := by
  have HR := Lib.hid hr; clear hr
  obtain ⟨n, en⟩ : ∃ n, n = ls.length := ⟨_, rfl⟩
  rw [← en] at hl ⊢
  have EN := Lib.hid en; clear en
  go_enter Try.func50, Try.ntmps50
  go_wp2
  go_loop [8] (fun iv => ∃ i : Nat, i ≤ n ∧ iv = .int .i64 (i : Int) ∧ ∀ k, k < i → pl ls k ≠ r) (fun iv => n - (intOf iv).toNat)
  case atStart => exact ⟨0, Nat.zero_le _, rfl, fun k h => absurd h (Nat.not_lt_zero k)⟩
  case round =>
    obtain ⟨i, hi, rfl, hn⟩ := hrel
    have HN := Lib.hid hn; clear hn
    by_cases hlt : i < n
    · have e1 : (i : Int) < (n : Int) := by omega
      have e2 : (0 : Int) ≤ (i : Int) := by omega
      obtain ⟨b, o, rfl, _, h1⟩ := rd_txt HR.out (i := i) (by rw [← EN.out]; exact hlt)
      by_cases hx : pl ls i = r
      · have t1 : (r == pl ls i) = true := by simpa using hx.symm
        have E := Lib.hid (ix_found (by rw [← EN.out]; exact hlt) hx HN.out)
        clear hx
        go_wp2
        go_ret
        exact ⟨by rw [E.out]; rfl, rfl⟩
      · have t1 : (r == pl ls i) = false := by simpa using fun g : r = pl ls i => hx g.symm
        have HX := Lib.hid hx; clear hx
        go_wp2
        go_round
        case rel => exact ⟨i + 1, by omega, by go_num, fun k hk => by
          by_cases q : k = i
          · rw [q]; exact HX.out
          · exact HN.out k (by omega)⟩
        case measure => simp [intOf]; omega
    · have e1 : ¬ (i : Int) < (n : Int) := by omega
      have E := Lib.hid (ix_none (ls := ls) (r := r) fun k hk => HN.out k (by have := EN.out; omega))
      go_wp2
      go_ret
      exact ⟨by rw [E.out]; rfl, rfl⟩
theorem contains_any (ls : List L) (A : Option Addr) (c B : Nat) (r : L) (w : World) (hl : ls.length ≤ 9000000000000000) (hr : Rd w B A (strs ls)) :
    Calls Try.prog 37 #[.slice A ls.length c, .string ⟨r.toArray⟩] w fun e w' => e = .returned (.bool (decide (r ∈ ls))) ∧ w = w' := by
  have c1 := sindex_any ls A c B r w hl hr
  have E := Lib.hid (ix_ge r ls)
  obtain ⟨z, ez⟩ : ∃ z, z = ixL r ls := ⟨_, rfl⟩
  rw [← ez] at c1
  have EZ := Lib.hid ez; clear ez hr
  go_enter Try.func37, Try.ntmps37
  go_wp2_with (go_at_call 50; refine Calls.mono c1 ?_; rintro e w1 ⟨rfl, rfl⟩)
  go_ret
  exact ⟨by rw [← E.out, ← EZ.out]; rfl, rfl⟩
end Go.Proofs.Ytmgbhkhkbebfpaa.Tr
