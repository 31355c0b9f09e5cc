/-
  Rows of texts of the call's own: what they are, append of one text or of a row, slices.Reverse.
-/
import Derived.Test.YtnalnhplcchdoaaNmUp
import Derived.Deep.LoopGhost
import Derived.Laws.OwnMore
set_option linter.unusedVariables false
namespace Go.Proofs.Ytnalnhplcchdoaa.Nm
open Go.RowKit Go.Proofs.Ytnalnhplcchdoaa.Mem

def st (l : L) : Value := .string ⟨l.toArray⟩
def strs (ls : List L) : List Value := ls.map st
theorem strs_length (ls : List L) : (strs ls).length = ls.length := by simp [strs]
theorem strs_append (ls ms : List L) : strs (ls ++ ms) = strs ls ++ strs ms := by simp [strs]
theorem strs_one (ls : List L) : ∀ u ∈ strs ls, u.oneCell' = true := by
  intro u hu
  obtain ⟨b, _, rfl⟩ := List.mem_map.1 hu
  rfl
theorem strs_at {ls : List L} {i : Nat} (h : i < ls.length) : (strs ls)[i]? = some (st (pl ls i)) := by
  rw [strs, List.getElem?_map, List.getElem?_eq_getElem h, pl_lt h]; rfl
theorem str_info : (Try.prog.info? 9).map (fun i => (i.zero, i.size, i.bytes)) = some (some (.string ⟨#[]⟩), 1, 16) := by kernel_rfl

/-- a row of texts of the call's own, in blocks from base on; nil or not -/
def Own (w : World) (base : Nat) (v : Value) (ls : List L) : Prop := w.ownsRow base 9 1 v ls.length (strs ls)
theorem Own.nil (w : World) (base : Nat) : Own w base (.slice none 0 0) [] := World.ownsRow_nil w base _ 1
theorem Own.below {w w' : World} {base : Nat} {v : Value} {ls : List L} (h : Own w base v ls) (hb : Below w.heap.size w w') : Own w' base v ls := own_kept h hb
theorem Own.from_ {w : World} {base base' : Nat} {v : Value} {ls : List L} (h : Own w base v ls) (hb : base' ≤ base) : Own w base' v ls := by
  refine ⟨h.1, ?_⟩
  rcases h.2 with h | ⟨g, cap, cur, h1, h2, h3⟩
  · exact .inl h
  · exact .inr ⟨g, cap, cur, h1, by omega, h3⟩
theorem Own.slice {w : World} {base : Nat} {v : Value} {ls : List L} (h : Own w base v ls) : ∃ A c, v = .slice A ls.length c ∧ Rd w w.heap.size A (strs ls) := by
  have h' := h
  rcases h.2 with ⟨h1, h2⟩ | ⟨g, cap, cur, h1, _⟩
  · have e : ls = [] := List.eq_nil_of_length_eq_zero h2
    subst e
    exact ⟨none, 0, h1, .inl rfl⟩
  · subst h1
    exact ⟨_, cap, rfl, Rd.of_own (n := ls.length) (cap := cap) h'⟩
theorem Own.lt {w : World} {base : Nat} {v : Value} {ls : List L} (h : Own w base v ls) : ∀ k, v.ownBlock = some k → base ≤ k ∧ k < w.heap.size := World.ownsRow.lt h
/-- place i of a row that reads -/
theorem rd_txt {w : World} {B : Nat} {A : Option Addr} {ls : List L} (h : Rd w B A (strs ls)) {i : Nat} (hi : i < ls.length) : ∃ b o, A = some ⟨b, o, none⟩ ∧ b < B ∧ w.cell? ⟨b, o + i, none⟩ = some (.string ⟨(pl ls i).toArray⟩) :=
  h.at_ (strs_at hi)

section
variable {w : World} {ops : Array Oper} {rest : List Oper} {o : Oper} {a : Act} {Q : Exit → Act → World → Prop}
/-- append of a row that reads -/
theorem app_rd (hgd : o.guard = none) (s x : Operand) (ho : o.op = .call { callee := .builtin .append, args := #[s, x], argTypes := #[22, 22] })
    (base : Nat) (v : Value) (ls : List L) (hs : a.eval s = v) (hown : Own w base v ls) (B : Nat) (A : Option Addr) (c : Nat) (ms : List L) (hx : a.eval x = .slice A ms.length c) (hr : Rd w B A (strs ms))
    (hl : ls.length + ms.length ≤ 8000000000000) (hb : base ≤ w.heap.size)
    (h : ∀ v' w', Own w' base v' (ls ++ ms) → Below base w w' → wpList Try.prog ops Q rest (a.put o.dst v') w') : wpList Try.prog ops Q (o :: rest) a w := by
  obtain ⟨i0, hi0, hz0, hs0, hb0⟩ := info_parts str_info
  refine wpList_append_rd w hgd s x 22 ho base 9 i0 _ 16 Try.underlying22 hi0 hz0 hs0 hb0 rfl v ls.length (strs ls) hs hown B A ms.length c (strs ms) hx (strs_length _).symm hr (strs_one _) (by unfold maxLen; omega) (by omega) hb ?_
  intro v' w' h1 h2 _
  refine h v' w' (by rw [Own, List.length_append, strs_append]; exact h1) ?_
  exact (Below.refl _ _).grown h2 hb (fun k hk => (hown.lt k hk).1)
/-- append of one text -/
theorem app_one (hgd : o.guard = none) (s x : Operand) (ho : o.op = .call { callee := .builtin .append, args := #[s, x], argTypes := #[22, 22] })
    (base : Nat) (v : Value) (ls : List L) (hs : a.eval s = v) (hown : Own w base v ls) (r : L) (hx : a.eval x = .slice (some ⟨w.heap.size, 0, none⟩) 1 1)
    (hl : ls.length + 1 ≤ 8000000000000) (hb : base ≤ w.heap.size)
    (h : ∀ v' w', Own w' base v' (ls ++ [r]) → Below base w w' → wpList Try.prog ops Q rest (a.put o.dst v') w') : wpList Try.prog ops Q (o :: rest) a (w.alloc (.cells #[.string ⟨r.toArray⟩] 9)) := by
  refine app_rd hgd s x ho base v ls hs (hown.below ((Below.refl _ _).alloc (Nat.le_refl _) _)) (w.heap.size + 1) _ 1 [r] hx ?_ hl (by simp; omega) ?_
  · refine .inr ⟨w.heap.size, 0, rfl, by omega, fun i u hu => ?_⟩
    cases i with
    | zero =>
      simp only [strs, List.map_cons, List.map_nil, List.getElem?_cons_zero, Option.some.injEq] at hu
      subst hu
      exact (Blk.new w 9 _).cell 0
    | succ i => simp [strs] at hu
  · intro v' w' h1 h2
    exact h v' w' h1 (((Below.refl _ _).alloc hb _).trans h2)
end

/-! ### slices.Reverse -/
/-- the first k and the last k in each other's places -/
def rev (ls : List L) (k : Nat) : List L := (List.range ls.length).map fun j => if j < k ∨ ls.length ≤ j + k then pl ls (ls.length - 1 - j) else pl ls j
theorem rev_length (ls : List L) (k : Nat) : (rev ls k).length = ls.length := by simp [rev]
theorem rev_at (ls : List L) (k j : Nat) (h : j < ls.length) : pl (rev ls k) j = if j < k ∨ ls.length ≤ j + k then pl ls (ls.length - 1 - j) else pl ls j := by
  rw [pl_lt (by rw [rev_length]; exact h)]; simp [rev]
theorem pl_ext {A B : List L} (h : A.length = B.length) (hp : ∀ i, i < A.length → pl A i = pl B i) : A = B := by
  apply List.ext_getElem h
  intro i h1 h2
  have := hp i h1
  rwa [pl_lt h1, pl_lt h2] at this
theorem rev_zero (ls : List L) : rev ls 0 = ls := by
  refine pl_ext (rev_length _ _) fun i hi => ?_
  rw [rev_length] at hi
  rw [rev_at _ _ _ hi, if_neg (by omega)]
theorem rev_all (ls : List L) (k : Nat) (h : ls.length ≤ 2 * k + 1) (hk : k ≤ ls.length) : rev ls k = ls.reverse := by
  refine pl_ext (by rw [rev_length]; simp) fun i hi => ?_
  rw [rev_length] at hi
  rw [rev_at _ _ _ hi, pl_lt (A := ls.reverse) (by simpa using hi), List.getElem_reverse, ← pl_lt]
  by_cases q : i < k ∨ ls.length ≤ i + k
  · rw [if_pos q]
  · rw [if_neg q, show ls.length - 1 - i = i by omega]
theorem pl_set (A : List L) (i j : Nat) (x : L) (h : j < A.length) : pl (A.set i x) j = if i = j then x else pl A j := by
  rw [pl_lt (by simpa using h), List.getElem_set, pl_lt h]
theorem rev_step (ls : List L) (k : Nat) (h : 2 * k + 1 < ls.length) : ((rev ls k).set k (pl (rev ls k) (ls.length - 1 - k))).set (ls.length - 1 - k) (pl (rev ls k) k) = rev ls (k + 1) := by
  refine pl_ext (by simp [rev_length]) fun i hi => ?_
  simp only [List.length_set, rev_length] at hi
  rw [pl_set _ _ _ _ (by simp [rev_length]; omega), pl_set _ _ _ _ (by rw [rev_length]; omega), rev_at _ _ _ hi, rev_at _ _ i hi, rev_at _ _ k (by omega), rev_at _ _ (ls.length - 1 - k) (by omega)]
  by_cases q1 : ls.length - 1 - k = i
  · rw [if_pos q1, if_neg (by omega), if_pos (by omega), show ls.length - 1 - i = k by omega]
  · rw [if_neg q1]
    by_cases q2 : k = i
    · rw [if_pos q2, if_neg (by omega), if_pos (by omega), q2]
    · rw [if_neg q2]
      by_cases q3 : i < k ∨ ls.length ≤ i + k
      · rw [if_pos q3, if_pos (by omega)]
      · rw [if_neg q3, if_neg (by omega)]
theorem strs_set (ls : List L) (i : Nat) (x : L) : strs (ls.set i x) = (strs ls).set i (st x) := by simp [strs, List.map_set]

theorem Own.stored {w : World} {base g n cap : Nat} {ls : List L} (h : Own w base (.slice (some ⟨g, 0, none⟩) n cap) ls) (hn : n = ls.length) (j : Nat) (x : L) :
    Own (w.setCell ⟨g, j, none⟩ (.string ⟨x.toArray⟩)) base (.slice (some ⟨g, 0, none⟩) n cap) (ls.set j x) ∧ w.grownBy (w.setCell ⟨g, j, none⟩ (.string ⟨x.toArray⟩)) (some g) := by
  subst hn
  have := World.ownsRow.stored h j (st x)
  refine ⟨?_, this.2⟩
  rw [Own, List.length_set, strs_set]
  exact this.1
theorem Own.drew {w : World} {base : Nat} {v : Value} {ls : List L} (h : Own w base v ls) : Own w.drew base v ls := h
end Go.Proofs.Ytnalnhplcchdoaa.Nm
