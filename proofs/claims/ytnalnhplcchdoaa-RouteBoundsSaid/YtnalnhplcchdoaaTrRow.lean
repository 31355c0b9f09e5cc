/-
  Rows of texts of the call's own, more: append leaves the elder row as it was, and every other block.
-/
import Derived.Test.YtnalnhplcchdoaaTrLib
import Derived.Laws.OwnMore
import Derived.Laws.AppendOwn
set_option linter.unusedVariables false
namespace Go.Proofs.Ytnalnhplcchdoaa.Tr
open Go.RowKit Go.Proofs.Ytnalnhplcchdoaa.Mem Go.Proofs.Ytnalnhplcchdoaa.Nm

/-- what changes from w to w' is the own block of v, and what is new; v' lies in one of these -/
def Far (w w' : World) (v v' : Value) : Prop := w.heap.size ≤ w'.heap.size ∧ ∀ b, b < w.heap.size → v.ownBlock ≠ some b → w'.heap[b]? = w.heap[b]? ∧ v'.ownBlock ≠ some b
theorem Far.refl (w : World) (v : Value) : Far w w v v := ⟨Nat.le_refl _, fun _ _ h => ⟨rfl, h⟩⟩
theorem Far.trans {w w1 w2 : World} {v v1 v2 : Value} (h : Far w w1 v v1) (k : Far w1 w2 v1 v2) : Far w w2 v v2 := by
  refine ⟨Nat.le_trans h.1 k.1, fun b hb hn => ?_⟩
  obtain ⟨a1, a2⟩ := h.2 b hb hn
  obtain ⟨c1, c2⟩ := k.2 b (Nat.lt_of_lt_of_le hb h.1) a2
  exact ⟨c1.trans a1, c2⟩
theorem Far.below {w w' : World} (v : Value) (h : Below w.heap.size w w') : Far w w' v v := ⟨h.size, fun b hb hn => ⟨h.block b hb, hn⟩⟩
theorem cell_same {w w' : World} {b : Nat} (h : w'.heap[b]? = w.heap[b]?) (o : Nat) : w'.cell? ⟨b, o, none⟩ = w.cell? ⟨b, o, none⟩ := by
  simp only [World.cell?, h]
/-- a row that reads and does not lie in v -/
def Off (A : Option Addr) (v : Value) : Prop := ∀ b o, A = some ⟨b, o, none⟩ → v.ownBlock ≠ some b
theorem Far.rd {w w' : World} {v v' : Value} {A : Option Addr} {xs : List Value} (h : Far w w' v v') (hr : Rd w w.heap.size A xs) (ho : Off A v) : Rd w' w'.heap.size A xs ∧ (xs = [] ∨ Off A v') := by
  rcases hr with g | ⟨b, o, rfl, hb, hc⟩
  · exact ⟨.inl g, .inl g⟩
  · obtain ⟨h1, h2⟩ := h.2 b hb (ho b o rfl)
    refine ⟨.inr ⟨b, o, rfl, Nat.lt_of_lt_of_le hb h.1, fun i u hu => (cell_same h1 _).trans (hc i u hu)⟩, .inr ?_⟩
    intro b' o' e
    injection e with e
    injection e with e1 e2
    subst e1
    exact h2
theorem off_new {w : World} {v : Value} {ls : List L} {base : Nat} (h : Own w base v ls) {w' : World} {v2 : Value} {A : Option Addr} {n c : Nat} {ms : List L} (h2 : Own w' w.heap.size v2 ms) (e : v2 = .slice A n c) : Off A v := by
  intro b o eA hb
  have h3 := (h.lt b hb).2
  subst eA
  subst e
  rcases h2.2 with ⟨q, _⟩ | ⟨g, cap, cur, q, hg, _⟩
  · cases q
  · injection q with q1
    injection q1 with q1
    injection q1 with q1 q2
    omega

/-- append of what reads: the elder row stays as it was -/
theorem run_keep (w : World) (base : Nat) (ty : TypeId) (v : Value) (ls : List L) (hown : Own w base v ls) (B : Nat) (a : Addr) (c : Nat) (ms : List L) (hr : Rd w B (some a) (strs ms))
    (hl : ls.length + ms.length ≤ 8000000000000) (hb : base ≤ w.heap.size) :
    ∃ v' w', (Builtin.append_ #[22, 22] ty #[v, .slice (some a) ms.length c]).run Try.prog w = .ok v' w' ∧ Own w' base v' (ls ++ ms) ∧ Own w' base v ls ∧ w.grownBy w' v.ownBlock ∧ (v'.ownBlock = v.ownBlock ∨ v'.ownBlock = some w.heap.size) := by
  obtain ⟨i0, hi0, hz0, hs0, hb0⟩ := info_parts str_info
  have hms : (strs ms).length = ms.length := strs_length ms
  obtain ⟨v', w', hrun, h2, h3, h4⟩ := run_append_rd (P := Try.prog) w base 22 ty 9 i0 _ 16 Try.underlying22 hi0 hz0 hs0 hb0 rfl v ls.length (strs ls) hown B (some a) ms.length c (strs ms) hms.symm hr (strs_one _) (by unfold maxLen; omega) (by omega) hb
  have hcell : ∀ j u, (strs ms)[j]? = some u → w.cell? (a.add j) = some u := by
    rcases hr with h | ⟨b, o, h1, _, h3⟩
    · rw [h]; intro i u hu; simp at hu
    · injection h1 with h1
      subst h1
      intro i u hu
      rw [addr_add]; exact h3 i u hu
  refine ⟨v', w', hrun, by rw [Own, List.length_append, strs_append]; exact h2, ?_, h3, h4⟩
  rcases hown.2 with ⟨rfl, hx⟩ | ⟨g, cap, cur, rfl, hbg, hg, hnc, hcm, hcs, htake⟩
  · have e : ls = [] := List.eq_nil_of_length_eq_zero hx
    subst e
    exact Own.nil _ _
  · by_cases hroom : ls.length + ms.length ≤ cap
    · obtain ⟨w2, hr2, ho2, _⟩ := run_append_fits (P := Try.prog) (w := w) base 22 ty 9 i0 1 Try.underlying22 hi0 hs0 g ls.length cap (strs ls) hown a ms.length c (strs ms) (by rw [hms]; omega) hcell (strs_one _) hroom
      rw [hrun] at hr2
      injection hr2 with e1 e2
      subst e1; subst e2
      rcases ho2.2 with ⟨q, _⟩ | ⟨g', cap', cur', q, hbg', hg', hnc', hcm', hcs', htake'⟩
      · cases q
      · injection q with q1 q2 q3
        injection q1 with q1
        injection q1 with q1
        subst q1; subst q3
        refine ⟨hown.1, .inr ⟨g, cap, cur', rfl, hbg, hg', hnc, hcm, hcs', ?_⟩⟩
        have e3 := congrArg (List.take (ls.length * 1)) htake'
        rw [List.take_take, Nat.min_eq_left (by omega)] at e3
        rw [e3, List.take_left' (by rw [strs_length]; omega)]
    · have holds : ∀ j u, (strs ls)[j]? = some u → w.cell? ((⟨g, 0, none⟩ : Addr).add j) = some u := World.ownsRow.cells (g := g) hown rfl
      have hr2 := run_append_grow (P := Try.prog) w 22 ty 9 i0 _ Try.underlying22 hi0 hz0 ⟨g, 0, none⟩ ls.length cap (strs ls) (by rw [hs0, strs_length]; omega) holds a ms.length c (strs ms) (by rw [hs0, hms]; omega) hcell (by omega) (by omega) (by rw [hb0]; exact growslice_fits (by omega) (by omega))
      rw [hrun] at hr2
      injection hr2 with e1 e2
      subst e2
      exact hown.below (((Below.refl _ _ : Below w.heap.size w w).drew).alloc (Nat.le_refl _) _)

section
variable {w : World} {ops : Array Oper} {rest : List Oper} {o : Oper} {a : Act} {Q : Exit → Act → World → Prop}
/-- append of one text: the elder row stays, and whatever lies elsewhere -/
theorem app_keep (hgd : o.guard = none) (s x : Operand) (ho : o.op = .call { callee := .builtin .append, args := #[s, x], argTypes := #[22, 22] })
    (base : Nat) (v : Value) (ls : List L) (hs : a.eval s = v) (hown : Own w base v ls) (r : L) (hx : a.eval x = .slice (some ⟨w.heap.size, 0, none⟩) 1 1)
    (hl : ls.length + 1 ≤ 8000000000000) (hb : base ≤ w.heap.size)
    (h : ∀ v' w', Own w' base v' (ls ++ [r]) → Own w' base v ls → Far w w' v v' → Below base w w' → wpList Try.prog ops Q rest (a.put o.dst v') w') : wpList Try.prog ops Q (o :: rest) a (w.alloc (.cells #[.string ⟨r.toArray⟩] 9)) := by
  have hb1 : Below w.heap.size w (w.alloc (.cells #[.string ⟨r.toArray⟩] 9)) := (Below.refl _ _).alloc (Nat.le_refl _) _
  have hsz : (w.alloc (.cells #[.string ⟨r.toArray⟩] 9)).heap.size = w.heap.size + 1 := by simp
  have hr : Rd (w.alloc (.cells #[.string ⟨r.toArray⟩] 9)) (w.heap.size + 1) (some ⟨w.heap.size, 0, none⟩) (strs [r]) := by
    refine .inr ⟨w.heap.size, 0, rfl, by omega, fun i u hu => ?_⟩
    cases i with
    | zero =>
      simp only [strs, List.map_cons, List.map_nil, List.getElem?_cons_zero, Option.some.injEq] at hu
      subst hu
      exact (Blk.new w 9 _).cell 0
    | succ i => simp [strs] at hu
  obtain ⟨v', w', hrun, h2, h3, h4, h5⟩ := run_keep _ base o.type v ls (hown.below hb1) (w.heap.size + 1) ⟨w.heap.size, 0, none⟩ 1 [r] hr hl (by omega)
  refine wpList_plain hgd fun K hK => ?_
  unfold Oper.wp execOp
  simp only [List.length_cons, List.length_nil, Nat.zero_add] at hrun
  simp only [ho, resolve, invoke, builtin, Sem.run_bind, Sem.run_pure, Result.andThen_ok, List.map_toArray, List.map_cons, List.map_nil, hs, hx, hrun]
  refine hK _ _ (h v' w' h2 h3 ⟨by have := h4.size; omega, fun b hb' hn => ⟨(h4.block b (by omega) (fun e => hn e.symm)).trans (hb1.block b hb'), ?_⟩⟩ ?_)
  · rcases h5 with g | g
    · rw [g]; exact hn
    · rw [g, hsz]; intro q; injection q with q; omega
  · exact (hb1.mono hb).grown h4 (by omega) (fun k hk => (hown.lt k hk).1)
end
end Go.Proofs.Ytnalnhplcchdoaa.Tr
