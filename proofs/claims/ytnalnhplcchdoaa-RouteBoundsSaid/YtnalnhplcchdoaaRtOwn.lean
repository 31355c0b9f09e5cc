/-
  Rows of pairs of the call's own: what they are, append of one pair.
-/
import Derived.Test.YtnalnhplcchdoaaRtLib
set_option linter.unusedVariables false
namespace Go.Proofs.Ytnalnhplcchdoaa.Rt
open Go.RowKit Go.Proofs.Ytnalnhplcchdoaa.Mem Go.Proofs.Ytnalnhplcchdoaa.Nm

def prs (K : List Pr) : List Value := K.flatMap fun p => [st p.1, st p.2]
theorem prs_length (K : List Pr) : (prs K).length = K.length * 2 := by
  induction K with
  | nil => rfl
  | cons a t ih => simp only [prs, List.flatMap_cons, List.length_append, List.length_cons, List.length_nil] at ih ⊢; omega
theorem prs_append (K M : List Pr) : prs (K ++ M) = prs K ++ prs M := by simp [prs]
theorem prs_one (K : List Pr) : ∀ u ∈ prs K, u.oneCell' = true := by
  intro u hu
  obtain ⟨p, _, h⟩ := List.mem_flatMap.1 hu
  rcases List.mem_cons.1 h with h | h
  · subst h; rfl
  · rw [List.mem_singleton] at h; subst h; rfl
theorem prs_at : ∀ {K : List Pr} {i : Nat}, i < K.length → (prs K)[i * 2]? = some (st (kl K i).1) ∧ (prs K)[i * 2 + 1]? = some (st (kl K i).2)
  | [], i, h => by simp at h
  | a :: t, 0, _ => ⟨rfl, rfl⟩
  | a :: t, i + 1, h => by
    have := prs_at (K := t) (i := i) (by simpa using h)
    have e : prs (a :: t) = st a.1 :: st a.2 :: prs t := rfl
    rw [e, show (i + 1) * 2 = i * 2 + 2 by omega]
    exact this
theorem pair_info : (Try.prog.info? 43).map (fun i => (i.zero, i.size, i.bytes)) = some (some (.agg #[.string ⟨#[]⟩, .string ⟨#[]⟩]), 2, 32) := by kernel_rfl
/-- a row of pairs of the call's own, in blocks from base on; nil or not -/
def OwnP (w : World) (base : Nat) (v : Value) (K : List Pr) : Prop := w.ownsRow base 43 2 v K.length (prs K)
theorem OwnP.nil (w : World) (base : Nat) : OwnP w base (.slice none 0 0) [] := World.ownsRow_nil w base _ 2
theorem OwnP.below {w w' : World} {base : Nat} {v : Value} {K : List Pr} (h : OwnP w base v K) (hb : Below w.heap.size w w') : OwnP w' base v K := own_kept h hb
theorem OwnP.slice {w : World} {base : Nat} {v : Value} {K : List Pr} (h : OwnP w base v K) : SlP w w.heap.size v K := by
  have h' := h
  rcases h.2 with ⟨h1, h2⟩ | ⟨g, cap, cur, h1, hg, hh, hc, _⟩
  · have e : K = [] := List.eq_nil_of_length_eq_zero h2
    subst e
    exact ⟨none, 0, h1, Nat.le_refl _, .inl rfl⟩
  · subst h1
    refine ⟨_, cap, rfl, hc, .inr ⟨g, 0, rfl, (Array.getElem?_eq_some_iff.1 hh).1, fun i hi => ?_⟩⟩
    have h1 := h'.cells (g := g) rfl
    have h2 := prs_at hi
    have a1 := h1 _ _ h2.1
    have a2 := h1 _ _ h2.2
    rw [addr_add] at a1 a2
    rw [Nat.add_assoc]
    exact ⟨a1, a2⟩
theorem OwnP.lt {w : World} {base : Nat} {v : Value} {K : List Pr} (h : OwnP w base v K) : ∀ k, v.ownBlock = some k → base ≤ k ∧ k < w.heap.size := World.ownsRow.lt h
theorem own_sl {w : World} {base : Nat} {v : Value} {ls : List L} (h : Own w base v ls) : SlV w w.heap.size v ls := by
  have h' := h
  rcases h.2 with ⟨h1, h2⟩ | ⟨g, cap, cur, h1, hg, hh, hc, _⟩
  · have e : ls = [] := List.eq_nil_of_length_eq_zero h2
    subst e
    exact ⟨none, 0, h1, Nat.le_refl _, .inl rfl⟩
  · subst h1
    exact ⟨_, cap, rfl, hc, Rd.of_own (n := ls.length) (cap := cap) h'⟩
section
variable {w : World} {ops : Array Oper} {rest : List Oper} {o : Oper} {a : Act} {Q : Exit → Act → World → Prop}
/-- append of one pair -/
theorem papp_one (hgd : o.guard = none) (s x : Operand) (ho : o.op = .call { callee := .builtin .append, args := #[s, x], argTypes := #[23, 23] })
    (base : Nat) (v : Value) (K : List Pr) (hs : a.eval s = v) (hown : OwnP w base v K) (p : Pr) (hx : a.eval x = .slice (some ⟨w.heap.size, 0, none⟩) 1 1)
    (hl : K.length + 1 ≤ 1000000) (hb : base ≤ w.heap.size)
    (h : ∀ v' w', OwnP w' base v' (K ++ [p]) → Below base w w' → wpList Try.prog ops Q rest (a.put o.dst v') w') : wpList Try.prog ops Q (o :: rest) a (w.alloc (.cells #[.string ⟨p.1.toArray⟩, .string ⟨p.2.toArray⟩] 43)) := by
  obtain ⟨i0, hi0, hz0, hs0, hb0⟩ := info_parts pair_info
  have hb1 : Below w.heap.size w (w.alloc (.cells #[.string ⟨p.1.toArray⟩, .string ⟨p.2.toArray⟩] 43)) := (Below.refl _ _).alloc (Nat.le_refl _) _
  obtain ⟨v', w', hrun, h2, h3, _, _⟩ := run_append_own_at (P := Try.prog) (w.alloc (.cells #[.string ⟨p.1.toArray⟩, .string ⟨p.2.toArray⟩] 43)) base 23 o.type 43 i0 _ 2 32 Try.underlying23 hi0 hz0 hs0 hb0 rfl (by omega) v K.length (prs K) (hown.below hb1) ⟨w.heap.size, 0, none⟩ 1 1 (prs [p]) rfl (fun j u hu => by
      rw [addr_add, Nat.zero_add, (Blk.new w 43 _).cell j]
      have e : prs [p] = #[Value.string ⟨p.1.toArray⟩, .string ⟨p.2.toArray⟩].toList := rfl
      rw [e] at hu
      simpa using hu) (prs_one _) (by unfold maxLen; omega) (by omega) (Nat.le_trans hb hb1.size)
  refine wpList_plain hgd fun J hJ => ?_
  unfold Oper.wp execOp
  simp only [ho, resolve, invoke, builtin, Sem.run_bind, Sem.run_pure, Result.andThen_ok, List.map_toArray, List.map_cons, List.map_nil, hs, hx, hrun]
  refine hJ _ _ (h v' w' (by rw [OwnP, List.length_append, prs_append]; exact h2) ?_)
  exact (hb1.mono hb).grown h3 (Nat.le_trans hb hb1.size) (fun k hk => (hown.lt k hk).1)
end
end Go.Proofs.Ytnalnhplcchdoaa.Rt
