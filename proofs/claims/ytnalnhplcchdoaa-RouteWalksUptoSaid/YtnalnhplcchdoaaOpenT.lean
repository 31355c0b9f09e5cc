/-
  Topologies that came in, opened: rows of texts, of pairs, of paths; what the bound of the second form says of them.
-/
import Derived.Test.YtnalnhplcchdoaaOpenU
import Derived.Test.YtnalnhplcchdoaaRtBig
import Derived.Lib.SmallJoins
set_option linter.unusedVariables false
namespace Go.Proofs.Ytnalnhplcchdoaa.Open
open Go.Joins Go.ChangeShapes Go.WideShapes Go.ChangeAt Go.RowKit Go.Deep Go.Proofs.Ytnalnhplcchdoaa Go.Proofs.Ytnalnhplcchdoaa.Mem Go.Proofs.Ytnalnhplcchdoaa.Rt

theorem fn_list {α : Type} {n : Nat} {p : Nat → α → Prop} (h : ∀ i, i < n → ∃ a, p i a) : ∃ l : List α, l.length = n ∧ ∀ i (hi : i < l.length), p i l[i] := by
  induction n with
  | zero => exact ⟨[], rfl, fun i hi => by simp at hi⟩
  | succ n ih =>
    obtain ⟨l, hl, hp⟩ := ih fun i hi => h i (by omega)
    obtain ⟨a, ha⟩ := h n (by omega)
    refine ⟨l ++ [a], by simp [hl], fun i hi => ?_⟩
    rw [List.length_append, List.length_singleton] at hi
    by_cases g : i < l.length
    · rw [List.getElem_append_left g]; exact hp i g
    · obtain rfl : i = l.length := by omega
      rw [List.getElem_append_right (Nat.le_refl _)]
      simp only [Nat.sub_self, List.getElem_cons_zero]
      rw [hl]; exact ha
section
variable {H : Type} {enc : TypeId × Value → H} {P : Program} {W : World}
theorem sum_bulk {α : Type} (f : α → Nat) : ∀ (l : List α) (ds : List (DataW H)) (hl : l.length = ds.length), (∀ i (hi : i < l.length), f l[i] ≤ Rows.uptoBulk (ds[i]'(by omega))) → sumF f l ≤ Rows.uptoBulkAll ds
  | [], [], _, _ => by simp [sumF]
  | a :: l, d :: ds, hl, h => by
    have h0 := h 0 (by simp)
    have ih := sum_bulk f l ds (by simpa using hl) fun i hi => h (i + 1) (by simpa using hi)
    rw [Rows.uptoBulkAll]
    simp only [List.getElem_cons_zero] at h0
    simp only [sumF, List.map_cons, List.sum_cons] at ih ⊢
    omega
  | [], d :: ds, hl, _ => by simp at hl
  | a :: l, [], hl, _ => by simp at hl
theorem sl_of {A : Option Addr} {ls : List Nm.L} {c : Nat} (h : Rd W W.heap.size A (Nm.strs ls)) (hc : ls.length ≤ c) : SlV W W.heap.size (.slice A ls.length c) ls := ⟨A, c, rfl, hc, h⟩
/-- a row of texts that came in -/
theorem in_texts {t e : TypeId} {n : Nat} {cs : List Value} {x : DataW H × List MemPlace} (ht : P.underlying t = some (.slice e)) (he : P.underlying e = some .string) (hc : P.cellsOf e = 1)
    (h : DataW.trod enc P W 0 (fun _ => true) true n t cs = some x) : ∃ u ls, cs = [u] ∧ SlV W W.heap.size u ls ∧ sumF szL ls ≤ Rows.uptoBulk x.1 := by
  rcases open_strings ht he hc h with ⟨hcs, hx⟩ | ⟨a, len, cap, ss, hcs, _, hl, hm, hz, hx, hcell, _⟩
  · exact ⟨_, [], hcs, ⟨none, 0, rfl, Nat.le_refl _, .inl rfl⟩, by simp [sumF]⟩
  · simp only [if_true] at hz
    have hll : ((ss.take len).map fun s => s.data.toList).length = len := by rw [List.length_map, List.length_take]; omega
    refine ⟨_, (ss.take len).map fun s => s.data.toList, hcs, ⟨some a, cap, by rw [hll], by rw [hll]; exact hl, rd_of_cells fun i u hu => ?_⟩, ?_⟩
    · have hi : i < len := by
        rcases Nat.lt_or_ge i len with g | g
        · exact g
        · rw [List.getElem?_eq_none (by rw [Nm.strs_length, hll]; exact g)] at hu; cases hu
      have hz2 : i < ss.length := by omega
      rw [hcell i hz2]
      simp only [Nm.strs, List.getElem?_map, List.getElem?_take, if_pos hi, List.getElem?_eq_getElem hz2, Option.map_some] at hu
      rw [← hu, List.getD, List.getElem?_eq_getElem hz2, Option.getD_some, Nm.st]
    · rw [hx]
      show _ ≤ Rows.uptoBulk (.slice (strs (ss.take len)) (strs (ss.drop len)))
      rw [Rows.uptoBulk]
      have := sum_bulk (H := H) szL ((ss.take len).map fun s => s.data.toList) (strs (ss.take len)) (by simp [strs]) fun i hi => by
        simp only [strs, List.getElem_map, Rows.uptoBulk, szL]; omega
      omega
/-- the elements of a row that came in -/
theorem in_row {t e : TypeId} {n c : Nat} {v : Value} {x : DataW H × List MemPlace} (ht : P.underlying t = some (.slice e)) (hc : P.cellsOf e = c)
    (h : DataW.trod enc P W 0 (fun _ => true) true n t [v] = some x) : v = .slice none 0 0 ∨ ∃ (a : Addr) (cap m : Nat) (es : List (DataW H × List MemPlace)), v = .slice (some a) es.length cap ∧ es.length ≤ cap ∧
      Rows.uptoBulkAll (es.map (·.1)) ≤ Rows.uptoBulk x.1 ∧ ∀ i (hi : i < es.length), ∃ cs, cs.length = c ∧ (∀ j, j < c → W.cell? (a.add (i * c + j)) = cs[j]?) ∧ DataW.trod enc P W 0 (fun _ => true) true m e cs = some es[i] := by
  rcases DataW.trod_slice ht h with ⟨h0, _⟩ | ⟨a, len, cap, elems, rest, m, _, hv, hx, _, hl, hm, hlen, hel, _, _⟩
  · injection h0 with h0; exact .inl h0
  · injection hv with hv
    subst hlen
    refine .inr ⟨a, cap, m, elems, hv, hl, ?_, fun i hi => ?_⟩
    · rw [hx]
      show _ ≤ Rows.uptoBulk (.slice (elems.map (·.1)) (rest.map (·.1)))
      rw [Rows.uptoBulk]; omega
    · have h1 := hel i hi
      rw [List.getElem?_eq_getElem hi, Option.bind_eq_some_iff] at h1
      obtain ⟨cs, h2, h3⟩ := h1
      rw [hc] at h2
      obtain ⟨_, h4, h5⟩ := World.cells?_some h2
      refine ⟨cs, h4, fun j hj => ?_, h3⟩
      rw [← h5 j hj]
      congr 1
      exact (Go.Deep.add_add a (i * c) j).symm
theorem in_text {t : TypeId} {n : Nat} {cs : List Value} {x : DataW H × List MemPlace} (ht : P.underlying t = some .string) (h : DataW.trod enc P W 0 (fun _ => true) true n t cs = some x) : ∃ l : Nm.L, cs = [.string ⟨l.toArray⟩] ∧ Rows.uptoBulk x.1 = l.length + 1 := by
  obtain ⟨s, hs, hx, _⟩ := DataW.trod_string ht h
  refine ⟨s.data.toList, by rw [hs, ← Mem.bytes_eta s], ?_⟩
  rw [hx]; rfl
/-- a row of pairs that came in -/
theorem in_pairs {t e q : TypeId} {n : Nat} {v : Value} {x : DataW H × List MemPlace} (ht : P.underlying t = some (.slice e)) (he : P.underlying e = some (.array 2 q)) (hq : P.underlying q = some .string) (ce : P.cellsOf e = 2) (cq : P.cellsOf q = 1)
    (h : DataW.trod enc P W 0 (fun _ => true) true n t [v] = some x) : ∃ K, SlP W W.heap.size v K ∧ sumF szP K ≤ Rows.uptoBulk x.1 := by
  rcases in_row ht ce h with rfl | ⟨a, cap, m, es, rfl, hl, hb, hes⟩
  · exact ⟨[], ⟨none, 0, rfl, Nat.le_refl _, .inl rfl⟩, by simp [sumF]⟩
  · have each : ∀ i, i < es.length → ∃ p : Pr, W.cell? (a.add (i * 2)) = some (.string ⟨p.1.toArray⟩) ∧ W.cell? (a.add (i * 2 + 1)) = some (.string ⟨p.2.toArray⟩) ∧ ∀ (hi : i < es.length), szP p ≤ Rows.uptoBulk (es[i]).1 := by
      intro i hi
      obtain ⟨cs, hcs, hcell, htr⟩ := hes i hi
      obtain ⟨xs, m', _, hx, _, hxl, hxs⟩ := DataW.trod_array he htr
      match cs, hcs with
      | [c0, c1], _ =>
        match xs, hxl with
        | [y0, y1], _ =>
          have g0 := hxs 0 (by omega)
          have g1 := hxs 1 (by omega)
          rw [cq] at g0 g1
          obtain ⟨l0, e0, b0⟩ := in_text hq (x := y0) (cs := [c0]) g0
          obtain ⟨l1, e1, b1⟩ := in_text hq (x := y1) (cs := [c1]) g1
          injection e0 with e0; injection e1 with e1
          have k0 := hcell 0 (by omega)
          have k1 := hcell 1 (by omega)
          refine ⟨(l0, l1), by rw [← e0]; exact k0, by rw [← e1]; exact k1, fun hi => ?_⟩
          rw [hx]
          show _ ≤ Rows.uptoBulk (.agg [y0.1, y1.1])
          rw [Rows.uptoBulk, Rows.uptoBulkAll, Rows.uptoBulkAll, Rows.uptoBulkAll, b0, b1, szP]
          simp only; omega
    obtain ⟨K, hK, hp⟩ := fn_list each
    refine ⟨K, ⟨some a, cap, by rw [hK], by rw [hK]; exact hl, ?_⟩, Nat.le_trans ?_ hb⟩
    · cases hk : K.length with
      | zero => exact .inl (List.eq_nil_of_length_eq_zero hk)
      | succ j =>
        have h0 := (hp 0 (by omega)).1
        rw [show a.add (0 * 2) = a by simp [Addr.add]] at h0
        obtain ⟨b, o, rfl⟩ := addr_none h0
        refine .inr ⟨b, o, rfl, World.block_lt_of_cell? W _ h0, fun i hi => ?_⟩
        obtain ⟨h1, h2, _⟩ := hp i hi
        rw [addr_add] at h1 h2
        rw [kl_lt hi, Nat.add_assoc]
        exact ⟨h1, h2⟩
    · exact sum_bulk szP K _ (by rw [hK]; simp) fun i hi => by
        have := (hp i hi).2.2 (by omega)
        simpa using this
/-- a row of paths that came in -/
theorem in_paths {t e s : TypeId} {f0 f1 f2 : Field} {n : Nat} {v : Value} {x : DataW H × List MemPlace} (ht : P.underlying t = some (.slice e)) (he : P.underlying e = some (.struct #[f0, f1, f2])) (hone : oneCellFields P #[f0, f1, f2] = true) (ce : P.cellsOf e = 3)
    (h0 : P.underlying f0.type = some .string) (h1 : P.underlying f1.type = some .string) (h2 : P.underlying f2.type = some (.slice s)) (hs : P.underlying s = some .string) (cs1 : P.cellsOf s = 1)
    (h : DataW.trod enc P W 0 (fun _ => true) true n t [v] = some x) : ∃ Q, SlA W W.heap.size v Q ∧ sumF szA Q ≤ Rows.uptoBulk x.1 := by
  obtain ⟨o0, k0⟩ := hone_of hone 0 f0 rfl
  obtain ⟨o1, k1⟩ := hone_of hone 1 f1 rfl
  obtain ⟨o2, k2⟩ := hone_of hone 2 f2 rfl
  rcases in_row ht ce h with rfl | ⟨a, cap, m, es, rfl, hl, hb, hes⟩
  · exact ⟨[], ⟨none, 0, rfl, Nat.le_refl _, .inl rfl⟩, by simp [sumF]⟩
  · have each : ∀ i, i < es.length → ∃ p : Pa, W.cell? (a.add (i * 3)) = some (.string ⟨p.f.toArray⟩) ∧ W.cell? (a.add (i * 3 + 1)) = some (.string ⟨p.t.toArray⟩) ∧ (∃ u, W.cell? (a.add (i * 3 + 2)) = some u ∧ SlV W W.heap.size u p.v) ∧ ∀ (hi : i < es.length), szA p ≤ Rows.uptoBulk (es[i]).1 := by
      intro i hi
      obtain ⟨cs, hcs, hcell, htr⟩ := hes i hi
      obtain ⟨xs, m', _, hx, _, hxl, hxs⟩ := DataW.trod_struct he htr
      match cs, hcs with
      | [c0, c1, c2], _ =>
        match xs, hxl with
        | [y0, y1, y2], _ =>
          have g0 := hxs 0 f0 rfl
          have g1 := hxs 1 f1 rfl
          have g2 := hxs 2 f2 rfl
          rw [o0, k0] at g0
          rw [o1, k1] at g1
          rw [o2, k2] at g2
          obtain ⟨l0, e0, b0⟩ := in_text h0 (x := y0) (cs := [c0]) g0
          obtain ⟨l1, e1, b1⟩ := in_text h1 (x := y1) (cs := [c1]) g1
          obtain ⟨u, ls, e2, hu, b2⟩ := in_texts h2 hs cs1 (x := y2) (cs := [c2]) g2
          injection e0 with e0; injection e1 with e1; injection e2 with e2
          have q0 := hcell 0 (by omega)
          have q1 := hcell 1 (by omega)
          have q2 := hcell 2 (by omega)
          refine ⟨⟨l0, l1, ls⟩, by rw [← e0]; exact q0, by rw [← e1]; exact q1, ⟨u, by rw [← e2]; exact q2, hu⟩, fun hi => ?_⟩
          rw [hx]
          show _ ≤ Rows.uptoBulk (.agg [y0.1, y1.1, y2.1])
          rw [Rows.uptoBulk, Rows.uptoBulkAll, Rows.uptoBulkAll, Rows.uptoBulkAll, Rows.uptoBulkAll, b0, b1, szA]
          simp only; omega
    obtain ⟨Q, hQ, hp⟩ := fn_list each
    refine ⟨Q, ⟨some a, cap, by rw [hQ], by rw [hQ]; exact hl, ?_⟩, Nat.le_trans ?_ hb⟩
    · cases hk : Q.length with
      | zero => exact .inl (List.eq_nil_of_length_eq_zero hk)
      | succ j =>
        have h0 := (hp 0 (by omega)).1
        rw [show a.add (0 * 3) = a by simp [Addr.add]] at h0
        obtain ⟨b, o, rfl⟩ := addr_none h0
        refine .inr ⟨b, o, rfl, World.block_lt_of_cell? W _ h0, fun i hi => ?_⟩
        obtain ⟨h1, h2, ⟨u, h3, h4⟩, _⟩ := hp i hi
        rw [addr_add] at h1 h2 h3
        rw [al_lt hi, Nat.add_assoc, Nat.add_assoc]
        exact ⟨h1, h2, u, h3, h4⟩
    · exact sum_bulk szA Q _ (by rw [hQ]; simp) fun i hi => by
        have := (hp i hi).2.2.2 (by omega)
        simpa using this
/-- a topology that came in -/
theorem open_topo {t ek ep qk s sv : TypeId} {f0 f1 f2 g0 g1 g2 : Field} {r : Reach} {b0 : Nat} {v : Value} {d : DataW H} {ps : List MemPlace}
    (hs : P.underlying t = some (.struct #[f0, f1, f2])) (hone : oneCellFields P #[f0, f1, f2] = true) (hC : P.cellsOf t = 3)
    (h0 : P.underlying f0.type = some (.slice s)) (hs0 : P.underlying s = some .string) (c0 : P.cellsOf s = 1)
    (h1 : P.underlying f1.type = some (.slice ek)) (he1 : P.underlying ek = some (.array 2 qk)) (hq1 : P.underlying qk = some .string) (ce1 : P.cellsOf ek = 2) (cq1 : P.cellsOf qk = 1)
    (h2 : P.underlying f2.type = some (.slice ep)) (he2 : P.underlying ep = some (.struct #[g0, g1, g2])) (hone2 : oneCellFields P #[g0, g1, g2] = true) (ce2 : P.cellsOf ep = 3)
    (k0 : P.underlying g0.type = some .string) (k1 : P.underlying g1.type = some .string) (k2 : P.underlying g2.type = some (.slice sv)) (hsv : P.underlying sv = some .string) (csv : P.cellsOf sv = 1)
    (hv : Value.okWide P W r b0 t v) (h : DataW.Trod enc P W 0 (fun _ => true) true t v d ps) :
    ∃ T, TpV W W.heap.size v T ∧ bigN T ≤ Rows.uptoBulk d := by
  obtain ⟨v0, v1, v2, y0, y1, y2, n, rfl, rfl, _, q0, q1, q2⟩ := open_agg3 hs hone hC hv h
  obtain ⟨u, ls, e0, a0, b0⟩ := in_texts h0 hs0 c0 q0
  injection e0 with e0
  subst e0
  obtain ⟨K, a1, b1⟩ := in_pairs h1 he1 hq1 ce1 cq1 q1
  obtain ⟨Q, a2, b2⟩ := in_paths h2 he2 hone2 ce2 k0 k1 k2 hsv csv q2
  refine ⟨⟨ls, K, Q⟩, ⟨_, _, _, rfl, a0, a1, a2⟩, ?_⟩
  rw [bigN, Rows.uptoBulk, Rows.uptoBulkAll, Rows.uptoBulkAll, Rows.uptoBulkAll, Rows.uptoBulkAll]
  simp only; omega
theorem upto_topo {ds : List (DataW H)} {d : DataW H} {T : Tp} (hk : Rows.uptoSmall H ds = true) (h : d ∈ ds) (hb : bigN T ≤ Rows.uptoBulk d) : bigN T ≤ 4000000000000000000 := by
  have h1 := bulk_in h
  have h2 := upto_all hk
  omega
end
end Go.Proofs.Ytnalnhplcchdoaa.Open
