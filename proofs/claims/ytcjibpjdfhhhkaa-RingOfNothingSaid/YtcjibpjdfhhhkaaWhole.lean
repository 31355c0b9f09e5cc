/-
  Structs of many cells, whole: loaded out of a block or a row, stored over a block.
-/
import Derived.Test.YtcjibpjdfhhhkaaMem
import Derived.Deep.MidRow
import Derived.BigFrame
import Derived.Great.BuildSlice
set_option linter.unusedVariables false
namespace Go.Proofs.Ytcjibpjdfhhhkaa.Wh
open Go.RowKit Go.Proofs.Ytcjibpjdfhhhkaa.Mem

section
variable {w w' : World} {g o : Nat} {t : TypeId} {cs ds ps : Array Value} {pre mid post : List Value}
theorem range_blk (h : Blk w g t cs) : w.rangeAt g 0 cs.toList := fun j v hv => by
  rw [Nat.zero_add, h.cell]; simpa using hv
theorem range_at (h : Blk w g t cs) (hc : cs.toList = pre ++ (mid ++ post)) (o : Nat) (ho : o = pre.length) : w.rangeAt g o mid := fun j v hv => by
  subst ho
  have hj : j < mid.length := (List.getElem?_eq_some_iff.1 hv).1
  rw [h.cell, ← Array.getElem?_toList, hc, List.getElem?_append_right (by omega), Nat.add_sub_cancel_left, List.getElem?_append_left hj]
  exact hv
theorem there_mid (h : Blk w g t cs) (o n : Nat) (hn : o + n ≤ cs.size) : w.there g o n := fun j hj => by
  rw [h.cell, Array.getElem?_eq_getElem (by omega)]
  exact ⟨rfl, h.frozen (o + j)⟩
theorem blk_cells_aux {g : Nat} {t : TypeId} : ∀ (vs : List Value) (o : Nat) (w : World) (cs : Array Value), Blk w g t cs → o + vs.length ≤ cs.size →
    ∃ ds : Array Value, Blk (w.setCells g o vs) g t ds ∧ ds.size = cs.size ∧ (∀ i, o ≤ i → i < o + vs.length → ds[i]? = vs[i - o]?) ∧ (∀ i, i < o ∨ o + vs.length ≤ i → ds[i]? = cs[i]?)
  | [], o, w, cs, h, hl => ⟨cs, h, rfl, fun i h1 h2 => by simp at h2; omega, fun i _ => rfl⟩
  | v :: r, o, w, cs, h, hl => by
    rw [World.setCells]
    simp only [List.length_cons] at hl
    obtain ⟨ds, h1, h2, h3, h4⟩ := blk_cells_aux r (o + 1) _ _ (h.set o v) (by simp; omega)
    simp only [List.length_cons]
    refine ⟨ds, h1, by simpa using h2, fun i hi hj => ?_, fun i hi => ?_⟩
    · by_cases e : i = o
      · subst e
        rw [h4 i (by omega), Nat.sub_self]
        rw [Array.getElem?_setIfInBounds_self_of_lt (by omega)]
        rfl
      · rw [h3 i (by omega) (by omega), show i - o = (i - (o + 1)) + 1 by omega]
        simp
    · rw [h4 i (by omega)]
      exact Array.getElem?_setIfInBounds_ne (by omega)
theorem blk_cells (h : Blk w g t cs) (hs : cs.size = ds.size) : Blk (w.setCells g 0 ds.toList) g t ds := by
  obtain ⟨es, h1, h2, h3, _⟩ := blk_cells_aux ds.toList 0 w cs h (by simp; omega)
  have e : es = ds := by
    apply Array.ext_getElem?
    intro i
    by_cases hi : i < ds.size
    · rw [h3 i (by omega) (by simp; omega)]; simp
    · rw [Array.getElem?_eq_none (by omega), Array.getElem?_eq_none (by omega)]
  rw [← e]; rw [← e] at h1; exact h1
theorem g_cells {row : Option Nat} {a : World} {g : Nat} (hp : row = some g ∨ a.heap.size ≤ g) : ∀ (vs : List Value) (o : Nat) (w : World), a.grownBy w row → a.grownBy (w.setCells g o vs) row
  | [], _, _, h => h
  | v :: r, o, w, h => by rw [World.setCells]; exact g_cells hp r (o + 1) _ (g_set h (p := ⟨g, o, none⟩) hp v)
/-- behind a store over a block of the call's own -/
theorem put_mid (w : World) (g o : Nat) (vs : List Value) : w.grownBy (w.setCells g o vs) (some g) := g_cells (.inl rfl) vs o w (World.grownBy.refl _ _)
end

section
variable {P : Program} {ops : Array Oper} {rest : List Oper} {op : Oper} {a : Act} {w : World} {Q : Exit → Act → World → Prop}
theorem load_g (hw : Region.wanted op (yielded ops a.tmps) = true) (ty : TypeId) (x : Operand) (ho : op.op = .load ty x)
    (g o : Nat) (hx : a.eval x = .pointer (some ⟨g, o, none⟩)) (cs : Array Value) (d : TypeDesc) (hc : w.rangeAt g o cs.toList)
    (hu : P.underlying ty = some d) (hd : d.isRow = true) (hi : (P.info? ty).map (·.size) = some cs.size)
    (h : wpList P ops Q rest (a.put op.dst (.agg cs)) w) : wpList P ops Q (op :: rest) a w :=
  BigFrame.wpList_want hw fun _ hK => wp_load_mid ty x ho g o hx cs.toList d hc hu hd (by rw [Array.length_toList]; exact hi) (by simpa using hK _ _ h)
theorem stored_at (w : World) (t : TypeId) (lit cs : Array Value) (hs : lit.size = cs.size) : Blk ((w.alloc (.cells lit t)).setCells w.heap.size 0 cs.toList) w.heap.size t cs ∧ Below w.heap.size w ((w.alloc (.cells lit t)).setCells w.heap.size 0 cs.toList) :=
  ⟨blk_cells (Blk.new w t lit) hs, below_g ((Below.refl w.heap.size w).alloc (Nat.le_refl _) _) (put_mid _ _ _ _) (by simp) (Nat.le_refl _)⟩
/-- a struct is stored whole into the block that was made for it -/
theorem store_new {w0 : World} {lit : Array Value} (hgd : op.guard = none) (ty : TypeId) (x y : Operand) (ho : op.op = .store ty x y) (t : TypeId) (hw : w = w0.alloc (.cells lit t))
    (cells : Array Value) (hx : a.eval x = .pointer (some ⟨w0.heap.size, 0, none⟩)) (hy : a.eval y = .agg cells) (hs : lit.size = cells.size)
    (hi : (P.info? ty).map (·.size) = some cells.size) (h1 : cells.all (·.oneCell') = true)
    (h : ∀ V, Blk V w0.heap.size t cells → Below w0.heap.size w0 V → wpList P ops Q rest (a.put op.dst undef) V) : wpList P ops Q (op :: rest) a w := by
  subst hw
  have hV := stored_at w0 t lit cells hs
  exact wpList_store_mid hgd ty x y ho w0.heap.size 0 cells hx hy (there_mid (Blk.new w0 t lit) _ _ (by omega)) hi h1 (h _ hV.1 hV.2)
/-- a struct is stored whole over a block that is there -/
theorem store_over (hgd : op.guard = none) (ty : TypeId) (x y : Operand) (ho : op.op = .store ty x y) (g : Nat) (t : TypeId) (old : Array Value) (hb : Blk w g t old)
    (cells : Array Value) (hx : a.eval x = .pointer (some ⟨g, 0, none⟩)) (hy : a.eval y = .agg cells) (hs : old.size = cells.size)
    (hi : (P.info? ty).map (·.size) = some cells.size) (h1 : cells.all (·.oneCell') = true)
    (h : ∀ V, Blk V g t cells → w.grownBy V (some g) → wpList P ops Q rest (a.put op.dst undef) V) : wpList P ops Q (op :: rest) a w :=
  wpList_store_mid hgd ty x y ho g 0 cells hx hy (there_mid hb _ _ (by omega)) hi h1 (h _ (blk_cells hb hs) (put_mid _ _ _ _))
theorem results_cell {fn : Func} {tmps : Array Value} {w : World} {v : Value} (t : Nat) (ty : TypeId) (a : Addr) (hres : fn.results = #[.cell t ty]) (ht : tmps.getD t undef = .pointer (some a)) (hl : (loadVar ty a).run P w = .ok v w) :
    (results fn tmps).run P w = .ok v w := by
  have ht' : tmps[t]?.getD undef = .pointer (some a) := by simpa using ht
  simp [results, hres, ht', asAddr, hl]
theorem load_blk {g : Nat} {t ty : TypeId} {cs : Array Value} {d : TypeDesc} (h : Blk w g t cs) (hu : P.underlying ty = some d) (hd : d.isRow = true) (hi : (P.info? ty).map (·.size) = some cs.size) :
    (loadVar ty ⟨g, 0, none⟩).run P w = .ok (.agg cs) w := by
  have := run_loadVar_mid (P := P) w g 0 ty cs.toList d (range_blk h) hu hd (by simpa using hi)
  simpa using this
/-- a whole load, as it stands in a region that draws its order -/
theorem exec_load {w' : World} {o : Oper} {g : Nat} {t ty : TypeId} {cs : Array Value} {d : TypeDesc} (x : Operand) (ho : o.op = .load ty x) (hx : a.eval x = .pointer (some ⟨g, 0, none⟩)) (h : Blk w' g t cs) (hu : P.underlying ty = some d) (hd : d.isRow = true) (hi : (P.info? ty).map (·.size) = some cs.size) :
    (execOp a.eval o).run P w' = .ok (.value (.agg cs)) w' := by
  unfold execOp
  simp only [ho, hx, Instr.loadAt, Instr.sureAddr, Sem.run_bind, Sem.run_pure, Result.andThen_ok, load_blk h hu hd hi]
end

/-! ### a slice of one struct laid down -/
theorem fold_at (l : List Value) : ∀ (k : Nat) (Z : Array Value), k + l.length ≤ Z.size → ((l.zipIdx k).foldl (fun a x => a.setIfInBounds (0 + x.2) x.1) Z).size = Z.size ∧ ∀ i, ((l.zipIdx k).foldl (fun a x => a.setIfInBounds (0 + x.2) x.1) Z)[i]? = if k ≤ i ∧ i < k + l.length then l[i - k]? else Z[i]? := by
  induction l with
  | nil =>
    intro k Z h
    refine ⟨rfl, fun i => ?_⟩
    rw [if_neg (by simp)]
    rfl
  | cons c l ih =>
    intro k Z h
    simp only [List.length_cons] at h
    obtain ⟨h1, h2⟩ := ih (k + 1) (Z.setIfInBounds (0 + k) c) (by simp; omega)
    rw [List.zipIdx_cons, List.foldl_cons]
    refine ⟨by rw [h1]; simp, fun i => ?_⟩
    rw [h2]
    by_cases e : i = k
    · subst e
      rw [if_neg (by omega), if_pos (by simp), Nat.sub_self, Nat.zero_add, Array.getElem?_setIfInBounds_self_of_lt (by omega)]
      rfl
    · by_cases g : k + 1 ≤ i ∧ i < k + 1 + l.length
      · rw [if_pos g, if_pos (by simp; omega), show i - k = (i - (k + 1)) + 1 by omega]
        simp
      · rw [if_neg g, if_neg (by simp; omega), Array.getElem?_setIfInBounds_ne (by omega)]
theorem fill_one (cs Z : Array Value) (n : Nat) (hn : cs.size = n) (hz : Z.size = n) : Instr.fill (fun i => some (i * n, n)) Z [(0, .agg cs)] = some cs := by
  have hf := fold_at cs.toList 0 Z (by simp; omega)
  have e : cs.zipIdx.foldl (fun a (x : Value × Nat) => a.setIfInBounds (0 + x.2) x.1) Z = cs := by
    rw [← Array.foldl_toList, Array.toList_zipIdx]
    apply Array.ext_getElem?
    intro i
    rw [hf.2]
    by_cases g : i < cs.size
    · rw [if_pos (by simp; omega)]; simp
    · rw [if_neg (by simp; omega), Array.getElem?_eq_none (by omega), Array.getElem?_eq_none (by omega)]
  have hc : (Value.agg cs).cells = cs := rfl
  unfold Instr.fill
  simp only [Nat.zero_mul, hc]
  rw [if_neg (by simp; omega)]
  unfold Instr.fill
  congr 1
section
variable {P : Program}
theorem run_build_one (w : World) (t e : TypeId) (cs : Array Value) (ie : TypeInfo) (z : Value) (hu : P.underlying t = some (.slice e)) (hie : P.info? e = some ie) (hz : ie.zero = some z) (hs : ie.size = cs.size) (h0 : 0 < cs.size) (h24 : cs.size ≤ 16777216) :
    (Instr.buildSlice t 1 #[(0, .agg cs)]).run P w = .ok (.slice (some ⟨w.heap.size, 0, none⟩) 1 1) (w.alloc (.cells cs e)) :=
  run_buildSlice w t e 1 _ cs ie z hu hie hz (by rw [hs]; omega) (by rw [hs]; omega) (fill_one cs _ ie.size hs.symm (by simp))
/-- a slice of one struct is laid down -/
theorem build_one {ops : Array Oper} {rest : List Oper} {o : Oper} {a : Act} {w : World} {Q : Exit → Act → World → Prop} (hg : o.guard = none) (t e : TypeId) (x : Operand) (ho : o.op = .buildSlice t 1 #[(0, x)]) (cs : Array Value) (hx : a.eval x = .agg cs)
    (ie : TypeInfo) (z : Value) (hu : P.underlying t = some (.slice e)) (hie : P.info? e = some ie) (hz : ie.zero = some z) (hs : ie.size = cs.size) (h0 : 0 < cs.size) (h24 : cs.size ≤ 16777216)
    (h : ∀ W, W = w.alloc (.cells cs e) → wpList P ops Q rest (a.put o.dst (.slice (some ⟨w.heap.size, 0, none⟩) 1 1)) W) : wpList P ops Q (o :: rest) a w := by
  refine wpList_plain hg fun _ hK => ?_
  unfold Oper.wp execOp
  simp only [ho, Sem.run_bind, List.map_toArray, List.map_cons, List.map_nil, hx, run_build_one w t e cs ie z hu hie hz hs h0 h24, Result.andThen_ok]
  exact hK _ _ (h _ rfl)
end
/-- append of one struct of n cells, laid down in the newest block, onto a row of the call's own -/
theorem app_run {P : Program} {α : Type} (f : α → List Value) (n bytes : Nat) (hf : ∀ x, (f x).length = n) (h1 : ∀ x, ∀ u ∈ f x, u.oneCell' = true) (w : World) (t ty e : TypeId) (i : TypeInfo) (z : Value) (ht : P.underlying t = some (.slice e)) (hi : P.info? e = some i) (hz : i.zero = some z) (hs : i.size = n) (hb : i.bytes = bytes) (hzs : z.cells.size = n) (hn : 0 < n)
    (base : Nat) (v : Value) (l : List α) (hown : w.ownsRow base e n v l.length (l.flatMap f)) (x : α) (g : Nat) (hg : Blk w g e (f x).toArray) (hl : l.length + 1 ≤ 100000) (hby : bytes ≤ 10000) (hbase : base ≤ w.heap.size) :
    ∃ v' w', (Builtin.append_ #[t, t] ty #[v, .slice (some ⟨g, 0, none⟩) 1 1]).run P w = .ok v' w' ∧ w'.ownsRow base e n v' (l ++ [x]).length ((l ++ [x]).flatMap f) ∧ w.grownBy w' v.ownBlock ∧ (v'.ownBlock = v.ownBlock ∨ v'.ownBlock = some w.heap.size) := by
  obtain ⟨v', w', h2, h3, h4, _, h5⟩ := run_append_own_at (P := P) w base t ty e i z n bytes ht hi hz hs hb hzs hn v l.length (l.flatMap f) hown ⟨g, 0, none⟩ 1 1 (f x) (by rw [hf]; omega) (fun j u hu => by
    rw [addr_add, Nat.zero_add, hg.cell j]
    simpa using hu) (h1 x) (by unfold maxLen; omega) (by
      have : (l.length + 1) * bytes ≤ 100000 * 10000 := Nat.mul_le_mul hl hby
      omega) hbase
  exact ⟨v', w', h2, by rw [List.length_append, List.flatMap_append, List.flatMap_singleton]; exact h3, h4, h5⟩
theorem app_one {P : Program} {α : Type} (f : α → List Value) (n bytes : Nat) (hf : ∀ x, (f x).length = n) (h1 : ∀ x, ∀ u ∈ f x, u.oneCell' = true) {ops : Array Oper} {rest : List Oper} {o : Oper} {a : Act} {w : World} {Q : Exit → Act → World → Prop} (hgd : o.guard = none) (s x : Operand) (t e : TypeId)
    (ho : o.op = .call { callee := .builtin .append, args := #[s, x], argTypes := #[t, t] }) (i : TypeInfo) (z : Value) (ht : P.underlying t = some (.slice e)) (hi : P.info? e = some i) (hz : i.zero = some z) (hs : i.size = n) (hb : i.bytes = bytes) (hzs : z.cells.size = n) (hn : 0 < n) (hby : bytes ≤ 10000)
    (base : Nat) (v : Value) (l : List α) (hv : a.eval s = v) (hown : w.ownsRow base e n v l.length (l.flatMap f)) (y : α) (g : Nat) (hx : a.eval x = .slice (some ⟨g, 0, none⟩) 1 1) (hg : Blk w g e (f y).toArray) (hl : l.length + 1 ≤ 100000) (hbase : base ≤ w.heap.size)
    (h : ∀ v' w', w'.ownsRow base e n v' (l ++ [y]).length ((l ++ [y]).flatMap f) → w.grownBy w' v.ownBlock → (v'.ownBlock = v.ownBlock ∨ v'.ownBlock = some w.heap.size) → wpList P ops Q rest (a.put o.dst v') w') : wpList P ops Q (o :: rest) a w := by
  obtain ⟨v', w', hrun, h2, h3, h4⟩ := app_run (P := P) f n bytes hf h1 w t o.type e i z ht hi hz hs hb hzs hn base v l hown y g hg hl hby hbase
  refine wpList_plain hgd fun J hJ => ?_
  unfold Oper.wp execOp
  simp only [ho, resolve, invoke, builtin, Sem.run_bind, Sem.run_pure, Result.andThen_ok, List.map_toArray, List.map_cons, List.map_nil, hv, hx, hrun]
  exact hJ _ _ (h v' w' h2 h3 h4)
end Go.Proofs.Ytcjibpjdfhhhkaa.Wh
