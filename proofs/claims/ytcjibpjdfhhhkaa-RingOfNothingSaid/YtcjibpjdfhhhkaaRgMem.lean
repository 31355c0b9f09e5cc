/-
  A ring in memory: its rows of entries, its Boxes; what a use of one of them turns.
-/
import Derived.Test.YtcjibpjdfhhhkaaRgPlain
import Derived.Test.YtcjibpjdfhhhkaaWhole
import Derived.Test.YtcjibpjdfhhhkaaSeOpen2
set_option linter.unusedVariables false
namespace Go.Proofs.Ytcjibpjdfhhhkaa.Rg
open Go.RowKit Go.Proofs.Ytcjibpjdfhhhkaa.Mem Go.Proofs.Ytcjibpjdfhhhkaa.Se

/-- a principal's cells -/
abbrev prC (p : Pr) : List Value := [.string ⟨p.1.toArray⟩, .string ⟨p.2.toArray⟩]
abbrev prV (p : Pr) : Value := .agg #[.string ⟨p.1.toArray⟩, .string ⟨p.2.toArray⟩]
/-- a principal's key and its number, as cells -/
def iC (i : It) : List Value := .string ⟨i.p.1.toArray⟩ :: .string ⟨i.p.2.toArray⟩ :: .int .i64 (i.n : Int) :: (key32 i.k).toList
/-- an entry: a key, its Box at b: its halves are not made, or are (h); so often sealed, opened, refused -/
structure Ent where
  it : It
  b : Nat
  h : Option Nat
  a : Nat
  o : Nat
  r : Nat
def eC (e : Ent) : List Value := iC e.it ++ [.pointer (some ⟨e.b, 0, none⟩)]
theorem iC_length (i : It) : (iC i).length = 35 := by simp [iC, key32_size]
theorem eC_length (e : Ent) : (eC e).length = 36 := by simp [eC, iC_length]
theorem iC_one (i : It) : ∀ u ∈ iC i, u.oneCell' = true := by
  intro u hu
  simp only [iC, List.mem_cons] at hu
  rcases hu with h | h | h | h
  · subst h; rfl
  · subst h; rfl
  · subst h; rfl
  · have := one32 i.k
    rw [Array.all_eq_true_iff_forall_mem] at this
    exact this u (Array.mem_def.2 h)
theorem eC_one (e : Ent) : ∀ u ∈ eC e, u.oneCell' = true := by
  intro u hu
  rcases List.mem_append.1 hu with h | h
  · exact iC_one _ u h
  · rw [List.mem_singleton] at h; subst h; rfl
/-- rows of n cells each -/
theorem flat_len {α : Type} (f : α → List Value) (n : Nat) (h : ∀ x, (f x).length = n) : ∀ l : List α, (l.flatMap f).length = l.length * n
  | [] => by simp
  | a :: l => by simp only [List.flatMap_cons, List.length_append, h, flat_len f n h l, List.length_cons, Nat.succ_mul]; omega
theorem flat_at {α : Type} (f : α → List Value) (n : Nat) (h : ∀ x, (f x).length = n) : ∀ (l : List α) (i : Nat) (x : α), l[i]? = some x → ∀ j v, (f x)[j]? = some v → (l.flatMap f)[i * n + j]? = some v
  | [], i, x, hx, _, _, _ => by simp at hx
  | a :: l, 0, x, hx, j, v, hv => by
    injection hx with hx
    subst hx
    have := (List.getElem?_eq_some_iff.1 hv).1
    rw [List.flatMap_cons, Nat.zero_mul, Nat.zero_add, List.getElem?_append_left this]
    exact hv
  | a :: l, i + 1, x, hx, j, v, hv => by
    rw [List.flatMap_cons, List.getElem?_append_right (by rw [h, Nat.succ_mul]; omega), h, show (i + 1) * n + j - n = i * n + j by rw [Nat.succ_mul]; omega]
    exact flat_at f n h l i x hx j v hv
theorem flat_one {α : Type} (f : α → List Value) (h : ∀ x, ∀ u ∈ f x, u.oneCell' = true) (l : List α) : ∀ u ∈ l.flatMap f, u.oneCell' = true := by
  intro u hu
  obtain ⟨x, _, h2⟩ := List.mem_flatMap.1 hu
  exact h x u h2
/-- a slice that reads rows of n cells -/
def RdR {α : Type} (w : World) (B : Nat) (A : Option Addr) (f : α → List Value) (n : Nat) (l : List α) : Prop :=
  l = [] ∨ ∃ g, A = some ⟨g, 0, none⟩ ∧ g < B ∧ ∀ i x, l[i]? = some x → w.rangeAt g (i * n) (f x)
theorem RdR.keep {α : Type} {w w' : World} {B : Nat} {A : Option Addr} {f : α → List Value} {n : Nat} {l : List α} (h : RdR w B A f n l) (hb : Below B w w') : RdR w' B A f n l := by
  rcases h with h | ⟨g, h1, h2, h3⟩
  · exact .inl h
  · exact .inr ⟨g, h1, h2, fun i x hx j v hv => (hb.cell (p := ⟨g, _, none⟩) h2).trans (h3 i x hx j v hv)⟩
theorem RdR.more {α : Type} {w : World} {B B' : Nat} {A : Option Addr} {f : α → List Value} {n : Nat} {l : List α} (h : RdR w B A f n l) (hB : B ≤ B') : RdR w B' A f n l := by
  rcases h with h | ⟨g, h1, h2, h3⟩
  · exact .inl h
  · exact .inr ⟨g, h1, by omega, h3⟩
theorem RdR.at_ {α : Type} {w : World} {B : Nat} {A : Option Addr} {f : α → List Value} {n : Nat} {l : List α} {i : Nat} {x : α} (h : RdR w B A f n l) (hx : l[i]? = some x) : ∃ g, A = some ⟨g, 0, none⟩ ∧ g < B ∧ w.rangeAt g (i * n) (f x) := by
  rcases h with h | ⟨g, h1, h2, h3⟩
  · subst h; simp at hx
  · exact ⟨g, h1, h2, h3 i x hx⟩
/-- a row of the call's own is read -/
theorem own_rdr {α : Type} {w : World} {base : Nat} {t : TypeId} {v : Value} {f : α → List Value} {n : Nat} {l : List α} (hn : ∀ x, (f x).length = n) (h : w.ownsRow base t n v l.length (l.flatMap f)) : ∃ A c, v = .slice A l.length c ∧ l.length ≤ c ∧ c ≤ maxLen ∧ RdR w w.heap.size A f n l := by
  have h' := h
  rcases h.2 with ⟨h1, h2⟩ | ⟨g, cap, cur, h1, hg, hh, hc, hm, _⟩
  · have e : l = [] := List.eq_nil_of_length_eq_zero h2
    subst e
    exact ⟨none, 0, h1, Nat.le_refl _, Nat.zero_le _, .inl rfl⟩
  · subst h1
    refine ⟨_, cap, rfl, hc, hm, .inr ⟨g, rfl, (Array.getElem?_eq_some_iff.1 hh).1, fun i x hx j v hv => ?_⟩⟩
    have h1 := h'.cells (g := g) rfl (i * n + j) v (flat_at f n hn l i x hx j v hv)
    rw [addr_add, Nat.zero_add] at h1
    exact h1
theorem own_chg {S : Nat → Prop} {w w' : World} {base size n : Nat} {t : TypeId} {v : Value} {xs : List Value} (h : Chg S w w') (ho : w.ownsRow base t size v n xs) (hs : ∀ k, v.ownBlock = some k → ¬ S k) : w'.ownsRow base t size v n xs := by
  refine ⟨ho.1, ?_⟩
  rcases ho.2 with hn | ⟨g, cap, cur, rfl, hb, hgg, rest⟩
  · exact .inl hn
  · exact .inr ⟨g, cap, cur, rfl, hb, (h.block g (Array.getElem?_eq_some_iff.1 hgg).1 (hs g rfl)).trans hgg, rest⟩

/-! ### the code's own -/
def its (es : List Ent) : List It := es.map (·.it)
theorem its_at {es : List Ent} {i : Nat} {e : Ent} (h : es[i]? = some e) : (its es)[i]? = some e.it := by simp [its, h]
theorem its_of {es : List Ent} {i : Nat} {x : It} (h : (its es)[i]? = some x) : ∃ e, es[i]? = some e ∧ e.it = x := by
  simpa [its] using h
theorem its_length (es : List Ent) : (its es).length = es.length := by simp [its]
structure Ring (w : World) (B r : Nat) (v : Value) (es : List Ent) : Prop where
  blk : Blk w r 58 #[v]
  row : w.ownsRow B 60 36 v es.length (es.flatMap eC)
  lo : B ≤ r
  vr : v.ownBlock ≠ some r
  box : ∀ (i : Nat) (e : Ent), es[i]? = some e → Box w e.b e.it.k e.h e.a e.o e.r
  off : ∀ (i : Nat) (e : Ent), es[i]? = some e → ∀ k, Ow e.b e.h k → B ≤ k ∧ k ≠ r ∧ v.ownBlock ≠ some k
  far : ∀ (i j : Nat) (e f : Ent), es[i]? = some e → es[j]? = some f → i ≠ j → ∀ k, Ow e.b e.h k → ¬ Ow f.b f.h k
/-- a ring's own blocks -/
def RO (r : Nat) (v : Value) (es : List Ent) (k : Nat) : Prop := k = r ∨ v.ownBlock = some k ∨ ∃ (i : Nat) (e : Ent), es[i]? = some e ∧ Ow e.b e.h k
section
variable {w w' : World} {B r : Nat} {v v' : Value} {es : List Ent} {S : Nat → Prop}
theorem Ring.own_lo (h : Ring w B r v es) {k : Nat} (hk : RO r v es k) : B ≤ k := by
  rcases hk with hk | hk | ⟨i, e, he, hk⟩
  · subst hk; exact h.lo
  · exact (World.ownsRow.lt h.row k hk).1
  · exact (h.off i e he k hk).1
theorem Ring.own_lt (h : Ring w B r v es) {k : Nat} (hk : RO r v es k) : k < w.heap.size := by
  rcases hk with hk | hk | ⟨i, e, he, hk⟩
  · subst hk; exact h.blk.lt
  · exact (World.ownsRow.lt h.row k hk).2
  · exact (h.box i e he).own_lt k hk
theorem Ring.lt (h : Ring w B r v es) : r < w.heap.size := h.blk.lt
theorem Ring.chg (h : Ring w B r v es) (hc : Chg S w w') (hs : ∀ k, RO r v es k → ¬ S k) : Ring w' B r v es :=
  ⟨hc.blk h.blk (hs r (.inl rfl)), own_chg hc h.row (fun k hk => hs k (.inr (.inl hk))), h.lo, h.vr, fun i e he => (h.box i e he).chg hc (fun k hk => hs k (.inr (.inr ⟨i, e, he, hk⟩))), h.off, h.far⟩
theorem Ring.below (h : Ring w B r v es) (hb : Below w.heap.size w w') : Ring w' B r v es := h.chg (S := fun _ => False) (Chg.of_below hb) (fun _ _ x => x)
theorem Ring.drew (h : Ring w B r v es) : Ring w.drew B r v es := h.below (below_drewN (Below.refl _ _) 1)
theorem Ring.num (h : Ring w B r v es) : ∃ A c, v = .slice A es.length c ∧ es.length ≤ c ∧ c ≤ maxLen ∧ RdR w w.heap.size A eC 36 es := own_rdr eC_length h.row
/-- a Box of it is used -/
theorem Ring.use (h : Ring w B r v es) {i : Nat} {e : Ent} (he : es[i]? = some e) {h' : Option Nat} {a o q : Nat} (hx : Box w' e.b e.it.k h' a o q) (hs : StepO w w' e.b e.h h') (hB : B ≤ w.heap.size) : Ring w' B r v (es.set i ⟨e.it, e.b, h', a, o, q⟩) := by
  have hi := (List.getElem?_eq_some_iff.1 he).1
  have hset : ∀ (j : Nat) (f : Ent), (es.set i ⟨e.it, e.b, h', a, o, q⟩)[j]? = some f → (j = i ∧ f = ⟨e.it, e.b, h', a, o, q⟩) ∨ (j ≠ i ∧ es[j]? = some f) := fun j f hf => by
    by_cases q : i = j
    · subst q
      rw [List.getElem?_set_self hi] at hf
      injection hf with hf
      exact .inl ⟨rfl, hf.symm⟩
    · rw [List.getElem?_set_ne q] at hf
      exact .inr ⟨fun x => q x.symm, hf⟩
  have hnew : ∀ k, Ow e.b h' k → Ow e.b e.h k ∨ w.heap.size ≤ k := fun k hk => by
    rcases Nat.lt_or_ge k w.heap.size with g | g
    · exact .inl (hs.own k g hk)
    · exact .inr g
  have hrow : (es.set i ⟨e.it, e.b, h', a, o, q⟩).flatMap eC = es.flatMap eC := by
    have : (es.set i ⟨e.it, e.b, h', a, o, q⟩).map eC = es.map eC := by
      apply List.ext_getElem?
      intro j
      rw [List.getElem?_map, List.getElem?_map]
      by_cases g : i = j
      · subst g; rw [List.getElem?_set_self hi, he]; rfl
      · rw [List.getElem?_set_ne g]
    rw [List.flatMap_def, List.flatMap_def, this]
  refine ⟨hs.1.blk h.blk (fun x => (h.off i e he r x).2.1 rfl), ?_, h.lo, h.vr, fun j f hf => ?_, fun j f hf k hk => ?_, fun j j2 f f2 hf hf2 hne k hk hk2 => ?_⟩
  · rw [hrow, List.length_set]
    exact own_chg hs.1 h.row (fun k hk x => (h.off i e he k x).2.2 hk)
  · rcases hset j f hf with ⟨_, rfl⟩ | ⟨hj, hf⟩
    · exact hx
    · exact (h.box j f hf).chg hs.1 (fun k hk hk2 => h.far j i f e hf he hj k hk hk2)
  · rcases hset j f hf with ⟨_, rfl⟩ | ⟨hj, hf⟩
    · rcases hnew k hk with g | g
      · exact h.off i e he k g
      · exact ⟨by omega, fun x => by have := h.lt; omega, fun x => by have := (World.ownsRow.lt h.row k x).2; omega⟩
    · exact h.off j f hf k hk
  · rcases hset j f hf with ⟨e1, rfl⟩ | ⟨hj, hf⟩
    · rcases hset j2 f2 hf2 with ⟨e2, rfl⟩ | ⟨hj2, hf2⟩
      · exact hne (e1.trans e2.symm)
      · rcases hnew k hk with g | g
        · exact h.far i j2 e f2 he hf2 (fun x => hj2 x.symm) k g hk2
        · have := (h.box j2 f2 hf2).own_lt k hk2; omega
    · rcases hset j2 f2 hf2 with ⟨e2, rfl⟩ | ⟨hj2, hf2⟩
      · rcases hnew k hk2 with g | g
        · exact h.far j i f e hf he hj k hk g
        · have := (h.box j f hf).own_lt k hk; omega
      · exact h.far j j2 f f2 hf hf2 hne k hk hk2
theorem Ring.use_new (h : Ring w B r v es) {i : Nat} {e : Ent} (he : es[i]? = some e) {h' : Option Nat} (a o q : Nat) (hs : StepO w w' e.b e.h h') : ∀ k, RO r v (es.set i ⟨e.it, e.b, h', a, o, q⟩) k → RO r v es k ∨ w.heap.size ≤ k := fun k hk => by
  have hi := (List.getElem?_eq_some_iff.1 he).1
  rcases hk with hk | hk | ⟨j, f, hf, hk⟩
  · exact .inl (.inl hk)
  · exact .inl (.inr (.inl hk))
  · by_cases g : i = j
    · subst g
      rw [List.getElem?_set_self hi] at hf
      injection hf with hf
      subst hf
      rcases Nat.lt_or_ge k w.heap.size with g | g
      · exact .inl (.inr (.inr ⟨i, e, he, hs.own k g hk⟩))
      · exact .inr g
    · rw [List.getElem?_set_ne g] at hf
      exact .inl (.inr (.inr ⟨j, f, hf, hk⟩))
theorem its_set {es : List Ent} {i : Nat} {e : Ent} (he : es[i]? = some e) (h' : Option Nat) (a o q : Nat) : its (es.set i ⟨e.it, e.b, h', a, o, q⟩) = its es := by
  have hi := (List.getElem?_eq_some_iff.1 he).1
  unfold its
  apply List.ext_getElem?
  intro j
  rw [List.getElem?_map, List.getElem?_map]
  by_cases g : i = j
  · subst g; rw [List.getElem?_set_self hi, he]; rfl
  · rw [List.getElem?_set_ne g]
/-- an entry more -/
theorem Ring.snoc (h : Ring w B r v es) {e : Ent} (hc : Chg (fun k => k = r ∨ v.ownBlock = some k) w w') (hb : Blk w' r 58 #[v']) (hrow : w'.ownsRow B 60 36 v' (es.length + 1) (es.flatMap eC ++ eC e))
    (hv : v'.ownBlock = v.ownBlock ∨ ∃ k, v'.ownBlock = some k ∧ w.heap.size ≤ k ∧ k ≠ e.b) (hbx : Box w' e.b e.it.k none e.a e.o e.r) (hbl : w.heap.size ≤ e.b) (hh : e.h = none) (hB : B ≤ w.heap.size) : Ring w' B r v' (es ++ [e]) := by
  have hlt := h.lt
  have hsn : ∀ (j : Nat) (f : Ent), (es ++ [e])[j]? = some f → (es[j]? = some f) ∨ (j = es.length ∧ f = e) := fun j f hf => by
    by_cases g : j < es.length
    · rw [List.getElem?_append_left g] at hf; exact .inl hf
    · rw [List.getElem?_append_right (by omega)] at hf
      have := (List.getElem?_eq_some_iff.1 hf).1
      have e1 : j = es.length := by simp at this; omega
      subst e1
      rw [Nat.sub_self] at hf
      injection hf with hf
      exact .inr ⟨rfl, hf.symm⟩
  have hne : ∀ k, Ow e.b e.h k → k = e.b := fun k hk => by
    rcases hk with hk | hk
    · exact hk
    · rw [hh] at hk; cases hk
  have hvk : ∀ k, v'.ownBlock = some k → k < w.heap.size → v.ownBlock = some k := fun k hk hl => by
    rcases hv with g | ⟨q, g1, g2, _⟩
    · rw [← g]; exact hk
    · rw [g1] at hk; injection hk with hk; omega
  refine ⟨hb, ?_, h.lo, fun x => h.vr (hvk r x hlt), fun j f hf => ?_, fun j f hf k hk => ?_, fun j j2 f f2 hf hf2 hjne k hk hk2 => ?_⟩
  · rw [List.length_append, List.length_singleton, List.flatMap_append, List.flatMap_singleton]; exact hrow
  · rcases hsn j f hf with g | ⟨_, rfl⟩
    · refine (h.box j f g).chg hc (fun k hk x => ?_)
      rcases x with x | x
      · exact (h.off j f g k hk).2.1 x
      · exact (h.off j f g k hk).2.2 x
    · rw [hh]; exact hbx
  · rcases hsn j f hf with g | ⟨_, rfl⟩
    · have h1 := h.off j f g k hk
      exact ⟨h1.1, h1.2.1, fun x => h1.2.2 (hvk k x ((h.box j f g).own_lt k hk))⟩
    · rw [hne k hk]
      refine ⟨by omega, by omega, fun x => ?_⟩
      rcases hv with g | ⟨q, g1, _, g3⟩
      · rw [g] at x; have := (World.ownsRow.lt h.row _ x).2; omega
      · rw [g1] at x; injection x with x; exact g3 x
  · rcases hsn j f hf with g | ⟨e1, rfl⟩
    · rcases hsn j2 f2 hf2 with g2 | ⟨e2, rfl⟩
      · exact h.far j j2 f f2 g g2 hjne k hk hk2
      · have := (h.box j f g).own_lt k hk; have := hne k hk2; omega
    · rcases hsn j2 f2 hf2 with g2 | ⟨e2, rfl⟩
      · have := (h.box j2 f2 g2).own_lt k hk2; have := hne k hk; omega
      · exact hjne (e1.trans e2.symm)
theorem its_snoc (es : List Ent) (e : Ent) : its (es ++ [e]) = its es ++ [e.it] := by simp [its]
end
end Go.Proofs.Ytcjibpjdfhhhkaa.Rg
