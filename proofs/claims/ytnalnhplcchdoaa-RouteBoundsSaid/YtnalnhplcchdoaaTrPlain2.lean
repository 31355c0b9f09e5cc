/-
  Plain mathematics of chapter 6: realms as a text and back; what is refused; one more.
-/
import Derived.Test.YtnalnhplcchdoaaTrPlain
namespace Go.Proofs.Ytnalnhplcchdoaa.Tr
open Go.Proofs.Ytnalnhplcchdoaa.Nm

/-! ### pieces with a comma between -/
def joinC : List L → L
  | [] => []
  | f :: t => match t with
    | [] => f
    | _ :: _ => f ++ 44 :: joinC t
theorem join_cons {f : L} {t : List L} (h : t ≠ []) : joinC (f :: t) = f ++ 44 :: joinC t := by
  cases t with
  | nil => exact absurd rfl h
  | cons g t => rfl
theorem join_one (f : L) : joinC [f] = f := rfl
theorem join_snoc {fs : List L} (h : fs ≠ []) (f : L) : joinC (fs ++ [f]) = joinC fs ++ 44 :: f := by
  induction fs with
  | nil => exact absurd rfl h
  | cons g t ih =>
    cases t with
    | nil => rfl
    | cons a t =>
      rw [List.cons_append, join_cons (f := g) (t := (a :: t) ++ [f]) (by simp), ih (by simp), join_cons (f := g) (t := a :: t) (by simp)]; simp
theorem split_join {fs : List L} (h : fs ≠ []) (hc : ∀ f ∈ fs, (44 : UInt8) ∉ f) : split 44 (joinC fs) = fs := by
  induction fs with
  | nil => exact absurd rfl h
  | cons g t ih =>
    cases t with
    | nil => exact split_none (hc g List.mem_cons_self)
    | cons a t =>
      rw [join_cons (by simp), split_head (hc g List.mem_cons_self), ih (by simp) (fun f hf => hc f (List.mem_cons_of_mem _ hf))]
theorem join_len {fs : List L} {k : Nat} (h : ∀ f ∈ fs, f.length ≤ k) : (joinC fs).length ≤ fs.length * (k + 1) := by
  induction fs with
  | nil => simp [joinC]
  | cons g t ih =>
    have h1 := h g List.mem_cons_self
    have h2 := ih fun f hf => h f (List.mem_cons_of_mem _ hf)
    cases t with
    | nil => rw [join_one]; simp; omega
    | cons a t =>
      rw [join_cons (by simp)]
      simp only [List.length_append, List.length_cons] at h2 ⊢
      have e : (t.length + 1 + 1) * (k + 1) = (t.length + 1) * (k + 1) + (k + 1) := by rw [Nat.add_mul]; omega
      omega

/-! ### realms as a text -/
def furs : L → List L → List L
  | _, [] => []
  | p, r :: t => furL r p :: furs r t
def fieldsL : List L → List L
  | [] => []
  | r :: t => r :: furs r t
def compT (m : List L) : L := joinC (fieldsL m)
theorem furs_length (m : List L) : ∀ p, (furs p m).length = m.length := by
  induction m with
  | nil => intro p; rfl
  | cons r t ih => intro p; simp [furs, ih]
theorem fields_length (m : List L) : (fieldsL m).length = m.length := by
  cases m with
  | nil => rfl
  | cons r t => simp [fieldsL, furs_length]
def lastL (p : L) (m : List L) : L := if m = [] then p else pl m (m.length - 1)
theorem last_nil (p : L) : lastL p [] = p := rfl
theorem last_cons (p a : L) (t : List L) : lastL p (a :: t) = lastL a t := by
  cases t with
  | nil => rfl
  | cons b t => rfl
theorem furs_snoc (m : List L) (r : L) : ∀ p, furs p (m ++ [r]) = furs p m ++ [furL r (lastL p m)] := by
  induction m with
  | nil => intro p; rfl
  | cons a t ih =>
    intro p
    rw [List.cons_append, furs, ih, last_cons]; rfl
theorem fields_snoc (m : List L) (r : L) (h : m ≠ []) : fieldsL (m ++ [r]) = fieldsL m ++ [furL r (pl m (m.length - 1))] := by
  cases m with
  | nil => exact absurd rfl h
  | cons a t =>
    rw [List.cons_append, fieldsL, fieldsL, furs_snoc, List.cons_append, ← last_cons a a t, lastL, if_neg (by simp)]
/-- the text of the first k -/
def compK (m : List L) (k : Nat) : L := compT (m.take k)
theorem comp_zero (m : List L) : compK m 0 = [] := by simp [compK, compT, fieldsL, joinC]
theorem comp_all (m : List L) : compK m m.length = compT m := by simp [compK]
theorem comp_first {m : List L} (h : 0 < m.length) : compK m 1 = pl m 0 := by
  rw [compK, take_succ_pl h]
  simp [compT, fieldsL, furs, joinC]
theorem comp_next {m : List L} {k : Nat} (h : k + 1 < m.length) : compK m (k + 1 + 1) = compK m (k + 1) ++ 44 :: furL (pl m (k + 1)) (pl m k) := by
  have hne : m.take (k + 1) ≠ [] := by intro e; have := congrArg List.length e; simp at this; subst this; simp at h
  rw [compK, take_succ_pl h, compT, fields_snoc _ _ hne, join_snoc]
  · have e : pl (m.take (k + 1)) ((m.take (k + 1)).length - 1) = pl m k := by
      rw [List.length_take, Nat.min_eq_left (by omega), pl_take (by omega)]; congr 1
    rw [e]; rfl
  · intro e
    have := congrArg List.length e
    rw [fields_length] at this
    exact hne (List.eq_nil_of_length_eq_zero this)
def compL (l : List L) : L × Nat := if l.all isL then (if 8 < l.length then ([], 13) else (compT l, 0)) else ([], 1)
theorem all_isL {l : List L} (h : l.all isL = true) {x : L} (hx : x ∈ l) : kindL x ≠ 0 := by
  rw [List.all_eq_true] at h
  exact (isL_iff x).1 (h x hx)
theorem furs_ok (m : List L) : ∀ p, m.all isL = true → ∀ f ∈ furs p m, f ≠ [] ∧ (44 : UInt8) ∉ f ∧ f.length ≤ 37 := by
  induction m with
  | nil => intro p _ f hf; cases hf
  | cons r t ih =>
    intro p h f hf
    have hr := all_isL h (x := r) List.mem_cons_self
    rw [furs] at hf
    rcases List.mem_cons.1 hf with q | q
    · rw [q]
      have := fur_len r p
      have := real_len hr
      exact ⟨fur_ne hr, fur_comma hr, by omega⟩
    · exact ih r (by simp only [List.all_cons, Bool.and_eq_true] at h; exact h.2) f q
theorem fields_ok {m : List L} (h : m.all isL = true) : ∀ f ∈ fieldsL m, f ≠ [] ∧ (44 : UInt8) ∉ f ∧ f.length ≤ 37 := by
  cases m with
  | nil => intro f hf; cases hf
  | cons r t =>
    intro f hf
    have hr := all_isL h (x := r) List.mem_cons_self
    rw [fieldsL] at hf
    rcases List.mem_cons.1 hf with q | q
    · rw [q]
      have := real_len hr
      exact ⟨ne_of_kind hr, real_comma hr, by omega⟩
    · exact furs_ok t r (by simp only [List.all_cons, Bool.and_eq_true] at h; exact h.2) f q
theorem comp_len {m : List L} (h : m.all isL = true) : (compT m).length ≤ m.length * 38 := by
  have := join_len (k := 37) fun f hf => (fields_ok h f hf).2.2
  rw [fields_length] at this
  exact this
theorem comp_ne {m : List L} (h : m.all isL = true) (hm : m ≠ []) : compT m ≠ [] := by
  cases m with
  | nil => exact absurd rfl hm
  | cons r t =>
    have hr := all_isL h (x := r) List.mem_cons_self
    rw [compT, fieldsL]
    cases ht : furs r t with
    | nil => rw [join_one]; exact ne_of_kind hr
    | cons a s => rw [join_cons (by simp)]; simp

/-! ### a row with more, each once -/
def addL (l : List L) (r : L) : List L := if r ∈ l then l else l ++ [r]
def addsL (l rs : List L) : List L := rs.foldl addL l
theorem add_len (l : List L) (r : L) : (addL l r).length ≤ l.length + 1 := by rw [addL]; split <;> simp
theorem add_ge (l : List L) (r : L) : l.length ≤ (addL l r).length := by rw [addL]; split <;> simp
theorem adds_nil (l : List L) : addsL l [] = l := rfl
theorem adds_cons (l : List L) (r : L) (t : List L) : addsL l (r :: t) = addsL (addL l r) t := rfl
theorem adds_append (l a b : List L) : addsL l (a ++ b) = addsL (addsL l a) b := List.foldl_append
theorem adds_len (rs : List L) : ∀ l, (addsL l rs).length ≤ l.length + rs.length := by
  induction rs with
  | nil => intro l; exact Nat.le_refl _
  | cons r t ih => intro l; rw [adds_cons]; have := ih (addL l r); have := add_len l r; simp only [List.length_cons]; omega
theorem add_in {l : List L} {r : L} (h : r ∈ l) : addL l r = l := if_pos h
theorem add_new {l : List L} {r : L} (h : r ∉ l) : addL l r = l ++ [r] := if_neg h
theorem mem_add {l : List L} {r x : L} : x ∈ addL l r ↔ x ∈ l ∨ x = r := by
  by_cases h : r ∈ l
  · rw [add_in h]
    constructor
    · exact .inl
    · rintro (g | g)
      · exact g
      · exact g ▸ h
  · rw [add_new h]; simp
theorem mem_adds (rs : List L) : ∀ {l : List L} {x : L}, x ∈ addsL l rs ↔ x ∈ l ∨ x ∈ rs := by
  induction rs with
  | nil => intro l x; rw [adds_nil]; simp
  | cons r t ih =>
    intro l x
    rw [adds_cons, ih, mem_add]; simp [or_assoc]
theorem nodup_add {l : List L} {r : L} (h : l.Nodup) : (addL l r).Nodup := by
  by_cases g : r ∈ l
  · rw [add_in g]; exact h
  · rw [add_new g, List.nodup_append]
    exact ⟨h, by simp, fun x hx y hy => by simp at hy; subst hy; rintro rfl; exact g hx⟩
theorem nodup_adds (rs : List L) : ∀ {l : List L}, l.Nodup → (addsL l rs).Nodup := by
  induction rs with
  | nil => intro l h; exact h
  | cons r t ih => intro l h; exact ih (nodup_add h)
/-- what is there already changes nothing -/
theorem adds_in (rs : List L) : ∀ {l : List L}, (∀ x ∈ rs, x ∈ l) → addsL l rs = l := by
  induction rs with
  | nil => intro l _; rfl
  | cons r t ih =>
    intro l h
    rw [adds_cons, add_in (h r List.mem_cons_self)]
    exact ih fun x hx => h x (List.mem_cons_of_mem _ hx)
/-- new ones come behind -/
theorem adds_new (rs : List L) : ∀ {l : List L}, (l ++ rs).Nodup → addsL l rs = l ++ rs := by
  induction rs with
  | nil => intro l _; rw [adds_nil]; simp
  | cons r t ih =>
    intro l h
    have hr : r ∉ l := by
      rw [List.nodup_append] at h
      intro g
      exact h.2.2 r g r List.mem_cons_self rfl
    rw [adds_cons, add_new hr]
    rw [ih (by rw [List.append_assoc]; exact h)]; simp
theorem adds_mono (rs : List L) : ∀ l, l.length ≤ (addsL l rs).length := by
  induction rs with
  | nil => intro l; exact Nat.le_refl _
  | cons r t ih => intro l; rw [adds_cons]; have := ih (addL l r); have := add_ge l r; omega
theorem all_add {l : List L} {r : L} (h : l.all isL = true) (hr : isL r = true) : (addL l r).all isL = true := by
  rw [List.all_eq_true] at h ⊢
  intro x hx
  rcases mem_add.1 hx with g | g
  · exact h x g
  · rw [g]; exact hr
theorem all_adds {l rs : List L} (h : l.all isL = true) (hr : rs.all isL = true) : (addsL l rs).all isL = true := by
  rw [List.all_eq_true] at h hr ⊢
  intro x hx
  rcases (mem_adds rs).1 hx with g | g
  · exact h x g
  · exact hr x g
/-- realms, each once -/
def onceL (l : List L) : List L := addsL [] l
theorem once_nodup (l : List L) : (onceL l).Nodup := nodup_adds l (by simp)
theorem once_all {l : List L} (h : l.all isL = true) : (onceL l).all isL = true := all_adds (by simp) h
theorem once_of_nodup {l : List L} (h : l.Nodup) : onceL l = l := by rw [onceL, adds_new l (by simpa using h)]; simp
theorem once_len (l : List L) : (onceL l).length ≤ l.length := by have := adds_len l []; simpa [onceL] using this

/-! ### a text as realms -/
def fromL (c p : L) : L := if p = [] then c else p
def overF (l : List L) : List L × Nat := if 8 < l.length then ([], 13) else (l, 0)
def nullF (c : L) (l : List L) (p r : L) (n : Bool) : List L := if n then addsL l (betweenL (fromL c p) r) else l
def expF (c sv : L) : List L → List L → L → Bool → List L × Nat
  | [], l, p, n => overF (nullF c l p sv n)
  | f :: t, l, p, n => if f = [] then expF c sv t l p true else
      if isL (toldL f p) then
        (if 8 < (addL (nullF c l p (toldL f p) n) (toldL f p)).length then ([], 13) else expF c sv t (addL (nullF c l p (toldL f p) n) (toldL f p)) (toldL f p) false)
      else ([], 2)
def expL (s c sv : L) : List L × Nat := if isL c && isL sv then (if s = [] then ([], 0) else expF c sv (split 44 s) [] [] false) else ([], 1)
def insL (s c sv r : L) : L × Nat :=
  if (expL s c sv).2 ≠ 0 then ([], (expL s c sv).2) else if isL r then (if r = c ∨ r = sv ∨ r ∈ (expL s c sv).1 then (s, 0) else compL ((expL s c sv).1 ++ [r])) else ([], 1)

theorem expF_nil (c sv : L) (l : List L) (p : L) (n : Bool) : expF c sv [] l p n = overF (nullF c l p sv n) := rfl
theorem expF_null (c sv : L) (t l : List L) (p : L) (n : Bool) : expF c sv ([] :: t) l p n = expF c sv t l p true := by rw [expF, if_pos rfl]
theorem expF_bad {c sv f : L} {t l : List L} {p : L} {n : Bool} (h : f ≠ []) (h1 : isL (toldL f p) = false) : expF c sv (f :: t) l p n = ([], 2) := by rw [expF, if_neg h, if_neg (by simp [h1])]
theorem expF_more {c sv f : L} {t l : List L} {p : L} {n : Bool} (h : f ≠ []) (h1 : isL (toldL f p) = true) (h2 : (addL (nullF c l p (toldL f p) n) (toldL f p)).length ≤ 8) :
    expF c sv (f :: t) l p n = expF c sv t (addL (nullF c l p (toldL f p) n) (toldL f p)) (toldL f p) false := by rw [expF, if_neg h, if_pos h1, if_neg (by omega)]
theorem expF_full {c sv f : L} {t l : List L} {p : L} {n : Bool} (h : f ≠ []) (h1 : isL (toldL f p) = true) (h2 : 8 < (addL (nullF c l p (toldL f p) n) (toldL f p)).length) :
    expF c sv (f :: t) l p n = ([], 13) := by rw [expF, if_neg h, if_pos h1, if_pos h2]
theorem exp_no {s c sv : L} (h : isL c = false ∨ isL sv = false) : expL s c sv = ([], 1) := by
  rw [expL, if_neg]
  rcases h with h | h <;> simp [h]
theorem exp_empty {c sv : L} (h : isL c = true) (h2 : isL sv = true) : expL [] c sv = ([], 0) := by rw [expL, h, h2]; rfl
theorem exp_some {s c sv : L} (h : isL c = true) (h2 : isL sv = true) (hs : s ≠ []) : expL s c sv = expF c sv (split 44 s) [] [] false := by rw [expL, h, h2, if_pos (show (true && true) = true from rfl), if_neg hs]
/-- no more than eight are answered -/
theorem over_len (l : List L) : (overF l).1.length ≤ 8 := by rw [overF]; split <;> simp; omega
theorem expF_len (c sv : L) (fs : List L) : ∀ l p n, (expF c sv fs l p n).1.length ≤ 8 := by
  induction fs with
  | nil => intro l p n; exact over_len _
  | cons f t ih =>
    intro l p n
    rw [expF]
    split
    · exact ih _ _ _
    · split
      · split
        · simp
        · exact ih _ _ _
      · simp
theorem exp_len (s c sv : L) : (expL s c sv).1.length ≤ 8 := by
  rw [expL]; split
  · split
    · simp
    · exact expF_len _ _ _ _ _ _
  · simp
theorem between_isL {a b x : L} (h : x ∈ betweenL a b) : isL x = true := (isL_iff x).2 (between_kind h)
theorem expF_all {c sv : L} (fs : List L) : ∀ l p n, l.all isL = true → (expF c sv fs l p n).1.all isL = true := by
  have hn : ∀ (l : List L) (p r : L) (n : Bool), l.all isL = true → (nullF c l p r n).all isL = true := by
    intro l p r n h
    rw [nullF]; split
    · exact all_adds h (by rw [List.all_eq_true]; exact fun x hx => between_isL hx)
    · exact h
  induction fs with
  | nil => intro l p n h; rw [expF_nil, overF]; split <;> simp; simpa using hn l p sv n h
  | cons f t ih =>
    intro l p n h
    rw [expF]
    split
    · exact ih _ _ _ h
    · split
      · split
        · rfl
        · rename_i h1 _
          exact ih _ _ _ (all_add (hn _ _ _ _ h) h1)
      · rfl
theorem exp_all (s c sv : L) : (expL s c sv).1.all isL = true := by
  rw [expL]; split
  · split
    · rfl
    · exact expF_all _ _ _ _ rfl
  · rfl

/-! ### realms as a text and back -/
/-- pieces that tell these realms, one by one -/
def Tell : L → List L → List L → Prop
  | _, [], [] => True
  | p, f :: fs, r :: rs => f ≠ [] ∧ toldL f p = r ∧ isL r = true ∧ Tell r fs rs
  | _, _, _ => False
theorem tell_exp {c sv : L} (fs : List L) : ∀ (rs l : List L) (p : L), Tell p fs rs → (addsL l rs).length ≤ 8 → expF c sv fs l p false = (addsL l rs, 0) := by
  induction fs with
  | nil =>
    intro rs l p h hl
    cases rs with
    | nil =>
      rw [adds_nil] at hl
      rw [expF_nil, nullF, if_neg (by simp), overF, if_neg (by omega), adds_nil]
    | cons r t => exact h.elim
  | cons f t ih =>
    intro rs l p h hl
    cases rs with
    | nil => exact h.elim
    | cons r rs =>
      obtain ⟨h1, h2, h3, h4⟩ := h
      rw [adds_cons] at hl ⊢
      have h5 : nullF c l p (toldL f p) false = l := by rw [nullF, if_neg (by simp)]
      rw [expF_more h1 (by rw [h2]; exact h3) (by rw [h5, h2]; exact Nat.le_trans (adds_mono rs _) hl), h5, h2]
      exact ih rs _ r h4 hl
theorem tell_furs (m : List L) : ∀ p, m.all isL = true → Tell p (furs p m) m := by
  induction m with
  | nil => intro p _; trivial
  | cons r t ih =>
    intro p h
    simp only [List.all_cons, Bool.and_eq_true] at h
    exact ⟨fur_ne ((isL_iff r).1 h.1), told_fur ((isL_iff r).1 h.1), h.1, ih r h.2⟩
theorem tell_fields {m : List L} (h : m.all isL = true) : Tell [] (fieldsL m) m := by
  cases m with
  | nil => trivial
  | cons r t =>
    simp only [List.all_cons, Bool.and_eq_true] at h
    have hr := (isL_iff r).1 h.1
    exact ⟨ne_of_kind hr, told_nil hr, h.1, tell_furs t r h.2⟩
theorem back_all {m : List L} {c sv : L} (h : m.all isL = true) (hn : m.Nodup) (hl : m.length ≤ 8) (hc : isL c = true) (hs : isL sv = true) : expL (compT m) c sv = (m, 0) := by
  by_cases he : m = []
  · subst he; exact exp_empty hc hs
  · rw [exp_some hc hs (comp_ne h he), compT, split_join (by intro e; have := fields_length m; rw [e] at this; exact he (List.eq_nil_of_length_eq_zero this.symm)) (fun f hf => (fields_ok h f hf).2.1)]
    have e : addsL [] m = m := once_of_nodup hn
    rw [tell_exp _ m [] [] (tell_fields h) (by rw [e]; exact hl), e]
end Go.Proofs.Ytnalnhplcchdoaa.Tr
