/-
  Plain mathematics of chapter 5: all that is above a realm, and what stands between two.
-/
import Derived.Test.YtcjibpjdfhhhkaaNmPlain
namespace Go.Proofs.Ytcjibpjdfhhhkaa.Nm

/-! ### a realm and all above it -/
def chF : Nat → L → List L
  | 0, _ => []
  | n + 1, l => if l = [] then [] else l :: chF n (upL l)
def ch (l : L) : List L := chF 4 l
theorem chF_nil (n : Nat) : chF n [] = [] := by cases n <;> simp [chF]
theorem chF_more (n : Nat) : ∀ l : L, kindL l ≠ 0 → depL l ≤ n → chF (n + 1) l = chF n l := by
  induction n with
  | zero => intro l h hd; have := dep_pos h; omega
  | succ n ih =>
    intro l h hd
    show (if l = [] then [] else l :: chF (n + 1) (upL l)) = (if l = [] then [] else l :: chF n (upL l))
    rw [if_neg (ne_of_kind h), if_neg (ne_of_kind h)]
    rcases up_kind l with e | ⟨e1, e2⟩
    · rw [e, chF_nil, chF_nil]
    · rw [ih (upL l) (by rw [e1]; exact h) (by omega)]
theorem ch_nil : ch [] = [] := chF_nil 4
theorem ch_cons {l : L} (h : l ≠ []) : ch l = l :: ch (upL l) := by
  rw [ch, chF, if_neg h]
  rcases up_kind l with e | ⟨e1, e2⟩
  · rw [e, chF_nil, ch_nil]
  · by_cases hk : kindL l = 0
    · rw [up_none hk, chF_nil, ch_nil]
    · have := dep_le l
      rw [ch, chF_more 3 (upL l) (by rw [e1]; exact hk) (by omega)]
theorem chF_len (n : Nat) : ∀ l : L, (chF n l).length ≤ n := by
  induction n with
  | zero => intro l; simp [chF]
  | succ n ih => intro l; rw [chF]; split <;> simp [ih]
theorem ch_len (l : L) : (ch l).length ≤ 4 := chF_len 4 l
theorem ch_pos {l : L} (h : l ≠ []) : 1 ≤ (ch l).length := by rw [ch_cons h]; simp
theorem ch_zero {l : L} (h : l ≠ []) : (ch l).getD 0 [] = l := by rw [ch_cons h]; rfl
/-- place i of a chain -/
def pl (A : List L) (i : Nat) : L := A.getD i []
theorem pl_lt {A : List L} {i : Nat} (h : i < A.length) : pl A i = A[i] := by simp [pl, h]
theorem pl_ge {A : List L} {i : Nat} (h : A.length ≤ i) : pl A i = [] := by simp [pl, h]
theorem pl_mem {A : List L} {i : Nat} (h : i < A.length) : pl A i ∈ A := by rw [pl_lt h]; exact List.getElem_mem h
theorem mem_pl {A : List L} {x : L} (h : x ∈ A) : ∃ i, i < A.length ∧ pl A i = x := by
  obtain ⟨i, hi, e⟩ := List.getElem_of_mem h
  exact ⟨i, hi, by rw [pl_lt hi]; exact e⟩
theorem ch_at (i : Nat) : ∀ a : L, i < (ch a).length → ch (pl (ch a) i) = (ch a).drop i := by
  induction i with
  | zero =>
    intro a h
    by_cases ha : a = []
    · subst ha; rw [ch_nil] at h; simp at h
    · rw [List.drop_zero, pl, ch_zero ha]
  | succ i ih =>
    intro a h
    by_cases ha : a = []
    · subst ha; rw [ch_nil] at h; simp at h
    · rw [ch_cons ha] at h ⊢
      simp only [List.length_cons] at h
      exact ih (upL a) (by omega)
theorem up_at {i : Nat} (a : L) (h : i < (ch a).length) : upL (pl (ch a) i) = pl (ch a) (i + 1) := by
  have h1 := ch_at i a h
  have hne : pl (ch a) i ≠ [] := by
    intro e
    rw [e, ch_nil] at h1
    have := congrArg List.length h1
    simp at this; omega
  rw [ch_cons hne] at h1
  have h2 := congrArg (List.drop 1) h1
  simp only [List.drop_succ_cons, List.drop_zero, List.drop_drop] at h2
  by_cases hu : upL (pl (ch a) i) = []
  · rw [hu, ch_nil] at h2
    rw [hu]
    have h3 := congrArg List.length h2
    simp only [List.length_nil, List.length_drop] at h3
    exact (pl_ge (by omega)).symm
  · rw [ch_cons hu] at h2
    have h3 := congrArg (fun m => List.getD m 0 []) h2
    simpa [pl, List.getD, List.getElem?_drop] using h3
theorem at_ne {i : Nat} (a : L) (h : i < (ch a).length) : pl (ch a) i ≠ [] := by
  intro e
  have h1 := ch_at i a h
  rw [e, ch_nil] at h1
  have := congrArg List.length h1
  simp at this; omega
theorem at_kind (i : Nat) : ∀ a : L, i < (ch a).length → kindL (pl (ch a) i) = kindL a := by
  induction i with
  | zero =>
    intro a h
    by_cases ha : a = []
    · subst ha; rw [ch_nil] at h; simp at h
    · rw [pl, ch_zero ha]
  | succ i ih =>
    intro a h
    by_cases ha : a = []
    · subst ha; rw [ch_nil] at h; simp at h
    · rw [ch_cons ha] at h ⊢
      simp only [List.length_cons] at h
      have := ih (upL a) (by omega)
      rw [show pl (a :: ch (upL a)) (i + 1) = pl (ch (upL a)) i from rfl, this]
      rcases up_kind a with e | ⟨e, _⟩
      · rw [e, ch_nil] at h; simp at h
      · exact e
theorem mem_kind {a x : L} (h : x ∈ ch a) : kindL x = kindL a := by
  obtain ⟨i, hi, rfl⟩ := mem_pl h
  exact at_kind i a hi
theorem mem_ne {a x : L} (h : x ∈ ch a) : x ≠ [] := by
  obtain ⟨i, hi, rfl⟩ := mem_pl h
  exact at_ne a hi
theorem at_lt (a : L) : ∀ j i : Nat, i < j → j < (ch a).length → (pl (ch a) j).length < (pl (ch a) i).length := by
  intro j
  induction j with
  | zero => intro i h; omega
  | succ j ih =>
    intro i h hj
    have h1 := up_at a (i := j) (by omega)
    have h2 := up_lt (at_ne a (i := j) (by omega))
    rw [h1] at h2
    by_cases e : i = j
    · subst e; exact h2
    · have := ih i (by omega) (by omega); omega
theorem at_inj {a : L} {i j : Nat} (hi : i < (ch a).length) (hj : j < (ch a).length) (h : pl (ch a) i = pl (ch a) j) : i = j := by
  rcases Nat.lt_trichotomy i j with g | g | g
  · have := at_lt a j i g hj; rw [h] at this; omega
  · exact g
  · have := at_lt a i j g hi; rw [h] at this; omega
theorem ch_nodup (a : L) : (ch a).Nodup := by
  rw [List.nodup_iff_pairwise_ne, List.pairwise_iff_getElem]
  intro i j hi hj hij e
  have := at_inj (a := a) hi hj (by rw [pl_lt hi, pl_lt hj]; exact e)
  omega
/-- what is above something above is above -/
theorem mem_sub {a x y : L} (h : x ∈ ch a) (h2 : y ∈ ch x) : y ∈ ch a := by
  obtain ⟨i, hi, rfl⟩ := mem_pl h
  rw [ch_at i a hi] at h2
  exact List.mem_of_mem_drop h2
theorem mem_len {a x : L} (h : x ∈ ch a) : x.length ≤ a.length := by
  obtain ⟨i, hi, rfl⟩ := mem_pl h
  have ha : a ≠ [] := by rintro rfl; rw [ch_nil] at hi; simp at hi
  have h0 : pl (ch a) 0 = a := ch_zero ha
  by_cases e : i = 0
  · subst e; rw [h0]; exact Nat.le_refl _
  · have := at_lt a i 0 (by omega) hi; rw [h0] at this; omega
theorem mem_self {a : L} (h : a ≠ []) : a ∈ ch a := by rw [ch_cons h]; exact List.mem_cons_self
theorem mem_eq {a b : L} (h : a ∈ ch b) (h2 : b ∈ ch a) : a = b := by
  obtain ⟨i, hi, e⟩ := mem_pl h2
  have ha : a ≠ [] := by rintro rfl; rw [ch_nil] at hi; simp at hi
  by_cases h0 : i = 0
  · subst h0; rw [← e]; exact (ch_zero ha).symm
  · have h3 := at_lt a i 0 (by omega) hi
    rw [e, show pl (ch a) 0 = a from ch_zero ha] at h3
    have := mem_len h; omega

/-- is a below b? -/
def underL (a b : L) : Bool := decide (b ∈ ch (upL a))
theorem under_iff (a b : L) : underL a b = true ↔ b ∈ ch (upL a) := by simp [underL]
theorem under_mem {a b : L} (h : underL a b = true) : b ∈ ch a := by
  rw [under_iff] at h
  have ha : a ≠ [] := by rintro rfl; rw [up_nil, ch_nil] at h; simp at h
  rw [ch_cons ha]; exact List.mem_cons_of_mem _ h
theorem under_lt {a b : L} (h : underL a b = true) : b.length < a.length := by
  rw [under_iff] at h
  have ha : a ≠ [] := by rintro rfl; rw [up_nil, ch_nil] at h; simp at h
  have := mem_len h
  have := up_lt ha; omega
theorem under_kind {a b : L} (h : underL a b = true) : kindL a = kindL b := (mem_kind (under_mem h)).symm
theorem under_real {a b : L} (h : underL a b = true) : kindL a ≠ 0 := by
  intro e
  rw [under_iff, up_none e, ch_nil] at h
  simp at h
theorem under_anti {a b : L} (h : underL a b = true) : underL b a = false := by
  cases h2 : underL b a with
  | false => rfl
  | true => have := under_lt h; have := under_lt h2; omega
theorem under_trans {a b c : L} (h : underL a b = true) (h2 : underL b c = true) : underL a c = true := by
  rw [under_iff] at h ⊢
  exact mem_sub h (under_mem h2)
theorem under_self (a : L) : underL a a = false := by
  cases h : underL a a with
  | false => rfl
  | true => have := under_lt h; omega
/-- to be b, or above b -/
theorem mem_ch_iff {b x : L} (hb : b ≠ []) : x ∈ ch b ↔ x = b ∨ underL b x = true := by
  rw [ch_cons hb, List.mem_cons, under_iff]

/-! ### the way from a to b -/
/-- the first place of A that is in B -/
def ix (A B : List L) : Nat := A.findIdx fun x => decide (x ∈ B)
theorem ix_le (A B : List L) : ix A B ≤ A.length := List.findIdx_le_length
theorem ix_in {A B : List L} (h : ix A B < A.length) : pl A (ix A B) ∈ B := by
  have := List.findIdx_getElem (w := h)
  rw [pl_lt h]
  exact of_decide_eq_true this
theorem ix_not {A B : List L} {i : Nat} (h : i < ix A B) : pl A i ∉ B := by
  have hl : i < A.length := Nat.lt_of_lt_of_le h (ix_le A B)
  have := List.not_of_lt_findIdx h
  rw [pl_lt hl]
  simpa using this
theorem ix_eq {A B : List L} {i : Nat} (hi : i < A.length) (hin : pl A i ∈ B) (hnot : ∀ k, k < i → pl A k ∉ B) : ix A B = i := by
  rcases Nat.lt_trichotomy (ix A B) i with g | g | g
  · exact absurd (ix_in (Nat.lt_trans g hi)) (hnot _ g)
  · exact g
  · exact absurd hin (ix_not g)
theorem ix_all {A B : List L} (hnot : ∀ k, k < A.length → pl A k ∉ B) : ix A B = A.length := by
  rcases Nat.lt_or_ge (ix A B) A.length with g | g
  · exact absurd (ix_in g) (hnot _ g)
  · have := ix_le A B; omega
/-- from the first of A up to what is in B, too, and down to the first of B -/
def pathL (A B : List L) : List L := A.take (ix A B) ++ ((A.drop (ix A B)).take 1 ++ (B.take (ix B A)).reverse)
def betweenL (a b : L) : List L := if kindL a = 0 ∨ kindL b = 0 then [] else ((pathL (ch a) (ch b)).drop 1).dropLast

theorem ix_meet {a b : L} (h : ix (ch a) (ch b) < (ch a).length) : ix (ch b) (ch a) < (ch b).length ∧ pl (ch b) (ix (ch b) (ch a)) = pl (ch a) (ix (ch a) (ch b)) := by
  have h1 := ix_in h
  have ha := pl_mem h
  obtain ⟨j, hj, e⟩ := mem_pl h1
  have hlt : ix (ch b) (ch a) < (ch b).length := by
    rcases Nat.lt_or_ge (ix (ch b) (ch a)) (ch b).length with g | g
    · exact g
    · exact absurd (by rw [e]; exact ha) (ix_not (A := ch b) (B := ch a) (i := j) (by omega))
  refine ⟨hlt, ?_⟩
  have h2 := ix_in hlt
  -- m' is in ch a at or behind m, m in ch b at or behind m'
  obtain ⟨i, hi, ei⟩ := mem_pl h2
  have hii : ix (ch a) (ch b) ≤ i := by
    rcases Nat.lt_or_ge i (ix (ch a) (ch b)) with g | g
    · exact absurd (by rw [ei]; exact pl_mem hlt) (ix_not g)
    · exact g
  have hjj : ix (ch b) (ch a) ≤ j := by
    rcases Nat.lt_or_ge j (ix (ch b) (ch a)) with g | g
    · exact absurd (by rw [e]; exact ha) (ix_not g)
    · exact g
  have m1 : (pl (ch b) (ix (ch b) (ch a))).length ≤ (pl (ch a) (ix (ch a) (ch b))).length := by
    rw [← ei]
    by_cases q : i = ix (ch a) (ch b)
    · rw [q]; exact Nat.le_refl _
    · exact Nat.le_of_lt (at_lt a i _ (by omega) hi)
  by_cases q : j = ix (ch b) (ch a)
  · rw [← q]; exact e
  · have := at_lt b j _ (by omega : ix (ch b) (ch a) < j) hj
    rw [e] at this; omega
theorem ix_part {a b : L} (h : ix (ch a) (ch b) = (ch a).length) : ix (ch b) (ch a) = (ch b).length := by
  rcases Nat.lt_or_ge (ix (ch b) (ch a)) (ch b).length with g | g
  · have := (ix_meet (a := b) (b := a) g).1; omega
  · have := ix_le (ch b) (ch a); omega
theorem take_pl {A : List L} {i : Nat} (h : i < A.length) : (A.drop i).take 1 = [pl A i] := by
  rw [pl_lt h, List.drop_eq_getElem_cons h]; rfl
theorem path_meet {a b : L} (h : ix (ch a) (ch b) < (ch a).length) :
    pathL (ch a) (ch b) = (ch a).take (ix (ch a) (ch b)) ++ pl (ch a) (ix (ch a) (ch b)) :: ((ch b).take (ix (ch b) (ch a))).reverse := by
  rw [pathL, take_pl h]; rfl
theorem path_part {a b : L} (h : ix (ch a) (ch b) = (ch a).length) : pathL (ch a) (ch b) = ch a ++ (ch b).reverse := by
  rw [pathL, ix_part h, h]; simp
theorem path_rev (a b : L) : pathL (ch b) (ch a) = (pathL (ch a) (ch b)).reverse := by
  rcases Nat.lt_or_ge (ix (ch a) (ch b)) (ch a).length with g | g
  · obtain ⟨h1, h2⟩ := ix_meet g
    rw [path_meet g, path_meet h1, h2]; simp
  · have e : ix (ch a) (ch b) = (ch a).length := by have := ix_le (ch a) (ch b); omega
    rw [path_part e, path_part (ix_part e)]; simp
theorem between_rev (a b : L) : betweenL b a = (betweenL a b).reverse := by
  unfold betweenL
  by_cases h : kindL a = 0 ∨ kindL b = 0
  · rw [if_pos h, if_pos h.symm]; rfl
  · rw [if_neg h, if_neg (fun g => h g.symm), path_rev]
    rw [List.drop_one, List.drop_one, List.tail_reverse, List.dropLast_reverse, List.tail_dropLast]

/-! ### as the loops go -/
/-- what is collected on the way up, behind k steps -/
def upW (A : List L) (b : L) : Nat → List L
  | 0 => []
  | k + 1 => upW A b k ++ (if pl A (k + 1) = [] ∨ pl A (k + 1) = b then [] else [pl A (k + 1)])
/-- what is collected on the way down from k steps above, the last one first -/
def downW (B : List L) (b : L) : Nat → List L
  | 0 => []
  | k + 1 => downW B b k ++ (if pl B k = b then [] else [pl B k])
theorem take_succ_pl {A : List L} {i : Nat} (h : i < A.length) : A.take (i + 1) = A.take i ++ [pl A i] := by
  rw [pl_lt h, List.take_succ_eq_append_getElem h]
theorem upW_eq {a b : L} (k : Nat) (h : k < (ch a).length) (hb : ∀ i, i ≤ k → i ≠ 0 → pl (ch a) i ≠ b) : upW (ch a) b k = ((ch a).take (k + 1)).drop 1 := by
  induction k with
  | zero => rw [upW, take_succ_pl h]; simp
  | succ k ih =>
    rw [upW, ih (by omega) (fun i hi => hb i (by omega)), if_neg (by
      intro e
      rcases e with e | e
      · exact at_ne a h e
      · exact hb (k + 1) (Nat.le_refl _) (by omega) e), take_succ_pl h, List.drop_append_of_le_length]
    rw [List.length_take]; omega
theorem downW_eq {b : L} (k : Nat) (h : k ≤ (ch b).length) : downW (ch b) b k = ((ch b).take k).drop 1 := by
  induction k with
  | zero => simp [downW]
  | succ k ih =>
    have h0 : (ch b).getD 0 [] = b := by
      refine ch_zero ?_
      rintro rfl; rw [ch_nil] at h; simp at h
    rw [downW, ih (by omega), take_succ_pl (by omega)]
    by_cases hk : k = 0
    · subst hk; rw [if_pos (show pl (ch b) 0 = b from h0)]; simp
    · rw [if_neg (fun e => hk (at_inj (a := b) (i := k) (j := 0) (by omega) (by omega) (by rw [e]; exact h0.symm))), List.drop_append_of_le_length]
      rw [List.length_take]; omega
theorem between_loops {a b : L} (ha : kindL a ≠ 0) (hb : kindL b ≠ 0) : upW (ch a) b (ix (ch a) (ch b)) ++ (downW (ch b) b (ix (ch b) (ch a))).reverse = betweenL a b := by
  have na := ne_of_kind ha
  have nb := ne_of_kind hb
  have pa := ch_pos na
  have pb := ch_pos nb
  rw [betweenL, if_neg (by omega), downW_eq _ (ix_le _ _)]
  have bB : b ∈ ch b := mem_self nb
  rcases Nat.lt_or_ge (ix (ch a) (ch b)) (ch a).length with g | g
  · obtain ⟨h1, h2⟩ := ix_meet g
    rw [path_meet g]
    by_cases e : pl (ch a) (ix (ch a) (ch b)) = b
    · have hj : ix (ch b) (ch a) = 0 := by
        refine ix_eq (by omega) ?_ (by omega)
        rw [pl, ch_zero nb, ← e]; exact pl_mem g
      rw [hj, e]
      cases hi : ix (ch a) (ch b) with
      | zero => simp [upW]
      | succ k =>
        rw [hi] at e g
        rw [upW, if_pos (.inr e), upW_eq k (by omega) (fun i hik _ => by
          intro q
          exact absurd (by rw [q]; exact bB) (ix_not (A := ch a) (B := ch b) (i := i) (by omega)))]
        rw [List.drop_append_of_le_length (by rw [List.length_take]; omega)]
        simp
    · rw [upW_eq _ g (fun i hi _ => by
        intro q
        by_cases w : i = ix (ch a) (ch b)
        · rw [w] at q; exact e q
        · exact absurd (by rw [q]; exact bB) (ix_not (A := ch a) (B := ch b) (i := i) (by omega)))]
      have hj : 1 ≤ ix (ch b) (ch a) := by
        rcases Nat.eq_zero_or_pos (ix (ch b) (ch a)) with q | q
        · rw [q, pl, ch_zero nb] at h2; exact absurd h2.symm e
        · exact q
      obtain ⟨j, ej⟩ : ∃ j, ix (ch b) (ch a) = j + 1 := ⟨ix (ch b) (ch a) - 1, by omega⟩
      rw [ej, ch_cons nb]
      simp only [List.take_succ_cons, List.drop_succ_cons, List.drop_zero, List.reverse_cons]
      have e1 : List.take (ix (ch a) (b :: ch (upL b))) (ch a) ++ pl (ch a) (ix (ch a) (b :: ch (upL b))) :: ((List.take j (ch (upL b))).reverse ++ [b]) = (List.take (ix (ch a) (b :: ch (upL b)) + 1) (ch a) ++ (List.take j (ch (upL b))).reverse) ++ [b] := by
        rw [take_succ_pl (by rw [← ch_cons nb]; exact g)]; simp
      rw [e1, List.drop_append_of_le_length (by simp; omega), List.dropLast_concat, List.drop_append_of_le_length (by rw [List.length_take]; omega)]
  · have e : ix (ch a) (ch b) = (ch a).length := by have := ix_le (ch a) (ch b); omega
    rw [path_part e, ix_part e, e]
    obtain ⟨n, en⟩ : ∃ n, (ch a).length = n + 1 := ⟨(ch a).length - 1, by omega⟩
    have hnot : ∀ i, i < (ch a).length → pl (ch a) i ≠ b := fun i hi q => absurd (by rw [q]; exact bB) (ix_not (A := ch a) (B := ch b) (i := i) (by omega))
    have hu : upW (ch a) b (ch a).length = (ch a).drop 1 := by
      rw [en, upW, if_pos (.inl (pl_ge (by omega))), upW_eq n (by omega) (fun i hi _ => hnot i (by omega)), ← en]
      simp
    rw [hu, List.take_of_length_le (Nat.le_refl _)]
    conv => rhs; rw [ch_cons nb]
    conv => lhs; rw [ch_cons nb]
    rw [List.reverse_cons, ← List.append_assoc, List.drop_append_of_le_length (by simp; omega), List.dropLast_concat, List.drop_append_of_le_length (by omega)]
    simp
end Go.Proofs.Ytcjibpjdfhhhkaa.Nm
