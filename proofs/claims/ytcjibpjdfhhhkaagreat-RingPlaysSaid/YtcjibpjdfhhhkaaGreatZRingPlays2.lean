import Derived.Deep.LoopGhost
import Derived.SizedLaws
import Derived.Test.YtcjibpjdfhhhkaaGreatRows
import Derived.Lib.SmallJoins
import Derived.Deep.Strs
import Derived.ChangeSame
import Derived.Deep.MidRow
import Derived.BigFrame
import Derived.Great.BuildSlice
import Derived.Laws.Bits64
import Derived.Laws.Bits64b
import Derived.Test.YtcjibpjdfhhhkaaGreatProg
import Derived.Test.YtcjibpjdfhhhkaaGreatZRingPlays1
section
set_option linter.unusedVariables false
namespace Go.Proofs.YtcjibpjdfhhhkaaGreat.Nm
open Go.RowKit Go.Proofs.YtcjibpjdfhhhkaaGreat.Mem
attribute [local go_sem] mk_at List.getElem_cons_zero List.getElem_cons_succ ext_tail ext_drop ext_mid ext_take

def krb : L := [107, 114, 98, 116, 103, 116, 47]
def tgL (n : L) : Bool := preL krb n && isL (cpL krb n)
def tgR (n : L) : L := if tgL n then n.drop 7 else []
def princL (r n : L) : Bool := isL r && (tgL n || wordL wordB n)
set_option maxHeartbeats 800000 in
theorem target_any (n : L) (w : World) (hs : n.length ≤ 1000000000) : Calls Tryz.prog 39 #[.string ⟨n.toArray⟩] w fun e w' => e = .returned (.tuple #[.string ⟨(tgR n).toArray⟩, .bool (tgL n)]) ∧ Below w.heap.size w w' := by
  have c1 := cutprefix_any n krb w hs (by decide)
  have hcl := cp_len krb n
  have c2 := is_any (cpL krb n) w (by omega)
  have C3 := Lib.hid (fun w1 => clone_any (cpL krb n) w1 (by omega))
  have HB0 := Lib.hid (Below.refl w.heap.size w)
  cases h1 : preL krb n with
  | false =>
    have E1 := Lib.hid (show tgL n = false by rw [tgL, h1]; rfl)
    have E2 := Lib.hid (show tgR n = [] by rw [tgR, E1.out]; rfl)
    rw [h1] at c1
    clear h1 hs hcl c2
    go_enter Tryz.func39, Tryz.ntmps39
    go_wp2_with (go_at_call 54; refine Calls.mono c1 ?_; rintro e w1 ⟨rfl, rfl⟩; clear c1)
    go_ret2
    exact ⟨by rw [E1.out, E2.out]; rfl, HB0.out⟩
  | true =>
    cases h2 : isL (cpL krb n) with
    | false =>
      have E1 := Lib.hid (show tgL n = false by rw [tgL, h1, h2]; rfl)
      have E2 := Lib.hid (show tgR n = [] by rw [tgR, E1.out]; rfl)
      rw [h1] at c1
      rw [h2] at c2
      clear h1 h2 hs hcl
      go_enter Tryz.func39, Tryz.ntmps39
      go_wp2_with (first
        | (go_at_call 54; refine Calls.mono c1 ?_; rintro e w1 ⟨rfl, rfl⟩; clear c1)
        | (go_at_call 38; refine Calls.mono c2 ?_; rintro e w2 ⟨rfl, hd⟩; clear c2; have H2 := Lib.hid hd.below; clear hd))
      go_ret2
      exact ⟨by rw [E1.out, E2.out]; rfl, H2.out⟩
    | true =>
      have E1 := Lib.hid (show tgL n = true by rw [tgL, h1, h2]; rfl)
      have E2 := Lib.hid (show tgR n = cpL krb n by rw [tgR, E1.out, cpL, h1]; rfl)
      rw [h1] at c1
      rw [h2] at c2
      clear h1 h2 hs hcl
      go_enter Tryz.func39, Tryz.ntmps39
      go_wp2_with (first
        | (go_at_call 54; refine Calls.mono c1 ?_; rintro e w1 ⟨rfl, rfl⟩; clear c1)
        | (go_at_call 38; refine Calls.mono c2 ?_; rintro e w2 ⟨rfl, hd⟩; clear c2; have H2 := Lib.hid hd.below; clear hd; have c3 := C3.out w2)
        | (go_at_call 42; refine Calls.mono c3 ?_; rintro e w3 ⟨rfl, hb⟩; clear c3; have H3 := Lib.hid (H2.out.trans (hb.mono H2.out.size)); clear hb))
      go_ret2
      exact ⟨by rw [E1.out, E2.out]; rfl, H3.out⟩

set_option maxHeartbeats 800000 in
theorem isprinc_any (r n : L) (w : World) (hs : r.length ≤ 1000000000) (hs2 : n.length ≤ 1000000000) : Calls Tryz.prog 20 #[.agg #[.string ⟨r.toArray⟩, .string ⟨n.toArray⟩]] w fun e w' => e = .returned (.bool (princL r n)) ∧ Below w.heap.size w w' := by
  have c1 := is_any r (w.alloc (.cells #[.string ⟨r.toArray⟩, .string ⟨n.toArray⟩] 31)) hs
  have hk := Blk.new w 31 #[.string ⟨r.toArray⟩, .string ⟨n.toArray⟩]
  have hb0 := (Below.refl w.heap.size w).alloc (Nat.le_refl _) (.cells #[.string ⟨r.toArray⟩, .string ⟨n.toArray⟩] 31)
  have hsz : w.heap.size < (w.alloc (.cells #[.string ⟨r.toArray⟩, .string ⟨n.toArray⟩] 31)).heap.size := by simp
  obtain ⟨N, eN⟩ : ∃ N, N = w.heap.size := ⟨_, rfl⟩
  have C2 := Lib.hid (fun w1 => target_any n w1 hs2)
  have C3 := Lib.hid (fun w1 => isword_sd n w1 hs2)
  have E1 := Lib.hid (show princL r n = (isL r && (tgL n || wordL wordB n)) from rfl)
  rw [← eN] at hk hb0 hsz ⊢
  have EN := Lib.hid eN; clear eN
  have HK := Lib.hid hk; clear hk
  have HB0 := Lib.hid hb0; clear hb0
  have HSZ := Lib.hid hsz; clear hsz hs hs2
  cases h1 : isL r with
  | false =>
    rw [h1] at c1
    have E := Lib.hid (show princL r n = false by rw [E1.out, h1]; rfl)
    clear h1
    go_enter Tryz.func20, Tryz.ntmps20
    go_wp2_with (go_at_call 38; refine Calls.mono c1 ?_; rintro e w1 ⟨rfl, hd⟩; clear c1; have H1 := Lib.hid (HB0.out.trans (hd.below.mono (Nat.le_of_lt HSZ.out))); clear hd)
    go_ret
    exact ⟨by rw [E.out]; rfl, H1.out⟩
  | true =>
    rw [h1] at c1
    have C2' := Lib.hid (fun w1 => C2.out w1)
    cases h2 : tgL n with
    | true =>
      have E := Lib.hid (show princL r n = true by rw [E1.out, h1, h2]; rfl)
      have HT := Lib.hid h2
      clear h1 h2
      go_enter Tryz.func20, Tryz.ntmps20
      go_wp2_with (first
        | (go_at_call 38; refine Calls.mono c1 ?_; rintro e w1 ⟨rfl, hd⟩; clear c1; have H1 := Lib.hid (HB0.out.trans (hd.below.mono (Nat.le_of_lt HSZ.out))); have hk1 := (HK.out.below hd.below).cell 1; have hs1 : N < w1.heap.size := (by have := hd.below.size; have := HSZ.out; omega); have HS1 := Lib.hid hs1; rw [EN.out] at hk1; clear hd hs1; have c2 := C2.out w1; rw [HT.out] at c2)
        | (go_at_call 39; refine Calls.mono c2 ?_; rintro e w2 ⟨rfl, hb⟩; clear c2; have H2 := Lib.hid (H1.out.trans (hb.mono (Nat.le_of_lt HS1.out))); clear hb))
      go_ret
      exact ⟨by rw [E.out]; rfl, H2.out⟩
    | false =>
      have E := Lib.hid (show princL r n = wordL wordB n by rw [E1.out, h1, h2]; rfl)
      have HT := Lib.hid h2
      clear h1 h2
      go_enter Tryz.func20, Tryz.ntmps20
      go_wp2_with (first
        | (go_at_call 38; refine Calls.mono c1 ?_; rintro e w1 ⟨rfl, hd⟩; clear c1; have H1 := Lib.hid (HB0.out.trans (hd.below.mono (Nat.le_of_lt HSZ.out))); have hkk := HK.out.below hd.below; have HKK := Lib.hid hkk; have hk1 := hkk.cell 1; have hs1 : N < w1.heap.size := (by have := hd.below.size; have := HSZ.out; omega); have HS1 := Lib.hid hs1; rw [EN.out] at hk1; clear hd hs1 hkk; have c2 := C2.out w1; rw [HT.out] at c2)
        | (go_at_call 39; refine Calls.mono c2 ?_; rintro e w2 ⟨rfl, hb⟩; clear c2 hk1; have H2 := Lib.hid (H1.out.trans (hb.mono (Nat.le_of_lt HS1.out))); have hk2 := (HKK.out.below hb).cell 1; rw [EN.out] at hk2; clear hb; have c3 := C3.out w2)
        | (go_at_call 40; refine Calls.mono c3 ?_; rintro e w3 ⟨rfl, rfl⟩; clear c3))
      go_ret
      exact ⟨by rw [E.out]; rfl, H2.out⟩
end Go.Proofs.YtcjibpjdfhhhkaaGreat.Nm
end

section
set_option linter.unusedVariables false
namespace Go.Proofs.YtcjibpjdfhhhkaaGreat.Rg
open Go.Proofs.YtcjibpjdfhhhkaaGreat.Nm (princL L)

abbrev Pr := L × L
def prB (p : Pr) : Bool := princL p.1 p.2
structure It where
  p : Pr
  n : Nat
  k : Nat → UInt8
def hit (i : It) (p : Pr) (n : Int) : Bool := decide (i.p = p) && decide ((i.n : Int) = n)
def firstI (l : List It) (p : Pr) (n : Int) : Option Nat := l.findIdx? (fun i => hit i p n)
def lastTo (l : List It) (p : Pr) : Nat → Option Nat
  | 0 => none
  | i + 1 => if (l[i]?).map (·.p) = some p then some i else lastTo l p i
def lastI (l : List It) (p : Pr) : Option Nat := lastTo l p l.length
def numO (l : List It) : Option Nat → Nat
  | none => 0
  | some i => ((l[i]?).map (·.n)).getD 0
def lastN (l : List It) (p : Pr) : Nat := numO l (lastI l p)
def Num (l : List It) : Prop := ∀ j i, l[j]? = some i → i.n = numO l (lastTo l i.p j) + 1
def addN (l : List It) (p : Pr) : Nat := if prB p = true then (if l.length < 40 then lastN l p + 1 else 0) else 0
def addE (l : List It) (p : Pr) : Nat := if prB p = true then (if l.length < 40 then 0 else 13) else 1
def addL (l : List It) (p : Pr) (k : Nat → UInt8) : List It := if prB p = true then (if l.length < 40 then l ++ [⟨p, lastN l p + 1, k⟩] else l) else l

theorem lastTo_some {l : List It} {p : Pr} : ∀ {i j : Nat}, lastTo l p i = some j → j < i ∧ ∃ x, l[j]? = some x ∧ x.p = p
  | 0, j, h => by cases h
  | i + 1, j, h => by
    unfold lastTo at h
    split at h
    · rename_i e
      injection h with h
      subst h
      obtain ⟨x, h1, h2⟩ := Option.map_eq_some_iff.1 e
      exact ⟨Nat.lt_succ_self _, x, h1, h2⟩
    · obtain ⟨h1, h2⟩ := lastTo_some h
      exact ⟨Nat.lt_succ_of_lt h1, h2⟩
theorem lastTo_none {l : List It} {p : Pr} : ∀ {i : Nat}, lastTo l p i = none → ∀ j x, j < i → l[j]? = some x → x.p ≠ p
  | 0, _, _, _, hj, _ => absurd hj (Nat.not_lt_zero _)
  | i + 1, h, j, x, hj, hx => by
    unfold lastTo at h
    split at h
    · cases h
    · rename_i e
      by_cases q : j = i
      · subst q
        intro hp
        exact e (by rw [hx, ← hp]; rfl)
      · exact lastTo_none h j x (by omega) hx
theorem lastTo_app {l m : List It} {p : Pr} : ∀ {i : Nat}, i ≤ l.length → lastTo (l ++ m) p i = lastTo l p i
  | 0, _ => rfl
  | i + 1, h => by unfold lastTo; rw [List.getElem?_append_left (by omega), lastTo_app (by omega)]
theorem numO_app {l m : List It} {o : Option Nat} (h : ∀ i, o = some i → i < l.length) : numO (l ++ m) o = numO l o := by
  cases o with
  | none => rfl
  | some i => show (((l ++ m)[i]?).map (·.n)).getD 0 = ((l[i]?).map (·.n)).getD 0; rw [List.getElem?_append_left (h i rfl)]
theorem lastTo_in {l : List It} {p : Pr} {i j : Nat} (h : lastTo l p i = some j) : j < l.length := by
  obtain ⟨_, x, h1, _⟩ := lastTo_some h
  exact (List.getElem?_eq_some_iff.1 h1).1
theorem lastN_snoc (l : List It) (i : It) (p : Pr) : lastN (l ++ [i]) p = if i.p = p then i.n else lastN l p := by
  unfold lastN lastI
  rw [List.length_append, List.length_singleton, lastTo]
  simp only [List.getElem?_append_right (Nat.le_refl _), Nat.sub_self, List.getElem?_cons_zero, Option.map_some, Option.some.injEq]
  by_cases h : i.p = p
  · rw [if_pos h, if_pos h]
    simp [numO]
  · rw [if_neg h, if_neg h, lastTo_app (Nat.le_refl _), numO_app (fun j hj => lastTo_in hj)]
theorem num_nil : Num [] := fun j i h => by simp at h
theorem num_snoc {l : List It} {i : It} (h : Num l) (hi : i.n = lastN l i.p + 1) : Num (l ++ [i]) := fun j x hx => by
  by_cases g : j < l.length
  · rw [List.getElem?_append_left g] at hx
    rw [lastTo_app (by omega), numO_app (fun q hq => lastTo_in hq)]
    exact h j x hx
  · have hj := (List.getElem?_eq_some_iff.1 hx).1
    obtain rfl : j = l.length := by simp at hj; omega
    rw [List.getElem?_append_right (Nat.le_refl _), Nat.sub_self] at hx
    injection hx with hx
    subst hx
    rw [lastTo_app (Nat.le_refl _), numO_app (fun q hq => lastTo_in hq)]
    exact hi
theorem num_to_le {l : List It} (h : Num l) (p : Pr) : ∀ i, numO l (lastTo l p i) ≤ i
  | 0 => Nat.le_refl _
  | i + 1 => by
    unfold lastTo
    split
    · rename_i e
      obtain ⟨x, h1, h2⟩ := Option.map_eq_some_iff.1 e
      have h3 := h i x h1
      have h4 := num_to_le h p i
      rw [h2] at h3
      simp only [numO, h1, Option.map_some, Option.getD_some]
      omega
    · have := num_to_le h p i; omega
theorem last_le {l : List It} (h : Num l) (p : Pr) : lastN l p ≤ l.length := num_to_le h p _
theorem num_up {l : List It} (h : Num l) {p : Pr} {j : Nat} {x : It} (hx : l[j]? = some x) (hp : x.p = p) : ∀ i, j < i → x.n ≤ numO l (lastTo l p i)
  | 0, hj => absurd hj (Nat.not_lt_zero _)
  | i + 1, hj => by
    unfold lastTo
    by_cases q : j = i
    · subst q
      rw [if_pos (by rw [hx, ← hp]; rfl)]
      simp [numO, hx]
    · have ih := num_up h hx hp i (by omega)
      split
      · rename_i e
        obtain ⟨y, h1, h2⟩ := Option.map_eq_some_iff.1 e
        have h3 := h i y h1
        rw [h2] at h3
        simp only [numO, h1, Option.map_some, Option.getD_some]
        omega
      · exact ih
theorem hit_iff {x : It} {p : Pr} {n : Int} : hit x p n = true ↔ x.p = p ∧ (x.n : Int) = n := by simp [hit]
theorem first_some {l : List It} {p : Pr} {n : Int} {i : Nat} (h : firstI l p n = some i) : ∃ x, l[i]? = some x ∧ x.p = p ∧ (x.n : Int) = n := by
  obtain ⟨h1, h2, _⟩ := List.findIdx?_eq_some_iff_getElem.1 h
  exact ⟨l[i], List.getElem?_eq_getElem h1, hit_iff.1 h2⟩
theorem first_at {l : List It} {p : Pr} {n : Int} {i : Nat} {x : It} (hx : l[i]? = some x) (hp : x.p = p) (hn : (x.n : Int) = n) (hj : ∀ (j : Nat) (y : It), j < i → l[j]? = some y → ¬ (y.p = p ∧ (y.n : Int) = n)) : firstI l p n = some i := by
  obtain ⟨h1, h2⟩ := List.getElem?_eq_some_iff.1 hx
  refine List.findIdx?_eq_some_iff_getElem.2 ⟨h1, by rw [h2]; exact hit_iff.2 ⟨hp, hn⟩, fun j hji hh => ?_⟩
  exact hj j _ hji (List.getElem?_eq_getElem (by omega)) (hit_iff.1 hh)
theorem first_none {l : List It} {p : Pr} {n : Int} (hj : ∀ (j : Nat) (y : It), l[j]? = some y → ¬ (y.p = p ∧ (y.n : Int) = n)) : firstI l p n = none := by
  refine List.findIdx?_eq_none_iff.2 fun x hx => ?_
  obtain ⟨j, hj1, hj2⟩ := List.getElem_of_mem hx
  have := hj j x (by rw [← hj2]; exact List.getElem?_eq_getElem hj1)
  rw [← hit_iff] at this
  simpa using this
theorem first_last {l : List It} (h : Num l) (p : Pr) : firstI l p (lastN l p : Int) = lastI l p := by
  cases e : lastI l p with
  | none =>
    refine first_none fun j y hy hh => ?_
    exact lastTo_none e j y (List.getElem?_eq_some_iff.1 hy).1 hy hh.1
  | some i =>
    obtain ⟨h1, x, h2, h3⟩ := lastTo_some e
    have hn : lastN l p = x.n := by rw [lastN, e]; simp [numO, h2]
    refine first_at h2 h3 (by rw [hn]) fun j y hj hy hh => ?_
    have h4 := num_up h hy hh.1 i hj
    have h5 := h i x h2
    rw [h3] at h5
    rw [hn] at hh
    omega
theorem add_num {l : List It} (h : Num l) (p : Pr) (k : Nat → UInt8) : Num (addL l p k) := by
  unfold addL
  split
  · split
    · exact num_snoc h rfl
    · exact h
  · exact h
theorem add_len {l : List It} (p : Pr) (k : Nat → UInt8) (h : l.length ≤ 40) : (addL l p k).length ≤ 40 := by
  unfold addL
  split
  · split
    · simp; omega
    · exact h
  · exact h
end Go.Proofs.YtcjibpjdfhhhkaaGreat.Rg
end

section
set_option linter.unusedVariables false
namespace Go.Proofs.YtcjibpjdfhhhkaaGreat.OpenP
open Go.Joins Go.ChangeShapes Go.WideShapes Go.ChangeAt Go.RowKit Go.Deep Go.Proofs.YtcjibpjdfhhhkaaGreat Go.Proofs.YtcjibpjdfhhhkaaGreat.Mem Go.Proofs.YtcjibpjdfhhhkaaGreat.Rg

theorem cut {α : Type} (cs : List α) (o c : Nat) : cs.drop o = (cs.drop o).take c ++ cs.drop (o + c) := by
  rw [← List.drop_drop]; exact (List.take_append_drop c _).symm
section
variable {H : Type} {enc : TypeId × Value → H} {W : World}
theorem c_str : Tryz.prog.cellsOf 9 = 1 := by kernel_rfl
theorem c_int : Tryz.prog.cellsOf 3 = 1 := by kernel_rfl
theorem c_u8 : Tryz.prog.cellsOf 5 = 1 := by kernel_rfl
theorem c_pr : Tryz.prog.cellsOf 31 = 2 := by kernel_rfl
theorem in_str {n : Nat} {cs : List Value} {x : DataW H × List MemPlace} (h : DataW.trod enc Tryz.prog W 0 (fun _ => true) true n 9 cs = some x) (hw : ∀ n ∈ DataW.weights Tryz.prog 9 x.1, n ≤ reachBytes) : ∃ l : List UInt8, cs = [.string ⟨l.toArray⟩] ∧ l.length ≤ reachBytes := by
  obtain ⟨s, hs, hx, hz⟩ := DataW.trod_string Tryz.underlying9 h
  exact ⟨s.data.toList, by rw [hs, ← Mem.bytes_eta s], hw _ (by rw [hx]; simp [DataW.weights])⟩
theorem in_int {n : Nat} {cs : List Value} {x : DataW H × List MemPlace} (h : DataW.trod enc Tryz.prog W 0 (fun _ => true) true n 3 cs = some x) : ∃ i : Int, cs = [.int .i64 i] ∧ (Lit.int .i64 i).wf = true := by
  obtain ⟨i, h1, _, h2⟩ := DataW.trod_int Tryz.underlying3 h
  exact ⟨i, h1, h2⟩
theorem in_pr {n : Nat} {cs : List Value} {x : DataW H × List MemPlace} (h : DataW.trod enc Tryz.prog W 0 (fun _ => true) true n 31 cs = some x) (hw : ∀ n ∈ DataW.weights Tryz.prog 31 x.1, n ≤ reachBytes) : ∃ p : Pr, cs = [.string ⟨p.1.toArray⟩, .string ⟨p.2.toArray⟩] ∧ p.1.length ≤ reachBytes ∧ p.2.length ≤ reachBytes := by
  obtain ⟨y0, y1, m, hx, hl, h0, h1⟩ := trod_struct2 Tryz.underlying31 h
  simp only [c_str] at h0 h1
  have fw := fun (j : Nat) (t : TypeId) (d : DataW H) (ht : [9, 9][j]? = some t) (hd : [y0.1, y1.1][j]? = some d) (n : Nat) (hn : n ∈ d.weights Tryz.prog t) => hw n (by rw [hx]; simp only [DataW.weights, Tryz.underlying31]; exact DataW.weights_mem_each ht hd n hn)
  obtain ⟨l0, e0, b0⟩ := in_str h0 (fw 0 _ _ rfl rfl)
  obtain ⟨l1, e1, b1⟩ := in_str h1 (fw 1 _ _ rfl rfl)
  rw [c_pr] at hl
  refine ⟨(l0, l1), ?_, b0, b1⟩
  have k0 := cut cs 0 1
  have k1 := cut cs 1 1
  rw [e0] at k0
  rw [show 0 + 1 = 1 from rfl, k1, e1, List.drop_of_length_le (show cs.length ≤ 1 + 1 by omega)] at k0
  exact k0
theorem fn_list {α : Type} {n : Nat} {p : Nat → α → Prop} (h : ∀ i, i < n → ∃ a, p i a) : ∃ l : List α, l.length = n ∧ ∀ i (hi : i < l.length), p i l[i] := by
  induction n with
  | zero => exact ⟨[], rfl, fun i hi => by simp at hi⟩
  | succ n ih =>
    obtain ⟨l, hl, hp⟩ := ih fun i hi => h i (by omega)
    obtain ⟨a, ha⟩ := h n (by omega)
    refine ⟨l ++ [a], by simp [hl], fun i hi => ?_⟩
    rw [List.length_append, List.length_singleton] at hi
    by_cases g : i < l.length
    · rw [List.getElem_append_left g]; exact hp i g
    · obtain rfl : i = l.length := by omega
      rw [List.getElem_append_right (Nat.le_refl _)]
      simp only [Nat.sub_self, List.getElem_cons_zero]
      rw [hl]; exact ha
theorem c_key : Tryz.prog.cellsOf 33 = 32 := by kernel_rfl
theorem in_key {n : Nat} {cs : List Value} {x : DataW H × List MemPlace} (h : DataW.trod enc Tryz.prog W 0 (fun _ => true) true n 33 cs = some x) : ∃ k : Nat → UInt8, cs = (List.range 32).map (fun i => bv (k i)) := by
  obtain ⟨xs, m, _, hx, hl, hxl, hxs⟩ := DataW.trod_array Tryz.underlying33 h
  rw [c_key] at hl
  have each : ∀ i, i < 32 → ∃ b : UInt8, cs[i]? = some (bv b) := by
    intro i hi
    have g := hxs i (by omega)
    rw [c_u8, Nat.mul_one, List.getElem?_eq_getElem (by omega)] at g
    obtain ⟨v, h1, _, h2⟩ := DataW.trod_int Tryz.underlying5 g
    obtain ⟨b, rfl⟩ := Open.u8_of_wf h2
    refine ⟨b, ?_⟩
    have e := congrArg (fun l : List Value => l[0]?) h1
    simp only [List.getElem?_cons_zero] at e
    rw [List.getElem?_take_of_lt (by omega), List.getElem?_drop, Nat.add_zero] at e
    exact e
  obtain ⟨k, hk, hp⟩ := fn_list each
  refine ⟨fun i => k.getD i 0, List.ext_getElem? fun i => ?_⟩
  by_cases hi : i < 32
  · rw [hp i (by omega)]
    simp [hi, List.getD, List.getElem?_eq_getElem (show i < k.length by omega)]
  · rw [List.getElem?_eq_none (by omega), List.getElem?_eq_none (by simp; omega)]
end
end Go.Proofs.YtcjibpjdfhhhkaaGreat.OpenP
end

section
set_option linter.unusedVariables false
namespace Go.Proofs.YtcjibpjdfhhhkaaGreat.Wh
open Go.RowKit Go.Proofs.YtcjibpjdfhhhkaaGreat.Mem

section
variable {w w' : World} {g o : Nat} {t : TypeId} {cs ds ps : Array Value} {pre mid post : List Value}
theorem range_blk (h : Blk w g t cs) : w.rangeAt g 0 cs.toList := fun j v hv => by
  rw [Nat.zero_add, h.cell]; simpa using hv
theorem range_at (h : Blk w g t cs) (hc : cs.toList = pre ++ (mid ++ post)) (o : Nat) (ho : o = pre.length) : w.rangeAt g o mid := fun j v hv => by
  subst ho
  have hj : j < mid.length := (List.getElem?_eq_some_iff.1 hv).1
  rw [h.cell, ← Array.getElem?_toList, hc, List.getElem?_append_right (by omega), Nat.add_sub_cancel_left, List.getElem?_append_left hj]
  exact hv
theorem there_mid (h : Blk w g t cs) (o n : Nat) (hn : o + n ≤ cs.size) : w.there g o n := fun j hj => by
  rw [h.cell, Array.getElem?_eq_getElem (by omega)]
  exact ⟨rfl, h.frozen (o + j)⟩
theorem blk_cells_aux {g : Nat} {t : TypeId} : ∀ (vs : List Value) (o : Nat) (w : World) (cs : Array Value), Blk w g t cs → o + vs.length ≤ cs.size →
    ∃ ds : Array Value, Blk (w.setCells g o vs) g t ds ∧ ds.size = cs.size ∧ (∀ i, o ≤ i → i < o + vs.length → ds[i]? = vs[i - o]?) ∧ (∀ i, i < o ∨ o + vs.length ≤ i → ds[i]? = cs[i]?)
  | [], o, w, cs, h, hl => ⟨cs, h, rfl, fun i h1 h2 => by simp at h2; omega, fun i _ => rfl⟩
  | v :: r, o, w, cs, h, hl => by
    rw [World.setCells]
    simp only [List.length_cons] at hl
    obtain ⟨ds, h1, h2, h3, h4⟩ := blk_cells_aux r (o + 1) _ _ (h.set o v) (by simp; omega)
    simp only [List.length_cons]
    refine ⟨ds, h1, by simpa using h2, fun i hi hj => ?_, fun i hi => ?_⟩
    · by_cases e : i = o
      · subst e
        rw [h4 i (by omega), Nat.sub_self]
        rw [Array.getElem?_setIfInBounds_self_of_lt (by omega)]
        rfl
      · rw [h3 i (by omega) (by omega), show i - o = (i - (o + 1)) + 1 by omega]
        simp
    · rw [h4 i (by omega)]
      exact Array.getElem?_setIfInBounds_ne (by omega)
theorem blk_cells (h : Blk w g t cs) (hs : cs.size = ds.size) : Blk (w.setCells g 0 ds.toList) g t ds := by
  obtain ⟨es, h1, h2, h3, _⟩ := blk_cells_aux ds.toList 0 w cs h (by simp; omega)
  have e : es = ds := by
    apply Array.ext_getElem?
    intro i
    by_cases hi : i < ds.size
    · rw [h3 i (by omega) (by simp; omega)]; simp
    · rw [Array.getElem?_eq_none (by omega), Array.getElem?_eq_none (by omega)]
  rw [← e]; rw [← e] at h1; exact h1
theorem g_cells {row : Option Nat} {a : World} {g : Nat} (hp : row = some g ∨ a.heap.size ≤ g) : ∀ (vs : List Value) (o : Nat) (w : World), a.grownBy w row → a.grownBy (w.setCells g o vs) row
  | [], _, _, h => h
  | v :: r, o, w, h => by rw [World.setCells]; exact g_cells hp r (o + 1) _ (g_set h (p := ⟨g, o, none⟩) hp v)
theorem put_mid (w : World) (g o : Nat) (vs : List Value) : w.grownBy (w.setCells g o vs) (some g) := g_cells (.inl rfl) vs o w (World.grownBy.refl _ _)
end

section
variable {P : Program} {ops : Array Oper} {rest : List Oper} {op : Oper} {a : Act} {w : World} {Q : Exit → Act → World → Prop}
theorem load_g (hw : Region.wanted op (yielded ops a.tmps) = true) (ty : TypeId) (x : Operand) (ho : op.op = .load ty x)
    (g o : Nat) (hx : a.eval x = .pointer (some ⟨g, o, none⟩)) (cs : Array Value) (d : TypeDesc) (hc : w.rangeAt g o cs.toList)
    (hu : P.underlying ty = some d) (hd : d.isRow = true) (hi : (P.info? ty).map (·.size) = some cs.size)
    (h : wpList P ops Q rest (a.put op.dst (.agg cs)) w) : wpList P ops Q (op :: rest) a w :=
  BigFrame.wpList_want hw fun _ hK => wp_load_mid ty x ho g o hx cs.toList d hc hu hd (by rw [Array.length_toList]; exact hi) (by simpa using hK _ _ h)
theorem stored_at (w : World) (t : TypeId) (lit cs : Array Value) (hs : lit.size = cs.size) : Blk ((w.alloc (.cells lit t)).setCells w.heap.size 0 cs.toList) w.heap.size t cs ∧ Below w.heap.size w ((w.alloc (.cells lit t)).setCells w.heap.size 0 cs.toList) :=
  ⟨blk_cells (Blk.new w t lit) hs, below_g ((Below.refl w.heap.size w).alloc (Nat.le_refl _) _) (put_mid _ _ _ _) (by simp) (Nat.le_refl _)⟩
theorem store_new {w0 : World} {lit : Array Value} (hgd : op.guard = none) (ty : TypeId) (x y : Operand) (ho : op.op = .store ty x y) (t : TypeId) (hw : w = w0.alloc (.cells lit t))
    (cells : Array Value) (hx : a.eval x = .pointer (some ⟨w0.heap.size, 0, none⟩)) (hy : a.eval y = .agg cells) (hs : lit.size = cells.size)
    (hi : (P.info? ty).map (·.size) = some cells.size) (h1 : cells.all (·.oneCell') = true)
    (h : ∀ V, Blk V w0.heap.size t cells → Below w0.heap.size w0 V → wpList P ops Q rest (a.put op.dst undef) V) : wpList P ops Q (op :: rest) a w := by
  subst hw
  have hV := stored_at w0 t lit cells hs
  exact wpList_store_mid hgd ty x y ho w0.heap.size 0 cells hx hy (there_mid (Blk.new w0 t lit) _ _ (by omega)) hi h1 (h _ hV.1 hV.2)
theorem store_over (hgd : op.guard = none) (ty : TypeId) (x y : Operand) (ho : op.op = .store ty x y) (g : Nat) (t : TypeId) (old : Array Value) (hb : Blk w g t old)
    (cells : Array Value) (hx : a.eval x = .pointer (some ⟨g, 0, none⟩)) (hy : a.eval y = .agg cells) (hs : old.size = cells.size)
    (hi : (P.info? ty).map (·.size) = some cells.size) (h1 : cells.all (·.oneCell') = true)
    (h : ∀ V, Blk V g t cells → w.grownBy V (some g) → wpList P ops Q rest (a.put op.dst undef) V) : wpList P ops Q (op :: rest) a w :=
  wpList_store_mid hgd ty x y ho g 0 cells hx hy (there_mid hb _ _ (by omega)) hi h1 (h _ (blk_cells hb hs) (put_mid _ _ _ _))
theorem results_cell {fn : Func} {tmps : Array Value} {w : World} {v : Value} (t : Nat) (ty : TypeId) (a : Addr) (hres : fn.results = #[.cell t ty]) (ht : tmps.getD t undef = .pointer (some a)) (hl : (loadVar ty a).run P w = .ok v w) :
    (results fn tmps).run P w = .ok v w := by
  have ht' : tmps[t]?.getD undef = .pointer (some a) := by simpa using ht
  simp [results, hres, ht', asAddr, hl]
theorem load_blk {g : Nat} {t ty : TypeId} {cs : Array Value} {d : TypeDesc} (h : Blk w g t cs) (hu : P.underlying ty = some d) (hd : d.isRow = true) (hi : (P.info? ty).map (·.size) = some cs.size) :
    (loadVar ty ⟨g, 0, none⟩).run P w = .ok (.agg cs) w := by
  have := run_loadVar_mid (P := P) w g 0 ty cs.toList d (range_blk h) hu hd (by simpa using hi)
  simpa using this
theorem exec_load {w' : World} {o : Oper} {g : Nat} {t ty : TypeId} {cs : Array Value} {d : TypeDesc} (x : Operand) (ho : o.op = .load ty x) (hx : a.eval x = .pointer (some ⟨g, 0, none⟩)) (h : Blk w' g t cs) (hu : P.underlying ty = some d) (hd : d.isRow = true) (hi : (P.info? ty).map (·.size) = some cs.size) :
    (execOp a.eval o).run P w' = .ok (.value (.agg cs)) w' := by
  unfold execOp
  simp only [ho, hx, Instr.loadAt, Instr.sureAddr, Sem.run_bind, Sem.run_pure, Result.andThen_ok, load_blk h hu hd hi]
end

theorem fold_at (l : List Value) : ∀ (k : Nat) (Z : Array Value), k + l.length ≤ Z.size → ((l.zipIdx k).foldl (fun a x => a.setIfInBounds (0 + x.2) x.1) Z).size = Z.size ∧ ∀ i, ((l.zipIdx k).foldl (fun a x => a.setIfInBounds (0 + x.2) x.1) Z)[i]? = if k ≤ i ∧ i < k + l.length then l[i - k]? else Z[i]? := by
  induction l with
  | nil =>
    intro k Z h
    refine ⟨rfl, fun i => ?_⟩
    rw [if_neg (by simp)]
    rfl
  | cons c l ih =>
    intro k Z h
    simp only [List.length_cons] at h
    obtain ⟨h1, h2⟩ := ih (k + 1) (Z.setIfInBounds (0 + k) c) (by simp; omega)
    rw [List.zipIdx_cons, List.foldl_cons]
    refine ⟨by rw [h1]; simp, fun i => ?_⟩
    rw [h2]
    by_cases e : i = k
    · subst e
      rw [if_neg (by omega), if_pos (by simp), Nat.sub_self, Nat.zero_add, Array.getElem?_setIfInBounds_self_of_lt (by omega)]
      rfl
    · by_cases g : k + 1 ≤ i ∧ i < k + 1 + l.length
      · rw [if_pos g, if_pos (by simp; omega), show i - k = (i - (k + 1)) + 1 by omega]
        simp
      · rw [if_neg g, if_neg (by simp; omega), Array.getElem?_setIfInBounds_ne (by omega)]
theorem fill_one (cs Z : Array Value) (n : Nat) (hn : cs.size = n) (hz : Z.size = n) : Instr.fill (fun i => some (i * n, n)) Z [(0, .agg cs)] = some cs := by
  have hf := fold_at cs.toList 0 Z (by simp; omega)
  have e : cs.zipIdx.foldl (fun a (x : Value × Nat) => a.setIfInBounds (0 + x.2) x.1) Z = cs := by
    rw [← Array.foldl_toList, Array.toList_zipIdx]
    apply Array.ext_getElem?
    intro i
    rw [hf.2]
    by_cases g : i < cs.size
    · rw [if_pos (by simp; omega)]; simp
    · rw [if_neg (by simp; omega), Array.getElem?_eq_none (by omega), Array.getElem?_eq_none (by omega)]
  have hc : (Value.agg cs).cells = cs := rfl
  unfold Instr.fill
  simp only [Nat.zero_mul, hc]
  rw [if_neg (by simp; omega)]
  unfold Instr.fill
  congr 1
section
variable {P : Program}
theorem run_build_one (w : World) (t e : TypeId) (cs : Array Value) (ie : TypeInfo) (z : Value) (hu : P.underlying t = some (.slice e)) (hie : P.info? e = some ie) (hz : ie.zero = some z) (hs : ie.size = cs.size) (h0 : 0 < cs.size) (h24 : cs.size ≤ 16777216) :
    (Instr.buildSlice t 1 #[(0, .agg cs)]).run P w = .ok (.slice (some ⟨w.heap.size, 0, none⟩) 1 1) (w.alloc (.cells cs e)) :=
  run_buildSlice w t e 1 _ cs ie z hu hie hz (by rw [hs]; omega) (by rw [hs]; omega) (fill_one cs _ ie.size hs.symm (by simp))
theorem build_one {ops : Array Oper} {rest : List Oper} {o : Oper} {a : Act} {w : World} {Q : Exit → Act → World → Prop} (hg : o.guard = none) (t e : TypeId) (x : Operand) (ho : o.op = .buildSlice t 1 #[(0, x)]) (cs : Array Value) (hx : a.eval x = .agg cs)
    (ie : TypeInfo) (z : Value) (hu : P.underlying t = some (.slice e)) (hie : P.info? e = some ie) (hz : ie.zero = some z) (hs : ie.size = cs.size) (h0 : 0 < cs.size) (h24 : cs.size ≤ 16777216)
    (h : ∀ W, W = w.alloc (.cells cs e) → wpList P ops Q rest (a.put o.dst (.slice (some ⟨w.heap.size, 0, none⟩) 1 1)) W) : wpList P ops Q (o :: rest) a w := by
  refine wpList_plain hg fun _ hK => ?_
  unfold Oper.wp execOp
  simp only [ho, Sem.run_bind, List.map_toArray, List.map_cons, List.map_nil, hx, run_build_one w t e cs ie z hu hie hz hs h0 h24, Result.andThen_ok]
  exact hK _ _ (h _ rfl)
end
theorem app_run {P : Program} {α : Type} (f : α → List Value) (n bytes : Nat) (hf : ∀ x, (f x).length = n) (h1 : ∀ x, ∀ u ∈ f x, u.oneCell' = true) (w : World) (t ty e : TypeId) (i : TypeInfo) (z : Value) (ht : P.underlying t = some (.slice e)) (hi : P.info? e = some i) (hz : i.zero = some z) (hs : i.size = n) (hb : i.bytes = bytes) (hzs : z.cells.size = n) (hn : 0 < n)
    (base : Nat) (v : Value) (l : List α) (hown : w.ownsRow base e n v l.length (l.flatMap f)) (x : α) (g : Nat) (hg : Blk w g e (f x).toArray) (hl : l.length + 1 ≤ 100000) (hby : bytes ≤ 10000) (hbase : base ≤ w.heap.size) :
    ∃ v' w', (Builtin.append_ #[t, t] ty #[v, .slice (some ⟨g, 0, none⟩) 1 1]).run P w = .ok v' w' ∧ w'.ownsRow base e n v' (l ++ [x]).length ((l ++ [x]).flatMap f) ∧ w.grownBy w' v.ownBlock ∧ (v'.ownBlock = v.ownBlock ∨ v'.ownBlock = some w.heap.size) := by
  obtain ⟨v', w', h2, h3, h4, _, h5⟩ := run_append_own_at (P := P) w base t ty e i z n bytes ht hi hz hs hb hzs hn v l.length (l.flatMap f) hown ⟨g, 0, none⟩ 1 1 (f x) (by rw [hf]; omega) (fun j u hu => by
    rw [addr_add, Nat.zero_add, hg.cell j]
    simpa using hu) (h1 x) (by unfold maxLen; omega) (by
      have : (l.length + 1) * bytes ≤ 100000 * 10000 := Nat.mul_le_mul hl hby
      omega) hbase
  exact ⟨v', w', h2, by rw [List.length_append, List.flatMap_append, List.flatMap_singleton]; exact h3, h4, h5⟩
theorem app_one {P : Program} {α : Type} (f : α → List Value) (n bytes : Nat) (hf : ∀ x, (f x).length = n) (h1 : ∀ x, ∀ u ∈ f x, u.oneCell' = true) {ops : Array Oper} {rest : List Oper} {o : Oper} {a : Act} {w : World} {Q : Exit → Act → World → Prop} (hgd : o.guard = none) (s x : Operand) (t e : TypeId)
    (ho : o.op = .call { callee := .builtin .append, args := #[s, x], argTypes := #[t, t] }) (i : TypeInfo) (z : Value) (ht : P.underlying t = some (.slice e)) (hi : P.info? e = some i) (hz : i.zero = some z) (hs : i.size = n) (hb : i.bytes = bytes) (hzs : z.cells.size = n) (hn : 0 < n) (hby : bytes ≤ 10000)
    (base : Nat) (v : Value) (l : List α) (hv : a.eval s = v) (hown : w.ownsRow base e n v l.length (l.flatMap f)) (y : α) (g : Nat) (hx : a.eval x = .slice (some ⟨g, 0, none⟩) 1 1) (hg : Blk w g e (f y).toArray) (hl : l.length + 1 ≤ 100000) (hbase : base ≤ w.heap.size)
    (h : ∀ v' w', w'.ownsRow base e n v' (l ++ [y]).length ((l ++ [y]).flatMap f) → w.grownBy w' v.ownBlock → (v'.ownBlock = v.ownBlock ∨ v'.ownBlock = some w.heap.size) → wpList P ops Q rest (a.put o.dst v') w') : wpList P ops Q (o :: rest) a w := by
  obtain ⟨v', w', hrun, h2, h3, h4⟩ := app_run (P := P) f n bytes hf h1 w t o.type e i z ht hi hz hs hb hzs hn base v l hown y g hg hl hby hbase
  refine wpList_plain hgd fun J hJ => ?_
  unfold Oper.wp execOp
  simp only [ho, resolve, invoke, builtin, Sem.run_bind, Sem.run_pure, Result.andThen_ok, List.map_toArray, List.map_cons, List.map_nil, hv, hx, hrun]
  exact hJ _ _ (h v' w' h2 h3 h4)
end Go.Proofs.YtcjibpjdfhhhkaaGreat.Wh
end

section
namespace Go.Proofs.YtcjibpjdfhhhkaaGreat.Sp
open Go.RowKit Go.Proofs.YtcjibpjdfhhhkaaGreat.Mem

abbrev Wd := BitVec 32
def rot (v : Wd) (s : Nat) : Wd := (v <<< s) ||| (v >>> (32 - s))
abbrev wv (v : Wd) : Value := .int .u32 (v.toNat : Int)

theorem wd_lt (v : Wd) : v.toNat < 4294967296 := v.isLt
theorem u32_word (n : Nat) : IntKind.u32.wrap (n : Int) = ((BitVec.ofNat 32 n).toNat : Int) := by
  rw [IntKind.wrap_u32, BitVec.toNat_ofNat]; omega
theorem xor_w (x y : Wd) : bits .xor .u32 (x.toNat : Int) (y.toNat : Int) = ((x ^^^ y).toNat : Int) := by
  rw [u32_xor_nat _ _ x.isLt y.isLt, BitVec.toNat_xor]
theorem add_w (x y : Wd) : ((x.toNat : Int) + (y.toNat : Int)) % 4294967296 = ((x + y).toNat : Int) := by
  rw [BitVec.toNat_add]; omega
theorem rot_nat (v : Wd) (s : Nat) : (rot v s).toNat = (v.toNat * 2 ^ s % 4294967296) ||| (v.toNat / 2 ^ (32 - s)) := by
  simp [rot, BitVec.toNat_or, BitVec.toNat_shiftLeft, BitVec.toNat_ushiftRight, Nat.shiftLeft_eq, Nat.shiftRight_eq_div_pow]
theorem or_rot (v : Wd) (a b : Nat) (s : Nat) (ha : a = v.toNat * 2 ^ s % 4294967296) (hb : b = v.toNat / 2 ^ (32 - s)) : bits .or .u32 (a : Int) (b : Int) = ((rot v s).toNat : Int) := by
  rw [u32_or_nat a b (by omega) (by have := wd_lt v; have := Nat.div_le_self v.toNat (2 ^ (32 - s)); omega), rot_nat, ha, hb]
theorem or_rot' (v : Wd) (a b : Nat) (s : Nat) (ha : a = v.toNat * 2 ^ s % 4294967296) (hb : b = v.toNat / 2 ^ (32 - s)) : bits .or .u32 (b : Int) (a : Int) = ((rot v s).toNat : Int) := by
  rw [u32_or_nat b a (by have := wd_lt v; have := Nat.div_le_self v.toNat (2 ^ (32 - s)); omega) (by omega), rot_nat, ha, hb, Nat.or_comm]
theorem or3 (v : Wd) : bits .or .u32 ((v.toNat : Int) * 8 % 4294967296) ((v.toNat : Int) / 536870912) = ((rot v 3).toNat : Int) := or_rot v _ _ 3 rfl rfl
theorem or24 (v : Wd) : bits .or .u32 ((v.toNat : Int) * 16777216 % 4294967296) ((v.toNat : Int) / 256) = ((rot v 24).toNat : Int) := or_rot v _ _ 24 rfl rfl
theorem ro24 (v : Wd) : bits .or .u32 ((v.toNat : Int) / 256) ((v.toNat : Int) * 16777216 % 4294967296) = ((rot v 24).toNat : Int) := or_rot' v _ _ 24 rfl rfl
def step (k : Wd) (p : Wd × Wd) : Wd × Wd := ((rot p.1 24 + p.2) ^^^ k, rot p.2 3 ^^^ ((rot p.1 24 + p.2) ^^^ k))
def turnN (K : Nat → Wd) : Nat → Wd × Wd → Wd × Wd
  | 0, p => p
  | n + 1, p => step (K n) (turnN K n p)
def blockK (K : Nat → Wd) (p : Wd × Wd) : Wd × Wd := turnN K 27 p
def le4 (a b c d : UInt8) : Wd := BitVec.ofNat 32 (a.toNat + b.toNat * 256 + c.toNat * 65536 + d.toNat * 16777216)
theorem le4_nat (a b c d : UInt8) : (le4 a b c d).toNat = a.toNat + b.toNat * 256 + c.toNat * 65536 + d.toNat * 16777216 := by
  have := a.toNat_lt; have := b.toNat_lt; have := c.toNat_lt; have := d.toNat_lt
  rw [le4, BitVec.toNat_ofNat]; omega
theorem le4_or (a b c d : UInt8) : bits .or .u32 (bits .or .u32 (bits .or .u32 (a.toNat : Int) ((b.toNat : Int) * 256 % 4294967296)) ((c.toNat : Int) * 65536 % 4294967296)) ((d.toNat : Int) * 16777216 % 4294967296) = ((le4 a b c d).toNat : Int) := by
  have ha := a.toNat_lt; have hb := b.toNat_lt; have hc := c.toNat_lt; have hd := d.toNat_lt
  have eb : (b.toNat : Int) * 256 % 4294967296 = ((b.toNat * 256 : Nat) : Int) := by omega
  have ec : (c.toNat : Int) * 65536 % 4294967296 = ((c.toNat * 65536 : Nat) : Int) := by omega
  have ed : (d.toNat : Int) * 16777216 % 4294967296 = ((d.toNat * 16777216 : Nat) : Int) := by omega
  have j1 : a.toNat ||| b.toNat * 256 = b.toNat * 256 + a.toNat := by rw [Nat.or_comm]; exact nat_join 8 _ _ (by omega) (by omega)
  have j2 : (b.toNat * 256 + a.toNat) ||| c.toNat * 65536 = c.toNat * 65536 + (b.toNat * 256 + a.toNat) := by rw [Nat.or_comm]; exact nat_join 16 _ _ (by omega) (by omega)
  have j3 : (c.toNat * 65536 + (b.toNat * 256 + a.toNat)) ||| d.toNat * 16777216 = d.toNat * 16777216 + (c.toNat * 65536 + (b.toNat * 256 + a.toNat)) := by rw [Nat.or_comm]; exact nat_join 24 _ _ (by omega) (by omega)
  rw [eb, ec, ed, u32_or_nat _ _ (by omega) (by omega), j1, u32_or_nat _ _ (by omega) (by omega), j2, u32_or_nat _ _ (by omega) (by omega), j3, le4_nat]
  omega
def kword (ks : Nat → UInt8) (i : Nat) : Wd := le4 (ks (4 * i)) (ks (4 * i + 1)) (ks (4 * i + 2)) (ks (4 * i + 3))
structure Sch where
  k : Wd
  a : Wd
  b : Wd
  c : Wd
def nextL (i : Nat) (s : Sch) : Wd := (s.k + rot s.a 24) ^^^ BitVec.ofNat 32 i
def sch (ks : Nat → UInt8) : Nat → Sch
  | 0 => ⟨kword ks 0, kword ks 1, kword ks 2, kword ks 3⟩
  | i + 1 => ⟨rot (sch ks i).k 3 ^^^ nextL i (sch ks i), (sch ks i).b, (sch ks i).c, nextL i (sch ks i)⟩
def kw (ks : Nat → UInt8) (i : Nat) : Wd := (sch ks i).k
def lw (ks : Nat → UInt8) (i : Nat) : Wd := (sch ks i).a
theorem lw_3 (ks : Nat → UInt8) (i : Nat) : lw ks (i + 3) = (kw ks i + rot (lw ks i) 24) ^^^ BitVec.ofNat 32 i := rfl
theorem kw_next (ks : Nat → UInt8) (i : Nat) : kw ks (i + 1) = rot (kw ks i) 3 ^^^ lw ks (i + 3) := rfl

def blk64 (K : Nat → Wd) (up lo : Wd) (i : Nat) : Nat := (blockK K (up, lo + BitVec.ofNat 32 i)).1.toNat + 4294967296 * (blockK K (up, lo + BitVec.ofNat 32 i)).2.toNat
def sbyte (K : Nat → Wd) (up lo : Wd) (j : Nat) : UInt8 := UInt8.ofNat (blk64 K up lo (j / 8) / 256 ^ (j % 8))
def strm (K : Nat → Wd) (up lo : Wd) (n : Nat) : List UInt8 := (List.range n).map (sbyte K up lo)
theorem strm_length (K : Nat → Wd) (up lo : Wd) (n : Nat) : (strm K up lo n).length = n := by simp [strm]
theorem strm_take (K : Nat → Wd) (up lo : Wd) (n m : Nat) (h : n ≤ m) : (strm K up lo m).take n = strm K up lo n := by
  simp [strm, List.take_range, ← List.map_take, Nat.min_eq_left h]
end Go.Proofs.YtcjibpjdfhhhkaaGreat.Sp
end

section
namespace Go.Proofs.YtcjibpjdfhhhkaaGreat.Si
open Go.RowKit Go.Proofs.YtcjibpjdfhhhkaaGreat.Mem

abbrev Wd := BitVec 64
def rot (v : Wd) (s : Nat) : Wd := (v <<< s) ||| (v >>> (64 - s))
abbrev wv (v : Wd) : Value := .int .u64 (v.toNat : Int)
def wd (n : Nat) : Wd := BitVec.ofNat 64 n

theorem wd_lt (v : Wd) : v.toNat < 18446744073709551616 := v.isLt
theorem wd_nat (n : Nat) (h : n < 18446744073709551616) : (wd n).toNat = n := by
  rw [wd, BitVec.toNat_ofNat]; exact Nat.mod_eq_of_lt h
theorem xor_w (x y : Wd) : bits .xor .u64 (x.toNat : Int) (y.toNat : Int) = ((x ^^^ y).toNat : Int) := by
  rw [u64_xor_nat _ _ x.isLt y.isLt, BitVec.toNat_xor]
theorem add_w (x y : Wd) : ((x.toNat : Int) + (y.toNat : Int)) % 18446744073709551616 = ((x + y).toNat : Int) := by
  rw [BitVec.toNat_add]; omega
theorem add_ww (x y : Wd) : IntKind.u64.wrap ((x.toNat : Int) + (y.toNat : Int)) = ((x + y).toNat : Int) := by
  rw [IntKind.wrap_u64, add_w]
theorem rot_nat (v : Wd) (s : Nat) : (rot v s).toNat = (v.toNat * 2 ^ s % 18446744073709551616) ||| (v.toNat / 2 ^ (64 - s)) := by
  simp [rot, BitVec.toNat_or, BitVec.toNat_shiftLeft, BitVec.toNat_ushiftRight, Nat.shiftLeft_eq, Nat.shiftRight_eq_div_pow]
theorem or_rot (v : Wd) (a b : Nat) (s : Nat) (ha : a = v.toNat * 2 ^ s % 18446744073709551616) (hb : b = v.toNat / 2 ^ (64 - s)) : bits .or .u64 (a : Int) (b : Int) = ((rot v s).toNat : Int) := by
  rw [u64_or_nat a b (by omega) (by have := wd_lt v; have := Nat.div_le_self v.toNat (2 ^ (64 - s)); omega), rot_nat, ha, hb]
theorem or13 (v : Wd) : bits .or .u64 ((v.toNat : Int) * 8192 % 18446744073709551616) ((v.toNat : Int) / 2251799813685248) = ((rot v 13).toNat : Int) := or_rot v _ _ 13 rfl rfl
theorem or32 (v : Wd) : bits .or .u64 ((v.toNat : Int) * 4294967296 % 18446744073709551616) ((v.toNat : Int) / 4294967296) = ((rot v 32).toNat : Int) := or_rot v _ _ 32 rfl rfl
theorem or16 (v : Wd) : bits .or .u64 ((v.toNat : Int) * 65536 % 18446744073709551616) ((v.toNat : Int) / 281474976710656) = ((rot v 16).toNat : Int) := or_rot v _ _ 16 rfl rfl
theorem or21 (v : Wd) : bits .or .u64 ((v.toNat : Int) * 2097152 % 18446744073709551616) ((v.toNat : Int) / 8796093022208) = ((rot v 21).toNat : Int) := or_rot v _ _ 21 rfl rfl
theorem or17 (v : Wd) : bits .or .u64 ((v.toNat : Int) * 131072 % 18446744073709551616) ((v.toNat : Int) / 140737488355328) = ((rot v 17).toNat : Int) := or_rot v _ _ 17 rfl rfl

def wordN : List UInt8 → Nat
  | [] => 0
  | b :: l => b.toNat + 256 * wordN l
theorem wordN_lt : ∀ l, wordN l < 256 ^ l.length
  | [] => by simp [wordN]
  | b :: l => by
    have h := wordN_lt l
    have hb := b.toNat_lt
    rw [wordN, List.length_cons, Nat.pow_succ]
    omega
theorem wordN_snoc (b : UInt8) : ∀ l, wordN (l ++ [b]) = wordN l + b.toNat * 256 ^ l.length
  | [] => by simp [wordN]
  | c :: l => by
    rw [List.cons_append, wordN, wordN_snoc b l, wordN, List.length_cons, Nat.pow_succ, Nat.mul_add, Nat.add_assoc]
    congr 2
    rw [Nat.mul_comm, Nat.mul_assoc]
theorem wordN_8 {l : List UInt8} (h : l.length ≤ 8) : wordN l < 18446744073709551616 :=
  Nat.lt_of_lt_of_le (wordN_lt l) (Nat.pow_le_pow_right (by decide) h : 256 ^ l.length ≤ 256 ^ 8)
theorem wordN_7 {l : List UInt8} (h : l.length ≤ 7) : wordN l < 72057594037927936 :=
  Nat.lt_of_lt_of_le (wordN_lt l) (Nat.pow_le_pow_right (by decide) h : 256 ^ l.length ≤ 256 ^ 7)

structure V where
  a : Wd
  b : Wd
  c : Wd
  d : Wd
def rnd (s : V) : V :=
  let a1 := s.a + s.b
  let b1 := rot s.b 13 ^^^ a1
  let a2 := rot a1 32
  let c1 := s.c + s.d
  let d1 := rot s.d 16 ^^^ c1
  let a3 := a2 + d1
  let d2 := rot d1 21 ^^^ a3
  let c2 := c1 + b1
  let b2 := rot b1 17 ^^^ c2
  let c3 := rot c2 32
  ⟨a3, b2, c3, d2⟩
def rnds : Nat → V → V
  | 0, s => s
  | n + 1, s => rnd (rnds n s)
def addM (s : V) (m : Wd) : V := ⟨(rnds 2 ⟨s.a, s.b, s.c, s.d ^^^ m⟩).a ^^^ m, (rnds 2 ⟨s.a, s.b, s.c, s.d ^^^ m⟩).b, (rnds 2 ⟨s.a, s.b, s.c, s.d ^^^ m⟩).c, (rnds 2 ⟨s.a, s.b, s.c, s.d ^^^ m⟩).d⟩
def allX (s : V) : Wd := s.a ^^^ s.b ^^^ s.c ^^^ s.d
def fin (s : V) : Wd := allX (rnds 4 ⟨s.a, s.b, s.c ^^^ 255#64, s.d⟩)
def kA (ks : Nat → UInt8) : Wd := wd (wordN ((List.range 8).map ks))
def kB (ks : Nat → UInt8) : Wd := wd (wordN ((List.range 8).map fun i => ks (8 + i)))
def start (ks : Nat → UInt8) : V := ⟨0x736f6d6570736575#64 ^^^ kA ks, 0x646f72616e646f6d#64 ^^^ kB ks, 0x6c7967656e657261#64 ^^^ kA ks, 0x7465646279746573#64 ^^^ kB ks⟩
structure St where
  v : V
  r : Nat
  n : Nat
def addB (s : St) (b : UInt8) : St :=
  if (s.n + 1) % 8 = 0 then ⟨addM s.v (wd (s.r + b.toNat * 256 ^ (s.n % 8))), 0, s.n + 1⟩ else ⟨s.v, s.r + b.toNat * 256 ^ (s.n % 8), s.n + 1⟩
theorem addB_end (s : St) (b : UInt8) (h : (s.n + 1) % 8 = 0) : addB s b = ⟨addM s.v (wd (s.r + b.toNat * 256 ^ (s.n % 8))), 0, s.n + 1⟩ := if_pos h
theorem addB_in (s : St) (b : UInt8) (h : ¬(s.n + 1) % 8 = 0) : addB s b = ⟨s.v, s.r + b.toNat * 256 ^ (s.n % 8), s.n + 1⟩ := if_neg h
def stOf (ks : Nat → UInt8) (l : List UInt8) : St := l.foldl addB ⟨start ks, 0, 0⟩
def lastW (s : St) : Wd := wd (s.r + s.n % 256 * 72057594037927936)
def finS (s : St) : Wd := fin (addM s.v (lastW s))
def sumOf (ks : Nat → UInt8) (l : List UInt8) : Wd := finS (stOf ks l)
theorem stOf_snoc (ks : Nat → UInt8) (l : List UInt8) (b : UInt8) : stOf ks (l ++ [b]) = addB (stOf ks l) b := by simp [stOf]
def full (ks : Nat → UInt8) (p : List UInt8) : Nat → V
  | 0 => start ks
  | j + 1 => addM (full ks p j) (wd (wordN ((p.drop (8 * j)).take 8)))
theorem stOf_full (ks : Nat → UInt8) (p : List UInt8) : ∀ n, n ≤ p.length → stOf ks (p.take n) = ⟨full ks p (n / 8), wordN ((p.take n).drop (8 * (n / 8))), n⟩
  | 0, _ => by simp [stOf, full, wordN]
  | n + 1, h => by
    have ih := stOf_full ks p n (by omega)
    have hlt : n < p.length := by omega
    have et : p.take (n + 1) = p.take n ++ [p[n]] := by rw [List.take_succ_eq_append_getElem hlt]
    have el : ((p.take n).drop (8 * (n / 8))).length = n % 8 := by rw [List.length_drop, List.length_take]; omega
    have ew : (p.take (n + 1)).drop (8 * (n / 8)) = (p.take n).drop (8 * (n / 8)) ++ [p[n]] := by
      rw [et, List.drop_append_of_le_length (by rw [List.length_take]; omega)]
    have eN : wordN ((p.take (n + 1)).drop (8 * (n / 8))) = wordN ((p.take n).drop (8 * (n / 8))) + p[n].toNat * 256 ^ (n % 8) := by rw [ew, wordN_snoc, el]
    have e0 : stOf ks (p.take (n + 1)) = addB (stOf ks (p.take n)) p[n] := by rw [et, stOf_snoc]
    have ez : (p.take (n + 1)).drop (n + 1) = [] := List.drop_of_length_le (by rw [List.length_take]; omega)
    rw [e0, ih]
    by_cases h8 : (n + 1) % 8 = 0
    · have hd : (n + 1) / 8 = n / 8 + 1 := by omega
      have hm : 8 * ((n + 1) / 8) = n + 1 := by omega
      have ed : (p.take (n + 1)).drop (8 * (n / 8)) = (p.drop (8 * (n / 8))).take 8 := by rw [List.drop_take, show n + 1 - 8 * (n / 8) = 8 by omega]
      rw [addB_end _ _ h8, ← eN, hm, ez, hd, full, ed]
      simp only [wordN]
    · have hd : (n + 1) / 8 = n / 8 := by omega
      rw [addB_in _ _ h8, hd, eN]
theorem stOf_all (ks : Nat → UInt8) (p : List UInt8) : stOf ks p = ⟨full ks p (p.length / 8), wordN (p.drop (8 * (p.length / 8))), p.length⟩ := by
  have h := stOf_full ks p p.length (Nat.le_refl _)
  rwa [List.take_length] at h
theorem stOf_n (ks : Nat → UInt8) (p : List UInt8) : (stOf ks p).n = p.length := by rw [stOf_all]
theorem stOf_r (ks : Nat → UInt8) (p : List UInt8) : (stOf ks p).r < 256 ^ ((stOf ks p).n % 8) := by
  rw [stOf_all]
  have h := wordN_lt (p.drop (8 * (p.length / 8)))
  rw [List.length_drop] at h
  rwa [show p.length - 8 * (p.length / 8) = p.length % 8 by omega] at h
theorem pow_8 (k : Nat) (h : k ≤ 7) : 256 ^ k ≤ 72057594037927936 := (Nat.pow_le_pow_right (by decide) h : 256 ^ k ≤ 256 ^ 7)

theorem nat_or_place (r b k : Nat) (hr : r < 256 ^ k) : r ||| b * 256 ^ k = r + b * 256 ^ k := by
  have e : (256 : Nat) ^ k = 2 ^ (8 * k) := by rw [Nat.pow_mul]
  rw [e] at hr ⊢
  have h := Nat.shiftLeft_add_eq_or_of_lt hr b
  rw [Nat.shiftLeft_eq] at h
  rw [Nat.or_comm, ← h, Nat.add_comm]
theorem place_lt (r : Nat) (b : UInt8) (k : Nat) (hr : r < 256 ^ k) : r + b.toNat * 256 ^ k < 256 ^ (k + 1) := by
  have hb := b.toNat_lt
  rw [Nat.pow_succ]
  have : b.toNat * 256 ^ k ≤ 255 * 256 ^ k := Nat.mul_le_mul_right _ (by omega)
  omega
theorem or_place (r : Nat) (b : UInt8) (k : Nat) (hk : k ≤ 7) (hr : r < 256 ^ k) (X : Int) (hX : X = ((b.toNat * 256 ^ k : Nat) : Int)) : bits .or .u64 (r : Int) X = ((r + b.toNat * 256 ^ k : Nat) : Int) := by
  have hp := pow_8 k hk
  have hl := place_lt r b k hr
  have h8 : (256 : Nat) ^ (k + 1) ≤ 256 ^ 8 := Nat.pow_le_pow_right (by decide) (by omega)
  have h8' : (256 : Nat) ^ 8 = 18446744073709551616 := by decide
  rw [hX, u64_or_nat _ _ (by omega) (by omega), nat_or_place r _ k hr]
theorem or_count (r n : Nat) (hr : r < 72057594037927936) : bits .or .u64 (r : Int) ((n : Int) * 72057594037927936 % 18446744073709551616) = ((r + n % 256 * 72057594037927936 : Nat) : Int) := by
  have e : (n : Int) * 72057594037927936 % 18446744073709551616 = ((n % 256 * 256 ^ 7 : Nat) : Int) := by
    have : (256 : Nat) ^ 7 = 72057594037927936 := by decide
    rw [this]; omega
  have eb : (UInt8.ofNat (n % 256)).toNat = n % 256 := by simp
  have h := or_place r (UInt8.ofNat (n % 256)) 7 (by decide) hr ((n : Int) * 72057594037927936 % 18446744073709551616) (by rw [e, eb])
  rw [h, eb]
end Go.Proofs.YtcjibpjdfhhhkaaGreat.Si
end

section
namespace Go.Proofs.YtcjibpjdfhhhkaaGreat.Se
open Go.RowKit Go.Proofs.YtcjibpjdfhhhkaaGreat.Mem

def w8 (n : Nat) : List UInt8 := (List.range 8).map fun j => UInt8.ofNat (n / 2 ^ (56 - 8 * j))
theorem w8_length (n : Nat) : (w8 n).length = 8 := by simp [w8]
def big : Nat → List UInt8 → Nat
  | a, [] => a
  | a, b :: l => big (a * 256 + b.toNat) l
theorem big_snoc (b : UInt8) : ∀ (l : List UInt8) (a : Nat), big a (l ++ [b]) = big a l * 256 + b.toNat
  | [], _ => rfl
  | c :: l, a => big_snoc b l (a * 256 + c.toNat)
theorem big_lt : ∀ (l : List UInt8) (a : Nat), big a l < (a + 1) * 256 ^ l.length
  | [], a => by simp [big]
  | b :: l, a => by
    have h := big_lt l (a * 256 + b.toNat)
    have hb := b.toNat_lt
    refine Nat.lt_of_lt_of_le h ?_
    rw [List.length_cons, Nat.pow_succ, Nat.mul_comm (256 ^ l.length), ← Nat.mul_assoc]
    exact Nat.mul_le_mul_right _ (by omega)
def n8 (l : List UInt8) : Nat := big 0 (l.take 8)
theorem w8_at (n j : Nat) (h : j < 8) : (w8 n)[j]? = some (UInt8.ofNat (n / 2 ^ (56 - 8 * j))) := by
  simp [w8, h]
theorem w8_take (n j : Nat) (h : j < 8) : (w8 n).take (j + 1) = (w8 n).take j ++ [UInt8.ofNat (n / 2 ^ (56 - 8 * j))] := by
  rw [List.take_add_one, w8_at n j h]; rfl
theorem big_take (l : List UInt8) (j : Nat) (h : j < l.length) : big 0 (l.take (j + 1)) = big 0 (l.take j) * 256 + (l[j]).toNat := by
  rw [List.take_succ_eq_append_getElem h, big_snoc]
theorem big_take_lt (l : List UInt8) (j : Nat) : big 0 (l.take j) < 256 ^ j := by
  have h := big_lt (l.take j) 0
  rw [Nat.zero_add, Nat.one_mul] at h
  exact Nat.lt_of_lt_of_le h (Nat.pow_le_pow_right (by decide) (by rw [List.length_take]; omega))

def sn (u n : Nat) : Nat := (n * 256 + u) % 18446744073709551616
def strmL (ks : Nat → UInt8) (u n m : Nat) : List UInt8 := Sp.strm (Sp.kw ks) (BitVec.ofNat 32 (sn u n / 4294967296)) (BitVec.ofNat 32 (sn u n)) m
theorem strmL_length (ks : Nat → UInt8) (u n m : Nat) : (strmL ks u n m).length = m := Sp.strm_length _ _ _ _
def xorL (p s : List UInt8) : List UInt8 := List.zipWith (· ^^^ ·) p s
def mixL (ks : Nat → UInt8) (u n : Nat) (p : List UInt8) : List UInt8 := xorL p (strmL ks u n p.length)
theorem mixL_length (ks : Nat → UInt8) (u n : Nat) (p : List UInt8) : (mixL ks u n p).length = p.length := by
  simp [mixL, xorL, strmL_length]
theorem mixL_at (ks : Nat → UInt8) (u n : Nat) (p : List UInt8) (i : Nat) (h : i < p.length) (h2 : i < (strmL ks u n p.length).length) : (mixL ks u n p)[i]? = some (p[i] ^^^ (strmL ks u n p.length)[i]) := by
  unfold mixL xorL
  rw [List.getElem?_zipWith, List.getElem?_eq_getElem h, List.getElem?_eq_getElem h2]

def k2 (ks : Nat → UInt8) (i : Nat) : UInt8 := ks (16 + i)
def tagL (ks : Nat → UInt8) (u : Nat) (l : List UInt8) : Nat := (Si.sumOf (k2 ks) (UInt8.ofNat u :: l)).toNat
theorem tagL_lt (ks : Nat → UInt8) (u : Nat) (l : List UInt8) : tagL ks u l < 18446744073709551616 := (Si.sumOf (k2 ks) (UInt8.ofNat u :: l)).isLt
def aheadL (ks : Nat → UInt8) (u n : Nat) (p : List UInt8) : List UInt8 := w8 n ++ mixL ks u n p
theorem aheadL_length (ks : Nat → UInt8) (u n : Nat) (p : List UInt8) : (aheadL ks u n p).length = 8 + p.length := by
  rw [aheadL, List.length_append, w8_length, mixL_length]
def sealL (ks : Nat → UInt8) (u n : Nat) (p : List UInt8) : List UInt8 := aheadL ks u n p ++ w8 (tagL ks u (aheadL ks u n p))
theorem sealL_length (ks : Nat → UInt8) (u n : Nat) (p : List UInt8) : (sealL ks u n p).length = p.length + 16 := by
  rw [sealL, List.length_append, aheadL_length, w8_length]; omega
def headL (l : List UInt8) : List UInt8 := l.take (l.length - 8)
def lastL (l : List UInt8) : List UInt8 := l.drop (l.length - 8)
def isL (ks : Nat → UInt8) (u : Nat) (l : List UInt8) : Bool := decide (16 ≤ l.length) && decide (l.length ≤ 800) && decide (n8 l ≤ 1099511627776) && decide (tagL ks u (headL l) = n8 (lastL l))
end Go.Proofs.YtcjibpjdfhhhkaaGreat.Se
end

section
set_option linter.unusedVariables false
namespace Go.Proofs.YtcjibpjdfhhhkaaGreat.Sp
open Go.RowKit Go.Proofs.YtcjibpjdfhhhkaaGreat.Mem

theorem rotL3 (v : Wd) (w : World) : Calls Tryz.prog 94 #[wv v, .int .i64 3] w fun e w' => e = .returned (wv (rot v 3)) ∧ w' = w := by
  have hand : bits .and .u64 3 31 = 3 := by kernel_rfl
  have hr := or3 v
  go_enter Tryz.func94, Tryz.ntmps94
  go_wp2
  go_ret
  exact ⟨rfl, rfl⟩
theorem rotR8 (v : Wd) (w : World) : Calls Tryz.prog 94 #[wv v, .int .i64 (-8)] w fun e w' => e = .returned (wv (rot v 24)) ∧ w' = w := by
  have hwr : IntKind.u64.wrap (-8) = 18446744073709551608 := by kernel_rfl
  have hand : bits .and .u64 18446744073709551608 31 = 24 := by kernel_rfl
  have hr := or24 v
  go_enter Tryz.func94, Tryz.ntmps94
  go_wp2
  go_ret
  exact ⟨rfl, rfl⟩
theorem left3 (v : Wd) (w : World) : Calls Tryz.prog 81 #[wv v, .int .i64 3] w fun e w' => e = .returned (wv (rot v 3)) ∧ w' = w := by
  go_enter Tryz.func81, Tryz.ntmps81
  go_wp2_with (go_at_call 94; refine (rotL3 _ _).mono ?_; rintro e w' ⟨rfl, rfl⟩)
  go_ret
  exact ⟨rfl, rfl⟩
theorem right8 (v : Wd) (w : World) : Calls Tryz.prog 80 #[wv v, .int .i64 8] w fun e w' => e = .returned (wv (rot v 24)) ∧ w' = w := by
  go_enter Tryz.func80, Tryz.ntmps80
  go_wp2_with (go_at_call 94; refine (rotR8 _ _).mono ?_; rintro e w' ⟨rfl, rfl⟩)
  go_ret
  exact ⟨rfl, rfl⟩

theorem dleft3 (v : Wd) (w : World) : Calls Tryz.prog 68 #[wv v, .int .u64 3] w fun e w' => e = .returned (wv (rot v 3)) ∧ w' = w := by
  have hr := or3 v
  go_enter Tryz.func68, Tryz.ntmps68
  go_wp2
  go_ret
  exact ⟨rfl, rfl⟩
theorem dright8 (v : Wd) (w : World) : Calls Tryz.prog 67 #[wv v, .int .u64 8] w fun e w' => e = .returned (wv (rot v 24)) ∧ w' = w := by
  have hr := ro24 v
  go_enter Tryz.func67, Tryz.ntmps67
  go_wp2
  go_ret
  exact ⟨rfl, rfl⟩
end Go.Proofs.YtcjibpjdfhhhkaaGreat.Sp
end
