/-
  Wrap of chapter 1: two loops over the rows; then Int, Octets and Text, which call it.
-/
import Derived.Test.YtkkpcnibghndgaaDerLay
namespace Go.Proofs.Ytkkpcnibghndgaa.DerW
open Go.RowKit Go.Proofs.Ytkkpcnibghndgaa.Mem Go.Proofs.Ytkkpcnibghndgaa.DerP

/-- a slice of byte slices that reads as these lists, below block B -/
def Rds (w : World) (B : Nat) (A : Option Addr) (ls : List L) : Prop :=
  ls = [] ∨ ∃ b o, A = some ⟨b, o, none⟩ ∧ b < B ∧ ∀ i l, ls[i]? = some l → ∃ A' c', w.cell? ⟨b, o + i, none⟩ = some (.slice A' l.length c') ∧ Rd w B A' (bvs l)
theorem Rds.at_ {w : World} {B : Nat} {A : Option Addr} {ls : List L} (h : Rds w B A ls) {i : Nat} {l : L} (hi : ls[i]? = some l) :
    ∃ b o, A = some ⟨b, o, none⟩ ∧ b < B ∧ ∃ A' c', w.cell? ⟨b, o + i, none⟩ = some (.slice A' l.length c') ∧ Rd w B A' (bvs l) := by
  rcases h with h | ⟨b, o, h1, h2, h3⟩
  · subst h; simp at hi
  · exact ⟨b, o, h1, h2, h3 i l hi⟩
theorem Rds.below {w w' : World} {B : Nat} {A : Option Addr} {ls : List L} (h : Rds w B A ls) (hb : Below B w w') : Rds w' B A ls := by
  rcases h with h | ⟨b, o, h1, h2, h3⟩
  · exact .inl h
  · refine .inr ⟨b, o, h1, h2, fun i l hl => ?_⟩
    obtain ⟨A', c', g1, g2⟩ := h3 i l hl
    exact ⟨A', c', (hb.cell (p := ⟨b, o + i, none⟩) h2).trans g1, g2.below hb⟩

theorem flat_snoc (ls : List L) (k : Nat) (l : L) (h : ls[k]? = some l) : (ls.take (k + 1)).flatten = (ls.take k).flatten ++ l := by
  obtain ⟨hk, e⟩ := List.getElem?_eq_some_iff.1 h
  rw [List.take_succ_eq_append_getElem hk, e]; simp
theorem flat_le (ls : List L) (k : Nat) : (ls.take k).flatten.length ≤ ls.flatten.length := by
  conv => rhs; rw [← List.take_append_drop k ls, List.flatten_append, List.length_append]
  omega

/-- how many bytes the first k rows have -/
def pre (ls : List L) (k : Nat) : Nat := (ls.take k).flatten.length
/-- the bytes of the first k rows behind the head -/
def built (t : UInt8) (ls : List L) (k : Nat) : L := t :: szL ls.flatten.length ++ (ls.take k).flatten
theorem pre_succ (ls : List L) (k : Nat) (l : L) (h : ls[k]? = some l) : pre ls (k + 1) = pre ls k + l.length := by
  rw [pre, flat_snoc ls k l h, List.length_append]; rfl
theorem pre_le (ls : List L) (k : Nat) : pre ls k ≤ ls.flatten.length := flat_le ls k
theorem pre_all (ls : List L) : pre ls ls.length = ls.flatten.length := by rw [pre, List.take_of_length_le (Nat.le_refl _)]
theorem built_succ (t : UInt8) (ls : List L) (k : Nat) (l : L) (h : ls[k]? = some l) : built t ls (k + 1) = built t ls k ++ l := by
  rw [built, flat_snoc ls k l h, built, List.append_assoc]
theorem built_all (t : UInt8) (ls : List L) : built t ls ls.length = elem t ls.flatten := by
  rw [built, List.take_of_length_le (Nat.le_refl _)]; rfl
theorem built_le (t : UInt8) (ls : List L) (k : Nat) (h : ls.flatten.length ≤ 65535) : (built t ls k).length ≤ 65539 := by
  have h1 := flat_le ls k
  have h2 := length_szL ls.flatten.length
  have h3 : (szL ls.flatten.length).length ≤ 3 := by rw [h2]; split <;> (try split) <;> omega
  rw [built, List.length_append, List.length_cons]; omega

set_option maxRecDepth 100000 in
set_option maxHeartbeats 1000000 in
theorem wrap_any (t : UInt8) (ls : List L) (A : Option Addr) (m c B : Nat) (w : World) (hr : Rds w B A ls) (hm : m = ls.length) (hB : B ≤ w.heap.size) (hl : ls.flatten.length ≤ 65535) (hc : ls.length ≤ 1000000) :
    Calls Try.prog 20 #[.int .u8 t.toNat, .slice A m c] w fun e w' =>
      ∃ v, e = .returned v ∧ w'.ownsRow w.heap.size 5 1 v (elem t ls.flatten).length (bvs (elem t ls.flatten)) ∧ Below w.heap.size w w' := by
  obtain ⟨i0, hi0, hz0, hs0, hb0⟩ := info_parts u8_info
  have hpa := pre_all ls
  have hh : ∀ W, Calls Try.prog 38 #[.int .u8 t.toNat, .int .i64 ((pre ls m : Nat) : Int)] W fun e w' =>
    ∃ v, e = .returned v ∧ w'.ownsRow W.heap.size 5 1 v (built t ls 0).length (bvs (built t ls 0)) ∧ Below W.heap.size W w' := by
    intro W
    have := head_any t _ hl W
    have e1 : built t ls 0 = t :: szL ls.flatten.length := by simp [built]
    rw [e1, hm, hpa, List.length_cons, Nat.add_comm]
    exact this
  have HH := Lib.hid hh; clear hh
  have hpl := Lib.hid (fun k => Nat.le_trans (pre_le ls k) hl)
  have hbl := Lib.hid (fun k => built_le t ls k hl)
  have hba := Lib.hid (built_all t ls)
  have hml := Lib.hid ml
  have HR := Lib.hid hr; clear hr
  have hc' : (m : Int) ≤ 1000000 := by omega
  have HM := Lib.hid hm
  clear hm hc hl hpa
  go_enter Try.func20, Try.ntmps20
  go_wp2
  go_loop [5, 13] (fun n i => ∃ k : Nat, k ≤ m ∧ i = .int .i64 (k : Int) ∧ n = .int .i64 ((pre ls k : Nat) : Int)) (fun _ i => m - (intOf i).toNat)
  case atStart => exact ⟨0, by omega, rfl, rfl⟩
  case round =>
    obtain ⟨k, hk, rfl, rfl⟩ := hrel
    by_cases hlt : k < m
    · obtain ⟨l, hx⟩ : ∃ l, ls[k]? = some l := ⟨_, List.getElem?_eq_getElem (by have := HM.out; omega)⟩
      obtain ⟨b, o, rfl, hb, A', c', hcell, hrd⟩ := HR.out.at_ hx
      have hf1 := hpl.out k
      have hf2 := hpl.out (k + 1)
      have hs := pre_succ ls k l hx
      have HS := Lib.hid hs
      have g1 : decide ((65535 : Int) < ((pre ls k : Nat) : Int) + (l.length : Int)) = false := by simp only [decide_eq_false_iff_not]; omega
      have hll : (l.length : Int) ≤ 65535 := by omega
      have hf1' : ((pre ls k : Nat) : Int) ≤ 65535 := by omega
      clear hs hf1 hf2 hx hrd
      go_wp2
      exact ⟨⟨k + 1, by omega, by go_num, by rw [HS.out]; go_num⟩, by simp [intOf]; omega⟩
    · obtain rfl : k = m := by omega
      clear hk hlt
      go_wp2_with (go_at_call 38; refine (HH.out _).mono ?_; rintro e w1 ⟨v, rfl, hown, hbel⟩)
      go_loopw [8, 29] (fun v i wr => ∃ j : Nat, j ≤ k ∧ i = .int .i64 (j : Int) ∧ wr.ownsRow w.heap.size 5 1 v (built t ls j).length (bvs (built t ls j)) ∧ Below w.heap.size w wr) (fun _ i _ => k - (intOf i).toNat)
      case atStart => exact ⟨0, by omega, rfl, hown, hbel⟩
      case round =>
        obtain ⟨j, hj, rfl, hown1, hbel1⟩ := hrel
        by_cases hlt : j < k
        · obtain ⟨l, hx⟩ : ∃ l, ls[j]? = some l := ⟨_, List.getElem?_eq_getElem (by have := HM.out; omega)⟩
          obtain ⟨b, o, rfl, hb, A', c', hcell, hrd⟩ := (HR.out.below (hbel1.mono hB)).at_ hx
          have hs := built_succ t ls j l hx
          have hf1 := hbl.out j
          have hf2 := hbl.out (j + 1)
          have hs1 := congrArg List.length hs
          rw [List.length_append] at hs1
          have HS := Lib.hid hs
          have hsum : (built t ls j).length + l.length ≤ 65539 := by omega
          have HO := Lib.hid hown1
          have HQ := Lib.hid hrd
          clear hs hs1 hx hf1 hf2 hown1 hrd hown
          go_wp2_with (at_builtin
                       refine wpList_append_rd _ rfl (.tmp 33) (.tmp 34) 22 rfl w.heap.size 5 i0 _ 1 Try.underlying22 hi0 hz0 hs0 hb0 rfl _ (built t ls j).length (bvs (built t ls j)) rfl HO.out B A' l.length c' (bvs l) rfl (bvs_length l).symm HQ.out (bvs_one _) (hml.out _ (by omega)) (by omega) hbel1.size ?_
                       intro v2 w2 hown2 hg2 hat2)
          refine ⟨⟨j + 1, by omega, by go_num, ?_, hbel1.grown hg2 hbel1.size (fun i hi => (HO.out.lt i hi).1)⟩, by simp [intOf]; omega⟩
          rw [HS.out, bvs_append, List.length_append]
          exact hown2
        · obtain rfl : j = k := by omega
          clear hj hlt
          go_wp2
          go_ret
          have e : built t ls j = elem t ls.flatten := by rw [HM.out]; exact hba.out
          rw [e] at hown1
          exact ⟨_, rfl, hown1, hbel1⟩

end Go.Proofs.Ytkkpcnibghndgaa.DerW
