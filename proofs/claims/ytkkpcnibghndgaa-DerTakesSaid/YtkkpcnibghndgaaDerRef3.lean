/-
  The document's own answer to chapter 1: Wrap.
-/
import Derived.Test.YtkkpcnibghndgaaDerRef2
set_option linter.unusedVariables false
namespace Go.Proofs.Ytkkpcnibghndgaa.DerR
open Go.RowKit Go.Proofs.Ytkkpcnibghndgaa.Mem Go.Proofs.Ytkkpcnibghndgaa.DerP

theorem own_any {w : World} {base n : Nat} {t : TypeId} {v : Value} {l : L} (h : w.ownsRow base t 1 v n (bvs l)) :
    ∃ A cap, v = .slice A l.length cap ∧ Rd w w.heap.size A (bvs l) := by
  have hn : n = l.length := by have := h.1; rw [bvs_length] at this; omega
  subst hn
  rcases h.2 with ⟨h1, h2⟩ | ⟨g, cap, cur, rfl, hg, _, hc, _⟩
  · subst h1
    have : l = [] := List.eq_nil_of_length_eq_zero h2
    subst this
    exact ⟨none, 0, rfl, .inl rfl⟩
  · exact ⟨_, cap, rfl, Rd.of_own h⟩
def flatTo (ls : List L) (k : Nat) : L := (ls.take k).flatten
theorem flatTo_succ (ls : List L) (k : Nat) (l : L) (h : ls[k]? = some l) : flatTo ls (k + 1) = flatTo ls k ++ l := DerW.flat_snoc ls k l h
theorem flatTo_le (ls : List L) (k : Nat) : (flatTo ls k).length ≤ ls.flatten.length := DerW.flat_le ls k
theorem flatTo_all (ls : List L) : flatTo ls ls.length = ls.flatten := by rw [flatTo, List.take_of_length_le (Nat.le_refl _)]

set_option maxHeartbeats 1000000 in
theorem wrap_any (t : UInt8) (ls : List L) (A : Option Addr) (m c B : Nat) (w : World) (hr : DerW.Rds w B A ls) (hm : m = ls.length) (hB : B ≤ w.heap.size) (hl : ls.flatten.length ≤ 65535) (hc : ls.length ≤ 1000000) :
    Calls Try.prog 21 #[.int .u8 t.toNat, .slice A m c] w (Gives w (elem t ls.flatten)) := by
  obtain ⟨i0, hi0, hz0, hs0, hb0⟩ := info_parts DerW.u8_info
  have HR := Lib.hid hr
  have hfl := Lib.hid (fun k => Nat.le_trans (flatTo_le ls k) hl)
  have hfa := Lib.hid (flatTo_all ls)
  have hml := Lib.hid DerW.ml
  have hc' : (m : Int) ≤ 1000000 := by omega
  have HM := Lib.hid hm
  have HL := Lib.hid hl
  have h00 := Lib.hid (World.ownsRow_nil w w.heap.size 5 1)
  clear hr hm hc hl
  go_enter Try.func21, Try.ntmps21
  go_wp2
  go_loopw [5, 6] (fun v i wr => ∃ k : Nat, k ≤ m ∧ i = .int .i64 (k : Int) ∧ wr.ownsRow w.heap.size 5 1 v (flatTo ls k).length (bvs (flatTo ls k)) ∧ Below w.heap.size w wr) (fun _ i _ => m - (intOf i).toNat)
  case atStart => exact ⟨0, by omega, rfl, h00.out, Below.refl _ _⟩
  case round =>
    obtain ⟨k, hk, rfl, hown, hbel⟩ := hrel
    by_cases hlt : k < m
    · obtain ⟨l, hx⟩ : ∃ l, ls[k]? = some l := ⟨_, List.getElem?_eq_getElem (by have := HM.out; omega)⟩
      obtain ⟨b, o, rfl, hb, A', c', hcell, hrd⟩ := (HR.out.below (hbel.mono hB)).at_ hx
      have hs := flatTo_succ ls k l hx
      have hf2 := hfl.out (k + 1)
      have hs1 := congrArg List.length hs
      rw [List.length_append] at hs1
      have HS := Lib.hid hs
      have hsum : (flatTo ls k).length + l.length ≤ 65535 := by omega
      have HO := Lib.hid hown
      have HQ := Lib.hid hrd
      clear hs hs1 hx hf2 hown hrd
      go_wp2_with (at_builtin
                   refine wpList_append_rd _ rfl (.tmp 13) (.tmp 17) 22 rfl w.heap.size 5 i0 _ 1 Try.underlying22 hi0 hz0 hs0 hb0 rfl _ (flatTo ls k).length (bvs (flatTo ls k)) rfl HO.out B A' l.length c' (bvs l) rfl (bvs_length l).symm HQ.out (bvs_one _) (hml.out _ (by omega)) (by omega) hbel.size ?_
                   intro v2 w2 hown2 hg2 hat2)
      refine ⟨⟨k + 1, by omega, by go_num, ?_, hbel.grown hg2 hbel.size (fun i hi => (HO.out.lt i hi).1)⟩, by simp [intOf]; omega⟩
      rw [HS.out, bvs_append, List.length_append]
      exact hown2
    · obtain rfl : k = m := by omega
      have e : flatTo ls k = ls.flatten := by rw [HM.out]; exact hfa.out
      rw [e] at hown
      obtain ⟨A2, cap2, rfl, hrd2⟩ := own_any hown
      have HQ := Lib.hid hrd2
      have HE := Lib.hid (elem_any t ls.flatten A2 ls.flatten.length cap2 _ wr hrd2 rfl (Nat.le_refl _) HL.out)
      clear hk hlt e hown hrd2
      generalize ls.flatten.length = q at *
      go_wp2_with (go_at_call 37; refine (Calls.mono HE.out ?_); rintro e w1 ⟨⟨g1, c1, rfl, hg1, hc1, hrd1⟩, hb1⟩)
      go_ret
      exact ⟨⟨g1, c1, rfl, Nat.le_trans hbel.size hg1, hc1, hrd1⟩, bt hbel hb1⟩

end Go.Proofs.Ytkkpcnibghndgaa.DerR
