/-
  The document's own answer to chapter 1, laying: size, element, Octets, Text, Int, Wrap, each by its contract over the plain mathematics.
-/
import Derived.Test.YtkkpcnibghndgaaDerGood
set_option linter.unusedVariables false
namespace Go.Proofs.Ytkkpcnibghndgaa.DerR
open Go.RowKit Go.Proofs.Ytkkpcnibghndgaa.Mem Go.Proofs.Ytkkpcnibghndgaa.DerP

/-- a slice of bytes is handed back, in memory of the call's own; nothing that was there has turned -/
def Gives (w : World) (l : L) (e : Ending) (w' : World) : Prop :=
  (∃ g cap, e = .returned (.slice (some ⟨g, 0, none⟩) l.length cap) ∧ w.heap.size ≤ g ∧ l.length ≤ cap ∧ Rd w' w'.heap.size (some ⟨g, 0, none⟩) (bvs l)) ∧ Below w.heap.size w w'
theorem gives_own {w w' : World} {v : Value} {n : Nat} {t : TypeId} {l : L} (h : w'.ownsRow w.heap.size t 1 v n (bvs l)) (hl : 0 < l.length) (hb : Below w.heap.size w w') : Gives w l (.returned v) w' := by
  obtain ⟨g, cap, rfl, h1, h2, h3⟩ := DerK.own_slice h hl
  exact ⟨⟨g, cap, rfl, h1, h2, h3⟩, hb⟩

theorem gives_lit (w : World) (t : TypeId) (cs : Array Value) (l : L) (h : cs.toList = bvs l) (n : Nat) (hn : n = l.length) : Gives w l (.returned (.slice (some ⟨w.heap.size, 0, none⟩) n n)) (w.alloc (.cells cs t)) := by
  subst hn
  refine ⟨⟨_, _, rfl, Nat.le_refl _, Nat.le_refl _, ?_⟩, (Below.refl _ _).alloc (Nat.le_refl _) _⟩
  have := DerW.rd_lit w t cs l h _ rfl
  simpa using this

theorem size_any (n : Nat) (h : n ≤ 65535) (w : World) : Calls Try.prog 45 #[.int .i64 (n : Int)] w (Gives w (szL n)) := by
  by_cases h1 : n < 128
  · have g1 : decide ((n : Int) < 128) = true := by simp; omega
    have E := Lib.hid (show szL n = [UInt8.ofNat n] by simp [szL, h1])
    have hb := Lib.hid (DerW.byte_nat n (by omega))
    have hn : (n : Int) ≤ 127 := by omega
    clear h h1
    go_enter Try.func45, Try.ntmps45
    go_wp2
    go_ret
    rw [E.out]
    exact gives_lit w 5 _ _ (by simp [bvs, hb.out]) _ rfl
  · have g1 : decide ((n : Int) < 128) = false := by simp; omega
    by_cases h2 : n ≤ 255
    · have g2 : decide ((n : Int) < 256) = true := by simp; omega
      have E := Lib.hid (show szL n = [129, UInt8.ofNat n] by simp [szL, h1, h2])
      have hb := Lib.hid (DerW.byte_nat n (by omega))
      have hn : (n : Int) ≤ 255 := by omega
      clear h h1 h2
      go_enter Try.func45, Try.ntmps45
      go_wp2
      go_ret
      rw [E.out]
      exact gives_lit w 5 _ _ (by simp [bvs, hb.out]; rfl) _ rfl
    · have g2 : decide ((n : Int) < 256) = false := by simp; omega
      have E := Lib.hid (show szL n = [130, UInt8.ofNat (n / 256), UInt8.ofNat n] by simp [szL, h1, h2])
      have hb := Lib.hid (show bvs [130, UInt8.ofNat (n / 256), UInt8.ofNat n] = [.int .u8 130, .int .u8 ((n : Int) / 256), .int .u8 ((n : Int) % 256)] by simp [bvs, bv]; omega)
      have hn : (n : Int) ≤ 65535 := by omega
      clear h h1 h2
      go_enter Try.func45, Try.ntmps45
      go_wp2
      go_ret
      rw [E.out]
      exact gives_lit w 5 _ _ (by rw [hb.out]) _ rfl

theorem szL_pos (n : Nat) : 0 < (szL n).length := by rw [length_szL]; split <;> (try split) <;> omega
theorem szL_le (n : Nat) : (szL n).length ≤ 3 := by rw [length_szL]; split <;> (try split) <;> omega

theorem elem_any (t : UInt8) (p : L) (A : Option Addr) (n c B : Nat) (w : World) (hr : Rd w B A (bvs p)) (hn : n = p.length) (hB : B ≤ w.heap.size) (hp : p.length ≤ 65535) :
    Calls Try.prog 37 #[.int .u8 t.toNat, .slice A n c] w (Gives w (elem t p)) := by
  obtain ⟨i0, hi0, hz0, hs0, hb0⟩ := info_parts DerW.u8_info
  have hsz : ∀ W : World, Calls Try.prog 45 #[.int .i64 (n : Int)] W (Gives W (szL n)) := fun W => size_any n (by omega) W
  have HS := Lib.hid hsz
  have HR := Lib.hid hr
  have HN := Lib.hid hn
  have HP := Lib.hid hp
  have h3 := Lib.hid (szL_le n)
  have hml := Lib.hid DerW.ml
  have hown0 : Hid ((w.alloc (.cells #[.int .u8 (t.toNat : Int)] 5)).ownsRow w.heap.size 5 1 (.slice (some ⟨w.heap.size, 0, none⟩) 1 1) 1 (bvs [t])) := World.ownsRow_lit w #[.int .u8 (t.toNat : Int)] 1 (Nat.le_refl _) (DerW.ml 1 (by omega)) rfl
  clear hsz hr hn hp
  go_enter Try.func37, Try.ntmps37
  go_wp2_with (first
    | (go_at_call 45; refine (HS.out _).mono ?_; rintro e w1 ⟨⟨g1, c1, rfl, hg1, hc1, hrd1⟩, hb1⟩
       have hB1 : Below w.heap.size w w1 := ((Below.refl w.heap.size w).alloc (Nat.le_refl _) _).trans (hb1.mono (by simp))
       have HO1 := Lib.hid (own_kept hown0.out hb1)
       have HQ1 := Lib.hid hrd1
       clear hrd1)
    | (at_builtin
       refine wpList_append_rd _ rfl (.tmp 6) (.tmp 9) 22 rfl w.heap.size 5 i0 _ 1 Try.underlying22 hi0 hz0 hs0 hb0 rfl (.slice (some ⟨w.heap.size, 0, none⟩) 1 1) 1 (bvs [t]) rfl HO1.out w1.heap.size _ (szL n).length c1 (bvs (szL n)) rfl (bvs_length _).symm HQ1.out (bvs_one _) (hml.out _ (by have := h3.out; omega)) (by have := h3.out; omega) hB1.size ?_
       intro v2 w2 hown2 hg2 hat2
       have hB2 := hB1.grown hg2 hB1.size (fun k hk => (HO1.out.lt k hk).1)
       have HO2 := Lib.hid hown2
       clear hown2 hat2)
    | (at_builtin
       refine wpList_append_rd _ rfl (.tmp 10) (.tmp 11) 22 rfl w.heap.size 5 i0 _ 1 Try.underlying22 hi0 hz0 hs0 hb0 rfl v2 (1 + (szL n).length) (bvs [t] ++ bvs (szL n)) rfl HO2.out B A n c (bvs p) rfl (by rw [bvs_length]; exact HN.out) (HR.out.below (hB2.mono hB)) (bvs_one _) (hml.out _ (by have := h3.out; have := HN.out; have := HP.out; omega)) (by have := h3.out; have := HN.out; have := HP.out; omega) hB2.size ?_
       intro v3 w3 hown3 hg3 hat3
       have hB3 := hB2.grown hg3 hB2.size (fun k hk => (HO2.out.lt k hk).1)
       have HO3 := Lib.hid hown3
       clear hown3 hat3))
  go_ret
  have hown := HO3.out
  rw [HN.out, ← bvs_append, ← bvs_append, show [t] ++ szL p.length ++ p = elem t p from rfl] at hown
  exact gives_own hown (by rw [length_elem]; omega) hB3

theorem octets_any (p : L) (A : Option Addr) (n c B : Nat) (w : World) (hr : Rd w B A (bvs p)) (hn : n = p.length) (hB : B ≤ w.heap.size) (hp : p.length ≤ 65535) :
    Calls Try.prog 17 #[.slice A n c] w (Gives w (elem 4 p)) := by
  have H := Lib.hid (elem_any 4 p A n c B w hr hn hB hp)
  clear hr hn hB hp
  go_enter Try.func17, Try.ntmps17
  go_wp2_with (go_at_call 37; refine (Calls.mono H.out ?_); rintro e w1 ⟨⟨g1, c1, rfl, hg1, hc1, hrd1⟩, hb1⟩)
  go_ret
  exact ⟨⟨g1, c1, rfl, hg1, hc1, hrd1⟩, hb1⟩

end Go.Proofs.Ytkkpcnibghndgaa.DerR
