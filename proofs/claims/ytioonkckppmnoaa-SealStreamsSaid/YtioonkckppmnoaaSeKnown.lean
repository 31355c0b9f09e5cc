/-
  What every law of chapter 4 ends with: what was sealed opens.
-/
import Derived.Test.YtioonkckppmnoaaSeKey
import Derived.Lib.SlBytesConst
set_option linter.unusedVariables false
namespace Go.Proofs.Ytioonkckppmnoaa.Se
open Go.RowKit Go.Proofs.Ytioonkckppmnoaa.Mem

theorem isL_seal (ks : Nat → UInt8) (u n : Nat) (p : List UInt8) (hn : n ≤ 1099511627776) (hp : p.length ≤ 784) : isL ks u (sealL ks u n p) = true := by
  have h := open_seal ks u n p hn hp
  unfold openL at h
  split at h
  · assumption
  · cases h
theorem mix_seal (ks : Nat → UInt8) (u n : Nat) (p : List UInt8) (hn : n ≤ 1099511627776) : mixL ks u (n8 (sealL ks u n p)) (midL (sealL ks u n p)) = p := by
  rw [mid_seal, n8_seal ks u n p (by omega), mix_mix]
theorem not_aw {b g B i : Nat} (h : ¬ Nw B g i) : B ≤ i ∧ i ≠ g := by
  unfold Nw at h
  omega
/-- bytes that came out of a use of a Box lie in none of its blocks -/
theorem RdA.out {w w' : World} {b g : Nat} {h : Option Nat} {A : Option Addr} {xs : List Value} {ks : Nat → UInt8} {a o r : Nat} (hr : RdA (Nw w.heap.size g) w' A xs) (hK : Box w b ks h a o r) : RdA (Ow b (some g)) w' A xs := hr.mono fun i _ hx => by
  rcases hx with hx | hx
  · exact .inl (hx ▸ hK.lt)
  · injection hx with hx; exact .inr hx.symm
def k1 : Nat → UInt8 := fun i => if i = 0 then 1 else 0
set_option maxRecDepth 100000 in
set_option maxHeartbeats 3200000 in
theorem known_any (w : World) : Calls Try.prog 18 #[] w fun e w' => e = .returned (.bool true) ∧ Below w.heap.size w w' := by
  have hk : key32 k1 = #[.int .u8 1, .int .u8 0, .int .u8 0, .int .u8 0, .int .u8 0, .int .u8 0, .int .u8 0, .int .u8 0, .int .u8 0, .int .u8 0, .int .u8 0, .int .u8 0, .int .u8 0, .int .u8 0, .int .u8 0, .int .u8 0, .int .u8 0, .int .u8 0, .int .u8 0, .int .u8 0, .int .u8 0, .int .u8 0, .int .u8 0, .int .u8 0, .int .u8 0, .int .u8 0, .int .u8 0, .int .u8 0, .int .u8 0, .int .u8 0, .int .u8 0, .int .u8 0] := by kernel_rfl
  have c1 := new_any k1 w
  rw [hk] at c1
  clear hk
  have hst : ∀ (w1 : World) (b : Nat), Box w1 b k1 none 0 0 0 → Calls Try.prog 14 #[.pointer (some ⟨b, 0, none⟩), .int .i64 2, .int .i64 5, .slice (some ⟨w1.heap.size, 0, none⟩) 2 2] (w1.alloc (.cells #[.int .u8 104, .int .u8 105] 5 (2, 3))) fun e w' => ∃ g A c, e = .returned (.tuple #[.slice A 18 c, .int .i64 0]) ∧ 18 ≤ c ∧ c ≤ maxLen ∧ RdA (Ow b (some g)) w' A (bvs (sealL k1 2 5 [104, 105])) ∧ Box w' b k1 (some g) 1 0 0 ∧ Chg (Ow b none) w1 w' ∧ w1.heap.size ≤ g := by
    intro w1 b hb
    have hw : Below w1.heap.size w1 (w1.alloc (.cells #[.int .u8 104, .int .u8 105] 5 (2, 3))) := (Below.refl _ _).alloc (Nat.le_refl _) _
    have hr : RdA (Ow b none) (w1.alloc (.cells #[.int .u8 104, .int .u8 105] 5 (2, 3))) (some ⟨w1.heap.size, 0, none⟩) (bvs [104, 105]) := by
      refine .inr ⟨w1.heap.size, 0, rfl, by simp, fun hx => ?_, fun i u hu => ?_⟩
      · rcases hx with hx | hx
        · have := hb.lt; omega
        · cases hx
      · rw [Nat.zero_add, cell_of_row _ _ i _ _ (2, 3) (heap_alloc_new w1 _)]; rw [← hu, List.getElem?_toArray]; rfl
    refine (seal_ok b k1 none 0 0 0 2 5 _ 2 2 [104, 105] _ (by decide) (by decide) (by decide) rfl (by decide) hr (hb.below hw)).mono ?_
    rintro e w' ⟨g, A, c, rfl, h1, h2, h3, h4, h5⟩
    exact ⟨g, A, c, rfl, h1, h2, h3.out (hb.below hw), h4, (Chg.of_below hw).trans h5.1 (fun _ _ x => x), by
      rcases h5.2 with hx | ⟨_, hx⟩
      · cases hx
      · simp at hx; omega⟩
  have hop : ∀ (w2 : World) (b g : Nat) (A : Option Addr) (c : Nat), 18 ≤ c → c ≤ maxLen → RdA (Ow b (some g)) w2 A (bvs (sealL k1 2 5 [104, 105])) → Box w2 b k1 (some g) 1 0 0 → Calls Try.prog 16 #[.pointer (some ⟨b, 0, none⟩), .int .i64 2, .slice A 18 c] w2 fun e w' => ∃ A2 c2, e = .returned (.tuple #[.slice A2 2 c2, .int .i64 0]) ∧ RdA (fun _ => False) w' A2 (bvs [104, 105]) ∧ Chg (Ow b (some g)) w2 w' := by
    intro w2 b g A c h1 h2 h3 h4
    refine (open_ok b k1 (some g) 1 0 0 2 A 18 c (sealL k1 2 5 [104, 105]) w2 (by decide) (by decide) (by rw [sealL_length]; rfl) h1 h2 h3 h4 (isL_seal _ _ _ _ (by decide) (by decide))).mono ?_
    rintro e w' ⟨g2, A2, c2, rfl, h5, h6, h7, h8, h9⟩
    rw [mix_seal _ _ _ _ (by decide)] at h7
    exact ⟨A2, c2, rfl, h7.mono (fun _ _ x => x.elim), h9.1⟩
  have HST := Lib.hid hst; clear hst
  have kc := fun (w : World) (C : Array Value) (n c : Nat) => Lib.run_convert_bytes_const (P := Try.prog) w 22 5 C n c Try.underlying22 Try.underlying5
  have HOP := Lib.hid hop; clear hop
  go_enter Try.func18, Try.ntmps18
  go_wp2_with (first
    | (go_at_call 12; refine Calls.mono c1 ?_; rintro e w1 ⟨b, rfl, hb, hx1, hb1⟩; clear c1; have c2 := HST.out w1 b hx1; have HB := Lib.hid hb; have HB1 := Lib.hid hb1; clear hb hx1 hb1)
    | (go_at_call 14; refine Calls.mono c2 ?_; rintro e w2 ⟨g, A, c, rfl, h1, h2, h3, h4, h5, h6⟩; clear c2; have HG := Lib.hid h6; clear h6; have c3 := HOP.out w2 b g A c h1 h2 h3 h4; have HC2 := Lib.hid h5; have HX2 := Lib.hid h4; clear h1 h2 h3 h4 h5)
    | (go_at_call 16; refine Calls.mono c3 ?_; rintro e w3 ⟨A2, c4, rfl, h1, h2⟩; clear c3; have hcv := run_bytes_str (P := Try.prog) w3 22 5 Try.underlying22 Try.underlying5 h1.rd 2 c4 rfl 9 Try.underlying9; have HC3 := Lib.hid h2; clear h1 h2))
  go_ret
  refine ⟨rfl, (HB1.out.trans (HC2.out.below HB1.out.size fun i _ hx => ?_)).trans (HC3.out.below (Nat.le_trans HB1.out.size HC2.out.size) fun i _ hx => ?_)⟩
  · rcases hx with hx | hx
    · rw [hx]; exact HB.out
    · cases hx
  · rcases hx with hx | hx
    · rw [hx]; exact HB.out
    · injection hx with hx
      have := HB1.out.size; have := HG.out; omega
end Go.Proofs.Ytioonkckppmnoaa.Se
