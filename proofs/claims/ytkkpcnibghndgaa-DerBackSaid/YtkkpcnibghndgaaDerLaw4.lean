/-
  The walk of the law that what was laid is taken as it was, within others, too.
-/
import Derived.Test.YtkkpcnibghndgaaDerGood
set_option linter.unusedVariables false
namespace Go.Proofs.Ytkkpcnibghndgaa.DerL
open Go.RowKit Go.Proofs.Ytkkpcnibghndgaa.Mem Go.Proofs.Ytkkpcnibghndgaa.DerP

/-- the three elements of the law, one behind the other -/
def three (n : Int) (p s : L) : L := encI n ++ (elem 4 p ++ elem 27 s)
theorem three_le (n : Int) (p s : L) (hp : p.length ≤ 1000) (hs : s.length ≤ 1000) : (three n p s).length ≤ 2020 := by
  have h1 := enc_small n
  have h2 := elem_le 4 p
  have h3 := elem_le 27 s
  simp only [three, List.length_append]; omega
theorem wrap_three (t : UInt8) (n : Int) (p s : L) (hp : p.length ≤ 1000) (hs : s.length ≤ 1000) (w : World) (A1 A2 A3 : Option Addr) (n1 n2 n3 c1 c2 c3 : Nat) (hn1 : n1 = (encI n).length) (hn2 : n2 = (elem 4 p).length) (hn3 : n3 = (elem 27 s).length)
    (h1 : Rd w w.heap.size A1 (bvs (encI n))) (h2 : Rd w w.heap.size A2 (bvs (elem 4 p))) (h3 : Rd w w.heap.size A3 (bvs (elem 27 s))) :
    Calls Try.prog 20 #[.int .u8 t.toNat, .slice (some ⟨w.heap.size, 0, none⟩) 3 3] (w.alloc (.cells #[.slice A1 n1 c1, .slice A2 n2 c2, .slice A3 n3 c3] 22)) fun e w' =>
      (∃ g cap, e = .returned (.slice (some ⟨g, 0, none⟩) (elem t (three n p s)).length cap) ∧ Rd w' w'.heap.size (some ⟨g, 0, none⟩) (bvs (elem t (three n p s)))) ∧ Below w.heap.size w w' := by
  have hr := rds_three w 22 _ A1 A2 A3 (encI n) (elem 4 p) (elem 27 s) n1 n2 n3 c1 c2 c3 hn1 hn2 hn3 h1 h2 h3 (Nat.le_refl _)
  have e : [encI n, elem 4 p, elem 27 s].flatten = three n p s := by simp [three]
  have hl := three_le n p s hp hs
  refine (DerW.wrap_any t _ _ 3 3 (w.heap.size + 1) _ hr rfl (by simp) (by rw [e]; omega) (by simp)).mono ?_
  rw [e]
  rintro e' w' ⟨v, rfl, hown, hb⟩
  obtain ⟨g, cap, rfl, _, _, hrd⟩ := DerK.own_slice hown (by rw [length_elem]; omega)
  exact ⟨⟨g, cap, rfl, hrd⟩, ((Below.refl w.heap.size w).alloc (Nat.le_refl _) _).trans (hb.mono (by simp))⟩

set_option maxRecDepth 100000 in
theorem back_out (n : Int) (A : Option Addr) (l : L) (c : Nat) (s : ByteArray) (t : UInt8) (w : World)
    (h : n < 0 ∨ 4611686018427387904 < n ∨ 1000 < l.length ∨ 1000 < s.size) :
    Calls Try.prog 5 #[.int .i64 n, .slice A l.length c, .string s, .int .u8 t.toNat] w fun e w' => e = .returned (.bool true) ∧ Below w.heap.size w w' := by
  by_cases h1 : n < 0
  · have g1 : decide (n < 0) = true := by simpa using h1
    clear h h1
    go_enter Try.func5, Try.ntmps5
    go_wp2
    go_ret
    exact ⟨rfl, Below.refl _ _⟩
  · have g1 : decide (n < 0) = false := by simpa using h1
    by_cases h2 : 4611686018427387904 < n
    · have g2 : decide (4611686018427387904 < n) = true := by simpa using h2
      clear h h1 h2
      go_enter Try.func5, Try.ntmps5
      go_wp2
      go_ret
      exact ⟨rfl, Below.refl _ _⟩
    · have g2 : decide (4611686018427387904 < n) = false := by simpa using h2
      by_cases h3 : 1000 < l.length
      · have g3 : decide ((1000 : Int) < (l.length : Int)) = true := by simp; omega
        clear h h1 h2 h3
        go_enter Try.func5, Try.ntmps5
        go_wp2
        go_ret
        exact ⟨rfl, Below.refl _ _⟩
      · have g3 : decide ((1000 : Int) < (l.length : Int)) = false := by simp; omega
        have g4 : decide ((1000 : Int) < (s.size : Int)) = true := by
          have : 1000 < s.size := by rcases h with h | h | h | h <;> first | exact h | omega
          simp; omega
        clear h h1 h2 h3
        go_enter Try.func5, Try.ntmps5
        go_wp2
        go_ret
        exact ⟨rfl, Below.refl _ _⟩

set_option maxRecDepth 100000 in
set_option maxHeartbeats 1000000 in
theorem back_in (n : Int) (A : Option Addr) (p : L) (c : Nat) (s : L) (t : UInt8) (w : World) (hr : Rd w w.heap.size A (bvs p))
    (h1 : 0 ≤ n) (h2 : n ≤ 4611686018427387904) (h3 : p.length ≤ 1000) (h4 : s.length ≤ 1000) :
    Calls Try.prog 5 #[.int .i64 n, .slice A p.length c, .string ⟨s.toArray⟩, .int .u8 t.toNat] w fun e w' => e = .returned (.bool true) ∧ Below w.heap.size w w' := by
  have g1 : decide (n < 0) = false := by simpa using h1
  have g2 : decide (4611686018427387904 < n) = false := by simpa using h2
  have g3 : decide ((1000 : Int) < (p.length : Int)) = false := by simp; omega
  have g4 : decide ((1000 : Int) < (s.length : Int)) = false := by simp; omega
  have HR := Lib.hid hr
  have H1 := Lib.hid h1
  have H2 := Lib.hid h2
  have H3 := Lib.hid h3
  have H4 := Lib.hid h4
  have HT := Lib.hid (three_le n p s h3 h4)
  have HP := Lib.hid (enc_pos n)
  clear hr h1 h2 h3 h4
  go_enter Try.func5, Try.ntmps5
  go_wp2_with (first
    | (go_at_call 14; refine (DerW.int_any n w).mono ?_; rintro e w1 ⟨v1, rfl, hown1, hb1⟩
       obtain ⟨q1, d1, rfl, hq1, _, hrd1⟩ := DerK.own_slice hown1 HP.out
       clear hown1)
    | (go_at_call 16; refine (DerW.octets_any p A _ c w.heap.size w1 (HR.out.below hb1) rfl hb1.size (by have := H3.out; omega)).mono ?_; rintro e w2 ⟨v2, rfl, hown2, hb2⟩
       obtain ⟨q2, d2, rfl, hq2, _, hrd2⟩ := DerK.own_slice hown2 (by rw [length_elem]; omega)
       have hrd1' := hrd1.below hb2
       clear hown2 hrd1)
    | (go_at_call 18; refine (DerW.text_any s w2 (by have := H4.out; omega)).mono ?_; rintro e w3 ⟨v3, rfl, hown3, hb3⟩
       obtain ⟨q3, d3, rfl, hq3, _, hrd3⟩ := DerK.own_slice hown3 (by rw [length_elem]; omega)
       have hrd1'' := (hrd1'.more hb2.size).below hb3
       have hrd2' := hrd2.below hb3
       have b3 := bt (bt hb1 hb2) hb3
       clear hown3 hrd1' hrd2)
    | (go_at_call 20; refine (wrap_three t n p s H3.out H4.out w3 _ _ _ _ _ _ d1 d2 d3 rfl rfl rfl (hrd1''.more hb3.size) (hrd2'.more hb3.size) hrd3).mono ?_; rintro e w4 ⟨⟨q4, d4, rfl, hrd4⟩, hb4⟩
       have b4 := bt b3 hb4)
    | (go_at_call 23; refine (DerC.open_any _ _ _ _ _ _ hrd4 rfl).mono ?_; rintro e w5 ⟨g, rfl, hg, hcur, hb5⟩
       have b5 := bt b4 hb5)
    | (go_at_call 30; refine (into_good t g (three n p s) [] _ (by have := HT.out; omega) (by simp) (by rw [List.append_nil]; exact hcur)).mono ?_; rintro e w6 ⟨⟨g6, rfl, hg6, hcd⟩, hcur6, hgr6⟩
       have hgg : g ≠ g6 := by have := Blk.lt hcur; omega
       clear hcur)
    | (go_at_call 24; refine (int_good g6 n _ _ H1.out H2.out (by have := HT.out; simp only [three, List.length_append] at this; simp only [List.length_append]; omega) hcd).mono ?_; rintro e w7 ⟨rfl, hcd7, hgr7⟩; clear hcd)
    | (go_at_call 26; refine (octets_good g6 p _ _ (by have := H3.out; omega) (by have := HT.out; simp only [three, List.length_append] at this; omega) hcd7).mono ?_; rintro e w8 ⟨⟨b8, cap8, rfl, hcap8, hf8⟩, hcd8, hgr8⟩
       have hbg : b8 ≠ g6 := by have := Blk.lt hcd7; have := hf8.1; omega
       clear hcd7)
    | (go_at_call 28; refine (text_good g6 s [] _ (by have := H4.out; omega) (by simp) (by rw [List.append_nil]; exact hcd8)).mono ?_; rintro e w9 ⟨rfl, hcd9, hgr9⟩
       have hf9 := fresh_grown hf8 hgr9 hbg
       have hcv8 := run_bytes_str (P := Try.prog) w9 22 5 Try.underlying22 Try.underlying5 hf9.rd p.length cap8 rfl 9 Try.underlying9
       have hw5 : w.heap.size ≤ g := Nat.le_trans b4.size hg
       have hw6 : w.heap.size ≤ g6 := Nat.le_trans b5.size hg6
       have b9 := btg (btg (btg (btg b5 hgr6 hw5) hgr7 hw6) hgr8 hw6) hgr9 hw6
       have hcv := run_bytes_str (P := Try.prog) w9 22 5 Try.underlying22 Try.underlying5 (HR.out.below b9) p.length c rfl 9 Try.underlying9
       have hcur9 : DerC.Cur w9 g (some []) := ((hcur6.grown hgr7 (by simpa using Ne.symm hgg)).grown hgr8 (by simpa using Ne.symm hgg)).grown hgr9 (by simpa using Ne.symm hgg)
       clear hcd8 hcur6)
    | (go_at_call 33; refine (whole_end g6 _ hcd9).mono ?_; rintro e w' ⟨rfl, rfl⟩; clear hcd9)
    | (go_at_call 33; refine (whole_end g _ hcur9).mono ?_; rintro e w' ⟨rfl, rfl⟩)
    | (go_at_call 22; refine (DerK.known_any _).mono ?_; rintro e w10 ⟨rfl, hb10⟩))
  go_ret
  exact ⟨rfl, bt b9 hb10⟩

theorem back (n : Int) (A : Option Addr) (l : L) (c : Nat) (s : ByteArray) (t : UInt8) (w : World) (hn : (Lit.int .i64 n).wf = true) (hr : Rd w w.heap.size A (bvs l)) (hc : l.length ≤ c) (hm : c ≤ maxLen) (hs : s.size ≤ maxLen) :
    Calls Try.prog 5 #[.int .i64 n, .slice A l.length c, .string s, .int .u8 t.toNat] w fun e w' => e = .returned (.bool true) ∧ Below w.heap.size w w' := by
  by_cases h : n < 0 ∨ 4611686018427387904 < n ∨ 1000 < l.length ∨ 1000 < s.size
  · exact back_out n A l c s t w h
  · have hsz : s.size = s.data.toList.length := by rw [Array.length_toList]; rfl
    rw [bytes_eta s]
    exact back_in n A l c _ t w hr (by omega) (by omega) (by omega) (by omega)

end Go.Proofs.Ytkkpcnibghndgaa.DerL
