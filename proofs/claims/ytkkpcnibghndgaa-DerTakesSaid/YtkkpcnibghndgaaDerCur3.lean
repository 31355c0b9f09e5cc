/-
  A Cursor's Int, Octets, Text, Into, and Open, each by its contract.
-/
import Derived.Test.YtkkpcnibghndgaaDerCur2
namespace Go.Proofs.Ytkkpcnibghndgaa.DerC
open Go.RowKit Go.Proofs.Ytkkpcnibghndgaa.Mem Go.Proofs.Ytkkpcnibghndgaa.DerP
attribute [local go_sem] mk_at List.getElem_cons_zero List.getElem_cons_succ ext_tail ext_drop ext_mid

theorem int_nil (w : World) : Calls Try.prog 24 #[.pointer none] w fun e w' => e = .returned (.int .i64 0) ∧ w = w' := by
  go_enter Try.func24, Try.ntmps24
  go_wp2_with (go_at_call 39; refine (take_nil 2 _).mono ?_; rintro e w' ⟨rfl, rfl⟩)
  go_ret
  exact ⟨rfl, rfl⟩
theorem octets_nil (w : World) : Calls Try.prog 26 #[.pointer none] w fun e w' => (∃ A c, e = .returned (.slice A 0 c)) ∧ Below w.heap.size w w' := by
  have hcv := fun (W : World) => Lib.run_convert_string_bytes (P := Try.prog) W 9 22 5 ⟨([] : List UInt8).toArray⟩ Try.underlying9 Try.underlying22 Try.underlying5
  go_enter Try.func26, Try.ntmps26
  go_wp2_with (go_at_call 39; refine (take_nil 4 _).mono ?_; rintro e w' ⟨rfl, rfl⟩)
  go_ret
  exact ⟨⟨_, _, rfl⟩, bytes_below _ _ _⟩
theorem into_nil (t : UInt8) (w : World) : Calls Try.prog 30 #[.pointer none, .int .u8 t.toNat] w fun e w' => e = .returned (.pointer none) ∧ w = w' := by
  go_enter Try.func30, Try.ntmps30
  go_wp2
  go_ret
  exact ⟨rfl, rfl⟩
theorem clone_any (s : ByteArray) (w : World) (hlim : s.size ≤ 281474976710656) : Calls Try.prog 43 #[.string s] w fun e w' => e = .returned (.string s) ∧ Below w.heap.size w w' := by
  have H := Lib.hid hlim; clear hlim
  go_enter Try.func43, Try.ntmps43
  go_wp2_with (go_at_call 47; refine (Try.stringslite_Clone _ _ H.out).mono ?_; rintro e w' ⟨rfl, hb⟩)
  go_ret
  exact ⟨rfl, hb⟩
theorem text_nil (w : World) : Calls Try.prog 28 #[.pointer none] w fun e w' => e = .returned (.string ⟨([] : List UInt8).toArray⟩) ∧ Below w.heap.size w w' := by
  go_enter Try.func28, Try.ntmps28
  go_wp2_with (first
    | (go_at_call 39; refine (take_nil 27 _).mono ?_; rintro e w' ⟨rfl, rfl⟩)
    | (go_at_call 43; refine (clone_any _ _ (by decide)).mono ?_; rintro e w' ⟨rfl, hb⟩))
  go_ret
  exact ⟨rfl, hb⟩

theorem int_any (g : Nat) (c : Option L) (w : World) (h : Cur w g c) (hs : ((c.getD []).length : Int) ≤ 100000) : Calls Try.prog 24 #[.pointer (some ⟨g, 0, none⟩)] w fun e w' =>
    e = .returned (.int .i64 ((intC c).1 : Int)) ∧ Cur w' g (intC c).2 ∧ w.grownBy w' (some g) := by
  have ht : ∀ W, Cur W g c → Calls Try.prog 39 #[.pointer (some ⟨g, 0, none⟩), .int .u8 2] W fun e w' =>
      e = .returned (.tuple #[.string ⟨((bodyC 2 c).getD []).toArray⟩, .bool (bodyC 2 c).isSome]) ∧ Cur w' g (nextC 2 c) ∧ W.grownBy w' (some g) := fun W hW => take_any 2 g c W hW hs
  have HT := Lib.hid ht; clear ht
  have hbl := (body_len 2 c).1
  cases hb : bodyC 2 c with
  | none =>
    have E := Lib.hid (show intC c = (0, none) by simp only [intC, hb])
    have hn := Lib.hid (body_next 2 c hb)
    rw [hb] at HT
    have HB := Lib.hid hb; clear hb hbl
    go_enter Try.func24, Try.ntmps24
    go_wp2_with (go_at_call 39; refine (HT.out _ h).mono ?_; rintro e w' ⟨rfl, hc, hg⟩)
    go_ret
    rw [E.out]
    exact ⟨rfl, by rw [← hn.out]; exact hc, hg⟩
  | some b =>
    rw [hb] at HT
    rw [hb] at hbl
    simp only [Option.getD_some] at hbl
    have hn : ∀ W, Calls Try.prog 40 #[.string ⟨b.toArray⟩] W fun e w' => e = .returned (numV (numR b)) ∧ Drawn W w' := fun W => number_any b (by omega) W
    cases hx : numL b with
    | none =>
      have E := Lib.hid (show intC c = (0, none) by simp only [intC, hb, hx])
      rw [numR_none hx] at hn
      simp only [numV] at hn
      have HN := Lib.hid hn; clear hn
      have HB := Lib.hid hb; clear hb hbl hx
      go_enter Try.func24, Try.ntmps24
      go_wp2_with (first
        | (go_at_call 39; refine (HT.out _ h).mono ?_; rintro e w1 ⟨rfl, hc, hg⟩)
        | (go_at_call 40; refine (HN.out _).mono ?_; rintro e w' ⟨rfl, q, rfl⟩)
        | (go_at_call 41; refine (fail_any _ _ _ (hc.drewN q)).mono ?_; rintro e w' ⟨rfl, hc1, hg1⟩))
      go_ret
      rw [E.out]
      exact ⟨rfl, hc1, (g_drewN hg q).trans hg1⟩
    | some n =>
      have E := Lib.hid (show intC c = (n, nextC 2 c) by simp only [intC, hb, hx])
      rw [numR, hx] at hn
      simp only [numV, Option.getD_some, Option.isSome_some] at hn
      have HN := Lib.hid hn; clear hn
      have HB := Lib.hid hb; clear hb hbl hx
      go_enter Try.func24, Try.ntmps24
      go_wp2_with (first
        | (go_at_call 39; refine (HT.out _ h).mono ?_; rintro e w1 ⟨rfl, hc, hg⟩)
        | (go_at_call 40; refine (HN.out _).mono ?_; rintro e w' ⟨rfl, q, rfl⟩))
      go_ret
      rw [E.out]
      exact ⟨rfl, hc.drewN q, g_drewN hg q⟩

theorem octets_any (g : Nat) (c : Option L) (w : World) (h : Cur w g c) (hs : ((c.getD []).length : Int) ≤ 100000) : Calls Try.prog 26 #[.pointer (some ⟨g, 0, none⟩)] w fun e w' =>
    (∃ b cap, e = .returned (.slice (some ⟨b, 0, none⟩) ((bodyC 4 c).getD []).length cap) ∧ ((bodyC 4 c).getD []).length ≤ cap ∧ Fresh w' w.heap.size b ((bodyC 4 c).getD [])) ∧ Cur w' g (nextC 4 c) ∧ w.grownBy w' (some g) := by
  have hcv := fun (W : World) => Lib.run_convert_string_bytes (P := Try.prog) W 9 22 5 ⟨((bodyC 4 c).getD []).toArray⟩ Try.underlying9 Try.underlying22 Try.underlying5
  go_enter Try.func26, Try.ntmps26
  go_wp2_with (go_at_call 39; refine (take_any 4 g c _ h hs).mono ?_; rintro e w1 ⟨rfl, hc, hg⟩)
  go_ret
  exact ⟨⟨_, _, rfl, grownCap_ge _ _ _ _, by have := bytes_fresh w1 5 ((bodyC 4 c).getD []); exact ⟨Nat.le_trans hg.size this.1, this.2⟩⟩, hc.below (bytes_below _ _ _), g_then hg (bytes_below _ _ _)⟩
theorem text_any (g : Nat) (c : Option L) (w : World) (h : Cur w g c) (hs : ((c.getD []).length : Int) ≤ 100000) : Calls Try.prog 28 #[.pointer (some ⟨g, 0, none⟩)] w fun e w' =>
    e = .returned (.string ⟨((bodyC 27 c).getD []).toArray⟩) ∧ Cur w' g (nextC 27 c) ∧ w.grownBy w' (some g) := by
  have hl : (ByteArray.mk ((bodyC 27 c).getD []).toArray).size ≤ 281474976710656 := by
    have := (body_len 27 c).1
    simp only [ByteArray.size, List.size_toArray]; omega
  have HL := Lib.hid hl; clear hl
  go_enter Try.func28, Try.ntmps28
  go_wp2_with (first
    | (go_at_call 39; refine (take_any 27 g c _ h hs).mono ?_; rintro e w1 ⟨rfl, hc, hg⟩)
    | (go_at_call 43; refine (clone_any _ _ HL.out).mono ?_; rintro e w2 ⟨rfl, hb⟩))
  go_ret
  exact ⟨rfl, hc.below hb, g_then hg hb⟩
theorem into_any (t : UInt8) (g : Nat) (c : Option L) (w : World) (h : Cur w g c) (hs : ((c.getD []).length : Int) ≤ 100000) : Calls Try.prog 30 #[.pointer (some ⟨g, 0, none⟩), .int .u8 t.toNat] w fun e w' =>
    (∃ g', e = .returned (.pointer (some ⟨g', 0, none⟩)) ∧ w.heap.size ≤ g' ∧ Cur w' g' (bodyC t c)) ∧ Cur w' g (nextC t c) ∧ w.grownBy w' (some g) := by
  go_enter Try.func30, Try.ntmps30
  go_wp2_with (go_at_call 39; refine (take_any t g c _ h hs).mono ?_; rintro e w1 ⟨rfl, hc, hg⟩)
  go_ret
  refine ⟨⟨_, rfl, hg.size, ?_⟩, hc.alloc _, g_alloc hg _⟩
  have := Blk.new w1 56 (curCells (bodyC t c))
  cases hb : bodyC t c <;> (rw [hb] at this; exact this)
theorem open_any (B : Nat) (A : Option Addr) (l : L) (n cap : Nat) (w : World) (h : Rd w B A (bvs l)) (hn : n = l.length) : Calls Try.prog 23 #[.slice A n cap] w fun e w' =>
    ∃ g', e = .returned (.pointer (some ⟨g', 0, none⟩)) ∧ w.heap.size ≤ g' ∧ Cur w' g' (some l) ∧ Below w.heap.size w w' := by
  have hcv := run_bytes_str (P := Try.prog) w 22 5 Try.underlying22 Try.underlying5 h n cap hn 9 Try.underlying9
  have HN := Lib.hid hn; clear hn
  go_enter Try.func23, Try.ntmps23
  go_wp2
  go_ret
  exact ⟨_, rfl, Nat.le_refl _, Blk.new w 56 (curCells (some l)), (Below.refl _ _).alloc (Nat.le_refl _) _⟩

end Go.Proofs.Ytkkpcnibghndgaa.DerC
