/-
  What the code's own taking functions of chapter 1 do: length, split, number, take and a Cursor's methods, each by its contract over the plain mathematics.
-/
import Derived.Test.YtkkpcnibghndgaaDerPlain
import Derived.Test.YtkkpcnibghndgaaMem
import Derived.Test.YtkkpcnibghndgaaShelf
import Derived.Test.YtkkpcnibghndgaaProg
namespace Go.Proofs.Ytkkpcnibghndgaa.DerC
open Go.RowKit Go.Proofs.Ytkkpcnibghndgaa.Mem Go.Proofs.Ytkkpcnibghndgaa.DerP
attribute [local go_sem] mk_at List.getElem_cons_zero List.getElem_cons_succ ext_tail ext_drop ext_mid

def Drawn (w w' : World) : Prop := ∃ n, w' = w.drewN n
theorem Drawn.refl (w : World) : Drawn w w := ⟨0, rfl⟩

/-- a Cursor's cells: 'none': it erred -/
def curCells : Option L → Array Value
  | none => #[.string ⟨([] : List UInt8).toArray⟩, .bool true]
  | some s => #[.string ⟨s.toArray⟩, .bool false]
def wholeC : Option L → Bool
  | some [] => true
  | _ => false
def Cur (w : World) (g : Nat) (c : Option L) : Prop := Blk w g 56 (curCells c)

set_option maxRecDepth 100000 in
set_option maxHeartbeats 400000 in
theorem len_any (s : L) (w : World) : Calls Try.prog 50 #[.string ⟨s.toArray⟩] w fun e w' =>
    e = .returned (.tuple #[.int .i64 ((lenR s).1 : Int), .int .i64 ((lenR s).2.1 : Int), .bool (lenR s).2.2]) ∧ Drawn w w' := by
  cases s with
  | nil =>
    go_enter Try.func50, Try.ntmps50
    go_wp2
    go_ret3
    exact ⟨rfl, Drawn.refl _⟩
  | cons a r =>
    by_cases h1 : a.toNat < 128
    · have g1 : decide ((a.toNat : Int) < 128) = true := by simp; omega
      have E : Hid (lenR (a :: r) = (a.toNat, 1, true)) := lenR_small h1
      have H := Lib.hid h1; clear h1
      have ha := u8_le a
      go_enter Try.func50, Try.ntmps50
      go_wp2
      go_ret3
      exact ⟨by rw [E.out]; rfl, Drawn.refl _⟩
    · have g1 : decide ((a.toNat : Int) < 128) = false := by simp; omega
      by_cases h2 : a.toNat = 129
      · have g2 : ((a.toNat : Int) == 129) = true := by simp; omega
        have g3 : ((a.toNat : Int) == 130) = false := by simp; omega
        have H1 := Lib.hid h1; clear h1
        have H2 := Lib.hid h2; clear h2
        cases r with
        | nil =>
          have E : Hid (lenR [a] = (0, 0, false)) := lenR_129_nil H2.out
          go_enter Try.func50, Try.ntmps50
          go_wp2
          go_ret3
          exact ⟨by rw [E.out]; rfl, Drawn.refl _⟩
        | cons b q =>
          have hb := u8_le b
          have E : Hid (lenR (a :: b :: q) = (b.toNat, 2, decide (128 ≤ b.toNat))) := lenR_129 H2.out
          have F : Hid (decide ((128 : Int) ≤ (b.toNat : Int)) = decide (128 ≤ b.toNat)) := by show _ = _; simp; omega
          go_enter Try.func50, Try.ntmps50
          go_wp2
          go_ret3
          exact ⟨by rw [E.out, ← F.out]; rfl, Drawn.refl _⟩
      · have g2 : ((a.toNat : Int) == 129) = false := by simp; omega
        by_cases h3 : a.toNat = 130
        · have g3 : ((a.toNat : Int) == 130) = true := by simp; omega
          have H1 := Lib.hid h1; clear h1
          have H2 := Lib.hid h2; clear h2
          have H3 := Lib.hid h3; clear h3
          rcases r with _ | ⟨b, _ | ⟨c, q⟩⟩
          · have E : Hid (lenR [a] = (0, 0, false)) := lenR_130_nil H3.out
            go_enter Try.func50, Try.ntmps50
            go_wp2
            go_ret3
            exact ⟨by rw [E.out]; rfl, Drawn.refl _⟩
          · have E : Hid (lenR [a, b] = (0, 0, false)) := lenR_130_one H3.out
            go_enter Try.func50, Try.ntmps50
            go_wp2
            go_ret3
            exact ⟨by rw [E.out]; rfl, Drawn.refl _⟩
          · have hb := u8_le b
            have hc := u8_le c
            have E : Hid (lenR (a :: b :: c :: q) = (b.toNat * 256 + c.toNat, 3, decide (255 < b.toNat * 256 + c.toNat))) := lenR_130 H3.out
            go_enter Try.func50, Try.ntmps50
            go_wp2
            go_quiet (fail)
            go_wp2
            go_ret3
            have F : (decide ((255 : Int) < (b.toNat : Int) * 256 + (c.toNat : Int))) = decide (255 < b.toNat * 256 + c.toNat) := by simp; omega
            have G := or_low b.toNat c.toNat (by omega) (by omega)
            exact ⟨by rw [E.out, ← F, ← G]; simp [G], ⟨_, rfl⟩⟩
        · have g3 : ((a.toNat : Int) == 130) = false := by simp; omega
          have E : Hid (lenR (a :: r) = (0, 0, false)) := lenR_else h1 h2 h3
          have H1 := Lib.hid h1; clear h1
          have H2 := Lib.hid h2; clear h2
          have H3 := Lib.hid h3; clear h3
          go_enter Try.func50, Try.ntmps50
          go_wp2
          go_ret3
          exact ⟨by rw [E.out]; rfl, Drawn.refl _⟩


set_option maxRecDepth 100000 in
set_option maxHeartbeats 400000 in
theorem good_nil (w : World) : Calls Try.prog 32 #[.pointer none] w fun e w' => e = .returned (.bool false) ∧ w = w' := by
  go_enter Try.func32, Try.ntmps32
  go_wp2
  go_ret
  exact ⟨rfl, rfl⟩
theorem cur_cells {w : World} {g : Nat} {c : Option L} (h : Cur w g c) : w.cell? ⟨g, 0, none⟩ = some (.string ⟨(c.getD []).toArray⟩) ∧ w.cell? ⟨g, 1, none⟩ = some (.bool (!c.isSome)) := by
  have h0 := h.cell 0
  have h1 := h.cell 1
  cases c <;> exact ⟨h0, h1⟩
theorem cur_frozen {w : World} {g : Nat} {c : Option L} (h : Cur w g c) : w.frozen? ⟨g, 0, none⟩ = false ∧ w.frozen? ⟨g, 1, none⟩ = false := ⟨h.frozen 0, h.frozen 1⟩
theorem good_any (g : Nat) (c : Option L) (w : World) (h : Cur w g c) : Calls Try.prog 32 #[.pointer (some ⟨g, 0, none⟩)] w fun e w' => e = .returned (.bool c.isSome) ∧ w = w' := by
  obtain ⟨_, h1⟩ := cur_cells h
  go_enter Try.func32, Try.ntmps32
  go_wp2
  go_ret
  exact ⟨by simp, rfl⟩
theorem whole_nil (w : World) : Calls Try.prog 33 #[.pointer none] w fun e w' => e = .returned (.bool false) ∧ w = w' := by
  go_enter Try.func33, Try.ntmps33
  go_wp2_with (go_at_call 32; refine (good_nil _).mono ?_; rintro e w' ⟨rfl, rfl⟩)
  go_ret
  exact ⟨rfl, rfl⟩
theorem whole_any (g : Nat) (c : Option L) (w : World) (h : Cur w g c) : Calls Try.prog 33 #[.pointer (some ⟨g, 0, none⟩)] w fun e w' => e = .returned (.bool (wholeC c)) ∧ w = w' := by
  obtain ⟨h0, _⟩ := cur_cells h
  cases c with
  | none =>
    go_enter Try.func33, Try.ntmps33
    go_wp2_with (go_at_call 32; refine (good_any _ _ _ h).mono ?_; rintro e w' ⟨rfl, rfl⟩)
    go_ret
    exact ⟨rfl, rfl⟩
  | some s =>
    go_enter Try.func33, Try.ntmps33
    go_wp2_with (go_at_call 32; refine (good_any _ _ _ h).mono ?_; rintro e w' ⟨rfl, rfl⟩)
    go_ret
    exact ⟨by cases s <;> rfl, rfl⟩
theorem left_nil (w : World) : Calls Try.prog 35 #[.pointer none] w fun e w' => e = .returned (.int .i64 0) ∧ w = w' := by
  go_enter Try.func35, Try.ntmps35
  go_wp2
  go_ret
  exact ⟨rfl, rfl⟩
theorem left_any (g : Nat) (c : Option L) (w : World) (h : Cur w g c) : Calls Try.prog 35 #[.pointer (some ⟨g, 0, none⟩)] w fun e w' => e = .returned (.int .i64 ((c.getD []).length : Int)) ∧ w = w' := by
  obtain ⟨h0, _⟩ := cur_cells h
  go_enter Try.func35, Try.ntmps35
  go_wp2
  go_ret
  exact ⟨rfl, rfl⟩
theorem fail_any (g : Nat) (c : Option L) (w : World) (h : Cur w g c) : Calls Try.prog 41 #[.pointer (some ⟨g, 0, none⟩)] w fun e w' => e = .returned (.tuple #[]) ∧ Cur w' g none ∧ w.grownBy w' (some g) := by
  obtain ⟨h0, h1⟩ := cur_cells h
  obtain ⟨f0, f1⟩ := cur_frozen h
  go_enter Try.func41, Try.ntmps41
  go_wp2
  go_end0
  exact ⟨rfl, by have := (h.set 0 (.string ⟨#[]⟩)).set 1 (.bool true); cases c <;> exact this, by repeat (first | exact World.grownBy.refl _ _ | refine g_set ?_ (.inl rfl) _)⟩

theorem split_nil (t : UInt8) (w : World) : Calls Try.prog 46 #[.string ⟨([] : List UInt8).toArray⟩, .int .u8 t.toNat] w fun e w' =>
    e = .returned (.tuple #[.string ⟨([] : List UInt8).toArray⟩, .string ⟨([] : List UInt8).toArray⟩, .bool false]) ∧ Drawn w w' := by
  go_enter Try.func46, Try.ntmps46
  go_wp2
  go_ret3
  exact ⟨rfl, Drawn.refl _⟩
theorem split_other (a t : UInt8) (r : L) (w : World) (hne : a ≠ t) : Calls Try.prog 46 #[.string ⟨(a :: r).toArray⟩, .int .u8 t.toNat] w fun e w' =>
    e = .returned (.tuple #[.string ⟨([] : List UInt8).toArray⟩, .string ⟨([] : List UInt8).toArray⟩, .bool false]) ∧ Drawn w w' := by
  have h1 : ((a.toNat : Int) == (t.toNat : Int)) = false := by simp; exact fun g => hne (UInt8.toNat_inj.1 (by omega))
  have h2 : ((a.toNat : Int) != (t.toNat : Int)) = true := by simp; exact fun g => hne (UInt8.toNat_inj.1 (by omega))
  have H := Lib.hid hne; clear hne
  go_enter Try.func46, Try.ntmps46
  go_wp2
  go_ret3
  exact ⟨rfl, Drawn.refl _⟩
theorem split_some (t : UInt8) (r : L) (w : World) (hs : (r.length : Int) ≤ 100000) (hk : (lenR r).2.2 = true) (hf : (lenR r).1 + (lenR r).2.1 ≤ r.length) : Calls Try.prog 46 #[.string ⟨(t :: r).toArray⟩, .int .u8 t.toNat] w fun e w' =>
    e = .returned (.tuple #[.string ⟨((r.drop (lenR r).2.1).take (lenR r).1).toArray⟩, .string ⟨((r.drop (lenR r).2.1).drop (lenR r).1).toArray⟩, .bool true]) ∧ Drawn w w' := by
  have hl := lenR_le r
  generalize hx : lenR r = x at *
  obtain ⟨n, k, ok⟩ := x
  simp only at hk hf hl ⊢
  have hf1 : ((r.length : Int) - (k : Int) < (n : Int)) = False := by simp; omega
  have hf2 : decide ((r.length : Int) - (k : Int) < (n : Int)) = false := by simp; omega
  have hf3 : (k : Int) + (n : Int) ≤ (r.length : Int) := by omega
  have hl1 : (n : Int) ≤ 65535 := by omega
  have hl2 : (k : Int) ≤ 3 := by omega
  have hc : ∀ W, Calls Try.prog 50 #[.string ⟨r.toArray⟩] W fun e w' => e = .returned (.tuple #[.int .i64 (n : Int), .int .i64 (k : Int), .bool true]) ∧ Drawn W w' := by
    intro W
    have := len_any r W
    rw [hx] at this
    subst hk
    exact this
  have HC := Lib.hid hc; clear hc
  have HX := Lib.hid hx; clear hx
  have HK := Lib.hid hk; clear hk
  clear hf hl
  go_enter Try.func46, Try.ntmps46
  go_wp2_with (go_at_call 50; refine (HC.out _).mono ?_; rintro e w' ⟨rfl, q, rfl⟩)
  go_quiet (fail)
  go_wp2
  go_ret3
  exact ⟨by rw [← ext_mid r k n, List.drop_drop]; rfl, ⟨_, World.drewN_drewN _ _ _⟩⟩
theorem split_bad (t : UInt8) (r : L) (w : World) (hk : (lenR r).2.2 = false) : Calls Try.prog 46 #[.string ⟨(t :: r).toArray⟩, .int .u8 t.toNat] w fun e w' =>
    e = .returned (.tuple #[.string ⟨([] : List UInt8).toArray⟩, .string ⟨([] : List UInt8).toArray⟩, .bool false]) ∧ Drawn w w' := by
  have hc : ∀ W, Calls Try.prog 50 #[.string ⟨r.toArray⟩] W fun e w' => e = .returned (.tuple #[.int .i64 ((lenR r).1 : Int), .int .i64 ((lenR r).2.1 : Int), .bool false]) ∧ Drawn W w' := by
    intro W
    have := len_any r W
    rw [hk] at this
    exact this
  have HC := Lib.hid hc; clear hc
  have HK := Lib.hid hk; clear hk
  go_enter Try.func46, Try.ntmps46
  go_wp2_with (go_at_call 50; refine (HC.out _).mono ?_; rintro e w' ⟨rfl, q, rfl⟩)
  go_ret3
  exact ⟨rfl, ⟨_, rfl⟩⟩
theorem split_short (t : UInt8) (r : L) (w : World) (hs : (r.length : Int) ≤ 100000) (hk : (lenR r).2.2 = true) (hf : ¬ (lenR r).1 + (lenR r).2.1 ≤ r.length) : Calls Try.prog 46 #[.string ⟨(t :: r).toArray⟩, .int .u8 t.toNat] w fun e w' =>
    e = .returned (.tuple #[.string ⟨([] : List UInt8).toArray⟩, .string ⟨([] : List UInt8).toArray⟩, .bool false]) ∧ Drawn w w' := by
  have hl := lenR_le r
  have hc : ∀ W, Calls Try.prog 50 #[.string ⟨r.toArray⟩] W fun e w' => e = .returned (.tuple #[.int .i64 ((lenR r).1 : Int), .int .i64 ((lenR r).2.1 : Int), .bool true]) ∧ Drawn W w' := by
    intro W
    have := len_any r W
    rw [hk] at this
    exact this
  have HC := Lib.hid hc; clear hc
  have HK := Lib.hid hk; clear hk
  generalize (lenR r).1 = n at *
  generalize (lenR r).2.1 = k at *
  have hf2 : decide ((r.length : Int) - (k : Int) < (n : Int)) = true := by simp; omega
  have hl1 : (n : Int) ≤ 65535 := by omega
  have hl2 : (k : Int) ≤ 3 := by omega
  clear hf hl
  go_enter Try.func46, Try.ntmps46
  go_wp2_with (go_at_call 50; refine (HC.out _).mono ?_; rintro e w' ⟨rfl, q, rfl⟩)
  go_ret3
  exact ⟨rfl, ⟨_, rfl⟩⟩
/-- what 'split' answers -/
def splitV (o : Option (L × L)) : Value := .tuple #[.string ⟨((o.map (·.1)).getD []).toArray⟩, .string ⟨((o.map (·.2)).getD []).toArray⟩, .bool o.isSome]
theorem split_any (t : UInt8) (s : L) (w : World) (hs : (s.length : Int) ≤ 100000) : Calls Try.prog 46 #[.string ⟨s.toArray⟩, .int .u8 t.toNat] w fun e w' =>
    e = .returned (splitV (splitL t s)) ∧ Drawn w w' := by
  cases s with
  | nil => exact split_nil t w
  | cons a r =>
    simp only [List.length_cons] at hs
    by_cases h1 : a = t
    · subst h1
      cases hk : (lenR r).2.2 with
      | false =>
        rw [show splitL a (a :: r) = none by simp [splitL, hk]]
        exact split_bad a r w hk
      | true =>
        by_cases hf : (lenR r).1 + (lenR r).2.1 ≤ r.length
        · rw [show splitL a (a :: r) = some ((r.drop (lenR r).2.1).take (lenR r).1, (r.drop (lenR r).2.1).drop (lenR r).1) by rw [splitL, if_pos ⟨rfl, hk, hf⟩]]
          exact split_some a r w (by omega) hk hf
        · rw [show splitL a (a :: r) = none by rw [splitL, if_neg (fun h => hf h.2.2)]]
          exact split_short a r w (by omega) hk hf
    · rw [show splitL t (a :: r) = none by rw [splitL, if_neg (fun h => h1 h.1)]]
      exact split_other a t r w h1

theorem take_nil (t : UInt8) (w : World) : Calls Try.prog 39 #[.pointer none, .int .u8 t.toNat] w fun e w' =>
    e = .returned (.tuple #[.string ⟨([] : List UInt8).toArray⟩, .bool false]) ∧ w = w' := by
  go_enter Try.func39, Try.ntmps39
  go_wp2_with (go_at_call 32; refine (good_nil _).mono ?_; rintro e w' ⟨rfl, rfl⟩)
  go_ret2
  exact ⟨rfl, rfl⟩
theorem take_any (t : UInt8) (g : Nat) (c : Option L) (w : World) (h : Cur w g c) (hs : ((c.getD []).length : Int) ≤ 100000) : Calls Try.prog 39 #[.pointer (some ⟨g, 0, none⟩), .int .u8 t.toNat] w fun e w' =>
    e = .returned (.tuple #[.string ⟨((bodyC t c).getD []).toArray⟩, .bool (bodyC t c).isSome]) ∧ Cur w' g (nextC t c) ∧ w.grownBy w' (some g) := by
  obtain ⟨h0, h1⟩ := cur_cells h
  obtain ⟨f0, f1⟩ := cur_frozen h
  cases c with
  | none =>
    go_enter Try.func39, Try.ntmps39
    go_wp2_with (go_at_call 32; refine (good_any _ _ _ h).mono ?_; rintro e w' ⟨rfl, rfl⟩)
    go_ret2
    exact ⟨rfl, h, World.grownBy.refl _ _⟩
  | some s =>
    have hc : ∀ W, Calls Try.prog 46 #[.string ⟨s.toArray⟩, .int .u8 t.toNat] W fun e w' => e = .returned (splitV (splitL t s)) ∧ Drawn W w' := fun W => split_any t s W hs
    cases hx : splitL t s with
    | none =>
      rw [hx] at hc
      simp only [splitV, Option.map_none, Option.getD_none, Option.isSome_none] at hc
      have HC := Lib.hid hc; clear hc
      have HX := Lib.hid hx; clear hx
      go_enter Try.func39, Try.ntmps39
      go_wp2_with (first
        | (go_at_call 32; refine (good_any _ _ _ h).mono ?_; rintro e w' ⟨rfl, rfl⟩)
        | (go_at_call 46; refine (HC.out _).mono ?_; rintro e w' ⟨rfl, q, rfl⟩)
        | (go_at_call 41; refine (fail_any _ _ _ (h.drewN q)).mono ?_; rintro e w' ⟨rfl, hc1, hg1⟩))
      go_ret2
      obtain ⟨e1, e2⟩ := body_none HX.out
      rw [e1, e2]
      exact ⟨rfl, hc1, (g_drewN (World.grownBy.refl w _) q).trans hg1⟩
    | some x =>
      obtain ⟨b, r⟩ := x
      rw [hx] at hc
      simp only [splitV, Option.map_some, Option.getD_some, Option.isSome_some] at hc
      have HC := Lib.hid hc; clear hc
      have HX := Lib.hid hx; clear hx
      go_enter Try.func39, Try.ntmps39
      go_wp2_with (first
        | (go_at_call 32; refine (good_any _ _ _ h).mono ?_; rintro e w' ⟨rfl, rfl⟩)
        | (go_at_call 46; refine (HC.out _).mono ?_; rintro e w' ⟨rfl, q, rfl⟩))
      go_ret2
      obtain ⟨e1, e2⟩ := body_some HX.out
      rw [e1, e2]
      exact ⟨rfl, (h.drewN q).set 0 (.string ⟨r.toArray⟩), g_set (g_drewN (World.grownBy.refl w _) q) (.inl rfl) _⟩

end Go.Proofs.Ytkkpcnibghndgaa.DerC
