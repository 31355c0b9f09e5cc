/-
  What every law of chapter 9 ends with: the last one.
-/
import Derived.Test.YtcjibpjdfhhhkaaRgAdd
set_option linter.unusedVariables false
set_option linter.unusedSimpArgs false
namespace Go.Proofs.Ytcjibpjdfhhhkaa.Rg
open Go.RowKit Go.Proofs.Ytcjibpjdfhhhkaa.Mem Go.Proofs.Ytcjibpjdfhhhkaa.Se

/-- a key of one byte -/
def kB (b : UInt8) (i : Nat) : UInt8 := if i = 0 then b else 0
theorem kB_lit (b : UInt8) : key32 (kB b) = #[.int .u8 (b.toNat : Int), .int .u8 0, .int .u8 0, .int .u8 0, .int .u8 0, .int .u8 0, .int .u8 0, .int .u8 0, .int .u8 0, .int .u8 0, .int .u8 0, .int .u8 0, .int .u8 0, .int .u8 0, .int .u8 0, .int .u8 0, .int .u8 0, .int .u8 0, .int .u8 0, .int .u8 0, .int .u8 0, .int .u8 0, .int .u8 0, .int .u8 0, .int .u8 0, .int .u8 0, .int .u8 0, .int .u8 0, .int .u8 0, .int .u8 0, .int .u8 0, .int .u8 0] := by kernel_rfl
abbrev p1 : Pr := ([65], [120])
theorem its_one (x : Ent) : its [x] = [x.it] := rfl
theorem its_two (x y : Ent) : its [x, y] = [x.it, y.it] := rfl
theorem last_none (p : Pr) : lastN (its []) p = 0 := rfl
theorem last_one (i : It) (p : Pr) (h : i.p = p) : lastN [i] p = i.n := by
  have := lastN_snoc [] i p
  rw [if_pos h] at this
  exact this
/-- all of one principal: numbers are places -/
theorem last_same {l : List It} {p : Pr} (h : Num l) (hp : ∀ (i : Nat) (x : It), l[i]? = some x → x.p = p) : lastN l p = l.length := by
  have key : ∀ i, i ≤ l.length → numO l (lastTo l p i) = i := by
    intro i
    induction i with
    | zero => intro _; rfl
    | succ i ih =>
      intro hi
      have hx : l[i]? = some l[i] := List.getElem?_eq_getElem (by omega)
      have hpp := hp i _ hx
      have hn := h i _ hx
      rw [hpp, ih (by omega)] at hn
      rw [lastTo, if_pos (by rw [hx, ← hpp]; rfl)]
      simp only [numO, hx, Option.map_some, Option.getD_some]
      exact hn
  exact key _ (Nat.le_refl _)
/-- what Add turns -/
abbrev AT (r : Nat) (v : Value) (q : Nat) : Prop := q = r ∨ v.ownBlock = some q
theorem at_ro {r : Nat} {v : Value} {es : List Ent} {q : Nat} (h : AT r v q) : RO r v es q := by
  rcases h with h | h
  · exact .inl h
  · exact .inr (.inl h)
theorem ring_below {a w w' : World} {B r : Nat} {v : Value} {es : List Ent} (h : Below B a w) (hB : B ≤ w.heap.size) (hr : Ring w B r v es) (hc : Chg (AT r v) w w') : Below B a w' :=
  h.trans (hc.below hB (fun i _ hx => hr.own_lo (at_ro hx)))
/-- a block that is none of the ring's stays, and is none of it behind -/
theorem blk_add {w w' : World} {r g : Nat} {v : Value} {es : List Ent} {t : TypeId} {cs : Array Value} (h : Blk w g t cs) (hn : ¬ RO r v es g) (hc : Chg (AT r v) w w') : Blk w' g t cs := hc.blk h (fun x => hn (at_ro x))
theorem not_add {w : World} {r g : Nat} {v v' : Value} {es es' : List Ent} (hg : g < w.heap.size) (hn : ¬ RO r v es g) (hw : ∀ q, RO r v' es' q → RO r v es q ∨ w.heap.size ≤ q) : ¬ RO r v' es' g := fun x => by
  rcases hw g x with h | h
  · exact hn h
  · omega
theorem add_first {B r : Nat} {w : World} (p : Pr) (k : Nat → UInt8) (h1 : p.1.length ≤ 1000000000) (h2 : p.2.length ≤ 1000000000) (hp : prB p = true) (h : Ring w B r (.slice none 0 0) []) (hB : B ≤ w.heap.size) :
    Calls Try.prog 9 #[.pointer (some ⟨r, 0, none⟩), prV p, .agg (key32 k)] w fun e w' => e = .returned (.tuple #[.int .i64 1, .int .i64 0]) ∧ ∃ v' b, w.heap.size ≤ b ∧ Ring w' B r v' [⟨⟨p, 1, k⟩, b, none, 0, 0, 0⟩] ∧ Chg (AT r (.slice none 0 0)) w w' ∧ (∀ q, RO r v' [⟨⟨p, 1, k⟩, b, none, 0, 0, 0⟩] q → RO r (.slice none 0 0) [] q ∨ w.heap.size ≤ q) :=
  add_ok B r (.slice none 0 0) [] p k w h hB h1 h2 hp (by decide) (by rw [last_none]; decide)
theorem add_second {B r : Nat} {w : World} {v : Value} (p : Pr) (k : Nat → UInt8) (x : Ent) (hx : x.it.p = p) (hn : x.it.n = 1) (h1 : p.1.length ≤ 1000000000) (h2 : p.2.length ≤ 1000000000) (hp : prB p = true) (h : Ring w B r v [x]) (hB : B ≤ w.heap.size) :
    Calls Try.prog 9 #[.pointer (some ⟨r, 0, none⟩), prV p, .agg (key32 k)] w fun e w' => e = .returned (.tuple #[.int .i64 2, .int .i64 0]) ∧ ∃ v' b, w.heap.size ≤ b ∧ Ring w' B r v' [x, ⟨⟨p, 2, k⟩, b, none, 0, 0, 0⟩] ∧ Chg (AT r v) w w' ∧ (∀ q, RO r v' [x, ⟨⟨p, 2, k⟩, b, none, 0, 0, 0⟩] q → RO r v [x] q ∨ w.heap.size ≤ q) := by
  have e : lastN (its [x]) p = 1 := by rw [its_one, last_one _ _ hx, hn]
  have := add_ok B r v [x] p k w h hB h1 h2 hp (by simp) (by rw [e]; decide)
  rw [e] at this
  exact this
theorem last_two (p : Pr) (x y : Ent) (hy : y.it.p = p) : lastI (its [x, y]) p = some 1 := by
  rw [its_two, lastI]
  show lastTo _ p 2 = _
  rw [lastTo, if_pos (by simp [hy])]
theorem nil_ro {r g : Nat} (h : RO r (.slice none 0 0) [] g) : g = r := by
  rcases h with h | h | ⟨i, e, he, _⟩
  · exact h
  · cases h
  · simp at he
set_option maxRecDepth 100000 in
set_option maxHeartbeats 3200000 in
theorem known_any (w : World) : Calls Try.prog 15 #[] w fun e w' => e = .returned (.bool true) ∧ Below w.heap.size w w' := by
  obtain ⟨B, eB⟩ : ∃ B, B = w.heap.size := ⟨_, rfl⟩
  have c1 := ring_new B w (Nat.le_of_eq eB)
  have C2 := Lib.hid (fun (w1 : World) (r : Nat) (h : Ring w1 B r (.slice none 0 0) []) (hB : B ≤ w1.heap.size) => add_first p1 (kB 1) (by decide) (by decide) (by decide) h hB)
  have C3 := Lib.hid (fun (w1 : World) (r b : Nat) (v : Value) (h : Ring w1 B r v [⟨⟨p1, 1, kB 1⟩, b, none, 0, 0, 0⟩]) (hB : B ≤ w1.heap.size) => add_second p1 (kB 2) ⟨⟨p1, 1, kB 1⟩, b, none, 0, 0, 0⟩ rfl rfl (by decide) (by decide) (by decide) h hB)
  have C4 := Lib.hid (fun (w1 : World) (r b b2 : Nat) (v : Value) (h : Ring w1 B r v [⟨⟨p1, 1, kB 1⟩, b, none, 0, 0, 0⟩, ⟨⟨p1, 2, kB 2⟩, b2, none, 0, 0, 0⟩]) => lastp_hit (p := p1) (i := 1) (x := ⟨⟨p1, 2, kB 2⟩, b2, none, 0, 0, 0⟩) h (by simp) (last_two _ _ _ rfl) rfl)
  have C5 := Lib.hid (fun (w1 : World) (r b b2 : Nat) (v : Value) (h : Ring w1 B r v [⟨⟨p1, 1, kB 1⟩, b, none, 0, 0, 0⟩, ⟨⟨p1, 2, kB 2⟩, b2, none, 0, 0, 0⟩]) => len_any B r v _ w1 h)
  simp only [kB_lit] at C2 C3
  have EB := Lib.hid eB
  have HB := Lib.hid (Below.refl B w)
  go_enter Try.func15, Try.ntmps15
  go_wp2_with (first
    | (go_at_call 8; refine Calls.mono c1 ?_; rintro e w1 ⟨r, rfl, hr, hrg, hb⟩; clear c1; rw [← eB] at hr hb; clear eB; replace HB := Lib.hid hb; have HR := Lib.hid hr; have hal := (Below.refl w1.heap.size w1).alloc (Nat.le_refl _) (.cells #[.string ⟨#[65]⟩, .string ⟨#[120]⟩] 25); have HRG := Lib.hid (hrg.below hal); have HP := Lib.hid (Blk.new w1 25 #[.string ⟨#[65]⟩, .string ⟨#[120]⟩]); have HNP := Lib.hid (show ¬ RO r (.slice none 0 0) [] w1.heap.size from fun x => by have := nil_ro x; have := hrg.lt; omega); replace HB := Lib.hid (HB.out.trans (hal.mono (Nat.le_trans (Nat.le_of_eq EB.out) HB.out.size))); have c2 := C2.out _ r HRG.out (Nat.le_trans (Nat.le_of_eq EB.out) HB.out.size); clear hb hrg hr hal)
    | (go_at_call 9; refine Calls.mono c2 ?_; rintro e w2 ⟨rfl, v2, b, hbl, hrg, hc, hnw⟩; clear c2; replace HB := Lib.hid (ring_below HB.out (Nat.le_trans (Nat.le_of_eq EB.out) HB.out.size) HRG.out hc); have HP2 := Lib.hid (blk_add HP.out HNP.out hc); have HNP2 := Lib.hid (not_add HP.out.lt HNP.out hnw); have HRG2 := Lib.hid hrg; have k0 : w2.cell? ⟨w1.heap.size, 0, none⟩ = some (.string ⟨#[65]⟩) := HP2.out.cell 0; have k1 : w2.cell? ⟨w1.heap.size, 1, none⟩ = some (.string ⟨#[120]⟩) := HP2.out.cell 1; have c3 := C3.out _ r b v2 HRG2.out (Nat.le_trans (Nat.le_of_eq EB.out) HB.out.size); clear hbl hrg hc hnw)
    | (go_at_call 9; refine Calls.mono c3 ?_; rintro e w3 ⟨rfl, v3, b3, hbl, hrg, hc, hnw⟩; clear c3 k0 k1; replace HB := Lib.hid (ring_below HB.out (Nat.le_trans (Nat.le_of_eq EB.out) HB.out.size) HRG2.out hc); have HP3 := Lib.hid (blk_add HP2.out HNP2.out hc); have HRG3 := Lib.hid hrg; have k0 : w3.cell? ⟨w1.heap.size, 0, none⟩ = some (.string ⟨#[65]⟩) := HP3.out.cell 0; have k1 : w3.cell? ⟨w1.heap.size, 1, none⟩ = some (.string ⟨#[120]⟩) := HP3.out.cell 1; have c4 := C4.out _ r b b3 v3 HRG3.out; clear hbl hrg hc hnw)
    | (go_at_call 12; refine Calls.mono c4 ?_; rintro e w4 ⟨rfl, hb⟩; clear c4; replace HB := Lib.hid (HB.out.trans (hb.mono (Nat.le_trans (Nat.le_of_eq EB.out) HB.out.size))); have HRG4 := Lib.hid (HRG3.out.below hb); have c5 := C5.out _ r b b3 v3 HRG4.out; clear hb)
    | (go_at_call 17; refine Calls.mono c5 ?_; rintro e w5 ⟨rfl, hw⟩; have hw := hw.symm; subst hw; clear c5)
    | fail)
  go_ret
  exact ⟨rfl, by rw [← EB.out]; exact HB.out⟩
end Go.Proofs.Ytcjibpjdfhhhkaa.Rg
