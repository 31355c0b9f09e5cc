/-
  The code's own of chapter 9: the Box that a number names.
-/
import Derived.Test.YtcjibpjdfhhhkaaRgLast
set_option linter.unusedVariables false
set_option linter.unusedSimpArgs false
namespace Go.Proofs.Ytcjibpjdfhhhkaa.Rg
open Go.RowKit Go.Proofs.Ytcjibpjdfhhhkaa.Mem Go.Proofs.Ytcjibpjdfhhhkaa.Se

/-- what Box answers: a pointer, an error -/
def BoxR (es : List Ent) (p : Pr) (z : Int) (q : Option Addr) (k : Int) : Prop :=
  (∃ i x, firstI (its es) p z = some i ∧ es[i]? = some x ∧ q = some ⟨x.b, 0, none⟩ ∧ k = 0) ∨ (firstI (its es) p z = none ∧ q = none ∧ k = 4)

set_option maxHeartbeats 1600000 in
theorem box_any (B r : Nat) (v : Value) (es : List Ent) (p : Pr) (z : Int) (w : World) (h : Ring w B r v es) (hl : es.length ≤ 1000) :
    Calls Try.prog 10 #[.pointer (some ⟨r, 0, none⟩), prV p, .int .i64 z] w fun e w' => ∃ q k, e = .returned (.tuple #[.pointer q, .int .i64 k]) ∧ BoxR es p z q k ∧ Below w.heap.size w w' := by
  obtain ⟨A, c, rfl, hc, hm, hr⟩ := h.num
  have hb0 := h.blk
  obtain ⟨n, en⟩ : ∃ n, n = es.length := ⟨_, rfl⟩
  rw [← en] at hb0 hc hl
  have k0 : w.cell? ⟨r, 0, none⟩ = some (.slice A n c) := hb0.cell 0
  have hrl := hb0.lt
  have HR := Lib.hid hr; clear hr
  have EN := Lib.hid en; clear en h hb0
  obtain ⟨W, eW⟩ : ∃ W, W = w.alloc (.cells #[.string ⟨p.1.toArray⟩, .string ⟨p.2.toArray⟩] 25) := ⟨_, rfl⟩
  have hb : Below w.heap.size w W := eW ▸ (Below.refl _ _).alloc (Nat.le_refl _) _
  have HP := Lib.hid (show Blk W w.heap.size 25 #[.string ⟨p.1.toArray⟩, .string ⟨p.2.toArray⟩] from eW ▸ Blk.new w _ _)
  have HB := Lib.hid hb
  replace k0 : W.cell? ⟨r, 0, none⟩ = some (.slice A n c) := (hb.cell (p := ⟨r, 0, none⟩) hrl).trans k0
  replace HR := Lib.hid ((HR.out.keep hb))
  clear hb
  go_enter Try.func10, Try.ntmps10
  go_upto_region 1 with fail
  rw [← eW]
  obtain ⟨N, eN⟩ : ∃ N, N = w.heap.size := ⟨_, rfl⟩
  rw [← eN] at HP HB HR hrl ⊢
  have EN2 := Lib.hid eN
  clear eW eN
  go_wp2
  go_loopw [17] (fun iv wr => ∃ i : Nat, i ≤ n ∧ iv = .int .i64 (i : Int) ∧ Below N w wr ∧ Blk wr N 25 #[.string ⟨p.1.toArray⟩, .string ⟨p.2.toArray⟩] ∧ RdR wr N A eC 36 es ∧ (∀ (j : Nat) (y : It), j < i → (its es)[j]? = some y → ¬ (y.p = p ∧ (y.n : Int) = z))) (fun iv _ => n - (intOf iv).toNat)
  case atStart => exact ⟨0, Nat.zero_le _, rfl, HB.out, HP.out, HR.out, fun j y hj => absurd hj (Nat.not_lt_zero _)⟩
  case round =>
    clear HB HP HR k0
    obtain ⟨i, hi, rfl, hb, hp, hr, hno⟩ := hrel
    have HB := Lib.hid hb; have HP := Lib.hid hp; have HNO := Lib.hid hno
    have HSZ := Lib.hid hp.lt
    by_cases hlt : i < n
    · have e1 : (i : Int) < (n : Int) := by omega
      have e2 : (0 : Int) ≤ (i : Int) := by omega
      obtain ⟨x, hx⟩ : ∃ x, es[i]? = some x := ⟨es[i]'(by rw [← EN.out]; exact hlt), List.getElem?_eq_getElem _⟩
      obtain ⟨g, rfl, hgN, hra⟩ := hr.at_ hx
      have HR := Lib.hid hr
      rw [← eA_toList] at hra
      have HRA := Lib.hid hra
      have ha1 := eA_one x
      have HA1 := Lib.hid ha1
      have his := ent_info
      rw [← eA_size x] at his
      have HIS := Lib.hid his
      have HX := Lib.hid hx
      obtain ⟨cs, ecs⟩ : ∃ cs, cs = eA x := ⟨_, rfl⟩
      rw [← ecs] at HRA HA1 HIS
      have ECS := Lib.hid ecs
      clear hra ha1 his hx hr hb hp ecs hno
      by_cases hq : x.it.p = p
      · have t1 := eql_pr_yes hq
        have HQ := Lib.hid hq; clear hq
        by_cases hz : (x.it.n : Int) = z
        · have t2 : ((x.it.n : Int) == z) = true := beq_iff_eq.2 hz
          have HZ := Lib.hid hz; clear hz
          go_wp2_with (first
            | (refine Wh.load_g (by rfl) 60 (.tmp 19) (by rfl) g _ (by rfl) cs _ HRA.out Try.underlying60 (by rfl) HIS.out ?_)
            | (refine Wh.store_new (by rfl) 60 (.tmp 9) (.tmp 20) (by rfl) 60 rfl cs (by rfl) (by rfl) (by rw [ECS.out, eA_size]; rfl) HIS.out HA1.out ?_; rintro V hV hb; replace HB := Lib.hid (HB.out.trans (hb.mono (by have := HSZ.out; omega))); replace HP := Lib.hid (HP.out.below hb); replace HR := Lib.hid (HR.out.keep (hb.mono (by have := HSZ.out; omega))); have kp0 : V.cell? ⟨N, 0, none⟩ = some (.string ⟨p.1.toArray⟩) := HP.out.cell 0; have kp1 : V.cell? ⟨N, 1, none⟩ = some (.string ⟨p.2.toArray⟩) := HP.out.cell 1; have HPR := Lib.hid (eA_pr (ECS.out ▸ hV)); have kn := eA_n (ECS.out ▸ hV); have kb := eA_b (ECS.out ▸ hV); clear hV hb)
            | (refine Wh.load_g (by rfl) 25 (.tmp 21) (by rfl) _ 0 (by rfl) _ _ HPR.out Try.underlying25 (by rfl) pr_info ?_)
            | fail)
          go_ret2
          exact ⟨_, _, rfl, .inl ⟨i, x, first_at (its_at HX.out) HQ.out HZ.out HNO.out, HX.out, rfl, rfl⟩, by rw [← EN2.out]; exact HB.out⟩
        · have t2 : ((x.it.n : Int) == z) = false := beq_eq_false_iff_ne.2 hz
          have HZ := Lib.hid hz; clear hz
          go_wp2_with (first
            | (refine Wh.load_g (by rfl) 60 (.tmp 19) (by rfl) g _ (by rfl) cs _ HRA.out Try.underlying60 (by rfl) HIS.out ?_)
            | (refine Wh.store_new (by rfl) 60 (.tmp 9) (.tmp 20) (by rfl) 60 rfl cs (by rfl) (by rfl) (by rw [ECS.out, eA_size]; rfl) HIS.out HA1.out ?_; rintro V hV hb; replace HB := Lib.hid (HB.out.trans (hb.mono (by have := HSZ.out; omega))); replace HP := Lib.hid (HP.out.below hb); replace HR := Lib.hid (HR.out.keep (hb.mono (by have := HSZ.out; omega))); have kp0 : V.cell? ⟨N, 0, none⟩ = some (.string ⟨p.1.toArray⟩) := HP.out.cell 0; have kp1 : V.cell? ⟨N, 1, none⟩ = some (.string ⟨p.2.toArray⟩) := HP.out.cell 1; have HPR := Lib.hid (eA_pr (ECS.out ▸ hV)); have kn := eA_n (ECS.out ▸ hV); have kb := eA_b (ECS.out ▸ hV); clear hV hb)
            | (refine Wh.load_g (by rfl) 25 (.tmp 21) (by rfl) _ 0 (by rfl) _ _ HPR.out Try.underlying25 (by rfl) pr_info ?_)
            | fail)
          go_roundw
          case rel => exact ⟨i + 1, by omega, by go_num, HB.out, HP.out, HR.out, fun j y hj hy => by
            by_cases g : j = i
            · subst g
              rw [its_at HX.out] at hy
              injection hy with hy
              subst hy
              exact fun hh => HZ.out hh.2
            · exact HNO.out j y (by omega) hy⟩
          case measure => simp [intOf]; omega
      · have t1 := eql_pr_no hq
        have HQ := Lib.hid hq; clear hq
        go_wp2_with (first
          | (refine Wh.load_g (by rfl) 60 (.tmp 19) (by rfl) g _ (by rfl) cs _ HRA.out Try.underlying60 (by rfl) HIS.out ?_)
          | (refine Wh.store_new (by rfl) 60 (.tmp 9) (.tmp 20) (by rfl) 60 rfl cs (by rfl) (by rfl) (by rw [ECS.out, eA_size]; rfl) HIS.out HA1.out ?_; rintro V hV hb; replace HB := Lib.hid (HB.out.trans (hb.mono (by have := HSZ.out; omega))); replace HP := Lib.hid (HP.out.below hb); replace HR := Lib.hid (HR.out.keep (hb.mono (by have := HSZ.out; omega))); have kp0 : V.cell? ⟨N, 0, none⟩ = some (.string ⟨p.1.toArray⟩) := HP.out.cell 0; have kp1 : V.cell? ⟨N, 1, none⟩ = some (.string ⟨p.2.toArray⟩) := HP.out.cell 1; have HPR := Lib.hid (eA_pr (ECS.out ▸ hV)); have kn := eA_n (ECS.out ▸ hV); have kb := eA_b (ECS.out ▸ hV); clear hV hb)
          | (refine Wh.load_g (by rfl) 25 (.tmp 21) (by rfl) _ 0 (by rfl) _ _ HPR.out Try.underlying25 (by rfl) pr_info ?_)
          | fail)
        go_roundw
        case rel => exact ⟨i + 1, by omega, by go_num, HB.out, HP.out, HR.out, fun j y hj hy => by
          by_cases g : j = i
          · subst g
            rw [its_at HX.out] at hy
            injection hy with hy
            subst hy
            exact fun hh => HQ.out hh.1
          · exact HNO.out j y (by omega) hy⟩
        case measure => simp [intOf]; omega
    · have e1 : ¬ (i : Int) < (n : Int) := by omega
      obtain rfl : n = i := by omega
      clear hr hb hp hi hno
      go_wp2
      go_ret2
      exact ⟨_, _, rfl, .inr ⟨first_none fun j y hy => HNO.out j y (by rw [EN.out, ← its_length]; exact (List.getElem?_eq_some_iff.1 hy).1) hy, rfl, rfl⟩, by rw [← EN2.out]; exact HB.out⟩
theorem box_hit {B r : Nat} {v : Value} {es : List Ent} {p : Pr} {z : Int} {w : World} {i : Nat} {x : Ent} (h : Ring w B r v es) (hl : es.length ≤ 1000) (hf : firstI (its es) p z = some i) (hx : es[i]? = some x) :
    Calls Try.prog 10 #[.pointer (some ⟨r, 0, none⟩), prV p, .int .i64 z] w fun e w' => e = .returned (.tuple #[.pointer (some ⟨x.b, 0, none⟩), .int .i64 0]) ∧ Below w.heap.size w w' := by
  refine (box_any B r v es p z w h hl).mono ?_
  rintro e w' ⟨q, k, rfl, hq, hb⟩
  rcases hq with ⟨j, y, h1, h2, rfl, rfl⟩ | ⟨h1, _⟩
  · rw [hf] at h1; injection h1 with h1; subst h1
    rw [hx] at h2; injection h2 with h2; subst h2
    exact ⟨rfl, hb⟩
  · rw [hf] at h1; cases h1
theorem box_miss {B r : Nat} {v : Value} {es : List Ent} {p : Pr} {z : Int} {w : World} (h : Ring w B r v es) (hl : es.length ≤ 1000) (hf : firstI (its es) p z = none) :
    Calls Try.prog 10 #[.pointer (some ⟨r, 0, none⟩), prV p, .int .i64 z] w fun e w' => e = .returned (.tuple #[.pointer none, .int .i64 4]) ∧ Below w.heap.size w w' := by
  refine (box_any B r v es p z w h hl).mono ?_
  rintro e w' ⟨q, k, rfl, hq, hb⟩
  rcases hq with ⟨j, y, h1, _⟩ | ⟨h1, rfl, rfl⟩
  · rw [hf] at h1; cases h1
  · exact ⟨rfl, hb⟩
theorem box_nil (p : Pr) (z : Int) (w : World) : Calls Try.prog 10 #[.pointer none, prV p, .int .i64 z] w fun e w' => e = .returned (.tuple #[.pointer none, .int .i64 4]) ∧ Below w.heap.size w w' := by
  have hb := (Below.refl w.heap.size w).alloc (Nat.le_refl _) (.cells #[.string ⟨p.1.toArray⟩, .string ⟨p.2.toArray⟩] 25)
  go_enter Try.func10, Try.ntmps10
  go_wp2
  go_ret2
  exact ⟨rfl, hb⟩
end Go.Proofs.Ytcjibpjdfhhhkaa.Rg
