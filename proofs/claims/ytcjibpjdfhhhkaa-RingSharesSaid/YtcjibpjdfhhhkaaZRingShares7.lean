import Derived.Deep.LoopGhost
import Derived.ProofKit
import Derived.OpenShut
import Derived.ShutString
import Derived.ChangeOld
import Derived.Deep.Matrix
import Derived.Deep.Slices
import Derived.Deep.RegionHeld3
import Derived.Test.YtcjibpjdfhhhkaaZRingShares1
import Derived.Test.YtcjibpjdfhhhkaaZRingShares2
import Derived.Test.YtcjibpjdfhhhkaaZRingShares3
import Derived.Test.YtcjibpjdfhhhkaaZRingShares4
import Derived.Test.YtcjibpjdfhhhkaaZRingShares5
import Derived.Test.YtcjibpjdfhhhkaaZRingShares6
section
set_option linter.unusedVariables false
set_option linter.unusedSimpArgs false
namespace Go.Proofs.Ytcjibpjdfhhhkaa.Rg
open Go.RowKit Go.Proofs.Ytcjibpjdfhhhkaa.Mem Go.Proofs.Ytcjibpjdfhhhkaa.Se

def BoxR (es : List Ent) (p : Pr) (z : Int) (q : Option Addr) (k : Int) : Prop :=
  (∃ i x, firstI (its es) p z = some i ∧ es[i]? = some x ∧ q = some ⟨x.b, 0, none⟩ ∧ k = 0) ∨ (firstI (its es) p z = none ∧ q = none ∧ k = 4)

set_option maxHeartbeats 1600000 in
theorem box_any (B r : Nat) (v : Value) (es : List Ent) (p : Pr) (z : Int) (w : World) (h : Ring w B r v es) (hl : es.length ≤ 1000) :
    Calls Try.prog 10 #[.pointer (some ⟨r, 0, none⟩), prV p, .int .i64 z] w fun e w' => ∃ q k, e = .returned (.tuple #[.pointer q, .int .i64 k]) ∧ BoxR es p z q k ∧ Below w.heap.size w w' := by
  obtain ⟨A, c, rfl, hc, hm, hr⟩ := h.num
  have hb0 := h.blk
  obtain ⟨n, en⟩ : ∃ n, n = es.length := ⟨_, rfl⟩
  rw [← en] at hb0 hc hl
  have k0 : w.cell? ⟨r, 0, none⟩ = some (.slice A n c) := hb0.cell 0
  have hrl := hb0.lt
  have HR := Lib.hid hr; clear hr
  have EN := Lib.hid en; clear en h hb0
  obtain ⟨W, eW⟩ : ∃ W, W = w.alloc (.cells #[.string ⟨p.1.toArray⟩, .string ⟨p.2.toArray⟩] 25) := ⟨_, rfl⟩
  have hb : Below w.heap.size w W := eW ▸ (Below.refl _ _).alloc (Nat.le_refl _) _
  have HP := Lib.hid (show Blk W w.heap.size 25 #[.string ⟨p.1.toArray⟩, .string ⟨p.2.toArray⟩] from eW ▸ Blk.new w _ _)
  have HB := Lib.hid hb
  replace k0 : W.cell? ⟨r, 0, none⟩ = some (.slice A n c) := (hb.cell (p := ⟨r, 0, none⟩) hrl).trans k0
  replace HR := Lib.hid ((HR.out.keep hb))
  clear hb
  go_enter Try.func10, Try.ntmps10
  go_upto_region 1 with fail
  rw [← eW]
  obtain ⟨N, eN⟩ : ∃ N, N = w.heap.size := ⟨_, rfl⟩
  rw [← eN] at HP HB HR hrl ⊢
  have EN2 := Lib.hid eN
  clear eW eN
  go_wp2
  go_loopw [17] (fun iv wr => ∃ i : Nat, i ≤ n ∧ iv = .int .i64 (i : Int) ∧ Below N w wr ∧ Blk wr N 25 #[.string ⟨p.1.toArray⟩, .string ⟨p.2.toArray⟩] ∧ RdR wr N A eC 36 es ∧ (∀ (j : Nat) (y : It), j < i → (its es)[j]? = some y → ¬ (y.p = p ∧ (y.n : Int) = z))) (fun iv _ => n - (intOf iv).toNat)
  case atStart => exact ⟨0, Nat.zero_le _, rfl, HB.out, HP.out, HR.out, fun j y hj => absurd hj (Nat.not_lt_zero _)⟩
  case round =>
    clear HB HP HR k0
    obtain ⟨i, hi, rfl, hb, hp, hr, hno⟩ := hrel
    have HB := Lib.hid hb; have HP := Lib.hid hp; have HNO := Lib.hid hno
    have HSZ := Lib.hid hp.lt
    by_cases hlt : i < n
    · have e1 : (i : Int) < (n : Int) := by omega
      have e2 : (0 : Int) ≤ (i : Int) := by omega
      obtain ⟨x, hx⟩ : ∃ x, es[i]? = some x := ⟨es[i]'(by rw [← EN.out]; exact hlt), List.getElem?_eq_getElem _⟩
      obtain ⟨g, rfl, hgN, hra⟩ := hr.at_ hx
      have HR := Lib.hid hr
      rw [← eA_toList] at hra
      have HRA := Lib.hid hra
      have ha1 := eA_one x
      have HA1 := Lib.hid ha1
      have his := ent_info
      rw [← eA_size x] at his
      have HIS := Lib.hid his
      have HX := Lib.hid hx
      obtain ⟨cs, ecs⟩ : ∃ cs, cs = eA x := ⟨_, rfl⟩
      rw [← ecs] at HRA HA1 HIS
      have ECS := Lib.hid ecs
      clear hra ha1 his hx hr hb hp ecs hno
      by_cases hq : x.it.p = p
      · have t1 := eql_pr_yes hq
        have HQ := Lib.hid hq; clear hq
        by_cases hz : (x.it.n : Int) = z
        · have t2 : ((x.it.n : Int) == z) = true := beq_iff_eq.2 hz
          have HZ := Lib.hid hz; clear hz
          go_wp2_with (first
            | (refine Wh.load_g (by rfl) 60 (.tmp 19) (by rfl) g _ (by rfl) cs _ HRA.out Try.underlying60 (by rfl) HIS.out ?_)
            | (refine Wh.store_new (by rfl) 60 (.tmp 9) (.tmp 20) (by rfl) 60 rfl cs (by rfl) (by rfl) (by rw [ECS.out, eA_size]; rfl) HIS.out HA1.out ?_; rintro V hV hb; replace HB := Lib.hid (HB.out.trans (hb.mono (by have := HSZ.out; omega))); replace HP := Lib.hid (HP.out.below hb); replace HR := Lib.hid (HR.out.keep (hb.mono (by have := HSZ.out; omega))); have kp0 : V.cell? ⟨N, 0, none⟩ = some (.string ⟨p.1.toArray⟩) := HP.out.cell 0; have kp1 : V.cell? ⟨N, 1, none⟩ = some (.string ⟨p.2.toArray⟩) := HP.out.cell 1; have HPR := Lib.hid (eA_pr (ECS.out ▸ hV)); have kn := eA_n (ECS.out ▸ hV); have kb := eA_b (ECS.out ▸ hV); clear hV hb)
            | (refine Wh.load_g (by rfl) 25 (.tmp 21) (by rfl) _ 0 (by rfl) _ _ HPR.out Try.underlying25 (by rfl) pr_info ?_)
            | fail)
          go_ret2
          exact ⟨_, _, rfl, .inl ⟨i, x, first_at (its_at HX.out) HQ.out HZ.out HNO.out, HX.out, rfl, rfl⟩, by rw [← EN2.out]; exact HB.out⟩
        · have t2 : ((x.it.n : Int) == z) = false := beq_eq_false_iff_ne.2 hz
          have HZ := Lib.hid hz; clear hz
          go_wp2_with (first
            | (refine Wh.load_g (by rfl) 60 (.tmp 19) (by rfl) g _ (by rfl) cs _ HRA.out Try.underlying60 (by rfl) HIS.out ?_)
            | (refine Wh.store_new (by rfl) 60 (.tmp 9) (.tmp 20) (by rfl) 60 rfl cs (by rfl) (by rfl) (by rw [ECS.out, eA_size]; rfl) HIS.out HA1.out ?_; rintro V hV hb; replace HB := Lib.hid (HB.out.trans (hb.mono (by have := HSZ.out; omega))); replace HP := Lib.hid (HP.out.below hb); replace HR := Lib.hid (HR.out.keep (hb.mono (by have := HSZ.out; omega))); have kp0 : V.cell? ⟨N, 0, none⟩ = some (.string ⟨p.1.toArray⟩) := HP.out.cell 0; have kp1 : V.cell? ⟨N, 1, none⟩ = some (.string ⟨p.2.toArray⟩) := HP.out.cell 1; have HPR := Lib.hid (eA_pr (ECS.out ▸ hV)); have kn := eA_n (ECS.out ▸ hV); have kb := eA_b (ECS.out ▸ hV); clear hV hb)
            | (refine Wh.load_g (by rfl) 25 (.tmp 21) (by rfl) _ 0 (by rfl) _ _ HPR.out Try.underlying25 (by rfl) pr_info ?_)
            | fail)
          go_roundw
          case rel => exact ⟨i + 1, by omega, by go_num, HB.out, HP.out, HR.out, fun j y hj hy => by
            by_cases g : j = i
            · subst g
              rw [its_at HX.out] at hy
              injection hy with hy
              subst hy
              exact fun hh => HZ.out hh.2
            · exact HNO.out j y (by omega) hy⟩
          case measure => simp [intOf]; omega
      · have t1 := eql_pr_no hq
        have HQ := Lib.hid hq; clear hq
        go_wp2_with (first
          | (refine Wh.load_g (by rfl) 60 (.tmp 19) (by rfl) g _ (by rfl) cs _ HRA.out Try.underlying60 (by rfl) HIS.out ?_)
          | (refine Wh.store_new (by rfl) 60 (.tmp 9) (.tmp 20) (by rfl) 60 rfl cs (by rfl) (by rfl) (by rw [ECS.out, eA_size]; rfl) HIS.out HA1.out ?_; rintro V hV hb; replace HB := Lib.hid (HB.out.trans (hb.mono (by have := HSZ.out; omega))); replace HP := Lib.hid (HP.out.below hb); replace HR := Lib.hid (HR.out.keep (hb.mono (by have := HSZ.out; omega))); have kp0 : V.cell? ⟨N, 0, none⟩ = some (.string ⟨p.1.toArray⟩) := HP.out.cell 0; have kp1 : V.cell? ⟨N, 1, none⟩ = some (.string ⟨p.2.toArray⟩) := HP.out.cell 1; have HPR := Lib.hid (eA_pr (ECS.out ▸ hV)); have kn := eA_n (ECS.out ▸ hV); have kb := eA_b (ECS.out ▸ hV); clear hV hb)
          | (refine Wh.load_g (by rfl) 25 (.tmp 21) (by rfl) _ 0 (by rfl) _ _ HPR.out Try.underlying25 (by rfl) pr_info ?_)
          | fail)
        go_roundw
        case rel => exact ⟨i + 1, by omega, by go_num, HB.out, HP.out, HR.out, fun j y hj hy => by
          by_cases g : j = i
          · subst g
            rw [its_at HX.out] at hy
            injection hy with hy
            subst hy
            exact fun hh => HQ.out hh.1
          · exact HNO.out j y (by omega) hy⟩
        case measure => simp [intOf]; omega
    · have e1 : ¬ (i : Int) < (n : Int) := by omega
      obtain rfl : n = i := by omega
      clear hr hb hp hi hno
      go_wp2
      go_ret2
      exact ⟨_, _, rfl, .inr ⟨first_none fun j y hy => HNO.out j y (by rw [EN.out, ← its_length]; exact (List.getElem?_eq_some_iff.1 hy).1) hy, rfl, rfl⟩, by rw [← EN2.out]; exact HB.out⟩
theorem box_hit {B r : Nat} {v : Value} {es : List Ent} {p : Pr} {z : Int} {w : World} {i : Nat} {x : Ent} (h : Ring w B r v es) (hl : es.length ≤ 1000) (hf : firstI (its es) p z = some i) (hx : es[i]? = some x) :
    Calls Try.prog 10 #[.pointer (some ⟨r, 0, none⟩), prV p, .int .i64 z] w fun e w' => e = .returned (.tuple #[.pointer (some ⟨x.b, 0, none⟩), .int .i64 0]) ∧ Below w.heap.size w w' := by
  refine (box_any B r v es p z w h hl).mono ?_
  rintro e w' ⟨q, k, rfl, hq, hb⟩
  rcases hq with ⟨j, y, h1, h2, rfl, rfl⟩ | ⟨h1, _⟩
  · rw [hf] at h1; injection h1 with h1; subst h1
    rw [hx] at h2; injection h2 with h2; subst h2
    exact ⟨rfl, hb⟩
  · rw [hf] at h1; cases h1
end Go.Proofs.Ytcjibpjdfhhhkaa.Rg
end

section
set_option linter.unusedVariables false
set_option linter.unusedSimpArgs false
namespace Go.Proofs.Ytcjibpjdfhhhkaa.Rg
open Go.RowKit Go.Proofs.Ytcjibpjdfhhhkaa.Mem Go.Proofs.Ytcjibpjdfhhhkaa.Se

theorem ring_new (B : Nat) (w : World) (hB : B ≤ w.heap.size) : Calls Try.prog 8 #[] w fun e w' => ∃ r, e = .returned (.pointer (some ⟨r, 0, none⟩)) ∧ w.heap.size ≤ r ∧ Ring w' B r (.slice none 0 0) [] ∧ Below w.heap.size w w' := by
  have hb := (Below.refl w.heap.size w).alloc (Nat.le_refl _) (.cells #[.slice none 0 0] 58)
  have hk := Blk.new w 58 #[.slice none 0 0]
  have HB := Lib.hid hb; clear hb
  have HK := Lib.hid hk; clear hk
  go_enter Try.func8, Try.ntmps8
  go_wp2
  go_ret
  exact ⟨_, rfl, Nat.le_refl _, ⟨HK.out, World.ownsRow_nil _ _ _ _, hB, by simp [Value.ownBlock], fun i e h => by simp at h, fun i e h => by simp at h, fun i j e f h => by simp at h⟩, HB.out⟩
theorem len_any (B r : Nat) (v : Value) (es : List Ent) (w : World) (h : Ring w B r v es) :
    Calls Try.prog 17 #[.pointer (some ⟨r, 0, none⟩)] w fun e w' => e = .returned (.int .i64 (es.length : Int)) ∧ w' = w := by
  obtain ⟨A, c, rfl, hc, hm, hr⟩ := h.num
  have k0 : w.cell? ⟨r, 0, none⟩ = some (.slice A es.length c) := h.blk.cell 0
  clear h hr
  obtain ⟨n, en⟩ : ∃ n, n = es.length := ⟨_, rfl⟩
  rw [← en] at k0 ⊢
  clear en hc
  go_enter Try.func17, Try.ntmps17
  go_wp2
  go_ret
  exact ⟨rfl, rfl⟩
set_option maxHeartbeats 1600000 in
theorem lastp_hit {B r : Nat} {v : Value} {es : List Ent} {p : Pr} {w : World} {i : Nat} {x : Ent} (h : Ring w B r v es) (hl : es.length ≤ 1000) (hf : lastI (its es) p = some i) (hx : es[i]? = some x) :
    Calls Try.prog 12 #[.pointer (some ⟨r, 0, none⟩), prV p] w fun e w' => e = .returned (.tuple #[.pointer (some ⟨x.b, 0, none⟩), .int .i64 (x.it.n : Int), .int .i64 0]) ∧ Below w.heap.size w w' := by
  have hb := (Below.refl w.heap.size w).alloc (Nat.le_refl _) (.cells #[.string ⟨p.1.toArray⟩, .string ⟨p.2.toArray⟩] 25)
  have c1 := last_any B r v es p _ (h.below hb) hl
  rw [hf, entC_at hx] at c1
  have HA1 := Lib.hid (eA_one x)
  have HSS := Lib.hid (eA_size x)
  have his := ent_info
  rw [← eA_size x] at his
  have HIS := Lib.hid his
  obtain ⟨cs, ecs⟩ : ∃ cs, cs = eA x := ⟨_, rfl⟩
  rw [← ecs] at c1 HA1 HIS HSS
  have ECS := Lib.hid ecs
  have HB := Lib.hid hb
  clear h hf hx hb his ecs
  go_enter Try.func12, Try.ntmps12
  go_wp2_with (first
    | (go_at_call 20; refine Calls.mono c1 ?_; rintro e w1 ⟨rfl, hb1⟩; replace HB := Lib.hid (HB.out.trans (hb1.mono HB.out.size)); clear c1 hb1)
    | (refine Wh.store_new (by rfl) 60 (.tmp 7) (.tmp 12) (by rfl) 60 rfl cs (by rfl) (by rfl) (by rw [HSS.out]; rfl) HIS.out HA1.out ?_; rintro V hV hb; replace HB := Lib.hid (HB.out.trans (hb.mono HB.out.size)); have kn := eA_n (ECS.out ▸ hV); have kb := eA_b (ECS.out ▸ hV); clear hV hb)
    | fail)
  go_quiet (fail)
  go_wp2
  go_ret3
  exact ⟨rfl, below_drewN HB.out _⟩
set_option maxHeartbeats 1600000 in
theorem clone_pr (p : Pr) (w : World) (h1 : p.1.length ≤ 1000000000) (h2 : p.2.length ≤ 1000000000) : Calls Try.prog 21 #[prV p] w fun e w' => e = .returned (prV p) ∧ Below w.heap.size w w' := by
  have C1 := Lib.hid (fun w1 => Nm.clone_any p.1 w1 h1)
  have C2 := Lib.hid (fun w1 => Nm.clone_any p.2 w1 h2)
  go_enter Try.func21, Try.ntmps21
  go_upto_region 1 with fail
  obtain ⟨W, eW⟩ : ∃ W, W = (w.alloc (.cells #[.string ⟨p.1.toArray⟩, .string ⟨p.2.toArray⟩] 25)).alloc (.cells #[.string ⟨#[]⟩, .string ⟨#[]⟩] 25) := ⟨_, rfl⟩
  have hq := Blk.new (w.alloc (.cells #[.string ⟨p.1.toArray⟩, .string ⟨p.2.toArray⟩] 25)) 25 #[.string ⟨#[]⟩, .string ⟨#[]⟩]
  rw [show (w.alloc (.cells #[.string ⟨p.1.toArray⟩, .string ⟨p.2.toArray⟩] 25)).heap.size = w.heap.size + 1 by simp, ← eW] at hq
  have HK := Lib.hid (show Blk W w.heap.size 25 #[.string ⟨p.1.toArray⟩, .string ⟨p.2.toArray⟩] by rw [eW]; exact (Blk.new _ _ _).alloc _)
  have HZ := Lib.hid hq
  have HB := Lib.hid (show Below w.heap.size w W by rw [eW]; exact ((Below.refl _ _).alloc (Nat.le_refl _) _).alloc (by simp) _)
  rw [← eW]
  clear eW hq
  replace HK := Lib.hid (show Blk W.drew _ _ _ from HK.out.drewN 1)
  replace HZ := Lib.hid (show Blk W.drew _ _ _ from HZ.out.drewN 1)
  replace HB := Lib.hid (show Below _ _ W.drew from below_drewN HB.out 1)
  go_region_held3 (fun w' => w'.cell? ⟨w.heap.size, 0, none⟩ = some (.string ⟨p.1.toArray⟩) ∧ w'.cell? ⟨w.heap.size, 1, none⟩ = some (.string ⟨p.2.toArray⟩)) (first | exact ⟨HK.out.cell 0, HK.out.cell 1⟩ | exact ⟨(Si.Blk.far (Si.Blk.far HK.out _ _ (by simp)) _ _ (by simp)).cell 0, (Si.Blk.far (Si.Blk.far HK.out _ _ (by simp)) _ _ (by simp)).cell 1⟩) ((first
    | (go_at_call 38; (with_reducible refine Calls.mono (C1.out _) ?_); rintro e w1 ⟨rfl, hb⟩; clear C1; replace HK := Lib.hid (HK.out.below hb); replace HZ := Lib.hid (HZ.out.below hb); replace HB := Lib.hid (HB.out.trans (hb.mono HB.out.size)); have kz0 : w1.cell? ⟨w.heap.size + 1, 0, none⟩ = some (.string ⟨#[]⟩) := HZ.out.cell 0; have kz1 : w1.cell? ⟨w.heap.size + 1, 1, none⟩ = some (.string ⟨#[]⟩) := HZ.out.cell 1; have fz := HZ.out.frozen; clear hb)
    | (go_at_call 38; (with_reducible refine Calls.mono (C2.out _) ?_); rintro e w2 ⟨rfl, hb⟩; clear C2 kz0 kz1 fz; replace HK := Lib.hid (HK.out.below hb); replace HZ := Lib.hid (HZ.out.below hb); replace HB := Lib.hid (HB.out.trans (hb.mono HB.out.size)); have kz0 : w2.cell? ⟨w.heap.size + 1, 0, none⟩ = some (.string ⟨#[]⟩) := HZ.out.cell 0; have kz1 : w2.cell? ⟨w.heap.size + 1, 1, none⟩ = some (.string ⟨#[]⟩) := HZ.out.cell 1; have fz := HZ.out.frozen; clear hb)))
  go_wp2
  have hz := (HZ.out.set 0 (.string ⟨p.1.toArray⟩)).set 1 (.string ⟨p.2.toArray⟩)
  rw [show (((#[.string ⟨#[]⟩, .string ⟨#[]⟩] : Array Value).setIfInBounds 0 (.string ⟨p.1.toArray⟩)).setIfInBounds 1 (.string ⟨p.2.toArray⟩)) = #[.string ⟨p.1.toArray⟩, .string ⟨p.2.toArray⟩] from rfl] at hz
  refine bodyPost_ret (v := prV p) ?_ ?_ ?_
  · exact Wh.results_cell (v := prV p) 2 25 ⟨w.heap.size + 1, 0, none⟩ Try.results21 (by rfl) (Wh.load_blk hz Try.underlying25 (by rfl) pr_info)
  · rfl
  · exact ⟨rfl, Si.below_set (Si.below_set HB.out (by simp) _) (by simp) _⟩
end Go.Proofs.Ytcjibpjdfhhhkaa.Rg
end

section
set_option linter.unusedVariables false
set_option linter.unusedSimpArgs false
namespace Go.Proofs.Ytcjibpjdfhhhkaa.Rg
open Go.RowKit Go.Proofs.Ytcjibpjdfhhhkaa.Mem Go.Proofs.Ytcjibpjdfhhhkaa.Se

def kC (k : Nat → UInt8) : List Value := (key32 k).toList
def OwnK (w : World) (base : Nat) (v : Value) (K : List (Nat → UInt8)) : Prop := w.ownsRow base 30 32 v K.length (K.flatMap kC)
theorem OwnK.below {w w' : World} {base : Nat} {v : Value} {K : List (Nat → UInt8)} (h : OwnK w base v K) (hb : Below w.heap.size w w') : OwnK w' base v K := own_kept h hb
end Go.Proofs.Ytcjibpjdfhhhkaa.Rg
end

section
set_option linter.unusedVariables false
namespace Go.Proofs.Ytcjibpjdfhhhkaa.Reg
open Go.RowKit Go.Proofs.Ytcjibpjdfhhhkaa.Mem

section
variable {P : Program} {ops : Array Oper} {Q : Exit → Act → World → Prop} {md : Region.Mode}
def Eff (P : Program) (md : Region.Mode) (ops : Array Oper) (Q : Exit → Act → World → Prop) (S : World → Prop) (fuel : Nat) (listed : Array Bool) (a : Act) (w : World) (i : Nat) : Prop :=
  ∃ (dst : Option Tmp) (op : Op) (ty : TypeId) (pos : String) (after : Array _) (guard : Option (Nat × Bool)) (v : Value) (w' : World), ops[i]? = some ⟨dst, op, ty, pos, after, guard⟩ ∧ Region.wanted ⟨dst, op, ty, pos, after, guard⟩ (yielded ops a.tmps) = true ∧ (execOp a.eval ⟨dst, op, ty, pos, after, guard⟩).run P w = .ok (.value v) w' ∧ S w' ∧ wpAnyH P md ops Q S fuel (listed.setIfInBounds i true) (a.put dst v) w'
end
end Go.Proofs.Ytcjibpjdfhhhkaa.Reg
end

section
set_option linter.unusedVariables false
namespace Go.Proofs.Ytcjibpjdfhhhkaa.Reg
open Go.RowKit Go.Proofs.Ytcjibpjdfhhhkaa.Mem

section
variable {P : Program} {ops : Array Oper} {Q : Exit → Act → World → Prop} {md : Region.Mode} {S : World → Prop}
theorem any_begin (S : World → Prop) (n : Nat) {id : Nat} {a : Act} {w : World} (hn : ops.size = n) (hm : P.follows .mixedOrders = true) (hS : S w.drew) (h : wpAnyH P .any ops Q S n (Array.replicate n false) a w.drew) : (Code.region id ops true).wp P Q a w := by
  subst hn
  exact wp_region_held_drew hm hS (fun _ => h)
theorem any_take (i : Nat) {dst : Option Tmp} {op : Op} {ty : TypeId} {pos : String} {after : Array _} {guard : Option (Nat × Bool)} {v : Value} {fuel : Nat} {listed : Array Bool} {a : Act} {w : World} (hi : ops[i]? = some ⟨dst, op, ty, pos, after, guard⟩)
    (hs : Region.noSelect ops = true) (hf : Region.free md ops listed i = true) (hr : (Region.ready md ops listed).contains i = true)
    (hQ : ∀ c a w, Q (.panic c) (a.put dst v) w → Q (.panic c) a w) (hS : S w)
    (hw : Region.wanted ⟨dst, op, ty, pos, after, guard⟩ (yielded ops a.tmps) = true) (hy : ∀ w', S w' → (execOp a.eval ⟨dst, op, ty, pos, after, guard⟩).run P w' = .ok (.value v) w')
    (h : wpAnyH P md ops Q S fuel (listed.setIfInBounds i true) (a.put dst v) w) : wpAnyH P md ops Q S (fuel + 1) listed a w :=
  wpAnyH_take hi hs hf hr hQ (.inl ⟨hw, hy⟩) hS h
theorem any_store (i : Nat) {dst : Option Tmp} {op : Op} {ty : TypeId} {pos : String} {after : Array _} {guard : Option (Nat × Bool)} {fuel : Nat} {listed : Array Bool} {a : Act} {w : World} (w' : World) (hi : ops[i]? = some ⟨dst, op, ty, pos, after, guard⟩)
    (hr : Region.ready md ops listed = [i]) (hw : Region.wanted ⟨dst, op, ty, pos, after, guard⟩ (yielded ops a.tmps) = true) (hx : (execOp a.eval ⟨dst, op, ty, pos, after, guard⟩).run P w = .ok .skip w') (hS : S w')
    (h : wpAnyH P md ops Q S fuel (listed.setIfInBounds i true) (a.put dst undef) w') : wpAnyH P md ops Q S (fuel + 1) listed a w := by
  refine wpAnyH_all hr (by simp) fun j hj => ?_
  obtain rfl : j = i := by simpa using hj
  unfold wpOp
  simp only [hi]
  rw [if_pos hw]
  left
  unfold Oper.wp
  rw [hx]
  exact ⟨hS, h⟩
end
end Go.Proofs.Ytcjibpjdfhhhkaa.Reg
end

section
set_option linter.unusedVariables false
namespace Go.Proofs.Ytcjibpjdfhhhkaa.Reg
open Go.RowKit Go.Proofs.Ytcjibpjdfhhhkaa.Mem

section
variable {P : Program} {ops : Array Oper} {Q : Exit → Act → World → Prop} {md : Region.Mode}
def Ent (P : Program) (md : Region.Mode) (ops : Array Oper) (Q : Exit → Act → World → Prop) (S : World → Prop) (fuel : Nat) (listed : Array Bool) (a : Act) (w : World) (i : Nat) : Prop :=
  ∃ (dst : Option Tmp) (op : Op) (ty : TypeId) (pos : String) (after : Array _) (guard : Option (Nat × Bool)) (f : FuncId) (args : Array Value), ops[i]? = some ⟨dst, op, ty, pos, after, guard⟩ ∧ Region.wanted ⟨dst, op, ty, pos, after, guard⟩ (yielded ops a.tmps) = true ∧ (execOp a.eval ⟨dst, op, ty, pos, after, guard⟩).run P w = .ok (.enter f args) w ∧
    Calls P f args w fun e w' => ∃ v, e = .returned v ∧ S w' ∧ wpAnyH P md ops Q S fuel (listed.setIfInBounds i true) (a.put dst v) w'
theorem both_all (is : List Nat) {S : World → Prop} {fuel : Nat} {listed : Array Bool} {a : Act} {w : World} (hr : Region.ready md ops listed = is) (hne : is ≠ []) (h : ∀ j ∈ is, Eff P md ops Q S fuel listed a w j ∨ Ent P md ops Q S fuel listed a w j) : wpAnyH P md ops Q S (fuel + 1) listed a w := by
  refine wpAnyH_all hr hne fun j hj => ?_
  rcases h j hj with ⟨dst, op, ty, pos, after, guard, v, w', hi, hw, hx, hs, hh⟩ | ⟨dst, op, ty, pos, after, guard, f, args, hi, hw, hx, hh⟩
  · unfold wpOp
    simp only [hi]
    rw [if_pos hw]
    left
    unfold Oper.wp
    rw [hx]
    exact ⟨hs, hh⟩
  · unfold wpOp
    simp only [hi]
    rw [if_pos hw]
    left
    unfold Oper.wp
    rw [hx]
    refine hh.mono ?_
    rintro e w' ⟨v, rfl, hs, hh⟩
    exact ⟨hs, hh⟩
end
end Go.Proofs.Ytcjibpjdfhhhkaa.Reg
end

section
set_option linter.unusedVariables false
set_option linter.unusedSimpArgs false
namespace Go.Proofs.Ytcjibpjdfhhhkaa.Rg
open Go.RowKit Go.Proofs.Ytcjibpjdfhhhkaa.Mem Go.Proofs.Ytcjibpjdfhhhkaa.Se

theorem isprinc (p : Pr) (w : World) (h1 : p.1.length ≤ 1000000000) (h2 : p.2.length ≤ 1000000000) : Calls Try.prog 19 #[prV p] w fun e w' => e = .returned (.bool (prB p)) ∧ Below w.heap.size w w' := Nm.isprinc_any p.1 p.2 w h1 h2
theorem entC_num (es : List Ent) (o : Option Nat) : (entC es o)[2]? = some (.int .i64 (numO (its es) o : Int)) := by
  cases o with
  | none => rfl
  | some j =>
    rw [entC_some]
    cases h : es[j]? with
    | none => simp [numO, its, h]; rfl
    | some e =>
      have : numO (its es) (some j) = e.it.n := by simp [numO, its, h]
      rw [this]; rfl
theorem field_num (cs : Array Value) (z : Int) (h : cs[2]? = some (.int .i64 z)) (w : World) : (Instr.field 60 (.agg cs) 1).run Try.prog w = .ok (.int .i64 z) w := by
  unfold Instr.field part asAgg
  go_simp
theorem chg_row {w w' : World} {row : Option Nat} (h : w.grownBy w' row) : Chg (fun q => row = some q) w w' := ⟨h.os, h.tape, h.output, h.size, fun i hi hn => h.block i hi (fun e => hn e.symm)⟩
theorem add_fin {w W5 w6 : World} {B r b : Nat} {v v6 : Value} {es : List Ent} {it : It} (h : Ring w B r v es) (hB : B ≤ w.heap.size) (hb : Below w.heap.size w W5) (h5 : Ring W5 B r v es) (hx : Box W5 b it.k none 0 0 0) (hbl : w.heap.size ≤ b)
    (ho : w6.ownsRow B 60 36 v6 (es ++ [(⟨it, b, none, 0, 0, 0⟩ : Ent)]).length ((es ++ [(⟨it, b, none, 0, 0, 0⟩ : Ent)]).flatMap eC)) (hg : W5.grownBy w6 v.ownBlock) (hv : v6.ownBlock = v.ownBlock ∨ v6.ownBlock = some W5.heap.size) (hbs : True) :
    Ring (w6.setCell ⟨r, 0, none⟩ v6) B r v6 (es ++ [⟨it, b, none, 0, 0, 0⟩]) ∧ Chg (fun q => q = r ∨ v.ownBlock = some q) w (w6.setCell ⟨r, 0, none⟩ v6) ∧ (∀ q, RO r v6 (es ++ [⟨it, b, none, 0, 0, 0⟩]) q → RO r v es q ∨ w.heap.size ≤ q) := by
  have hrl := h.lt
  have hlt := hx.lt
  have hne : r ≠ b := by omega
  have hvr : v6.ownBlock ≠ some r := fun x => by
    rcases hv with g | g
    · rw [g] at x; exact h.vr x
    · rw [g] at x; injection x with x; have := h5.lt; omega
  have hset : Chg (fun q => q = r) w6 (w6.setCell ⟨r, 0, none⟩ v6) := Chg.set (p := ⟨r, 0, none⟩) (Chg.refl (fun q => q = r) w6) (.inl rfl) v6
  have hc : Chg (fun q => q = r ∨ v.ownBlock = some q) w (w6.setCell ⟨r, 0, none⟩ v6) :=
    (((Chg.of_below hb).trans (chg_row hg) (fun q _ x => .inr x)).trans hset (fun q _ x => .inl x) : Chg (fun q => q = r ∨ v.ownBlock = some q) w _)
  have hnew : ∀ q, RO r v6 (es ++ [⟨it, b, none, 0, 0, 0⟩]) q → RO r v es q ∨ w.heap.size ≤ q := fun q hq => by
    rcases hq with hq | hq | ⟨i, e, he, hq⟩
    · exact .inl (.inl hq)
    · rcases hv with g | g
      · exact .inl (.inr (.inl (g ▸ hq)))
      · rw [g] at hq; injection hq with hq; exact .inr (by have := hb.size; omega)
    · by_cases hi : i < es.length
      · rw [List.getElem?_append_left hi] at he
        exact .inl (.inr (.inr ⟨i, e, he, hq⟩))
      · rw [List.getElem?_append_right (by omega)] at he
        have e1 := (List.getElem?_eq_some_iff.1 he).1
        have e2 : i - es.length = 0 := by simp at e1; omega
        rw [e2] at he
        injection he with he
        subst he
        rcases hq with hq | hq
        · exact .inr (by rw [hq]; exact hbl)
        · cases hq
  refine ⟨h.snoc hc ?_ ?_ ?_ ?_ hbl rfl hB, hc, hnew⟩
  · exact (h5.blk.grown hg h5.vr).set 0 v6
  · have := own_chg hset ho (fun q hq x => hvr (x ▸ hq))
    rw [List.length_append, List.length_singleton, List.flatMap_append, List.flatMap_singleton] at this
    exact this
  · rcases hv with g | g
    · exact .inl g
    · exact .inr ⟨_, g, hb.size, by show W5.heap.size ≠ b; omega⟩
  · have h6 : Box w6 b it.k none 0 0 0 := hx.chg (chg_row hg) (fun q hq x => by
      rcases hq with hq | hq
      · subst hq; have := (World.ownsRow.lt h.row q x).2; omega
      · cases hq)
    exact h6.chg hset (fun q hq x => by
      rcases hq with hq | hq
      · exact hne (x ▸ hq)
      · cases hq)
theorem ent_all : (Try.prog.info? 60).map (fun i => (i.zero, i.size, i.bytes)) = some (some (.agg zeroE), 36, 80) := by kernel_rfl
section
variable {P : Program} {w w' : World} {a : Act} {dst : Option Tmp} {ty : TypeId} {pos : String} {after : Array _} {guard : Option (Nat × Bool)}
theorem exec_build {t : TypeId} {parts : Array (Nat × Operand)} {vs : List (Nat × Value)} {cells : Array Value} (hv : (parts.map fun x => (x.1, a.eval x.2)).toList = vs) (h : P.built t vs = some cells) :
    (execOp a.eval ⟨dst, .build t parts, ty, pos, after, guard⟩).run P w = .ok (.value (.agg cells)) w := by
  have := run_build (P := P) w t (parts.map fun x => (x.1, a.eval x.2)) cells (by rw [hv]; exact h)
  simp only [execOp, Sem.run_bind, this, Result.andThen_ok, Sem.run_pure]
theorem exec_slice {t : TypeId} {x : Operand} {cs : Array Value} {s : Value} (hx : a.eval x = .agg cs) (h : (Instr.buildSlice t 1 #[(0, .agg cs)]).run P w = .ok s w') :
    (execOp a.eval ⟨dst, .buildSlice t 1 #[(0, x)], ty, pos, after, guard⟩).run P w = .ok (.value s) w' := by
  simp only [execOp, Sem.run_bind, List.map_toArray, List.map_cons, List.map_nil, hx, h, Result.andThen_ok, Sem.run_pure]
theorem exec_app {t : TypeId} {x y : Operand} {u v s : Value} (hx : a.eval x = u) (hy : a.eval y = v) (h : (Builtin.append_ #[t, t] ty #[u, v]).run P w = .ok s w') :
    (execOp a.eval ⟨dst, .call { callee := .builtin .append, args := #[x, y], argTypes := #[t, t] }, ty, pos, after, guard⟩).run P w = .ok (.value s) w' := by
  simp only [execOp, resolve, invoke, builtin, Sem.run_bind, Sem.run_pure, Result.andThen_ok, List.map_toArray, List.map_cons, List.map_nil, hx, hy, h]
end
theorem built_ent (p : Pr) (n b : Nat) (k : Nat → UInt8) : Try.prog.built 60 [(0, prV p), (1, .int .i64 (n : Int)), (2, .agg (key32 k)), (3, .pointer (some ⟨b, 0, none⟩))] = some (eA ⟨⟨p, n, k⟩, b, none, 0, 0, 0⟩) := by
  kernel_rfl
set_option maxRecDepth 100000 in
set_option maxHeartbeats 3200000 in
theorem add_ok (B r : Nat) (v : Value) (es : List Ent) (p : Pr) (k : Nat → UInt8) (w : World) (h : Ring w B r v es) (hB : B ≤ w.heap.size) (h1 : p.1.length ≤ 1000000000) (h2 : p.2.length ≤ 1000000000) (hp : prB p = true) (hl : es.length < 40) (hn : lastN (its es) p < 255) :
    Calls Try.prog 9 #[.pointer (some ⟨r, 0, none⟩), prV p, .agg (key32 k)] w fun e w' => e = .returned (.tuple #[.int .i64 ((lastN (its es) p : Int) + 1), .int .i64 0]) ∧ ∃ v' b, w.heap.size ≤ b ∧ Ring w' B r v' (es ++ [⟨⟨p, lastN (its es) p + 1, k⟩, b, none, 0, 0, 0⟩]) ∧ Chg (fun q => q = r ∨ v.ownBlock = some q) w w' ∧ (∀ q, RO r v' (es ++ [⟨⟨p, lastN (its es) p + 1, k⟩, b, none, 0, 0, 0⟩]) q → RO r v es q ∨ w.heap.size ≤ q) := by
  obtain ⟨A, c, rfl, hc, hm, hr⟩ := h.num
  obtain ⟨n, en⟩ : ∃ n, n = es.length := ⟨_, rfl⟩
  have EN := Lib.hid en
  obtain ⟨z, ez⟩ : ∃ z, z = lastN (its es) p := ⟨_, rfl⟩
  have EZ := Lib.hid ez
  have hq := entC_num es (lastI (its es) p)
  rw [show numO (its es) (lastI (its es) p) = z from ez.symm] at hq
  have CL := Lib.hid (fun (w1 : World) (h : Ring w1 B r (.slice A es.length c) es) => last_any B r (.slice A es.length c) es p w1 h (by omega))
  have CP := Lib.hid (fun w1 => isprinc p w1 h1 h2)
  have CC := Lib.hid (fun w1 => clone_pr p w1 h1 h2)
  have CN := Lib.hid (fun w1 => new_any k w1)
  rw [hp] at CP
  obtain ⟨kv, ekv⟩ : ∃ kv, kv = key32 k := ⟨_, rfl⟩
  obtain ⟨cs, ecs⟩ : ∃ cs, cs = entC es (lastI (its es) p) := ⟨_, rfl⟩
  rw [← ecs] at CL hq
  rw [← ekv] at CN ⊢
  rw [← ez] at hn ⊢
  rw [← en] at hl
  have hrl := h.lt
  obtain ⟨W, eW⟩ : ∃ W, W = (w.alloc (.cells #[.string ⟨p.1.toArray⟩, .string ⟨p.2.toArray⟩] 25)).alloc (.cells kv 30) := ⟨_, rfl⟩
  have hb : Below w.heap.size w W := eW ▸ ((Below.refl _ _).alloc (Nat.le_refl _) _).alloc (by simp) _
  have HP := Lib.hid (show Blk W w.heap.size 25 #[.string ⟨p.1.toArray⟩, .string ⟨p.2.toArray⟩] from eW ▸ (Blk.new w _ _).alloc _)
  have HK := Lib.hid (show Blk W (w.heap.size + 1) 30 kv by have := Blk.new (w.alloc (.cells #[.string ⟨p.1.toArray⟩, .string ⟨p.2.toArray⟩] 25)) 30 kv; simp only [World.size_alloc] at this; exact eW ▸ this)
  have HB := Lib.hid hb
  have HRG := Lib.hid (h.below hb)
  have HW := Lib.hid h
  have kp0 : W.cell? ⟨w.heap.size, 0, none⟩ = some (.string ⟨p.1.toArray⟩) := HP.out.cell 0
  have kp1 : W.cell? ⟨w.heap.size, 1, none⟩ = some (.string ⟨p.2.toArray⟩) := HP.out.cell 1
  have hfl := field_num cs _ hq
  have hwr : IntKind.i64.wrap ((z : Int) + 1) = (z : Int) + 1 := by rw [IntKind.wrap_i64]; omega
  have EK := Lib.hid ekv
  have HKI := Lib.hid (show (Try.prog.info? 30).map (·.size) = some kv.size by rw [ekv]; exact info32 k)
  obtain ⟨i0, hi0, hz0, hs0, hb0⟩ := info_parts ent_all
  have KI1 := Lib.hid hi0; have KI2 := Lib.hid hz0; have KI3 := Lib.hid hs0; have KI4 := Lib.hid hb0
  have SL1 := Lib.hid (fun (w1 : World) (b : Nat) => Wh.run_build_one (P := Try.prog) w1 56 60 (eA ⟨⟨p, z + 1, k⟩, b, none, 0, 0, 0⟩) i0 _ Try.underlying56 hi0 hz0 (by rw [hs0, eA_size]) (by rw [eA_size]; omega) (by rw [eA_size]; omega))
  have HBB := Lib.hid hB
  clear hi0 hz0 hs0 hb0 hB
  have HN := Lib.hid hn
  have t1 : decide (40 ≤ (n : Int)) = false := by simp; omega
  have t2 : decide (255 ≤ (z : Int)) = false := by simp; omega
  have HL := Lib.hid hl
  clear hb h hr h1 h2 hp hn hl ekv ecs ez en hc hm hq
  go_enter Try.func9, Try.ntmps9
  go_upto_region 1 with fail
  rw [← eW]
  clear eW
  go_wp2_with (first
    | (go_at_call 19; refine Calls.mono (CP.out _) ?_; rintro e w1 ⟨rfl, hb⟩; replace HB := Lib.hid (HB.out.trans (hb.mono HB.out.size)); replace HRG := Lib.hid (HRG.out.below hb); replace HP := Lib.hid (HP.out.below hb); replace HK := Lib.hid (HK.out.below hb); have kp0 : w1.cell? ⟨w.heap.size, 0, none⟩ = some (.string ⟨p.1.toArray⟩) := HP.out.cell 0; have kp1 : w1.cell? ⟨w.heap.size, 1, none⟩ = some (.string ⟨p.2.toArray⟩) := HP.out.cell 1; have kr : w1.cell? ⟨r, 0, none⟩ = some (.slice A n c) := EN.out ▸ HRG.out.blk.cell 0; clear hb)
    | (go_at_call 20; refine Calls.mono (CL.out _ HRG.out) ?_; rintro e w2 ⟨rfl, hb⟩; clear kp0 kp1 kr; replace HB := Lib.hid (HB.out.trans (hb.mono HB.out.size)); replace HRG := Lib.hid (HRG.out.below hb); replace HP := Lib.hid (HP.out.below hb); replace HK := Lib.hid (HK.out.below hb); have kp0 : w2.cell? ⟨w.heap.size, 0, none⟩ = some (.string ⟨p.1.toArray⟩) := HP.out.cell 0; have kp1 : w2.cell? ⟨w.heap.size, 1, none⟩ = some (.string ⟨p.2.toArray⟩) := HP.out.cell 1; have kr : w2.cell? ⟨r, 0, none⟩ = some (.slice A n c) := EN.out ▸ HRG.out.blk.cell 0; clear hb)
    | fail)
  replace HP := Lib.hid (show Blk w2.drew _ _ _ from HP.out.drewN 1)
  replace HK := Lib.hid (show Blk w2.drew _ _ _ from HK.out.drewN 1)
  replace HRG := Lib.hid HRG.out.drew
  replace HB := Lib.hid (show Below w.heap.size w w2.drew from below_drewN HB.out 1)
  clear kp0 kp1 kr
  refine Reg.any_begin (fun w' => Blk w' w.heap.size 25 #[.string ⟨p.1.toArray⟩, .string ⟨p.2.toArray⟩] ∧ Blk w' (w.heap.size + 1) 30 kv) 18 rfl (by kernel_rfl) ⟨HP.out, HK.out⟩ ?_
  obtain ⟨W2, eW2⟩ : ∃ W2, W2 = w2.drew := ⟨_, rfl⟩
  rw [← eW2] at HP HK HRG HB ⊢
  clear eW2
  refine Reg.any_take 0 (v := ?vu10) rfl (by kernel_rfl) (by kernel_rfl) (by kernel_rfl) (fun _ _ _ h => h) ⟨HP.out, HK.out⟩ (by rfl) (fun w' hS => ?hu10) ?ru10
  case hu10 => go_simp; rfl
  simp only [Act.put, List.setIfInBounds_toArray, List.set_cons_zero, List.set_cons_succ]
  refine Reg.any_take 1 (v := ?vu21) rfl (by kernel_rfl) (by kernel_rfl) (by kernel_rfl) (fun _ _ _ h => h) ⟨HP.out, HK.out⟩ (by rfl) (fun w' hS => ?hu21) ?ru21
  case hu21 => go_simp; rfl
  simp only [Act.put, List.setIfInBounds_toArray, List.set_cons_zero, List.set_cons_succ]
  refine Reg.any_take 2 (v := ?vu32) rfl (by kernel_rfl) (by kernel_rfl) (by kernel_rfl) (fun _ _ _ h => h) ⟨HP.out, HK.out⟩ (by rfl) (fun w' hS => ?hu32) ?ru32
  case hu32 => go_simp; rfl
  simp only [Act.put, List.setIfInBounds_toArray, List.set_cons_zero, List.set_cons_succ]
  refine Reg.any_take 3 (v := ?vu43) rfl (by kernel_rfl) (by kernel_rfl) (by kernel_rfl) (fun _ _ _ h => h) ⟨HP.out, HK.out⟩ (by rfl) (fun w' hS => ?hu43) ?ru43
  case hu43 => go_simp; rfl
  simp only [Act.put, List.setIfInBounds_toArray, List.set_cons_zero, List.set_cons_succ]
  refine Reg.any_take 5 (v := .agg #[.string ⟨p.1.toArray⟩, .string ⟨p.2.toArray⟩]) rfl (by kernel_rfl) (by kernel_rfl) (by kernel_rfl) (fun _ _ _ h => h) ⟨HP.out, HK.out⟩ (by rfl) (fun w' hS => ?hu55) ?ru55
  case hu55 => exact Wh.exec_load (.tmp 4) rfl rfl hS.1 Try.underlying25 rfl pr_info
  simp only [Act.put, List.setIfInBounds_toArray, List.set_cons_zero, List.set_cons_succ]
  refine Reg.any_take 7 (v := ?vu67) rfl (by kernel_rfl) (by kernel_rfl) (by kernel_rfl) (fun _ _ _ h => h) ⟨HP.out, HK.out⟩ (by rfl) (fun w' hS => ?hu67) ?ru67
  case hu67 => go_simp; rfl
  simp only [Act.put, List.setIfInBounds_toArray, List.set_cons_zero, List.set_cons_succ]
  refine Reg.any_take 8 (v := .int .i64 ((z : Int) + 1)) rfl (by kernel_rfl) (by kernel_rfl) (by kernel_rfl) (fun _ _ _ h => h) ⟨HP.out, HK.out⟩ (by rfl) (fun w' hS => ?hu78) ?ru78
  case hu78 => go_simp
  simp only [Act.put, List.setIfInBounds_toArray, List.set_cons_zero, List.set_cons_succ]
  refine Reg.any_take 9 (v := .agg kv) rfl (by kernel_rfl) (by kernel_rfl) (by kernel_rfl) (fun _ _ _ h => h) ⟨HP.out, HK.out⟩ (by rfl) (fun w' hS => ?hu89) ?ru89
  case hu89 => exact Wh.exec_load (.tmp 5) rfl rfl hS.2 Try.underlying30 rfl HKI.out
  simp only [Act.put, List.setIfInBounds_toArray, List.set_cons_zero, List.set_cons_succ]
  refine Reg.any_take 10 (v := .agg kv) rfl (by kernel_rfl) (by kernel_rfl) (by kernel_rfl) (fun _ _ _ h => h) ⟨HP.out, HK.out⟩ (by rfl) (fun w' hS => ?hu910) ?ru910
  case hu910 => exact Wh.exec_load (.tmp 5) rfl rfl hS.2 Try.underlying30 rfl HKI.out
  simp only [Act.put, List.setIfInBounds_toArray, List.set_cons_zero, List.set_cons_succ]
  refine Reg.both_all [4, 6] (by kernel_rfl) (by simp) ?_
  intro j0 hj0
  have hj0 : j0 = 4 ∨ j0 = 6 := by simpa using hj0
  rcases hj0 with rfl | rfl
  · left
    have kr : W2.cell? ⟨r, 0, none⟩ = some (.slice A n c) := EN.out ▸ HRG.out.blk.cell 0
    refine ⟨_, _, _, _, _, _, _, _, rfl, by rfl, by (go_simp; rfl), ⟨HP.out, HK.out⟩, ?_⟩
    simp only [Act.put, List.setIfInBounds_toArray, List.set_cons_zero, List.set_cons_succ]
    clear kr
    refine Reg.both_all [6] (by kernel_rfl) (by simp) ?_
    intro j0 hj0
    obtain rfl : j0 = 6 := by simpa using hj0
    clear hj0
    right
    refine ⟨_, _, _, _, _, _, 21, #[prV p], rfl, by rfl, by go_simp, ?_⟩
    refine (CC.out _).mono ?_
    rintro e w3 ⟨rfl, hb⟩
    replace HB := Lib.hid (HB.out.trans (hb.mono HB.out.size)); replace HRG := Lib.hid (HRG.out.below hb); replace HP := Lib.hid (HP.out.below hb); replace HK := Lib.hid (HK.out.below hb)
    clear hb
    refine ⟨_, rfl, ⟨HP.out, HK.out⟩, ?_⟩
    simp only [Act.put, List.setIfInBounds_toArray, List.set_cons_zero, List.set_cons_succ]
    refine Reg.both_all [11] (by kernel_rfl) (by simp) ?_
    intro j0 hj0
    obtain rfl : j0 = 11 := by simpa using hj0
    clear hj0
    right
    refine ⟨_, _, _, _, _, _, 22, #[.agg kv], rfl, by rfl, by go_simp, ?_⟩
    refine (CN.out _).mono ?_
    rintro e w4 ⟨b, rfl, hbl, hbx, hb⟩
    have HBL := Lib.hid (Nat.le_trans HB.out.size hbl)
    replace HB := Lib.hid (HB.out.trans (hb.mono HB.out.size)); replace HRG := Lib.hid (HRG.out.below hb); replace HP := Lib.hid (HP.out.below hb); replace HK := Lib.hid (HK.out.below hb)
    have HBX := Lib.hid hbx
    clear hb hbl hbx
    refine ⟨_, rfl, ⟨HP.out, HK.out⟩, ?_⟩
    simp only [Act.put, List.setIfInBounds_toArray, List.set_cons_zero, List.set_cons_succ]
    refine Reg.any_take 12 (v := .agg (eA ⟨⟨p, z + 1, k⟩, b, none, 0, 0, 0⟩)) rfl (by kernel_rfl) (by kernel_rfl) (by kernel_rfl) (fun _ _ _ h => h) ⟨HP.out, HK.out⟩ (by rfl) (fun w' hS => ?hu1012) ?ru1012
    case hu1012 => exact exec_build (by go_simp) (EK.out ▸ built_ent p (z + 1) b k)
    simp only [Act.put, List.setIfInBounds_toArray, List.set_cons_zero, List.set_cons_succ]
    refine Reg.both_all [13] (by kernel_rfl) (by simp) ?_
    intro j0 hj0
    obtain rfl : j0 = 13 := by simpa using hj0
    clear hj0
    left
    have hb : Below w4.heap.size w4 (w4.alloc (.cells (eA ⟨⟨p, z + 1, k⟩, b, none, 0, 0, 0⟩) 60)) := (Below.refl _ _).alloc (Nat.le_refl _) _
    refine ⟨_, _, _, _, _, _, .slice (some ⟨w4.heap.size, 0, none⟩) 1 1, (w4.alloc (.cells (eA ⟨⟨p, z + 1, k⟩, b, none, 0, 0, 0⟩) 60)), rfl, by rfl, exec_slice rfl (SL1.out _ _), ⟨HP.out.below hb, HK.out.below hb⟩, ?_⟩
    simp only [Act.put, List.setIfInBounds_toArray, List.set_cons_zero, List.set_cons_succ]
    have HNB := Lib.hid (Blk.new w4 60 (eA ⟨⟨p, z + 1, k⟩, b, none, 0, 0, 0⟩))
    have HBX5 := Lib.hid (HBX.out.below hb)
    have HBL5 := Lib.hid HBX.out.lt
    replace HB := Lib.hid (HB.out.trans (hb.mono HB.out.size)); replace HRG := Lib.hid (HRG.out.below hb); replace HP := Lib.hid (HP.out.below hb); replace HK := Lib.hid (HK.out.below hb)
    clear hb
    obtain ⟨W5, eW5⟩ : ∃ W5, W5 = (w4.alloc (.cells (eA ⟨⟨p, z + 1, k⟩, b, none, 0, 0, 0⟩) 60)) := ⟨_, rfl⟩
    have HS5 := Lib.hid (show w4.heap.size < W5.heap.size by rw [eW5]; simp)
    rw [← eW5] at HNB HBX5 HB HRG HP HK ⊢
    clear eW5
    refine Reg.both_all [14] (by kernel_rfl) (by simp) ?_
    intro j0 hj0
    obtain rfl : j0 = 14 := by simpa using hj0
    clear hj0
    left
    obtain ⟨v6, w6, hrun, ho6, hg6, hv6⟩ := Wh.app_run (P := Try.prog) eC 36 80 eC_length eC_one W5 56 56 60 i0 _ Try.underlying56 KI1.out KI2.out KI3.out KI4.out (by rfl) (by omega) B _ es HRG.out.row ⟨⟨p, z + 1, k⟩, b, none, 0, 0, 0⟩ w4.heap.size HNB.out (by have := EN.out; have := HL.out; omega) (by omega) (Nat.le_trans HBB.out HB.out.size)
    rw [← EN.out] at hrun
    replace HP := Lib.hid (HP.out.grown hg6 (fun x => by have := (World.ownsRow.lt HW.out.row _ x).2; omega))
    replace HK := Lib.hid (HK.out.grown hg6 (fun x => by have := (World.ownsRow.lt HW.out.row _ x).2; omega))
    refine ⟨_, _, _, _, _, _, v6, w6, rfl, by rfl, exec_app rfl rfl hrun, ⟨HP.out, HK.out⟩, ?_⟩
    simp only [Act.put, List.setIfInBounds_toArray, List.set_cons_zero, List.set_cons_succ]
    refine Reg.any_take 15 (v := ?vu1115) rfl (by kernel_rfl) (by kernel_rfl) (by kernel_rfl) (fun _ _ _ h => h) ⟨HP.out, HK.out⟩ (by rfl) (fun w' hS => ?hu1115) ?ru1115
    case hu1115 => go_simp; rfl
    simp only [Act.put, List.setIfInBounds_toArray, List.set_cons_zero, List.set_cons_succ]
    refine Reg.any_take 16 (v := ?vu1216) rfl (by kernel_rfl) (by kernel_rfl) (by kernel_rfl) (fun _ _ _ h => h) ⟨HP.out, HK.out⟩ (by rfl) (fun w' hS => ?hu1216) ?ru1216
    case hu1216 => go_simp; rfl
    simp only [Act.put, List.setIfInBounds_toArray, List.set_cons_zero, List.set_cons_succ]
    have hfin := fun (x : True) => add_fin HW.out HBB.out HB.out HRG.out (it := ⟨p, z + 1, k⟩) HBX5.out HBL.out ho6 hg6 hv6 x
    have hr6 := HRG.out.blk.grown hg6 HRG.out.vr
    obtain ⟨A7, c7, e7, _⟩ := own_rdr eC_length ho6
    obtain ⟨m7, em7⟩ : ∃ m7, m7 = (es ++ [(⟨⟨p, z + 1, k⟩, b, none, 0, 0, 0⟩ : Ent)]).length := ⟨_, rfl⟩
    rw [← em7] at e7
    subst e7
    have f0 := hr6.frozen 0
    have k6 : w6.cell? ⟨r, 0, none⟩ = some _ := hr6.cell 0
    refine Reg.any_store 17 (w6.setCell ⟨r, 0, none⟩ (.slice A7 m7 c7)) rfl (by kernel_rfl) (by rfl) (by go_simp) ⟨Si.Blk.far HP.out _ _ (by simp; have := HW.out.lt; omega), Si.Blk.far HK.out _ _ (by simp; have := HW.out.lt; omega)⟩ ?_
    simp only [Act.put, List.setIfInBounds_toArray, List.set_cons_zero, List.set_cons_succ]
    refine wpAnyH_done (by kernel_rfl) ?_ _
    clear f0 k6 hr6 ho6 hg6 hv6 hrun em7
    have HFIN := Lib.hid (hfin trivial)
    clear hfin
    go_wp2
    go_ret2
    exact ⟨rfl, _, b, HBL.out, HFIN.out.1, HFIN.out.2.1, HFIN.out.2.2⟩
  · right
    refine ⟨_, _, _, _, _, _, 21, #[prV p], rfl, by rfl, by go_simp, ?_⟩
    refine (CC.out _).mono ?_
    rintro e w3 ⟨rfl, hb⟩
    replace HB := Lib.hid (HB.out.trans (hb.mono HB.out.size)); replace HRG := Lib.hid (HRG.out.below hb); replace HP := Lib.hid (HP.out.below hb); replace HK := Lib.hid (HK.out.below hb)
    clear hb
    refine ⟨_, rfl, ⟨HP.out, HK.out⟩, ?_⟩
    simp only [Act.put, List.setIfInBounds_toArray, List.set_cons_zero, List.set_cons_succ]
    refine Reg.both_all [4, 11] (by kernel_rfl) (by simp) ?_
    intro j0 hj0
    have hj0 : j0 = 4 ∨ j0 = 11 := by simpa using hj0
    rcases hj0 with rfl | rfl
    · left
      have kr : w3.cell? ⟨r, 0, none⟩ = some (.slice A n c) := EN.out ▸ HRG.out.blk.cell 0
      refine ⟨_, _, _, _, _, _, _, _, rfl, by rfl, by (go_simp; rfl), ⟨HP.out, HK.out⟩, ?_⟩
      simp only [Act.put, List.setIfInBounds_toArray, List.set_cons_zero, List.set_cons_succ]
      clear kr
      refine Reg.both_all [11] (by kernel_rfl) (by simp) ?_
      intro j0 hj0
      obtain rfl : j0 = 11 := by simpa using hj0
      clear hj0
      right
      refine ⟨_, _, _, _, _, _, 22, #[.agg kv], rfl, by rfl, by go_simp, ?_⟩
      refine (CN.out _).mono ?_
      rintro e w4 ⟨b, rfl, hbl, hbx, hb⟩
      have HBL := Lib.hid (Nat.le_trans HB.out.size hbl)
      replace HB := Lib.hid (HB.out.trans (hb.mono HB.out.size)); replace HRG := Lib.hid (HRG.out.below hb); replace HP := Lib.hid (HP.out.below hb); replace HK := Lib.hid (HK.out.below hb)
      have HBX := Lib.hid hbx
      clear hb hbl hbx
      refine ⟨_, rfl, ⟨HP.out, HK.out⟩, ?_⟩
      simp only [Act.put, List.setIfInBounds_toArray, List.set_cons_zero, List.set_cons_succ]
      refine Reg.any_take 12 (v := .agg (eA ⟨⟨p, z + 1, k⟩, b, none, 0, 0, 0⟩)) rfl (by kernel_rfl) (by kernel_rfl) (by kernel_rfl) (fun _ _ _ h => h) ⟨HP.out, HK.out⟩ (by rfl) (fun w' hS => ?hu1312) ?ru1312
      case hu1312 => exact exec_build (by go_simp) (EK.out ▸ built_ent p (z + 1) b k)
      simp only [Act.put, List.setIfInBounds_toArray, List.set_cons_zero, List.set_cons_succ]
      refine Reg.both_all [13] (by kernel_rfl) (by simp) ?_
      intro j0 hj0
      obtain rfl : j0 = 13 := by simpa using hj0
      clear hj0
      left
      have hb : Below w4.heap.size w4 (w4.alloc (.cells (eA ⟨⟨p, z + 1, k⟩, b, none, 0, 0, 0⟩) 60)) := (Below.refl _ _).alloc (Nat.le_refl _) _
      refine ⟨_, _, _, _, _, _, .slice (some ⟨w4.heap.size, 0, none⟩) 1 1, (w4.alloc (.cells (eA ⟨⟨p, z + 1, k⟩, b, none, 0, 0, 0⟩) 60)), rfl, by rfl, exec_slice rfl (SL1.out _ _), ⟨HP.out.below hb, HK.out.below hb⟩, ?_⟩
      simp only [Act.put, List.setIfInBounds_toArray, List.set_cons_zero, List.set_cons_succ]
      have HNB := Lib.hid (Blk.new w4 60 (eA ⟨⟨p, z + 1, k⟩, b, none, 0, 0, 0⟩))
      have HBX5 := Lib.hid (HBX.out.below hb)
      have HBL5 := Lib.hid HBX.out.lt
      replace HB := Lib.hid (HB.out.trans (hb.mono HB.out.size)); replace HRG := Lib.hid (HRG.out.below hb); replace HP := Lib.hid (HP.out.below hb); replace HK := Lib.hid (HK.out.below hb)
      clear hb
      obtain ⟨W5, eW5⟩ : ∃ W5, W5 = (w4.alloc (.cells (eA ⟨⟨p, z + 1, k⟩, b, none, 0, 0, 0⟩) 60)) := ⟨_, rfl⟩
      have HS5 := Lib.hid (show w4.heap.size < W5.heap.size by rw [eW5]; simp)
      rw [← eW5] at HNB HBX5 HB HRG HP HK ⊢
      clear eW5
      refine Reg.both_all [14] (by kernel_rfl) (by simp) ?_
      intro j0 hj0
      obtain rfl : j0 = 14 := by simpa using hj0
      clear hj0
      left
      obtain ⟨v6, w6, hrun, ho6, hg6, hv6⟩ := Wh.app_run (P := Try.prog) eC 36 80 eC_length eC_one W5 56 56 60 i0 _ Try.underlying56 KI1.out KI2.out KI3.out KI4.out (by rfl) (by omega) B _ es HRG.out.row ⟨⟨p, z + 1, k⟩, b, none, 0, 0, 0⟩ w4.heap.size HNB.out (by have := EN.out; have := HL.out; omega) (by omega) (Nat.le_trans HBB.out HB.out.size)
      rw [← EN.out] at hrun
      replace HP := Lib.hid (HP.out.grown hg6 (fun x => by have := (World.ownsRow.lt HW.out.row _ x).2; omega))
      replace HK := Lib.hid (HK.out.grown hg6 (fun x => by have := (World.ownsRow.lt HW.out.row _ x).2; omega))
      refine ⟨_, _, _, _, _, _, v6, w6, rfl, by rfl, exec_app rfl rfl hrun, ⟨HP.out, HK.out⟩, ?_⟩
      simp only [Act.put, List.setIfInBounds_toArray, List.set_cons_zero, List.set_cons_succ]
      refine Reg.any_take 15 (v := ?vu1415) rfl (by kernel_rfl) (by kernel_rfl) (by kernel_rfl) (fun _ _ _ h => h) ⟨HP.out, HK.out⟩ (by rfl) (fun w' hS => ?hu1415) ?ru1415
      case hu1415 => go_simp; rfl
      simp only [Act.put, List.setIfInBounds_toArray, List.set_cons_zero, List.set_cons_succ]
      refine Reg.any_take 16 (v := ?vu1516) rfl (by kernel_rfl) (by kernel_rfl) (by kernel_rfl) (fun _ _ _ h => h) ⟨HP.out, HK.out⟩ (by rfl) (fun w' hS => ?hu1516) ?ru1516
      case hu1516 => go_simp; rfl
      simp only [Act.put, List.setIfInBounds_toArray, List.set_cons_zero, List.set_cons_succ]
      have hfin := fun (x : True) => add_fin HW.out HBB.out HB.out HRG.out (it := ⟨p, z + 1, k⟩) HBX5.out HBL.out ho6 hg6 hv6 x
      have hr6 := HRG.out.blk.grown hg6 HRG.out.vr
      obtain ⟨A7, c7, e7, _⟩ := own_rdr eC_length ho6
      obtain ⟨m7, em7⟩ : ∃ m7, m7 = (es ++ [(⟨⟨p, z + 1, k⟩, b, none, 0, 0, 0⟩ : Ent)]).length := ⟨_, rfl⟩
      rw [← em7] at e7
      subst e7
      have f0 := hr6.frozen 0
      have k6 : w6.cell? ⟨r, 0, none⟩ = some _ := hr6.cell 0
      refine Reg.any_store 17 (w6.setCell ⟨r, 0, none⟩ (.slice A7 m7 c7)) rfl (by kernel_rfl) (by rfl) (by go_simp) ⟨Si.Blk.far HP.out _ _ (by simp; have := HW.out.lt; omega), Si.Blk.far HK.out _ _ (by simp; have := HW.out.lt; omega)⟩ ?_
      simp only [Act.put, List.setIfInBounds_toArray, List.set_cons_zero, List.set_cons_succ]
      refine wpAnyH_done (by kernel_rfl) ?_ _
      clear f0 k6 hr6 ho6 hg6 hv6 hrun em7
      have HFIN := Lib.hid (hfin trivial)
      clear hfin
      go_wp2
      go_ret2
      exact ⟨rfl, _, b, HBL.out, HFIN.out.1, HFIN.out.2.1, HFIN.out.2.2⟩
    · right
      refine ⟨_, _, _, _, _, _, 22, #[.agg kv], rfl, by rfl, by go_simp, ?_⟩
      refine (CN.out _).mono ?_
      rintro e w4 ⟨b, rfl, hbl, hbx, hb⟩
      have HBL := Lib.hid (Nat.le_trans HB.out.size hbl)
      replace HB := Lib.hid (HB.out.trans (hb.mono HB.out.size)); replace HRG := Lib.hid (HRG.out.below hb); replace HP := Lib.hid (HP.out.below hb); replace HK := Lib.hid (HK.out.below hb)
      have HBX := Lib.hid hbx
      clear hb hbl hbx
      refine ⟨_, rfl, ⟨HP.out, HK.out⟩, ?_⟩
      simp only [Act.put, List.setIfInBounds_toArray, List.set_cons_zero, List.set_cons_succ]
      refine Reg.any_take 12 (v := .agg (eA ⟨⟨p, z + 1, k⟩, b, none, 0, 0, 0⟩)) rfl (by kernel_rfl) (by kernel_rfl) (by kernel_rfl) (fun _ _ _ h => h) ⟨HP.out, HK.out⟩ (by rfl) (fun w' hS => ?hu1612) ?ru1612
      case hu1612 => exact exec_build (by go_simp) (EK.out ▸ built_ent p (z + 1) b k)
      simp only [Act.put, List.setIfInBounds_toArray, List.set_cons_zero, List.set_cons_succ]
      refine Reg.both_all [4, 13] (by kernel_rfl) (by simp) ?_
      intro j0 hj0
      have hj0 : j0 = 4 ∨ j0 = 13 := by simpa using hj0
      rcases hj0 with rfl | rfl
      · left
        have kr : w4.cell? ⟨r, 0, none⟩ = some (.slice A n c) := EN.out ▸ HRG.out.blk.cell 0
        refine ⟨_, _, _, _, _, _, _, _, rfl, by rfl, by (go_simp; rfl), ⟨HP.out, HK.out⟩, ?_⟩
        simp only [Act.put, List.setIfInBounds_toArray, List.set_cons_zero, List.set_cons_succ]
        clear kr
        refine Reg.both_all [13] (by kernel_rfl) (by simp) ?_
        intro j0 hj0
        obtain rfl : j0 = 13 := by simpa using hj0
        clear hj0
        left
        have hb : Below w4.heap.size w4 (w4.alloc (.cells (eA ⟨⟨p, z + 1, k⟩, b, none, 0, 0, 0⟩) 60)) := (Below.refl _ _).alloc (Nat.le_refl _) _
        refine ⟨_, _, _, _, _, _, .slice (some ⟨w4.heap.size, 0, none⟩) 1 1, (w4.alloc (.cells (eA ⟨⟨p, z + 1, k⟩, b, none, 0, 0, 0⟩) 60)), rfl, by rfl, exec_slice rfl (SL1.out _ _), ⟨HP.out.below hb, HK.out.below hb⟩, ?_⟩
        simp only [Act.put, List.setIfInBounds_toArray, List.set_cons_zero, List.set_cons_succ]
        have HNB := Lib.hid (Blk.new w4 60 (eA ⟨⟨p, z + 1, k⟩, b, none, 0, 0, 0⟩))
        have HBX5 := Lib.hid (HBX.out.below hb)
        have HBL5 := Lib.hid HBX.out.lt
        replace HB := Lib.hid (HB.out.trans (hb.mono HB.out.size)); replace HRG := Lib.hid (HRG.out.below hb); replace HP := Lib.hid (HP.out.below hb); replace HK := Lib.hid (HK.out.below hb)
        clear hb
        obtain ⟨W5, eW5⟩ : ∃ W5, W5 = (w4.alloc (.cells (eA ⟨⟨p, z + 1, k⟩, b, none, 0, 0, 0⟩) 60)) := ⟨_, rfl⟩
        have HS5 := Lib.hid (show w4.heap.size < W5.heap.size by rw [eW5]; simp)
        rw [← eW5] at HNB HBX5 HB HRG HP HK ⊢
        clear eW5
        refine Reg.both_all [14] (by kernel_rfl) (by simp) ?_
        intro j0 hj0
        obtain rfl : j0 = 14 := by simpa using hj0
        clear hj0
        left
        obtain ⟨v6, w6, hrun, ho6, hg6, hv6⟩ := Wh.app_run (P := Try.prog) eC 36 80 eC_length eC_one W5 56 56 60 i0 _ Try.underlying56 KI1.out KI2.out KI3.out KI4.out (by rfl) (by omega) B _ es HRG.out.row ⟨⟨p, z + 1, k⟩, b, none, 0, 0, 0⟩ w4.heap.size HNB.out (by have := EN.out; have := HL.out; omega) (by omega) (Nat.le_trans HBB.out HB.out.size)
        rw [← EN.out] at hrun
        replace HP := Lib.hid (HP.out.grown hg6 (fun x => by have := (World.ownsRow.lt HW.out.row _ x).2; omega))
        replace HK := Lib.hid (HK.out.grown hg6 (fun x => by have := (World.ownsRow.lt HW.out.row _ x).2; omega))
        refine ⟨_, _, _, _, _, _, v6, w6, rfl, by rfl, exec_app rfl rfl hrun, ⟨HP.out, HK.out⟩, ?_⟩
        simp only [Act.put, List.setIfInBounds_toArray, List.set_cons_zero, List.set_cons_succ]
        refine Reg.any_take 15 (v := ?vu1715) rfl (by kernel_rfl) (by kernel_rfl) (by kernel_rfl) (fun _ _ _ h => h) ⟨HP.out, HK.out⟩ (by rfl) (fun w' hS => ?hu1715) ?ru1715
        case hu1715 => go_simp; rfl
        simp only [Act.put, List.setIfInBounds_toArray, List.set_cons_zero, List.set_cons_succ]
        refine Reg.any_take 16 (v := ?vu1816) rfl (by kernel_rfl) (by kernel_rfl) (by kernel_rfl) (fun _ _ _ h => h) ⟨HP.out, HK.out⟩ (by rfl) (fun w' hS => ?hu1816) ?ru1816
        case hu1816 => go_simp; rfl
        simp only [Act.put, List.setIfInBounds_toArray, List.set_cons_zero, List.set_cons_succ]
        have hfin := fun (x : True) => add_fin HW.out HBB.out HB.out HRG.out (it := ⟨p, z + 1, k⟩) HBX5.out HBL.out ho6 hg6 hv6 x
        have hr6 := HRG.out.blk.grown hg6 HRG.out.vr
        obtain ⟨A7, c7, e7, _⟩ := own_rdr eC_length ho6
        obtain ⟨m7, em7⟩ : ∃ m7, m7 = (es ++ [(⟨⟨p, z + 1, k⟩, b, none, 0, 0, 0⟩ : Ent)]).length := ⟨_, rfl⟩
        rw [← em7] at e7
        subst e7
        have f0 := hr6.frozen 0
        have k6 : w6.cell? ⟨r, 0, none⟩ = some _ := hr6.cell 0
        refine Reg.any_store 17 (w6.setCell ⟨r, 0, none⟩ (.slice A7 m7 c7)) rfl (by kernel_rfl) (by rfl) (by go_simp) ⟨Si.Blk.far HP.out _ _ (by simp; have := HW.out.lt; omega), Si.Blk.far HK.out _ _ (by simp; have := HW.out.lt; omega)⟩ ?_
        simp only [Act.put, List.setIfInBounds_toArray, List.set_cons_zero, List.set_cons_succ]
        refine wpAnyH_done (by kernel_rfl) ?_ _
        clear f0 k6 hr6 ho6 hg6 hv6 hrun em7
        have HFIN := Lib.hid (hfin trivial)
        clear hfin
        go_wp2
        go_ret2
        exact ⟨rfl, _, b, HBL.out, HFIN.out.1, HFIN.out.2.1, HFIN.out.2.2⟩
      · left
        have hb : Below w4.heap.size w4 (w4.alloc (.cells (eA ⟨⟨p, z + 1, k⟩, b, none, 0, 0, 0⟩) 60)) := (Below.refl _ _).alloc (Nat.le_refl _) _
        refine ⟨_, _, _, _, _, _, .slice (some ⟨w4.heap.size, 0, none⟩) 1 1, (w4.alloc (.cells (eA ⟨⟨p, z + 1, k⟩, b, none, 0, 0, 0⟩) 60)), rfl, by rfl, exec_slice rfl (SL1.out _ _), ⟨HP.out.below hb, HK.out.below hb⟩, ?_⟩
        simp only [Act.put, List.setIfInBounds_toArray, List.set_cons_zero, List.set_cons_succ]
        have HNB := Lib.hid (Blk.new w4 60 (eA ⟨⟨p, z + 1, k⟩, b, none, 0, 0, 0⟩))
        have HBX5 := Lib.hid (HBX.out.below hb)
        have HBL5 := Lib.hid HBX.out.lt
        replace HB := Lib.hid (HB.out.trans (hb.mono HB.out.size)); replace HRG := Lib.hid (HRG.out.below hb); replace HP := Lib.hid (HP.out.below hb); replace HK := Lib.hid (HK.out.below hb)
        clear hb
        obtain ⟨W5, eW5⟩ : ∃ W5, W5 = (w4.alloc (.cells (eA ⟨⟨p, z + 1, k⟩, b, none, 0, 0, 0⟩) 60)) := ⟨_, rfl⟩
        have HS5 := Lib.hid (show w4.heap.size < W5.heap.size by rw [eW5]; simp)
        rw [← eW5] at HNB HBX5 HB HRG HP HK ⊢
        clear eW5
        refine Reg.both_all [4] (by kernel_rfl) (by simp) ?_
        intro j0 hj0
        obtain rfl : j0 = 4 := by simpa using hj0
        clear hj0
        left
        have kr : W5.cell? ⟨r, 0, none⟩ = some (.slice A n c) := EN.out ▸ HRG.out.blk.cell 0
        refine ⟨_, _, _, _, _, _, _, _, rfl, by rfl, by (go_simp; rfl), ⟨HP.out, HK.out⟩, ?_⟩
        simp only [Act.put, List.setIfInBounds_toArray, List.set_cons_zero, List.set_cons_succ]
        clear kr
        refine Reg.both_all [14] (by kernel_rfl) (by simp) ?_
        intro j0 hj0
        obtain rfl : j0 = 14 := by simpa using hj0
        clear hj0
        left
        obtain ⟨v6, w6, hrun, ho6, hg6, hv6⟩ := Wh.app_run (P := Try.prog) eC 36 80 eC_length eC_one W5 56 56 60 i0 _ Try.underlying56 KI1.out KI2.out KI3.out KI4.out (by rfl) (by omega) B _ es HRG.out.row ⟨⟨p, z + 1, k⟩, b, none, 0, 0, 0⟩ w4.heap.size HNB.out (by have := EN.out; have := HL.out; omega) (by omega) (Nat.le_trans HBB.out HB.out.size)
        rw [← EN.out] at hrun
        replace HP := Lib.hid (HP.out.grown hg6 (fun x => by have := (World.ownsRow.lt HW.out.row _ x).2; omega))
        replace HK := Lib.hid (HK.out.grown hg6 (fun x => by have := (World.ownsRow.lt HW.out.row _ x).2; omega))
        refine ⟨_, _, _, _, _, _, v6, w6, rfl, by rfl, exec_app rfl rfl hrun, ⟨HP.out, HK.out⟩, ?_⟩
        simp only [Act.put, List.setIfInBounds_toArray, List.set_cons_zero, List.set_cons_succ]
        refine Reg.any_take 15 (v := ?vu1915) rfl (by kernel_rfl) (by kernel_rfl) (by kernel_rfl) (fun _ _ _ h => h) ⟨HP.out, HK.out⟩ (by rfl) (fun w' hS => ?hu1915) ?ru1915
        case hu1915 => go_simp; rfl
        simp only [Act.put, List.setIfInBounds_toArray, List.set_cons_zero, List.set_cons_succ]
        refine Reg.any_take 16 (v := ?vu2016) rfl (by kernel_rfl) (by kernel_rfl) (by kernel_rfl) (fun _ _ _ h => h) ⟨HP.out, HK.out⟩ (by rfl) (fun w' hS => ?hu2016) ?ru2016
        case hu2016 => go_simp; rfl
        simp only [Act.put, List.setIfInBounds_toArray, List.set_cons_zero, List.set_cons_succ]
        have hfin := fun (x : True) => add_fin HW.out HBB.out HB.out HRG.out (it := ⟨p, z + 1, k⟩) HBX5.out HBL.out ho6 hg6 hv6 x
        have hr6 := HRG.out.blk.grown hg6 HRG.out.vr
        obtain ⟨A7, c7, e7, _⟩ := own_rdr eC_length ho6
        obtain ⟨m7, em7⟩ : ∃ m7, m7 = (es ++ [(⟨⟨p, z + 1, k⟩, b, none, 0, 0, 0⟩ : Ent)]).length := ⟨_, rfl⟩
        rw [← em7] at e7
        subst e7
        have f0 := hr6.frozen 0
        have k6 : w6.cell? ⟨r, 0, none⟩ = some _ := hr6.cell 0
        refine Reg.any_store 17 (w6.setCell ⟨r, 0, none⟩ (.slice A7 m7 c7)) rfl (by kernel_rfl) (by rfl) (by go_simp) ⟨Si.Blk.far HP.out _ _ (by simp; have := HW.out.lt; omega), Si.Blk.far HK.out _ _ (by simp; have := HW.out.lt; omega)⟩ ?_
        simp only [Act.put, List.setIfInBounds_toArray, List.set_cons_zero, List.set_cons_succ]
        refine wpAnyH_done (by kernel_rfl) ?_ _
        clear f0 k6 hr6 ho6 hg6 hv6 hrun em7
        have HFIN := Lib.hid (hfin trivial)
        clear hfin
        go_wp2
        go_ret2
        exact ⟨rfl, _, b, HBL.out, HFIN.out.1, HFIN.out.2.1, HFIN.out.2.2⟩
end Go.Proofs.Ytcjibpjdfhhhkaa.Rg
end
