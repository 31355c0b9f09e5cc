/-
  What the laws of chapter 7 call of their own: texts, pick, the example.
-/
import Derived.Test.YtnalnhplcchdoaaRtWalk
import Derived.Test.YtnalnhplcchdoaaRtIs3
set_option linter.unusedVariables false
namespace Go.Proofs.Ytnalnhplcchdoaa.Rt
open Go.RowKit Go.Proofs.Ytnalnhplcchdoaa.Mem Go.Proofs.Ytnalnhplcchdoaa.Nm

/-- two rows that read the same are one -/
theorem texts_same (ls : List L) (A A2 : Option Addr) (n n2 c c2 B : Nat) (w : World) (hn : n = ls.length) (hn2 : n2 = ls.length) (hl : ls.length ≤ 1000000) (hr : Rd w B A (strs ls)) (hr2 : Rd w B A2 (strs ls)) :
    Calls Try.prog 23 #[.slice A n c, .slice A2 n2 c2] w fun e w' => e = .returned (.bool true) ∧ Drawn w w' := by
  have HR := Lib.hid hr; clear hr
  have HR2 := Lib.hid hr2; clear hr2
  obtain rfl : n2 = n := by omega
  rw [← hn] at hl
  have EN := Lib.hid hn; clear hn hn2
  have HD := Lib.hid (Drawn.refl w)
  go_enter Try.func23, Try.ntmps23
  go_wp2
  go_loopw [5] (fun iv wr => ∃ i : Nat, i ≤ n2 ∧ iv = .int .i64 (i : Int) ∧ Drawn w wr) (fun iv _ => n2 - (intOf iv).toNat)
  case atStart => exact ⟨0, Nat.zero_le _, rfl, HD.out⟩
  case round =>
    obtain ⟨i, hi, rfl, hd⟩ := hrel
    have hrr : ∀ B A xs, Rd w B A xs → Rd wr B A xs := by obtain ⟨m, rfl⟩ := hd; exact fun B A xs h => h.drewN m
    have HRR := Lib.hid hrr; clear hrr
    have HDR := Lib.hid hd; clear hd
    by_cases hlt : i < n2
    · have e1 : (i : Int) < (n2 : Int) := by omega
      have e2 : (0 : Int) ≤ (i : Int) := by omega
      have h1 := rd_txt (HRR.out _ _ _ HR.out) (i := i) (by rw [← EN.out]; exact hlt)
      have h2 := rd_txt (HRR.out _ _ _ HR2.out) (i := i) (by rw [← EN.out]; exact hlt)
      obtain ⟨b1, o1, rfl, _, h1⟩ := h1
      obtain ⟨b2, o2, rfl, _, h2⟩ := h2
      go_wp2
      go_quiet (fail)
      go_wp2
      go_roundw
      case rel => exact ⟨i + 1, by omega, by go_num, HDR.out.trans ⟨_, rfl⟩⟩
      case measure => simp [intOf]; omega
    · have e1 : ¬ (i : Int) < (n2 : Int) := by omega
      go_wp2
      go_ret
      exact ⟨rfl, HDR.out⟩

theorem and_low (z : Int) : ∃ m : Nat, m ≤ 1023 ∧ bits .and .i64 z 1023 = (m : Int) := by
  refine ⟨(BitVec.ofInt 64 z &&& BitVec.ofInt 64 1023).toNat, ?_, ?_⟩
  · rw [BitVec.toNat_and]
    exact Nat.le_trans Nat.and_le_right (by decide)
  · show IntKind.i64.wrap ((BitVec.ofInt 64 z &&& BitVec.ofInt 64 1023).toNat : Int) = _
    have h : (BitVec.ofInt 64 z &&& BitVec.ofInt 64 1023).toNat ≤ 1023 := by
      rw [BitVec.toNat_and]
      exact Nat.le_trans Nat.and_le_right (by decide)
    rw [IntKind.wrap_i64]; omega
/-- the place of a realm that is picked -/
def pickI (T : Tp) (k : Int) : Nat := (bits .and .i64 k 1023).toNat % T.R.length
theorem pick_lt {T : Tp} (k : Int) (h : 1 ≤ T.R.length) : pickI T k < T.R.length := Nat.mod_lt _ (by omega)
set_option maxHeartbeats 400000 in
theorem pick_any (T : Tp) (v : Value) (B : Nat) (k : Int) (w : World) (hv : TpV w B v T) (hB : B ≤ w.heap.size) (h1 : 1 ≤ T.R.length) (h2 : T.R.length ≤ 1000000) :
    Calls Try.prog 16 #[v, .int .i64 k] w fun e w' => e = .returned (.string ⟨(pl T.R (pickI T k)).toArray⟩) ∧ Below w.heap.size w w' := by
  obtain ⟨v1, v2, v3, rfl, ⟨A1, d1, rfl, hc1, r1⟩, ⟨A2, d2, rfl, hc2, r2⟩, ⟨A3, d3, rfl, hc3, r3⟩⟩ := hv
  have hb := (Below.refl w.heap.size w).alloc (Nat.le_refl _) (.cells #[.slice A1 T.R.length d1, .slice A2 T.K.length d2, .slice A3 T.P.length d3] 26)
  have HB := Lib.hid hb
  have HR := Lib.hid (r1.below (hb.mono hB))
  have HK := Lib.hid (Blk.new w 26 #[.slice A1 T.R.length d1, .slice A2 T.K.length d2, .slice A3 T.P.length d3])
  have hp := pick_lt k h1
  have EP := Lib.hid (show pickI T k = (bits .and .i64 k 1023).toNat % T.R.length from rfl)
  obtain ⟨m, hm, em⟩ := and_low k
  obtain ⟨n, en⟩ : ∃ n, n = T.R.length := ⟨_, rfl⟩
  obtain ⟨j, ej⟩ : ∃ j, j = pickI T k := ⟨_, rfl⟩
  have hj : j = m % n := by rw [ej, EP.out, em, en]; rfl
  rw [← ej] at hp ⊢
  have HC := Lib.hid (fun w1 h => rd_txt (w := w1) (B := B) (A := A1) h hp)
  clear hb r1 r2 r3 hc1 hc2 hc3 hB EP ej
  rw [← en] at h1 h2 HB HR HK hp
  rw [← en]
  clear en
  go_enter Try.func16, Try.ntmps16
  go_wp2
  obtain ⟨W, eW⟩ : ∃ W, W = w.alloc (.cells #[.slice A1 n d1, .slice A2 T.K.length d2, .slice A3 T.P.length d3] 26) := ⟨_, rfl⟩
  rw [← eW] at HB HK HR ⊢
  clear eW
  have k0 : W.cell? ⟨w.heap.size, 0, none⟩ = some (.slice A1 n d1) := HK.out.cell 0
  obtain ⟨b, o, rfl, _, h6⟩ := HC.out W HR.out
  have e0 : ((n : Int) == 0) = false := by simp; omega
  have e1 : Int.tmod (m : Int) (n : Int) = (j : Int) := by rw [hj]; rfl
  have e2 : (0 : Int) ≤ (j : Int) := by omega
  have e3 : (j : Int) < (n : Int) := by omega
  have e4 : IntKind.i64.wrap (j : Int) = (j : Int) := IntWalk.i64_in _ (by omega)
  clear hj
  go_quiet (fail)
  go_wp2
  go_ret
  exact ⟨rfl, below_drewN HB.out _⟩
end Go.Proofs.Ytnalnhplcchdoaa.Rt
