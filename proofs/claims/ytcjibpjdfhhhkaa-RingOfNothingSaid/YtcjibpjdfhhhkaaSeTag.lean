/-
  The code's tag.
-/
import Derived.Test.YtcjibpjdfhhhkaaSeTurn
set_option linter.unusedVariables false
namespace Go.Proofs.Ytcjibpjdfhhhkaa.Se
open Go.RowKit Go.Proofs.Ytcjibpjdfhhhkaa.Mem

theorem bv_num (u : Nat) (hu : u ≤ 255) : bv (UInt8.ofNat u) = .int .u8 (u : Int) := by
  unfold bv; rw [UInt8.toNat_ofNat', Nat.mod_eq_of_lt (by omega)]
theorem rows_two {w : World} (u : Nat) (hu : u ≤ 255) (A : Option Addr) (m c : Nat) (l : List UInt8) (t t2 : TypeId) (hm : m = l.length) (hr : Rd w w.heap.size A (bvs l)) :
    Si.Rows ((w.alloc (.cells #[.int .u8 (u : Int)] t)).alloc (.cells #[.slice (some ⟨w.heap.size, 0, none⟩) 1 1, .slice A m c] t2)) ((w.alloc (.cells #[.int .u8 (u : Int)] t)).alloc (.cells #[.slice (some ⟨w.heap.size, 0, none⟩) 1 1, .slice A m c] t2)).heap.size (some ⟨w.heap.size + 1, 0, none⟩) [[UInt8.ofNat u], l] := by
  have h := Si.rows_alloc (w := w.alloc (.cells #[.int .u8 (u : Int)] t)) t2 [.slice (some ⟨w.heap.size, 0, none⟩) 1 1, .slice A m c] [[UInt8.ofNat u], l] #[.slice (some ⟨w.heap.size, 0, none⟩) 1 1, .slice A m c] rfl rfl (fun i hi => by
    match i, hi with
    | 0, _ =>
      refine ⟨some ⟨w.heap.size, 0, none⟩, 1, rfl, ?_⟩
      have := Si.rd_words w t #[.int .u8 (u : Int)] [.int .u8 (u : Int)] rfl w.heap.size rfl
      rw [show bvs [[UInt8.ofNat u], l][0] = [.int .u8 (u : Int)] from by show [bv (UInt8.ofNat u)] = _; rw [bv_num u hu]]
      exact this.more (by simp)
    | 1, _ => exact ⟨A, c, by rw [hm]; rfl, (hr.alloc (Nat.le_refl _) _).more (by simp)⟩)
  have e : (w.alloc (.cells #[.int .u8 (u : Int)] t)).heap.size = w.heap.size + 1 := by simp
  rw [e] at h
  exact h
set_option maxRecDepth 100000 in
set_option maxHeartbeats 1600000 in
theorem tag_any (b : Nat) (ks : Nat → UInt8) (h : Option Nat) (a o r u : Nat) (A : Option Addr) (m c : Nat) (l : List UInt8) (w : World) (hu : u ≤ 255) (hm : m = l.length) (hm2 : m ≤ 1000) (hr : RdA (Ow b h) w A (bvs l)) (hK : Box w b ks h a o r) :
    Calls Try.prog 27 #[.pointer (some ⟨b, 0, none⟩), .int .i64 (u : Int), .slice A m c] w fun e w' => ∃ g, e = .returned (.int .u64 (tagL ks u l : Nat)) ∧ Box w' b ks (some g) a o r ∧ Step w w' b h g := by
  have cn := need_any b ks h a o r w hK
  have hsum : ∀ w1, Rd w1 w1.heap.size A (bvs l) → _ := fun w1 h1 => Si.sum_any (k2 ks) (some ⟨w1.heap.size + 1, 0, none⟩) 2 2 [[UInt8.ofNat u], l] _ rfl (by decide) (by simp [Si.flat]; omega) (rows_two u hu A m c l 5 34 hm h1)
  have hfl : Si.flat [[UInt8.ofNat u], l] = UInt8.ofNat u :: l := by simp [Si.flat]
  rw [hfl] at hsum
  have i2 := info16 (k2 ks)
  have hk16 : Si.key16 (k2 ks) = Sp.key16 (k2 ks) := rfl
  rw [hk16] at hsum
  obtain ⟨T, eT⟩ : ∃ T, T = tagL ks u l := ⟨_, rfl⟩
  have hT : ∀ e, e = Ending.returned (Si.wv (Si.sumOf (k2 ks) (UInt8.ofNat u :: l))) → e = .returned (.int .u64 (T : Int)) := fun e h => by rw [h, eT]; rfl
  rw [← eT]
  have HR := Lib.hid (hr.aw (Nat.le_refl _)); clear hr
  have hu1 : (u : Int) ≤ 255 := by omega
  have hu2 : (0 : Int) ≤ (u : Int) := by omega
  have hu3 : (u : Int) % 256 = (u : Int) := by omega
  have hu4 : IntKind.u8.wrap (u : Int) = (u : Int) := by rw [IntKind.wrap_u8']; exact hu3
  obtain ⟨ds, eds⟩ : ∃ ds, ds = Sp.key16 (k2 ks) := ⟨_, rfl⟩
  have hrd : ∀ w1 g, Box w1 b ks (some g) a o r → w1.rangeAt b 36 ds.toList := fun w1 g hb => by rw [eds]; exact XB.rangeD hb.1
  rw [← eds] at i2 hsum
  have RD := Lib.hid hrd; clear hrd
  have I2 := Lib.hid i2; clear i2
  have HT := Lib.hid hT; clear hT
  clear hK hm hm2 hu eds eT hfl hk16
  go_enter Try.func27, Try.ntmps27
  go_wp2_with (first
    | (go_at_call 39; refine Calls.mono cn ?_; rintro e w1 ⟨rfl, g, hb1, hs1⟩; clear cn; have hs := hsum w1 (HR.out.go hs1.aw).rd; clear hsum; have hrr := RD.out w1 g hb1; have HRR := Lib.hid hrr; have HB1 := Lib.hid hb1; have HS1 := Lib.hid hs1; clear hb1 hs1 hrr)
    | (refine load_cells (by rfl) 83 (.tmp 11) (by rfl) b 36 (by rfl) ds _ HRR.out Try.underlying83 (by rfl) I2.out ?_)
    | (go_at_call 41; refine Calls.mono hs ?_; rintro e w2 ⟨he, hb2⟩; have he := HT.out e he; subst he; have HB2 := Lib.hid hb2; clear hb2 hs)
    | fail)
  go_ret
  have hb := ((Below.refl w1.heap.size w1).alloc (Nat.le_refl _) (Obj.cells #[.int .u8 (u : Int)] 5)).alloc (by simp) (Obj.cells #[.slice (some ⟨w1.heap.size, 0, none⟩) 1 1, .slice A m c] 34)
  have hb3 := hb.trans (HB2.out.mono (by simp; omega))
  exact ⟨g, rfl, HB1.out.below hb3, HS1.out.then (Chg.of_below (S := fun _ => False) hb3) (fun _ _ x => x.elim)⟩
end Go.Proofs.Ytcjibpjdfhhhkaa.Se
