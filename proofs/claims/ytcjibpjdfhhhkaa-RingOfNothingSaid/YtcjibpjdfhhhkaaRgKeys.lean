/-
  The code's own of chapter 9: all keys, in order.
-/
import Derived.Test.YtcjibpjdfhhhkaaRgNew
set_option linter.unusedVariables false
set_option linter.unusedSimpArgs false
namespace Go.Proofs.Ytcjibpjdfhhhkaa.Rg
open Go.RowKit Go.Proofs.Ytcjibpjdfhhhkaa.Mem Go.Proofs.Ytcjibpjdfhhhkaa.Se

def kC (k : Nat → UInt8) : List Value := (key32 k).toList
theorem kC_length (k : Nat → UInt8) : (kC k).length = 32 := by simp [kC, key32_size]
theorem kC_one (k : Nat → UInt8) : ∀ u ∈ kC k, u.oneCell' = true := by
  intro u hu
  have := one32 k
  rw [Array.all_eq_true_iff_forall_mem] at this
  exact this u (Array.mem_def.2 hu)
/-- a row of keys of the call's own -/
def OwnK (w : World) (base : Nat) (v : Value) (K : List (Nat → UInt8)) : Prop := w.ownsRow base 30 32 v K.length (K.flatMap kC)
theorem OwnK.below {w w' : World} {base : Nat} {v : Value} {K : List (Nat → UInt8)} (h : OwnK w base v K) (hb : Below w.heap.size w w') : OwnK w' base v K := own_kept h hb
def ksE (es : List Ent) : List (Nat → UInt8) := es.map (·.it.k)
theorem ksE_length (es : List Ent) : (ksE es).length = es.length := by simp [ksE]
theorem ksE_next {es : List Ent} {i : Nat} {x : Ent} (h : es[i]? = some x) : (ksE es).take (i + 1) = (ksE es).take i ++ [x.it.k] := by
  rw [List.take_add_one]
  congr 1
  simp [ksE, h]
theorem key_info : (Try.prog.info? 30).map (fun i => (i.zero, i.size, i.bytes)) = some (some (.agg (key32 zeroK)), 32, 32) := by kernel_rfl
set_option maxRecDepth 100000 in
set_option maxHeartbeats 1600000 in
theorem keys_any (B r : Nat) (v : Value) (es : List Ent) (w : World) (h : Ring w B r v es) (hl : es.length ≤ 1000) :
    Calls Try.prog 18 #[.pointer (some ⟨r, 0, none⟩)] w fun e w' => ∃ v', e = .returned v' ∧ OwnK w' w.heap.size v' (ksE es) ∧ Below w.heap.size w w' := by
  obtain ⟨A, c, rfl, hc, hm, hr⟩ := h.num
  have hb0 := h.blk
  obtain ⟨n, en⟩ : ∃ n, n = es.length := ⟨_, rfl⟩
  rw [← en] at hb0 hc hl
  have k0 : w.cell? ⟨r, 0, none⟩ = some (.slice A n c) := hb0.cell 0
  have HBK := Lib.hid hb0
  have HR := Lib.hid hr; clear hr
  have EN := Lib.hid en; clear en h hb0
  obtain ⟨i0, hi0, hz0, hs0, hb0⟩ := info_parts key_info
  obtain ⟨w1, hrun, hown, hg⟩ := run_make_own (P := Try.prog) w w.heap.size 48 30 i0 _ 32 Try.underlying48 hi0 hz0 hs0 .i64 .i64 n (by rw [hb0]; omega) (by unfold maxLen; omega) (Nat.le_refl _)
  have KI1 := Lib.hid hi0; have KI2 := Lib.hid hz0; have KI3 := Lib.hid hs0; have KI4 := Lib.hid hb0
  clear hi0 hz0 hs0 hb0
  have hb1 : Below w.heap.size w w1 := below_of_g hg
  have k1 : w1.cell? ⟨r, 0, none⟩ = some (.slice A n c) := (hb1.cell (p := ⟨r, 0, none⟩) HBK.out.lt).trans k0
  have HB := Lib.hid hb1
  have HO := Lib.hid (show OwnK w1 w.heap.size (.slice (some ⟨w.heap.size, 0, none⟩) 0 n) [] from hown)
  replace HR := Lib.hid (HR.out.keep hb1)
  clear hb1 hg hown
  go_enter Try.func18, Try.ntmps18
  go_wp2
  go_loopw [3, 19] (fun kv iv wr => ∃ i : Nat, i ≤ n ∧ iv = .int .i64 (i : Int) ∧ OwnK wr w.heap.size kv ((ksE es).take i) ∧ Below w.heap.size w wr ∧ RdR wr w.heap.size A eC 36 es) (fun _ iv _ => n - (intOf iv).toNat)
  case atStart => exact ⟨0, Nat.zero_le _, rfl, by rw [List.take_zero]; exact HO.out, HB.out, HR.out⟩
  case round =>
    clear HB HO HR k0 k1 hrun
    obtain ⟨i, hi, rfl, ho, hb, hr⟩ := hrel
    have HB := Lib.hid hb; have HO := Lib.hid ho
    have HB0 := Lib.hid hb.size
    by_cases hlt : i < n
    · have e1 : (i : Int) < (n : Int) := by omega
      have e2 : (0 : Int) ≤ (i : Int) := by omega
      obtain ⟨x, hx⟩ : ∃ x, es[i]? = some x := ⟨es[i]'(by rw [← EN.out]; exact hlt), List.getElem?_eq_getElem _⟩
      obtain ⟨g, rfl, hgN, hra⟩ := hr.at_ hx
      have HR := Lib.hid hr
      rw [← eA_toList] at hra
      have HRA := Lib.hid hra
      have ha1 := eA_one x
      have HA1 := Lib.hid ha1
      have his := ent_info
      rw [← eA_size x] at his
      have HIS := Lib.hid his
      have HX := Lib.hid hx
      have hki := info32 x.it.k
      obtain ⟨kv, ekv⟩ : ∃ kv, kv = key32 x.it.k := ⟨_, rfl⟩
      rw [← ekv] at hki
      have HKI := Lib.hid hki
      have EKV := Lib.hid ekv
      obtain ⟨cs, ecs⟩ : ∃ cs, cs = eA x := ⟨_, rfl⟩
      rw [← ecs] at HRA HA1 HIS
      have ECS := Lib.hid ecs
      have HSL := Lib.hid (show ((ksE es).take i).length = i by rw [List.length_take, ksE_length, ← EN.out]; omega)
      clear hra ha1 his hx hr hb ho ecs ekv hki
      go_wp2_with (first
        | (refine Wh.load_g (by rfl) 60 (.tmp 21) (by rfl) g _ (by rfl) cs _ HRA.out Try.underlying60 (by rfl) HIS.out ?_)
        | (refine Wh.store_new (by rfl) 60 (.tmp 5) (.tmp 22) (by rfl) 60 rfl cs (by rfl) (by rfl) (by rw [ECS.out, eA_size]; rfl) HIS.out HA1.out ?_; rintro V hV hb; replace HB := Lib.hid (HB.out.trans (hb.mono HB.out.size)); replace HR := Lib.hid (HR.out.keep (hb.mono HB0.out)); replace HO := Lib.hid (HO.out.below hb); have HB1 := Lib.hid HB.out.size; have HKR := Lib.hid (EKV.out ▸ eA_k (ECS.out ▸ hV)); clear hV hb)
        | (refine Wh.load_g (by rfl) 30 (.tmp 24) (by rfl) _ 3 (by rfl) kv _ HKR.out Try.underlying30 (by rfl) HKI.out ?_)
        | (refine Wh.build_one (by rfl) 48 30 (.tmp 25) (by rfl) kv (by rfl) i0 _ Try.underlying48 KI1.out KI2.out (by rw [EKV.out, key32_size]; exact KI3.out) (by rw [EKV.out, key32_size]; omega) (by rw [EKV.out, key32_size]; omega) ?_; intro W eW; have HG := Lib.hid (show Blk W V.heap.size 30 (kC x.it.k).toArray by rw [show (kC x.it.k).toArray = kv by rw [EKV.out]; rfl, eW]; exact Blk.new V _ _); replace HO := Lib.hid (HO.out.below (eW ▸ (Below.refl _ _).alloc (Nat.le_refl _) _)); replace HB := Lib.hid (show Below w.heap.size w W from eW ▸ HB.out.alloc HB.out.size _); replace HR := Lib.hid (show RdR W w.heap.size _ eC 36 es from HR.out.keep (eW ▸ (Below.refl w.heap.size V).alloc HB1.out _)); clear eW)
        | (at_builtin; refine Wh.app_one kC 32 32 kC_length kC_one rfl (.tmp 23) (.tmp 26) 48 30 rfl i0 _ Try.underlying48 KI1.out KI2.out KI3.out KI4.out (key32_size _) (by omega) (by omega) w.heap.size _ _ rfl HO.out x.it.k _ rfl HG.out (by rw [HSL.out]; omega) HB.out.size ?_; intro v2 w2 ho2 hg2 _; have HO2 := Lib.hid ho2; have HB2 := Lib.hid (HB.out.grown hg2 HB.out.size (fun k hk => (World.ownsRow.lt HO.out k hk).1)); have HR2 := Lib.hid (HR.out.keep ((Below.refl w.heap.size _).grown hg2 HB.out.size (fun k hk => (World.ownsRow.lt HO.out k hk).1))); clear ho2 hg2)
        | fail)
      go_roundw
      case rel => exact ⟨i + 1, by omega, by go_num, by rw [ksE_next HX.out]; exact HO2.out, HB2.out, HR2.out⟩
      case measure => simp [intOf]; omega
    · have e1 : ¬ (i : Int) < (n : Int) := by omega
      obtain rfl : n = i := by omega
      rw [List.take_of_length_le (by rw [ksE_length, ← EN.out]; exact Nat.le_refl _)] at HO
      clear hi hr hb ho
      go_wp2
      go_ret
      exact ⟨_, rfl, HO.out, HB.out⟩
theorem keys_nil (w : World) : Calls Try.prog 18 #[.pointer none] w fun e w' => e = .returned (.slice none 0 0) ∧ w' = w := by
  go_enter Try.func18, Try.ntmps18
  go_wp2
  go_ret
  exact ⟨rfl, rfl⟩
end Go.Proofs.Ytcjibpjdfhhhkaa.Rg
