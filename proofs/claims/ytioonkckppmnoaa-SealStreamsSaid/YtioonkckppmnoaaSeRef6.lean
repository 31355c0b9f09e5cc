/-
  The document's own: Open.
-/
import Derived.Test.YtioonkckppmnoaaSeRef5
import Derived.Test.YtioonkckppmnoaaSeOpen2
import Derived.Test.YtioonkckppmnoaaRegion
set_option linter.unusedVariables false
namespace Go.Proofs.Ytioonkckppmnoaa.Se
open Go.RowKit Go.Proofs.Ytioonkckppmnoaa.Mem

theorem bytes_loop (bs : ByteArray) : ∀ (n i : Nat) (r : List UInt8), bs.size - i = n → i ≤ bs.size → ByteArray.toList.loop bs i r = r.reverse ++ bs.data.toList.drop i := by
  intro n
  induction n with
  | zero =>
    intro i r h hi
    unfold ByteArray.toList.loop
    have : ¬ i < bs.size := by omega
    rw [if_neg this, List.drop_of_length_le (by rw [Array.length_toList]; show bs.size ≤ i; omega), List.append_nil]
  | succ n ih =>
    intro i r h hi
    unfold ByteArray.toList.loop
    have hlt : i < bs.size := by omega
    have hl : i < bs.data.toList.length := by rw [Array.length_toList]; exact hlt
    rw [if_pos hlt, ih (i + 1) _ (by omega) (by omega), List.drop_eq_getElem_cons hl]
    have e : bs.get! i = bs.data.toList[i] := by
      show bs.data[i]! = _
      rw [getElem!_pos bs.data i hlt]
      simp
    rw [e]
    simp
theorem bytes_list (bs : ByteArray) : bs.toList = bs.data.toList := by
  have := bytes_loop bs bs.size 0 [] (by omega) (by omega)
  simpa [ByteArray.toList] using this
theorem bytes_same {a b : ByteArray} (h : a.toList = b.toList) : a = b := by
  rw [bytes_list, bytes_list] at h
  exact ByteArray.ext (Array.toList_inj.1 h)
set_option maxRecDepth 100000 in
set_option maxHeartbeats 1600000 in
theorem dopen_bad (ks : Nat → UInt8) (u : Int) (A : Option Addr) (m c : Nat) (w : World) (hx : ¬ (0 ≤ u ∧ u ≤ 255)) :
    Calls Try.prog 17 #[.agg (key32 ks), .int .i64 u, .slice A m c] w fun e w' => e = .returned (.tuple #[.slice none 0 0, .int .i64 1]) ∧ Below w.heap.size w w' := by
  obtain ⟨kc, ekc⟩ : ∃ kc, kc = key32 ks := ⟨_, rfl⟩
  rw [← ekc]
  have t : (decide (u < 0) = true) ∨ (decide (u < 0) = false ∧ decide (255 < u) = true) := by
    simp only [decide_eq_true_eq, decide_eq_false_iff_not]
    omega
  have HB := Lib.hid ((Below.refl w.heap.size w).alloc (Nat.le_refl _) (.cells kc 26))
  clear hx ekc
  rcases t with t1 | ⟨t1, t2⟩ <;> (
    go_enter Try.func17, Try.ntmps17
    go_wp2
    go_ret2
    exact ⟨rfl, HB.out⟩)

set_option maxRecDepth 100000 in
set_option maxHeartbeats 1600000 in
theorem dopen_short (ks : Nat → UInt8) (u : Nat) (A : Option Addr) (n c : Nat) (l : List UInt8) (w : World) (hu : u ≤ 255) (hn : n = l.length) (hr : Rd w w.heap.size A (bvs l)) (hx : l.length < 16 ∨ 800 < l.length ∨ 1099511627776 < n8 l) :
    Calls Try.prog 17 #[.agg (key32 ks), .int .i64 (u : Int), .slice A n c] w fun e w' => e = .returned (.tuple #[.slice none 0 0, .int .i64 3]) ∧ Below w.heap.size w w' := by
  obtain ⟨kc, ekc⟩ : ∃ kc, kc = key32 ks := ⟨_, rfl⟩
  rw [← ekc]
  have t1 : decide ((u : Int) < 0) = false := by simp
  have t2 : decide (255 < (u : Int)) = false := by simp; omega
  have hB0 := (Below.refl w.heap.size w).alloc (Nat.le_refl _) (.cells kc 26)
  by_cases h1 : n < 16 ∨ 800 < n
  · have t : (decide ((n : Int) < 16) = true) ∨ (decide ((n : Int) < 16) = false ∧ decide (800 < (n : Int)) = true) := by
      simp only [decide_eq_true_eq, decide_eq_false_iff_not]
      omega
    have HB := Lib.hid hB0
    clear hx ekc hB0 h1 hn hr
    rcases t with t3 | ⟨t3, t4⟩ <;> (
      go_enter Try.func17, Try.ntmps17
      go_wp2
      go_ret2
      exact ⟨rfl, HB.out⟩)
  · have t3 : decide ((n : Int) < 16) = false := by simp; omega
    have t4 : decide (800 < (n : Int)) = false := by simp; omega
    have h8 : 1099511627776 < n8 l := by omega
    have cn := dnumber w.heap.size A n c l (w.alloc (.cells kc 26)) hn (by omega) (hr.below hB0)
    obtain ⟨N, eN⟩ : ∃ N, N = n8 l := ⟨_, rfl⟩
    rw [← eN] at cn h8
    have t5 : decide (1099511627776 < (N : Int)) = true := by simp; omega
    have HB := Lib.hid hB0
    have s1 : (16 : Int) ≤ (n : Int) := by omega
    have s2 : (n : Int) ≤ 800 := by omega
    clear hx ekc hB0 h1 hn hr eN h8
    go_enter Try.func17, Try.ntmps17
    go_upto_region 7 with (go_at_call 33; refine Calls.mono cn ?_; rintro e wq ⟨rfl, hw⟩; have hw := hw.symm; subst hw; clear cn)
    go_quiet (fail)
    go_wp2_with fail
    go_ret2
    exact ⟨rfl, below_drewN HB.out nq⟩

set_option maxRecDepth 100000 in
set_option maxHeartbeats 3200000 in
theorem dopen_long (ks : Nat → UInt8) (u : Nat) (A : Option Addr) (n c : Nat) (l : List UInt8) (w : World) (hu : u ≤ 255) (hn : n = l.length) (hc : n ≤ c) (hr : Rd w w.heap.size A (bvs l)) (h16 : 16 ≤ l.length) (h800 : l.length ≤ 800) (h40 : n8 l ≤ 1099511627776) :
    Calls Try.prog 17 #[.agg (key32 ks), .int .i64 (u : Int), .slice A n c] w fun e w' => (if tagL ks u (headL l) = n8 (lastL l) then ∃ A2 c2, e = .returned (.tuple #[.slice A2 (n - 16) c2, .int .i64 0]) ∧ Rd w' w'.heap.size A2 (bvs (mixL ks u (n8 l) (midL l))) else e = .returned (.tuple #[.slice none 0 0, .int .i64 3])) ∧ Below w.heap.size w w' := by
  obtain ⟨B, eB⟩ : ∃ B, B = w.heap.size := ⟨_, rfl⟩
  obtain ⟨b2, o2, rfl⟩ : ∃ b2 o2, A = some ⟨b2, o2, none⟩ := by
    rcases hr with hx | ⟨b2, o2, h4, _⟩
    · exact rd_nil_16 hn (by omega) hx
    · exact ⟨b2, o2, h4⟩
  obtain ⟨k, hk⟩ : ∃ k, n = k + 8 := ⟨n - 8, by omega⟩
  obtain ⟨m, hm8⟩ : ∃ m, k = m + 8 := ⟨k - 8, by omega⟩
  have hk8 : n - 8 = k := by omega
  have hhd : headL l = l.take k := by unfold headL; rw [← hn, hk8]
  have hla : lastL l = l.drop k := by unfold lastL; rw [← hn, hk8]
  have hmid : midL l = (l.take k).drop 8 := by unfold midL; rw [hhd]
  have RA : ∀ w1, Below B w w1 → RdA (fun _ => False) w1 (some ⟨b2, o2, none⟩) (bvs l) := fun w1 h => RdA.of_rd (B := B) (eB ▸ hr.below (eB ▸ h)) (eB ▸ h.size) (fun _ x => x.elim)
  have cn := fun (w1 : World) (h : Below B w w1) => dnumber w1.heap.size (some ⟨b2, o2, none⟩) n c l w1 hn (by omega) (RA w1 h).rd
  have ctag := fun (w1 : World) (h : Below B w w1) => dtag ks u (some ⟨b2, o2, none⟩) k c (headL l) w1 hu (by rw [hhd, List.length_take]; omega) (by omega) (hhd ▸ ((RA w1 h).take k).rd)
  have cmix := fun (w1 : World) (h : Below B w w1) => dmix ks u (n8 l) (some ⟨b2, o2 + 8, none⟩) m (c - 8) (midL l) w1 hu (by omega) (by rw [hmid, List.length_drop, List.length_take]; omega) (by omega) (hmid ▸ (((RA w1 h).take k).drop 8).rd)
  have ccv := fun (w1 : World) (h : Below B w w1) => run_bytes_str (P := Try.prog) w1 22 5 Try.underlying22 Try.underlying5 (hla ▸ ((RA w1 h).drop k).rd) 8 (c - k) (by rw [hla, List.length_drop]; omega) 9 Try.underlying9
  obtain ⟨T, eT⟩ : ∃ T, T = tagL ks u (headL l) := ⟨_, rfl⟩
  obtain ⟨M, eM⟩ : ∃ M, M = n8 (lastL l) := ⟨_, rfl⟩
  have hT64 : T < 18446744073709551616 := by rw [eT]; exact tagL_lt _ _ _
  have hl8 : (lastL l).length = 8 := by rw [hla, List.length_drop]; omega
  have hM8 : w8 M = lastL l := by rw [eM]; exact w8_n8 _ hl8
  have hM64 : M < 18446744073709551616 := by rw [eM]; exact n8_lt _
  obtain ⟨N, eN⟩ : ∃ N, N = n8 l := ⟨_, rfl⟩
  obtain ⟨Q, eQ⟩ : ∃ Q, Q = bvs (mixL ks u N (midL l)) := ⟨_, rfl⟩
  rw [← eT, ← eM, ← eN, ← eQ]
  rw [← eN] at cn cmix h40
  rw [← eQ] at cmix
  rw [← eT] at ctag
  obtain ⟨s8, es8⟩ : ∃ s8 : ByteArray, s8 = ⟨(lastL l).toArray⟩ := ⟨_, rfl⟩
  rw [← es8] at ccv
  obtain ⟨sT, esT⟩ : ∃ sT : ByteArray, sT = ⟨(w8 T).toArray⟩ := ⟨_, rfl⟩
  have hcmp : sT = s8 ↔ T = M := by
    constructor
    · intro h
      refine w8_inj hT64 hM64 ?_
      rw [hM8]
      have h2 : (⟨(w8 T).toArray⟩ : ByteArray) = ⟨(lastL l).toArray⟩ := by rw [← esT, ← es8, h]
      have h3 := congrArg (fun x : ByteArray => x.data.toList) h2
      simpa using h3
    · intro h
      rw [esT, es8, h, hM8]
  have hkl : ∃ kl : List Value, kl.toArray = key32 ks := ⟨_, rfl⟩
  obtain ⟨kl, ekl⟩ := hkl
  have u32 : (Try.prog.info? 26).map (·.size) = some kl.length := by rw [← List.size_toArray, ekl]; exact info32 ks
  have hu32 := Try.underlying26
  rw [← ekl] at cmix ctag ⊢
  have ctv := fun (w4 : World) (A4 : Option Addr) (c4 : Nat) (h : Rd w4 w4.heap.size A4 (bvs (w8 T))) => run_bytes_str (P := Try.prog) w4 22 5 Try.underlying22 Try.underlying5 h 8 c4 (w8_length T).symm 9 Try.underlying9
  rw [← esT] at ctv
  have hra : (w.alloc (.cells kl.toArray 26)).drew.rangeAt w.heap.size 0 kl := by have := Si.range_blk (Blk.new w 26 kl.toArray); simpa using this
  have hB0 : Below B w (w.alloc (.cells kl.toArray 26)) := eB ▸ (Below.refl w.heap.size w).alloc (Nat.le_refl _) _
  have HB0 : Hid (Below B w (w.alloc (.cells kl.toArray 26)).drew) := below_drewN hB0 1
  have HS0 : Hid ((w.alloc (.cells kl.toArray 26)).drew.heap.size = B + 1) := by show (w.alloc _).heap.size = _; simp [eB]
  have c1 := cn _ hB0
  have ct := ctag _ HB0.out
  have hcv := ccv _ HB0.out
  have t1 : decide ((u : Int) < 0) = false := by simp
  have t2 : decide (255 < (u : Int)) = false := by simp; omega
  have t3 : decide ((n : Int) < 16) = false := by simp; omega
  have t4 : decide (800 < (n : Int)) = false := by simp; omega
  have t5 : decide (1099511627776 < (N : Int)) = false := by simp; omega
  have s0 : (n : Int) ≤ 800 := by omega
  have s1 : (n : Int) - 8 = (k : Int) := by omega
  have s2 : IntKind.i64.wrap (k : Int) = (k : Int) := by rw [IntKind.wrap_i64]; omega
  have s3 : (8 : Int) ≤ (k : Int) := by omega
  have s4 : (k : Int) ≤ (c : Int) := by omega
  have s5 : k - 8 = m := by omega
  have s6 : 8 ≤ k := by omega
  have s7 : k ≤ c := by omega
  have s8' : ¬ c = 8 := by omega
  have s14 : ¬ c = k := by omega
  have s9 : n - k = 8 := by omega
  have s10 : (k : Int) ≤ (n : Int) := by omega
  have s11 : (n : Int) ≤ (c : Int) := by omega
  have s12 : k ≤ n := by omega
  have s13 : (0 : Int) ≤ (k : Int) := by omega
  have hm16 : n - 16 = m := by omega
  rw [hm16]
  have EB := Lib.hid eB
  have CMIX := Lib.hid cmix; clear cmix
  have CCV := Lib.hid ccv; clear ccv
  have CTV := Lib.hid ctv; clear ctv
  have HC := Lib.hid hcmp; clear hcmp
  clear hu hn hc hr h16 h800 h40 hk hm8 hk8 hhd hla hmid RA cn ctag eT eM eN eQ es8 esT hT64 hM64 hl8 hM8 ekl hB0 eB hm16
  go_enter Try.func17, Try.ntmps17
  go_upto_region 7 with (go_at_call 33; refine Calls.mono c1 ?_; rintro e wq ⟨rfl, hw⟩; have hw := hw.symm; subst hw; clear c1)
  -- THE REGION
  have CCVW : Hid (∀ w', Reg.Since (w.alloc (.cells kl.toArray 26)).drew w' → (convert 22 9 (.slice (some ⟨b2, o2 + k, none⟩) 8 (c - k))).run Try.prog w' = .ok (.string s8) w') := fun w' hS => CCV.out w' (HB0.out.trans (hS.mono (by have := HS0.out; omega)))
  clear hcv
  refine Reg.region_begin 16 rfl (by kernel_rfl) ?_
  refine Reg.take_op 0 (v := ?vz0) rfl (by kernel_rfl) (by kernel_rfl) (by kernel_rfl) (fun _ _ _ h => h) (by rfl) (fun w' hS => ?hyz0) ?restz0
  case hyz0 => go_simp; rfl
  simp only [Act.put, List.setIfInBounds_toArray, List.set_cons_zero, List.set_cons_succ]
  refine Reg.take_op 1 (v := ?vz1) rfl (by kernel_rfl) (by kernel_rfl) (by kernel_rfl) (fun _ _ _ h => h) (by rfl) (fun w' hS => ?hyz1) ?restz1
  case hyz1 => go_simp; rfl
  simp only [Act.put, List.setIfInBounds_toArray, List.set_cons_zero, List.set_cons_succ]
  refine Reg.take_op 2 (v := ?vz2) rfl (by kernel_rfl) (by kernel_rfl) (by kernel_rfl) (fun _ _ _ h => h) (by rfl) (fun w' hS => ?hyz2) ?restz2
  case hyz2 => go_simp; rfl
  simp only [Act.put, List.setIfInBounds_toArray, List.set_cons_zero, List.set_cons_succ]
  refine wpAnyH_take (i := 3) (v := .agg kl.toArray) rfl (by kernel_rfl) (by kernel_rfl) (by kernel_rfl) (fun _ _ _ h => h) (yieldsIf_load_mid (by rfl) 26 (.tmp 3) rfl w.heap.size 0 rfl kl _ (fun w' hS => range_below hra (by have := HS0.out; have := EB.out; omega) hS) hu32 rfl u32) (Below.refl _ _) ?_
  try simp only [List.getElem_toArray, List.getElem_cons_zero, List.getElem_cons_succ, Act.put, List.setIfInBounds_toArray, List.set_cons_zero, List.set_cons_succ]
  refine Reg.take_op 4 (v := ?vz4) rfl (by kernel_rfl) (by kernel_rfl) (by kernel_rfl) (fun _ _ _ h => h) (by rfl) (fun w' hS => ?hyz4) ?restz4
  case hyz4 => go_simp; rfl
  simp only [Act.put, List.setIfInBounds_toArray, List.set_cons_zero, List.set_cons_succ]
  refine Reg.take_op 5 (v := ?vz5) rfl (by kernel_rfl) (by kernel_rfl) (by kernel_rfl) (fun _ _ _ h => h) (by rfl) (fun w' hS => ?hyz5) ?restz5
  case hyz5 => go_simp; rfl
  simp only [Act.put, List.setIfInBounds_toArray, List.set_cons_zero, List.set_cons_succ]
  refine Reg.take_op 6 (v := ?vz6) rfl (by kernel_rfl) (by kernel_rfl) (by kernel_rfl) (fun _ _ _ h => h) (by rfl) (fun w' hS => ?hyz6) ?restz6
  case hyz6 => go_simp; rfl
  simp only [Act.put, List.setIfInBounds_toArray, List.set_cons_zero, List.set_cons_succ]
  refine Reg.take_op 7 (v := ?vz7) rfl (by kernel_rfl) (by kernel_rfl) (by kernel_rfl) (fun _ _ _ h => h) (by rfl) (fun w' hS => ?hyz7) ?restz7
  case hyz7 => go_simp; rfl
  simp only [Act.put, List.setIfInBounds_toArray, List.set_cons_zero, List.set_cons_succ]
  refine Reg.take_op 10 (v := ?vz10) rfl (by kernel_rfl) (by kernel_rfl) (by kernel_rfl) (fun _ _ _ h => h) (by rfl) (fun w' hS => ?hyz10) ?restz10
  case hyz10 => go_simp; rfl
  simp only [Act.put, List.setIfInBounds_toArray, List.set_cons_zero, List.set_cons_succ]
  refine Reg.take_op 11 (v := ?vz11) rfl (by kernel_rfl) (by kernel_rfl) (by kernel_rfl) (fun _ _ _ h => h) (by rfl) (fun w' hS => ?hyz11) ?restz11
  case hyz11 => go_simp; rfl
  simp only [Act.put, List.setIfInBounds_toArray, List.set_cons_zero, List.set_cons_succ]
  refine Reg.take_op 12 (v := ?vz12) rfl (by kernel_rfl) (by kernel_rfl) (by kernel_rfl) (fun _ _ _ h => h) (by rfl) (fun w' hS => ?hyz12) ?restz12
  case hyz12 => go_simp; rfl
  simp only [Act.put, List.setIfInBounds_toArray, List.set_cons_zero, List.set_cons_succ]
  refine Reg.take_op 13 (v := ?vz13) rfl (by kernel_rfl) (by kernel_rfl) (by kernel_rfl) (fun _ _ _ h => h) (by rfl) (fun w' hS => ?hyz13) ?restz13
  case hyz13 => have hh := CCVW.out w' hS; go_simp; rfl
  simp only [Act.put, List.setIfInBounds_toArray, List.set_cons_zero, List.set_cons_succ]
  refine Reg.call_op 8 rfl (by kernel_rfl) (by rfl) 30 #[.agg kl.toArray, .int .i64 (u : Int), .slice (some ⟨b2, o2, none⟩) k c] (by go_simp) ?_
  refine Calls.mono (ct) ?_
  rintro e w1 ⟨v1, rfl, hown1, hb1⟩
  obtain ⟨A1, c1, hv1, hc1, hm1, hr1⟩ := own_rda (S := fun _ => False) hown1 (fun _ _ x => x)
  subst hv1
  have hz1 : B + 1 ≤ w1.heap.size := by have := HS0.out; have := hb1.size; omega
  have hra1 : w1.rangeAt w.heap.size 0 kl := range_below hra (by have := HS0.out; have := EB.out; omega) hb1
  have HRA1 := Lib.hid hra1
  have RT := Lib.hid hr1.rd
  have H1 := Lib.hid (HB0.out.trans (hb1.mono (by have := HS0.out; omega)))
  have Z1 := Lib.hid hz1
  refine ⟨_, rfl, hb1, ?_⟩
  clear ct hown1 hc1 hm1 hr1 hb1 hz1 hra1
  simp only [Act.put, List.setIfInBounds_toArray, List.set_cons_zero, List.set_cons_succ]
  refine Reg.take_op 9 (v := ?vz9) rfl (by kernel_rfl) (by kernel_rfl) (by kernel_rfl) (fun _ _ _ h => h) (by rfl) (fun w' hS => ?hyz9) ?restz9
  case hyz9 => have hh := CTV.out w' A1 c1 (RT.out.below hS |>.more (hS.size)); go_simp; rfl
  simp only [Act.put, List.setIfInBounds_toArray, List.set_cons_zero, List.set_cons_succ]
  refine Reg.take_op 14 (v := ?vz14) rfl (by kernel_rfl) (by kernel_rfl) (by kernel_rfl) (fun _ _ _ h => h) (by rfl) (fun w' hS => ?hyz14) ?restz14
  case hyz14 => go_simp; rfl
  simp only [Act.put, List.setIfInBounds_toArray, List.set_cons_zero, List.set_cons_succ]
  refine Reg.take_op 15 (v := ?vz15) rfl (by kernel_rfl) (by kernel_rfl) (by kernel_rfl) (fun _ _ _ h => h) (by rfl) (fun w' hS => ?hyz15) ?restz15
  case hyz15 => go_simp; rfl
  simp only [Act.put, List.setIfInBounds_toArray, List.set_cons_zero, List.set_cons_succ]
  refine wpAnyH_done (by kernel_rfl) ?_ _

  have hra1 : w1.drew.rangeAt w.heap.size 0 kl := HRA1.out
  have cm := CMIX.out w1.drew (below_drewN H1.out 1)
  have D1 : Hid (Below B w w1.drew) := below_drewN H1.out 1
  have Z2 : Hid (B + 1 ≤ w1.drew.heap.size) := Z1.out
  by_cases hTM : T = M
  · have e : sT = s8 := HC.out.2 hTM
    have hbb : (!(sT.toList == s8.toList)) = false := by rw [e]; simp
    rw [hbb]
    have HTM := Lib.hid hTM; clear hTM
    clear hra e hbb
    go_upto_region 9 with fail
    go_region_held3 (fun w' => w'.rangeAt w.heap.size 0 kl) (first | exact hra1 | exact hS2) (first
      | (go_at_call 29; refine Calls.mono cm ?_; rintro e w2 ⟨v2, rfl, hown2, hb2⟩; clear cm; have hS2 : w2.rangeAt w.heap.size 0 kl := range_below hra1 (by have := Z2.out; have := EB.out; omega) hb2; obtain ⟨A2, c2, hv2, hc2, hm2, hr2⟩ := own_rda (S := fun _ => False) hown2 (fun _ _ x => x); subst hv2; have H2 := Lib.hid (D1.out.trans (hb2.mono (by have := Z2.out; omega))); have R2 := Lib.hid hr2.rd; clear hb2 hown2 hc2 hm2 hr2))
    all_goals (
      clear hra1 hS2
      go_wp2_with fail
      go_ret2
      exact ⟨⟨A2, ⟨c2, rfl⟩, R2.out⟩, EB.out ▸ H2.out⟩)
  · have hne : ¬ sT = s8 := fun h => hTM (HC.out.1 h)
    have hbb : (!(sT.toList == s8.toList)) = true := by
      rw [Bool.not_eq_true']
      apply beq_eq_false_iff_ne.2
      intro h
      exact hne (bytes_same h)
    rw [hbb]
    have HTM := Lib.hid hTM; clear hTM
    clear hra hra1 hne hbb cm
    go_wp2_with fail
    go_ret2
    exact ⟨rfl, EB.out ▸ H1.out⟩
end Go.Proofs.Ytioonkckppmnoaa.Se
