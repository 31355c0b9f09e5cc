/-
  The walk of the law that a number has one form: bytes that are no number's one form are errors, and the document's own reader agrees.
-/
import Derived.Test.YtkkpcnibghndgaaDerRCur4
import Derived.Test.YtkkpcnibghndgaaDerLaw7
set_option linter.unusedVariables false
namespace Go.Proofs.Ytkkpcnibghndgaa.DerL
open Go.RowKit Go.Proofs.Ytkkpcnibghndgaa.Mem Go.Proofs.Ytkkpcnibghndgaa.DerP Go.Proofs.Ytkkpcnibghndgaa.Reg

theorem size_u8 : ∀ w : World, (sizeOf 5).run Try.prog w = .ok 1 w := fun w => by kernel_rfl
theorem cut_to_ {P : Program} {t e : TypeId} (ht : P.underlying t = some (.slice e)) (hz : ∀ w : World, (sizeOf e).run P w = .ok 1 w) (q o n d k : Nat) (K : Int) (hK : K = (k : Int)) (hk : k ≤ d) (w : World) :
    (Instr.slice t (.slice (some ⟨q, o, none⟩) n d) none (some (.int .i64 K)) none).run P w = .ok (.slice (some ⟨q, o, none⟩) k d) w := by
  subst hK
  by_cases hd : d = 0
  · have hk0 : k = 0 := by omega
    simp [Instr.slice, run_underlying ht, Instr.sliceBounds, run_sliceBound, hz, Result.andThen, hd, hk0]
  · simp [Instr.slice, run_underlying ht, Instr.sliceBounds, run_sliceBound, hz, Result.andThen, addr_add, hd, (by omega : (k : Int) ≤ (d : Int))]
theorem int_sound {l r : L} {n : Nat} (h : intC (some l) = (n, some r)) : l = encI (n : Int) ++ r ∧ n ≤ 4611686018427387904 := by
  simp only [intC] at h
  cases hs : splitL 2 l with
  | none => rw [(body_none hs).1] at h; cases h
  | some x =>
    obtain ⟨p, q⟩ := x
    obtain ⟨e1, e2⟩ := body_some hs
    rw [e1, e2] at h
    cases hn : numL p with
    | none => simp only [hn] at h; cases h
    | some m =>
      simp only [hn] at h
      injection h with h1 h2
      injection h2 with h2
      subst h1 h2
      obtain ⟨_, h3, _⟩ := numL_some hn
      refine ⟨?_, h3⟩
      have hd := dig_num hn
      rw [(split_sound hs).1, encI, clampN_of (m : Int) (by omega) (by omega), Int.toNat_natCast, hd]
theorem rd_of_take {w : World} {B : Nat} {A : Option Addr} {l m : L} (h : Rd w B A (bvs l)) (k : Nat) (hm : l.take k = m) : Rd w B A (bvs m) := by
  subst hm
  rcases h with h | ⟨b, o, h1, h2, h3⟩
  · have : l = [] := List.map_eq_nil_iff.1 h
    subst this
    exact .inl (by simp [bvs])
  · refine .inr ⟨b, o, h1, h2, fun i u hu => h3 i u ?_⟩
    by_cases hi : i < k
    · rw [← hu]; simp only [bvs, List.getElem?_map, List.getElem?_take, if_pos hi]
    · rw [List.getElem?_eq_none (by rw [bvs_length, List.length_take]; omega)] at hu; cases hu

theorem good_no (g : Nat) (w : World) (h : DerC.Cur w g none) : Calls Try.prog 32 #[.pointer (some ⟨g, 0, none⟩)] w fun e w' => e = .returned (.bool false) ∧ w = w' := DerC.good_any g _ w h
theorem left_no (g : Nat) (w : World) (h : DerC.Cur w g none) : Calls Try.prog 35 #[.pointer (some ⟨g, 0, none⟩)] w fun e w' => e = .returned (.int .i64 0) ∧ w = w' := DerC.left_any g _ w h
theorem left_some (g : Nat) (r : L) (w : World) (h : DerC.Cur w g (some r)) : Calls Try.prog 35 #[.pointer (some ⟨g, 0, none⟩)] w fun e w' => e = .returned (.int .i64 (r.length : Int)) ∧ w = w' := DerC.left_any g _ w h

set_option maxRecDepth 100000 in
theorem one_out (A : Option Addr) (l : L) (c : Nat) (w : World) (h : 300 < l.length) :
    Calls Try.prog 6 #[.slice A l.length c] w fun e w' => e = .returned (.bool true) ∧ Below w.heap.size w w' := by
  have g1 : decide ((300 : Int) < (l.length : Int)) = true := by simp only [decide_eq_true_eq]; omega
  clear h
  go_enter Try.func6, Try.ntmps6
  go_wp2
  go_ret
  exact ⟨rfl, Below.refl _ _⟩

/-- the document's own Cursor, made over bytes -/
theorem rc_new {w : World} {B : Nat} {A : Option Addr} {l : L} {n c : Nat} (h : Rd w B A (bvs l)) (hn : n = l.length) (hc : n ≤ c) (hB : B ≤ w.heap.size) :
    DerR.RC (w.alloc (.cells #[.slice A n c, .bool false] 35)) B w.heap.size (some l) :=
  ⟨A, n, c, false, Blk.new w _ _, rfl, hn, hc, h.alloc hB _⟩

set_option maxRecDepth 100000 in
set_option maxHeartbeats 2000000 in
theorem one_bad (A : Option Addr) (l : L) (n c : Nat) (hn : n = l.length) (hc : n ≤ c) (w : World) (hr : Rd w w.heap.size A (bvs l)) (h : n ≤ 300) (hi : intC (some l) = (0, none)) :
    Calls Try.prog 6 #[.slice A n c] w fun e w' => e = .returned (.bool true) ∧ Below w.heap.size w w' := by
  have g1 : decide ((300 : Int) < (n : Int)) = false := by simp only [decide_eq_false_iff_not]; omega
  have HR := Lib.hid hr
  have HN := Lib.hid hn
  have HC := Lib.hid hc
  have H := Lib.hid h
  have HI := Lib.hid hi
  clear hr hn hc h hi
  go_enter Try.func6, Try.ntmps6
  go_wp2_with (first
    | (go_at_call 23; refine (DerC.open_any _ _ _ _ _ _ HR.out HN.out).mono ?_; rintro e w1 ⟨g, rfl, hg, hcur, hb1⟩)
    | (go_at_call 24; refine (DerC.int_any g _ w1 hcur (by have := H.out; have := HN.out; simp only [Option.getD_some]; omega)).mono ?_; rw [HI.out]; rintro e w2 ⟨rfl, hcur2, hg2⟩
       have b2 := btg hb1 hg2 hg
       have hrc := rc_new (HR.out.below b2) HN.out HC.out b2.size
       have b2' := b2.alloc b2.size (.cells #[.slice A n c, .bool false] 35)
       clear hcur)
    | (go_at_call 32; refine (good_no g _ hcur2).mono ?_; rintro e w' ⟨rfl, rfl⟩)
    | (go_at_call 25; refine (DerR.rint_any w.heap.size w2.heap.size (some l) _ hrc (by have := b2.size; simp; omega) b2.size (by have := H.out; have := HN.out; simp only [Option.getD_some]; omega)).mono ?_
       unfold DerR.Ints; rw [HI.out]; rintro e w3 ⟨rfl, hrc3, hg3⟩
       obtain ⟨A3, n3, cap3, e3, hb3, rfl⟩ := hrc3
       have h31 : w3.cell? ⟨w2.heap.size, 1, none⟩ = some (.bool true) := hb3.cell 1
       have b3 := below_g b2' hg3 b2'.size b2.size
       have hcur3 : DerC.Cur w3 g none := Blk.grown (Blk.alloc hcur2 _) hg3 (by have := Blk.lt hcur2; simp; omega)
       clear hrc)
    | (go_at_call 35; refine (left_no g _ hcur3).mono ?_; rintro e w' ⟨rfl, rfl⟩)
    | (go_at_call 22; refine (DerK.known_any _).mono ?_; rintro e w8 ⟨rfl, hb8⟩))
  go_ret
  exact ⟨rfl, bt b3 hb8⟩

set_option maxRecDepth 100000 in
set_option maxHeartbeats 2000000 in
theorem one_good (A : Option Addr) (l : L) (n c : Nat) (hn : n = l.length) (hc : n ≤ c) (w : World) (hr : Rd w w.heap.size A (bvs l)) (h : n ≤ 300) (m : Nat) (r : L) (hi : intC (some l) = (m, some r)) :
    Calls Try.prog 6 #[.slice A n c] w fun e w' => e = .returned (.bool true) ∧ Below w.heap.size w w' := by
  have g1 : decide ((300 : Int) < (n : Int)) = false := by simp only [decide_eq_false_iff_not]; omega
  obtain ⟨hl, hm⟩ := int_sound hi
  have hll : l.length = (encI (m : Int)).length + r.length := by rw [hl, List.length_append]
  have hp := enc_pos (m : Int)
  obtain ⟨b, o, rfl, hbB, hz_⟩ := hr.at_ (bvs_at (show 0 < l.length by omega))
  clear hz_
  obtain ⟨k, hk⟩ : ∃ k, k = (encI (m : Int)).length := ⟨_, rfl⟩
  have hsub : (n : Int) - (r.length : Int) = (k : Int) := by omega
  have hru : (r.length : Int) ≤ 300 := by omega
  have hnu : (n : Int) ≤ 300 := by omega
  have hcut := cut_to_ (P := Try.prog) Try.underlying22 size_u8 b o n c k (k : Int) rfl (by omega)
  have HT := Lib.hid (rd_of_take hr k (m := encI (m : Int)) (by rw [hl, List.take_left' hk.symm]))
  have HR := Lib.hid hr
  have HN := Lib.hid hn
  have HC := Lib.hid hc
  have H := Lib.hid h
  have HI := Lib.hid hi
  have HK := Lib.hid hk
  clear hr hn hc h hi hl hll hk hp
  go_enter Try.func6, Try.ntmps6
  go_wp2_with (first
    | (go_at_call 23; refine (DerC.open_any _ _ _ _ _ _ HR.out HN.out).mono ?_; rintro e w1 ⟨g, rfl, hg, hcur, hb1⟩)
    | (go_at_call 24; refine (DerC.int_any g _ w1 hcur (by have := H.out; have := HN.out; simp only [Option.getD_some]; omega)).mono ?_; rw [HI.out]; rintro e w2 ⟨rfl, hcur2, hg2⟩
       have b2 := btg hb1 hg2 hg
       clear hcur)
    | (go_at_call 32; refine (good_some g _ _ hcur2).mono ?_; rintro e w' ⟨rfl, rfl⟩)
    | (go_at_call 35; refine (left_some g _ _ hcur2).mono ?_; rintro e w' ⟨rfl, rfl⟩))
  refine region_begin 16 rfl (by kernel_rfl) ?_
  refine take_op 0 (v := ?vz0) rfl (by kernel_rfl) (by kernel_rfl) (by kernel_rfl) (fun _ _ _ h => h) (by rfl) (fun w' hS => ?hyz0) ?restz0
  case hyz0 => go_simp; rfl
  simp only [Act.put, List.setIfInBounds_toArray, List.set_cons_zero, List.set_cons_succ]
  refine take_op 1 (v := ?vz1) rfl (by kernel_rfl) (by kernel_rfl) (by kernel_rfl) (fun _ _ _ h => h) (by rfl) (fun w' hS => ?hyz1) ?restz1
  case hyz1 => go_simp; rfl
  simp only [Act.put, List.setIfInBounds_toArray, List.set_cons_zero, List.set_cons_succ]
  refine take_op 2 (v := ?vz2) rfl (by kernel_rfl) (by kernel_rfl) (by kernel_rfl) (fun _ _ _ h => h) (by rfl) (fun w' hS => ?hyz2) ?restz2
  case hyz2 => go_simp; rfl
  simp only [Act.put, List.setIfInBounds_toArray, List.set_cons_zero, List.set_cons_succ]
  refine take_op 3 (v := ?vz3) rfl (by kernel_rfl) (by kernel_rfl) (by kernel_rfl) (fun _ _ _ h => h) (by rfl) (fun w' hS => ?hyz3) ?restz3
  case hyz3 => go_simp; rfl
  simp only [Act.put, List.setIfInBounds_toArray, List.set_cons_zero, List.set_cons_succ]
  refine take_op 6 (v := ?vz6) rfl (by kernel_rfl) (by kernel_rfl) (by kernel_rfl) (fun _ _ _ h => h) (by rfl) (fun w' hS => ?hyz6) ?restz6
  case hyz6 => go_simp; rfl
  simp only [Act.put, List.setIfInBounds_toArray, List.set_cons_zero, List.set_cons_succ]
  refine take_op 7 (v := ?vz7) rfl (by kernel_rfl) (by kernel_rfl) (by kernel_rfl) (fun _ _ _ h => h) (by rfl) (fun w' hS => ?hyz7) ?restz7
  case hyz7 => go_simp; rfl
  simp only [Act.put, List.setIfInBounds_toArray, List.set_cons_zero, List.set_cons_succ]
  refine take_op 8 (v := ?vz8) rfl (by kernel_rfl) (by kernel_rfl) (by kernel_rfl) (fun _ _ _ h => h) (by rfl) (fun w' hS => ?hyz8) ?restz8
  case hyz8 => go_simp; rfl
  simp only [Act.put, List.setIfInBounds_toArray, List.set_cons_zero, List.set_cons_succ]
  refine take_op 9 (v := ?vz9) rfl (by kernel_rfl) (by kernel_rfl) (by kernel_rfl) (fun _ _ _ h => h) (by rfl) (fun w' hS => ?hyz9) ?restz9
  case hyz9 => have hh := since_str (P := Try.prog) Try.underlying22 Try.underlying5 Try.underlying9 (n := k) (c := c) (HT.out.below b2.drew) b2.drew.size HK.out w' hS; go_simp; rfl
  simp only [Act.put, List.setIfInBounds_toArray, List.set_cons_zero, List.set_cons_succ]
  refine call_op 4 rfl (by kernel_rfl) (by rfl) 14 #[.int .i64 (m : Int)] (by go_simp) ?_
  refine Calls.mono (DerR.code_int (m : Int) w2.drew) ?_
  rintro e w3 ⟨⟨q3, d3, rfl, hq3, hd3, hrd3⟩, hb3⟩
  refine ⟨_, rfl, hb3, ?_⟩
  have HRD3 := Lib.hid hrd3
  have B3 : Below w.heap.size w w3 := bt b2.drew hb3
  clear hrd3
  simp only [Act.put, List.setIfInBounds_toArray, List.set_cons_zero, List.set_cons_succ]
  refine take_op 5 (v := ?vz5) rfl (by kernel_rfl) (by kernel_rfl) (by kernel_rfl) (fun _ _ _ h => h) (by rfl) (fun w' hS => ?hyz5) ?restz5
  case hyz5 => have hh := since_str (P := Try.prog) Try.underlying22 Try.underlying5 Try.underlying9 (n := (encI (m : Int)).length) (c := d3) HRD3.out (Nat.le_refl _) rfl w' hS; go_simp; rfl
  simp only [Act.put, List.setIfInBounds_toArray, List.set_cons_zero, List.set_cons_succ]
  refine take_op 10 (v := ?vz10) rfl (by kernel_rfl) (by kernel_rfl) (by kernel_rfl) (fun _ _ _ h => h) (by rfl) (fun w' hS => ?hyz10) ?restz10
  case hyz10 => go_simp; rfl
  simp only [Act.put, List.setIfInBounds_toArray, List.set_cons_zero, List.set_cons_succ]
  refine take_op 11 (v := ?vz11) rfl (by kernel_rfl) (by kernel_rfl) (by kernel_rfl) (fun _ _ _ h => h) (by rfl) (fun w' hS => ?hyz11) ?restz11
  case hyz11 => go_simp; rfl
  simp only [Act.put, List.setIfInBounds_toArray, List.set_cons_zero, List.set_cons_succ]
  refine take_op 12 (v := ?vz12) rfl (by kernel_rfl) (by kernel_rfl) (by kernel_rfl) (fun _ _ _ h => h) (by rfl) (fun w' hS => ?hyz12) ?restz12
  case hyz12 => go_simp; rfl
  simp only [Act.put, List.setIfInBounds_toArray, List.set_cons_zero, List.set_cons_succ]
  refine call_op 13 rfl (by kernel_rfl) (by rfl) 22 #[] (by go_simp) ?_
  refine Calls.mono (DerK.known_any w3) ?_
  rintro e w4 ⟨rfl, hb4⟩
  refine ⟨_, rfl, hb4, ?_⟩
  have B4 : Below w.heap.size w w4 := bt B3 hb4
  simp only [Act.put, List.setIfInBounds_toArray, List.set_cons_zero, List.set_cons_succ]
  refine take_op 14 (v := ?vz14) rfl (by kernel_rfl) (by kernel_rfl) (by kernel_rfl) (fun _ _ _ h => h) (by rfl) (fun w' hS => ?hyz14) ?restz14
  case hyz14 => go_simp; rfl
  simp only [Act.put, List.setIfInBounds_toArray, List.set_cons_zero, List.set_cons_succ]
  refine take_op 15 (v := ?vz15) rfl (by kernel_rfl) (by kernel_rfl) (by kernel_rfl) (fun _ _ _ h => h) (by rfl) (fun w' hS => ?hyz15) ?restz15
  case hyz15 => go_simp; rfl
  simp only [Act.put, List.setIfInBounds_toArray, List.set_cons_zero, List.set_cons_succ]
  refine wpAnyH_done (by kernel_rfl) ?_ _
  go_wp2
  go_ret
  exact ⟨rfl, B4⟩

theorem one (A : Option Addr) (l : L) (c : Nat) (w : World) (hr : Rd w w.heap.size A (bvs l)) (hc : l.length ≤ c) (hm : c ≤ maxLen) :
    Calls Try.prog 6 #[.slice A l.length c] w fun e w' => e = .returned (.bool true) ∧ Below w.heap.size w w' := by
  by_cases h : 300 < l.length
  · exact one_out A l c w h
  · cases hx : intC (some l) with
    | mk m s =>
      cases s with
      | some r => exact one_good A l l.length c rfl hc w hr (by omega) m r hx
      | none =>
        refine one_bad A l l.length c rfl hc w hr (by omega) ?_
        have hm0 : m = 0 := by
          simp only [intC] at hx
          cases h2 : bodyC 2 (some l) with
          | none => simp only [h2] at hx; injection hx with h3 h4; exact h3.symm
          | some p =>
            simp only [h2] at hx
            cases h5 : numL p with
            | none => simp only [h5] at hx; injection hx with h3 h4; exact h3.symm
            | some y =>
              simp only [h5] at hx
              injection hx with h3 h4
              cases h6 : splitL 2 l with
              | none => rw [(body_none h6).1] at h2; cases h2
              | some z => rw [(body_some (b := z.1) (r := z.2) h6).2] at h4; cases h4
        rw [hx, hm0]

end Go.Proofs.Ytkkpcnibghndgaa.DerL
