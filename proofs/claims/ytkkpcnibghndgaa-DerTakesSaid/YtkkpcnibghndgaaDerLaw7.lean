/-
  The walk of the law that numbers, bytes, texts and rows are laid as the document lays them.
-/
import Derived.Test.YtkkpcnibghndgaaDerRef3
import Derived.Test.YtkkpcnibghndgaaRegion
set_option linter.unusedVariables false
namespace Go.Proofs.Ytkkpcnibghndgaa.DerR
open Go.RowKit Go.Proofs.Ytkkpcnibghndgaa.Mem Go.Proofs.Ytkkpcnibghndgaa.DerP
theorem code_int (n : Int) (w : World) : Calls Try.prog 14 #[.int .i64 n] w (Gives w (encI n)) :=
  (DerW.int_any n w).mono fun e w' ⟨v, he, ho, hb⟩ => he ▸ gives_own ho (DerL.enc_pos n) hb
theorem elem_pos (t : UInt8) (p : L) : 0 < (elem t p).length := by rw [length_elem]; omega
theorem code_octets (p : L) (A : Option Addr) (n c B : Nat) (w : World) (hr : Rd w B A (bvs p)) (hn : n = p.length) (hB : B ≤ w.heap.size) (hp : p.length ≤ 65535) :
    Calls Try.prog 16 #[.slice A n c] w (Gives w (elem 4 p)) :=
  (DerW.octets_any p A n c B w hr hn hB hp).mono fun e w' ⟨v, he, ho, hb⟩ => he ▸ gives_own ho (elem_pos 4 p) hb
theorem code_text (l : L) (w : World) (hl : l.length ≤ 65535) : Calls Try.prog 18 #[.string ⟨l.toArray⟩] w (Gives w (elem 27 l)) :=
  (DerW.text_any l w hl).mono fun e w' ⟨v, he, ho, hb⟩ => he ▸ gives_own ho (elem_pos 27 l) hb
theorem code_wrap (t : UInt8) (ls : List L) (A : Option Addr) (m c B : Nat) (w : World) (hr : DerW.Rds w B A ls) (hm : m = ls.length) (hB : B ≤ w.heap.size) (hl : ls.flatten.length ≤ 65535) (hc : ls.length ≤ 1000000) :
    Calls Try.prog 20 #[.int .u8 t.toNat, .slice A m c] w (Gives w (elem t ls.flatten)) :=
  (DerW.wrap_any t ls A m c B w hr hm hB hl hc).mono fun e w' ⟨v, he, ho, hb⟩ => he ▸ gives_own ho (elem_pos t _) hb
end Go.Proofs.Ytkkpcnibghndgaa.DerR
namespace Go.Proofs.Ytkkpcnibghndgaa.DerL
open Go.RowKit Go.Proofs.Ytkkpcnibghndgaa.Mem Go.Proofs.Ytkkpcnibghndgaa.DerP Go.Proofs.Ytkkpcnibghndgaa.Reg

set_option maxRecDepth 100000 in
set_option maxHeartbeats 4000000 in
theorem lays_in (n : Int) (A : Option Addr) (p : L) (c : Nat) (s : L) (t : UInt8) (B : Option Addr) (ls : List L) (m d : Nat) (hm : m = ls.length) (w : World) (hr : Rd w w.heap.size A (bvs p)) (hl : DerW.Rds w w.heap.size B ls)
    (h1 : p.length ≤ 2000) (h2 : s.length ≤ 2000) (hsz : ∀ l ∈ ls, l.length ≤ 140737488351232) :
    Calls Try.prog 3 #[.int .i64 n, .slice A p.length c, .string ⟨s.toArray⟩, .int .u8 t.toNat, .slice B m d] w fun e w' => e = .returned (.bool true) ∧ Below w.heap.size w w' := by
  have g1 : decide ((2000 : Int) < (p.length : Int)) = false := by simp only [decide_eq_false_iff_not]; omega
  have g2 : decide ((2000 : Int) < (s.length : Int)) = false := by simp only [decide_eq_false_iff_not]; omega
  have HR := Lib.hid hr
  have HL := Lib.hid hl
  have H1 := Lib.hid h1
  have H2 := Lib.hid h2
  have HM := Lib.hid hm
  have HZ := Lib.hid hsz
  have hpa := Lib.hid (DerW.pre_all ls)
  clear hr hl h1 h2 hm hsz
  go_enter Try.func3, Try.ntmps3
  go_wp2
  go_loop [11, 12] (fun kv i => ∃ j : Nat, j ≤ m ∧ i = .int .i64 (j : Int) ∧ kv = .int .i64 ((DerW.pre ls j + j : Nat) : Int) ∧ DerW.pre ls j + j ≤ 3000) (fun _ i => m - (intOf i).toNat)
  case atStart => exact ⟨0, by omega, rfl, rfl, by simp [DerW.pre]⟩
  case round =>
    obtain ⟨j, hj, rfl, rfl, hle⟩ := hrel
    by_cases hlt : j < m
    · obtain ⟨l, hx⟩ : ∃ l, ls[j]? = some l := ⟨_, List.getElem?_eq_getElem (by have := HM.out; omega)⟩
      obtain ⟨b, o, rfl, hb, A', c', hcell, hrd⟩ := HL.out.at_ hx
      have hs := DerW.pre_succ ls j l hx
      have hz := HZ.out l (List.mem_of_getElem? hx)
      have HS := Lib.hid hs
      have hz' : (l.length : Int) ≤ 140737488351232 := by omega
      have hle' : ((DerW.pre ls j + j : Nat) : Int) ≤ 3000 := by omega
      clear hs hx hrd
      generalize hy : DerW.pre ls j = y at *
      have HY := Lib.hid hy
      clear hy
      by_cases hbig : 3000 < y + j + 1 + l.length
      · have g3 : decide ((3000 : Int) < ((y : Int) + (j : Int)) + 1 + (l.length : Int)) = true := by simp only [decide_eq_true_eq]; omega
        clear hbig
        go_wp2
        go_ret
        exact ⟨rfl, Below.refl _ _⟩
      · have g3 : decide ((3000 : Int) < ((y : Int) + (j : Int)) + 1 + (l.length : Int)) = false := by simp only [decide_eq_false_iff_not]; omega
        have HB := Lib.hid hbig
        clear hbig
        go_wp2
        have hb' := HB.out
        refine ⟨⟨j + 1, by omega, by go_num, ?_, by rw [HS.out]; omega⟩, by simp [intOf]; omega⟩
        rw [HS.out]
        congr 1
        omega
    · obtain rfl : j = m := by omega
      have H3 := Lib.hid (show ls.flatten.length ≤ 3000 by have := hpa.out; have h := HM.out; rw [← h] at this; omega)
      have H4 := Lib.hid (show ls.length ≤ 3000 by have h := HM.out; omega)
      clear hj hlt
      go_wp2
      have B0 : Below w.heap.size w w.drew := (Below.refl _ _).drew
      refine region_begin 40 rfl (by kernel_rfl) ?_
      refine take_op 0 (v := ?vz0) rfl (by kernel_rfl) (by kernel_rfl) (by kernel_rfl) (fun _ _ _ h => h) (by rfl) (fun w' hS => ?hyz0) ?restz0
      case hyz0 => go_simp; rfl
      simp only [Act.put, List.setIfInBounds_toArray, List.set_cons_zero, List.set_cons_succ]
      refine take_op 3 (v := ?vz3) rfl (by kernel_rfl) (by kernel_rfl) (by kernel_rfl) (fun _ _ _ h => h) (by rfl) (fun w' hS => ?hyz3) ?restz3
      case hyz3 => go_simp; rfl
      simp only [Act.put, List.setIfInBounds_toArray, List.set_cons_zero, List.set_cons_succ]
      refine call_op 1 rfl (by kernel_rfl) (by rfl) 14 #[.int .i64 n] (by go_simp) ?_
      refine Calls.mono (DerR.code_int n w.drew) ?_
      rintro e w1 ⟨⟨q1, d1, rfl, hq1, hd1, hrd1⟩, hb1⟩
      refine ⟨_, rfl, hb1, ?_⟩
      have HRD1 := Lib.hid hrd1
      have B1 : Below w.heap.size w w1 := bt B0 hb1
      clear hrd1
      simp only [Act.put, List.setIfInBounds_toArray, List.set_cons_zero, List.set_cons_succ]
      refine take_op 2 (v := ?vz2) rfl (by kernel_rfl) (by kernel_rfl) (by kernel_rfl) (fun _ _ _ h => h) (by rfl) (fun w' hS => ?hyz2) ?restz2
      case hyz2 => have hh := since_str (P := Try.prog) Try.underlying22 Try.underlying5 Try.underlying9 (n := (encI n).length) (c := d1) HRD1.out (Nat.le_refl _) rfl w' hS; go_simp; rfl
      simp only [Act.put, List.setIfInBounds_toArray, List.set_cons_zero, List.set_cons_succ]
      refine call_op 4 rfl (by kernel_rfl) (by rfl) 15 #[.int .i64 n] (by go_simp) ?_
      refine Calls.mono (DerR.int_any n w1) ?_
      rintro e w2 ⟨⟨q2, d2, rfl, hq2, hd2, hrd2⟩, hb2⟩
      refine ⟨_, rfl, hb2, ?_⟩
      have HRD2 := Lib.hid hrd2
      have B2 : Below w.heap.size w w2 := bt B1 hb2
      clear hrd2
      simp only [Act.put, List.setIfInBounds_toArray, List.set_cons_zero, List.set_cons_succ]
      refine take_op 5 (v := ?vz5) rfl (by kernel_rfl) (by kernel_rfl) (by kernel_rfl) (fun _ _ _ h => h) (by rfl) (fun w' hS => ?hyz5) ?restz5
      case hyz5 => have hh := since_str (P := Try.prog) Try.underlying22 Try.underlying5 Try.underlying9 (n := (encI n).length) (c := d2) HRD2.out (Nat.le_refl _) rfl w' hS; go_simp; rfl
      simp only [Act.put, List.setIfInBounds_toArray, List.set_cons_zero, List.set_cons_succ]
      refine take_op 6 (v := ?vz6) rfl (by kernel_rfl) (by kernel_rfl) (by kernel_rfl) (fun _ _ _ h => h) (by rfl) (fun w' hS => ?hyz6) ?restz6
      case hyz6 => go_simp; rfl
      simp only [Act.put, List.setIfInBounds_toArray, List.set_cons_zero, List.set_cons_succ]
      refine take_op 7 (v := ?vz7) rfl (by kernel_rfl) (by kernel_rfl) (by kernel_rfl) (fun _ _ _ h => h) (by rfl) (fun w' hS => ?hyz7) ?restz7
      case hyz7 => go_simp; rfl
      simp only [Act.put, List.setIfInBounds_toArray, List.set_cons_zero, List.set_cons_succ]
      refine take_op 8 (v := ?vz8) rfl (by kernel_rfl) (by kernel_rfl) (by kernel_rfl) (fun _ _ _ h => h) (by rfl) (fun w' hS => ?hyz8) ?restz8
      case hyz8 => go_simp; rfl
      simp only [Act.put, List.setIfInBounds_toArray, List.set_cons_zero, List.set_cons_succ]
      refine take_op 11 (v := ?vz11) rfl (by kernel_rfl) (by kernel_rfl) (by kernel_rfl) (fun _ _ _ h => h) (by rfl) (fun w' hS => ?hyz11) ?restz11
      case hyz11 => go_simp; rfl
      simp only [Act.put, List.setIfInBounds_toArray, List.set_cons_zero, List.set_cons_succ]
      refine call_op 9 rfl (by kernel_rfl) (by rfl) 16 #[.slice A p.length c] (by go_simp) ?_
      refine Calls.mono (DerR.code_octets p A _ c w.heap.size w2 (HR.out.below B2) rfl B2.size (by have := H1.out; omega)) ?_
      rintro e w3 ⟨⟨q3, d3, rfl, hq3, hd3, hrd3⟩, hb3⟩
      refine ⟨_, rfl, hb3, ?_⟩
      have HRD3 := Lib.hid hrd3
      have B3 : Below w.heap.size w w3 := bt B2 hb3
      clear hrd3
      simp only [Act.put, List.setIfInBounds_toArray, List.set_cons_zero, List.set_cons_succ]
      refine take_op 10 (v := ?vz10) rfl (by kernel_rfl) (by kernel_rfl) (by kernel_rfl) (fun _ _ _ h => h) (by rfl) (fun w' hS => ?hyz10) ?restz10
      case hyz10 => have hh := since_str (P := Try.prog) Try.underlying22 Try.underlying5 Try.underlying9 (n := (elem 4 p).length) (c := d3) HRD3.out (Nat.le_refl _) rfl w' hS; go_simp; rfl
      simp only [Act.put, List.setIfInBounds_toArray, List.set_cons_zero, List.set_cons_succ]
      refine call_op 12 rfl (by kernel_rfl) (by rfl) 17 #[.slice A p.length c] (by go_simp) ?_
      refine Calls.mono (DerR.octets_any p A _ c w.heap.size w3 (HR.out.below B3) rfl B3.size (by have := H1.out; omega)) ?_
      rintro e w4 ⟨⟨q4, d4, rfl, hq4, hd4, hrd4⟩, hb4⟩
      refine ⟨_, rfl, hb4, ?_⟩
      have HRD4 := Lib.hid hrd4
      have B4 : Below w.heap.size w w4 := bt B3 hb4
      clear hrd4
      simp only [Act.put, List.setIfInBounds_toArray, List.set_cons_zero, List.set_cons_succ]
      refine take_op 13 (v := ?vz13) rfl (by kernel_rfl) (by kernel_rfl) (by kernel_rfl) (fun _ _ _ h => h) (by rfl) (fun w' hS => ?hyz13) ?restz13
      case hyz13 => have hh := since_str (P := Try.prog) Try.underlying22 Try.underlying5 Try.underlying9 (n := (elem 4 p).length) (c := d4) HRD4.out (Nat.le_refl _) rfl w' hS; go_simp; rfl
      simp only [Act.put, List.setIfInBounds_toArray, List.set_cons_zero, List.set_cons_succ]
      refine take_op 14 (v := ?vz14) rfl (by kernel_rfl) (by kernel_rfl) (by kernel_rfl) (fun _ _ _ h => h) (by rfl) (fun w' hS => ?hyz14) ?restz14
      case hyz14 => go_simp; rfl
      simp only [Act.put, List.setIfInBounds_toArray, List.set_cons_zero, List.set_cons_succ]
      refine take_op 15 (v := ?vz15) rfl (by kernel_rfl) (by kernel_rfl) (by kernel_rfl) (fun _ _ _ h => h) (by rfl) (fun w' hS => ?hyz15) ?restz15
      case hyz15 => go_simp; rfl
      simp only [Act.put, List.setIfInBounds_toArray, List.set_cons_zero, List.set_cons_succ]
      refine take_op 16 (v := ?vz16) rfl (by kernel_rfl) (by kernel_rfl) (by kernel_rfl) (fun _ _ _ h => h) (by rfl) (fun w' hS => ?hyz16) ?restz16
      case hyz16 => go_simp; rfl
      simp only [Act.put, List.setIfInBounds_toArray, List.set_cons_zero, List.set_cons_succ]
      refine take_op 17 (v := ?vz17) rfl (by kernel_rfl) (by kernel_rfl) (by kernel_rfl) (fun _ _ _ h => h) (by rfl) (fun w' hS => ?hyz17) ?restz17
      case hyz17 => go_simp; rfl
      simp only [Act.put, List.setIfInBounds_toArray, List.set_cons_zero, List.set_cons_succ]
      refine take_op 20 (v := ?vz20) rfl (by kernel_rfl) (by kernel_rfl) (by kernel_rfl) (fun _ _ _ h => h) (by rfl) (fun w' hS => ?hyz20) ?restz20
      case hyz20 => go_simp; rfl
      simp only [Act.put, List.setIfInBounds_toArray, List.set_cons_zero, List.set_cons_succ]
      refine call_op 18 rfl (by kernel_rfl) (by rfl) 18 #[.string ⟨s.toArray⟩] (by go_simp) ?_
      refine Calls.mono (DerR.code_text s w4 (by have := H2.out; omega)) ?_
      rintro e w5 ⟨⟨q5, d5, rfl, hq5, hd5, hrd5⟩, hb5⟩
      refine ⟨_, rfl, hb5, ?_⟩
      have HRD5 := Lib.hid hrd5
      have B5 : Below w.heap.size w w5 := bt B4 hb5
      clear hrd5
      simp only [Act.put, List.setIfInBounds_toArray, List.set_cons_zero, List.set_cons_succ]
      refine take_op 19 (v := ?vz19) rfl (by kernel_rfl) (by kernel_rfl) (by kernel_rfl) (fun _ _ _ h => h) (by rfl) (fun w' hS => ?hyz19) ?restz19
      case hyz19 => have hh := since_str (P := Try.prog) Try.underlying22 Try.underlying5 Try.underlying9 (n := (elem 27 s).length) (c := d5) HRD5.out (Nat.le_refl _) rfl w' hS; go_simp; rfl
      simp only [Act.put, List.setIfInBounds_toArray, List.set_cons_zero, List.set_cons_succ]
      refine call_op 21 rfl (by kernel_rfl) (by rfl) 19 #[.string ⟨s.toArray⟩] (by go_simp) ?_
      refine Calls.mono (DerR.text_any s w5 (by have := H2.out; omega)) ?_
      rintro e w6 ⟨⟨q6, d6, rfl, hq6, hd6, hrd6⟩, hb6⟩
      refine ⟨_, rfl, hb6, ?_⟩
      have HRD6 := Lib.hid hrd6
      have B6 : Below w.heap.size w w6 := bt B5 hb6
      clear hrd6
      simp only [Act.put, List.setIfInBounds_toArray, List.set_cons_zero, List.set_cons_succ]
      refine take_op 22 (v := ?vz22) rfl (by kernel_rfl) (by kernel_rfl) (by kernel_rfl) (fun _ _ _ h => h) (by rfl) (fun w' hS => ?hyz22) ?restz22
      case hyz22 => have hh := since_str (P := Try.prog) Try.underlying22 Try.underlying5 Try.underlying9 (n := (elem 27 s).length) (c := d6) HRD6.out (Nat.le_refl _) rfl w' hS; go_simp; rfl
      simp only [Act.put, List.setIfInBounds_toArray, List.set_cons_zero, List.set_cons_succ]
      refine take_op 23 (v := ?vz23) rfl (by kernel_rfl) (by kernel_rfl) (by kernel_rfl) (fun _ _ _ h => h) (by rfl) (fun w' hS => ?hyz23) ?restz23
      case hyz23 => go_simp; rfl
      simp only [Act.put, List.setIfInBounds_toArray, List.set_cons_zero, List.set_cons_succ]
      refine take_op 24 (v := ?vz24) rfl (by kernel_rfl) (by kernel_rfl) (by kernel_rfl) (fun _ _ _ h => h) (by rfl) (fun w' hS => ?hyz24) ?restz24
      case hyz24 => go_simp; rfl
      simp only [Act.put, List.setIfInBounds_toArray, List.set_cons_zero, List.set_cons_succ]
      refine take_op 25 (v := ?vz25) rfl (by kernel_rfl) (by kernel_rfl) (by kernel_rfl) (fun _ _ _ h => h) (by rfl) (fun w' hS => ?hyz25) ?restz25
      case hyz25 => go_simp; rfl
      simp only [Act.put, List.setIfInBounds_toArray, List.set_cons_zero, List.set_cons_succ]
      refine take_op 26 (v := ?vz26) rfl (by kernel_rfl) (by kernel_rfl) (by kernel_rfl) (fun _ _ _ h => h) (by rfl) (fun w' hS => ?hyz26) ?restz26
      case hyz26 => go_simp; rfl
      simp only [Act.put, List.setIfInBounds_toArray, List.set_cons_zero, List.set_cons_succ]
      refine take_op 27 (v := ?vz27) rfl (by kernel_rfl) (by kernel_rfl) (by kernel_rfl) (fun _ _ _ h => h) (by rfl) (fun w' hS => ?hyz27) ?restz27
      case hyz27 => go_simp; rfl
      simp only [Act.put, List.setIfInBounds_toArray, List.set_cons_zero, List.set_cons_succ]
      refine take_op 30 (v := ?vz30) rfl (by kernel_rfl) (by kernel_rfl) (by kernel_rfl) (fun _ _ _ h => h) (by rfl) (fun w' hS => ?hyz30) ?restz30
      case hyz30 => go_simp; rfl
      simp only [Act.put, List.setIfInBounds_toArray, List.set_cons_zero, List.set_cons_succ]
      refine take_op 31 (v := ?vz31) rfl (by kernel_rfl) (by kernel_rfl) (by kernel_rfl) (fun _ _ _ h => h) (by rfl) (fun w' hS => ?hyz31) ?restz31
      case hyz31 => go_simp; rfl
      simp only [Act.put, List.setIfInBounds_toArray, List.set_cons_zero, List.set_cons_succ]
      refine call_op 28 rfl (by kernel_rfl) (by rfl) 20 #[.int .u8 t.toNat, .slice B j d] (by go_simp) ?_
      refine Calls.mono (DerR.code_wrap t ls B j d w.heap.size w6 (HL.out.below B6) HM.out B6.size (by have := H3.out; omega) (by have := H4.out; omega)) ?_
      rintro e w7 ⟨⟨q7, d7, rfl, hq7, hd7, hrd7⟩, hb7⟩
      refine ⟨_, rfl, hb7, ?_⟩
      have HRD7 := Lib.hid hrd7
      have B7 : Below w.heap.size w w7 := bt B6 hb7
      clear hrd7
      simp only [Act.put, List.setIfInBounds_toArray, List.set_cons_zero, List.set_cons_succ]
      refine take_op 29 (v := ?vz29) rfl (by kernel_rfl) (by kernel_rfl) (by kernel_rfl) (fun _ _ _ h => h) (by rfl) (fun w' hS => ?hyz29) ?restz29
      case hyz29 => have hh := since_str (P := Try.prog) Try.underlying22 Try.underlying5 Try.underlying9 (n := (elem t ls.flatten).length) (c := d7) HRD7.out (Nat.le_refl _) rfl w' hS; go_simp; rfl
      simp only [Act.put, List.setIfInBounds_toArray, List.set_cons_zero, List.set_cons_succ]
      refine call_op 32 rfl (by kernel_rfl) (by rfl) 21 #[.int .u8 t.toNat, .slice B j d] (by go_simp) ?_
      refine Calls.mono (DerR.wrap_any t ls B j d w.heap.size w7 (HL.out.below B7) HM.out B7.size (by have := H3.out; omega) (by have := H4.out; omega)) ?_
      rintro e w8 ⟨⟨q8, d8, rfl, hq8, hd8, hrd8⟩, hb8⟩
      refine ⟨_, rfl, hb8, ?_⟩
      have HRD8 := Lib.hid hrd8
      have B8 : Below w.heap.size w w8 := bt B7 hb8
      clear hrd8
      simp only [Act.put, List.setIfInBounds_toArray, List.set_cons_zero, List.set_cons_succ]
      refine take_op 33 (v := ?vz33) rfl (by kernel_rfl) (by kernel_rfl) (by kernel_rfl) (fun _ _ _ h => h) (by rfl) (fun w' hS => ?hyz33) ?restz33
      case hyz33 => have hh := since_str (P := Try.prog) Try.underlying22 Try.underlying5 Try.underlying9 (n := (elem t ls.flatten).length) (c := d8) HRD8.out (Nat.le_refl _) rfl w' hS; go_simp; rfl
      simp only [Act.put, List.setIfInBounds_toArray, List.set_cons_zero, List.set_cons_succ]
      refine take_op 34 (v := ?vz34) rfl (by kernel_rfl) (by kernel_rfl) (by kernel_rfl) (fun _ _ _ h => h) (by rfl) (fun w' hS => ?hyz34) ?restz34
      case hyz34 => go_simp; rfl
      simp only [Act.put, List.setIfInBounds_toArray, List.set_cons_zero, List.set_cons_succ]
      refine take_op 35 (v := ?vz35) rfl (by kernel_rfl) (by kernel_rfl) (by kernel_rfl) (fun _ _ _ h => h) (by rfl) (fun w' hS => ?hyz35) ?restz35
      case hyz35 => go_simp; rfl
      simp only [Act.put, List.setIfInBounds_toArray, List.set_cons_zero, List.set_cons_succ]
      refine take_op 36 (v := ?vz36) rfl (by kernel_rfl) (by kernel_rfl) (by kernel_rfl) (fun _ _ _ h => h) (by rfl) (fun w' hS => ?hyz36) ?restz36
      case hyz36 => go_simp; rfl
      simp only [Act.put, List.setIfInBounds_toArray, List.set_cons_zero, List.set_cons_succ]
      refine call_op 37 rfl (by kernel_rfl) (by rfl) 22 #[] (by go_simp) ?_
      refine Calls.mono (DerK.known_any w8) ?_
      rintro e w9 ⟨rfl, hb9⟩
      refine ⟨_, rfl, hb9, ?_⟩
      have B9 : Below w.heap.size w w9 := bt B8 hb9
      simp only [Act.put, List.setIfInBounds_toArray, List.set_cons_zero, List.set_cons_succ]
      refine take_op 38 (v := ?vz38) rfl (by kernel_rfl) (by kernel_rfl) (by kernel_rfl) (fun _ _ _ h => h) (by rfl) (fun w' hS => ?hyz38) ?restz38
      case hyz38 => go_simp; rfl
      simp only [Act.put, List.setIfInBounds_toArray, List.set_cons_zero, List.set_cons_succ]
      refine take_op 39 (v := ?vz39) rfl (by kernel_rfl) (by kernel_rfl) (by kernel_rfl) (fun _ _ _ h => h) (by rfl) (fun w' hS => ?hyz39) ?restz39
      case hyz39 => go_simp; rfl
      simp only [Act.put, List.setIfInBounds_toArray, List.set_cons_zero, List.set_cons_succ]
      refine wpAnyH_done (by kernel_rfl) ?_ _

      go_wp2
      go_ret
      exact ⟨rfl, B9⟩

set_option maxRecDepth 100000 in
theorem lays (n : Int) (A : Option Addr) (p : L) (c : Nat) (s : ByteArray) (t : UInt8) (B : Option Addr) (ls : List L) (d : Nat) (w : World) (hn : (Lit.int .i64 n).wf = true) (hr : Rd w w.heap.size A (bvs p)) (hc : p.length ≤ c) (hm : c ≤ maxLen) (hs : s.size ≤ maxLen)
    (hl : DerW.Rds w w.heap.size B ls) (hd : ls.length ≤ d) (hm2 : d ≤ maxLen) (hsz : ∀ l ∈ ls, List.length l ≤ 140737488351232) :
    Calls Try.prog 3 #[.int .i64 n, .slice A p.length c, .string s, .int .u8 t.toNat, .slice B ls.length d] w fun e w' => e = .returned (.bool true) ∧ Below w.heap.size w w' := by
  by_cases h1 : 2000 < p.length
  · have g1 : decide ((2000 : Int) < (p.length : Int)) = true := by simp only [decide_eq_true_eq]; omega
    clear hn hr hc hm hs hl hd hm2 hsz h1
    go_enter Try.func3, Try.ntmps3
    go_wp2
    go_ret
    exact ⟨rfl, Below.refl _ _⟩
  · by_cases h2 : 2000 < s.size
    · have g1 : decide ((2000 : Int) < (p.length : Int)) = false := by simp only [decide_eq_false_iff_not]; omega
      have g2 : decide ((2000 : Int) < (s.size : Int)) = true := by simp only [decide_eq_true_eq]; omega
      clear hn hr hc hm hs hl hd hm2 hsz h1 h2
      go_enter Try.func3, Try.ntmps3
      go_wp2
      go_ret
      exact ⟨rfl, Below.refl _ _⟩
    · have hsz' : s.size = s.data.toList.length := by rw [Array.length_toList]; rfl
      rw [bytes_eta s]
      exact lays_in n A p c s.data.toList t B ls ls.length d rfl w hr hl (by omega) (by omega) hsz

end Go.Proofs.Ytkkpcnibghndgaa.DerL
