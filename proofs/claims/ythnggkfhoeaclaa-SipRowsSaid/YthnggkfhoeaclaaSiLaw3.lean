/-
  The law of rows: how bytes are parted does not matter.
-/
import Derived.Test.YthnggkfhoeaclaaSiLaw1
set_option linter.unusedVariables false
namespace Go.Proofs.Ythnggkfhoeaclaa.SiL
open Go.RowKit Go.Proofs.Ythnggkfhoeaclaa.Mem Go.Proofs.Ythnggkfhoeaclaa.Si

set_option maxRecDepth 100000 in
set_option maxHeartbeats 1600000 in
theorem rows_law (A : Option Addr) (l : List UInt8) (c : Nat) (A2 : Option Addr) (rows : List (List UInt8)) (cc : Nat) (w : World) (hr : Rd w w.heap.size A (bvs l)) (hc : l.length ≤ c) (hm : c ≤ maxLen) (hr2 : Si.Rows w w.heap.size A2 rows) (hc2 : rows.length ≤ cc) (hm2 : cc ≤ maxLen) (hs : ∀ l ∈ rows, List.length l ≤ 140737488351232) :
    Calls Try.prog 4 #[.slice A l.length c, .slice A2 rows.length cc] w fun e w' => e = .returned (.bool true) ∧ Below w.heap.size w w' := by
  obtain ⟨k, ek⟩ : ∃ n, n = l.length := ⟨_, rfl⟩
  obtain ⟨n, en⟩ : ∃ n, n = rows.length := ⟨_, rfl⟩
  rw [← ek, ← en]
  obtain ⟨ib, hi0, hz0, hs0, hb0⟩ := info_parts u8_info
  obtain ⟨ks, eks⟩ : ∃ ks, ks = ksOf l := ⟨_, rfl⟩
  obtain ⟨x, ex⟩ : ∃ x, x = sumOf ks (flat rows) := ⟨_, rfl⟩
  have ck : ∀ w1, Below w.heap.size w w1 → Calls Try.prog 8 #[.slice A k c] w1 fun e w' => e = .returned (.agg (key16 ks)) ∧ Below w1.heap.size w1 w' := fun w1 h => by rw [eks]; exact key_any A k c l w1 ek ((hr.below h).more h.size)
  have cs : ∀ w1, Below w.heap.size w w1 → n ≤ 501 → (flat rows).length ≤ 1500 → Calls Try.prog 7 #[.agg (key16 ks), .slice A2 n cc] w1 fun e w' => e = .returned (wv x) ∧ Below w1.heap.size w1 w' := fun w1 h h1 h2 => by rw [ex]; exact sum_any ks A2 n cc rows w1 en (by omega) (by omega) ((hr2.below h).more h.size)
  have co : ∀ (w1 : World) (A3 : Option Addr) (o c3 : Nat), Rd w1 w1.heap.size A3 (bvs (flat rows)) → o = (flat rows).length → o ≤ 1500 → Calls Try.prog 7 #[.agg (key16 ks), .slice (some ⟨w1.heap.size, 0, none⟩) 1 1] (w1.alloc (.cells #[.slice A3 o c3] 22)) fun e w' => e = .returned (wv x) ∧ Below w1.heap.size w1 w' := fun w1 A3 o c3 h h1 h2 => by rw [ex]; exact sum_one ks A3 o c3 (flat rows) w1 h1 (by omega) h
  have CK := Lib.hid ck; clear ck
  have CS := Lib.hid cs; clear cs
  have CO := Lib.hid co; clear co
  obtain ⟨vs, hv, hrd, hrows⟩ := hr2
  have HRD := Lib.hid hrd; clear hrd
  have HROWS := Lib.hid hrows; clear hrows
  have HN := Lib.hid en; clear en
  have HSZ := Lib.hid hs; clear hs
  clear hv ek eks ex hc hm hc2 hm2 hr
  go_enter Try.func4, Try.ntmps4
  go_wp2_with fail
  go_loopw [5, 6] (fun v iv wr => ∃ i : Nat, i ≤ n ∧ i ≤ 501 ∧ iv = .int .i64 (i : Int) ∧ wr.ownsRow w.heap.size 5 1 v (flat (rows.take i)).length (bvs (flat (rows.take i))) ∧ Below w.heap.size w wr ∧ (flat (rows.take i)).length ≤ 1500) (fun _ iv _ => n - (intOf iv).toNat)
  case atStart => exact ⟨0, Nat.zero_le _, by decide, rfl, ⟨rfl, .inl ⟨rfl, rfl⟩⟩, Below.refl _ _, by simp [flat]⟩
  case round =>
    obtain ⟨i, hi, hi5, rfl, hown, hb, hlen⟩ := hrel
    obtain ⟨o, eo⟩ : ∃ o, o = (flat (rows.take i)).length := ⟨_, rfl⟩
    rw [← eo] at hown hlen
    have HO := Lib.hid hown; clear hown
    have HB := Lib.hid hb; clear hb
    obtain ⟨A3, c3, rfl, hc3, hr3⟩ := own_read HO.out
    have HR3 := Lib.hid hr3; clear hr3
    have HC3 := Lib.hid hc3; clear hc3
    have EO := Lib.hid eo; clear eo
    have e2 : (0 : Int) ≤ (i : Int) := by omega
    have e4 : (o : Int) ≤ 1500 := by omega
    by_cases hx : i = n
    · have he : rows.take i = rows := List.take_of_length_le (by have := HN.out; omega)
      have hl2 : o = (flat rows).length := by rw [EO.out, he]
      have hl3 := HR3.out
      rw [he] at hl3
      subst hx
      have c1 := CK.out wr HB.out
      have HR4 := Lib.hid (⟨hl3, hl2⟩ : Rd wr wr.heap.size A3 (bvs (flat rows)) ∧ o = (flat rows).length); clear hl3 hl2
      have HLN := Lib.hid hlen; clear hlen
      have HI5 := Lib.hid hi5; clear hi5
      clear he hi
      go_wp2_with (first
        | (go_at_call 8; refine Calls.mono c1 ?_; rintro e w1 ⟨rfl, hb1⟩; clear c1; have H1 := bt HB.out hb1; have R1 := (HR4.out.1.below hb1).more hb1.size; have c2 := CS.out w1 H1 HI5.out (by have := HR4.out.2; have := HLN.out; omega); have HB1 := Lib.hid H1; have HR1 := Lib.hid R1; clear hb1 H1 R1)
        | (go_at_call 7; refine Calls.mono c2 ?_; rintro e w2 ⟨rfl, hb2⟩; clear c2; have H2 := bt HB1.out hb2; have R2 := (HR1.out.below hb2).more hb2.size; have c3' := CK.out w2 H2; have HB2 := Lib.hid H2; have HR2 := Lib.hid R2; clear hb2 H2 R2)
        | (go_at_call 8; refine Calls.mono c3' ?_; rintro e w3 ⟨rfl, hb3⟩; clear c3'; have H3 := bt HB2.out hb3; have R3 := (HR2.out.below hb3).more hb3.size; have c4 := CO.out w3 A3 o c3 R3 HR4.out.2 HLN.out; have HB3 := Lib.hid H3; clear hb3 H3 R3)
        | (go_at_call 7; refine Calls.mono c4 ?_; rintro e w4 ⟨rfl, hb4⟩; clear c4; have H4 := bt HB3.out hb4; have c5 := known_any w4; have HB4 := Lib.hid H4; clear hb4 H4)
        | (go_at_call 10; refine Calls.mono c5 ?_; rintro e w5 ⟨rfl, hb5⟩; clear c5; have H5 := bt HB4.out hb5; have HB5 := Lib.hid H5; clear hb5 H5))
      go_ret
      exact ⟨rfl, HB5.out⟩
    · have hlt : i < n := by omega
      have hll : i < rows.length := by have := HN.out; omega
      have e1 : (i : Int) < (n : Int) := by omega
      have e3 : (i : Int) ≤ 501 := by omega
      obtain ⟨row, erow⟩ : ∃ r, r = rows[i] := ⟨_, rfl⟩
      have hmem : row ∈ rows := by rw [erow]; exact List.getElem_mem hll
      have hrl := HSZ.out row hmem
      obtain ⟨Ai, ci, hvi, hri⟩ := HROWS.out i hll
      rw [← erow] at hvi hri
      have enext : flat (rows.take (i + 1)) = flat (rows.take i) ++ row := by rw [erow]; exact flat_next rows i hll
      have HEN := Lib.hid enext; clear enext
      obtain ⟨b, oo, rfl, hbB, hcell⟩ := HRD.out.at_ hvi
      obtain ⟨m, em⟩ : ∃ m, m = row.length := ⟨_, rfl⟩
      rw [← em] at hcell hrl
      have e5 : (m : Int) ≤ 140737488351232 := by omega
      have hce : wr.cell? ⟨b, oo + i, none⟩ = some (.slice Ai m ci) := (HB.out.cell (p := ⟨b, oo + i, none⟩) hbB).trans hcell
      have HRI := Lib.hid (hri.below HB.out); clear hri
      have HM := Lib.hid em; clear em
      have HX := Lib.hid hx; clear hx
      clear hvi hcell erow hmem hll
      have ht : decide ((1500 : Int) < (o : Int) + (m : Int)) = true ∨ (decide ((1500 : Int) < (o : Int) + (m : Int)) = false ∧ decide ((500 : Int) < (i : Int)) = true) ∨ (decide ((1500 : Int) < (o : Int) + (m : Int)) = false ∧ decide ((500 : Int) < (i : Int)) = false ∧ o + m ≤ 1500 ∧ i ≤ 500) := by
        by_cases h1 : (1500 : Int) < (o : Int) + (m : Int)
        · exact .inl (by simp [h1])
        · by_cases h2 : (500 : Int) < (i : Int)
          · exact .inr (.inl ⟨by simp; omega, by simp [h2]⟩)
          · exact .inr (.inr ⟨by simp; omega, by simp; omega, by omega, by omega⟩)
      rcases ht with t1 | ⟨t1, t2⟩ | ⟨t1, t2, t3, t4⟩
      · go_wp2_with fail
        go_ret
        exact ⟨rfl, HB.out⟩
      · go_wp2_with fail
        go_ret
        exact ⟨rfl, HB.out⟩
      · have t3' : (o : Int) + (m : Int) ≤ 1500 := by omega
        have t4' : (i : Int) ≤ 500 := by omega
        have T3 := Lib.hid t3; clear t3
        have T4 := Lib.hid t4; clear t4
        go_wp2_with (first | (at_builtin; refine wpList_append_rd _ (by rfl) (.tmp 26) (.tmp 30) 22 (by rfl) w.heap.size 5 ib _ 1 Try.underlying22 hi0 hz0 hs0 hb0 (by rfl) _ o (bvs (flat (rows.take i))) (by rfl) HO.out w.heap.size Ai m ci (bvs row) (by rfl) (by rw [bvs_length]; exact HM.out) HRI.out (bvs_one _) (by have := T3.out; unfold maxLen; omega) (by have := T3.out; omega) HB.out.size ?_; intro v6 w6 hown6 hgrow6 hat6; have O6 := Lib.hid hown6; have G6 := Lib.hid hgrow6; clear hown6 hgrow6 hat6) | fail)
        go_roundw
        case rel =>
          refine ⟨i + 1, by omega, by have := T4.out; omega, by go_num, ?_, HB.out.grown G6.out HB.out.size (fun k hk => (HO.out.lt k hk).1), ?_⟩
          · rw [HEN.out, bvs_append, List.length_append, ← EO.out, ← HM.out]
            exact O6.out
          · rw [HEN.out, List.length_append, ← EO.out, ← HM.out]
            exact T3.out
        case measure => simp [intOf]; omega
end Go.Proofs.Ythnggkfhoeaclaa.SiL
