/-
  The walk of the law on rows.
-/
import Derived.Test.YtkkpcnibghndgaaDerLaw9
set_option linter.unusedVariables false
namespace Go.Proofs.Ytkkpcnibghndgaa.DerL
open Go.RowKit Go.Proofs.Ytkkpcnibghndgaa.Mem Go.Proofs.Ytkkpcnibghndgaa.DerP Go.Proofs.Ytkkpcnibghndgaa.Reg

/-- the call, alone; what is held behind it is told there -/
theorem call_at1 {P : Program} {ops : Array Oper} {Q : Exit → Act → World → Prop} {md : Region.Mode} (i : Nat) {B : Nat} {dst : Option Tmp} {op : Op} {ty : TypeId} {pos : String} {after : Array _} {guard : Option (Nat × Bool)} {fuel : Nat} {listed : Array Bool} {a : Act} {w : World} (hi : ops[i]? = some ⟨dst, op, ty, pos, after, guard⟩)
    (hr : Region.ready md ops listed = [i]) (hw : Region.wanted ⟨dst, op, ty, pos, after, guard⟩ (yielded ops a.tmps) = true) (f : FuncId) (args : Array Value)
    (hx : (execOp a.eval ⟨dst, op, ty, pos, after, guard⟩).run P w = .ok (.enter f args) w)
    (h : Calls P f args w fun e w' => ∃ v B', e = .returned v ∧ B ≤ B' ∧ Below B w w' ∧ wpAnyH P md ops Q (SB B' w') fuel (listed.setIfInBounds i true) (a.put dst v) w') : wpAnyH P md ops Q (SB B w) (fuel + 1) listed a w := by
  refine wpAnyH_all hr (by simp) fun j hj => ?_
  obtain rfl : j = i := by simpa using hj
  unfold wpOp
  simp only [hi]
  rw [if_pos hw]
  left
  unfold Oper.wp
  rw [hx]
  exact h.mono fun e w' hh => by
    obtain ⟨v, B', rfl, hBB, hb, hh⟩ := hh
    exact ⟨hb, held_mono (fun _ h' => hb.trans (h'.mono hBB)) _ _ _ _ hh⟩

set_option maxRecDepth 100000 in
set_option maxHeartbeats 4000000 in
theorem rows_in (A : Option Addr) (ns : List Int) (c : Nat) (B : Option Addr) (ls : List L) (d N M : Nat) (hN : N = ns.length) (hM : M = ls.length) (w : World) (hr : Rd w w.heap.size A (ns.map (Value.int .i64))) (hl : DerW.Rds w w.heap.size B ls)
    (h1 : N ≤ 60) (h2 : M ≤ 60) (hsz : ∀ l ∈ ls, l.length ≤ 140737488351232) :
    Calls Try.prog 12 #[.slice A N c, .slice B M d] w fun e w' => e = .returned (.bool true) ∧ Below w.heap.size w w' := by
  have g1 : decide ((60 : Int) < (N : Int)) = false := by simp only [decide_eq_false_iff_not]; omega
  have g2 : decide ((60 : Int) < (M : Int)) = false := by simp only [decide_eq_false_iff_not]; omega
  obtain ⟨i0, hi0, hz0, hs0, hb0⟩ := info_parts DerW.u8_info
  have hml := Lib.hid DerW.ml
  have HR := Lib.hid hr
  have HL := Lib.hid hl
  have H1 := Lib.hid h1
  have H2 := Lib.hid h2
  have HN := Lib.hid hN
  have HM := Lib.hid hM
  have HZ := Lib.hid (show ∀ k, k < M → (row_ ls k).length ≤ 140737488351232 from fun k hk => hsz _ (by
    rw [row_, List.getD, List.getElem?_eq_getElem (by omega)]; exact List.getElem_mem _))
  have HBI := Lib.hid (bI_le ns)
  have HBO := Lib.hid (bO_le (bI ns N) ls)
  have hNu : (N : Int) ≤ 60 := by omega
  have hMu : (M : Int) ≤ 60 := by omega
  clear hr hl h1 h2 hN hM hsz
  go_enter Try.func12, Try.ntmps12
  go_wp2
  go_loopw [5, 7] (fun v i wr => ∃ k : Nat, k ≤ N ∧ i = .int .i64 (k : Int) ∧ wr.ownsRow w.heap.size 5 1 v (bI ns k).length (bvs (bI ns k)) ∧ Below w.heap.size w wr ∧ okI ns k) (fun _ i _ => N - (intOf i).toNat)
  case atStart => exact ⟨0, by omega, rfl, ⟨by simp [bI_zero, bvs], .inl ⟨rfl, by simp [bI_zero]⟩⟩, Below.refl _ _, okI_zero ns⟩
  case round =>
    obtain ⟨k, hk, rfl, hown, hb, hok⟩ := hrel
    by_cases hlt : k < N
    · obtain ⟨b, o, rfl, hbB, hcell⟩ := int_cell (HR.out.below hb) (k := k) (by have := HN.out; omega)
      by_cases hneg : nat_ ns k < 0
      · have g3 : decide (nat_ ns k < 0) = true := by simp only [decide_eq_true_eq]; omega
        clear hneg hown hok
        go_wp2
        go_ret
        exact ⟨rfl, hb⟩
      · have g3 : decide (nat_ ns k < 0) = false := by simp only [decide_eq_false_iff_not]; omega
        by_cases hbig : 4611686018427387904 < nat_ ns k
        · have g4 : decide (4611686018427387904 < nat_ ns k) = true := by simp only [decide_eq_true_eq]; omega
          clear hneg hbig hown hok
          go_wp2
          go_ret
          exact ⟨rfl, hb⟩
        · have g4 : decide (4611686018427387904 < nat_ ns k) = false := by simp only [decide_eq_false_iff_not]; omega
          have HOK := Lib.hid (okI_succ hok (by omega) (by omega))
          have HO := Lib.hid hown
          have HB := Lib.hid hb
          have HS := Lib.hid (bI_succ ns k (by have := HN.out; omega))
          clear hneg hbig hown hok hb
          go_wp2_with (first
            | (go_at_call 14; refine (DerW.int_any (nat_ ns k) wr).mono ?_; rintro e w1 ⟨v1, rfl, hown1, hb1⟩
               obtain ⟨q1, d1, rfl, hq1, hd1, hrd1⟩ := DerK.own_slice hown1 (enc_pos _)
               have hle := Lib.hid (enc_small (nat_ ns k))
               have HO1 := Lib.hid (own_kept HO.out hb1)
               have b1 := bt HB.out hb1
               clear hown1)
            | (at_builtin
               refine wpList_append_rd _ rfl (.tmp 38) (.tmp 43) 22 rfl w.heap.size 5 i0 _ 1 Try.underlying22 hi0 hz0 hs0 hb0 rfl _ (bI ns k).length (bvs (bI ns k)) rfl HO1.out w1.heap.size (some ⟨q1, 0, none⟩) (encI (nat_ ns k)).length d1 (bvs (encI (nat_ ns k))) rfl (bvs_length _).symm hrd1 (bvs_one _) (hml.out _ (by have := hle.out; have := HBI.out k; have := H1.out; omega)) (by have := hle.out; have := HBI.out k; have := H1.out; omega) b1.size ?_
               intro v2 w2 hown2 hg2 hat2))
          refine ⟨⟨k + 1, by omega, by go_num, ?_, b1.grown hg2 b1.size (fun i hi => (HO1.out.lt i hi).1), HOK.out⟩, by simp [intOf]; omega⟩
          rw [HS.out, bvs_append, List.length_append]
          exact hown2
    · obtain rfl : k = N := by omega
      clear hk hlt
      go_wp2
      go_loopw [5, 6, 8] (fun v n i wr => ∃ j : Nat, j ≤ M ∧ i = .int .i64 (j : Int) ∧ n = .int .i64 ((sumL ls j : Nat) : Int) ∧ sumL ls j ≤ 2000 ∧ wr.ownsRow w.heap.size 5 1 v (bO (bI ns k) ls j).length (bvs (bO (bI ns k) ls j)) ∧ Below w.heap.size w wr) (fun _ _ i _ => M - (intOf i).toNat)
      case atStart => exact ⟨0, by omega, rfl, by rw [sumL_zero]; rfl, by rw [sumL_zero]; omega, by rw [bO_zero]; exact hown, hb⟩
      case round =>
        obtain ⟨j, hj, rfl, rfl, hsum, hown2, hb2⟩ := hrel
        clear hown hb
        by_cases hlt : j < M
        · obtain ⟨b, o, rfl, hbB, A', c', hcell, hrd⟩ := row_cell (HL.out.below hb2) (k := j) (by have := HM.out; omega)
          have hz : ((row_ ls j).length : Int) ≤ 140737488351232 := by have := HZ.out j hlt; omega
          have hsu : ((sumL ls j : Nat) : Int) ≤ 2000 := by omega
          have HSU := Lib.hid (sumL_succ ls j (by have := HM.out; omega))
          by_cases hbig : 2000 < sumL ls j + 1 + (row_ ls j).length
          · have g5 : decide ((2000 : Int) < ((sumL ls j : Nat) : Int) + 1 + ((row_ ls j).length : Int)) = true := by simp only [decide_eq_true_eq]; omega
            clear hbig hown2 hsum hrd
            go_wp2
            go_ret
            exact ⟨rfl, hb2⟩
          · have g5 : decide ((2000 : Int) < ((sumL ls j : Nat) : Int) + 1 + ((row_ ls j).length : Int)) = false := by simp only [decide_eq_false_iff_not]; omega
            have HQ := Lib.hid hrd
            have HO := Lib.hid hown2
            have HB := Lib.hid hb2
            have HS := Lib.hid (bO_succ (bI ns k) ls j (by have := HM.out; omega))
            have HG := Lib.hid (show sumL ls j + 1 + (row_ ls j).length ≤ 2000 by omega)
            clear hbig hown2 hsum hrd hb2
            go_wp2_with (first
              | (go_at_call 16; refine (DerW.octets_any (row_ ls j) A' _ c' w.heap.size wr HQ.out rfl HB.out.size (by have := HG.out; omega)).mono ?_; rintro e w1 ⟨v1, rfl, hown1, hb1⟩
                 obtain ⟨q1, d1, rfl, hq1, hd1, hrd1⟩ := DerK.own_slice hown1 (by rw [length_elem]; omega)
                 have hle := Lib.hid (elem_le 4 (row_ ls j))
                 have HO1 := Lib.hid (own_kept HO.out hb1)
                 have b1 := bt HB.out hb1
                 clear hown1)
              | (at_builtin
                 refine wpList_append_rd _ rfl (.tmp 61) (.tmp 66) 22 rfl w.heap.size 5 i0 _ 1 Try.underlying22 hi0 hz0 hs0 hb0 rfl _ (bO (bI ns k) ls j).length (bvs (bO (bI ns k) ls j)) rfl HO1.out w1.heap.size (some ⟨q1, 0, none⟩) (elem 4 (row_ ls j)).length d1 (bvs (elem 4 (row_ ls j))) rfl (bvs_length _).symm hrd1 (bvs_one _) (hml.out _ (by have := hle.out; have := HBI.out k; have := HBO.out j; have := H1.out; have := HG.out; omega)) (by have := hle.out; have := HBI.out k; have := HBO.out j; have := H1.out; have := HG.out; omega) b1.size ?_
                 intro v2 w2 hown2 hg2 hat2))
            refine ⟨⟨j + 1, by omega, by go_num, ?_, by rw [HSU.out]; exact HG.out, ?_, b1.grown hg2 b1.size (fun i hi => (HO1.out.lt i hi).1)⟩, by simp [intOf]; omega⟩
            · rw [HSU.out]; go_num
            · rw [HS.out, bvs_append, List.length_append]
              exact hown2
        · obtain rfl : j = M := by omega
          clear hj hlt
          have hall : bO (bI ns k) ls j = rI ns (rO ls 0) 0 := by have e1 := HN.out; have e2 := HM.out; rw [e1, e2]; exact laid_all ns ls
          have HT := Lib.hid (show (rI ns (rO ls 0) 0).length ≤ 10000 by have := HBI.out k; have := HBO.out j; have := H1.out; rw [← hall]; omega)
          rw [hall] at hown2
          clear hall
          obtain ⟨A5, c5, rfl, hrd5⟩ := own_any hown2
          clear hown2
          go_wp2_with (go_at_call 23; refine (DerC.open_any _ _ _ _ _ _ hrd5 rfl).mono ?_; rintro e w6 ⟨g, rfl, hg, hcur, hb6⟩)
          have b6 := bt hb2 hb6
          have hgw : w.heap.size ≤ g := Nat.le_trans hb2.size hg
          clear hrd5 hb2 hb6 hg
          have HLI := Lib.hid (rI_le ns (rO ls 0))
          go_loopw [10] (fun i wr => ∃ i' : Nat, i' ≤ k ∧ i = .int .i64 (i' : Int) ∧ DerC.Cur wr g (some (rI ns (rO ls 0) i')) ∧ Below w.heap.size w wr) (fun i _ => k - (intOf i).toNat)
          case atStart => exact ⟨0, by omega, rfl, hcur, b6⟩
          case round =>
            obtain ⟨i, hi, rfl, hc, hb⟩ := hrel
            clear hcur b6
            by_cases hlt : i < k
            · obtain ⟨b, o, rfl, hbB, hcell⟩ := int_cell (HR.out.below hb) (k := i) (by have := HN.out; omega)
              obtain ⟨h0, h1⟩ := hok i hlt
              have HC := Lib.hid (show DerC.Cur wr g (some (encI (nat_ ns i) ++ rI ns (rO ls 0) (i + 1))) by rw [← rI_step ns _ i (by have := HN.out; omega)]; exact hc)
              have hle := Lib.hid (show (rI ns (rO ls 0) (i + 1)).length ≤ 10000 by have := HLI.out (i + 1); have := HT.out; omega)
              have H0 := Lib.hid h0
              have H1' := Lib.hid h1
              have HB := Lib.hid hb
              clear hc h0 h1 hb
              go_wp2
              have hcell' := sb_cell (B0 := w.heap.size) hcell hbB
              have hix : (i : Int) < (k : Int) := by omega
              refine begin_at w.heap.size 7 rfl (by kernel_rfl) ?_
              refine take_at 0 (v := ?va0) rfl (by kernel_rfl) (by kernel_rfl) (by kernel_rfl) (fun _ _ _ h => h) (by rfl) (fun w' hS => ?hya0) ?resta0
              case hya0 => go_simp; rfl
              simp only [Act.put, List.setIfInBounds_toArray, List.set_cons_zero, List.set_cons_succ]
              refine take_at 2 (v := ?va2) rfl (by kernel_rfl) (by kernel_rfl) (by kernel_rfl) (fun _ _ _ h => h) (by rfl) (fun w' hS => ?hya2) ?resta2
              case hya2 => go_simp; rfl
              simp only [Act.put, List.setIfInBounds_toArray, List.set_cons_zero, List.set_cons_succ]
              refine take_at 3 (v := ?va3) rfl (by kernel_rfl) (by kernel_rfl) (by kernel_rfl) (fun _ _ _ h => h) (by rfl) (fun w' hS => ?hya3) ?resta3
              case hya3 => go_simp; rfl
              simp only [Act.put, List.setIfInBounds_toArray, List.set_cons_zero, List.set_cons_succ]
              refine take_at 4 (v := ?va4) rfl (by kernel_rfl) (by kernel_rfl) (by kernel_rfl) (fun _ _ _ h => h) (by rfl) (fun w' hS => ?hya4) ?resta4
              case hya4 => go_simp; rfl
              simp only [Act.put, List.setIfInBounds_toArray, List.set_cons_zero, List.set_cons_succ]
              refine take_at 5 (v := ?va5) rfl (by kernel_rfl) (by kernel_rfl) (by kernel_rfl) (fun _ _ _ h => h) (by rfl) (fun w' hS => ?hya5) ?resta5
              case hya5 => have hh := hcell' w' (Below.trans ((Below.refl _ _).drew) hS); go_simp; rfl
              simp only [Act.put, List.setIfInBounds_toArray, List.set_cons_zero, List.set_cons_succ]
              refine call_at1 1 rfl (by kernel_rfl) (by rfl) 24 #[.pointer (some ⟨g, 0, none⟩)] (by go_simp) ?_
              refine Calls.mono (int_good g (nat_ ns i) _ _ H0.out H1'.out (by have := hle.out; omega) HC.out) ?_
              rintro e w7 ⟨rfl, hc7, hg7⟩
              have b7 : Below w.heap.size w w7 := below_g HB.out.drew hg7 HB.out.size hgw
              refine ⟨_, w.heap.size, rfl, Nat.le_refl _, below_g (Below.refl _ _) hg7 HB.out.size hgw, ?_⟩
              simp only [Act.put, List.setIfInBounds_toArray, List.set_cons_zero, List.set_cons_succ]
              refine take_at 6 (v := ?va6) rfl (by kernel_rfl) (by kernel_rfl) (by kernel_rfl) (fun _ _ _ h => h) (by rfl) (fun w' hS => ?hya6) ?resta6
              case hya6 => go_simp; rfl
              simp only [Act.put, List.setIfInBounds_toArray, List.set_cons_zero, List.set_cons_succ]
              refine wpAnyH_done (by kernel_rfl) ?_ _
              go_wp2
              exact ⟨⟨i + 1, by omega, by go_num, hc7, b7⟩, by simp [intOf]; omega⟩
            · obtain rfl : i = k := by omega
              have hc0 : DerC.Cur wr g (some (rO ls 0)) := by
                have e : rI ns (rO ls 0) i = rO ls 0 := by have e1 := HN.out; rw [e1]; exact rI_end ns _
                rw [← e]; exact hc
              have HLO := Lib.hid (rO_le ls)
              have HT0 := Lib.hid (show (rO ls 0).length ≤ 10000 by
                have e : rI ns (rO ls 0) i = rO ls 0 := by have e1 := HN.out; rw [e1]; exact rI_end ns _
                have h3 := HLI.out i; have h4 := HT.out; rw [e] at h3; omega)
              have HSL := Lib.hid (show ∀ m, m < j → (row_ ls m).length ≤ 2000 from fun m hm => by
                have e2 := HM.out
                have h3 := row_le ls m (by omega); have h4 := sumL_mono ls (m + 1); rw [← e2] at h4; omega)
              clear hc hi hlt hsum
              go_wp2
              go_loopw [11] (fun q wr => ∃ m : Nat, m ≤ j ∧ q = .int .i64 (m : Int) ∧ DerC.Cur wr g (some (rO ls m)) ∧ Below w.heap.size w wr) (fun q _ => j - (intOf q).toNat)
              case atStart => exact ⟨0, by omega, rfl, hc0, hb⟩
              case round =>
                obtain ⟨m, hm, rfl, hc, hb'⟩ := hrel
                clear hc0 hb
                by_cases hlt : m < j
                · obtain ⟨b, o, rfl, hbB, A', c', hcell, hrd⟩ := row_cell (HL.out.below hb') (k := m) (by have := HM.out; omega)
                  have HC := Lib.hid (show DerC.Cur wr g (some (elem 4 (row_ ls m) ++ rO ls (m + 1))) by rw [← rO_step ls m (by have := HM.out; omega)]; exact hc)
                  have hle := Lib.hid (show (rO ls (m + 1)).length ≤ 10000 by have := HLO.out (m + 1); have := HT0.out; omega)
                  have hlr := Lib.hid (HSL.out m hlt)
                  have HB := Lib.hid hb'
                  have HQ := Lib.hid hrd
                  clear hc hb' hrd
                  go_wp2
                  have hcell' := sb_cell (B0 := w.heap.size) hcell hbB
                  have hix : (m : Int) < (j : Int) := by omega
                  refine begin_at w.heap.size 9 rfl (by kernel_rfl) ?_
                  refine take_at 0 (v := ?vb0) rfl (by kernel_rfl) (by kernel_rfl) (by kernel_rfl) (fun _ _ _ h => h) (by rfl) (fun w' hS => ?hyb0) ?restb0
                  case hyb0 => go_simp; rfl
                  simp only [Act.put, List.setIfInBounds_toArray, List.set_cons_zero, List.set_cons_succ]
                  refine take_at 3 (v := ?vb3) rfl (by kernel_rfl) (by kernel_rfl) (by kernel_rfl) (fun _ _ _ h => h) (by rfl) (fun w' hS => ?hyb3) ?restb3
                  case hyb3 => go_simp; rfl
                  simp only [Act.put, List.setIfInBounds_toArray, List.set_cons_zero, List.set_cons_succ]
                  refine take_at 4 (v := ?vb4) rfl (by kernel_rfl) (by kernel_rfl) (by kernel_rfl) (fun _ _ _ h => h) (by rfl) (fun w' hS => ?hyb4) ?restb4
                  case hyb4 => go_simp; rfl
                  simp only [Act.put, List.setIfInBounds_toArray, List.set_cons_zero, List.set_cons_succ]
                  refine take_at 5 (v := ?vb5) rfl (by kernel_rfl) (by kernel_rfl) (by kernel_rfl) (fun _ _ _ h => h) (by rfl) (fun w' hS => ?hyb5) ?restb5
                  case hyb5 => go_simp; rfl
                  simp only [Act.put, List.setIfInBounds_toArray, List.set_cons_zero, List.set_cons_succ]
                  refine take_at 6 (v := ?vb6) rfl (by kernel_rfl) (by kernel_rfl) (by kernel_rfl) (fun _ _ _ h => h) (by rfl) (fun w' hS => ?hyb6) ?restb6
                  case hyb6 => have hh := hcell' w' (Below.trans ((Below.refl _ _).drew) hS); go_simp; rfl
                  simp only [Act.put, List.setIfInBounds_toArray, List.set_cons_zero, List.set_cons_succ]
                  refine take_at 7 (v := ?vb7) rfl (by kernel_rfl) (by kernel_rfl) (by kernel_rfl) (fun _ _ _ h => h) (by rfl) (fun w' hS => ?hyb7) ?restb7
                  case hyb7 => have hh := sb_str (P := Try.prog) Try.underlying22 Try.underlying5 Try.underlying9 (n := (row_ ls m).length) (c := c') HQ.out (Nat.le_refl _) rfl w' (Below.trans ((Below.refl _ _).drew) hS); go_simp; rfl
                  simp only [Act.put, List.setIfInBounds_toArray, List.set_cons_zero, List.set_cons_succ]
                  refine call_at1 1 rfl (by kernel_rfl) (by rfl) 26 #[.pointer (some ⟨g, 0, none⟩)] (by go_simp) ?_
                  refine Calls.mono (octets_good g (row_ ls m) _ _ (by have := hlr.out; omega) (by have := hle.out; omega) HC.out) ?_
                  rintro e w8 ⟨⟨q8, d8, rfl, hd8, hf8⟩, hc8, hg8⟩
                  have b8 : Below w.heap.size w w8 := below_g HB.out.drew hg8 HB.out.size hgw
                  have HF := Lib.hid hf8.rd
                  refine ⟨_, w8.heap.size, rfl, b8.size, below_g (Below.refl _ _) hg8 HB.out.size hgw, ?_⟩
                  simp only [Act.put, List.setIfInBounds_toArray, List.set_cons_zero, List.set_cons_succ]
                  refine take_at 2 (v := ?vb2) rfl (by kernel_rfl) (by kernel_rfl) (by kernel_rfl) (fun _ _ _ h => h) (by rfl) (fun w' hS => ?hyb2) ?restb2
                  case hyb2 => have hh := sb_str (P := Try.prog) Try.underlying22 Try.underlying5 Try.underlying9 (n := (row_ ls m).length) (c := d8) HF.out (Nat.le_refl _) rfl w' hS; go_simp; rfl
                  simp only [Act.put, List.setIfInBounds_toArray, List.set_cons_zero, List.set_cons_succ]
                  refine take_at 8 (v := ?vb8) rfl (by kernel_rfl) (by kernel_rfl) (by kernel_rfl) (fun _ _ _ h => h) (by rfl) (fun w' hS => ?hyb8) ?restb8
                  case hyb8 => go_simp; rfl
                  simp only [Act.put, List.setIfInBounds_toArray, List.set_cons_zero, List.set_cons_succ]
                  refine wpAnyH_done (by kernel_rfl) ?_ _
                  go_wp2
                  exact ⟨⟨m + 1, by omega, by go_num, hc8, b8⟩, by simp [intOf]; omega⟩
                · obtain rfl : m = j := by omega
                  have hc9 : DerC.Cur wr g (some []) := by
                    have e : rO ls m = [] := by have e1 := HM.out; rw [e1]; exact rO_end ls
                    rw [← e]; exact hc
                  clear hc hm hlt
                  go_wp2_with (first
                    | (go_at_call 33; refine (whole_end g _ hc9).mono ?_; rintro e w' ⟨rfl, rfl⟩)
                    | (go_at_call 22; refine (DerK.known_any _).mono ?_; rintro e w9 ⟨rfl, hb9⟩))
                  go_ret
                  exact ⟨rfl, bt hb' hb9⟩

set_option maxRecDepth 100000 in
theorem rows (A : Option Addr) (ns : List Int) (c : Nat) (B : Option Addr) (ls : List L) (d : Nat) (w : World) (hr : Rd w w.heap.size A (ns.map (Value.int .i64))) (hwf : ∀ n ∈ ns, (Lit.int .i64 n).wf = true) (hc : ns.length ≤ c) (hm : c ≤ maxLen)
    (hl : DerW.Rds w w.heap.size B ls) (hd : ls.length ≤ d) (hm2 : d ≤ maxLen) (hsz : ∀ l ∈ ls, List.length l ≤ 140737488351232) :
    Calls Try.prog 12 #[.slice A ns.length c, .slice B ls.length d] w fun e w' => e = .returned (.bool true) ∧ Below w.heap.size w w' := by
  by_cases h1 : 60 < ns.length
  · have g1 : decide ((60 : Int) < (ns.length : Int)) = true := by simp only [decide_eq_true_eq]; omega
    clear hr hwf hc hm hl hd hm2 hsz h1
    go_enter Try.func12, Try.ntmps12
    go_wp2
    go_ret
    exact ⟨rfl, Below.refl _ _⟩
  · by_cases h2 : 60 < ls.length
    · have g1 : decide ((60 : Int) < (ns.length : Int)) = false := by simp only [decide_eq_false_iff_not]; omega
      have g2 : decide ((60 : Int) < (ls.length : Int)) = true := by simp only [decide_eq_true_eq]; omega
      clear hr hwf hc hm hl hd hm2 hsz h1 h2
      go_enter Try.func12, Try.ntmps12
      go_wp2
      go_ret
      exact ⟨rfl, Below.refl _ _⟩
    · exact rows_in A ns c B ls d ns.length ls.length rfl rfl w hr hl (by omega) (by omega) hsz

end Go.Proofs.Ytkkpcnibghndgaa.DerL
