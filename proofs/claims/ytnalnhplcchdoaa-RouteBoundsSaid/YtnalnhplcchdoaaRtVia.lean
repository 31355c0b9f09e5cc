/-
  The code's Via, steps, Next.
-/
import Derived.Test.YtnalnhplcchdoaaRtLaid
import Derived.Test.YtnalnhplcchdoaaNmRev
import Derived.Test.YtnalnhplcchdoaaNmRefB
set_option linter.unusedVariables false
namespace Go.Proofs.Ytnalnhplcchdoaa.Rt
open Go.RowKit Go.Proofs.Ytnalnhplcchdoaa.Mem Go.Proofs.Ytnalnhplcchdoaa.Nm

theorem run_make_strs (n : Nat) (hn : n ≤ 1000000) (w : World) :
    ∃ cs : Array Value, cs.size = n ∧ (Instr.makeSlice 22 (.int .i64 0) (.int .i64 (n : Int))).run Try.prog w = .ok (.slice (some ⟨w.heap.size, 0, none⟩) 0 n) (w.alloc (.cells cs 9)) := by
  obtain ⟨i0, hi0, hz0, hs0, hb0⟩ := info_parts str_info
  have h := run_make (P := Try.prog) w 22 9 i0 _ Try.underlying22 hi0 hz0 .i64 .i64 0 (n : Int) (by omega) (by omega) (by rw [hb0]; omega) (by omega)
  refine ⟨_, ?_, h⟩
  rw [hs0, Int.toNat_natCast, Nat.mul_one, show (Value.string ⟨#[]⟩).cells = #[Value.string ⟨#[]⟩] from rfl]
  have e := toList_madeCells_one (.string ⟨#[]⟩) n
  have := congrArg List.length e
  simpa using this
theorem own_made (w : World) (cs : Array Value) (n : Nat) (h : cs.size = n) (hn : n ≤ 1000000) : Own (w.alloc (.cells cs 9)) w.heap.size (.slice (some ⟨w.heap.size, 0, none⟩) 0 n) [] :=
  World.ownsRow_made w cs n (Nat.le_refl _) (by unfold maxLen; omega) (by omega)

theorem via_of {T : Tp} {a b : L} (h : laidB T a b = true) : viaL T a b = vL T a b := by rw [viaL, if_pos h]
theorem via_no {T : Tp} {a b : L} (h : laidB T a b = false) : viaL T a b = betweenL a b := by rw [viaL, if_neg (by simp [h])]
theorem vl_mem {T : Tp} {a b : L} (h : laidB T a b = true) : ∃ p ∈ T.P, vL T a b = p.v := by
  rw [laidB, decide_eq_true_eq] at h
  exact ⟨_, al_mem h, rfl⟩
set_option maxHeartbeats 1600000 in
theorem via_yes (T : Tp) (v : Value) (B : Nat) (a b : L) (w : World) (hs : Sm T) (hv : TpV w B v T) (hB : B ≤ w.heap.size) (hx : laidB T a b = true) :
    Calls Try.prog 24 #[v, .string ⟨a.toArray⟩, .string ⟨b.toArray⟩] w fun e w' => ∃ u, e = .returned u ∧ Own w' w.heap.size u (viaL T a b) ∧ Below w.heap.size w w' := by
  have hv' := hv
  obtain ⟨v1, v2, v3, rfl, ⟨A1, c1, rfl, hc1, r1⟩, ⟨A2, c2, rfl, hc2, r2⟩, ⟨A3, c3, rfl, hc3, r3⟩⟩ := hv'
  obtain ⟨N, eN⟩ : ∃ N, N = w.heap.size := ⟨_, rfl⟩
  have hb := (Below.refl w.heap.size w).alloc (Nat.le_refl _) (.cells #[.slice A1 T.R.length c1, .slice A2 T.K.length c2, .slice A3 T.P.length c3] 26)
  have c1 := laid_any T _ B a b _ hs (hv.below (hb.mono hB)) (Nat.le_trans hB hb.size)
  rw [hx] at c1
  have HB := Lib.hid hb; clear hb
  rw [via_of hx]
  obtain ⟨q, hq, e⟩ := vl_mem hx
  have h1 := hs.v q hq
  have h2 := hs.vt q hq
  rw [← e] at h1 h2
  obtain ⟨V, eV⟩ : ∃ V, V = vL T a b := ⟨_, rfl⟩
  rw [← eV] at c1 h1 h2 ⊢
  have CL := Lib.hid (fun (i : Nat) (h : i < V.length) w1 => clone_any (pl V i) w1 (by have := h2 _ (pl_mem h); omega))
  obtain ⟨n, en⟩ : ∃ n, n = V.length := ⟨_, rfl⟩
  rw [← en] at h1
  have EN := Lib.hid en
  rw [← eN] at HB hB ⊢
  have EN0 := Lib.hid eN; clear eN
  have HSZ := Lib.hid (show ∀ w1 : World, Below N w w1 → N ≤ w1.heap.size from fun w1 h => by have := h.size; have := EN0.out; omega)
  have MK := Lib.hid (fun w1 => run_make_strs n (by omega) w1)
  clear r1 r2 r3 hc1 hc2 hc3 hs hx hq e eV h2 hv
  go_enter Try.func24, Try.ntmps24
  go_wp2_with (go_at_call 42; refine Calls.mono c1 ?_; rintro e w1 ⟨u, rfl, ⟨A5, c5, rfl, _, r5⟩, hb⟩; clear c1; replace HB := Lib.hid (HB.out.trans (hb.mono (HSZ.out _ HB.out))); clear hb; have HR := Lib.hid (r5.more hB); clear r5; rw [← en]; clear en; obtain ⟨cs, hcs, hmk⟩ := MK.out w1)
  have HO := Lib.hid ((own_made w1 cs n hcs (by omega)).from_ (HSZ.out _ HB.out))
  replace HR := Lib.hid (HR.out.alloc (HSZ.out _ HB.out) (.cells cs 9))
  replace HB := Lib.hid (HB.out.alloc (HSZ.out _ HB.out) (.cells cs 9))
  go_loopw [9, 29] (fun ev iv wr => ∃ i : Nat, i ≤ n ∧ iv = .int .i64 (i : Int) ∧ Own wr N ev (V.take i) ∧ Rd wr N A5 (strs V) ∧ Below N w wr) (fun _ iv _ => n - (intOf iv).toNat)
  case atStart => exact ⟨0, Nat.zero_le _, rfl, HO.out, HR.out, HB.out⟩
  case round =>
    obtain ⟨i, hi, rfl, ho, hr, hb2⟩ := hrel
    have HO := Lib.hid ho; clear ho
    have HRR := Lib.hid hr; clear hr
    have HB2 := Lib.hid hb2; clear hb2
    by_cases hlt : i < n
    · have e1 : (i : Int) < (n : Int) := by omega
      have e2 : (0 : Int) ≤ (i : Int) := by omega
      have him : i < V.length := by rw [← EN.out]; exact hlt
      have c2 := CL.out i him
      have hst := take_succ_pl him
      have HL := Lib.hid (show (V.take i).length = i by simp; omega)
      have HST := Lib.hid hst; clear hst him
      obtain ⟨bx, o, rfl, _, h1⟩ := rd_txt HRR.out (i := i) (by rw [← EN.out]; exact hlt)
      go_wp2_with (first
        | (go_at_call 38; refine Calls.mono (c2 _) ?_; rintro e w3 ⟨rfl, hb⟩; clear c2; have H3 := Lib.hid (HB2.out.trans (hb.mono (HSZ.out _ HB2.out))); have HO3 := Lib.hid (HO.out.below hb); have HR3 := Lib.hid (HRR.out.below (hb.mono (HSZ.out _ HB2.out))); clear hb)
        | (at_builtin; refine app_one rfl (.tmp 33) (.tmp 36) rfl N _ (V.take i) rfl HO3.out (pl V i) rfl (by have := HL.out; omega) (HSZ.out _ H3.out) ?_; intro v4 w4 ho4 hb4; rw [← HST.out] at ho4; have HO4 := Lib.hid ho4; have H4 := Lib.hid (H3.out.trans hb4); have HR4 := Lib.hid (HR3.out.below hb4); clear ho4 hb4))
      go_roundw
      case rel => exact ⟨i + 1, by omega, by go_num, HO4.out, HR4.out, H4.out⟩
      case measure => simp [intOf]; omega
    · have e1 : ¬ (i : Int) < (n : Int) := by omega
      have hiP : V.length ≤ i := by have := EN.out; omega
      rw [List.take_of_length_le hiP] at HO
      go_wp2
      go_ret
      exact ⟨_, rfl, HO.out, HB2.out⟩
set_option maxHeartbeats 800000 in
theorem via_none (T : Tp) (v : Value) (B : Nat) (a b : L) (w : World) (hs : Sm T) (hv : TpV w B v T) (hB : B ≤ w.heap.size) (hx : laidB T a b = false) (ha : a.length ≤ 1000000000) (hb : b.length ≤ 1000000000) :
    Calls Try.prog 24 #[v, .string ⟨a.toArray⟩, .string ⟨b.toArray⟩] w fun e w' => ∃ u, e = .returned u ∧ Own w' w.heap.size u (viaL T a b) ∧ Below w.heap.size w w' := by
  have hv' := hv
  obtain ⟨v1, v2, v3, rfl, ⟨A1, c1, rfl, hc1, r1⟩, ⟨A2, c2, rfl, hc2, r2⟩, ⟨A3, c3, rfl, hc3, r3⟩⟩ := hv'
  have C2 := Lib.hid (fun w1 => between_any a b w1 ha hb)
  have hb := (Below.refl w.heap.size w).alloc (Nat.le_refl _) (.cells #[.slice A1 T.R.length c1, .slice A2 T.K.length c2, .slice A3 T.P.length c3] 26)
  have c1 := laid_any T _ B a b _ hs (hv.below (hb.mono hB)) (Nat.le_trans hB hb.size)
  rw [hx] at c1
  have HB := Lib.hid hb; clear hb
  rw [via_no hx]
  clear r1 r2 r3 hc1 hc2 hc3 hs hx hv
  go_enter Try.func24, Try.ntmps24
  go_wp2_with (first
    | (go_at_call 42; refine Calls.mono c1 ?_; rintro e w1 ⟨u, rfl, ⟨A5, c5, rfl, _, r5⟩, hb⟩; clear c1; replace HB := Lib.hid (HB.out.trans (hb.mono HB.out.size)); clear hb r5)
    | (go_at_call 43; refine Calls.mono (C2.out w1) ?_; rintro e w2 ⟨u2, rfl, ho, hb⟩; have HO := Lib.hid (ho.from_ HB.out.size); replace HB := Lib.hid (HB.out.trans (hb.mono HB.out.size)); clear hb ho))
  go_ret
  exact ⟨_, rfl, HO.out, HB.out⟩
theorem vvia_any (T : Tp) (v : Value) (B : Nat) (a b : L) (w : World) (hs : Sm T) (hv : TpV w B v T) (hB : B ≤ w.heap.size) (ha : a.length ≤ 1000000000) (hb : b.length ≤ 1000000000) :
    Calls Try.prog 24 #[v, .string ⟨a.toArray⟩, .string ⟨b.toArray⟩] w fun e w' => ∃ u, e = .returned u ∧ Own w' w.heap.size u (viaL T a b) ∧ Below w.heap.size w w' := by
  cases hx : laidB T a b with
  | true => exact via_yes T v B a b w hs hv hB hx
  | false => exact via_none T v B a b w hs hv hB hx ha hb

/-! ### steps -/
theorem steps_of {T : Tp} {a b : L} (h : laidB T a b = true) : stepsL T a b = [(vL T a b).headD b] := by rw [stepsL, if_pos h]
theorem steps_no {T : Tp} {a b : L} (h : laidB T a b = false) : stepsL T a b = b :: (betweenL a b).reverse := by rw [stepsL, if_neg (by simp [h])]
theorem head_take {V : List L} {b : L} (h : V.length ≠ 0) : V.take 1 = [V.headD b] := by
  cases V with
  | nil => simp at h
  | cons a t => simp
theorem sl_head {w : World} {B : Nat} {u : Value} {V : List L} (b : L) (h : SlV w B u V) (h0 : V.length ≠ 0) : ∃ g o c, u = .slice (some ⟨g, o, none⟩) V.length c ∧ 1 ≤ c ∧ SlV w B (.slice (some ⟨g, o, none⟩) 1 c) [V.headD b] := by
  obtain ⟨A, c, rfl, hc, hr⟩ := h
  have h1 := rd_take (i := 1) hr (by omega)
  rw [head_take (b := b) h0] at h1
  rcases hr with hr | ⟨g, o, rfl, hg, _⟩
  · have h9 := congrArg List.length hr
    rw [strs_length] at h9
    exact absurd h9 h0
  · exact ⟨g, o, c, rfl, by omega, _, _, rfl, by simp; omega, h1⟩
set_option maxHeartbeats 1600000 in
theorem steps_yes (T : Tp) (v : Value) (B : Nat) (a b : L) (w : World) (hs : Sm T) (hv : TpV w B v T) (hB : B ≤ w.heap.size) (hx : laidB T a b = true) :
    Calls Try.prog 37 #[v, .string ⟨a.toArray⟩, .string ⟨b.toArray⟩] w fun e w' => ∃ u, e = .returned u ∧ SlV w' w'.heap.size u (stepsL T a b) ∧ Below w.heap.size w w' := by
  have hv' := hv
  obtain ⟨v1, v2, v3, rfl, ⟨A1, c1, rfl, hc1, r1⟩, ⟨A2, c2, rfl, hc2, r2⟩, ⟨A3, c3, rfl, hc3, r3⟩⟩ := hv'
  have hb := (Below.refl w.heap.size w).alloc (Nat.le_refl _) (.cells #[.slice A1 T.R.length c1, .slice A2 T.K.length c2, .slice A3 T.P.length c3] 26)
  have c1 := laid_any T _ B a b _ hs (hv.below (hb.mono hB)) (Nat.le_trans hB hb.size)
  rw [hx] at c1
  have HB := Lib.hid hb; clear hb
  rw [steps_of hx]
  obtain ⟨q, hq, e⟩ := vl_mem hx
  have h1 := hs.v q hq
  rw [← e] at h1
  obtain ⟨V, eV⟩ : ∃ V, V = vL T a b := ⟨_, rfl⟩
  rw [← eV] at c1 h1 ⊢
  have HBB := Lib.hid (show B ≤ w.heap.size from hB)
  obtain ⟨n, en⟩ : ∃ n, n = V.length := ⟨_, rfl⟩
  rw [← en] at h1
  have EN := Lib.hid en
  clear r1 r2 r3 hc1 hc2 hc3 hs hx hq e eV hv hB
  by_cases h0 : n = 0
  · have E := Lib.hid (show V.headD b = b by
      have : V = [] := List.eq_nil_of_length_eq_zero (by rw [← EN.out]; exact h0)
      rw [this]; rfl)
    rw [E.out]
    have t0 : ((n : Int) == 0) = true := by simp; omega
    clear h0
    go_enter Try.func37, Try.ntmps37
    go_wp2_with (go_at_call 42; refine Calls.mono c1 ?_; rintro e w1 ⟨u, rfl, ⟨A5, c5, rfl, _, r5⟩, hb⟩; clear c1; replace HB := Lib.hid (HB.out.trans (hb.mono HB.out.size)); clear hb r5; rw [← en]; clear en)
    go_ret
    exact ⟨_, rfl, own_sl (own_lit w1 w1.heap.size b (Nat.le_refl _)), HB.out.alloc HB.out.size _⟩
  · have t0 : ((n : Int) == 0) = false := by simp; omega
    have HH := Lib.hid (fun w1 u (h : SlV w1 B u V) => sl_head b h (by rw [← EN.out]; exact h0))
    clear h0
    go_enter Try.func37, Try.ntmps37
    go_wp2_with (go_at_call 42; refine Calls.mono c1 ?_; rintro e w1 ⟨u, rfl, r5, hb⟩; clear c1; obtain ⟨g, o, c5, rfl, hc5, r6⟩ := HH.out w1 u r5; clear r5; rw [← en]; have HR := Lib.hid (r6.more (Nat.le_trans HBB.out (Nat.le_trans HB.out.size hb.size))); replace HB := Lib.hid (HB.out.trans (hb.mono HB.out.size)); clear hb r6 en; have ecap : (1 : Int) ≤ (c5 : Int) := (by omega))
    go_ret
    exact ⟨_, rfl, HR.out, HB.out⟩
set_option maxHeartbeats 1600000 in
theorem steps_none (T : Tp) (v : Value) (B : Nat) (a b : L) (w : World) (hs : Sm T) (hv : TpV w B v T) (hB : B ≤ w.heap.size) (hx : laidB T a b = false) (ha : a.length ≤ 1000000000) (hb : b.length ≤ 1000000000) :
    Calls Try.prog 37 #[v, .string ⟨a.toArray⟩, .string ⟨b.toArray⟩] w fun e w' => ∃ u, e = .returned u ∧ SlV w' w'.heap.size u (stepsL T a b) ∧ Below w.heap.size w w' := by
  have hv' := hv
  obtain ⟨v1, v2, v3, rfl, ⟨A1, c1, rfl, hc1, r1⟩, ⟨A2, c2, rfl, hc2, r2⟩, ⟨A3, c3, rfl, hc3, r3⟩⟩ := hv'
  have C2 := Lib.hid (fun w1 => between_any a b w1 ha hb)
  have HL := Lib.hid (between_len a b)
  have hb := (Below.refl w.heap.size w).alloc (Nat.le_refl _) (.cells #[.slice A1 T.R.length c1, .slice A2 T.K.length c2, .slice A3 T.P.length c3] 26)
  have c1 := laid_any T _ B a b _ hs (hv.below (hb.mono hB)) (Nat.le_trans hB hb.size)
  rw [hx] at c1
  have HB := Lib.hid hb; clear hb
  rw [steps_no hx]
  have E := Lib.hid (show (betweenL a b ++ [b]).reverse = b :: (betweenL a b).reverse by simp)
  obtain ⟨M, eM⟩ : ∃ M, M = betweenL a b := ⟨_, rfl⟩
  rw [← eM] at C2 HL E ⊢
  clear r1 r2 r3 hc1 hc2 hc3 hs hx hv eM
  go_enter Try.func37, Try.ntmps37
  go_wp2_with (first
    | (go_at_call 42; refine Calls.mono c1 ?_; rintro e w1 ⟨u, rfl, ⟨A5, c5, rfl, _, r5⟩, hb⟩; clear c1; replace HB := Lib.hid (HB.out.trans (hb.mono HB.out.size)); clear hb r5)
    | (go_at_call 43; refine Calls.mono (C2.out w1) ?_; rintro e w2 ⟨u2, rfl, ho, hb⟩; have HO := Lib.hid (ho.from_ HB.out.size); replace HB := Lib.hid (HB.out.trans (hb.mono HB.out.size)); clear hb ho)
    | (at_builtin; refine app_one rfl (.tmp 27) (.tmp 29) rfl w.heap.size _ M rfl HO.out b rfl (by have := HL.out; omega) HB.out.size ?_; intro v4 w4 ho4 hb4; have c4 := reverse_any v4 _ w4 w.heap.size ho4 (HB.out.trans hb4).size (by have := HL.out; simp; omega); have H4 := Lib.hid (HB.out.trans hb4); clear ho4 hb4)
    | (go_at_call 50; refine Calls.mono c4 ?_; rintro e w5 ⟨rfl, ho, hb⟩; clear c4; have HO5 := Lib.hid ho; have H5 := Lib.hid (H4.out.trans hb); clear ho hb))
  go_ret
  exact ⟨_, rfl, own_sl (by rw [E.out] at HO5; exact HO5.out), H5.out⟩
theorem steps_any (T : Tp) (v : Value) (B : Nat) (a b : L) (w : World) (hs : Sm T) (hv : TpV w B v T) (hB : B ≤ w.heap.size) (ha : a.length ≤ 1000000000) (hb : b.length ≤ 1000000000) :
    Calls Try.prog 37 #[v, .string ⟨a.toArray⟩, .string ⟨b.toArray⟩] w fun e w' => ∃ u, e = .returned u ∧ SlV w' w'.heap.size u (stepsL T a b) ∧ Below w.heap.size w w' := by
  cases hx : laidB T a b with
  | true => exact steps_yes T v B a b w hs hv hB hx
  | false => exact steps_none T v B a b w hs hv hB hx ha hb
end Go.Proofs.Ytnalnhplcchdoaa.Rt
