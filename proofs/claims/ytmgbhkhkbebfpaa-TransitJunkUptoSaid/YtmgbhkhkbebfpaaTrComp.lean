/-
  The code's Compress of chapter 6.
-/
import Derived.Test.YtmgbhkhkbebfpaaTrTold
import Derived.Lib.AppendStr
set_option linter.unusedVariables false
namespace Go.Proofs.Ytmgbhkhkbebfpaa.Tr
open Go.RowKit Go.Proofs.Ytmgbhkhkbebfpaa.Mem Go.Proofs.Ytmgbhkhkbebfpaa.Nm
attribute [local go_sem] mk_at List.getElem_cons_zero List.getElem_cons_succ ext_tail ext_drop ext_mid ext_take

/-- a row of bytes of the call's own -/
def OwnB (w : World) (base : Nat) (v : Value) (l : L) : Prop := w.ownsRow base 5 1 v l.length (bvs l)
theorem OwnB.nil (w : World) (base : Nat) : OwnB w base (.slice none 0 0) [] := World.ownsRow_nil w base _ 1
theorem OwnB.below {w w' : World} {base : Nat} {v : Value} {l : L} (h : OwnB w base v l) (hb : Below w.heap.size w w') : OwnB w' base v l := own_kept h hb
theorem OwnB.slice {w : World} {base : Nat} {v : Value} {l : L} (h : OwnB w base v l) : ∃ A c, v = .slice A l.length c ∧ Rd w w.heap.size A (bvs l) := by
  have h' := h
  rcases h.2 with ⟨h1, h2⟩ | ⟨g, cap, cur, h1, _⟩
  · have e : l = [] := List.eq_nil_of_length_eq_zero h2
    subst e
    exact ⟨none, 0, h1, .inl rfl⟩
  · subst h1
    exact ⟨_, cap, rfl, Rd.of_own (n := l.length) (cap := cap) h'⟩
theorem strCells_mk (l : L) : Lib.strCells ⟨l.toArray⟩ = bvs l := by simp [Lib.strCells, bvs, bv]
section
variable {w : World} {ops : Array Oper} {rest : List Oper} {o : Oper} {a : Act} {Q : Exit → Act → World → Prop}
/-- append of a text's bytes -/
theorem app_str (hgd : o.guard = none) (s x : Operand) (ho : o.op = .call { callee := .builtin .append, args := #[s, x], argTypes := #[46, 9] })
    (base : Nat) (v : Value) (l : L) (hs : a.eval s = v) (hown : OwnB w base v l) (m : L) (hx : a.eval x = .string ⟨m.toArray⟩)
    (hl : l.length + m.length ≤ 100000000000) (hb : base ≤ w.heap.size)
    (h : ∀ v' w', OwnB w' base v' (l ++ m) → Below base w w' → wpList Try.prog ops Q rest (a.put o.dst v') w') : wpList Try.prog ops Q (o :: rest) a w := by
  obtain ⟨i0, hi, hz, hsz, hbt⟩ := info_parts u8_row
  refine Lib.wpList_append_own_string w hgd s x 46 9 ho base 5 i0 Try.underlying46 Try.underlying9 hi hz hsz hbt v l.length (bvs l) hs hown ⟨m.toArray⟩ hx (by rw [size_mk]; unfold maxLen; omega) (by rw [size_mk]; omega) hb ?_
  intro v' w' h1 h2 _
  refine h v' w' (by rw [OwnB, List.length_append, bvs_append, ← strCells_mk m]; rw [size_mk] at h1; exact h1) ?_
  exact (Below.refl _ _).grown h2 hb (fun k hk => (World.ownsRow.lt hown k hk).1)
end

theorem all_take {ls : List L} {i : Nat} (h : (ls.take i).all isL = true) (hi : i < ls.length) (hx : isL (pl ls i) = true) : (ls.take (i + 1)).all isL = true := by
  rw [take_succ_pl hi, List.all_append, h]; simp [hx]
theorem all_bad {ls : List L} {i : Nat} (hi : i < ls.length) (hx : isL (pl ls i) = false) : ls.all isL = false := by
  cases h : ls.all isL with
  | false => rfl
  | true =>
    rw [List.all_eq_true] at h
    have := h _ (pl_mem hi)
    rw [hx] at this; cases this
theorem compK_len {ls : List L} (h : ls.all isL = true) (k : Nat) : (compK ls k).length ≤ ls.length * 38 := by
  have h1 : (ls.take k).all isL = true := by
    rw [List.all_eq_true] at h ⊢
    exact fun x hx => h x (List.mem_of_mem_take hx)
  have := comp_len h1
  rw [List.length_take] at this
  have h2 : min k ls.length * 38 ≤ ls.length * 38 := Nat.mul_le_mul_right _ (by omega)
  rw [compK]; omega
theorem compT_nil : compT [] = [] := rfl
theorem comp_bad {ls : List L} (h : ls.all isL = false) : compL ls = ([], 1) := by rw [compL, if_neg (by simp [h])]
theorem comp_full {ls : List L} (h : ls.all isL = true) (h8 : 8 < ls.length) : compL ls = ([], 13) := by rw [compL, if_pos h, if_pos h8]
theorem comp_ok {ls : List L} (h : ls.all isL = true) (h8 : ls.length ≤ 8) : compL ls = (compT ls, 0) := by rw [compL, if_pos h, if_neg (by omega)]

set_option maxHeartbeats 1600000 in
set_option maxRecDepth 100000 in
theorem comp_any (ls : List L) (A : Option Addr) (c : Nat) (w : World) (hl : ls.length ≤ 9000000000000000) (hr : Rd w w.heap.size A (strs ls)) (hs : ∀ i, i < ls.length → (pl ls i).length ≤ 1000000000) :
    Calls Try.prog 14 #[.slice A ls.length c] w fun e w' => e = .returned (.tuple #[.string ⟨(compL ls).1.toArray⟩, .int .i64 ((compL ls).2 : Int)]) ∧ Below w.heap.size w w' := by
  have HR := Lib.hid hr; clear hr
  have HS := Lib.hid hs; clear hs
  obtain ⟨N, eN⟩ : ∃ N, N = w.heap.size := ⟨_, rfl⟩
  rw [← eN] at HR ⊢
  have HB0 := Lib.hid (show Below N w w by exact Below.refl _ _)
  have EN := Lib.hid eN; clear eN
  have HN := Lib.hid (show ∀ w1 : World, Below N w w1 → N ≤ w1.heap.size from fun w1 h => by have := h.size; have := EN.out; omega)
  have IS := Lib.hid (fun (i : Nat) (h : i < ls.length) w1 => is_any (pl ls i) w1 (HS.out i h))
  have FU := Lib.hid (fun (i j : Nat) (h : i < ls.length) (h2 : j < ls.length) w1 => further_any (pl ls i) (pl ls j) w1 (HS.out i h) (HS.out j h2))
  obtain ⟨n, en⟩ : ∃ n, n = ls.length := ⟨_, rfl⟩
  rw [← en] at hl ⊢
  have EL := Lib.hid en; clear en
  go_enter Try.func14, Try.ntmps14
  go_wp2
  go_loopw [11] (fun iv wr => ∃ i : Nat, i ≤ n ∧ iv = .int .i64 (i : Int) ∧ (ls.take i).all isL = true ∧ Below N w wr) (fun iv _ => n - (intOf iv).toNat)
  case atStart => exact ⟨0, Nat.zero_le _, rfl, by simp, HB0.out⟩
  case round =>
    obtain ⟨i, hi, rfl, ha, hb⟩ := hrel
    have HA := Lib.hid ha; clear ha
    have HB := Lib.hid hb; clear hb
    by_cases hlt : i < n
    · have e1 : (i : Int) < (n : Int) := by omega
      have e2 : (0 : Int) ≤ (i : Int) := by omega
      have him : i < ls.length := by rw [← EL.out]; exact hlt
      have c1 := IS.out i him wr
      have h1 := rd_txt (HR.out.below HB.out) him
      obtain ⟨b, o, rfl, _, h1⟩ := h1
      cases hx : isL (pl ls i) with
      | false =>
        rw [hx] at c1
        have E := Lib.hid (comp_bad (all_bad him hx))
        clear hx him
        go_wp2_with (go_at_call 26; refine Calls.mono c1 ?_; rintro e w1 ⟨rfl, hd⟩; clear c1; have H1 := Lib.hid (HB.out.trans (hd.below.mono (HN.out _ HB.out))); clear hd)
        go_ret2
        exact ⟨by rw [E.out]; rfl, H1.out⟩
      | true =>
        rw [hx] at c1
        have HX := Lib.hid (all_take HA.out him hx)
        clear hx him
        go_wp2_with (go_at_call 26; refine Calls.mono c1 ?_; rintro e w1 ⟨rfl, hd⟩; clear c1; have H1 := Lib.hid (HB.out.trans (hd.below.mono (HN.out _ HB.out))); clear hd)
        go_roundw
        case rel => exact ⟨i + 1, by omega, by go_num, HX.out, H1.out⟩
        case measure => simp [intOf]; omega
    · have e1 : ¬ (i : Int) < (n : Int) := by omega
      have ha : ls.all isL = true := by
        have := HA.out
        rwa [List.take_of_length_le (by have := EL.out; omega)] at this
      clear HA
      have HA := Lib.hid ha
      by_cases h8 : 8 < n
      · have g8 : decide (8 < (n : Int)) = true := by simp; omega
        have E := Lib.hid (comp_full ha (by rw [← EL.out]; exact h8))
        clear h8 ha
        go_wp2
        go_ret2
        exact ⟨by rw [E.out]; rfl, HB.out⟩
      · have g8 : decide (8 < (n : Int)) = false := by simp; omega
        have hn8 : n ≤ 8 := by omega
        have E := Lib.hid (comp_ok ha (by rw [← EL.out]; exact hn8))
        have HC := Lib.hid (show ∀ k, (compK ls k).length ≤ 304 from fun k => by have := compK_len ha k; have := EL.out; omega)
        have HP := Lib.hid (show ∀ i, i < n → (pl ls i).length ≤ 36 from fun i hi => by
          have hm : pl ls i ∈ ls := pl_mem (by rw [← EL.out]; exact hi)
          exact real_len (all_isL ha hm))
        clear h8 ha
        obtain ⟨w0, e0⟩ : ∃ w0 : World, w0 = wr := ⟨_, rfl⟩
        go_wp2
        go_loopw [6, 24] (fun vv iv wr => ∃ k : Nat, k ≤ n ∧ iv = .int .i64 (k : Int) ∧ OwnB wr N vv (compK ls k) ∧ Below N w wr) (fun _ iv _ => n - (intOf iv).toNat)
        case atStart => exact ⟨0, Nat.zero_le _, rfl, by rw [comp_zero]; exact OwnB.nil _ _, HB.out⟩
        case round =>
          clear e0 w0
          obtain ⟨k, hk, rfl, ho, hb⟩ := hrel
          have HO := Lib.hid ho; clear ho
          replace HB := Lib.hid hb; clear hb
          by_cases hlt : k < n
          · have e1 : (k : Int) < (n : Int) := by omega
            have e2 : (0 : Int) ≤ (k : Int) := by omega
            have hkm : k < ls.length := by rw [← EL.out]; exact hlt
            by_cases hk0 : k = 0
            · subst hk0
              have h1 := rd_txt (HR.out.below HB.out) hkm
              obtain ⟨b, o, rfl, _, h1⟩ := h1
              have h1' := h1
              rw [Nat.add_zero] at h1'
              have EQ := Lib.hid (show compK ls 0 ++ pl ls 0 = compK ls (0 + 1) by rw [comp_zero, comp_first hkm]; rfl)
              go_wp2_with (at_builtin; refine app_str rfl (.tmp 31) (.tmp 32) rfl N _ _ rfl HO.out (pl ls 0) rfl (by have := HC.out 0; have := HP.out 0 hlt; omega) (HN.out _ HB.out) ?_; intro v' w3 ho3 hb3; rw [EQ.out] at ho3; have H3 := Lib.hid (HB.out.trans hb3); have HO3 := Lib.hid ho3; clear ho3 hb3)
              go_roundw
              case rel => exact ⟨0 + 1, by omega, rfl, HO3.out, H3.out⟩
              case measure => simp [intOf]; omega
            · obtain ⟨j, rfl⟩ : ∃ j, k = j + 1 := ⟨k - 1, by omega⟩
              have hjm : j < ls.length := by omega
              have t0 : (((j + 1 : Nat) : Int) == 0) = false := by simp; omega
              obtain ⟨q, eq⟩ : ∃ q, q = j + 1 := ⟨_, rfl⟩
              have EQ := Lib.hid (show (compK ls (j + 1) ++ [44]) ++ furL (pl ls (j + 1)) (pl ls j) = compK ls (j + 1 + 1) by rw [comp_next hkm]; simp)
              have hs1 := HP.out (j + 1) hlt
              have hf1 := fur_len (pl ls (j + 1)) (pl ls j)
              have c1 := fun w1 => FU.out (j + 1) j hkm hjm w1
              have e3 : ((j + 1 : Nat) : Int) - 1 = (j : Int) := by omega
              have hR := HR.out
              have hj1 := fun w1 (hb : Below N w w1) => rd_txt (hR.below hb) hkm
              have hj2 := fun w1 (hb : Below N w w1) => rd_txt (hR.below hb) hjm
              rw [← eq] at EQ c1 t0 e3 hk hlt e1 e2 hj1 hkm hs1 hf1 HO ⊢
              have hq1 : q ≠ 0 := by omega
              have C1 := Lib.hid c1
              have HJ1 := Lib.hid hj1
              have HJ2 := Lib.hid hj2
              have e4 : (0 : Int) ≤ (j : Int) := by omega
              have e5 : (j : Int) < (n : Int) := by omega
              have QE := Lib.hid eq
              clear c1 hj1 hj2 hR eq hk0
              obtain ⟨b, o, rfl, _, h1⟩ := HJ1.out wr HB.out
              go_wp2_with (first
                | (at_builtin; refine app_str rfl (.tmp 34) (.const (.string ⟨#[44]⟩)) rfl N _ _ rfl HO.out [44] rfl (by have := HC.out q; simp; omega) (HN.out _ HB.out) ?_; intro v' w3 ho3 hb3; have H3 := Lib.hid (HB.out.trans hb3); have HO3 := Lib.hid ho3; clear ho3 hb3 h1; have g1 := HJ2.out w3 H3.out; obtain ⟨b2, o2, eb, _, g1⟩ := g1; injection eb with eb; injection eb with eb1 eb2; subst eb1; subst eb2; have c1 := C1.out w3)
                | (go_at_call 27; refine Calls.mono c1 ?_; rintro e w4 ⟨rfl, hb⟩; clear c1 g1; have H4 := Lib.hid (H3.out.trans (hb.mono (HN.out _ H3.out))); have HO4 := Lib.hid (HO3.out.below hb); clear hb)
                | (at_builtin; refine app_str rfl (.tmp 36) (.tmp 43) rfl N _ _ rfl HO4.out _ rfl (by have := HC.out q; simp; omega) (HN.out _ H4.out) ?_; intro v' w5 ho5 hb5; rw [EQ.out] at ho5; have H5 := Lib.hid (H4.out.trans hb5); have HO5 := Lib.hid ho5; clear ho5 hb5))
              go_roundw
              case rel => exact ⟨q + 1, by omega, by go_num, HO5.out, H5.out⟩
              case measure => simp [intOf]; omega
          · have e1 : ¬ (k : Int) < (n : Int) := by omega
            have ek : compK ls k = compT ls := by rw [← comp_all ls, show k = ls.length by rw [← EL.out]; omega]
            rw [ek] at HO
            obtain ⟨A2, c2, rfl, hr2⟩ := HO.out.slice
            have hcv := run_bytes_str (P := Try.prog) wr 46 5 Try.underlying46 Try.underlying5 hr2 (compT ls).length c2 rfl 9 Try.underlying9
            clear hr2 ek
            go_wp2
            go_ret2
            exact ⟨by rw [E.out]; rfl, HB.out⟩
end Go.Proofs.Ytmgbhkhkbebfpaa.Tr
