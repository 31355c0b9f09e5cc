/-
  RoutePaths walked.
-/
import Derived.Test.YtnalnhplcchdoaaRtAux
import Derived.Test.YtnalnhplcchdoaaRtRef
import Derived.Test.YtnalnhplcchdoaaRtRef7
import Derived.Test.YtnalnhplcchdoaaRtWalk
import Derived.Test.YtnalnhplcchdoaaOpenB
import Derived.Deep.RegionHeld3
import Derived.Test.YtnalnhplcchdoaaRegion4
set_option linter.unusedVariables false
set_option linter.unusedSimpArgs false
namespace Go.Proofs.Ytnalnhplcchdoaa.RtW
open Go.RowKit Go.Proofs.Ytnalnhplcchdoaa.Mem Go.Proofs.Ytnalnhplcchdoaa.Nm Go.Proofs.Ytnalnhplcchdoaa.Rt

def allT : List L := [[65], [66], [67], [68], [69], [70]]
def inT : List L := [[66], [67], [68], [69]]
/-- one way is laid down, from the first one to the last one -/
def tPa (l : List L) (K : List Pr) : Tp := ⟨allT, K, [⟨[65], [70], l⟩]⟩
theorem pa_laid (l : List L) (K : List Pr) : laidB (tPa l K) [65] [70] = true ∧ vL (tPa l K) [65] [70] = l := by
  have e : laidI (tPa l K) [65] [70] = 0 := laid_at (by simp [tPa]) (by simp [tPa, isP, al]) (fun k hk => absurd hk (Nat.not_lt_zero k))
  rw [laidB, vL, e]; exact ⟨rfl, rfl⟩
theorem pa_next {l : List L} {K : List Pr} (h : ([65], l.headD [70]) ∈ K) : nxS (tPa l K) [65] [70] = l.headD [70] ∧ nxB (tPa l K) [65] [70] = true := by
  have e : nextO (tPa l K) [65] [70] = some (l.headD [70]) := by
    rw [nextO, if_neg (by decide), steps_of (pa_laid l K).1, (pa_laid l K).2, List.find?_cons]
    have : linkL (tPa l K) [65] (l.headD [70]) = true := by rw [linkL, decide_eq_true_eq]; exact h
    rw [this]
  rw [nxS, nxB, e]; exact ⟨rfl, rfl⟩
theorem pa_via (l : List L) (K : List Pr) : viaL (tPa l K) [65] [70] = l := by rw [via_of (pa_laid l K).1, (pa_laid l K).2]
theorem pa_all (l : List L) (K : List Pr) : allowB (tPa l K) [65] [70] l = true := by
  rw [allowB, pa_via, List.all_eq_true]; intro x hx; exact decide_eq_true hx
theorem pa_one (l : List L) (K : List Pr) (o : L) : allowB (tPa l K) [65] [70] [o] = decide (o ∈ l) := by rw [allowB, pa_via]; simp
theorem pa_end {l : List L} (K : List Pr) (h : ∀ x ∈ l, x ∈ inT) : allowB (tPa l K) [65] [70] [[65]] = false := by
  rw [pa_one, decide_eq_false]
  intro g
  exact absurd (h _ g) (by decide)
theorem pa_sm {l : List L} {K : List Pr} (hl : l.length ≤ 4) (h : ∀ x ∈ l, x ∈ inT) (hk : K.length ≤ 3000) : Sm (tPa l K) := by
  refine ⟨by simp [tPa, allT], hk, by simp [tPa], fun x hx => ?_, fun q hq => ?_, fun q hq x hx => ?_⟩
  · have : ∀ y ∈ allT, y.length ≤ 3000 := by decide
    exact this x hx
  · obtain rfl : q = ⟨[65], [70], l⟩ := by simpa [tPa] using hq
    exact Nat.le_trans hl (by decide)
  · obtain rfl : q = ⟨[65], [70], l⟩ := by simpa [tPa] using hq
    have : ∀ y ∈ inT, y.length ≤ 3000 := by decide
    exact this x (h x hx)
theorem pa_row (l : List L) : pl ([65] :: (l ++ [[70]])) 1 = l.headD [70] := by cases l <;> rfl
theorem and_three (z : Int) : ∃ m : Nat, m ≤ 3 ∧ bits .and .i64 z 3 = (m : Int) := by
  refine ⟨(BitVec.ofInt 64 z &&& BitVec.ofInt 64 3).toNat, ?_, ?_⟩
  · rw [BitVec.toNat_and]
    exact Nat.le_trans Nat.and_le_right (by decide)
  · show IntKind.i64.wrap ((BitVec.ofInt 64 z &&& BitVec.ofInt 64 3).toNat : Int) = _
    have h : (BitVec.ofInt 64 z &&& BitVec.ofInt 64 3).toNat ≤ 3 := by
      rw [BitVec.toNat_and]
      exact Nat.le_trans Nat.and_le_right (by decide)
    rw [IntKind.wrap_i64]; omega
theorem in_at {m : Nat} (h : m ≤ 3) : pl allT (m + 1) ∈ inT := by
  rcases (by omega : m = 0 ∨ m = 1 ∨ m = 2 ∨ m = 3) with rfl | rfl | rfl | rfl <;> decide
/-- the cells of the six realms -/
def allC : Array Value := #[.string ⟨#[65]⟩, .string ⟨#[66]⟩, .string ⟨#[67]⟩, .string ⟨#[68]⟩, .string ⟨#[69]⟩, .string ⟨#[70]⟩]
theorem all_at {w : World} {N m : Nat} (h : Blk w N 9 allC) (hm : m ≤ 3) : w.cell? ⟨N, 1 + m, none⟩ = some (.string ⟨(pl allT (m + 1)).toArray⟩) := by
  rw [h.cell]
  rcases (by omega : m = 0 ∨ m = 1 ∨ m = 2 ∨ m = 3) with rfl | rfl | rfl | rfl <;> rfl
theorem rd_int {w : World} {B : Nat} {A : Option Addr} {zs : List Int} (h : Rd w B A (zs.map (Value.int .i64))) {i : Nat} (hi : i < zs.length) : ∃ b o z, A = some ⟨b, o, none⟩ ∧ w.cell? ⟨b, o + i, none⟩ = some (.int .i64 z) := by
  obtain ⟨b, o, h1, _, h2⟩ := h.at_ (i := i) (u := .int .i64 zs[i]) (by simp [hi])
  exact ⟨b, o, _, h1, h2⟩
/-- the block of a row that is not empty -/
theorem own_block {w : World} {base : Nat} {v : Value} {ls : List L} (h : Own w base v ls) (hn : 0 < ls.length) : ∃ g c, v = .slice (some ⟨g, 0, none⟩) ls.length c ∧ base ≤ g ∧ g < w.heap.size ∧ ls.length ≤ c ∧ Rd w w.heap.size (some ⟨g, 0, none⟩) (strs ls) := by
  have h' := h
  rcases h.2 with ⟨_, h2⟩ | ⟨g, cap, cur, h1, hg, hh, hc, _⟩
  · omega
  · subst h1
    exact ⟨g, cap, rfl, hg, (Array.getElem?_eq_some_iff.1 hh).1, hc, Rd.of_own (n := ls.length) (cap := cap) h'⟩
/-- what reads goes on reading, but in one block -/
theorem cell_far {w w' : World} {row g : Nat} {ls : List L} (h : Rd w w.heap.size (some ⟨g, 0, none⟩) (strs ls)) (hg : w.grownBy w' (some row)) (hne : g ≠ row) {i : Nat} (hi : i < ls.length) : w'.cell? ⟨g, i, none⟩ = some (.string ⟨(pl ls i).toArray⟩) := by
  obtain ⟨b, o, e, hb, hc⟩ := rd_txt h hi
  injection e with e
  injection e with e1 e2
  subst e1; subst e2
  rw [Nat.zero_add] at hc
  exact (Tr.cell_same (hg.block g hb fun e => hne (by injection e)) _).trans hc
theorem g_more {a w c : World} {row : Option Nat} (h : a.grownBy w row) (k : Below a.heap.size w c) : a.grownBy c row :=
  ⟨k.os.trans h.os, k.tape.trans h.tape, k.output.trans h.output, Nat.le_trans h.size k.size, fun i hi hn => (k.block i hi).trans (h.block i hi hn)⟩
theorem ownp_put {w : World} {base g j : Nat} {v u : Value} {K : List Pr} (h : OwnP w base v K) (hg : g < base) : OwnP (w.setCell ⟨g, j, none⟩ u) base v K :=
  owns_heap h fun b hb => Below.heap_setCell w _ u b (fun e => by have h1 := (h.lt b hb).1; simp only at e; omega)
/-- append of one pair in a region of many orders -/
theorem ap_pr (w : World) (base : Nat) (v : Value) (K : List Pr) (hown : OwnP w base v K) (p : Pr) (g : Nat) (hc0 : w.cell? ⟨g, 0, none⟩ = some (st p.1)) (hc1 : w.cell? ⟨g, 1, none⟩ = some (st p.2)) (hl : K.length + 1 ≤ 1000000) (hb : base ≤ w.heap.size) :
    ∃ v' w', (Builtin.append_ #[23, 23] 23 #[v, .slice (some ⟨g, 0, none⟩) 1 1]).run Try.prog w = .ok v' w' ∧ OwnP w' base v' (K ++ [p]) ∧ Below base w w' := by
  obtain ⟨i0, hi0, hz0, hs0, hb0⟩ := info_parts pair_info
  obtain ⟨v', w', hrun, h2, h3, _, _⟩ := run_append_own_at (P := Try.prog) w base 23 23 43 i0 _ 2 32 Try.underlying23 hi0 hz0 hs0 hb0 rfl (by omega) v K.length (prs K) hown ⟨g, 0, none⟩ 1 1 (prs [p]) rfl (fun j u hu => by
      rw [addr_add, Nat.zero_add]
      have e : prs [p] = [st p.1, st p.2] := rfl
      rw [e] at hu
      rcases j with _ | _ | j
      · simp only [List.getElem?_cons_zero, Option.some.injEq] at hu; rw [← hu]; exact hc0
      · simp only [List.getElem?_cons_succ, List.getElem?_cons_zero, Option.some.injEq] at hu; rw [← hu]; exact hc1
      · simp at hu) (prs_one _) (by unfold maxLen; omega) (by omega) hb
  exact ⟨v', w', hrun, by rw [OwnP, List.length_append, prs_append]; exact h2, (Below.refl _ _).grown h3 hb (fun k hk => (hown.lt k hk).1)⟩
theorem lit_one (w : World) (r : L) : Rd (w.alloc (.cells #[.string ⟨r.toArray⟩] 9)) (w.alloc (.cells #[.string ⟨r.toArray⟩] 9)).heap.size (some ⟨w.heap.size, 0, none⟩) (strs [r]) := by
  obtain ⟨A, c, e, _, h⟩ := lit_sl w [r]
  injection e with e
  subst e
  exact h.more (by simp)
/-- app_front, where the newest block's number is known -/
theorem app_front_at {w : World} {ops : Array Oper} {rest : List Oper} {o : Oper} {a : Act} {Q : Exit → Act → World → Prop} (P : Nat) (hP : w.heap.size = P) (hgd : o.guard = none) (s x : Operand) (ho : o.op = .call { callee := .builtin .append, args := #[s, x], argTypes := #[22, 22] })
    (r : L) (hs : a.eval s = .slice (some ⟨P, 0, none⟩) 1 1) (A : Option Addr) (c : Nat) (ms : List L) (hx : a.eval x = .slice A ms.length c) (hr : Rd w w.heap.size A (strs ms))
    (hl : 1 + ms.length ≤ 8000000000000)
    (h : ∀ v' w', Own w' P v' (r :: ms) → Below P w w' → wpList Try.prog ops Q rest (a.put o.dst v') w') : wpList Try.prog ops Q (o :: rest) a (w.alloc (.cells #[.string ⟨r.toArray⟩] 9)) := by
  subst hP
  exact app_front hgd s x ho r hs A c ms hx hr hl h

set_option maxHeartbeats 6400000 in
set_option maxRecDepth 100000 in
theorem paths_few (A : Option Addr) (zs : List Int) (c : Nat) (b : Int) (w : World) (hr : Rd w w.heap.size A (zs.map (Value.int .i64))) (hcnt : zs.length ≤ 4) (hl : zs.length ≤ 9223372036854775807) :
    Calls Try.prog 7 #[.slice A zs.length c, .int .i64 b] w fun e w' => e = .returned (.bool true) ∧ Below w.heap.size w w' := by
  obtain ⟨N, eN⟩ : ∃ N, N = w.heap.size := ⟨_, rfl⟩
  have HB0 := Lib.hid (show Below N w (w.alloc (.cells allC 9)) by rw [eN]; exact (Below.refl _ _).alloc (Nat.le_refl _) _)
  have HK0 := Lib.hid (Blk.new w 9 allC)
  have EN0 := Lib.hid eN
  have HSZ := Lib.hid (show ∀ w1 : World, Below N w w1 → N ≤ w1.heap.size from fun w1 h => by have := h.size; have := EN0.out; omega)
  have HRL := Lib.hid (fun w1 (h : Below N w w1) => (by rw [← eN] at hr; exact hr.below h : Rd w1 N A (zs.map (Value.int .i64))))
  have CK := Lib.hid (fun w1 => known_any w1)
  obtain ⟨n, en⟩ : ∃ n, n = zs.length := ⟨_, rfl⟩
  rw [← en] at hl hcnt ⊢
  have EN := Lib.hid en
  clear en hr eN
  go_enter Try.func7, Try.ntmps7
  go_wp2
  go_loopw [6, 7] (fun lv iv wr => ∃ (i : Nat) (l : List L), i ≤ n ∧ i ≤ 4 ∧ iv = .int .i64 (i : Int) ∧ l.length = i ∧ (∀ x ∈ l, x ∈ inT) ∧ Own wr (N + 1) lv l ∧ Blk wr w.heap.size 9 allC ∧ Below N w wr) (fun _ iv _ => 4 - (intOf iv).toNat)
  case atStart => exact ⟨0, [], Nat.zero_le _, by omega, rfl, rfl, (fun x hx => by cases hx), Own.nil _ _, HK0.out, HB0.out⟩
  case round =>
    obtain ⟨i, l, hin, hi4, rfl, hll, hlt', ho, hk, hb⟩ := hrel
    have HK := Lib.hid hk; have HO := Lib.hid ho; have HT := Lib.hid hlt'; have HL := Lib.hid hll; have HB := Lib.hid hb; clear hk ho hlt' hll hb HK0 HB0
    obtain ⟨A5, c5, e5, r5⟩ := HO.out.slice
    subst e5
    by_cases hlt : i < n ∧ i < 4
    · have e1 : decide ((i : Int) < (n : Int)) = true := decide_eq_true (by omega)
      have e1' : (i : Int) < (n : Int) := by omega
      have e2 : (0 : Int) ≤ (i : Int) := by omega
      have e3 : decide ((i : Int) < 4) = true := decide_eq_true (by omega)
      obtain ⟨b1, o, z, rfl, h1⟩ := rd_int (HRL.out wr HB.out) (i := i) (by rw [← EN.out]; exact hlt.1)
      obtain ⟨m, hm, em⟩ := and_three z
      have h2 := all_at HK.out hm
      have HIN := Lib.hid (in_at hm)
      obtain ⟨r, er⟩ : ∃ r, r = pl allT (m + 1) := ⟨_, rfl⟩
      rw [← er] at h2 HIN
      have e4 : (0 : Int) ≤ 1 + (m : Int) := by omega
      have e5 : 1 + (m : Int) < 6 := by omega
      have e6 : (1 + (m : Int)).toNat = 1 + m := by omega
      have e7 : IntKind.i64.wrap (1 + (m : Int)) = 1 + (m : Int) := IntWalk.i64_in _ (by omega)
      have c2 := place_any l A5 c5 wr.heap.size r wr (by have := HL.out; omega) r5
      have HI := Lib.hid hlt
      clear r5 hlt er
      by_cases hmem : r ∈ l
      · obtain ⟨q, eq, hq⟩ := place_in hmem
        rw [← eq] at c2
        have t1 : decide (0 ≤ q) = true := decide_eq_true hq
        clear eq hq hmem
        go_wp2_with (go_at_call 28; refine Calls.mono c2 ?_; rintro e wp ⟨rfl, rfl⟩; clear c2)
        go_ret
        exact ⟨rfl, by rw [← EN0.out]; exact HB.out⟩
      · obtain ⟨q, eq, hq⟩ := place_out hmem
        rw [← eq] at c2
        have t1 : decide (0 ≤ q) = false := decide_eq_false (by omega)
        clear eq hq hmem
        go_wp2_with (first
          | (go_at_call 28; refine Calls.mono c2 ?_; rintro e wp ⟨rfl, rfl⟩; clear c2)
          | (at_builtin; refine app_one rfl (.tmp 39) (.tmp 41) rfl (N + 1) _ l rfl HO.out r rfl (by have := HL.out; omega) (by have := HK.out.lt; have := EN0.out; omega) ?_; intro v2 w2 ho2 hb2; have HO2 := Lib.hid ho2; have HK2 := Lib.hid (show Blk w2 w.heap.size 9 allC from (hb2.block _ (by have := EN0.out; omega)).trans HK.out); have H2 := Lib.hid (HB.out.trans (hb2.mono (by omega))); clear ho2 hb2))
        go_roundw
        case rel => exact ⟨i + 1, l ++ [r], by have := HI.out; omega, by have := HI.out; omega, by go_num, by simp [HL.out], (fun x hx => by rcases List.mem_append.1 hx with g | g; exact HT.out x g; rw [List.mem_singleton] at g; rw [g]; exact HIN.out), HO2.out, HK2.out, H2.out⟩
        case measure => have := HI.out; simp [intOf]; omega
    · have e1 : decide ((i : Int) < (n : Int)) = false := decide_eq_false (by omega)
      have e1' : ¬ (i : Int) < (n : Int) := by omega
      clear hlt
      have HW1 := Lib.hid (show Below wr.heap.size wr ((wr.alloc (.cells #[.string ⟨#[65]⟩, .string ⟨#[70]⟩, .slice A5 l.length c5] 48)).alloc (.cells #[.slice (some ⟨w.heap.size, 0, none⟩) 6 6, .slice none 0 0, .slice (some ⟨wr.heap.size, 0, none⟩) 1 1] 26)) from ((Below.refl _ _).alloc (Nat.le_refl _) _).alloc (by simp) _)
      have HPA := Lib.hid ((Blk.new wr 48 #[.string ⟨#[65]⟩, .string ⟨#[70]⟩, .slice A5 l.length c5]).alloc (.cells #[.slice (some ⟨w.heap.size, 0, none⟩) 6 6, .slice none 0 0, .slice (some ⟨wr.heap.size, 0, none⟩) 1 1] 26))
      have HBX := Blk.new (wr.alloc (.cells #[.string ⟨#[65]⟩, .string ⟨#[70]⟩, .slice A5 l.length c5] 48)) 26 #[.slice (some ⟨w.heap.size, 0, none⟩) 6 6, .slice none 0 0, .slice (some ⟨wr.heap.size, 0, none⟩) 1 1]
      rw [show (wr.alloc (.cells #[.string ⟨#[65]⟩, .string ⟨#[70]⟩, .slice A5 l.length c5] 48)).heap.size = wr.heap.size + 1 by simp] at HBX
      replace HBX := Lib.hid HBX
      have HSW := Lib.hid (show ((wr.alloc (.cells #[.string ⟨#[65]⟩, .string ⟨#[70]⟩, .slice A5 l.length c5] 48)).alloc (.cells #[.slice (some ⟨w.heap.size, 0, none⟩) 6 6, .slice none 0 0, .slice (some ⟨wr.heap.size, 0, none⟩) 1 1] 26)).heap.size = wr.heap.size + 1 + 1 by simp)
      have HAL := Lib.hid (HK.out.below HW1.out)
      have HOL := Lib.hid (HO.out.below HW1.out)
      have HB2 := Lib.hid (HB.out.trans (HW1.out.mono (HSZ.out _ HB.out)))
      have HL4 := Lib.hid (show l.length ≤ 4 by have := HL.out; omega)
      have HPN := Lib.hid (show N < wr.heap.size by have := HK.out.lt; have := EN0.out; omega)
      have HR5 := Lib.hid (Rd.of_own (n := l.length) HOL.out)
      clear r5 HK HB HW1
      go_wp2_with (first
        | (at_builtin; refine app_front_at (wr.heap.size + 1 + 1) HSW.out rfl (.tmp 48) (.tmp 49) rfl [65] rfl A5 c5 l rfl HR5.out (by have := HL4.out; omega) ?_; intro v2 w7 ho2 hb2; have HO2 := Lib.hid ho2; have H2 := Lib.hid hb2; clear ho2 hb2)
        | (at_builtin; refine app_one rfl (.tmp 50) (.tmp 51) rfl (wr.heap.size + 1 + 1) _ ([65] :: l) rfl HO2.out [70] rfl (by have := HL4.out; simp; omega) (by have h := H2.out.size; have := HSW.out; omega) ?_; intro v3 w8 ho3 hb3; have H3 := Lib.hid (H2.out.trans hb3); have HO3 := Lib.hid ho3; clear ho3 hb3 HO2 H2))
      have HPN1 := Lib.hid (show w.heap.size < wr.heap.size by have := HPN.out; have := EN0.out; omega)
      obtain ⟨P, eP⟩ : ∃ P, P = wr.heap.size := ⟨_, rfl⟩
      have HSZ8 := Lib.hid (show P + 2 ≤ w8.heap.size by have h := H3.out.size; have := HSW.out; omega)
      have HB8 := Lib.hid (HB2.out.trans (H3.out.mono (show N ≤ wr.heap.size + 1 + 1 by have := HPN.out; omega)))
      have HPA8 := Lib.hid (show Blk w8 P 48 #[.string ⟨#[65]⟩, .string ⟨#[70]⟩, .slice A5 l.length c5] by rw [eP]; exact HPA.out.below (by rw [HSW.out]; exact H3.out))
      have HBX8 := Lib.hid (show Blk w8 (P + 1) 26 #[.slice (some ⟨w.heap.size, 0, none⟩) 6 6, .slice none 0 0, .slice (some ⟨P, 0, none⟩) 1 1] by rw [eP]; exact HBX.out.below (by rw [HSW.out]; exact H3.out))
      have HAL8 := Lib.hid (HAL.out.below (by rw [HSW.out]; exact H3.out))
      have HOL8 := Lib.hid (show Own w8 (N + 1) (.slice A5 l.length c5) l from HOL.out.below (by rw [HSW.out]; exact H3.out))
      have HLT := Lib.hid (show ∀ g, (Value.slice A5 l.length c5).ownBlock = some g → g < P from fun g hg => by rw [eP]; exact (HO.out.lt g hg).2)
      obtain ⟨Q, eQ⟩ : ∃ Q, Q = [65] :: (l ++ [[70]]) := ⟨_, rfl⟩
      have HQ1 := Lib.hid (show pl Q 0 = [65] ∧ pl Q 1 = l.headD [70] by rw [eQ]; exact ⟨rfl, pa_row l⟩)
      have ho9 : Own w8 (wr.heap.size + 1 + 1) v3 Q := by rw [eQ]; exact HO3.out
      have hql : Q.length = l.length + 2 := by rw [eQ]; simp
      obtain ⟨g6, c6, e6, hg6, hg6', hc6, r6⟩ := own_block ho9 (by omega)
      subst e6
      rw [← eP] at hg6
      have HG6 := Lib.hid hg6
      have HR6 := Lib.hid r6
      obtain ⟨m, em⟩ : ∃ m, m = l.length := ⟨_, rfl⟩
      have hm4 : m ≤ 4 := by rw [em]; exact HL4.out
      rw [hql, ← em]
      rw [hql, ← em] at hc6
      have HQL := Lib.hid (show Q.length = m + 2 by rw [hql, em])
      rw [← em] at HPA8 HOL8 HLT
      have EM := Lib.hid em
      rw [← eP]
      have EP := Lib.hid eP
      clear HO3 H3 HOL HAL HBX HPA HSW HR5 HO HB2 eQ ho9 hg6 r6 hql em eP
      go_loopw [11] (fun iv wq => ∃ (j : Nat) (K : List Pr) (vK : Value), j ≤ m + 1 ∧ iv = .int .i64 ((j : Int) + 1) ∧ Blk wq (P + 1) 26 #[.slice (some ⟨w.heap.size, 0, none⟩) 6 6, vK, .slice (some ⟨P, 0, none⟩) 1 1] ∧ OwnP wq w8.heap.size vK K ∧ K.length ≤ j ∧ (0 < j → ([65], l.headD [70]) ∈ K) ∧ w8.grownBy wq (some (P + 1))) (fun iv _ => m + 2 - (intOf iv).toNat)
      case atStart => exact ⟨0, [], _, Nat.zero_le _, rfl, HBX8.out, OwnP.nil _ _, Nat.le_refl _, (fun h => absurd h (Nat.lt_irrefl 0)), World.grownBy.refl _ _⟩
      case round =>
        obtain ⟨j, K, vK, hj, rfl, hbx, hop, hkl, hkm, hgb⟩ := hrel
        have HBX := Lib.hid hbx; have HOP := Lib.hid hop; have HKL := Lib.hid hkl; have HKM := Lib.hid hkm; have HGB := Lib.hid hgb
        clear hbx hop hkl hkm hgb HBX8
        obtain ⟨A8, c8, e8, _⟩ := HOP.out.slice
        subst e8
        by_cases hlt : j < m + 1
        · have e7 : IntKind.i64.wrap ((j : Int) + 1 - 1) = (j : Int) := (IntWalk.i64_in _ (by omega)).trans (by omega)
          have e7' : IntKind.i64.wrap (j : Int) = (j : Int) := IntWalk.i64_in _ (by omega)
          have e10 : (0 : Int) ≤ (j : Int) + 1 := by omega
          have e11 : (j : Int) + 1 < (m : Int) + 2 := by omega
          have e12 : ((j : Int) + 1).toNat = j + 1 := by omega
          have e8 : (0 : Int) ≤ (j : Int) := by omega
          have e9 : (j : Int) < (m : Int) + 2 := by omega
          have e13 : (j : Int) + 1 ≤ (c6 : Int) := by omega
          have L1 := Lib.hid (fun w' (h : w8.grownBy w' (some (P + 1))) => cell_far HR6.out h (show g6 ≠ P + 1 by have := HG6.out; omega) (i := j) (by rw [HQL.out]; omega))
          have L2 := Lib.hid (fun w' (h : w8.grownBy w' (some (P + 1))) => cell_far HR6.out h (show g6 ≠ P + 1 by have := HG6.out; omega) (i := j + 1) (by rw [HQL.out]; omega))
          go_wp2
          refine Reg.any_begin (fun w' => w8.grownBy w' (some (P + 1))) 16 rfl (by kernel_rfl) (g_drew HGB.out) ?_
          replace HBX := Lib.hid (show Blk wr.drew _ _ _ from HBX.out.drewN 1)
          replace HOP := Lib.hid (show OwnP wr.drew _ _ _ from HOP.out.below (below_drewN (Below.refl _ _) 1))
          replace HGB := Lib.hid (g_drew HGB.out)
          obtain ⟨W, eW⟩ : ∃ W, W = wr.drew := ⟨_, rfl⟩
          rw [← eW] at HBX HOP HGB ⊢
          clear eW
          refine Reg.any_take 0 (v := ?v0) rfl (by kernel_rfl) (by kernel_rfl) (by kernel_rfl) (fun _ _ _ h => h) HGB.out (by rfl) (fun w' hS => ?h0) ?r0
          case h0 => go_simp; rfl
          simp only [Act.put, List.setIfInBounds_toArray, List.set_cons_zero, List.set_cons_succ]
          refine Reg.any_take 2 (v := ?v2) rfl (by kernel_rfl) (by kernel_rfl) (by kernel_rfl) (fun _ _ _ h => h) HGB.out (by rfl) (fun w' hS => ?h2) ?r2
          case h2 => go_simp; rfl
          simp only [Act.put, List.setIfInBounds_toArray, List.set_cons_zero, List.set_cons_succ]
          refine Reg.any_take 3 (v := ?v3) rfl (by kernel_rfl) (by kernel_rfl) (by kernel_rfl) (fun _ _ _ h => h) HGB.out (by rfl) (fun w' hS => ?h3) ?r3
          case h3 => go_simp; rfl
          simp only [Act.put, List.setIfInBounds_toArray, List.set_cons_zero, List.set_cons_succ]
          refine Reg.any_take 4 (v := ?v4) rfl (by kernel_rfl) (by kernel_rfl) (by kernel_rfl) (fun _ _ _ h => h) HGB.out (by rfl) (fun w' hS => ?h4) ?r4
          case h4 => go_simp; rfl
          simp only [Act.put, List.setIfInBounds_toArray, List.set_cons_zero, List.set_cons_succ]
          refine Reg.any_take 5 (v := ?v5) rfl (by kernel_rfl) (by kernel_rfl) (by kernel_rfl) (fun _ _ _ h => h) HGB.out (by rfl) (fun w' hS => ?h5) ?r5
          case h5 => go_simp; rfl
          simp only [Act.put, List.setIfInBounds_toArray, List.set_cons_zero, List.set_cons_succ]
          refine Reg.any_take 6 (v := ?v6) rfl (by kernel_rfl) (by kernel_rfl) (by kernel_rfl) (fun _ _ _ h => h) HGB.out (by rfl) (fun w' hS => ?h6) ?r6
          case h6 => have h := L1.out w' hS; go_simp; rfl
          simp only [Act.put, List.setIfInBounds_toArray, List.set_cons_zero, List.set_cons_succ]
          refine Reg.any_take 7 (v := ?v7) rfl (by kernel_rfl) (by kernel_rfl) (by kernel_rfl) (fun _ _ _ h => h) HGB.out (by rfl) (fun w' hS => ?h7) ?r7
          case h7 => go_simp; rfl
          simp only [Act.put, List.setIfInBounds_toArray, List.set_cons_zero, List.set_cons_succ]
          refine Reg.any_take 8 (v := ?v8) rfl (by kernel_rfl) (by kernel_rfl) (by kernel_rfl) (fun _ _ _ h => h) HGB.out (by rfl) (fun w' hS => ?h8) ?r8
          case h8 => go_simp; rfl
          simp only [Act.put, List.setIfInBounds_toArray, List.set_cons_zero, List.set_cons_succ]
          refine Reg.any_take 9 (v := ?v9) rfl (by kernel_rfl) (by kernel_rfl) (by kernel_rfl) (fun _ _ _ h => h) HGB.out (by rfl) (fun w' hS => ?h9) ?r9
          case h9 => go_simp; rfl
          simp only [Act.put, List.setIfInBounds_toArray, List.set_cons_zero, List.set_cons_succ]
          refine Reg.any_take 10 (v := ?v10) rfl (by kernel_rfl) (by kernel_rfl) (by kernel_rfl) (fun _ _ _ h => h) HGB.out (by rfl) (fun w' hS => ?h10) ?r10
          case h10 => have h := L2.out w' hS; go_simp; rfl
          simp only [Act.put, List.setIfInBounds_toArray, List.set_cons_zero, List.set_cons_succ]
          refine Reg.any_take 11 (v := ?v11) rfl (by kernel_rfl) (by kernel_rfl) (by kernel_rfl) (fun _ _ _ h => h) HGB.out (by rfl) (fun w' hS => ?h11) ?r11
          case h11 => go_simp; rfl
          simp only [Act.put, List.setIfInBounds_toArray, List.set_cons_zero, List.set_cons_succ]
          have hb1 : Below W.heap.size W (W.alloc (.cells #[.string ⟨(pl Q j).toArray⟩, .string ⟨(pl Q (j + 1)).toArray⟩] 43)) := (Below.refl _ _).alloc (Nat.le_refl _) _
          have hg1 := g_alloc HGB.out (.cells #[.string ⟨(pl Q j).toArray⟩, .string ⟨(pl Q (j + 1)).toArray⟩] 43)
          have k1 : W.cell? ⟨P + 1, 1, none⟩ = some (.slice A8 K.length c8) := HBX.out.cell 1
          have k1' : (W.alloc (.cells #[.string ⟨(pl Q j).toArray⟩, .string ⟨(pl Q (j + 1)).toArray⟩] 43)).cell? ⟨P + 1, 1, none⟩ = some (.slice A8 K.length c8) := (HBX.out.below hb1).cell 1
          refine Reg.eff_all [1, 12] (by kernel_rfl) (by simp) ?_
          intro j0 hj0
          have hj0 : j0 = 1 ∨ j0 = 12 := by simpa using hj0
          rcases hj0 with rfl | rfl
          · refine ⟨_, _, _, _, _, _, _, W, rfl, by rfl, by (go_simp; rfl), HGB.out, ?_⟩
            simp only [Act.put, List.setIfInBounds_toArray, List.set_cons_zero, List.set_cons_succ]
            refine Reg.eff_all [12] (by kernel_rfl) (by simp) ?_
            intro j0 hj0
            obtain rfl : j0 = 12 := by simpa using hj0
            clear hj0
            refine ⟨_, _, _, _, _, _, _, (W.alloc (.cells #[.string ⟨(pl Q j).toArray⟩, .string ⟨(pl Q (j + 1)).toArray⟩] 43)), rfl, by rfl, by (go_simp; rfl), hg1, ?_⟩
            simp only [Act.put, List.setIfInBounds_toArray, List.set_cons_zero, List.set_cons_succ]
            refine Reg.eff_all [13] (by kernel_rfl) (by simp) ?_
            intro j0 hj0
            obtain rfl : j0 = 13 := by simpa using hj0
            clear hj0
            obtain ⟨v9, w9, hrun, ho9, hb9⟩ := ap_pr (W.alloc (.cells #[.string ⟨(pl Q j).toArray⟩, .string ⟨(pl Q (j + 1)).toArray⟩] 43)) w8.heap.size (.slice A8 K.length c8) K (HOP.out.below hb1) (pl Q j, pl Q (j + 1)) W.heap.size ((Blk.new W 43 _).cell 0) ((Blk.new W 43 _).cell 1) (by have := HKL.out; omega) hg1.size
            refine ⟨_, _, _, _, _, _, v9, w9, rfl, by rfl, by (simp only [execOp, resolve, invoke, builtin, Sem.run_bind, Sem.run_pure, Result.andThen_ok, List.map_toArray, List.map_cons, List.map_nil, Act.eval]; refine (congrArg (fun r => Result.andThen r _) hrun).trans ?_; rfl), g_more hg1 hb9, ?_⟩
            simp only [Act.put, List.setIfInBounds_toArray, List.set_cons_zero, List.set_cons_succ]
            have HG9 := Lib.hid (g_more hg1 hb9)
            have HO9 := Lib.hid ho9
            have HX9 := Lib.hid (show Blk w9 (P + 1) 26 _ from (hb9.block _ (by have := HSZ8.out; omega)).trans (HBX.out.below hb1))
            obtain ⟨A7, c7, e7', _⟩ := ho9.slice
            rw [show (K ++ [(pl Q j, pl Q (j + 1))]).length = K.length + 1 by simp] at e7'
            subst e7'
            clear hrun ho9 hb9 hg1 hb1
            refine Reg.any_take 14 (v := ?va14) rfl (by kernel_rfl) (by kernel_rfl) (by kernel_rfl) (fun _ _ _ h => h) HG9.out (by rfl) (fun w' hS => ?ha14) ?ra14
            case ha14 => go_simp; rfl
            simp only [Act.put, List.setIfInBounds_toArray, List.set_cons_zero, List.set_cons_succ]
            have f0 := HX9.out.frozen 1
            have k9 : w9.cell? ⟨P + 1, 1, none⟩ = some (.slice A8 K.length c8) := HX9.out.cell 1
            refine Reg.any_store 15 (w9.setCell ⟨P + 1, 1, none⟩ (.slice A7 (K.length + 1) c7)) rfl (by kernel_rfl) (by rfl) (by go_simp) (g_set HG9.out (.inl rfl) _) ?_
            simp only [Act.put, List.setIfInBounds_toArray, List.set_cons_zero, List.set_cons_succ]
            refine wpAnyH_done (by kernel_rfl) ?_ _
            have HX3 := Lib.hid (HX9.out.set 1 (.slice A7 (K.length + 1) c7))
            have HO3 := Lib.hid (ownp_put (j := 1) (u := .slice A7 (K.length + 1) c7) HO9.out (show P + 1 < w8.heap.size by have := HSZ8.out; omega))
            have HG3 := Lib.hid (g_set HG9.out (p := ⟨P + 1, 1, none⟩) (.inl rfl) (.slice A7 (K.length + 1) c7))
            clear f0 k9 k1 k1'
            go_wp2
            go_roundw
            case rel => exact ⟨j + 1, K ++ [(pl Q j, pl Q (j + 1))], _, by omega, by go_num, HX3.out, HO3.out, by have := HKL.out; simp; omega, (fun _ => by rcases Nat.eq_zero_or_pos j with g | g; exact List.mem_append_right _ (by rw [g, HQ1.out.1, HQ1.out.2]; exact List.mem_singleton_self _); exact List.mem_append_left _ (HKM.out g)), HG3.out⟩
            case measure => simp [intOf]; omega
          · refine ⟨_, _, _, _, _, _, _, (W.alloc (.cells #[.string ⟨(pl Q j).toArray⟩, .string ⟨(pl Q (j + 1)).toArray⟩] 43)), rfl, by rfl, by (go_simp; rfl), hg1, ?_⟩
            simp only [Act.put, List.setIfInBounds_toArray, List.set_cons_zero, List.set_cons_succ]
            refine Reg.eff_all [1] (by kernel_rfl) (by simp) ?_
            intro j0 hj0
            obtain rfl : j0 = 1 := by simpa using hj0
            clear hj0
            refine ⟨_, _, _, _, _, _, _, (W.alloc (.cells #[.string ⟨(pl Q j).toArray⟩, .string ⟨(pl Q (j + 1)).toArray⟩] 43)), rfl, by rfl, by (go_simp; rfl), hg1, ?_⟩
            simp only [Act.put, List.setIfInBounds_toArray, List.set_cons_zero, List.set_cons_succ]
            refine Reg.eff_all [13] (by kernel_rfl) (by simp) ?_
            intro j0 hj0
            obtain rfl : j0 = 13 := by simpa using hj0
            clear hj0
            obtain ⟨v9, w9, hrun, ho9, hb9⟩ := ap_pr (W.alloc (.cells #[.string ⟨(pl Q j).toArray⟩, .string ⟨(pl Q (j + 1)).toArray⟩] 43)) w8.heap.size (.slice A8 K.length c8) K (HOP.out.below hb1) (pl Q j, pl Q (j + 1)) W.heap.size ((Blk.new W 43 _).cell 0) ((Blk.new W 43 _).cell 1) (by have := HKL.out; omega) hg1.size
            refine ⟨_, _, _, _, _, _, v9, w9, rfl, by rfl, by (simp only [execOp, resolve, invoke, builtin, Sem.run_bind, Sem.run_pure, Result.andThen_ok, List.map_toArray, List.map_cons, List.map_nil, Act.eval]; refine (congrArg (fun r => Result.andThen r _) hrun).trans ?_; rfl), g_more hg1 hb9, ?_⟩
            simp only [Act.put, List.setIfInBounds_toArray, List.set_cons_zero, List.set_cons_succ]
            have HG9 := Lib.hid (g_more hg1 hb9)
            have HO9 := Lib.hid ho9
            have HX9 := Lib.hid (show Blk w9 (P + 1) 26 _ from (hb9.block _ (by have := HSZ8.out; omega)).trans (HBX.out.below hb1))
            obtain ⟨A7, c7, e7', _⟩ := ho9.slice
            rw [show (K ++ [(pl Q j, pl Q (j + 1))]).length = K.length + 1 by simp] at e7'
            subst e7'
            clear hrun ho9 hb9 hg1 hb1
            refine Reg.any_take 14 (v := ?vb14) rfl (by kernel_rfl) (by kernel_rfl) (by kernel_rfl) (fun _ _ _ h => h) HG9.out (by rfl) (fun w' hS => ?hb14) ?rb14
            case hb14 => go_simp; rfl
            simp only [Act.put, List.setIfInBounds_toArray, List.set_cons_zero, List.set_cons_succ]
            have f0 := HX9.out.frozen 1
            have k9 : w9.cell? ⟨P + 1, 1, none⟩ = some (.slice A8 K.length c8) := HX9.out.cell 1
            refine Reg.any_store 15 (w9.setCell ⟨P + 1, 1, none⟩ (.slice A7 (K.length + 1) c7)) rfl (by kernel_rfl) (by rfl) (by go_simp) (g_set HG9.out (.inl rfl) _) ?_
            simp only [Act.put, List.setIfInBounds_toArray, List.set_cons_zero, List.set_cons_succ]
            refine wpAnyH_done (by kernel_rfl) ?_ _
            have HX3 := Lib.hid (HX9.out.set 1 (.slice A7 (K.length + 1) c7))
            have HO3 := Lib.hid (ownp_put (j := 1) (u := .slice A7 (K.length + 1) c7) HO9.out (show P + 1 < w8.heap.size by have := HSZ8.out; omega))
            have HG3 := Lib.hid (g_set HG9.out (p := ⟨P + 1, 1, none⟩) (.inl rfl) (.slice A7 (K.length + 1) c7))
            clear f0 k9 k1 k1'
            go_wp2
            go_roundw
            case rel => exact ⟨j + 1, K ++ [(pl Q j, pl Q (j + 1))], _, by omega, by go_num, HX3.out, HO3.out, by have := HKL.out; simp; omega, (fun _ => by rcases Nat.eq_zero_or_pos j with g | g; exact List.mem_append_right _ (by rw [g, HQ1.out.1, HQ1.out.2]; exact List.mem_singleton_self _); exact List.mem_append_left _ (HKM.out g)), HG3.out⟩
            case measure => simp [intOf]; omega
        · have e1 : ¬ (j : Int) + 1 < (m : Int) + 2 := by omega
          have HKF := Lib.hid (HKM.out (show 0 < j by omega))
          have HOLf := Lib.hid (show Own wr (N + 1) (.slice A5 m c5) l from owns_heap HOL8.out fun g hg => HGB.out.block g (by have := HLT.out g hg; have := HSZ8.out; omega) (fun e => by injection e with e; have := HLT.out g hg; omega))
          have HPAf := Lib.hid (show Blk wr P 48 _ from HPA8.out.grown HGB.out (by intro e; injection e with e; omega))
          have HALf := Lib.hid (show Blk wr w.heap.size 9 allC from HAL8.out.grown HGB.out (by intro e; injection e with e; have := HPN1.out; have := EP.out; omega))
          have HQc := Lib.hid (cell_far HR6.out HGB.out (show g6 ≠ P + 1 by have := HG6.out; omega) (i := 1) (by rw [HQL.out]; omega))
          have HBf := Lib.hid (show Below N w wr from below_g HB8.out HGB.out (by have := HSZ8.out; have := HPN.out; have := EP.out; omega) (by have := HPN.out; have := EP.out; omega))
          have hsl5 : SlV wr wr.heap.size (.slice A5 m c5) l := own_sl HOLf.out
          obtain ⟨T, eT⟩ : ∃ T, T = tPa l K := ⟨_, rfl⟩
          have hv : TpV wr wr.heap.size (.agg #[.slice (some ⟨w.heap.size, 0, none⟩) 6 6, .slice A8 K.length c8, .slice (some ⟨P, 0, none⟩) 1 1]) T := by
            rw [eT]
            refine ⟨_, _, _, rfl, ⟨_, _, rfl, Nat.le_refl _, .inr ⟨w.heap.size, 0, rfl, HALf.out.lt, fun i u hu => ?_⟩⟩, HOP.out.slice, ⟨_, _, rfl, Nat.le_refl _, .inr ⟨P, 0, rfl, HPAf.out.lt, fun i hi => ?_⟩⟩⟩
            · rw [Nat.zero_add, HALf.out.cell, show allC = (strs allT).toArray from rfl, List.getElem?_toArray]
              exact hu
            · obtain rfl : i = 0 := by simp [tPa] at hi; exact hi
              exact ⟨HPAf.out.cell 0, HPAf.out.cell 1, _, HPAf.out.cell 2, hsl5⟩
          have hsm : Sm T := by rw [eT]; exact pa_sm HL4.out HT.out (by have := HKL.out; omega)
          have hnx := pa_next HKF.out
          rw [← eT] at hnx
          have NX := Lib.hid (fun w1 (h : Below wr.heap.size wr w1) => next_any T _ wr.heap.size [65] [70] w1 hsm (hv.below h) h.size (by decide) (by decide))
          rw [hnx.1, hnx.2] at NX
          have VV := Lib.hid (fun w1 (h : Below wr.heap.size wr w1) => vvia_any T _ wr.heap.size [65] [70] w1 hsm (hv.below h) h.size (by decide) (by decide))
          rw [show viaL T [65] [70] = l by rw [eT]; exact pa_via l K] at VV
          have AL := Lib.hid (fun (x y : L) (hx : x.length ≤ 1000000) (hy : y.length ≤ 1000000) (ls : List L) (A : Option Addr) (c : Nat) (hl : ls.length ≤ 1000000) w1 (h : Below wr.heap.size wr w1) (hr : Rd w1 w1.heap.size A (strs ls)) => allowed_any T _ wr.heap.size x y ls A c w1.heap.size w1 hsm (hv.below h) h.size hx hy hl hr (Nat.le_refl _))
          obtain ⟨m2, hm2, em2⟩ := and_three b
          have ho2 := all_at HALf.out hm2
          obtain ⟨o, eo⟩ : ∃ o, o = pl allT (m2 + 1) := ⟨_, rfl⟩
          rw [← eo] at ho2
          have a1 : allowB T [65] [70] l = true := by rw [eT]; exact pa_all l K
          have a2 : allowB T [65] [70] [o] = decide (o ∈ l) := by rw [eT]; exact pa_one l K o
          have a3 : allowB T [65] [70] [[65]] = false := by rw [eT]; exact pa_end K HT.out
          have a4 : allowB T [70] [65] [] = true := rfl
          have hge := Tr.ix_ge o l
          obtain ⟨z, ez⟩ : ∃ z, z = Tr.ixL o l := ⟨_, rfl⟩
          obtain ⟨q, eq⟩ : ∃ q, q = decide (o ∈ l) := ⟨_, rfl⟩
          rw [← eq] at a2 hge
          rw [← ez] at hge
          have PL := Lib.hid (fun w1 (h : Rd w1 w1.heap.size A5 (strs l)) => place_any l A5 c5 w1.heap.size o w1 (by have := HL4.out; omega) h)
          rw [← ez, ← EM.out] at PL
          have b1 : (q == q) = true := by simp
          have f4 : (0 : Int) ≤ 1 + (m2 : Int) := by omega
          have f5 : 1 + (m2 : Int) < 6 := by omega
          have f6 : (1 + (m2 : Int)).toNat = 1 + m2 := by omega
          have f7 : IntKind.i64.wrap (1 + (m2 : Int)) = 1 + (m2 : Int) := IntWalk.i64_in _ (by omega)
          have HW := Lib.hid (Below.refl wr.heap.size wr)
          have HR5 := Lib.hid (Rd.of_own (n := l.length) (show wr.ownsRow (N + 1) 9 1 (.slice A5 l.length c5) l.length (strs l) by rw [← EM.out]; have h := HOLf.out; unfold Own at h; rw [← EM.out] at h; exact h))
          have AL1 := Lib.hid (fun w1 (h : Below wr.heap.size wr w1) (hr : Rd w1 w1.heap.size A5 (strs l)) => AL.out [65] [70] (by decide) (by decide) l A5 c5 (by have := HL4.out; omega) w1 h hr)
          rw [a1, ← EM.out] at AL1
          have HEND := Lib.hid (show ∀ w1 : World, Below wr.heap.size wr w1 → Below w.heap.size w w1 from fun w1 h => by rw [← EN0.out]; exact HBf.out.trans (h.mono (HSZ.out _ HBf.out)))
          obtain ⟨d, ed⟩ : ∃ d, d = l.headD [70] := ⟨_, rfl⟩
          have hqc := HQc.out
          rw [HQ1.out.2, ← ed] at hqc
          rw [← ed] at NX
          have bd : (d == d) = true := by simp
          have k0 : wr.cell? ⟨P + 1, 0, none⟩ = some (.slice (some ⟨w.heap.size, 0, none⟩) 6 6) := HBX.out.cell 0
          have k1 : wr.cell? ⟨P + 1, 1, none⟩ = some (.slice A8 K.length c8) := HBX.out.cell 1
          have k2 : wr.cell? ⟨P + 1, 2, none⟩ = some (.slice (some ⟨P, 0, none⟩) 1 1) := HBX.out.cell 2
          have AL2 := Lib.hid (fun w1 (h : Below wr.heap.size wr w1) => (by
            have hb := (Below.refl w1.heap.size w1).alloc (Nat.le_refl _) (.cells #[.string ⟨List.toArray o⟩] 9)
            have h2 := AL.out [65] [70] (by decide) (by decide) [o] (some ⟨w1.heap.size, 0, none⟩) 1 (by simp) _ (h.trans (hb.mono h.size)) (lit_one w1 o)
            rw [a2] at h2
            exact h2.mono fun e w' hh => ⟨hh.1, hb.trans (hh.2.mono hb.size)⟩ : Calls Try.prog 26 #[.agg #[.slice (some ⟨w.heap.size, 0, none⟩) 6 6, .slice A8 K.length c8, .slice (some ⟨P, 0, none⟩) 1 1], .string ⟨#[65]⟩, .string ⟨#[70]⟩, .slice (some ⟨w1.heap.size, 0, none⟩) 1 1] (w1.alloc (.cells #[.string ⟨List.toArray o⟩] 9)) fun e w' => e = .returned (.bool q) ∧ Below w1.heap.size w1 w'))
          have AL3 := Lib.hid (fun w1 (h : Below wr.heap.size wr w1) => (by
            have hb := (Below.refl w1.heap.size w1).alloc (Nat.le_refl _) (.cells #[.string ⟨List.toArray [65]⟩] 9)
            have h2 := AL.out [65] [70] (by decide) (by decide) [[65]] (some ⟨w1.heap.size, 0, none⟩) 1 (by simp) _ (h.trans (hb.mono h.size)) (lit_one w1 [65])
            rw [a3] at h2
            exact h2.mono fun e w' hh => ⟨hh.1, hb.trans (hh.2.mono hb.size)⟩ : Calls Try.prog 26 #[.agg #[.slice (some ⟨w.heap.size, 0, none⟩) 6 6, .slice A8 K.length c8, .slice (some ⟨P, 0, none⟩) 1 1], .string ⟨#[65]⟩, .string ⟨#[70]⟩, .slice (some ⟨w1.heap.size, 0, none⟩) 1 1] (w1.alloc (.cells #[.string ⟨List.toArray [65]⟩] 9)) fun e w' => e = .returned (.bool false) ∧ Below w1.heap.size w1 w'))
          have AL4 := Lib.hid (fun w1 (h : Below wr.heap.size wr w1) => (by
            have h2 := AL.out [70] [65] (by decide) (by decide) [] none 0 (by simp) w1 h (.inl rfl)
            rw [a4] at h2
            exact h2 : Calls Try.prog 26 #[.agg #[.slice (some ⟨w.heap.size, 0, none⟩) 6 6, .slice A8 K.length c8, .slice (some ⟨P, 0, none⟩) 1 1], .string ⟨#[70]⟩, .string ⟨#[65]⟩, .slice none 0 0] w1 fun e w' => e = .returned (.bool true) ∧ Below w1.heap.size w1 w'))
          have HG6s := Lib.hid (show g6 < wr.heap.size by have := HGB.out.size; omega)
          have HQ5 := Lib.hid hqc
          clear hv hsm hnx eT eo ez eq a1 a2 a3 a4 hsl5 HL HKL HKM hlt ed AL
          go_wp2_with (first
            | (go_at_call 17; with_reducible refine Calls.mono (NX.out _ HW.out) ?_; rintro e wa ⟨rfl, hb⟩; clear k0 k1 k2; replace HBX := Lib.hid (HBX.out.below hb); replace HR5 := Lib.hid ((HR5.out.below hb).more hb.size); replace HW := Lib.hid (HW.out.trans (hb.mono HW.out.size)); clear hb; have k0 := HBX.out.cell 0; have k1 := HBX.out.cell 1; have k2 := HBX.out.cell 2; simp only [List.getElem?_toArray, List.getElem?_cons_zero, List.getElem?_cons_succ] at k0 k1 k2; clear hqc; have hqc : wa.cell? ⟨g6, 1, none⟩ = some (.string ⟨d.toArray⟩) := (HW.out.cell HG6s.out).trans HQ5.out)
            | (go_at_call 24; with_reducible refine Calls.mono (VV.out _ HW.out) ?_; rintro e wb ⟨u1, rfl, ho, hb⟩; obtain ⟨A6, c9, e9, r9⟩ := ho.slice; subst e9; clear k0 k1 k2; replace HBX := Lib.hid (HBX.out.below hb); replace HR5 := Lib.hid ((HR5.out.below hb).more hb.size); replace HW := Lib.hid (HW.out.trans (hb.mono HW.out.size)); clear hb; have k0 := HBX.out.cell 0; have k1 := HBX.out.cell 1; have k2 := HBX.out.cell 2; simp only [List.getElem?_toArray, List.getElem?_cons_zero, List.getElem?_cons_succ] at k0 k1 k2; have c3 := texts_same l A6 A5 l.length m c9 c5 wb.heap.size wb rfl EM.out (by have := HL4.out; omega) r9 HR5.out; clear ho r9)
            | (go_at_call 23; with_reducible refine Calls.mono c3 ?_; rintro e wc ⟨rfl, hd⟩; clear c3; have hb : Below wb.heap.size wb wc := hd.below; clear hd; clear k0 k1 k2; replace HBX := Lib.hid (HBX.out.below hb); replace HR5 := Lib.hid ((HR5.out.below hb).more hb.size); replace HW := Lib.hid (HW.out.trans (hb.mono HW.out.size)); clear hb; have k0 := HBX.out.cell 0; have k1 := HBX.out.cell 1; have k2 := HBX.out.cell 2; simp only [List.getElem?_toArray, List.getElem?_cons_zero, List.getElem?_cons_succ] at k0 k1 k2)
            | (go_at_call 26; with_reducible refine Calls.mono (AL1.out _ HW.out HR5.out) ?_; rintro e wd ⟨rfl, hb⟩; clear AL1; clear k0 k1 k2; replace HBX := Lib.hid (HBX.out.below hb); replace HR5 := Lib.hid ((HR5.out.below hb).more hb.size); replace HW := Lib.hid (HW.out.trans (hb.mono HW.out.size)); clear hb; have k0 := HBX.out.cell 0; have k1 := HBX.out.cell 1; have k2 := HBX.out.cell 2; simp only [List.getElem?_toArray, List.getElem?_cons_zero, List.getElem?_cons_succ] at k0 k1 k2)
            | (go_at_call 26; with_reducible refine Calls.mono (AL2.out wd HW.out) ?_; rintro e we ⟨rfl, hb⟩; clear AL2; clear k0 k1 k2; replace HBX := Lib.hid (HBX.out.below hb); replace HR5 := Lib.hid ((HR5.out.below hb).more hb.size); replace HW := Lib.hid (HW.out.trans (hb.mono HW.out.size)); clear hb; have k0 := HBX.out.cell 0; have k1 := HBX.out.cell 1; have k2 := HBX.out.cell 2; simp only [List.getElem?_toArray, List.getElem?_cons_zero, List.getElem?_cons_succ] at k0 k1 k2)
            | (go_at_call 28; with_reducible refine Calls.mono (PL.out _ HR5.out) ?_; rintro e wf ⟨rfl, hwf⟩; subst hwf; clear PL)
            | (go_at_call 26; with_reducible refine Calls.mono (AL3.out we HW.out) ?_; rintro e wg ⟨rfl, hb⟩; clear AL3; clear k0 k1 k2; replace HBX := Lib.hid (HBX.out.below hb); replace HR5 := Lib.hid ((HR5.out.below hb).more hb.size); replace HW := Lib.hid (HW.out.trans (hb.mono HW.out.size)); clear hb; have k0 := HBX.out.cell 0; have k1 := HBX.out.cell 1; have k2 := HBX.out.cell 2; simp only [List.getElem?_toArray, List.getElem?_cons_zero, List.getElem?_cons_succ] at k0 k1 k2)
            | (go_at_call 26; with_reducible refine Calls.mono (AL4.out _ HW.out) ?_; rintro e wh ⟨rfl, hb⟩; clear AL4; clear k0 k1 k2; replace HBX := Lib.hid (HBX.out.below hb); replace HR5 := Lib.hid ((HR5.out.below hb).more hb.size); replace HW := Lib.hid (HW.out.trans (hb.mono HW.out.size)); clear hb; have k0 := HBX.out.cell 0; have k1 := HBX.out.cell 1; have k2 := HBX.out.cell 2; simp only [List.getElem?_toArray, List.getElem?_cons_zero, List.getElem?_cons_succ] at k0 k1 k2)
            | (go_at_call 15; with_reducible refine Calls.mono (CK.out _) ?_; rintro e wi ⟨rfl, hb⟩; clear k0 k1 k2; replace HBX := Lib.hid (HBX.out.below hb); replace HR5 := Lib.hid ((HR5.out.below hb).more hb.size); replace HW := Lib.hid (HW.out.trans (hb.mono HW.out.size)); clear hb; have k0 := HBX.out.cell 0; have k1 := HBX.out.cell 1; have k2 := HBX.out.cell 2; simp only [List.getElem?_toArray, List.getElem?_cons_zero, List.getElem?_cons_succ] at k0 k1 k2))
          go_ret
          exact ⟨rfl, HEND.out _ HW.out⟩
set_option maxHeartbeats 6400000 in
set_option maxRecDepth 100000 in
theorem paths_many (A : Option Addr) (zs : List Int) (c : Nat) (b : Int) (w : World) (hr : Rd w w.heap.size A (zs.map (Value.int .i64))) (hcnt : 4 < zs.length) (hl : zs.length ≤ 9223372036854775807) :
    Calls Try.prog 7 #[.slice A zs.length c, .int .i64 b] w fun e w' => e = .returned (.bool true) ∧ Below w.heap.size w w' := by
  obtain ⟨N, eN⟩ : ∃ N, N = w.heap.size := ⟨_, rfl⟩
  have HB0 := Lib.hid (show Below N w (w.alloc (.cells allC 9)) by rw [eN]; exact (Below.refl _ _).alloc (Nat.le_refl _) _)
  have HK0 := Lib.hid (Blk.new w 9 allC)
  have EN0 := Lib.hid eN
  have HSZ := Lib.hid (show ∀ w1 : World, Below N w w1 → N ≤ w1.heap.size from fun w1 h => by have := h.size; have := EN0.out; omega)
  have HRL := Lib.hid (fun w1 (h : Below N w w1) => (by rw [← eN] at hr; exact hr.below h : Rd w1 N A (zs.map (Value.int .i64))))
  have CK := Lib.hid (fun w1 => known_any w1)
  obtain ⟨n, en⟩ : ∃ n, n = zs.length := ⟨_, rfl⟩
  rw [← en] at hl hcnt ⊢
  have EN := Lib.hid en
  clear en hr eN
  go_enter Try.func7, Try.ntmps7
  go_wp2
  go_loopw [6, 7] (fun lv iv wr => ∃ (i : Nat) (l : List L), i ≤ n ∧ i ≤ 4 ∧ iv = .int .i64 (i : Int) ∧ l.length = i ∧ (∀ x ∈ l, x ∈ inT) ∧ Own wr (N + 1) lv l ∧ Blk wr w.heap.size 9 allC ∧ Below N w wr) (fun _ iv _ => 4 - (intOf iv).toNat)
  case atStart => exact ⟨0, [], Nat.zero_le _, by omega, rfl, rfl, (fun x hx => by cases hx), Own.nil _ _, HK0.out, HB0.out⟩
  case round =>
    obtain ⟨i, l, hin, hi4, rfl, hll, hlt', ho, hk, hb⟩ := hrel
    have HK := Lib.hid hk; have HO := Lib.hid ho; have HT := Lib.hid hlt'; have HL := Lib.hid hll; have HB := Lib.hid hb; clear hk ho hlt' hll hb HK0 HB0
    obtain ⟨A5, c5, e5, r5⟩ := HO.out.slice
    subst e5
    by_cases hlt : i < n ∧ i < 4
    · have e1 : decide ((i : Int) < (n : Int)) = true := decide_eq_true (by omega)
      have e1' : (i : Int) < (n : Int) := by omega
      have e2 : (0 : Int) ≤ (i : Int) := by omega
      have e3 : decide ((i : Int) < 4) = true := decide_eq_true (by omega)
      obtain ⟨b1, o, z, rfl, h1⟩ := rd_int (HRL.out wr HB.out) (i := i) (by rw [← EN.out]; exact hlt.1)
      obtain ⟨m, hm, em⟩ := and_three z
      have h2 := all_at HK.out hm
      have HIN := Lib.hid (in_at hm)
      obtain ⟨r, er⟩ : ∃ r, r = pl allT (m + 1) := ⟨_, rfl⟩
      rw [← er] at h2 HIN
      have e4 : (0 : Int) ≤ 1 + (m : Int) := by omega
      have e5 : 1 + (m : Int) < 6 := by omega
      have e6 : (1 + (m : Int)).toNat = 1 + m := by omega
      have e7 : IntKind.i64.wrap (1 + (m : Int)) = 1 + (m : Int) := IntWalk.i64_in _ (by omega)
      have c2 := place_any l A5 c5 wr.heap.size r wr (by have := HL.out; omega) r5
      have HI := Lib.hid hlt
      clear r5 hlt er
      by_cases hmem : r ∈ l
      · obtain ⟨q, eq, hq⟩ := place_in hmem
        rw [← eq] at c2
        have t1 : decide (0 ≤ q) = true := decide_eq_true hq
        clear eq hq hmem
        go_wp2_with (go_at_call 28; refine Calls.mono c2 ?_; rintro e wp ⟨rfl, rfl⟩; clear c2)
        go_ret
        exact ⟨rfl, by rw [← EN0.out]; exact HB.out⟩
      · obtain ⟨q, eq, hq⟩ := place_out hmem
        rw [← eq] at c2
        have t1 : decide (0 ≤ q) = false := decide_eq_false (by omega)
        clear eq hq hmem
        go_wp2_with (first
          | (go_at_call 28; refine Calls.mono c2 ?_; rintro e wp ⟨rfl, rfl⟩; clear c2)
          | (at_builtin; refine app_one rfl (.tmp 39) (.tmp 41) rfl (N + 1) _ l rfl HO.out r rfl (by have := HL.out; omega) (by have := HK.out.lt; have := EN0.out; omega) ?_; intro v2 w2 ho2 hb2; have HO2 := Lib.hid ho2; have HK2 := Lib.hid (show Blk w2 w.heap.size 9 allC from (hb2.block _ (by have := EN0.out; omega)).trans HK.out); have H2 := Lib.hid (HB.out.trans (hb2.mono (by omega))); clear ho2 hb2))
        go_roundw
        case rel => exact ⟨i + 1, l ++ [r], by have := HI.out; omega, by have := HI.out; omega, by go_num, by simp [HL.out], (fun x hx => by rcases List.mem_append.1 hx with g | g; exact HT.out x g; rw [List.mem_singleton] at g; rw [g]; exact HIN.out), HO2.out, HK2.out, H2.out⟩
        case measure => have := HI.out; simp [intOf]; omega
    · have e1 : decide ((i : Int) < (n : Int)) = true := decide_eq_true (by omega)
      have e1' : decide ((i : Int) < 4) = false := decide_eq_false (by omega)
      clear hlt
      have HW1 := Lib.hid (show Below wr.heap.size wr ((wr.alloc (.cells #[.string ⟨#[65]⟩, .string ⟨#[70]⟩, .slice A5 l.length c5] 48)).alloc (.cells #[.slice (some ⟨w.heap.size, 0, none⟩) 6 6, .slice none 0 0, .slice (some ⟨wr.heap.size, 0, none⟩) 1 1] 26)) from ((Below.refl _ _).alloc (Nat.le_refl _) _).alloc (by simp) _)
      have HPA := Lib.hid ((Blk.new wr 48 #[.string ⟨#[65]⟩, .string ⟨#[70]⟩, .slice A5 l.length c5]).alloc (.cells #[.slice (some ⟨w.heap.size, 0, none⟩) 6 6, .slice none 0 0, .slice (some ⟨wr.heap.size, 0, none⟩) 1 1] 26))
      have HBX := Blk.new (wr.alloc (.cells #[.string ⟨#[65]⟩, .string ⟨#[70]⟩, .slice A5 l.length c5] 48)) 26 #[.slice (some ⟨w.heap.size, 0, none⟩) 6 6, .slice none 0 0, .slice (some ⟨wr.heap.size, 0, none⟩) 1 1]
      rw [show (wr.alloc (.cells #[.string ⟨#[65]⟩, .string ⟨#[70]⟩, .slice A5 l.length c5] 48)).heap.size = wr.heap.size + 1 by simp] at HBX
      replace HBX := Lib.hid HBX
      have HSW := Lib.hid (show ((wr.alloc (.cells #[.string ⟨#[65]⟩, .string ⟨#[70]⟩, .slice A5 l.length c5] 48)).alloc (.cells #[.slice (some ⟨w.heap.size, 0, none⟩) 6 6, .slice none 0 0, .slice (some ⟨wr.heap.size, 0, none⟩) 1 1] 26)).heap.size = wr.heap.size + 1 + 1 by simp)
      have HAL := Lib.hid (HK.out.below HW1.out)
      have HOL := Lib.hid (HO.out.below HW1.out)
      have HB2 := Lib.hid (HB.out.trans (HW1.out.mono (HSZ.out _ HB.out)))
      have HL4 := Lib.hid (show l.length ≤ 4 by have := HL.out; omega)
      have HPN := Lib.hid (show N < wr.heap.size by have := HK.out.lt; have := EN0.out; omega)
      have HR5 := Lib.hid (Rd.of_own (n := l.length) HOL.out)
      clear r5 HK HB HW1
      go_wp2_with (first
        | (at_builtin; refine app_front_at (wr.heap.size + 1 + 1) HSW.out rfl (.tmp 48) (.tmp 49) rfl [65] rfl A5 c5 l rfl HR5.out (by have := HL4.out; omega) ?_; intro v2 w7 ho2 hb2; have HO2 := Lib.hid ho2; have H2 := Lib.hid hb2; clear ho2 hb2)
        | (at_builtin; refine app_one rfl (.tmp 50) (.tmp 51) rfl (wr.heap.size + 1 + 1) _ ([65] :: l) rfl HO2.out [70] rfl (by have := HL4.out; simp; omega) (by have h := H2.out.size; have := HSW.out; omega) ?_; intro v3 w8 ho3 hb3; have H3 := Lib.hid (H2.out.trans hb3); have HO3 := Lib.hid ho3; clear ho3 hb3 HO2 H2))
      have HPN1 := Lib.hid (show w.heap.size < wr.heap.size by have := HPN.out; have := EN0.out; omega)
      obtain ⟨P, eP⟩ : ∃ P, P = wr.heap.size := ⟨_, rfl⟩
      have HSZ8 := Lib.hid (show P + 2 ≤ w8.heap.size by have h := H3.out.size; have := HSW.out; omega)
      have HB8 := Lib.hid (HB2.out.trans (H3.out.mono (show N ≤ wr.heap.size + 1 + 1 by have := HPN.out; omega)))
      have HPA8 := Lib.hid (show Blk w8 P 48 #[.string ⟨#[65]⟩, .string ⟨#[70]⟩, .slice A5 l.length c5] by rw [eP]; exact HPA.out.below (by rw [HSW.out]; exact H3.out))
      have HBX8 := Lib.hid (show Blk w8 (P + 1) 26 #[.slice (some ⟨w.heap.size, 0, none⟩) 6 6, .slice none 0 0, .slice (some ⟨P, 0, none⟩) 1 1] by rw [eP]; exact HBX.out.below (by rw [HSW.out]; exact H3.out))
      have HAL8 := Lib.hid (HAL.out.below (by rw [HSW.out]; exact H3.out))
      have HOL8 := Lib.hid (show Own w8 (N + 1) (.slice A5 l.length c5) l from HOL.out.below (by rw [HSW.out]; exact H3.out))
      have HLT := Lib.hid (show ∀ g, (Value.slice A5 l.length c5).ownBlock = some g → g < P from fun g hg => by rw [eP]; exact (HO.out.lt g hg).2)
      obtain ⟨Q, eQ⟩ : ∃ Q, Q = [65] :: (l ++ [[70]]) := ⟨_, rfl⟩
      have HQ1 := Lib.hid (show pl Q 0 = [65] ∧ pl Q 1 = l.headD [70] by rw [eQ]; exact ⟨rfl, pa_row l⟩)
      have ho9 : Own w8 (wr.heap.size + 1 + 1) v3 Q := by rw [eQ]; exact HO3.out
      have hql : Q.length = l.length + 2 := by rw [eQ]; simp
      obtain ⟨g6, c6, e6, hg6, hg6', hc6, r6⟩ := own_block ho9 (by omega)
      subst e6
      rw [← eP] at hg6
      have HG6 := Lib.hid hg6
      have HR6 := Lib.hid r6
      obtain ⟨m, em⟩ : ∃ m, m = l.length := ⟨_, rfl⟩
      have hm4 : m ≤ 4 := by rw [em]; exact HL4.out
      rw [hql, ← em]
      rw [hql, ← em] at hc6
      have HQL := Lib.hid (show Q.length = m + 2 by rw [hql, em])
      rw [← em] at HPA8 HOL8 HLT
      have EM := Lib.hid em
      rw [← eP]
      have EP := Lib.hid eP
      clear HO3 H3 HOL HAL HBX HPA HSW HR5 HO HB2 eQ ho9 hg6 r6 hql em eP
      go_loopw [11] (fun iv wq => ∃ (j : Nat) (K : List Pr) (vK : Value), j ≤ m + 1 ∧ iv = .int .i64 ((j : Int) + 1) ∧ Blk wq (P + 1) 26 #[.slice (some ⟨w.heap.size, 0, none⟩) 6 6, vK, .slice (some ⟨P, 0, none⟩) 1 1] ∧ OwnP wq w8.heap.size vK K ∧ K.length ≤ j ∧ (0 < j → ([65], l.headD [70]) ∈ K) ∧ w8.grownBy wq (some (P + 1))) (fun iv _ => m + 2 - (intOf iv).toNat)
      case atStart => exact ⟨0, [], _, Nat.zero_le _, rfl, HBX8.out, OwnP.nil _ _, Nat.le_refl _, (fun h => absurd h (Nat.lt_irrefl 0)), World.grownBy.refl _ _⟩
      case round =>
        obtain ⟨j, K, vK, hj, rfl, hbx, hop, hkl, hkm, hgb⟩ := hrel
        have HBX := Lib.hid hbx; have HOP := Lib.hid hop; have HKL := Lib.hid hkl; have HKM := Lib.hid hkm; have HGB := Lib.hid hgb
        clear hbx hop hkl hkm hgb HBX8
        obtain ⟨A8, c8, e8, _⟩ := HOP.out.slice
        subst e8
        by_cases hlt : j < m + 1
        · have e7 : IntKind.i64.wrap ((j : Int) + 1 - 1) = (j : Int) := (IntWalk.i64_in _ (by omega)).trans (by omega)
          have e7' : IntKind.i64.wrap (j : Int) = (j : Int) := IntWalk.i64_in _ (by omega)
          have e10 : (0 : Int) ≤ (j : Int) + 1 := by omega
          have e11 : (j : Int) + 1 < (m : Int) + 2 := by omega
          have e12 : ((j : Int) + 1).toNat = j + 1 := by omega
          have e8 : (0 : Int) ≤ (j : Int) := by omega
          have e9 : (j : Int) < (m : Int) + 2 := by omega
          have e13 : (j : Int) + 1 ≤ (c6 : Int) := by omega
          have L1 := Lib.hid (fun w' (h : w8.grownBy w' (some (P + 1))) => cell_far HR6.out h (show g6 ≠ P + 1 by have := HG6.out; omega) (i := j) (by rw [HQL.out]; omega))
          have L2 := Lib.hid (fun w' (h : w8.grownBy w' (some (P + 1))) => cell_far HR6.out h (show g6 ≠ P + 1 by have := HG6.out; omega) (i := j + 1) (by rw [HQL.out]; omega))
          go_wp2
          refine Reg.any_begin (fun w' => w8.grownBy w' (some (P + 1))) 16 rfl (by kernel_rfl) (g_drew HGB.out) ?_
          replace HBX := Lib.hid (show Blk wr.drew _ _ _ from HBX.out.drewN 1)
          replace HOP := Lib.hid (show OwnP wr.drew _ _ _ from HOP.out.below (below_drewN (Below.refl _ _) 1))
          replace HGB := Lib.hid (g_drew HGB.out)
          obtain ⟨W, eW⟩ : ∃ W, W = wr.drew := ⟨_, rfl⟩
          rw [← eW] at HBX HOP HGB ⊢
          clear eW
          refine Reg.any_take 0 (v := ?v0) rfl (by kernel_rfl) (by kernel_rfl) (by kernel_rfl) (fun _ _ _ h => h) HGB.out (by rfl) (fun w' hS => ?h0) ?r0
          case h0 => go_simp; rfl
          simp only [Act.put, List.setIfInBounds_toArray, List.set_cons_zero, List.set_cons_succ]
          refine Reg.any_take 2 (v := ?v2) rfl (by kernel_rfl) (by kernel_rfl) (by kernel_rfl) (fun _ _ _ h => h) HGB.out (by rfl) (fun w' hS => ?h2) ?r2
          case h2 => go_simp; rfl
          simp only [Act.put, List.setIfInBounds_toArray, List.set_cons_zero, List.set_cons_succ]
          refine Reg.any_take 3 (v := ?v3) rfl (by kernel_rfl) (by kernel_rfl) (by kernel_rfl) (fun _ _ _ h => h) HGB.out (by rfl) (fun w' hS => ?h3) ?r3
          case h3 => go_simp; rfl
          simp only [Act.put, List.setIfInBounds_toArray, List.set_cons_zero, List.set_cons_succ]
          refine Reg.any_take 4 (v := ?v4) rfl (by kernel_rfl) (by kernel_rfl) (by kernel_rfl) (fun _ _ _ h => h) HGB.out (by rfl) (fun w' hS => ?h4) ?r4
          case h4 => go_simp; rfl
          simp only [Act.put, List.setIfInBounds_toArray, List.set_cons_zero, List.set_cons_succ]
          refine Reg.any_take 5 (v := ?v5) rfl (by kernel_rfl) (by kernel_rfl) (by kernel_rfl) (fun _ _ _ h => h) HGB.out (by rfl) (fun w' hS => ?h5) ?r5
          case h5 => go_simp; rfl
          simp only [Act.put, List.setIfInBounds_toArray, List.set_cons_zero, List.set_cons_succ]
          refine Reg.any_take 6 (v := ?v6) rfl (by kernel_rfl) (by kernel_rfl) (by kernel_rfl) (fun _ _ _ h => h) HGB.out (by rfl) (fun w' hS => ?h6) ?r6
          case h6 => have h := L1.out w' hS; go_simp; rfl
          simp only [Act.put, List.setIfInBounds_toArray, List.set_cons_zero, List.set_cons_succ]
          refine Reg.any_take 7 (v := ?v7) rfl (by kernel_rfl) (by kernel_rfl) (by kernel_rfl) (fun _ _ _ h => h) HGB.out (by rfl) (fun w' hS => ?h7) ?r7
          case h7 => go_simp; rfl
          simp only [Act.put, List.setIfInBounds_toArray, List.set_cons_zero, List.set_cons_succ]
          refine Reg.any_take 8 (v := ?v8) rfl (by kernel_rfl) (by kernel_rfl) (by kernel_rfl) (fun _ _ _ h => h) HGB.out (by rfl) (fun w' hS => ?h8) ?r8
          case h8 => go_simp; rfl
          simp only [Act.put, List.setIfInBounds_toArray, List.set_cons_zero, List.set_cons_succ]
          refine Reg.any_take 9 (v := ?v9) rfl (by kernel_rfl) (by kernel_rfl) (by kernel_rfl) (fun _ _ _ h => h) HGB.out (by rfl) (fun w' hS => ?h9) ?r9
          case h9 => go_simp; rfl
          simp only [Act.put, List.setIfInBounds_toArray, List.set_cons_zero, List.set_cons_succ]
          refine Reg.any_take 10 (v := ?v10) rfl (by kernel_rfl) (by kernel_rfl) (by kernel_rfl) (fun _ _ _ h => h) HGB.out (by rfl) (fun w' hS => ?h10) ?r10
          case h10 => have h := L2.out w' hS; go_simp; rfl
          simp only [Act.put, List.setIfInBounds_toArray, List.set_cons_zero, List.set_cons_succ]
          refine Reg.any_take 11 (v := ?v11) rfl (by kernel_rfl) (by kernel_rfl) (by kernel_rfl) (fun _ _ _ h => h) HGB.out (by rfl) (fun w' hS => ?h11) ?r11
          case h11 => go_simp; rfl
          simp only [Act.put, List.setIfInBounds_toArray, List.set_cons_zero, List.set_cons_succ]
          have hb1 : Below W.heap.size W (W.alloc (.cells #[.string ⟨(pl Q j).toArray⟩, .string ⟨(pl Q (j + 1)).toArray⟩] 43)) := (Below.refl _ _).alloc (Nat.le_refl _) _
          have hg1 := g_alloc HGB.out (.cells #[.string ⟨(pl Q j).toArray⟩, .string ⟨(pl Q (j + 1)).toArray⟩] 43)
          have k1 : W.cell? ⟨P + 1, 1, none⟩ = some (.slice A8 K.length c8) := HBX.out.cell 1
          have k1' : (W.alloc (.cells #[.string ⟨(pl Q j).toArray⟩, .string ⟨(pl Q (j + 1)).toArray⟩] 43)).cell? ⟨P + 1, 1, none⟩ = some (.slice A8 K.length c8) := (HBX.out.below hb1).cell 1
          refine Reg.eff_all [1, 12] (by kernel_rfl) (by simp) ?_
          intro j0 hj0
          have hj0 : j0 = 1 ∨ j0 = 12 := by simpa using hj0
          rcases hj0 with rfl | rfl
          · refine ⟨_, _, _, _, _, _, _, W, rfl, by rfl, by (go_simp; rfl), HGB.out, ?_⟩
            simp only [Act.put, List.setIfInBounds_toArray, List.set_cons_zero, List.set_cons_succ]
            refine Reg.eff_all [12] (by kernel_rfl) (by simp) ?_
            intro j0 hj0
            obtain rfl : j0 = 12 := by simpa using hj0
            clear hj0
            refine ⟨_, _, _, _, _, _, _, (W.alloc (.cells #[.string ⟨(pl Q j).toArray⟩, .string ⟨(pl Q (j + 1)).toArray⟩] 43)), rfl, by rfl, by (go_simp; rfl), hg1, ?_⟩
            simp only [Act.put, List.setIfInBounds_toArray, List.set_cons_zero, List.set_cons_succ]
            refine Reg.eff_all [13] (by kernel_rfl) (by simp) ?_
            intro j0 hj0
            obtain rfl : j0 = 13 := by simpa using hj0
            clear hj0
            obtain ⟨v9, w9, hrun, ho9, hb9⟩ := ap_pr (W.alloc (.cells #[.string ⟨(pl Q j).toArray⟩, .string ⟨(pl Q (j + 1)).toArray⟩] 43)) w8.heap.size (.slice A8 K.length c8) K (HOP.out.below hb1) (pl Q j, pl Q (j + 1)) W.heap.size ((Blk.new W 43 _).cell 0) ((Blk.new W 43 _).cell 1) (by have := HKL.out; omega) hg1.size
            refine ⟨_, _, _, _, _, _, v9, w9, rfl, by rfl, by (simp only [execOp, resolve, invoke, builtin, Sem.run_bind, Sem.run_pure, Result.andThen_ok, List.map_toArray, List.map_cons, List.map_nil, Act.eval]; refine (congrArg (fun r => Result.andThen r _) hrun).trans ?_; rfl), g_more hg1 hb9, ?_⟩
            simp only [Act.put, List.setIfInBounds_toArray, List.set_cons_zero, List.set_cons_succ]
            have HG9 := Lib.hid (g_more hg1 hb9)
            have HO9 := Lib.hid ho9
            have HX9 := Lib.hid (show Blk w9 (P + 1) 26 _ from (hb9.block _ (by have := HSZ8.out; omega)).trans (HBX.out.below hb1))
            obtain ⟨A7, c7, e7', _⟩ := ho9.slice
            rw [show (K ++ [(pl Q j, pl Q (j + 1))]).length = K.length + 1 by simp] at e7'
            subst e7'
            clear hrun ho9 hb9 hg1 hb1
            refine Reg.any_take 14 (v := ?va14) rfl (by kernel_rfl) (by kernel_rfl) (by kernel_rfl) (fun _ _ _ h => h) HG9.out (by rfl) (fun w' hS => ?ha14) ?ra14
            case ha14 => go_simp; rfl
            simp only [Act.put, List.setIfInBounds_toArray, List.set_cons_zero, List.set_cons_succ]
            have f0 := HX9.out.frozen 1
            have k9 : w9.cell? ⟨P + 1, 1, none⟩ = some (.slice A8 K.length c8) := HX9.out.cell 1
            refine Reg.any_store 15 (w9.setCell ⟨P + 1, 1, none⟩ (.slice A7 (K.length + 1) c7)) rfl (by kernel_rfl) (by rfl) (by go_simp) (g_set HG9.out (.inl rfl) _) ?_
            simp only [Act.put, List.setIfInBounds_toArray, List.set_cons_zero, List.set_cons_succ]
            refine wpAnyH_done (by kernel_rfl) ?_ _
            have HX3 := Lib.hid (HX9.out.set 1 (.slice A7 (K.length + 1) c7))
            have HO3 := Lib.hid (ownp_put (j := 1) (u := .slice A7 (K.length + 1) c7) HO9.out (show P + 1 < w8.heap.size by have := HSZ8.out; omega))
            have HG3 := Lib.hid (g_set HG9.out (p := ⟨P + 1, 1, none⟩) (.inl rfl) (.slice A7 (K.length + 1) c7))
            clear f0 k9 k1 k1'
            go_wp2
            go_roundw
            case rel => exact ⟨j + 1, K ++ [(pl Q j, pl Q (j + 1))], _, by omega, by go_num, HX3.out, HO3.out, by have := HKL.out; simp; omega, (fun _ => by rcases Nat.eq_zero_or_pos j with g | g; exact List.mem_append_right _ (by rw [g, HQ1.out.1, HQ1.out.2]; exact List.mem_singleton_self _); exact List.mem_append_left _ (HKM.out g)), HG3.out⟩
            case measure => simp [intOf]; omega
          · refine ⟨_, _, _, _, _, _, _, (W.alloc (.cells #[.string ⟨(pl Q j).toArray⟩, .string ⟨(pl Q (j + 1)).toArray⟩] 43)), rfl, by rfl, by (go_simp; rfl), hg1, ?_⟩
            simp only [Act.put, List.setIfInBounds_toArray, List.set_cons_zero, List.set_cons_succ]
            refine Reg.eff_all [1] (by kernel_rfl) (by simp) ?_
            intro j0 hj0
            obtain rfl : j0 = 1 := by simpa using hj0
            clear hj0
            refine ⟨_, _, _, _, _, _, _, (W.alloc (.cells #[.string ⟨(pl Q j).toArray⟩, .string ⟨(pl Q (j + 1)).toArray⟩] 43)), rfl, by rfl, by (go_simp; rfl), hg1, ?_⟩
            simp only [Act.put, List.setIfInBounds_toArray, List.set_cons_zero, List.set_cons_succ]
            refine Reg.eff_all [13] (by kernel_rfl) (by simp) ?_
            intro j0 hj0
            obtain rfl : j0 = 13 := by simpa using hj0
            clear hj0
            obtain ⟨v9, w9, hrun, ho9, hb9⟩ := ap_pr (W.alloc (.cells #[.string ⟨(pl Q j).toArray⟩, .string ⟨(pl Q (j + 1)).toArray⟩] 43)) w8.heap.size (.slice A8 K.length c8) K (HOP.out.below hb1) (pl Q j, pl Q (j + 1)) W.heap.size ((Blk.new W 43 _).cell 0) ((Blk.new W 43 _).cell 1) (by have := HKL.out; omega) hg1.size
            refine ⟨_, _, _, _, _, _, v9, w9, rfl, by rfl, by (simp only [execOp, resolve, invoke, builtin, Sem.run_bind, Sem.run_pure, Result.andThen_ok, List.map_toArray, List.map_cons, List.map_nil, Act.eval]; refine (congrArg (fun r => Result.andThen r _) hrun).trans ?_; rfl), g_more hg1 hb9, ?_⟩
            simp only [Act.put, List.setIfInBounds_toArray, List.set_cons_zero, List.set_cons_succ]
            have HG9 := Lib.hid (g_more hg1 hb9)
            have HO9 := Lib.hid ho9
            have HX9 := Lib.hid (show Blk w9 (P + 1) 26 _ from (hb9.block _ (by have := HSZ8.out; omega)).trans (HBX.out.below hb1))
            obtain ⟨A7, c7, e7', _⟩ := ho9.slice
            rw [show (K ++ [(pl Q j, pl Q (j + 1))]).length = K.length + 1 by simp] at e7'
            subst e7'
            clear hrun ho9 hb9 hg1 hb1
            refine Reg.any_take 14 (v := ?vb14) rfl (by kernel_rfl) (by kernel_rfl) (by kernel_rfl) (fun _ _ _ h => h) HG9.out (by rfl) (fun w' hS => ?hb14) ?rb14
            case hb14 => go_simp; rfl
            simp only [Act.put, List.setIfInBounds_toArray, List.set_cons_zero, List.set_cons_succ]
            have f0 := HX9.out.frozen 1
            have k9 : w9.cell? ⟨P + 1, 1, none⟩ = some (.slice A8 K.length c8) := HX9.out.cell 1
            refine Reg.any_store 15 (w9.setCell ⟨P + 1, 1, none⟩ (.slice A7 (K.length + 1) c7)) rfl (by kernel_rfl) (by rfl) (by go_simp) (g_set HG9.out (.inl rfl) _) ?_
            simp only [Act.put, List.setIfInBounds_toArray, List.set_cons_zero, List.set_cons_succ]
            refine wpAnyH_done (by kernel_rfl) ?_ _
            have HX3 := Lib.hid (HX9.out.set 1 (.slice A7 (K.length + 1) c7))
            have HO3 := Lib.hid (ownp_put (j := 1) (u := .slice A7 (K.length + 1) c7) HO9.out (show P + 1 < w8.heap.size by have := HSZ8.out; omega))
            have HG3 := Lib.hid (g_set HG9.out (p := ⟨P + 1, 1, none⟩) (.inl rfl) (.slice A7 (K.length + 1) c7))
            clear f0 k9 k1 k1'
            go_wp2
            go_roundw
            case rel => exact ⟨j + 1, K ++ [(pl Q j, pl Q (j + 1))], _, by omega, by go_num, HX3.out, HO3.out, by have := HKL.out; simp; omega, (fun _ => by rcases Nat.eq_zero_or_pos j with g | g; exact List.mem_append_right _ (by rw [g, HQ1.out.1, HQ1.out.2]; exact List.mem_singleton_self _); exact List.mem_append_left _ (HKM.out g)), HG3.out⟩
            case measure => simp [intOf]; omega
        · have e1 : ¬ (j : Int) + 1 < (m : Int) + 2 := by omega
          have HKF := Lib.hid (HKM.out (show 0 < j by omega))
          have HOLf := Lib.hid (show Own wr (N + 1) (.slice A5 m c5) l from owns_heap HOL8.out fun g hg => HGB.out.block g (by have := HLT.out g hg; have := HSZ8.out; omega) (fun e => by injection e with e; have := HLT.out g hg; omega))
          have HPAf := Lib.hid (show Blk wr P 48 _ from HPA8.out.grown HGB.out (by intro e; injection e with e; omega))
          have HALf := Lib.hid (show Blk wr w.heap.size 9 allC from HAL8.out.grown HGB.out (by intro e; injection e with e; have := HPN1.out; have := EP.out; omega))
          have HQc := Lib.hid (cell_far HR6.out HGB.out (show g6 ≠ P + 1 by have := HG6.out; omega) (i := 1) (by rw [HQL.out]; omega))
          have HBf := Lib.hid (show Below N w wr from below_g HB8.out HGB.out (by have := HSZ8.out; have := HPN.out; have := EP.out; omega) (by have := HPN.out; have := EP.out; omega))
          have hsl5 : SlV wr wr.heap.size (.slice A5 m c5) l := own_sl HOLf.out
          obtain ⟨T, eT⟩ : ∃ T, T = tPa l K := ⟨_, rfl⟩
          have hv : TpV wr wr.heap.size (.agg #[.slice (some ⟨w.heap.size, 0, none⟩) 6 6, .slice A8 K.length c8, .slice (some ⟨P, 0, none⟩) 1 1]) T := by
            rw [eT]
            refine ⟨_, _, _, rfl, ⟨_, _, rfl, Nat.le_refl _, .inr ⟨w.heap.size, 0, rfl, HALf.out.lt, fun i u hu => ?_⟩⟩, HOP.out.slice, ⟨_, _, rfl, Nat.le_refl _, .inr ⟨P, 0, rfl, HPAf.out.lt, fun i hi => ?_⟩⟩⟩
            · rw [Nat.zero_add, HALf.out.cell, show allC = (strs allT).toArray from rfl, List.getElem?_toArray]
              exact hu
            · obtain rfl : i = 0 := by simp [tPa] at hi; exact hi
              exact ⟨HPAf.out.cell 0, HPAf.out.cell 1, _, HPAf.out.cell 2, hsl5⟩
          have hsm : Sm T := by rw [eT]; exact pa_sm HL4.out HT.out (by have := HKL.out; omega)
          have hnx := pa_next HKF.out
          rw [← eT] at hnx
          have NX := Lib.hid (fun w1 (h : Below wr.heap.size wr w1) => next_any T _ wr.heap.size [65] [70] w1 hsm (hv.below h) h.size (by decide) (by decide))
          rw [hnx.1, hnx.2] at NX
          have VV := Lib.hid (fun w1 (h : Below wr.heap.size wr w1) => vvia_any T _ wr.heap.size [65] [70] w1 hsm (hv.below h) h.size (by decide) (by decide))
          rw [show viaL T [65] [70] = l by rw [eT]; exact pa_via l K] at VV
          have AL := Lib.hid (fun (x y : L) (hx : x.length ≤ 1000000) (hy : y.length ≤ 1000000) (ls : List L) (A : Option Addr) (c : Nat) (hl : ls.length ≤ 1000000) w1 (h : Below wr.heap.size wr w1) (hr : Rd w1 w1.heap.size A (strs ls)) => allowed_any T _ wr.heap.size x y ls A c w1.heap.size w1 hsm (hv.below h) h.size hx hy hl hr (Nat.le_refl _))
          obtain ⟨m2, hm2, em2⟩ := and_three b
          have ho2 := all_at HALf.out hm2
          obtain ⟨o, eo⟩ : ∃ o, o = pl allT (m2 + 1) := ⟨_, rfl⟩
          rw [← eo] at ho2
          have a1 : allowB T [65] [70] l = true := by rw [eT]; exact pa_all l K
          have a2 : allowB T [65] [70] [o] = decide (o ∈ l) := by rw [eT]; exact pa_one l K o
          have a3 : allowB T [65] [70] [[65]] = false := by rw [eT]; exact pa_end K HT.out
          have a4 : allowB T [70] [65] [] = true := rfl
          have hge := Tr.ix_ge o l
          obtain ⟨z, ez⟩ : ∃ z, z = Tr.ixL o l := ⟨_, rfl⟩
          obtain ⟨q, eq⟩ : ∃ q, q = decide (o ∈ l) := ⟨_, rfl⟩
          rw [← eq] at a2 hge
          rw [← ez] at hge
          have PL := Lib.hid (fun w1 (h : Rd w1 w1.heap.size A5 (strs l)) => place_any l A5 c5 w1.heap.size o w1 (by have := HL4.out; omega) h)
          rw [← ez, ← EM.out] at PL
          have b1 : (q == q) = true := by simp
          have f4 : (0 : Int) ≤ 1 + (m2 : Int) := by omega
          have f5 : 1 + (m2 : Int) < 6 := by omega
          have f6 : (1 + (m2 : Int)).toNat = 1 + m2 := by omega
          have f7 : IntKind.i64.wrap (1 + (m2 : Int)) = 1 + (m2 : Int) := IntWalk.i64_in _ (by omega)
          have HW := Lib.hid (Below.refl wr.heap.size wr)
          have HR5 := Lib.hid (Rd.of_own (n := l.length) (show wr.ownsRow (N + 1) 9 1 (.slice A5 l.length c5) l.length (strs l) by rw [← EM.out]; have h := HOLf.out; unfold Own at h; rw [← EM.out] at h; exact h))
          have AL1 := Lib.hid (fun w1 (h : Below wr.heap.size wr w1) (hr : Rd w1 w1.heap.size A5 (strs l)) => AL.out [65] [70] (by decide) (by decide) l A5 c5 (by have := HL4.out; omega) w1 h hr)
          rw [a1, ← EM.out] at AL1
          have HEND := Lib.hid (show ∀ w1 : World, Below wr.heap.size wr w1 → Below w.heap.size w w1 from fun w1 h => by rw [← EN0.out]; exact HBf.out.trans (h.mono (HSZ.out _ HBf.out)))
          obtain ⟨d, ed⟩ : ∃ d, d = l.headD [70] := ⟨_, rfl⟩
          have hqc := HQc.out
          rw [HQ1.out.2, ← ed] at hqc
          rw [← ed] at NX
          have bd : (d == d) = true := by simp
          have k0 : wr.cell? ⟨P + 1, 0, none⟩ = some (.slice (some ⟨w.heap.size, 0, none⟩) 6 6) := HBX.out.cell 0
          have k1 : wr.cell? ⟨P + 1, 1, none⟩ = some (.slice A8 K.length c8) := HBX.out.cell 1
          have k2 : wr.cell? ⟨P + 1, 2, none⟩ = some (.slice (some ⟨P, 0, none⟩) 1 1) := HBX.out.cell 2
          have AL2 := Lib.hid (fun w1 (h : Below wr.heap.size wr w1) => (by
            have hb := (Below.refl w1.heap.size w1).alloc (Nat.le_refl _) (.cells #[.string ⟨List.toArray o⟩] 9)
            have h2 := AL.out [65] [70] (by decide) (by decide) [o] (some ⟨w1.heap.size, 0, none⟩) 1 (by simp) _ (h.trans (hb.mono h.size)) (lit_one w1 o)
            rw [a2] at h2
            exact h2.mono fun e w' hh => ⟨hh.1, hb.trans (hh.2.mono hb.size)⟩ : Calls Try.prog 26 #[.agg #[.slice (some ⟨w.heap.size, 0, none⟩) 6 6, .slice A8 K.length c8, .slice (some ⟨P, 0, none⟩) 1 1], .string ⟨#[65]⟩, .string ⟨#[70]⟩, .slice (some ⟨w1.heap.size, 0, none⟩) 1 1] (w1.alloc (.cells #[.string ⟨List.toArray o⟩] 9)) fun e w' => e = .returned (.bool q) ∧ Below w1.heap.size w1 w'))
          have AL3 := Lib.hid (fun w1 (h : Below wr.heap.size wr w1) => (by
            have hb := (Below.refl w1.heap.size w1).alloc (Nat.le_refl _) (.cells #[.string ⟨List.toArray [65]⟩] 9)
            have h2 := AL.out [65] [70] (by decide) (by decide) [[65]] (some ⟨w1.heap.size, 0, none⟩) 1 (by simp) _ (h.trans (hb.mono h.size)) (lit_one w1 [65])
            rw [a3] at h2
            exact h2.mono fun e w' hh => ⟨hh.1, hb.trans (hh.2.mono hb.size)⟩ : Calls Try.prog 26 #[.agg #[.slice (some ⟨w.heap.size, 0, none⟩) 6 6, .slice A8 K.length c8, .slice (some ⟨P, 0, none⟩) 1 1], .string ⟨#[65]⟩, .string ⟨#[70]⟩, .slice (some ⟨w1.heap.size, 0, none⟩) 1 1] (w1.alloc (.cells #[.string ⟨List.toArray [65]⟩] 9)) fun e w' => e = .returned (.bool false) ∧ Below w1.heap.size w1 w'))
          have AL4 := Lib.hid (fun w1 (h : Below wr.heap.size wr w1) => (by
            have h2 := AL.out [70] [65] (by decide) (by decide) [] none 0 (by simp) w1 h (.inl rfl)
            rw [a4] at h2
            exact h2 : Calls Try.prog 26 #[.agg #[.slice (some ⟨w.heap.size, 0, none⟩) 6 6, .slice A8 K.length c8, .slice (some ⟨P, 0, none⟩) 1 1], .string ⟨#[70]⟩, .string ⟨#[65]⟩, .slice none 0 0] w1 fun e w' => e = .returned (.bool true) ∧ Below w1.heap.size w1 w'))
          have HG6s := Lib.hid (show g6 < wr.heap.size by have := HGB.out.size; omega)
          have HQ5 := Lib.hid hqc
          clear hv hsm hnx eT eo ez eq a1 a2 a3 a4 hsl5 HL HKL HKM hlt ed AL
          go_wp2_with (first
            | (go_at_call 17; with_reducible refine Calls.mono (NX.out _ HW.out) ?_; rintro e wa ⟨rfl, hb⟩; clear k0 k1 k2; replace HBX := Lib.hid (HBX.out.below hb); replace HR5 := Lib.hid ((HR5.out.below hb).more hb.size); replace HW := Lib.hid (HW.out.trans (hb.mono HW.out.size)); clear hb; have k0 := HBX.out.cell 0; have k1 := HBX.out.cell 1; have k2 := HBX.out.cell 2; simp only [List.getElem?_toArray, List.getElem?_cons_zero, List.getElem?_cons_succ] at k0 k1 k2; clear hqc; have hqc : wa.cell? ⟨g6, 1, none⟩ = some (.string ⟨d.toArray⟩) := (HW.out.cell HG6s.out).trans HQ5.out)
            | (go_at_call 24; with_reducible refine Calls.mono (VV.out _ HW.out) ?_; rintro e wb ⟨u1, rfl, ho, hb⟩; obtain ⟨A6, c9, e9, r9⟩ := ho.slice; subst e9; clear k0 k1 k2; replace HBX := Lib.hid (HBX.out.below hb); replace HR5 := Lib.hid ((HR5.out.below hb).more hb.size); replace HW := Lib.hid (HW.out.trans (hb.mono HW.out.size)); clear hb; have k0 := HBX.out.cell 0; have k1 := HBX.out.cell 1; have k2 := HBX.out.cell 2; simp only [List.getElem?_toArray, List.getElem?_cons_zero, List.getElem?_cons_succ] at k0 k1 k2; have c3 := texts_same l A6 A5 l.length m c9 c5 wb.heap.size wb rfl EM.out (by have := HL4.out; omega) r9 HR5.out; clear ho r9)
            | (go_at_call 23; with_reducible refine Calls.mono c3 ?_; rintro e wc ⟨rfl, hd⟩; clear c3; have hb : Below wb.heap.size wb wc := hd.below; clear hd; clear k0 k1 k2; replace HBX := Lib.hid (HBX.out.below hb); replace HR5 := Lib.hid ((HR5.out.below hb).more hb.size); replace HW := Lib.hid (HW.out.trans (hb.mono HW.out.size)); clear hb; have k0 := HBX.out.cell 0; have k1 := HBX.out.cell 1; have k2 := HBX.out.cell 2; simp only [List.getElem?_toArray, List.getElem?_cons_zero, List.getElem?_cons_succ] at k0 k1 k2)
            | (go_at_call 26; with_reducible refine Calls.mono (AL1.out _ HW.out HR5.out) ?_; rintro e wd ⟨rfl, hb⟩; clear AL1; clear k0 k1 k2; replace HBX := Lib.hid (HBX.out.below hb); replace HR5 := Lib.hid ((HR5.out.below hb).more hb.size); replace HW := Lib.hid (HW.out.trans (hb.mono HW.out.size)); clear hb; have k0 := HBX.out.cell 0; have k1 := HBX.out.cell 1; have k2 := HBX.out.cell 2; simp only [List.getElem?_toArray, List.getElem?_cons_zero, List.getElem?_cons_succ] at k0 k1 k2)
            | (go_at_call 26; with_reducible refine Calls.mono (AL2.out wd HW.out) ?_; rintro e we ⟨rfl, hb⟩; clear AL2; clear k0 k1 k2; replace HBX := Lib.hid (HBX.out.below hb); replace HR5 := Lib.hid ((HR5.out.below hb).more hb.size); replace HW := Lib.hid (HW.out.trans (hb.mono HW.out.size)); clear hb; have k0 := HBX.out.cell 0; have k1 := HBX.out.cell 1; have k2 := HBX.out.cell 2; simp only [List.getElem?_toArray, List.getElem?_cons_zero, List.getElem?_cons_succ] at k0 k1 k2)
            | (go_at_call 28; with_reducible refine Calls.mono (PL.out _ HR5.out) ?_; rintro e wf ⟨rfl, hwf⟩; subst hwf; clear PL)
            | (go_at_call 26; with_reducible refine Calls.mono (AL3.out we HW.out) ?_; rintro e wg ⟨rfl, hb⟩; clear AL3; clear k0 k1 k2; replace HBX := Lib.hid (HBX.out.below hb); replace HR5 := Lib.hid ((HR5.out.below hb).more hb.size); replace HW := Lib.hid (HW.out.trans (hb.mono HW.out.size)); clear hb; have k0 := HBX.out.cell 0; have k1 := HBX.out.cell 1; have k2 := HBX.out.cell 2; simp only [List.getElem?_toArray, List.getElem?_cons_zero, List.getElem?_cons_succ] at k0 k1 k2)
            | (go_at_call 26; with_reducible refine Calls.mono (AL4.out _ HW.out) ?_; rintro e wh ⟨rfl, hb⟩; clear AL4; clear k0 k1 k2; replace HBX := Lib.hid (HBX.out.below hb); replace HR5 := Lib.hid ((HR5.out.below hb).more hb.size); replace HW := Lib.hid (HW.out.trans (hb.mono HW.out.size)); clear hb; have k0 := HBX.out.cell 0; have k1 := HBX.out.cell 1; have k2 := HBX.out.cell 2; simp only [List.getElem?_toArray, List.getElem?_cons_zero, List.getElem?_cons_succ] at k0 k1 k2)
            | (go_at_call 15; with_reducible refine Calls.mono (CK.out _) ?_; rintro e wi ⟨rfl, hb⟩; clear k0 k1 k2; replace HBX := Lib.hid (HBX.out.below hb); replace HR5 := Lib.hid ((HR5.out.below hb).more hb.size); replace HW := Lib.hid (HW.out.trans (hb.mono HW.out.size)); clear hb; have k0 := HBX.out.cell 0; have k1 := HBX.out.cell 1; have k2 := HBX.out.cell 2; simp only [List.getElem?_toArray, List.getElem?_cons_zero, List.getElem?_cons_succ] at k0 k1 k2))
          go_ret
          exact ⟨rfl, HEND.out _ HW.out⟩
theorem paths_ (A : Option Addr) (zs : List Int) (c : Nat) (b : Int) (w : World) (hr : Rd w w.heap.size A (zs.map (Value.int .i64))) (_ : ∀ z ∈ zs, (Lit.int .i64 z).wf = true) (hc : zs.length ≤ c) (hm : c ≤ maxLen) (_ : (Lit.int .i64 b).wf = true) :
    Calls Try.prog 7 #[.slice A zs.length c, .int .i64 b] w fun e w' => e = .returned (.bool true) ∧ Below w.heap.size w w' := by
  have hx : zs.length ≤ 9223372036854775807 := by unfold maxLen at hm; omega
  by_cases h : zs.length ≤ 4
  · exact paths_few A zs c b w hr h (by omega)
  · exact paths_many A zs c b w hr (by omega) hx
end Go.Proofs.Ytnalnhplcchdoaa.RtW
