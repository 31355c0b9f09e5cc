import Derived.Deep.LoopGhost
import Derived.Deep.CutBlock
import Derived.DeepKeys
import Derived.Laws.StructEq
import Derived.Test.YtcjibpjdfhhhkaaZRingNumbers1
import Derived.Test.YtcjibpjdfhhhkaaZRingNumbers2
import Derived.Test.YtcjibpjdfhhhkaaZRingNumbers3
import Derived.Test.YtcjibpjdfhhhkaaZRingNumbers4
import Derived.Test.YtcjibpjdfhhhkaaZRingNumbers5
import Derived.Test.YtcjibpjdfhhhkaaZRingNumbers6
import Derived.Test.YtcjibpjdfhhhkaaZRingNumbers7
section
set_option linter.unusedVariables false
set_option linter.unusedSimpArgs false
namespace Go.Proofs.Ytcjibpjdfhhhkaa.Rg
open Go.RowKit Go.Proofs.Ytcjibpjdfhhhkaa.Mem Go.Proofs.Ytcjibpjdfhhhkaa.Se

theorem and3 (n : Int) : bits .and .i64 n 3 = n % 4 := by
  have h127 : (BitVec.ofInt 64 3).toNat = 2 ^ 2 - 1 := by decide
  have key : (BitVec.ofInt 64 n &&& BitVec.ofInt 64 3).toNat = (n % ((2 ^ 64 : Nat) : Int)).toNat % 2 ^ 2 := by
    rw [BitVec.toNat_and, BitVec.toNat_ofInt, h127, Nat.and_two_pow_sub_one_eq_mod]
  show IntKind.i64.wrap ((BitVec.ofInt 64 n &&& BitVec.ofInt 64 3).toNat : Nat) = n % 4
  rw [key, IntKind.wrap_i64]
  omega
def qF (k : Nat) : Pr := ([UInt8.ofNat (65 + k % 2)], [UInt8.ofNat (120 + k / 2)])
theorem qF_may (k : Nat) (h : k < 4) : prB (qF k) = true := by
  have h : k = 0 ∨ k = 1 ∨ k = 2 ∨ k = 3 := by omega
  rcases h with rfl | rfl | rfl | rfl <;> decide
theorem qF_inj {k j : Nat} (hk : k < 4) (hj : j < 4) (h : qF k = qF j) : k = j := by
  have h1 : k = 0 ∨ k = 1 ∨ k = 2 ∨ k = 3 := by omega
  have h2 : j = 0 ∨ j = 1 ∨ j = 2 ∨ j = 3 := by omega
  revert h
  rcases h1 with rfl | rfl | rfl | rfl <;> rcases h2 with rfl | rfl | rfl | rfl <;> decide
def nC (l : List It) (k : Nat) : Value := .int .i64 (lastN l (qF k) : Int)
def nCs (l : List It) : Array Value := #[nC l 0, nC l 1, nC l 2, nC l 3]
theorem nC_next (l : List It) (c k : Nat) (kk : Nat → UInt8) (hc : c < 4) (hk : k < 4) : lastN (l ++ [⟨qF c, lastN l (qF c) + 1, kk⟩]) (qF k) = if c = k then lastN l (qF c) + 1 else lastN l (qF k) := by
  rw [lastN_snoc]
  by_cases h : c = k
  · subst h; rw [if_pos rfl, if_pos rfl]
  · rw [if_neg (fun x => h (qF_inj hc hk x)), if_neg h]
theorem qF_lk1 (c : Nat) (h : c < 4) : (#[.string ⟨#[65]⟩, .string ⟨#[66]⟩] : Array Value)[c % 2]? = some (.string ⟨(qF c).1.toArray⟩) := by
  have h : c = 0 ∨ c = 1 ∨ c = 2 ∨ c = 3 := by omega
  rcases h with rfl | rfl | rfl | rfl <;> rfl
theorem qF_lk6 (c : Nat) (h : c < 4) : (#[.string ⟨#[120]⟩, .string ⟨#[121]⟩] : Array Value)[c / 2]? = some (.string ⟨(qF c).2.toArray⟩) := by
  have h : c = 0 ∨ c = 1 ∨ c = 2 ∨ c = 3 := by omega
  rcases h with rfl | rfl | rfl | rfl <;> rfl
theorem chg_cell {S : Nat → Prop} {w w' : World} {g i : Nat} (h : Chg S w w') (hl : g < w.heap.size) (hn : ¬ S g) : w'.cell? ⟨g, i, none⟩ = w.cell? ⟨g, i, none⟩ := World.cell?_of_block (a := ⟨g, i, none⟩) (h.block g hl hn)
theorem nCs_at (l : List It) (c : Nat) (h : c < 4) : (nCs l)[c]? = some (.int .i64 (lastN l (qF c) : Int)) := by
  have h : c = 0 ∨ c = 1 ∨ c = 2 ∨ c = 3 := by omega
  rcases h with rfl | rfl | rfl | rfl <;> rfl
theorem nCs_next (l : List It) (c : Nat) (kk : Nat → UInt8) (h : c < 4) : (nCs l).setIfInBounds c (.int .i64 ((lastN l (qF c) : Int) + 1)) = nCs (l ++ [⟨qF c, lastN l (qF c) + 1, kk⟩]) := by
  unfold nCs nC
  rw [nC_next l c 0 kk h (by decide), nC_next l c 1 kk h (by decide), nC_next l c 2 kk h (by decide), nC_next l c 3 kk h (by decide)]
  have h : c = 0 ∨ c = 1 ∨ c = 2 ∨ c = 3 := by omega
  rcases h with rfl | rfl | rfl | rfl <;> simp
theorem last_hit {es : List Ent} {p : Pr} {i : Nat} (h : lastI (its es) p = some i) : ∃ x, es[i]? = some x ∧ lastN (its es) p = x.it.n := by
  obtain ⟨_, y, h1, _⟩ := lastTo_some h
  obtain ⟨x, h2, h3⟩ := its_of h1
  exact ⟨x, h2, by rw [lastN, h]; simp only [numO, h1, Option.map_some, Option.getD_some, ← h3]⟩
theorem lastp_pos {B r : Nat} {v : Value} {es : List Ent} {p : Pr} {w : World} (h : Ring w B r v es) (hl : es.length ≤ 1000) (hn : Num (its es)) (hp : 0 < lastN (its es) p) :
    Calls Try.prog 12 #[.pointer (some ⟨r, 0, none⟩), prV p] w fun e w' => ∃ q, e = .returned (.tuple #[.pointer q, .int .i64 (lastN (its es) p : Int), .int .i64 0]) ∧ Below w.heap.size w w' := by
  cases e : lastI (its es) p with
  | none => rw [lastN, e] at hp; exact absurd hp (Nat.lt_irrefl _)
  | some i =>
    obtain ⟨x, h1, h2⟩ := last_hit e
    rw [h2]
    exact (lastp_hit h hl e h1).mono fun e w' ⟨he, hb⟩ => ⟨_, he, hb⟩
theorem lastp_zero {B r : Nat} {v : Value} {es : List Ent} {p : Pr} {w : World} (h : Ring w B r v es) (hl : es.length ≤ 1000) (hn : Num (its es)) (hp : lastN (its es) p = 0) :
    Calls Try.prog 12 #[.pointer (some ⟨r, 0, none⟩), prV p] w fun e w' => e = .returned (.tuple #[.pointer none, .int .i64 0, .int .i64 4]) ∧ Below w.heap.size w w' := by
  cases e : lastI (its es) p with
  | none => exact lastp_miss h hl e
  | some i =>
    obtain ⟨x, h1, h2⟩ := last_hit e
    have h3 := hn i x.it (its_at h1)
    omega
theorem kB_num2 (i : Nat) (h : i < 256) : key32 (kB (UInt8.ofNat i)) = #[.int .u8 (i : Int), .int .u8 0, .int .u8 0, .int .u8 0, .int .u8 0, .int .u8 0, .int .u8 0, .int .u8 0, .int .u8 0, .int .u8 0, .int .u8 0, .int .u8 0, .int .u8 0, .int .u8 0, .int .u8 0, .int .u8 0, .int .u8 0, .int .u8 0, .int .u8 0, .int .u8 0, .int .u8 0, .int .u8 0, .int .u8 0, .int .u8 0, .int .u8 0, .int .u8 0, .int .u8 0, .int .u8 0, .int .u8 0, .int .u8 0, .int .u8 0, .int .u8 0] := by
  rw [kB_lit, UInt8.toNat_ofNat_of_lt' (by simpa using h)]
set_option maxRecDepth 100000 in
set_option maxHeartbeats 3200000 in
theorem numbers_yes (A : Option Addr) (zs : List Int) (c : Nat) (w : World) (hr : Rd w w.heap.size A (zs.map (Value.int .i64))) (h2 : zs.length ≤ 40) :
    Calls Try.prog 6 #[.slice A zs.length c] w fun e w' => e = .returned (.bool true) ∧ Below w.heap.size w w' := by
  obtain ⟨B, eB⟩ : ∃ B, B = w.heap.size := ⟨_, rfl⟩
  have c1 := ring_new B w (Nat.le_of_eq eB)
  rw [← eB] at hr
  have CA := Lib.hid (fun (w1 : World) (r i k : Nat) (v : Value) (es : List Ent) (h : Ring w1 B r v es) (hB : B ≤ w1.heap.size) (he : es.length = i) (hi : i < 40) (hk : k < 4) (hn : Num (its es)) => add_ok B r v es (qF k) (kB (UInt8.ofNat i)) w1 h hB (by simp [qF]) (by simp [qF]) (qF_may k hk) (by rw [he]; exact hi) (by have := last_le hn (qF k); rw [its_length] at this; omega))
  have CL1 := Lib.hid (fun (w1 : World) (r k : Nat) (v : Value) (es : List Ent) (h : Ring w1 B r v es) (hl : es.length ≤ 1000) (hf : lastI (its es) (qF k) = none) => lastp_miss h hl hf)
  have CL2 := Lib.hid (fun (w1 : World) (r k j : Nat) (v : Value) (es : List Ent) (x : Ent) (h : Ring w1 B r v es) (hl : es.length ≤ 1000) (hf : lastI (its es) (qF k) = some j) (hx : es[j]? = some x) => lastp_hit h hl hf hx)
  have CK := Lib.hid (fun w1 => rknown_any w1)
  have EB := Lib.hid eB
  have HR := Lib.hid hr
  obtain ⟨n, en⟩ : ∃ n, n = zs.length := ⟨_, rfl⟩
  rw [← en] at h2 ⊢
  have EN := Lib.hid en
  have HB := Lib.hid (Below.refl B w)
  have t2 : ¬ (40 : Int) < (n : Int) := by omega
  have H2 := Lib.hid h2
  clear hr en h2
  go_enter Try.func6, Try.ntmps6
  go_wp2_with (first
    | (go_at_call 8; refine Calls.mono c1 ?_; rintro e w1 ⟨r, rfl, hr, hrg, hb⟩; clear c1; rw [← eB] at hb; clear eB; replace HB := Lib.hid hb; have HRG := Lib.hid hrg; have HRG0 := Lib.hid hrg; clear hb hr hrg)
    | fail)
  have HQ := Lib.hid (show Blk (w1.alloc (.cells (nCs []) 52)) w1.heap.size 52 (nCs []) from Blk.new w1 _ _)
  have HB0 := Lib.hid (show B ≤ w1.heap.size from (Nat.le_trans (Nat.le_of_eq EB.out) HB.out.size))
  have hal := (Below.refl w1.heap.size w1).alloc (Nat.le_refl _) (.cells (nCs []) 52)
  replace HRG := Lib.hid (HRG.out.below hal)
  replace HB := Lib.hid (HB.out.trans (hal.mono (Nat.le_trans (Nat.le_of_eq EB.out) HB.out.size)))
  obtain ⟨W1, eW1⟩ : ∃ W1, W1 = w1.alloc (.cells (nCs []) 52) := ⟨_, rfl⟩
  have HNQ := Lib.hid (show ¬ RO r (.slice none 0 0) [] w1.heap.size from fun x => by have := nil_ro x; have := HRG0.out.lt; omega)
  have HQB := Lib.hid (show B ≤ w1.heap.size from HB0.out)
  obtain ⟨Q, eQ⟩ : ∃ Q, Q = w1.heap.size := ⟨_, rfl⟩
  change Code.wp _ _ _ _ (w1.alloc (.cells (nCs []) 52))
  rw [← eW1] at HQ HRG HB ⊢
  rw [← eQ] at HQ HNQ HQB ⊢
  clear hal eW1 eQ HRG0
  go_loopw [5] (fun iv wr => ∃ (i : Nat) (v : Value) (es : List Ent), i ≤ n ∧ iv = .int .i64 (i : Int) ∧ Below B w wr ∧ Ring wr B r v es ∧ es.length = i ∧ Num (its es) ∧ Blk wr Q 52 (nCs (its es)) ∧ ¬ RO r v es Q) (fun iv _ => n - (intOf iv).toNat)
  case atStart => exact ⟨0, _, [], Nat.zero_le _, rfl, HB.out, HRG.out, rfl, num_nil, HQ.out, HNQ.out⟩
  case round =>
    clear HB HRG HQ HNQ
    obtain ⟨i, v, es, hi, rfl, hb, hr, hel, hnum, hq, hnq⟩ := hrel
    have HB := Lib.hid hb; have HRG := Lib.hid hr; have HEL := Lib.hid hel; have HNUM := Lib.hid hnum; have HQ := Lib.hid hq; have HNQ := Lib.hid hnq
    clear hb hr hel hnum hq hnq
    by_cases hlt : i < n
    · have e1 : (i : Int) < (n : Int) := by omega
      have e2 : (0 : Int) ≤ (i : Int) := by omega
      have e9 : (i : Int) ≤ 40 := by have := H2.out; omega
      have hll : i < zs.length := by rw [← EN.out]; exact hlt
      obtain ⟨z, ez⟩ : ∃ z, z = zs[i] := ⟨_, rfl⟩
      obtain ⟨bb, oo, rfl, hbB, hcell⟩ := HR.out.at_ (i := i) (u := .int .i64 z) (by rw [List.getElem?_map, List.getElem?_eq_getElem hll, ez]; rfl)
      have hc : wr.cell? ⟨bb, oo + i, none⟩ = some (.int .i64 z) := (HB.out.cell (p := ⟨bb, oo + i, none⟩) hbB).trans hcell
      have ha3 := and3 z
      obtain ⟨m4, em4⟩ : ∃ m4, m4 = z % 4 := ⟨_, rfl⟩
      rw [← em4] at ha3
      obtain ⟨c, rfl, hc4⟩ : ∃ c : Nat, m4 = (c : Int) ∧ c < 4 := ⟨m4.toNat, by omega, by omega⟩
      have ca := fun w2 (h : Ring w2 B r v es) (hb : B ≤ w2.heap.size) => CA.out w2 r i c v es h hb HEL.out (by have := H2.out; omega) hc4 HNUM.out
      rw [kB_num2 i (by omega)] at ca
      obtain ⟨av, eav⟩ : ∃ av, av = lastN (its es) (qF c) := ⟨_, rfl⟩
      rw [← eav] at ca
      have CA2 := Lib.hid ca
      have ha1 : bits .and .i64 (c : Int) 1 = ((c % 2 : Nat) : Int) := by
        have h : c = 0 ∨ c = 1 ∨ c = 2 ∨ c = 3 := by omega
        rcases h with rfl | rfl | rfl | rfl <;> decide
      have HC4 := Lib.hid hc4
      clear ca hc4 hcell hll ez em4
      go_wp2
      obtain ⟨cm, ecm⟩ : ∃ cm, cm = c % 2 := ⟨_, rfl⟩
      obtain ⟨cd, ecd⟩ : ∃ cd, cd = c / 2 := ⟨_, rfl⟩
      have HLK1 := Lib.hid (show (#[.string ⟨#[65]⟩, .string ⟨#[66]⟩] : Array Value)[cm]? = some (.string ⟨(qF c).1.toArray⟩) from ecm ▸ qF_lk1 c HC4.out)
      have HLK6 := Lib.hid (show (#[.string ⟨#[120]⟩, .string ⟨#[121]⟩] : Array Value)[cd]? = some (.string ⟨(qF c).2.toArray⟩) from ecd ▸ qF_lk6 c HC4.out)
      have HIX1 := Lib.hid (show ((cm : Nat) : Int) < 2 by omega)
      have HIZ1 := Lib.hid (show (0 : Int) ≤ ((cm : Nat) : Int) by omega)
      have HIX6 := Lib.hid (show ((cd : Nat) : Int) < 2 by have := HC4.out; omega)
      have HIZ6 := Lib.hid (show (0 : Int) ≤ ((cd : Nat) : Int) by omega)
      have hwu : IntKind.u8.wrap (i : Int) = (i : Int) := by rw [IntKind.wrap_u8]; omega
      have hsh : (c : Int) / 2 = (cd : Int) := by omega
      rw [← ecm] at ha1
      have HCQ := Lib.hid (show (nCs (its es))[c]? = some (.int .i64 (av : Int)) by rw [eav]; exact nCs_at _ c HC4.out)
      have HAV := Lib.hid (show (av : Int) ≤ 40 by have := last_le HNUM.out (qF c); rw [its_length, HEL.out] at this; rw [eav]; omega)
      have HEAV := Lib.hid eav
      clear ecm ecd
      refine Reg.chg_begin (AT r v) 21 rfl (by kernel_rfl) ?_
      have HRW := Lib.hid (show Ring wr.drew B r v es from HRG.out.drew)
      have HBW := Lib.hid (show Below B w wr.drew from below_drewN HB.out 1)
      have HQW := Lib.hid (show Blk wr.drew Q 52 (nCs (its es)) from HQ.out.drewN 1)
      obtain ⟨W0, eW0⟩ : ∃ W0, W0 = wr.drew := ⟨_, rfl⟩
      rw [← eW0] at HRW HBW HQW ⊢
      clear eW0
      refine Reg.chg_take 0 (v := ?vq1) rfl (by kernel_rfl) (by kernel_rfl) (by kernel_rfl) (fun _ _ _ h => h) (by rfl) (fun w' hS => ?hq1) ?rq1
      case hq1 => go_simp; rfl
      simp only [Act.put, List.setIfInBounds_toArray, List.set_cons_zero, List.set_cons_succ]
      refine Reg.chg_take 2 (v := ?vq2) rfl (by kernel_rfl) (by kernel_rfl) (by kernel_rfl) (fun _ _ _ h => h) (by rfl) (fun w' hS => ?hq2) ?rq2
      case hq2 => go_simp; rfl
      simp only [Act.put, List.setIfInBounds_toArray, List.set_cons_zero, List.set_cons_succ]
      refine Reg.chg_take 3 (v := .int .i64 (cm : Int)) rfl (by kernel_rfl) (by kernel_rfl) (by kernel_rfl) (fun _ _ _ h => h) (by rfl) (fun w' hS => ?hq3) ?rq3
      case hq3 => go_simp
      simp only [Act.put, List.setIfInBounds_toArray, List.set_cons_zero, List.set_cons_succ]
      refine Reg.chg_take 7 (v := ?vq4) rfl (by kernel_rfl) (by kernel_rfl) (by kernel_rfl) (fun _ _ _ h => h) (by rfl) (fun w' hS => ?hq4) ?rq4
      case hq4 => go_simp; rfl
      simp only [Act.put, List.setIfInBounds_toArray, List.set_cons_zero, List.set_cons_succ]
      refine Reg.chg_take 8 (v := .int .i64 (cd : Int)) rfl (by kernel_rfl) (by kernel_rfl) (by kernel_rfl) (fun _ _ _ h => h) (by rfl) (fun w' hS => ?hq5) ?rq5
      case hq5 => go_simp
      simp only [Act.put, List.setIfInBounds_toArray, List.set_cons_zero, List.set_cons_succ]
      refine Reg.chg_take 12 (v := ?vq6) rfl (by kernel_rfl) (by kernel_rfl) (by kernel_rfl) (fun _ _ _ h => h) (by rfl) (fun w' hS => ?hq6) ?rq6
      case hq6 => go_simp; rfl
      simp only [Act.put, List.setIfInBounds_toArray, List.set_cons_zero, List.set_cons_succ]
      refine Reg.chg_take 13 (v := .int .u8 (i : Int)) rfl (by kernel_rfl) (by kernel_rfl) (by kernel_rfl) (fun _ _ _ h => h) (by rfl) (fun w' hS => ?hq7) ?rq7
      case hq7 => go_simp
      simp only [Act.put, List.setIfInBounds_toArray, List.set_cons_zero, List.set_cons_succ]
      refine Reg.chg_take 14 (v := .agg #[.int .u8 (i : Int), .int .u8 0, .int .u8 0, .int .u8 0, .int .u8 0, .int .u8 0, .int .u8 0, .int .u8 0, .int .u8 0, .int .u8 0, .int .u8 0, .int .u8 0, .int .u8 0, .int .u8 0, .int .u8 0, .int .u8 0, .int .u8 0, .int .u8 0, .int .u8 0, .int .u8 0, .int .u8 0, .int .u8 0, .int .u8 0, .int .u8 0, .int .u8 0, .int .u8 0, .int .u8 0, .int .u8 0, .int .u8 0, .int .u8 0, .int .u8 0, .int .u8 0]) rfl (by kernel_rfl) (by kernel_rfl) (by kernel_rfl) (fun _ _ _ h => h) (by rfl) (fun w' hS => ?hq8) ?rq8
      case hq8 => go_simp
      simp only [Act.put, List.setIfInBounds_toArray, List.set_cons_zero, List.set_cons_succ]
      refine Reg.chg_all [1, 6] (by kernel_rfl) (by simp) ?_
      intro j0 hj0
      have hj0 : j0 = 1 ∨ j0 = 6 := by simpa using hj0
      rcases hj0 with rfl | rfl
      · left
        have hal : Below W0.heap.size W0 (W0.alloc (.cells #[.string ⟨#[65]⟩, .string ⟨#[66]⟩] 9)) := (Below.refl _ _).alloc (Nat.le_refl _) _
        have hsl := Blk.new W0 9 #[.string ⟨#[65]⟩, .string ⟨#[66]⟩]
        refine ⟨_, _, _, _, _, _, .slice (some ⟨W0.heap.size, 0, none⟩) 2 2, W0.alloc (.cells #[.string ⟨#[65]⟩, .string ⟨#[66]⟩] 9), rfl, by rfl, by go_simp, Chg.of_below hal, ?_⟩
        simp only [Act.put, List.setIfInBounds_toArray, List.set_cons_zero, List.set_cons_succ]
        have HOF1 := Lib.hid (show ¬ AT r v W0.heap.size from fun x => by have := HRW.out.own_lt (at_ro x); omega)
        replace HRW := Lib.hid (HRW.out.below hal)
        replace HBW := Lib.hid (HBW.out.trans (hal.mono (Nat.le_trans (Nat.le_of_eq EB.out) HBW.out.size)))
        replace HQW := Lib.hid (HQW.out.below hal)
        obtain ⟨Wa, eWa⟩ : ∃ Wa, Wa = W0.alloc (.cells #[.string ⟨#[65]⟩, .string ⟨#[66]⟩] 9) := ⟨_, rfl⟩
        obtain ⟨s1, es1⟩ : ∃ s1, s1 = W0.heap.size := ⟨_, rfl⟩
        rw [← eWa] at HRW HBW HQW hsl ⊢
        rw [← es1] at HOF1 hsl ⊢
        have HSL1 := Lib.hid (show Wa.cell? ⟨s1, cm, none⟩ = some (.string ⟨(qF c).1.toArray⟩) from by rw [hsl.cell]; exact HLK1.out)
        have HLT1 := Lib.hid hsl.lt
        clear hal hsl eWa es1
        refine Reg.chg_take 4 (v := .pointer (some ⟨s1, cm, none⟩)) rfl (by kernel_rfl) (by kernel_rfl) (by kernel_rfl) (fun _ _ _ h => h) (by rfl) (fun w' hS => ?hq9) ?rq9
        case hq9 => have h1 := HIX1.out; have h2 := HIZ1.out; go_simp
        simp only [Act.put, List.setIfInBounds_toArray, List.set_cons_zero, List.set_cons_succ]
        refine Reg.chg_take 5 (v := .string ⟨(qF c).1.toArray⟩) rfl (by kernel_rfl) (by kernel_rfl) (by kernel_rfl) (fun _ _ _ h => h) (by rfl) (fun w' hS => ?hq10) ?rq10
        case hq10 => have h1 := (chg_cell hS HLT1.out HOF1.out).trans HSL1.out; go_simp
        simp only [Act.put, List.setIfInBounds_toArray, List.set_cons_zero, List.set_cons_succ]
        refine Reg.chg_all [6] (by kernel_rfl) (by simp) ?_
        intro j0 hj0
        obtain rfl : j0 = 6 := by simpa using hj0
        clear hj0
        left
        have hal : Below Wa.heap.size Wa (Wa.alloc (.cells #[.string ⟨#[120]⟩, .string ⟨#[121]⟩] 9)) := (Below.refl _ _).alloc (Nat.le_refl _) _
        have hsl := Blk.new Wa 9 #[.string ⟨#[120]⟩, .string ⟨#[121]⟩]
        refine ⟨_, _, _, _, _, _, .slice (some ⟨Wa.heap.size, 0, none⟩) 2 2, Wa.alloc (.cells #[.string ⟨#[120]⟩, .string ⟨#[121]⟩] 9), rfl, by rfl, by go_simp, Chg.of_below hal, ?_⟩
        simp only [Act.put, List.setIfInBounds_toArray, List.set_cons_zero, List.set_cons_succ]
        have HOF6 := Lib.hid (show ¬ AT r v Wa.heap.size from fun x => by have := HRW.out.own_lt (at_ro x); omega)
        replace HRW := Lib.hid (HRW.out.below hal)
        replace HBW := Lib.hid (HBW.out.trans (hal.mono (Nat.le_trans (Nat.le_of_eq EB.out) HBW.out.size)))
        replace HQW := Lib.hid (HQW.out.below hal)
        obtain ⟨Wb, eWb⟩ : ∃ Wb, Wb = Wa.alloc (.cells #[.string ⟨#[120]⟩, .string ⟨#[121]⟩] 9) := ⟨_, rfl⟩
        obtain ⟨s6, es6⟩ : ∃ s6, s6 = Wa.heap.size := ⟨_, rfl⟩
        rw [← eWb] at HRW HBW HQW hsl ⊢
        rw [← es6] at HOF6 hsl ⊢
        have HSL6 := Lib.hid (show Wb.cell? ⟨s6, cd, none⟩ = some (.string ⟨(qF c).2.toArray⟩) from by rw [hsl.cell]; exact HLK6.out)
        have HLT6 := Lib.hid hsl.lt
        clear hal hsl eWb es6
        refine Reg.chg_take 9 (v := .pointer (some ⟨s6, cd, none⟩)) rfl (by kernel_rfl) (by kernel_rfl) (by kernel_rfl) (fun _ _ _ h => h) (by rfl) (fun w' hS => ?hq11) ?rq11
        case hq11 => have h1 := HIX6.out; have h2 := HIZ6.out; go_simp
        simp only [Act.put, List.setIfInBounds_toArray, List.set_cons_zero, List.set_cons_succ]
        refine Reg.chg_take 10 (v := .string ⟨(qF c).2.toArray⟩) rfl (by kernel_rfl) (by kernel_rfl) (by kernel_rfl) (fun _ _ _ h => h) (by rfl) (fun w' hS => ?hq12) ?rq12
        case hq12 => have h1 := (chg_cell hS HLT6.out HOF6.out).trans HSL6.out; go_simp
        simp only [Act.put, List.setIfInBounds_toArray, List.set_cons_zero, List.set_cons_succ]
        refine Reg.chg_take 11 (v := .agg #[.string ⟨(qF c).1.toArray⟩, .string ⟨(qF c).2.toArray⟩]) rfl (by kernel_rfl) (by kernel_rfl) (by kernel_rfl) (fun _ _ _ h => h) (by rfl) (fun w' hS => ?hq13) ?rq13
        case hq13 => go_simp
        simp only [Act.put, List.setIfInBounds_toArray, List.set_cons_zero, List.set_cons_succ]
        refine Reg.chg_all [15] (by kernel_rfl) (by simp) ?_
        intro j0 hj0
        obtain rfl : j0 = 15 := by simpa using hj0
        clear hj0
        right
        refine ⟨_, _, _, _, _, _, 9, #[.pointer (some ⟨r, 0, none⟩), prV (qF c), .agg #[.int .u8 (i : Int), .int .u8 0, .int .u8 0, .int .u8 0, .int .u8 0, .int .u8 0, .int .u8 0, .int .u8 0, .int .u8 0, .int .u8 0, .int .u8 0, .int .u8 0, .int .u8 0, .int .u8 0, .int .u8 0, .int .u8 0, .int .u8 0, .int .u8 0, .int .u8 0, .int .u8 0, .int .u8 0, .int .u8 0, .int .u8 0, .int .u8 0, .int .u8 0, .int .u8 0, .int .u8 0, .int .u8 0, .int .u8 0, .int .u8 0, .int .u8 0, .int .u8 0]], rfl, by rfl, by go_simp, ?_⟩
        refine Calls.mono (CA2.out _ HRW.out (Nat.le_trans (Nat.le_of_eq EB.out) HBW.out.size)) ?_
        rintro e w3 ⟨rfl, v3, b, hbl, hrg, hcg, hnw⟩
        have HB3 := Lib.hid (ring_below HBW.out (Nat.le_trans (Nat.le_of_eq EB.out) HBW.out.size) HRW.out hcg)
        have HQ3 := Lib.hid (blk_add HQW.out HNQ.out hcg)
        have HNQ3 := Lib.hid (not_add HQW.out.lt HNQ.out hnw)
        have HRG3 := Lib.hid hrg
        refine ⟨_, rfl, hcg, ?_⟩
        clear hbl hrg hcg hnw CA2
        simp only [Act.put, List.setIfInBounds_toArray, List.set_cons_zero, List.set_cons_succ]
        refine Reg.chg_take 16 (v := ?vq14) rfl (by kernel_rfl) (by kernel_rfl) (by kernel_rfl) (fun _ _ _ h => h) (by rfl) (fun w' hS => ?hq14) ?rq14
        case hq14 => go_simp; rfl
        simp only [Act.put, List.setIfInBounds_toArray, List.set_cons_zero, List.set_cons_succ]
        refine Reg.chg_take 17 (v := ?vq15) rfl (by kernel_rfl) (by kernel_rfl) (by kernel_rfl) (fun _ _ _ h => h) (by rfl) (fun w' hS => ?hq15) ?rq15
        case hq15 => go_simp; rfl
        simp only [Act.put, List.setIfInBounds_toArray, List.set_cons_zero, List.set_cons_succ]
        refine Reg.chg_take 18 (v := ?vq16) rfl (by kernel_rfl) (by kernel_rfl) (by kernel_rfl) (fun _ _ _ h => h) (by rfl) (fun w' hS => ?hq16) ?rq16
        case hq16 => go_simp; rfl
        simp only [Act.put, List.setIfInBounds_toArray, List.set_cons_zero, List.set_cons_succ]
        refine Reg.chg_take 19 (v := ?vq17) rfl (by kernel_rfl) (by kernel_rfl) (by kernel_rfl) (fun _ _ _ h => h) (by rfl) (fun w' hS => ?hq17) ?rq17
        case hq17 => go_simp; rfl
        simp only [Act.put, List.setIfInBounds_toArray, List.set_cons_zero, List.set_cons_succ]
        refine Reg.chg_take 20 (v := ?vq18) rfl (by kernel_rfl) (by kernel_rfl) (by kernel_rfl) (fun _ _ _ h => h) (by rfl) (fun w' hS => ?hq18) ?rq18
        case hq18 => go_simp; rfl
        simp only [Act.put, List.setIfInBounds_toArray, List.set_cons_zero, List.set_cons_succ]
        refine wpAnyH_done (by kernel_rfl) ?_ _
        have kq : w3.cell? ⟨Q, c, none⟩ = some (.int .i64 (av : Int)) := by rw [HQ3.out.cell]; exact HCQ.out
        have fq := HQ3.out.frozen c
        have c0 : (0 : Int) ≤ (c : Int) := by omega
        have c4 : (c : Int) < 4 := by have := HC4.out; omega
        have a9 : (av : Int) ≤ 40 := HAV.out
        clear HRW HBW HQW HOF1 HOF6 HSL1 HSL6 HLT1 HLT6
        go_wp2
        go_roundw
        case rel => exact ⟨i + 1, v3, _, by omega, by go_num, Si.below_set HB3.out HQB.out _, HRG3.out.chg (Chg.set (p := ⟨Q, c, none⟩) (Chg.refl (fun q => q = Q) w3) (.inl rfl) _) (fun q hq x => HNQ3.out (x ▸ hq)), by rw [List.length_append, HEL.out]; rfl, by rw [its_snoc]; exact num_snoc HNUM.out (by rw [HEAV.out]), by rw [its_snoc]; have := HQ3.out.set c (.int .i64 ((av : Int) + 1)); rw [HEAV.out, nCs_next _ c (kB (UInt8.ofNat i)) HC4.out] at this; rw [HEAV.out]; exact this, HNQ3.out⟩
        case measure => simp [intOf]; omega
      · left
        have hal : Below W0.heap.size W0 (W0.alloc (.cells #[.string ⟨#[120]⟩, .string ⟨#[121]⟩] 9)) := (Below.refl _ _).alloc (Nat.le_refl _) _
        have hsl := Blk.new W0 9 #[.string ⟨#[120]⟩, .string ⟨#[121]⟩]
        refine ⟨_, _, _, _, _, _, .slice (some ⟨W0.heap.size, 0, none⟩) 2 2, W0.alloc (.cells #[.string ⟨#[120]⟩, .string ⟨#[121]⟩] 9), rfl, by rfl, by go_simp, Chg.of_below hal, ?_⟩
        simp only [Act.put, List.setIfInBounds_toArray, List.set_cons_zero, List.set_cons_succ]
        have HOF6 := Lib.hid (show ¬ AT r v W0.heap.size from fun x => by have := HRW.out.own_lt (at_ro x); omega)
        replace HRW := Lib.hid (HRW.out.below hal)
        replace HBW := Lib.hid (HBW.out.trans (hal.mono (Nat.le_trans (Nat.le_of_eq EB.out) HBW.out.size)))
        replace HQW := Lib.hid (HQW.out.below hal)
        obtain ⟨Wa, eWa⟩ : ∃ Wa, Wa = W0.alloc (.cells #[.string ⟨#[120]⟩, .string ⟨#[121]⟩] 9) := ⟨_, rfl⟩
        obtain ⟨s6, es6⟩ : ∃ s6, s6 = W0.heap.size := ⟨_, rfl⟩
        rw [← eWa] at HRW HBW HQW hsl ⊢
        rw [← es6] at HOF6 hsl ⊢
        have HSL6 := Lib.hid (show Wa.cell? ⟨s6, cd, none⟩ = some (.string ⟨(qF c).2.toArray⟩) from by rw [hsl.cell]; exact HLK6.out)
        have HLT6 := Lib.hid hsl.lt
        clear hal hsl eWa es6
        refine Reg.chg_take 9 (v := .pointer (some ⟨s6, cd, none⟩)) rfl (by kernel_rfl) (by kernel_rfl) (by kernel_rfl) (fun _ _ _ h => h) (by rfl) (fun w' hS => ?hq19) ?rq19
        case hq19 => have h1 := HIX6.out; have h2 := HIZ6.out; go_simp
        simp only [Act.put, List.setIfInBounds_toArray, List.set_cons_zero, List.set_cons_succ]
        refine Reg.chg_take 10 (v := .string ⟨(qF c).2.toArray⟩) rfl (by kernel_rfl) (by kernel_rfl) (by kernel_rfl) (fun _ _ _ h => h) (by rfl) (fun w' hS => ?hq20) ?rq20
        case hq20 => have h1 := (chg_cell hS HLT6.out HOF6.out).trans HSL6.out; go_simp
        simp only [Act.put, List.setIfInBounds_toArray, List.set_cons_zero, List.set_cons_succ]
        refine Reg.chg_all [1] (by kernel_rfl) (by simp) ?_
        intro j0 hj0
        obtain rfl : j0 = 1 := by simpa using hj0
        clear hj0
        left
        have hal : Below Wa.heap.size Wa (Wa.alloc (.cells #[.string ⟨#[65]⟩, .string ⟨#[66]⟩] 9)) := (Below.refl _ _).alloc (Nat.le_refl _) _
        have hsl := Blk.new Wa 9 #[.string ⟨#[65]⟩, .string ⟨#[66]⟩]
        refine ⟨_, _, _, _, _, _, .slice (some ⟨Wa.heap.size, 0, none⟩) 2 2, Wa.alloc (.cells #[.string ⟨#[65]⟩, .string ⟨#[66]⟩] 9), rfl, by rfl, by go_simp, Chg.of_below hal, ?_⟩
        simp only [Act.put, List.setIfInBounds_toArray, List.set_cons_zero, List.set_cons_succ]
        have HOF1 := Lib.hid (show ¬ AT r v Wa.heap.size from fun x => by have := HRW.out.own_lt (at_ro x); omega)
        replace HRW := Lib.hid (HRW.out.below hal)
        replace HBW := Lib.hid (HBW.out.trans (hal.mono (Nat.le_trans (Nat.le_of_eq EB.out) HBW.out.size)))
        replace HQW := Lib.hid (HQW.out.below hal)
        obtain ⟨Wb, eWb⟩ : ∃ Wb, Wb = Wa.alloc (.cells #[.string ⟨#[65]⟩, .string ⟨#[66]⟩] 9) := ⟨_, rfl⟩
        obtain ⟨s1, es1⟩ : ∃ s1, s1 = Wa.heap.size := ⟨_, rfl⟩
        rw [← eWb] at HRW HBW HQW hsl ⊢
        rw [← es1] at HOF1 hsl ⊢
        have HSL1 := Lib.hid (show Wb.cell? ⟨s1, cm, none⟩ = some (.string ⟨(qF c).1.toArray⟩) from by rw [hsl.cell]; exact HLK1.out)
        have HLT1 := Lib.hid hsl.lt
        clear hal hsl eWb es1
        refine Reg.chg_take 4 (v := .pointer (some ⟨s1, cm, none⟩)) rfl (by kernel_rfl) (by kernel_rfl) (by kernel_rfl) (fun _ _ _ h => h) (by rfl) (fun w' hS => ?hq21) ?rq21
        case hq21 => have h1 := HIX1.out; have h2 := HIZ1.out; go_simp
        simp only [Act.put, List.setIfInBounds_toArray, List.set_cons_zero, List.set_cons_succ]
        refine Reg.chg_take 5 (v := .string ⟨(qF c).1.toArray⟩) rfl (by kernel_rfl) (by kernel_rfl) (by kernel_rfl) (fun _ _ _ h => h) (by rfl) (fun w' hS => ?hq22) ?rq22
        case hq22 => have h1 := (chg_cell hS HLT1.out HOF1.out).trans HSL1.out; go_simp
        simp only [Act.put, List.setIfInBounds_toArray, List.set_cons_zero, List.set_cons_succ]
        refine Reg.chg_take 11 (v := .agg #[.string ⟨(qF c).1.toArray⟩, .string ⟨(qF c).2.toArray⟩]) rfl (by kernel_rfl) (by kernel_rfl) (by kernel_rfl) (fun _ _ _ h => h) (by rfl) (fun w' hS => ?hq23) ?rq23
        case hq23 => go_simp
        simp only [Act.put, List.setIfInBounds_toArray, List.set_cons_zero, List.set_cons_succ]
        refine Reg.chg_all [15] (by kernel_rfl) (by simp) ?_
        intro j0 hj0
        obtain rfl : j0 = 15 := by simpa using hj0
        clear hj0
        right
        refine ⟨_, _, _, _, _, _, 9, #[.pointer (some ⟨r, 0, none⟩), prV (qF c), .agg #[.int .u8 (i : Int), .int .u8 0, .int .u8 0, .int .u8 0, .int .u8 0, .int .u8 0, .int .u8 0, .int .u8 0, .int .u8 0, .int .u8 0, .int .u8 0, .int .u8 0, .int .u8 0, .int .u8 0, .int .u8 0, .int .u8 0, .int .u8 0, .int .u8 0, .int .u8 0, .int .u8 0, .int .u8 0, .int .u8 0, .int .u8 0, .int .u8 0, .int .u8 0, .int .u8 0, .int .u8 0, .int .u8 0, .int .u8 0, .int .u8 0, .int .u8 0, .int .u8 0]], rfl, by rfl, by go_simp, ?_⟩
        refine Calls.mono (CA2.out _ HRW.out (Nat.le_trans (Nat.le_of_eq EB.out) HBW.out.size)) ?_
        rintro e w3 ⟨rfl, v3, b, hbl, hrg, hcg, hnw⟩
        have HB3 := Lib.hid (ring_below HBW.out (Nat.le_trans (Nat.le_of_eq EB.out) HBW.out.size) HRW.out hcg)
        have HQ3 := Lib.hid (blk_add HQW.out HNQ.out hcg)
        have HNQ3 := Lib.hid (not_add HQW.out.lt HNQ.out hnw)
        have HRG3 := Lib.hid hrg
        refine ⟨_, rfl, hcg, ?_⟩
        clear hbl hrg hcg hnw CA2
        simp only [Act.put, List.setIfInBounds_toArray, List.set_cons_zero, List.set_cons_succ]
        refine Reg.chg_take 16 (v := ?vq24) rfl (by kernel_rfl) (by kernel_rfl) (by kernel_rfl) (fun _ _ _ h => h) (by rfl) (fun w' hS => ?hq24) ?rq24
        case hq24 => go_simp; rfl
        simp only [Act.put, List.setIfInBounds_toArray, List.set_cons_zero, List.set_cons_succ]
        refine Reg.chg_take 17 (v := ?vq25) rfl (by kernel_rfl) (by kernel_rfl) (by kernel_rfl) (fun _ _ _ h => h) (by rfl) (fun w' hS => ?hq25) ?rq25
        case hq25 => go_simp; rfl
        simp only [Act.put, List.setIfInBounds_toArray, List.set_cons_zero, List.set_cons_succ]
        refine Reg.chg_take 18 (v := ?vq26) rfl (by kernel_rfl) (by kernel_rfl) (by kernel_rfl) (fun _ _ _ h => h) (by rfl) (fun w' hS => ?hq26) ?rq26
        case hq26 => go_simp; rfl
        simp only [Act.put, List.setIfInBounds_toArray, List.set_cons_zero, List.set_cons_succ]
        refine Reg.chg_take 19 (v := ?vq27) rfl (by kernel_rfl) (by kernel_rfl) (by kernel_rfl) (fun _ _ _ h => h) (by rfl) (fun w' hS => ?hq27) ?rq27
        case hq27 => go_simp; rfl
        simp only [Act.put, List.setIfInBounds_toArray, List.set_cons_zero, List.set_cons_succ]
        refine Reg.chg_take 20 (v := ?vq28) rfl (by kernel_rfl) (by kernel_rfl) (by kernel_rfl) (fun _ _ _ h => h) (by rfl) (fun w' hS => ?hq28) ?rq28
        case hq28 => go_simp; rfl
        simp only [Act.put, List.setIfInBounds_toArray, List.set_cons_zero, List.set_cons_succ]
        refine wpAnyH_done (by kernel_rfl) ?_ _
        have kq : w3.cell? ⟨Q, c, none⟩ = some (.int .i64 (av : Int)) := by rw [HQ3.out.cell]; exact HCQ.out
        have fq := HQ3.out.frozen c
        have c0 : (0 : Int) ≤ (c : Int) := by omega
        have c4 : (c : Int) < 4 := by have := HC4.out; omega
        have a9 : (av : Int) ≤ 40 := HAV.out
        clear HRW HBW HQW HOF1 HOF6 HSL1 HSL6 HLT1 HLT6
        go_wp2
        go_roundw
        case rel => exact ⟨i + 1, v3, _, by omega, by go_num, Si.below_set HB3.out HQB.out _, HRG3.out.chg (Chg.set (p := ⟨Q, c, none⟩) (Chg.refl (fun q => q = Q) w3) (.inl rfl) _) (fun q hq x => HNQ3.out (x ▸ hq)), by rw [List.length_append, HEL.out]; rfl, by rw [its_snoc]; exact num_snoc HNUM.out (by rw [HEAV.out]), by rw [its_snoc]; have := HQ3.out.set c (.int .i64 ((av : Int) + 1)); rw [HEAV.out, nCs_next _ c (kB (UInt8.ofNat i)) HC4.out] at this; rw [HEAV.out]; exact this, HNQ3.out⟩
        case measure => simp [intOf]; omega
    · have e1 : decide ((i : Int) < (n : Int)) = false := by simp; omega
      obtain rfl : n = i := by omega
      clear hi hlt
      have h40 := H2.out
      go_wp2
      go_loopw [9] (fun iv wr => ∃ j : Nat, j ≤ 4 ∧ iv = .int .i64 (j : Int) ∧ Below B w wr ∧ Ring wr B r v es ∧ Blk wr Q 52 (nCs (its es))) (fun iv _ => 4 - (intOf iv).toNat)
      case atStart => exact ⟨0, Nat.zero_le _, rfl, HB.out, HRG.out, HQ.out⟩
      case round =>
        clear HB HRG HQ HNQ e1
        obtain ⟨j, hj, rfl, hb, hr, hq⟩ := hrel
        have HB := Lib.hid hb; have HRG := Lib.hid hr; have HQ := Lib.hid hq
        clear hb hr hq
        by_cases hlt : j < 4
        · have e1 : (j : Int) < 4 := by omega
          have e9 : (0 : Int) ≤ (j : Int) := by omega
          have HC4 := Lib.hid hlt
          have ha1 : bits .and .i64 (j : Int) 1 = ((j % 2 : Nat) : Int) := by
            have h : j = 0 ∨ j = 1 ∨ j = 2 ∨ j = 3 := by omega
            rcases h with rfl | rfl | rfl | rfl <;> decide
          obtain ⟨av, eav⟩ : ∃ av, av = lastN (its es) (qF j) := ⟨_, rfl⟩
          obtain ⟨cm, ecm⟩ : ∃ cm, cm = j % 2 := ⟨_, rfl⟩
          obtain ⟨cd, ecd⟩ : ∃ cd, cd = j / 2 := ⟨_, rfl⟩
          have HLK1 := Lib.hid (show (#[.string ⟨#[65]⟩, .string ⟨#[66]⟩] : Array Value)[cm]? = some (.string ⟨(qF j).1.toArray⟩) from ecm ▸ qF_lk1 j HC4.out)
          have HLK6 := Lib.hid (show (#[.string ⟨#[120]⟩, .string ⟨#[121]⟩] : Array Value)[cd]? = some (.string ⟨(qF j).2.toArray⟩) from ecd ▸ qF_lk6 j HC4.out)
          have HIX1 := Lib.hid (show ((cm : Nat) : Int) < 2 by omega)
          have HIZ1 := Lib.hid (show (0 : Int) ≤ ((cm : Nat) : Int) by omega)
          have HIX6 := Lib.hid (show ((cd : Nat) : Int) < 2 by have := HC4.out; omega)
          have HIZ6 := Lib.hid (show (0 : Int) ≤ ((cd : Nat) : Int) by omega)
          have hsh : (j : Int) / 2 = (cd : Int) := by omega
          rw [← ecm] at ha1
          have HCQ := Lib.hid (show (nCs (its es))[j]? = some (.int .i64 (av : Int)) by rw [eav]; exact nCs_at _ j HC4.out)
          have HAV := Lib.hid (show (av : Int) ≤ 40 by have := last_le HNUM.out (qF j); rw [its_length, HEL.out] at this; rw [eav]; omega)
          have HEAV := Lib.hid eav
          clear ecm ecd
          clear eav
          by_cases hpos : 0 < av
          · have ca := fun w2 (h : Ring w2 B r v es) => lastp_pos h (by have := HEL.out; omega) HNUM.out (by rw [← HEAV.out]; exact hpos)
            rw [← HEAV.out] at ca
            have CA2 := Lib.hid ca
            have p1 : decide ((0 : Int) < (av : Int)) = true := by simp; omega
            clear ca
            go_wp2
            refine Reg.chg_begin (AT r v) 20 rfl (by kernel_rfl) ?_
            have HRW := Lib.hid (show Ring wr.drew B r v es from HRG.out.drew)
            have HBW := Lib.hid (show Below B w wr.drew from below_drewN HB.out 1)
            have HQW := Lib.hid (show Blk wr.drew Q 52 (nCs (its es)) from HQ.out.drewN 1)
            obtain ⟨W0, eW0⟩ : ∃ W0, W0 = wr.drew := ⟨_, rfl⟩
            rw [← eW0] at HRW HBW HQW ⊢
            clear eW0
            refine Reg.chg_take 0 (v := ?vq29) rfl (by kernel_rfl) (by kernel_rfl) (by kernel_rfl) (fun _ _ _ h => h) (by rfl) (fun w' hS => ?hq29) ?rq29
            case hq29 => go_simp; rfl
            simp only [Act.put, List.setIfInBounds_toArray, List.set_cons_zero, List.set_cons_succ]
            refine Reg.chg_take 2 (v := ?vq30) rfl (by kernel_rfl) (by kernel_rfl) (by kernel_rfl) (fun _ _ _ h => h) (by rfl) (fun w' hS => ?hq30) ?rq30
            case hq30 => go_simp; rfl
            simp only [Act.put, List.setIfInBounds_toArray, List.set_cons_zero, List.set_cons_succ]
            refine Reg.chg_take 3 (v := .int .i64 (cm : Int)) rfl (by kernel_rfl) (by kernel_rfl) (by kernel_rfl) (fun _ _ _ h => h) (by rfl) (fun w' hS => ?hq31) ?rq31
            case hq31 => go_simp
            simp only [Act.put, List.setIfInBounds_toArray, List.set_cons_zero, List.set_cons_succ]
            refine Reg.chg_take 7 (v := ?vq32) rfl (by kernel_rfl) (by kernel_rfl) (by kernel_rfl) (fun _ _ _ h => h) (by rfl) (fun w' hS => ?hq32) ?rq32
            case hq32 => go_simp; rfl
            simp only [Act.put, List.setIfInBounds_toArray, List.set_cons_zero, List.set_cons_succ]
            refine Reg.chg_take 8 (v := .int .i64 (cd : Int)) rfl (by kernel_rfl) (by kernel_rfl) (by kernel_rfl) (fun _ _ _ h => h) (by rfl) (fun w' hS => ?hq33) ?rq33
            case hq33 => go_simp
            simp only [Act.put, List.setIfInBounds_toArray, List.set_cons_zero, List.set_cons_succ]
            refine Reg.chg_all [1, 6] (by kernel_rfl) (by simp) ?_
            intro j0 hj0
            have hj0 : j0 = 1 ∨ j0 = 6 := by simpa using hj0
            rcases hj0 with rfl | rfl
            · left
              have hal : Below W0.heap.size W0 (W0.alloc (.cells #[.string ⟨#[65]⟩, .string ⟨#[66]⟩] 9)) := (Below.refl _ _).alloc (Nat.le_refl _) _
              have hsl := Blk.new W0 9 #[.string ⟨#[65]⟩, .string ⟨#[66]⟩]
              refine ⟨_, _, _, _, _, _, .slice (some ⟨W0.heap.size, 0, none⟩) 2 2, W0.alloc (.cells #[.string ⟨#[65]⟩, .string ⟨#[66]⟩] 9), rfl, by rfl, by go_simp, Chg.of_below hal, ?_⟩
              simp only [Act.put, List.setIfInBounds_toArray, List.set_cons_zero, List.set_cons_succ]
              have HOF1 := Lib.hid (show ¬ AT r v W0.heap.size from fun x => by have := HRW.out.own_lt (at_ro x); omega)
              replace HRW := Lib.hid (HRW.out.below hal)
              replace HBW := Lib.hid (HBW.out.trans (hal.mono (Nat.le_trans (Nat.le_of_eq EB.out) HBW.out.size)))
              replace HQW := Lib.hid (HQW.out.below hal)
              obtain ⟨Wa, eWa⟩ : ∃ Wa, Wa = W0.alloc (.cells #[.string ⟨#[65]⟩, .string ⟨#[66]⟩] 9) := ⟨_, rfl⟩
              obtain ⟨s1, es1⟩ : ∃ s1, s1 = W0.heap.size := ⟨_, rfl⟩
              rw [← eWa] at HRW HBW HQW hsl ⊢
              rw [← es1] at HOF1 hsl ⊢
              have HSL1 := Lib.hid (show Wa.cell? ⟨s1, cm, none⟩ = some (.string ⟨(qF j).1.toArray⟩) from by rw [hsl.cell]; exact HLK1.out)
              have HLT1 := Lib.hid hsl.lt
              clear hal hsl eWa es1
              refine Reg.chg_take 4 (v := .pointer (some ⟨s1, cm, none⟩)) rfl (by kernel_rfl) (by kernel_rfl) (by kernel_rfl) (fun _ _ _ h => h) (by rfl) (fun w' hS => ?hq34) ?rq34
              case hq34 => have h1 := HIX1.out; have h2 := HIZ1.out; go_simp
              simp only [Act.put, List.setIfInBounds_toArray, List.set_cons_zero, List.set_cons_succ]
              refine Reg.chg_take 5 (v := .string ⟨(qF j).1.toArray⟩) rfl (by kernel_rfl) (by kernel_rfl) (by kernel_rfl) (fun _ _ _ h => h) (by rfl) (fun w' hS => ?hq35) ?rq35
              case hq35 => have h1 := (chg_cell hS HLT1.out HOF1.out).trans HSL1.out; go_simp
              simp only [Act.put, List.setIfInBounds_toArray, List.set_cons_zero, List.set_cons_succ]
              refine Reg.chg_all [6] (by kernel_rfl) (by simp) ?_
              intro j0 hj0
              obtain rfl : j0 = 6 := by simpa using hj0
              clear hj0
              left
              have hal : Below Wa.heap.size Wa (Wa.alloc (.cells #[.string ⟨#[120]⟩, .string ⟨#[121]⟩] 9)) := (Below.refl _ _).alloc (Nat.le_refl _) _
              have hsl := Blk.new Wa 9 #[.string ⟨#[120]⟩, .string ⟨#[121]⟩]
              refine ⟨_, _, _, _, _, _, .slice (some ⟨Wa.heap.size, 0, none⟩) 2 2, Wa.alloc (.cells #[.string ⟨#[120]⟩, .string ⟨#[121]⟩] 9), rfl, by rfl, by go_simp, Chg.of_below hal, ?_⟩
              simp only [Act.put, List.setIfInBounds_toArray, List.set_cons_zero, List.set_cons_succ]
              have HOF6 := Lib.hid (show ¬ AT r v Wa.heap.size from fun x => by have := HRW.out.own_lt (at_ro x); omega)
              replace HRW := Lib.hid (HRW.out.below hal)
              replace HBW := Lib.hid (HBW.out.trans (hal.mono (Nat.le_trans (Nat.le_of_eq EB.out) HBW.out.size)))
              replace HQW := Lib.hid (HQW.out.below hal)
              obtain ⟨Wb, eWb⟩ : ∃ Wb, Wb = Wa.alloc (.cells #[.string ⟨#[120]⟩, .string ⟨#[121]⟩] 9) := ⟨_, rfl⟩
              obtain ⟨s6, es6⟩ : ∃ s6, s6 = Wa.heap.size := ⟨_, rfl⟩
              rw [← eWb] at HRW HBW HQW hsl ⊢
              rw [← es6] at HOF6 hsl ⊢
              have HSL6 := Lib.hid (show Wb.cell? ⟨s6, cd, none⟩ = some (.string ⟨(qF j).2.toArray⟩) from by rw [hsl.cell]; exact HLK6.out)
              have HLT6 := Lib.hid hsl.lt
              clear hal hsl eWb es6
              refine Reg.chg_take 9 (v := .pointer (some ⟨s6, cd, none⟩)) rfl (by kernel_rfl) (by kernel_rfl) (by kernel_rfl) (fun _ _ _ h => h) (by rfl) (fun w' hS => ?hq36) ?rq36
              case hq36 => have h1 := HIX6.out; have h2 := HIZ6.out; go_simp
              simp only [Act.put, List.setIfInBounds_toArray, List.set_cons_zero, List.set_cons_succ]
              refine Reg.chg_take 10 (v := .string ⟨(qF j).2.toArray⟩) rfl (by kernel_rfl) (by kernel_rfl) (by kernel_rfl) (fun _ _ _ h => h) (by rfl) (fun w' hS => ?hq37) ?rq37
              case hq37 => have h1 := (chg_cell hS HLT6.out HOF6.out).trans HSL6.out; go_simp
              simp only [Act.put, List.setIfInBounds_toArray, List.set_cons_zero, List.set_cons_succ]
              refine Reg.chg_take 11 (v := .agg #[.string ⟨(qF j).1.toArray⟩, .string ⟨(qF j).2.toArray⟩]) rfl (by kernel_rfl) (by kernel_rfl) (by kernel_rfl) (fun _ _ _ h => h) (by rfl) (fun w' hS => ?hq38) ?rq38
              case hq38 => go_simp
              simp only [Act.put, List.setIfInBounds_toArray, List.set_cons_zero, List.set_cons_succ]
              refine Reg.chg_all [12] (by kernel_rfl) (by simp) ?_
              intro j0 hj0
              obtain rfl : j0 = 12 := by simpa using hj0
              clear hj0
              right
              refine ⟨_, _, _, _, _, _, 12, #[.pointer (some ⟨r, 0, none⟩), prV (qF j)], rfl, by rfl, by go_simp, ?_⟩
              refine Calls.mono (CA2.out _ HRW.out) ?_
              rintro e w3 ⟨q, rfl, hb3⟩
              have HB3 := Lib.hid (HBW.out.trans (hb3.mono (Nat.le_trans (Nat.le_of_eq EB.out) HBW.out.size)))
              have HQ3 := Lib.hid (HQW.out.below hb3)
              have HRG3 := Lib.hid (HRW.out.below hb3)
              refine ⟨_, rfl, Chg.of_below hb3, ?_⟩
              clear hb3 CA2
              simp only [Act.put, List.setIfInBounds_toArray, List.set_cons_zero, List.set_cons_succ]
              refine Reg.chg_take 13 (v := ?vq39) rfl (by kernel_rfl) (by kernel_rfl) (by kernel_rfl) (fun _ _ _ h => h) (by rfl) (fun w' hS => ?hq39) ?rq39
              case hq39 => go_simp; rfl
              simp only [Act.put, List.setIfInBounds_toArray, List.set_cons_zero, List.set_cons_succ]
              refine Reg.chg_take 14 (v := ?vq40) rfl (by kernel_rfl) (by kernel_rfl) (by kernel_rfl) (fun _ _ _ h => h) (by rfl) (fun w' hS => ?hq40) ?rq40
              case hq40 => go_simp; rfl
              simp only [Act.put, List.setIfInBounds_toArray, List.set_cons_zero, List.set_cons_succ]
              refine Reg.chg_take 15 (v := ?vq41) rfl (by kernel_rfl) (by kernel_rfl) (by kernel_rfl) (fun _ _ _ h => h) (by rfl) (fun w' hS => ?hq41) ?rq41
              case hq41 => go_simp; rfl
              simp only [Act.put, List.setIfInBounds_toArray, List.set_cons_zero, List.set_cons_succ]
              refine Reg.chg_take 16 (v := ?vq42) rfl (by kernel_rfl) (by kernel_rfl) (by kernel_rfl) (fun _ _ _ h => h) (by rfl) (fun w' hS => ?hq42) ?rq42
              case hq42 => go_simp; rfl
              simp only [Act.put, List.setIfInBounds_toArray, List.set_cons_zero, List.set_cons_succ]
              refine Reg.chg_take 17 (v := ?vq43) rfl (by kernel_rfl) (by kernel_rfl) (by kernel_rfl) (fun _ _ _ h => h) (by rfl) (fun w' hS => ?hq43) ?rq43
              case hq43 => go_simp; rfl
              simp only [Act.put, List.setIfInBounds_toArray, List.set_cons_zero, List.set_cons_succ]
              refine Reg.chg_take 18 (v := ?vq44) rfl (by kernel_rfl) (by kernel_rfl) (by kernel_rfl) (fun _ _ _ h => h) (by rfl) (fun w' hS => ?hq44) ?rq44
              case hq44 => go_simp; rfl
              simp only [Act.put, List.setIfInBounds_toArray, List.set_cons_zero, List.set_cons_succ]
              refine Reg.chg_take 19 (v := ?vq45) rfl (by kernel_rfl) (by kernel_rfl) (by kernel_rfl) (fun _ _ _ h => h) (by rfl) (fun w' hS => ?hq45) ?rq45
              case hq45 => go_simp; rfl
              simp only [Act.put, List.setIfInBounds_toArray, List.set_cons_zero, List.set_cons_succ]
              refine wpAnyH_done (by kernel_rfl) ?_ _
              have kq : w3.cell? ⟨Q, j, none⟩ = some (.int .i64 (av : Int)) := by rw [HQ3.out.cell]; exact HCQ.out
              have c0 : (0 : Int) ≤ (j : Int) := by omega
              have c4 : (j : Int) < 4 := by have := HC4.out; omega
              have a9 : (av : Int) ≤ 40 := HAV.out
              clear HRW HBW HQW HOF1 HOF6 HSL1 HSL6 HLT1 HLT6
              go_wp2
              go_roundw
              case rel => exact ⟨j + 1, by omega, by go_num, HB3.out, HRG3.out, HQ3.out⟩
              case measure => simp [intOf]; omega
            · left
              have hal : Below W0.heap.size W0 (W0.alloc (.cells #[.string ⟨#[120]⟩, .string ⟨#[121]⟩] 9)) := (Below.refl _ _).alloc (Nat.le_refl _) _
              have hsl := Blk.new W0 9 #[.string ⟨#[120]⟩, .string ⟨#[121]⟩]
              refine ⟨_, _, _, _, _, _, .slice (some ⟨W0.heap.size, 0, none⟩) 2 2, W0.alloc (.cells #[.string ⟨#[120]⟩, .string ⟨#[121]⟩] 9), rfl, by rfl, by go_simp, Chg.of_below hal, ?_⟩
              simp only [Act.put, List.setIfInBounds_toArray, List.set_cons_zero, List.set_cons_succ]
              have HOF6 := Lib.hid (show ¬ AT r v W0.heap.size from fun x => by have := HRW.out.own_lt (at_ro x); omega)
              replace HRW := Lib.hid (HRW.out.below hal)
              replace HBW := Lib.hid (HBW.out.trans (hal.mono (Nat.le_trans (Nat.le_of_eq EB.out) HBW.out.size)))
              replace HQW := Lib.hid (HQW.out.below hal)
              obtain ⟨Wa, eWa⟩ : ∃ Wa, Wa = W0.alloc (.cells #[.string ⟨#[120]⟩, .string ⟨#[121]⟩] 9) := ⟨_, rfl⟩
              obtain ⟨s6, es6⟩ : ∃ s6, s6 = W0.heap.size := ⟨_, rfl⟩
              rw [← eWa] at HRW HBW HQW hsl ⊢
              rw [← es6] at HOF6 hsl ⊢
              have HSL6 := Lib.hid (show Wa.cell? ⟨s6, cd, none⟩ = some (.string ⟨(qF j).2.toArray⟩) from by rw [hsl.cell]; exact HLK6.out)
              have HLT6 := Lib.hid hsl.lt
              clear hal hsl eWa es6
              refine Reg.chg_take 9 (v := .pointer (some ⟨s6, cd, none⟩)) rfl (by kernel_rfl) (by kernel_rfl) (by kernel_rfl) (fun _ _ _ h => h) (by rfl) (fun w' hS => ?hq46) ?rq46
              case hq46 => have h1 := HIX6.out; have h2 := HIZ6.out; go_simp
              simp only [Act.put, List.setIfInBounds_toArray, List.set_cons_zero, List.set_cons_succ]
              refine Reg.chg_take 10 (v := .string ⟨(qF j).2.toArray⟩) rfl (by kernel_rfl) (by kernel_rfl) (by kernel_rfl) (fun _ _ _ h => h) (by rfl) (fun w' hS => ?hq47) ?rq47
              case hq47 => have h1 := (chg_cell hS HLT6.out HOF6.out).trans HSL6.out; go_simp
              simp only [Act.put, List.setIfInBounds_toArray, List.set_cons_zero, List.set_cons_succ]
              refine Reg.chg_all [1] (by kernel_rfl) (by simp) ?_
              intro j0 hj0
              obtain rfl : j0 = 1 := by simpa using hj0
              clear hj0
              left
              have hal : Below Wa.heap.size Wa (Wa.alloc (.cells #[.string ⟨#[65]⟩, .string ⟨#[66]⟩] 9)) := (Below.refl _ _).alloc (Nat.le_refl _) _
              have hsl := Blk.new Wa 9 #[.string ⟨#[65]⟩, .string ⟨#[66]⟩]
              refine ⟨_, _, _, _, _, _, .slice (some ⟨Wa.heap.size, 0, none⟩) 2 2, Wa.alloc (.cells #[.string ⟨#[65]⟩, .string ⟨#[66]⟩] 9), rfl, by rfl, by go_simp, Chg.of_below hal, ?_⟩
              simp only [Act.put, List.setIfInBounds_toArray, List.set_cons_zero, List.set_cons_succ]
              have HOF1 := Lib.hid (show ¬ AT r v Wa.heap.size from fun x => by have := HRW.out.own_lt (at_ro x); omega)
              replace HRW := Lib.hid (HRW.out.below hal)
              replace HBW := Lib.hid (HBW.out.trans (hal.mono (Nat.le_trans (Nat.le_of_eq EB.out) HBW.out.size)))
              replace HQW := Lib.hid (HQW.out.below hal)
              obtain ⟨Wb, eWb⟩ : ∃ Wb, Wb = Wa.alloc (.cells #[.string ⟨#[65]⟩, .string ⟨#[66]⟩] 9) := ⟨_, rfl⟩
              obtain ⟨s1, es1⟩ : ∃ s1, s1 = Wa.heap.size := ⟨_, rfl⟩
              rw [← eWb] at HRW HBW HQW hsl ⊢
              rw [← es1] at HOF1 hsl ⊢
              have HSL1 := Lib.hid (show Wb.cell? ⟨s1, cm, none⟩ = some (.string ⟨(qF j).1.toArray⟩) from by rw [hsl.cell]; exact HLK1.out)
              have HLT1 := Lib.hid hsl.lt
              clear hal hsl eWb es1
              refine Reg.chg_take 4 (v := .pointer (some ⟨s1, cm, none⟩)) rfl (by kernel_rfl) (by kernel_rfl) (by kernel_rfl) (fun _ _ _ h => h) (by rfl) (fun w' hS => ?hq48) ?rq48
              case hq48 => have h1 := HIX1.out; have h2 := HIZ1.out; go_simp
              simp only [Act.put, List.setIfInBounds_toArray, List.set_cons_zero, List.set_cons_succ]
              refine Reg.chg_take 5 (v := .string ⟨(qF j).1.toArray⟩) rfl (by kernel_rfl) (by kernel_rfl) (by kernel_rfl) (fun _ _ _ h => h) (by rfl) (fun w' hS => ?hq49) ?rq49
              case hq49 => have h1 := (chg_cell hS HLT1.out HOF1.out).trans HSL1.out; go_simp
              simp only [Act.put, List.setIfInBounds_toArray, List.set_cons_zero, List.set_cons_succ]
              refine Reg.chg_take 11 (v := .agg #[.string ⟨(qF j).1.toArray⟩, .string ⟨(qF j).2.toArray⟩]) rfl (by kernel_rfl) (by kernel_rfl) (by kernel_rfl) (fun _ _ _ h => h) (by rfl) (fun w' hS => ?hq50) ?rq50
              case hq50 => go_simp
              simp only [Act.put, List.setIfInBounds_toArray, List.set_cons_zero, List.set_cons_succ]
              refine Reg.chg_all [12] (by kernel_rfl) (by simp) ?_
              intro j0 hj0
              obtain rfl : j0 = 12 := by simpa using hj0
              clear hj0
              right
              refine ⟨_, _, _, _, _, _, 12, #[.pointer (some ⟨r, 0, none⟩), prV (qF j)], rfl, by rfl, by go_simp, ?_⟩
              refine Calls.mono (CA2.out _ HRW.out) ?_
              rintro e w3 ⟨q, rfl, hb3⟩
              have HB3 := Lib.hid (HBW.out.trans (hb3.mono (Nat.le_trans (Nat.le_of_eq EB.out) HBW.out.size)))
              have HQ3 := Lib.hid (HQW.out.below hb3)
              have HRG3 := Lib.hid (HRW.out.below hb3)
              refine ⟨_, rfl, Chg.of_below hb3, ?_⟩
              clear hb3 CA2
              simp only [Act.put, List.setIfInBounds_toArray, List.set_cons_zero, List.set_cons_succ]
              refine Reg.chg_take 13 (v := ?vq51) rfl (by kernel_rfl) (by kernel_rfl) (by kernel_rfl) (fun _ _ _ h => h) (by rfl) (fun w' hS => ?hq51) ?rq51
              case hq51 => go_simp; rfl
              simp only [Act.put, List.setIfInBounds_toArray, List.set_cons_zero, List.set_cons_succ]
              refine Reg.chg_take 14 (v := ?vq52) rfl (by kernel_rfl) (by kernel_rfl) (by kernel_rfl) (fun _ _ _ h => h) (by rfl) (fun w' hS => ?hq52) ?rq52
              case hq52 => go_simp; rfl
              simp only [Act.put, List.setIfInBounds_toArray, List.set_cons_zero, List.set_cons_succ]
              refine Reg.chg_take 15 (v := ?vq53) rfl (by kernel_rfl) (by kernel_rfl) (by kernel_rfl) (fun _ _ _ h => h) (by rfl) (fun w' hS => ?hq53) ?rq53
              case hq53 => go_simp; rfl
              simp only [Act.put, List.setIfInBounds_toArray, List.set_cons_zero, List.set_cons_succ]
              refine Reg.chg_take 16 (v := ?vq54) rfl (by kernel_rfl) (by kernel_rfl) (by kernel_rfl) (fun _ _ _ h => h) (by rfl) (fun w' hS => ?hq54) ?rq54
              case hq54 => go_simp; rfl
              simp only [Act.put, List.setIfInBounds_toArray, List.set_cons_zero, List.set_cons_succ]
              refine Reg.chg_take 17 (v := ?vq55) rfl (by kernel_rfl) (by kernel_rfl) (by kernel_rfl) (fun _ _ _ h => h) (by rfl) (fun w' hS => ?hq55) ?rq55
              case hq55 => go_simp; rfl
              simp only [Act.put, List.setIfInBounds_toArray, List.set_cons_zero, List.set_cons_succ]
              refine Reg.chg_take 18 (v := ?vq56) rfl (by kernel_rfl) (by kernel_rfl) (by kernel_rfl) (fun _ _ _ h => h) (by rfl) (fun w' hS => ?hq56) ?rq56
              case hq56 => go_simp; rfl
              simp only [Act.put, List.setIfInBounds_toArray, List.set_cons_zero, List.set_cons_succ]
              refine Reg.chg_take 19 (v := ?vq57) rfl (by kernel_rfl) (by kernel_rfl) (by kernel_rfl) (fun _ _ _ h => h) (by rfl) (fun w' hS => ?hq57) ?rq57
              case hq57 => go_simp; rfl
              simp only [Act.put, List.setIfInBounds_toArray, List.set_cons_zero, List.set_cons_succ]
              refine wpAnyH_done (by kernel_rfl) ?_ _
              have kq : w3.cell? ⟨Q, j, none⟩ = some (.int .i64 (av : Int)) := by rw [HQ3.out.cell]; exact HCQ.out
              have c0 : (0 : Int) ≤ (j : Int) := by omega
              have c4 : (j : Int) < 4 := by have := HC4.out; omega
              have a9 : (av : Int) ≤ 40 := HAV.out
              clear HRW HBW HQW HOF1 HOF6 HSL1 HSL6 HLT1 HLT6
              go_wp2
              go_roundw
              case rel => exact ⟨j + 1, by omega, by go_num, HB3.out, HRG3.out, HQ3.out⟩
              case measure => simp [intOf]; omega
          · have ca := fun w2 (h : Ring w2 B r v es) => lastp_zero h (by have := HEL.out; omega) HNUM.out (show lastN (its es) (qF j) = 0 by rw [← HEAV.out]; omega)
            have CA2 := Lib.hid ca
            obtain rfl : av = 0 := by omega
            clear ca hpos
            go_wp2
            refine Reg.chg_begin (AT r v) 20 rfl (by kernel_rfl) ?_
            have HRW := Lib.hid (show Ring wr.drew B r v es from HRG.out.drew)
            have HBW := Lib.hid (show Below B w wr.drew from below_drewN HB.out 1)
            have HQW := Lib.hid (show Blk wr.drew Q 52 (nCs (its es)) from HQ.out.drewN 1)
            obtain ⟨W0, eW0⟩ : ∃ W0, W0 = wr.drew := ⟨_, rfl⟩
            rw [← eW0] at HRW HBW HQW ⊢
            clear eW0
            refine Reg.chg_take 0 (v := ?vzq29) rfl (by kernel_rfl) (by kernel_rfl) (by kernel_rfl) (fun _ _ _ h => h) (by rfl) (fun w' hS => ?hzq29) ?rzq29
            case hzq29 => go_simp; rfl
            simp only [Act.put, List.setIfInBounds_toArray, List.set_cons_zero, List.set_cons_succ]
            refine Reg.chg_take 2 (v := ?vzq30) rfl (by kernel_rfl) (by kernel_rfl) (by kernel_rfl) (fun _ _ _ h => h) (by rfl) (fun w' hS => ?hzq30) ?rzq30
            case hzq30 => go_simp; rfl
            simp only [Act.put, List.setIfInBounds_toArray, List.set_cons_zero, List.set_cons_succ]
            refine Reg.chg_take 3 (v := .int .i64 (cm : Int)) rfl (by kernel_rfl) (by kernel_rfl) (by kernel_rfl) (fun _ _ _ h => h) (by rfl) (fun w' hS => ?hzq31) ?rzq31
            case hzq31 => go_simp
            simp only [Act.put, List.setIfInBounds_toArray, List.set_cons_zero, List.set_cons_succ]
            refine Reg.chg_take 7 (v := ?vzq32) rfl (by kernel_rfl) (by kernel_rfl) (by kernel_rfl) (fun _ _ _ h => h) (by rfl) (fun w' hS => ?hzq32) ?rzq32
            case hzq32 => go_simp; rfl
            simp only [Act.put, List.setIfInBounds_toArray, List.set_cons_zero, List.set_cons_succ]
            refine Reg.chg_take 8 (v := .int .i64 (cd : Int)) rfl (by kernel_rfl) (by kernel_rfl) (by kernel_rfl) (fun _ _ _ h => h) (by rfl) (fun w' hS => ?hzq33) ?rzq33
            case hzq33 => go_simp
            simp only [Act.put, List.setIfInBounds_toArray, List.set_cons_zero, List.set_cons_succ]
            refine Reg.chg_all [1, 6] (by kernel_rfl) (by simp) ?_
            intro j0 hj0
            have hj0 : j0 = 1 ∨ j0 = 6 := by simpa using hj0
            rcases hj0 with rfl | rfl
            · left
              have hal : Below W0.heap.size W0 (W0.alloc (.cells #[.string ⟨#[65]⟩, .string ⟨#[66]⟩] 9)) := (Below.refl _ _).alloc (Nat.le_refl _) _
              have hsl := Blk.new W0 9 #[.string ⟨#[65]⟩, .string ⟨#[66]⟩]
              refine ⟨_, _, _, _, _, _, .slice (some ⟨W0.heap.size, 0, none⟩) 2 2, W0.alloc (.cells #[.string ⟨#[65]⟩, .string ⟨#[66]⟩] 9), rfl, by rfl, by go_simp, Chg.of_below hal, ?_⟩
              simp only [Act.put, List.setIfInBounds_toArray, List.set_cons_zero, List.set_cons_succ]
              have HOF1 := Lib.hid (show ¬ AT r v W0.heap.size from fun x => by have := HRW.out.own_lt (at_ro x); omega)
              replace HRW := Lib.hid (HRW.out.below hal)
              replace HBW := Lib.hid (HBW.out.trans (hal.mono (Nat.le_trans (Nat.le_of_eq EB.out) HBW.out.size)))
              replace HQW := Lib.hid (HQW.out.below hal)
              obtain ⟨Wa, eWa⟩ : ∃ Wa, Wa = W0.alloc (.cells #[.string ⟨#[65]⟩, .string ⟨#[66]⟩] 9) := ⟨_, rfl⟩
              obtain ⟨s1, es1⟩ : ∃ s1, s1 = W0.heap.size := ⟨_, rfl⟩
              rw [← eWa] at HRW HBW HQW hsl ⊢
              rw [← es1] at HOF1 hsl ⊢
              have HSL1 := Lib.hid (show Wa.cell? ⟨s1, cm, none⟩ = some (.string ⟨(qF j).1.toArray⟩) from by rw [hsl.cell]; exact HLK1.out)
              have HLT1 := Lib.hid hsl.lt
              clear hal hsl eWa es1
              refine Reg.chg_take 4 (v := .pointer (some ⟨s1, cm, none⟩)) rfl (by kernel_rfl) (by kernel_rfl) (by kernel_rfl) (fun _ _ _ h => h) (by rfl) (fun w' hS => ?hzq34) ?rzq34
              case hzq34 => have h1 := HIX1.out; have h2 := HIZ1.out; go_simp
              simp only [Act.put, List.setIfInBounds_toArray, List.set_cons_zero, List.set_cons_succ]
              refine Reg.chg_take 5 (v := .string ⟨(qF j).1.toArray⟩) rfl (by kernel_rfl) (by kernel_rfl) (by kernel_rfl) (fun _ _ _ h => h) (by rfl) (fun w' hS => ?hzq35) ?rzq35
              case hzq35 => have h1 := (chg_cell hS HLT1.out HOF1.out).trans HSL1.out; go_simp
              simp only [Act.put, List.setIfInBounds_toArray, List.set_cons_zero, List.set_cons_succ]
              refine Reg.chg_all [6] (by kernel_rfl) (by simp) ?_
              intro j0 hj0
              obtain rfl : j0 = 6 := by simpa using hj0
              clear hj0
              left
              have hal : Below Wa.heap.size Wa (Wa.alloc (.cells #[.string ⟨#[120]⟩, .string ⟨#[121]⟩] 9)) := (Below.refl _ _).alloc (Nat.le_refl _) _
              have hsl := Blk.new Wa 9 #[.string ⟨#[120]⟩, .string ⟨#[121]⟩]
              refine ⟨_, _, _, _, _, _, .slice (some ⟨Wa.heap.size, 0, none⟩) 2 2, Wa.alloc (.cells #[.string ⟨#[120]⟩, .string ⟨#[121]⟩] 9), rfl, by rfl, by go_simp, Chg.of_below hal, ?_⟩
              simp only [Act.put, List.setIfInBounds_toArray, List.set_cons_zero, List.set_cons_succ]
              have HOF6 := Lib.hid (show ¬ AT r v Wa.heap.size from fun x => by have := HRW.out.own_lt (at_ro x); omega)
              replace HRW := Lib.hid (HRW.out.below hal)
              replace HBW := Lib.hid (HBW.out.trans (hal.mono (Nat.le_trans (Nat.le_of_eq EB.out) HBW.out.size)))
              replace HQW := Lib.hid (HQW.out.below hal)
              obtain ⟨Wb, eWb⟩ : ∃ Wb, Wb = Wa.alloc (.cells #[.string ⟨#[120]⟩, .string ⟨#[121]⟩] 9) := ⟨_, rfl⟩
              obtain ⟨s6, es6⟩ : ∃ s6, s6 = Wa.heap.size := ⟨_, rfl⟩
              rw [← eWb] at HRW HBW HQW hsl ⊢
              rw [← es6] at HOF6 hsl ⊢
              have HSL6 := Lib.hid (show Wb.cell? ⟨s6, cd, none⟩ = some (.string ⟨(qF j).2.toArray⟩) from by rw [hsl.cell]; exact HLK6.out)
              have HLT6 := Lib.hid hsl.lt
              clear hal hsl eWb es6
              refine Reg.chg_take 9 (v := .pointer (some ⟨s6, cd, none⟩)) rfl (by kernel_rfl) (by kernel_rfl) (by kernel_rfl) (fun _ _ _ h => h) (by rfl) (fun w' hS => ?hzq36) ?rzq36
              case hzq36 => have h1 := HIX6.out; have h2 := HIZ6.out; go_simp
              simp only [Act.put, List.setIfInBounds_toArray, List.set_cons_zero, List.set_cons_succ]
              refine Reg.chg_take 10 (v := .string ⟨(qF j).2.toArray⟩) rfl (by kernel_rfl) (by kernel_rfl) (by kernel_rfl) (fun _ _ _ h => h) (by rfl) (fun w' hS => ?hzq37) ?rzq37
              case hzq37 => have h1 := (chg_cell hS HLT6.out HOF6.out).trans HSL6.out; go_simp
              simp only [Act.put, List.setIfInBounds_toArray, List.set_cons_zero, List.set_cons_succ]
              refine Reg.chg_take 11 (v := .agg #[.string ⟨(qF j).1.toArray⟩, .string ⟨(qF j).2.toArray⟩]) rfl (by kernel_rfl) (by kernel_rfl) (by kernel_rfl) (fun _ _ _ h => h) (by rfl) (fun w' hS => ?hzq38) ?rzq38
              case hzq38 => go_simp
              simp only [Act.put, List.setIfInBounds_toArray, List.set_cons_zero, List.set_cons_succ]
              refine Reg.chg_all [12] (by kernel_rfl) (by simp) ?_
              intro j0 hj0
              obtain rfl : j0 = 12 := by simpa using hj0
              clear hj0
              right
              refine ⟨_, _, _, _, _, _, 12, #[.pointer (some ⟨r, 0, none⟩), prV (qF j)], rfl, by rfl, by go_simp, ?_⟩
              refine Calls.mono (CA2.out _ HRW.out) ?_
              rintro e w3 ⟨rfl, hb3⟩
              have HB3 := Lib.hid (HBW.out.trans (hb3.mono (Nat.le_trans (Nat.le_of_eq EB.out) HBW.out.size)))
              have HQ3 := Lib.hid (HQW.out.below hb3)
              have HRG3 := Lib.hid (HRW.out.below hb3)
              refine ⟨_, rfl, Chg.of_below hb3, ?_⟩
              clear hb3 CA2
              simp only [Act.put, List.setIfInBounds_toArray, List.set_cons_zero, List.set_cons_succ]
              refine Reg.chg_take 13 (v := ?vzq39) rfl (by kernel_rfl) (by kernel_rfl) (by kernel_rfl) (fun _ _ _ h => h) (by rfl) (fun w' hS => ?hzq39) ?rzq39
              case hzq39 => go_simp; rfl
              simp only [Act.put, List.setIfInBounds_toArray, List.set_cons_zero, List.set_cons_succ]
              refine Reg.chg_take 14 (v := ?vzq40) rfl (by kernel_rfl) (by kernel_rfl) (by kernel_rfl) (fun _ _ _ h => h) (by rfl) (fun w' hS => ?hzq40) ?rzq40
              case hzq40 => go_simp; rfl
              simp only [Act.put, List.setIfInBounds_toArray, List.set_cons_zero, List.set_cons_succ]
              refine Reg.chg_take 15 (v := ?vzq41) rfl (by kernel_rfl) (by kernel_rfl) (by kernel_rfl) (fun _ _ _ h => h) (by rfl) (fun w' hS => ?hzq41) ?rzq41
              case hzq41 => go_simp; rfl
              simp only [Act.put, List.setIfInBounds_toArray, List.set_cons_zero, List.set_cons_succ]
              refine Reg.chg_take 16 (v := ?vzq42) rfl (by kernel_rfl) (by kernel_rfl) (by kernel_rfl) (fun _ _ _ h => h) (by rfl) (fun w' hS => ?hzq42) ?rzq42
              case hzq42 => go_simp; rfl
              simp only [Act.put, List.setIfInBounds_toArray, List.set_cons_zero, List.set_cons_succ]
              refine Reg.chg_take 17 (v := ?vzq43) rfl (by kernel_rfl) (by kernel_rfl) (by kernel_rfl) (fun _ _ _ h => h) (by rfl) (fun w' hS => ?hzq43) ?rzq43
              case hzq43 => go_simp; rfl
              simp only [Act.put, List.setIfInBounds_toArray, List.set_cons_zero, List.set_cons_succ]
              refine Reg.chg_take 18 (v := ?vzq44) rfl (by kernel_rfl) (by kernel_rfl) (by kernel_rfl) (fun _ _ _ h => h) (by rfl) (fun w' hS => ?hzq44) ?rzq44
              case hzq44 => go_simp; rfl
              simp only [Act.put, List.setIfInBounds_toArray, List.set_cons_zero, List.set_cons_succ]
              refine Reg.chg_take 19 (v := ?vzq45) rfl (by kernel_rfl) (by kernel_rfl) (by kernel_rfl) (fun _ _ _ h => h) (by rfl) (fun w' hS => ?hzq45) ?rzq45
              case hzq45 => go_simp; rfl
              simp only [Act.put, List.setIfInBounds_toArray, List.set_cons_zero, List.set_cons_succ]
              refine wpAnyH_done (by kernel_rfl) ?_ _
              have kq : w3.cell? ⟨Q, j, none⟩ = some (.int .i64 0) := by rw [HQ3.out.cell]; exact HCQ.out
              have c0 : (0 : Int) ≤ (j : Int) := by omega
              have c4 : (j : Int) < 4 := by have := HC4.out; omega
              have a9 : (0 : Int) ≤ 40 := by decide
              clear HRW HBW HQW HOF1 HOF6 HSL1 HSL6 HLT1 HLT6
              go_wp2
              go_roundw
              case rel => exact ⟨j + 1, by omega, by go_num, HB3.out, HRG3.out, HQ3.out⟩
              case measure => simp [intOf]; omega
            · left
              have hal : Below W0.heap.size W0 (W0.alloc (.cells #[.string ⟨#[120]⟩, .string ⟨#[121]⟩] 9)) := (Below.refl _ _).alloc (Nat.le_refl _) _
              have hsl := Blk.new W0 9 #[.string ⟨#[120]⟩, .string ⟨#[121]⟩]
              refine ⟨_, _, _, _, _, _, .slice (some ⟨W0.heap.size, 0, none⟩) 2 2, W0.alloc (.cells #[.string ⟨#[120]⟩, .string ⟨#[121]⟩] 9), rfl, by rfl, by go_simp, Chg.of_below hal, ?_⟩
              simp only [Act.put, List.setIfInBounds_toArray, List.set_cons_zero, List.set_cons_succ]
              have HOF6 := Lib.hid (show ¬ AT r v W0.heap.size from fun x => by have := HRW.out.own_lt (at_ro x); omega)
              replace HRW := Lib.hid (HRW.out.below hal)
              replace HBW := Lib.hid (HBW.out.trans (hal.mono (Nat.le_trans (Nat.le_of_eq EB.out) HBW.out.size)))
              replace HQW := Lib.hid (HQW.out.below hal)
              obtain ⟨Wa, eWa⟩ : ∃ Wa, Wa = W0.alloc (.cells #[.string ⟨#[120]⟩, .string ⟨#[121]⟩] 9) := ⟨_, rfl⟩
              obtain ⟨s6, es6⟩ : ∃ s6, s6 = W0.heap.size := ⟨_, rfl⟩
              rw [← eWa] at HRW HBW HQW hsl ⊢
              rw [← es6] at HOF6 hsl ⊢
              have HSL6 := Lib.hid (show Wa.cell? ⟨s6, cd, none⟩ = some (.string ⟨(qF j).2.toArray⟩) from by rw [hsl.cell]; exact HLK6.out)
              have HLT6 := Lib.hid hsl.lt
              clear hal hsl eWa es6
              refine Reg.chg_take 9 (v := .pointer (some ⟨s6, cd, none⟩)) rfl (by kernel_rfl) (by kernel_rfl) (by kernel_rfl) (fun _ _ _ h => h) (by rfl) (fun w' hS => ?hzq46) ?rzq46
              case hzq46 => have h1 := HIX6.out; have h2 := HIZ6.out; go_simp
              simp only [Act.put, List.setIfInBounds_toArray, List.set_cons_zero, List.set_cons_succ]
              refine Reg.chg_take 10 (v := .string ⟨(qF j).2.toArray⟩) rfl (by kernel_rfl) (by kernel_rfl) (by kernel_rfl) (fun _ _ _ h => h) (by rfl) (fun w' hS => ?hzq47) ?rzq47
              case hzq47 => have h1 := (chg_cell hS HLT6.out HOF6.out).trans HSL6.out; go_simp
              simp only [Act.put, List.setIfInBounds_toArray, List.set_cons_zero, List.set_cons_succ]
              refine Reg.chg_all [1] (by kernel_rfl) (by simp) ?_
              intro j0 hj0
              obtain rfl : j0 = 1 := by simpa using hj0
              clear hj0
              left
              have hal : Below Wa.heap.size Wa (Wa.alloc (.cells #[.string ⟨#[65]⟩, .string ⟨#[66]⟩] 9)) := (Below.refl _ _).alloc (Nat.le_refl _) _
              have hsl := Blk.new Wa 9 #[.string ⟨#[65]⟩, .string ⟨#[66]⟩]
              refine ⟨_, _, _, _, _, _, .slice (some ⟨Wa.heap.size, 0, none⟩) 2 2, Wa.alloc (.cells #[.string ⟨#[65]⟩, .string ⟨#[66]⟩] 9), rfl, by rfl, by go_simp, Chg.of_below hal, ?_⟩
              simp only [Act.put, List.setIfInBounds_toArray, List.set_cons_zero, List.set_cons_succ]
              have HOF1 := Lib.hid (show ¬ AT r v Wa.heap.size from fun x => by have := HRW.out.own_lt (at_ro x); omega)
              replace HRW := Lib.hid (HRW.out.below hal)
              replace HBW := Lib.hid (HBW.out.trans (hal.mono (Nat.le_trans (Nat.le_of_eq EB.out) HBW.out.size)))
              replace HQW := Lib.hid (HQW.out.below hal)
              obtain ⟨Wb, eWb⟩ : ∃ Wb, Wb = Wa.alloc (.cells #[.string ⟨#[65]⟩, .string ⟨#[66]⟩] 9) := ⟨_, rfl⟩
              obtain ⟨s1, es1⟩ : ∃ s1, s1 = Wa.heap.size := ⟨_, rfl⟩
              rw [← eWb] at HRW HBW HQW hsl ⊢
              rw [← es1] at HOF1 hsl ⊢
              have HSL1 := Lib.hid (show Wb.cell? ⟨s1, cm, none⟩ = some (.string ⟨(qF j).1.toArray⟩) from by rw [hsl.cell]; exact HLK1.out)
              have HLT1 := Lib.hid hsl.lt
              clear hal hsl eWb es1
              refine Reg.chg_take 4 (v := .pointer (some ⟨s1, cm, none⟩)) rfl (by kernel_rfl) (by kernel_rfl) (by kernel_rfl) (fun _ _ _ h => h) (by rfl) (fun w' hS => ?hzq48) ?rzq48
              case hzq48 => have h1 := HIX1.out; have h2 := HIZ1.out; go_simp
              simp only [Act.put, List.setIfInBounds_toArray, List.set_cons_zero, List.set_cons_succ]
              refine Reg.chg_take 5 (v := .string ⟨(qF j).1.toArray⟩) rfl (by kernel_rfl) (by kernel_rfl) (by kernel_rfl) (fun _ _ _ h => h) (by rfl) (fun w' hS => ?hzq49) ?rzq49
              case hzq49 => have h1 := (chg_cell hS HLT1.out HOF1.out).trans HSL1.out; go_simp
              simp only [Act.put, List.setIfInBounds_toArray, List.set_cons_zero, List.set_cons_succ]
              refine Reg.chg_take 11 (v := .agg #[.string ⟨(qF j).1.toArray⟩, .string ⟨(qF j).2.toArray⟩]) rfl (by kernel_rfl) (by kernel_rfl) (by kernel_rfl) (fun _ _ _ h => h) (by rfl) (fun w' hS => ?hzq50) ?rzq50
              case hzq50 => go_simp
              simp only [Act.put, List.setIfInBounds_toArray, List.set_cons_zero, List.set_cons_succ]
              refine Reg.chg_all [12] (by kernel_rfl) (by simp) ?_
              intro j0 hj0
              obtain rfl : j0 = 12 := by simpa using hj0
              clear hj0
              right
              refine ⟨_, _, _, _, _, _, 12, #[.pointer (some ⟨r, 0, none⟩), prV (qF j)], rfl, by rfl, by go_simp, ?_⟩
              refine Calls.mono (CA2.out _ HRW.out) ?_
              rintro e w3 ⟨rfl, hb3⟩
              have HB3 := Lib.hid (HBW.out.trans (hb3.mono (Nat.le_trans (Nat.le_of_eq EB.out) HBW.out.size)))
              have HQ3 := Lib.hid (HQW.out.below hb3)
              have HRG3 := Lib.hid (HRW.out.below hb3)
              refine ⟨_, rfl, Chg.of_below hb3, ?_⟩
              clear hb3 CA2
              simp only [Act.put, List.setIfInBounds_toArray, List.set_cons_zero, List.set_cons_succ]
              refine Reg.chg_take 13 (v := ?vzq51) rfl (by kernel_rfl) (by kernel_rfl) (by kernel_rfl) (fun _ _ _ h => h) (by rfl) (fun w' hS => ?hzq51) ?rzq51
              case hzq51 => go_simp; rfl
              simp only [Act.put, List.setIfInBounds_toArray, List.set_cons_zero, List.set_cons_succ]
              refine Reg.chg_take 14 (v := ?vzq52) rfl (by kernel_rfl) (by kernel_rfl) (by kernel_rfl) (fun _ _ _ h => h) (by rfl) (fun w' hS => ?hzq52) ?rzq52
              case hzq52 => go_simp; rfl
              simp only [Act.put, List.setIfInBounds_toArray, List.set_cons_zero, List.set_cons_succ]
              refine Reg.chg_take 15 (v := ?vzq53) rfl (by kernel_rfl) (by kernel_rfl) (by kernel_rfl) (fun _ _ _ h => h) (by rfl) (fun w' hS => ?hzq53) ?rzq53
              case hzq53 => go_simp; rfl
              simp only [Act.put, List.setIfInBounds_toArray, List.set_cons_zero, List.set_cons_succ]
              refine Reg.chg_take 16 (v := ?vzq54) rfl (by kernel_rfl) (by kernel_rfl) (by kernel_rfl) (fun _ _ _ h => h) (by rfl) (fun w' hS => ?hzq54) ?rzq54
              case hzq54 => go_simp; rfl
              simp only [Act.put, List.setIfInBounds_toArray, List.set_cons_zero, List.set_cons_succ]
              refine Reg.chg_take 17 (v := ?vzq55) rfl (by kernel_rfl) (by kernel_rfl) (by kernel_rfl) (fun _ _ _ h => h) (by rfl) (fun w' hS => ?hzq55) ?rzq55
              case hzq55 => go_simp; rfl
              simp only [Act.put, List.setIfInBounds_toArray, List.set_cons_zero, List.set_cons_succ]
              refine Reg.chg_take 18 (v := ?vzq56) rfl (by kernel_rfl) (by kernel_rfl) (by kernel_rfl) (fun _ _ _ h => h) (by rfl) (fun w' hS => ?hzq56) ?rzq56
              case hzq56 => go_simp; rfl
              simp only [Act.put, List.setIfInBounds_toArray, List.set_cons_zero, List.set_cons_succ]
              refine Reg.chg_take 19 (v := ?vzq57) rfl (by kernel_rfl) (by kernel_rfl) (by kernel_rfl) (fun _ _ _ h => h) (by rfl) (fun w' hS => ?hzq57) ?rzq57
              case hzq57 => go_simp; rfl
              simp only [Act.put, List.setIfInBounds_toArray, List.set_cons_zero, List.set_cons_succ]
              refine wpAnyH_done (by kernel_rfl) ?_ _
              have kq : w3.cell? ⟨Q, j, none⟩ = some (.int .i64 0) := by rw [HQ3.out.cell]; exact HCQ.out
              have c0 : (0 : Int) ≤ (j : Int) := by omega
              have c4 : (j : Int) < 4 := by have := HC4.out; omega
              have a9 : (0 : Int) ≤ 40 := by decide
              clear HRW HBW HQW HOF1 HOF6 HSL1 HSL6 HLT1 HLT6
              go_wp2
              go_roundw
              case rel => exact ⟨j + 1, by omega, by go_num, HB3.out, HRG3.out, HQ3.out⟩
              case measure => simp [intOf]; omega
        · have e1 : decide ((j : Int) < 4) = false := by simp; omega
          have hbe := HB.out
          go_wp2_with (first
            | (go_at_call 15; refine Calls.mono (CK.out _) ?_; rintro e w8 ⟨rfl, hb⟩; clear CK; have HBE := Lib.hid (HB.out.trans (hb.mono (Nat.le_trans (Nat.le_of_eq EB.out) HB.out.size))); clear hb)
            | fail)
          go_ret
          exact ⟨rfl, by rw [← EB.out]; exact HBE.out⟩
set_option maxRecDepth 100000 in
theorem numbers (A : Option Addr) (zs : List Int) (c : Nat) (w : World) (hr : Rd w w.heap.size A (zs.map (Value.int .i64))) : Calls Try.prog 6 #[.slice A zs.length c] w fun e w' => e = .returned (.bool true) ∧ Below w.heap.size w w' := by
  by_cases hx : zs.length ≤ 40
  · exact numbers_yes A zs c w hr hx
  · have HB := Lib.hid (Below.refl w.heap.size w)
    obtain ⟨n, en⟩ : ∃ n, n = zs.length := ⟨_, rfl⟩
    rw [← en] at hx ⊢
    have t2 : (40 : Int) < (n : Int) := by omega
    clear hr en hx
    go_enter Try.func6, Try.ntmps6
    go_wp2
    go_ret
    exact ⟨rfl, HB.out⟩
end Go.Proofs.Ytcjibpjdfhhhkaa.Rg
end
