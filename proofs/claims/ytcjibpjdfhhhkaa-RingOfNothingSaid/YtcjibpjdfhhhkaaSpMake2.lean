/-
  The words of a Key are made, by the code's schedule.
-/
import Derived.Test.YtcjibpjdfhhhkaaSpMake
import Derived.Deep.RegionHeld3
import Derived.Deep.Cut
import Derived.Deep.CutRange
import Derived.Deep.CutBlock
import Derived.Deep.MidRow
import Derived.StillTailTactics
set_option linter.unusedVariables false
namespace Go.Proofs.Ytcjibpjdfhhhkaa.Sp
open Go.RowKit Go.Proofs.Ytcjibpjdfhhhkaa.Mem

def wordsTo (ks : Nat → UInt8) (i j : Nat) : Wd := if j ≤ i then kw ks j else 0
theorem word_k {w : World} {b : Nat} {ks : Nat → UInt8} {d s m : Int} {W : Nat → Wd} (hK : KB w b ks d s m W) (i n c : Nat) (hi : i < 4) (hn : 4 ≤ n) :
    Calls Try.prog 77 #[.slice (some ⟨b, 4 * i, none⟩) n c] w fun e w' => e = .returned (wv (kword ks i)) ∧ w' = w.drew :=
  word_any b (4 * i) n c _ _ _ _ w hn (hK.ck _ (by omega)) (hK.ck _ (by omega)) (hK.ck _ (by omega)) (hK.ck _ (by omega))
theorem word_k0 {w : World} {b : Nat} {ks : Nat → UInt8} {d s m : Int} {W : Nat → Wd} (hK : KB w b ks d s m W) :
    Calls Try.prog 77 #[.slice (some ⟨b, 0, none⟩) 16 16] w fun e w' => e = .returned (wv (kword ks 0)) ∧ w' = w.drew :=
  word_k hK 0 16 16 (by decide) (by decide)
theorem word_k1 {w : World} {b : Nat} {ks : Nat → UInt8} {d s m : Int} {W : Nat → Wd} (hK : KB w b ks d s m W) :
    Calls Try.prog 77 #[.slice (some ⟨b, 4, none⟩) 12 12] w fun e w' => e = .returned (wv (kword ks 1)) ∧ w' = w.drew :=
  word_k hK 1 12 12 (by decide) (by decide)
theorem word_k2 {w : World} {b : Nat} {ks : Nat → UInt8} {d s m : Int} {W : Nat → Wd} (hK : KB w b ks d s m W) :
    Calls Try.prog 77 #[.slice (some ⟨b, 8, none⟩) 8 8] w fun e w' => e = .returned (wv (kword ks 2)) ∧ w' = w.drew :=
  word_k hK 2 8 8 (by decide) (by decide)
theorem word_k3 {w : World} {b : Nat} {ks : Nat → UInt8} {d s m : Int} {W : Nat → Wd} (hK : KB w b ks d s m W) :
    Calls Try.prog 77 #[.slice (some ⟨b, 12, none⟩) 4 4] w fun e w' => e = .returned (wv (kword ks 3)) ∧ w' = w.drew :=
  word_k hK 3 4 4 (by decide) (by decide)
theorem KB.heap {w w' : World} {b : Nat} {ks : Nat → UInt8} {d s m : Int} {W : Nat → Wd} (h : KB w b ks d s m W) (e : w'.heap = w.heap) : KB w' b ks d s m W := by
  unfold KB Blk at *; rw [e]; exact h
theorem KB.push {w w' : World} {b : Nat} {ks : Nat → UInt8} {d s m : Int} {W : Nat → Wd} {o : Obj} (h : KB w b ks d s m W) (e : w'.heap = w.heap.push o) : KB w' b ks d s m W := by
  have hl := h.lt
  unfold KB Blk at *
  rw [e, Array.getElem?_push_lt hl, ← Array.getElem?_eq_getElem hl]
  exact h
/-- the three words that the schedule keeps: in place j the one whose number is j beside threes -/
def lc (ks : Nat → UInt8) (i j : Nat) : Wd := lw ks (i + (j + 2 * i) % 3)
def lcells (ks : Nat → UInt8) (i : Nat) : Array Value := #[wv (lc ks i 0), wv (lc ks i 1), wv (lc ks i 2)]
theorem lcells_at (ks : Nat → UInt8) (i : Nat) : (lcells ks i)[i % 3]? = some (wv (lw ks i)) := by
  have h : i % 3 = 0 ∨ i % 3 = 1 ∨ i % 3 = 2 := by omega
  rcases h with h | h | h <;> rw [h]
  · show some (wv (lc ks i 0)) = _
    rw [lc, show i + (0 + 2 * i) % 3 = i by omega]
  · show some (wv (lc ks i 1)) = _
    rw [lc, show i + (1 + 2 * i) % 3 = i by omega]
  · show some (wv (lc ks i 2)) = _
    rw [lc, show i + (2 + 2 * i) % 3 = i by omega]
theorem lcells_set (ks : Nat → UInt8) (i : Nat) : (lcells ks i).setIfInBounds (i % 3) (wv (lw ks (i + 3))) = lcells ks (i + 1) := by
  have h : i % 3 = 0 ∨ i % 3 = 1 ∨ i % 3 = 2 := by omega
  rcases h with h | h | h <;> rw [h]
  · show #[wv (lw ks (i + 3)), wv (lc ks i 1), wv (lc ks i 2)] = #[wv (lc ks (i + 1) 0), wv (lc ks (i + 1) 1), wv (lc ks (i + 1) 2)]
    unfold lc
    rw [show i + 1 + (0 + 2 * (i + 1)) % 3 = i + 3 by omega, show i + 1 + (1 + 2 * (i + 1)) % 3 = i + (1 + 2 * i) % 3 by omega, show i + 1 + (2 + 2 * (i + 1)) % 3 = i + (2 + 2 * i) % 3 by omega]
  · show #[wv (lc ks i 0), wv (lw ks (i + 3)), wv (lc ks i 2)] = #[wv (lc ks (i + 1) 0), wv (lc ks (i + 1) 1), wv (lc ks (i + 1) 2)]
    unfold lc
    rw [show i + 1 + (0 + 2 * (i + 1)) % 3 = i + (0 + 2 * i) % 3 by omega, show i + 1 + (1 + 2 * (i + 1)) % 3 = i + 3 by omega, show i + 1 + (2 + 2 * (i + 1)) % 3 = i + (2 + 2 * i) % 3 by omega]
  · show #[wv (lc ks i 0), wv (lc ks i 1), wv (lw ks (i + 3))] = #[wv (lc ks (i + 1) 0), wv (lc ks (i + 1) 1), wv (lc ks (i + 1) 2)]
    unfold lc
    rw [show i + 1 + (0 + 2 * (i + 1)) % 3 = i + (0 + 2 * i) % 3 by omega, show i + 1 + (1 + 2 * (i + 1)) % 3 = i + (1 + 2 * i) % 3 by omega, show i + 1 + (2 + 2 * (i + 1)) % 3 = i + 3 by omega]
theorem wordsTo_upd (ks : Nat → UInt8) (i : Nat) : upd (wordsTo ks i) (i + 1) (kw ks (i + 1)) = wordsTo ks (i + 1) := by
  funext j
  unfold upd wordsTo
  by_cases h : j = i + 1
  · subst h; simp
  · by_cases h2 : j ≤ i
    · rw [if_neg h, if_pos h2, if_pos (by omega)]
    · rw [if_neg h, if_neg h2, if_neg (by omega)]
theorem wordsTo_zero (ks : Nat → UInt8) : upd (fun _ => 0) 0 (kw ks 0) = wordsTo ks 0 := by
  funext j
  unfold upd wordsTo
  by_cases h : j = 0
  · subst h; simp
  · rw [if_neg h, if_neg (by omega)]

theorem Blk.far {w : World} {g : Nat} {t : TypeId} {cs : Array Value} (h : Blk w g t cs) (p : Addr) (u : Value) (hp : p.block ≠ g) : Blk (w.setCell p u) g t cs :=
  (Below.heap_setCell w p u g (fun e => hp e.symm)).trans h
theorem there_push {w w0 : World} {cs : Array Value} {t : TypeId} (e : w.heap = w0.heap.push (.cells cs t (0, 0))) : w.there w0.heap.size 0 cs.size := by
  have hb : Blk w w0.heap.size t cs := by unfold Blk; rw [e]; simp
  intro j hj
  rw [Nat.zero_add]
  exact ⟨by rw [hb.cell, Array.getElem?_eq_getElem hj]; rfl, hb.frozen j⟩
theorem step_store_mid {P : Program} {ops : Array Oper} {o : Oper} {a : Act} {w : World} {K : Act → World → Prop} {Q : Exit → Act → World → Prop} {E : Prop} (hgd : o.guard = none) (ty : TypeId) (x y : Operand) (ho : o.op = .store ty x y)
    (b : Nat) (cells : Array Value) (hx : a.eval x = .pointer (some ⟨b, 0, none⟩)) (hy : a.eval y = .agg cells)
    (ht : w.there b 0 cells.size) (hi : (P.info? ty).map (·.size) = some cells.size) (h1 : cells.all (·.oneCell') = true)
    (h : K (a.put o.dst undef) (w.setCells b 0 cells.toList)) : if Region.wanted o (yielded ops a.tmps) = true then Oper.wp P o a w K Q else E := by
  rw [if_pos (by simp [Region.wanted, hgd])]
  exact wp_store_mid ty x y ho b 0 cells hx hy ht hi h1 h
set_option maxRecDepth 100000 in
set_option maxHeartbeats 1600000 in
theorem make_words (b : Nat) (ks : Nat → UInt8) (w : World) (hK : KB w b ks 0 1 0 (fun _ => 0)) :
    Calls Try.prog 64 #[.pointer (some ⟨b, 0, none⟩)] w fun e w' => e = .returned (.tuple #[]) ∧ KB w' b ks 0 1 1 (wordsTo ks 26) ∧ w.grownBy w' (some b) := by
  have hc20 := hK.cw 0 (by decide)
  have cw0 := word_k0 (w := w.drew) hK.drew
  have hf20 := hK.fz 20
  go_enter Try.func64, Try.ntmps64
  go_upto_region 0 with fail
  go_cut [] from 5 to 13 (fun wx => KB wx b ks 0 1 0 (wordsTo ks 0) ∧ w.grownBy wx (some b))
  case first =>
    go_region_held3 (fun w' => True) (trivial) (first | (go_at_call 77; refine Calls.mono cw0 ?_; rintro e w' ⟨rfl, rfl⟩))
    all_goals go_wp2_with fail
    all_goals go_meet
    all_goals
      have h1 := KB.set_word hK 0 (kw ks 0)
      rw [wordsTo_zero] at h1
      exact ⟨h1, g_drew (g_drew (g_set (World.grownBy.refl _ _) (.inl rfl) _))⟩
  case rest =>
    obtain ⟨hK1, hg1⟩ := hcut
    have cw1 : ∀ w' : World, KB w' b ks 0 1 0 (wordsTo ks 0) → _ := fun w' h => word_k1 h
    have cw2 : ∀ w' : World, KB w' b ks 0 1 0 (wordsTo ks 0) → _ := fun w' h => word_k2 h
    have cw3 : ∀ w' : World, KB w' b ks 0 1 0 (wordsTo ks 0) → _ := fun w' h => word_k3 h
    go_upto_region 1 with fail
    go_cut [2] from 14 to 29 (fun p wx => ∃ L, p = .pointer (some ⟨L, 0, none⟩) ∧ w.heap.size ≤ L ∧ Blk wx L 140 (lcells ks 0) ∧ KB wx b ks 0 1 0 (wordsTo ks 0) ∧ w.grownBy wx (some b))
    case first =>
      go_region_held3 (fun w' => True) (trivial) (first | (go_at_call_of 77 (Value.slice (some (Addr.mk b 4 none)) 12 12); refine Calls.mono (cw1 _ (by first | exact KB.heap hK1 rfl | exact KB.push hK1 rfl)) ?_; rintro e w' ⟨rfl, rfl⟩) | (go_at_call_of 77 (Value.slice (some (Addr.mk b 8 none)) 8 8); refine Calls.mono (cw2 _ (by first | exact KB.heap hK1 rfl | exact KB.push hK1 rfl)) ?_; rintro e w' ⟨rfl, rfl⟩) | (go_at_call_of 77 (Value.slice (some (Addr.mk b 12 none)) 4 4); refine Calls.mono (cw3 _ (by first | exact KB.heap hK1 rfl | exact KB.push hK1 rfl)) ?_; rintro e w' ⟨rfl, rfl⟩))
      all_goals go_wp2_with fail
      all_goals go_meet
      all_goals exact ⟨_, rfl, hg1.size, Blk.new wc _ _, Blk.alloc hK1 _, g_drew (g_drew (g_drew (g_drew (g_alloc hg1 _))))⟩
    case rest =>
      obtain ⟨L, rfl, hL, hB2, hK2, hg2⟩ := hcut
      have hLb : L ≠ b := by have := hK.lt; omega
      have hwa := add_w
      have hwx := xor_w
      have hL' := Lib.hid hL; clear hL
      have hB' := Lib.hid hB2; clear hB2
      have hK' := Lib.hid hK2; clear hK2
      have hg' := Lib.hid hg2; clear hg2
      have H1 := Lib.hid hK1; clear hK1
      have H0 := Lib.hid hK; clear hK
      have G1 := Lib.hid hg1; clear hg1
      clear cw0 cw1 cw2 cw3 hc20 hf20
      go_wp2_with fail
      go_loopw [30] (fun iv wr => ∃ i : Nat, i ≤ 26 ∧ iv = .int .i64 (i : Int) ∧ Blk wr L 140 (lcells ks i) ∧ KB wr b ks 0 1 0 (wordsTo ks i) ∧ w.grownBy wr (some b)) (fun iv _ => 26 - (intOf iv).toNat)
      case atStart => exact ⟨0, by decide, rfl, hB'.out, hK'.out, hg'.out⟩
      case round =>
        obtain ⟨i, hi, rfl, hB3, hK3, hg3⟩ := hrel
        by_cases h26 : i = 26
        · subst h26
          have hKe := Lib.hid hK3; clear hK3
          have hge := Lib.hid hg3; clear hg3
          have hBe := Lib.hid hB3; clear hB3
          go_wp2_with (go_at_call 76; refine Calls.mono (store_true _ _ _ (KB.cm hKe.out) (KB.fz hKe.out 19)) ?_; rintro e w' ⟨rfl, rfl⟩)
          go_end0
          have e1 := KB.set_m (KB.drew hKe.out) 1
          exact ⟨rfl, e1, g_set (g_drew hge.out) (.inl rfl) _⟩
        · have hlt : i < 26 := by omega
          have hi0 : (0 : Int) ≤ (i : Int) := by omega
          have hi1 : (i : Int) < 27 := by omega
          have hi2 : i < 27 := by omega
          have hi3 : (i : Int) + 1 < 27 := by omega
          have hi4 : i + 1 < 27 := by omega
          have hi5 : (i : Int) < 26 := by omega
          obtain ⟨r, hr⟩ : ∃ r, r = i % 3 := ⟨_, rfl⟩
          have hmod : (i : Int).tmod 3 = (r : Int) := by rw [Int.tmod_eq_emod_of_nonneg hi0]; omega
          have hr3 : (r : Int) < 3 := by omega
          have hr4 : r < 3 := by omega
          obtain ⟨k0, ek⟩ : ∃ k0, k0 = kw ks i := ⟨_, rfl⟩
          obtain ⟨a0, ea⟩ : ∃ a0, a0 = lw ks i := ⟨_, rfl⟩
          obtain ⟨v, ev⟩ : ∃ v, v = lw ks (i + 3) := ⟨_, rfl⟩
          obtain ⟨u, eu⟩ : ∃ u, u = kw ks (i + 1) := ⟨_, rfl⟩
          have ck : wr.cell? ⟨b, 20 + i, none⟩ = some (wv k0) := by
            have := hK3.cw i hi2
            rw [wordsTo, if_pos (Nat.le_refl _), ← ek] at this
            exact this
          have ca : wr.cell? ⟨L, r, none⟩ = some (wv a0) := by rw [hB3.cell, hr, lcells_at, ea]
          have fb := hK3.fz
          have fL := hB3.frozen
          obtain ⟨ci, ec⟩ : ∃ ci, ci = BitVec.ofNat 32 i := ⟨_, rfl⟩
          obtain ⟨ra, era⟩ : ∃ ra, ra = rot a0 24 := ⟨_, rfl⟩
          obtain ⟨rk, erk⟩ : ∃ rk, rk = rot k0 3 := ⟨_, rfl⟩
          obtain ⟨sm, es⟩ : ∃ sm, sm = k0 + ra := ⟨_, rfl⟩
          have hwc : IntKind.u32.wrap (i : Int) = (ci.toNat : Int) := by rw [ec]; exact u32_word i
          have hwd : (i : Int) % 4294967296 = (ci.toNat : Int) := by rw [← IntKind.wrap_u32]; exact hwc
          have hx0 : ((k0.toNat : Int) + (ra.toNat : Int)) % 4294967296 = (sm.toNat : Int) := by rw [es]; exact add_w _ _
          have hx1 : IntKind.u32.wrap ((k0.toNat : Int) + (ra.toNat : Int)) = (sm.toNat : Int) := by rw [IntKind.wrap_u32]; exact hx0
          have hx2 : bits .xor .u32 (sm.toNat : Int) (ci.toNat : Int) = (v.toNat : Int) := by rw [xor_w, ev, lw_3, es, era, ek, ea, ec]
          have hx3 : bits .xor .u32 (rk.toNat : Int) (v.toNat : Int) = (u.toNat : Int) := by rw [xor_w, ev, eu, kw_next, erk, ek]
          have cr8 := right8 a0
          rw [← era] at cr8
          have cl3 := left3 k0
          rw [← erk] at cl3
          have ck6 : (wr.setCell ⟨L, r, none⟩ (wv v)).cell? ⟨b, 20 + i, none⟩ = some (wv k0) := (World.cell?_setCell_other _ ⟨L, r, none⟩ ⟨b, 20 + i, none⟩ _ (by simp)).trans ck
          have ca6 : (wr.setCell ⟨L, r, none⟩ (wv v)).cell? ⟨L, r, none⟩ = some (wv v) := World.cell?_setCell_same _ _ _ ca
          have fb6 : ∀ j, (wr.setCell ⟨L, r, none⟩ (wv v)).frozen? ⟨b, j, none⟩ = false := fun j => by simp [fb j]
          have cw6 : ∃ y, (wr.setCell ⟨L, r, none⟩ (wv v)).cell? ⟨b, 20 + (i + 1), none⟩ = some y := ⟨_, (World.cell?_setCell_other _ ⟨L, r, none⟩ ⟨b, 20 + (i + 1), none⟩ _ (by simp)).trans (hK3.cw (i + 1) hi4)⟩
          obtain ⟨y, cw6⟩ := cw6
          have hh := Lib.hid hlt; clear hlt
          have hh2 := Lib.hid h26; clear h26
          have hh3 := Lib.hid hi; clear hi
          have he1 := Lib.hid ek; clear ek
          have he2 := Lib.hid ea; clear ea
          have he3 := Lib.hid ev; clear ev
          have he4 := Lib.hid eu; clear eu
          have he5 := Lib.hid hr; clear hr
          clear ec era erk es
          have hKe := Lib.hid hK3; clear hK3
          have hge := Lib.hid hg3; clear hg3
          have hBe := Lib.hid hB3; clear hB3
          clear hwa hwx
          go_wp2_with fail
          refine wp_region_still_tail 15 (by kernel_rfl) (by kernel_rfl) ?_
          simp only [List.take_succ_cons, List.take_zero, List.drop_succ_cons, List.drop_zero]
          change wpStill _ _ wr.drew _ _ _
          repeat still_step
          still_call (cr8 wr.drew)
          repeat still_step
          refine wpStill_nil ?_
          change wpList _ _ _ _ _ wr.drew
          go_wp2_with fail
          refine wp_region_still_tail 16 (by kernel_rfl) (by kernel_rfl) ?_
          simp only [List.take_succ_cons, List.take_zero, List.drop_succ_cons, List.drop_zero]
          change wpStill _ _ (wr.setCell ⟨L, r, none⟩ (.int .u32 v.toNat)).drew.drew _ _ _
          clear ck ca fb
          repeat still_step
          still_call (cl3 _)
          repeat still_step
          refine wpStill_nil ?_
          change wpList _ _ _ _ _ (wr.setCell ⟨L, r, none⟩ (.int .u32 v.toNat)).drew.drew
          go_wp2_with fail
          go_roundw
          case rel =>
            refine ⟨i + 1, by have := hh.out; omega, by go_num, ?_, ?_, ?_⟩
            · have e1 := hBe.out.set r (wv v)
              rw [he5.out, he3.out, lcells_set] at e1
              have e2 := Blk.far e1 ⟨b, 20 + (i + 1), none⟩ (wv u) (by simpa using Ne.symm hLb)
              rw [← he5.out, ← he3.out] at e2
              exact e2
            · have e1 : KB (wr.setCell ⟨L, r, none⟩ (wv v)) b ks 0 1 0 (wordsTo ks i) := Blk.far hKe.out ⟨L, r, none⟩ (wv v) (by simpa using hLb)
              have e2 := KB.set_word e1 (i + 1) u
              rw [he4.out, wordsTo_upd, ← he4.out] at e2
              exact e2
            · exact g_drew (g_drew (g_set (g_set hge.out (.inr hL'.out) _) (.inl rfl) _))
          case measure => have := hh.out; simp [intOf]; omega
end Go.Proofs.Ytcjibpjdfhhhkaa.Sp
