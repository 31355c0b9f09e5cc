/-
  The document's own answer: the key's words, by its walk.
-/
import Derived.Test.YtioonkckppmnoaaSpRef
import Derived.Deep.CutBlock
import Derived.Laws.Bits64
import Derived.Deep.AppendLies
import Derived.Deep.RegionLaw
set_option linter.unusedVariables false
namespace Go.Proofs.Ytioonkckppmnoaa.Sp
open Go.RowKit Go.Proofs.Ytioonkckppmnoaa.Mem

theorem rd_words (w : World) (t : TypeId) (cs : Array Value) (l : List Value) (h : cs.toList = l) (N : Nat) (hN : w.heap.size = N) : Rd (w.alloc (.cells cs t)) (N + 1) (some ⟨N, 0, none⟩) l := by
  subst hN
  refine .inr ⟨w.heap.size, 0, rfl, by omega, fun i u hu => ?_⟩
  rw [Nat.zero_add, (Blk.new w t cs).cell i]
  rw [← h] at hu
  simpa using hu

theorem own_parts {w : World} {base : Nat} {t : TypeId} {v : Value} {n : Nat} {xs : List Value} (h : w.ownsRow base t 1 v n xs) (hn : 0 < n) : ∃ g cap, v = .slice (some ⟨g, 0, none⟩) n cap ∧ base ≤ g ∧ g < w.heap.size ∧ ∀ i u, xs[i]? = some u → w.cell? ⟨g, i, none⟩ = some u := by
  obtain ⟨hl, h | ⟨g, cap, cur, rfl, hg, hcur, hc1, hc2, hc3, hx⟩⟩ := h
  · omega
  · refine ⟨g, cap, rfl, hg, Blk.lt (t := t) (cs := cur) hcur, fun i u hu => ?_⟩
    rw [Blk.cell (t := t) (cs := cur) hcur i]
    rw [← hx, List.getElem?_take] at hu
    split at hu
    · simpa using hu
    · cases hu
theorem own_push {w w' : World} {base : Nat} {t : TypeId} {v : Value} {n : Nat} {xs : List Value} {o : Obj} (h : w.ownsRow base t 1 v n xs) (e : w'.heap = w.heap.push o) : w'.ownsRow base t 1 v n xs := by
  obtain ⟨hl, h | ⟨g, cap, cur, hv, hg, hcur, hr⟩⟩ := h
  · exact ⟨hl, .inl h⟩
  · refine ⟨hl, .inr ⟨g, cap, cur, hv, hg, ?_, hr⟩⟩
    have hlt := Blk.lt (t := t) (cs := cur) hcur
    rw [e, Array.getElem?_push_lt hlt, ← Array.getElem?_eq_getElem hlt]
    exact hcur
theorem own_far {w : World} {base : Nat} {t : TypeId} {v : Value} {n : Nat} {xs : List Value} (h : w.ownsRow base t 1 v n xs) (p : Addr) (u : Value) (hp : p.block < base) : (w.setCell p u).ownsRow base t 1 v n xs := by
  obtain ⟨hl, h | ⟨g, cap, cur, hv, hg, hcur, hr⟩⟩ := h
  · exact ⟨hl, .inl h⟩
  · exact ⟨hl, .inr ⟨g, cap, cur, hv, hg, (Below.heap_setCell w p u g (by omega)).trans hcur, hr⟩⟩
theorem news_push {w w' : World} {u0 : Value} {t : TypeId} (e : w'.heap = w.heap.push (.cells #[u0] t (0, 0))) : ∀ j u, [u0][j]? = some u → w'.cell? ((⟨w.heap.size, 0, none⟩ : Addr).add j) = some u := by
  intro j u hu
  have hb : Blk w' w.heap.size t #[u0] := by unfold Blk; rw [e]; simp
  rw [addr_add, Nat.zero_add, hb.cell]
  simpa using hu
def lrow (ks : Nat → UInt8) (n : Nat) : List Value := (List.range n).map (fun j => wv (lw ks j))
theorem lrow_at (ks : Nat → UInt8) (n i : Nat) (h : i < n) : (lrow ks n)[i]? = some (wv (lw ks i)) := by simp [lrow, h]
theorem lrow_next (ks : Nat → UInt8) (n : Nat) : lrow ks n ++ [wv (lw ks n)] = lrow ks (n + 1) := by simp [lrow, List.range_succ]
theorem u32_info : (Try.prog.info? 48).map (fun i => (i.zero, i.size, i.bytes)) = some (some (.int .u32 0), 1, 4) := by kernel_rfl

theorem cells27_congr {f g : Nat → Wd} (h : ∀ j, j < 27 → f j = g j) : cells27 f = cells27 g := by
  unfold cells27
  congr 1
  apply List.map_congr_left
  intro j hj
  rw [h j (by simpa using hj)]
theorem range_blk {w : World} {g : Nat} {t : TypeId} {cs : Array Value} (h : Blk w g t cs) : w.rangeAt g 0 cs.toList := fun j v hv => by
  rw [Nat.zero_add, h.cell]; simpa using hv
theorem there_blk {w : World} {g : Nat} {t : TypeId} {cs : Array Value} (h : Blk w g t cs) : w.there g 0 cs.size := fun j hj => by
  rw [Nat.zero_add]
  exact ⟨by rw [h.cell, Array.getElem?_eq_getElem hj]; rfl, h.frozen j⟩
theorem below_setCells {B : Nat} {a : World} (b : Nat) (hb : B ≤ b) : ∀ (vs : List Value) (o : Nat) (w : World), Below B a w → Below B a (w.setCells b o vs)
  | [], _, _, h => h
  | v :: r, o, w, h => below_setCells b hb r (o + 1) _ (below_set h hb v)

set_option maxRecDepth 100000 in
set_option maxHeartbeats 1600000 in
theorem dwords (ks : Nat → UInt8) (w : World) : Calls Try.prog 21 #[.agg (key16 ks)] w fun e w' => e = .returned (.agg (cells27 (kw ks))) ∧ Below w.heap.size w w' := by
  obtain ⟨B, eB⟩ : ∃ B, B = w.heap.size := ⟨_, rfl⟩
  rw [← eB]
  have EB := Lib.hid eB
  go_enter Try.func21, Try.ntmps21
  go_wp2_with fail
  rw [← eB]
  clear eB
  go_loopw [4] (fun iv wr => ∃ i : Nat, i ≤ 16 ∧ iv = .int .i64 (i : Int) ∧ Below B w wr ∧ wr.heap.size = B + 3 ∧ Blk wr B 46 (key16 ks) ∧ Blk wr (B + 1) 49 (cells27 zeroW) ∧ Blk wr (B + 1 + 1) 85 (wcells ks i)) (fun iv _ => 16 - (intOf iv).toNat)
  case atStart =>
    have e1 := EB.out
    refine ⟨0, by decide, rfl, ?_, by simp; omega, ?_, ?_, ?_⟩
    · rw [e1]; exact (((Below.refl w.heap.size w).alloc (Nat.le_refl _) _).alloc (by simp) _).alloc (by simp; omega) _
    · exact Blk.alloc (Blk.alloc (Blk.new_of w B _ _ _ rfl e1.symm) _) _
    · exact Blk.alloc (Blk.new_of (w.alloc _) (B + 1) _ _ (cells27 zeroW) (by kernel_rfl) (by simp; omega)) _
    · exact Blk.new_of _ (B + 1 + 1) _ _ (wcells ks 0) (by kernel_rfl) (by simp; omega)
  case round =>
    obtain ⟨i, hi, rfl, hb, hsz, hB0, hB1, hB2⟩ := hrel
    have HB := Lib.hid hb; clear hb
    have HB0 := Lib.hid hB0
    have HB1 := Lib.hid hB1
    have HB2 := Lib.hid hB2
    have HS := Lib.hid hsz
    by_cases h16 : i = 16
    · subst h16
      have HI := Lib.hid hi; clear hi
      clear hB0 hB1 hB2
      go_upto_region 6 with fail
      go_cut [5] from 8 to 28 (fun kp wx => kp = .pointer (some ⟨B + 3, 0, none⟩) ∧ Below B w wx ∧ wx.heap.size = B + 4 ∧ Blk wx (B + 1) 49 (cells27 zeroW) ∧ Blk wx (B + 1 + 1) 85 (wcells ks 16) ∧ Blk wx (B + 3) 49 (cells27 zeroW))
      case first =>
        go_wp2_with fail
        go_meet
        have e1 := HS.out
        exact ⟨rfl, HB.out.alloc (by omega) _, by simp; omega, Blk.alloc HB1.out _, Blk.alloc HB2.out _, Blk.new_of wr (B + 3) _ _ (cells27 zeroW) (by kernel_rfl) e1⟩
      case rest =>
        clear hsz HB HB0 HB1 HB2 HS
        obtain ⟨rfl, hb, hsz, hB1, hB2, hB3⟩ := hcut
        have HB := Lib.hid hb; clear hb
        have HB1 := Lib.hid hB1; clear hB1
        have HB2 := Lib.hid hB2
        have HB3 := Lib.hid hB3
        have HS := Lib.hid hsz
        obtain ⟨w0, e0⟩ : ∃ v, v = kword ks 0 := ⟨_, rfl⟩
        obtain ⟨w1, e1⟩ : ∃ v, v = kword ks 1 := ⟨_, rfl⟩
        obtain ⟨w2, e2⟩ : ∃ v, v = kword ks 2 := ⟨_, rfl⟩
        obtain ⟨w3, e3⟩ : ∃ v, v = kword ks 3 := ⟨_, rfl⟩
        have c0 : wc.cell? ⟨B + 1 + 1, 0, none⟩ = some (wv w0) := by rw [hB2.cell, wcells_at _ _ _ (by decide), wpart_all _ _ (by decide), e0]
        have c1 : wc.cell? ⟨B + 1 + 1, 1, none⟩ = some (wv w1) := by rw [hB2.cell, wcells_at _ _ _ (by decide), wpart_all _ _ (by decide), e1]
        have c2 : wc.cell? ⟨B + 1 + 1, 2, none⟩ = some (wv w2) := by rw [hB2.cell, wcells_at _ _ _ (by decide), wpart_all _ _ (by decide), e2]
        have c3 : wc.cell? ⟨B + 1 + 1, 3, none⟩ = some (wv w3) := by rw [hB2.cell, wcells_at _ _ _ (by decide), wpart_all _ _ (by decide), e3]
        have k0 : wc.cell? ⟨B + 3, 0, none⟩ = some (wv 0) := by rw [hB3.cell]; exact cells27_at _ _ (by decide)
        have f0 := hB3.frozen
        clear hB2 hB3
        go_wp2_with fail
        have F0 := HB3.out.set 0 (wv (kw ks 0))
        rw [cells27_set, wordsTo_zero] at F0
        have F1 := Blk.far HB1.out ⟨B + 3, 0, none⟩ (wv (kw ks 0)) (by simp)
        have F2 : Below B w (wc.setCell ⟨B + 3, 0, none⟩ (wv (kw ks 0))) := below_set HB.out (by simp) _
        have S0 : (wc.setCell ⟨B + 3, 0, none⟩ (wv (kw ks 0))).heap.size = B + 4 := by simpa [World.setCell] using HS.out
        have F3 := Lib.hid F0; clear F0
        have F4 := Lib.hid F1; clear F1
        have F5 := Lib.hid F2; clear F2
        have S1 := Lib.hid S0; clear S0
        have hwa := add_w
        clear c0 c1 c2 c3 k0 f0 hsz e0 e1 e2 e3 HB HB1 HB2 HB3 HS w0 w1 w2 w3 hwa
        go_loopw [6, 7] (fun lv iv wr => ∃ i : Nat, i ≤ 26 ∧ iv = .int .i64 (i : Int) ∧ Below B w wr ∧ B + 4 ≤ wr.heap.size ∧ Blk wr (B + 1) 49 (cells27 zeroW) ∧ Blk wr (B + 3) 49 (cells27 (wordsTo ks i)) ∧ wr.ownsRow (B + 4) 48 1 lv (i + 3) (lrow ks (i + 3))) (fun _ iv _ => 26 - (intOf iv).toNat)
        case atStart =>
          refine ⟨0, by decide, rfl, ?_, ?_, Blk.alloc F4.out _, Blk.alloc F3.out _, ?_⟩
          · exact F5.out.alloc (by have := S1.out; omega) _
          · simp; have := S1.out; simp at this; omega
          · refine ⟨rfl, .inr ⟨B + 4, 3, _, rfl, Nat.le_refl _, Blk.new_of _ (B + 4) _ _ _ rfl S1.out, Nat.le_refl _, by decide, rfl, rfl⟩⟩
        case round =>
          obtain ⟨i, hi, rfl, hb, hsz, hB1, hB3, hown⟩ := hrel
          have HB := Lib.hid hb; clear hb
          have HS := Lib.hid hsz; clear hsz
          by_cases h26 : i = 26
          · subst h26
            obtain ⟨cs, ecs⟩ : ∃ cs, cs = cells27 (wordsTo ks 26) := ⟨_, rfl⟩
            rw [← ecs] at hB3
            have hcs : cs.size = 27 := by rw [ecs]; simp [cells27]
            have ez : (cells27 zeroW).size = 27 := by simp [cells27]
            have hR : wr.rangeAt (B + 3) 0 cs.toList := range_blk hB3
            have hT : wr.there (B + 1) 0 cs.size := by
              have := there_blk hB1
              rwa [ez, ← hcs] at this
            have hi27 : (Try.prog.info? 49).map (·.size) = some cs.size := by rw [hcs]; kernel_rfl
            have hi28 : (Try.prog.info? 49).map (·.size) = some cs.toList.length := by rw [Array.length_toList]; exact hi27
            have h1c : cs.all (·.oneCell') = true := by rw [ecs]; simp [cells27, Value.oneCell']
            have EC : Hid (cs = cells27 (kw ks)) := by rw [ecs]; exact cells27_congr (fun j hj => by rw [wordsTo, if_pos (by omega)])
            have HI := Lib.hid hi; clear hi
            have H1C := Lib.hid h1c; clear h1c
            have HT := Lib.hid hT; clear hT
            have HR := Lib.hid hR; clear hR
            have H27 := Lib.hid hi27; clear hi27
            have H28 := Lib.hid hi28; clear hi28
            clear hB1 hB3 hown ecs hcs ez
            go_wp2_with (first | (refine wpList_load_mid (by rfl) 49 (.tmp 5) (by rfl) (B + 3) 0 (by rfl) cs.toList _ HR.out Try.underlying49 (by rfl) H28.out ?_) | (refine wpList_store_mid (by rfl) 49 (.tmp 2) (.tmp 71) (by rfl) (B + 1) 0 cs (by rfl) (by rfl) HT.out H27.out H1C.out ?_) | fail)
            have hq := run_loadVar_mid (P := Try.prog) (wr.setCells (B + 1) 0 cs.toList) (B + 1) 0 49 cs.toList _ (World.rangeAt_setCells_same wr (B + 1) 0 cs.toList (by rw [Array.length_toList]; exact HT.out)) Try.underlying49 rfl H28.out
            refine bodyPost_ret (v := .agg cs) ?_ ?_ ?_
            · exact results_cell (v := .agg cs) 2 49 ⟨B + 1, 0, none⟩ Try.results21 (by rfl) hq
            · rfl
            · exact ⟨by rw [EC.out], below_setCells (B + 1) (by omega) _ _ _ HB.out⟩
          · have i1 : (i : Int) < 26 := by omega
            have i2 : i < 26 := by omega
            have i3 : (0 : Int) ≤ (i : Int) := by omega
            have i4 : (i : Int) < 27 := by omega
            have i5 : i < 27 := by omega
            have i6 : (i : Int) + 1 < 27 := by omega
            have i7 : i + 1 < 27 := by omega
            obtain ⟨n3, en3⟩ : ∃ n3, n3 = i + 3 := ⟨_, rfl⟩
            rw [← en3] at hown
            obtain ⟨g, cap, rfl, hg, hgl, hcell⟩ := own_parts hown (by omega)
            have n1 : (i : Int) < (n3 : Int) := by omega
            have n2 : i < n3 := by omega
            obtain ⟨k0, ek⟩ : ∃ k0, k0 = kw ks i := ⟨_, rfl⟩
            obtain ⟨a0, ea⟩ : ∃ a0, a0 = lw ks i := ⟨_, rfl⟩
            obtain ⟨v, ev⟩ : ∃ v, v = lw ks (i + 3) := ⟨_, rfl⟩
            obtain ⟨u, eu⟩ : ∃ u, u = kw ks (i + 1) := ⟨_, rfl⟩
            obtain ⟨ci, ec⟩ : ∃ ci, ci = BitVec.ofNat 32 i := ⟨_, rfl⟩
            obtain ⟨ra, era⟩ : ∃ ra, ra = rot a0 24 := ⟨_, rfl⟩
            obtain ⟨rk, erk⟩ : ∃ rk, rk = rot k0 3 := ⟨_, rfl⟩
            obtain ⟨sm, es⟩ : ∃ sm, sm = k0 + ra := ⟨_, rfl⟩
            have hwc : IntKind.u32.wrap (i : Int) = (ci.toNat : Int) := by rw [ec]; exact u32_word i
            have hwd : (i : Int) % 4294967296 = (ci.toNat : Int) := by rw [← IntKind.wrap_u32]; exact hwc
            have hx0 : ((k0.toNat : Int) + (ra.toNat : Int)) % 4294967296 = (sm.toNat : Int) := by rw [es]; exact add_w _ _
            have hx1 : IntKind.u32.wrap ((k0.toNat : Int) + (ra.toNat : Int)) = (sm.toNat : Int) := by rw [IntKind.wrap_u32]; exact hx0
            have hx2 : bits .xor .u32 (sm.toNat : Int) (ci.toNat : Int) = (v.toNat : Int) := by rw [xor_w, ev, lw_3, es, era, ek, ea, ec]
            have hx3 : bits .xor .u32 (rk.toNat : Int) (v.toNat : Int) = (u.toNat : Int) := by rw [xor_w, ev, eu, kw_next, erk, ek]
            have hiw : IntKind.i64.wrap ((i : Int) + 1) = (i : Int) + 1 := by rw [IntKind.wrap_i64]; omega
            have hiv : IntKind.i64.wrap ((i : Int) + 3) = (n3 : Int) := by rw [IntKind.wrap_i64]; omega
            have ck : wr.cell? ⟨B + 3, i, none⟩ = some (wv k0) := by rw [hB3.cell, cells27_at _ _ i5, wordsTo, if_pos (Nat.le_refl _), ek]
            have ca : wr.cell? ⟨g, i, none⟩ = some (wv a0) := by rw [hcell i _ (lrow_at ks n3 i n2), ea]
            have ckA : (wr.alloc (.cells #[.int .u32 v.toNat] 48)).cell? ⟨B + 3, i, none⟩ = some (.int .u32 k0.toNat) := by rw [World.cell?_alloc_past _ _ _ (show (⟨B + 3, i, none⟩ : Addr).block < wr.heap.size by show B + 3 < _; have := HS.out; omega)]; exact ck
            have cr8 := dright8 a0
            rw [← era] at cr8
            have cl3 := dleft3 k0
            rw [← erk] at cl3
            obtain ⟨ti, hi0, hz0, hs0, hb0⟩ := info_parts u32_info
            have HO := Lib.hid hown; clear hown
            have HB1 := Lib.hid hB1; clear hB1
            have HB3 := Lib.hid hB3; clear hB3
            have HG := Lib.hid hg; clear hg
            have EV := Lib.hid ev; clear ev
            have EU := Lib.hid eu; clear eu
            have EN := Lib.hid en3; clear en3
            have HH := Lib.hid i2
            have HI := Lib.hid hi; clear hi
            clear ek ea ec era erk es hcell h26 hgl
            go_wp2_with fail
            go_region_law (first | (go_simp; go_at_call 36; refine Calls.mono (cr8 _) ?_; rintro e w' ⟨rfl, rfl⟩) | ((refine step_append_lies _ (by rfl) (.tmp 43) (.tmp 56) 86 (by rfl) (B + 4) 48 ti _ 1 4 Try.underlying86 hi0 hz0 hs0 hb0 (by rfl) (by decide) (.slice (some ⟨g, 0, none⟩) n3 cap) n3 (lrow ks n3) (by rfl) (own_push HO.out (by rfl)) ⟨wr.heap.size, 0, none⟩ 1 1 [.int .u32 v.toNat] (by rfl) (by rfl) (news_push (by rfl)) (by simp [Value.oneCell']) (by decide) (by have := EN.out; have := HH.out; unfold maxLen; omega) (by have := EN.out; have := HH.out; omega) (by have := HS.out; simp; omega) (wr.heap.size + 1) (by simp) ?_; intro g2 cap2 w2 hown2 hgrow hat hlt)))
            all_goals (
              have ho2 : w2.ownsRow (B + 4) 48 1 (.slice (some ⟨g2, 0, none⟩) (n3 + 1) cap2) (n3 + 1) (lrow ks (n3 + 1)) := by
                rw [← lrow_next, show lw ks n3 = v by rw [EN.out, EV.out]]
                exact hown2
              have ca2 : w2.cell? ⟨g2, n3, none⟩ = some (wv v) := by
                obtain ⟨gx, cx, hvx, _, _, hcx⟩ := own_parts ho2 (by omega)
                injection hvx with hv1 _ _
                injection hv1 with hv1
                injection hv1 with hv1 _
                subst hv1
                rw [hcx n3 _ (lrow_at ks (n3 + 1) n3 (by omega)), show lw ks n3 = v by rw [EN.out, EV.out]]
              have hgw : (wr.alloc (.cells #[.int .u32 v.toNat] 48)).grownBy w2 (some g) := ⟨hgrow.os, hgrow.tape, hgrow.output, hgrow.size, hgrow.block⟩
              have hK3 : Blk w2 (B + 3) 49 (cells27 (wordsTo ks i)) := Blk.grown (Blk.alloc HB3.out _) hgw (fun h => by have := HG.out; injection h with h; omega)
              have hK1 : Blk w2 (B + 1) 49 (cells27 zeroW) := Blk.grown (Blk.alloc HB1.out _) hgw (fun h => by have := HG.out; injection h with h; omega)
              have hb2 : Below B w w2 := Below.grown (HB.out.alloc (by have := HS.out; omega) _) hgw (by have := HS.out; simp; omega) (fun k hk => by have := HG.out; injection hk with hk; omega)
              have hs2 : B + 4 ≤ w2.heap.size := by have h1 := hgw.size; have h2 := HS.out; simp at h1; omega
              have ck2 : w2.cell? ⟨B + 3, i, none⟩ = some (wv k0) := by
                have e1 := HB3.out.cell i
                have e2 := hK3.cell i
                rw [← e1] at e2
                exact e2.trans ck
              have cw2 : w2.cell? ⟨B + 3, i + 1, none⟩ = some (wv (wordsTo ks i (i + 1))) := by rw [hK3.cell]; exact cells27_at _ _ i7
              have fw2 := hK3.frozen
              have HO2 := Lib.hid ho2; clear ho2
              have HK3 := Lib.hid hK3; clear hK3
              have HK1 := Lib.hid hK1; clear hK1
              have HB4 := Lib.hid hb2; clear hb2
              have HS2 := Lib.hid hs2; clear hs2
              clear hown2 hgrow hgw hat hlt ck ca ckA
              obtain ⟨m3, em3⟩ : ∃ m3, m3 = n3 + 1 := ⟨_, rfl⟩
              rw [← em3]
              rw [← em3] at HO2
              have m1 : (n3 : Int) < (m3 : Int) := by omega
              have m2 : n3 < m3 := by omega
              have m4 : (0 : Int) ≤ (n3 : Int) := by omega
              have EM := Lib.hid em3; clear em3
              go_wp2_with fail
              refine wp_region_still_tail 12 (by kernel_rfl) (by kernel_rfl) ?_
              simp only [List.take_succ_cons, List.take_zero, List.drop_succ_cons, List.drop_zero]
              change wpStill _ _ w2.drew _ _ _
              repeat still_step
              still_call (cl3 _)
              repeat still_step
              refine wpStill_nil ?_
              change wpList _ _ _ _ _ w2.drew
              go_wp2_with fail
              go_roundw
              case rel =>
                (repeat apply Exists.intro)
                refine ⟨?_, rfl⟩
                refine ⟨i + 1, by have := HH.out; omega, by go_num, ?_, ?_, ?_, ?_, ?_⟩
                · exact below_drewN (below_set HB4.out (by simp <;> omega) _) 1
                · simpa [World.setCell] using HS2.out
                · exact Blk.far HK1.out _ _ (by simp)
                · have e := HK3.out.set (i + 1) (wv u)
                  rw [cells27_set, EU.out, wordsTo_upd, ← EU.out] at e
                  exact e
                · rw [show i + 1 + 3 = m3 by have := EM.out; have := EN.out; omega]
                  exact own_far HO2.out ⟨B + 3, i + 1, none⟩ (wv u) (by simp)
              case measure => have := HH.out; simp [intOf]; omega)
    · obtain ⟨q, eq⟩ : ∃ q, q = i / 4 := ⟨_, rfl⟩
      obtain ⟨r, er⟩ : ∃ r, r = i % 4 := ⟨_, rfl⟩
      have hq : (i : Int).tdiv 4 = (q : Int) := by rw [Int.tdiv_eq_ediv_of_nonneg (by omega)]; omega
      have hr : (i : Int).tmod 4 = (r : Int) := by rw [Int.tmod_eq_emod_of_nonneg (by omega)]; omega
      have q1 : (q : Int) < 4 := by omega
      have q2 : q < 4 := by omega
      have q3 : (0 : Int) ≤ (q : Int) := by omega
      have r1 : (r : Int) < 4 := by omega
      have r2 : r < 4 := by omega
      have r3 : (0 : Int) ≤ (r : Int) := by omega
      have i1 : (i : Int) < 16 := by omega
      have i2 : i < 16 := by omega
      have i3 : (0 : Int) ≤ (i : Int) := by omega
      obtain ⟨u, eu⟩ : ∃ u, u = wpart ks q i := ⟨_, rfl⟩
      obtain ⟨v, ev⟩ : ∃ v, v = wpart ks q (i + 1) := ⟨_, rfl⟩
      obtain ⟨k, ek⟩ : ∃ k, k = ks i := ⟨_, rfl⟩
      obtain ⟨sh, es⟩ : ∃ sh, sh = 8 * r := ⟨_, rfl⟩
      obtain ⟨km, em⟩ : ∃ km : Nat, km = k.toNat * 2 ^ sh % 4294967296 := ⟨_, rfl⟩
      have hsh : 8 * (r : Int) = (sh : Int) := by omega
      have hkm : IntKind.u32.wrap ((k.toNat : Int) * 2 ^ sh) = (km : Int) := by
        rw [IntKind.wrap_u32, em]
        have : ((k.toNat * 2 ^ sh : Nat) : Int) = (k.toNat : Int) * 2 ^ sh := by rw [Int.natCast_mul, Int.natCast_pow]; rfl
        rw [← this]; omega
      have hv : bits .or .u32 (u.toNat : Int) (km : Int) = (v.toNat : Int) := by
        have e := wpart_next ks q r i r2 (by omega)
        rw [← es, ← eu, ← ev, ← ek] at e
        rw [← e, ← hkm, IntKind.wrap_u32]
      have hms : min sh 32 = sh := by omega
      have hwq : IntKind.i64.wrap (q : Int) = (q : Int) := by rw [IntKind.wrap_i64]; omega
      have hwr : IntKind.i64.wrap (r : Int) = (r : Int) := by rw [IntKind.wrap_i64]; omega
      have hws : IntKind.i64.wrap (sh : Int) = (sh : Int) := by rw [IntKind.wrap_i64]; omega
      have hwt : IntKind.u64.wrap (sh : Int) = (sh : Int) := by rw [IntKind.wrap_u64]; omega
      have kk2 : IntKind.u32.wrap (k.toNat : Int) = (k.toNat : Int) := by rw [IntKind.wrap_u32]; have := u8_le k; omega
      have ck : wr.cell? ⟨B, i, none⟩ = some (.int .u8 (k.toNat : Int)) := by rw [hB0.cell, key16_at _ _ i2, ek]; rfl
      have cu : wr.cell? ⟨B + 1 + 1, q, none⟩ = some (wv u) := by rw [hB2.cell, wcells_at _ _ _ q2, eu]
      have fu := hB2.frozen
      have kk : (k.toNat : Int) % 4294967296 = (k.toNat : Int) := by have := u8_le k; omega
      have HH := Lib.hid h16; clear h16
      have EQ := Lib.hid eq; clear eq
      have EV := Lib.hid ev; clear ev
      have HI := Lib.hid hi; clear hi
      clear hB0 hB1 hB2 eu er ek hsz es em
      go_wp2_with fail
      refine wp_region_still_tail 16 (by kernel_rfl) (by kernel_rfl) ?_
      simp only [List.take_succ_cons, List.take_zero, List.drop_succ_cons, List.drop_zero]
      change wpStill _ _ wr.drew _ _ _
      repeat still_step
      refine wpStill_nil ?_
      change wpList _ _ _ _ _ wr.drew
      go_wp2_with fail
      go_roundw
      case rel =>
        refine ⟨i + 1, by have := HI.out; have := HH.out; omega, by go_num, ?_, ?_, ?_, ?_, ?_⟩
        · exact below_drewN (below_set HB.out (by simp; omega) _) 1
        · simpa [World.setCell] using HS.out
        · exact Blk.far HB0.out _ _ (by simp; omega)
        · exact Blk.far HB1.out _ _ (by simp)
        · have e := HB2.out.set q (wv v)
          rw [EV.out, EQ.out, wcells_set ks i i2, ← EQ.out, ← EV.out] at e
          exact e
      case measure => simp [intOf]; omega
end Go.Proofs.Ytioonkckppmnoaa.Sp
