import Derived.Deep.CutBlock
import Derived.Laws.Bits64
import Derived.Deep.AppendLies
import Derived.Deep.RegionLaw
import Derived.StillTailTactics
import Derived.RegionTactic
import Derived.Deep.RegionHeld3
import Derived.Test.YtcjibpjdfhhhkaaGreatZRingPlays1
import Derived.Test.YtcjibpjdfhhhkaaGreatZRingPlays2
import Derived.Test.YtcjibpjdfhhhkaaGreatZRingPlays3
import Derived.Test.YtcjibpjdfhhhkaaGreatZRingPlays4
import Derived.Test.YtcjibpjdfhhhkaaGreatZRingPlays5
import Derived.Test.YtcjibpjdfhhhkaaGreatZRingPlays6
import Derived.Test.YtcjibpjdfhhhkaaGreatZRingPlays7
import Derived.Test.YtcjibpjdfhhhkaaGreatZRingPlays9
section
set_option linter.unusedVariables false
namespace Go.Proofs.YtcjibpjdfhhhkaaGreat.Sp
open Go.RowKit Go.Proofs.YtcjibpjdfhhhkaaGreat.Mem

def cells27 (W : Nat → Wd) : Array Value := ((List.range 27).map (fun j => wv (W j))).toArray
theorem cells27_at (W : Nat → Wd) (i : Nat) (h : i < 27) : (cells27 W)[i]? = some (wv (W i)) := by
  rw [cells27, List.getElem?_toArray]; simp [h]
theorem cells27_set (W : Nat → Wd) (i : Nat) (v : Wd) : (cells27 W).setIfInBounds i (wv v) = cells27 (upd W i v) := by
  unfold cells27
  rw [List.setIfInBounds_toArray]
  congr 1
  apply List.ext_getElem?
  intro j
  rw [List.getElem?_set, List.getElem?_map, List.getElem?_map]
  by_cases hj : i = j
  · subst hj
    rcases Nat.lt_or_ge i 27 with h | h
    · simp [h, upd]
    · simp [Nat.not_lt.2 h]
  · rw [if_neg hj]
    have hji : ¬ j = i := fun h => hj h.symm
    rcases Nat.lt_or_ge j 27 with h | h
    · simp [h, upd, hji]
    · rw [List.getElem?_eq_none (by simpa using h)]; rfl
def kz (ks : Nat → UInt8) (i j : Nat) : UInt8 := if j < i then ks j else 0
theorem kz_lt (ks : Nat → UInt8) (i j : Nat) (h : j < i) : kz ks i j = ks j := if_pos h
theorem kz_ge (ks : Nat → UInt8) (i j : Nat) (h : i ≤ j) : kz ks i j = 0 := if_neg (by omega)
def wpart (ks : Nat → UInt8) (t i : Nat) : Wd := kword (kz ks i) t
def wcells (ks : Nat → UInt8) (i : Nat) : Array Value := #[wv (wpart ks 0 i), wv (wpart ks 1 i), wv (wpart ks 2 i), wv (wpart ks 3 i)]
theorem wpart_same (ks : Nat → UInt8) (t i : Nat) (h : t ≠ i / 4) : wpart ks t (i + 1) = wpart ks t i := by
  have e : ∀ j, j / 4 = t → kz ks (i + 1) j = kz ks i j := fun j hj => by
    unfold kz
    by_cases h2 : j < i
    · rw [if_pos h2, if_pos (by omega)]
    · rw [if_neg h2, if_neg (by omega)]
  unfold wpart kword
  rw [e _ (by omega), e _ (by omega), e _ (by omega), e _ (by omega)]
theorem wpart_next (ks : Nat → UInt8) (q r i : Nat) (hr : r < 4) (hi : i = 4 * q + r) : bits .or .u32 ((wpart ks q i).toNat : Int) (((ks i).toNat : Int) * 2 ^ (8 * r) % 4294967296) = ((wpart ks q (i + 1)).toNat : Int) := by
  have hk := (ks i).toNat_lt
  have l0 := (ks (4 * q)).toNat_lt
  have l1 := (ks (4 * q + 1)).toNat_lt
  have l2 := (ks (4 * q + 2)).toNat_lt
  have l3 := (ks (4 * q + 3)).toNat_lt
  have h : r = 0 ∨ r = 1 ∨ r = 2 ∨ r = 3 := by omega
  have z : (0 : UInt8).toNat = 0 := rfl
  unfold wpart kword
  rcases h with rfl | rfl | rfl | rfl
  · subst hi
    have e : ((ks (4 * q + 0)).toNat : Int) * 2 ^ (8 * 0) % 4294967296 = (((ks (4 * q)).toNat : Nat) : Int) := by simp only [Nat.add_zero]; omega
    rw [e, u32_or_nat _ _ (BitVec.isLt _) (by omega), le4_nat, le4_nat]
    simp (disch := omega) only [kz_lt, kz_ge, z]
    simp
  · subst hi
    have e : ((ks (4 * q + 1)).toNat : Int) * 2 ^ (8 * 1) % 4294967296 = (((ks (4 * q + 1)).toNat * 256 : Nat) : Int) := by omega
    rw [e, u32_or_nat _ _ (BitVec.isLt _) (by omega), Nat.or_comm, nat_join 8 _ _ (by omega) (by rw [le4_nat]; simp (disch := omega) only [kz_lt, kz_ge, z]; omega), le4_nat, le4_nat]
    simp (disch := omega) only [kz_lt, kz_ge, z]
    omega
  · subst hi
    have e : ((ks (4 * q + 2)).toNat : Int) * 2 ^ (8 * 2) % 4294967296 = (((ks (4 * q + 2)).toNat * 65536 : Nat) : Int) := by omega
    rw [e, u32_or_nat _ _ (BitVec.isLt _) (by omega), Nat.or_comm, nat_join 16 _ _ (by omega) (by rw [le4_nat]; simp (disch := omega) only [kz_lt, kz_ge, z]; omega), le4_nat, le4_nat]
    simp (disch := omega) only [kz_lt, kz_ge, z]
    omega
  · subst hi
    have e : ((ks (4 * q + 3)).toNat : Int) * 2 ^ (8 * 3) % 4294967296 = (((ks (4 * q + 3)).toNat * 16777216 : Nat) : Int) := by omega
    rw [e, u32_or_nat _ _ (BitVec.isLt _) (by omega), Nat.or_comm, nat_join 24 _ _ (by omega) (by rw [le4_nat]; simp (disch := omega) only [kz_lt, kz_ge, z]; omega), le4_nat, le4_nat]
    simp (disch := omega) only [kz_lt, kz_ge, z]
    omega
theorem wpart_all (ks : Nat → UInt8) (t : Nat) (h : t < 4) : wpart ks t 16 = kword ks t := by
  unfold wpart kword kz
  rw [if_pos (by omega), if_pos (by omega), if_pos (by omega), if_pos (by omega)]
theorem wcells_at (ks : Nat → UInt8) (q i : Nat) (h : q < 4) : (wcells ks i)[q]? = some (wv (wpart ks q i)) := by
  have h2 : q = 0 ∨ q = 1 ∨ q = 2 ∨ q = 3 := by omega
  rcases h2 with rfl | rfl | rfl | rfl <;> rfl
theorem wcells_set (ks : Nat → UInt8) (i : Nat) (h : i < 16) : (wcells ks i).setIfInBounds (i / 4) (wv (wpart ks (i / 4) (i + 1))) = wcells ks (i + 1) := by
  have h2 : i / 4 = 0 ∨ i / 4 = 1 ∨ i / 4 = 2 ∨ i / 4 = 3 := by omega
  unfold wcells
  rcases h2 with e | e | e | e <;> rw [e]
  · rw [wpart_same ks 1 i (by omega), wpart_same ks 2 i (by omega), wpart_same ks 3 i (by omega)]; rfl
  · rw [wpart_same ks 0 i (by omega), wpart_same ks 2 i (by omega), wpart_same ks 3 i (by omega)]; rfl
  · rw [wpart_same ks 0 i (by omega), wpart_same ks 1 i (by omega), wpart_same ks 3 i (by omega)]; rfl
  · rw [wpart_same ks 0 i (by omega), wpart_same ks 1 i (by omega), wpart_same ks 2 i (by omega)]; rfl
end Go.Proofs.YtcjibpjdfhhhkaaGreat.Sp
end

section
set_option linter.unusedVariables false
namespace Go.Proofs.YtcjibpjdfhhhkaaGreat.Sp
open Go.RowKit Go.Proofs.YtcjibpjdfhhhkaaGreat.Mem

theorem rd_words (w : World) (t : TypeId) (cs : Array Value) (l : List Value) (h : cs.toList = l) (N : Nat) (hN : w.heap.size = N) : Rd (w.alloc (.cells cs t)) (N + 1) (some ⟨N, 0, none⟩) l := by
  subst hN
  refine .inr ⟨w.heap.size, 0, rfl, by omega, fun i u hu => ?_⟩
  rw [Nat.zero_add, (Blk.new w t cs).cell i]
  rw [← h] at hu
  simpa using hu

theorem own_parts {w : World} {base : Nat} {t : TypeId} {v : Value} {n : Nat} {xs : List Value} (h : w.ownsRow base t 1 v n xs) (hn : 0 < n) : ∃ g cap, v = .slice (some ⟨g, 0, none⟩) n cap ∧ base ≤ g ∧ g < w.heap.size ∧ ∀ i u, xs[i]? = some u → w.cell? ⟨g, i, none⟩ = some u := by
  obtain ⟨hl, h | ⟨g, cap, cur, rfl, hg, hcur, hc1, hc2, hc3, hx⟩⟩ := h
  · omega
  · refine ⟨g, cap, rfl, hg, Blk.lt (t := t) (cs := cur) hcur, fun i u hu => ?_⟩
    rw [Blk.cell (t := t) (cs := cur) hcur i]
    rw [← hx, List.getElem?_take] at hu
    split at hu
    · simpa using hu
    · cases hu
theorem own_push {w w' : World} {base : Nat} {t : TypeId} {v : Value} {n : Nat} {xs : List Value} {o : Obj} (h : w.ownsRow base t 1 v n xs) (e : w'.heap = w.heap.push o) : w'.ownsRow base t 1 v n xs := by
  obtain ⟨hl, h | ⟨g, cap, cur, hv, hg, hcur, hr⟩⟩ := h
  · exact ⟨hl, .inl h⟩
  · refine ⟨hl, .inr ⟨g, cap, cur, hv, hg, ?_, hr⟩⟩
    have hlt := Blk.lt (t := t) (cs := cur) hcur
    rw [e, Array.getElem?_push_lt hlt, ← Array.getElem?_eq_getElem hlt]
    exact hcur
theorem own_far {w : World} {base : Nat} {t : TypeId} {v : Value} {n : Nat} {xs : List Value} (h : w.ownsRow base t 1 v n xs) (p : Addr) (u : Value) (hp : p.block < base) : (w.setCell p u).ownsRow base t 1 v n xs := by
  obtain ⟨hl, h | ⟨g, cap, cur, hv, hg, hcur, hr⟩⟩ := h
  · exact ⟨hl, .inl h⟩
  · exact ⟨hl, .inr ⟨g, cap, cur, hv, hg, (Below.heap_setCell w p u g (by omega)).trans hcur, hr⟩⟩
theorem news_push {w w' : World} {u0 : Value} {t : TypeId} (e : w'.heap = w.heap.push (.cells #[u0] t (0, 0))) : ∀ j u, [u0][j]? = some u → w'.cell? ((⟨w.heap.size, 0, none⟩ : Addr).add j) = some u := by
  intro j u hu
  have hb : Blk w' w.heap.size t #[u0] := by unfold Blk; rw [e]; simp
  rw [addr_add, Nat.zero_add, hb.cell]
  simpa using hu
def lrow (ks : Nat → UInt8) (n : Nat) : List Value := (List.range n).map (fun j => wv (lw ks j))
theorem lrow_at (ks : Nat → UInt8) (n i : Nat) (h : i < n) : (lrow ks n)[i]? = some (wv (lw ks i)) := by simp [lrow, h]
theorem lrow_next (ks : Nat → UInt8) (n : Nat) : lrow ks n ++ [wv (lw ks n)] = lrow ks (n + 1) := by simp [lrow, List.range_succ]
theorem u32_info : (Tryz.prog.info? 83).map (fun i => (i.zero, i.size, i.bytes)) = some (some (.int .u32 0), 1, 4) := by kernel_rfl

theorem cells27_congr {f g : Nat → Wd} (h : ∀ j, j < 27 → f j = g j) : cells27 f = cells27 g := by
  unfold cells27
  congr 1
  apply List.map_congr_left
  intro j hj
  rw [h j (by simpa using hj)]
theorem range_blk {w : World} {g : Nat} {t : TypeId} {cs : Array Value} (h : Blk w g t cs) : w.rangeAt g 0 cs.toList := fun j v hv => by
  rw [Nat.zero_add, h.cell]; simpa using hv
theorem there_blk {w : World} {g : Nat} {t : TypeId} {cs : Array Value} (h : Blk w g t cs) : w.there g 0 cs.size := fun j hj => by
  rw [Nat.zero_add]
  exact ⟨by rw [h.cell, Array.getElem?_eq_getElem hj]; rfl, h.frozen j⟩
theorem below_setCells {B : Nat} {a : World} (b : Nat) (hb : B ≤ b) : ∀ (vs : List Value) (o : Nat) (w : World), Below B a w → Below B a (w.setCells b o vs)
  | [], _, _, h => h
  | v :: r, o, w, h => below_setCells b hb r (o + 1) _ (below_set h hb v)

set_option maxRecDepth 100000 in
set_option maxHeartbeats 1600000 in
theorem dwords (ks : Nat → UInt8) (w : World) : Calls Tryz.prog 51 #[.agg (key16 ks)] w fun e w' => e = .returned (.agg (cells27 (kw ks))) ∧ Below w.heap.size w w' := by
  obtain ⟨B, eB⟩ : ∃ B, B = w.heap.size := ⟨_, rfl⟩
  rw [← eB]
  have EB := Lib.hid eB
  go_enter Tryz.func51, Tryz.ntmps51
  go_wp2_with fail
  rw [← eB]
  clear eB
  go_loopw [4] (fun iv wr => ∃ i : Nat, i ≤ 16 ∧ iv = .int .i64 (i : Int) ∧ Below B w wr ∧ wr.heap.size = B + 3 ∧ Blk wr B 93 (key16 ks) ∧ Blk wr (B + 1) 120 (cells27 zeroW) ∧ Blk wr (B + 1 + 1) 136 (wcells ks i)) (fun iv _ => 16 - (intOf iv).toNat)
  case atStart =>
    have e1 := EB.out
    refine ⟨0, by decide, rfl, ?_, by simp; omega, ?_, ?_, ?_⟩
    · rw [e1]; exact (((Below.refl w.heap.size w).alloc (Nat.le_refl _) _).alloc (by simp) _).alloc (by simp; omega) _
    · exact Blk.alloc (Blk.alloc (Blk.new_of w B _ _ _ rfl e1.symm) _) _
    · exact Blk.alloc (Blk.new_of (w.alloc _) (B + 1) _ _ (cells27 zeroW) (by kernel_rfl) (by simp; omega)) _
    · exact Blk.new_of _ (B + 1 + 1) _ _ (wcells ks 0) (by kernel_rfl) (by simp; omega)
  case round =>
    obtain ⟨i, hi, rfl, hb, hsz, hB0, hB1, hB2⟩ := hrel
    have HB := Lib.hid hb; clear hb
    have HB0 := Lib.hid hB0
    have HB1 := Lib.hid hB1
    have HB2 := Lib.hid hB2
    have HS := Lib.hid hsz
    by_cases h16 : i = 16
    · subst h16
      have HI := Lib.hid hi; clear hi
      clear hB0 hB1 hB2
      go_upto_region 6 with fail
      go_cut [5] from 8 to 28 (fun kp wx => kp = .pointer (some ⟨B + 3, 0, none⟩) ∧ Below B w wx ∧ wx.heap.size = B + 4 ∧ Blk wx (B + 1) 120 (cells27 zeroW) ∧ Blk wx (B + 1 + 1) 136 (wcells ks 16) ∧ Blk wx (B + 3) 120 (cells27 zeroW))
      case first =>
        go_wp2_with fail
        go_meet
        have e1 := HS.out
        exact ⟨rfl, HB.out.alloc (by omega) _, by simp; omega, Blk.alloc HB1.out _, Blk.alloc HB2.out _, Blk.new_of wr (B + 3) _ _ (cells27 zeroW) (by kernel_rfl) e1⟩
      case rest =>
        clear hsz HB HB0 HB1 HB2 HS
        obtain ⟨rfl, hb, hsz, hB1, hB2, hB3⟩ := hcut
        have HB := Lib.hid hb; clear hb
        have HB1 := Lib.hid hB1; clear hB1
        have HB2 := Lib.hid hB2
        have HB3 := Lib.hid hB3
        have HS := Lib.hid hsz
        obtain ⟨w0, e0⟩ : ∃ v, v = kword ks 0 := ⟨_, rfl⟩
        obtain ⟨w1, e1⟩ : ∃ v, v = kword ks 1 := ⟨_, rfl⟩
        obtain ⟨w2, e2⟩ : ∃ v, v = kword ks 2 := ⟨_, rfl⟩
        obtain ⟨w3, e3⟩ : ∃ v, v = kword ks 3 := ⟨_, rfl⟩
        have c0 : wc.cell? ⟨B + 1 + 1, 0, none⟩ = some (wv w0) := by rw [hB2.cell, wcells_at _ _ _ (by decide), wpart_all _ _ (by decide), e0]
        have c1 : wc.cell? ⟨B + 1 + 1, 1, none⟩ = some (wv w1) := by rw [hB2.cell, wcells_at _ _ _ (by decide), wpart_all _ _ (by decide), e1]
        have c2 : wc.cell? ⟨B + 1 + 1, 2, none⟩ = some (wv w2) := by rw [hB2.cell, wcells_at _ _ _ (by decide), wpart_all _ _ (by decide), e2]
        have c3 : wc.cell? ⟨B + 1 + 1, 3, none⟩ = some (wv w3) := by rw [hB2.cell, wcells_at _ _ _ (by decide), wpart_all _ _ (by decide), e3]
        have k0 : wc.cell? ⟨B + 3, 0, none⟩ = some (wv 0) := by rw [hB3.cell]; exact cells27_at _ _ (by decide)
        have f0 := hB3.frozen
        clear hB2 hB3
        go_wp2_with fail
        have F0 := HB3.out.set 0 (wv (kw ks 0))
        rw [cells27_set, wordsTo_zero] at F0
        have F1 := Blk.far HB1.out ⟨B + 3, 0, none⟩ (wv (kw ks 0)) (by simp)
        have F2 : Below B w (wc.setCell ⟨B + 3, 0, none⟩ (wv (kw ks 0))) := below_set HB.out (by simp) _
        have S0 : (wc.setCell ⟨B + 3, 0, none⟩ (wv (kw ks 0))).heap.size = B + 4 := by simpa [World.setCell] using HS.out
        have F3 := Lib.hid F0; clear F0
        have F4 := Lib.hid F1; clear F1
        have F5 := Lib.hid F2; clear F2
        have S1 := Lib.hid S0; clear S0
        have hwa := add_w
        clear c0 c1 c2 c3 k0 f0 hsz e0 e1 e2 e3 HB HB1 HB2 HB3 HS w0 w1 w2 w3 hwa
        go_loopw [6, 7] (fun lv iv wr => ∃ i : Nat, i ≤ 26 ∧ iv = .int .i64 (i : Int) ∧ Below B w wr ∧ B + 4 ≤ wr.heap.size ∧ Blk wr (B + 1) 120 (cells27 zeroW) ∧ Blk wr (B + 3) 120 (cells27 (wordsTo ks i)) ∧ wr.ownsRow (B + 4) 83 1 lv (i + 3) (lrow ks (i + 3))) (fun _ iv _ => 26 - (intOf iv).toNat)
        case atStart =>
          refine ⟨0, by decide, rfl, ?_, ?_, Blk.alloc F4.out _, Blk.alloc F3.out _, ?_⟩
          · exact F5.out.alloc (by have := S1.out; omega) _
          · simp; have := S1.out; simp at this; omega
          · refine ⟨rfl, .inr ⟨B + 4, 3, _, rfl, Nat.le_refl _, Blk.new_of _ (B + 4) _ _ _ rfl S1.out, Nat.le_refl _, by decide, rfl, rfl⟩⟩
        case round =>
          obtain ⟨i, hi, rfl, hb, hsz, hB1, hB3, hown⟩ := hrel
          have HB := Lib.hid hb; clear hb
          have HS := Lib.hid hsz; clear hsz
          by_cases h26 : i = 26
          · subst h26
            obtain ⟨cs, ecs⟩ : ∃ cs, cs = cells27 (wordsTo ks 26) := ⟨_, rfl⟩
            rw [← ecs] at hB3
            have hcs : cs.size = 27 := by rw [ecs]; simp [cells27]
            have ez : (cells27 zeroW).size = 27 := by simp [cells27]
            have hR : wr.rangeAt (B + 3) 0 cs.toList := range_blk hB3
            have hT : wr.there (B + 1) 0 cs.size := by
              have := there_blk hB1
              rwa [ez, ← hcs] at this
            have hi27 : (Tryz.prog.info? 120).map (·.size) = some cs.size := by rw [hcs]; kernel_rfl
            have hi28 : (Tryz.prog.info? 120).map (·.size) = some cs.toList.length := by rw [Array.length_toList]; exact hi27
            have h1c : cs.all (·.oneCell') = true := by rw [ecs]; simp [cells27, Value.oneCell']
            have EC : Hid (cs = cells27 (kw ks)) := by rw [ecs]; exact cells27_congr (fun j hj => by rw [wordsTo, if_pos (by omega)])
            have HI := Lib.hid hi; clear hi
            have H1C := Lib.hid h1c; clear h1c
            have HT := Lib.hid hT; clear hT
            have HR := Lib.hid hR; clear hR
            have H27 := Lib.hid hi27; clear hi27
            have H28 := Lib.hid hi28; clear hi28
            clear hB1 hB3 hown ecs hcs ez
            go_wp2_with (first | (refine wpList_load_mid (by rfl) 120 (.tmp 5) (by rfl) (B + 3) 0 (by rfl) cs.toList _ HR.out Tryz.underlying120 (by rfl) H28.out ?_) | (refine wpList_store_mid (by rfl) 120 (.tmp 2) (.tmp 71) (by rfl) (B + 1) 0 cs (by rfl) (by rfl) HT.out H27.out H1C.out ?_) | fail)
            have hq := run_loadVar_mid (P := Tryz.prog) (wr.setCells (B + 1) 0 cs.toList) (B + 1) 0 120 cs.toList _ (World.rangeAt_setCells_same wr (B + 1) 0 cs.toList (by rw [Array.length_toList]; exact HT.out)) Tryz.underlying120 rfl H28.out
            refine bodyPost_ret (v := .agg cs) ?_ ?_ ?_
            · exact results_cell (v := .agg cs) 2 120 ⟨B + 1, 0, none⟩ Tryz.results51 (by rfl) hq
            · rfl
            · exact ⟨by rw [EC.out], below_setCells (B + 1) (by omega) _ _ _ HB.out⟩
          · have i1 : (i : Int) < 26 := by omega
            have i2 : i < 26 := by omega
            have i3 : (0 : Int) ≤ (i : Int) := by omega
            have i4 : (i : Int) < 27 := by omega
            have i5 : i < 27 := by omega
            have i6 : (i : Int) + 1 < 27 := by omega
            have i7 : i + 1 < 27 := by omega
            obtain ⟨n3, en3⟩ : ∃ n3, n3 = i + 3 := ⟨_, rfl⟩
            rw [← en3] at hown
            obtain ⟨g, cap, rfl, hg, hgl, hcell⟩ := own_parts hown (by omega)
            have n1 : (i : Int) < (n3 : Int) := by omega
            have n2 : i < n3 := by omega
            obtain ⟨k0, ek⟩ : ∃ k0, k0 = kw ks i := ⟨_, rfl⟩
            obtain ⟨a0, ea⟩ : ∃ a0, a0 = lw ks i := ⟨_, rfl⟩
            obtain ⟨v, ev⟩ : ∃ v, v = lw ks (i + 3) := ⟨_, rfl⟩
            obtain ⟨u, eu⟩ : ∃ u, u = kw ks (i + 1) := ⟨_, rfl⟩
            obtain ⟨ci, ec⟩ : ∃ ci, ci = BitVec.ofNat 32 i := ⟨_, rfl⟩
            obtain ⟨ra, era⟩ : ∃ ra, ra = rot a0 24 := ⟨_, rfl⟩
            obtain ⟨rk, erk⟩ : ∃ rk, rk = rot k0 3 := ⟨_, rfl⟩
            obtain ⟨sm, es⟩ : ∃ sm, sm = k0 + ra := ⟨_, rfl⟩
            have hwc : IntKind.u32.wrap (i : Int) = (ci.toNat : Int) := by rw [ec]; exact u32_word i
            have hwd : (i : Int) % 4294967296 = (ci.toNat : Int) := by rw [← IntKind.wrap_u32]; exact hwc
            have hx0 : ((k0.toNat : Int) + (ra.toNat : Int)) % 4294967296 = (sm.toNat : Int) := by rw [es]; exact add_w _ _
            have hx1 : IntKind.u32.wrap ((k0.toNat : Int) + (ra.toNat : Int)) = (sm.toNat : Int) := by rw [IntKind.wrap_u32]; exact hx0
            have hx2 : bits .xor .u32 (sm.toNat : Int) (ci.toNat : Int) = (v.toNat : Int) := by rw [xor_w, ev, lw_3, es, era, ek, ea, ec]
            have hx3 : bits .xor .u32 (rk.toNat : Int) (v.toNat : Int) = (u.toNat : Int) := by rw [xor_w, ev, eu, kw_next, erk, ek]
            have hiw : IntKind.i64.wrap ((i : Int) + 1) = (i : Int) + 1 := by rw [IntKind.wrap_i64]; omega
            have hiv : IntKind.i64.wrap ((i : Int) + 3) = (n3 : Int) := by rw [IntKind.wrap_i64]; omega
            have ck : wr.cell? ⟨B + 3, i, none⟩ = some (wv k0) := by rw [hB3.cell, cells27_at _ _ i5, wordsTo, if_pos (Nat.le_refl _), ek]
            have ca : wr.cell? ⟨g, i, none⟩ = some (wv a0) := by rw [hcell i _ (lrow_at ks n3 i n2), ea]
            have ckA : (wr.alloc (.cells #[.int .u32 v.toNat] 83)).cell? ⟨B + 3, i, none⟩ = some (.int .u32 k0.toNat) := by rw [World.cell?_alloc_past _ _ _ (show (⟨B + 3, i, none⟩ : Addr).block < wr.heap.size by show B + 3 < _; have := HS.out; omega)]; exact ck
            have cr8 := dright8 a0
            rw [← era] at cr8
            have cl3 := dleft3 k0
            rw [← erk] at cl3
            obtain ⟨ti, hi0, hz0, hs0, hb0⟩ := info_parts u32_info
            have HO := Lib.hid hown; clear hown
            have HB1 := Lib.hid hB1; clear hB1
            have HB3 := Lib.hid hB3; clear hB3
            have HG := Lib.hid hg; clear hg
            have EV := Lib.hid ev; clear ev
            have EU := Lib.hid eu; clear eu
            have EN := Lib.hid en3; clear en3
            have HH := Lib.hid i2
            have HI := Lib.hid hi; clear hi
            clear ek ea ec era erk es hcell h26 hgl
            go_wp2_with fail
            go_region_law (first | (go_simp; go_at_call 67; refine Calls.mono (cr8 _) ?_; rintro e w' ⟨rfl, rfl⟩) | ((refine step_append_lies _ (by rfl) (.tmp 43) (.tmp 56) 137 (by rfl) (B + 4) 83 ti _ 1 4 Tryz.underlying137 hi0 hz0 hs0 hb0 (by rfl) (by decide) (.slice (some ⟨g, 0, none⟩) n3 cap) n3 (lrow ks n3) (by rfl) (own_push HO.out (by rfl)) ⟨wr.heap.size, 0, none⟩ 1 1 [.int .u32 v.toNat] (by rfl) (by rfl) (news_push (by rfl)) (by simp [Value.oneCell']) (by decide) (by have := EN.out; have := HH.out; unfold maxLen; omega) (by have := EN.out; have := HH.out; omega) (by have := HS.out; simp; omega) (wr.heap.size + 1) (by simp) ?_; intro g2 cap2 w2 hown2 hgrow hat hlt)))
            all_goals (
              have ho2 : w2.ownsRow (B + 4) 83 1 (.slice (some ⟨g2, 0, none⟩) (n3 + 1) cap2) (n3 + 1) (lrow ks (n3 + 1)) := by
                rw [← lrow_next, show lw ks n3 = v by rw [EN.out, EV.out]]
                exact hown2
              have ca2 : w2.cell? ⟨g2, n3, none⟩ = some (wv v) := by
                obtain ⟨gx, cx, hvx, _, _, hcx⟩ := own_parts ho2 (by omega)
                injection hvx with hv1 _ _
                injection hv1 with hv1
                injection hv1 with hv1 _
                subst hv1
                rw [hcx n3 _ (lrow_at ks (n3 + 1) n3 (by omega)), show lw ks n3 = v by rw [EN.out, EV.out]]
              have hgw : (wr.alloc (.cells #[.int .u32 v.toNat] 83)).grownBy w2 (some g) := ⟨hgrow.os, hgrow.tape, hgrow.output, hgrow.size, hgrow.block⟩
              have hK3 : Blk w2 (B + 3) 120 (cells27 (wordsTo ks i)) := Blk.grown (Blk.alloc HB3.out _) hgw (fun h => by have := HG.out; injection h with h; omega)
              have hK1 : Blk w2 (B + 1) 120 (cells27 zeroW) := Blk.grown (Blk.alloc HB1.out _) hgw (fun h => by have := HG.out; injection h with h; omega)
              have hb2 : Below B w w2 := Below.grown (HB.out.alloc (by have := HS.out; omega) _) hgw (by have := HS.out; simp; omega) (fun k hk => by have := HG.out; injection hk with hk; omega)
              have hs2 : B + 4 ≤ w2.heap.size := by have h1 := hgw.size; have h2 := HS.out; simp at h1; omega
              have ck2 : w2.cell? ⟨B + 3, i, none⟩ = some (wv k0) := by
                have e1 := HB3.out.cell i
                have e2 := hK3.cell i
                rw [← e1] at e2
                exact e2.trans ck
              have cw2 : w2.cell? ⟨B + 3, i + 1, none⟩ = some (wv (wordsTo ks i (i + 1))) := by rw [hK3.cell]; exact cells27_at _ _ i7
              have fw2 := hK3.frozen
              have HO2 := Lib.hid ho2; clear ho2
              have HK3 := Lib.hid hK3; clear hK3
              have HK1 := Lib.hid hK1; clear hK1
              have HB4 := Lib.hid hb2; clear hb2
              have HS2 := Lib.hid hs2; clear hs2
              clear hown2 hgrow hgw hat hlt ck ca ckA
              obtain ⟨m3, em3⟩ : ∃ m3, m3 = n3 + 1 := ⟨_, rfl⟩
              rw [← em3]
              rw [← em3] at HO2
              have m1 : (n3 : Int) < (m3 : Int) := by omega
              have m2 : n3 < m3 := by omega
              have m4 : (0 : Int) ≤ (n3 : Int) := by omega
              have EM := Lib.hid em3; clear em3
              go_wp2_with fail
              refine wp_region_still_tail 12 (by kernel_rfl) (by kernel_rfl) ?_
              simp only [List.take_succ_cons, List.take_zero, List.drop_succ_cons, List.drop_zero]
              change wpStill _ _ w2.drew _ _ _
              repeat still_step
              still_call (cl3 _)
              repeat still_step
              refine wpStill_nil ?_
              change wpList _ _ _ _ _ w2.drew
              go_wp2_with fail
              go_roundw
              case rel =>
                (repeat apply Exists.intro)
                refine ⟨?_, rfl⟩
                refine ⟨i + 1, by have := HH.out; omega, by go_num, ?_, ?_, ?_, ?_, ?_⟩
                · exact below_drewN (below_set HB4.out (by simp <;> omega) _) 1
                · simpa [World.setCell] using HS2.out
                · exact Blk.far HK1.out _ _ (by simp)
                · have e := HK3.out.set (i + 1) (wv u)
                  rw [cells27_set, EU.out, wordsTo_upd, ← EU.out] at e
                  exact e
                · rw [show i + 1 + 3 = m3 by have := EM.out; have := EN.out; omega]
                  exact own_far HO2.out ⟨B + 3, i + 1, none⟩ (wv u) (by simp)
              case measure => have := HH.out; simp [intOf]; omega)
    · obtain ⟨q, eq⟩ : ∃ q, q = i / 4 := ⟨_, rfl⟩
      obtain ⟨r, er⟩ : ∃ r, r = i % 4 := ⟨_, rfl⟩
      have hq : (i : Int).tdiv 4 = (q : Int) := by rw [Int.tdiv_eq_ediv_of_nonneg (by omega)]; omega
      have hr : (i : Int).tmod 4 = (r : Int) := by rw [Int.tmod_eq_emod_of_nonneg (by omega)]; omega
      have q1 : (q : Int) < 4 := by omega
      have q2 : q < 4 := by omega
      have q3 : (0 : Int) ≤ (q : Int) := by omega
      have r1 : (r : Int) < 4 := by omega
      have r2 : r < 4 := by omega
      have r3 : (0 : Int) ≤ (r : Int) := by omega
      have i1 : (i : Int) < 16 := by omega
      have i2 : i < 16 := by omega
      have i3 : (0 : Int) ≤ (i : Int) := by omega
      obtain ⟨u, eu⟩ : ∃ u, u = wpart ks q i := ⟨_, rfl⟩
      obtain ⟨v, ev⟩ : ∃ v, v = wpart ks q (i + 1) := ⟨_, rfl⟩
      obtain ⟨k, ek⟩ : ∃ k, k = ks i := ⟨_, rfl⟩
      obtain ⟨sh, es⟩ : ∃ sh, sh = 8 * r := ⟨_, rfl⟩
      obtain ⟨km, em⟩ : ∃ km : Nat, km = k.toNat * 2 ^ sh % 4294967296 := ⟨_, rfl⟩
      have hsh : 8 * (r : Int) = (sh : Int) := by omega
      have hkm : IntKind.u32.wrap ((k.toNat : Int) * 2 ^ sh) = (km : Int) := by
        rw [IntKind.wrap_u32, em]
        have : ((k.toNat * 2 ^ sh : Nat) : Int) = (k.toNat : Int) * 2 ^ sh := by rw [Int.natCast_mul, Int.natCast_pow]; rfl
        rw [← this]; omega
      have hv : bits .or .u32 (u.toNat : Int) (km : Int) = (v.toNat : Int) := by
        have e := wpart_next ks q r i r2 (by omega)
        rw [← es, ← eu, ← ev, ← ek] at e
        rw [← e, ← hkm, IntKind.wrap_u32]
      have hms : min sh 32 = sh := by omega
      have hwq : IntKind.i64.wrap (q : Int) = (q : Int) := by rw [IntKind.wrap_i64]; omega
      have hwr : IntKind.i64.wrap (r : Int) = (r : Int) := by rw [IntKind.wrap_i64]; omega
      have hws : IntKind.i64.wrap (sh : Int) = (sh : Int) := by rw [IntKind.wrap_i64]; omega
      have hwt : IntKind.u64.wrap (sh : Int) = (sh : Int) := by rw [IntKind.wrap_u64]; omega
      have kk2 : IntKind.u32.wrap (k.toNat : Int) = (k.toNat : Int) := by rw [IntKind.wrap_u32]; have := u8_le k; omega
      have ck : wr.cell? ⟨B, i, none⟩ = some (.int .u8 (k.toNat : Int)) := by rw [hB0.cell, key16_at _ _ i2, ek]; rfl
      have cu : wr.cell? ⟨B + 1 + 1, q, none⟩ = some (wv u) := by rw [hB2.cell, wcells_at _ _ _ q2, eu]
      have fu := hB2.frozen
      have kk : (k.toNat : Int) % 4294967296 = (k.toNat : Int) := by have := u8_le k; omega
      have HH := Lib.hid h16; clear h16
      have EQ := Lib.hid eq; clear eq
      have EV := Lib.hid ev; clear ev
      have HI := Lib.hid hi; clear hi
      clear hB0 hB1 hB2 eu er ek hsz es em
      go_wp2_with fail
      refine wp_region_still_tail 16 (by kernel_rfl) (by kernel_rfl) ?_
      simp only [List.take_succ_cons, List.take_zero, List.drop_succ_cons, List.drop_zero]
      change wpStill _ _ wr.drew _ _ _
      repeat still_step
      refine wpStill_nil ?_
      change wpList _ _ _ _ _ wr.drew
      go_wp2_with fail
      go_roundw
      case rel =>
        refine ⟨i + 1, by have := HI.out; have := HH.out; omega, by go_num, ?_, ?_, ?_, ?_, ?_⟩
        · exact below_drewN (below_set HB.out (by simp; omega) _) 1
        · simpa [World.setCell] using HS.out
        · exact Blk.far HB0.out _ _ (by simp; omega)
        · exact Blk.far HB1.out _ _ (by simp)
        · have e := HB2.out.set q (wv v)
          rw [EV.out, EQ.out, wcells_set ks i i2, ← EQ.out, ← EV.out] at e
          exact e
      case measure => simp [intOf]; omega
end Go.Proofs.YtcjibpjdfhhhkaaGreat.Sp
end

section
set_option linter.unusedVariables false
namespace Go.Proofs.YtcjibpjdfhhhkaaGreat.Sp
open Go.RowKit Go.Proofs.YtcjibpjdfhhhkaaGreat.Mem

set_option maxRecDepth 100000 in
set_option maxHeartbeats 1600000 in
theorem dblock (K : Nat → Wd) (x y : Wd) (w : World) :
    Calls Tryz.prog 66 #[.agg (cells27 K), wv x, wv y] w fun e w' => e = .returned (.tuple #[wv (blockK K (x, y)).1, wv (blockK K (x, y)).2]) ∧ Below w.heap.size w w' := by
  obtain ⟨B, eB⟩ : ∃ B, B = w.heap.size := ⟨_, rfl⟩
  rw [← eB]
  have EB := Lib.hid eB
  go_enter Tryz.func66, Tryz.ntmps66
  go_wp2_with fail
  rw [← eB]
  clear eB
  go_loopw [1, 2, 8] (fun xv yv iv wr => ∃ i : Nat, i ≤ 27 ∧ iv = .int .i64 (i : Int) ∧ xv = wv (turnN K i (x, y)).1 ∧ yv = wv (turnN K i (x, y)).2 ∧ Blk wr B 120 (cells27 K) ∧ Below B w wr) (fun _ _ iv _ => 27 - (intOf iv).toNat)
  case atStart => exact ⟨0, by decide, rfl, rfl, rfl, Blk.new_of w B _ _ _ rfl EB.out.symm, EB.out ▸ (Below.refl _ _).alloc (Nat.le_refl _) _⟩
  case round =>
    obtain ⟨i, hi, rfl, rfl, rfl, hB, hb⟩ := hrel
    by_cases h27 : i = 27
    · subst h27
      have HB := Lib.hid hB; clear hB
      have HB2 := Lib.hid hb; clear hb
      go_wp2_with fail
      go_ret2
      exact ⟨rfl, HB2.out⟩
    · have hi0 : (0 : Int) ≤ (i : Int) := by omega
      have hi1 : (i : Int) < 27 := by omega
      have hi2 : i < 27 := by omega
      obtain ⟨p, ep⟩ : ∃ p, p = turnN K i (x, y) := ⟨_, rfl⟩
      obtain ⟨k0, ek⟩ : ∃ k0, k0 = K i := ⟨_, rfl⟩
      obtain ⟨x0, ex⟩ : ∃ x0, x0 = p.1 := ⟨_, rfl⟩
      obtain ⟨y0, ey⟩ : ∃ y0, y0 = p.2 := ⟨_, rfl⟩
      obtain ⟨rx, erx⟩ : ∃ rx, rx = rot x0 24 := ⟨_, rfl⟩
      obtain ⟨ry, ery⟩ : ∃ ry, ry = rot y0 3 := ⟨_, rfl⟩
      obtain ⟨sm, es⟩ : ∃ sm, sm = rx + y0 := ⟨_, rfl⟩
      obtain ⟨x1, ex1⟩ : ∃ x1, x1 = sm ^^^ k0 := ⟨_, rfl⟩
      obtain ⟨y1, ey1⟩ : ∃ y1, y1 = ry ^^^ x1 := ⟨_, rfl⟩
      have ck : wr.cell? ⟨B, i, none⟩ = some (wv k0) := by rw [hB.cell, cells27_at _ _ hi2, ek]
      have hx0 : ((rx.toNat : Int) + (y0.toNat : Int)) % 4294967296 = (sm.toNat : Int) := by rw [es]; exact add_w _ _
      have hx1 : IntKind.u32.wrap ((rx.toNat : Int) + (y0.toNat : Int)) = (sm.toNat : Int) := by rw [IntKind.wrap_u32]; exact hx0
      have hx2 : bits .xor .u32 (sm.toNat : Int) (k0.toNat : Int) = (x1.toNat : Int) := by rw [ex1]; exact xor_w _ _
      have hx3 : bits .xor .u32 (ry.toNat : Int) (x1.toNat : Int) = (y1.toNat : Int) := by rw [ey1]; exact xor_w _ _
      have cr8 := dright8 x0
      rw [← erx] at cr8
      have cl3 := dleft3 y0
      rw [← ery] at cl3
      have hn : turnN K (i + 1) (x, y) = (x1, y1) := by rw [turnN, ← ep, step, ← ex, ← ey, ← ek, ← erx, ← ery, ← es, ← ex1, ← ey1]
      rw [← ep, ← ex, ← ey]
      have hn' := Lib.hid hn; clear hn
      have hh := Lib.hid hi2
      have HB := Lib.hid hB; clear hB
      have HB2 := Lib.hid hb; clear hb
      clear ep ek ex ey erx ery es ex1 ey1 hi h27
      go_wp2_with fail
      refine wp_region_still_lit (by kernel_rfl) (by kernel_rfl) ?_
      change wpStill _ _ wr.drew _ _ _
      repeat still_step
      still_call (cr8 _)
      repeat still_step
      refine wpStill_nil ?_
      try change _ wr.drew
      go_wp2_with (first | (go_at_call 68; refine Calls.mono (cl3 _) ?_; rintro e w' ⟨rfl, rfl⟩))
      go_roundw
      case rel => exact ⟨i + 1, by have := hh.out; omega, by go_num, by rw [hn'.out], by rw [hn'.out], HB.out, below_drewN HB2.out 1⟩
      case measure => have := hh.out; simp [intOf]; omega

end Go.Proofs.YtcjibpjdfhhhkaaGreat.Sp
end

section
set_option linter.unusedVariables false
namespace Go.Proofs.YtcjibpjdfhhhkaaGreat.SpL
open Go.RowKit Go.Proofs.YtcjibpjdfhhhkaaGreat.Mem Go.Proofs.YtcjibpjdfhhhkaaGreat.Sp

def Stands (w : World) (g : Nat) (cs : Array Value) : Prop := w.rangeAt g 0 cs.toList
theorem Stands.grown {w w' : World} {g : Nat} {cs : Array Value} {row : Option Nat} (h : Stands w g cs) (hg : g < w.heap.size) (hb : w.grownBy w' row) (hr : row ≠ some g) : Stands w' g cs := fun j v hv =>
  (World.cell?_of_block (a := ⟨g, 0 + j, none⟩) (hb.block g hg (fun e => hr e.symm))).trans (h j v hv)
theorem Stands.below {w w' : World} {g : Nat} {cs : Array Value} (h : Stands w g cs) (hg : g < w.heap.size) (hb : Below w.heap.size w w') : Stands w' g cs := h.grown hg (g_of_below hb none) (by simp)
theorem wpList_load_st {P : Program} {ops : Array Oper} {rest : List Oper} {op : Oper} {a : Act} {w : World} {Q : Exit → Act → World → Prop} (hgd : op.guard = none) (ty : TypeId) (x : Operand) (ho : op.op = .load ty x)
    (g : Nat) (hx : a.eval x = .pointer (some ⟨g, 0, none⟩)) (cs : Array Value) (d : TypeDesc) (hc : Stands w g cs)
    (hu : P.underlying ty = some d) (hd : d.isRow = true) (hi : (P.info? ty).map (·.size) = some cs.size)
    (h : wpList P ops Q rest (a.put op.dst (.agg cs)) w) : wpList P ops Q (op :: rest) a w :=
  wpList_load_mid hgd ty x ho g 0 hx cs.toList d hc hu hd (by rw [Array.length_toList]; exact hi) (by simpa using h)
theorem setCells_size (b : Nat) : ∀ (vs : List Value) (o : Nat) (w : World), (w.setCells b o vs).heap.size = w.heap.size
  | [], _, _ => rfl
  | v :: r, o, w => by rw [World.setCells, setCells_size b r]; simp [World.setCell]
theorem size27 (K : Nat → Wd) : (cells27 K).size = 27 := by simp [cells27]
theorem info27 (K : Nat → Wd) : (Tryz.prog.info? 120).map (·.size) = some (cells27 K).size := by rw [size27]; kernel_rfl
end Go.Proofs.YtcjibpjdfhhhkaaGreat.SpL
end

section
set_option linter.unusedVariables false
namespace Go.Proofs.YtcjibpjdfhhhkaaGreat.SpL
open Go.RowKit Go.Proofs.YtcjibpjdfhhhkaaGreat.Mem Go.Proofs.YtcjibpjdfhhhkaaGreat.Sp

def eight (x y : Wd) : List Value := [.int .u8 ((x.toNat : Int) % 256), .int .u8 ((x.toNat : Int) / 256 % 256), .int .u8 ((x.toNat : Int) / 65536 % 256), .int .u8 ((x.toNat : Int) / 16777216),
  .int .u8 ((y.toNat : Int) % 256), .int .u8 ((y.toNat : Int) / 256 % 256), .int .u8 ((y.toNat : Int) / 65536 % 256), .int .u8 ((y.toNat : Int) / 16777216)]
theorem strm_eight (K : Nat → Wd) (up lo : Wd) (i : Nat) : bvs (strm K up lo (8 * i)) ++ eight (blockK K (up, lo + BitVec.ofNat 32 i)).1 (blockK K (up, lo + BitVec.ofNat 32 i)).2 = bvs (strm K up lo (8 * (i + 1))) := by
  have e : strm K up lo (8 * (i + 1)) = strm K up lo (8 * i) ++ [sbyte K up lo (8 * i + 0), sbyte K up lo (8 * i + 1), sbyte K up lo (8 * i + 2), sbyte K up lo (8 * i + 3), sbyte K up lo (8 * i + 4 + 0), sbyte K up lo (8 * i + 4 + 1), sbyte K up lo (8 * i + 4 + 2), sbyte K up lo (8 * i + 4 + 3)] := by
    unfold strm
    rw [show 8 * (i + 1) = 8 * i + 1 + 1 + 1 + 1 + 1 + 1 + 1 + 1 by omega]
    simp [List.range_succ]
  rw [e, bvs_append]
  congr 1
  have a0 := sbyte_lo K up lo i 0 (by decide)
  have a1 := sbyte_lo K up lo i 1 (by decide)
  have a2 := sbyte_lo K up lo i 2 (by decide)
  have a3 := sbyte_lo K up lo i 3 (by decide)
  have b0 := sbyte_hi K up lo i 0 (by decide)
  have b1 := sbyte_hi K up lo i 1 (by decide)
  have b2 := sbyte_hi K up lo i 2 (by decide)
  have b3 := sbyte_hi K up lo i 3 (by decide)
  have hx := wd_lt (blockK K (up, lo + BitVec.ofNat 32 i)).1
  have hy := wd_lt (blockK K (up, lo + BitVec.ofNat 32 i)).2
  rw [show ((blockK K (up, lo + BitVec.ofNat 32 i)).1.toNat / 256 ^ 3 % 256) = (blockK K (up, lo + BitVec.ofNat 32 i)).1.toNat / 16777216 by simp only [Nat.reducePow]; omega] at a3
  rw [show ((blockK K (up, lo + BitVec.ofNat 32 i)).2.toNat / 256 ^ 3 % 256) = (blockK K (up, lo + BitVec.ofNat 32 i)).2.toNat / 16777216 by simp only [Nat.reducePow]; omega] at b3
  simp only [bvs, List.map_cons, List.map_nil, bv, eight, a0, a1, a2, a3, b0, b1, b2, b3]
  simp

theorem Rd.take {w : World} {B : Nat} {A : Option Addr} {xs : List Value} (h : Rd w B A xs) (m : Nat) : Rd w B A (xs.take m) := by
  rcases h with h | ⟨b, o, h1, h2, h3⟩
  · rw [h]; exact .inl (by simp)
  · refine .inr ⟨b, o, h1, h2, fun i u hu => h3 i u ?_⟩
    rw [List.getElem?_take] at hu
    split at hu
    · exact hu
    · cases hu
theorem bt' {B : Nat} {a w c : World} (h : Below B a w) (hB : B + 1 ≤ w.heap.size) (k : Below w.heap.size w c) : Below B a c := below_then h (by omega) k

set_option maxRecDepth 100000 in
set_option maxHeartbeats 1600000 in
theorem dstream (K : Nat → Wd) (N m : Nat) (n : Int) (w : World) (hN : N < 18446744073709551616) (hm : m ≤ 1000) (hn : m = n.toNat) :
    Calls Tryz.prog 50 #[.agg (cells27 K), .int .u64 (N : Int), .int .i64 n] w fun e w' => ∃ A c, e = .returned (.slice A m c) ∧ m ≤ c ∧ Rd w' w'.heap.size A (bvs (strm K (upW N) (loW N) m)) ∧ Below w.heap.size w w' := by
  obtain ⟨B, eB⟩ : ∃ B, B = w.heap.size := ⟨_, rfl⟩
  rw [← eB]
  have EB := Lib.hid eB
  have z27 := size27 K
  have i27 := info27 K
  obtain ⟨cs, ecs⟩ : ∃ cs, cs = cells27 K := ⟨_, rfl⟩
  rw [← ecs] at z27 i27
  have cB := dblock K
  rw [← ecs] at cB
  rw [← ecs]
  obtain ⟨ib, hi0, hz0, hs0, hb0⟩ := info_parts u8_info
  have Z27 := Lib.hid z27; clear z27
  have I27 := Lib.hid i27; clear i27
  have ECS := Lib.hid ecs; clear ecs
  have NN := Lib.hid hN; clear hN
  have HM := Lib.hid hm; clear hm
  have HN := Lib.hid hn; clear hn
  have hst : Blk (w.alloc (.cells cs 120)) B 120 cs := Blk.new_of w B _ _ _ rfl eB.symm
  have HST := Lib.hid hst; clear hst
  go_enter Tryz.func50, Tryz.ntmps50
  go_wp2_with fail
  rw [← eB]
  clear eB
  go_loopw [7, 8] (fun bv_ iv wr => ∃ i : Nat, 8 * i < m + 8 ∧ iv = .int .i64 (i : Int) ∧ Blk wr B 120 cs ∧ Below B w wr ∧ B + 1 ≤ wr.heap.size ∧ wr.ownsRow (B + 1) 5 1 bv_ (8 * i) (bvs (strm K (upW N) (loW N) (8 * i)))) (fun _ iv _ => m + 8 - 8 * (intOf iv).toNat)
  case atStart => exact ⟨0, by omega, rfl, HST.out, EB.out ▸ (Below.refl _ _).alloc (Nat.le_refl _) _, by have := EB.out; simp; omega, rfl, .inl ⟨rfl, rfl⟩⟩
  case round =>
    obtain ⟨i, hi, rfl, hB, hb, hsz, hown⟩ := hrel
    have HB := Lib.hid hB; clear hB
    have HB2 := Lib.hid hb; clear hb
    have HS := Lib.hid hsz; clear hsz
    have hlen : ∃ A cap, u7 = .slice A (8 * i) cap ∧ 8 * i ≤ cap ∧ (∀ n k, (Value.slice A n cap).ownBlock = some k → B + 1 ≤ k) := by
      obtain ⟨_, ⟨h1, h2⟩ | ⟨g, cap, cur, h1, hg, _, hcap, _⟩⟩ := hown
      · exact ⟨none, 0, by rw [h1, h2], by omega, fun n k h => by simp [Value.ownBlock] at h⟩
      · exact ⟨_, cap, h1, hcap, fun n k h => by simp only [Value.ownBlock] at h; injection h with h; omega⟩
    obtain ⟨A, cap, rfl, hcap, hnb⟩ := hlen
    have HNB := Lib.hid hnb; clear hnb
    have HO := Lib.hid hown; clear hown
    obtain ⟨o, eo⟩ : ∃ o, o = 8 * i := ⟨_, rfl⟩
    rw [← eo]
    have EO := Lib.hid eo; clear eo
    by_cases hlt : (o : Int) < n
    · have ib1 : (0 : Int) ≤ (i : Int) := by omega
      have ib2 : (i : Int) ≤ 200 := by have := EO.out; have := HM.out; have := HN.out; omega
      have HH := Lib.hid hi; clear hi
      go_wp2_with (first | (refine wpList_load_st (by rfl) 120 (.tmp 3) (by rfl) B (by rfl) cs _ (range_blk HB.out) Tryz.underlying120 (by rfl) I27.out ?_) | fail)
      have cup : (N : Int) / 4294967296 % 4294967296 = ((upW N).toNat : Int) := by rw [upW, BitVec.toNat_ofNat]; have := NN.out; omega
      have csum : ((N : Int) + (i : Int)) % 4294967296 = ((loW N + BitVec.ofNat 32 i).toNat : Int) := by rw [loW, BitVec.toNat_add, BitVec.toNat_ofNat, BitVec.toNat_ofNat]; omega
      rw [cup, csum]
      obtain ⟨p, ep⟩ : ∃ p, p = blockK K (upW N, loW N + BitVec.ofNat 32 i) := ⟨_, rfl⟩
      obtain ⟨x0, ex⟩ : ∃ x0, x0 = p.1 := ⟨_, rfl⟩
      obtain ⟨y0, ey⟩ : ∃ y0, y0 = p.2 := ⟨_, rfl⟩
      have c4 := cB (upW N) (loW N + BitVec.ofNat 32 i) wr
      rw [← ep, ← ex, ← ey] at c4
      have hnx : bvs (strm K (upW N) (loW N) (8 * i)) ++ eight x0 y0 = bvs (strm K (upW N) (loW N) (8 * (i + 1))) := by rw [ex, ey, ep]; exact strm_eight K _ _ i
      have HNX := Lib.hid hnx; clear hnx
      clear ep ex ey cup csum
      refine Calls.mono c4 ?_
      rintro e w5 ⟨rfl, hb5⟩
      have ho5 := own_kept HO.out hb5
      rw [← EO.out] at ho5
      have hnx2 := HNX.out
      rw [← EO.out] at hnx2
      have HN2 := Lib.hid hnx2; clear hnx2
      have hB5 := HB.out.below hb5
      have hb6 := bt' HB2.out HS.out hb5
      have hs5 := Nat.le_trans HS.out hb5.size
      have HO5 := Lib.hid ho5; clear ho5
      have HB5 := Lib.hid hB5; clear hB5
      have HB6 := Lib.hid hb6; clear hb6
      have HS5 := Lib.hid hs5; clear hs5
      clear hb5 c4
      go_wp2_with (first | (at_builtin; refine wpList_append_rd _ (by rfl) (.tmp 30) (.tmp 53) 46 (by rfl) (B + 1) 5 ib _ 1 Tryz.underlying46 hi0 hz0 hs0 hb0 (by rfl) (.slice A o cap) o (bvs (strm K (upW N) (loW N) o)) (by rfl) (own_push HO5.out (by rfl)) (w5.heap.size + 1) (some ⟨w5.heap.size, 0, none⟩) 8 8 (eight x0 y0) (by rfl) (by rfl) (rd_words w5 5 _ (eight x0 y0) (by rfl) _ rfl) (by simp [eight, Value.oneCell']) (by have := EO.out; unfold maxLen; omega) (by have := EO.out; omega) (by have := HS5.out; simp; omega) ?_; intro v6 w6 hown6 hgrow6 hat6) | fail)
      have hB6 := Blk.grown (Blk.alloc HB5.out _) hgrow6 (fun h => by have := HNB.out _ _ h; omega)
      have hb7 := Below.grown (HB6.out.alloc (by have := HS5.out; omega) _) hgrow6 (by have := HS5.out; simp; omega) (fun k hk => by have := HNB.out _ _ hk; omega)
      have hs7 := hgrow6.size
      have ho7 := hown6
      rw [HN2.out, show o + 8 = 8 * (i + 1) by have := EO.out; omega] at ho7
      have B6 := Lib.hid hB6; clear hB6
      have B7 := Lib.hid hb7; clear hb7
      have S7 := Lib.hid hs7; clear hs7
      have O7 := Lib.hid ho7; clear ho7
      clear hown6 hgrow6 hat6
      go_wp2_with fail
      go_roundw
      case rel =>
        exact ⟨i + 1, by have := EO.out; have := HN.out; omega, by go_num, B6.out, B7.out, by have h1 := S7.out; have := HS5.out; simp at h1; omega, O7.out⟩
      case measure => have := EO.out; have := HN.out; simp [intOf]; omega
    · have hge : n ≤ (o : Int) := by omega
      have e1 : decide ((o : Int) < n) = false := by simp; omega
      have hcap2 : n ≤ (cap : Int) := by have := EO.out; omega
      have HC := Lib.hid hcap; clear hcap
      by_cases h0 : n < 0
      · go_wp2_with fail
        go_ret
        have hm0 : m = 0 := by have := HN.out; omega
        refine ⟨A, cap, by rw [hm0]; first | rfl | exact congrArg (fun k => Ending.returned (Value.slice A k cap)) (show (max n 0).toNat = 0 by omega), by rw [hm0]; exact Nat.zero_le _, ?_, HB2.out⟩
        rw [hm0]
        exact .inl rfl
      · have h1 : (0 : Int) ≤ n := by omega
        go_wp2_with fail
        go_ret
        refine ⟨A, cap, by rw [HN.out]; first | rfl | exact congrArg (fun k => Ending.returned (Value.slice A k cap)) (show (max n 0).toNat = n.toNat by omega), by have := HN.out; omega, ?_, HB2.out⟩
        have hr := Rd.of_own HO.out
        have ht : bvs (strm K (upW N) (loW N) m) = (bvs (strm K (upW N) (loW N) (8 * i))).take m := by
          rw [← strm_take K (upW N) (loW N) m (8 * i) (by have := EO.out; have := HN.out; omega)]
          simp [bvs, List.map_take]
        rw [ht]
        exact Rd.take hr m
end Go.Proofs.YtcjibpjdfhhhkaaGreat.SpL
end

section
set_option linter.unusedVariables false
namespace Go.Proofs.YtcjibpjdfhhhkaaGreat.Se
open Go.RowKit Go.Proofs.YtcjibpjdfhhhkaaGreat.Mem

def hk (f : Nat → UInt8) (i j : Nat) : UInt8 := if j < i then f j else 0
theorem key16_at (f : Nat → UInt8) (j : Nat) (hj : j < 16) : (Sp.key16 f)[j]? = some (bv (f j)) := Sp.key16_at f j hj
theorem hk_set (f : Nat → UInt8) (i : Nat) (hi : i < 16) : (Sp.key16 (hk f i)).setIfInBounds i (bv (f i)) = Sp.key16 (hk f (i + 1)) := by
  unfold Sp.key16
  rw [List.setIfInBounds_toArray]
  congr 1
  apply List.ext_getElem?
  intro j
  rw [List.getElem?_set, List.getElem?_map, List.getElem?_map]
  by_cases hj : i = j
  · subst hj; simp [hi, hk]
  · rw [if_neg hj]
    rcases Nat.lt_or_ge j 16 with h | h
    · have e : (j < i) = (j < i + 1) := propext ⟨by omega, by omega⟩
      simp [h, hk, e]
    · rw [List.getElem?_eq_none (by simpa using h)]; rfl
theorem hk_all (f : Nat → UInt8) : Sp.key16 (hk f 16) = Sp.key16 f := Sp.key16_congr fun j hj => if_pos hj
theorem hk_none (f : Nat → UInt8) : Sp.key16 (hk f 0) = Sp.key16 (fun _ => 0) := Sp.key16_congr fun j hj => rfl
theorem key32_at' (f : Nat → UInt8) (j : Nat) (hj : j < 32) : (key32 f)[j]? = some (bv (f j)) := by
  rw [key32, List.getElem?_toArray]; simp [hj]
theorem results_two {P : Program} {fn : Func} {tmps : Array Value} {w : World} {v1 v2 : Value} (t1 t2 : Nat) (ty1 ty2 : TypeId) (a1 a2 : Addr) (hres : fn.results = #[.cell t1 ty1, .cell t2 ty2]) (ht1 : tmps.getD t1 undef = .pointer (some a1)) (ht2 : tmps.getD t2 undef = .pointer (some a2)) (hl1 : (loadVar ty1 a1).run P w = .ok v1 w) (hl2 : (loadVar ty2 a2).run P w = .ok v2 w) :
    (results fn tmps).run P w = .ok (.tuple #[v1, v2]) w := by
  have h1 : tmps[t1]?.getD undef = .pointer (some a1) := by simpa using ht1
  have h2 : tmps[t2]?.getD undef = .pointer (some a2) := by simpa using ht2
  simp [results, hres, h1, h2, asAddr, hl1, hl2]
set_option maxRecDepth 100000 in
set_option maxHeartbeats 3200000 in
theorem dhalves (ks : Nat → UInt8) (w : World) : Calls Tryz.prog 49 #[.agg (key32 ks)] w fun e w' => e = .returned (.tuple #[.agg (Sp.key16 ks), .agg (Sp.key16 (k2 ks))]) ∧ Below w.heap.size w w' := by
  obtain ⟨B, eB⟩ : ∃ B, B = w.heap.size := ⟨_, rfl⟩
  have EB := Lib.hid eB
  have hz16 : Sp.key16 (fun _ => 0) = #[.int .u8 0, .int .u8 0, .int .u8 0, .int .u8 0, .int .u8 0, .int .u8 0, .int .u8 0, .int .u8 0, .int .u8 0, .int .u8 0, .int .u8 0, .int .u8 0, .int .u8 0, .int .u8 0, .int .u8 0, .int .u8 0] := rfl
  have HZ := Lib.hid hz16; clear hz16
  obtain ⟨kc, ekc⟩ : ∃ kc, kc = key32 ks := ⟨_, rfl⟩
  rw [← ekc]
  have EK := Lib.hid ekc; clear ekc
  go_enter Tryz.func49, Tryz.ntmps49
  go_wp2_with fail
  rw [← eB]
  clear eB
  go_loopw [6] (fun iv wr => ∃ i : Nat, i ≤ 16 ∧ iv = .int .i64 (i : Int) ∧ Below B w wr ∧ wr.heap.size = B + 5 ∧ Blk wr B 33 kc ∧ Blk wr (B + 1) 93 (Sp.key16 (fun _ => 0)) ∧ Blk wr (B + 2) 93 (Sp.key16 (fun _ => 0)) ∧ Blk wr (B + 3) 93 (Sp.key16 (hk ks i)) ∧ Blk wr (B + 4) 93 (Sp.key16 (hk (k2 ks) i))) (fun iv _ => 16 - (intOf iv).toNat)
  case atStart =>
    have z1 : Blk (w.alloc (.cells kc 33)) B 33 kc := EB.out ▸ Blk.new w _ _
    have q0 : (w.alloc (.cells kc 33)).heap.size = B + 1 := by rw [EB.out]; simp
    have b0 : Below B w (w.alloc (.cells kc 33)) := EB.out ▸ (Below.refl w.heap.size w).alloc (Nat.le_refl _) _
    have key : ∀ (w1 : World) (n : Nat), w1.heap.size = n → Blk (w1.alloc (.cells (Sp.key16 fun _ => 0) 93)) n 93 (Sp.key16 fun _ => 0) ∧ (w1.alloc (.cells (Sp.key16 fun _ => 0) 93)).heap.size = n + 1 := fun w1 n h => ⟨h ▸ Blk.new w1 _ _, by rw [← h]; simp⟩
    obtain ⟨k1, q1⟩ := key _ _ q0
    obtain ⟨k2', q2⟩ := key _ _ q1
    obtain ⟨k3, q3⟩ := key _ _ q2
    obtain ⟨k4, q4⟩ := key _ _ q3
    refine ⟨0, by decide, rfl, ?_, q4, (((z1.alloc _).alloc _).alloc _).alloc _, ((k1.alloc _).alloc _).alloc _, (k2'.alloc _).alloc _, ?_, ?_⟩
    · exact (((b0.alloc (by have := EB.out; simp; omega) _).alloc (by have := EB.out; simp; omega) _).alloc (by have := EB.out; simp; omega) _).alloc (by have := EB.out; simp; omega) _
    · rw [hk_none]; exact k3.alloc _
    · rw [hk_none]; exact k4
  case round =>
    obtain ⟨i, hi, rfl, hb, hsz, h0, h1, h2, h3, h4⟩ := hrel
    have HB := Lib.hid hb; clear hb
    have HS := Lib.hid hsz; clear hsz
    by_cases hx : i = 16
    · subst hx
      rw [hk_all] at h3 h4
      obtain ⟨cs, ecs⟩ : ∃ cs, cs = (List.range 16).map (fun j => bv (ks j)) := ⟨_, rfl⟩
      obtain ⟨ds, eds⟩ : ∃ ds, ds = (List.range 16).map (fun j => bv (k2 ks j)) := ⟨_, rfl⟩
      have n3 : cs.length = 16 := by rw [ecs]; simp
      have n4 : ds.length = 16 := by rw [eds]; simp
      have o3 : ∀ v ∈ cs, v.oneCell' = true := by rw [ecs]; intro v hv; obtain ⟨j, _, rfl⟩ := List.mem_map.1 hv; rfl
      have o4 : ∀ v ∈ ds, v.oneCell' = true := by rw [eds]; intro v hv; obtain ⟨j, _, rfl⟩ := List.mem_map.1 hv; rfl
      have h3 : Blk wr (B + 3) 93 cs.toArray := by rw [ecs]; exact h3
      have h4 : Blk wr (B + 4) 93 ds.toArray := by rw [eds]; exact h4
      have r3 : wr.drew.rangeAt (B + 1 + 1 + 1) 0 cs := by have := Si.range_blk h3; simpa using this
      have r4 : wr.drew.rangeAt (B + 1 + 1 + 1 + 1) 0 ds := by have := Si.range_blk h4; simpa using this
      have t1 : wr.drew.there (B + 1) 0 16 := by have := Si.there_blk h1; rwa [key16_size] at this
      have t2 : wr.drew.there (B + 1 + 1) 0 16 := by have := Si.there_blk h2; rwa [key16_size] at this
      have u3 : (Tryz.prog.info? 93).map (·.size) = some cs.length := by rw [n3]; kernel_rfl
      have u4 : (Tryz.prog.info? 93).map (·.size) = some ds.length := by rw [n4]; kernel_rfl
      have hu16 := Tryz.underlying93
      have EC := Lib.hid ecs; clear ecs
      have ED := Lib.hid eds; clear eds
      clear h0 h1 h2 h3 h4
      go_wp2_with fail
      refine wp_region_held_drew (S := fun w' => w'.rangeAt (B + 1 + 1 + 1) 0 cs ∧ w'.rangeAt (B + 1 + 1 + 1 + 1) 0 ds ∧ w'.there (B + 1) 0 16 ∧ w'.there (B + 1 + 1) 0 16) (by kernel_rfl) ⟨r3, r4, t1, t2⟩ (fun hHeld => ?_)
      refine wpAnyH_take (i := 0) (v := .agg cs.toArray) rfl (by kernel_rfl) (by kernel_rfl) (by kernel_rfl) (fun _ _ _ h => h) (yieldsIf_load_mid (by rfl) 93 (.tmp 4) rfl (B + 1 + 1 + 1) 0 rfl cs _ (fun _ h => h.1) hu16 rfl u3) hHeld ?_
      refine wpAnyH_take (i := 1) (v := .agg ds.toArray) rfl (by kernel_rfl) (by kernel_rfl) (by kernel_rfl) (fun _ _ _ h => h) (yieldsIf_load_mid (by rfl) 93 (.tmp 5) rfl (B + 1 + 1 + 1 + 1) 0 rfl ds _ (fun _ h => h.2.1) hu16 rfl u4) hHeld ?_
      refine wpAnyH_ready (rs := [2]) (by kernel_rfl) (by simp) ?_
      refine AllReadyH.cons (o := _) rfl (fun K hK => ?_) AllReadyH.nil
      rw [if_pos (by rfl)]
      refine wp_store_mid 93 _ _ rfl (B + 1) 0 cs.toArray rfl rfl (by rw [List.size_toArray, n3]; exact hHeld.2.2.1) (by rw [List.size_toArray]; exact u3) (all_oneCell_toArray o3) ?_
      refine hK.out _ _ ⟨World.rangeAt_setCells_apart hHeld.1 _ _ _ (.inl (by omega)), World.rangeAt_setCells_apart hHeld.2.1 _ _ _ (.inl (by omega)), World.there_setCells hHeld.2.2.1 _ _ _, World.there_setCells hHeld.2.2.2 _ _ _⟩ (fun hHeld2 => ?_)
      clear hK K
      refine wpAnyH_ready (rs := [3]) (by kernel_rfl) (by simp) ?_
      refine AllReadyH.cons (o := _) rfl (fun K hK => ?_) AllReadyH.nil
      rw [if_pos (by rfl)]
      refine wp_store_mid 93 _ _ rfl (B + 1 + 1) 0 ds.toArray rfl rfl (by rw [List.size_toArray, n4]; exact hHeld2.2.2.2) (by rw [List.size_toArray]; exact u4) (all_oneCell_toArray o4) ?_
      refine hK.out _ _ ⟨World.rangeAt_setCells_apart hHeld2.1 _ _ _ (.inl (by omega)), World.rangeAt_setCells_apart hHeld2.2.1 _ _ _ (.inl (by omega)), World.there_setCells hHeld2.2.2.1 _ _ _, World.there_setCells hHeld2.2.2.2 _ _ _⟩ (fun hHeld3 => ?_)
      clear hK K
      refine wpAnyH_done (by kernel_rfl) ?_ _
      have hR1 : ((wr.drew.setCells (B + 1) 0 cs).setCells (B + 1 + 1) 0 ds).rangeAt (B + 1) 0 cs := World.rangeAt_setCells_apart (World.rangeAt_setCells_same _ _ _ _ (by rw [n3]; exact t1)) _ _ _ (.inl (by omega))
      have hR2 : ((wr.drew.setCells (B + 1) 0 cs).setCells (B + 1 + 1) 0 ds).rangeAt (B + 1 + 1) 0 ds := World.rangeAt_setCells_same _ _ _ _ (by rw [n4]; exact hHeld2.2.2.2)
      have hBW : Below B w ((wr.drew.setCells (B + 1) 0 cs).setCells (B + 1 + 1) 0 ds) := Si.below_setCells _ (by omega) _ _ _ (Si.below_setCells _ (by omega) _ _ _ (below_drewN HB.out 1))
      change Exit.then _ _ Exit.normal _ ((wr.drew.setCells (B + 1) 0 cs).setCells (B + 1 + 1) 0 ds)
      generalize (wr.drew.setCells (B + 1) 0 cs).setCells (B + 1 + 1) 0 ds = W3 at hR1 hR2 hBW ⊢
      clear hHeld hHeld2 hHeld3 r3 r4 t1 t2
      have q1 := run_loadVar_mid (P := Tryz.prog) W3 (B + 1) 0 93 cs _ hR1 hu16 rfl u3
      have q2 := run_loadVar_mid (P := Tryz.prog) W3 (B + 1 + 1) 0 93 ds _ hR2 hu16 rfl u4
      have Q1 := Lib.hid q1; clear q1
      have Q2 := Lib.hid q2; clear q2
      have BW := Lib.hid hBW; clear hBW
      clear hR1 hR2 u3 u4 hu16 n3 n4 o3 o4 h3 h4
      go_wp2_with fail
      refine bodyPost_ret (v := .tuple #[.agg cs.toArray, .agg ds.toArray]) (results_two 2 3 93 93 ⟨B + 1, 0, none⟩ ⟨B + 1 + 1, 0, none⟩ Tryz.results49 (by rfl) (by rfl) Q1.out Q2.out) (by rfl) ?_
      exact ⟨by rw [EC.out, ED.out]; rfl, EB.out ▸ BW.out⟩
    · have e1 : (i : Int) < 16 := by omega
      have e2 : (0 : Int) ≤ (i : Int) := by omega
      have e3 : i < 16 := by omega
      have e4 : (16 : Int) + (i : Int) < 32 := by omega
      have e5 : (0 : Int) ≤ (16 : Int) + (i : Int) := by omega
      have e6 : 16 + i < 32 := by omega
      have e7 : i < 32 := by omega
      obtain ⟨x, ex⟩ : ∃ x, x = ks i := ⟨_, rfl⟩
      obtain ⟨y, ey⟩ : ∃ y, y = ks (16 + i) := ⟨_, rfl⟩
      have g0 : wr.cell? ⟨B, i, none⟩ = some (.int .u8 (x.toNat : Int)) := by rw [h0.cell, EK.out, key32_at' ks i e7, ex]; rfl
      have g1 : wr.cell? ⟨B, 16 + i, none⟩ = some (.int .u8 (y.toNat : Int)) := by rw [h0.cell, EK.out, key32_at' ks (16 + i) e6, ey]; rfl
      have f3 := h3.frozen
      have f4 := h4.frozen
      have c3 := h3.cell i
      have c4 := h4.cell i
      rw [key16_at _ _ e3] at c3 c4
      simp only [bv] at c3 c4
      have H0 := Lib.hid h0; clear h0
      have H1 := Lib.hid h1; clear h1
      have H2 := Lib.hid h2; clear h2
      have H3 := Lib.hid h3; clear h3
      have H4 := Lib.hid h4; clear h4
      have hw : IntKind.i64.wrap ((16 : Int) + (i : Int)) = (16 : Int) + (i : Int) := by rw [IntKind.wrap_i64]; omega
      have EX := Lib.hid ex; clear ex
      have EY := Lib.hid ey; clear ey
      have HX := Lib.hid hx; clear hx
      have HI := Lib.hid hi; clear hi
      go_wp2_with fail
      go_region
      all_goals go_wp2_with fail
      all_goals
        go_roundw
        case rel =>
          have s3 := H3.out.set i (bv x)
          rw [EX.out, hk_set ks i e3, ← EX.out] at s3
          have s4 := (Si.Blk.far H4.out ⟨B + 3, i, none⟩ (bv x) (by simp)).set i (bv y)
          rw [EY.out, show ks (16 + i) = k2 ks i from rfl, hk_set (k2 ks) i e3] at s4
          refine ⟨i + 1, by omega, by go_num, ?_, ?_, ?_, ?_, ?_, ?_, ?_⟩
          · exact below_drewN (Si.below_set (Si.below_set HB.out (by simp; omega) _) (by simp; omega) _) 1
          · simpa [World.setCell] using HS.out
          · exact Si.Blk.far (Si.Blk.far H0.out ⟨B + 3, i, none⟩ _ (show B + 3 ≠ B by omega)) ⟨B + 4, i, none⟩ _ (show B + 4 ≠ B by omega)
          · exact Si.Blk.far (Si.Blk.far H1.out ⟨B + 3, i, none⟩ _ (show B + 3 ≠ B + 1 by omega)) ⟨B + 4, i, none⟩ _ (show B + 4 ≠ B + 1 by omega)
          · exact Si.Blk.far (Si.Blk.far H2.out ⟨B + 3, i, none⟩ _ (show B + 3 ≠ B + 2 by omega)) ⟨B + 4, i, none⟩ _ (show B + 4 ≠ B + 2 by omega)
          · exact Si.Blk.far s3 ⟨B + 4, i, none⟩ _ (show B + 4 ≠ B + 3 by omega)
          · exact (by have e := s4; rw [show bv (k2 ks i) = bv y from by rw [EY.out]; rfl] at e; exact e)
        case measure => simp [intOf]; omega
end Go.Proofs.YtcjibpjdfhhhkaaGreat.Se
end

section
set_option linter.unusedVariables false
namespace Go.Proofs.YtcjibpjdfhhhkaaGreat.Se
open Go.RowKit Go.Proofs.YtcjibpjdfhhhkaaGreat.Mem

set_option maxRecDepth 100000 in
set_option maxHeartbeats 1600000 in
theorem dbig (N : Nat) (w : World) (hN : N < 18446744073709551616) :
    Calls Tryz.prog 32 #[.int .u64 (N : Int)] w fun e w' => ∃ v, e = .returned v ∧ w'.ownsRow w.heap.size 5 1 v 8 (bvs (w8 N)) ∧ Below w.heap.size w w' := by
  obtain ⟨ib, hi0, hz0, hs0, hb0⟩ := info_parts Si.u8_info
  obtain ⟨B, eB⟩ : ∃ B, B = w.heap.size := ⟨_, rfl⟩
  have EB := Lib.hid eB; clear eB
  have HN := Lib.hid hN; clear hN
  go_enter Tryz.func32, Tryz.ntmps32
  go_wp2_with fail
  go_loopw [3, 4] (fun bv_ iv wr => ∃ j : Nat, j ≤ 8 ∧ iv = .int .i64 (7 - (j : Int)) ∧ wr.ownsRow B 5 1 bv_ j (laid [] N j) ∧ Below B w wr) (fun _ iv _ => (intOf iv + 1).toNat)
  case atStart => exact ⟨0, by decide, rfl, ⟨rfl, .inl ⟨rfl, rfl⟩⟩, Below.refl _ _⟩
  case round =>
    obtain ⟨j, hj, rfl, hown, hbl⟩ := hrel
    have HR := Lib.hid hown; clear hown
    have HW := Lib.hid hbl; clear hbl
    by_cases hx : j = 8
    · subst hx
      go_wp2_with fail
      go_ret
      exact ⟨_, rfl, by have := HR.out; rw [laid_8, List.nil_append] at this; exact EB.out ▸ this, EB.out ▸ HW.out⟩
    · obtain ⟨k, ek⟩ : ∃ k : Nat, k = 7 - j := ⟨_, rfl⟩
      obtain ⟨m, em⟩ : ∃ m : Nat, m = 56 - 8 * j := ⟨_, rfl⟩
      have hk : (7 : Int) - (j : Int) = (k : Int) := by omega
      rw [hk]
      have hx3 : j < 8 := by omega
      have hm8 : (8 : Int) * (k : Int) = (m : Int) := by omega
      have hx4 : m < 64 := by omega
      have hx5 : (m : Int) < 64 := by omega
      have hx6 : (0 : Int) ≤ (m : Int) := by omega
      have hx7 : min m 64 = m := by omega
      have hx8 : (0 : Int) ≤ (k : Int) := by omega
      have hx9 : (k : Int) ≤ 7 := by omega
      have hnx := laid_next [] N j hx3
      have hv : bv (UInt8.ofNat (N / 2 ^ (56 - 8 * j))) = .int .u8 ((N : Int) / 2 ^ m % 256) := by
        unfold bv; rw [UInt8.toNat_ofNat', ← em]; congr 1
      rw [hv] at hnx
      have NX := Lib.hid hnx; clear hnx
      have EM := Lib.hid em; clear em
      have EK := Lib.hid ek; clear ek
      have HX := Lib.hid hx; clear hx
      have HJ := Lib.hid hj; clear hj
      have HX3 := Lib.hid hx3; clear hx3
      clear hk hv
      go_wp2_with (first | (at_builtin; refine wpList_append_rd _ (by rfl) (.tmp 9) (.tmp 16) 46 (by rfl) B 5 ib _ 1 Tryz.underlying46 hi0 hz0 hs0 hb0 (by rfl) _ j (laid [] N j) (by rfl) (own_push HR.out (by rfl)) (wr.heap.size + 1) (some ⟨wr.heap.size, 0, none⟩) 1 1 [.int .u8 ((N : Int) / 2 ^ m % 256)] (by rfl) (by rfl) (Si.rd_words wr 5 _ [.int .u8 ((N : Int) / 2 ^ m % 256)] (by rfl) _ rfl) (by simp [Value.oneCell']) (by have := HX3.out; unfold maxLen; omega) (by have := HX3.out; omega) (by have := EB.out; have := HW.out.size; simp; omega) ?_; intro v6 w6 hown6 hgrow6 hat6; have O6 := Lib.hid hown6; have G6 := Lib.hid hgrow6; clear hown6 hgrow6 hat6) | fail)
      go_roundw
      case rel =>
        refine ⟨j + 1, by have := HX3.out; omega, ?_, by rw [← NX.out]; exact O6.out, ?_⟩
        · exact congrArg (Value.int .i64) (by have := EK.out; have := HX3.out; omega)
        · exact (HW.out.alloc (by have := EB.out; have := HW.out.size; omega) _).grown G6.out (by have := EB.out; have := HW.out.size; simp; omega) (fun q hq => (HR.out.lt q hq).1)
      case measure => simp [intOf]

end Go.Proofs.YtcjibpjdfhhhkaaGreat.Se
end
