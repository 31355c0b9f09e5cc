/-
  RouteWalks walked.
-/
import Derived.Test.YtnalnhplcchdoaaRtAux
import Derived.Test.YtnalnhplcchdoaaRtRef4
import Derived.Test.YtnalnhplcchdoaaRtRef5
import Derived.Test.YtnalnhplcchdoaaRtWalk
import Derived.Deep.RegionHeld3
set_option linter.unusedVariables false
namespace Go.Proofs.Ytnalnhplcchdoaa.RtW
open Go.RowKit Go.Proofs.Ytnalnhplcchdoaa.Mem Go.Proofs.Ytnalnhplcchdoaa.Nm Go.Proofs.Ytnalnhplcchdoaa.Rt

/-- each is linked to the one behind it -/
def Along (T : Tp) (P : List L) : Prop := ∀ i, i + 1 < P.length → linkL T (pl P i) (pl P (i + 1)) = true
theorem along_more {T : Tp} {P : List L} {n : L} (h : Along T P) (hp : 0 < P.length) (hl : linkL T (pl P (P.length - 1)) n = true) : Along T (P ++ [n]) := by
  intro i hi
  simp only [List.length_append, List.length_singleton] at hi
  by_cases g : i + 1 < P.length
  · rw [pl_append_left (by omega), pl_append_left g]; exact h i g
  · have e : i = P.length - 1 := by omega
    rw [pl_append_left (by omega), pl_append_right (by omega), show i + 1 - P.length = 0 by omega, e]
    exact hl
theorem walk_good {T : Tp} {a b : L} : ∀ (g : Nat) (x : L) (l m : List L), l.length ≤ 5 → (a :: l).Nodup → b ∉ a :: l → Along T (a :: l) → pl (a :: l) l.length = x → x ≠ b → walkF T a b g x l = some m →
    (a :: (m ++ [b])).Nodup ∧ Along T (a :: (m ++ [b]))
  | 0, _, _, _, _, _, _, _, _, _, h => by cases h
  | g + 1, x, l, m, hl, hn, hb, ha, hx, hxb, h => by
    rw [walkF, if_neg hxb] at h
    cases hnx : nextO T x b with
    | none => rw [hnx] at h; cases h
    | some n =>
      rw [hnx] at h
      simp only at h
      have hlk : linkL T x n = true := by
        rw [nextO, if_neg hxb] at hnx
        exact List.find?_some hnx
      by_cases h2 : n = a ∨ n ∈ l
      · rw [if_pos h2] at h; cases h
      · rw [if_neg h2] at h
        have hna : n ∉ a :: l := by rw [List.mem_cons]; exact h2
        have hal := along_more (n := n) ha (by simp) (by rw [show (a :: l).length - 1 = l.length by simp, hx]; exact hlk)
        have hnd : (a :: l ++ [n]).Nodup := by
          rw [List.nodup_append]
          exact ⟨hn, by simp, fun p hp q hq e => hna (by rw [List.mem_singleton] at hq; rw [← hq, ← e]; exact hp)⟩
        by_cases h3 : n = b
        · rw [if_pos h3, if_neg (by omega)] at h
          cases g with
          | zero => cases h
          | succ g =>
            rw [walkF, if_pos h3] at h
            injection h with h
            subst h; subst h3
            exact ⟨hnd, hal⟩
        · rw [if_neg h3] at h
          by_cases h4 : 5 < (l ++ [n]).length
          · rw [if_pos h4] at h; cases h
          · rw [if_neg h4] at h
            refine walk_good g n (l ++ [n]) m (by omega) hnd ?_ hal ?_ h3 h
            · intro hm
              rw [List.mem_cons, List.mem_append, List.mem_singleton] at hm
              rcases hm with q | q | q
              · exact hb (by rw [q]; exact List.mem_cons_self)
              · exact hb (List.mem_cons_of_mem _ q)
              · exact h3 q.symm
            · rw [← List.cons_append, pl_append_right (by simp)]; simp [pl]
theorem walks_good {T : Tp} {x y : L} (hxy : x ≠ y) (h : wkB T x y = true) : (x :: (wkL T x y ++ [y])).Nodup ∧ Along T (x :: (wkL T x y ++ [y])) := by
  rw [wkB] at h
  rw [wkL]
  cases hw : walkO T x y with
  | none => rw [hw] at h; cases h
  | some m => exact walk_good 7 x [] m (by simp) (by simp) (by simpa using fun e => hxy e.symm) (fun i hi => by simp at hi) rfl hxy hw
theorem walks_empty {T : Tp} {x y : L} (h : wkB T x y = false) : wkL T x y = [] := by
  rw [wkB] at h
  rw [wkL]
  cases hw : walkO T x y with
  | none => rfl
  | some m => rw [hw] at h; cases h
theorem walks_self (T : Tp) (x : L) : wkL T x x = [] := by rw [wkL, walkO, walkF, if_pos rfl]; rfl
theorem nodup_place {Q : List L} {j : Nat} (h : Q.Nodup) (hj : j < Q.length) : pl Q j ∉ Q.take j := by
  intro hm
  obtain ⟨i, hi, e⟩ := mem_pl hm
  rw [List.length_take] at hi
  rw [pl_take (by omega)] at e
  have := nodup_pl h (i := i) (j := j) (by omega) hj e
  omega
theorem rd_cell2 {w : World} {B b o i : Nat} {ls : List L} (h : Rd w B (some ⟨b, o, none⟩) (strs ls)) (hi : i < ls.length) : w.cell? ⟨b, o + i, none⟩ = some (.string ⟨(pl ls i).toArray⟩) := rd_cell h hi
set_option maxHeartbeats 3200000 in
theorem walks_no (T : Tp) (v : Value) (a b : Int) (w : World) (hv : TpV w w.heap.size v T) (hs : bigN T ≤ 4000000000000000000) (hno : 3000 < bigN T ∨ isT T = false) :
    Calls Try.prog 5 #[v, .int .i64 a, .int .i64 b] w fun e w' => e = .returned (.bool true) ∧ Below w.heap.size w w' := by
  have hv' := hv
  obtain ⟨v1, v2, v3, rfl, ⟨A1, d1, rfl, hc1, r1⟩, ⟨A2, d2, rfl, hc2, r2⟩, ⟨A3, d3, rfl, hc3, r3⟩⟩ := hv'
  have hbb := (Below.refl w.heap.size w).alloc (Nat.le_refl _) (.cells #[.slice A1 T.R.length d1, .slice A2 T.K.length d2, .slice A3 T.P.length d3] 26)
  have HB := Lib.hid hbb
  have HK := Lib.hid (Blk.new w 26 #[.slice A1 T.R.length d1, .slice A2 T.K.length d2, .slice A3 T.P.length d3])
  have c1 := big_any T _ w.heap.size _ (hv.below hbb) hbb.size hs
  clear r1 r2 r3 hc1 hc2 hc3 hbb
  by_cases hg : 3000 < bigN T
  · rw [decide_eq_true hg] at c1
    clear hg hs hv hno
    go_enter Try.func5, Try.ntmps5
    go_wp2_with (go_at_call 12; refine Calls.mono c1 ?_; rintro e w1 ⟨rfl, hb⟩; clear c1; replace HB := Lib.hid (HB.out.trans (hb.mono HB.out.size)); clear hb)
    go_ret
    exact ⟨rfl, HB.out⟩
  · rw [decide_eq_false hg] at c1
    have hsm := big_sm (Nat.le_of_not_lt hg)
    have RIS := Lib.hid (fun w1 (h : Below w.heap.size w w1) => rist_any T _ w.heap.size w1 hsm (hv.below h) h.size)
    rw [hno.elim (fun h => absurd h hg) id] at RIS
    clear hg hs hv hsm hno
    go_enter Try.func5, Try.ntmps5
    go_wp2_with (first
      | (go_at_call 12; refine Calls.mono c1 ?_; rintro e w1 ⟨rfl, hb⟩; clear c1; replace HK := Lib.hid (HK.out.below hb); replace HB := Lib.hid (HB.out.trans (hb.mono HB.out.size)); clear hb; have k0 := HK.out.cell 0; have k1 := HK.out.cell 1; have k2 := HK.out.cell 2; simp only [List.getElem?_toArray, List.getElem?_cons_zero, List.getElem?_cons_succ] at k0 k1 k2)
      | (go_at_call 14; refine Calls.mono (RIS.out _ HB.out) ?_; rintro e w2 ⟨rfl, hb⟩; clear k0 k1 k2; replace HK := Lib.hid (HK.out.below hb); replace HB := Lib.hid (HB.out.trans (hb.mono HB.out.size)); clear hb))
    go_ret
    exact ⟨rfl, HB.out⟩

set_option maxHeartbeats 6400000 in
set_option maxRecDepth 100000 in
theorem walks_yes (T : Tp) (v : Value) (a b : Int) (w : World) (hv : TpV w w.heap.size v T) (hg : bigN T ≤ 3000) (hx : isT T = true) :
    Calls Try.prog 5 #[v, .int .i64 a, .int .i64 b] w fun e w' => e = .returned (.bool true) ∧ Below w.heap.size w w' := by
  have hv' := hv
  obtain ⟨v1, v2, v3, rfl, ⟨A1, d1, rfl, hc1, r1⟩, ⟨A2, d2, rfl, hc2, r2⟩, ⟨A3, d3, rfl, hc3, r3⟩⟩ := hv'
  have hbb := (Below.refl w.heap.size w).alloc (Nat.le_refl _) (.cells #[.slice A1 T.R.length d1, .slice A2 T.K.length d2, .slice A3 T.P.length d3] 26)
  have HB := Lib.hid hbb
  have HK := Lib.hid (Blk.new w 26 #[.slice A1 T.R.length d1, .slice A2 T.K.length d2, .slice A3 T.P.length d3])
  have c1 := big_any T _ w.heap.size _ (hv.below hbb) hbb.size (by omega)
  rw [decide_eq_false (by omega)] at c1
  have hsm := big_sm hg
  have hln := ist_len hx
  have RIS := Lib.hid (fun w1 (h : Below w.heap.size w w1) => rist_any T _ w.heap.size w1 hsm (hv.below h) h.size)
  rw [hx] at RIS
  have PK := Lib.hid (fun k w1 (h : Below w.heap.size w w1) => pick_any T _ w.heap.size k w1 (hv.below h) h.size hln.1 (by omega))
  obtain ⟨x, ex⟩ : ∃ x, x = pl T.R (pickI T a) := ⟨_, rfl⟩
  obtain ⟨y, ey⟩ : ∃ y, y = pl T.R (pickI T b) := ⟨_, rfl⟩
  have hx3 := real_small hsm (pickI T a)
  have hy3 := real_small hsm (pickI T b)
  have P1 := Lib.hid (PK.out a); have P2 := Lib.hid (PK.out b)
  rw [← ex] at P1 hx3
  rw [← ey] at P2 hy3
  have WK := Lib.hid (fun w1 (h : Below w.heap.size w w1) => walk_any T _ w.heap.size x y w1 hsm (hv.below h) h.size (by omega) (by omega))
  have LK := Lib.hid (fun r s w1 (h : Below w.heap.size w w1) => rlinked_any T _ w.heap.size r s w1 hsm (hv.below h) h.size)
  have WN := Lib.hid (walks_empty (T := T) (x := x) (y := y))
  have WS := Lib.hid (walks_self T x)
  have WG := Lib.hid (walks_good (T := T) (x := x) (y := y))
  have HL := Lib.hid (wk_len T x y)
  have CK := Lib.hid (fun w1 => known_any w1)
  clear r1 r2 r3 hc1 hc2 hc3 hbb hv hg hx hsm hln hx3 hy3 ex ey PK
  cases hok : wkB T x y with
  | false =>
    have hw := WN.out hok
    rw [hok, hw] at WK
    clear hok hw
    go_enter Try.func5, Try.ntmps5
    go_wp2_with (first
      | (go_at_call 12; refine Calls.mono c1 ?_; rintro e w1 ⟨rfl, hb⟩; clear c1; replace HK := Lib.hid (HK.out.below hb); replace HB := Lib.hid (HB.out.trans (hb.mono HB.out.size)); clear hb; have k0 := HK.out.cell 0; have k1 := HK.out.cell 1; have k2 := HK.out.cell 2; simp only [List.getElem?_toArray, List.getElem?_cons_zero, List.getElem?_cons_succ] at k0 k1 k2)
      | (go_at_call 14; refine Calls.mono (RIS.out _ HB.out) ?_; rintro e w2 ⟨rfl, hb⟩; clear k0 k1 k2; replace HK := Lib.hid (HK.out.below hb); replace HB := Lib.hid (HB.out.trans (hb.mono HB.out.size)); clear hb))
    replace HK := Lib.hid (show Blk w2.drew _ _ _ from HK.out.drewN 1)
    replace HB := Lib.hid (show Below _ _ w2.drew from below_drewN HB.out 1)
    go_region_held3 (fun w' => w'.cell? ⟨w.heap.size, 0, none⟩ = some (.slice A1 T.R.length d1) ∧ w'.cell? ⟨w.heap.size, 1, none⟩ = some (.slice A2 T.K.length d2) ∧ w'.cell? ⟨w.heap.size, 2, none⟩ = some (.slice A3 T.P.length d3)) (exact ⟨HK.out.cell 0, HK.out.cell 1, HK.out.cell 2⟩) ((first
      | (go_at_call 16; with_reducible refine Calls.mono (P1.out _ HB.out) ?_; rintro e wx ⟨rfl, hb⟩; replace HK := Lib.hid (HK.out.below hb); replace HB := Lib.hid (HB.out.trans (hb.mono HB.out.size)); clear P1; clear hb)
      | (go_at_call 16; with_reducible refine Calls.mono (P2.out _ HB.out) ?_; rintro e wx ⟨rfl, hb⟩; replace HK := Lib.hid (HK.out.below hb); replace HB := Lib.hid (HB.out.trans (hb.mono HB.out.size)); clear P2; clear hb)))
    have k0 := HK.out.cell 0; have k1 := HK.out.cell 1; have k2 := HK.out.cell 2; simp only [List.getElem?_toArray, List.getElem?_cons_zero, List.getElem?_cons_succ] at k0 k1 k2
    go_wp2_with (first
      | (go_at_call 19; with_reducible refine Calls.mono (WK.out _ HB.out) ?_; rintro e wx ⟨u1, rfl, ho, hb⟩; clear k0 k1 k2; replace HK := Lib.hid (HK.out.below hb); replace HB := Lib.hid (HB.out.trans (hb.mono HB.out.size)); obtain ⟨A5, c5, e5, r5⟩ := ho.slice; subst e5; have HR5 := Lib.hid r5; clear ho r5; clear hb; have k0 := HK.out.cell 0; have k1 := HK.out.cell 1; have k2 := HK.out.cell 2; simp only [List.getElem?_toArray, List.getElem?_cons_zero, List.getElem?_cons_succ] at k0 k1 k2)
      | (go_at_call 15; with_reducible refine Calls.mono (CK.out _) ?_; rintro e wx ⟨rfl, hb⟩; clear k0 k1 k2; replace HK := Lib.hid (HK.out.below hb); replace HB := Lib.hid (HB.out.trans (hb.mono HB.out.size)); clear hb; have k0 := HK.out.cell 0; have k1 := HK.out.cell 1; have k2 := HK.out.cell 2; simp only [List.getElem?_toArray, List.getElem?_cons_zero, List.getElem?_cons_succ] at k0 k1 k2))
    go_ret
    exact ⟨rfl, HB.out⟩
  | true =>
    rw [hok] at WK
    by_cases hxy : x = y
    · have t1 : (x == y) = true := by simpa using hxy
      have hw := WS.out
      rw [← hxy] at WK t1 P2
      rw [hw] at WK
      clear hok hw hxy WG WN HL LK
      go_enter Try.func5, Try.ntmps5
      go_wp2_with (first
        | (go_at_call 12; refine Calls.mono c1 ?_; rintro e w1 ⟨rfl, hb⟩; clear c1; replace HK := Lib.hid (HK.out.below hb); replace HB := Lib.hid (HB.out.trans (hb.mono HB.out.size)); clear hb; have k0 := HK.out.cell 0; have k1 := HK.out.cell 1; have k2 := HK.out.cell 2; simp only [List.getElem?_toArray, List.getElem?_cons_zero, List.getElem?_cons_succ] at k0 k1 k2)
        | (go_at_call 14; refine Calls.mono (RIS.out _ HB.out) ?_; rintro e w2 ⟨rfl, hb⟩; clear k0 k1 k2; replace HK := Lib.hid (HK.out.below hb); replace HB := Lib.hid (HB.out.trans (hb.mono HB.out.size)); clear hb))
      replace HK := Lib.hid (show Blk w2.drew _ _ _ from HK.out.drewN 1)
      replace HB := Lib.hid (show Below _ _ w2.drew from below_drewN HB.out 1)
      go_region_held3 (fun w' => w'.cell? ⟨w.heap.size, 0, none⟩ = some (.slice A1 T.R.length d1) ∧ w'.cell? ⟨w.heap.size, 1, none⟩ = some (.slice A2 T.K.length d2) ∧ w'.cell? ⟨w.heap.size, 2, none⟩ = some (.slice A3 T.P.length d3)) (exact ⟨HK.out.cell 0, HK.out.cell 1, HK.out.cell 2⟩) ((first
        | (go_at_call 16; with_reducible refine Calls.mono (P1.out _ HB.out) ?_; rintro e wx ⟨rfl, hb⟩; replace HK := Lib.hid (HK.out.below hb); replace HB := Lib.hid (HB.out.trans (hb.mono HB.out.size)); clear P1; clear hb)
        | (go_at_call 16; with_reducible refine Calls.mono (P2.out _ HB.out) ?_; rintro e wx ⟨rfl, hb⟩; replace HK := Lib.hid (HK.out.below hb); replace HB := Lib.hid (HB.out.trans (hb.mono HB.out.size)); clear P2; clear hb)))
      have k0 := HK.out.cell 0; have k1 := HK.out.cell 1; have k2 := HK.out.cell 2; simp only [List.getElem?_toArray, List.getElem?_cons_zero, List.getElem?_cons_succ] at k0 k1 k2
      go_wp2_with (first
        | (go_at_call 19; with_reducible refine Calls.mono (WK.out _ HB.out) ?_; rintro e wx ⟨u1, rfl, ho, hb⟩; clear k0 k1 k2; replace HK := Lib.hid (HK.out.below hb); replace HB := Lib.hid (HB.out.trans (hb.mono HB.out.size)); obtain ⟨A5, c5, e5, r5⟩ := ho.slice; subst e5; have HR5 := Lib.hid r5; clear ho r5; clear hb; have k0 := HK.out.cell 0; have k1 := HK.out.cell 1; have k2 := HK.out.cell 2; simp only [List.getElem?_toArray, List.getElem?_cons_zero, List.getElem?_cons_succ] at k0 k1 k2)
        | (go_at_call 15; with_reducible refine Calls.mono (CK.out _) ?_; rintro e wx ⟨rfl, hb⟩; clear k0 k1 k2; replace HK := Lib.hid (HK.out.below hb); replace HB := Lib.hid (HB.out.trans (hb.mono HB.out.size)); clear hb; have k0 := HK.out.cell 0; have k1 := HK.out.cell 1; have k2 := HK.out.cell 2; simp only [List.getElem?_toArray, List.getElem?_cons_zero, List.getElem?_cons_succ] at k0 k1 k2))
      go_ret
      exact ⟨rfl, HB.out⟩
    · have t1 : (x == y) = false := by simpa using hxy
      have hgd := WG.out hxy hok
      obtain ⟨U, eU⟩ : ∃ U, U = wkL T x y := ⟨_, rfl⟩
      rw [← eU] at WK hgd HL
      clear hok hxy WG WN WS eU
      have HQ := Lib.hid hgd; clear hgd
      go_enter Try.func5, Try.ntmps5
      go_wp2_with (first
        | (go_at_call 12; refine Calls.mono c1 ?_; rintro e w1 ⟨rfl, hb⟩; clear c1; replace HK := Lib.hid (HK.out.below hb); replace HB := Lib.hid (HB.out.trans (hb.mono HB.out.size)); clear hb; have k0 := HK.out.cell 0; have k1 := HK.out.cell 1; have k2 := HK.out.cell 2; simp only [List.getElem?_toArray, List.getElem?_cons_zero, List.getElem?_cons_succ] at k0 k1 k2)
        | (go_at_call 14; refine Calls.mono (RIS.out _ HB.out) ?_; rintro e w2 ⟨rfl, hb⟩; clear k0 k1 k2; replace HK := Lib.hid (HK.out.below hb); replace HB := Lib.hid (HB.out.trans (hb.mono HB.out.size)); clear hb))
      replace HK := Lib.hid (show Blk w2.drew _ _ _ from HK.out.drewN 1)
      replace HB := Lib.hid (show Below _ _ w2.drew from below_drewN HB.out 1)
      go_region_held3 (fun w' => w'.cell? ⟨w.heap.size, 0, none⟩ = some (.slice A1 T.R.length d1) ∧ w'.cell? ⟨w.heap.size, 1, none⟩ = some (.slice A2 T.K.length d2) ∧ w'.cell? ⟨w.heap.size, 2, none⟩ = some (.slice A3 T.P.length d3)) (exact ⟨HK.out.cell 0, HK.out.cell 1, HK.out.cell 2⟩) ((first
        | (go_at_call 16; with_reducible refine Calls.mono (P1.out _ HB.out) ?_; rintro e wx ⟨rfl, hb⟩; replace HK := Lib.hid (HK.out.below hb); replace HB := Lib.hid (HB.out.trans (hb.mono HB.out.size)); clear P1; clear hb)
        | (go_at_call 16; with_reducible refine Calls.mono (P2.out _ HB.out) ?_; rintro e wx ⟨rfl, hb⟩; replace HK := Lib.hid (HK.out.below hb); replace HB := Lib.hid (HB.out.trans (hb.mono HB.out.size)); clear P2; clear hb)))
      have k0 := HK.out.cell 0; have k1 := HK.out.cell 1; have k2 := HK.out.cell 2; simp only [List.getElem?_toArray, List.getElem?_cons_zero, List.getElem?_cons_succ] at k0 k1 k2
      go_wp2_with (first
        | (go_at_call 19; with_reducible refine Calls.mono (WK.out _ HB.out) ?_; rintro e W0 ⟨u1, rfl, ho, hb⟩; clear k0 k1 k2; replace HK := Lib.hid (HK.out.below hb); replace HB := Lib.hid (HB.out.trans (hb.mono HB.out.size)); obtain ⟨A5, c5, e5, r5⟩ := ho.slice; subst e5; have HR5 := Lib.hid r5; clear ho r5; clear hb; have k0 := HK.out.cell 0; have k1 := HK.out.cell 1; have k2 := HK.out.cell 2; simp only [List.getElem?_toArray, List.getElem?_cons_zero, List.getElem?_cons_succ] at k0 k1 k2)
        | (at_builtin; refine app_front rfl (.tmp 51) (.tmp 52) rfl x rfl A5 c5 U rfl HR5.out (by have := HL.out; omega) ?_; intro v2 w7 ho2 hb2; have HO2 := Lib.hid ho2; have H2 := Lib.hid hb2; clear ho2 hb2 HR5)
        | (at_builtin; refine app_one rfl (.tmp 53) (.tmp 55) rfl W0.heap.size _ (x :: U) rfl HO2.out y rfl (by have := HL.out; simp; omega) H2.out.size ?_; intro v3 w8 ho3 hb3; have H3 := Lib.hid (H2.out.trans hb3); have ho4 := own_sl ho3; obtain ⟨A6, c6, e6, hc6, r6⟩ := ho4; subst e6; have HC6 := Lib.hid hc6; have HR6 := Lib.hid r6; clear ho3 hb3 HO2 H2 hc6 r6))
      replace HK := Lib.hid (HK.out.below H3.out)
      replace HB := Lib.hid (HB.out.trans (H3.out.mono HB.out.size))
      clear k0 k1 k2
      obtain ⟨Q, eQ⟩ : ∃ Q, Q = x :: (U ++ [y]) := ⟨_, rfl⟩
      rw [← eQ] at HQ
      have HR6 := Lib.hid (show Rd w8 w8.heap.size A6 (strs Q) by rw [eQ]; exact HR6.out)
      have hql : Q.length = U.length + 1 + 1 := by rw [eQ]; simp
      have hcc : U.length + 1 + 1 ≤ c6 := by have h := HC6.out; simp at h; omega
      have hm5 := HL.out
      obtain ⟨b6, o6, eA6, _, _⟩ := rd_txt HR6.out (i := 0) (by omega)
      subst eA6
      have HN := Lib.hid HQ.out.1
      obtain ⟨m, em⟩ : ∃ m, m = U.length := ⟨_, rfl⟩
      rw [← em] at hql hcc hm5 ⊢
      have HLQ := Lib.hid hql
      clear eQ em HC6 HL H3 hql
      go_loopw [12] (fun iv wr => ∃ j : Nat, j ≤ m + 1 ∧ iv = .int .i64 ((j : Int) + 1) ∧ Below w.heap.size w wr ∧ Blk wr w.heap.size 26 #[.slice A1 T.R.length d1, .slice A2 T.K.length d2, .slice A3 T.P.length d3] ∧ Rd wr wr.heap.size (some ⟨b6, o6, none⟩) (strs Q)) (fun iv _ => m + 2 - (intOf iv).toNat)
      case atStart => exact ⟨0, Nat.zero_le _, rfl, HB.out, HK.out, HR6.out⟩
      case round =>
        obtain ⟨j, hj, rfl, hb, hk, hr⟩ := hrel
        clear HB HK HR6
        have HB := Lib.hid hb; have HK := Lib.hid hk; have HR6 := Lib.hid hr; clear hb hk hr
        by_cases hlt : j < m + 1
        · have e7 : IntKind.i64.wrap ((j : Int) + 1 - 1) = (j : Int) := (IntWalk.i64_in _ (by omega)).trans (by omega)
          have e7' : IntKind.i64.wrap (j : Int) = (j : Int) := IntWalk.i64_in _ (by omega)
          have e10 : (0 : Int) ≤ (j : Int) + 1 := by omega
          have e11 : (j : Int) + 1 < (m : Int) + 1 + 1 := by omega
          have e12 : ((j : Int) + 1).toNat = j + 1 := by omega
          have e8 : (0 : Int) ≤ (j : Int) := by omega
          have e9 : (j : Int) < (m : Int) + 1 + 1 := by omega
          have e13 : (j : Int) + 1 ≤ (c6 : Int) := by omega
          have hlk := HQ.out.2 j (by rw [HLQ.out]; omega)
          have c2 := LK.out (pl Q j) (pl Q (j + 1))
          rw [hlk] at c2
          have hnp := nodup_place HN.out (j := j + 1) (by rw [HLQ.out]; omega)
          obtain ⟨z, ez, hz⟩ := place_out hnp
          have z1 : decide (0 ≤ z) = false := decide_eq_false (by omega)
          have hlt1 : (Q.take (j + 1)).length = j + 1 := by rw [List.length_take, HLQ.out]; omega
          have c3 := fun w1 h => place_any (Q.take (j + 1)) (some ⟨b6, o6, none⟩) c6 (w1 : World).heap.size (pl Q (j + 1)) w1 (by omega) h
          rw [← ez, hlt1] at c3
          have C2 := Lib.hid c2; have C3 := Lib.hid c3
          have HPJ := Lib.hid (fun w1 (h : Rd w1 w1.heap.size (some ⟨b6, o6, none⟩) (strs Q)) => rd_cell h (i := j) (by rw [HLQ.out]; omega))
          have HPK := Lib.hid (fun w1 (h : Rd w1 w1.heap.size (some ⟨b6, o6, none⟩) (strs Q)) => rd_cell h (i := j + 1) (by rw [HLQ.out]; omega))
          have HTK := Lib.hid (fun w1 (h : Rd w1 w1.heap.size (some ⟨b6, o6, none⟩) (strs Q)) => rd_take (i := j + 1) h (by rw [HLQ.out]; omega))
          clear hlk c2 c3 hnp ez hz hlt1
          go_wp2
          replace HK := Lib.hid (show Blk wr.drew _ _ _ from HK.out.drewN 1)
          replace HB := Lib.hid (show Below _ _ wr.drew from below_drewN HB.out 1)
          replace HR6 := Lib.hid (show Rd wr.drew wr.drew.heap.size _ _ from HR6.out.drewN 1)
          go_region_held3 (fun w' => w'.cell? ⟨w.heap.size, 0, none⟩ = some (.slice A1 T.R.length d1) ∧ w'.cell? ⟨w.heap.size, 1, none⟩ = some (.slice A2 T.K.length d2) ∧ w'.cell? ⟨w.heap.size, 2, none⟩ = some (.slice A3 T.P.length d3) ∧ w'.cell? ⟨b6, o6 + j, none⟩ = some (.string ⟨(pl Q j).toArray⟩) ∧ w'.cell? ⟨b6, o6 + (j + 1), none⟩ = some (.string ⟨(pl Q (j + 1)).toArray⟩)) (exact ⟨HK.out.cell 0, HK.out.cell 1, HK.out.cell 2, HPJ.out _ HR6.out, HPK.out _ HR6.out⟩) ((first
            | (go_at_call 22; refine Calls.mono (C2.out _ HB.out) ?_; rintro e wx ⟨rfl, hb⟩; replace HK := Lib.hid (HK.out.below hb); replace HB := Lib.hid (HB.out.trans (hb.mono HB.out.size)); replace HR6 := Lib.hid ((HR6.out.below hb).more hb.size); clear hb)
            | (go_at_call 28; refine Calls.mono (C3.out _ (HTK.out _ HR6.out)) ?_; rintro e wx ⟨rfl, rfl⟩)))
          go_wp2
          go_roundw
          case rel => exact ⟨j + 1, by omega, by go_num, HB.out, HK.out, HR6.out⟩
          case measure => simp [intOf]; omega
        · have e1 : ¬ (j : Int) + 1 < (m : Int) + 1 + 1 := by omega
          have t5 : decide ((m : Int) ≤ 5) = true := decide_eq_true (by omega)
          go_wp2_with (go_at_call 15; refine Calls.mono (CK.out _) ?_; rintro e w9 ⟨rfl, hb⟩; replace HB := Lib.hid (HB.out.trans (hb.mono HB.out.size)); clear hb)
          go_ret
          exact ⟨rfl, HB.out⟩
theorem walks_ (T : Tp) (v : Value) (a b : Int) (w : World) (hv : TpV w w.heap.size v T) (hs : bigN T ≤ 4000000000000000000) (_ : (Lit.int .i64 a).wf = true) (_ : (Lit.int .i64 b).wf = true) :
    Calls Try.prog 5 #[v, .int .i64 a, .int .i64 b] w fun e w' => e = .returned (.bool true) ∧ Below w.heap.size w w' := by
  by_cases h : 3000 < bigN T ∨ isT T = false
  · exact walks_no T v a b w hv hs h
  · rw [not_or] at h
    exact walks_yes T v a b w hv (by omega) (by simpa using h.2)

end Go.Proofs.Ytnalnhplcchdoaa.RtW
