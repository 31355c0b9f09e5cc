/-
  The document's own of chapter 7: Linked, laid, Via.
-/
import Derived.Test.YtnalnhplcchdoaaRtRef
import Derived.Test.YtnalnhplcchdoaaRtLaid
import Derived.Test.YtnalnhplcchdoaaRtVia
set_option linter.unusedVariables false
namespace Go.Proofs.Ytnalnhplcchdoaa.Rt
open Go.RowKit Go.Proofs.Ytnalnhplcchdoaa.Mem Go.Proofs.Ytnalnhplcchdoaa.Nm

theorem link_at {T : Tp} {a b : L} {i : Nat} (hi : i < T.K.length) (h : kl T.K i = (a, b)) : linkL T a b = true := by rw [linkL, decide_eq_true_eq, ← h]; exact kl_mem hi
theorem link_no {T : Tp} {a b : L} (hn : ∀ k, k < T.K.length → kl T.K k ≠ (a, b)) : linkL T a b = false := by
  rw [linkL, decide_eq_false_iff_not]
  intro hm
  obtain ⟨i, hi, e⟩ := mem_kl hm
  exact hn i hi e
set_option maxHeartbeats 800000 in
theorem rlinked_any (T : Tp) (v : Value) (B : Nat) (a b : L) (w : World) (hs : Sm T) (hv : TpV w B v T) (hB : B ≤ w.heap.size) :
    Calls Try.prog 22 #[v, .string ⟨a.toArray⟩, .string ⟨b.toArray⟩] w fun e w' => e = .returned (.bool (linkL T a b)) ∧ Below w.heap.size w w' := by
  obtain ⟨v1, v2, v3, rfl, ⟨A1, d1, rfl, hc1, r1⟩, ⟨A2, d2, rfl, hc2, r2⟩, ⟨A3, d3, rfl, hc3, r3⟩⟩ := hv
  have hb := (Below.refl w.heap.size w).alloc (Nat.le_refl _) (.cells #[.slice A1 T.R.length d1, .slice A2 T.K.length d2, .slice A3 T.P.length d3] 26)
  have HR := Lib.hid (r2.below (hb.mono hB))
  have HB := Lib.hid hb
  have HK := Lib.hid (Blk.new w 26 #[.slice A1 T.R.length d1, .slice A2 T.K.length d2, .slice A3 T.P.length d3])
  have h3 := hs.k
  have LA := Lib.hid (fun i => @link_at T a b i); have LN := Lib.hid (@link_no T a b)
  obtain ⟨n, en⟩ : ∃ n, n = T.K.length := ⟨_, rfl⟩
  clear hb r1 r2 r3 hc1 hc2 hc3 hs
  rw [← en] at h3 HK HB HR LA LN
  rw [← en]
  have EN := Lib.hid en; clear en
  go_enter Try.func22, Try.ntmps22
  go_wp2
  obtain ⟨W, eW⟩ : ∃ W, W = w.alloc (.cells #[.slice A1 T.R.length d1, .slice A2 n d2, .slice A3 T.P.length d3] 26) := ⟨_, rfl⟩
  rw [← eW] at HB HK HR ⊢
  clear eW
  have k1 : W.cell? ⟨w.heap.size, 1, none⟩ = some (.slice A2 n d2) := HK.out.cell 1
  go_loop [7] (fun iv => ∃ i : Nat, i ≤ n ∧ iv = .int .i64 (i : Int) ∧ (∀ k, k < i → kl T.K k ≠ (a, b))) (fun iv => n - (intOf iv).toNat)
  case atStart => exact ⟨0, Nat.zero_le _, rfl, fun k h => absurd h (Nat.not_lt_zero k)⟩
  case round =>
    obtain ⟨i, hi, rfl, hn⟩ := hrel
    have HN := Lib.hid hn; clear hn
    by_cases hlt : i < n
    · have e1 : (i : Int) < (n : Int) := by omega
      have e2 : (0 : Int) ≤ (i : Int) := by omega
      obtain ⟨b1, o, rfl, _, h1, h2⟩ := rdp_at HR.out (i := i) (by rw [← EN.out]; exact hlt)
      by_cases hx : kl T.K i = (a, b)
      · have t1 := eql_yes (kl T.K i) (a, b) hx
        have E := Lib.hid (LA.out i hlt hx)
        clear hx
        go_wp2
        go_ret
        exact ⟨by rw [E.out]; rfl, HB.out⟩
      · have t1 := eql_no (kl T.K i) (a, b) hx
        have HX := Lib.hid hx; clear hx
        go_wp2
        go_round
        case rel => exact ⟨i + 1, by omega, by go_num, fun k hk => by
          by_cases q : k = i
          · rw [q]; exact HX.out
          · exact HN.out k (by omega)⟩
        case measure => simp [intOf]; omega
    · have e1 : ¬ (i : Int) < (n : Int) := by omega
      have E := Lib.hid (LN.out fun k hk => HN.out k (by omega))
      go_wp2
      go_ret
      exact ⟨by rw [E.out]; rfl, HB.out⟩

/-- where it is laid down, or -1 -/
def laidZ (T : Tp) (a b : L) : Int := if laidB T a b then (laidI T a b : Int) else -1
theorem laidz_yes {T : Tp} {a b : L} {i : Nat} (hi : i < T.P.length) (h : isP a b (al T.P i) = true) (hn : ∀ k, k < i → isP a b (al T.P k) = false) : laidZ T a b = (i : Int) := by
  rw [laidZ, (laidb_yes hi h hn).1, if_pos rfl, laid_at hi h hn]
theorem laidz_no {T : Tp} {a b : L} (hn : ∀ k, k < T.P.length → isP a b (al T.P k) = false) : laidZ T a b = -1 := by
  rw [laidZ, (laidb_no hn).1]; rfl
theorem laidz_ge (T : Tp) (a b : L) : decide (0 ≤ laidZ T a b) = laidB T a b := by
  rw [laidZ]
  cases laidB T a b <;> simp
set_option maxHeartbeats 800000 in
theorem rlaid_any (T : Tp) (v : Value) (B : Nat) (a b : L) (w : World) (hs : Sm T) (hv : TpV w B v T) (hB : B ≤ w.heap.size) :
    Calls Try.prog 39 #[v, .string ⟨a.toArray⟩, .string ⟨b.toArray⟩] w fun e w' => e = .returned (.int .i64 (laidZ T a b)) ∧ Below w.heap.size w w' := by
  obtain ⟨v1, v2, v3, rfl, ⟨A1, d1, rfl, hc1, r1⟩, ⟨A2, d2, rfl, hc2, r2⟩, ⟨A3, d3, rfl, hc3, r3⟩⟩ := hv
  have hb := (Below.refl w.heap.size w).alloc (Nat.le_refl _) (.cells #[.slice A1 T.R.length d1, .slice A2 T.K.length d2, .slice A3 T.P.length d3] 26)
  have HR := Lib.hid (r3.below (hb.mono hB))
  have HB := Lib.hid hb
  have HK := Lib.hid (Blk.new w 26 #[.slice A1 T.R.length d1, .slice A2 T.K.length d2, .slice A3 T.P.length d3])
  have h3 := hs.p
  have LA := Lib.hid (fun i => @laidz_yes T a b i); have LN := Lib.hid (@laidz_no T a b)
  obtain ⟨n, en⟩ : ∃ n, n = T.P.length := ⟨_, rfl⟩
  clear hb r1 r2 r3 hc1 hc2 hc3 hs
  rw [← en] at h3 HK HB HR LA LN
  rw [← en]
  have EN := Lib.hid en; clear en
  go_enter Try.func39, Try.ntmps39
  go_wp2
  obtain ⟨W, eW⟩ : ∃ W, W = w.alloc (.cells #[.slice A1 T.R.length d1, .slice A2 T.K.length d2, .slice A3 n d3] 26) := ⟨_, rfl⟩
  rw [← eW] at HB HK HR ⊢
  clear eW
  have k2 : W.cell? ⟨w.heap.size, 2, none⟩ = some (.slice A3 n d3) := HK.out.cell 2
  go_loop [7] (fun iv => ∃ i : Nat, i ≤ n ∧ iv = .int .i64 (i : Int) ∧ (∀ k, k < i → isP a b (al T.P k) = false)) (fun iv => n - (intOf iv).toNat)
  case atStart => exact ⟨0, Nat.zero_le _, rfl, fun k h => absurd h (Nat.not_lt_zero k)⟩
  case round =>
    obtain ⟨i, hi, rfl, hn⟩ := hrel
    have HN := Lib.hid hn; clear hn
    by_cases hlt : i < n
    · have e1 : (i : Int) < (n : Int) := by omega
      have e2 : (0 : Int) ≤ (i : Int) := by omega
      obtain ⟨b1, o, rfl, _, h1, h2, u, h3, h4⟩ := rda_at HR.out (i := i) (by rw [← EN.out]; exact hlt)
      clear h3 h4
      by_cases q1 : (al T.P i).f = a
      · have t1 : ((al T.P i).f == a) = true := by simpa using q1
        by_cases q2 : (al T.P i).t = b
        · have t2 : ((al T.P i).t == b) = true := by simpa using q2
          have E := Lib.hid (LA.out i hlt (isp_yes q1 q2) HN.out)
          clear q1 q2
          go_wp2
          go_ret
          exact ⟨by rw [E.out]; rfl, HB.out⟩
        · have t2 : ((al T.P i).t == b) = false := by simpa using q2
          have E := Lib.hid (isp_no2 (a := a) q2)
          clear q1 q2
          go_wp2
          go_round
          case rel => exact ⟨i + 1, by omega, by go_num, fun k hk => by
            by_cases q : k = i
            · rw [q]; exact E.out
            · exact HN.out k (by omega)⟩
          case measure => simp [intOf]; omega
      · have t1 : ((al T.P i).f == a) = false := by simpa using q1
        have E := Lib.hid (isp_no1 (b := b) q1)
        clear q1
        go_wp2
        go_round
        case rel => exact ⟨i + 1, by omega, by go_num, fun k hk => by
          by_cases q : k = i
          · rw [q]; exact E.out
          · exact HN.out k (by omega)⟩
        case measure => simp [intOf]; omega
    · have e1 : ¬ (i : Int) < (n : Int) := by omega
      have E := Lib.hid (LN.out fun k hk => HN.out k (by omega))
      go_wp2
      go_ret
      exact ⟨by rw [E.out]; rfl, HB.out⟩

set_option maxHeartbeats 800000 in
theorem rvia_any (T : Tp) (v : Value) (B : Nat) (a b : L) (w : World) (hs : Sm T) (hv : TpV w B v T) (hB : B ≤ w.heap.size) (ha : a.length ≤ 1000000000) (hb : b.length ≤ 1000000000) :
    Calls Try.prog 25 #[v, .string ⟨a.toArray⟩, .string ⟨b.toArray⟩] w fun e w' => ∃ u, e = .returned u ∧ SlV w' w'.heap.size u (viaL T a b) ∧ Below w.heap.size w w' := by
  have hv' := hv
  obtain ⟨v1, v2, v3, rfl, ⟨A1, d1, rfl, hc1, r1⟩, ⟨A2, d2, rfl, hc2, r2⟩, ⟨A3, d3, rfl, hc3, r3⟩⟩ := hv'
  have C2 := Lib.hid (fun w1 => rbetween_any a b w1 ha hb)
  have hbb := (Below.refl w.heap.size w).alloc (Nat.le_refl _) (.cells #[.slice A1 T.R.length d1, .slice A2 T.K.length d2, .slice A3 T.P.length d3] 26)
  have c1 := rlaid_any T _ B a b _ hs (hv.below (hbb.mono hB)) (Nat.le_trans hB hbb.size)
  have HR := Lib.hid (fun w1 (h : Below w.heap.size w w1) => r3.below (h.mono hB))
  have HB := Lib.hid hbb
  have HBB := Lib.hid hB
  have HK := Lib.hid (Blk.new w 26 #[.slice A1 T.R.length d1, .slice A2 T.K.length d2, .slice A3 T.P.length d3])
  have hg := laidz_ge T a b
  clear hbb r1 r2 r3 hc1 hc2 hc3 hs hv ha hb hB
  cases hx : laidB T a b with
  | false =>
    rw [via_no hx]
    rw [hx] at hg
    obtain ⟨z, ez⟩ : ∃ z, z = laidZ T a b := ⟨_, rfl⟩
    rw [← ez] at hg c1
    clear ez hx
    go_enter Try.func25, Try.ntmps25
    go_wp2_with (first
      | (go_at_call 39; refine Calls.mono c1 ?_; rintro e w1 ⟨rfl, hb⟩; clear c1; replace HB := Lib.hid (HB.out.trans (hb.mono HB.out.size)); clear hb)
      | (go_at_call 31; refine Calls.mono (C2.out w1) ?_; rintro e w2 ⟨u2, rfl, ho, hb⟩; have HO := Lib.hid (own_sl ho); replace HB := Lib.hid (HB.out.trans (hb.mono HB.out.size)); clear hb ho))
    go_ret
    exact ⟨_, rfl, HO.out, HB.out⟩
  | true =>
    rw [via_of hx]
    rw [hx] at hg
    have hlt : laidI T a b < T.P.length := by rw [laidB, decide_eq_true_eq] at hx; exact hx
    have hz : laidZ T a b = (laidI T a b : Int) := by rw [laidZ, hx, if_pos rfl]
    rw [hz] at hg c1
    have EV := Lib.hid (show vL T a b = (al T.P (laidI T a b)).v from rfl)
    have HAT := Lib.hid (fun w1 h => rda_at (HR.out w1 h) hlt)
    obtain ⟨i, ei⟩ : ∃ i, i = laidI T a b := ⟨_, rfl⟩
    rw [← ei] at hlt EV HAT hg c1
    obtain ⟨n, en⟩ : ∃ n, n = T.P.length := ⟨_, rfl⟩
    rw [← en] at hlt HK HB c1
    rw [← en, EV.out]
    have e1 : (i : Int) < (n : Int) := by omega
    have e2 : (0 : Int) ≤ (i : Int) := by omega
    clear hz hx ei en hlt
    go_enter Try.func25, Try.ntmps25
    go_wp2_with (go_at_call 39; refine Calls.mono c1 ?_; rintro e w1 ⟨rfl, hb⟩; clear c1; replace HK := Lib.hid (HK.out.below hb); replace HB := Lib.hid (HB.out.trans (hb.mono HB.out.size)); clear hb; have k2 := HK.out.cell 2; simp only [List.getElem?_toArray, List.getElem?_cons_zero, List.getElem?_cons_succ] at k2; obtain ⟨b1, o, rfl, _, h1, h2, u, h3, h4⟩ := HAT.out w1 HB.out; have h4' := h4; obtain ⟨A5, d5, eu, _⟩ := h4'; subst eu; have H4 := Lib.hid h4; clear h1 h2 h4)
    go_ret
    exact ⟨_, rfl, H4.out.more (Nat.le_trans HBB.out HB.out.size), HB.out⟩
end Go.Proofs.Ytnalnhplcchdoaa.Rt
