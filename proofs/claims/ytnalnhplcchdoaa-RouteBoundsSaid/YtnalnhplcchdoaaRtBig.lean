/-
  What the laws of chapter 7 call of their own: how large a topology is.
-/
import Derived.Test.YtnalnhplcchdoaaRtKnown
set_option linter.unusedVariables false
namespace Go.Proofs.Ytnalnhplcchdoaa.Rt
open Go.RowKit Go.Proofs.Ytnalnhplcchdoaa.Mem Go.Proofs.Ytnalnhplcchdoaa.Nm

section
variable {α : Type} (f : α → Nat)
def sumF (l : List α) : Nat := (l.map f).sum
theorem sumf_append (a b : List α) : sumF f (a ++ b) = sumF f a + sumF f b := by simp [sumF]
theorem sumf_take {l : List α} {i : Nat} (h : i < l.length) : sumF f (l.take (i + 1)) = sumF f (l.take i) + f l[i] := by
  rw [take_succ h, sumf_append]; simp [sumF]
theorem sumf_le (l : List α) (i : Nat) : sumF f (l.take i) ≤ sumF f l := by
  have := sumf_append f (l.take i) (l.drop i)
  rw [List.take_append_drop] at this
  omega
theorem sumf_all {l : List α} {i : Nat} (h : l.length ≤ i) : sumF f (l.take i) = sumF f l := by rw [List.take_of_length_le h]
theorem sumf_mem {l : List α} {x : α} (h : x ∈ l) : f x ≤ sumF f l := by
  induction l with
  | nil => cases h
  | cons a t ih =>
    simp only [sumF, List.map_cons, List.sum_cons] at ih ⊢
    rcases List.mem_cons.1 h with g | g
    · rw [g]; omega
    · have := ih g; omega
theorem sumf_len {l : List α} (h : ∀ x, 1 ≤ f x) : l.length ≤ sumF f l := by
  induction l with
  | nil => simp
  | cons a t ih => have := h a; simp only [sumF, List.map_cons, List.sum_cons, List.length_cons] at ih ⊢; omega
end
def szL (x : L) : Nat := 1 + x.length
def szP (p : Pr) : Nat := 1 + p.1.length + p.2.length
def szA (p : Pa) : Nat := 1 + p.f.length + p.t.length + sumF szL p.v
def bigN (T : Tp) : Nat := sumF szL T.R + sumF szP T.K + sumF szA T.P
/-- what is looked at is small -/
theorem big_sm {T : Tp} (h : bigN T ≤ 3000) : Sm T := by
  rw [bigN] at h
  have l1 : ∀ ls : List L, ls.length ≤ sumF szL ls := fun ls => sumf_len szL (fun x => by rw [szL]; omega)
  have m1 : ∀ (ls : List L) x, x ∈ ls → x.length ≤ sumF szL ls := fun ls x hx => by have := sumf_mem szL hx; rw [szL] at this; omega
  have a1 : ∀ p ∈ T.P, sumF szL p.v ≤ sumF szA T.P := fun p hp => by have := sumf_mem szA hp; rw [szA] at this; omega
  refine ⟨by have := l1 T.R; omega, ?_, ?_, fun x hx => by have := m1 T.R x hx; omega, fun q hq => by have := a1 q hq; have := l1 q.v; omega, fun q hq x hx => by have := a1 q hq; have := m1 q.v x hx; omega⟩
  · have := sumf_len (l := T.K) szP (fun x => by rw [szP]; omega); omega
  · have := sumf_len (l := T.P) szA (fun x => by rw [szA]; omega); omega

set_option maxHeartbeats 3200000 in
theorem big_any (T : Tp) (v : Value) (B : Nat) (w : World) (hv : TpV w B v T) (hB : B ≤ w.heap.size) (hs : bigN T ≤ 4000000000000000000) :
    Calls Try.prog 12 #[v] w fun e w' => e = .returned (.bool (decide (3000 < bigN T))) ∧ Below w.heap.size w w' := by
  obtain ⟨v1, v2, v3, rfl, ⟨A1, d1, rfl, hc1, r1⟩, ⟨A2, d2, rfl, hc2, r2⟩, ⟨A3, d3, rfl, hc3, r3⟩⟩ := hv
  have hb := (Below.refl w.heap.size w).alloc (Nat.le_refl _) (.cells #[.slice A1 T.R.length d1, .slice A2 T.K.length d2, .slice A3 T.P.length d3] 26)
  have HB := Lib.hid hb
  have HR := Lib.hid (r1.below (hb.mono hB))
  have HRP := Lib.hid (r2.below (hb.mono hB))
  have HRA := Lib.hid (r3.below (hb.mono hB))
  have HK := Lib.hid (Blk.new w 26 #[.slice A1 T.R.length d1, .slice A2 T.K.length d2, .slice A3 T.P.length d3])
  have l1 := sumf_len (l := T.R) szL (fun x => by rw [szL]; omega)
  have l2 := sumf_len (l := T.K) szP (fun x => by rw [szP]; omega)
  have l3 := sumf_len (l := T.P) szA (fun x => by rw [szA]; omega)
  have EB := Lib.hid (show bigN T = sumF szL T.R + sumF szP T.K + sumF szA T.P from rfl)
  rw [EB.out] at hs
  have T1 := Lib.hid (fun i => sumf_le szL T.R i); have T2 := Lib.hid (fun i => sumf_le szP T.K i); have T3 := Lib.hid (fun i => sumf_le szA T.P i)
  obtain ⟨X, eX⟩ : ∃ X, X = sumF szL T.R := ⟨_, rfl⟩
  obtain ⟨Y, eY⟩ : ∃ Y, Y = sumF szP T.K := ⟨_, rfl⟩
  obtain ⟨Z, eZ⟩ : ∃ Z, Z = sumF szA T.P := ⟨_, rfl⟩
  rw [← eX] at hs l1 EB T1
  rw [← eY] at hs l2 EB T2
  rw [← eZ] at hs l3 EB T3
  rw [EB.out]
  have EX := Lib.hid eX; have EY := Lib.hid eY; have EZ := Lib.hid eZ
  obtain ⟨n, en⟩ : ∃ n, n = T.R.length := ⟨_, rfl⟩
  obtain ⟨m, em⟩ : ∃ m, m = T.K.length := ⟨_, rfl⟩
  obtain ⟨k, ek⟩ : ∃ k, k = T.P.length := ⟨_, rfl⟩
  clear hb r1 r2 r3 hc1 hc2 hc3 hB eX eY eZ EB
  rw [← en, ← em, ← ek] at HB HR HRP HRA HK
  rw [← en] at l1
  rw [← em] at l2
  rw [← ek] at l3
  rw [← en, ← em, ← ek]
  have EN := Lib.hid en; have EM := Lib.hid em; have EK := Lib.hid ek
  clear en em ek
  go_enter Try.func12, Try.ntmps12
  go_wp2
  obtain ⟨W, eW⟩ : ∃ W, W = w.alloc (.cells #[.slice A1 n d1, .slice A2 m d2, .slice A3 k d3] 26) := ⟨_, rfl⟩
  rw [← eW] at HB HR HRP HRA HK ⊢
  clear eW
  have k0 : W.cell? ⟨w.heap.size, 0, none⟩ = some (.slice A1 n d1) := HK.out.cell 0
  go_loop [3, 4] (fun nv iv => ∃ i : Nat, i ≤ n ∧ iv = .int .i64 (i : Int) ∧ nv = .int .i64 (sumF szL (T.R.take i) : Int)) (fun _ iv => n - (intOf iv).toNat)
  case atStart => exact ⟨0, Nat.zero_le _, rfl, by simp [sumF]⟩
  case round =>
    obtain ⟨i, hi, rfl, rfl⟩ := hrel
    by_cases hlt : i < n
    · have e1 : (i : Int) < (n : Int) := by omega
      have e2 : (0 : Int) ≤ (i : Int) := by omega
      have him : i < T.R.length := by rw [← EN.out]; exact hlt
      obtain ⟨b, o, rfl, _, h1⟩ := rd_txt HR.out him
      have hst := sumf_take szL him
      have hle := T1.out (i + 1)
      rw [← pl_lt him, szL] at hst
      obtain ⟨q, eq⟩ : ∃ q, q = sumF szL (T.R.take i) := ⟨_, rfl⟩
      obtain ⟨q2, eq2⟩ : ∃ q, q = sumF szL (T.R.take (i + 1)) := ⟨_, rfl⟩
      rw [← eq, ← eq2] at hst
      rw [← eq2] at hle
      rw [← eq]
      have hq : (q : Int) + 1 + ((pl T.R i).length : Int) = (q2 : Int) := by omega
      have hq2 : q2 ≤ 4000000000000000000 := by omega
      have hq3 : q + 1 ≤ q2 := by omega
      have EQ2 := Lib.hid eq2; clear eq eq2 hst him hle
      go_wp2
      go_round
      case rel => exact ⟨i + 1, by omega, by go_num, by rw [← EQ2.out, ← hq]⟩
      case measure => simp [intOf]; omega
    · have e1 : ¬ (i : Int) < (n : Int) := by omega
      have E := Lib.hid (show sumF szL (T.R.take i) = X by rw [sumf_all _ (by have := EN.out; omega), EX.out])
      rw [E.out]
      go_wp2
      clear k0
      go_loopw [3, 5] (fun nv iv wr => ∃ i : Nat, i ≤ m ∧ iv = .int .i64 (i : Int) ∧ nv = .int .i64 ((X + sumF szP (T.K.take i) : Nat) : Int) ∧ Drawn W wr) (fun _ iv _ => m - (intOf iv).toNat)
      case atStart => exact ⟨0, Nat.zero_le _, rfl, by simp [sumF], Drawn.refl _⟩
      case round =>
        obtain ⟨i, hi, rfl, rfl, hd⟩ := hrel
        have k1 : wr.cell? ⟨w.heap.size, 1, none⟩ = some (.slice A2 m d2) := by obtain ⟨q, rfl⟩ := hd; exact HK.out.cell 1
        have hrp : RdP wr B A2 T.K := by obtain ⟨q, rfl⟩ := hd; exact HRP.out.keep fun b o _ => rfl
        have HDR := Lib.hid hd; clear hd
        by_cases hlt : i < m
        · have e1 : (i : Int) < (m : Int) := by omega
          have e2 : (0 : Int) ≤ (i : Int) := by omega
          have him : i < T.K.length := by rw [← EM.out]; exact hlt
          obtain ⟨b, o, rfl, _, h1, h2⟩ := rdp_at hrp him
          have hst := sumf_take szP him
          have hle := T2.out (i + 1)
          rw [← kl_lt him, szP] at hst
          obtain ⟨q, eq⟩ : ∃ q, q = X + sumF szP (T.K.take i) := ⟨_, rfl⟩
          obtain ⟨q2, eq2⟩ : ∃ q, q = X + sumF szP (T.K.take (i + 1)) := ⟨_, rfl⟩
          rw [← eq]
          have hq : (q : Int) + 1 + ((kl T.K i).1.length : Int) + ((kl T.K i).2.length : Int) = (q2 : Int) := by omega
          have hq2 : q2 ≤ 4000000000000000000 := by omega
          have w1 : IntKind.i64.wrap ((q : Int) + 1) = (q : Int) + 1 := IntWalk.i64_in _ (by omega)
          have w2 : IntKind.i64.wrap ((q : Int) + 1 + ((kl T.K i).1.length : Int)) = (q : Int) + 1 + ((kl T.K i).1.length : Int) := IntWalk.i64_in _ (by omega)
          have w3 : IntKind.i64.wrap ((q : Int) + 1 + ((kl T.K i).1.length : Int) + ((kl T.K i).2.length : Int)) = (q : Int) + 1 + ((kl T.K i).1.length : Int) + ((kl T.K i).2.length : Int) := IntWalk.i64_in _ (by omega)
          have EQ2 := Lib.hid eq2; have HQ := Lib.hid hq; clear eq eq2 hst him hle hq
          go_wp2
          go_quiet (fail)
          go_wp2
          go_roundw
          case rel => exact ⟨i + 1, by omega, by go_num, by rw [← EQ2.out, ← HQ.out], HDR.out.trans ⟨_, rfl⟩⟩
          case measure => simp [intOf]; omega
        · have e1 : ¬ (i : Int) < (m : Int) := by omega
          have E := Lib.hid (show X + sumF szP (T.K.take i) = X + Y by rw [sumf_all _ (by have := EM.out; omega), EY.out])
          rw [E.out]
          go_wp2
          clear k1 hrp
          obtain ⟨W2, eW2⟩ : ∃ W2, W2 = wr := ⟨_, rfl⟩
          rw [← eW2] at HDR ⊢
          clear eW2 hi hlt e1
          go_loopw [3, 6] (fun nv iv wr => ∃ i : Nat, i ≤ k ∧ iv = .int .i64 (i : Int) ∧ nv = .int .i64 ((X + Y + sumF szA (T.P.take i) : Nat) : Int) ∧ Drawn W wr) (fun _ iv _ => k - (intOf iv).toNat)
          case atStart => exact ⟨0, Nat.zero_le _, rfl, by simp [sumF], HDR.out⟩
          case round =>
            obtain ⟨i, hi, rfl, rfl, hd⟩ := hrel
            have k2 : wr.cell? ⟨w.heap.size, 2, none⟩ = some (.slice A3 k d3) := by obtain ⟨q, rfl⟩ := hd; exact HK.out.cell 2
            have hra : RdA wr B A3 T.P := by obtain ⟨q, rfl⟩ := hd; exact HRA.out.keep fun b o _ => rfl
            have HD2 := Lib.hid hd; clear hd
            by_cases hlt : i < k
            · have e1 : (i : Int) < (k : Int) := by omega
              have e2 : (0 : Int) ≤ (i : Int) := by omega
              have him : i < T.P.length := by rw [← EK.out]; exact hlt
              obtain ⟨b, o, rfl, _, h1, h2, u, h3, h4⟩ := rda_at hra him
              have hst := sumf_take szA him
              have hle := T3.out (i + 1)
              rw [← al_lt him, szA] at hst
              obtain ⟨x, ex⟩ : ∃ x, x = al T.P i := ⟨_, rfl⟩
              rw [← ex] at h1 h2 h4 hst
              obtain ⟨A5, d5, eu, _, r5⟩ := h4
              subst eu
              have hl5 := sumf_len (l := x.v) szL (fun x => by rw [szL]; omega)
              have T5 := Lib.hid (fun i => sumf_le szL x.v i)
              obtain ⟨q, eq⟩ : ∃ q, q = X + Y + sumF szA (T.P.take i) := ⟨_, rfl⟩
              obtain ⟨q2, eq2⟩ : ∃ q, q = X + Y + sumF szA (T.P.take (i + 1)) := ⟨_, rfl⟩
              obtain ⟨V, eV⟩ : ∃ V, V = sumF szL x.v := ⟨_, rfl⟩
              rw [← eV] at hst hl5 T5
              have EV := Lib.hid eV
              obtain ⟨p, ep⟩ : ∃ p, p = q + 1 + x.f.length + x.t.length := ⟨_, rfl⟩
              rw [← eq]
              have hp : (q : Int) + 1 + (x.f.length : Int) + (x.t.length : Int) = (p : Int) := by omega
              have hpq : p + V = q2 := by omega
              have hq2 : q2 ≤ 4000000000000000000 := by omega
              have w1 : IntKind.i64.wrap ((q : Int) + 1) = (q : Int) + 1 := IntWalk.i64_in _ (by omega)
              have w2 : IntKind.i64.wrap ((q : Int) + 1 + (x.f.length : Int)) = (q : Int) + 1 + (x.f.length : Int) := IntWalk.i64_in _ (by omega)
              have w3 : IntKind.i64.wrap ((q : Int) + 1 + (x.f.length : Int) + (x.t.length : Int)) = (p : Int) := (IntWalk.i64_in _ (by omega)).trans hp
              have EQ2 := Lib.hid eq2
              obtain ⟨l5, el5⟩ : ∃ l, l = x.v.length := ⟨_, rfl⟩
              rw [← el5] at h3 hl5
              have EL5 := Lib.hid el5
              have HR5 := Lib.hid r5
              have HP3 := Lib.hid (show ∀ q, (wr.drewN q).cell? ⟨b, o + i * 3 + 2, none⟩ = some (.slice A5 l5 d5) from fun _ => h3)
              have HP2 := Lib.hid (show ∀ q, (wr.drewN q).cell? ⟨w.heap.size, 2, none⟩ = some (.slice (some ⟨b, o, none⟩) k d3) from fun _ => k2)
              clear eq eq2 hst him hle hp eV ep ex el5 r5
              go_wp2
              go_quiet (fail)
              go_wp2
              clear h1 h2 h3 k2 w1 w2 w3
              go_loopw [3, 7] (fun nv jv wq => ∃ j : Nat, j ≤ l5 ∧ jv = .int .i64 (j : Int) ∧ nv = .int .i64 ((p + sumF szL (x.v.take j) : Nat) : Int) ∧ Drawn wr wq) (fun _ jv _ => l5 - (intOf jv).toNat)
              case atStart => exact ⟨0, Nat.zero_le _, rfl, by simp [sumF], ⟨_, rfl⟩⟩
              case round =>
                obtain ⟨j, hj, rfl, rfl, hd⟩ := hrel
                have k2 : wr.cell? ⟨w.heap.size, 2, none⟩ = some (.slice (some ⟨b, o, none⟩) k d3) := by obtain ⟨q, rfl⟩ := hd; exact HP2.out q
                have h3 : wr.cell? ⟨b, o + i * 3 + 2, none⟩ = some (.slice A5 l5 d5) := by obtain ⟨q, rfl⟩ := hd; exact HP3.out q
                have hr5 : Rd wr B A5 (strs x.v) := by obtain ⟨q, rfl⟩ := hd; exact HR5.out.drewN q
                have HD3 := Lib.hid (HD2.out.trans hd)
                have HD4 := Lib.hid hd; clear hd
                by_cases hlj : j < l5
                · have f1 : (j : Int) < (l5 : Int) := by omega
                  have f2 : (0 : Int) ≤ (j : Int) := by omega
                  have hjm : j < x.v.length := by rw [← EL5.out]; exact hlj
                  obtain ⟨b5, o5, rfl, _, h6⟩ := rd_txt hr5 hjm
                  have hst := sumf_take szL hjm
                  have hle := T5.out (j + 1)
                  rw [← pl_lt hjm, szL] at hst
                  obtain ⟨r, er⟩ : ∃ q, q = p + sumF szL (x.v.take j) := ⟨_, rfl⟩
                  obtain ⟨r2, er2⟩ : ∃ q, q = p + sumF szL (x.v.take (j + 1)) := ⟨_, rfl⟩
                  rw [← er]
                  have hr : (r : Int) + 1 + ((pl x.v j).length : Int) = (r2 : Int) := by omega
                  have hr2 : r2 ≤ 4000000000000000000 := by omega
                  have hr3 : r + 1 ≤ r2 := by omega
                  have ER2 := Lib.hid er2; clear er er2 hst hle hjm
                  go_wp2
                  go_roundw
                  case rel => exact ⟨j + 1, by omega, by go_num, by rw [← ER2.out, ← hr], HD4.out⟩
                  case measure => simp [intOf]; omega
                · have f1 : ¬ (j : Int) < (l5 : Int) := by omega
                  have E5 := Lib.hid (show p + sumF szL (x.v.take j) = X + Y + sumF szA (T.P.take (i + 1)) by rw [sumf_all _ (by have := EL5.out; omega), ← EV.out, ← EQ2.out]; omega)
                  rw [E5.out]
                  go_wp2
                  go_roundw
                  case rel => exact ⟨i + 1, by omega, by go_num, rfl, HD3.out⟩
                  case measure => simp [intOf]; omega
            · have e1 : ¬ (i : Int) < (k : Int) := by omega
              have E := Lib.hid (show X + Y + sumF szA (T.P.take i) = X + Y + Z by rw [sumf_all _ (by have := EK.out; omega), EZ.out])
              rw [E.out]
              have HBB := Lib.hid (HB.out.trans (HD2.out.below.mono HB.out.size))
              by_cases h3k : 3000 < X + Y + Z
              · have g : decide ((3000 : Int) < ((X + Y + Z : Nat) : Int)) = true := decide_eq_true (by omega)
                have G := Lib.hid (decide_eq_true h3k)
                obtain ⟨S, eS⟩ : ∃ S, S = X + Y + Z := ⟨_, rfl⟩
                rw [← eS] at g G ⊢
                have ES := Lib.hid eS
                clear h3k eS
                go_wp2
                go_ret
                exact ⟨by rw [← ES.out, G.out]; rfl, HBB.out⟩
              · have g : decide ((3000 : Int) < ((X + Y + Z : Nat) : Int)) = false := decide_eq_false (by omega)
                have G := Lib.hid (decide_eq_false h3k)
                obtain ⟨S, eS⟩ : ∃ S, S = X + Y + Z := ⟨_, rfl⟩
                rw [← eS] at g G ⊢
                have ES := Lib.hid eS
                clear h3k eS
                go_wp2
                go_ret
                exact ⟨by rw [← ES.out, G.out]; rfl, HBB.out⟩
end Go.Proofs.Ytnalnhplcchdoaa.Rt
