import Derived.Deep.LoopGhost
import Derived.Deep.RegionHeld3
import Derived.Test.YtcjibpjdfhhhkaaGreatZRingPlays1
import Derived.Test.YtcjibpjdfhhhkaaGreatZRingPlays2
import Derived.Test.YtcjibpjdfhhhkaaGreatZRingPlays3
import Derived.Test.YtcjibpjdfhhhkaaGreatZRingPlays4
import Derived.Test.YtcjibpjdfhhhkaaGreatZRingPlays5
import Derived.Test.YtcjibpjdfhhhkaaGreatZRingPlays6
import Derived.Test.YtcjibpjdfhhhkaaGreatZRingPlays7
import Derived.Test.YtcjibpjdfhhhkaaGreatZRingPlays8
import Derived.Test.YtcjibpjdfhhhkaaGreatZRingPlays9
import Derived.Test.YtcjibpjdfhhhkaaGreatZRingPlays10
import Derived.Test.YtcjibpjdfhhhkaaGreatZRingPlays11
import Derived.Test.YtcjibpjdfhhhkaaGreatZRingPlays12
section
set_option linter.unusedVariables false
set_option linter.unusedSimpArgs false
namespace Go.Proofs.YtcjibpjdfhhhkaaGreat.Rg
open Go.RowKit Go.Proofs.YtcjibpjdfhhhkaaGreat.Mem Go.Proofs.YtcjibpjdfhhhkaaGreat.Se

structure DRing (w : World) (B q : Nat) (v : Value) (l : List It) : Prop where
  blk : Blk w q 29 #[v]
  row : w.ownsRow B 59 35 v l.length (l.flatMap iC)
  lo : B ≤ q
  vq : v.ownBlock ≠ some q
abbrev DO (q : Nat) (v : Value) (k : Nat) : Prop := k = q ∨ v.ownBlock = some k
section
variable {w w' : World} {B q : Nat} {v : Value} {l : List It} {S : Nat → Prop}
theorem DRing.lt (h : DRing w B q v l) : q < w.heap.size := h.blk.lt
theorem DRing.own_lo (h : DRing w B q v l) {k : Nat} (hk : DO q v k) : B ≤ k := by
  rcases hk with hk | hk
  · subst hk; exact h.lo
  · exact (World.ownsRow.lt h.row k hk).1
theorem DRing.own_lt (h : DRing w B q v l) {k : Nat} (hk : DO q v k) : k < w.heap.size := by
  rcases hk with hk | hk
  · subst hk; exact h.blk.lt
  · exact (World.ownsRow.lt h.row k hk).2
theorem DRing.chg (h : DRing w B q v l) (hc : Chg S w w') (hs : ∀ k, DO q v k → ¬ S k) : DRing w' B q v l :=
  ⟨hc.blk h.blk (hs q (.inl rfl)), own_chg hc h.row (fun k hk => hs k (.inr hk)), h.lo, h.vq⟩
theorem DRing.below (h : DRing w B q v l) (hb : Below w.heap.size w w') : DRing w' B q v l := h.chg (S := fun _ => False) (Chg.of_below hb) (fun _ _ x => x)
theorem DRing.num (h : DRing w B q v l) : ∃ A c, v = .slice A l.length c ∧ l.length ≤ c ∧ c ≤ maxLen ∧ RdR w w.heap.size A iC 35 l := own_rdr iC_length h.row
end
theorem iC_p0 (x : It) : (iC x)[0]? = some (.string ⟨x.p.1.toArray⟩) := rfl
theorem iC_p1 (x : It) : (iC x)[1]? = some (.string ⟨x.p.2.toArray⟩) := rfl
theorem iC_n (x : It) : (iC x)[2]? = some (.int .i64 (x.n : Int)) := rfl
theorem iC_k {w : World} {g o : Nat} {x : It} (h : w.rangeAt g o (iC x)) : w.rangeAt g (o + 3) (key32 x.k).toList := fun j u hu => by
  have := h (3 + j) u (by show ([_, _, _] ++ (key32 x.k).toList : List Value)[3 + j]? = _; rw [List.getElem?_append_right (by simp)]; simpa using hu)
  rw [Nat.add_assoc]; exact this
theorem lastL_hit {l : List It} {i : Nat} {x : It} {p : Pr} (h : l[i]? = some x) (hp : x.p = p) : numO l (lastTo l p (i + 1)) = x.n := by
  rw [lastTo, if_pos (by rw [h, ← hp]; rfl)]; simp [numO, h]
theorem lastL_miss {l : List It} {i : Nat} {x : It} {p : Pr} (h : l[i]? = some x) (hp : x.p ≠ p) : lastTo l p (i + 1) = lastTo l p i := by
  rw [lastTo, if_neg]
  rw [h]
  intro y
  injection y with y
  exact hp y
set_option maxRecDepth 100000 in
set_option maxHeartbeats 1600000 in
theorem dlast_any (B q : Nat) (v : Value) (l : List It) (p : Pr) (w : World) (h : DRing w B q v l) (hl : l.length ≤ 1000) :
    Calls Tryz.prog 25 #[.pointer (some ⟨q, 0, none⟩), prV p] w fun e w' => e = .returned (.int .i64 (lastN l p : Int)) ∧ Below w.heap.size w w' := by
  obtain ⟨A, c, rfl, hc, hm, hr⟩ := h.num
  have hb0 := h.blk
  obtain ⟨n, en⟩ : ∃ n, n = l.length := ⟨_, rfl⟩
  rw [← en] at hb0 hc hl
  have EN := Lib.hid en
  obtain ⟨W, eW⟩ : ∃ W, W = w.alloc (.cells #[.string ⟨p.1.toArray⟩, .string ⟨p.2.toArray⟩] 31) := ⟨_, rfl⟩
  have hb : Below w.heap.size w W := eW ▸ (Below.refl _ _).alloc (Nat.le_refl _) _
  have HP := Lib.hid (show Blk W w.heap.size 31 #[.string ⟨p.1.toArray⟩, .string ⟨p.2.toArray⟩] from eW ▸ Blk.new w _ _)
  have HB := Lib.hid hb
  have HQ := Lib.hid (hb0.below hb)
  have HR := Lib.hid (hr.keep hb)
  have hql := hb0.lt
  clear hb hr hb0 en h
  go_enter Tryz.func25, Tryz.ntmps25
  go_upto_region 1 with fail
  rw [← eW]
  obtain ⟨N, eN⟩ : ∃ N, N = w.heap.size := ⟨_, rfl⟩
  rw [← eN] at HP HB HR hql ⊢
  have EN2 := Lib.hid eN
  clear eW eN
  go_wp2
  go_loopw [5, 6] (fun nv iv wr => ∃ i : Nat, i ≤ n ∧ iv = .int .i64 (i : Int) ∧ nv = .int .i64 (numO l (lastTo l p i) : Int) ∧ Below N w wr ∧ Blk wr N 31 #[.string ⟨p.1.toArray⟩, .string ⟨p.2.toArray⟩] ∧ Blk wr q 29 #[.slice A n c] ∧ RdR wr N A iC 35 l) (fun _ iv _ => n - (intOf iv).toNat)
  case atStart => exact ⟨0, Nat.zero_le _, rfl, rfl, HB.out, HP.out, HQ.out, HR.out⟩
  case round =>
    clear HB HP HQ HR
    obtain ⟨i, hi, rfl, rfl, hb, hp, hq, hr⟩ := hrel
    have HB := Lib.hid hb; have HP := Lib.hid hp; have HQ := Lib.hid hq; have HR := Lib.hid hr
    have kq : wr.cell? ⟨q, 0, none⟩ = some (.slice A n c) := hq.cell 0
    obtain ⟨z, ez⟩ : ∃ z, z = numO l (lastTo l p i) := ⟨_, rfl⟩
    rw [← ez]
    have EZ := Lib.hid ez
    by_cases hlt : i < n
    · have e1 : (i : Int) < (n : Int) := by omega
      have e2 : (0 : Int) ≤ (i : Int) := by omega
      obtain ⟨x, hx⟩ : ∃ x, l[i]? = some x := ⟨l[i]'(by rw [← EN.out]; exact hlt), List.getElem?_eq_getElem _⟩
      obtain ⟨g, rfl, hgN, hra⟩ := hr.at_ hx
      have h0 : wr.cell? ⟨g, i * 35, none⟩ = some (.string ⟨x.p.1.toArray⟩) := hra 0 _ (iC_p0 x)
      have h1 : wr.cell? ⟨g, i * 35 + 1, none⟩ = some (.string ⟨x.p.2.toArray⟩) := hra 1 _ (iC_p1 x)
      have h2 : wr.cell? ⟨g, i * 35 + 2, none⟩ = some (.int .i64 (x.n : Int)) := hra 2 _ (iC_n x)
      have kp0 : wr.cell? ⟨N, 0, none⟩ = some (.string ⟨p.1.toArray⟩) := hp.cell 0
      have kp1 : wr.cell? ⟨N, 1, none⟩ = some (.string ⟨p.2.toArray⟩) := hp.cell 1
      have HX := Lib.hid hx
      clear hra hx hr hb hp hq ez
      by_cases hh : x.p = p
      · have t1 := eql_pr_yes hh
        have HH := Lib.hid hh; clear hh
        go_wp2
        go_quiet (fail)
        go_wp2
        go_roundw
        case rel => exact ⟨i + 1, by omega, by go_num, by rw [lastL_hit HX.out HH.out], below_drewN HB.out _, HP.out.drewN _, HQ.out.drewN _, HR.out.keep (below_drewN (Below.refl _ _) _)⟩
        case measure => simp [intOf]; omega
      · have t1 := eql_pr_no hh
        have HH := Lib.hid hh; clear hh
        go_wp2
        go_quiet (fail)
        go_wp2
        go_roundw
        case rel => exact ⟨i + 1, by omega, by go_num, by rw [lastL_miss HX.out HH.out, EZ.out], below_drewN HB.out _, HP.out.drewN _, HQ.out.drewN _, HR.out.keep (below_drewN (Below.refl _ _) _)⟩
        case measure => simp [intOf]; omega
    · have e1 : decide ((i : Int) < (n : Int)) = false := by simp; omega
      obtain rfl : n = i := by omega
      clear hr hb hp hq hi hlt ez
      go_wp2
      go_ret
      exact ⟨by rw [EZ.out, lastN, lastI, ← EN.out]; rfl, by rw [← EN2.out]; exact HB.out⟩
def boxK (l : List It) (p : Pr) (z : Int) : Nat → UInt8 := match firstI l p z with
  | some i => match l[i]? with
    | some x => x.k
    | none => zeroK
  | none => zeroK
def boxE (l : List It) (p : Pr) (z : Int) : Int := if (firstI l p z).isSome then 0 else 4
theorem results_pair {P : Program} {fn : Func} {tmps : Array Value} {w : World} {v u : Value} (t q : Nat) (ty : TypeId) (a : Addr) (hres : fn.results = #[.cell t ty, .tmp q]) (ht : tmps.getD t undef = .pointer (some a)) (hl : (loadVar ty a).run P w = .ok v w) (hq : tmps.getD q undef = u) :
    (results fn tmps).run P w = .ok (.tuple #[v, u]) w := by
  have ht' : tmps[t]?.getD undef = .pointer (some a) := by simpa using ht
  have hq' : tmps[q]?.getD undef = u := by simpa using hq
  simp [results, hres, ht', hq', asAddr, hl]
theorem key_zero : key32 zeroK = #[.int .u8 0, .int .u8 0, .int .u8 0, .int .u8 0, .int .u8 0, .int .u8 0, .int .u8 0, .int .u8 0, .int .u8 0, .int .u8 0, .int .u8 0, .int .u8 0, .int .u8 0, .int .u8 0, .int .u8 0, .int .u8 0, .int .u8 0, .int .u8 0, .int .u8 0, .int .u8 0, .int .u8 0, .int .u8 0, .int .u8 0, .int .u8 0, .int .u8 0, .int .u8 0, .int .u8 0, .int .u8 0, .int .u8 0, .int .u8 0, .int .u8 0, .int .u8 0] := by kernel_rfl
set_option maxRecDepth 100000 in
set_option maxHeartbeats 3200000 in
theorem dbox_any (B q : Nat) (v : Value) (l : List It) (p : Pr) (y : Int) (w : World) (h : DRing w B q v l) (hl : l.length ≤ 1000) :
    Calls Tryz.prog 10 #[.pointer (some ⟨q, 0, none⟩), prV p, .int .i64 y] w fun e w' => e = .returned (.tuple #[.agg (key32 (boxK l p y)), .int .i64 (boxE l p y)]) ∧ Below w.heap.size w w' := by
  obtain ⟨A, c, rfl, hc, hm, hr⟩ := h.num
  have hb0 := h.blk
  obtain ⟨n, en⟩ : ∃ n, n = l.length := ⟨_, rfl⟩
  rw [← en] at hb0 hc hl
  have EN := Lib.hid en
  have hkz := key_zero
  obtain ⟨kz, ekz⟩ : ∃ kz, kz = key32 zeroK := ⟨_, rfl⟩
  have EKZ := Lib.hid ekz
  have HKZ1 := Lib.hid (show (Tryz.prog.info? 33).map (·.size) = some kz.size by rw [ekz]; exact info32 _)
  have HKZ2 := Lib.hid (show kz.size = 32 by rw [ekz]; exact key32_size _)
  have HKZ3 := Lib.hid (show kz.all (·.oneCell') = true by rw [ekz]; exact one32 _)
  obtain ⟨W, eW⟩ : ∃ W, W = (w.alloc (.cells #[.string ⟨p.1.toArray⟩, .string ⟨p.2.toArray⟩] 31)).alloc (.cells (key32 zeroK) 33) := ⟨_, rfl⟩
  have hb : Below w.heap.size w W := eW ▸ ((Below.refl _ _).alloc (Nat.le_refl _) _).alloc (by simp) _
  have HP := Lib.hid (show Blk W w.heap.size 31 #[.string ⟨p.1.toArray⟩, .string ⟨p.2.toArray⟩] from eW ▸ (Blk.new w _ _).alloc _)
  have HK := Lib.hid (show Blk W (w.heap.size + 1) 33 kz by have := Blk.new (w.alloc (.cells #[.string ⟨p.1.toArray⟩, .string ⟨p.2.toArray⟩] 31)) 33 (key32 zeroK); simp only [World.size_alloc] at this; rw [ekz]; exact eW ▸ this)
  have HB := Lib.hid hb
  have HQ := Lib.hid (hb0.below hb)
  have HR := Lib.hid (hr.keep hb)
  have hql := hb0.lt
  clear hb hr hb0 en h ekz
  go_enter Tryz.func10, Tryz.ntmps10
  go_upto_region 1 with fail
  change Code.wp _ _ _ _ ((w.alloc (.cells #[.string ⟨p.1.toArray⟩, .string ⟨p.2.toArray⟩] 31)).alloc (.cells #[.int .u8 0, .int .u8 0, .int .u8 0, .int .u8 0, .int .u8 0, .int .u8 0, .int .u8 0, .int .u8 0, .int .u8 0, .int .u8 0, .int .u8 0, .int .u8 0, .int .u8 0, .int .u8 0, .int .u8 0, .int .u8 0, .int .u8 0, .int .u8 0, .int .u8 0, .int .u8 0, .int .u8 0, .int .u8 0, .int .u8 0, .int .u8 0, .int .u8 0, .int .u8 0, .int .u8 0, .int .u8 0, .int .u8 0, .int .u8 0, .int .u8 0, .int .u8 0] 33))
  rw [← hkz, ← eW]
  obtain ⟨N, eN⟩ : ∃ N, N = w.heap.size := ⟨_, rfl⟩
  rw [← eN] at HP HB HR HK hql ⊢
  have EN2 := Lib.hid eN
  clear eW eN hkz
  go_wp2
  go_loopw [8] (fun iv wr => ∃ i : Nat, i ≤ n ∧ iv = .int .i64 (i : Int) ∧ Below N w wr ∧ Blk wr N 31 #[.string ⟨p.1.toArray⟩, .string ⟨p.2.toArray⟩] ∧ Blk wr (N + 1) 33 kz ∧ Blk wr q 29 #[.slice A n c] ∧ RdR wr N A iC 35 l ∧ (∀ (j : Nat) (y' : It), j < i → l[j]? = some y' → ¬ (y'.p = p ∧ (y'.n : Int) = y))) (fun iv _ => n - (intOf iv).toNat)
  case atStart => exact ⟨0, Nat.zero_le _, rfl, HB.out, HP.out, HK.out, HQ.out, HR.out, fun j y' hj => absurd hj (Nat.not_lt_zero _)⟩
  case round =>
    clear HB HP HQ HR HK
    obtain ⟨i, hi, rfl, hb, hp, hk, hq, hr, hno⟩ := hrel
    have HB := Lib.hid hb; have HP := Lib.hid hp; have HQ := Lib.hid hq; have HR := Lib.hid hr; have HK := Lib.hid hk; have HNO := Lib.hid hno
    have kq : wr.cell? ⟨q, 0, none⟩ = some (.slice A n c) := hq.cell 0
    by_cases hlt : i < n
    · have e1 : (i : Int) < (n : Int) := by omega
      have e2 : (0 : Int) ≤ (i : Int) := by omega
      obtain ⟨x, hx⟩ : ∃ x, l[i]? = some x := ⟨l[i]'(by rw [← EN.out]; exact hlt), List.getElem?_eq_getElem _⟩
      obtain ⟨g, rfl, hgN, hra⟩ := hr.at_ hx
      have h0 : wr.cell? ⟨g, i * 35, none⟩ = some (.string ⟨x.p.1.toArray⟩) := hra 0 _ (iC_p0 x)
      have h1 : wr.cell? ⟨g, i * 35 + 1, none⟩ = some (.string ⟨x.p.2.toArray⟩) := hra 1 _ (iC_p1 x)
      have h2 : wr.cell? ⟨g, i * 35 + 2, none⟩ = some (.int .i64 (x.n : Int)) := hra 2 _ (iC_n x)
      have kp0 : wr.cell? ⟨N, 0, none⟩ = some (.string ⟨p.1.toArray⟩) := hp.cell 0
      have kp1 : wr.cell? ⟨N, 1, none⟩ = some (.string ⟨p.2.toArray⟩) := hp.cell 1
      obtain ⟨kv, ekv⟩ : ∃ kv, kv = key32 x.k := ⟨_, rfl⟩
      have HRA := Lib.hid (show wr.rangeAt g (i * 35 + 3) kv.toList by rw [ekv]; exact iC_k hra)
      have HKI := Lib.hid (show (Tryz.prog.info? 33).map (·.size) = some kv.size by rw [ekv]; exact info32 _)
      have HK1 := Lib.hid (show kv.all (·.oneCell') = true by rw [ekv]; exact one32 _)
      have HKS := Lib.hid (show kz.size = kv.size by rw [HKZ2.out, ekv, key32_size])
      have EKV := Lib.hid ekv
      have HX := Lib.hid hx
      clear hra hx hr hb hp hq hk hno ekv
      by_cases hh : x.p = p
      · have t1 := eql_pr_yes hh
        have HH := Lib.hid hh; clear hh
        by_cases hy : (x.n : Int) = y
        · have t2 : ((x.n : Int) == y) = true := beq_iff_eq.2 hy
          have HY := Lib.hid hy; clear hy
          go_wp2
          go_quiet (fail)
          go_wp2_with (first
            | (refine Wh.load_g (by rfl) 33 (.tmp 46) (by rfl) g _ (by rfl) kv _ HRA.out Tryz.underlying33 (by rfl) HKI.out ?_)
            | (refine Wh.store_over (by rfl) 33 (.tmp 6) (.tmp 47) (by rfl) (N + 1) 33 _ (HK.out.drewN _) kv (by rfl) (by rfl) HKS.out HKI.out HK1.out ?_; rintro V hV hg; have HV := Lib.hid hV; have HBV := Lib.hid (below_g (below_drewN HB.out _) hg (by have := HK.out.lt; exact Nat.le_of_lt (Nat.lt_of_le_of_lt (Nat.le_succ N) this)) (Nat.le_succ N)); clear hV hg)
            | fail)
          have hfi := first_at HX.out HH.out HY.out HNO.out
          refine bodyPost_ret (v := .tuple #[.agg kv, .int .i64 0]) (results_pair 6 7 33 ⟨N + 1, 0, none⟩ Tryz.results10 (by rfl) (Wh.load_blk HV.out Tryz.underlying33 (by rfl) HKI.out) (by rfl)) (by rfl) ?_
          exact ⟨by rw [boxK, boxE, hfi, EKV.out]; simp only [HX.out]; rfl, by rw [← EN2.out]; exact HBV.out⟩
        · have t2 : ((x.n : Int) == y) = false := beq_eq_false_iff_ne.2 hy
          have HY := Lib.hid hy; clear hy
          go_wp2
          go_quiet (fail)
          go_wp2
          go_roundw
          case rel => exact ⟨i + 1, by omega, by go_num, below_drewN HB.out _, HP.out.drewN _, HK.out.drewN _, HQ.out.drewN _, HR.out.keep (below_drewN (Below.refl _ _) _), fun j y' hj hy' => by
            by_cases g : j = i
            · subst g
              rw [HX.out] at hy'
              injection hy' with hy'
              subst hy'
              exact fun hh => HY.out hh.2
            · exact HNO.out j y' (by omega) hy'⟩
          case measure => simp [intOf]; omega
      · have t1 := eql_pr_no hh
        have HH := Lib.hid hh; clear hh
        go_wp2
        go_quiet (fail)
        go_wp2
        go_roundw
        case rel => exact ⟨i + 1, by omega, by go_num, below_drewN HB.out _, HP.out.drewN _, HK.out.drewN _, HQ.out.drewN _, HR.out.keep (below_drewN (Below.refl _ _) _), fun j y' hj hy' => by
          by_cases g : j = i
          · subst g
            rw [HX.out] at hy'
            injection hy' with hy'
            subst hy'
            exact fun hh => HH.out hh.1
          · exact HNO.out j y' (by omega) hy'⟩
        case measure => simp [intOf]; omega
    · have e1 : decide ((i : Int) < (n : Int)) = false := by simp; omega
      obtain rfl : n = i := by omega
      clear hr hb hp hq hk hi hlt hno
      go_wp2_with (first
        | (refine Wh.store_over (by rfl) 33 (.tmp 6) (.tmp 48) (by rfl) (N + 1) 33 _ HK.out kz (by rfl) (by rw [EKZ.out, key_zero]; rfl) (by rfl) HKZ1.out HKZ3.out ?_; rintro V hV hg; have HV := Lib.hid hV; have HBV := Lib.hid (below_g HB.out hg (by have := HK.out.lt; exact Nat.le_of_lt (Nat.lt_of_le_of_lt (Nat.le_succ N) this)) (Nat.le_succ N)); clear hV hg)
        | fail)
      have hfi := first_none (l := l) (p := p) (n := y) fun j y' hy' => HNO.out j y' (by rw [EN.out]; exact (List.getElem?_eq_some_iff.1 hy').1) hy'
      refine bodyPost_ret (v := .tuple #[.agg kz, .int .i64 4]) (results_pair 6 7 33 ⟨N + 1, 0, none⟩ Tryz.results10 (by rfl) (Wh.load_blk HV.out Tryz.underlying33 (by rfl) HKZ1.out) (by rfl)) (by rfl) ?_
      exact ⟨by rw [boxK, boxE, hfi, EKZ.out]; rfl, by rw [← EN2.out]; exact HBV.out⟩
theorem results_three {P : Program} {fn : Func} {tmps : Array Value} {w : World} {v u x : Value} (t q q2 : Nat) (ty : TypeId) (a : Addr) (hres : fn.results = #[.cell t ty, .tmp q, .tmp q2]) (ht : tmps.getD t undef = .pointer (some a)) (hl : (loadVar ty a).run P w = .ok v w) (hq : tmps.getD q undef = u) (hq2 : tmps.getD q2 undef = x) :
    (results fn tmps).run P w = .ok (.tuple #[v, u, x]) w := by
  have ht' : tmps[t]?.getD undef = .pointer (some a) := by simpa using ht
  have hq' : tmps[q]?.getD undef = u := by simpa using hq
  have hq2' : tmps[q2]?.getD undef = x := by simpa using hq2
  simp [results, hres, ht', hq', hq2', asAddr, hl]
theorem risprinc (p : Pr) (w : World) (h1 : p.1.length ≤ 1000000000) (h2 : p.2.length ≤ 1000000000) : Calls Tryz.prog 24 #[prV p] w fun e w' => e = .returned (.bool (prB p)) ∧ Below w.heap.size w w' := Nm.risprinc_any p.1 p.2 w h1 h2
def zeroI : Array Value := #[.string ⟨#[]⟩, .string ⟨#[]⟩, .int .i64 0, .int .u8 0, .int .u8 0, .int .u8 0, .int .u8 0, .int .u8 0, .int .u8 0, .int .u8 0, .int .u8 0, .int .u8 0, .int .u8 0, .int .u8 0, .int .u8 0, .int .u8 0, .int .u8 0, .int .u8 0, .int .u8 0, .int .u8 0, .int .u8 0, .int .u8 0, .int .u8 0, .int .u8 0, .int .u8 0, .int .u8 0, .int .u8 0, .int .u8 0, .int .u8 0, .int .u8 0, .int .u8 0, .int .u8 0, .int .u8 0, .int .u8 0, .int .u8 0]
theorem item_all : (Tryz.prog.info? 59).map (fun i => (i.zero, i.size, i.bytes)) = some (some (.agg zeroI), 35, 72) := by kernel_rfl
theorem built_item (p : Pr) (n : Nat) (k : Nat → UInt8) : Tryz.prog.built 59 [(0, prV p), (1, .int .i64 (n : Int)), (2, .agg (key32 k))] = some (iC ⟨p, n, k⟩).toArray := by
  kernel_rfl
theorem dadd_fin {w W5 w6 : World} {B q : Nat} {v v6 : Value} {l : List It} {it : It} (h : DRing w B q v l) (hb : Below w.heap.size w W5) (h5 : DRing W5 B q v l)
    (ho : w6.ownsRow B 59 35 v6 (l ++ [it]).length ((l ++ [it]).flatMap iC)) (hg : W5.grownBy w6 v.ownBlock) (hv : v6.ownBlock = v.ownBlock ∨ v6.ownBlock = some W5.heap.size) :
    DRing (w6.setCell ⟨q, 0, none⟩ v6) B q v6 (l ++ [it]) ∧ Chg (DO q v) w (w6.setCell ⟨q, 0, none⟩ v6) ∧ (∀ k, DO q v6 k → DO q v k ∨ w.heap.size ≤ k) := by
  have hvr : v6.ownBlock ≠ some q := fun x => by
    rcases hv with g | g
    · rw [g] at x; exact h.vq x
    · rw [g] at x; injection x with x; have := h5.lt; omega
  have hset : Chg (fun k => k = q) w6 (w6.setCell ⟨q, 0, none⟩ v6) := Chg.set (p := ⟨q, 0, none⟩) (Chg.refl (fun k => k = q) w6) (.inl rfl) v6
  have hc : Chg (DO q v) w (w6.setCell ⟨q, 0, none⟩ v6) :=
    (((Chg.of_below hb).trans (chg_row hg) (fun k _ x => .inr x)).trans hset (fun k _ x => .inl x) : Chg (DO q v) w _)
  refine ⟨⟨(h5.blk.grown hg h5.vq).set 0 v6, own_chg hset ho (fun k hk x => hvr (x ▸ hk)), h.lo, hvr⟩, hc, fun k hk => ?_⟩
  rcases hk with hk | hk
  · exact .inl (.inl hk)
  · rcases hv with g | g
    · exact .inl (.inr (g ▸ hk))
    · rw [g] at hk; injection hk with hk; exact .inr (by have := hb.size; omega)
set_option maxRecDepth 100000 in
set_option maxHeartbeats 3200000 in
theorem dadd_ok (B q : Nat) (v : Value) (l : List It) (p : Pr) (k : Nat → UInt8) (w : World) (h : DRing w B q v l) (hB : B ≤ w.heap.size) (h1 : p.1.length ≤ 1000000000) (h2 : p.2.length ≤ 1000000000) (hp : prB p = true) (hl : l.length < 40) (hn : lastN l p < 255) :
    Calls Tryz.prog 8 #[.pointer (some ⟨q, 0, none⟩), prV p, .agg (key32 k)] w fun e w' => e = .returned (.tuple #[.int .i64 ((lastN l p : Int) + 1), .int .i64 0]) ∧ ∃ v', DRing w' B q v' (l ++ [⟨p, lastN l p + 1, k⟩]) ∧ Chg (DO q v) w w' ∧ (∀ k, DO q v' k → DO q v k ∨ w.heap.size ≤ k) := by
  obtain ⟨A, c, rfl, hc, hm, hr⟩ := h.num
  obtain ⟨n, en⟩ : ∃ n, n = l.length := ⟨_, rfl⟩
  have EN := Lib.hid en
  obtain ⟨z, ez⟩ : ∃ z, z = lastN l p := ⟨_, rfl⟩
  have EZ := Lib.hid ez
  have CL := Lib.hid (fun (w1 : World) (h : DRing w1 B q (.slice A l.length c) l) => dlast_any B q (.slice A l.length c) l p w1 h (by omega))
  have CP := Lib.hid (fun w1 => risprinc p w1 h1 h2)
  rw [hp] at CP
  rw [← ez] at CL
  obtain ⟨kv, ekv⟩ : ∃ kv, kv = key32 k := ⟨_, rfl⟩
  rw [← ekv]
  have hrl := h.lt
  obtain ⟨W, eW⟩ : ∃ W, W = (w.alloc (.cells #[.string ⟨p.1.toArray⟩, .string ⟨p.2.toArray⟩] 31)).alloc (.cells kv 33) := ⟨_, rfl⟩
  have hb : Below w.heap.size w W := eW ▸ ((Below.refl _ _).alloc (Nat.le_refl _) _).alloc (by simp) _
  have HP := Lib.hid (show Blk W w.heap.size 31 #[.string ⟨p.1.toArray⟩, .string ⟨p.2.toArray⟩] from eW ▸ (Blk.new w _ _).alloc _)
  have HK := Lib.hid (show Blk W (w.heap.size + 1) 33 kv by have := Blk.new (w.alloc (.cells #[.string ⟨p.1.toArray⟩, .string ⟨p.2.toArray⟩] 31)) 33 kv; simp only [World.size_alloc] at this; exact eW ▸ this)
  have HB := Lib.hid hb
  have HRG := Lib.hid (h.below hb)
  have HW := Lib.hid h
  have kp0 : W.cell? ⟨w.heap.size, 0, none⟩ = some (.string ⟨p.1.toArray⟩) := HP.out.cell 0
  have kp1 : W.cell? ⟨w.heap.size, 1, none⟩ = some (.string ⟨p.2.toArray⟩) := HP.out.cell 1
  have hwr : IntKind.i64.wrap ((z : Int) + 1) = (z : Int) + 1 := by rw [IntKind.wrap_i64]; omega
  have EK := Lib.hid ekv
  have HKI := Lib.hid (show (Tryz.prog.info? 33).map (·.size) = some kv.size by rw [ekv]; exact info32 k)
  obtain ⟨i0, hi0, hz0, hs0, hb0⟩ := info_parts item_all
  have KI1 := Lib.hid hi0; have KI2 := Lib.hid hz0; have KI3 := Lib.hid hs0; have KI4 := Lib.hid hb0
  have SL1 := Lib.hid (fun (w1 : World) => Wh.run_build_one (P := Tryz.prog) w1 27 59 (iC ⟨p, z + 1, k⟩).toArray i0 _ Tryz.underlying27 hi0 hz0 (by rw [hs0]; simp [iC_length]) (by simp [iC_length]) (by simp [iC_length]))
  have HBB := Lib.hid hB
  have HN := Lib.hid (show z < 255 by omega)
  have t1 : decide (40 ≤ (n : Int)) = false := by simp; omega
  have t2 : decide (255 ≤ (z : Int)) = false := by simp; omega
  have HL := Lib.hid (show n < 40 by omega)
  clear hi0 hz0 hs0 hb0 hB hb h hr h1 h2 hp hn hl ekv en hc hm
  rw [← ez]
  clear ez
  go_enter Tryz.func8, Tryz.ntmps8
  go_upto_region 1 with fail
  rw [← eW]
  clear eW
  go_wp2_with (first
    | (go_at_call 24; refine Calls.mono (CP.out _) ?_; rintro e w1 ⟨rfl, hb⟩; replace HB := Lib.hid (HB.out.trans (hb.mono HB.out.size)); replace HRG := Lib.hid (HRG.out.below hb); replace HP := Lib.hid (HP.out.below hb); replace HK := Lib.hid (HK.out.below hb); have kp0 : w1.cell? ⟨w.heap.size, 0, none⟩ = some (.string ⟨p.1.toArray⟩) := HP.out.cell 0; have kp1 : w1.cell? ⟨w.heap.size, 1, none⟩ = some (.string ⟨p.2.toArray⟩) := HP.out.cell 1; have kr : w1.cell? ⟨q, 0, none⟩ = some (.slice A n c) := EN.out ▸ HRG.out.blk.cell 0; clear hb)
    | (go_at_call 25; refine Calls.mono (CL.out _ HRG.out) ?_; rintro e w2 ⟨rfl, hb⟩; clear kp0 kp1 kr; replace HB := Lib.hid (HB.out.trans (hb.mono HB.out.size)); replace HRG := Lib.hid (HRG.out.below hb); replace HP := Lib.hid (HP.out.below hb); replace HK := Lib.hid (HK.out.below hb); have kp0 : w2.cell? ⟨w.heap.size, 0, none⟩ = some (.string ⟨p.1.toArray⟩) := HP.out.cell 0; have kp1 : w2.cell? ⟨w.heap.size, 1, none⟩ = some (.string ⟨p.2.toArray⟩) := HP.out.cell 1; have kr : w2.cell? ⟨q, 0, none⟩ = some (.slice A n c) := EN.out ▸ HRG.out.blk.cell 0; clear hb)
    | fail)
  replace HP := Lib.hid (show Blk w2.drew _ _ _ from HP.out.drewN 1)
  replace HK := Lib.hid (show Blk w2.drew _ _ _ from HK.out.drewN 1)
  replace HRG := Lib.hid (show DRing w2.drew B q _ l from HRG.out.below (below_drewN (Below.refl _ _) 1))
  replace HB := Lib.hid (show Below w.heap.size w w2.drew from below_drewN HB.out 1)
  clear kp0 kp1 kr
  refine Reg.any_begin (fun w' => Blk w' w.heap.size 31 #[.string ⟨p.1.toArray⟩, .string ⟨p.2.toArray⟩] ∧ Blk w' (w.heap.size + 1) 33 kv) 15 rfl (by kernel_rfl) ⟨HP.out, HK.out⟩ ?_
  obtain ⟨W2, eW2⟩ : ∃ W2, W2 = w2.drew := ⟨_, rfl⟩
  rw [← eW2] at HP HK HRG HB ⊢
  clear eW2
  refine Reg.any_take 0 (v := ?vu1) rfl (by kernel_rfl) (by kernel_rfl) (by kernel_rfl) (fun _ _ _ h => h) ⟨HP.out, HK.out⟩ (by rfl) (fun w' hS => ?hu1) ?ru1
  case hu1 => go_simp; rfl
  simp only [Act.put, List.setIfInBounds_toArray, List.set_cons_zero, List.set_cons_succ]
  refine Reg.any_take 1 (v := ?vu2) rfl (by kernel_rfl) (by kernel_rfl) (by kernel_rfl) (fun _ _ _ h => h) ⟨HP.out, HK.out⟩ (by rfl) (fun w' hS => ?hu2) ?ru2
  case hu2 => go_simp; rfl
  simp only [Act.put, List.setIfInBounds_toArray, List.set_cons_zero, List.set_cons_succ]
  refine Reg.any_take 2 (v := ?vu3) rfl (by kernel_rfl) (by kernel_rfl) (by kernel_rfl) (fun _ _ _ h => h) ⟨HP.out, HK.out⟩ (by rfl) (fun w' hS => ?hu3) ?ru3
  case hu3 => go_simp; rfl
  simp only [Act.put, List.setIfInBounds_toArray, List.set_cons_zero, List.set_cons_succ]
  refine Reg.any_take 3 (v := ?vu4) rfl (by kernel_rfl) (by kernel_rfl) (by kernel_rfl) (fun _ _ _ h => h) ⟨HP.out, HK.out⟩ (by rfl) (fun w' hS => ?hu4) ?ru4
  case hu4 => go_simp; rfl
  simp only [Act.put, List.setIfInBounds_toArray, List.set_cons_zero, List.set_cons_succ]
  refine Reg.any_take 5 (v := .agg #[.string ⟨p.1.toArray⟩, .string ⟨p.2.toArray⟩]) rfl (by kernel_rfl) (by kernel_rfl) (by kernel_rfl) (fun _ _ _ h => h) ⟨HP.out, HK.out⟩ (by rfl) (fun w' hS => ?hu5) ?ru5
  case hu5 => exact Wh.exec_load (.tmp 4) rfl rfl hS.1 Tryz.underlying31 rfl pr_info
  simp only [Act.put, List.setIfInBounds_toArray, List.set_cons_zero, List.set_cons_succ]
  refine Reg.any_take 6 (v := ?vu6) rfl (by kernel_rfl) (by kernel_rfl) (by kernel_rfl) (fun _ _ _ h => h) ⟨HP.out, HK.out⟩ (by rfl) (fun w' hS => ?hu6) ?ru6
  case hu6 => go_simp; rfl
  simp only [Act.put, List.setIfInBounds_toArray, List.set_cons_zero, List.set_cons_succ]
  refine Reg.any_take 7 (v := .int .i64 ((z : Int) + 1)) rfl (by kernel_rfl) (by kernel_rfl) (by kernel_rfl) (fun _ _ _ h => h) ⟨HP.out, HK.out⟩ (by rfl) (fun w' hS => ?hu7) ?ru7
  case hu7 => go_simp
  simp only [Act.put, List.setIfInBounds_toArray, List.set_cons_zero, List.set_cons_succ]
  refine Reg.any_take 8 (v := .agg kv) rfl (by kernel_rfl) (by kernel_rfl) (by kernel_rfl) (fun _ _ _ h => h) ⟨HP.out, HK.out⟩ (by rfl) (fun w' hS => ?hu8) ?ru8
  case hu8 => exact Wh.exec_load (.tmp 5) rfl rfl hS.2 Tryz.underlying33 rfl HKI.out
  simp only [Act.put, List.setIfInBounds_toArray, List.set_cons_zero, List.set_cons_succ]
  refine Reg.any_take 9 (v := .agg (iC ⟨p, z + 1, k⟩).toArray) rfl (by kernel_rfl) (by kernel_rfl) (by kernel_rfl) (fun _ _ _ h => h) ⟨HP.out, HK.out⟩ (by rfl) (fun w' hS => ?hu9) ?ru9
  case hu9 => exact exec_build (by go_simp) (EK.out ▸ built_item p (z + 1) k)
  simp only [Act.put, List.setIfInBounds_toArray, List.set_cons_zero, List.set_cons_succ]
  refine Reg.eff_all [4, 10] (by kernel_rfl) (by simp) ?_
  intro j0 hj0
  have hj0 : j0 = 4 ∨ j0 = 10 := by simpa using hj0
  rcases hj0 with rfl | rfl
  · have kr : W2.cell? ⟨q, 0, none⟩ = some (.slice A n c) := EN.out ▸ HRG.out.blk.cell 0
    refine ⟨_, _, _, _, _, _, _, _, rfl, by rfl, by (go_simp; rfl), ⟨HP.out, HK.out⟩, ?_⟩
    simp only [Act.put, List.setIfInBounds_toArray, List.set_cons_zero, List.set_cons_succ]
    clear kr
    refine Reg.eff_all [10] (by kernel_rfl) (by simp) ?_
    intro j0 hj0
    obtain rfl : j0 = 10 := by simpa using hj0
    clear hj0
    have hb : Below W2.heap.size W2 (W2.alloc (.cells (iC ⟨p, z + 1, k⟩).toArray 59)) := (Below.refl _ _).alloc (Nat.le_refl _) _
    refine ⟨_, _, _, _, _, _, .slice (some ⟨W2.heap.size, 0, none⟩) 1 1, (W2.alloc (.cells (iC ⟨p, z + 1, k⟩).toArray 59)), rfl, by rfl, exec_slice rfl (SL1.out _), ⟨HP.out.below hb, HK.out.below hb⟩, ?_⟩
    simp only [Act.put, List.setIfInBounds_toArray, List.set_cons_zero, List.set_cons_succ]
    have HNB := Lib.hid (Blk.new W2 59 (iC ⟨p, z + 1, k⟩).toArray)
    replace HB := Lib.hid (HB.out.trans (hb.mono HB.out.size)); replace HRG := Lib.hid (HRG.out.below hb); replace HP := Lib.hid (HP.out.below hb); replace HK := Lib.hid (HK.out.below hb)
    clear hb
    obtain ⟨W5, eW5⟩ : ∃ W5, W5 = (W2.alloc (.cells (iC ⟨p, z + 1, k⟩).toArray 59)) := ⟨_, rfl⟩
    obtain ⟨g5, eg5⟩ : ∃ g5, g5 = W2.heap.size := ⟨_, rfl⟩
    rw [← eW5] at HNB HB HRG HP HK ⊢
    rw [← eg5] at HNB ⊢
    clear eW5 eg5
    refine Reg.eff_all [11] (by kernel_rfl) (by simp) ?_
    intro j0 hj0
    obtain rfl : j0 = 11 := by simpa using hj0
    clear hj0
    obtain ⟨v6, w6, hrun, ho6, hg6, hv6⟩ := Wh.app_run (P := Tryz.prog) iC 35 72 iC_length iC_one W5 27 27 59 i0 _ Tryz.underlying27 KI1.out KI2.out KI3.out KI4.out (by rfl) (by omega) B _ l HRG.out.row ⟨p, z + 1, k⟩ g5 HNB.out (by have := EN.out; have := HL.out; omega) (by omega) (Nat.le_trans HBB.out HB.out.size)
    rw [← EN.out] at hrun
    replace HP := Lib.hid (HP.out.grown hg6 (fun x => by have := (World.ownsRow.lt HW.out.row _ x).2; omega))
    replace HK := Lib.hid (HK.out.grown hg6 (fun x => by have := (World.ownsRow.lt HW.out.row _ x).2; omega))
    refine ⟨_, _, _, _, _, _, v6, w6, rfl, by rfl, exec_app rfl rfl hrun, ⟨HP.out, HK.out⟩, ?_⟩
    simp only [Act.put, List.setIfInBounds_toArray, List.set_cons_zero, List.set_cons_succ]
    refine Reg.any_take 12 (v := ?vu10) rfl (by kernel_rfl) (by kernel_rfl) (by kernel_rfl) (fun _ _ _ h => h) ⟨HP.out, HK.out⟩ (by rfl) (fun w' hS => ?hu10) ?ru10
    case hu10 => go_simp; rfl
    simp only [Act.put, List.setIfInBounds_toArray, List.set_cons_zero, List.set_cons_succ]
    refine Reg.any_take 13 (v := ?vu11) rfl (by kernel_rfl) (by kernel_rfl) (by kernel_rfl) (fun _ _ _ h => h) ⟨HP.out, HK.out⟩ (by rfl) (fun w' hS => ?hu11) ?ru11
    case hu11 => go_simp; rfl
    simp only [Act.put, List.setIfInBounds_toArray, List.set_cons_zero, List.set_cons_succ]
    have hfin := dadd_fin HW.out HB.out HRG.out ho6 hg6 hv6
    have hr6 := HRG.out.blk.grown hg6 HRG.out.vq
    obtain ⟨A7, c7, e7, _⟩ := own_rdr iC_length ho6
    obtain ⟨m7, em7⟩ : ∃ m7, m7 = (l ++ [(⟨p, z + 1, k⟩ : It)]).length := ⟨_, rfl⟩
    rw [← em7] at e7
    subst e7
    have f0 := hr6.frozen 0
    have k6 : w6.cell? ⟨q, 0, none⟩ = some _ := hr6.cell 0
    refine Reg.any_store 14 (w6.setCell ⟨q, 0, none⟩ (.slice A7 m7 c7)) rfl (by kernel_rfl) (by rfl) (by go_simp) ⟨Si.Blk.far HP.out _ _ (by simp; have := HW.out.lt; omega), Si.Blk.far HK.out _ _ (by simp; have := HW.out.lt; omega)⟩ ?_
    simp only [Act.put, List.setIfInBounds_toArray, List.set_cons_zero, List.set_cons_succ]
    refine wpAnyH_done (by kernel_rfl) ?_ _
    clear f0 k6 hr6 ho6 hg6 hv6 hrun em7
    have HFIN := Lib.hid hfin
    clear hfin
    go_wp2
    go_ret2
    exact ⟨rfl, _, HFIN.out.1, HFIN.out.2.1, HFIN.out.2.2⟩
  · have hb : Below W2.heap.size W2 (W2.alloc (.cells (iC ⟨p, z + 1, k⟩).toArray 59)) := (Below.refl _ _).alloc (Nat.le_refl _) _
    refine ⟨_, _, _, _, _, _, .slice (some ⟨W2.heap.size, 0, none⟩) 1 1, (W2.alloc (.cells (iC ⟨p, z + 1, k⟩).toArray 59)), rfl, by rfl, exec_slice rfl (SL1.out _), ⟨HP.out.below hb, HK.out.below hb⟩, ?_⟩
    simp only [Act.put, List.setIfInBounds_toArray, List.set_cons_zero, List.set_cons_succ]
    have HNB := Lib.hid (Blk.new W2 59 (iC ⟨p, z + 1, k⟩).toArray)
    replace HB := Lib.hid (HB.out.trans (hb.mono HB.out.size)); replace HRG := Lib.hid (HRG.out.below hb); replace HP := Lib.hid (HP.out.below hb); replace HK := Lib.hid (HK.out.below hb)
    clear hb
    obtain ⟨W5, eW5⟩ : ∃ W5, W5 = (W2.alloc (.cells (iC ⟨p, z + 1, k⟩).toArray 59)) := ⟨_, rfl⟩
    obtain ⟨g5, eg5⟩ : ∃ g5, g5 = W2.heap.size := ⟨_, rfl⟩
    rw [← eW5] at HNB HB HRG HP HK ⊢
    rw [← eg5] at HNB ⊢
    clear eW5 eg5
    refine Reg.eff_all [4] (by kernel_rfl) (by simp) ?_
    intro j0 hj0
    obtain rfl : j0 = 4 := by simpa using hj0
    clear hj0
    have kr : W5.cell? ⟨q, 0, none⟩ = some (.slice A n c) := EN.out ▸ HRG.out.blk.cell 0
    refine ⟨_, _, _, _, _, _, _, _, rfl, by rfl, by (go_simp; rfl), ⟨HP.out, HK.out⟩, ?_⟩
    simp only [Act.put, List.setIfInBounds_toArray, List.set_cons_zero, List.set_cons_succ]
    clear kr
    refine Reg.eff_all [11] (by kernel_rfl) (by simp) ?_
    intro j0 hj0
    obtain rfl : j0 = 11 := by simpa using hj0
    clear hj0
    obtain ⟨v6, w6, hrun, ho6, hg6, hv6⟩ := Wh.app_run (P := Tryz.prog) iC 35 72 iC_length iC_one W5 27 27 59 i0 _ Tryz.underlying27 KI1.out KI2.out KI3.out KI4.out (by rfl) (by omega) B _ l HRG.out.row ⟨p, z + 1, k⟩ g5 HNB.out (by have := EN.out; have := HL.out; omega) (by omega) (Nat.le_trans HBB.out HB.out.size)
    rw [← EN.out] at hrun
    replace HP := Lib.hid (HP.out.grown hg6 (fun x => by have := (World.ownsRow.lt HW.out.row _ x).2; omega))
    replace HK := Lib.hid (HK.out.grown hg6 (fun x => by have := (World.ownsRow.lt HW.out.row _ x).2; omega))
    refine ⟨_, _, _, _, _, _, v6, w6, rfl, by rfl, exec_app rfl rfl hrun, ⟨HP.out, HK.out⟩, ?_⟩
    simp only [Act.put, List.setIfInBounds_toArray, List.set_cons_zero, List.set_cons_succ]
    refine Reg.any_take 12 (v := ?vu12) rfl (by kernel_rfl) (by kernel_rfl) (by kernel_rfl) (fun _ _ _ h => h) ⟨HP.out, HK.out⟩ (by rfl) (fun w' hS => ?hu12) ?ru12
    case hu12 => go_simp; rfl
    simp only [Act.put, List.setIfInBounds_toArray, List.set_cons_zero, List.set_cons_succ]
    refine Reg.any_take 13 (v := ?vu13) rfl (by kernel_rfl) (by kernel_rfl) (by kernel_rfl) (fun _ _ _ h => h) ⟨HP.out, HK.out⟩ (by rfl) (fun w' hS => ?hu13) ?ru13
    case hu13 => go_simp; rfl
    simp only [Act.put, List.setIfInBounds_toArray, List.set_cons_zero, List.set_cons_succ]
    have hfin := dadd_fin HW.out HB.out HRG.out ho6 hg6 hv6
    have hr6 := HRG.out.blk.grown hg6 HRG.out.vq
    obtain ⟨A7, c7, e7, _⟩ := own_rdr iC_length ho6
    obtain ⟨m7, em7⟩ : ∃ m7, m7 = (l ++ [(⟨p, z + 1, k⟩ : It)]).length := ⟨_, rfl⟩
    rw [← em7] at e7
    subst e7
    have f0 := hr6.frozen 0
    have k6 : w6.cell? ⟨q, 0, none⟩ = some _ := hr6.cell 0
    refine Reg.any_store 14 (w6.setCell ⟨q, 0, none⟩ (.slice A7 m7 c7)) rfl (by kernel_rfl) (by rfl) (by go_simp) ⟨Si.Blk.far HP.out _ _ (by simp; have := HW.out.lt; omega), Si.Blk.far HK.out _ _ (by simp; have := HW.out.lt; omega)⟩ ?_
    simp only [Act.put, List.setIfInBounds_toArray, List.set_cons_zero, List.set_cons_succ]
    refine wpAnyH_done (by kernel_rfl) ?_ _
    clear f0 k6 hr6 ho6 hg6 hv6 hrun em7
    have HFIN := Lib.hid hfin
    clear hfin
    go_wp2
    go_ret2
    exact ⟨rfl, _, HFIN.out.1, HFIN.out.2.1, HFIN.out.2.2⟩
set_option maxRecDepth 100000 in
set_option maxHeartbeats 3200000 in
theorem dadd_full (B q : Nat) (v : Value) (l : List It) (p : Pr) (k : Nat → UInt8) (w : World) (h : DRing w B q v l) (hB : B ≤ w.heap.size) (h1 : p.1.length ≤ 1000000000) (h2 : p.2.length ≤ 1000000000) (hp : prB p = true) (hl : 40 ≤ l.length) (hl2 : l.length ≤ 1000) :
    Calls Tryz.prog 8 #[.pointer (some ⟨q, 0, none⟩), prV p, .agg (key32 k)] w fun e w' => e = .returned (.tuple #[.int .i64 0, .int .i64 13]) ∧ Below w.heap.size w w' := by
  obtain ⟨A, c, rfl, hc, hm, hr⟩ := h.num
  obtain ⟨n, en⟩ : ∃ n, n = l.length := ⟨_, rfl⟩
  have EN := Lib.hid en
  obtain ⟨z, ez⟩ : ∃ z, z = lastN l p := ⟨_, rfl⟩
  have EZ := Lib.hid ez
  have CL := Lib.hid (fun (w1 : World) (h : DRing w1 B q (.slice A l.length c) l) => dlast_any B q (.slice A l.length c) l p w1 h (by omega))
  have CP := Lib.hid (fun w1 => risprinc p w1 h1 h2)
  rw [hp] at CP
  rw [← ez] at CL
  obtain ⟨kv, ekv⟩ : ∃ kv, kv = key32 k := ⟨_, rfl⟩
  rw [← ekv]
  have hrl := h.lt
  obtain ⟨W, eW⟩ : ∃ W, W = (w.alloc (.cells #[.string ⟨p.1.toArray⟩, .string ⟨p.2.toArray⟩] 31)).alloc (.cells kv 33) := ⟨_, rfl⟩
  have hb : Below w.heap.size w W := eW ▸ ((Below.refl _ _).alloc (Nat.le_refl _) _).alloc (by simp) _
  have HP := Lib.hid (show Blk W w.heap.size 31 #[.string ⟨p.1.toArray⟩, .string ⟨p.2.toArray⟩] from eW ▸ (Blk.new w _ _).alloc _)
  have HK := Lib.hid (show Blk W (w.heap.size + 1) 33 kv by have := Blk.new (w.alloc (.cells #[.string ⟨p.1.toArray⟩, .string ⟨p.2.toArray⟩] 31)) 33 kv; simp only [World.size_alloc] at this; exact eW ▸ this)
  have HB := Lib.hid hb
  have HRG := Lib.hid (h.below hb)
  have HW := Lib.hid h
  have kp0 : W.cell? ⟨w.heap.size, 0, none⟩ = some (.string ⟨p.1.toArray⟩) := HP.out.cell 0
  have kp1 : W.cell? ⟨w.heap.size, 1, none⟩ = some (.string ⟨p.2.toArray⟩) := HP.out.cell 1
  have t1 : decide (40 ≤ (n : Int)) = true := by simp; omega
  clear hB hb h hr h1 h2 hp hl hl2 ekv en ez hc hm
  go_enter Tryz.func8, Tryz.ntmps8
  go_upto_region 1 with fail
  rw [← eW]
  clear eW
  go_wp2_with (first
    | (go_at_call 24; refine Calls.mono (CP.out _) ?_; rintro e w1 ⟨rfl, hb⟩; replace HB := Lib.hid (HB.out.trans (hb.mono HB.out.size)); replace HRG := Lib.hid (HRG.out.below hb); replace HP := Lib.hid (HP.out.below hb); replace HK := Lib.hid (HK.out.below hb); have kp0 : w1.cell? ⟨w.heap.size, 0, none⟩ = some (.string ⟨p.1.toArray⟩) := HP.out.cell 0; have kp1 : w1.cell? ⟨w.heap.size, 1, none⟩ = some (.string ⟨p.2.toArray⟩) := HP.out.cell 1; have kr : w1.cell? ⟨q, 0, none⟩ = some (.slice A n c) := EN.out ▸ HRG.out.blk.cell 0; clear hb)
    | (go_at_call 25; refine Calls.mono (CL.out _ HRG.out) ?_; rintro e w2 ⟨rfl, hb⟩; clear kp0 kp1 kr; replace HB := Lib.hid (HB.out.trans (hb.mono HB.out.size)); replace HRG := Lib.hid (HRG.out.below hb); replace HP := Lib.hid (HP.out.below hb); replace HK := Lib.hid (HK.out.below hb); have kp0 : w2.cell? ⟨w.heap.size, 0, none⟩ = some (.string ⟨p.1.toArray⟩) := HP.out.cell 0; have kp1 : w2.cell? ⟨w.heap.size, 1, none⟩ = some (.string ⟨p.2.toArray⟩) := HP.out.cell 1; have kr : w2.cell? ⟨q, 0, none⟩ = some (.slice A n c) := EN.out ▸ HRG.out.blk.cell 0; clear hb)
    | fail)
  go_ret2
  exact ⟨rfl, HB.out⟩
end Go.Proofs.YtcjibpjdfhhhkaaGreat.Rg
end

section
set_option linter.unusedVariables false
set_option linter.unusedSimpArgs false
namespace Go.Proofs.YtcjibpjdfhhhkaaGreat.Rg
open Go.RowKit Go.Proofs.YtcjibpjdfhhhkaaGreat.Mem Go.Proofs.YtcjibpjdfhhhkaaGreat.Se

set_option maxRecDepth 100000 in
set_option maxHeartbeats 3200000 in
theorem dlastp_hit {B q : Nat} {v : Value} {l : List It} {p : Pr} {w : World} {i : Nat} {x : It} (hf : firstI l p (lastN l p : Int) = some i) (hx : l[i]? = some x) (h : DRing w B q v l) (hl : l.length ≤ 1000) :
    Calls Tryz.prog 14 #[.pointer (some ⟨q, 0, none⟩), prV p] w fun e w' => e = .returned (.tuple #[.agg (key32 x.k), .int .i64 (lastN l p : Int), .int .i64 0]) ∧ Below w.heap.size w w' := by
  obtain ⟨z, ez⟩ : ∃ z, z = lastN l p := ⟨_, rfl⟩
  have CL := Lib.hid (fun (w1 : World) (h : DRing w1 B q v l) => dlast_any B q v l p w1 h hl)
  have CB := Lib.hid (fun (w1 : World) (h : DRing w1 B q v l) => dbox_any B q v l p (z : Int) w1 h hl)
  rw [show boxK l p (z : Int) = x.k from by rw [boxK, ez, hf]; simp only [hx], show boxE l p (z : Int) = 0 from by rw [boxE, ez, hf]; rfl] at CB
  rw [← ez] at CL
  rw [← ez]
  obtain ⟨kv, ekv⟩ : ∃ kv, kv = key32 x.k := ⟨_, rfl⟩
  have HKI := Lib.hid (show (Tryz.prog.info? 33).map (·.size) = some kv.size by rw [ekv]; exact info32 _)
  have HK1 := Lib.hid (show kv.all (·.oneCell') = true by rw [ekv]; exact one32 _)
  have HKS := Lib.hid (show kv.size = 32 by rw [ekv, key32_size])
  rw [← ekv] at CB
  have EKV := Lib.hid ekv
  have hkz := key_zero
  obtain ⟨kz, ekz⟩ : ∃ kz, kz = key32 zeroK := ⟨_, rfl⟩
  have EKZ := Lib.hid ekz
  have HKZ1 := Lib.hid (show (Tryz.prog.info? 33).map (·.size) = some kz.size by rw [ekz]; exact info32 _)
  have HKZ2 := Lib.hid (show kz.size = 32 by rw [ekz]; exact key32_size _)
  have HKZ3 := Lib.hid (show kz.all (·.oneCell') = true by rw [ekz]; exact one32 _)
  obtain ⟨W, eW⟩ : ∃ W, W = (w.alloc (.cells #[.string ⟨p.1.toArray⟩, .string ⟨p.2.toArray⟩] 31)).alloc (.cells (key32 zeroK) 33) := ⟨_, rfl⟩
  have hb : Below w.heap.size w W := eW ▸ ((Below.refl _ _).alloc (Nat.le_refl _) _).alloc (by simp) _
  have HP := Lib.hid (show Blk W w.heap.size 31 #[.string ⟨p.1.toArray⟩, .string ⟨p.2.toArray⟩] from eW ▸ (Blk.new w _ _).alloc _)
  have HK := Lib.hid (show Blk W (w.heap.size + 1) 33 kz by have := Blk.new (w.alloc (.cells #[.string ⟨p.1.toArray⟩, .string ⟨p.2.toArray⟩] 31)) 33 (key32 zeroK); simp only [World.size_alloc] at this; rw [ekz]; exact eW ▸ this)
  have HB := Lib.hid hb
  have HD := Lib.hid (h.below hb)
  have kp0 : W.cell? ⟨w.heap.size, 0, none⟩ = some (.string ⟨p.1.toArray⟩) := HP.out.cell 0
  have kp1 : W.cell? ⟨w.heap.size, 1, none⟩ = some (.string ⟨p.2.toArray⟩) := HP.out.cell 1
  clear hb h ekv ekz ez hf hx
  go_enter Tryz.func14, Tryz.ntmps14
  go_upto_region 1 with fail
  change Code.wp _ _ _ _ ((w.alloc (.cells #[.string ⟨p.1.toArray⟩, .string ⟨p.2.toArray⟩] 31)).alloc (.cells #[.int .u8 0, .int .u8 0, .int .u8 0, .int .u8 0, .int .u8 0, .int .u8 0, .int .u8 0, .int .u8 0, .int .u8 0, .int .u8 0, .int .u8 0, .int .u8 0, .int .u8 0, .int .u8 0, .int .u8 0, .int .u8 0, .int .u8 0, .int .u8 0, .int .u8 0, .int .u8 0, .int .u8 0, .int .u8 0, .int .u8 0, .int .u8 0, .int .u8 0, .int .u8 0, .int .u8 0, .int .u8 0, .int .u8 0, .int .u8 0, .int .u8 0, .int .u8 0] 33))
  rw [← hkz, ← eW]
  clear eW hkz
  go_wp2_with (first
    | (go_at_call 25; refine Calls.mono (CL.out _ HD.out) ?_; rintro e w1 ⟨rfl, hb⟩; clear kp0 kp1; replace HB := Lib.hid (HB.out.trans (hb.mono HB.out.size)); replace HD := Lib.hid (HD.out.below hb); replace HP := Lib.hid (HP.out.below hb); replace HK := Lib.hid (HK.out.below hb); have kp0 : w1.cell? ⟨w.heap.size, 0, none⟩ = some (.string ⟨p.1.toArray⟩) := HP.out.cell 0; have kp1 : w1.cell? ⟨w.heap.size, 1, none⟩ = some (.string ⟨p.2.toArray⟩) := HP.out.cell 1; clear hb)
    | (go_at_call 10; refine Calls.mono (CB.out _ HD.out) ?_; rintro e w2 ⟨rfl, hb⟩; replace HB := Lib.hid (HB.out.trans (hb.mono HB.out.size)); replace HD := Lib.hid (HD.out.below hb); replace HP := Lib.hid (HP.out.below hb); replace HK := Lib.hid (HK.out.below hb); clear hb)
    | (refine Wh.store_new (by rfl) 33 (.tmp 8) (.tmp 18) (by rfl) 33 rfl kv (by rfl) (by rfl) (by rw [HKS.out]; rfl) HKI.out HK1.out ?_; rintro V hV hb; have HV := Lib.hid hV; replace HB := Lib.hid (HB.out.trans (hb.mono HB.out.size)); replace HK := Lib.hid (HK.out.below hb); clear hV hb)
    | (refine Wh.load_g (by rfl) 33 (.tmp 8) (by rfl) _ 0 (by rfl) kv _ (Wh.range_blk HV.out) Tryz.underlying33 (by rfl) HKI.out ?_)
    | (refine Wh.store_over (by rfl) 33 (.tmp 4) (.tmp 23) (by rfl) (w.heap.size + 1) 33 _ HK.out kv (by rfl) (by rfl) (by rw [HKZ2.out, HKS.out]) HKI.out HK1.out ?_; rintro U hU hg; have HU := Lib.hid hU; have HBU := Lib.hid (below_g HB.out hg HB.out.size (Nat.le_succ _)); clear hU hg)
    | fail)
  refine bodyPost_ret (v := .tuple #[.agg kv, .int .i64 (z : Int), .int .i64 0]) (results_three 4 5 6 33 ⟨w.heap.size + 1, 0, none⟩ Tryz.results14 (by rfl) (Wh.load_blk HU.out Tryz.underlying33 (by rfl) HKI.out) (by rfl) (by rfl)) (by rfl) ?_
  exact ⟨by rw [EKV.out], HBU.out⟩
set_option maxRecDepth 100000 in
set_option maxHeartbeats 3200000 in
theorem dlastp_miss {B q : Nat} {v : Value} {l : List It} {p : Pr} {w : World} (hf : firstI l p (lastN l p : Int) = none) (h : DRing w B q v l) (hl : l.length ≤ 1000) :
    Calls Tryz.prog 14 #[.pointer (some ⟨q, 0, none⟩), prV p] w fun e w' => e = .returned (.tuple #[.agg (key32 zeroK), .int .i64 0, .int .i64 4]) ∧ Below w.heap.size w w' := by
  obtain ⟨z, ez⟩ : ∃ z, z = lastN l p := ⟨_, rfl⟩
  have CL := Lib.hid (fun (w1 : World) (h : DRing w1 B q v l) => dlast_any B q v l p w1 h hl)
  have CB := Lib.hid (fun (w1 : World) (h : DRing w1 B q v l) => dbox_any B q v l p (z : Int) w1 h hl)
  rw [show boxK l p (z : Int) = zeroK from by rw [boxK, ez, hf], show boxE l p (z : Int) = 4 from by rw [boxE, ez, hf]; rfl] at CB
  rw [← ez] at CL
  obtain ⟨kv, ekv⟩ : ∃ kv, kv = key32 zeroK := ⟨_, rfl⟩
  have HKI := Lib.hid (show (Tryz.prog.info? 33).map (·.size) = some kv.size by rw [ekv]; exact info32 _)
  have HK1 := Lib.hid (show kv.all (·.oneCell') = true by rw [ekv]; exact one32 _)
  have HKS := Lib.hid (show kv.size = 32 by rw [ekv, key32_size])
  rw [← ekv] at CB
  have EKV := Lib.hid ekv
  have hkz := key_zero
  obtain ⟨kz, ekz⟩ : ∃ kz, kz = key32 zeroK := ⟨_, rfl⟩
  have EKZ := Lib.hid ekz
  have HKZ1 := Lib.hid (show (Tryz.prog.info? 33).map (·.size) = some kz.size by rw [ekz]; exact info32 _)
  have HKZ2 := Lib.hid (show kz.size = 32 by rw [ekz]; exact key32_size _)
  have HKZ3 := Lib.hid (show kz.all (·.oneCell') = true by rw [ekz]; exact one32 _)
  obtain ⟨W, eW⟩ : ∃ W, W = (w.alloc (.cells #[.string ⟨p.1.toArray⟩, .string ⟨p.2.toArray⟩] 31)).alloc (.cells (key32 zeroK) 33) := ⟨_, rfl⟩
  have hb : Below w.heap.size w W := eW ▸ ((Below.refl _ _).alloc (Nat.le_refl _) _).alloc (by simp) _
  have HP := Lib.hid (show Blk W w.heap.size 31 #[.string ⟨p.1.toArray⟩, .string ⟨p.2.toArray⟩] from eW ▸ (Blk.new w _ _).alloc _)
  have HK := Lib.hid (show Blk W (w.heap.size + 1) 33 kz by have := Blk.new (w.alloc (.cells #[.string ⟨p.1.toArray⟩, .string ⟨p.2.toArray⟩] 31)) 33 (key32 zeroK); simp only [World.size_alloc] at this; rw [ekz]; exact eW ▸ this)
  have HB := Lib.hid hb
  have HD := Lib.hid (h.below hb)
  have kp0 : W.cell? ⟨w.heap.size, 0, none⟩ = some (.string ⟨p.1.toArray⟩) := HP.out.cell 0
  have kp1 : W.cell? ⟨w.heap.size, 1, none⟩ = some (.string ⟨p.2.toArray⟩) := HP.out.cell 1
  clear hb h ekv ekz ez hf
  go_enter Tryz.func14, Tryz.ntmps14
  go_upto_region 1 with fail
  change Code.wp _ _ _ _ ((w.alloc (.cells #[.string ⟨p.1.toArray⟩, .string ⟨p.2.toArray⟩] 31)).alloc (.cells #[.int .u8 0, .int .u8 0, .int .u8 0, .int .u8 0, .int .u8 0, .int .u8 0, .int .u8 0, .int .u8 0, .int .u8 0, .int .u8 0, .int .u8 0, .int .u8 0, .int .u8 0, .int .u8 0, .int .u8 0, .int .u8 0, .int .u8 0, .int .u8 0, .int .u8 0, .int .u8 0, .int .u8 0, .int .u8 0, .int .u8 0, .int .u8 0, .int .u8 0, .int .u8 0, .int .u8 0, .int .u8 0, .int .u8 0, .int .u8 0, .int .u8 0, .int .u8 0] 33))
  rw [← hkz, ← eW]
  clear eW hkz
  go_wp2_with (first
    | (go_at_call 25; refine Calls.mono (CL.out _ HD.out) ?_; rintro e w1 ⟨rfl, hb⟩; clear kp0 kp1; replace HB := Lib.hid (HB.out.trans (hb.mono HB.out.size)); replace HD := Lib.hid (HD.out.below hb); replace HP := Lib.hid (HP.out.below hb); replace HK := Lib.hid (HK.out.below hb); have kp0 : w1.cell? ⟨w.heap.size, 0, none⟩ = some (.string ⟨p.1.toArray⟩) := HP.out.cell 0; have kp1 : w1.cell? ⟨w.heap.size, 1, none⟩ = some (.string ⟨p.2.toArray⟩) := HP.out.cell 1; clear hb)
    | (go_at_call 10; refine Calls.mono (CB.out _ HD.out) ?_; rintro e w2 ⟨rfl, hb⟩; replace HB := Lib.hid (HB.out.trans (hb.mono HB.out.size)); replace HD := Lib.hid (HD.out.below hb); replace HP := Lib.hid (HP.out.below hb); replace HK := Lib.hid (HK.out.below hb); clear hb)
    | (refine Wh.store_new (by rfl) 33 (.tmp 8) (.tmp 18) (by rfl) 33 rfl kv (by rfl) (by rfl) (by rw [HKS.out]; rfl) HKI.out HK1.out ?_; rintro V hV hb; have HV := Lib.hid hV; replace HB := Lib.hid (HB.out.trans (hb.mono HB.out.size)); replace HK := Lib.hid (HK.out.below hb); clear hV hb)
    | (refine Wh.store_over (by rfl) 33 (.tmp 4) (.tmp 22) (by rfl) (w.heap.size + 1) 33 _ HK.out kz (by rfl) (by rw [EKZ.out, key_zero]; rfl) (by rfl) HKZ1.out HKZ3.out ?_; rintro U hU hg; have HU := Lib.hid hU; have HBU := Lib.hid (below_g HB.out hg HB.out.size (Nat.le_succ _)); clear hU hg)
    | fail)
  refine bodyPost_ret (v := .tuple #[.agg kz, .int .i64 0, .int .i64 4]) (results_three 4 5 6 33 ⟨w.heap.size + 1, 0, none⟩ Tryz.results14 (by rfl) (Wh.load_blk HU.out Tryz.underlying33 (by rfl) HKZ1.out) (by rfl) (by rfl)) (by rfl) ?_
  exact ⟨by rw [EKZ.out], HBU.out⟩
set_option maxRecDepth 100000 in
set_option maxHeartbeats 1600000 in
theorem dadd_arg (q : Nat) (p : Pr) (k : Nat → UInt8) (w : World) (h1 : p.1.length ≤ 1000000000) (h2 : p.2.length ≤ 1000000000) (hp : prB p = false) :
    Calls Tryz.prog 8 #[.pointer (some ⟨q, 0, none⟩), prV p, .agg (key32 k)] w fun e w' => e = .returned (.tuple #[.int .i64 0, .int .i64 1]) ∧ Below w.heap.size w w' := by
  have CP := Lib.hid (fun w1 => risprinc p w1 h1 h2)
  obtain ⟨kv, ekv⟩ : ∃ kv, kv = key32 k := ⟨_, rfl⟩
  rw [← ekv]
  obtain ⟨W, eW⟩ : ∃ W, W = (w.alloc (.cells #[.string ⟨p.1.toArray⟩, .string ⟨p.2.toArray⟩] 31)).alloc (.cells kv 33) := ⟨_, rfl⟩
  have hb : Below w.heap.size w W := eW ▸ ((Below.refl _ _).alloc (Nat.le_refl _) _).alloc (by simp) _
  have hb0 : Blk W w.heap.size 31 #[.string ⟨p.1.toArray⟩, .string ⟨p.2.toArray⟩] := eW ▸ (Blk.new w _ _).alloc _
  have kp0 : W.cell? ⟨w.heap.size, 0, none⟩ = some (.string ⟨p.1.toArray⟩) := hb0.cell 0
  have kp1 : W.cell? ⟨w.heap.size, 1, none⟩ = some (.string ⟨p.2.toArray⟩) := hb0.cell 1
  have HB := Lib.hid hb
  rw [hp] at CP
  clear hb hb0 h1 h2 hp ekv
  go_enter Tryz.func8, Tryz.ntmps8
  go_upto_region 1 with fail
  rw [← eW]
  clear eW
  go_wp2_with (first
    | (go_at_call 24; refine Calls.mono (CP.out _) ?_; rintro e w1 ⟨rfl, hb⟩; replace HB := Lib.hid (HB.out.trans (hb.mono HB.out.size)); clear hb)
    | fail)
  go_ret2
  exact ⟨rfl, HB.out⟩
theorem dadd_any (B q : Nat) (v : Value) (l : List It) (p : Pr) (k : Nat → UInt8) (w : World) (h : DRing w B q v l) (hB : B ≤ w.heap.size) (h1 : p.1.length ≤ 1000000000) (h2 : p.2.length ≤ 1000000000) (hl : l.length ≤ 40) (hn : Num l) :
    Calls Tryz.prog 8 #[.pointer (some ⟨q, 0, none⟩), prV p, .agg (key32 k)] w fun e w' => e = .returned (.tuple #[.int .i64 (addN l p : Int), .int .i64 (addE l p : Int)]) ∧ ∃ v', DRing w' B q v' (addL l p k) ∧ Chg (DO q v) w w' ∧ (∀ k, DO q v' k → DO q v k ∨ w.heap.size ≤ k) := by
  cases hp : prB p with
  | false =>
    refine (dadd_arg q p k w h1 h2 hp).mono ?_
    rintro e w' ⟨rfl, hb⟩
    exact ⟨by rw [addN, addE, hp]; rfl, v, by rw [addL, hp]; exact h.below hb, Chg.of_below hb, fun k hk => .inl hk⟩
  | true =>
    by_cases hx : l.length < 40
    · have h255 : lastN l p < 255 := by have := last_le hn p; omega
      refine (dadd_ok B q v l p k w h hB h1 h2 hp hx h255).mono ?_
      rintro e w' ⟨rfl, v', hr, hc, hnw⟩
      exact ⟨by rw [addN, addE, hp, if_pos rfl, if_pos rfl, if_pos hx, if_pos hx]; rfl, v', by rw [addL, hp, if_pos rfl, if_pos hx]; exact hr, hc, hnw⟩
    · refine (dadd_full B q v l p k w h hB h1 h2 hp (by omega) (by omega)).mono ?_
      rintro e w' ⟨rfl, hb⟩
      exact ⟨by rw [addN, addE, hp, if_pos rfl, if_pos rfl, if_neg hx, if_neg hx]; rfl, v, by rw [addL, hp, if_pos rfl, if_neg hx]; exact h.below hb, Chg.of_below hb, fun k hk => .inl hk⟩
end Go.Proofs.YtcjibpjdfhhhkaaGreat.Rg
end

section
set_option linter.unusedVariables false
set_option linter.unusedSimpArgs false
namespace Go.Proofs.YtcjibpjdfhhhkaaGreat.Rg
open Go.RowKit Go.Proofs.YtcjibpjdfhhhkaaGreat.Mem Go.Proofs.YtcjibpjdfhhhkaaGreat.Se Go.Proofs.YtcjibpjdfhhhkaaGreat.OpenQ

def aA (x : Ac) : Array Value := (aC x).toArray
theorem aA_size (x : Ac) : (aA x).size = 36 := by simp [aA, aC_length]
theorem aA_toList (x : Ac) : (aA x).toList = aC x := by simp [aA]
theorem aA_one (x : Ac) : (aA x).all (·.oneCell') = true := by
  rw [Array.all_eq_true_iff_forall_mem]
  intro u hu
  exact aC_one x u (by simpa [aA] using hu)
theorem ac_info : (Tryz.prog.info? 35).map (·.size) = some 36 := by kernel_rfl
section
variable {w : World} {g : Nat} {t : TypeId} {x : Ac}
theorem aA_p (h : Blk w g t (aA x)) : w.rangeAt g 1 (#[.string ⟨x.p.1.toArray⟩, .string ⟨x.p.2.toArray⟩] : Array Value).toList :=
  Wh.range_at (pre := [.int .i64 x.k]) (post := (key32 x.y).toList ++ [.int .i64 x.n]) h (by rw [aA_toList]; rfl) 1 rfl
theorem aA_k (h : Blk w g t (aA x)) : w.rangeAt g 3 (key32 x.y).toList :=
  Wh.range_at (pre := [.int .i64 x.k, .string ⟨x.p.1.toArray⟩, .string ⟨x.p.2.toArray⟩]) (post := [.int .i64 x.n]) h (by rw [aA_toList]; rfl) 3 rfl
theorem aA_0 (h : Blk w g t (aA x)) : w.cell? ⟨g, 0, none⟩ = some (.int .i64 x.k) := by
  rw [h.cell, aA, List.getElem?_toArray]; exact aC_0 x
theorem aA_35 (h : Blk w g t (aA x)) : w.cell? ⟨g, 35, none⟩ = some (.int .i64 x.n) := by
  rw [h.cell, aA, List.getElem?_toArray]; exact aC_35 x
end
section
variable {w w' : World} {B r q : Nat} {v v' dv dv' : Value} {es es' : List Ent} {l l' : List It} {g : Nat}
def Ap (r : Nat) (v : Value) (es : List Ent) (q : Nat) (dv : Value) : Prop := ∀ k, DO q dv k → ¬ RO r v es k
theorem ap_code (h : Ap r v es q dv) (hd : DRing w B q dv l) (hn : ∀ k, RO r v' es' k → RO r v es k ∨ w.heap.size ≤ k) : Ap r v' es' q dv := fun k hk x => by
  rcases hn k x with y | y
  · exact h k hk y
  · have := hd.own_lt hk; omega
theorem ap_doc (h : Ap r v es q dv) (hr : Ring w B r v es) (hn : ∀ k, DO q dv' k → DO q dv k ∨ w.heap.size ≤ k) : Ap r v es q dv' := fun k hk x => by
  rcases hn k hk with y | y
  · exact h k y x
  · have := hr.own_lt x; omega
theorem doc_add (h : Ap r v es q dv) (hd : DRing w B q dv l) (hc : Chg (AT r v) w w') : DRing w' B q dv l := hd.chg hc (fun k hk x => h k hk (at_ro x))
theorem code_add (h : Ap r v es q dv) (hr : Ring w B r v es) (hc : Chg (DO q dv) w w') : Ring w' B r v es := hr.chg hc (fun k hk x => h k x hk)
theorem doc_use {i : Nat} {e : Ent} (h : Ap r v es q dv) (hd : DRing w B q dv l) (he : es[i]? = some e) (hc : Chg (Ow e.b e.h) w w') : DRing w' B q dv l := hd.chg hc (fun k hk x => h k hk (ow_ro he x))
theorem below_doc {w0 : World} (hb : Below B w0 w) (hB : B ≤ w.heap.size) (hd : DRing w B q dv l) (hc : Chg (DO q dv) w w') : Below B w0 w' :=
  hb.trans (hc.below hB (fun k _ hk => hd.own_lo hk))
def Ct (es : List Ent) (n : Nat) : Prop := ∀ (j : Nat) (e : Ent), es[j]? = some e → e.a ≤ n ∧ e.o = 0 ∧ e.r = 0
theorem ct_more {n : Nat} (h : Ct es n) : Ct es (n + 1) := fun j e he => ⟨by have := (h j e he).1; omega, (h j e he).2⟩
theorem ct_add {n : Nat} (h : Ct es n) (hh : es' = es ∨ ∃ x, es' = es ++ [x] ∧ x.a = 0 ∧ x.o = 0 ∧ x.r = 0) : Ct es' (n + 1) := by
  rcases hh with rfl | ⟨x, rfl, h1, h2, h3⟩
  · exact ct_more h
  · intro j e he
    by_cases g : j < es.length
    · rw [List.getElem?_append_left g] at he
      exact ct_more h j e he
    · rw [List.getElem?_append_right (by omega)] at he
      have e1 := (List.getElem?_eq_some_iff.1 he).1
      have e2 : j - es.length = 0 := by simp at e1; omega
      rw [e2] at he
      injection he with he
      subst he
      exact ⟨by omega, h2, h3⟩
theorem ct_use {n i : Nat} {e : Ent} (h : Ct es n) (he : es[i]? = some e) {h' : Option Nat} {a' : Nat} (ha : a' ≤ e.a + 1) : Ct (es.set i ⟨e.it, e.b, h', a', e.o, e.r⟩) (n + 1) := by
  have hi := (List.getElem?_eq_some_iff.1 he).1
  intro j f hf
  by_cases g : i = j
  · subst g
    rw [List.getElem?_set_self hi] at hf
    injection hf with hf
    subst hf
    have := h i e he
    exact ⟨by simp only; omega, this.2⟩
  · rw [List.getElem?_set_ne g] at hf
    exact ct_more h j f hf
end
theorem seal1 (k : Nat → UInt8) (y : UInt8) : SeL.sealR k 1 2 [y] = (sealL k 1 2 [y], 0) := by
  rw [SeL.sealR, if_pos (by simp)]; rfl
theorem lit1_rd (w : World) (z : UInt8) : Rd (w.alloc (.cells #[.int .u8 (z.toNat : Int)] 5 (1, 2))) (w.heap.size + 1) (some ⟨w.heap.size, 0, none⟩) (bvs [z]) := by
  refine .inr ⟨w.heap.size, 0, rfl, by omega, fun i u hu => ?_⟩
  rw [Nat.zero_add, cell_of_row _ _ i _ _ (1, 2) (heap_alloc_new w _)]
  rw [← hu, List.getElem?_toArray]; rfl
theorem ring_seal1 {w : World} {B r i : Nat} {v : Value} {es : List Ent} {x : Ent} (h : Ring w B r v es) (he : es[i]? = some x) (ha : x.a < 1000000) (hB : B ≤ w.heap.size) (z : UInt8) :
    Calls Tryz.prog 11 #[.pointer (some ⟨x.b, 0, none⟩), .int .i64 1, .int .i64 2, .slice (some ⟨w.heap.size, 0, none⟩) 1 1] (w.alloc (.cells #[.int .u8 (z.toNat : Int)] 5 (1, 2))) fun e w' => ∃ A2 c2 h' a', e = .returned (.tuple #[.slice A2 (sealL x.it.k 1 2 [z]).length c2, .int .i64 0]) ∧ RdA (RO r v (es.set i ⟨x.it, x.b, h', a', x.o, x.r⟩)) w' A2 (bvs (sealL x.it.k 1 2 [z])) ∧ Ring w' B r v (es.set i ⟨x.it, x.b, h', a', x.o, x.r⟩) ∧ a' ≤ x.a + 1 ∧ Chg (Ow x.b x.h) w w' ∧ (∀ k, RO r v (es.set i ⟨x.it, x.b, h', a', x.o, x.r⟩) k → RO r v es k ∨ w.heap.size ≤ k) := by
  have hal : Below w.heap.size w (w.alloc (.cells #[.int .u8 (z.toNat : Int)] 5 (1, 2))) := (Below.refl _ _).alloc (Nat.le_refl _) _
  have h1 := h.below hal
  have hr : RdA (RO r v es) (w.alloc (.cells #[.int .u8 (z.toNat : Int)] 5 (1, 2))) (some ⟨w.heap.size, 0, none⟩) (bvs [z]) := by
    rcases lit1_rd w z with g | ⟨b, o, g1, g2, g3⟩
    · exact .inl g
    · injection g1 with g1
      injection g1 with e1 e2 _
      subst e1 e2
      exact .inr ⟨_, _, rfl, by simp, fun hx => by have := h.own_lt hx; omega, g3⟩
  have := ring_seal h1 he ha (Nat.le_trans hB hal.size) 1 2 (some ⟨w.heap.size, 0, none⟩) 1 1 [z] (by decide) rfl (by decide) hr
  rw [seal1] at this
  refine this.mono ?_
  rintro e w' ⟨A2, c2, h', a', rfl, _, _, x3, x4, x5, x6⟩
  refine ⟨A2, c2, h', a', rfl, x3, x4, x5, (Chg.of_below hal).trans x6.1 (fun _ _ y => y), fun k hk => ?_⟩
  rcases h1.use_new he a' x.o x.r x6 k hk with y | y
  · exact .inl y
  · exact .inr (by have := hal.size; omega)
theorem dseal1 (k : Nat → UInt8) (z : UInt8) (w : World) :
    Calls Tryz.prog 12 #[.agg (key32 k), .int .i64 1, .int .i64 2, .slice (some ⟨w.heap.size, 0, none⟩) 1 1] (w.alloc (.cells #[.int .u8 (z.toNat : Int)] 5 (1, 2))) fun e w' => ∃ A2 c2, e = .returned (.tuple #[.slice A2 (sealL k 1 2 [z]).length c2, .int .i64 0]) ∧ Rd w' w'.heap.size A2 (bvs (sealL k 1 2 [z])) ∧ Below w.heap.size w w' := by
  have hal : Below w.heap.size w (w.alloc (.cells #[.int .u8 (z.toNat : Int)] 5 (1, 2))) := (Below.refl _ _).alloc (Nat.le_refl _) _
  have := SeL.dseal_res k 1 2 (some ⟨w.heap.size, 0, none⟩) 1 1 [z] _ rfl ((lit1_rd w z).more (by simp))
  rw [seal1] at this
  refine this.mono ?_
  rintro e w' ⟨A2, c2, rfl, x1, x2⟩
  exact ⟨A2, c2, rfl, x1.rd, hal.trans (x2.mono hal.size)⟩
end Go.Proofs.YtcjibpjdfhhhkaaGreat.Rg
end
