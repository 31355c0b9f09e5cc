/-
  The law that a script takes the same of the code's Cursor and the document's: the acts, and what both Cursors have in common.
-/
import Derived.Test.YtkkpcnibghndgaaDerRCur5
import Derived.Test.YtkkpcnibghndgaaRegion2
import Derived.Test.YtkkpcnibghndgaaDerLaw10
import Derived.Deep.QuietTactic
import Derived.BigQuiet
set_option linter.unusedVariables false
namespace Go.Proofs.Ytkkpcnibghndgaa.DerL
open Go.RowKit Go.Proofs.Ytkkpcnibghndgaa.Mem Go.Proofs.Ytkkpcnibghndgaa.DerP Go.Proofs.Ytkkpcnibghndgaa.Reg

/-- a slice of acts, as it lies: a kind and a tag each -/
def Acs (w : World) (B : Nat) (A : Option Addr) (ac : List (Int × UInt8)) : Prop :=
  ac = [] ∨ ∃ b o, A = some ⟨b, o, none⟩ ∧ b < B ∧ ∀ i a, ac[i]? = some a → w.cell? ⟨b, o + i * 2, none⟩ = some (.int .i64 a.1) ∧ w.cell? ⟨b, o + i * 2 + 1, none⟩ = some (.int .u8 (a.2.toNat : Int))
def kd (ac : List (Int × UInt8)) (i : Nat) : Int := (ac.getD i (0, 0)).1
def tgA (ac : List (Int × UInt8)) (i : Nat) : UInt8 := (ac.getD i (0, 0)).2
theorem Acs.below {w w' : World} {B : Nat} {A : Option Addr} {ac : List (Int × UInt8)} (h : Acs w B A ac) (hb : Below B w w') : Acs w' B A ac := by
  rcases h with h | ⟨b, o, h1, h2, h3⟩
  · exact .inl h
  · exact .inr ⟨b, o, h1, h2, fun i a ha => ⟨(hb.cell (p := ⟨b, o + i * 2, none⟩) h2).trans (h3 i a ha).1, (hb.cell (p := ⟨b, o + i * 2 + 1, none⟩) h2).trans (h3 i a ha).2⟩⟩
theorem Acs.at_ {w : World} {B : Nat} {A : Option Addr} {ac : List (Int × UInt8)} (h : Acs w B A ac) {i : Nat} (hi : i < ac.length) :
    ∃ b o, A = some ⟨b, o, none⟩ ∧ b < B ∧ w.cell? ⟨b, o + i * 2, none⟩ = some (.int .i64 (kd ac i)) ∧ w.cell? ⟨b, o + i * 2 + 1, none⟩ = some (.int .u8 ((tgA ac i).toNat : Int)) := by
  rcases h with h | ⟨b, o, h1, h2, h3⟩
  · subst h; simp at hi
  · obtain ⟨h4, h5⟩ := h3 i (ac.getD i (0, 0)) (by simp [List.getD, hi])
    exact ⟨b, o, h1, h2, h4, h5⟩

/-- both Cursors have one state -/
def Both (w0 w : World) (g g' : Nat) (c : Option L) : Prop :=
  DerC.Cur w g c ∧ DerR.RC w w0.heap.size g' c ∧ w0.heap.size ≤ g ∧ w0.heap.size ≤ g' ∧ g ≠ g' ∧ Below w0.heap.size w0 w ∧ (c.getD []).length ≤ 2000

section
variable {P : Program} {ops : Array Oper} {Q : Exit → Act → World → Prop} {md : Region.Mode} {S : World → Prop}
theorem begin_s (S : World → Prop) (n : Nat) {id : Nat} {a : Act} {w : World} (hn : ops.size = n) (hm : P.follows .mixedOrders = true) (hS : S w.drew) (h : wpAnyH P .any ops Q S n (Array.replicate n false) a w.drew) : (Code.region id ops true).wp P Q a w := by
  subst hn
  exact wp_region_held_drew hm hS (fun _ => h)
theorem take_s (i : Nat) {dst : Option Tmp} {op : Op} {ty : TypeId} {pos : String} {after : Array _} {guard : Option (Nat × Bool)} {v : Value} {fuel : Nat} {listed : Array Bool} {a : Act} {w : World} (hi : ops[i]? = some ⟨dst, op, ty, pos, after, guard⟩)
    (hs : Region.noSelect ops = true) (hf : Region.free md ops listed i = true) (hr : (Region.ready md ops listed).contains i = true)
    (hQ : ∀ c a w, Q (.panic c) (a.put dst v) w → Q (.panic c) a w)
    (hw : Region.wanted ⟨dst, op, ty, pos, after, guard⟩ (yielded ops a.tmps) = true) (hy : ∀ w', S w' → (execOp a.eval ⟨dst, op, ty, pos, after, guard⟩).run P w' = .ok (.value v) w') (hS : S w)
    (h : wpAnyH P md ops Q S fuel (listed.setIfInBounds i true) (a.put dst v) w) : wpAnyH P md ops Q S (fuel + 1) listed a w :=
  wpAnyH_take hi hs hf hr hQ (.inl ⟨hw, hy⟩) hS h
theorem call_s (i : Nat) {dst : Option Tmp} {op : Op} {ty : TypeId} {pos : String} {after : Array _} {guard : Option (Nat × Bool)} {fuel : Nat} {listed : Array Bool} {a : Act} {w : World} (hi : ops[i]? = some ⟨dst, op, ty, pos, after, guard⟩)
    (hr : Region.ready md ops listed = [i]) (hw : Region.wanted ⟨dst, op, ty, pos, after, guard⟩ (yielded ops a.tmps) = true) (f : FuncId) (args : Array Value)
    (hx : (execOp a.eval ⟨dst, op, ty, pos, after, guard⟩).run P w = .ok (.enter f args) w)
    (h : Calls P f args w fun e w' => ∃ (v : Value) (S' : World → Prop), e = .returned v ∧ S w' ∧ (∀ w'', S' w'' → S w'') ∧ wpAnyH P md ops Q S' fuel (listed.setIfInBounds i true) (a.put dst v) w') : wpAnyH P md ops Q S (fuel + 1) listed a w := by
  refine wpAnyH_all hr (by simp) fun j hj => ?_
  obtain rfl : j = i := by simpa using hj
  unfold wpOp
  simp only [hi]
  rw [if_pos hw]
  left
  unfold Oper.wp
  rw [hx]
  exact h.mono fun e w' hh => by
    obtain ⟨v, S', rfl, hS, hm, hh⟩ := hh
    exact ⟨hS, held_mono hm _ _ _ _ hh⟩
end
theorem rc_drew {w : World} {B g : Nat} {c : Option L} (h : DerR.RC w B g c) (q : Nat) : DerR.RC (w.drewN q) B g c := by
  obtain ⟨A, n, cap, e, hb, hr⟩ := h
  refine ⟨A, n, cap, e, hb.drewN q, ?_⟩
  cases c with
  | none => exact hr
  | some l => exact ⟨hr.1, hr.2.1, hr.2.2.1, hr.2.2.2.drewN q⟩
theorem both_drew {w0 w : World} {g g' : Nat} {c : Option L} (h : Both w0 w g g' c) (q : Nat) : Both w0 (w.drewN q) g g' c :=
  ⟨Blk.drewN h.1 q, rc_drew h.2.1 q, h.2.2.1, h.2.2.2.1, h.2.2.2.2.1, below_drewN h.2.2.2.2.2.1 q, h.2.2.2.2.2.2⟩
theorem int_len (c : Option L) : (((intC c).2).getD []).length ≤ (c.getD []).length := by
  simp only [intC]
  split
  · simp
  · split
    · simp
    · exact (body_len 2 c).2
theorem next_len (t : UInt8) (c : Option L) {x : Option L} (h : nextC t c = x) : (x.getD []).length ≤ (c.getD []).length := by rw [← h]; exact (body_len t c).2
theorem body_len' (t : UInt8) (c : Option L) {x : Option L} (h : bodyC t c = x) : (x.getD []).length ≤ (c.getD []).length := by rw [← h]; exact (body_len t c).1

set_option maxRecDepth 100000 in
set_option maxHeartbeats 4000000 in
theorem takes_in (A : Option Addr) (l : L) (n c : Nat) (hn : n = l.length) (hc : n ≤ c) (B : Option Addr) (ac : List (Int × UInt8)) (N d : Nat) (hN : N = ac.length) (w : World) (hr : Rd w w.heap.size A (bvs l)) (ha : Acs w w.heap.size B ac) (h1 : n ≤ 2000) (h2 : N ≤ 100) :
    Calls Try.prog 4 #[.slice A n c, .slice B N d] w fun e w' => e = .returned (.bool true) ∧ Below w.heap.size w w' := by
  have g1 : decide ((2000 : Int) < (n : Int)) = false := by simp only [decide_eq_false_iff_not]; omega
  have g2 : decide ((100 : Int) < (N : Int)) = false := by simp only [decide_eq_false_iff_not]; omega
  have HR := Lib.hid hr
  have HA := Lib.hid ha
  have HN := Lib.hid hn
  have HC := Lib.hid hc
  have HNN := Lib.hid hN
  have H1 := Lib.hid h1
  have hNu : (N : Int) ≤ 100 := by omega
  clear hr ha hn hc hN h1 h2
  go_enter Try.func4, Try.ntmps4
  go_wp2_with (go_at_call 23; refine (DerC.open_any _ _ _ _ _ _ HR.out HN.out).mono ?_; rintro e w1 ⟨g, rfl, hg, hcur, hb1⟩)
  have hboth : Both w (w1.alloc (.cells #[.slice A n c, .bool false] 35)) g w1.heap.size (some l) :=
    ⟨Blk.alloc hcur _, rc_new (HR.out.below hb1) HN.out HC.out hb1.size, hg, hb1.size, by have := Blk.lt hcur; omega, hb1.alloc hb1.size _, by have := H1.out; have := HN.out; simp only [Option.getD_some]; omega⟩
  have HBO := Lib.hid hboth
  clear hboth hcur hg hb1
  go_loopw [5, 6, 7] (fun cv xv iv wr => ∃ (i g g' : Nat) (st : Option L), i ≤ N ∧ iv = .int .i64 (i : Int) ∧ cv = .pointer (some ⟨g, 0, none⟩) ∧ xv = .pointer (some ⟨g', 0, none⟩) ∧ Both w wr g g' st) (fun _ _ iv _ => N - (intOf iv).toNat)
  case atStart => exact ⟨0, g, w1.heap.size, some l, by omega, rfl, rfl, rfl, HBO.out⟩
  case round =>
    obtain ⟨i, g, g', st, hi, rfl, rfl, rfl, hbo⟩ := hrel
    clear HBO
    by_cases hlt : i < N
    · obtain ⟨hcur, hrc, hg, hg', hne, hb, hle⟩ := hbo
      obtain ⟨b, o, rfl, hbB, hck, hct⟩ := (HA.out.below hb).at_ (i := i) (by have := HNN.out; omega)
      have HCUR := Lib.hid hcur
      have HRC := Lib.hid hrc
      have HG := Lib.hid hg
      have HG' := Lib.hid hg'
      have HNE := Lib.hid hne
      have HB := Lib.hid hb
      have HLE := Lib.hid hle
      clear hcur hrc hg hg' hne hb hle
      by_cases hk : kd ac i = 1
      · cases hx : (intC st).2 with
        | none =>
          have HX := Lib.hid hx
          clear hx
          have g3 : (kd ac i == 1) = true := by simp [hk]
          go_wp2_with (first
            | (go_at_call 24; refine (DerC.int_any g st wr HCUR.out (by have := HLE.out; omega)).mono ?_; rintro e w2 ⟨rfl, hcu2, hg2⟩; rw [HX.out] at hcu2
               have hrc2 := DerR.RC.keep HRC.out hg2 (by simp; exact HNE.out) HB.out.size (by intro k hk; injection hk with hk; have := HG.out; omega))
            | (go_at_call 25; refine (DerR.rint_any w.heap.size g' st w2 hrc2 (Nat.le_trans HB.out.size hg2.size) HG'.out (by have := HLE.out; omega)).mono ?_; rintro e wN ⟨rfl, hrcN, hgN⟩; rw [HX.out] at hrcN
               have hcuN : DerC.Cur wN g none := Blk.grown hcu2 hgN (by simp; exact fun e => HNE.out e.symm)
               have HCU := Lib.hid (fun q => Blk.drewN hcuN q)
               have HRU := Lib.hid (fun q => rc_drew hrcN q)
               have HBOTH := Lib.hid (show Both w wN g g' none from ⟨hcuN, hrcN, HG.out, HG'.out, HNE.out, btg (btg HB.out hg2 HG.out) hgN HG'.out, by have := int_len st; rw [HX.out] at this; have := HLE.out; omega⟩)
               clear hcuN hcu2 hrc2
               obtain ⟨Ax, nx, capx, ex, hbk, rfl⟩ := hrcN
               have h0x : wN.cell? ⟨g', 0, none⟩ = some (.slice Ax nx capx) := hbk.cell 0
               have h1x : wN.cell? ⟨g', 1, none⟩ = some (.bool true) := hbk.cell 1
               have HBN := Lib.hid hbk
               clear hbk))
          go_quiet (first
            | (go_at_call 32; refine (DerC.good_any g none _ (HCU.out _)).mono ?_; rintro e w' ⟨rfl, rfl⟩; exact ⟨rfl, _, rfl⟩)
            | (go_at_call 35; refine (DerC.left_any g none _ (HCU.out _)).mono ?_; rintro e w' ⟨rfl, rfl⟩; exact ⟨rfl, _, rfl⟩)
            | (go_at_call 33; refine (DerC.whole_any g none _ (HCU.out _)).mono ?_; rintro e w' ⟨rfl, rfl⟩; exact ⟨rfl, _, rfl⟩)
            | (go_at_call 34; refine (DerR.rwhole_any w.heap.size g' none _ (HRU.out _)).mono ?_; rintro e w' ⟨rfl, rfl⟩; exact ⟨rfl, _, rfl⟩))
          go_wp2
          exact ⟨⟨i + 1, g, g', none, by omega, by go_num, rfl, rfl, both_drew HBOTH.out _⟩, by simp [intOf]; omega⟩
        | some s =>
          have HX := Lib.hid hx
          clear hx
          have g3 : (kd ac i == 1) = true := by simp [hk]
          go_wp2_with (first
            | (go_at_call 24; refine (DerC.int_any g st wr HCUR.out (by have := HLE.out; omega)).mono ?_; rintro e w2 ⟨rfl, hcu2, hg2⟩; rw [HX.out] at hcu2
               have hrc2 := DerR.RC.keep HRC.out hg2 (by simp; exact HNE.out) HB.out.size (by intro k hk; injection hk with hk; have := HG.out; omega))
            | (go_at_call 25; refine (DerR.rint_any w.heap.size g' st w2 hrc2 (Nat.le_trans HB.out.size hg2.size) HG'.out (by have := HLE.out; omega)).mono ?_; rintro e wN ⟨rfl, hrcN, hgN⟩; rw [HX.out] at hrcN
               have hcuN : DerC.Cur wN g (some s) := Blk.grown hcu2 hgN (by simp; exact fun e => HNE.out e.symm)
               have HCU := Lib.hid (fun q => Blk.drewN hcuN q)
               have HRU := Lib.hid (fun q => rc_drew hrcN q)
               have HBOTH := Lib.hid (show Both w wN g g' (some s) from ⟨hcuN, hrcN, HG.out, HG'.out, HNE.out, btg (btg HB.out hg2 HG.out) hgN HG'.out, by have := int_len st; rw [HX.out] at this; have := HLE.out; omega⟩)
               clear hcuN hcu2 hrc2
               obtain ⟨Ax, nx, capx, ex, hbk, rfl, hnx, hlx⟩ := hrcN
               subst hnx
               have h0x : wN.cell? ⟨g', 0, none⟩ = some (.slice Ax s.length capx) := hbk.cell 0
               have h1x : wN.cell? ⟨g', 1, none⟩ = some (.bool false) := hbk.cell 1
               have HBN := Lib.hid hbk
               clear hbk hlx))
          go_quiet (first
            | (go_at_call 32; refine (DerC.good_any g (some s) _ (HCU.out _)).mono ?_; rintro e w' ⟨rfl, rfl⟩; exact ⟨rfl, _, rfl⟩)
            | (go_at_call 35; refine (DerC.left_any g (some s) _ (HCU.out _)).mono ?_; rintro e w' ⟨rfl, rfl⟩; exact ⟨rfl, _, rfl⟩)
            | (go_at_call 33; refine (DerC.whole_any g (some s) _ (HCU.out _)).mono ?_; rintro e w' ⟨rfl, rfl⟩; exact ⟨rfl, _, rfl⟩)
            | (go_at_call 34; refine (DerR.rwhole_any w.heap.size g' (some s) _ (HRU.out _)).mono ?_; rintro e w' ⟨rfl, rfl⟩; exact ⟨rfl, _, rfl⟩))
          go_wp2
          exact ⟨⟨i + 1, g, g', (some s), by omega, by go_num, rfl, rfl, both_drew HBOTH.out _⟩, by simp [intOf]; omega⟩
      · by_cases hk2 : kd ac i = 2
        · have hk := hk2
          cases hx : nextC 4 st with
          | none =>
            have HX := Lib.hid hx
            clear hx
            have g3 : (kd ac i == 1) = false := by simp [hk]
            have g3b : (kd ac i == 2) = true := by simp [hk]
            go_wp2
            refine begin_s (fun _ => True) 7 rfl (by kernel_rfl) trivial ?_
            refine take_s 0 (v := ?va0_1) rfl (by kernel_rfl) (by kernel_rfl) (by kernel_rfl) (fun _ _ _ h => h) (by rfl) (fun w' hS => ?hya0_1) trivial ?resta0_1
            case hya0_1 => go_simp; rfl
            simp only [Act.put, List.setIfInBounds_toArray, List.set_cons_zero, List.set_cons_succ]
            refine take_s 3 (v := ?va3_2) rfl (by kernel_rfl) (by kernel_rfl) (by kernel_rfl) (fun _ _ _ h => h) (by rfl) (fun w' hS => ?hya3_2) trivial ?resta3_2
            case hya3_2 => go_simp; rfl
            simp only [Act.put, List.setIfInBounds_toArray, List.set_cons_zero, List.set_cons_succ]
            refine call_s 1 rfl (by kernel_rfl) (by rfl) 26 #[.pointer (some ⟨g, 0, none⟩)] (by go_simp) ?_
            refine Calls.mono (DerC.octets_any g st wr.drew HCUR.out (by have := HLE.out; omega)) ?_
            rintro e w2 ⟨⟨q2, d2, rfl, hd2, hf2⟩, hcu2, hg2⟩
            rw [HX.out] at hcu2
            have hgw2 : wr.grownBy w2 (some g) := ⟨hg2.os, hg2.tape, hg2.output, hg2.size, hg2.block⟩
            have hrc2 := DerR.RC.keep HRC.out hgw2 (by simp; exact HNE.out) HB.out.size (by intro k hk; injection hk with hk; have := HG.out; omega)
            have hlt' : g' < wr.heap.size := by obtain ⟨_, _, _, _, hbk, _⟩ := HRC.out; exact Blk.lt hbk
            have hq2 : q2 ≠ g' := by have h5 : wr.heap.size ≤ q2 := hf2.1; omega
            have HF := Lib.hid hf2
            refine ⟨_, fun w'' => w2.grownBy w'' (some g'), rfl, trivial, fun _ _ => trivial, ?_⟩
            simp only [Act.put, List.setIfInBounds_toArray, List.set_cons_zero, List.set_cons_succ]
            refine take_s 2 (v := ?va2_3) rfl (by kernel_rfl) (by kernel_rfl) (by kernel_rfl) (fun _ _ _ h => h) (by rfl) (fun w' hS => ?hya2_3) (World.grownBy.refl _ _) ?resta2_3
            case hya2_3 => have hh := run_bytes_str (P := Try.prog) w' 22 5 Try.underlying22 Try.underlying5 (fresh_grown HF.out hS hq2).rd ((bodyC 4 st).getD []).length d2 rfl 9 Try.underlying9; go_simp; rfl
            simp only [Act.put, List.setIfInBounds_toArray, List.set_cons_zero, List.set_cons_succ]
            refine call_s 4 rfl (by kernel_rfl) (by rfl) 27 #[.pointer (some ⟨g', 0, none⟩)] (by go_simp) ?_
            refine Calls.mono (DerR.roctets_any w.heap.size g' st w2 hrc2 (Nat.le_trans HB.out.size hgw2.size) HG'.out (by have := HLE.out; omega)) ?_
            rintro e wN ⟨⟨A5, d5, rfl, hd5, hrd5⟩, hrcN, hgN⟩
            rw [HX.out] at hrcN
            have HRD5 := Lib.hid hrd5
            have hcuN : DerC.Cur wN g none := Blk.grown hcu2 hgN (by simp; exact fun e => HNE.out e.symm)
            have HCU := Lib.hid (fun q => Blk.drewN hcuN q)
            have HRU := Lib.hid (fun q => rc_drew hrcN q)
            have hbN : Below w.heap.size w wN := btg (btg HB.out hgw2 HG.out) hgN HG'.out
            have HBOTH := Lib.hid (show Both w wN g g' none from ⟨hcuN, hrcN, HG.out, HG'.out, HNE.out, hbN, Nat.le_trans (next_len 4 st HX.out) HLE.out⟩)
            clear hcuN hcu2 hrc2
            obtain ⟨Ax, nx, capx, ex, hbk, rfl⟩ := hrcN
            have h0x : wN.cell? ⟨g', 0, none⟩ = some (.slice Ax nx capx) := hbk.cell 0
            have h1x : wN.cell? ⟨g', 1, none⟩ = some (.bool true) := hbk.cell 1
            have HBN := Lib.hid hbk
            clear hbk
            refine ⟨_, fun w'' => Below wN.heap.size wN w'', rfl, hgN, fun w'' h => g_then hgN h, ?_⟩
            simp only [Act.put, List.setIfInBounds_toArray, List.set_cons_zero, List.set_cons_succ]
            refine take_s 5 (v := ?va5_4) rfl (by kernel_rfl) (by kernel_rfl) (by kernel_rfl) (fun _ _ _ h => h) (by rfl) (fun w' hS => ?hya5_4) (Below.refl _ _) ?resta5_4
            case hya5_4 => have hh := run_bytes_str (P := Try.prog) w' 22 5 Try.underlying22 Try.underlying5 (HRD5.out.below (hS.mono hbN.size)) ((bodyC 4 st).getD []).length d5 rfl 9 Try.underlying9; go_simp; rfl
            simp only [Act.put, List.setIfInBounds_toArray, List.set_cons_zero, List.set_cons_succ]
            refine take_s 6 (v := ?va6_5) rfl (by kernel_rfl) (by kernel_rfl) (by kernel_rfl) (fun _ _ _ h => h) (by rfl) (fun w' hS => ?hya6_5) (Below.refl _ _) ?resta6_5
            case hya6_5 => go_simp; rfl
            simp only [Act.put, List.setIfInBounds_toArray, List.set_cons_zero, List.set_cons_succ]
            refine wpAnyH_done (by kernel_rfl) ?_ _
            go_wp2
            go_quiet (first
              | (go_at_call 32; refine (DerC.good_any g none _ (HCU.out _)).mono ?_; rintro e w' ⟨rfl, rfl⟩; exact ⟨rfl, _, rfl⟩)
              | (go_at_call 35; refine (DerC.left_any g none _ (HCU.out _)).mono ?_; rintro e w' ⟨rfl, rfl⟩; exact ⟨rfl, _, rfl⟩)
              | (go_at_call 33; refine (DerC.whole_any g none _ (HCU.out _)).mono ?_; rintro e w' ⟨rfl, rfl⟩; exact ⟨rfl, _, rfl⟩)
              | (go_at_call 34; refine (DerR.rwhole_any w.heap.size g' none _ (HRU.out _)).mono ?_; rintro e w' ⟨rfl, rfl⟩; exact ⟨rfl, _, rfl⟩))
            go_wp2
            exact ⟨⟨i + 1, g, g', none, by omega, by go_num, rfl, rfl, both_drew HBOTH.out _⟩, by simp [intOf]; omega⟩
          | some s =>
            have HX := Lib.hid hx
            clear hx
            have g3 : (kd ac i == 1) = false := by simp [hk]
            have g3b : (kd ac i == 2) = true := by simp [hk]
            go_wp2
            refine begin_s (fun _ => True) 7 rfl (by kernel_rfl) trivial ?_
            refine take_s 0 (v := ?va0_6) rfl (by kernel_rfl) (by kernel_rfl) (by kernel_rfl) (fun _ _ _ h => h) (by rfl) (fun w' hS => ?hya0_6) trivial ?resta0_6
            case hya0_6 => go_simp; rfl
            simp only [Act.put, List.setIfInBounds_toArray, List.set_cons_zero, List.set_cons_succ]
            refine take_s 3 (v := ?va3_7) rfl (by kernel_rfl) (by kernel_rfl) (by kernel_rfl) (fun _ _ _ h => h) (by rfl) (fun w' hS => ?hya3_7) trivial ?resta3_7
            case hya3_7 => go_simp; rfl
            simp only [Act.put, List.setIfInBounds_toArray, List.set_cons_zero, List.set_cons_succ]
            refine call_s 1 rfl (by kernel_rfl) (by rfl) 26 #[.pointer (some ⟨g, 0, none⟩)] (by go_simp) ?_
            refine Calls.mono (DerC.octets_any g st wr.drew HCUR.out (by have := HLE.out; omega)) ?_
            rintro e w2 ⟨⟨q2, d2, rfl, hd2, hf2⟩, hcu2, hg2⟩
            rw [HX.out] at hcu2
            have hgw2 : wr.grownBy w2 (some g) := ⟨hg2.os, hg2.tape, hg2.output, hg2.size, hg2.block⟩
            have hrc2 := DerR.RC.keep HRC.out hgw2 (by simp; exact HNE.out) HB.out.size (by intro k hk; injection hk with hk; have := HG.out; omega)
            have hlt' : g' < wr.heap.size := by obtain ⟨_, _, _, _, hbk, _⟩ := HRC.out; exact Blk.lt hbk
            have hq2 : q2 ≠ g' := by have h5 : wr.heap.size ≤ q2 := hf2.1; omega
            have HF := Lib.hid hf2
            refine ⟨_, fun w'' => w2.grownBy w'' (some g'), rfl, trivial, fun _ _ => trivial, ?_⟩
            simp only [Act.put, List.setIfInBounds_toArray, List.set_cons_zero, List.set_cons_succ]
            refine take_s 2 (v := ?va2_8) rfl (by kernel_rfl) (by kernel_rfl) (by kernel_rfl) (fun _ _ _ h => h) (by rfl) (fun w' hS => ?hya2_8) (World.grownBy.refl _ _) ?resta2_8
            case hya2_8 => have hh := run_bytes_str (P := Try.prog) w' 22 5 Try.underlying22 Try.underlying5 (fresh_grown HF.out hS hq2).rd ((bodyC 4 st).getD []).length d2 rfl 9 Try.underlying9; go_simp; rfl
            simp only [Act.put, List.setIfInBounds_toArray, List.set_cons_zero, List.set_cons_succ]
            refine call_s 4 rfl (by kernel_rfl) (by rfl) 27 #[.pointer (some ⟨g', 0, none⟩)] (by go_simp) ?_
            refine Calls.mono (DerR.roctets_any w.heap.size g' st w2 hrc2 (Nat.le_trans HB.out.size hgw2.size) HG'.out (by have := HLE.out; omega)) ?_
            rintro e wN ⟨⟨A5, d5, rfl, hd5, hrd5⟩, hrcN, hgN⟩
            rw [HX.out] at hrcN
            have HRD5 := Lib.hid hrd5
            have hcuN : DerC.Cur wN g (some s) := Blk.grown hcu2 hgN (by simp; exact fun e => HNE.out e.symm)
            have HCU := Lib.hid (fun q => Blk.drewN hcuN q)
            have HRU := Lib.hid (fun q => rc_drew hrcN q)
            have hbN : Below w.heap.size w wN := btg (btg HB.out hgw2 HG.out) hgN HG'.out
            have HBOTH := Lib.hid (show Both w wN g g' (some s) from ⟨hcuN, hrcN, HG.out, HG'.out, HNE.out, hbN, Nat.le_trans (next_len 4 st HX.out) HLE.out⟩)
            clear hcuN hcu2 hrc2
            obtain ⟨Ax, nx, capx, ex, hbk, rfl, hnx, hlx⟩ := hrcN
            subst hnx
            have h0x : wN.cell? ⟨g', 0, none⟩ = some (.slice Ax s.length capx) := hbk.cell 0
            have h1x : wN.cell? ⟨g', 1, none⟩ = some (.bool false) := hbk.cell 1
            have HBN := Lib.hid hbk
            clear hbk hlx
            refine ⟨_, fun w'' => Below wN.heap.size wN w'', rfl, hgN, fun w'' h => g_then hgN h, ?_⟩
            simp only [Act.put, List.setIfInBounds_toArray, List.set_cons_zero, List.set_cons_succ]
            refine take_s 5 (v := ?va5_9) rfl (by kernel_rfl) (by kernel_rfl) (by kernel_rfl) (fun _ _ _ h => h) (by rfl) (fun w' hS => ?hya5_9) (Below.refl _ _) ?resta5_9
            case hya5_9 => have hh := run_bytes_str (P := Try.prog) w' 22 5 Try.underlying22 Try.underlying5 (HRD5.out.below (hS.mono hbN.size)) ((bodyC 4 st).getD []).length d5 rfl 9 Try.underlying9; go_simp; rfl
            simp only [Act.put, List.setIfInBounds_toArray, List.set_cons_zero, List.set_cons_succ]
            refine take_s 6 (v := ?va6_10) rfl (by kernel_rfl) (by kernel_rfl) (by kernel_rfl) (fun _ _ _ h => h) (by rfl) (fun w' hS => ?hya6_10) (Below.refl _ _) ?resta6_10
            case hya6_10 => go_simp; rfl
            simp only [Act.put, List.setIfInBounds_toArray, List.set_cons_zero, List.set_cons_succ]
            refine wpAnyH_done (by kernel_rfl) ?_ _
            go_wp2
            go_quiet (first
              | (go_at_call 32; refine (DerC.good_any g (some s) _ (HCU.out _)).mono ?_; rintro e w' ⟨rfl, rfl⟩; exact ⟨rfl, _, rfl⟩)
              | (go_at_call 35; refine (DerC.left_any g (some s) _ (HCU.out _)).mono ?_; rintro e w' ⟨rfl, rfl⟩; exact ⟨rfl, _, rfl⟩)
              | (go_at_call 33; refine (DerC.whole_any g (some s) _ (HCU.out _)).mono ?_; rintro e w' ⟨rfl, rfl⟩; exact ⟨rfl, _, rfl⟩)
              | (go_at_call 34; refine (DerR.rwhole_any w.heap.size g' (some s) _ (HRU.out _)).mono ?_; rintro e w' ⟨rfl, rfl⟩; exact ⟨rfl, _, rfl⟩))
            go_wp2
            exact ⟨⟨i + 1, g, g', (some s), by omega, by go_num, rfl, rfl, both_drew HBOTH.out _⟩, by simp [intOf]; omega⟩
        · by_cases hk3 : kd ac i = 3
          · have hk := hk3
            cases hx : nextC 27 st with
            | none =>
              have HX := Lib.hid hx
              clear hx
              have g3 : (kd ac i == 1) = false := by simp [hk]
              have g3b : (kd ac i == 2) = false := by simp [hk]
              have g3c : (kd ac i == 3) = true := by simp [hk]
              go_wp2_with (first
                | (go_at_call 28; refine (DerC.text_any g st wr HCUR.out (by have := HLE.out; omega)).mono ?_; rintro e w2 ⟨rfl, hcu2, hg2⟩; rw [HX.out] at hcu2
                   have hrc2 := DerR.RC.keep HRC.out hg2 (by simp; exact HNE.out) HB.out.size (by intro k hk; injection hk with hk; have := HG.out; omega))
                | (go_at_call 29; refine (DerR.rtext_any w.heap.size g' st w2 hrc2 (Nat.le_trans HB.out.size hg2.size) HG'.out (by have := HLE.out; omega)).mono ?_; rintro e wN ⟨rfl, hrcN, hgN⟩; rw [HX.out] at hrcN
                   have hcuN : DerC.Cur wN g none := Blk.grown hcu2 hgN (by simp; exact fun e => HNE.out e.symm)
                   have HCU := Lib.hid (fun q => Blk.drewN hcuN q)
                   have HRU := Lib.hid (fun q => rc_drew hrcN q)
                   have HBOTH := Lib.hid (show Both w wN g g' none from ⟨hcuN, hrcN, HG.out, HG'.out, HNE.out, btg (btg HB.out hg2 HG.out) hgN HG'.out, Nat.le_trans (next_len 27 st HX.out) HLE.out⟩)
                   clear hcuN hcu2 hrc2
                   obtain ⟨Ax, nx, capx, ex, hbk, rfl⟩ := hrcN
                   have h0x : wN.cell? ⟨g', 0, none⟩ = some (.slice Ax nx capx) := hbk.cell 0
                   have h1x : wN.cell? ⟨g', 1, none⟩ = some (.bool true) := hbk.cell 1
                   have HBN := Lib.hid hbk
                   clear hbk))
              go_quiet (first
                | (go_at_call 32; refine (DerC.good_any g none _ (HCU.out _)).mono ?_; rintro e w' ⟨rfl, rfl⟩; exact ⟨rfl, _, rfl⟩)
                | (go_at_call 35; refine (DerC.left_any g none _ (HCU.out _)).mono ?_; rintro e w' ⟨rfl, rfl⟩; exact ⟨rfl, _, rfl⟩)
                | (go_at_call 33; refine (DerC.whole_any g none _ (HCU.out _)).mono ?_; rintro e w' ⟨rfl, rfl⟩; exact ⟨rfl, _, rfl⟩)
                | (go_at_call 34; refine (DerR.rwhole_any w.heap.size g' none _ (HRU.out _)).mono ?_; rintro e w' ⟨rfl, rfl⟩; exact ⟨rfl, _, rfl⟩))
              go_wp2
              exact ⟨⟨i + 1, g, g', none, by omega, by go_num, rfl, rfl, both_drew HBOTH.out _⟩, by simp [intOf]; omega⟩
            | some s =>
              have HX := Lib.hid hx
              clear hx
              have g3 : (kd ac i == 1) = false := by simp [hk]
              have g3b : (kd ac i == 2) = false := by simp [hk]
              have g3c : (kd ac i == 3) = true := by simp [hk]
              go_wp2_with (first
                | (go_at_call 28; refine (DerC.text_any g st wr HCUR.out (by have := HLE.out; omega)).mono ?_; rintro e w2 ⟨rfl, hcu2, hg2⟩; rw [HX.out] at hcu2
                   have hrc2 := DerR.RC.keep HRC.out hg2 (by simp; exact HNE.out) HB.out.size (by intro k hk; injection hk with hk; have := HG.out; omega))
                | (go_at_call 29; refine (DerR.rtext_any w.heap.size g' st w2 hrc2 (Nat.le_trans HB.out.size hg2.size) HG'.out (by have := HLE.out; omega)).mono ?_; rintro e wN ⟨rfl, hrcN, hgN⟩; rw [HX.out] at hrcN
                   have hcuN : DerC.Cur wN g (some s) := Blk.grown hcu2 hgN (by simp; exact fun e => HNE.out e.symm)
                   have HCU := Lib.hid (fun q => Blk.drewN hcuN q)
                   have HRU := Lib.hid (fun q => rc_drew hrcN q)
                   have HBOTH := Lib.hid (show Both w wN g g' (some s) from ⟨hcuN, hrcN, HG.out, HG'.out, HNE.out, btg (btg HB.out hg2 HG.out) hgN HG'.out, Nat.le_trans (next_len 27 st HX.out) HLE.out⟩)
                   clear hcuN hcu2 hrc2
                   obtain ⟨Ax, nx, capx, ex, hbk, rfl, hnx, hlx⟩ := hrcN
                   subst hnx
                   have h0x : wN.cell? ⟨g', 0, none⟩ = some (.slice Ax s.length capx) := hbk.cell 0
                   have h1x : wN.cell? ⟨g', 1, none⟩ = some (.bool false) := hbk.cell 1
                   have HBN := Lib.hid hbk
                   clear hbk hlx))
              go_quiet (first
                | (go_at_call 32; refine (DerC.good_any g (some s) _ (HCU.out _)).mono ?_; rintro e w' ⟨rfl, rfl⟩; exact ⟨rfl, _, rfl⟩)
                | (go_at_call 35; refine (DerC.left_any g (some s) _ (HCU.out _)).mono ?_; rintro e w' ⟨rfl, rfl⟩; exact ⟨rfl, _, rfl⟩)
                | (go_at_call 33; refine (DerC.whole_any g (some s) _ (HCU.out _)).mono ?_; rintro e w' ⟨rfl, rfl⟩; exact ⟨rfl, _, rfl⟩)
                | (go_at_call 34; refine (DerR.rwhole_any w.heap.size g' (some s) _ (HRU.out _)).mono ?_; rintro e w' ⟨rfl, rfl⟩; exact ⟨rfl, _, rfl⟩))
              go_wp2
              exact ⟨⟨i + 1, g, g', (some s), by omega, by go_num, rfl, rfl, both_drew HBOTH.out _⟩, by simp [intOf]; omega⟩
          · cases hy : bodyC (tgA ac i) st with
            | none =>
              have hx := body_next (tgA ac i) st hy
              by_cases hk4 : kd ac i = 4
              · have HX := Lib.hid hx
                have HY := Lib.hid hy
                clear hx hy
                have g3 : (kd ac i == 1) = false := by simp; omega
                have g3b : (kd ac i == 2) = false := by simp; omega
                have g3c : (kd ac i == 3) = false := by simp; omega
                have g3d : (kd ac i == 4) = true := by simp; omega
                have hct' := sb_cell (B0 := w.heap.size) hct hbB
                have hix : (i : Int) < (N : Int) := by omega
                go_wp2
                refine begin_s (fun w'' => Below w.heap.size wr w'') 16 rfl (by kernel_rfl) (Below.refl _ _).drew ?_
                refine take_s 0 (v := ?vd0_11) rfl (by kernel_rfl) (by kernel_rfl) (by kernel_rfl) (fun _ _ _ h => h) (by rfl) (fun w' hS => ?hyd0_11) (Below.refl _ _).drew ?restd0_11
                case hyd0_11 => go_simp; rfl
                simp only [Act.put, List.setIfInBounds_toArray, List.set_cons_zero, List.set_cons_succ]
                refine take_s 1 (v := ?vd1_12) rfl (by kernel_rfl) (by kernel_rfl) (by kernel_rfl) (fun _ _ _ h => h) (by rfl) (fun w' hS => ?hyd1_12) (Below.refl _ _).drew ?restd1_12
                case hyd1_12 => go_simp; rfl
                simp only [Act.put, List.setIfInBounds_toArray, List.set_cons_zero, List.set_cons_succ]
                refine take_s 2 (v := ?vd2_13) rfl (by kernel_rfl) (by kernel_rfl) (by kernel_rfl) (fun _ _ _ h => h) (by rfl) (fun w' hS => ?hyd2_13) (Below.refl _ _).drew ?restd2_13
                case hyd2_13 => go_simp; rfl
                simp only [Act.put, List.setIfInBounds_toArray, List.set_cons_zero, List.set_cons_succ]
                refine take_s 3 (v := ?vd3_14) rfl (by kernel_rfl) (by kernel_rfl) (by kernel_rfl) (fun _ _ _ h => h) (by rfl) (fun w' hS => ?hyd3_14) (Below.refl _ _).drew ?restd3_14
                case hyd3_14 => go_simp; rfl
                simp only [Act.put, List.setIfInBounds_toArray, List.set_cons_zero, List.set_cons_succ]
                refine take_s 4 (v := ?vd4_15) rfl (by kernel_rfl) (by kernel_rfl) (by kernel_rfl) (fun _ _ _ h => h) (by rfl) (fun w' hS => ?hyd4_15) (Below.refl _ _).drew ?restd4_15
                case hyd4_15 => go_simp; rfl
                simp only [Act.put, List.setIfInBounds_toArray, List.set_cons_zero, List.set_cons_succ]
                refine take_s 5 (v := ?vd5_16) rfl (by kernel_rfl) (by kernel_rfl) (by kernel_rfl) (fun _ _ _ h => h) (by rfl) (fun w' hS => ?hyd5_16) (Below.refl _ _).drew ?restd5_16
                case hyd5_16 => have hh := hct' w' hS; go_simp; rfl
                simp only [Act.put, List.setIfInBounds_toArray, List.set_cons_zero, List.set_cons_succ]
                refine take_s 7 (v := ?vd7_17) rfl (by kernel_rfl) (by kernel_rfl) (by kernel_rfl) (fun _ _ _ h => h) (by rfl) (fun w' hS => ?hyd7_17) (Below.refl _ _).drew ?restd7_17
                case hyd7_17 => go_simp; rfl
                simp only [Act.put, List.setIfInBounds_toArray, List.set_cons_zero, List.set_cons_succ]
                refine take_s 8 (v := ?vd8_18) rfl (by kernel_rfl) (by kernel_rfl) (by kernel_rfl) (fun _ _ _ h => h) (by rfl) (fun w' hS => ?hyd8_18) (Below.refl _ _).drew ?restd8_18
                case hyd8_18 => go_simp; rfl
                simp only [Act.put, List.setIfInBounds_toArray, List.set_cons_zero, List.set_cons_succ]
                refine take_s 9 (v := ?vd9_19) rfl (by kernel_rfl) (by kernel_rfl) (by kernel_rfl) (fun _ _ _ h => h) (by rfl) (fun w' hS => ?hyd9_19) (Below.refl _ _).drew ?restd9_19
                case hyd9_19 => go_simp; rfl
                simp only [Act.put, List.setIfInBounds_toArray, List.set_cons_zero, List.set_cons_succ]
                refine take_s 10 (v := ?vd10_20) rfl (by kernel_rfl) (by kernel_rfl) (by kernel_rfl) (fun _ _ _ h => h) (by rfl) (fun w' hS => ?hyd10_20) (Below.refl _ _).drew ?restd10_20
                case hyd10_20 => go_simp; rfl
                simp only [Act.put, List.setIfInBounds_toArray, List.set_cons_zero, List.set_cons_succ]
                refine take_s 11 (v := ?vd11_21) rfl (by kernel_rfl) (by kernel_rfl) (by kernel_rfl) (fun _ _ _ h => h) (by rfl) (fun w' hS => ?hyd11_21) (Below.refl _ _).drew ?restd11_21
                case hyd11_21 => go_simp; rfl
                simp only [Act.put, List.setIfInBounds_toArray, List.set_cons_zero, List.set_cons_succ]
                refine take_s 12 (v := ?vd12_22) rfl (by kernel_rfl) (by kernel_rfl) (by kernel_rfl) (fun _ _ _ h => h) (by rfl) (fun w' hS => ?hyd12_22) (Below.refl _ _).drew ?restd12_22
                case hyd12_22 => have hh := hct' w' hS; go_simp; rfl
                simp only [Act.put, List.setIfInBounds_toArray, List.set_cons_zero, List.set_cons_succ]
                refine call_s 6 rfl (by kernel_rfl) (by rfl) 30 #[.pointer (some ⟨g, 0, none⟩), .int .u8 ((tgA ac i).toNat : Int)] (by go_simp) ?_
                refine Calls.mono (DerC.into_any (tgA ac i) g st wr.drew HCUR.out (by have := HLE.out; omega)) ?_
                rintro e w2 ⟨⟨g6, rfl, hg6, hcd2⟩, hcu2, hg2⟩
                rw [HX.out] at hcu2
                rw [HY.out] at hcd2
                have hgw2 : wr.grownBy w2 (some g) := ⟨hg2.os, hg2.tape, hg2.output, hg2.size, hg2.block⟩
                have hg6' : wr.heap.size ≤ g6 := hg6
                have hrc2 := DerR.RC.keep HRC.out hgw2 (by simp; exact HNE.out) HB.out.size (by intro k hk; injection hk with hk; have := HG.out; omega)
                have hlt' : g' < wr.heap.size := by obtain ⟨_, _, _, _, hbk, _⟩ := HRC.out; exact Blk.lt hbk
                have hltg : g < wr.heap.size := Blk.lt HCUR.out
                have hb2 : Below w.heap.size w w2 := btg HB.out hgw2 HG.out
                refine ⟨_, fun w'' => Below w.heap.size w2 w'', rfl, below_g (Below.refl _ _) hgw2 HB.out.size HG.out, fun w'' h => (below_g (Below.refl _ _) hgw2 HB.out.size HG.out).trans h, ?_⟩
                simp only [Act.put, List.setIfInBounds_toArray, List.set_cons_zero, List.set_cons_succ]
                refine call_s 13 rfl (by kernel_rfl) (by rfl) 31 #[.pointer (some ⟨g', 0, none⟩), .int .u8 ((tgA ac i).toNat : Int)] (by go_simp) ?_
                refine Calls.mono (DerR.rinto_any (tgA ac i) w.heap.size g' st w2 hrc2 hb2.size HG'.out (by have := HLE.out; omega)) ?_
                rintro e wN ⟨⟨g7, rfl, hg7, hrd7⟩, hrcN, hgN⟩
                rw [HX.out] at hrcN
                rw [HY.out] at hrd7
                have hbN : Below w.heap.size w wN := btg hb2 hgN HG'.out
                have hlt6 : g6 < w2.heap.size := Blk.lt hcd2
                have hckN := sb_cell (B0 := w.heap.size) hck hbB wN (below_g (below_g (Below.refl _ _) hgw2 HB.out.size HG.out) hgN hb2.size HG'.out)
                have hwg := HB.out.size
                have hcuN : DerC.Cur wN g none := Blk.grown hcu2 hgN (by simp; exact fun e => HNE.out e.symm)
                have hcdN : DerC.Cur wN g6 none := Blk.grown hcd2 hgN (by simp; omega)
                have HCU := Lib.hid (fun q => Blk.drewN hcuN q)
                have HRU := Lib.hid (fun q => rc_drew hrcN q)
                have HCD := Lib.hid (fun q => Blk.drewN hcdN q)
                have HRD := Lib.hid (fun q => rc_drew hrd7 q)
                have HBOTH := Lib.hid (show Both w wN g g' none from ⟨hcuN, hrcN, HG.out, HG'.out, HNE.out, hbN, Nat.le_trans (next_len _ st HX.out) HLE.out⟩)
                have HBOTD := Lib.hid (show Both w wN g6 g7 none from ⟨hcdN, hrd7, Nat.le_trans hwg hg6', Nat.le_trans hb2.size hg7, by omega, hbN, Nat.le_trans (body_len' _ st HY.out) HLE.out⟩)
                clear hcuN hcu2 hrc2 hcd2 hcdN
                obtain ⟨Ax, nx, capx, ex, hbk, rfl⟩ := hrcN
                have h0x : wN.cell? ⟨g', 0, none⟩ = some (.slice Ax nx capx) := hbk.cell 0
                have h1x : wN.cell? ⟨g', 1, none⟩ = some (.bool true) := hbk.cell 1
                have HBN := Lib.hid hbk
                clear hbk
                obtain ⟨Ay, ny, capy, ey, hbky, rfl⟩ := hrd7
                have h0y : wN.cell? ⟨g7, 0, none⟩ = some (.slice Ay ny capy) := hbky.cell 0
                have h1y : wN.cell? ⟨g7, 1, none⟩ = some (.bool true) := hbky.cell 1
                clear hbky
                refine ⟨_, fun w'' => Below w.heap.size wN w'', rfl, below_g (Below.refl _ _) hgN hb2.size HG'.out, fun w'' h => (below_g (Below.refl _ _) hgN hb2.size HG'.out).trans h, ?_⟩
                simp only [Act.put, List.setIfInBounds_toArray, List.set_cons_zero, List.set_cons_succ]
                refine take_s 14 (v := ?vd14_23) rfl (by kernel_rfl) (by kernel_rfl) (by kernel_rfl) (fun _ _ _ h => h) (by rfl) (fun w' hS => ?hyd14_23) (Below.refl _ _) ?restd14_23
                case hyd14_23 => go_simp; rfl
                simp only [Act.put, List.setIfInBounds_toArray, List.set_cons_zero, List.set_cons_succ]
                refine take_s 15 (v := ?vd15_24) rfl (by kernel_rfl) (by kernel_rfl) (by kernel_rfl) (fun _ _ _ h => h) (by rfl) (fun w' hS => ?hyd15_24) (Below.refl _ _) ?restd15_24
                case hyd15_24 => go_simp; rfl
                simp only [Act.put, List.setIfInBounds_toArray, List.set_cons_zero, List.set_cons_succ]
                refine wpAnyH_done (by kernel_rfl) ?_ _
                go_wp2
                go_quiet (first
                  | (go_at_call 32; refine (DerC.good_any g6 none _ (HCD.out _)).mono ?_; rintro e w' ⟨rfl, rfl⟩; exact ⟨rfl, _, rfl⟩)
                  | (go_at_call 35; refine (DerC.left_any g6 none _ (HCD.out _)).mono ?_; rintro e w' ⟨rfl, rfl⟩; exact ⟨rfl, _, rfl⟩)
                  | (go_at_call 33; refine (DerC.whole_any g6 none _ (HCD.out _)).mono ?_; rintro e w' ⟨rfl, rfl⟩; exact ⟨rfl, _, rfl⟩)
                  | (go_at_call 34; refine (DerR.rwhole_any w.heap.size g7 none _ (HRD.out _)).mono ?_; rintro e w' ⟨rfl, rfl⟩; exact ⟨rfl, _, rfl⟩))
                go_wp2
                go_quiet (first
                  | (go_at_call 32; refine (DerC.good_any g none _ (HCU.out _)).mono ?_; rintro e w' ⟨rfl, rfl⟩; exact ⟨rfl, _, rfl⟩)
                  | (go_at_call 35; refine (DerC.left_any g none _ (HCU.out _)).mono ?_; rintro e w' ⟨rfl, rfl⟩; exact ⟨rfl, _, rfl⟩)
                  | (go_at_call 33; refine (DerC.whole_any g none _ (HCU.out _)).mono ?_; rintro e w' ⟨rfl, rfl⟩; exact ⟨rfl, _, rfl⟩)
                  | (go_at_call 34; refine (DerR.rwhole_any w.heap.size g' none _ (HRU.out _)).mono ?_; rintro e w' ⟨rfl, rfl⟩; exact ⟨rfl, _, rfl⟩))
                go_wp2
                exact ⟨⟨i + 1, g, g', none, by omega, by go_num, rfl, rfl, both_drew HBOTH.out _⟩, by simp [intOf]; omega⟩
              · have HX := Lib.hid hx
                have HY := Lib.hid hy
                clear hx hy
                have g3 : (kd ac i == 1) = false := by simp; omega
                have g3b : (kd ac i == 2) = false := by simp; omega
                have g3c : (kd ac i == 3) = false := by simp; omega
                have g3d : (kd ac i == 4) = false := by simp; omega
                have hct' := sb_cell (B0 := w.heap.size) hct hbB
                have hix : (i : Int) < (N : Int) := by omega
                go_wp2
                refine begin_s (fun w'' => Below w.heap.size wr w'') 16 rfl (by kernel_rfl) (Below.refl _ _).drew ?_
                refine take_s 0 (v := ?vd0_25) rfl (by kernel_rfl) (by kernel_rfl) (by kernel_rfl) (fun _ _ _ h => h) (by rfl) (fun w' hS => ?hyd0_25) (Below.refl _ _).drew ?restd0_25
                case hyd0_25 => go_simp; rfl
                simp only [Act.put, List.setIfInBounds_toArray, List.set_cons_zero, List.set_cons_succ]
                refine take_s 1 (v := ?vd1_26) rfl (by kernel_rfl) (by kernel_rfl) (by kernel_rfl) (fun _ _ _ h => h) (by rfl) (fun w' hS => ?hyd1_26) (Below.refl _ _).drew ?restd1_26
                case hyd1_26 => go_simp; rfl
                simp only [Act.put, List.setIfInBounds_toArray, List.set_cons_zero, List.set_cons_succ]
                refine take_s 2 (v := ?vd2_27) rfl (by kernel_rfl) (by kernel_rfl) (by kernel_rfl) (fun _ _ _ h => h) (by rfl) (fun w' hS => ?hyd2_27) (Below.refl _ _).drew ?restd2_27
                case hyd2_27 => go_simp; rfl
                simp only [Act.put, List.setIfInBounds_toArray, List.set_cons_zero, List.set_cons_succ]
                refine take_s 3 (v := ?vd3_28) rfl (by kernel_rfl) (by kernel_rfl) (by kernel_rfl) (fun _ _ _ h => h) (by rfl) (fun w' hS => ?hyd3_28) (Below.refl _ _).drew ?restd3_28
                case hyd3_28 => go_simp; rfl
                simp only [Act.put, List.setIfInBounds_toArray, List.set_cons_zero, List.set_cons_succ]
                refine take_s 4 (v := ?vd4_29) rfl (by kernel_rfl) (by kernel_rfl) (by kernel_rfl) (fun _ _ _ h => h) (by rfl) (fun w' hS => ?hyd4_29) (Below.refl _ _).drew ?restd4_29
                case hyd4_29 => go_simp; rfl
                simp only [Act.put, List.setIfInBounds_toArray, List.set_cons_zero, List.set_cons_succ]
                refine take_s 5 (v := ?vd5_30) rfl (by kernel_rfl) (by kernel_rfl) (by kernel_rfl) (fun _ _ _ h => h) (by rfl) (fun w' hS => ?hyd5_30) (Below.refl _ _).drew ?restd5_30
                case hyd5_30 => have hh := hct' w' hS; go_simp; rfl
                simp only [Act.put, List.setIfInBounds_toArray, List.set_cons_zero, List.set_cons_succ]
                refine take_s 7 (v := ?vd7_31) rfl (by kernel_rfl) (by kernel_rfl) (by kernel_rfl) (fun _ _ _ h => h) (by rfl) (fun w' hS => ?hyd7_31) (Below.refl _ _).drew ?restd7_31
                case hyd7_31 => go_simp; rfl
                simp only [Act.put, List.setIfInBounds_toArray, List.set_cons_zero, List.set_cons_succ]
                refine take_s 8 (v := ?vd8_32) rfl (by kernel_rfl) (by kernel_rfl) (by kernel_rfl) (fun _ _ _ h => h) (by rfl) (fun w' hS => ?hyd8_32) (Below.refl _ _).drew ?restd8_32
                case hyd8_32 => go_simp; rfl
                simp only [Act.put, List.setIfInBounds_toArray, List.set_cons_zero, List.set_cons_succ]
                refine take_s 9 (v := ?vd9_33) rfl (by kernel_rfl) (by kernel_rfl) (by kernel_rfl) (fun _ _ _ h => h) (by rfl) (fun w' hS => ?hyd9_33) (Below.refl _ _).drew ?restd9_33
                case hyd9_33 => go_simp; rfl
                simp only [Act.put, List.setIfInBounds_toArray, List.set_cons_zero, List.set_cons_succ]
                refine take_s 10 (v := ?vd10_34) rfl (by kernel_rfl) (by kernel_rfl) (by kernel_rfl) (fun _ _ _ h => h) (by rfl) (fun w' hS => ?hyd10_34) (Below.refl _ _).drew ?restd10_34
                case hyd10_34 => go_simp; rfl
                simp only [Act.put, List.setIfInBounds_toArray, List.set_cons_zero, List.set_cons_succ]
                refine take_s 11 (v := ?vd11_35) rfl (by kernel_rfl) (by kernel_rfl) (by kernel_rfl) (fun _ _ _ h => h) (by rfl) (fun w' hS => ?hyd11_35) (Below.refl _ _).drew ?restd11_35
                case hyd11_35 => go_simp; rfl
                simp only [Act.put, List.setIfInBounds_toArray, List.set_cons_zero, List.set_cons_succ]
                refine take_s 12 (v := ?vd12_36) rfl (by kernel_rfl) (by kernel_rfl) (by kernel_rfl) (fun _ _ _ h => h) (by rfl) (fun w' hS => ?hyd12_36) (Below.refl _ _).drew ?restd12_36
                case hyd12_36 => have hh := hct' w' hS; go_simp; rfl
                simp only [Act.put, List.setIfInBounds_toArray, List.set_cons_zero, List.set_cons_succ]
                refine call_s 6 rfl (by kernel_rfl) (by rfl) 30 #[.pointer (some ⟨g, 0, none⟩), .int .u8 ((tgA ac i).toNat : Int)] (by go_simp) ?_
                refine Calls.mono (DerC.into_any (tgA ac i) g st wr.drew HCUR.out (by have := HLE.out; omega)) ?_
                rintro e w2 ⟨⟨g6, rfl, hg6, hcd2⟩, hcu2, hg2⟩
                rw [HX.out] at hcu2
                rw [HY.out] at hcd2
                have hgw2 : wr.grownBy w2 (some g) := ⟨hg2.os, hg2.tape, hg2.output, hg2.size, hg2.block⟩
                have hg6' : wr.heap.size ≤ g6 := hg6
                have hrc2 := DerR.RC.keep HRC.out hgw2 (by simp; exact HNE.out) HB.out.size (by intro k hk; injection hk with hk; have := HG.out; omega)
                have hlt' : g' < wr.heap.size := by obtain ⟨_, _, _, _, hbk, _⟩ := HRC.out; exact Blk.lt hbk
                have hltg : g < wr.heap.size := Blk.lt HCUR.out
                have hb2 : Below w.heap.size w w2 := btg HB.out hgw2 HG.out
                refine ⟨_, fun w'' => Below w.heap.size w2 w'', rfl, below_g (Below.refl _ _) hgw2 HB.out.size HG.out, fun w'' h => (below_g (Below.refl _ _) hgw2 HB.out.size HG.out).trans h, ?_⟩
                simp only [Act.put, List.setIfInBounds_toArray, List.set_cons_zero, List.set_cons_succ]
                refine call_s 13 rfl (by kernel_rfl) (by rfl) 31 #[.pointer (some ⟨g', 0, none⟩), .int .u8 ((tgA ac i).toNat : Int)] (by go_simp) ?_
                refine Calls.mono (DerR.rinto_any (tgA ac i) w.heap.size g' st w2 hrc2 hb2.size HG'.out (by have := HLE.out; omega)) ?_
                rintro e wN ⟨⟨g7, rfl, hg7, hrd7⟩, hrcN, hgN⟩
                rw [HX.out] at hrcN
                rw [HY.out] at hrd7
                have hbN : Below w.heap.size w wN := btg hb2 hgN HG'.out
                have hlt6 : g6 < w2.heap.size := Blk.lt hcd2
                have hckN := sb_cell (B0 := w.heap.size) hck hbB wN (below_g (below_g (Below.refl _ _) hgw2 HB.out.size HG.out) hgN hb2.size HG'.out)
                have hwg := HB.out.size
                have hcuN : DerC.Cur wN g none := Blk.grown hcu2 hgN (by simp; exact fun e => HNE.out e.symm)
                have hcdN : DerC.Cur wN g6 none := Blk.grown hcd2 hgN (by simp; omega)
                have HCU := Lib.hid (fun q => Blk.drewN hcuN q)
                have HRU := Lib.hid (fun q => rc_drew hrcN q)
                have HCD := Lib.hid (fun q => Blk.drewN hcdN q)
                have HRD := Lib.hid (fun q => rc_drew hrd7 q)
                have HBOTH := Lib.hid (show Both w wN g g' none from ⟨hcuN, hrcN, HG.out, HG'.out, HNE.out, hbN, Nat.le_trans (next_len _ st HX.out) HLE.out⟩)
                have HBOTD := Lib.hid (show Both w wN g6 g7 none from ⟨hcdN, hrd7, Nat.le_trans hwg hg6', Nat.le_trans hb2.size hg7, by omega, hbN, Nat.le_trans (body_len' _ st HY.out) HLE.out⟩)
                clear hcuN hcu2 hrc2 hcd2 hcdN
                obtain ⟨Ax, nx, capx, ex, hbk, rfl⟩ := hrcN
                have h0x : wN.cell? ⟨g', 0, none⟩ = some (.slice Ax nx capx) := hbk.cell 0
                have h1x : wN.cell? ⟨g', 1, none⟩ = some (.bool true) := hbk.cell 1
                have HBN := Lib.hid hbk
                clear hbk
                obtain ⟨Ay, ny, capy, ey, hbky, rfl⟩ := hrd7
                have h0y : wN.cell? ⟨g7, 0, none⟩ = some (.slice Ay ny capy) := hbky.cell 0
                have h1y : wN.cell? ⟨g7, 1, none⟩ = some (.bool true) := hbky.cell 1
                clear hbky
                refine ⟨_, fun w'' => Below w.heap.size wN w'', rfl, below_g (Below.refl _ _) hgN hb2.size HG'.out, fun w'' h => (below_g (Below.refl _ _) hgN hb2.size HG'.out).trans h, ?_⟩
                simp only [Act.put, List.setIfInBounds_toArray, List.set_cons_zero, List.set_cons_succ]
                refine take_s 14 (v := ?vd14_37) rfl (by kernel_rfl) (by kernel_rfl) (by kernel_rfl) (fun _ _ _ h => h) (by rfl) (fun w' hS => ?hyd14_37) (Below.refl _ _) ?restd14_37
                case hyd14_37 => go_simp; rfl
                simp only [Act.put, List.setIfInBounds_toArray, List.set_cons_zero, List.set_cons_succ]
                refine take_s 15 (v := ?vd15_38) rfl (by kernel_rfl) (by kernel_rfl) (by kernel_rfl) (fun _ _ _ h => h) (by rfl) (fun w' hS => ?hyd15_38) (Below.refl _ _) ?restd15_38
                case hyd15_38 => go_simp; rfl
                simp only [Act.put, List.setIfInBounds_toArray, List.set_cons_zero, List.set_cons_succ]
                refine wpAnyH_done (by kernel_rfl) ?_ _
                go_wp2
                go_quiet (first
                  | (go_at_call 32; refine (DerC.good_any g6 none _ (HCD.out _)).mono ?_; rintro e w' ⟨rfl, rfl⟩; exact ⟨rfl, _, rfl⟩)
                  | (go_at_call 35; refine (DerC.left_any g6 none _ (HCD.out _)).mono ?_; rintro e w' ⟨rfl, rfl⟩; exact ⟨rfl, _, rfl⟩)
                  | (go_at_call 33; refine (DerC.whole_any g6 none _ (HCD.out _)).mono ?_; rintro e w' ⟨rfl, rfl⟩; exact ⟨rfl, _, rfl⟩)
                  | (go_at_call 34; refine (DerR.rwhole_any w.heap.size g7 none _ (HRD.out _)).mono ?_; rintro e w' ⟨rfl, rfl⟩; exact ⟨rfl, _, rfl⟩))
                go_wp2
                go_quiet (first
                  | (go_at_call 32; refine (DerC.good_any g none _ (HCU.out _)).mono ?_; rintro e w' ⟨rfl, rfl⟩; exact ⟨rfl, _, rfl⟩)
                  | (go_at_call 35; refine (DerC.left_any g none _ (HCU.out _)).mono ?_; rintro e w' ⟨rfl, rfl⟩; exact ⟨rfl, _, rfl⟩)
                  | (go_at_call 33; refine (DerC.whole_any g none _ (HCU.out _)).mono ?_; rintro e w' ⟨rfl, rfl⟩; exact ⟨rfl, _, rfl⟩)
                  | (go_at_call 34; refine (DerR.rwhole_any w.heap.size g' none _ (HRU.out _)).mono ?_; rintro e w' ⟨rfl, rfl⟩; exact ⟨rfl, _, rfl⟩))
                go_wp2
                exact ⟨⟨i + 1, g, g', none, by omega, by go_num, rfl, rfl, both_drew HBOTH.out _⟩, by simp [intOf]; omega⟩
            | some p =>
              obtain ⟨s, hx⟩ := DerR.body_next_some hy
              by_cases hk4 : kd ac i = 4
              · have HX := Lib.hid hx
                have HY := Lib.hid hy
                clear hx hy
                have g3 : (kd ac i == 1) = false := by simp; omega
                have g3b : (kd ac i == 2) = false := by simp; omega
                have g3c : (kd ac i == 3) = false := by simp; omega
                have g3d : (kd ac i == 4) = true := by simp; omega
                have hct' := sb_cell (B0 := w.heap.size) hct hbB
                have hix : (i : Int) < (N : Int) := by omega
                go_wp2
                refine begin_s (fun w'' => Below w.heap.size wr w'') 16 rfl (by kernel_rfl) (Below.refl _ _).drew ?_
                refine take_s 0 (v := ?vd0_39) rfl (by kernel_rfl) (by kernel_rfl) (by kernel_rfl) (fun _ _ _ h => h) (by rfl) (fun w' hS => ?hyd0_39) (Below.refl _ _).drew ?restd0_39
                case hyd0_39 => go_simp; rfl
                simp only [Act.put, List.setIfInBounds_toArray, List.set_cons_zero, List.set_cons_succ]
                refine take_s 1 (v := ?vd1_40) rfl (by kernel_rfl) (by kernel_rfl) (by kernel_rfl) (fun _ _ _ h => h) (by rfl) (fun w' hS => ?hyd1_40) (Below.refl _ _).drew ?restd1_40
                case hyd1_40 => go_simp; rfl
                simp only [Act.put, List.setIfInBounds_toArray, List.set_cons_zero, List.set_cons_succ]
                refine take_s 2 (v := ?vd2_41) rfl (by kernel_rfl) (by kernel_rfl) (by kernel_rfl) (fun _ _ _ h => h) (by rfl) (fun w' hS => ?hyd2_41) (Below.refl _ _).drew ?restd2_41
                case hyd2_41 => go_simp; rfl
                simp only [Act.put, List.setIfInBounds_toArray, List.set_cons_zero, List.set_cons_succ]
                refine take_s 3 (v := ?vd3_42) rfl (by kernel_rfl) (by kernel_rfl) (by kernel_rfl) (fun _ _ _ h => h) (by rfl) (fun w' hS => ?hyd3_42) (Below.refl _ _).drew ?restd3_42
                case hyd3_42 => go_simp; rfl
                simp only [Act.put, List.setIfInBounds_toArray, List.set_cons_zero, List.set_cons_succ]
                refine take_s 4 (v := ?vd4_43) rfl (by kernel_rfl) (by kernel_rfl) (by kernel_rfl) (fun _ _ _ h => h) (by rfl) (fun w' hS => ?hyd4_43) (Below.refl _ _).drew ?restd4_43
                case hyd4_43 => go_simp; rfl
                simp only [Act.put, List.setIfInBounds_toArray, List.set_cons_zero, List.set_cons_succ]
                refine take_s 5 (v := ?vd5_44) rfl (by kernel_rfl) (by kernel_rfl) (by kernel_rfl) (fun _ _ _ h => h) (by rfl) (fun w' hS => ?hyd5_44) (Below.refl _ _).drew ?restd5_44
                case hyd5_44 => have hh := hct' w' hS; go_simp; rfl
                simp only [Act.put, List.setIfInBounds_toArray, List.set_cons_zero, List.set_cons_succ]
                refine take_s 7 (v := ?vd7_45) rfl (by kernel_rfl) (by kernel_rfl) (by kernel_rfl) (fun _ _ _ h => h) (by rfl) (fun w' hS => ?hyd7_45) (Below.refl _ _).drew ?restd7_45
                case hyd7_45 => go_simp; rfl
                simp only [Act.put, List.setIfInBounds_toArray, List.set_cons_zero, List.set_cons_succ]
                refine take_s 8 (v := ?vd8_46) rfl (by kernel_rfl) (by kernel_rfl) (by kernel_rfl) (fun _ _ _ h => h) (by rfl) (fun w' hS => ?hyd8_46) (Below.refl _ _).drew ?restd8_46
                case hyd8_46 => go_simp; rfl
                simp only [Act.put, List.setIfInBounds_toArray, List.set_cons_zero, List.set_cons_succ]
                refine take_s 9 (v := ?vd9_47) rfl (by kernel_rfl) (by kernel_rfl) (by kernel_rfl) (fun _ _ _ h => h) (by rfl) (fun w' hS => ?hyd9_47) (Below.refl _ _).drew ?restd9_47
                case hyd9_47 => go_simp; rfl
                simp only [Act.put, List.setIfInBounds_toArray, List.set_cons_zero, List.set_cons_succ]
                refine take_s 10 (v := ?vd10_48) rfl (by kernel_rfl) (by kernel_rfl) (by kernel_rfl) (fun _ _ _ h => h) (by rfl) (fun w' hS => ?hyd10_48) (Below.refl _ _).drew ?restd10_48
                case hyd10_48 => go_simp; rfl
                simp only [Act.put, List.setIfInBounds_toArray, List.set_cons_zero, List.set_cons_succ]
                refine take_s 11 (v := ?vd11_49) rfl (by kernel_rfl) (by kernel_rfl) (by kernel_rfl) (fun _ _ _ h => h) (by rfl) (fun w' hS => ?hyd11_49) (Below.refl _ _).drew ?restd11_49
                case hyd11_49 => go_simp; rfl
                simp only [Act.put, List.setIfInBounds_toArray, List.set_cons_zero, List.set_cons_succ]
                refine take_s 12 (v := ?vd12_50) rfl (by kernel_rfl) (by kernel_rfl) (by kernel_rfl) (fun _ _ _ h => h) (by rfl) (fun w' hS => ?hyd12_50) (Below.refl _ _).drew ?restd12_50
                case hyd12_50 => have hh := hct' w' hS; go_simp; rfl
                simp only [Act.put, List.setIfInBounds_toArray, List.set_cons_zero, List.set_cons_succ]
                refine call_s 6 rfl (by kernel_rfl) (by rfl) 30 #[.pointer (some ⟨g, 0, none⟩), .int .u8 ((tgA ac i).toNat : Int)] (by go_simp) ?_
                refine Calls.mono (DerC.into_any (tgA ac i) g st wr.drew HCUR.out (by have := HLE.out; omega)) ?_
                rintro e w2 ⟨⟨g6, rfl, hg6, hcd2⟩, hcu2, hg2⟩
                rw [HX.out] at hcu2
                rw [HY.out] at hcd2
                have hgw2 : wr.grownBy w2 (some g) := ⟨hg2.os, hg2.tape, hg2.output, hg2.size, hg2.block⟩
                have hg6' : wr.heap.size ≤ g6 := hg6
                have hrc2 := DerR.RC.keep HRC.out hgw2 (by simp; exact HNE.out) HB.out.size (by intro k hk; injection hk with hk; have := HG.out; omega)
                have hlt' : g' < wr.heap.size := by obtain ⟨_, _, _, _, hbk, _⟩ := HRC.out; exact Blk.lt hbk
                have hltg : g < wr.heap.size := Blk.lt HCUR.out
                have hb2 : Below w.heap.size w w2 := btg HB.out hgw2 HG.out
                refine ⟨_, fun w'' => Below w.heap.size w2 w'', rfl, below_g (Below.refl _ _) hgw2 HB.out.size HG.out, fun w'' h => (below_g (Below.refl _ _) hgw2 HB.out.size HG.out).trans h, ?_⟩
                simp only [Act.put, List.setIfInBounds_toArray, List.set_cons_zero, List.set_cons_succ]
                refine call_s 13 rfl (by kernel_rfl) (by rfl) 31 #[.pointer (some ⟨g', 0, none⟩), .int .u8 ((tgA ac i).toNat : Int)] (by go_simp) ?_
                refine Calls.mono (DerR.rinto_any (tgA ac i) w.heap.size g' st w2 hrc2 hb2.size HG'.out (by have := HLE.out; omega)) ?_
                rintro e wN ⟨⟨g7, rfl, hg7, hrd7⟩, hrcN, hgN⟩
                rw [HX.out] at hrcN
                rw [HY.out] at hrd7
                have hbN : Below w.heap.size w wN := btg hb2 hgN HG'.out
                have hlt6 : g6 < w2.heap.size := Blk.lt hcd2
                have hckN := sb_cell (B0 := w.heap.size) hck hbB wN (below_g (below_g (Below.refl _ _) hgw2 HB.out.size HG.out) hgN hb2.size HG'.out)
                have hwg := HB.out.size
                have hcuN : DerC.Cur wN g (some s) := Blk.grown hcu2 hgN (by simp; exact fun e => HNE.out e.symm)
                have hcdN : DerC.Cur wN g6 (some p) := Blk.grown hcd2 hgN (by simp; omega)
                have HCU := Lib.hid (fun q => Blk.drewN hcuN q)
                have HRU := Lib.hid (fun q => rc_drew hrcN q)
                have HCD := Lib.hid (fun q => Blk.drewN hcdN q)
                have HRD := Lib.hid (fun q => rc_drew hrd7 q)
                have HBOTH := Lib.hid (show Both w wN g g' (some s) from ⟨hcuN, hrcN, HG.out, HG'.out, HNE.out, hbN, Nat.le_trans (next_len _ st HX.out) HLE.out⟩)
                have HBOTD := Lib.hid (show Both w wN g6 g7 (some p) from ⟨hcdN, hrd7, Nat.le_trans hwg hg6', Nat.le_trans hb2.size hg7, by omega, hbN, Nat.le_trans (body_len' _ st HY.out) HLE.out⟩)
                clear hcuN hcu2 hrc2 hcd2 hcdN
                obtain ⟨Ax, nx, capx, ex, hbk, rfl, hnx, hlx⟩ := hrcN
                subst hnx
                have h0x : wN.cell? ⟨g', 0, none⟩ = some (.slice Ax s.length capx) := hbk.cell 0
                have h1x : wN.cell? ⟨g', 1, none⟩ = some (.bool false) := hbk.cell 1
                have HBN := Lib.hid hbk
                clear hbk hlx
                obtain ⟨Ay, ny, capy, ey, hbky, rfl, hny, hly⟩ := hrd7
                subst hny
                have h0y : wN.cell? ⟨g7, 0, none⟩ = some (.slice Ay p.length capy) := hbky.cell 0
                have h1y : wN.cell? ⟨g7, 1, none⟩ = some (.bool false) := hbky.cell 1
                clear hbky hly
                refine ⟨_, fun w'' => Below w.heap.size wN w'', rfl, below_g (Below.refl _ _) hgN hb2.size HG'.out, fun w'' h => (below_g (Below.refl _ _) hgN hb2.size HG'.out).trans h, ?_⟩
                simp only [Act.put, List.setIfInBounds_toArray, List.set_cons_zero, List.set_cons_succ]
                refine take_s 14 (v := ?vd14_51) rfl (by kernel_rfl) (by kernel_rfl) (by kernel_rfl) (fun _ _ _ h => h) (by rfl) (fun w' hS => ?hyd14_51) (Below.refl _ _) ?restd14_51
                case hyd14_51 => go_simp; rfl
                simp only [Act.put, List.setIfInBounds_toArray, List.set_cons_zero, List.set_cons_succ]
                refine take_s 15 (v := ?vd15_52) rfl (by kernel_rfl) (by kernel_rfl) (by kernel_rfl) (fun _ _ _ h => h) (by rfl) (fun w' hS => ?hyd15_52) (Below.refl _ _) ?restd15_52
                case hyd15_52 => go_simp; rfl
                simp only [Act.put, List.setIfInBounds_toArray, List.set_cons_zero, List.set_cons_succ]
                refine wpAnyH_done (by kernel_rfl) ?_ _
                go_wp2
                go_quiet (first
                  | (go_at_call 32; refine (DerC.good_any g6 (some p) _ (HCD.out _)).mono ?_; rintro e w' ⟨rfl, rfl⟩; exact ⟨rfl, _, rfl⟩)
                  | (go_at_call 35; refine (DerC.left_any g6 (some p) _ (HCD.out _)).mono ?_; rintro e w' ⟨rfl, rfl⟩; exact ⟨rfl, _, rfl⟩)
                  | (go_at_call 33; refine (DerC.whole_any g6 (some p) _ (HCD.out _)).mono ?_; rintro e w' ⟨rfl, rfl⟩; exact ⟨rfl, _, rfl⟩)
                  | (go_at_call 34; refine (DerR.rwhole_any w.heap.size g7 (some p) _ (HRD.out _)).mono ?_; rintro e w' ⟨rfl, rfl⟩; exact ⟨rfl, _, rfl⟩))
                go_wp2
                go_quiet (first
                  | (go_at_call 32; refine (DerC.good_any g6 (some p) _ (HCD.out _)).mono ?_; rintro e w' ⟨rfl, rfl⟩; exact ⟨rfl, _, rfl⟩)
                  | (go_at_call 35; refine (DerC.left_any g6 (some p) _ (HCD.out _)).mono ?_; rintro e w' ⟨rfl, rfl⟩; exact ⟨rfl, _, rfl⟩)
                  | (go_at_call 33; refine (DerC.whole_any g6 (some p) _ (HCD.out _)).mono ?_; rintro e w' ⟨rfl, rfl⟩; exact ⟨rfl, _, rfl⟩)
                  | (go_at_call 34; refine (DerR.rwhole_any w.heap.size g7 (some p) _ (HRD.out _)).mono ?_; rintro e w' ⟨rfl, rfl⟩; exact ⟨rfl, _, rfl⟩))
                go_wp2
                exact ⟨⟨i + 1, g6, g7, (some p), by omega, by go_num, rfl, rfl, both_drew HBOTD.out _⟩, by simp [intOf]; omega⟩
              · have HX := Lib.hid hx
                have HY := Lib.hid hy
                clear hx hy
                have g3 : (kd ac i == 1) = false := by simp; omega
                have g3b : (kd ac i == 2) = false := by simp; omega
                have g3c : (kd ac i == 3) = false := by simp; omega
                have g3d : (kd ac i == 4) = false := by simp; omega
                have hct' := sb_cell (B0 := w.heap.size) hct hbB
                have hix : (i : Int) < (N : Int) := by omega
                go_wp2
                refine begin_s (fun w'' => Below w.heap.size wr w'') 16 rfl (by kernel_rfl) (Below.refl _ _).drew ?_
                refine take_s 0 (v := ?vd0_53) rfl (by kernel_rfl) (by kernel_rfl) (by kernel_rfl) (fun _ _ _ h => h) (by rfl) (fun w' hS => ?hyd0_53) (Below.refl _ _).drew ?restd0_53
                case hyd0_53 => go_simp; rfl
                simp only [Act.put, List.setIfInBounds_toArray, List.set_cons_zero, List.set_cons_succ]
                refine take_s 1 (v := ?vd1_54) rfl (by kernel_rfl) (by kernel_rfl) (by kernel_rfl) (fun _ _ _ h => h) (by rfl) (fun w' hS => ?hyd1_54) (Below.refl _ _).drew ?restd1_54
                case hyd1_54 => go_simp; rfl
                simp only [Act.put, List.setIfInBounds_toArray, List.set_cons_zero, List.set_cons_succ]
                refine take_s 2 (v := ?vd2_55) rfl (by kernel_rfl) (by kernel_rfl) (by kernel_rfl) (fun _ _ _ h => h) (by rfl) (fun w' hS => ?hyd2_55) (Below.refl _ _).drew ?restd2_55
                case hyd2_55 => go_simp; rfl
                simp only [Act.put, List.setIfInBounds_toArray, List.set_cons_zero, List.set_cons_succ]
                refine take_s 3 (v := ?vd3_56) rfl (by kernel_rfl) (by kernel_rfl) (by kernel_rfl) (fun _ _ _ h => h) (by rfl) (fun w' hS => ?hyd3_56) (Below.refl _ _).drew ?restd3_56
                case hyd3_56 => go_simp; rfl
                simp only [Act.put, List.setIfInBounds_toArray, List.set_cons_zero, List.set_cons_succ]
                refine take_s 4 (v := ?vd4_57) rfl (by kernel_rfl) (by kernel_rfl) (by kernel_rfl) (fun _ _ _ h => h) (by rfl) (fun w' hS => ?hyd4_57) (Below.refl _ _).drew ?restd4_57
                case hyd4_57 => go_simp; rfl
                simp only [Act.put, List.setIfInBounds_toArray, List.set_cons_zero, List.set_cons_succ]
                refine take_s 5 (v := ?vd5_58) rfl (by kernel_rfl) (by kernel_rfl) (by kernel_rfl) (fun _ _ _ h => h) (by rfl) (fun w' hS => ?hyd5_58) (Below.refl _ _).drew ?restd5_58
                case hyd5_58 => have hh := hct' w' hS; go_simp; rfl
                simp only [Act.put, List.setIfInBounds_toArray, List.set_cons_zero, List.set_cons_succ]
                refine take_s 7 (v := ?vd7_59) rfl (by kernel_rfl) (by kernel_rfl) (by kernel_rfl) (fun _ _ _ h => h) (by rfl) (fun w' hS => ?hyd7_59) (Below.refl _ _).drew ?restd7_59
                case hyd7_59 => go_simp; rfl
                simp only [Act.put, List.setIfInBounds_toArray, List.set_cons_zero, List.set_cons_succ]
                refine take_s 8 (v := ?vd8_60) rfl (by kernel_rfl) (by kernel_rfl) (by kernel_rfl) (fun _ _ _ h => h) (by rfl) (fun w' hS => ?hyd8_60) (Below.refl _ _).drew ?restd8_60
                case hyd8_60 => go_simp; rfl
                simp only [Act.put, List.setIfInBounds_toArray, List.set_cons_zero, List.set_cons_succ]
                refine take_s 9 (v := ?vd9_61) rfl (by kernel_rfl) (by kernel_rfl) (by kernel_rfl) (fun _ _ _ h => h) (by rfl) (fun w' hS => ?hyd9_61) (Below.refl _ _).drew ?restd9_61
                case hyd9_61 => go_simp; rfl
                simp only [Act.put, List.setIfInBounds_toArray, List.set_cons_zero, List.set_cons_succ]
                refine take_s 10 (v := ?vd10_62) rfl (by kernel_rfl) (by kernel_rfl) (by kernel_rfl) (fun _ _ _ h => h) (by rfl) (fun w' hS => ?hyd10_62) (Below.refl _ _).drew ?restd10_62
                case hyd10_62 => go_simp; rfl
                simp only [Act.put, List.setIfInBounds_toArray, List.set_cons_zero, List.set_cons_succ]
                refine take_s 11 (v := ?vd11_63) rfl (by kernel_rfl) (by kernel_rfl) (by kernel_rfl) (fun _ _ _ h => h) (by rfl) (fun w' hS => ?hyd11_63) (Below.refl _ _).drew ?restd11_63
                case hyd11_63 => go_simp; rfl
                simp only [Act.put, List.setIfInBounds_toArray, List.set_cons_zero, List.set_cons_succ]
                refine take_s 12 (v := ?vd12_64) rfl (by kernel_rfl) (by kernel_rfl) (by kernel_rfl) (fun _ _ _ h => h) (by rfl) (fun w' hS => ?hyd12_64) (Below.refl _ _).drew ?restd12_64
                case hyd12_64 => have hh := hct' w' hS; go_simp; rfl
                simp only [Act.put, List.setIfInBounds_toArray, List.set_cons_zero, List.set_cons_succ]
                refine call_s 6 rfl (by kernel_rfl) (by rfl) 30 #[.pointer (some ⟨g, 0, none⟩), .int .u8 ((tgA ac i).toNat : Int)] (by go_simp) ?_
                refine Calls.mono (DerC.into_any (tgA ac i) g st wr.drew HCUR.out (by have := HLE.out; omega)) ?_
                rintro e w2 ⟨⟨g6, rfl, hg6, hcd2⟩, hcu2, hg2⟩
                rw [HX.out] at hcu2
                rw [HY.out] at hcd2
                have hgw2 : wr.grownBy w2 (some g) := ⟨hg2.os, hg2.tape, hg2.output, hg2.size, hg2.block⟩
                have hg6' : wr.heap.size ≤ g6 := hg6
                have hrc2 := DerR.RC.keep HRC.out hgw2 (by simp; exact HNE.out) HB.out.size (by intro k hk; injection hk with hk; have := HG.out; omega)
                have hlt' : g' < wr.heap.size := by obtain ⟨_, _, _, _, hbk, _⟩ := HRC.out; exact Blk.lt hbk
                have hltg : g < wr.heap.size := Blk.lt HCUR.out
                have hb2 : Below w.heap.size w w2 := btg HB.out hgw2 HG.out
                refine ⟨_, fun w'' => Below w.heap.size w2 w'', rfl, below_g (Below.refl _ _) hgw2 HB.out.size HG.out, fun w'' h => (below_g (Below.refl _ _) hgw2 HB.out.size HG.out).trans h, ?_⟩
                simp only [Act.put, List.setIfInBounds_toArray, List.set_cons_zero, List.set_cons_succ]
                refine call_s 13 rfl (by kernel_rfl) (by rfl) 31 #[.pointer (some ⟨g', 0, none⟩), .int .u8 ((tgA ac i).toNat : Int)] (by go_simp) ?_
                refine Calls.mono (DerR.rinto_any (tgA ac i) w.heap.size g' st w2 hrc2 hb2.size HG'.out (by have := HLE.out; omega)) ?_
                rintro e wN ⟨⟨g7, rfl, hg7, hrd7⟩, hrcN, hgN⟩
                rw [HX.out] at hrcN
                rw [HY.out] at hrd7
                have hbN : Below w.heap.size w wN := btg hb2 hgN HG'.out
                have hlt6 : g6 < w2.heap.size := Blk.lt hcd2
                have hckN := sb_cell (B0 := w.heap.size) hck hbB wN (below_g (below_g (Below.refl _ _) hgw2 HB.out.size HG.out) hgN hb2.size HG'.out)
                have hwg := HB.out.size
                have hcuN : DerC.Cur wN g (some s) := Blk.grown hcu2 hgN (by simp; exact fun e => HNE.out e.symm)
                have hcdN : DerC.Cur wN g6 (some p) := Blk.grown hcd2 hgN (by simp; omega)
                have HCU := Lib.hid (fun q => Blk.drewN hcuN q)
                have HRU := Lib.hid (fun q => rc_drew hrcN q)
                have HCD := Lib.hid (fun q => Blk.drewN hcdN q)
                have HRD := Lib.hid (fun q => rc_drew hrd7 q)
                have HBOTH := Lib.hid (show Both w wN g g' (some s) from ⟨hcuN, hrcN, HG.out, HG'.out, HNE.out, hbN, Nat.le_trans (next_len _ st HX.out) HLE.out⟩)
                have HBOTD := Lib.hid (show Both w wN g6 g7 (some p) from ⟨hcdN, hrd7, Nat.le_trans hwg hg6', Nat.le_trans hb2.size hg7, by omega, hbN, Nat.le_trans (body_len' _ st HY.out) HLE.out⟩)
                clear hcuN hcu2 hrc2 hcd2 hcdN
                obtain ⟨Ax, nx, capx, ex, hbk, rfl, hnx, hlx⟩ := hrcN
                subst hnx
                have h0x : wN.cell? ⟨g', 0, none⟩ = some (.slice Ax s.length capx) := hbk.cell 0
                have h1x : wN.cell? ⟨g', 1, none⟩ = some (.bool false) := hbk.cell 1
                have HBN := Lib.hid hbk
                clear hbk hlx
                obtain ⟨Ay, ny, capy, ey, hbky, rfl, hny, hly⟩ := hrd7
                subst hny
                have h0y : wN.cell? ⟨g7, 0, none⟩ = some (.slice Ay p.length capy) := hbky.cell 0
                have h1y : wN.cell? ⟨g7, 1, none⟩ = some (.bool false) := hbky.cell 1
                clear hbky hly
                refine ⟨_, fun w'' => Below w.heap.size wN w'', rfl, below_g (Below.refl _ _) hgN hb2.size HG'.out, fun w'' h => (below_g (Below.refl _ _) hgN hb2.size HG'.out).trans h, ?_⟩
                simp only [Act.put, List.setIfInBounds_toArray, List.set_cons_zero, List.set_cons_succ]
                refine take_s 14 (v := ?vd14_65) rfl (by kernel_rfl) (by kernel_rfl) (by kernel_rfl) (fun _ _ _ h => h) (by rfl) (fun w' hS => ?hyd14_65) (Below.refl _ _) ?restd14_65
                case hyd14_65 => go_simp; rfl
                simp only [Act.put, List.setIfInBounds_toArray, List.set_cons_zero, List.set_cons_succ]
                refine take_s 15 (v := ?vd15_66) rfl (by kernel_rfl) (by kernel_rfl) (by kernel_rfl) (fun _ _ _ h => h) (by rfl) (fun w' hS => ?hyd15_66) (Below.refl _ _) ?restd15_66
                case hyd15_66 => go_simp; rfl
                simp only [Act.put, List.setIfInBounds_toArray, List.set_cons_zero, List.set_cons_succ]
                refine wpAnyH_done (by kernel_rfl) ?_ _
                go_wp2
                go_quiet (first
                  | (go_at_call 32; refine (DerC.good_any g6 (some p) _ (HCD.out _)).mono ?_; rintro e w' ⟨rfl, rfl⟩; exact ⟨rfl, _, rfl⟩)
                  | (go_at_call 35; refine (DerC.left_any g6 (some p) _ (HCD.out _)).mono ?_; rintro e w' ⟨rfl, rfl⟩; exact ⟨rfl, _, rfl⟩)
                  | (go_at_call 33; refine (DerC.whole_any g6 (some p) _ (HCD.out _)).mono ?_; rintro e w' ⟨rfl, rfl⟩; exact ⟨rfl, _, rfl⟩)
                  | (go_at_call 34; refine (DerR.rwhole_any w.heap.size g7 (some p) _ (HRD.out _)).mono ?_; rintro e w' ⟨rfl, rfl⟩; exact ⟨rfl, _, rfl⟩))
                go_wp2
                go_quiet (first
                  | (go_at_call 32; refine (DerC.good_any g (some s) _ (HCU.out _)).mono ?_; rintro e w' ⟨rfl, rfl⟩; exact ⟨rfl, _, rfl⟩)
                  | (go_at_call 35; refine (DerC.left_any g (some s) _ (HCU.out _)).mono ?_; rintro e w' ⟨rfl, rfl⟩; exact ⟨rfl, _, rfl⟩)
                  | (go_at_call 33; refine (DerC.whole_any g (some s) _ (HCU.out _)).mono ?_; rintro e w' ⟨rfl, rfl⟩; exact ⟨rfl, _, rfl⟩)
                  | (go_at_call 34; refine (DerR.rwhole_any w.heap.size g' (some s) _ (HRU.out _)).mono ?_; rintro e w' ⟨rfl, rfl⟩; exact ⟨rfl, _, rfl⟩))
                go_wp2
                exact ⟨⟨i + 1, g, g', (some s), by omega, by go_num, rfl, rfl, both_drew HBOTH.out _⟩, by simp [intOf]; omega⟩
    · obtain rfl : i = N := by omega
      obtain ⟨_, _, _, _, _, hb, _⟩ := hbo
      clear hi hlt
      go_wp2_with (go_at_call 22; refine (DerK.known_any _).mono ?_; rintro e w9 ⟨rfl, hb9⟩)
      go_ret
      exact ⟨rfl, bt hb hb9⟩

set_option maxRecDepth 100000 in
theorem takes (A : Option Addr) (l : L) (c : Nat) (B : Option Addr) (ac : List (Int × UInt8)) (d : Nat) (w : World) (hr : Rd w w.heap.size A (bvs l)) (hc : l.length ≤ c) (hm : c ≤ maxLen) (ha : Acs w w.heap.size B ac) (hd : ac.length ≤ d) (hm2 : d ≤ maxLen) :
    Calls Try.prog 4 #[.slice A l.length c, .slice B ac.length d] w fun e w' => e = .returned (.bool true) ∧ Below w.heap.size w w' := by
  by_cases h1 : 2000 < l.length
  · have g1 : decide ((2000 : Int) < (l.length : Int)) = true := by simp only [decide_eq_true_eq]; omega
    clear hr hc hm ha hd hm2 h1
    go_enter Try.func4, Try.ntmps4
    go_wp2
    go_ret
    exact ⟨rfl, Below.refl _ _⟩
  · by_cases h2 : 100 < ac.length
    · have g1 : decide ((2000 : Int) < (l.length : Int)) = false := by simp only [decide_eq_false_iff_not]; omega
      have g2 : decide ((100 : Int) < (ac.length : Int)) = true := by simp only [decide_eq_true_eq]; omega
      clear hr hc hm ha hd hm2 h1 h2
      go_enter Try.func4, Try.ntmps4
      go_wp2
      go_ret
      exact ⟨rfl, Below.refl _ _⟩
    · exact takes_in A l l.length c rfl hc B ac ac.length d rfl w hr ha (by omega) (by omega)

end Go.Proofs.Ytkkpcnibghndgaa.DerL
