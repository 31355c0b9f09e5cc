/-
  The statement of MsgBounds: the walk's contract carried to the row: for every input the call answers true, and each argument reads as it did.
-/
import Derived.Test.YteeabfplnaknfaaRows
import Derived.WalkKit
import Derived.ProofKit
import Derived.OpenShut
import Derived.ShutString
import Derived.ChangeOld
import Derived.Below
import Derived.Deep.CutRange
import Derived.SizedLaws
import Derived.Test.YteeabfplnaknfaaZMsgBounds1
import Derived.Test.YteeabfplnaknfaaZMsgBounds2
import Derived.Test.YteeabfplnaknfaaZMsgBounds3
import Derived.Test.YteeabfplnaknfaaZMsgBounds4
import Derived.Test.YteeabfplnaknfaaZMsgBounds5
import Derived.Test.YteeabfplnaknfaaZMsgBounds6
import Derived.Test.YteeabfplnaknfaaZMsgBounds7
import Derived.Test.YteeabfplnaknfaaZMsgBounds8
import Derived.Test.YteeabfplnaknfaaZMsgBounds9
import Derived.Test.YteeabfplnaknfaaZMsgBounds10
section
namespace Go.Proofs.Yteeabfplnaknfaa.msgTexts
open Go.ChangeShapes Go.WideShapes Go.ChangeAt Go.RowKit
open Go.ChangeMaps (open_string shut_string)

theorem own : ownKnob Try.prog.godebug = none := by kernel_rfl
theorem laidOut : laidOutB Try.prog = true := by kernel_rfl

set_option maxRecDepth 100000 in
theorem lifted (os : Os) (started : os.Started) (H : Type) (enc : TypeId × Value → H) :
    ReturnsInHanded {} Try.checked os 5 .any (Rows.msgTextsSpec.pre6 enc Try.prog Try.f5 Rows.msgTextsRow.domain false) (Rows.msgTextsSpec.post enc Try.prog Try.f5 false true false false) := by
  refine returnsInHanded_of_change (C := Try.checked) own started (by kernel_rfl) Try.func5
    (ChangeSpec.witness6 (enc := enc) (C := Try.checked) false ⟨#[], #[.slice none 0 0], []⟩ 8 (by kernel_rfl) (by kernel_rfl) (by kernel_rfl) (by kernel_rfl)) ?_
  intro W base args ds gs before hval0 hW hcnd _
  have hval : ∀ (j : Nat) t v, Try.f5.params[j]? = some t → args[j]? = some v → Value.okWide Try.prog W .any base t v := hval0
  have hW' := hW
  obtain ⟨p, q, hA0, hV, rfl, hfz, hnd⟩ := hW
  have hA : DataW.TrodAll enc Try.prog W 0 (fun _ => true) true Try.f5.params.toList args.toList ds p := hA0
  rw [Try.params5] at hA hval
  obtain ⟨v0, vs0, d0, ds0, p0, q0, hargs, rfl, rfl, h0, r0⟩ := trodAll_cons hA
  obtain ⟨rfl, rfl, rfl⟩ := trodAll_nil r0
  obtain rfl : args = #[v0] := by cases args; simp_all
  obtain ⟨rfl, rfl⟩ := trodVars_none hV
  have k0 := h0
  have lt0 : ∀ x ∈ p0, x.block < W.heap.size := by obtain ⟨m, hm⟩ := k0; exact DataW.trod_lt m _ _ _ hm
  obtain ⟨A0, l0, c0, rfl, w0, x0, y0⟩ := Open.open_bytes Try.underlying26 Try.underlying5 (by kernel_rfl) (okWide_slice Try.underlying26 (hval 0 26 v0 rfl rfl)) h0
  clear hA0 hval0
  refine (Mc.texts_ A0 l0 c0 W w0).mono fun e W' ⟨he, bel⟩ => ?_
  subst he
  exact ⟨_, rfl, _, _, _, [], _, [], hW', trodAll_mk1 (shut_bool Try.underlying4 _), (trodAll_cons_mk (Below.trod laidOut (by kernel_rfl) (of_decide_eq_true (by kernel_rfl)) k0 bel lt0) trodAll_mk0), rfl, bel.frame _, fun h => by cases h⟩

theorem over : Rows.msgTextsRow.holds Try.pinned (OpenSpec.ofChange Rows.msgTextsSpec) :=
  OpenClaim.holds_of_wide 5 Try.f5 rfl rfl rfl rfl rfl rfl rfl ⟨rfl, rfl, rfl, rfl, rfl⟩ rfl rfl rfl rfl rfl (by kernel_rfl) Try.func5 (by kernel_rfl)
    (of_decide_eq_true (by kernel_rfl)) (by unfold Func.isWrapper; first | (rw [if_pos (by decide +kernel)]; kernel_rfl) | (rw [if_neg (by decide +kernel)]; exact ⟨rfl, rfl⟩))
    (fun os started H enc _ => lifted os started H enc)

theorem proved : Rows.MsgTextsSaid := over
end Go.Proofs.Yteeabfplnaknfaa.msgTexts
end

section
set_option linter.unusedVariables false
set_option linter.unusedSimpArgs false
namespace Go.Proofs.Yteeabfplnaknfaa.Mc
open Go.RowKit Go.Proofs.Yteeabfplnaknfaa.Mem Go.Proofs.Yteeabfplnaknfaa.DerP Go.Proofs.Yteeabfplnaknfaa.Ms

def pAy : Pr := ([65], [120])
theorem pAy_ok : prB pAy = true := by decide +kernel
def tB (n : Nat) (k u q : Int) : Tg := ⟨⟨pAy, k, List.replicate n 0⟩, [1], pAy, u, q⟩
def mB (n : Nat) (k u q : Int) : Mg := ⟨2, as0, tB n k u q, re0, ap0, fa0⟩
theorem mB_ok (n : Nat) (k u q : Int) : mgB (mB n k u q) = (decide (1 ≤ n) && (decide (n ≤ 800) && (decide (1 ≤ k) && (decide (k ≤ 255) && (decide (0 ≤ u) && (decide (u ≤ 1073741824) && (decide (0 ≤ q) && decide (q ≤ 1073741824)))))))) := by
  show (tgB (tB n k u q) && decide (mB n k u q = mB n k u q)) = _
  rw [decide_eq_true rfl, Bool.and_true]
  show ((prB pAy && (inB k 1 255 && blobB (List.replicate n 0))) && (blobB [1] && (prB pAy && (tmB u && tmB q)))) = _
  rw [pAy_ok, show blobB [1] = true from rfl]
  simp only [inB, blobB, tmB, List.length_replicate, Bool.true_and]
  ac_rfl
theorem pAy_sm : pSm pAy := ⟨by decide, by decide⟩
theorem p0_sm : pSm pr0 := ⟨by decide, by decide⟩
theorem mB_sm (n : Nat) (k u q : Int) : mSm (mB n k u q) := ⟨⟨p0_sm, p0_sm⟩, ⟨pAy_sm, pAy_sm⟩, ⟨p0_sm, p0_sm⟩, p0_sm⟩
theorem blk_new_of (w : World) (g : Nat) (t : TypeId) (cs : Array Value) (hg : w.heap.size = g) : Blk (w.alloc (.cells cs t)) g t cs := hg ▸ Blk.new w t cs
theorem blk_drew {w : World} {g : Nat} {t : TypeId} {cs : Array Value} (h : Blk w g t cs) : Blk w.drew g t cs := h
theorem rd_blk {w : World} {g : Nat} {t : TypeId} {cs : Array Value} {l : L} (h : Blk w g t cs) (e : cs.toList = bvs l) : Rd w w.heap.size (some ⟨g, 0, none⟩) (bvs l) :=
  .inr ⟨g, 0, rfl, h.lt, fun i u hu => by rw [Nat.zero_add, h.cell, ← hu, ← e]; simp⟩
def tgA (n z y : Nat) (k u q : Int) : Array Value := #[.string ⟨#[65]⟩, .string ⟨#[120]⟩, .int .i64 k, .slice (some ⟨z, 0, none⟩) n n, .slice (some ⟨y, 0, none⟩) 1 1, .string ⟨#[65]⟩, .string ⟨#[120]⟩, .int .i64 u, .int .i64 q]
theorem tgA_v {w : World} {n z y : Nat} {t1 t2 : TypeId} (k u q : Int) (h1 : Blk w z t1 (zeros n)) (h2 : Blk w y t2 #[.int .u8 1]) : TgV w w.heap.size (tgA n z y k u q) (tB n k u q) := by
  have e : (List.replicate n (0 : UInt8)).length = n := List.length_replicate
  refine ⟨.slice (some ⟨z, 0, none⟩) n n, .slice (some ⟨y, 0, none⟩) 1 1, rfl, ⟨_, n, by show _ = Value.slice _ (List.replicate n (0 : UInt8)).length n; rw [e], ?_, rd_blk h1 (by show (zeros n).toList = bvs (List.replicate n 0); simp [zeros, bvs])⟩, ⟨_, 1, rfl, Nat.le_refl _, rd_blk h2 rfl⟩⟩
  show (List.replicate n (0 : UInt8)).length ≤ n
  omega
theorem built_tB {w : World} {B : Nat} {ps : Array Value} {t : Tg} (h : TgV w B ps t) : Try.prog.built 39 [(0, .int .i64 2), (2, .agg ps)] = some (mgA 2 zA ps zR zP zF) := by obtain ⟨b, a, rfl, _⟩ := h; kernel_rfl
set_option maxHeartbeats 25600000 in
set_option maxRecDepth 10000 in
theorem bounds_ (bl k u q : Int) (w : World) : Calls Try.prog 4 #[.int .i64 bl, .int .i64 k, .int .i64 u, .int .i64 q] w fun e w' => e = .returned (.bool true) ∧ Below w.heap.size w w' := by
  by_cases h0 : bl < 0
  · have t0 : decide (bl < 0) = true := decide_eq_true h0
    go_enter Try.func4, Try.ntmps4
    go_wp2
    go_ret
    exact ⟨rfl, Below.refl _ _⟩
  · have t0 : decide (bl < 0) = false := decide_eq_false h0
    by_cases h1 : 1000 < bl
    · have t1 : decide (1000 < bl) = true := decide_eq_true h1
      go_enter Try.func4, Try.ntmps4
      go_wp2
      go_ret
      exact ⟨rfl, Below.refl _ _⟩
    · have t1 : decide (1000 < bl) = false := decide_eq_false h1
      obtain ⟨n, rfl⟩ : ∃ n : Nat, bl = n := ⟨bl.toNat, by omega⟩
      obtain ⟨i0, hi0, hz0, hs0, hb0⟩ : ∃ i, Try.prog.info? 5 = some i ∧ i.zero = some (.int .u8 0) ∧ i.size = 1 ∧ i.bytes = 1 := ⟨_, rfl, rfl, rfl, rfl⟩
      have hmk := fun w1 => run_make_bytes (P := Try.prog) (t := 26) (e := 5) Try.underlying26 hi0 hz0 hs0 hb0 (n : Int) n rfl (by omega) w1
      clear hi0 hz0 hs0 hb0
      go_enter Try.func4, Try.ntmps4
      go_upto_region 4 with fail
      go_cut [10] from 21 to 30 (fun qv wx => ∃ g cs, qv = .pointer (some ⟨g, 0, none⟩) ∧ Blk wx g 30 cs ∧ TgV wx wx.heap.size cs (tB n k u q) ∧ Below w.heap.size w wx)
      case first =>
        go_region
        all_goals go_wp2_with fail
        all_goals go_meet
        all_goals exact ⟨_, tgA n _ _ k u q, rfl, (by first | exact blk_drew (blk_new_of _ _ _ _ (by simp)) | exact blk_drew ((blk_new_of _ _ _ _ (by simp)).alloc _) | exact blk_drew (((blk_new_of _ _ _ _ (by simp)).alloc _).alloc _) | exact blk_drew ((((blk_new_of _ _ _ _ (by simp)).alloc _).alloc _).alloc _)), tgA_v k u q (by first | exact blk_drew (blk_new_of _ _ _ _ (by simp)) | exact blk_drew ((blk_new_of _ _ _ _ (by simp)).alloc _) | exact blk_drew (((blk_new_of _ _ _ _ (by simp)).alloc _).alloc _) | exact blk_drew ((((blk_new_of _ _ _ _ (by simp)).alloc _).alloc _).alloc _)) (by first | exact blk_drew (blk_new_of _ _ _ _ (by simp)) | exact blk_drew ((blk_new_of _ _ _ _ (by simp)).alloc _) | exact blk_drew (((blk_new_of _ _ _ _ (by simp)).alloc _).alloc _) | exact blk_drew ((((blk_new_of _ _ _ _ (by simp)).alloc _).alloc _).alloc _)), below_drewN (((((Below.refl w.heap.size w).alloc (Nat.le_refl _) _).alloc (by simp <;> omega) _).alloc (by simp <;> omega) _).alloc (by simp <;> omega) _) 1⟩
      case rest =>
        obtain ⟨g, cs, rfl, hbk, htv, hbl⟩ := hcut
        have HX := Lib.hid hbk
        have HI := Lib.hid (show (Try.prog.info? 30).map (·.size) = some cs.size by rw [htv.size]; exact tg_info)
        have HBT := Lib.hid (built_tB htv)
        have hmv : MgV wc wc.heap.size (mgA 2 zA cs zR zP zF) (mB n k u q) := ⟨_, _, _, _, _, rfl, ⟨zA_v, htv, zR_v _ _, zP_v _ _, zF_v⟩⟩
        have EN := Lib.hid (enc_any _ _ wc hmv (mB_sm n k u q))
        have HG := Lib.hid hbl
        clear hbk htv hbl hmv hmk
        obtain ⟨ds, eds⟩ : ∃ ds, ds = mgA 2 zA cs zR zP zF := ⟨_, rfl⟩
        rw [← eds] at HBT EN
        clear eds
        obtain ⟨ok, eok⟩ : ∃ ok, ok = mgB (mB n k u q) := ⟨_, rfl⟩
        have HE := Lib.hid (show (mgO (mB n k u q)).isSome = ok by
          rw [eok]; unfold mgO limO
          cases hx : mgB (mB n k u q) with
          | false => rfl
          | true => rw [if_pos ⟨rfl, mg_len hx⟩]; rfl)
        have HOK := Lib.hid (eok.trans (mB_ok n k u q))
        clear eok
        obtain ⟨o, eo⟩ : ∃ o, o = mgO (mB n k u q) := ⟨_, rfl⟩
        rw [← eo] at HE EN
        clear eo
        go_upto_region 6 with (first
          | (refine load_g (by rfl) 30 (.tmp 10) (by rfl) g 0 (by rfl) cs _ (range_blk HX.out) Try.underlying30 (by rfl) HI.out ?_)
          | (refine wpList_built (by rfl) 39 #[(0, .const (.int .i64 2)), (2, .tmp 32)] (by rfl) ds (by simp only [List.map_toArray, List.map_cons, List.map_nil]; exact HBT.out) ?_)
          | (go_at_call 8; refine Calls.mono EN.out ?_; intro e we hen; obtain ⟨A, c, rfl, _, _, hb⟩ := enc_str hen; rw [HE.out]; obtain ⟨ei, eei⟩ : ∃ i : Int, i = if ok = true then 0 else 1 := ⟨_, rfl⟩; rw [← eei]; have HEI := Lib.hid eei; clear eei; replace HG := Lib.hid (HG.out.trans (hb.mono HG.out.size)); clear EN hen hb)
          | fail)
        go_cut [13] from 37 to 66 (fun okv wx => okv = .bool ok ∧ wx = we)
        case first =>
          by_cases c0 : 1 ≤ n
          · have d0 : decide (1 ≤ (n : Int)) = true := decide_eq_true (by omega)
            have f0 := Lib.hid (show decide (1 ≤ n) = true from decide_eq_true c0)
            by_cases c1 : n ≤ 800
            · have d1 : decide ((n : Int) ≤ 800) = true := decide_eq_true (by omega)
              have f1 := Lib.hid (show decide (n ≤ 800) = true from decide_eq_true c1)
              by_cases c2 : 1 ≤ k
              · have d2 : decide (1 ≤ k) = true := decide_eq_true (by omega)
                have f2 := Lib.hid (show decide (1 ≤ k) = true from decide_eq_true c2)
                by_cases c3 : k ≤ 255
                · have d3 : decide (k ≤ 255) = true := decide_eq_true (by omega)
                  have f3 := Lib.hid (show decide (k ≤ 255) = true from decide_eq_true c3)
                  by_cases c4 : 0 ≤ u
                  · have d4 : decide (0 ≤ u) = true := decide_eq_true (by omega)
                    have f4 := Lib.hid (show decide (0 ≤ u) = true from decide_eq_true c4)
                    by_cases c5 : u ≤ 1073741824
                    · have d5 : decide (u ≤ 1073741824) = true := decide_eq_true (by omega)
                      have f5 := Lib.hid (show decide (u ≤ 1073741824) = true from decide_eq_true c5)
                      by_cases c6 : 0 ≤ q
                      · have d6 : decide (0 ≤ q) = true := decide_eq_true (by omega)
                        have f6 := Lib.hid (show decide (0 ≤ q) = true from decide_eq_true c6)
                        by_cases c7 : q ≤ 1073741824
                        · have d7 : decide (q ≤ 1073741824) = true := decide_eq_true (by omega)
                          have f7 := Lib.hid (show decide (q ≤ 1073741824) = true from decide_eq_true c7)
                          go_wp2_with fail
                          go_meet
                          exact ⟨by rw [HOK.out, f0.out, f1.out, f2.out, f3.out, f4.out, f5.out, f6.out, f7.out]; rfl, rfl⟩
                        · have d7 : decide (q ≤ 1073741824) = false := decide_eq_false (by omega)
                          have f7 := Lib.hid (show decide (q ≤ 1073741824) = false from decide_eq_false c7)
                          go_wp2_with fail
                          go_meet
                          exact ⟨by rw [HOK.out, f0.out, f1.out, f2.out, f3.out, f4.out, f5.out, f6.out, f7.out]; rfl, rfl⟩
                      · have d6 : decide (0 ≤ q) = false := decide_eq_false (by omega)
                        have f6 := Lib.hid (show decide (0 ≤ q) = false from decide_eq_false c6)
                        go_wp2_with fail
                        go_meet
                        exact ⟨by rw [HOK.out, f0.out, f1.out, f2.out, f3.out, f4.out, f5.out, f6.out]; rfl, rfl⟩
                    · have d5 : decide (u ≤ 1073741824) = false := decide_eq_false (by omega)
                      have f5 := Lib.hid (show decide (u ≤ 1073741824) = false from decide_eq_false c5)
                      go_wp2_with fail
                      go_meet
                      exact ⟨by rw [HOK.out, f0.out, f1.out, f2.out, f3.out, f4.out, f5.out]; rfl, rfl⟩
                  · have d4 : decide (0 ≤ u) = false := decide_eq_false (by omega)
                    have f4 := Lib.hid (show decide (0 ≤ u) = false from decide_eq_false c4)
                    go_wp2_with fail
                    go_meet
                    exact ⟨by rw [HOK.out, f0.out, f1.out, f2.out, f3.out, f4.out]; rfl, rfl⟩
                · have d3 : decide (k ≤ 255) = false := decide_eq_false (by omega)
                  have f3 := Lib.hid (show decide (k ≤ 255) = false from decide_eq_false c3)
                  go_wp2_with fail
                  go_meet
                  exact ⟨by rw [HOK.out, f0.out, f1.out, f2.out, f3.out]; rfl, rfl⟩
              · have d2 : decide (1 ≤ k) = false := decide_eq_false (by omega)
                have f2 := Lib.hid (show decide (1 ≤ k) = false from decide_eq_false c2)
                go_wp2_with fail
                go_meet
                exact ⟨by rw [HOK.out, f0.out, f1.out, f2.out]; rfl, rfl⟩
            · have d1 : decide ((n : Int) ≤ 800) = false := decide_eq_false (by omega)
              have f1 := Lib.hid (show decide (n ≤ 800) = false from decide_eq_false c1)
              go_wp2_with fail
              go_meet
              exact ⟨by rw [HOK.out, f0.out, f1.out]; rfl, rfl⟩
          · have d0 : decide (1 ≤ (n : Int)) = false := decide_eq_false (by omega)
            have f0 := Lib.hid (show decide (1 ≤ n) = false from decide_eq_false c0)
            go_wp2_with fail
            go_meet
            exact ⟨by rw [HOK.out, f0.out]; rfl, rfl⟩
        case rest =>
          obtain ⟨rfl, rfl⟩ := hcut
          clear HOK HE HX HI HBT
          cases ok with
          | true =>
            obtain rfl : ei = 0 := HEI.out
            go_wp2_with (first
              | (go_at_call 9; refine Calls.mono (known_any _) ?_; rintro e wk ⟨rfl, hb⟩; replace HG := Lib.hid (HG.out.trans (hb.mono HG.out.size)); clear hb)
              | fail)
            go_ret
            exact ⟨rfl, HG.out⟩
          | false =>
            obtain rfl : ei = 1 := HEI.out
            go_wp2_with (first
              | (go_at_call 9; refine Calls.mono (known_any _) ?_; rintro e wk ⟨rfl, hb⟩; replace HG := Lib.hid (HG.out.trans (hb.mono HG.out.size)); clear hb)
              | fail)
            go_ret
            exact ⟨rfl, HG.out⟩
end Go.Proofs.Yteeabfplnaknfaa.Mc
end

section
namespace Go.Proofs.Yteeabfplnaknfaa.msgBounds
open Go.ChangeShapes Go.WideShapes Go.ChangeAt Go.RowKit
open Go.ChangeMaps (open_string shut_string)

theorem own : ownKnob Try.prog.godebug = none := by kernel_rfl
theorem laidOut : laidOutB Try.prog = true := by kernel_rfl

set_option maxRecDepth 100000 in
theorem lifted (os : Os) (started : os.Started) (H : Type) (enc : TypeId × Value → H) :
    ReturnsInHanded {} Try.checked os 4 .any (Rows.msgBoundsSpec.pre6 enc Try.prog Try.f4 Rows.msgBoundsRow.domain false) (Rows.msgBoundsSpec.post enc Try.prog Try.f4 false true false false) := by
  refine returnsInHanded_of_change (C := Try.checked) own started (by kernel_rfl) Try.func4
    (ChangeSpec.witness6 (enc := enc) (C := Try.checked) false ⟨#[], #[.int .i64 0, .int .i64 0, .int .i64 0, .int .i64 0], []⟩ 8 (by kernel_rfl) (by kernel_rfl) (by kernel_rfl) (by kernel_rfl)) ?_
  intro W base args ds gs before hval0 hW hcnd _
  have hval : ∀ (j : Nat) t v, Try.f4.params[j]? = some t → args[j]? = some v → Value.okWide Try.prog W .any base t v := hval0
  have hW' := hW
  obtain ⟨p, q, hA0, hV, rfl, hfz, hnd⟩ := hW
  have hA : DataW.TrodAll enc Try.prog W 0 (fun _ => true) true Try.f4.params.toList args.toList ds p := hA0
  rw [Try.params4] at hA hval
  obtain ⟨v0, vs0, d0, ds0, p0, q0, hargs, rfl, rfl, h0, r0⟩ := trodAll_cons hA
  obtain ⟨v1, vs1, d1, ds1, p1, q1, rfl, rfl, rfl, h1, r1⟩ := trodAll_cons r0
  obtain ⟨v2, vs2, d2, ds2, p2, q2, rfl, rfl, rfl, h2, r2⟩ := trodAll_cons r1
  obtain ⟨v3, vs3, d3, ds3, p3, q3, rfl, rfl, rfl, h3, r3⟩ := trodAll_cons r2
  obtain ⟨rfl, rfl, rfl⟩ := trodAll_nil r3
  obtain rfl : args = #[v0, v1, v2, v3] := by cases args; simp_all
  obtain ⟨rfl, rfl⟩ := trodVars_none hV
  obtain ⟨a0, rfl, rfl, rfl, w0⟩ := open_int Try.underlying3 (hval 0 3 v0 rfl rfl) h0
  obtain ⟨a1, rfl, rfl, rfl, w1⟩ := open_int Try.underlying3 (hval 1 3 v1 rfl rfl) h1
  obtain ⟨a2, rfl, rfl, rfl, w2⟩ := open_int Try.underlying3 (hval 2 3 v2 rfl rfl) h2
  obtain ⟨a3, rfl, rfl, rfl, w3⟩ := open_int Try.underlying3 (hval 3 3 v3 rfl rfl) h3
  clear hA0 hval0
  refine (Mc.bounds_ a0 a1 a2 a3 W).mono fun e W' ⟨he, bel⟩ => ?_
  subst he
  exact ⟨_, rfl, _, _, _, [], _, [], hW', trodAll_mk1 (shut_bool Try.underlying4 _), (trodAll_cons_mk (shut_int Try.underlying3 w0) (trodAll_cons_mk (shut_int Try.underlying3 w1) (trodAll_cons_mk (shut_int Try.underlying3 w2) (trodAll_cons_mk (shut_int Try.underlying3 w3) trodAll_mk0)))), rfl, bel.frame _, fun h => by cases h⟩

theorem over : Rows.msgBoundsRow.holds Try.pinned (OpenSpec.ofChange Rows.msgBoundsSpec) :=
  OpenClaim.holds_of_wide 4 Try.f4 rfl rfl rfl rfl rfl rfl rfl ⟨rfl, rfl, rfl, rfl, rfl⟩ rfl rfl rfl rfl rfl (by kernel_rfl) Try.func4 (by kernel_rfl)
    (of_decide_eq_true (by kernel_rfl)) (by unfold Func.isWrapper; first | (rw [if_pos (by decide +kernel)]; kernel_rfl) | (rw [if_neg (by decide +kernel)]; exact ⟨rfl, rfl⟩))
    (fun os started H enc _ => lifted os started H enc)

theorem proved : Rows.MsgBoundsSaid := over
end Go.Proofs.Yteeabfplnaknfaa.msgBounds
end
