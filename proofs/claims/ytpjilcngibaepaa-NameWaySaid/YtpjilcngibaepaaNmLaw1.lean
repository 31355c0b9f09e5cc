/-
  NameCase and NameUp walked.
-/
import Derived.Test.YtpjilcngibaepaaNmCanon
import Derived.Test.YtpjilcngibaepaaNmRefP
import Derived.Test.YtpjilcngibaepaaNmKnown
set_option linter.unusedVariables false
namespace Go.Proofs.Ytpjilcngibaepaa.NmW
open Go.RowKit Go.Proofs.Ytpjilcngibaepaa.Mem Go.Proofs.Ytpjilcngibaepaa.Nm

theorem of_list {P : ByteArray → Prop} (h : ∀ l : L, P ⟨l.toArray⟩) (s : ByteArray) : P s := by rw [bytes_eta s]; exact h _
theorem reach_val : reachBytes = 140737488351232 := by decide

set_option maxHeartbeats 1600000 in
set_option maxRecDepth 100000 in
theorem case_yes (l : L) (w : World) (hs : l.length ≤ 100) : Calls Try.prog 7 #[.string ⟨l.toArray⟩] w fun e w' => e = .returned (.bool true) ∧ Below w.heap.size w w' := by
  have hcv := fun (W : World) => Lib.run_convert_string_bytes (P := Try.prog) W 9 36 5 ⟨l.toArray⟩ Try.underlying9 Try.underlying36 Try.underlying5
  have HF := Lib.hid (bytes_fresh w 5 l)
  have HB := Lib.hid (bytes_below w 5 ⟨l.toArray⟩)
  obtain ⟨C, eC⟩ : ∃ C, C = canonL l := ⟨_, rfl⟩
  obtain ⟨Lo, eLo⟩ : ∃ Lo, Lo = l.map low8 := ⟨_, rfl⟩
  have hC : canonL C = C := by rw [eC]; simp [canonL, up8_up8, Function.comp_def]
  have hLo : canonL Lo = C := by rw [eC, eLo]; simp [canonL, up8_low8, Function.comp_def]
  have tl : ((C.length : Int) == (l.length : Int)) = true := by rw [eC]; simp [canonL]
  have c1 := fun w1 => canon_any l w1 (by omega)
  rw [← eC] at c1
  have c2 := fun w1 => canon_any C w1 (by rw [eC]; simp [canonL]; omega)
  rw [hC] at c2
  have c3 := fun w1 => canon_any Lo w1 (by rw [eLo]; simp; omega)
  rw [hLo] at c3
  have hst := fun (W : World) (c : Nat) (h : Fresh W w.heap.size w.heap.size Lo) => run_bytes_str (P := Try.prog) W 36 5 Try.underlying36 Try.underlying5 h.rd l.length c (by rw [eLo]; simp) 9 Try.underlying9
  have HST := Lib.hid hst; clear hst
  have C1 := Lib.hid c1; clear c1
  have C2 := Lib.hid c2; clear c2
  have C3 := Lib.hid c3; clear c3
  have CK := Lib.hid (fun w1 => known_any w1)
  have ELo := Lib.hid eLo
  have HNN := Lib.hid (Nat.le_refl w.heap.size)
  have e100 : ¬ (100 : Int) < (l.length : Int) := by omega
  clear hC hLo eC eLo
  go_enter Try.func7, Try.ntmps7
  go_wp2
  go_loopw [4] (fun iv wr => ∃ k : Nat, k ≤ l.length ∧ iv = .int .i64 (k : Int) ∧ Fresh wr w.heap.size w.heap.size (mapK low8 l k) ∧ Below w.heap.size w wr) (fun iv _ => l.length - (intOf iv).toNat)
  case atStart => exact ⟨0, Nat.zero_le _, rfl, by rw [mapK_zero]; exact HF.out, HB.out⟩
  case round =>
    obtain ⟨k, hk, rfl, hf, hb⟩ := hrel
    have HB1 := Lib.hid hb; clear hb
    by_cases hlt : k < l.length
    · have e1 : (k : Int) < (l.length : Int) := by omega
      have hc := hf.2.2 k (by rw [mapK_length]; exact hlt)
      rw [mapK_at _ _ _ hlt] at hc
      obtain ⟨hc1, hc2⟩ := hc
      have hs1 := fresh_set hf k (by rw [mapK_length]; exact hlt) (low8 l[k])
      rw [mapK_step _ _ _ hlt] at hs1
      have HS1 := Lib.hid hs1; clear hs1
      have HS2 := Lib.hid (fresh_below_set HB1.out HNN.out k (.int .u8 ((low8 l[k]).toNat : Int)))
      have HF1 := Lib.hid hf; clear hf
      have hb8 := u8_le l[k]
      simp only [bv] at hc1
      by_cases h65 : 65 ≤ l[k].toNat
      · have g1 : decide ((65 : Int) ≤ (l[k].toNat : Int)) = true := by simp; omega
        have e2 : (65 : Int) ≤ (l[k].toNat : Int) := by omega
        by_cases h90 : l[k].toNat ≤ 90
        · have g2 : decide ((l[k].toNat : Int) ≤ 90) = true := by simp; omega
          have E := Lib.hid (show ((l[k].toNat : Int) + 32) = ((low8 l[k]).toNat : Int) by rw [low8_cap ((capB_iff _).2 ⟨h65, h90⟩)]; omega)
          have e3 : (l[k].toNat : Int) ≤ 90 := by omega
          clear h65 h90
          go_wp2
          go_roundw
          case rel => exact ⟨k + 1, by omega, by go_num, by rw [E.out]; exact HS1.out, by rw [E.out]; exact HS2.out⟩
          case measure => simp [intOf]; omega
        · have g2 : decide ((l[k].toNat : Int) ≤ 90) = false := by simp; omega
          have E := Lib.hid (mapK_same low8 l k hlt (low8_other (by simp [capB]; omega)))
          clear h65 h90
          go_wp2
          go_roundw
          case rel => exact ⟨k + 1, by omega, by go_num, by rw [E.out]; exact HF1.out, HB1.out⟩
          case measure => simp [intOf]; omega
      · have g1 : decide ((65 : Int) ≤ (l[k].toNat : Int)) = false := by simp; omega
        have E := Lib.hid (mapK_same low8 l k hlt (low8_other (by simp [capB]; omega)))
        clear h65
        go_wp2
        go_roundw
        case rel => exact ⟨k + 1, by omega, by go_num, by rw [E.out]; exact HF1.out, HB1.out⟩
        case measure => simp [intOf]; omega
    · obtain rfl : k = l.length := by omega
      rw [mapK_all, ← ELo.out] at hf
      have HF1 := Lib.hid hf; clear hf
      have e1 : ¬ (l.length : Int) < (l.length : Int) := by omega
      have c1 := C1.out wr
      go_wp2_with (first
        | (go_at_call 18; with_reducible refine Calls.mono c1 ?_; rintro e w1 ⟨rfl, hb⟩; clear c1; have H1 := Lib.hid (HB1.out.trans (hb.mono HB1.out.size)); have HF2 := Lib.hid ((HF1.out.rd.below hb).more hb.size); clear hb; have c2 := C2.out w1)
        | (go_at_call 18; with_reducible refine Calls.mono c2 ?_; rintro e w2 ⟨rfl, hb⟩; clear c2; have H2 := Lib.hid (H1.out.trans (hb.mono H1.out.size)); have hcs := run_bytes_str (P := Try.prog) w2 36 5 Try.underlying36 Try.underlying5 (HF2.out.below hb) l.length (grownCap w l.length 0 5) (by rw [ELo.out]; simp) 9 Try.underlying9; clear hb; have c3 := C3.out w2)
        | (go_at_call 18; with_reducible refine Calls.mono c3 ?_; rintro e w3 ⟨rfl, hb⟩; clear c3; have H3 := Lib.hid (H2.out.trans (hb.mono H2.out.size)); clear hb; have ck := CK.out w3)
        | (go_at_call 31; refine Calls.mono ck ?_; rintro e w4 ⟨rfl, hb⟩; clear ck; have H4 := Lib.hid (H3.out.trans (hb.mono H3.out.size)); clear hb))
      go_ret
      exact ⟨rfl, H4.out⟩
theorem case_no (l : L) (w : World) (hs : 100 < l.length) : Calls Try.prog 7 #[.string ⟨l.toArray⟩] w fun e w' => e = .returned (.bool true) ∧ Below w.heap.size w w' := by
  have e100 : (100 : Int) < (l.length : Int) := by omega
  have HB := Lib.hid (Below.refl w.heap.size w)
  go_enter Try.func7, Try.ntmps7
  go_wp2
  go_ret
  exact ⟨rfl, HB.out⟩
theorem case_ (s : ByteArray) (w : World) (_ : s.data.toList.length ≤ reachBytes) : Calls Try.prog 7 #[.string s] w fun e w' => e = .returned (.bool true) ∧ Below w.heap.size w w' := by
  revert s
  refine of_list fun l _ => ?_
  by_cases h : l.length ≤ 100
  · exact case_yes l w h
  · exact case_no l w (by omega)

set_option maxHeartbeats 1600000 in
set_option maxRecDepth 100000 in
theorem up_yes (l : L) (w : World) (hs : l.length ≤ 100) : Calls Try.prog 6 #[.string ⟨l.toArray⟩] w fun e w' => e = .returned (.bool true) ∧ Below w.heap.size w w' := by
  have c1 := fun w1 => up_any l w1 (by omega)
  have c2 := fun (i : Nat) w1 => up_any (pl (ch (upL l)) i) w1 (by have := pl_len_le (b := upL l) i; have := up_len l; omega)
  have c3 := fun (i : Nat) w1 => under_any l (pl (ch (upL l)) i) w1 (by omega)
  have c4 := fun (i : Nat) w1 => under_any (pl (ch (upL l)) i) l w1 (by have := pl_len_le (b := upL l) i; have := up_len l; omega)
  have c5 := fun w1 => under_any l l w1 (by omega)
  rw [under_self] at c5
  have c6 := fun w1 => ris_any l w1 (by omega)
  have hlen : ∀ i, i < (ch (upL l)).length → (pl (ch (upL l)) i).length < l.length := by
    intro i hi
    have h1 := mem_len (pl_mem hi)
    have hne : l ≠ [] := by rintro rfl; rw [up_nil, ch_nil] at hi; simp at hi
    have := up_lt hne; omega
  have hun : ∀ i, i < (ch (upL l)).length → underL l (pl (ch (upL l)) i) = true := fun i hi => (under_iff _ _).2 (pl_mem hi)
  have hnl : isL l = false → (ch (upL l)).length = 0 := by
    intro h
    rw [up_none (by simp [isL] at h; exact h), ch_nil]; rfl
  have h0 : upL l = pl (ch (upL l)) 0 := by
    by_cases h : upL l = []
    · rw [h, ch_nil]; rfl
    · exact (ch_zero h).symm
  have hup : ∀ i, i < (ch (upL l)).length → upL (pl (ch (upL l)) i) = pl (ch (upL l)) (i + 1) := fun i h => up_at _ h
  have hne : ∀ i, i < (ch (upL l)).length → pl (ch (upL l)) i ≠ [] := fun i h => at_ne _ h
  have h4 := ch_len (upL l)
  have h00 : upL l = pl (ch (upL l)) 0 := h0
  obtain ⟨A, eA⟩ : ∃ A, A = ch (upL l) := ⟨_, rfl⟩
  rw [← eA] at c2 c3 c4 hlen hun hnl h0 hup hne h4
  rw [h0] at c1
  clear eA h00
  have C2 := Lib.hid c2; clear c2
  have C3 := Lib.hid c3; clear c3
  have C4 := Lib.hid c4; clear c4
  have C5 := Lib.hid c5; clear c5
  have C6 := Lib.hid c6; clear c6
  have C1 := Lib.hid c1; clear c1
  have CK := Lib.hid (fun w1 => known_any w1)
  have HLEN := Lib.hid hlen; clear hlen
  have HUN := Lib.hid hun; clear hun
  have HNL := Lib.hid hnl; clear hnl
  have HUP := Lib.hid hup; clear hup
  have HNE := Lib.hid hne; clear hne
  clear h0
  have c1 := C1.out w
  have e100 : ¬ (100 : Int) < (l.length : Int) := by omega
  go_enter Try.func6, Try.ntmps6
  go_wp2_with (go_at_call 20; refine Calls.mono c1 ?_; rintro e w1 ⟨rfl, hb⟩; clear c1; have H1 := Lib.hid hb; clear hb)
  go_loopg [3, 4] A.length (fun g nv rv wr => ∃ i : Nat, i + g = A.length ∧ nv = .int .i64 (i : Int) ∧ rv = .string ⟨(pl A i).toArray⟩ ∧ Below w.heap.size w wr)
  case atStart => exact ⟨0, Nat.zero_add _, rfl, rfl, H1.out⟩
  case round =>
    obtain ⟨i, hi, rfl, rfl, hb⟩ := hrel
    have HB := Lib.hid hb; clear hb
    have HI := Lib.hid hi; clear hi
    by_cases hlt : i < A.length
    · have t1 : (pl A i == []) = false := by simpa using HNE.out i hlt
      have c3 := C3.out i wr
      rw [HUN.out i hlt] at c3
      have C4' := Lib.hid (show ∀ w1, Calls Try.prog 22 #[.string ⟨(pl A i).toArray⟩, .string ⟨l.toArray⟩] w1 fun e w' => e = .returned (.bool false) ∧ Below w1.heap.size w1 w' from fun w1 => by
        have := C4.out i w1
        rwa [under_anti (HUN.out i hlt)] at this)
      have c2 := fun w1 => C2.out i w1
      rw [HUP.out i hlt] at c2
      have C2' := Lib.hid c2; clear c2
      have e4 : ¬ (4 : Int) < (i : Int) + 1 := by omega
      have hl := HLEN.out i hlt
      have e5 : ¬ (l.length : Int) ≤ ((pl A i).length : Int) := by omega
      clear hl
      go_wp2_with (first
        | (go_at_call 22; with_reducible refine Calls.mono c3 ?_; rintro e w3 ⟨rfl, hb⟩; clear c3; have H3 := Lib.hid (HB.out.trans (hb.mono HB.out.size)); clear hb; have c4 := C4'.out w3)
        | (go_at_call 22; with_reducible refine Calls.mono c4 ?_; rintro e w4 ⟨rfl, hb⟩; clear c4; have H4 := Lib.hid (H3.out.trans (hb.mono H3.out.size)); clear hb; have c2 := C2'.out w4)
        | (go_at_call 20; refine Calls.mono c2 ?_; rintro e w5 ⟨rfl, hb⟩; clear c2; have H5 := Lib.hid (H4.out.trans (hb.mono H4.out.size)); clear hb))
      go_roundg (A.length - (i + 1))
      case measure => have := HI.out; omega
      case rel => exact ⟨i + 1, by have := HI.out; omega, by go_num, rfl, H5.out⟩
    · have hz : pl A i = [] := pl_ge (by omega)
      rw [hz]
      have c5 := C5.out wr
      clear hz
      cases hr : isL l with
      | true =>
        have HR := Lib.hid hr; clear hr
        go_wp2_with (first
          | (go_at_call 22; refine Calls.mono c5 ?_; rintro e w6 ⟨rfl, hb⟩; clear c5; have H6 := Lib.hid (HB.out.trans (hb.mono HB.out.size)); clear hb; have c6 := C6.out w6; rw [HR.out] at c6)
          | (go_at_call 17; refine Calls.mono c6 ?_; rintro e w7 ⟨rfl, hb⟩; clear c6; have H7 := Lib.hid (H6.out.trans (hb.mono H6.out.size)); clear hb; have ck := CK.out w7)
          | (go_at_call 31; refine Calls.mono ck ?_; rintro e w8 ⟨rfl, hb⟩; clear ck; have H8 := Lib.hid (H7.out.trans (hb.mono H7.out.size)); clear hb))
        go_ret
        exact ⟨rfl, H8.out⟩
      | false =>
        have h0 := HNL.out hr
        obtain rfl : i = 0 := by have := HI.out; omega
        have HR := Lib.hid hr; clear hr h0
        go_wp2_with (first
          | (go_at_call 22; refine Calls.mono c5 ?_; rintro e w6 ⟨rfl, hb⟩; clear c5; have H6 := Lib.hid (HB.out.trans (hb.mono HB.out.size)); clear hb; have c6 := C6.out w6; rw [HR.out] at c6)
          | (go_at_call 17; refine Calls.mono c6 ?_; rintro e w7 ⟨rfl, hb⟩; clear c6; have H7 := Lib.hid (H6.out.trans (hb.mono H6.out.size)); clear hb; have ck := CK.out w7)
          | (go_at_call 31; refine Calls.mono ck ?_; rintro e w8 ⟨rfl, hb⟩; clear ck; have H8 := Lib.hid (H7.out.trans (hb.mono H7.out.size)); clear hb))
        go_ret
        exact ⟨rfl, H8.out⟩
theorem up_no (l : L) (w : World) (hs : 100 < l.length) : Calls Try.prog 6 #[.string ⟨l.toArray⟩] w fun e w' => e = .returned (.bool true) ∧ Below w.heap.size w w' := by
  have e100 : (100 : Int) < (l.length : Int) := by omega
  have HB := Lib.hid (Below.refl w.heap.size w)
  go_enter Try.func6, Try.ntmps6
  go_wp2
  go_ret
  exact ⟨rfl, HB.out⟩
theorem up_ (s : ByteArray) (w : World) (_ : s.data.toList.length ≤ reachBytes) : Calls Try.prog 6 #[.string s] w fun e w' => e = .returned (.bool true) ∧ Below w.heap.size w w' := by
  revert s
  refine of_list fun l _ => ?_
  by_cases h : l.length ≤ 100
  · exact up_yes l w h
  · exact up_no l w (by omega)
end Go.Proofs.Ytpjilcngibaepaa.NmW
