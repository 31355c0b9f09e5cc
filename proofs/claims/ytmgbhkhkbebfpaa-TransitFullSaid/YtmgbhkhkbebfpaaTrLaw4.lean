/-
  TransitNull and TransitFull walked.
-/
import Derived.Test.YtmgbhkhkbebfpaaTrLaw2
import Derived.IntWalk
set_option linter.unusedVariables false
namespace Go.Proofs.Ytmgbhkhkbebfpaa.TrW
open Go.RowKit Go.Proofs.Ytmgbhkhkbebfpaa.Mem Go.Proofs.Ytmgbhkhkbebfpaa.Nm Go.Proofs.Ytmgbhkhkbebfpaa.Tr

section
variable {w : World} {ops : Array Oper} {rest : List Oper} {o : Oper} {a : Act} {Q : Exit → Act → World → Prop}
/-- append of one text, the block's number told -/
theorem app_one_at (hgd : o.guard = none) (s x : Operand) (ho : o.op = .call { callee := .builtin .append, args := #[s, x], argTypes := #[22, 22] })
    (base : Nat) (v : Value) (ls : List L) (hs : a.eval s = v) (hown : Own w base v ls) (r : L) (nb : Nat) (hnb : nb = w.heap.size) (hx : a.eval x = .slice (some ⟨nb, 0, none⟩) 1 1)
    (hl : ls.length + 1 ≤ 8000000000000) (hb : base ≤ w.heap.size)
    (h : ∀ v' w', Own w' base v' (ls ++ [r]) → Below base w w' → wpList Try.prog ops Q rest (a.put o.dst v') w') : wpList Try.prog ops Q (o :: rest) a (w.alloc (.cells #[.string ⟨r.toArray⟩] 9)) := by
  subst hnb
  exact app_one hgd s x ho base v ls hs hown r hx hl hb h
end

/-! ### TransitFull -/
def fullR (i : Nat) : L := [UInt8.ofNat (65 + i), 46, 69, 68, 85]
def fullL : Nat → List L
  | 0 => []
  | k + 1 => fullL k ++ [fullR k]
theorem full_length (k : Nat) : (fullL k).length = k := by
  induction k with
  | zero => rfl
  | succ k ih => simp [fullL, ih]
theorem full_comp : ∀ k, k ≤ 20 → (compL (fullL k)).2 = if 8 < k then 13 else 0 := by decide +kernel
theorem full_exp : ∀ k, k ≤ 20 → expL (joinC (fullL k)) [67] [68] = if 8 < k then ([], 13) else (fullL k, 0) := by decide +kernel
theorem full_five {k : Nat} {x : L} (h : x ∈ fullL k) : x.length ≤ 5 := by
  induction k with
  | zero => cases h
  | succ k ih =>
    rw [fullL, List.mem_append] at h
    rcases h with h | h
    · exact ih h
    · simp only [List.mem_singleton] at h; rw [h]; simp [fullR]
theorem full_join_len {k : Nat} (hk : k ≤ 20) : (joinC (fullL k)).length ≤ 120 := by
  have := join_len (fs := fullL k) (k := 5) fun f hf => full_five hf
  rw [full_length] at this
  omega
theorem full_next {i : Nat} (h : i ≠ 0) : joinC (fullL (i + 1)) = joinC (fullL i) ++ 44 :: fullR i := by
  rw [fullL, join_snoc]
  intro e
  have := congrArg List.length e
  rw [full_length] at this
  exact h this

theorem full_out (z : Int) (w : World) (h : z < 0 ∨ 20 < z) :
    Calls Try.prog 8 #[.int .i64 z] w fun e w' => e = .returned (.bool true) ∧ Below w.heap.size w w' := by
  have CK := Lib.hid (known_any w)
  by_cases h0 : z < 0
  · have g1 : decide (z < 0) = true := decide_eq_true h0
    clear h
    go_enter Try.func8, Try.ntmps8
    go_wp2_with (go_at_call 21; refine Calls.mono CK.out ?_; rintro e w1 ⟨rfl, hb⟩; have H := Lib.hid hb; clear hb)
    go_ret
    exact ⟨rfl, H.out⟩
  · have g1 : decide (z < 0) = false := decide_eq_false h0
    have g2 : decide (20 < z) = true := decide_eq_true (h.resolve_left h0)
    clear h
    go_enter Try.func8, Try.ntmps8
    go_wp2_with (go_at_call 21; refine Calls.mono CK.out ?_; rintro e w1 ⟨rfl, hb⟩; have H := Lib.hid hb; clear hb)
    go_ret
    exact ⟨rfl, H.out⟩

set_option maxHeartbeats 3200000 in
set_option maxRecDepth 100000 in
theorem full_main (k : Nat) (w : World) (hk : k ≤ 20) :
    Calls Try.prog 8 #[.int .i64 (k : Int)] w fun e w' => e = .returned (.bool true) ∧ Below w.heap.size w w' := by
  have CK := Lib.hid (fun w1 => known_any w1)
  obtain ⟨N, eN⟩ : ∃ N, N = w.heap.size := ⟨_, rfl⟩
  rw [← eN]
  have H0 := Lib.hid (show Below N w w by exact Below.refl _ _)
  have EN := Lib.hid eN; clear eN
  have HN := Lib.hid (show ∀ w1 : World, Below N w w1 → N ≤ w1.heap.size from fun w1 h => by have := h.size; have := EN.out; omega)
  have g1 : decide ((k : Int) < 0) = false := decide_eq_false (by omega)
  have g2 : decide (20 < (k : Int)) = false := decide_eq_false (by omega)
  go_enter Try.func8, Try.ntmps8
  go_wp2
  go_loopw [3, 4, 5] (fun lv sv iv wr => ∃ i : Nat, i ≤ k ∧ iv = .int .i64 (i : Int) ∧ sv = .string ⟨(joinC (fullL i)).toArray⟩ ∧ Own wr N lv (fullL i) ∧ Below N w wr) (fun _ _ iv _ => 21 - (intOf iv).toNat)
  case atStart => exact ⟨0, Nat.zero_le _, rfl, rfl, Own.nil _ _, H0.out⟩
  case round =>
    obtain ⟨i, hi, rfl, rfl, ho, hb⟩ := hrel
    have HO := Lib.hid ho; clear ho
    have HB := Lib.hid hb; clear hb
    have hfl := full_length i
    by_cases hlt : i < k
    · have e1 : (i : Int) < (k : Int) := by omega
      have hjl := full_join_len (k := i) (by omega)
      obtain ⟨bb, ebb⟩ : ∃ bb : UInt8, bb = UInt8.ofNat (65 + i) := ⟨_, rfl⟩
      have hbb : bb.toNat = 65 + i := by rw [ebb, UInt8.toNat_ofNat']; omega
      have hcv : ∀ w1 : World, (convert 46 9 (.slice (some ⟨w1.heap.size, 0, none⟩) 1 1)).run Try.prog (w1.alloc (.cells #[.int .u8 (bb.toNat : Int)] 5)) = .ok (.string ⟨#[bb]⟩) (w1.alloc (.cells #[.int .u8 (bb.toNat : Int)] 5)) := fun w1 => by
        have hrd : Rd (w1.alloc (.cells #[.int .u8 (bb.toNat : Int)] 5)) (w1.heap.size + 1) (some ⟨w1.heap.size, 0, none⟩) (bvs [bb]) := by
          refine .inr ⟨w1.heap.size, 0, rfl, by omega, fun j u hu => ?_⟩
          rw [Nat.zero_add, (Blk.new w1 5 _).cell j]
          cases j with
          | zero => simpa [bvs, bv] using hu
          | succ j => simp [bvs] at hu
        exact run_bytes_str (P := Try.prog) _ 46 5 Try.underlying46 Try.underlying5 hrd 1 1 rfl 9 Try.underlying9
      have m1 : ByteArray.mk #[bb] ++ ByteArray.mk #[46, 69, 68, 85] = ByteArray.mk (fullR i).toArray := by rw [fullR, ← ebb]; exact mk_append [bb] [46, 69, 68, 85]
      have hr5 : (fullR i).length = 5 := rfl
      obtain ⟨R, eR⟩ : ∃ R, R = fullR i := ⟨_, rfl⟩
      rw [← eR] at m1 hr5
      have EL := Lib.hid (show fullL i ++ [R] = fullL (i + 1) by rw [eR]; rfl)
      by_cases hi0 : i = 0
      · subst hi0
        rw [show (bb.toNat : Int) = 65 by omega] at hcv
        have EJ := Lib.hid (show ByteArray.mk (joinC (fullL 0)).toArray ++ ByteArray.mk R.toArray = ByteArray.mk (joinC (fullL (0 + 1))).toArray by rw [mk_append, eR]; rfl)
        have EBB := Lib.hid ebb
        clear ebb eR
        have HOA := Lib.hid (HO.out.below ((Below.refl wr.heap.size wr).alloc (Nat.le_refl _) (.cells #[.int .u8 65] 5)))
        have HBA := Lib.hid (HB.out.alloc (HN.out _ HB.out) (.cells #[.int .u8 65] 5))
        go_wp2_with (at_builtin; refine app_one_at rfl (.tmp 29) (.tmp 31) rfl N _ _ rfl HOA.out R _ (by simp) rfl (by omega) (HN.out _ HBA.out) ?_; intro v' w3 ho3 hb3; rw [EL.out] at ho3; have H3 := Lib.hid (HBA.out.trans hb3); have HO3 := Lib.hid ho3; clear ho3 hb3)
        go_roundw
        case rel => exact ⟨0 + 1, by omega, rfl, by rw [← EJ.out], HO3.out, H3.out⟩
        case measure => simp [intOf]
      · have g3 : decide (0 < (i : Int)) = true := decide_eq_true (by omega)
        have EJ := Lib.hid (show ByteArray.mk (joinC (fullL i)).toArray ++ ByteArray.mk #[44] ++ ByteArray.mk R.toArray = ByteArray.mk (joinC (fullL (i + 1))).toArray by
          rw [show ByteArray.mk #[44] = ByteArray.mk ([44] : L).toArray from rfl, mk_append, mk_append, full_next hi0, eR]; simp)
        have EBB := Lib.hid ebb
        rw [show (bb.toNat : Int) = 65 + (i : Int) by omega] at hcv
        clear ebb eR
        have HOA := Lib.hid (HO.out.below ((Below.refl wr.heap.size wr).alloc (Nat.le_refl _) (.cells #[.int .u8 (65 + (i : Int))] 5)))
        have HBA := Lib.hid (HB.out.alloc (HN.out _ HB.out) (.cells #[.int .u8 (65 + (i : Int))] 5))
        go_wp2_with (at_builtin; refine app_one_at rfl (.tmp 29) (.tmp 31) rfl N _ _ rfl HOA.out R _ (by simp) rfl (by omega) (HN.out _ HBA.out) ?_; intro v' w3 ho3 hb3; rw [EL.out] at ho3; have H3 := Lib.hid (HBA.out.trans hb3); have HO3 := Lib.hid ho3; clear ho3 hb3)
        go_roundw
        case rel => exact ⟨i + 1, by omega, by go_num, by rw [← EJ.out], HO3.out, H3.out⟩
        case measure => simp [intOf]; omega
    · obtain rfl : i = k := by omega
      have e1 : ¬ (i : Int) < (i : Int) := by omega
      obtain ⟨A0, c0, rfl, r0⟩ := HO.out.slice
      have R0 := Lib.hid r0
      have hc2 := full_comp i hk
      have p1 := fun w1 h1 => comp_any (fullL i) A0 c0 w1 (by omega) h1 (fun j hj => by have := full_five (pl_mem hj); omega)
      have p2 := fun w1 => exp_any (joinC (fullL i)) [67] [68] w1 (by have := full_join_len (k := i) hk; omega) (by decide) (by decide)
      rw [full_exp i hk] at p2
      rw [hc2] at p1
      have X1 := Lib.hid (fun A A2 c c2 B w1 => texts_same (fullL i) A A2 (fullL i).length (fullL i).length c c2 B w1 rfl rfl (by omega))
      clear hfl
      by_cases h8 : 8 < i
      · have g8 : decide (8 < (i : Int)) = true := decide_eq_true (by omega)
        rw [if_pos h8] at p1 p2
        have P1 := Lib.hid p1
        have P2 := Lib.hid p2
        clear r0 p1 p2 hc2 h8
        go_wp2_with (first
          | (go_at_call 14; refine Calls.mono (P1.out _ R0.out) ?_; rintro e w3 ⟨rfl, hb⟩; have H3 := Lib.hid (HB.out.trans (hb.mono (HN.out _ HB.out))); clear hb)
          | (go_at_call 16; refine Calls.mono (P2.out _) ?_; rintro e w4 ⟨⟨v4, rfl, ho⟩, hb⟩; obtain ⟨A4, q4, rfl, _⟩ := ho.slice; have H4 := Lib.hid (H3.out.trans (hb.mono (HN.out _ H3.out))); clear ho hb)
          | (go_at_call 21; refine Calls.mono (CK.out _) ?_; rintro e w5 ⟨rfl, hb⟩; have H5 := Lib.hid (H4.out.trans (hb.mono (HN.out _ H4.out))); clear hb))
        go_ret
        exact ⟨rfl, H5.out⟩
      · have g8 : decide (8 < (i : Int)) = false := decide_eq_false (by omega)
        rw [if_neg h8] at p1 p2
        have P1 := Lib.hid p1
        have P2 := Lib.hid p2
        clear r0 p1 p2 hc2 h8
        go_wp2_with (first
          | (go_at_call 14; refine Calls.mono (P1.out _ R0.out) ?_; rintro e w3 ⟨rfl, hb⟩; have H3 := Lib.hid (HB.out.trans (hb.mono (HN.out _ HB.out))); have R3 := Lib.hid ((R0.out.below hb).more hb.size); clear hb)
          | (go_at_call 16; refine Calls.mono (P2.out _) ?_; rintro e w4 ⟨⟨v4, rfl, ho⟩, hb⟩; obtain ⟨A4, q4, rfl, r4⟩ := ho.slice; have R4 := Lib.hid r4; have H4 := Lib.hid (H3.out.trans (hb.mono (HN.out _ H3.out))); replace R3 := Lib.hid ((R3.out.below hb).more hb.size); clear ho hb r4)
          | (go_at_call 20; refine Calls.mono (X1.out _ _ _ _ _ _ R4.out R3.out) ?_; rintro e w6 ⟨rfl, hd⟩; replace H4 := Lib.hid (H4.out.trans (hd.below.mono (HN.out _ H4.out))); clear hd)
          | (go_at_call 21; refine Calls.mono (CK.out _) ?_; rintro e w5 ⟨rfl, hb⟩; have H5 := Lib.hid (H4.out.trans (hb.mono (HN.out _ H4.out))); clear hb))
        go_ret
        exact ⟨rfl, H5.out⟩
theorem full_ (z : Int) (w : World) (hz : (Lit.int .i64 z).wf = true) :
    Calls Try.prog 8 #[.int .i64 z] w fun e w' => e = .returned (.bool true) ∧ Below w.heap.size w w' := by
  by_cases h : z < 0 ∨ 20 < z
  · exact full_out z w h
  · rw [not_or] at h
    obtain ⟨k, rfl⟩ : ∃ k : Nat, z = (k : Int) := ⟨z.toNat, by omega⟩
    exact full_main k w (by omega)
end Go.Proofs.Ytmgbhkhkbebfpaa.TrW
