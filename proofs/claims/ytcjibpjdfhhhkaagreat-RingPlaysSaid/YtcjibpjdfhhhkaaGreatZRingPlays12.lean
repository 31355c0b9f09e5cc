import Derived.Deep.LoopGhost
import Derived.Test.YtcjibpjdfhhhkaaGreatZRingPlays1
import Derived.Test.YtcjibpjdfhhhkaaGreatZRingPlays2
import Derived.Test.YtcjibpjdfhhhkaaGreatZRingPlays11
section
set_option linter.unusedVariables false
namespace Go.Proofs.YtcjibpjdfhhhkaaGreat.Nm
open Go.RowKit Go.Proofs.YtcjibpjdfhhhkaaGreat.Mem
theorem ext_rng (l : List UInt8) (f k : Nat) : (ByteArray.mk l.toArray).extract f k = ByteArray.mk ((l.drop f).take (k - f)).toArray := by
  rw [ByteArray.extract_mk]
attribute [local go_sem] mk_at List.getElem_cons_zero List.getElem_cons_succ ext_rng

def piece (l : L) (f k : Nat) : L := (l.drop f).take (k - f)
theorem piece_cut {l : L} {f k : Nat} (hf : f ≤ k) (hk : k < l.length) : l.drop f = piece l f k ++ l[k] :: l.drop (k + 1) := by
  have h1 : l.drop f = (l.drop f).take (k - f) ++ (l.drop f).drop (k - f) := (List.take_append_drop _ _).symm
  rw [List.drop_drop, show f + (k - f) = k by omega, List.drop_eq_getElem_cons hk] at h1
  exact h1
theorem piece_succ {l : L} {f k : Nat} (hf : f ≤ k) (hk : k < l.length) : piece l f (k + 1) = piece l f k ++ [l[k]] := by
  have h := piece_cut hf hk
  have hl : (piece l f k).length = k - f := by rw [piece, List.length_take, List.length_drop]; omega
  rw [piece, h, show k + 1 - f = (piece l f k).length + 1 by omega, List.take_append, List.take_of_length_le (by omega), Nat.add_sub_cancel_left]
  rfl
theorem piece_all {l : L} {f : Nat} : piece l f l.length = l.drop f := by rw [piece, List.take_of_length_le (by simp)]
theorem split_le (c : UInt8) (l : L) : (split c l).length ≤ l.length + 1 := by
  induction l with
  | nil => simp [split]
  | cons x r ih =>
    rw [split]; split
    · simp; omega
    · split <;> simp_all <;> omega

set_option maxHeartbeats 1600000 in
set_option maxRecDepth 100000 in
theorem split_any (l : L) (c : UInt8) (w : World) (hs : l.length ≤ 1000000000) : Calls Tryz.prog 75 #[.string ⟨l.toArray⟩, .int .u8 (c.toNat : Int)] w fun e w' => ∃ v, e = .returned v ∧ Own w' w.heap.size v (split c l) ∧ Below w.heap.size w w' := by
  obtain ⟨N, eN⟩ : ∃ N, N = w.heap.size := ⟨_, rfl⟩
  rw [← eN]
  have HB0 := Lib.hid (show Below N w w by exact Below.refl _ _)
  have EN := Lib.hid eN; clear eN
  have HNE0 := Lib.hid (show ∀ w1 : World, Below N w w1 → N ≤ w1.heap.size from fun w1 h => by have := h.size; have := EN.out; omega)
  go_enter Tryz.func75, Tryz.ntmps75
  go_wp2
  go_loopw [5, 6, 7] (fun vv fv iv wr => ∃ (f k : Nat) (ls : List L), f ≤ k ∧ k ≤ l.length ∧ fv = .int .i64 (f : Int) ∧ iv = .int .i64 (k : Int) ∧ Own wr N vv ls ∧ c ∉ piece l f k ∧ ls ++ split c (l.drop f) = split c l ∧ ls.length ≤ f ∧ Below N w wr) (fun _ _ iv _ => l.length - (intOf iv).toNat)
  case atStart => exact ⟨0, 0, [], Nat.le_refl _, Nat.zero_le _, rfl, rfl, Own.nil _ _, by simp [piece], by simp, by simp, HB0.out⟩
  case round =>
    obtain ⟨f, k, ls, hf, hk, rfl, rfl, ho, hc, hsp, hll, hb⟩ := hrel
    have HO := Lib.hid ho; clear ho
    have HB := Lib.hid hb; clear hb
    have HC := Lib.hid hc; clear hc
    have HSP := Lib.hid hsp; clear hsp
    by_cases hlt : k < l.length
    · have e1 : (k : Int) < (l.length : Int) := by omega
      have hpc := piece_cut hf hlt
      have hps := piece_succ hf hlt
      by_cases hx : l[k] = c
      · have t1 : ((l[k].toNat : Int) == (c.toNat : Int)) = true := by simp [hx]
        have hn : (ls ++ [piece l f k]) ++ split c (l.drop (k + 1)) = split c l := by
          rw [← HSP.out, hpc, hx, split_head HC.out]; simp
        have HN := Lib.hid hn; clear hn hpc hps hx
        have e2 : (f : Int) ≤ (k : Int) := by omega
        go_wp2_with (at_builtin; refine app_one rfl (.tmp 19) (.tmp 24) rfl N _ ls rfl HO.out (piece l f k) rfl (by omega) (HNE0.out _ HB.out) ?_; intro v' w3 ho3 hb3; have H3 := Lib.hid (HB.out.trans hb3); have HO3 := Lib.hid ho3; clear ho3 hb3)
        go_roundw
        case rel => exact ⟨k + 1, k + 1, _, Nat.le_refl _, by omega, by go_num, by go_num, HO3.out, by simp [piece], HN.out, by simp; omega, H3.out⟩
        case measure => simp [intOf]; omega
      · have t1 : ((l[k].toNat : Int) == (c.toNat : Int)) = false := by
          simp only [beq_eq_false_iff_ne, ne_eq]
          intro q
          exact hx (UInt8.toNat_inj.1 (by omega))
        have HC1 := Lib.hid (show c ∉ piece l f (k + 1) by
          rw [hps, List.mem_append, not_or]
          exact ⟨HC.out, by simpa using fun q : c = l[k] => hx q.symm⟩)
        clear hpc hps hx
        go_wp2
        go_roundw
        case rel => exact ⟨f, k + 1, ls, by omega, by omega, rfl, by go_num, HO.out, HC1.out, HSP.out, hll, HB.out⟩
        case measure => simp [intOf]; omega
    · obtain rfl : k = l.length := by omega
      have e1 : ¬ (l.length : Int) < (l.length : Int) := by omega
      have e2 : (f : Int) ≤ (l.length : Int) := by omega
      have hc := HC.out
      rw [piece_all] at hc
      have hn : ls ++ [piece l f l.length] = split c l := by rw [← HSP.out, split_none hc, piece_all]
      have HN := Lib.hid hn; clear hn hc
      go_wp2_with (at_builtin; refine app_one rfl (.tmp 28) (.tmp 32) rfl N _ ls rfl HO.out (piece l f l.length) rfl (by omega) (HNE0.out _ HB.out) ?_; intro v' w3 ho3 hb3; have H3 := Lib.hid (HB.out.trans hb3); have HO3 := Lib.hid ho3; clear ho3 hb3)
      go_ret
      exact ⟨_, rfl, by rw [← HN.out]; exact HO3.out, H3.out⟩
end Go.Proofs.YtcjibpjdfhhhkaaGreat.Nm
end

section
set_option linter.unusedVariables false
namespace Go.Proofs.YtcjibpjdfhhhkaaGreat.Nm
open Go.RowKit Go.Proofs.YtcjibpjdfhhhkaaGreat.Mem
attribute [local go_sem] mk_at List.getElem_cons_zero List.getElem_cons_succ ext_rng

theorem labs_bad {ls : List L} {i : Nat} (hi : i < ls.length) (h : wordL capB (pl ls i) = false) : labsL ls = false := by
  cases e : labsL ls with
  | false => rfl
  | true =>
    have := ((labsL_iff ls).1 e).2.2
    rw [List.all_eq_true] at this
    have := this _ (pl_mem hi)
    rw [h] at this; cases this
theorem labs_all {ls : List L} (h : ∀ i, i < ls.length → wordL capB (pl ls i) = true) (h1 : 1 ≤ ls.length) : labsL ls = decide (ls.length ≤ 4) := by
  have ha : ls.all (wordL capB) = true := by
    rw [List.all_eq_true]
    intro x hx
    obtain ⟨i, hi, rfl⟩ := mem_pl hx
    exact h i hi
  rw [labsL, ha, decide_eq_true h1]; simp

set_option maxHeartbeats 3200000 in
set_option maxRecDepth 100000 in
theorem labels_some (ls : List L) (b o c : Nat) (w : World) (h1 : 1 ≤ ls.length) (hl : ls.length ≤ 8000000000000) (hs : ∀ i, i < ls.length → (pl ls i).length ≤ 1000000000)
    (hc : ∀ i, i < ls.length → w.cell? ⟨b, o + i, none⟩ = some (.string ⟨(pl ls i).toArray⟩)) :
    Calls Tryz.prog 74 #[.slice (some ⟨b, o, none⟩) ls.length c] w fun e w' => e = .returned (.bool (labsL ls)) ∧ w = w' := by
  obtain ⟨n, en⟩ : ∃ n, n = ls.length := ⟨_, rfl⟩
  rw [← en] at h1 hl hs hc ⊢
  have HS := Lib.hid hs; clear hs
  have HC := Lib.hid hc; clear hc
  have EN := Lib.hid en; clear en
  go_enter Tryz.func74, Tryz.ntmps74
  go_wp2
  go_loop [3] (fun iv => ∃ i : Nat, i ≤ n ∧ iv = .int .i64 (i : Int) ∧ ∀ j, j < i → wordL capB (pl ls j) = true) (fun iv => n - (intOf iv).toNat)
  case atStart => exact ⟨0, Nat.zero_le _, rfl, fun j h => absurd h (Nat.not_lt_zero j)⟩
  case round =>
    obtain ⟨i, hi, rfl, hw⟩ := hrel
    have HW := Lib.hid hw; clear hw
    by_cases hlt : i < n
    · have e1 : (i : Int) < (n : Int) := by omega
      have hc := HC.out i hlt
      have hsz := HS.out i hlt
      obtain ⟨l, el⟩ : ∃ l, l = pl ls i := ⟨_, rfl⟩
      rw [← el] at hc hsz
      have EL := Lib.hid el; clear el
      by_cases g1 : l.length < 1
      · have t1 : decide ((l.length : Int) < 1) = true := by simp; omega
        have E := Lib.hid (labs_bad (by rw [← EN.out]; exact hlt) (by rw [← EL.out]; exact word_short g1))
        clear g1
        go_wp2
        go_ret
        exact ⟨by rw [E.out]; rfl, rfl⟩
      · have t1 : decide ((l.length : Int) < 1) = false := by simp; omega
        by_cases g2 : 8 < l.length
        · have t2 : decide (8 < (l.length : Int)) = true := by simp; omega
          have E := Lib.hid (labs_bad (by rw [← EN.out]; exact hlt) (by rw [← EL.out]; exact word_long g2))
          clear g1 g2
          go_wp2
          go_ret
          exact ⟨by rw [E.out]; rfl, rfl⟩
        · have t2 : decide (8 < (l.length : Int)) = false := by simp; omega
          have HA := Lib.hid (fun h => word_all (p := capB) (l := l) h (by omega) (by omega))
          clear g1 g2
          go_wp2
          go_loop [4] (fun kv => ∃ k : Nat, k ≤ l.length ∧ kv = .int .i64 (k : Int) ∧ Fit capB l k) (fun kv => l.length - (intOf kv).toNat)
          case atStart => exact ⟨0, Nat.zero_le _, rfl, fun i _ h => by omega⟩
          case round =>
            obtain ⟨k, hk, rfl, hf⟩ := hrel
            have HF := Lib.hid hf; clear hf
            by_cases hkl : k < l.length
            · have e2 : (k : Int) < (l.length : Int) := by omega
              have hb := u8_le l[k]
              by_cases q1 : l[k].toNat < 65
              · have s1 : decide ((l[k].toNat : Int) < 65) = true := by simp; omega
                have E := Lib.hid (labs_bad (ls := ls) (i := i) (by rw [← EN.out]; exact hlt) (by rw [← EL.out]; exact word_bad hkl (by simp [capB]; omega)))
                clear q1
                go_wp2
                go_ret
                exact ⟨by rw [E.out]; rfl, rfl⟩
              · have s1 : decide ((l[k].toNat : Int) < 65) = false := by simp; omega
                by_cases q2 : 90 < l[k].toNat
                · have s2 : decide (90 < (l[k].toNat : Int)) = true := by simp; omega
                  have E := Lib.hid (labs_bad (ls := ls) (i := i) (by rw [← EN.out]; exact hlt) (by rw [← EL.out]; exact word_bad hkl (by simp [capB]; omega)))
                  clear q1 q2
                  go_wp2
                  go_ret
                  exact ⟨by rw [E.out]; rfl, rfl⟩
                · have s2 : decide (90 < (l[k].toNat : Int)) = false := by simp; omega
                  have HP := Lib.hid (show capB l[k] = true by simp [capB]; omega)
                  clear q1 q2
                  go_wp2
                  go_round
                  case rel => exact ⟨k + 1, by omega, by go_num, fun i hi hik => by
                    by_cases q : i = k
                    · subst q; exact HP.out
                    · exact HF.out i hi (by omega)⟩
                  case measure => simp [intOf]; omega
            · have e2 : ¬ (k : Int) < (l.length : Int) := by omega
              have E := Lib.hid (HA.out (fun i hi => HF.out i hi (by omega)))
              go_wp2
              go_round
              case rel => exact ⟨i + 1, by omega, by go_num, fun j hj => by
                by_cases q : j = i
                · rw [q, ← EL.out]; exact E.out
                · exact HW.out j (by omega)⟩
              case measure => simp [intOf]; omega
    · obtain rfl : i = n := by omega
      have e1 : ¬ (i : Int) < (i : Int) := by omega
      have hE := labs_all (ls := ls) (fun j hj => HW.out j (by rw [EN.out]; exact hj)) (by rw [← EN.out]; exact h1)
      rw [← EN.out] at hE
      have E := Lib.hid hE; clear hE
      have t1 : decide ((1 : Int) ≤ (i : Int)) = true := by simp; omega
      by_cases g : i ≤ 4
      · have t2 : decide ((i : Int) ≤ 4) = true := by simp; omega
        have E2 := Lib.hid (decide_eq_true g)
        clear g
        go_wp2
        go_ret
        exact ⟨by rw [E.out, E2.out]; rfl, rfl⟩
      · have t2 : decide ((i : Int) ≤ 4) = false := by simp; omega
        have E2 := Lib.hid (decide_eq_false g)
        clear g
        go_wp2
        go_ret
        exact ⟨by rw [E.out, E2.out]; rfl, rfl⟩
theorem labels_any (ls : List L) (A : Option Addr) (c B : Nat) (w : World) (h1 : 1 ≤ ls.length) (hl : ls.length ≤ 8000000000000) (hs : ∀ i, i < ls.length → (pl ls i).length ≤ 1000000000) (hr : Rd w B A (strs ls)) :
    Calls Tryz.prog 74 #[.slice A ls.length c] w fun e w' => e = .returned (.bool (labsL ls)) ∧ w = w' := by
  obtain ⟨b, o, rfl, _, _⟩ := rd_txt hr (i := 0) h1
  refine labels_some ls b o c w h1 hl hs fun i hi => ?_
  obtain ⟨b', o', e, _, hc⟩ := rd_txt hr hi
  injection e with e
  injection e with e1 e2
  subst e1; subst e2
  exact hc
end Go.Proofs.YtcjibpjdfhhhkaaGreat.Nm
end

section
set_option linter.unusedVariables false
namespace Go.Proofs.YtcjibpjdfhhhkaaGreat.Nm
open Go.RowKit Go.Proofs.YtcjibpjdfhhhkaaGreat.Mem
attribute [local go_sem] mk_at List.getElem_cons_zero List.getElem_cons_succ ext_tail ext_drop ext_take

theorem split_mem (c : UInt8) (l : L) : ∀ x, x ∈ split c l → x.length ≤ l.length := by
  induction l with
  | nil => intro x hx; simp [split] at hx; simp [hx]
  | cons a r ih =>
    intro x hx
    rw [split] at hx
    split at hx
    · rcases List.mem_cons.1 hx with rfl | h
      · simp
      · have := ih x h; simp; omega
    · cases hs : split c r with
      | nil => rw [hs] at hx; simp at hx; subst hx; simp
      | cons u t =>
        rw [hs] at hx ih
        rcases List.mem_cons.1 hx with rfl | h
        · have := ih u List.mem_cons_self; simp; omega
        · have := ih x (List.mem_cons_of_mem _ h); simp; omega
theorem slab_any (l : L) (c : UInt8) (w' : World) (base : Nat) (v : Value) (hs : l.length ≤ 1000000000) (ho : Own w' base v (split c l)) :
    ∃ A n cap, v = .slice A n cap ∧ ∀ w1, Below w'.heap.size w' w1 → Calls Tryz.prog 74 #[.slice A n cap] w1 fun e w2 => e = .returned (.bool (labsL (split c l))) ∧ w1 = w2 := by
  obtain ⟨A, cap, rfl, hr⟩ := ho.slice
  refine ⟨A, _, cap, rfl, fun w1 hb => ?_⟩
  exact labels_any (split c l) A cap w'.heap.size w1 (split_len c l) (by have := split_le c l; omega) (fun i hi => by have := split_mem c l _ (pl_mem hi); omega) (hr.below hb)

set_option maxHeartbeats 1600000 in
set_option maxRecDepth 100000 in
theorem rkind_any (l : L) (w : World) (hs : l.length ≤ 1000000000) : Calls Tryz.prog 57 #[.string ⟨l.toArray⟩] w fun e w' => e = .returned (.int .i64 (kindL l : Int)) ∧ Below w.heap.size w w' := by
  have C2 := Lib.hid (fun w1 => split_any l 46 w1 hs)
  have S2 := Lib.hid (fun w' base v ho => slab_any l 46 w' base v hs ho)
  have HB0 := Lib.hid (Below.refl w.heap.size w)
  cases l with
  | nil =>
    have E := Lib.hid kind_nil
    have c2 := C2.out w
    have EL := Lib.hid (show labsL (split 46 []) = false by decide)
    clear hs
    go_enter Tryz.func57, Tryz.ntmps57
    go_wp2_with (first
      | (go_at_call 75; refine Calls.mono c2 ?_; rintro e w1 ⟨v, rfl, ho, hb⟩; clear c2; obtain ⟨A, n, cap, rfl, hc⟩ := S2.out w1 _ v ho; have c3 := hc w1 (Below.refl _ _); rw [EL.out] at c3; have H1 := Lib.hid hb; clear hb ho hc)
      | (go_at_call 74; refine Calls.mono c3 ?_; rintro e w2 ⟨rfl, rfl⟩; clear c3))
    go_ret
    exact ⟨by rw [E.out]; rfl, H1.out⟩
  | cons x r =>
    have e0 : (0 : Int) < (r.length : Int) + 1 := by omega
    have hs' : r.length ≤ 1000000000 := by simp at hs; omega
    have ek : kindL (x :: r) = if slL (x :: r) then 2 else if labsL (split 46 (x :: r)) then 1 else 0 := rfl
    by_cases hx : x = 47
    · subst hx
      have esl : slL (47 :: r) = labsL (split 47 r) := by simp [slL]
      rw [esl] at ek
      have c1 := split_any r 47 w hs'
      have S1 := Lib.hid (fun w' base v ho => slab_any r 47 w' base v hs' ho)
      cases h1 : labsL (split 47 r) with
      | true =>
        have E := Lib.hid (show kindL (47 :: r) = 2 by rw [ek, h1]; rfl)
        have H := Lib.hid h1
        clear ek esl h1 hs hs'
        go_enter Tryz.func57, Tryz.ntmps57
        go_wp2_with (first
          | (go_at_call 75; refine Calls.mono c1 ?_; rintro e w1 ⟨v, rfl, ho, hb⟩; clear c1; obtain ⟨A, n, cap, rfl, hc⟩ := S1.out w1 _ v ho; have c3 := hc w1 (Below.refl _ _); rw [H.out] at c3; have H1 := Lib.hid hb; clear hb ho hc)
          | (go_at_call 74; refine Calls.mono c3 ?_; rintro e w2 ⟨rfl, rfl⟩; clear c3))
        go_ret
        exact ⟨by rw [E.out]; rfl, H1.out⟩
      | false =>
        rw [h1, if_neg (by simp)] at ek
        have H := Lib.hid h1
        have hd : labsL (split 46 (47 :: r)) = false := by
          cases q : labsL (split 46 (47 :: r)) with
          | false => rfl
          | true => exact absurd rfl (dom_head q)
        have HD := Lib.hid hd
        have E := Lib.hid (show kindL (47 :: r) = 0 by rw [ek, hd]; rfl)
        clear ek esl h1 hd hs hs'
        go_enter Tryz.func57, Tryz.ntmps57
        go_wp2_with (first
          | (go_at_call 75; refine Calls.mono c1 ?_; rintro e w1 ⟨v, rfl, ho, hb⟩; clear c1; obtain ⟨A, n, cap, rfl, hc⟩ := S1.out w1 _ v ho; have c3 := hc w1 (Below.refl _ _); rw [H.out] at c3; have H1 := Lib.hid hb; clear hb ho hc; have c2 := C2.out w1)
          | (go_at_call 74; refine Calls.mono c3 ?_; rintro e w2 ⟨rfl, rfl⟩; clear c3)
          | (go_at_call 75; refine Calls.mono c2 ?_; rintro e w4 ⟨v4, rfl, ho, hb⟩; clear c2; obtain ⟨A4, n4, cap4, rfl, hc⟩ := S2.out w4 _ v4 ho; have c5 := hc w4 (Below.refl _ _); rw [HD.out] at c5; have H4 := Lib.hid (H1.out.trans (hb.mono H1.out.size)); clear hb ho hc)
          | (go_at_call 74; refine Calls.mono c5 ?_; rintro e w6 ⟨rfl, rfl⟩; clear c5))
        go_ret
        exact ⟨by rw [E.out]; rfl, H4.out⟩
    · have t1 : ((x.toNat : Int) == 47) = false := by
        simp only [beq_eq_false_iff_ne, ne_eq]
        intro q
        exact hx (UInt8.toNat_inj.1 (by have : (47 : UInt8).toNat = 47 := rfl; omega))
      have esl : slL (x :: r) = false := by simp [slL, hx]
      rw [esl, if_neg (by simp)] at ek
      have c2 := C2.out w
      cases h1 : labsL (split 46 (x :: r)) with
      | true =>
        have E := Lib.hid (show kindL (x :: r) = 1 by rw [ek, h1]; rfl)
        have H := Lib.hid h1
        clear ek esl h1 hs hs' hx
        go_enter Tryz.func57, Tryz.ntmps57
        go_wp2_with (first
          | (go_at_call 75; refine Calls.mono c2 ?_; rintro e w1 ⟨v, rfl, ho, hb⟩; clear c2; obtain ⟨A, n, cap, rfl, hc⟩ := S2.out w1 _ v ho; have c3 := hc w1 (Below.refl _ _); rw [H.out] at c3; have H1 := Lib.hid hb; clear hb ho hc)
          | (go_at_call 74; refine Calls.mono c3 ?_; rintro e w2 ⟨rfl, rfl⟩; clear c3))
        go_ret
        exact ⟨by rw [E.out]; rfl, H1.out⟩
      | false =>
        have E := Lib.hid (show kindL (x :: r) = 0 by rw [ek, h1]; rfl)
        have H := Lib.hid h1
        clear ek esl h1 hs hs' hx
        go_enter Tryz.func57, Tryz.ntmps57
        go_wp2_with (first
          | (go_at_call 75; refine Calls.mono c2 ?_; rintro e w1 ⟨v, rfl, ho, hb⟩; clear c2; obtain ⟨A, n, cap, rfl, hc⟩ := S2.out w1 _ v ho; have c3 := hc w1 (Below.refl _ _); rw [H.out] at c3; have H1 := Lib.hid hb; clear hb ho hc)
          | (go_at_call 74; refine Calls.mono c3 ?_; rintro e w2 ⟨rfl, rfl⟩; clear c3))
        go_ret
        exact ⟨by rw [E.out]; rfl, H1.out⟩

set_option maxHeartbeats 400000 in
theorem ris_any (l : L) (w : World) (hs : l.length ≤ 1000000000) : Calls Tryz.prog 43 #[.string ⟨l.toArray⟩] w fun e w' => e = .returned (.bool (isL l)) ∧ Below w.heap.size w w' := by
  have c1 := rkind_any l w hs
  by_cases h : 1 ≤ kindL l
  · have E := Lib.hid (show isL l = true by simp [isL, h])
    have t : decide (0 < kindL l) = true := by simp; omega
    clear h
    go_enter Tryz.func43, Tryz.ntmps43
    go_wp2_with (go_at_call 57; refine Calls.mono c1 ?_; rintro e w1 ⟨rfl, hd⟩; clear c1; have H1 := Lib.hid hd; clear hd)
    go_ret
    exact ⟨by rw [E.out]; rfl, H1.out⟩
  · have E := Lib.hid (show isL l = false by simp [isL]; omega)
    have e0 : kindL l = 0 := by omega
    rw [e0] at c1
    clear h e0
    go_enter Tryz.func43, Tryz.ntmps43
    go_wp2_with (go_at_call 57; refine Calls.mono c1 ?_; rintro e w1 ⟨rfl, hd⟩; clear c1; have H1 := Lib.hid hd; clear hd)
    go_ret
    exact ⟨by rw [E.out]; rfl, H1.out⟩

end Go.Proofs.YtcjibpjdfhhhkaaGreat.Nm
end

section
set_option linter.unusedVariables false
namespace Go.Proofs.YtcjibpjdfhhhkaaGreat.Nm
open Go.RowKit Go.Proofs.YtcjibpjdfhhhkaaGreat.Mem
attribute [local go_sem] mk_at List.getElem_cons_zero List.getElem_cons_succ ext_tail ext_drop ext_take

theorem tg_short {n : L} (h : n.length < 8) : tgL n = false := by
  cases q : preL krb n with
  | false => rw [tgL, q]; rfl
  | true =>
    have h1 : n.drop 7 = [] := List.drop_of_length_le (by omega)
    have h2 : cpL krb n = [] := by rw [cpL, q, if_pos rfl]; exact h1
    rw [tgL, h2, show isL [] = false from by decide, Bool.and_false]
theorem tg_eq (n : L) : tgL n = ((n.take 7 == krb) && isL (n.drop 7)) := by
  have e := pre_take krb n
  rw [show krb.length = 7 from rfl] at e
  rw [tgL, e]
  cases q : preL krb n with
  | false => rfl
  | true => rw [cpL, q]; rfl

set_option maxHeartbeats 800000 in
theorem rtarget_any (n : L) (w : World) (hs : n.length ≤ 1000000000) : Calls Tryz.prog 44 #[.string ⟨n.toArray⟩] w fun e w' => e = .returned (.tuple #[.string ⟨(tgR n).toArray⟩, .bool (tgL n)]) ∧ Below w.heap.size w w' := by
  have c2 := ris_any (n.drop 7) w (by simp; omega)
  have HB0 := Lib.hid (Below.refl w.heap.size w)
  by_cases h8 : n.length < 8
  · have E1 := Lib.hid (tg_short h8)
    have E2 := Lib.hid (show tgR n = [] by rw [tgR, E1.out]; rfl)
    have t1 : decide ((n.length : Int) < 8) = true := by simp; omega
    clear h8 hs
    go_enter Tryz.func44, Tryz.ntmps44
    go_wp2_with fail
    go_ret2
    exact ⟨by rw [E1.out, E2.out]; rfl, HB0.out⟩
  · have t1 : decide ((n.length : Int) < 8) = false := by simp; omega
    have e7 : (7 : Int) ≤ (n.length : Int) := by omega
    have eq := tg_eq n
    clear h8
    cases h1 : (n.take 7 == krb) with
    | false =>
      rw [h1] at eq
      have t2 : (n.take 7 == [107, 114, 98, 116, 103, 116, 47]) = false := h1
      have E1 := Lib.hid (show tgL n = false from eq)
      have E2 := Lib.hid (show tgR n = [] by rw [tgR, E1.out]; rfl)
      clear eq h1 hs
      go_enter Tryz.func44, Tryz.ntmps44
      go_wp2_with fail
      go_ret2
      exact ⟨by rw [E1.out, E2.out]; rfl, HB0.out⟩
    | true =>
      rw [h1, Bool.true_and] at eq
      have t2 : (n.take 7 == [107, 114, 98, 116, 103, 116, 47]) = true := h1
      clear h1 hs
      cases h2 : isL (n.drop 7) with
      | false =>
        rw [h2] at c2 eq
        have E1 := Lib.hid eq
        have E2 := Lib.hid (show tgR n = [] by rw [tgR, E1.out]; rfl)
        clear eq h2
        go_enter Tryz.func44, Tryz.ntmps44
        go_wp2_with (go_at_call 43; refine Calls.mono c2 ?_; rintro e w2 ⟨rfl, hd⟩; clear c2; have H2 := Lib.hid hd; clear hd)
        go_ret2
        exact ⟨by rw [E1.out, E2.out]; rfl, H2.out⟩
      | true =>
        rw [h2] at c2 eq
        have E1 := Lib.hid eq
        have E2 := Lib.hid (show tgR n = n.drop 7 by rw [tgR, E1.out]; rfl)
        clear eq h2
        go_enter Tryz.func44, Tryz.ntmps44
        go_wp2_with (go_at_call 43; refine Calls.mono c2 ?_; rintro e w2 ⟨rfl, hd⟩; clear c2; have H2 := Lib.hid hd; clear hd)
        go_ret2
        exact ⟨by rw [E1.out, E2.out]; rfl, H2.out⟩

theorem word_fit {p : UInt8 → Bool} {l : L} (h : ∀ i (h : i < l.length), p l[i] = true) : wordL p l = (decide (1 ≤ l.length) && decide (l.length ≤ 8)) := by
  have ha : l.all p = true := by
    rw [List.all_eq_true]
    intro x hx
    obtain ⟨i, hi, rfl⟩ := List.getElem_of_mem hx
    exact h i hi
  rw [wordL, ha, Bool.and_true]
set_option maxHeartbeats 1600000 in
set_option maxRecDepth 100000 in
theorem risprinc_any (r n : L) (w : World) (hs : r.length ≤ 1000000000) (hs2 : n.length ≤ 1000000000) : Calls Tryz.prog 24 #[.agg #[.string ⟨r.toArray⟩, .string ⟨n.toArray⟩]] w fun e w' => e = .returned (.bool (princL r n)) ∧ Below w.heap.size w w' := by
  have c1 := ris_any r (w.alloc (.cells #[.string ⟨r.toArray⟩, .string ⟨n.toArray⟩] 31)) hs
  have hk := Blk.new w 31 #[.string ⟨r.toArray⟩, .string ⟨n.toArray⟩]
  have hb0 := (Below.refl w.heap.size w).alloc (Nat.le_refl _) (.cells #[.string ⟨r.toArray⟩, .string ⟨n.toArray⟩] 31)
  have hsz : w.heap.size < (w.alloc (.cells #[.string ⟨r.toArray⟩, .string ⟨n.toArray⟩] 31)).heap.size := by simp
  obtain ⟨N, eN⟩ : ∃ N, N = w.heap.size := ⟨_, rfl⟩
  have C2 := Lib.hid (fun w1 => rtarget_any n w1 hs2)
  have E1 := Lib.hid (show princL r n = (isL r && (tgL n || wordL wordB n)) from rfl)
  rw [← eN] at hk hb0 hsz ⊢
  have EN := Lib.hid eN; clear eN
  have HK := Lib.hid hk; clear hk
  have HB0 := Lib.hid hb0; clear hb0
  have HSZ := Lib.hid hsz; clear hsz hs
  cases h1 : isL r with
  | false =>
    rw [h1] at c1
    have E := Lib.hid (show princL r n = false by rw [E1.out, h1]; rfl)
    clear h1
    go_enter Tryz.func24, Tryz.ntmps24
    go_wp2_with (go_at_call 43; refine Calls.mono c1 ?_; rintro e w1 ⟨rfl, hd⟩; clear c1; have H1 := Lib.hid (HB0.out.trans (hd.mono (Nat.le_of_lt HSZ.out))); clear hd)
    go_ret
    exact ⟨by rw [E.out]; rfl, H1.out⟩
  | true =>
    rw [h1] at c1
    cases h2 : tgL n with
    | true =>
      have E := Lib.hid (show princL r n = true by rw [E1.out, h1, h2]; rfl)
      have HT := Lib.hid h2
      clear h1 h2
      go_enter Tryz.func24, Tryz.ntmps24
      go_wp2_with (first
        | (go_at_call 43; refine Calls.mono c1 ?_; rintro e w1 ⟨rfl, hd⟩; clear c1; have H1 := Lib.hid (HB0.out.trans (hd.mono (Nat.le_of_lt HSZ.out))); have hkk := HK.out.below hd; have HKK := Lib.hid hkk; have hk1 := hkk.cell 1; have hs1 : N < w1.heap.size := (by have := hd.size; have := HSZ.out; omega); have HS1 := Lib.hid hs1; rw [EN.out] at hk1; clear hd hs1 hkk; have c2 := C2.out w1; rw [HT.out] at c2)
        | (go_at_call 44; refine Calls.mono c2 ?_; rintro e w2 ⟨rfl, hb⟩; clear c2 hk1; have H2 := Lib.hid (H1.out.trans (hb.mono (Nat.le_of_lt HS1.out))); have hk2 := (HKK.out.below hb).cell 1; rw [EN.out] at hk2; clear hb))
      go_ret
      exact ⟨by rw [E.out]; rfl, H2.out⟩
    | false =>
      have E := Lib.hid (show princL r n = wordL wordB n by rw [E1.out, h1, h2]; rfl)
      have HT := Lib.hid h2
      clear h1 h2
      go_enter Tryz.func24, Tryz.ntmps24
      go_wp2_with (first
        | (go_at_call 43; refine Calls.mono c1 ?_; rintro e w1 ⟨rfl, hd⟩; clear c1; have H1 := Lib.hid (HB0.out.trans (hd.mono (Nat.le_of_lt HSZ.out))); have hkk := HK.out.below hd; have HKK := Lib.hid hkk; have hk1 := hkk.cell 1; have hs1 : N < w1.heap.size := (by have := hd.size; have := HSZ.out; omega); have HS1 := Lib.hid hs1; rw [EN.out] at hk1; clear hd hs1 hkk; have c2 := C2.out w1; rw [HT.out] at c2)
        | (go_at_call 44; refine Calls.mono c2 ?_; rintro e w2 ⟨rfl, hb⟩; clear c2 hk1; have H2 := Lib.hid (H1.out.trans (hb.mono (Nat.le_of_lt HS1.out))); have hk2 := (HKK.out.below hb).cell 1; rw [EN.out] at hk2; clear hb))
      go_loop [5] (fun iv => ∃ k : Nat, k ≤ n.length ∧ iv = .int .i64 (k : Int) ∧ Fit wordB n k) (fun iv => n.length - (intOf iv).toNat)
      case atStart => exact ⟨0, Nat.zero_le _, rfl, fun i _ h => by omega⟩
      case round =>
        obtain ⟨k, hk, rfl, hf⟩ := hrel
        have HF := Lib.hid hf; clear hf
        by_cases hlt : k < n.length
        · have e1 : (k : Int) < (n.length : Int) := by omega
          have hb := u8_le n[k]
          have hbad : wordB n[k] = false → Hid (princL r n = false) := fun h => Lib.hid (by rw [E.out]; exact word_bad hlt h)
          have HBAD := Lib.hid hbad; clear hbad
          have hgood : wordB n[k] = true → Hid (Fit wordB n (k + 1)) := fun h => Lib.hid (fun i hi hik => by
            by_cases q : i = k
            · subst q; exact h
            · exact HF.out i hi (by omega))
          have HGOOD := Lib.hid hgood; clear hgood
          by_cases q1 : n[k].toNat < 97
          · have s1 : decide ((n[k].toNat : Int) < 97) = true := by simp; omega
            by_cases q2 : n[k].toNat < 48
            · have s2 : decide ((n[k].toNat : Int) < 48) = true := by simp; omega
              have E2 := HBAD.out (by simp [wordB, smallB]; omega)
              clear q1 q2
              go_wp2
              go_ret
              exact ⟨by rw [E2.out]; rfl, H2.out⟩
            · have s2 : decide ((n[k].toNat : Int) < 48) = false := by simp; omega
              by_cases q3 : 57 < n[k].toNat
              · have s3 : decide (57 < (n[k].toNat : Int)) = true := by simp; omega
                have E2 := HBAD.out (by simp [wordB, smallB]; omega)
                clear q1 q2 q3
                go_wp2
                go_ret
                exact ⟨by rw [E2.out]; rfl, H2.out⟩
              · have s3 : decide (57 < (n[k].toNat : Int)) = false := by simp; omega
                have E2 := HGOOD.out (by simp [wordB, smallB]; omega)
                clear q1 q2 q3
                go_wp2
                go_round
                case rel => exact ⟨k + 1, by omega, by go_num, E2.out⟩
                case measure => simp [intOf]; omega
          · have s1 : decide ((n[k].toNat : Int) < 97) = false := by simp; omega
            by_cases q2 : 122 < n[k].toNat
            · have s2 : decide (122 < (n[k].toNat : Int)) = true := by simp; omega
              have s3 : decide ((n[k].toNat : Int) < 48) = false := by simp; omega
              have s4 : decide (57 < (n[k].toNat : Int)) = true := by simp; omega
              have E2 := HBAD.out (by simp [wordB, smallB]; omega)
              clear q1 q2
              go_wp2
              go_ret
              exact ⟨by rw [E2.out]; rfl, H2.out⟩
            · have s2 : decide (122 < (n[k].toNat : Int)) = false := by simp; omega
              have E2 := HGOOD.out (by simp [wordB, smallB]; omega)
              clear q1 q2
              go_wp2
              go_round
              case rel => exact ⟨k + 1, by omega, by go_num, E2.out⟩
              case measure => simp [intOf]; omega
        · obtain rfl : k = n.length := by omega
          have e1 : ¬ (n.length : Int) < (n.length : Int) := by omega
          have E2 := Lib.hid (E.out.trans (word_fit (fun i hi => HF.out i hi hi)))
          by_cases g1 : 1 ≤ n.length
          · have t1 : decide ((1 : Int) ≤ (n.length : Int)) = true := by simp; omega
            by_cases g2 : n.length ≤ 8
            · have t2 : decide ((n.length : Int) ≤ 8) = true := by simp; omega
              have E3 := Lib.hid (E2.out.trans (show (decide (1 ≤ n.length) && decide (n.length ≤ 8)) = true by simp; omega))
              clear g1 g2
              go_wp2
              go_ret
              exact ⟨by rw [E3.out]; rfl, H2.out⟩
            · have t2 : decide ((n.length : Int) ≤ 8) = false := by simp; omega
              have E3 := Lib.hid (E2.out.trans (show (decide (1 ≤ n.length) && decide (n.length ≤ 8)) = false by simp; omega))
              clear g1 g2
              go_wp2
              go_ret
              exact ⟨by rw [E3.out]; rfl, H2.out⟩
          · have t1 : decide ((1 : Int) ≤ (n.length : Int)) = false := by simp; omega
            have E3 := Lib.hid (E2.out.trans (show (decide (1 ≤ n.length) && decide (n.length ≤ 8)) = false by simp; omega))
            clear g1
            go_wp2
            go_ret
            exact ⟨by rw [E3.out]; rfl, H2.out⟩
end Go.Proofs.YtcjibpjdfhhhkaaGreat.Nm
end
