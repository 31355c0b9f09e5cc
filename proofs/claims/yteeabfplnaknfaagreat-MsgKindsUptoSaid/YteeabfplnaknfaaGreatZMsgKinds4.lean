import Derived.Deep.LoopGhost
import Derived.Laws.OwnMore
import Derived.Test.YteeabfplnaknfaaGreatZMsgKinds1
import Derived.Test.YteeabfplnaknfaaGreatZMsgKinds2
section
set_option linter.unusedVariables false
namespace Go.Proofs.YteeabfplnaknfaaGreat.Nm
open Go.RowKit Go.Proofs.YteeabfplnaknfaaGreat.Mem
attribute [local go_sem] mk_at List.getElem_cons_zero List.getElem_cons_succ ext_tail ext_drop ext_mid ext_take

theorem Drawn.trans {a b c : World} (h : Drawn a b) (k : Drawn b c) : Drawn a c := by
  obtain ⟨n, rfl⟩ := h
  obtain ⟨m, rfl⟩ := k
  exact ⟨n + m, by simp [World.drewN_drewN]⟩

set_option maxHeartbeats 800000 in
theorem arelabels_any (l : L) (b : UInt8) (w : World) (hs : l.length ≤ 1000000000) : Calls Tryz.prog 144 #[.string ⟨l.toArray⟩, .string ⟨#[b]⟩] w fun e w' => e = .returned (.bool (areL b 4 l)) ∧ Drawn w w' := by
  have HS := Lib.hid hs; clear hs
  go_enter Tryz.func144, Tryz.ntmps144
  go_wp2
  go_loopw [0, 8] (fun sv iv wr => ∃ (k : Nat) (s : L), k ≤ 4 ∧ sv = .string ⟨s.toArray⟩ ∧ iv = .int .i64 (k : Int) ∧ areL b (4 - k) s = areL b 4 l ∧ s.length ≤ l.length ∧ Drawn w wr) (fun _ iv _ => 4 - (intOf iv).toNat)
  case atStart => exact ⟨0, l, by omega, rfl, rfl, rfl, Nat.le_refl _, Drawn.refl _⟩
  case round =>
    obtain ⟨k, s, hk, rfl, rfl, ha, hl, hd⟩ := hrel
    have HL := Lib.hid hl; clear hl
    have HD := Lib.hid hd; clear hd
    by_cases hlt : k < 4
    · have e1 : (k : Int) < 4 := by omega
      have hsl : s.length ≤ 1000000000 := Nat.le_trans HL.out HS.out
      have c1 := cut_one s b wr hsl
      have c2 := fun w1 => isword_cap (bef b s) w1 (by have := bef_len b s; omega)
      have C2 := Lib.hid c2; clear c2
      have ea : areL b (4 - k) s = (wordL capB (bef b s) && (if hasC b s then areL b (4 - (k + 1)) (aft b s) else true)) := by
        rw [show 4 - k = (4 - (k + 1)) + 1 by omega]; rfl
      rw [ea] at ha
      have hal : (aft b s).length ≤ l.length := by have := aft_len b s; have := HL.out; omega
      have HAL := Lib.hid hal; clear hal ea hsl
      cases hw : wordL capB (bef b s) with
      | false =>
        rw [hw, Bool.false_and] at ha
        have HA := Lib.hid ha; clear ha
        have HW := Lib.hid hw; clear hw
        go_wp2_with (first
          | (go_at_call 148; refine Calls.mono c1 ?_; rintro e w1 ⟨rfl, hd⟩; clear c1; have c2 := C2.out w1; rw [HW.out] at c2; have H1 := Lib.hid hd; clear hd)
          | (go_at_call 126; refine Calls.mono c2 ?_; rintro e w2 ⟨rfl, rfl⟩; clear c2))
        go_ret
        exact ⟨by rw [← HA.out]; rfl, HD.out.trans H1.out⟩
      | true =>
        rw [hw, Bool.true_and] at ha
        have HW := Lib.hid hw; clear hw
        cases hc : hasC b s with
        | false =>
          rw [hc, if_neg (by simp)] at ha
          rw [hc] at c1
          have HA := Lib.hid ha; clear ha
          have HC := Lib.hid hc; clear hc
          go_wp2_with (first
            | (go_at_call 148; refine Calls.mono c1 ?_; rintro e w1 ⟨rfl, hd⟩; clear c1; have c2 := C2.out w1; rw [HW.out] at c2; have H1 := Lib.hid hd; clear hd)
            | (go_at_call 126; refine Calls.mono c2 ?_; rintro e w2 ⟨rfl, rfl⟩; clear c2))
          go_ret
          exact ⟨by rw [← HA.out]; rfl, HD.out.trans H1.out⟩
        | true =>
          rw [hc, if_pos rfl] at ha
          rw [hc] at c1
          have HA := Lib.hid ha; clear ha
          have HC := Lib.hid hc; clear hc
          go_wp2_with (first
            | (go_at_call 148; refine Calls.mono c1 ?_; rintro e w1 ⟨rfl, hd⟩; clear c1; have c2 := C2.out w1; rw [HW.out] at c2; have H1 := Lib.hid hd; clear hd)
            | (go_at_call 126; refine Calls.mono c2 ?_; rintro e w2 ⟨rfl, rfl⟩; clear c2))
          go_roundw
          case rel => exact ⟨k + 1, aft b s, by omega, rfl, by go_num, HA.out, HAL.out, HD.out.trans H1.out⟩
          case measure => simp [intOf]; omega
    · have e1 : ¬ (k : Int) < 4 := by omega
      obtain rfl : k = 4 := by omega
      have HA := Lib.hid (show areL b 4 l = false by rw [← ha]; rfl); clear ha
      go_wp2
      go_ret
      exact ⟨by rw [HA.out]; rfl, HD.out⟩

theorem sl_pre (l : L) : slL l = (preL [47] l && labsL (split 47 (cpL [47] l))) := by
  cases l with
  | nil => rfl
  | cons x r =>
    rw [slL, cpL]
    by_cases h : x = 47
    · subst h
      have e : preL [47] (47 :: r) = true := by simp [preL]
      rw [e]; simp
    · have e : preL [47] (x :: r) = false := by
        cases q : preL [47] (x :: r) with
        | false => rfl
        | true => have := congrArg List.head? (pre_iff.1 q); simp at this; exact absurd this h
      rw [e]; simp [h]
theorem cp_len (p l : L) : (cpL p l).length ≤ l.length := by rw [cpL]; split <;> simp

set_option maxHeartbeats 800000 in
theorem kind_any (l : L) (w : World) (hs : l.length ≤ 1000000000) : Calls Tryz.prog 136 #[.string ⟨l.toArray⟩] w fun e w' => e = .returned (.int .i64 (kindL l : Int)) ∧ Drawn w w' := by
  have c1 := arelabels_any l 46 w hs
  rw [areL_labs] at c1
  have C2 := Lib.hid (fun w1 => cutprefix_any l [47] w1 hs (by decide))
  have c3 := fun w1 => arelabels_any (cpL [47] l) 47 w1 (by have := cp_len [47] l; omega)
  rw [areL_labs] at c3
  have C3 := Lib.hid c3; clear c3 hs
  have ek := kind_order l
  rw [sl_pre] at ek
  cases h1 : labsL (split 46 l) with
  | true =>
    rw [h1] at c1
    have E := Lib.hid (show kindL l = 1 by rw [ek, h1]; rfl); clear ek h1
    go_enter Tryz.func136, Tryz.ntmps136
    go_wp2_with (go_at_call 144; refine Calls.mono c1 ?_; rintro e w1 ⟨rfl, hd⟩; clear c1; have H1 := Lib.hid hd; clear hd)
    go_ret
    exact ⟨by rw [E.out]; rfl, H1.out⟩
  | false =>
    rw [h1] at c1
    rw [h1, if_neg (by simp)] at ek
    cases h2 : preL [47] l with
    | false =>
      have E := Lib.hid (show kindL l = 0 by rw [ek, h2]; rfl)
      have H2 := Lib.hid h2
      clear ek h1 h2
      go_enter Tryz.func136, Tryz.ntmps136
      go_wp2_with (first
        | (go_at_call 144; refine Calls.mono c1 ?_; rintro e w1 ⟨rfl, hd⟩; clear c1; have H1 := Lib.hid hd; clear hd; have c2 := C2.out w1; rw [H2.out] at c2)
        | (go_at_call 137; refine Calls.mono c2 ?_; rintro e w2 ⟨rfl, rfl⟩; clear c2))
      go_ret
      exact ⟨by rw [E.out]; rfl, H1.out⟩
    | true =>
      rw [h2, Bool.true_and] at ek
      have H2 := Lib.hid h2
      cases h3 : labsL (split 47 (cpL [47] l)) with
      | false =>
        have E := Lib.hid (show kindL l = 0 by rw [ek, h3]; rfl)
        have H3 := Lib.hid h3
        clear ek h1 h2 h3
        go_enter Tryz.func136, Tryz.ntmps136
        go_wp2_with (first
          | (go_at_call 144; refine Calls.mono c1 ?_; rintro e w1 ⟨rfl, hd⟩; clear c1; have H1 := Lib.hid hd; clear hd; have c2 := C2.out w1; rw [H2.out] at c2)
          | (go_at_call 137; refine Calls.mono c2 ?_; rintro e w2 ⟨rfl, rfl⟩; clear c2; have c4 := C3.out w1; rw [H3.out] at c4)
          | (go_at_call 144; refine Calls.mono c4 ?_; rintro e w3 ⟨rfl, hd⟩; clear c4; have H4 := Lib.hid hd; clear hd))
        go_ret
        exact ⟨by rw [E.out]; rfl, H1.out.trans H4.out⟩
      | true =>
        have E := Lib.hid (show kindL l = 2 by rw [ek, h3]; rfl)
        have H3 := Lib.hid h3
        clear ek h1 h2 h3
        go_enter Tryz.func136, Tryz.ntmps136
        go_wp2_with (first
          | (go_at_call 144; refine Calls.mono c1 ?_; rintro e w1 ⟨rfl, hd⟩; clear c1; have H1 := Lib.hid hd; clear hd; have c2 := C2.out w1; rw [H2.out] at c2)
          | (go_at_call 137; refine Calls.mono c2 ?_; rintro e w2 ⟨rfl, rfl⟩; clear c2; have c4 := C3.out w1; rw [H3.out] at c4)
          | (go_at_call 144; refine Calls.mono c4 ?_; rintro e w3 ⟨rfl, hd⟩; clear c4; have H4 := Lib.hid hd; clear hd))
        go_ret
        exact ⟨by rw [E.out]; rfl, H1.out.trans H4.out⟩

theorem is_any (l : L) (w : World) (hs : l.length ≤ 1000000000) : Calls Tryz.prog 124 #[.string ⟨l.toArray⟩] w fun e w' => e = .returned (.bool (isL l)) ∧ Drawn w w' := by
  have c1 := kind_any l w hs
  by_cases h : 1 ≤ kindL l
  · have E := Lib.hid (show isL l = true by simp [isL, h])
    have t : ((kindL l : Int) != 0) = true := by simp; omega
    clear h
    go_enter Tryz.func124, Tryz.ntmps124
    go_wp2_with (go_at_call 136; refine Calls.mono c1 ?_; rintro e w1 ⟨rfl, hd⟩; clear c1; have H1 := Lib.hid hd; clear hd)
    go_ret
    exact ⟨by rw [E.out]; rfl, H1.out⟩
  · have E := Lib.hid (show isL l = false by simp [isL]; omega)
    have e0 : kindL l = 0 := by omega
    rw [e0] at c1
    clear h e0
    go_enter Tryz.func124, Tryz.ntmps124
    go_wp2_with (go_at_call 136; refine Calls.mono c1 ?_; rintro e w1 ⟨rfl, hd⟩; clear c1; have H1 := Lib.hid hd; clear hd)
    go_ret
    exact ⟨by rw [E.out]; rfl, H1.out⟩
end Go.Proofs.YteeabfplnaknfaaGreat.Nm
end

section
set_option linter.unusedVariables false
namespace Go.Proofs.YteeabfplnaknfaaGreat.Nm
open Go.RowKit Go.Proofs.YteeabfplnaknfaaGreat.Mem

def st (l : L) : Value := .string ⟨l.toArray⟩
def strs (ls : List L) : List Value := ls.map st
theorem strs_length (ls : List L) : (strs ls).length = ls.length := by simp [strs]
theorem strs_append (ls ms : List L) : strs (ls ++ ms) = strs ls ++ strs ms := by simp [strs]
theorem strs_one (ls : List L) : ∀ u ∈ strs ls, u.oneCell' = true := by
  intro u hu
  obtain ⟨b, _, rfl⟩ := List.mem_map.1 hu
  rfl
theorem strs_at {ls : List L} {i : Nat} (h : i < ls.length) : (strs ls)[i]? = some (st (pl ls i)) := by
  rw [strs, List.getElem?_map, List.getElem?_eq_getElem h, pl_lt h]; rfl
theorem str_info : (Tryz.prog.info? 9).map (fun i => (i.zero, i.size, i.bytes)) = some (some (.string ⟨#[]⟩), 1, 16) := by kernel_rfl

def Own (w : World) (base : Nat) (v : Value) (ls : List L) : Prop := w.ownsRow base 9 1 v ls.length (strs ls)
theorem Own.nil (w : World) (base : Nat) : Own w base (.slice none 0 0) [] := World.ownsRow_nil w base _ 1
theorem Own.below {w w' : World} {base : Nat} {v : Value} {ls : List L} (h : Own w base v ls) (hb : Below w.heap.size w w') : Own w' base v ls := own_kept h hb
theorem Own.slice {w : World} {base : Nat} {v : Value} {ls : List L} (h : Own w base v ls) : ∃ A c, v = .slice A ls.length c ∧ Rd w w.heap.size A (strs ls) := by
  have h' := h
  rcases h.2 with ⟨h1, h2⟩ | ⟨g, cap, cur, h1, _⟩
  · have e : ls = [] := List.eq_nil_of_length_eq_zero h2
    subst e
    exact ⟨none, 0, h1, .inl rfl⟩
  · subst h1
    exact ⟨_, cap, rfl, Rd.of_own (n := ls.length) (cap := cap) h'⟩
theorem Own.lt {w : World} {base : Nat} {v : Value} {ls : List L} (h : Own w base v ls) : ∀ k, v.ownBlock = some k → base ≤ k ∧ k < w.heap.size := World.ownsRow.lt h
theorem rd_txt {w : World} {B : Nat} {A : Option Addr} {ls : List L} (h : Rd w B A (strs ls)) {i : Nat} (hi : i < ls.length) : ∃ b o, A = some ⟨b, o, none⟩ ∧ b < B ∧ w.cell? ⟨b, o + i, none⟩ = some (.string ⟨(pl ls i).toArray⟩) :=
  h.at_ (strs_at hi)

section
variable {w : World} {ops : Array Oper} {rest : List Oper} {o : Oper} {a : Act} {Q : Exit → Act → World → Prop}
theorem app_rd (hgd : o.guard = none) (s x : Operand) (ho : o.op = .call { callee := .builtin .append, args := #[s, x], argTypes := #[172, 172] })
    (base : Nat) (v : Value) (ls : List L) (hs : a.eval s = v) (hown : Own w base v ls) (B : Nat) (A : Option Addr) (c : Nat) (ms : List L) (hx : a.eval x = .slice A ms.length c) (hr : Rd w B A (strs ms))
    (hl : ls.length + ms.length ≤ 8000000000000) (hb : base ≤ w.heap.size)
    (h : ∀ v' w', Own w' base v' (ls ++ ms) → Below base w w' → wpList Tryz.prog ops Q rest (a.put o.dst v') w') : wpList Tryz.prog ops Q (o :: rest) a w := by
  obtain ⟨i0, hi0, hz0, hs0, hb0⟩ := info_parts str_info
  refine wpList_append_rd w hgd s x 172 ho base 9 i0 _ 16 Tryz.underlying172 hi0 hz0 hs0 hb0 rfl v ls.length (strs ls) hs hown B A ms.length c (strs ms) hx (strs_length _).symm hr (strs_one _) (by unfold maxLen; omega) (by omega) hb ?_
  intro v' w' h1 h2 _
  refine h v' w' (by rw [Own, List.length_append, strs_append]; exact h1) ?_
  exact (Below.refl _ _).grown h2 hb (fun k hk => (hown.lt k hk).1)
theorem app_one (hgd : o.guard = none) (s x : Operand) (ho : o.op = .call { callee := .builtin .append, args := #[s, x], argTypes := #[172, 172] })
    (base : Nat) (v : Value) (ls : List L) (hs : a.eval s = v) (hown : Own w base v ls) (r : L) (hx : a.eval x = .slice (some ⟨w.heap.size, 0, none⟩) 1 1)
    (hl : ls.length + 1 ≤ 8000000000000) (hb : base ≤ w.heap.size)
    (h : ∀ v' w', Own w' base v' (ls ++ [r]) → Below base w w' → wpList Tryz.prog ops Q rest (a.put o.dst v') w') : wpList Tryz.prog ops Q (o :: rest) a (w.alloc (.cells #[.string ⟨r.toArray⟩] 9)) := by
  refine app_rd hgd s x ho base v ls hs (hown.below ((Below.refl _ _).alloc (Nat.le_refl _) _)) (w.heap.size + 1) _ 1 [r] hx ?_ hl (by simp; omega) ?_
  · refine .inr ⟨w.heap.size, 0, rfl, by omega, fun i u hu => ?_⟩
    cases i with
    | zero =>
      simp only [strs, List.map_cons, List.map_nil, List.getElem?_cons_zero, Option.some.injEq] at hu
      subst hu
      exact (Blk.new w 9 _).cell 0
    | succ i => simp [strs] at hu
  · intro v' w' h1 h2
    exact h v' w' h1 (((Below.refl _ _).alloc hb _).trans h2)
end

theorem Own.drew {w : World} {base : Nat} {v : Value} {ls : List L} (h : Own w base v ls) : Own w.drew base v ls := h
end Go.Proofs.YteeabfplnaknfaaGreat.Nm
end

section
set_option linter.unusedVariables false
namespace Go.Proofs.YteeabfplnaknfaaGreat.Nm
open Go.RowKit Go.Proofs.YteeabfplnaknfaaGreat.Mem
attribute [local go_sem] mk_at List.getElem_cons_zero List.getElem_cons_succ ext_tail ext_drop ext_mid ext_take

def krb : L := [107, 114, 98, 116, 103, 116, 47]
def tgL (n : L) : Bool := preL krb n && isL (cpL krb n)
def tgR (n : L) : L := if tgL n then n.drop 7 else []
def princL (r n : L) : Bool := isL r && (tgL n || wordL wordB n)
set_option maxHeartbeats 800000 in
theorem target_any (n : L) (w : World) (hs : n.length ≤ 1000000000) : Calls Tryz.prog 125 #[.string ⟨n.toArray⟩] w fun e w' => e = .returned (.tuple #[.string ⟨(tgR n).toArray⟩, .bool (tgL n)]) ∧ Below w.heap.size w w' := by
  have c1 := cutprefix_any n krb w hs (by decide)
  have hcl := cp_len krb n
  have c2 := is_any (cpL krb n) w (by omega)
  have C3 := Lib.hid (fun w1 => clone_any (cpL krb n) w1 (by omega))
  have HB0 := Lib.hid (Below.refl w.heap.size w)
  cases h1 : preL krb n with
  | false =>
    have E1 := Lib.hid (show tgL n = false by rw [tgL, h1]; rfl)
    have E2 := Lib.hid (show tgR n = [] by rw [tgR, E1.out]; rfl)
    rw [h1] at c1
    clear h1 hs hcl c2
    go_enter Tryz.func125, Tryz.ntmps125
    go_wp2_with (go_at_call 137; refine Calls.mono c1 ?_; rintro e w1 ⟨rfl, rfl⟩; clear c1)
    go_ret2
    exact ⟨by rw [E1.out, E2.out]; rfl, HB0.out⟩
  | true =>
    cases h2 : isL (cpL krb n) with
    | false =>
      have E1 := Lib.hid (show tgL n = false by rw [tgL, h1, h2]; rfl)
      have E2 := Lib.hid (show tgR n = [] by rw [tgR, E1.out]; rfl)
      rw [h1] at c1
      rw [h2] at c2
      clear h1 h2 hs hcl
      go_enter Tryz.func125, Tryz.ntmps125
      go_wp2_with (first
        | (go_at_call 137; refine Calls.mono c1 ?_; rintro e w1 ⟨rfl, rfl⟩; clear c1)
        | (go_at_call 124; refine Calls.mono c2 ?_; rintro e w2 ⟨rfl, hd⟩; clear c2; have H2 := Lib.hid hd.below; clear hd))
      go_ret2
      exact ⟨by rw [E1.out, E2.out]; rfl, H2.out⟩
    | true =>
      have E1 := Lib.hid (show tgL n = true by rw [tgL, h1, h2]; rfl)
      have E2 := Lib.hid (show tgR n = cpL krb n by rw [tgR, E1.out, cpL, h1]; rfl)
      rw [h1] at c1
      rw [h2] at c2
      clear h1 h2 hs hcl
      go_enter Tryz.func125, Tryz.ntmps125
      go_wp2_with (first
        | (go_at_call 137; refine Calls.mono c1 ?_; rintro e w1 ⟨rfl, rfl⟩; clear c1)
        | (go_at_call 124; refine Calls.mono c2 ?_; rintro e w2 ⟨rfl, hd⟩; clear c2; have H2 := Lib.hid hd.below; clear hd; have c3 := C3.out w2)
        | (go_at_call 130; refine Calls.mono c3 ?_; rintro e w3 ⟨rfl, hb⟩; clear c3; have H3 := Lib.hid (H2.out.trans (hb.mono H2.out.size)); clear hb))
      go_ret2
      exact ⟨by rw [E1.out, E2.out]; rfl, H3.out⟩

set_option maxHeartbeats 800000 in
theorem isprinc_any (r n : L) (w : World) (hs : r.length ≤ 1000000000) (hs2 : n.length ≤ 1000000000) : Calls Tryz.prog 100 #[.agg #[.string ⟨r.toArray⟩, .string ⟨n.toArray⟩]] w fun e w' => e = .returned (.bool (princL r n)) ∧ Below w.heap.size w w' := by
  have c1 := is_any r (w.alloc (.cells #[.string ⟨r.toArray⟩, .string ⟨n.toArray⟩] 23)) hs
  have hk := Blk.new w 23 #[.string ⟨r.toArray⟩, .string ⟨n.toArray⟩]
  have hb0 := (Below.refl w.heap.size w).alloc (Nat.le_refl _) (.cells #[.string ⟨r.toArray⟩, .string ⟨n.toArray⟩] 23)
  have hsz : w.heap.size < (w.alloc (.cells #[.string ⟨r.toArray⟩, .string ⟨n.toArray⟩] 23)).heap.size := by simp
  obtain ⟨N, eN⟩ : ∃ N, N = w.heap.size := ⟨_, rfl⟩
  have C2 := Lib.hid (fun w1 => target_any n w1 hs2)
  have C3 := Lib.hid (fun w1 => isword_sd n w1 hs2)
  have E1 := Lib.hid (show princL r n = (isL r && (tgL n || wordL wordB n)) from rfl)
  rw [← eN] at hk hb0 hsz ⊢
  have EN := Lib.hid eN; clear eN
  have HK := Lib.hid hk; clear hk
  have HB0 := Lib.hid hb0; clear hb0
  have HSZ := Lib.hid hsz; clear hsz hs hs2
  cases h1 : isL r with
  | false =>
    rw [h1] at c1
    have E := Lib.hid (show princL r n = false by rw [E1.out, h1]; rfl)
    clear h1
    go_enter Tryz.func100, Tryz.ntmps100
    go_wp2_with (go_at_call 124; refine Calls.mono c1 ?_; rintro e w1 ⟨rfl, hd⟩; clear c1; have H1 := Lib.hid (HB0.out.trans (hd.below.mono (Nat.le_of_lt HSZ.out))); clear hd)
    go_ret
    exact ⟨by rw [E.out]; rfl, H1.out⟩
  | true =>
    rw [h1] at c1
    have C2' := Lib.hid (fun w1 => C2.out w1)
    cases h2 : tgL n with
    | true =>
      have E := Lib.hid (show princL r n = true by rw [E1.out, h1, h2]; rfl)
      have HT := Lib.hid h2
      clear h1 h2
      go_enter Tryz.func100, Tryz.ntmps100
      go_wp2_with (first
        | (go_at_call 124; refine Calls.mono c1 ?_; rintro e w1 ⟨rfl, hd⟩; clear c1; have H1 := Lib.hid (HB0.out.trans (hd.below.mono (Nat.le_of_lt HSZ.out))); have hk1 := (HK.out.below hd.below).cell 1; have hs1 : N < w1.heap.size := (by have := hd.below.size; have := HSZ.out; omega); have HS1 := Lib.hid hs1; rw [EN.out] at hk1; clear hd hs1; have c2 := C2.out w1; rw [HT.out] at c2)
        | (go_at_call 125; refine Calls.mono c2 ?_; rintro e w2 ⟨rfl, hb⟩; clear c2; have H2 := Lib.hid (H1.out.trans (hb.mono (Nat.le_of_lt HS1.out))); clear hb))
      go_ret
      exact ⟨by rw [E.out]; rfl, H2.out⟩
    | false =>
      have E := Lib.hid (show princL r n = wordL wordB n by rw [E1.out, h1, h2]; rfl)
      have HT := Lib.hid h2
      clear h1 h2
      go_enter Tryz.func100, Tryz.ntmps100
      go_wp2_with (first
        | (go_at_call 124; refine Calls.mono c1 ?_; rintro e w1 ⟨rfl, hd⟩; clear c1; have H1 := Lib.hid (HB0.out.trans (hd.below.mono (Nat.le_of_lt HSZ.out))); have hkk := HK.out.below hd.below; have HKK := Lib.hid hkk; have hk1 := hkk.cell 1; have hs1 : N < w1.heap.size := (by have := hd.below.size; have := HSZ.out; omega); have HS1 := Lib.hid hs1; rw [EN.out] at hk1; clear hd hs1 hkk; have c2 := C2.out w1; rw [HT.out] at c2)
        | (go_at_call 125; refine Calls.mono c2 ?_; rintro e w2 ⟨rfl, hb⟩; clear c2 hk1; have H2 := Lib.hid (H1.out.trans (hb.mono (Nat.le_of_lt HS1.out))); have hk2 := (HKK.out.below hb).cell 1; rw [EN.out] at hk2; clear hb; have c3 := C3.out w2)
        | (go_at_call 126; refine Calls.mono c3 ?_; rintro e w3 ⟨rfl, rfl⟩; clear c3))
      go_ret
      exact ⟨by rw [E.out]; rfl, H2.out⟩
end Go.Proofs.YteeabfplnaknfaaGreat.Nm
end

section
set_option linter.unusedVariables false
namespace Go.Proofs.YteeabfplnaknfaaGreat.Nm
open Go.RowKit Go.Proofs.YteeabfplnaknfaaGreat.Mem
theorem ext_rng (l : List UInt8) (f k : Nat) : (ByteArray.mk l.toArray).extract f k = ByteArray.mk ((l.drop f).take (k - f)).toArray := by
  rw [ByteArray.extract_mk]
attribute [local go_sem] mk_at List.getElem_cons_zero List.getElem_cons_succ ext_rng

def piece (l : L) (f k : Nat) : L := (l.drop f).take (k - f)
theorem piece_cut {l : L} {f k : Nat} (hf : f ≤ k) (hk : k < l.length) : l.drop f = piece l f k ++ l[k] :: l.drop (k + 1) := by
  have h1 : l.drop f = (l.drop f).take (k - f) ++ (l.drop f).drop (k - f) := (List.take_append_drop _ _).symm
  rw [List.drop_drop, show f + (k - f) = k by omega, List.drop_eq_getElem_cons hk] at h1
  exact h1
theorem piece_succ {l : L} {f k : Nat} (hf : f ≤ k) (hk : k < l.length) : piece l f (k + 1) = piece l f k ++ [l[k]] := by
  have h := piece_cut hf hk
  have hl : (piece l f k).length = k - f := by rw [piece, List.length_take, List.length_drop]; omega
  rw [piece, h, show k + 1 - f = (piece l f k).length + 1 by omega, List.take_append, List.take_of_length_le (by omega), Nat.add_sub_cancel_left]
  rfl
theorem piece_all {l : L} {f : Nat} : piece l f l.length = l.drop f := by rw [piece, List.take_of_length_le (by simp)]
theorem split_le (c : UInt8) (l : L) : (split c l).length ≤ l.length + 1 := by
  induction l with
  | nil => simp [split]
  | cons x r ih =>
    rw [split]; split
    · simp; omega
    · split <;> simp_all <;> omega

set_option maxHeartbeats 1600000 in
set_option maxRecDepth 100000 in
theorem split_any (l : L) (c : UInt8) (w : World) (hs : l.length ≤ 1000000000) : Calls Tryz.prog 142 #[.string ⟨l.toArray⟩, .int .u8 (c.toNat : Int)] w fun e w' => ∃ v, e = .returned v ∧ Own w' w.heap.size v (split c l) ∧ Below w.heap.size w w' := by
  obtain ⟨N, eN⟩ : ∃ N, N = w.heap.size := ⟨_, rfl⟩
  rw [← eN]
  have HB0 := Lib.hid (show Below N w w by exact Below.refl _ _)
  have EN := Lib.hid eN; clear eN
  have HNE0 := Lib.hid (show ∀ w1 : World, Below N w w1 → N ≤ w1.heap.size from fun w1 h => by have := h.size; have := EN.out; omega)
  go_enter Tryz.func142, Tryz.ntmps142
  go_wp2
  go_loopw [5, 6, 7] (fun vv fv iv wr => ∃ (f k : Nat) (ls : List L), f ≤ k ∧ k ≤ l.length ∧ fv = .int .i64 (f : Int) ∧ iv = .int .i64 (k : Int) ∧ Own wr N vv ls ∧ c ∉ piece l f k ∧ ls ++ split c (l.drop f) = split c l ∧ ls.length ≤ f ∧ Below N w wr) (fun _ _ iv _ => l.length - (intOf iv).toNat)
  case atStart => exact ⟨0, 0, [], Nat.le_refl _, Nat.zero_le _, rfl, rfl, Own.nil _ _, by simp [piece], by simp, by simp, HB0.out⟩
  case round =>
    obtain ⟨f, k, ls, hf, hk, rfl, rfl, ho, hc, hsp, hll, hb⟩ := hrel
    have HO := Lib.hid ho; clear ho
    have HB := Lib.hid hb; clear hb
    have HC := Lib.hid hc; clear hc
    have HSP := Lib.hid hsp; clear hsp
    by_cases hlt : k < l.length
    · have e1 : (k : Int) < (l.length : Int) := by omega
      have hpc := piece_cut hf hlt
      have hps := piece_succ hf hlt
      by_cases hx : l[k] = c
      · have t1 : ((l[k].toNat : Int) == (c.toNat : Int)) = true := by simp [hx]
        have hn : (ls ++ [piece l f k]) ++ split c (l.drop (k + 1)) = split c l := by
          rw [← HSP.out, hpc, hx, split_head HC.out]; simp
        have HN := Lib.hid hn; clear hn hpc hps hx
        have e2 : (f : Int) ≤ (k : Int) := by omega
        go_wp2_with (at_builtin; refine app_one rfl (.tmp 19) (.tmp 24) rfl N _ ls rfl HO.out (piece l f k) rfl (by omega) (HNE0.out _ HB.out) ?_; intro v' w3 ho3 hb3; have H3 := Lib.hid (HB.out.trans hb3); have HO3 := Lib.hid ho3; clear ho3 hb3)
        go_roundw
        case rel => exact ⟨k + 1, k + 1, _, Nat.le_refl _, by omega, by go_num, by go_num, HO3.out, by simp [piece], HN.out, by simp; omega, H3.out⟩
        case measure => simp [intOf]; omega
      · have t1 : ((l[k].toNat : Int) == (c.toNat : Int)) = false := by
          simp only [beq_eq_false_iff_ne, ne_eq]
          intro q
          exact hx (UInt8.toNat_inj.1 (by omega))
        have HC1 := Lib.hid (show c ∉ piece l f (k + 1) by
          rw [hps, List.mem_append, not_or]
          exact ⟨HC.out, by simpa using fun q : c = l[k] => hx q.symm⟩)
        clear hpc hps hx
        go_wp2
        go_roundw
        case rel => exact ⟨f, k + 1, ls, by omega, by omega, rfl, by go_num, HO.out, HC1.out, HSP.out, hll, HB.out⟩
        case measure => simp [intOf]; omega
    · obtain rfl : k = l.length := by omega
      have e1 : ¬ (l.length : Int) < (l.length : Int) := by omega
      have e2 : (f : Int) ≤ (l.length : Int) := by omega
      have hc := HC.out
      rw [piece_all] at hc
      have hn : ls ++ [piece l f l.length] = split c l := by rw [← HSP.out, split_none hc, piece_all]
      have HN := Lib.hid hn; clear hn hc
      go_wp2_with (at_builtin; refine app_one rfl (.tmp 28) (.tmp 32) rfl N _ ls rfl HO.out (piece l f l.length) rfl (by omega) (HNE0.out _ HB.out) ?_; intro v' w3 ho3 hb3; have H3 := Lib.hid (HB.out.trans hb3); have HO3 := Lib.hid ho3; clear ho3 hb3)
      go_ret
      exact ⟨_, rfl, by rw [← HN.out]; exact HO3.out, H3.out⟩
end Go.Proofs.YteeabfplnaknfaaGreat.Nm
end

section
set_option linter.unusedVariables false
namespace Go.Proofs.YteeabfplnaknfaaGreat.Nm
open Go.RowKit Go.Proofs.YteeabfplnaknfaaGreat.Mem
attribute [local go_sem] mk_at List.getElem_cons_zero List.getElem_cons_succ ext_rng

theorem labs_bad {ls : List L} {i : Nat} (hi : i < ls.length) (h : wordL capB (pl ls i) = false) : labsL ls = false := by
  cases e : labsL ls with
  | false => rfl
  | true =>
    have := ((labsL_iff ls).1 e).2.2
    rw [List.all_eq_true] at this
    have := this _ (pl_mem hi)
    rw [h] at this; cases this
theorem labs_all {ls : List L} (h : ∀ i, i < ls.length → wordL capB (pl ls i) = true) (h1 : 1 ≤ ls.length) : labsL ls = decide (ls.length ≤ 4) := by
  have ha : ls.all (wordL capB) = true := by
    rw [List.all_eq_true]
    intro x hx
    obtain ⟨i, hi, rfl⟩ := mem_pl hx
    exact h i hi
  rw [labsL, ha, decide_eq_true h1]; simp

set_option maxHeartbeats 3200000 in
set_option maxRecDepth 100000 in
theorem labels_some (ls : List L) (b o c : Nat) (w : World) (h1 : 1 ≤ ls.length) (hl : ls.length ≤ 8000000000000) (hs : ∀ i, i < ls.length → (pl ls i).length ≤ 1000000000)
    (hc : ∀ i, i < ls.length → w.cell? ⟨b, o + i, none⟩ = some (.string ⟨(pl ls i).toArray⟩)) :
    Calls Tryz.prog 141 #[.slice (some ⟨b, o, none⟩) ls.length c] w fun e w' => e = .returned (.bool (labsL ls)) ∧ w = w' := by
  obtain ⟨n, en⟩ : ∃ n, n = ls.length := ⟨_, rfl⟩
  rw [← en] at h1 hl hs hc ⊢
  have HS := Lib.hid hs; clear hs
  have HC := Lib.hid hc; clear hc
  have EN := Lib.hid en; clear en
  go_enter Tryz.func141, Tryz.ntmps141
  go_wp2
  go_loop [3] (fun iv => ∃ i : Nat, i ≤ n ∧ iv = .int .i64 (i : Int) ∧ ∀ j, j < i → wordL capB (pl ls j) = true) (fun iv => n - (intOf iv).toNat)
  case atStart => exact ⟨0, Nat.zero_le _, rfl, fun j h => absurd h (Nat.not_lt_zero j)⟩
  case round =>
    obtain ⟨i, hi, rfl, hw⟩ := hrel
    have HW := Lib.hid hw; clear hw
    by_cases hlt : i < n
    · have e1 : (i : Int) < (n : Int) := by omega
      have hc := HC.out i hlt
      have hsz := HS.out i hlt
      obtain ⟨l, el⟩ : ∃ l, l = pl ls i := ⟨_, rfl⟩
      rw [← el] at hc hsz
      have EL := Lib.hid el; clear el
      by_cases g1 : l.length < 1
      · have t1 : decide ((l.length : Int) < 1) = true := by simp; omega
        have E := Lib.hid (labs_bad (by rw [← EN.out]; exact hlt) (by rw [← EL.out]; exact word_short g1))
        clear g1
        go_wp2
        go_ret
        exact ⟨by rw [E.out]; rfl, rfl⟩
      · have t1 : decide ((l.length : Int) < 1) = false := by simp; omega
        by_cases g2 : 8 < l.length
        · have t2 : decide (8 < (l.length : Int)) = true := by simp; omega
          have E := Lib.hid (labs_bad (by rw [← EN.out]; exact hlt) (by rw [← EL.out]; exact word_long g2))
          clear g1 g2
          go_wp2
          go_ret
          exact ⟨by rw [E.out]; rfl, rfl⟩
        · have t2 : decide (8 < (l.length : Int)) = false := by simp; omega
          have HA := Lib.hid (fun h => word_all (p := capB) (l := l) h (by omega) (by omega))
          clear g1 g2
          go_wp2
          go_loop [4] (fun kv => ∃ k : Nat, k ≤ l.length ∧ kv = .int .i64 (k : Int) ∧ Fit capB l k) (fun kv => l.length - (intOf kv).toNat)
          case atStart => exact ⟨0, Nat.zero_le _, rfl, fun i _ h => by omega⟩
          case round =>
            obtain ⟨k, hk, rfl, hf⟩ := hrel
            have HF := Lib.hid hf; clear hf
            by_cases hkl : k < l.length
            · have e2 : (k : Int) < (l.length : Int) := by omega
              have hb := u8_le l[k]
              by_cases q1 : l[k].toNat < 65
              · have s1 : decide ((l[k].toNat : Int) < 65) = true := by simp; omega
                have E := Lib.hid (labs_bad (ls := ls) (i := i) (by rw [← EN.out]; exact hlt) (by rw [← EL.out]; exact word_bad hkl (by simp [capB]; omega)))
                clear q1
                go_wp2
                go_ret
                exact ⟨by rw [E.out]; rfl, rfl⟩
              · have s1 : decide ((l[k].toNat : Int) < 65) = false := by simp; omega
                by_cases q2 : 90 < l[k].toNat
                · have s2 : decide (90 < (l[k].toNat : Int)) = true := by simp; omega
                  have E := Lib.hid (labs_bad (ls := ls) (i := i) (by rw [← EN.out]; exact hlt) (by rw [← EL.out]; exact word_bad hkl (by simp [capB]; omega)))
                  clear q1 q2
                  go_wp2
                  go_ret
                  exact ⟨by rw [E.out]; rfl, rfl⟩
                · have s2 : decide (90 < (l[k].toNat : Int)) = false := by simp; omega
                  have HP := Lib.hid (show capB l[k] = true by simp [capB]; omega)
                  clear q1 q2
                  go_wp2
                  go_round
                  case rel => exact ⟨k + 1, by omega, by go_num, fun i hi hik => by
                    by_cases q : i = k
                    · subst q; exact HP.out
                    · exact HF.out i hi (by omega)⟩
                  case measure => simp [intOf]; omega
            · have e2 : ¬ (k : Int) < (l.length : Int) := by omega
              have E := Lib.hid (HA.out (fun i hi => HF.out i hi (by omega)))
              go_wp2
              go_round
              case rel => exact ⟨i + 1, by omega, by go_num, fun j hj => by
                by_cases q : j = i
                · rw [q, ← EL.out]; exact E.out
                · exact HW.out j (by omega)⟩
              case measure => simp [intOf]; omega
    · obtain rfl : i = n := by omega
      have e1 : ¬ (i : Int) < (i : Int) := by omega
      have hE := labs_all (ls := ls) (fun j hj => HW.out j (by rw [EN.out]; exact hj)) (by rw [← EN.out]; exact h1)
      rw [← EN.out] at hE
      have E := Lib.hid hE; clear hE
      have t1 : decide ((1 : Int) ≤ (i : Int)) = true := by simp; omega
      by_cases g : i ≤ 4
      · have t2 : decide ((i : Int) ≤ 4) = true := by simp; omega
        have E2 := Lib.hid (decide_eq_true g)
        clear g
        go_wp2
        go_ret
        exact ⟨by rw [E.out, E2.out]; rfl, rfl⟩
      · have t2 : decide ((i : Int) ≤ 4) = false := by simp; omega
        have E2 := Lib.hid (decide_eq_false g)
        clear g
        go_wp2
        go_ret
        exact ⟨by rw [E.out, E2.out]; rfl, rfl⟩
theorem labels_any (ls : List L) (A : Option Addr) (c B : Nat) (w : World) (h1 : 1 ≤ ls.length) (hl : ls.length ≤ 8000000000000) (hs : ∀ i, i < ls.length → (pl ls i).length ≤ 1000000000) (hr : Rd w B A (strs ls)) :
    Calls Tryz.prog 141 #[.slice A ls.length c] w fun e w' => e = .returned (.bool (labsL ls)) ∧ w = w' := by
  obtain ⟨b, o, rfl, _, _⟩ := rd_txt hr (i := 0) h1
  refine labels_some ls b o c w h1 hl hs fun i hi => ?_
  obtain ⟨b', o', e, _, hc⟩ := rd_txt hr hi
  injection e with e
  injection e with e1 e2
  subst e1; subst e2
  exact hc
end Go.Proofs.YteeabfplnaknfaaGreat.Nm
end

section
set_option linter.unusedVariables false
namespace Go.Proofs.YteeabfplnaknfaaGreat.Nm
open Go.RowKit Go.Proofs.YteeabfplnaknfaaGreat.Mem
attribute [local go_sem] mk_at List.getElem_cons_zero List.getElem_cons_succ ext_tail ext_drop ext_take

theorem split_mem (c : UInt8) (l : L) : ∀ x, x ∈ split c l → x.length ≤ l.length := by
  induction l with
  | nil => intro x hx; simp [split] at hx; simp [hx]
  | cons a r ih =>
    intro x hx
    rw [split] at hx
    split at hx
    · rcases List.mem_cons.1 hx with rfl | h
      · simp
      · have := ih x h; simp; omega
    · cases hs : split c r with
      | nil => rw [hs] at hx; simp at hx; subst hx; simp
      | cons u t =>
        rw [hs] at hx ih
        rcases List.mem_cons.1 hx with rfl | h
        · have := ih u List.mem_cons_self; simp; omega
        · have := ih x (List.mem_cons_of_mem _ h); simp; omega
theorem slab_any (l : L) (c : UInt8) (w' : World) (base : Nat) (v : Value) (hs : l.length ≤ 1000000000) (ho : Own w' base v (split c l)) :
    ∃ A n cap, v = .slice A n cap ∧ ∀ w1, Below w'.heap.size w' w1 → Calls Tryz.prog 141 #[.slice A n cap] w1 fun e w2 => e = .returned (.bool (labsL (split c l))) ∧ w1 = w2 := by
  obtain ⟨A, cap, rfl, hr⟩ := ho.slice
  refine ⟨A, _, cap, rfl, fun w1 hb => ?_⟩
  exact labels_any (split c l) A cap w'.heap.size w1 (split_len c l) (by have := split_le c l; omega) (fun i hi => by have := split_mem c l _ (pl_mem hi); omega) (hr.below hb)

set_option maxHeartbeats 1600000 in
set_option maxRecDepth 100000 in
theorem rkind_any (l : L) (w : World) (hs : l.length ≤ 1000000000) : Calls Tryz.prog 133 #[.string ⟨l.toArray⟩] w fun e w' => e = .returned (.int .i64 (kindL l : Int)) ∧ Below w.heap.size w w' := by
  have C2 := Lib.hid (fun w1 => split_any l 46 w1 hs)
  have S2 := Lib.hid (fun w' base v ho => slab_any l 46 w' base v hs ho)
  have HB0 := Lib.hid (Below.refl w.heap.size w)
  cases l with
  | nil =>
    have E := Lib.hid kind_nil
    have c2 := C2.out w
    have EL := Lib.hid (show labsL (split 46 []) = false by decide)
    clear hs
    go_enter Tryz.func133, Tryz.ntmps133
    go_wp2_with (first
      | (go_at_call 142; refine Calls.mono c2 ?_; rintro e w1 ⟨v, rfl, ho, hb⟩; clear c2; obtain ⟨A, n, cap, rfl, hc⟩ := S2.out w1 _ v ho; have c3 := hc w1 (Below.refl _ _); rw [EL.out] at c3; have H1 := Lib.hid hb; clear hb ho hc)
      | (go_at_call 141; refine Calls.mono c3 ?_; rintro e w2 ⟨rfl, rfl⟩; clear c3))
    go_ret
    exact ⟨by rw [E.out]; rfl, H1.out⟩
  | cons x r =>
    have e0 : (0 : Int) < (r.length : Int) + 1 := by omega
    have hs' : r.length ≤ 1000000000 := by simp at hs; omega
    have ek : kindL (x :: r) = if slL (x :: r) then 2 else if labsL (split 46 (x :: r)) then 1 else 0 := rfl
    by_cases hx : x = 47
    · subst hx
      have esl : slL (47 :: r) = labsL (split 47 r) := by simp [slL]
      rw [esl] at ek
      have c1 := split_any r 47 w hs'
      have S1 := Lib.hid (fun w' base v ho => slab_any r 47 w' base v hs' ho)
      cases h1 : labsL (split 47 r) with
      | true =>
        have E := Lib.hid (show kindL (47 :: r) = 2 by rw [ek, h1]; rfl)
        have H := Lib.hid h1
        clear ek esl h1 hs hs'
        go_enter Tryz.func133, Tryz.ntmps133
        go_wp2_with (first
          | (go_at_call 142; refine Calls.mono c1 ?_; rintro e w1 ⟨v, rfl, ho, hb⟩; clear c1; obtain ⟨A, n, cap, rfl, hc⟩ := S1.out w1 _ v ho; have c3 := hc w1 (Below.refl _ _); rw [H.out] at c3; have H1 := Lib.hid hb; clear hb ho hc)
          | (go_at_call 141; refine Calls.mono c3 ?_; rintro e w2 ⟨rfl, rfl⟩; clear c3))
        go_ret
        exact ⟨by rw [E.out]; rfl, H1.out⟩
      | false =>
        rw [h1, if_neg (by simp)] at ek
        have H := Lib.hid h1
        have hd : labsL (split 46 (47 :: r)) = false := by
          cases q : labsL (split 46 (47 :: r)) with
          | false => rfl
          | true => exact absurd rfl (dom_head q)
        have HD := Lib.hid hd
        have E := Lib.hid (show kindL (47 :: r) = 0 by rw [ek, hd]; rfl)
        clear ek esl h1 hd hs hs'
        go_enter Tryz.func133, Tryz.ntmps133
        go_wp2_with (first
          | (go_at_call 142; refine Calls.mono c1 ?_; rintro e w1 ⟨v, rfl, ho, hb⟩; clear c1; obtain ⟨A, n, cap, rfl, hc⟩ := S1.out w1 _ v ho; have c3 := hc w1 (Below.refl _ _); rw [H.out] at c3; have H1 := Lib.hid hb; clear hb ho hc; have c2 := C2.out w1)
          | (go_at_call 141; refine Calls.mono c3 ?_; rintro e w2 ⟨rfl, rfl⟩; clear c3)
          | (go_at_call 142; refine Calls.mono c2 ?_; rintro e w4 ⟨v4, rfl, ho, hb⟩; clear c2; obtain ⟨A4, n4, cap4, rfl, hc⟩ := S2.out w4 _ v4 ho; have c5 := hc w4 (Below.refl _ _); rw [HD.out] at c5; have H4 := Lib.hid (H1.out.trans (hb.mono H1.out.size)); clear hb ho hc)
          | (go_at_call 141; refine Calls.mono c5 ?_; rintro e w6 ⟨rfl, rfl⟩; clear c5))
        go_ret
        exact ⟨by rw [E.out]; rfl, H4.out⟩
    · have t1 : ((x.toNat : Int) == 47) = false := by
        simp only [beq_eq_false_iff_ne, ne_eq]
        intro q
        exact hx (UInt8.toNat_inj.1 (by have : (47 : UInt8).toNat = 47 := rfl; omega))
      have esl : slL (x :: r) = false := by simp [slL, hx]
      rw [esl, if_neg (by simp)] at ek
      have c2 := C2.out w
      cases h1 : labsL (split 46 (x :: r)) with
      | true =>
        have E := Lib.hid (show kindL (x :: r) = 1 by rw [ek, h1]; rfl)
        have H := Lib.hid h1
        clear ek esl h1 hs hs' hx
        go_enter Tryz.func133, Tryz.ntmps133
        go_wp2_with (first
          | (go_at_call 142; refine Calls.mono c2 ?_; rintro e w1 ⟨v, rfl, ho, hb⟩; clear c2; obtain ⟨A, n, cap, rfl, hc⟩ := S2.out w1 _ v ho; have c3 := hc w1 (Below.refl _ _); rw [H.out] at c3; have H1 := Lib.hid hb; clear hb ho hc)
          | (go_at_call 141; refine Calls.mono c3 ?_; rintro e w2 ⟨rfl, rfl⟩; clear c3))
        go_ret
        exact ⟨by rw [E.out]; rfl, H1.out⟩
      | false =>
        have E := Lib.hid (show kindL (x :: r) = 0 by rw [ek, h1]; rfl)
        have H := Lib.hid h1
        clear ek esl h1 hs hs' hx
        go_enter Tryz.func133, Tryz.ntmps133
        go_wp2_with (first
          | (go_at_call 142; refine Calls.mono c2 ?_; rintro e w1 ⟨v, rfl, ho, hb⟩; clear c2; obtain ⟨A, n, cap, rfl, hc⟩ := S2.out w1 _ v ho; have c3 := hc w1 (Below.refl _ _); rw [H.out] at c3; have H1 := Lib.hid hb; clear hb ho hc)
          | (go_at_call 141; refine Calls.mono c3 ?_; rintro e w2 ⟨rfl, rfl⟩; clear c3))
        go_ret
        exact ⟨by rw [E.out]; rfl, H1.out⟩

set_option maxHeartbeats 400000 in
theorem ris_any (l : L) (w : World) (hs : l.length ≤ 1000000000) : Calls Tryz.prog 113 #[.string ⟨l.toArray⟩] w fun e w' => e = .returned (.bool (isL l)) ∧ Below w.heap.size w w' := by
  have c1 := rkind_any l w hs
  by_cases h : 1 ≤ kindL l
  · have E := Lib.hid (show isL l = true by simp [isL, h])
    have t : decide (0 < kindL l) = true := by simp; omega
    clear h
    go_enter Tryz.func113, Tryz.ntmps113
    go_wp2_with (go_at_call 133; refine Calls.mono c1 ?_; rintro e w1 ⟨rfl, hd⟩; clear c1; have H1 := Lib.hid hd; clear hd)
    go_ret
    exact ⟨by rw [E.out]; rfl, H1.out⟩
  · have E := Lib.hid (show isL l = false by simp [isL]; omega)
    have e0 : kindL l = 0 := by omega
    rw [e0] at c1
    clear h e0
    go_enter Tryz.func113, Tryz.ntmps113
    go_wp2_with (go_at_call 133; refine Calls.mono c1 ?_; rintro e w1 ⟨rfl, hd⟩; clear c1; have H1 := Lib.hid hd; clear hd)
    go_ret
    exact ⟨by rw [E.out]; rfl, H1.out⟩

end Go.Proofs.YteeabfplnaknfaaGreat.Nm
end

section
set_option linter.unusedVariables false
namespace Go.Proofs.YteeabfplnaknfaaGreat.Nm
open Go.RowKit Go.Proofs.YteeabfplnaknfaaGreat.Mem
attribute [local go_sem] mk_at List.getElem_cons_zero List.getElem_cons_succ ext_tail ext_drop ext_take

theorem tg_short {n : L} (h : n.length < 8) : tgL n = false := by
  cases q : preL krb n with
  | false => rw [tgL, q]; rfl
  | true =>
    have h1 : n.drop 7 = [] := List.drop_of_length_le (by omega)
    have h2 : cpL krb n = [] := by rw [cpL, q, if_pos rfl]; exact h1
    rw [tgL, h2, show isL [] = false from by decide, Bool.and_false]
theorem tg_eq (n : L) : tgL n = ((n.take 7 == krb) && isL (n.drop 7)) := by
  have e := pre_take krb n
  rw [show krb.length = 7 from rfl] at e
  rw [tgL, e]
  cases q : preL krb n with
  | false => rfl
  | true => rw [cpL, q]; rfl

set_option maxHeartbeats 800000 in
theorem rtarget_any (n : L) (w : World) (hs : n.length ≤ 1000000000) : Calls Tryz.prog 114 #[.string ⟨n.toArray⟩] w fun e w' => e = .returned (.tuple #[.string ⟨(tgR n).toArray⟩, .bool (tgL n)]) ∧ Below w.heap.size w w' := by
  have c2 := ris_any (n.drop 7) w (by simp; omega)
  have HB0 := Lib.hid (Below.refl w.heap.size w)
  by_cases h8 : n.length < 8
  · have E1 := Lib.hid (tg_short h8)
    have E2 := Lib.hid (show tgR n = [] by rw [tgR, E1.out]; rfl)
    have t1 : decide ((n.length : Int) < 8) = true := by simp; omega
    clear h8 hs
    go_enter Tryz.func114, Tryz.ntmps114
    go_wp2_with fail
    go_ret2
    exact ⟨by rw [E1.out, E2.out]; rfl, HB0.out⟩
  · have t1 : decide ((n.length : Int) < 8) = false := by simp; omega
    have e7 : (7 : Int) ≤ (n.length : Int) := by omega
    have eq := tg_eq n
    clear h8
    cases h1 : (n.take 7 == krb) with
    | false =>
      rw [h1] at eq
      have t2 : (n.take 7 == [107, 114, 98, 116, 103, 116, 47]) = false := h1
      have E1 := Lib.hid (show tgL n = false from eq)
      have E2 := Lib.hid (show tgR n = [] by rw [tgR, E1.out]; rfl)
      clear eq h1 hs
      go_enter Tryz.func114, Tryz.ntmps114
      go_wp2_with fail
      go_ret2
      exact ⟨by rw [E1.out, E2.out]; rfl, HB0.out⟩
    | true =>
      rw [h1, Bool.true_and] at eq
      have t2 : (n.take 7 == [107, 114, 98, 116, 103, 116, 47]) = true := h1
      clear h1 hs
      cases h2 : isL (n.drop 7) with
      | false =>
        rw [h2] at c2 eq
        have E1 := Lib.hid eq
        have E2 := Lib.hid (show tgR n = [] by rw [tgR, E1.out]; rfl)
        clear eq h2
        go_enter Tryz.func114, Tryz.ntmps114
        go_wp2_with (go_at_call 113; refine Calls.mono c2 ?_; rintro e w2 ⟨rfl, hd⟩; clear c2; have H2 := Lib.hid hd; clear hd)
        go_ret2
        exact ⟨by rw [E1.out, E2.out]; rfl, H2.out⟩
      | true =>
        rw [h2] at c2 eq
        have E1 := Lib.hid eq
        have E2 := Lib.hid (show tgR n = n.drop 7 by rw [tgR, E1.out]; rfl)
        clear eq h2
        go_enter Tryz.func114, Tryz.ntmps114
        go_wp2_with (go_at_call 113; refine Calls.mono c2 ?_; rintro e w2 ⟨rfl, hd⟩; clear c2; have H2 := Lib.hid hd; clear hd)
        go_ret2
        exact ⟨by rw [E1.out, E2.out]; rfl, H2.out⟩

theorem word_fit {p : UInt8 → Bool} {l : L} (h : ∀ i (h : i < l.length), p l[i] = true) : wordL p l = (decide (1 ≤ l.length) && decide (l.length ≤ 8)) := by
  have ha : l.all p = true := by
    rw [List.all_eq_true]
    intro x hx
    obtain ⟨i, hi, rfl⟩ := List.getElem_of_mem hx
    exact h i hi
  rw [wordL, ha, Bool.and_true]
set_option maxHeartbeats 1600000 in
set_option maxRecDepth 100000 in
theorem risprinc_any (r n : L) (w : World) (hs : r.length ≤ 1000000000) (hs2 : n.length ≤ 1000000000) : Calls Tryz.prog 69 #[.agg #[.string ⟨r.toArray⟩, .string ⟨n.toArray⟩]] w fun e w' => e = .returned (.bool (princL r n)) ∧ Below w.heap.size w w' := by
  have c1 := ris_any r (w.alloc (.cells #[.string ⟨r.toArray⟩, .string ⟨n.toArray⟩] 23)) hs
  have hk := Blk.new w 23 #[.string ⟨r.toArray⟩, .string ⟨n.toArray⟩]
  have hb0 := (Below.refl w.heap.size w).alloc (Nat.le_refl _) (.cells #[.string ⟨r.toArray⟩, .string ⟨n.toArray⟩] 23)
  have hsz : w.heap.size < (w.alloc (.cells #[.string ⟨r.toArray⟩, .string ⟨n.toArray⟩] 23)).heap.size := by simp
  obtain ⟨N, eN⟩ : ∃ N, N = w.heap.size := ⟨_, rfl⟩
  have C2 := Lib.hid (fun w1 => rtarget_any n w1 hs2)
  have E1 := Lib.hid (show princL r n = (isL r && (tgL n || wordL wordB n)) from rfl)
  rw [← eN] at hk hb0 hsz ⊢
  have EN := Lib.hid eN; clear eN
  have HK := Lib.hid hk; clear hk
  have HB0 := Lib.hid hb0; clear hb0
  have HSZ := Lib.hid hsz; clear hsz hs
  cases h1 : isL r with
  | false =>
    rw [h1] at c1
    have E := Lib.hid (show princL r n = false by rw [E1.out, h1]; rfl)
    clear h1
    go_enter Tryz.func69, Tryz.ntmps69
    go_wp2_with (go_at_call 113; refine Calls.mono c1 ?_; rintro e w1 ⟨rfl, hd⟩; clear c1; have H1 := Lib.hid (HB0.out.trans (hd.mono (Nat.le_of_lt HSZ.out))); clear hd)
    go_ret
    exact ⟨by rw [E.out]; rfl, H1.out⟩
  | true =>
    rw [h1] at c1
    cases h2 : tgL n with
    | true =>
      have E := Lib.hid (show princL r n = true by rw [E1.out, h1, h2]; rfl)
      have HT := Lib.hid h2
      clear h1 h2
      go_enter Tryz.func69, Tryz.ntmps69
      go_wp2_with (first
        | (go_at_call 113; refine Calls.mono c1 ?_; rintro e w1 ⟨rfl, hd⟩; clear c1; have H1 := Lib.hid (HB0.out.trans (hd.mono (Nat.le_of_lt HSZ.out))); have hkk := HK.out.below hd; have HKK := Lib.hid hkk; have hk1 := hkk.cell 1; have hs1 : N < w1.heap.size := (by have := hd.size; have := HSZ.out; omega); have HS1 := Lib.hid hs1; rw [EN.out] at hk1; clear hd hs1 hkk; have c2 := C2.out w1; rw [HT.out] at c2)
        | (go_at_call 114; refine Calls.mono c2 ?_; rintro e w2 ⟨rfl, hb⟩; clear c2 hk1; have H2 := Lib.hid (H1.out.trans (hb.mono (Nat.le_of_lt HS1.out))); have hk2 := (HKK.out.below hb).cell 1; rw [EN.out] at hk2; clear hb))
      go_ret
      exact ⟨by rw [E.out]; rfl, H2.out⟩
    | false =>
      have E := Lib.hid (show princL r n = wordL wordB n by rw [E1.out, h1, h2]; rfl)
      have HT := Lib.hid h2
      clear h1 h2
      go_enter Tryz.func69, Tryz.ntmps69
      go_wp2_with (first
        | (go_at_call 113; refine Calls.mono c1 ?_; rintro e w1 ⟨rfl, hd⟩; clear c1; have H1 := Lib.hid (HB0.out.trans (hd.mono (Nat.le_of_lt HSZ.out))); have hkk := HK.out.below hd; have HKK := Lib.hid hkk; have hk1 := hkk.cell 1; have hs1 : N < w1.heap.size := (by have := hd.size; have := HSZ.out; omega); have HS1 := Lib.hid hs1; rw [EN.out] at hk1; clear hd hs1 hkk; have c2 := C2.out w1; rw [HT.out] at c2)
        | (go_at_call 114; refine Calls.mono c2 ?_; rintro e w2 ⟨rfl, hb⟩; clear c2 hk1; have H2 := Lib.hid (H1.out.trans (hb.mono (Nat.le_of_lt HS1.out))); have hk2 := (HKK.out.below hb).cell 1; rw [EN.out] at hk2; clear hb))
      go_loop [5] (fun iv => ∃ k : Nat, k ≤ n.length ∧ iv = .int .i64 (k : Int) ∧ Fit wordB n k) (fun iv => n.length - (intOf iv).toNat)
      case atStart => exact ⟨0, Nat.zero_le _, rfl, fun i _ h => by omega⟩
      case round =>
        obtain ⟨k, hk, rfl, hf⟩ := hrel
        have HF := Lib.hid hf; clear hf
        by_cases hlt : k < n.length
        · have e1 : (k : Int) < (n.length : Int) := by omega
          have hb := u8_le n[k]
          have hbad : wordB n[k] = false → Hid (princL r n = false) := fun h => Lib.hid (by rw [E.out]; exact word_bad hlt h)
          have HBAD := Lib.hid hbad; clear hbad
          have hgood : wordB n[k] = true → Hid (Fit wordB n (k + 1)) := fun h => Lib.hid (fun i hi hik => by
            by_cases q : i = k
            · subst q; exact h
            · exact HF.out i hi (by omega))
          have HGOOD := Lib.hid hgood; clear hgood
          by_cases q1 : n[k].toNat < 97
          · have s1 : decide ((n[k].toNat : Int) < 97) = true := by simp; omega
            by_cases q2 : n[k].toNat < 48
            · have s2 : decide ((n[k].toNat : Int) < 48) = true := by simp; omega
              have E2 := HBAD.out (by simp [wordB, smallB]; omega)
              clear q1 q2
              go_wp2
              go_ret
              exact ⟨by rw [E2.out]; rfl, H2.out⟩
            · have s2 : decide ((n[k].toNat : Int) < 48) = false := by simp; omega
              by_cases q3 : 57 < n[k].toNat
              · have s3 : decide (57 < (n[k].toNat : Int)) = true := by simp; omega
                have E2 := HBAD.out (by simp [wordB, smallB]; omega)
                clear q1 q2 q3
                go_wp2
                go_ret
                exact ⟨by rw [E2.out]; rfl, H2.out⟩
              · have s3 : decide (57 < (n[k].toNat : Int)) = false := by simp; omega
                have E2 := HGOOD.out (by simp [wordB, smallB]; omega)
                clear q1 q2 q3
                go_wp2
                go_round
                case rel => exact ⟨k + 1, by omega, by go_num, E2.out⟩
                case measure => simp [intOf]; omega
          · have s1 : decide ((n[k].toNat : Int) < 97) = false := by simp; omega
            by_cases q2 : 122 < n[k].toNat
            · have s2 : decide (122 < (n[k].toNat : Int)) = true := by simp; omega
              have s3 : decide ((n[k].toNat : Int) < 48) = false := by simp; omega
              have s4 : decide (57 < (n[k].toNat : Int)) = true := by simp; omega
              have E2 := HBAD.out (by simp [wordB, smallB]; omega)
              clear q1 q2
              go_wp2
              go_ret
              exact ⟨by rw [E2.out]; rfl, H2.out⟩
            · have s2 : decide (122 < (n[k].toNat : Int)) = false := by simp; omega
              have E2 := HGOOD.out (by simp [wordB, smallB]; omega)
              clear q1 q2
              go_wp2
              go_round
              case rel => exact ⟨k + 1, by omega, by go_num, E2.out⟩
              case measure => simp [intOf]; omega
        · obtain rfl : k = n.length := by omega
          have e1 : ¬ (n.length : Int) < (n.length : Int) := by omega
          have E2 := Lib.hid (E.out.trans (word_fit (fun i hi => HF.out i hi hi)))
          by_cases g1 : 1 ≤ n.length
          · have t1 : decide ((1 : Int) ≤ (n.length : Int)) = true := by simp; omega
            by_cases g2 : n.length ≤ 8
            · have t2 : decide ((n.length : Int) ≤ 8) = true := by simp; omega
              have E3 := Lib.hid (E2.out.trans (show (decide (1 ≤ n.length) && decide (n.length ≤ 8)) = true by simp; omega))
              clear g1 g2
              go_wp2
              go_ret
              exact ⟨by rw [E3.out]; rfl, H2.out⟩
            · have t2 : decide ((n.length : Int) ≤ 8) = false := by simp; omega
              have E3 := Lib.hid (E2.out.trans (show (decide (1 ≤ n.length) && decide (n.length ≤ 8)) = false by simp; omega))
              clear g1 g2
              go_wp2
              go_ret
              exact ⟨by rw [E3.out]; rfl, H2.out⟩
          · have t1 : decide ((1 : Int) ≤ (n.length : Int)) = false := by simp; omega
            have E3 := Lib.hid (E2.out.trans (show (decide (1 ≤ n.length) && decide (n.length ≤ 8)) = false by simp; omega))
            clear g1
            go_wp2
            go_ret
            exact ⟨by rw [E3.out]; rfl, H2.out⟩
end Go.Proofs.YteeabfplnaknfaaGreat.Nm
end

section
namespace Go.Proofs.YteeabfplnaknfaaGreat.Tr
open Go.Proofs.YteeabfplnaknfaaGreat.Nm

theorem split_sum (c : UInt8) (l : L) : ((split c l).map fun p => p.length + 1).sum = l.length + 1 := by
  induction l with
  | nil => simp [split]
  | cons y r ih =>
    rw [split]
    by_cases e : y = c
    · rw [if_pos e]; simp [ih]; omega
    · rw [if_neg e]
      cases hs : split c r with
      | nil => exact absurd hs (split_ne c r)
      | cons a t =>
        rw [hs] at ih
        simp only [List.map_cons, List.sum_cons, List.length_cons] at ih ⊢
        omega
theorem sum_le {ls : List L} (h : ls.all (wordL capB) = true) : (ls.map fun p => p.length + 1).sum ≤ 9 * ls.length := by
  induction ls with
  | nil => simp
  | cons a t ih =>
    simp only [List.all_cons, Bool.and_eq_true] at h
    have h1 := ((wordL_iff _ _).1 h.1).2.1
    have := ih h.2
    simp only [List.map_cons, List.sum_cons, List.length_cons]
    omega
theorem labs_len {c : UInt8} {l : L} (h : labsL (split c l) = true) : l.length ≤ 35 := by
  have h1 := (labsL_iff _).1 h
  have h2 := sum_le h1.2.2
  have h3 := split_sum c l
  omega
theorem kind_two' {l : L} (h : kindL l = 2) : ∃ t, l = 47 :: t ∧ labsL (split 47 t) = true := by
  have h1 := kind_two h
  simp only [slL, Bool.and_eq_true, decide_eq_true_eq] at h1
  cases l with
  | nil => simp at h1
  | cons x t =>
    simp only [List.head?_cons, Option.some.injEq, List.tail_cons] at h1
    exact ⟨t, by rw [h1.1], h1.2⟩
theorem kind_cases {l : L} (h : kindL l ≠ 0) : kindL l = 1 ∨ kindL l = 2 := by have := kind_le l; omega
theorem real_len {l : L} (h : kindL l ≠ 0) : l.length ≤ 36 := by
  rcases kind_cases h with h | h
  · have := labs_len (kind_one h); omega
  · obtain ⟨t, rfl, ht⟩ := kind_two' h
    have := labs_len ht
    simp only [List.length_cons]; omega
end Go.Proofs.YteeabfplnaknfaaGreat.Tr
end
