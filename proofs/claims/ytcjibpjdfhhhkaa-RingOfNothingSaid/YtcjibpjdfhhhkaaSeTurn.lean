/-
  The code's turn: bytes under the stream.
-/
import Derived.Test.YtcjibpjdfhhhkaaSeWord
import Derived.StillTailTactics
set_option linter.unusedVariables false
namespace Go.Proofs.Ytcjibpjdfhhhkaa.Se
open Go.RowKit Go.Proofs.Ytcjibpjdfhhhkaa.Mem

/-- a Box's own blocks, and all that is new from n on -/
def Aw (b : Nat) (h : Option Nat) (n i : Nat) : Prop := Ow b h i ∨ n ≤ i
section
variable {w w' a c : World} {b g n : Nat} {h : Option Nat} {A : Option Addr} {xs : List Value} {S : Nat → Prop}
theorem RdA.aw (hr : RdA (Ow b h) w A xs) (hn : w.heap.size ≤ n) : RdA (Aw b h n) w A xs := hr.mono fun i hi hx => by
  rcases hx with hx | hx
  · exact hx
  · omega
theorem Step.aw (hs : Step w w' b h g) : Chg (Aw b h n) w w' := hs.1.mono fun i _ hx => .inl hx
theorem Step.aw_g (hs : Step w w' b h g) (hn : n ≤ w.heap.size) : Aw b h n g := by
  rcases hs.2 with h1 | ⟨_, h1⟩
  · exact .inl (.inr h1)
  · exact .inr (by omega)
theorem Chg.then (h : Chg S a w) (k : Chg S w c) : Chg S a c := h.trans k fun _ _ x => x
theorem RdA.go (h : RdA S w A xs) (hc : Chg S w w') : RdA S w' A xs := h.keep hc (fun _ _ x => x) (fun _ _ x => x)
theorem Chg.step (hc : Chg (Aw b h w.heap.size) w w') (hg : h = some g ∨ (h = none ∧ w.heap.size ≤ g)) : Step w w' b h g :=
  ⟨hc.mono fun i hi hx => by
    rcases hx with hx | hx
    · exact hx
    · omega, hg⟩
end

/-- the first i of the bytes are turned -/
def tl (ks : Nat → UInt8) (u n : Nat) (p : List UInt8) (i : Nat) : List UInt8 := (mixL ks u n p).take i ++ (strmL ks u n p.length).drop i
theorem tl_length (ks : Nat → UInt8) (u n : Nat) (p : List UInt8) (i : Nat) (h : i ≤ p.length) : (tl ks u n p i).length = p.length := by
  rw [tl, List.length_append, List.length_take, List.length_drop, mixL_length, strmL_length]; omega
theorem tl_at (ks : Nat → UInt8) (u n : Nat) (p : List UInt8) (i : Nat) (h : i < p.length) (h2 : i < (strmL ks u n p.length).length) : (bvs (tl ks u n p i)).toArray[i]? = some (bv (strmL ks u n p.length)[i]) := by
  rw [List.getElem?_toArray]
  unfold bvs tl
  rw [List.getElem?_map, List.getElem?_append_right (by rw [List.length_take, mixL_length]; omega), List.length_take, mixL_length, show i - min i p.length = 0 by omega, List.getElem?_drop, Nat.add_zero, List.getElem?_eq_getElem h2]; rfl
theorem tl_set (ks : Nat → UInt8) (u n : Nat) (p : List UInt8) (i : Nat) (h : i < p.length) (h2 : i < (strmL ks u n p.length).length) : (bvs (tl ks u n p i)).toArray.setIfInBounds i (bv (p[i] ^^^ (strmL ks u n p.length)[i])) = (bvs (tl ks u n p (i + 1))).toArray := by
  rw [List.setIfInBounds_toArray]
  congr 1
  unfold bvs
  rw [← List.map_set]
  congr 1
  have e : (mixL ks u n p).take (i + 1) = (mixL ks u n p).take i ++ [p[i] ^^^ (strmL ks u n p.length)[i]] := by
    rw [List.take_add_one, mixL_at ks u n p i h h2]; rfl
  have hl : ((mixL ks u n p).take i).length = i := by rw [List.length_take, mixL_length]; omega
  unfold tl
  rw [e, List.set_append_right _ _ (by omega), hl, Nat.sub_self, List.append_assoc, List.drop_eq_getElem_cons h2]
  rfl
theorem tl_all (ks : Nat → UInt8) (u n : Nat) (p : List UInt8) : tl ks u n p p.length = mixL ks u n p := by
  rw [tl, List.take_of_length_le (by rw [mixL_length]; exact Nat.le_refl _), List.drop_of_length_le (by rw [strmL_length]; exact Nat.le_refl _), List.append_nil]
theorem tl_none (ks : Nat → UInt8) (u n : Nat) (p : List UInt8) : tl ks u n p 0 = strmL ks u n p.length := by
  rw [tl, List.take_zero, List.drop_zero, List.nil_append]
theorem xor_b (x y : UInt8) : bits .xor .u8 (y.toNat : Int) (x.toNat : Int) = ((x ^^^ y).toNat : Int) := by
  rw [u8_xor_nat _ _ y.toNat_lt x.toNat_lt, UInt8.toNat_xor, Nat.xor_comm]
theorem sn_num (u n : Nat) (hu : u ≤ 255) : ((n : Int) * 256 % 18446744073709551616 + (u : Int)) % 18446744073709551616 = ((sn u n : Nat) : Int) := by unfold sn; omega

set_option maxRecDepth 100000 in
set_option maxHeartbeats 1600000 in
theorem turn_none (b : Nat) (ks : Nat → UInt8) (h : Option Nat) (a o r u n : Nat) (A : Option Addr) (c : Nat) (w : World) (hu : u ≤ 255) (hn : n < 18446744073709551616) (hK : Box w b ks h a o r) :
    Calls Try.prog 26 #[.pointer (some ⟨b, 0, none⟩), .int .i64 (u : Int), .int .u64 (n : Int), .slice A 0 c] w fun e w' => ∃ g, e = .returned (.slice none 0 0) ∧ Box w' b ks (some g) a o r ∧ Step w w' b h g := by
  have cn := need_any b ks h a o r w hK
  have hu0 : (0 : Int) ≤ (u : Int) := by omega
  clear hK
  have HU := Lib.hid hu; clear hu
  have HN := Lib.hid hn; clear hn
  go_enter Try.func26, Try.ntmps26
  go_wp2_with (first
    | (go_at_call 39; refine Calls.mono cn ?_; rintro e w1 ⟨rfl, g, hb1, hs1⟩; clear cn; have c35 := hb1.1.cp; have cst := (fun N => Sp.stream_nil (some ⟨g, 0, none⟩) N 0 w1 (.inr (by decide))); have HB1 := Lib.hid hb1; have HS1 := Lib.hid hs1; clear hb1 hs1)
    | (go_at_call 40; refine Calls.mono (cst _) ?_; rintro e w2 ⟨rfl, hw⟩; have hw := hw.symm; subst hw; clear cst c35))
  go_loopw [27] (fun iv wr => iv = .int .i64 0 ∧ wr = w1) (fun iv _ => 0)
  case atStart => exact ⟨rfl, rfl⟩
  case round =>
    obtain ⟨rfl, rfl⟩ := hrel
    go_wp2_with fail
    go_ret
    exact ⟨g, rfl, HB1.out, HS1.out⟩
theorem sn_wrap (u n : Nat) (hu : u ≤ 255) : IntKind.u64.wrap (IntKind.u64.wrap ((n : Int) * 256) + IntKind.u64.wrap (u : Int)) = ((sn u n : Nat) : Int) := by
  rw [IntKind.wrap_u64, IntKind.wrap_u64, IntKind.wrap_u64]; unfold sn; omega
theorem sn_lt (u n : Nat) : sn u n < 18446744073709551616 := Nat.mod_lt _ (by decide)
set_option maxRecDepth 100000 in
set_option maxHeartbeats 1600000 in
theorem turn_some (b : Nat) (ks : Nat → UInt8) (h : Option Nat) (a o r u n : Nat) (A : Option Addr) (m c : Nat) (p : List UInt8) (w : World) (hu : u ≤ 255) (hn : n < 18446744073709551616) (hm : m = p.length) (hm1 : 1 ≤ m) (hm2 : m ≤ 1000) (hr : RdA (Ow b h) w A (bvs p)) (hK : Box w b ks h a o r) :
    Calls Try.prog 26 #[.pointer (some ⟨b, 0, none⟩), .int .i64 (u : Int), .int .u64 (n : Int), .slice A m c] w fun e w' => ∃ g q, e = .returned (.slice (some ⟨q, 0, none⟩) m m) ∧ w.heap.size ≤ q ∧ q ≠ g ∧ Blk w' q 5 (bvs (mixL ks u n p)).toArray ∧ Box w' b ks (some g) a o r ∧ Step w w' b h g := by
  have cn := need_any b ks h a o r w hK
  obtain ⟨N, eN⟩ : ∃ N, N = sn u n := ⟨_, rfl⟩
  have hsn := sn_wrap u n hu
  have hsnlt := sn_lt u n
  rw [← eN] at hsn hsnlt
  have hstr : Sp.strm (Sp.kw ks) (Sp.upW N) (Sp.loW N) m = strmL ks u n m := by rw [eN]; rfl
  have hblt := hK.lt
  clear hK
  have HR := Lib.hid (hr.aw (Nat.le_refl _)); clear hr
  have HU := Lib.hid hu; clear hu
  have HN := Lib.hid hn; clear hn
  have HM := Lib.hid hm; clear hm
  have HM1 := Lib.hid hm1; clear hm1
  have HM2 := Lib.hid hm2; clear hm2
  have HSL := Lib.hid hsnlt; clear hsnlt
  have HST := Lib.hid hstr; clear hstr
  have HSN := Lib.hid hsn; clear hsn
  have BL := Lib.hid hblt; clear hblt
  clear eN
  go_enter Try.func26, Try.ntmps26
  go_wp2_with (first
    | (go_at_call 39; refine Calls.mono cn ?_; rintro e w1 ⟨rfl, g, hb1, hs1⟩; clear cn; have c35 := hb1.1.cp; obtain ⟨h11, h12, md, h13⟩ := hb1; have cst := Sp.stream_any g ks md N m (m : Int) w1 rfl HM1.out (by have := HM2.out; omega) HSL.out h13; rw [HST.out] at cst; have X1 := Lib.hid h11; have NE := Lib.hid h12; have GL := Lib.hid h13.lt; have HS1 := Lib.hid hs1; clear hs1 h11 h12 h13)
    | (go_at_call 40; rw [HSN.out]; refine Calls.mono cst ?_; rintro e w2 ⟨q, rfl, hq, hB, hk2, hg2, _⟩; clear cst c35; have HQ := Lib.hid hq; have HB := Lib.hid hB; have HK2 := Lib.hid hk2; have HG2 := Lib.hid hg2; clear hq hB hk2 hg2))
  have hsm : (strmL ks u n m).length = m := strmL_length ks u n m
  go_loopw [27] (fun iv wr => ∃ i : Nat, i ≤ m ∧ iv = .int .i64 (i : Int) ∧ Chg (fun k => w1.heap.size ≤ k) w2 wr ∧ Blk wr q 5 (bvs (tl ks u n p i)).toArray) (fun iv _ => m - (intOf iv).toNat)
  case atStart => exact ⟨0, Nat.zero_le _, rfl, Chg.refl _ _, by rw [tl_none, ← HM.out]; exact HB.out⟩
  case round =>
    obtain ⟨i, hi, rfl, hc, hB2⟩ := hrel
    have HC := Lib.hid hc; clear hc
    have HB2 := Lib.hid hB2; clear hB2
    have HSM := Lib.hid hsm; clear hsm
    have hall : Chg (Aw b h w.heap.size) w w1 ∧ Chg (Aw b h w.heap.size) w1 w2 ∧ Chg (Aw b h w.heap.size) w2 wr :=
      ⟨HS1.out.aw, Chg.of_grown HG2.out (HS1.out.aw_g (Nat.le_refl _)), HC.out.mono fun k _ hx => .inr (Nat.le_trans HS1.out.1.size hx)⟩
    by_cases hx : i = m
    · subst hx
      have HA := Lib.hid hall; clear hall
      go_wp2_with fail
      go_ret
      have hbl : b < w1.heap.size := X1.out.lt
      have hX2 : XB w2 b ks 1 0 (some ⟨g, 0, none⟩) (k2 ks) a o r := Blk.grown X1.out HG2.out (fun e => by injection e with e; exact NE.out e)
      have hgq : q ≠ g := by have := GL.out; have := HQ.out; omega
      refine ⟨g, q, rfl, Nat.le_trans HS1.out.1.size HQ.out, hgq, ?_, ⟨hX2.chg HC.out (by omega), NE.out, true, key_chg HK2.out HC.out (by have := GL.out; omega)⟩, ?_⟩
      · rw [← tl_all, ← HM.out]; exact HB2.out
      · exact ((HA.out.1.then HA.out.2.1).then HA.out.2.2).step HS1.out.2
    · have hlt : i < m := by omega
      have hlp : i < p.length := by have := HM.out; omega
      have e1 : (i : Int) < (m : Int) := by omega
      have e2 : (0 : Int) ≤ (i : Int) := by omega
      have e3 : (i : Int) < 1000 := by have := HM2.out; omega
      have hls : i < (strmL ks u n p.length).length := by rw [strmL_length]; exact hlp
      obtain ⟨y, ey⟩ : ∃ y, y = p[i] := ⟨_, rfl⟩
      obtain ⟨x, ex⟩ : ∃ x, x = (strmL ks u n p.length)[i] := ⟨_, rfl⟩
      obtain ⟨z, ez⟩ : ∃ z, z = y ^^^ x := ⟨_, rfl⟩
      have hrw := ((HR.out.go hall.1).go hall.2.1).go hall.2.2
      obtain ⟨b2, o2, rfl, hb2, _, hcell⟩ := hrw.resolve_left (by intro e; have := bvs_length p; rw [e] at this; simp at this; omega)
      have hcp := hcell i _ (bvs_at hlp)
      have hcq : wr.cell? ⟨q, i, none⟩ = some (bv (strmL ks u n p.length)[i]) := by rw [HB2.out.cell]; exact tl_at ks u n p i hlp hls
      have hset := tl_set ks u n p i hlp hls
      rw [← ey] at hcp hset
      rw [← ex] at hcq hset
      rw [← ez] at hset
      simp only [bv] at hcp hcq
      have hxo : bits .xor .u8 (x.toNat : Int) (y.toNat : Int) = (z.toNat : Int) := by rw [ez]; exact xor_b y x
      have fz := HB2.out.frozen
      have HSET := Lib.hid hset; clear hset
      have HX := Lib.hid hx; clear hx
      have HI := Lib.hid hi; clear hi
      clear ey ex ez hall hrw hcell hb2 hls
      go_wp2_with fail
      refine wp_region_still_tail 10 (by kernel_rfl) (by kernel_rfl) ?_
      simp only [List.take_succ_cons, List.take_zero, List.drop_succ_cons, List.drop_zero]
      change wpStill _ _ wr.drew _ _ _
      repeat still_step
      refine wpStill_nil ?_
      change wpList _ _ _ _ _ wr.drew
      go_wp2_with fail
      go_roundw
      case rel =>
        refine ⟨i + 1, by omega, by go_num, HC.out.drew.set (.inl HQ.out) _, ?_⟩
        have e : Blk wr.drew q 5 (bvs (tl ks u n p i)).toArray := HB2.out
        have := e.set i (bv z)
        rw [HSET.out] at this
        exact this
      case measure => simp [intOf]; omega
/-- what is old, and one more -/
def Nw (n g i : Nat) : Prop := i < n ∨ i = g
theorem turn_any (b : Nat) (ks : Nat → UInt8) (h : Option Nat) (a o r u n : Nat) (A : Option Addr) (m c : Nat) (p : List UInt8) (w : World) (hu : u ≤ 255) (hn : n < 18446744073709551616) (hm : m = p.length) (hm2 : m ≤ 1000) (hr : RdA (Ow b h) w A (bvs p)) (hK : Box w b ks h a o r) :
    Calls Try.prog 26 #[.pointer (some ⟨b, 0, none⟩), .int .i64 (u : Int), .int .u64 (n : Int), .slice A m c] w fun e w' => ∃ g Aq cq, e = .returned (.slice Aq m cq) ∧ m ≤ cq ∧ cq ≤ 1000 ∧ RdA (Nw w.heap.size g) w' Aq (bvs (mixL ks u n p)) ∧ Box w' b ks (some g) a o r ∧ Step w w' b h g := by
  rcases Nat.eq_zero_or_pos m with h0 | h0
  · subst h0
    have hp : mixL ks u n p = [] := List.eq_nil_of_length_eq_zero (by rw [mixL_length]; omega)
    refine (turn_none b ks h a o r u n A c w hu hn hK).mono ?_
    rintro e w' ⟨g, rfl, h1, h2⟩
    exact ⟨g, none, 0, rfl, Nat.le_refl _, by decide, by rw [hp]; exact .inl rfl, h1, h2⟩
  · refine (turn_some b ks h a o r u n A m c p w hu hn hm h0 hm2 hr hK).mono ?_
    rintro e w' ⟨g, q, rfl, h1, h2, h3, h4, h5⟩
    refine ⟨g, _, m, rfl, Nat.le_refl _, hm2, .inr ⟨q, 0, rfl, h3.lt, ?_, fun i v hv => ?_⟩, h4, h5⟩
    · rintro (hx | hx)
      · omega
      · exact h2 hx
    · rw [Nat.zero_add, h3.cell, List.getElem?_toArray]; exact hv
end Go.Proofs.Ytcjibpjdfhhhkaa.Se
