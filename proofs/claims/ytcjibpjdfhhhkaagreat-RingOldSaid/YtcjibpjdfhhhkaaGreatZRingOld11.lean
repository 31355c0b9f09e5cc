import Derived.Laws.OwnMore
import Derived.Lib.SlBytesConst
import Derived.Deep.LoopGhost
import Derived.DeepKeys
import Derived.Laws.StructEq
import Derived.Test.YtcjibpjdfhhhkaaGreatZRingOld1
import Derived.Test.YtcjibpjdfhhhkaaGreatZRingOld2
import Derived.Test.YtcjibpjdfhhhkaaGreatZRingOld3
import Derived.Test.YtcjibpjdfhhhkaaGreatZRingOld4
import Derived.Test.YtcjibpjdfhhhkaaGreatZRingOld5
import Derived.Test.YtcjibpjdfhhhkaaGreatZRingOld6
import Derived.Test.YtcjibpjdfhhhkaaGreatZRingOld7
import Derived.Test.YtcjibpjdfhhhkaaGreatZRingOld8
import Derived.Test.YtcjibpjdfhhhkaaGreatZRingOld9
import Derived.Test.YtcjibpjdfhhhkaaGreatZRingOld10
section
set_option linter.unusedVariables false
namespace Go.Proofs.YtcjibpjdfhhhkaaGreat.Se
open Go.RowKit Go.Proofs.YtcjibpjdfhhhkaaGreat.Mem

set_option maxRecDepth 100000 in
set_option maxHeartbeats 1600000 in
theorem dbig (N : Nat) (w : World) (hN : N < 18446744073709551616) :
    Calls Tryz.prog 32 #[.int .u64 (N : Int)] w fun e w' => ∃ v, e = .returned v ∧ w'.ownsRow w.heap.size 5 1 v 8 (bvs (w8 N)) ∧ Below w.heap.size w w' := by
  obtain ⟨ib, hi0, hz0, hs0, hb0⟩ := info_parts Si.u8_info
  obtain ⟨B, eB⟩ : ∃ B, B = w.heap.size := ⟨_, rfl⟩
  have EB := Lib.hid eB; clear eB
  have HN := Lib.hid hN; clear hN
  go_enter Tryz.func32, Tryz.ntmps32
  go_wp2_with fail
  go_loopw [3, 4] (fun bv_ iv wr => ∃ j : Nat, j ≤ 8 ∧ iv = .int .i64 (7 - (j : Int)) ∧ wr.ownsRow B 5 1 bv_ j (laid [] N j) ∧ Below B w wr) (fun _ iv _ => (intOf iv + 1).toNat)
  case atStart => exact ⟨0, by decide, rfl, ⟨rfl, .inl ⟨rfl, rfl⟩⟩, Below.refl _ _⟩
  case round =>
    obtain ⟨j, hj, rfl, hown, hbl⟩ := hrel
    have HR := Lib.hid hown; clear hown
    have HW := Lib.hid hbl; clear hbl
    by_cases hx : j = 8
    · subst hx
      go_wp2_with fail
      go_ret
      exact ⟨_, rfl, by have := HR.out; rw [laid_8, List.nil_append] at this; exact EB.out ▸ this, EB.out ▸ HW.out⟩
    · obtain ⟨k, ek⟩ : ∃ k : Nat, k = 7 - j := ⟨_, rfl⟩
      obtain ⟨m, em⟩ : ∃ m : Nat, m = 56 - 8 * j := ⟨_, rfl⟩
      have hk : (7 : Int) - (j : Int) = (k : Int) := by omega
      rw [hk]
      have hx3 : j < 8 := by omega
      have hm8 : (8 : Int) * (k : Int) = (m : Int) := by omega
      have hx4 : m < 64 := by omega
      have hx5 : (m : Int) < 64 := by omega
      have hx6 : (0 : Int) ≤ (m : Int) := by omega
      have hx7 : min m 64 = m := by omega
      have hx8 : (0 : Int) ≤ (k : Int) := by omega
      have hx9 : (k : Int) ≤ 7 := by omega
      have hnx := laid_next [] N j hx3
      have hv : bv (UInt8.ofNat (N / 2 ^ (56 - 8 * j))) = .int .u8 ((N : Int) / 2 ^ m % 256) := by
        unfold bv; rw [UInt8.toNat_ofNat', ← em]; congr 1
      rw [hv] at hnx
      have NX := Lib.hid hnx; clear hnx
      have EM := Lib.hid em; clear em
      have EK := Lib.hid ek; clear ek
      have HX := Lib.hid hx; clear hx
      have HJ := Lib.hid hj; clear hj
      have HX3 := Lib.hid hx3; clear hx3
      clear hk hv
      go_wp2_with (first | (at_builtin; refine wpList_append_rd _ (by rfl) (.tmp 9) (.tmp 16) 46 (by rfl) B 5 ib _ 1 Tryz.underlying46 hi0 hz0 hs0 hb0 (by rfl) _ j (laid [] N j) (by rfl) (own_push HR.out (by rfl)) (wr.heap.size + 1) (some ⟨wr.heap.size, 0, none⟩) 1 1 [.int .u8 ((N : Int) / 2 ^ m % 256)] (by rfl) (by rfl) (Si.rd_words wr 5 _ [.int .u8 ((N : Int) / 2 ^ m % 256)] (by rfl) _ rfl) (by simp [Value.oneCell']) (by have := HX3.out; unfold maxLen; omega) (by have := HX3.out; omega) (by have := EB.out; have := HW.out.size; simp; omega) ?_; intro v6 w6 hown6 hgrow6 hat6; have O6 := Lib.hid hown6; have G6 := Lib.hid hgrow6; clear hown6 hgrow6 hat6) | fail)
      go_roundw
      case rel =>
        refine ⟨j + 1, by have := HX3.out; omega, ?_, by rw [← NX.out]; exact O6.out, ?_⟩
        · exact congrArg (Value.int .i64) (by have := EK.out; have := HX3.out; omega)
        · exact (HW.out.alloc (by have := EB.out; have := HW.out.size; omega) _).grown G6.out (by have := EB.out; have := HW.out.size; simp; omega) (fun q hq => (HR.out.lt q hq).1)
      case measure => simp [intOf]

set_option maxRecDepth 100000 in
set_option maxHeartbeats 1600000 in
theorem dnumber (B : Nat) (A : Option Addr) (n c : Nat) (l : List UInt8) (w : World) (hn : n = l.length) (h8 : 8 ≤ n) (hr : Rd w B A (bvs l)) :
    Calls Tryz.prog 37 #[.slice A n c] w fun e w' => e = .returned (.int .u64 (n8 l : Int)) ∧ w' = w := by
  obtain ⟨b, o, rfl, hb, hcell⟩ : ∃ b o, A = some ⟨b, o, none⟩ ∧ b < B ∧ ∀ i (h : i < l.length), w.cell? ⟨b, o + i, none⟩ = some (bv l[i]) := by
    rcases hr with h | ⟨b, o, h1, h2, h3⟩
    · have := bvs_length l; rw [h] at this; simp at this; omega
    · exact ⟨b, o, h1, h2, fun i hi => h3 i _ (bvs_at hi)⟩
  have HC := Lib.hid hcell; clear hcell
  have hn8 : (8 : Int) ≤ (n : Int) := by omega
  have HN := Lib.hid hn; clear hn
  have H8 := Lib.hid h8; clear h8
  clear hr hb
  go_enter Tryz.func37, Tryz.ntmps37
  go_wp2_with fail
  go_loop [3, 4] (fun wv_ iv => ∃ i : Nat, i ≤ 8 ∧ iv = .int .i64 (i : Int) ∧ wv_ = .int .u64 (big 0 (l.take i) : Nat)) (fun _ iv => 8 - (intOf iv).toNat)
  case atStart => exact ⟨0, by decide, rfl, rfl⟩
  case round =>
    obtain ⟨i, hi, rfl, rfl⟩ := hrel
    by_cases hx : i = 8
    · subst hx
      go_wp2_with fail
      go_ret
      exact ⟨rfl, rfl⟩
    · have e1 : (i : Int) < 8 := by omega
      have e2 : (0 : Int) ≤ (i : Int) := by omega
      have e3 : i < 8 := by omega
      have hl : i < l.length := by have := HN.out; have := H8.out; omega
      have e4 : i < n := by have := H8.out; omega
      have e5 : (i : Int) < (n : Int) := by omega
      obtain ⟨y, ey⟩ : ∃ y, y = l[i] := ⟨_, rfl⟩
      have hcc := HC.out i hl
      rw [← ey] at hcc
      simp only [bv] at hcc
      have hy := y.toNat_lt
      obtain ⟨v, ev⟩ : ∃ v, v = big 0 (l.take i) := ⟨_, rfl⟩
      obtain ⟨u, eu⟩ : ∃ u, u = v * 256 + y.toNat := ⟨_, rfl⟩
      rw [← ev]
      have hv : v < 72057594037927936 := by
        have := big_take_lt l i
        rw [← ev] at this
        exact Nat.lt_of_lt_of_le this (Nat.pow_le_pow_right (by decide) (by omega) : 256 ^ i ≤ 256 ^ 7)
      have hw1 : (v : Int) * 256 % 18446744073709551616 = (v : Int) * 256 := by omega
      have hw2 : (y.toNat : Int) % 18446744073709551616 = (y.toNat : Int) := by omega
      have hw3 : IntKind.u64.wrap (y.toNat : Int) = (y.toNat : Int) := by rw [IntKind.wrap_u64]; exact hw2
      have hw4 : IntKind.u64.wrap ((v : Int) * 256) = (v : Int) * 256 := by rw [IntKind.wrap_u64]; exact hw1
      have hor : bits .or .u64 ((v : Int) * 256) (y.toNat : Int) = (u : Int) := by rw [eu]; exact or_byte v y.toNat hy hv
      have hnx : u = big 0 (l.take (i + 1)) := by rw [big_take l i hl, ← ey, ← ev, eu]
      have NX := Lib.hid hnx; clear hnx
      have HI := Lib.hid hi; clear hi
      have HX := Lib.hid hx; clear hx
      have HV := Lib.hid hv; clear hv
      clear eu ev ey
      go_wp2_with fail
      go_round
      case rel => exact ⟨i + 1, by omega, by go_num, by rw [← NX.out]⟩
      case measure => simp [intOf]; omega
end Go.Proofs.YtcjibpjdfhhhkaaGreat.Se
end

section
set_option linter.unusedVariables false
namespace Go.Proofs.YtcjibpjdfhhhkaaGreat.Se
open Go.RowKit Go.Proofs.YtcjibpjdfhhhkaaGreat.Mem

theorem mixL_next (ks : Nat → UInt8) (u n : Nat) (p : List UInt8) (i : Nat) (h : i < p.length) (h2 : i < (strmL ks u n p.length).length) : bvs ((mixL ks u n p).take i) ++ [bv (p[i] ^^^ (strmL ks u n p.length)[i])] = bvs ((mixL ks u n p).take (i + 1)) := by
  rw [List.take_add_one, mixL_at ks u n p i h h2, bvs_append]; rfl
theorem xor_b2 (y x : UInt8) : bits .xor .u8 (y.toNat : Int) (x.toNat : Int) = ((y ^^^ x).toNat : Int) := by
  rw [u8_xor_nat _ _ y.toNat_lt x.toNat_lt, UInt8.toNat_xor]
def twoW (w1 : World) (z : Array Value) (t : TypeId) (cs ds : Array Value) : World := (((w1.alloc (.cells z t)).alloc (.cells z t)).setCells w1.heap.size 0 cs.toList).setCells (w1.heap.size + 1) 0 ds.toList
theorem two_arrays (w1 : World) (z : Array Value) (t : TypeId) (cs ds : Array Value) (h1 : z.size = cs.size) (h2 : z.size = ds.size) :
    (twoW w1 z t cs ds).rangeAt w1.heap.size 0 cs.toList ∧ (twoW w1 z t cs ds).rangeAt (w1.heap.size + 1) 0 ds.toList ∧ Below w1.heap.size w1 (twoW w1 z t cs ds) ∧ w1.heap.size + 2 ≤ (twoW w1 z t cs ds).heap.size := by
  have t1 : ((w1.alloc (.cells z t)).alloc (.cells z t)).there w1.heap.size 0 cs.toList.length := by
    have := World.there_alloc (Si.there_blk (Blk.new w1 t z)) (.cells z t)
    rwa [h1, ← Array.length_toList] at this
  have t2 : ((w1.alloc (.cells z t)).alloc (.cells z t)).there (w1.heap.size + 1) 0 ds.toList.length := by
    have := Si.there_blk (Si.Blk.new_of (w1.alloc (.cells z t)) (w1.heap.size + 1) t z z rfl (by simp))
    rwa [h2, ← Array.length_toList] at this
  refine ⟨World.rangeAt_setCells_apart (World.rangeAt_setCells_same _ _ _ _ t1) _ _ _ (.inl (by omega)), World.rangeAt_setCells_same _ _ _ _ (World.there_setCells t2 _ _ _), ?_, ?_⟩
  · exact Si.below_setCells _ (by omega) _ _ _ (Si.below_setCells _ (Nat.le_refl _) _ _ _ (((Below.refl _ _).alloc (Nat.le_refl _) _).alloc (by simp) _))
  · unfold twoW; rw [SpL.setCells_size, SpL.setCells_size]; simp
set_option maxRecDepth 100000 in
set_option maxHeartbeats 3200000 in
theorem dmix (ks : Nat → UInt8) (u n : Nat) (A : Option Addr) (m c : Nat) (p : List UInt8) (w : World) (hu : u ≤ 255) (hn : n < 18446744073709551616) (hm : m = p.length) (hm2 : m ≤ 1000) (hr : Rd w w.heap.size A (bvs p)) :
    Calls Tryz.prog 33 #[.agg (key32 ks), .int .i64 (u : Int), .int .u64 (n : Int), .slice A m c] w fun e w' => ∃ v, e = .returned v ∧ w'.ownsRow w.heap.size 5 1 v m (bvs (mixL ks u n p)) ∧ Below w.heap.size w w' := by
  obtain ⟨ib, hi0, hz0, hs0, hb0⟩ := info_parts Si.u8_info
  obtain ⟨B, eB⟩ : ∃ B, B = w.heap.size := ⟨_, rfl⟩
  obtain ⟨N, eN⟩ : ∃ N, N = sn u n := ⟨_, rfl⟩
  have hsn := sn_wrap u n hu
  have hsn2 := sn_num u n hu
  have hsnlt := sn_lt u n
  rw [← eN] at hsn hsn2 hsnlt
  have hu1 : (u : Int) % 18446744073709551616 = (u : Int) := by omega
  have hstr : Sp.strm (Sp.kw ks) (Sp.upW N) (Sp.loW N) m = strmL ks u n m := by rw [eN]; rfl
  have ch := fun w1 => dhalves ks w1
  have cw := fun w1 => Sp.dwords ks w1
  have cst := fun w1 => SpL.dstream (Sp.kw ks) N m (m : Int) w1 hsnlt hm2 (by simp)
  rw [hstr] at cst
  have i32 := info32 ks
  have i16 := info16 ks
  have i16b := info16 (k2 ks)
  have o16 := one16 ks
  have o16b := one16 (k2 ks)
  have z16 := key16_size ks
  have z16b := key16_size (k2 ks)
  obtain ⟨kc, ekc⟩ : ∃ kc, kc = key32 ks := ⟨_, rfl⟩
  obtain ⟨cs, ecs⟩ : ∃ cs, cs = Sp.key16 ks := ⟨_, rfl⟩
  obtain ⟨ds, eds⟩ : ∃ ds, ds = Sp.key16 (k2 ks) := ⟨_, rfl⟩
  obtain ⟨xs, exs⟩ : ∃ xs, xs = Sp.cells27 (Sp.kw ks) := ⟨_, rfl⟩
  rw [← ekc] at ch i32 ⊢
  rw [← ecs] at ch cw i16 o16 z16
  rw [← eds] at ch i16b o16b z16b
  rw [← exs] at cw cst
  have hz : Sp.key16 (fun _ => 0) = #[.int .u8 0, .int .u8 0, .int .u8 0, .int .u8 0, .int .u8 0, .int .u8 0, .int .u8 0, .int .u8 0, .int .u8 0, .int .u8 0, .int .u8 0, .int .u8 0, .int .u8 0, .int .u8 0, .int .u8 0, .int .u8 0] := rfl
  have EB := Lib.hid eB
  have HR := Lib.hid (eB ▸ hr); clear hr
  have HM := Lib.hid hm; clear hm
  have q3 : (m : Int) ≤ 1000 := by omega
  have HM2 := Lib.hid hm2; clear hm2
  have I32 := Lib.hid i32; clear i32
  have I16 := Lib.hid i16; clear i16
  have I16B := Lib.hid i16b; clear i16b
  have O16 := Lib.hid o16; clear o16
  have O16B := Lib.hid o16b; clear o16b
  have Z16 := Lib.hid z16; clear z16
  have Z16B := Lib.hid z16b; clear z16b
  have HZ := Lib.hid hz; clear hz
  have CST := Lib.hid cst; clear cst
  have HSN := Lib.hid hsn; clear hsn
  have HSN2 := Lib.hid hsn2
  have HSN3 : Hid (((n : Int) * 256 + (u : Int)) % 18446744073709551616 = (N : Int)) := by rw [← hsn2]; show _ = _; omega
  have HSN4 : Hid (IntKind.u64.wrap (IntKind.u64.wrap ((n : Int) * 256) + (u : Int)) = (N : Int)) := by rw [IntKind.wrap_u64, IntKind.wrap_u64]; omega
  clear hsn2
  have h0 : Blk (w.alloc (.cells kc 33)) B 33 kc := eB ▸ Blk.new w _ _
  have hb0' : Below B w (w.alloc (.cells kc 33)) := eB ▸ (Below.refl w.heap.size w).alloc (Nat.le_refl _) _
  have H0 := Lib.hid h0; clear h0
  have HB0 := Lib.hid hb0'; clear hb0'
  clear hu hn hstr hsnlt eN ekc ecs eds exs eB
  go_enter Tryz.func33, Tryz.ntmps33
  go_upto_region 2 with (first
    | (refine load_cells (by rfl) 33 (.tmp 4) (by rfl) w.heap.size 0 (by rfl) kc _ (Si.range_blk (Blk.new w 33 kc)) Tryz.underlying33 (by rfl) I32.out ?_)
    | (go_at_call 49; refine Calls.mono (ch _) ?_; rintro e w1 ⟨rfl, hb1⟩; clear ch; have hb1 := HB0.out.trans (hb1.mono (by have := EB.out; simp; omega)); have H1 := Lib.hid hb1; clear hb1)
    | (refine wpList_store_mid (by rfl) 93 (.tmp 9) (.tmp 17) (by rfl) w1.heap.size 0 cs (by rfl) (by rfl) (by rw [Z16.out]; exact World.there_alloc (by have := Si.there_blk (Blk.new w1 93 (Sp.key16 fun _ => 0)); rwa [key16_size] at this) _) I16.out O16.out ?_)
    | (refine wpList_store_mid (by rfl) 93 (.tmp 10) (.tmp 18) (by rfl) (w1.heap.size + 1) 0 ds (by rfl) (by rfl) (by rw [Z16B.out]; exact World.there_setCells (by have := Si.there_blk (Si.Blk.new_of (w1.alloc (.cells (Sp.key16 fun _ => 0) 93)) (w1.heap.size + 1) 93 _ (Sp.key16 fun _ => 0) rfl (by simp)); rwa [key16_size] at this) _ _ _) I16B.out O16B.out ?_)
    | fail)
  have h2 := two_arrays w1 (Sp.key16 fun _ => 0) 93 cs ds (by rw [key16_size, Z16.out]) (by rw [key16_size, Z16B.out])
  change Code.wp _ _ _ _ (twoW w1 (Sp.key16 fun _ => 0) 93 cs ds)
  generalize twoW w1 (Sp.key16 fun _ => 0) 93 cs ds = W2 at h2 ⊢
  have hb2 := H1.out.trans (h2.2.2.1.mono (by have := H1.out.size; have := EB.out; omega))
  have HB2 := Lib.hid hb2; clear hb2
  have HA2 := Lib.hid h2.1; clear h2
  have cw2 := cw W2
  clear cw
  go_wp2_with (first
    | (refine load_cells (by rfl) 93 (.tmp 9) (by rfl) w1.heap.size 0 (by rfl) cs _ HA2.out Tryz.underlying93 (by rfl) I16.out ?_)
    | (go_at_call 51; refine Calls.mono cw2 ?_; rintro e w3 ⟨rfl, hb3⟩; clear cw2; have hb3 := HB2.out.trans (hb3.mono (by have := HB2.out.size; have := EB.out; omega)); have c4 := CST.out w3; have H3 := Lib.hid hb3; clear hb3)
    | (go_at_call 50; (first | rw [HSN2.out] | rw [HSN.out] | rw [HSN3.out] | rw [HSN4.out]); refine Calls.mono c4 ?_; rintro e w5 ⟨As, sc, rfl, hsc, hrs, hb5⟩; clear c4; have hb5 := H3.out.trans (hb5.mono (by have := H3.out.size; have := EB.out; omega)); have H5 := Lib.hid hb5; have RS := Lib.hid hrs; clear hb5 hrs)
    | fail)
  obtain ⟨N0, eN0⟩ : ∃ N0, N0 = w5.heap.size := ⟨_, rfl⟩
  have EN := Lib.hid eN0; clear eN0
  have hsm : (strmL ks u n m).length = m := strmL_length ks u n m
  have HSM := Lib.hid hsm; clear hsm
  go_loopw [12, 13] (fun bv_ iv wr => ∃ i : Nat, i ≤ m ∧ iv = .int .i64 (i : Int) ∧ wr.ownsRow N0 5 1 bv_ i (bvs ((mixL ks u n p).take i)) ∧ Below N0 w5 wr) (fun _ iv _ => m - (intOf iv).toNat)
  case atStart => exact ⟨0, Nat.zero_le _, rfl, ⟨rfl, .inl ⟨rfl, rfl⟩⟩, Below.refl _ _⟩
  case round =>
    obtain ⟨i, hi, rfl, hown, hbl⟩ := hrel
    have HO := Lib.hid hown; clear hown
    have HW := Lib.hid hbl; clear hbl
    by_cases hx : i = m
    · subst hx
      go_wp2_with fail
      go_ret
      have h9 := HO.out
      rw [List.take_of_length_le (by rw [mixL_length, HM.out]; exact Nat.le_refl _)] at h9
      refine ⟨_, rfl, h9.mono (by have := EN.out; have := H5.out.size; omega), ?_⟩
      rw [← EB.out]
      exact H5.out.trans (HW.out.mono (by have := EN.out; have := H5.out.size; have := EB.out; omega))
    · have hlt : i < m := by omega
      have hlp : i < p.length := by have := HM.out; omega
      have e1 : (i : Int) < (m : Int) := by omega
      have e2 : (0 : Int) ≤ (i : Int) := by omega
      have e3 : (i : Int) < 1000 := by omega
      have hls : i < (strmL ks u n p.length).length := by rw [strmL_length]; exact hlp
      have hls2 : i < (strmL ks u n m).length := by rw [strmL_length]; exact hlt
      obtain ⟨y, ey⟩ : ∃ y, y = p[i] := ⟨_, rfl⟩
      obtain ⟨x, ex⟩ : ∃ x, x = (strmL ks u n p.length)[i] := ⟨_, rfl⟩
      obtain ⟨z, ez⟩ : ∃ z, z = y ^^^ x := ⟨_, rfl⟩
      obtain ⟨b1, o1, rfl, hb1', hc1⟩ := HR.out.at_ (bvs_at hlp)
      obtain ⟨b2, o2, rfl, hb2', hc2⟩ := RS.out.at_ (bvs_at hls2)
      rw [← ey] at hc1
      have hex : (strmL ks u n m)[i] = x := by
        rw [ex]
        have := HM.out
        subst this
        rfl
      rw [hex] at hc2
      have hb1n : b1 < N0 := by have := EN.out; have := H5.out.size; have := EB.out; omega
      have hb2n : b2 < N0 := by have := EN.out; omega
      have d1 : wr.cell? ⟨b1, o1 + i, none⟩ = some (.int .u8 (y.toNat : Int)) := (HW.out.cell (p := ⟨b1, o1 + i, none⟩) hb1n).trans ((H5.out.cell (p := ⟨b1, o1 + i, none⟩) hb1').trans hc1)
      have d2 : wr.cell? ⟨b2, o2 + i, none⟩ = some (.int .u8 (x.toNat : Int)) := (HW.out.cell (p := ⟨b2, o2 + i, none⟩) hb2n).trans hc2
      have hxo : bits .xor .u8 (y.toNat : Int) (x.toNat : Int) = (z.toNat : Int) := by rw [ez]; exact xor_b2 y x
      have hnx := mixL_next ks u n p i hlp hls
      rw [← ey, ← ex, ← ez] at hnx
      have NX := Lib.hid hnx; clear hnx
      have HX := Lib.hid hx; clear hx
      have HI := Lib.hid hi; clear hi
      clear ey ex ez hc1 hc2 hex hls hls2 hb1' hb2' hb1n hb2n
      go_wp2_with fail
      go_region_law (refine step_append_lies _ (by rfl) (.tmp 35) (.tmp 45) 46 (by rfl) N0 5 ib _ 1 1 Tryz.underlying46 hi0 hz0 hs0 hb0 (by rfl) (by decide) u12 i (bvs ((mixL ks u n p).take i)) (by rfl) (own_push HO.out (by rfl)) ⟨wr.heap.size, 0, none⟩ 1 1 [.int .u8 (z.toNat : Int)] (by rfl) (by rfl) (Sp.news_push (by rfl)) (by simp [Value.oneCell']) (by decide) (by have := HI.out; have := HM2.out; unfold maxLen; omega) (by have := HI.out; have := HM2.out; omega) (by have := EN.out; have := HW.out.size; simp; omega) (wr.heap.size + 1) (by simp) ?_; intro g2 cap2 w2 hown2 hgrow hat hlt)
      all_goals (
        have hg2 : (wr.alloc (.cells #[.int .u8 (z.toNat : Int)] 5)).grownBy w2 u12.ownBlock := ⟨hgrow.os, hgrow.tape, hgrow.output, hgrow.size, hgrow.block⟩
        have hb2 := (HW.out.alloc (by have := EN.out; have := HW.out.size; omega) (Obj.cells #[.int .u8 (z.toNat : Int)] 5)).grown hg2 (by have := EN.out; have := HW.out.size; simp; omega) (fun q hq => (HO.out.lt q hq).1)
        have O6 := Lib.hid hown2; clear hown2
        have B6 := Lib.hid hb2; clear hb2
        clear hgrow hat hlt hg2 d1 d2
        go_wp2_with fail
        go_roundw
        case rel => exact ⟨i + 1, by omega, by go_num, by rw [← NX.out]; exact O6.out, B6.out⟩
        case measure => simp [intOf]; omega)
end Go.Proofs.YtcjibpjdfhhhkaaGreat.Se
end

section
set_option linter.unusedVariables false
namespace Go.Proofs.YtcjibpjdfhhhkaaGreat.Se
open Go.RowKit Go.Proofs.YtcjibpjdfhhhkaaGreat.Mem

theorem range_grown {w w' : World} {b o : Nat} {cs : List Value} {row : Option Nat} (h : w.rangeAt b o cs) (hb : b < w.heap.size) (hg : w.grownBy w' row) (hr : row ≠ some b) : w'.rangeAt b o cs := fun j v hv =>
  (World.cell?_of_block (a := ⟨b, o + j, none⟩) (hg.block b hb (fun e => hr e.symm))).trans (h j v hv)
theorem range_below {w w' : World} {b o : Nat} {cs : List Value} (h : w.rangeAt b o cs) (hb : b < w.heap.size) (hg : Below w.heap.size w w') : w'.rangeAt b o cs := range_grown h hb (g_of_below hg none) (by simp)
set_option maxRecDepth 100000 in
set_option maxHeartbeats 3200000 in
theorem dtag (ks : Nat → UInt8) (u : Nat) (A : Option Addr) (m c : Nat) (l : List UInt8) (w : World) (hu : u ≤ 255) (hm : m = l.length) (hm2 : m ≤ 1000) (hr : Rd w w.heap.size A (bvs l)) :
    Calls Tryz.prog 34 #[.agg (key32 ks), .int .i64 (u : Int), .slice A m c] w fun e w' => ∃ v, e = .returned v ∧ w'.ownsRow w.heap.size 5 1 v 8 (bvs (w8 (tagL ks u l))) ∧ Below w.heap.size w w' := by
  obtain ⟨ib, hi0, hz0, hs0, hb0⟩ := info_parts Si.u8_info
  obtain ⟨B, eB⟩ : ∃ B, B = w.heap.size := ⟨_, rfl⟩
  have ch := fun w1 => dhalves ks w1
  have i32 := info32 ks
  have i16 := info16 ks
  have i16b := info16 (k2 ks)
  have o16 := one16 ks
  have o16b := one16 (k2 ks)
  have z16 := key16_size ks
  have z16b := key16_size (k2 ks)
  obtain ⟨T, eT⟩ : ∃ T, T = tagL ks u l := ⟨_, rfl⟩
  have hTL : T < 18446744073709551616 := by rw [eT]; exact tagL_lt _ _ _
  have csum := fun (w4 : World) (A4 : Option Addr) (c4 : Nat) (h1 : 1 + m ≤ c4) (h2 : c4 ≤ maxLen) (h3 : Rd w4 w4.heap.size A4 (bvs (UInt8.ofNat u :: l))) => Si.dsum_any (k2 ks) A4 (1 + m) c4 (UInt8.ofNat u :: l) w4 (by rw [List.length_cons, hm, Nat.add_comm]) (by omega) h1 h2 h3
  have hT : ∀ e, e = Ending.returned (Si.wv (Si.sumOf (k2 ks) (UInt8.ofNat u :: l))) → e = .returned (.int .u64 (T : Int)) := fun e h => by rw [h, eT]; rfl
  have hbu : [Value.int .u8 (u : Int)] ++ bvs l = bvs (UInt8.ofNat u :: l) := by
    show [Value.int .u8 (u : Int)] ++ bvs l = bv (UInt8.ofNat u) :: bvs l
    rw [bv_num u hu]; rfl
  obtain ⟨kc, ekc⟩ : ∃ kc, kc = key32 ks := ⟨_, rfl⟩
  obtain ⟨cs, ecs⟩ : ∃ cs, cs = Sp.key16 ks := ⟨_, rfl⟩
  have hds : ∃ dl : List Value, dl.toArray = Sp.key16 (k2 ks) := ⟨_, rfl⟩
  obtain ⟨dl, edl⟩ := hds
  obtain ⟨L, eL⟩ : ∃ L, L = UInt8.ofNat u :: l := ⟨_, rfl⟩
  rw [← ekc] at ch i32 ⊢
  rw [← ecs] at ch i16 o16 z16
  rw [← edl] at ch i16b o16b z16b
  have hkk : Si.key16 (k2 ks) = Sp.key16 (k2 ks) := rfl
  rw [hkk, ← edl] at csum
  rw [← eL] at csum hT hbu
  rw [← eT]
  have u16 : (Tryz.prog.info? 93).map (·.size) = some dl.length := by rw [← List.size_toArray]; exact i16b
  have hu16 := Tryz.underlying93
  have hu1 : (u : Int) ≤ 255 := by omega
  have hu2 : (0 : Int) ≤ (u : Int) := by omega
  have hu3 : (u : Int) % 256 = (u : Int) := by omega
  have hu4 : IntKind.u8.wrap (u : Int) = (u : Int) := by rw [IntKind.wrap_u8']; exact hu3
  have EB := Lib.hid eB
  have HR := Lib.hid (eB ▸ hr); clear hr
  have HM := Lib.hid hm; clear hm
  have q3 : (m : Int) ≤ 1000 := by omega
  have HM2 := Lib.hid hm2; clear hm2
  have I32 := Lib.hid i32; clear i32
  have I16 := Lib.hid i16; clear i16
  have I16B := Lib.hid i16b; clear i16b
  have O16 := Lib.hid o16; clear o16
  have O16B := Lib.hid o16b; clear o16b
  have Z16 := Lib.hid z16; clear z16
  have Z16B := Lib.hid z16b; clear z16b
  have CSUM := Lib.hid csum; clear csum
  have HT := Lib.hid hT; clear hT
  have HBU := Lib.hid hbu; clear hbu
  have TL := Lib.hid hTL; clear hTL
  have U16 := Lib.hid u16; clear u16
  have HU16 := Lib.hid hu16; clear hu16
  have hb0' : Below B w (w.alloc (.cells kc 33)) := eB ▸ (Below.refl w.heap.size w).alloc (Nat.le_refl _) _
  have HB0 := Lib.hid hb0'; clear hb0'
  clear hu ekc ecs edl eT eL hkk eB
  go_enter Tryz.func34, Tryz.ntmps34
  go_upto_region 2 with (first
    | (refine load_cells (by rfl) 33 (.tmp 3) (by rfl) w.heap.size 0 (by rfl) kc _ (Si.range_blk (Blk.new w 33 kc)) Tryz.underlying33 (by rfl) I32.out ?_)
    | (go_at_call 49; refine Calls.mono (ch _) ?_; rintro e w1 ⟨rfl, hb1⟩; clear ch; have hb1 := HB0.out.trans (hb1.mono (by have := EB.out; simp; omega)); have H1 := Lib.hid hb1; clear hb1)
    | (refine wpList_store_mid (by rfl) 93 (.tmp 7) (.tmp 12) (by rfl) w1.heap.size 0 cs (by rfl) (by rfl) (by rw [Z16.out]; exact World.there_alloc (by have := Si.there_blk (Blk.new w1 93 (Sp.key16 fun _ => 0)); rwa [key16_size] at this) _) I16.out O16.out ?_)
    | (refine wpList_store_mid (by rfl) 93 (.tmp 8) (.tmp 13) (by rfl) (w1.heap.size + 1) 0 dl.toArray (by rfl) (by rfl) (by rw [Z16B.out]; exact World.there_setCells (by have := Si.there_blk (Si.Blk.new_of (w1.alloc (.cells (Sp.key16 fun _ => 0) 93)) (w1.heap.size + 1) 93 _ (Sp.key16 fun _ => 0) rfl (by simp)); rwa [key16_size] at this) _ _ _) I16B.out O16B.out ?_)
    | fail)
  have h2 := two_arrays w1 (Sp.key16 fun _ => 0) 93 cs dl.toArray (by rw [key16_size, Z16.out]) (by rw [key16_size, Z16B.out])
  change Code.wp _ _ _ _ (twoW w1 (Sp.key16 fun _ => 0) 93 cs dl.toArray)
  generalize twoW w1 (Sp.key16 fun _ => 0) 93 cs dl.toArray = W2 at h2 ⊢
  have hb2 := H1.out.trans (h2.2.2.1.mono (by have := H1.out.size; have := EB.out; omega))
  have HB2 : Hid (Below B w W2.drew) := below_drewN hb2 1
  have hra : W2.drew.rangeAt (w1.heap.size + 1) 0 dl := by have := h2.2.1; simpa using this
  have HSZ := Lib.hid (show w1.heap.size + 2 ≤ W2.drew.heap.size from h2.2.2.2)
  clear h2 hb2
  have hu16 := HU16.out
  have u16 := U16.out
  simp only [Act.put]
  have LIT : Hid ((W2.alloc (.cells #[.int .u8 (u : Int)] 5)).drew.ownsRow W2.heap.size 5 1 (.slice (some ⟨W2.heap.size, 0, none⟩) 1 1) 1 [.int .u8 (u : Int)]) := World.ownsRow_lit (base := W2.heap.size) (e := 5) (size := 1) W2.drew #[.int .u8 (u : Int)] 1 (Nat.le_refl _) (by decide) (by rfl)
  have hBW : B ≤ W2.drew.heap.size := by have := HB2.out.size; have := EB.out; omega
  have HB3 : Hid (Below B w (W2.alloc (.cells #[.int .u8 (u : Int)] 5)).drew) := HB2.out.alloc hBW (.cells #[.int .u8 (u : Int)] 5)
  have HRD : Hid (Rd (W2.alloc (.cells #[.int .u8 (u : Int)] 5)).drew B A (bvs l)) := HR.out.below HB3.out
  have hra3 : (W2.alloc (.cells #[.int .u8 (u : Int)] 5)).drew.rangeAt (w1.heap.size + 1) 0 dl := World.rangeAt_alloc hra (.cells #[.int .u8 (u : Int)] 5)
  have HSZ3 : Hid ((W2.alloc (.cells #[.int .u8 (u : Int)] 5)).drew.heap.size = W2.heap.size + 1) := by show (W2.alloc _).heap.size = _; simp
  have HSZ2 : Hid (w1.heap.size + 2 ≤ W2.heap.size) := HSZ.out
  have HBS : Hid (B ≤ W2.heap.size) := hBW
  clear hBW
  go_region_held3 (fun w' => w'.rangeAt (w1.heap.size + 1) 0 dl) (first | exact hra | exact hra3 | exact hS4 | exact hS5 | exact hS6) (first
    | (rw [if_pos (by rfl)]; refine wp_append_rd _ (.tmp 17) (.tmp 18) 46 (by rfl) W2.heap.size 5 ib _ 1 Tryz.underlying46 hi0 hz0 hs0 hb0 (by rfl) _ 1 [.int .u8 (u : Int)] (by rfl) LIT.out B A m c (bvs l) (by rfl) (by rw [bvs_length]; exact HM.out) HRD.out (bvs_one _) (by have := HM2.out; unfold maxLen; omega) (by have := HM2.out; omega) (by have := HSZ3.out; omega) ?_; intro v4 w4 hown4 hgrow4 hat4; rw [HBU.out] at hown4; have hS4 : w4.rangeAt (w1.heap.size + 1) 0 dl := range_grown hra3 (by have := HSZ3.out; have := HSZ2.out; omega) hgrow4 (by have := HSZ2.out; simp [Value.ownBlock]; omega); have hb4 : Below B w w4 := HB3.out.grown hgrow4 (by have := HSZ3.out; have := HBS.out; omega) (fun k hk => by have := HBS.out; simp [Value.ownBlock] at hk; omega); obtain ⟨A4, c4, hv4, hc4, hm4, hr4⟩ := own_rda (S := fun _ => False) hown4 (fun _ _ x => x); subst hv4; have csum4 := CSUM.out w4 A4 c4 hc4 hm4 hr4.rd; have H4 := Lib.hid hb4; have Z4 := Lib.hid hgrow4.size; clear hown4 hgrow4 hat4 hb4 hc4 hm4 hr4)
    | (go_at_call 52; refine Calls.mono csum4 ?_; rintro e w5 ⟨he, hb5⟩; have he := HT.out e he; subst he; clear csum4; have hS5 : w5.rangeAt (w1.heap.size + 1) 0 dl := range_below hS4 (by have := Z4.out; have := HSZ3.out; have := HSZ2.out; omega) hb5; have Z5 := Lib.hid hb5.size; have hb5 := H4.out.trans (hb5.mono (by have := H4.out.size; have := EB.out; omega)); have cbig := dbig T w5 TL.out; have H5 := Lib.hid hb5; clear hb5)
    | (go_at_call 32; refine Calls.mono cbig ?_; rintro e w6 ⟨v6, rfl, hown6, hb6⟩; clear cbig; have hS6 : w6.rangeAt (w1.heap.size + 1) 0 dl := range_below hS5 (by have := Z4.out; have := Z5.out; have := HSZ3.out; have := HSZ2.out; omega) hb6; have hb6 := H5.out.trans (hb6.mono (by have := H5.out.size; have := EB.out; omega)); have H6 := Lib.hid hb6; have O6 := Lib.hid hown6; have Z6 := Lib.hid H5.out.size; clear hb6 hown6))
  all_goals (
    clear hra hra3 hS4 hS5 hS6
    go_wp2_with fail
    go_ret
    exact ⟨_, rfl, O6.out.mono (by have := Z6.out; have := EB.out; omega), EB.out ▸ H6.out⟩)
end Go.Proofs.YtcjibpjdfhhhkaaGreat.Se
end

section
set_option linter.unusedVariables false
namespace Go.Proofs.YtcjibpjdfhhhkaaGreat.Se
open Go.RowKit Go.Proofs.YtcjibpjdfhhhkaaGreat.Mem

theorem bytes_loop (bs : ByteArray) : ∀ (n i : Nat) (r : List UInt8), bs.size - i = n → i ≤ bs.size → ByteArray.toList.loop bs i r = r.reverse ++ bs.data.toList.drop i := by
  intro n
  induction n with
  | zero =>
    intro i r h hi
    unfold ByteArray.toList.loop
    have : ¬ i < bs.size := by omega
    rw [if_neg this, List.drop_of_length_le (by rw [Array.length_toList]; show bs.size ≤ i; omega), List.append_nil]
  | succ n ih =>
    intro i r h hi
    unfold ByteArray.toList.loop
    have hlt : i < bs.size := by omega
    have hl : i < bs.data.toList.length := by rw [Array.length_toList]; exact hlt
    rw [if_pos hlt, ih (i + 1) _ (by omega) (by omega), List.drop_eq_getElem_cons hl]
    have e : bs.get! i = bs.data.toList[i] := by
      show bs.data[i]! = _
      rw [getElem!_pos bs.data i hlt]
      simp
    rw [e]
    simp
theorem bytes_list (bs : ByteArray) : bs.toList = bs.data.toList := by
  have := bytes_loop bs bs.size 0 [] (by omega) (by omega)
  simpa [ByteArray.toList] using this
theorem bytes_same {a b : ByteArray} (h : a.toList = b.toList) : a = b := by
  rw [bytes_list, bytes_list] at h
  exact ByteArray.ext (Array.toList_inj.1 h)
set_option maxRecDepth 100000 in
set_option maxHeartbeats 1600000 in
theorem dopen_bad (ks : Nat → UInt8) (u : Int) (A : Option Addr) (m c : Nat) (w : World) (hx : ¬ (0 ≤ u ∧ u ≤ 255)) :
    Calls Tryz.prog 19 #[.agg (key32 ks), .int .i64 u, .slice A m c] w fun e w' => e = .returned (.tuple #[.slice none 0 0, .int .i64 1]) ∧ Below w.heap.size w w' := by
  obtain ⟨kc, ekc⟩ : ∃ kc, kc = key32 ks := ⟨_, rfl⟩
  rw [← ekc]
  have t : (decide (u < 0) = true) ∨ (decide (u < 0) = false ∧ decide (255 < u) = true) := by
    simp only [decide_eq_true_eq, decide_eq_false_iff_not]
    omega
  have HB := Lib.hid ((Below.refl w.heap.size w).alloc (Nat.le_refl _) (.cells kc 33))
  clear hx ekc
  rcases t with t1 | ⟨t1, t2⟩ <;> (
    go_enter Tryz.func19, Tryz.ntmps19
    go_wp2
    go_ret2
    exact ⟨rfl, HB.out⟩)

set_option maxRecDepth 100000 in
set_option maxHeartbeats 1600000 in
theorem dopen_short (ks : Nat → UInt8) (u : Nat) (A : Option Addr) (n c : Nat) (l : List UInt8) (w : World) (hu : u ≤ 255) (hn : n = l.length) (hr : Rd w w.heap.size A (bvs l)) (hx : l.length < 16 ∨ 800 < l.length ∨ 1099511627776 < n8 l) :
    Calls Tryz.prog 19 #[.agg (key32 ks), .int .i64 (u : Int), .slice A n c] w fun e w' => e = .returned (.tuple #[.slice none 0 0, .int .i64 3]) ∧ Below w.heap.size w w' := by
  obtain ⟨kc, ekc⟩ : ∃ kc, kc = key32 ks := ⟨_, rfl⟩
  rw [← ekc]
  have t1 : decide ((u : Int) < 0) = false := by simp
  have t2 : decide (255 < (u : Int)) = false := by simp; omega
  have hB0 := (Below.refl w.heap.size w).alloc (Nat.le_refl _) (.cells kc 33)
  by_cases h1 : n < 16 ∨ 800 < n
  · have t : (decide ((n : Int) < 16) = true) ∨ (decide ((n : Int) < 16) = false ∧ decide (800 < (n : Int)) = true) := by
      simp only [decide_eq_true_eq, decide_eq_false_iff_not]
      omega
    have HB := Lib.hid hB0
    clear hx ekc hB0 h1 hn hr
    rcases t with t3 | ⟨t3, t4⟩ <;> (
      go_enter Tryz.func19, Tryz.ntmps19
      go_wp2
      go_ret2
      exact ⟨rfl, HB.out⟩)
  · have t3 : decide ((n : Int) < 16) = false := by simp; omega
    have t4 : decide (800 < (n : Int)) = false := by simp; omega
    have h8 : 1099511627776 < n8 l := by omega
    have cn := dnumber w.heap.size A n c l (w.alloc (.cells kc 33)) hn (by omega) (hr.below hB0)
    obtain ⟨N, eN⟩ : ∃ N, N = n8 l := ⟨_, rfl⟩
    rw [← eN] at cn h8
    have t5 : decide (1099511627776 < (N : Int)) = true := by simp; omega
    have HB := Lib.hid hB0
    have s1 : (16 : Int) ≤ (n : Int) := by omega
    have s2 : (n : Int) ≤ 800 := by omega
    clear hx ekc hB0 h1 hn hr eN h8
    go_enter Tryz.func19, Tryz.ntmps19
    go_upto_region 7 with (go_at_call 37; refine Calls.mono cn ?_; rintro e wq ⟨rfl, hw⟩; have hw := hw.symm; subst hw; clear cn)
    go_quiet (fail)
    go_wp2_with fail
    go_ret2
    exact ⟨rfl, below_drewN HB.out nq⟩

set_option maxRecDepth 100000 in
set_option maxHeartbeats 3200000 in
theorem dopen_long (ks : Nat → UInt8) (u : Nat) (A : Option Addr) (n c : Nat) (l : List UInt8) (w : World) (hu : u ≤ 255) (hn : n = l.length) (hc : n ≤ c) (hr : Rd w w.heap.size A (bvs l)) (h16 : 16 ≤ l.length) (h800 : l.length ≤ 800) (h40 : n8 l ≤ 1099511627776) :
    Calls Tryz.prog 19 #[.agg (key32 ks), .int .i64 (u : Int), .slice A n c] w fun e w' => (if tagL ks u (headL l) = n8 (lastL l) then ∃ A2 c2, e = .returned (.tuple #[.slice A2 (n - 16) c2, .int .i64 0]) ∧ Rd w' w'.heap.size A2 (bvs (mixL ks u (n8 l) (midL l))) else e = .returned (.tuple #[.slice none 0 0, .int .i64 3])) ∧ Below w.heap.size w w' := by
  obtain ⟨B, eB⟩ : ∃ B, B = w.heap.size := ⟨_, rfl⟩
  obtain ⟨b2, o2, rfl⟩ : ∃ b2 o2, A = some ⟨b2, o2, none⟩ := by
    rcases hr with hx | ⟨b2, o2, h4, _⟩
    · exact rd_nil_16 hn (by omega) hx
    · exact ⟨b2, o2, h4⟩
  obtain ⟨k, hk⟩ : ∃ k, n = k + 8 := ⟨n - 8, by omega⟩
  obtain ⟨m, hm8⟩ : ∃ m, k = m + 8 := ⟨k - 8, by omega⟩
  have hk8 : n - 8 = k := by omega
  have hhd : headL l = l.take k := by unfold headL; rw [← hn, hk8]
  have hla : lastL l = l.drop k := by unfold lastL; rw [← hn, hk8]
  have hmid : midL l = (l.take k).drop 8 := by unfold midL; rw [hhd]
  have RA : ∀ w1, Below B w w1 → RdA (fun _ => False) w1 (some ⟨b2, o2, none⟩) (bvs l) := fun w1 h => RdA.of_rd (B := B) (eB ▸ hr.below (eB ▸ h)) (eB ▸ h.size) (fun _ x => x.elim)
  have cn := fun (w1 : World) (h : Below B w w1) => dnumber w1.heap.size (some ⟨b2, o2, none⟩) n c l w1 hn (by omega) (RA w1 h).rd
  have ctag := fun (w1 : World) (h : Below B w w1) => dtag ks u (some ⟨b2, o2, none⟩) k c (headL l) w1 hu (by rw [hhd, List.length_take]; omega) (by omega) (hhd ▸ ((RA w1 h).take k).rd)
  have cmix := fun (w1 : World) (h : Below B w w1) => dmix ks u (n8 l) (some ⟨b2, o2 + 8, none⟩) m (c - 8) (midL l) w1 hu (by omega) (by rw [hmid, List.length_drop, List.length_take]; omega) (by omega) (hmid ▸ (((RA w1 h).take k).drop 8).rd)
  have ccv := fun (w1 : World) (h : Below B w w1) => run_bytes_str (P := Tryz.prog) w1 46 5 Tryz.underlying46 Tryz.underlying5 (hla ▸ ((RA w1 h).drop k).rd) 8 (c - k) (by rw [hla, List.length_drop]; omega) 9 Tryz.underlying9
  obtain ⟨T, eT⟩ : ∃ T, T = tagL ks u (headL l) := ⟨_, rfl⟩
  obtain ⟨M, eM⟩ : ∃ M, M = n8 (lastL l) := ⟨_, rfl⟩
  have hT64 : T < 18446744073709551616 := by rw [eT]; exact tagL_lt _ _ _
  have hl8 : (lastL l).length = 8 := by rw [hla, List.length_drop]; omega
  have hM8 : w8 M = lastL l := by rw [eM]; exact w8_n8 _ hl8
  have hM64 : M < 18446744073709551616 := by rw [eM]; exact n8_lt _
  obtain ⟨N, eN⟩ : ∃ N, N = n8 l := ⟨_, rfl⟩
  obtain ⟨Q, eQ⟩ : ∃ Q, Q = bvs (mixL ks u N (midL l)) := ⟨_, rfl⟩
  rw [← eT, ← eM, ← eN, ← eQ]
  rw [← eN] at cn cmix h40
  rw [← eQ] at cmix
  rw [← eT] at ctag
  obtain ⟨s8, es8⟩ : ∃ s8 : ByteArray, s8 = ⟨(lastL l).toArray⟩ := ⟨_, rfl⟩
  rw [← es8] at ccv
  obtain ⟨sT, esT⟩ : ∃ sT : ByteArray, sT = ⟨(w8 T).toArray⟩ := ⟨_, rfl⟩
  have hcmp : sT = s8 ↔ T = M := by
    constructor
    · intro h
      refine w8_inj hT64 hM64 ?_
      rw [hM8]
      have h2 : (⟨(w8 T).toArray⟩ : ByteArray) = ⟨(lastL l).toArray⟩ := by rw [← esT, ← es8, h]
      have h3 := congrArg (fun x : ByteArray => x.data.toList) h2
      simpa using h3
    · intro h
      rw [esT, es8, h, hM8]
  have hkl : ∃ kl : List Value, kl.toArray = key32 ks := ⟨_, rfl⟩
  obtain ⟨kl, ekl⟩ := hkl
  have u32 : (Tryz.prog.info? 33).map (·.size) = some kl.length := by rw [← List.size_toArray, ekl]; exact info32 ks
  have hu32 := Tryz.underlying33
  rw [← ekl] at cmix ctag ⊢
  have ctv := fun (w4 : World) (A4 : Option Addr) (c4 : Nat) (h : Rd w4 w4.heap.size A4 (bvs (w8 T))) => run_bytes_str (P := Tryz.prog) w4 46 5 Tryz.underlying46 Tryz.underlying5 h 8 c4 (w8_length T).symm 9 Tryz.underlying9
  rw [← esT] at ctv
  have hra : (w.alloc (.cells kl.toArray 33)).drew.rangeAt w.heap.size 0 kl := by have := Si.range_blk (Blk.new w 33 kl.toArray); simpa using this
  have hB0 : Below B w (w.alloc (.cells kl.toArray 33)) := eB ▸ (Below.refl w.heap.size w).alloc (Nat.le_refl _) _
  have HB0 : Hid (Below B w (w.alloc (.cells kl.toArray 33)).drew) := below_drewN hB0 1
  have HS0 : Hid ((w.alloc (.cells kl.toArray 33)).drew.heap.size = B + 1) := by show (w.alloc _).heap.size = _; simp [eB]
  have c1 := cn _ hB0
  have ct := ctag _ HB0.out
  have hcv := ccv _ HB0.out
  have t1 : decide ((u : Int) < 0) = false := by simp
  have t2 : decide (255 < (u : Int)) = false := by simp; omega
  have t3 : decide ((n : Int) < 16) = false := by simp; omega
  have t4 : decide (800 < (n : Int)) = false := by simp; omega
  have t5 : decide (1099511627776 < (N : Int)) = false := by simp; omega
  have s0 : (n : Int) ≤ 800 := by omega
  have s1 : (n : Int) - 8 = (k : Int) := by omega
  have s2 : IntKind.i64.wrap (k : Int) = (k : Int) := by rw [IntKind.wrap_i64]; omega
  have s3 : (8 : Int) ≤ (k : Int) := by omega
  have s4 : (k : Int) ≤ (c : Int) := by omega
  have s5 : k - 8 = m := by omega
  have s6 : 8 ≤ k := by omega
  have s7 : k ≤ c := by omega
  have s8' : ¬ c = 8 := by omega
  have s14 : ¬ c = k := by omega
  have s9 : n - k = 8 := by omega
  have s10 : (k : Int) ≤ (n : Int) := by omega
  have s11 : (n : Int) ≤ (c : Int) := by omega
  have s12 : k ≤ n := by omega
  have s13 : (0 : Int) ≤ (k : Int) := by omega
  have hm16 : n - 16 = m := by omega
  rw [hm16]
  have EB := Lib.hid eB
  have CMIX := Lib.hid cmix; clear cmix
  have CCV := Lib.hid ccv; clear ccv
  have CTV := Lib.hid ctv; clear ctv
  have HC := Lib.hid hcmp; clear hcmp
  clear hu hn hc hr h16 h800 h40 hk hm8 hk8 hhd hla hmid RA cn ctag eT eM eN eQ es8 esT hT64 hM64 hl8 hM8 ekl hB0 eB hm16
  go_enter Tryz.func19, Tryz.ntmps19
  go_upto_region 7 with (go_at_call 37; refine Calls.mono c1 ?_; rintro e wq ⟨rfl, hw⟩; have hw := hw.symm; subst hw; clear c1)
  -- THE REGION
  have CCVW : Hid (∀ w', Reg.Since (w.alloc (.cells kl.toArray 33)).drew w' → (convert 46 9 (.slice (some ⟨b2, o2 + k, none⟩) 8 (c - k))).run Tryz.prog w' = .ok (.string s8) w') := fun w' hS => CCV.out w' (HB0.out.trans (hS.mono (by have := HS0.out; omega)))
  clear hcv
  refine Reg.region_begin 16 rfl (by kernel_rfl) ?_
  refine Reg.take_op 0 (v := ?vz0) rfl (by kernel_rfl) (by kernel_rfl) (by kernel_rfl) (fun _ _ _ h => h) (by rfl) (fun w' hS => ?hyz0) ?restz0
  case hyz0 => go_simp; rfl
  simp only [Act.put, List.setIfInBounds_toArray, List.set_cons_zero, List.set_cons_succ]
  refine Reg.take_op 1 (v := ?vz1) rfl (by kernel_rfl) (by kernel_rfl) (by kernel_rfl) (fun _ _ _ h => h) (by rfl) (fun w' hS => ?hyz1) ?restz1
  case hyz1 => go_simp; rfl
  simp only [Act.put, List.setIfInBounds_toArray, List.set_cons_zero, List.set_cons_succ]
  refine Reg.take_op 2 (v := ?vz2) rfl (by kernel_rfl) (by kernel_rfl) (by kernel_rfl) (fun _ _ _ h => h) (by rfl) (fun w' hS => ?hyz2) ?restz2
  case hyz2 => go_simp; rfl
  simp only [Act.put, List.setIfInBounds_toArray, List.set_cons_zero, List.set_cons_succ]
  refine wpAnyH_take (i := 3) (v := .agg kl.toArray) rfl (by kernel_rfl) (by kernel_rfl) (by kernel_rfl) (fun _ _ _ h => h) (yieldsIf_load_mid (by rfl) 33 (.tmp 3) rfl w.heap.size 0 rfl kl _ (fun w' hS => range_below hra (by have := HS0.out; have := EB.out; omega) hS) hu32 rfl u32) (Below.refl _ _) ?_
  try simp only [List.getElem_toArray, List.getElem_cons_zero, List.getElem_cons_succ, Act.put, List.setIfInBounds_toArray, List.set_cons_zero, List.set_cons_succ]
  refine Reg.take_op 4 (v := ?vz4) rfl (by kernel_rfl) (by kernel_rfl) (by kernel_rfl) (fun _ _ _ h => h) (by rfl) (fun w' hS => ?hyz4) ?restz4
  case hyz4 => go_simp; rfl
  simp only [Act.put, List.setIfInBounds_toArray, List.set_cons_zero, List.set_cons_succ]
  refine Reg.take_op 5 (v := ?vz5) rfl (by kernel_rfl) (by kernel_rfl) (by kernel_rfl) (fun _ _ _ h => h) (by rfl) (fun w' hS => ?hyz5) ?restz5
  case hyz5 => go_simp; rfl
  simp only [Act.put, List.setIfInBounds_toArray, List.set_cons_zero, List.set_cons_succ]
  refine Reg.take_op 6 (v := ?vz6) rfl (by kernel_rfl) (by kernel_rfl) (by kernel_rfl) (fun _ _ _ h => h) (by rfl) (fun w' hS => ?hyz6) ?restz6
  case hyz6 => go_simp; rfl
  simp only [Act.put, List.setIfInBounds_toArray, List.set_cons_zero, List.set_cons_succ]
  refine Reg.take_op 7 (v := ?vz7) rfl (by kernel_rfl) (by kernel_rfl) (by kernel_rfl) (fun _ _ _ h => h) (by rfl) (fun w' hS => ?hyz7) ?restz7
  case hyz7 => go_simp; rfl
  simp only [Act.put, List.setIfInBounds_toArray, List.set_cons_zero, List.set_cons_succ]
  refine Reg.take_op 10 (v := ?vz10) rfl (by kernel_rfl) (by kernel_rfl) (by kernel_rfl) (fun _ _ _ h => h) (by rfl) (fun w' hS => ?hyz10) ?restz10
  case hyz10 => go_simp; rfl
  simp only [Act.put, List.setIfInBounds_toArray, List.set_cons_zero, List.set_cons_succ]
  refine Reg.take_op 11 (v := ?vz11) rfl (by kernel_rfl) (by kernel_rfl) (by kernel_rfl) (fun _ _ _ h => h) (by rfl) (fun w' hS => ?hyz11) ?restz11
  case hyz11 => go_simp; rfl
  simp only [Act.put, List.setIfInBounds_toArray, List.set_cons_zero, List.set_cons_succ]
  refine Reg.take_op 12 (v := ?vz12) rfl (by kernel_rfl) (by kernel_rfl) (by kernel_rfl) (fun _ _ _ h => h) (by rfl) (fun w' hS => ?hyz12) ?restz12
  case hyz12 => go_simp; rfl
  simp only [Act.put, List.setIfInBounds_toArray, List.set_cons_zero, List.set_cons_succ]
  refine Reg.take_op 13 (v := ?vz13) rfl (by kernel_rfl) (by kernel_rfl) (by kernel_rfl) (fun _ _ _ h => h) (by rfl) (fun w' hS => ?hyz13) ?restz13
  case hyz13 => have hh := CCVW.out w' hS; go_simp; rfl
  simp only [Act.put, List.setIfInBounds_toArray, List.set_cons_zero, List.set_cons_succ]
  refine Reg.call_op 8 rfl (by kernel_rfl) (by rfl) 34 #[.agg kl.toArray, .int .i64 (u : Int), .slice (some ⟨b2, o2, none⟩) k c] (by go_simp) ?_
  refine Calls.mono (ct) ?_
  rintro e w1 ⟨v1, rfl, hown1, hb1⟩
  obtain ⟨A1, c1, hv1, hc1, hm1, hr1⟩ := own_rda (S := fun _ => False) hown1 (fun _ _ x => x)
  subst hv1
  have hz1 : B + 1 ≤ w1.heap.size := by have := HS0.out; have := hb1.size; omega
  have hra1 : w1.rangeAt w.heap.size 0 kl := range_below hra (by have := HS0.out; have := EB.out; omega) hb1
  have HRA1 := Lib.hid hra1
  have RT := Lib.hid hr1.rd
  have H1 := Lib.hid (HB0.out.trans (hb1.mono (by have := HS0.out; omega)))
  have Z1 := Lib.hid hz1
  refine ⟨_, rfl, hb1, ?_⟩
  clear ct hown1 hc1 hm1 hr1 hb1 hz1 hra1
  simp only [Act.put, List.setIfInBounds_toArray, List.set_cons_zero, List.set_cons_succ]
  refine Reg.take_op 9 (v := ?vz9) rfl (by kernel_rfl) (by kernel_rfl) (by kernel_rfl) (fun _ _ _ h => h) (by rfl) (fun w' hS => ?hyz9) ?restz9
  case hyz9 => have hh := CTV.out w' A1 c1 (RT.out.below hS |>.more (hS.size)); go_simp; rfl
  simp only [Act.put, List.setIfInBounds_toArray, List.set_cons_zero, List.set_cons_succ]
  refine Reg.take_op 14 (v := ?vz14) rfl (by kernel_rfl) (by kernel_rfl) (by kernel_rfl) (fun _ _ _ h => h) (by rfl) (fun w' hS => ?hyz14) ?restz14
  case hyz14 => go_simp; rfl
  simp only [Act.put, List.setIfInBounds_toArray, List.set_cons_zero, List.set_cons_succ]
  refine Reg.take_op 15 (v := ?vz15) rfl (by kernel_rfl) (by kernel_rfl) (by kernel_rfl) (fun _ _ _ h => h) (by rfl) (fun w' hS => ?hyz15) ?restz15
  case hyz15 => go_simp; rfl
  simp only [Act.put, List.setIfInBounds_toArray, List.set_cons_zero, List.set_cons_succ]
  refine wpAnyH_done (by kernel_rfl) ?_ _

  have hra1 : w1.drew.rangeAt w.heap.size 0 kl := HRA1.out
  have cm := CMIX.out w1.drew (below_drewN H1.out 1)
  have D1 : Hid (Below B w w1.drew) := below_drewN H1.out 1
  have Z2 : Hid (B + 1 ≤ w1.drew.heap.size) := Z1.out
  by_cases hTM : T = M
  · have e : sT = s8 := HC.out.2 hTM
    have hbb : (!(sT.toList == s8.toList)) = false := by rw [e]; simp
    rw [hbb]
    have HTM := Lib.hid hTM; clear hTM
    clear hra e hbb
    go_upto_region 9 with fail
    go_region_held3 (fun w' => w'.rangeAt w.heap.size 0 kl) (first | exact hra1 | exact hS2) (first
      | (go_at_call 33; refine Calls.mono cm ?_; rintro e w2 ⟨v2, rfl, hown2, hb2⟩; clear cm; have hS2 : w2.rangeAt w.heap.size 0 kl := range_below hra1 (by have := Z2.out; have := EB.out; omega) hb2; obtain ⟨A2, c2, hv2, hc2, hm2, hr2⟩ := own_rda (S := fun _ => False) hown2 (fun _ _ x => x); subst hv2; have H2 := Lib.hid (D1.out.trans (hb2.mono (by have := Z2.out; omega))); have R2 := Lib.hid hr2.rd; clear hb2 hown2 hc2 hm2 hr2))
    all_goals (
      clear hra1 hS2
      go_wp2_with fail
      go_ret2
      exact ⟨⟨A2, ⟨c2, rfl⟩, R2.out⟩, EB.out ▸ H2.out⟩)
  · have hne : ¬ sT = s8 := fun h => hTM (HC.out.1 h)
    have hbb : (!(sT.toList == s8.toList)) = true := by
      rw [Bool.not_eq_true']
      apply beq_eq_false_iff_ne.2
      intro h
      exact hne (bytes_same h)
    rw [hbb]
    have HTM := Lib.hid hTM; clear hTM
    clear hra hra1 hne hbb cm
    go_wp2_with fail
    go_ret2
    exact ⟨rfl, EB.out ▸ H1.out⟩
end Go.Proofs.YtcjibpjdfhhhkaaGreat.Se
end

section
set_option linter.unusedVariables false
namespace Go.Proofs.YtcjibpjdfhhhkaaGreat.Se
open Go.RowKit Go.Proofs.YtcjibpjdfhhhkaaGreat.Mem

theorem RdA.out {w w' : World} {b g : Nat} {h : Option Nat} {A : Option Addr} {xs : List Value} {ks : Nat → UInt8} {a o r : Nat} (hr : RdA (Nw w.heap.size g) w' A xs) (hK : Box w b ks h a o r) : RdA (Ow b (some g)) w' A xs := hr.mono fun i _ hx => by
  rcases hx with hx | hx
  · exact .inl (hx ▸ hK.lt)
  · injection hx with hx; exact .inr hx.symm
def k1 : Nat → UInt8 := fun i => if i = 0 then 1 else 0
end Go.Proofs.YtcjibpjdfhhhkaaGreat.Se
end

section
set_option linter.unusedVariables false
namespace Go.Proofs.YtcjibpjdfhhhkaaGreat.SeL
open Go.RowKit Go.Proofs.YtcjibpjdfhhhkaaGreat.Mem Go.Proofs.YtcjibpjdfhhhkaaGreat.Se

theorem Ow_some {b g i : Nat} (h : Ow b (some g) i) : i = b ∨ i = g := by
  rcases h with h | h
  · exact .inl h
  · injection h with h; exact .inr h.symm
end Go.Proofs.YtcjibpjdfhhhkaaGreat.SeL
end

section
set_option linter.unusedVariables false
namespace Go.Proofs.YtcjibpjdfhhhkaaGreat.SeL
open Go.RowKit Go.Proofs.YtcjibpjdfhhhkaaGreat.Mem Go.Proofs.YtcjibpjdfhhhkaaGreat.Se

def sealR (ks : Nat → UInt8) (u n : Int) (p : List UInt8) : List UInt8 × Int :=
  if 0 ≤ u ∧ u ≤ 255 ∧ 0 ≤ n ∧ n ≤ 1099511627776 ∧ p.length ≤ 784 then (sealL ks u.toNat n.toNat p, 0) else ([], 1)
def openR (ks : Nat → UInt8) (u : Int) (l : List UInt8) : List UInt8 × Int :=
  if 0 ≤ u ∧ u ≤ 255 then (if isL ks u.toNat l = true then (mixL ks u.toNat (n8 l) (midL l), 0) else ([], 3)) else ([], 1)
def Ns (n b : Nat) (h : Option Nat) (i : Nat) : Prop := i < n ∨ Ow b h i
theorem nw_ns {n b g : Nat} {w : World} {A : Option Addr} {xs : List Value} (hr : RdA (Nw n g) w A xs) (hb : b < n) : RdA (Ns n b (some g)) w A xs := hr.mono fun i _ hx => by
  rcases hx with hx | hx
  · exact .inl hx
  · rcases Ow_some hx with h | h
    · exact .inl (by omega)
    · exact .inr h
theorem midL_length (l : List UInt8) (h : 16 ≤ l.length) : (midL l).length = l.length - 16 := by
  rw [midL, headL, List.length_drop, List.length_take]; omega
theorem isL_len {ks : Nat → UInt8} {u : Nat} {l : List UInt8} (h : isL ks u l = true) : 16 ≤ l.length ∧ l.length ≤ 800 ∧ n8 l ≤ 1099511627776 ∧ tagL ks u (headL l) = n8 (lastL l) := by
  simp only [isL, Bool.and_eq_true, decide_eq_true_eq] at h
  exact ⟨h.1.1.1, h.1.1.2, h.1.2, h.2⟩
theorem isL_not {ks : Nat → UInt8} {u : Nat} {l : List UInt8} (h : isL ks u l = false) : (l.length < 16 ∨ 800 < l.length ∨ 1099511627776 < n8 l) ∨ (16 ≤ l.length ∧ l.length ≤ 800 ∧ n8 l ≤ 1099511627776 ∧ tagL ks u (headL l) ≠ n8 (lastL l)) := by
  by_cases h1 : l.length < 16 ∨ 800 < l.length ∨ 1099511627776 < n8 l
  · exact .inl h1
  · refine .inr ⟨by omega, by omega, by omega, fun h2 => ?_⟩
    rw [isL_long (by omega) (by omega) (by omega), h2] at h
    simp at h

theorem seal_res (b : Nat) (ks : Nat → UInt8) (h : Option Nat) (a o r : Nat) (u N : Int) (A : Option Addr) (m c : Nat) (p : List UInt8) (w : World) (ha : a < 1000000) (wN : (Lit.int .i64 N).wf = true) (hm : m = p.length) (hml : m ≤ maxLen) (hr : RdA (Ow b h) w A (bvs p)) (hK : Box w b ks h a o r) :
    Calls Tryz.prog 11 #[.pointer (some ⟨b, 0, none⟩), .int .i64 u, .int .i64 N, .slice A m c] w fun e w' => ∃ A2 c2 h' a', e = .returned (.tuple #[.slice A2 (sealR ks u N p).1.length c2, .int .i64 (sealR ks u N p).2]) ∧ (sealR ks u N p).1.length ≤ c2 ∧ c2 ≤ maxLen ∧ RdA (Ns w.heap.size b h') w' A2 (bvs (sealR ks u N p).1) ∧ Box w' b ks h' a' o r ∧ StepO w w' b h h' ∧ a' ≤ a + 1 := by
  by_cases hx : 0 ≤ u ∧ u ≤ 255 ∧ 0 ≤ N ∧ N ≤ 1099511627776 ∧ m ≤ 784
  · obtain ⟨u', rfl⟩ : ∃ k : Nat, u = (k : Int) := ⟨u.toNat, by omega⟩
    obtain ⟨n', rfl⟩ : ∃ k : Nat, N = (k : Int) := ⟨N.toNat, by omega⟩
    have e : sealR ks (u' : Int) (n' : Int) p = (sealL ks u' n' p, 0) := by rw [sealR, if_pos (by omega)]; rfl
    rw [e]
    refine (seal_ok b ks h a o r u' n' A m c p w ha (by omega) (by omega) hm (by omega) hr hK).mono ?_
    rintro e w' ⟨g, A2, c2, rfl, h1, h2, h3, h4, h5⟩
    exact ⟨A2, c2, some g, a + 1, by rw [sealL_length, hm], by rw [sealL_length, ← hm]; exact h1, h2, nw_ns h3 hK.lt, h4, h5.o, Nat.le_refl _⟩
  · have e : sealR ks u N p = ([], 1) := by rw [sealR, if_neg (by omega)]
    rw [e]
    refine (seal_bad b u N A m c w wN hml hx).mono ?_
    rintro e w' ⟨rfl, hw⟩
    subst hw
    exact ⟨none, 0, h, a, rfl, Nat.le_refl _, Nat.zero_le _, .inl rfl, hK, StepO.refl _ _ _, by omega⟩
theorem open_res (b : Nat) (ks : Nat → UInt8) (h : Option Nat) (a o r : Nat) (u : Int) (A : Option Addr) (n c : Nat) (l : List UInt8) (w : World) (ho : o < 1000000) (hr1 : r < 1000000) (hn : n = l.length) (hc : n ≤ c) (hm : c ≤ maxLen) (hr : RdA (Ow b h) w A (bvs l)) (hK : Box w b ks h a o r) :
    Calls Tryz.prog 18 #[.pointer (some ⟨b, 0, none⟩), .int .i64 u, .slice A n c] w fun e w' => ∃ A2 c2 h' o' r', e = .returned (.tuple #[.slice A2 (openR ks u l).1.length c2, .int .i64 (openR ks u l).2]) ∧ (openR ks u l).1.length ≤ c2 ∧ c2 ≤ maxLen ∧ RdA (Ns w.heap.size b h') w' A2 (bvs (openR ks u l).1) ∧ Box w' b ks h' a o' r' ∧ StepO w w' b h h' ∧ o' ≤ o + 1 ∧ r' ≤ r + 1 := by
  by_cases hx : 0 ≤ u ∧ u ≤ 255
  · obtain ⟨u', rfl⟩ : ∃ k : Nat, u = (k : Int) := ⟨u.toNat, by omega⟩
    cases hi : isL ks u' l with
    | true =>
      have e : openR ks (u' : Int) l = (mixL ks u' (n8 l) (midL l), 0) := by rw [openR, if_pos hx]; show (if isL ks u' l = true then _ else _) = _; rw [if_pos hi]; rfl
      have hl := isL_len hi
      have e2 : (mixL ks u' (n8 l) (midL l)).length = n - 16 := by rw [mixL_length, midL_length l hl.1, hn]
      rw [e]
      refine (open_ok b ks h a o r u' A n c l w ho (by omega) hn hc hm hr hK hi).mono ?_
      rintro e w' ⟨g, A2, c2, rfl, h1, h2, h3, h4, h5⟩
      exact ⟨A2, c2, some g, o + 1, r, by rw [e2], by rw [e2]; exact h1, by unfold maxLen; omega, nw_ns h3 hK.lt, h4, h5.o, Nat.le_refl _, by omega⟩
    | false =>
      have e : openR ks (u' : Int) l = ([], 3) := by rw [openR, if_pos hx]; show (if isL ks u' l = true then _ else _) = _; rw [hi]; rfl
      rw [e]
      refine (open_ref b ks h a o r u' A n c l w hr1 (by omega) hn hc hm hr hK hi).mono ?_
      rintro e w' ⟨rfl, h', h1, h2⟩
      exact ⟨none, 0, h', o, r + 1, rfl, Nat.le_refl _, Nat.zero_le _, .inl rfl, h1, h2, by omega, Nat.le_refl _⟩
  · have e : openR ks u l = ([], 1) := by rw [openR, if_neg hx]
    rw [e]
    refine (open_bad b u _ w hx).mono ?_
    rintro e w' ⟨rfl, hw⟩
    subst hw
    exact ⟨none, 0, h, o, r, rfl, Nat.le_refl _, Nat.zero_le _, .inl rfl, hK, StepO.refl _ _ _, by omega, by omega⟩
theorem dopen_res (ks : Nat → UInt8) (u : Int) (A : Option Addr) (n c : Nat) (l : List UInt8) (w : World) (hn : n = l.length) (hc : n ≤ c) (hr : Rd w w.heap.size A (bvs l)) :
    Calls Tryz.prog 19 #[.agg (key32 ks), .int .i64 u, .slice A n c] w fun e w' => ∃ A2 c2, e = .returned (.tuple #[.slice A2 (openR ks u l).1.length c2, .int .i64 (openR ks u l).2]) ∧ Rd w' w'.heap.size A2 (bvs (openR ks u l).1) ∧ Below w.heap.size w w' := by
  by_cases hx : 0 ≤ u ∧ u ≤ 255
  · obtain ⟨u', rfl⟩ : ∃ k : Nat, u = (k : Int) := ⟨u.toNat, by omega⟩
    cases hi : isL ks u' l with
    | true =>
      have e : openR ks (u' : Int) l = (mixL ks u' (n8 l) (midL l), 0) := by rw [openR, if_pos hx]; show (if isL ks u' l = true then _ else _) = _; rw [if_pos hi]; rfl
      have hl := isL_len hi
      have e2 : (mixL ks u' (n8 l) (midL l)).length = n - 16 := by rw [mixL_length, midL_length l hl.1, hn]
      rw [e]
      refine (dopen_long ks u' A n c l w (by omega) hn hc hr hl.1 hl.2.1 hl.2.2.1).mono ?_
      rintro e w' ⟨h1, h2⟩
      rw [if_pos hl.2.2.2] at h1
      obtain ⟨A2, c2, rfl, h3⟩ := h1
      exact ⟨A2, c2, by rw [e2], h3, h2⟩
    | false =>
      have e : openR ks (u' : Int) l = ([], 3) := by rw [openR, if_pos hx]; show (if isL ks u' l = true then _ else _) = _; rw [hi]; rfl
      rw [e]
      rcases isL_not hi with h1 | ⟨h1, h2, h3, h4⟩
      · refine (dopen_short ks u' A n c l w (by omega) hn hr h1).mono ?_
        rintro e w' ⟨rfl, hb⟩
        exact ⟨none, 0, rfl, .inl rfl, hb⟩
      · refine (dopen_long ks u' A n c l w (by omega) hn hc hr h1 h2 h3).mono ?_
        rintro e w' ⟨h5, h6⟩
        rw [if_neg h4] at h5
        exact ⟨none, 0, h5, .inl rfl, h6⟩
  · have e : openR ks u l = ([], 1) := by rw [openR, if_neg hx]
    rw [e]
    refine (dopen_bad ks u A n c w hx).mono ?_
    rintro e w' ⟨rfl, hb⟩
    exact ⟨none, 0, rfl, .inl rfl, hb⟩
end Go.Proofs.YtcjibpjdfhhhkaaGreat.SeL
end

section
set_option linter.unusedVariables false
set_option linter.unusedSimpArgs false
namespace Go.Proofs.YtcjibpjdfhhhkaaGreat.Rg
open Go.RowKit Go.Proofs.YtcjibpjdfhhhkaaGreat.Mem Go.Proofs.YtcjibpjdfhhhkaaGreat.Se

section
variable {w w' : World} {B r i : Nat} {v v' : Value} {es es' : List Ent} {e : Ent} {A : Option Addr} {xs : List Value}
theorem ow_ro (he : es[i]? = some e) {k : Nat} (h : Ow e.b e.h k) : RO r v es k := .inr (.inr ⟨i, e, he, h⟩)
theorem rda_add (h : RdA (RO r v es) w A xs) (hc : Chg (AT r v) w w') (hn : ∀ q, RO r v' es' q → RO r v es q ∨ w.heap.size ≤ q) : RdA (RO r v' es') w' A xs :=
  h.keep hc (fun q _ hq => at_ro hq) (fun q hq x => (hn q x).elim id (fun y => by omega))
theorem rda_below (h : RdA (RO r v es) w A xs) (hb : Below w.heap.size w w') : RdA (RO r v es) w' A xs :=
  h.keep (Chg.of_below hb : Chg (fun _ => False) w w') (fun _ _ x => x.elim) (fun _ _ x => x)
theorem rda_use (h : RdA (RO r v es) w A xs) (hr : Ring w B r v es) (he : es[i]? = some e) {h' : Option Nat} (a o q : Nat) (hs : StepO w w' e.b e.h h') : RdA (RO r v (es.set i ⟨e.it, e.b, h', a, o, q⟩)) w' A xs :=
  h.keep hs.1 (fun k _ hk => ow_ro he hk) (fun k hk x => (hr.use_new he a o q hs k x).elim id (fun y => by omega))
theorem rda_out {h' : Option Nat} (h : RdA (SeL.Ns w.heap.size e.b h') w' A xs) (hr : Ring w B r v es) (he : es[i]? = some e) (a o q : Nat) : RdA (RO r v (es.set i ⟨e.it, e.b, h', a, o, q⟩)) w' A xs :=
  h.mono fun k _ hk => by
    have hi := (List.getElem?_eq_some_iff.1 he).1
    rcases hk with hk | hk | ⟨j, f, hf, hk⟩
    · exact .inl (hr.own_lt (.inl hk))
    · exact .inl (hr.own_lt (.inr (.inl hk)))
    · by_cases g : i = j
      · subst g
        rw [List.getElem?_set_self hi] at hf
        injection hf with hf
        subst hf
        exact .inr hk
      · rw [List.getElem?_set_ne g] at hf
        exact .inl (hr.own_lt (.inr (.inr ⟨j, f, hf, hk⟩)))
theorem rda_old {B' : Nat} (h : Rd w B' A xs) (hB : B' ≤ B) (hr : Ring w B r v es) (hBw : B ≤ w.heap.size) : RdA (RO r v es) w A xs :=
  RdA.of_rd (B := B') h (by omega) (fun k hk => by have := hr.own_lo hk; omega)
theorem use_below {w0 : World} (hb : Below B w0 w) (hB : B ≤ w.heap.size) (hr : Ring w B r v es) (he : es[i]? = some e) {h' : Option Nat} (hs : StepO w w' e.b e.h h') : Below B w0 w' :=
  hb.trans (hs.1.below hB (fun k _ hk => hr.own_lo (ow_ro he hk)))
theorem blk_use {g : Nat} {t : TypeId} {cs : Array Value} (h : Blk w g t cs) (hn : ¬ RO r v es g) (he : es[i]? = some e) {h' : Option Nat} (hs : StepO w w' e.b e.h h') : Blk w' g t cs := hs.1.blk h (fun x => hn (ow_ro he x))
theorem not_use {g : Nat} (hg : g < w.heap.size) (hn : ¬ RO r v es g) (hr : Ring w B r v es) (he : es[i]? = some e) {h' : Option Nat} (a o q : Nat) (hs : StepO w w' e.b e.h h') : ¬ RO r v (es.set i ⟨e.it, e.b, h', a, o, q⟩) g := fun x => by
  rcases hr.use_new he a o q hs g x with h | h
  · exact hn h
  · omega
end
theorem ring_seal {w : World} {B r i : Nat} {v : Value} {es : List Ent} {x : Ent} (h : Ring w B r v es) (he : es[i]? = some x) (ha : x.a < 1000000) (hB : B ≤ w.heap.size) (u N : Int) (A : Option Addr) (m c : Nat) (p : List UInt8) (wN : (Lit.int .i64 N).wf = true) (hm : m = p.length) (hml : m ≤ maxLen) (hr : RdA (RO r v es) w A (bvs p)) :
    Calls Tryz.prog 11 #[.pointer (some ⟨x.b, 0, none⟩), .int .i64 u, .int .i64 N, .slice A m c] w fun e w' => ∃ A2 c2 h' a', e = .returned (.tuple #[.slice A2 (SeL.sealR x.it.k u N p).1.length c2, .int .i64 (SeL.sealR x.it.k u N p).2]) ∧ (SeL.sealR x.it.k u N p).1.length ≤ c2 ∧ c2 ≤ maxLen ∧ RdA (RO r v (es.set i ⟨x.it, x.b, h', a', x.o, x.r⟩)) w' A2 (bvs (SeL.sealR x.it.k u N p).1) ∧ Ring w' B r v (es.set i ⟨x.it, x.b, h', a', x.o, x.r⟩) ∧ a' ≤ x.a + 1 ∧ StepO w w' x.b x.h h' := by
  refine (SeL.seal_res x.b x.it.k x.h x.a x.o x.r u N A m c p w ha wN hm hml (hr.mono fun k _ hk => ow_ro he hk) (h.box i x he)).mono ?_
  rintro e w' ⟨A2, c2, h', a', rfl, h1, h2, h3, h4, h5, h6⟩
  exact ⟨A2, c2, h', a', rfl, h1, h2, rda_out h3 h he _ _ _, h.use he h4 h5 hB, h6, h5⟩
theorem ring_open {w : World} {B r i : Nat} {v : Value} {es : List Ent} {x : Ent} (h : Ring w B r v es) (he : es[i]? = some x) (ho : x.o < 1000000) (hq : x.r < 1000000) (hB : B ≤ w.heap.size) (u : Int) (A : Option Addr) (m c : Nat) (p : List UInt8) (hm : m = p.length) (hc : m ≤ c) (hml : c ≤ maxLen) (hr : RdA (RO r v es) w A (bvs p)) :
    Calls Tryz.prog 18 #[.pointer (some ⟨x.b, 0, none⟩), .int .i64 u, .slice A m c] w fun e w' => ∃ A2 c2 h' o' q', e = .returned (.tuple #[.slice A2 (SeL.openR x.it.k u p).1.length c2, .int .i64 (SeL.openR x.it.k u p).2]) ∧ RdA (RO r v (es.set i ⟨x.it, x.b, h', x.a, o', q'⟩)) w' A2 (bvs (SeL.openR x.it.k u p).1) ∧ Ring w' B r v (es.set i ⟨x.it, x.b, h', x.a, o', q'⟩) ∧ StepO w w' x.b x.h h' := by
  refine (SeL.open_res x.b x.it.k x.h x.a x.o x.r u A m c p w ho hq hm hc hml (hr.mono fun k _ hk => ow_ro he hk) (h.box i x he)).mono ?_
  rintro e w' ⟨A2, c2, h', o', q', rfl, h1, h2, h3, h4, h5, h6, h7⟩
  exact ⟨A2, c2, h', o', q', rfl, rda_out h3 h he _ _ _, h.use he h4 h5 hB, h5⟩
end Go.Proofs.YtcjibpjdfhhhkaaGreat.Rg
end
