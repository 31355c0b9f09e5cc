import Derived.Laws.OwnMore
import Derived.Lib.SlBytesConst
import Derived.Deep.RegionHeld3
import Derived.Deep.LoopGhost
import Derived.Test.YtcjibpjdfhhhkaaGreatZRingPlays1
import Derived.Test.YtcjibpjdfhhhkaaGreatZRingPlays2
import Derived.Test.YtcjibpjdfhhhkaaGreatZRingPlays3
import Derived.Test.YtcjibpjdfhhhkaaGreatZRingPlays4
import Derived.Test.YtcjibpjdfhhhkaaGreatZRingPlays5
import Derived.Test.YtcjibpjdfhhhkaaGreatZRingPlays6
import Derived.Test.YtcjibpjdfhhhkaaGreatZRingPlays7
import Derived.Test.YtcjibpjdfhhhkaaGreatZRingPlays8
import Derived.Test.YtcjibpjdfhhhkaaGreatZRingPlays9
import Derived.Test.YtcjibpjdfhhhkaaGreatZRingPlays10
section
set_option linter.unusedVariables false
namespace Go.Proofs.YtcjibpjdfhhhkaaGreat.Se
open Go.RowKit Go.Proofs.YtcjibpjdfhhhkaaGreat.Mem

theorem mixL_next (ks : Nat → UInt8) (u n : Nat) (p : List UInt8) (i : Nat) (h : i < p.length) (h2 : i < (strmL ks u n p.length).length) : bvs ((mixL ks u n p).take i) ++ [bv (p[i] ^^^ (strmL ks u n p.length)[i])] = bvs ((mixL ks u n p).take (i + 1)) := by
  rw [List.take_add_one, mixL_at ks u n p i h h2, bvs_append]; rfl
theorem xor_b2 (y x : UInt8) : bits .xor .u8 (y.toNat : Int) (x.toNat : Int) = ((y ^^^ x).toNat : Int) := by
  rw [u8_xor_nat _ _ y.toNat_lt x.toNat_lt, UInt8.toNat_xor]
def twoW (w1 : World) (z : Array Value) (t : TypeId) (cs ds : Array Value) : World := (((w1.alloc (.cells z t)).alloc (.cells z t)).setCells w1.heap.size 0 cs.toList).setCells (w1.heap.size + 1) 0 ds.toList
theorem two_arrays (w1 : World) (z : Array Value) (t : TypeId) (cs ds : Array Value) (h1 : z.size = cs.size) (h2 : z.size = ds.size) :
    (twoW w1 z t cs ds).rangeAt w1.heap.size 0 cs.toList ∧ (twoW w1 z t cs ds).rangeAt (w1.heap.size + 1) 0 ds.toList ∧ Below w1.heap.size w1 (twoW w1 z t cs ds) ∧ w1.heap.size + 2 ≤ (twoW w1 z t cs ds).heap.size := by
  have t1 : ((w1.alloc (.cells z t)).alloc (.cells z t)).there w1.heap.size 0 cs.toList.length := by
    have := World.there_alloc (Si.there_blk (Blk.new w1 t z)) (.cells z t)
    rwa [h1, ← Array.length_toList] at this
  have t2 : ((w1.alloc (.cells z t)).alloc (.cells z t)).there (w1.heap.size + 1) 0 ds.toList.length := by
    have := Si.there_blk (Si.Blk.new_of (w1.alloc (.cells z t)) (w1.heap.size + 1) t z z rfl (by simp))
    rwa [h2, ← Array.length_toList] at this
  refine ⟨World.rangeAt_setCells_apart (World.rangeAt_setCells_same _ _ _ _ t1) _ _ _ (.inl (by omega)), World.rangeAt_setCells_same _ _ _ _ (World.there_setCells t2 _ _ _), ?_, ?_⟩
  · exact Si.below_setCells _ (by omega) _ _ _ (Si.below_setCells _ (Nat.le_refl _) _ _ _ (((Below.refl _ _).alloc (Nat.le_refl _) _).alloc (by simp) _))
  · unfold twoW; rw [SpL.setCells_size, SpL.setCells_size]; simp
set_option maxRecDepth 100000 in
set_option maxHeartbeats 3200000 in
theorem dmix (ks : Nat → UInt8) (u n : Nat) (A : Option Addr) (m c : Nat) (p : List UInt8) (w : World) (hu : u ≤ 255) (hn : n < 18446744073709551616) (hm : m = p.length) (hm2 : m ≤ 1000) (hr : Rd w w.heap.size A (bvs p)) :
    Calls Tryz.prog 33 #[.agg (key32 ks), .int .i64 (u : Int), .int .u64 (n : Int), .slice A m c] w fun e w' => ∃ v, e = .returned v ∧ w'.ownsRow w.heap.size 5 1 v m (bvs (mixL ks u n p)) ∧ Below w.heap.size w w' := by
  obtain ⟨ib, hi0, hz0, hs0, hb0⟩ := info_parts Si.u8_info
  obtain ⟨B, eB⟩ : ∃ B, B = w.heap.size := ⟨_, rfl⟩
  obtain ⟨N, eN⟩ : ∃ N, N = sn u n := ⟨_, rfl⟩
  have hsn := sn_wrap u n hu
  have hsn2 := sn_num u n hu
  have hsnlt := sn_lt u n
  rw [← eN] at hsn hsn2 hsnlt
  have hu1 : (u : Int) % 18446744073709551616 = (u : Int) := by omega
  have hstr : Sp.strm (Sp.kw ks) (Sp.upW N) (Sp.loW N) m = strmL ks u n m := by rw [eN]; rfl
  have ch := fun w1 => dhalves ks w1
  have cw := fun w1 => Sp.dwords ks w1
  have cst := fun w1 => SpL.dstream (Sp.kw ks) N m (m : Int) w1 hsnlt hm2 (by simp)
  rw [hstr] at cst
  have i32 := info32 ks
  have i16 := info16 ks
  have i16b := info16 (k2 ks)
  have o16 := one16 ks
  have o16b := one16 (k2 ks)
  have z16 := key16_size ks
  have z16b := key16_size (k2 ks)
  obtain ⟨kc, ekc⟩ : ∃ kc, kc = key32 ks := ⟨_, rfl⟩
  obtain ⟨cs, ecs⟩ : ∃ cs, cs = Sp.key16 ks := ⟨_, rfl⟩
  obtain ⟨ds, eds⟩ : ∃ ds, ds = Sp.key16 (k2 ks) := ⟨_, rfl⟩
  obtain ⟨xs, exs⟩ : ∃ xs, xs = Sp.cells27 (Sp.kw ks) := ⟨_, rfl⟩
  rw [← ekc] at ch i32 ⊢
  rw [← ecs] at ch cw i16 o16 z16
  rw [← eds] at ch i16b o16b z16b
  rw [← exs] at cw cst
  have hz : Sp.key16 (fun _ => 0) = #[.int .u8 0, .int .u8 0, .int .u8 0, .int .u8 0, .int .u8 0, .int .u8 0, .int .u8 0, .int .u8 0, .int .u8 0, .int .u8 0, .int .u8 0, .int .u8 0, .int .u8 0, .int .u8 0, .int .u8 0, .int .u8 0] := rfl
  have EB := Lib.hid eB
  have HR := Lib.hid (eB ▸ hr); clear hr
  have HM := Lib.hid hm; clear hm
  have q3 : (m : Int) ≤ 1000 := by omega
  have HM2 := Lib.hid hm2; clear hm2
  have I32 := Lib.hid i32; clear i32
  have I16 := Lib.hid i16; clear i16
  have I16B := Lib.hid i16b; clear i16b
  have O16 := Lib.hid o16; clear o16
  have O16B := Lib.hid o16b; clear o16b
  have Z16 := Lib.hid z16; clear z16
  have Z16B := Lib.hid z16b; clear z16b
  have HZ := Lib.hid hz; clear hz
  have CST := Lib.hid cst; clear cst
  have HSN := Lib.hid hsn; clear hsn
  have HSN2 := Lib.hid hsn2
  have HSN3 : Hid (((n : Int) * 256 + (u : Int)) % 18446744073709551616 = (N : Int)) := by rw [← hsn2]; show _ = _; omega
  have HSN4 : Hid (IntKind.u64.wrap (IntKind.u64.wrap ((n : Int) * 256) + (u : Int)) = (N : Int)) := by rw [IntKind.wrap_u64, IntKind.wrap_u64]; omega
  clear hsn2
  have h0 : Blk (w.alloc (.cells kc 33)) B 33 kc := eB ▸ Blk.new w _ _
  have hb0' : Below B w (w.alloc (.cells kc 33)) := eB ▸ (Below.refl w.heap.size w).alloc (Nat.le_refl _) _
  have H0 := Lib.hid h0; clear h0
  have HB0 := Lib.hid hb0'; clear hb0'
  clear hu hn hstr hsnlt eN ekc ecs eds exs eB
  go_enter Tryz.func33, Tryz.ntmps33
  go_upto_region 2 with (first
    | (refine load_cells (by rfl) 33 (.tmp 4) (by rfl) w.heap.size 0 (by rfl) kc _ (Si.range_blk (Blk.new w 33 kc)) Tryz.underlying33 (by rfl) I32.out ?_)
    | (go_at_call 49; refine Calls.mono (ch _) ?_; rintro e w1 ⟨rfl, hb1⟩; clear ch; have hb1 := HB0.out.trans (hb1.mono (by have := EB.out; simp; omega)); have H1 := Lib.hid hb1; clear hb1)
    | (refine wpList_store_mid (by rfl) 93 (.tmp 9) (.tmp 17) (by rfl) w1.heap.size 0 cs (by rfl) (by rfl) (by rw [Z16.out]; exact World.there_alloc (by have := Si.there_blk (Blk.new w1 93 (Sp.key16 fun _ => 0)); rwa [key16_size] at this) _) I16.out O16.out ?_)
    | (refine wpList_store_mid (by rfl) 93 (.tmp 10) (.tmp 18) (by rfl) (w1.heap.size + 1) 0 ds (by rfl) (by rfl) (by rw [Z16B.out]; exact World.there_setCells (by have := Si.there_blk (Si.Blk.new_of (w1.alloc (.cells (Sp.key16 fun _ => 0) 93)) (w1.heap.size + 1) 93 _ (Sp.key16 fun _ => 0) rfl (by simp)); rwa [key16_size] at this) _ _ _) I16B.out O16B.out ?_)
    | fail)
  have h2 := two_arrays w1 (Sp.key16 fun _ => 0) 93 cs ds (by rw [key16_size, Z16.out]) (by rw [key16_size, Z16B.out])
  change Code.wp _ _ _ _ (twoW w1 (Sp.key16 fun _ => 0) 93 cs ds)
  generalize twoW w1 (Sp.key16 fun _ => 0) 93 cs ds = W2 at h2 ⊢
  have hb2 := H1.out.trans (h2.2.2.1.mono (by have := H1.out.size; have := EB.out; omega))
  have HB2 := Lib.hid hb2; clear hb2
  have HA2 := Lib.hid h2.1; clear h2
  have cw2 := cw W2
  clear cw
  go_wp2_with (first
    | (refine load_cells (by rfl) 93 (.tmp 9) (by rfl) w1.heap.size 0 (by rfl) cs _ HA2.out Tryz.underlying93 (by rfl) I16.out ?_)
    | (go_at_call 51; refine Calls.mono cw2 ?_; rintro e w3 ⟨rfl, hb3⟩; clear cw2; have hb3 := HB2.out.trans (hb3.mono (by have := HB2.out.size; have := EB.out; omega)); have c4 := CST.out w3; have H3 := Lib.hid hb3; clear hb3)
    | (go_at_call 50; (first | rw [HSN2.out] | rw [HSN.out] | rw [HSN3.out] | rw [HSN4.out]); refine Calls.mono c4 ?_; rintro e w5 ⟨As, sc, rfl, hsc, hrs, hb5⟩; clear c4; have hb5 := H3.out.trans (hb5.mono (by have := H3.out.size; have := EB.out; omega)); have H5 := Lib.hid hb5; have RS := Lib.hid hrs; clear hb5 hrs)
    | fail)
  obtain ⟨N0, eN0⟩ : ∃ N0, N0 = w5.heap.size := ⟨_, rfl⟩
  have EN := Lib.hid eN0; clear eN0
  have hsm : (strmL ks u n m).length = m := strmL_length ks u n m
  have HSM := Lib.hid hsm; clear hsm
  go_loopw [12, 13] (fun bv_ iv wr => ∃ i : Nat, i ≤ m ∧ iv = .int .i64 (i : Int) ∧ wr.ownsRow N0 5 1 bv_ i (bvs ((mixL ks u n p).take i)) ∧ Below N0 w5 wr) (fun _ iv _ => m - (intOf iv).toNat)
  case atStart => exact ⟨0, Nat.zero_le _, rfl, ⟨rfl, .inl ⟨rfl, rfl⟩⟩, Below.refl _ _⟩
  case round =>
    obtain ⟨i, hi, rfl, hown, hbl⟩ := hrel
    have HO := Lib.hid hown; clear hown
    have HW := Lib.hid hbl; clear hbl
    by_cases hx : i = m
    · subst hx
      go_wp2_with fail
      go_ret
      have h9 := HO.out
      rw [List.take_of_length_le (by rw [mixL_length, HM.out]; exact Nat.le_refl _)] at h9
      refine ⟨_, rfl, h9.mono (by have := EN.out; have := H5.out.size; omega), ?_⟩
      rw [← EB.out]
      exact H5.out.trans (HW.out.mono (by have := EN.out; have := H5.out.size; have := EB.out; omega))
    · have hlt : i < m := by omega
      have hlp : i < p.length := by have := HM.out; omega
      have e1 : (i : Int) < (m : Int) := by omega
      have e2 : (0 : Int) ≤ (i : Int) := by omega
      have e3 : (i : Int) < 1000 := by omega
      have hls : i < (strmL ks u n p.length).length := by rw [strmL_length]; exact hlp
      have hls2 : i < (strmL ks u n m).length := by rw [strmL_length]; exact hlt
      obtain ⟨y, ey⟩ : ∃ y, y = p[i] := ⟨_, rfl⟩
      obtain ⟨x, ex⟩ : ∃ x, x = (strmL ks u n p.length)[i] := ⟨_, rfl⟩
      obtain ⟨z, ez⟩ : ∃ z, z = y ^^^ x := ⟨_, rfl⟩
      obtain ⟨b1, o1, rfl, hb1', hc1⟩ := HR.out.at_ (bvs_at hlp)
      obtain ⟨b2, o2, rfl, hb2', hc2⟩ := RS.out.at_ (bvs_at hls2)
      rw [← ey] at hc1
      have hex : (strmL ks u n m)[i] = x := by
        rw [ex]
        have := HM.out
        subst this
        rfl
      rw [hex] at hc2
      have hb1n : b1 < N0 := by have := EN.out; have := H5.out.size; have := EB.out; omega
      have hb2n : b2 < N0 := by have := EN.out; omega
      have d1 : wr.cell? ⟨b1, o1 + i, none⟩ = some (.int .u8 (y.toNat : Int)) := (HW.out.cell (p := ⟨b1, o1 + i, none⟩) hb1n).trans ((H5.out.cell (p := ⟨b1, o1 + i, none⟩) hb1').trans hc1)
      have d2 : wr.cell? ⟨b2, o2 + i, none⟩ = some (.int .u8 (x.toNat : Int)) := (HW.out.cell (p := ⟨b2, o2 + i, none⟩) hb2n).trans hc2
      have hxo : bits .xor .u8 (y.toNat : Int) (x.toNat : Int) = (z.toNat : Int) := by rw [ez]; exact xor_b2 y x
      have hnx := mixL_next ks u n p i hlp hls
      rw [← ey, ← ex, ← ez] at hnx
      have NX := Lib.hid hnx; clear hnx
      have HX := Lib.hid hx; clear hx
      have HI := Lib.hid hi; clear hi
      clear ey ex ez hc1 hc2 hex hls hls2 hb1' hb2' hb1n hb2n
      go_wp2_with fail
      go_region_law (refine step_append_lies _ (by rfl) (.tmp 35) (.tmp 45) 46 (by rfl) N0 5 ib _ 1 1 Tryz.underlying46 hi0 hz0 hs0 hb0 (by rfl) (by decide) u12 i (bvs ((mixL ks u n p).take i)) (by rfl) (own_push HO.out (by rfl)) ⟨wr.heap.size, 0, none⟩ 1 1 [.int .u8 (z.toNat : Int)] (by rfl) (by rfl) (Sp.news_push (by rfl)) (by simp [Value.oneCell']) (by decide) (by have := HI.out; have := HM2.out; unfold maxLen; omega) (by have := HI.out; have := HM2.out; omega) (by have := EN.out; have := HW.out.size; simp; omega) (wr.heap.size + 1) (by simp) ?_; intro g2 cap2 w2 hown2 hgrow hat hlt)
      all_goals (
        have hg2 : (wr.alloc (.cells #[.int .u8 (z.toNat : Int)] 5)).grownBy w2 u12.ownBlock := ⟨hgrow.os, hgrow.tape, hgrow.output, hgrow.size, hgrow.block⟩
        have hb2 := (HW.out.alloc (by have := EN.out; have := HW.out.size; omega) (Obj.cells #[.int .u8 (z.toNat : Int)] 5)).grown hg2 (by have := EN.out; have := HW.out.size; simp; omega) (fun q hq => (HO.out.lt q hq).1)
        have O6 := Lib.hid hown2; clear hown2
        have B6 := Lib.hid hb2; clear hb2
        clear hgrow hat hlt hg2 d1 d2
        go_wp2_with fail
        go_roundw
        case rel => exact ⟨i + 1, by omega, by go_num, by rw [← NX.out]; exact O6.out, B6.out⟩
        case measure => simp [intOf]; omega)
end Go.Proofs.YtcjibpjdfhhhkaaGreat.Se
end

section
set_option linter.unusedVariables false
namespace Go.Proofs.YtcjibpjdfhhhkaaGreat.Se
open Go.RowKit Go.Proofs.YtcjibpjdfhhhkaaGreat.Mem

theorem range_grown {w w' : World} {b o : Nat} {cs : List Value} {row : Option Nat} (h : w.rangeAt b o cs) (hb : b < w.heap.size) (hg : w.grownBy w' row) (hr : row ≠ some b) : w'.rangeAt b o cs := fun j v hv =>
  (World.cell?_of_block (a := ⟨b, o + j, none⟩) (hg.block b hb (fun e => hr e.symm))).trans (h j v hv)
theorem range_below {w w' : World} {b o : Nat} {cs : List Value} (h : w.rangeAt b o cs) (hb : b < w.heap.size) (hg : Below w.heap.size w w') : w'.rangeAt b o cs := range_grown h hb (g_of_below hg none) (by simp)
set_option maxRecDepth 100000 in
set_option maxHeartbeats 3200000 in
theorem dtag (ks : Nat → UInt8) (u : Nat) (A : Option Addr) (m c : Nat) (l : List UInt8) (w : World) (hu : u ≤ 255) (hm : m = l.length) (hm2 : m ≤ 1000) (hr : Rd w w.heap.size A (bvs l)) :
    Calls Tryz.prog 34 #[.agg (key32 ks), .int .i64 (u : Int), .slice A m c] w fun e w' => ∃ v, e = .returned v ∧ w'.ownsRow w.heap.size 5 1 v 8 (bvs (w8 (tagL ks u l))) ∧ Below w.heap.size w w' := by
  obtain ⟨ib, hi0, hz0, hs0, hb0⟩ := info_parts Si.u8_info
  obtain ⟨B, eB⟩ : ∃ B, B = w.heap.size := ⟨_, rfl⟩
  have ch := fun w1 => dhalves ks w1
  have i32 := info32 ks
  have i16 := info16 ks
  have i16b := info16 (k2 ks)
  have o16 := one16 ks
  have o16b := one16 (k2 ks)
  have z16 := key16_size ks
  have z16b := key16_size (k2 ks)
  obtain ⟨T, eT⟩ : ∃ T, T = tagL ks u l := ⟨_, rfl⟩
  have hTL : T < 18446744073709551616 := by rw [eT]; exact tagL_lt _ _ _
  have csum := fun (w4 : World) (A4 : Option Addr) (c4 : Nat) (h1 : 1 + m ≤ c4) (h2 : c4 ≤ maxLen) (h3 : Rd w4 w4.heap.size A4 (bvs (UInt8.ofNat u :: l))) => Si.dsum_any (k2 ks) A4 (1 + m) c4 (UInt8.ofNat u :: l) w4 (by rw [List.length_cons, hm, Nat.add_comm]) (by omega) h1 h2 h3
  have hT : ∀ e, e = Ending.returned (Si.wv (Si.sumOf (k2 ks) (UInt8.ofNat u :: l))) → e = .returned (.int .u64 (T : Int)) := fun e h => by rw [h, eT]; rfl
  have hbu : [Value.int .u8 (u : Int)] ++ bvs l = bvs (UInt8.ofNat u :: l) := by
    show [Value.int .u8 (u : Int)] ++ bvs l = bv (UInt8.ofNat u) :: bvs l
    rw [bv_num u hu]; rfl
  obtain ⟨kc, ekc⟩ : ∃ kc, kc = key32 ks := ⟨_, rfl⟩
  obtain ⟨cs, ecs⟩ : ∃ cs, cs = Sp.key16 ks := ⟨_, rfl⟩
  have hds : ∃ dl : List Value, dl.toArray = Sp.key16 (k2 ks) := ⟨_, rfl⟩
  obtain ⟨dl, edl⟩ := hds
  obtain ⟨L, eL⟩ : ∃ L, L = UInt8.ofNat u :: l := ⟨_, rfl⟩
  rw [← ekc] at ch i32 ⊢
  rw [← ecs] at ch i16 o16 z16
  rw [← edl] at ch i16b o16b z16b
  have hkk : Si.key16 (k2 ks) = Sp.key16 (k2 ks) := rfl
  rw [hkk, ← edl] at csum
  rw [← eL] at csum hT hbu
  rw [← eT]
  have u16 : (Tryz.prog.info? 93).map (·.size) = some dl.length := by rw [← List.size_toArray]; exact i16b
  have hu16 := Tryz.underlying93
  have hu1 : (u : Int) ≤ 255 := by omega
  have hu2 : (0 : Int) ≤ (u : Int) := by omega
  have hu3 : (u : Int) % 256 = (u : Int) := by omega
  have hu4 : IntKind.u8.wrap (u : Int) = (u : Int) := by rw [IntKind.wrap_u8']; exact hu3
  have EB := Lib.hid eB
  have HR := Lib.hid (eB ▸ hr); clear hr
  have HM := Lib.hid hm; clear hm
  have q3 : (m : Int) ≤ 1000 := by omega
  have HM2 := Lib.hid hm2; clear hm2
  have I32 := Lib.hid i32; clear i32
  have I16 := Lib.hid i16; clear i16
  have I16B := Lib.hid i16b; clear i16b
  have O16 := Lib.hid o16; clear o16
  have O16B := Lib.hid o16b; clear o16b
  have Z16 := Lib.hid z16; clear z16
  have Z16B := Lib.hid z16b; clear z16b
  have CSUM := Lib.hid csum; clear csum
  have HT := Lib.hid hT; clear hT
  have HBU := Lib.hid hbu; clear hbu
  have TL := Lib.hid hTL; clear hTL
  have U16 := Lib.hid u16; clear u16
  have HU16 := Lib.hid hu16; clear hu16
  have hb0' : Below B w (w.alloc (.cells kc 33)) := eB ▸ (Below.refl w.heap.size w).alloc (Nat.le_refl _) _
  have HB0 := Lib.hid hb0'; clear hb0'
  clear hu ekc ecs edl eT eL hkk eB
  go_enter Tryz.func34, Tryz.ntmps34
  go_upto_region 2 with (first
    | (refine load_cells (by rfl) 33 (.tmp 3) (by rfl) w.heap.size 0 (by rfl) kc _ (Si.range_blk (Blk.new w 33 kc)) Tryz.underlying33 (by rfl) I32.out ?_)
    | (go_at_call 49; refine Calls.mono (ch _) ?_; rintro e w1 ⟨rfl, hb1⟩; clear ch; have hb1 := HB0.out.trans (hb1.mono (by have := EB.out; simp; omega)); have H1 := Lib.hid hb1; clear hb1)
    | (refine wpList_store_mid (by rfl) 93 (.tmp 7) (.tmp 12) (by rfl) w1.heap.size 0 cs (by rfl) (by rfl) (by rw [Z16.out]; exact World.there_alloc (by have := Si.there_blk (Blk.new w1 93 (Sp.key16 fun _ => 0)); rwa [key16_size] at this) _) I16.out O16.out ?_)
    | (refine wpList_store_mid (by rfl) 93 (.tmp 8) (.tmp 13) (by rfl) (w1.heap.size + 1) 0 dl.toArray (by rfl) (by rfl) (by rw [Z16B.out]; exact World.there_setCells (by have := Si.there_blk (Si.Blk.new_of (w1.alloc (.cells (Sp.key16 fun _ => 0) 93)) (w1.heap.size + 1) 93 _ (Sp.key16 fun _ => 0) rfl (by simp)); rwa [key16_size] at this) _ _ _) I16B.out O16B.out ?_)
    | fail)
  have h2 := two_arrays w1 (Sp.key16 fun _ => 0) 93 cs dl.toArray (by rw [key16_size, Z16.out]) (by rw [key16_size, Z16B.out])
  change Code.wp _ _ _ _ (twoW w1 (Sp.key16 fun _ => 0) 93 cs dl.toArray)
  generalize twoW w1 (Sp.key16 fun _ => 0) 93 cs dl.toArray = W2 at h2 ⊢
  have hb2 := H1.out.trans (h2.2.2.1.mono (by have := H1.out.size; have := EB.out; omega))
  have HB2 : Hid (Below B w W2.drew) := below_drewN hb2 1
  have hra : W2.drew.rangeAt (w1.heap.size + 1) 0 dl := by have := h2.2.1; simpa using this
  have HSZ := Lib.hid (show w1.heap.size + 2 ≤ W2.drew.heap.size from h2.2.2.2)
  clear h2 hb2
  have hu16 := HU16.out
  have u16 := U16.out
  simp only [Act.put]
  have LIT : Hid ((W2.alloc (.cells #[.int .u8 (u : Int)] 5)).drew.ownsRow W2.heap.size 5 1 (.slice (some ⟨W2.heap.size, 0, none⟩) 1 1) 1 [.int .u8 (u : Int)]) := World.ownsRow_lit (base := W2.heap.size) (e := 5) (size := 1) W2.drew #[.int .u8 (u : Int)] 1 (Nat.le_refl _) (by decide) (by rfl)
  have hBW : B ≤ W2.drew.heap.size := by have := HB2.out.size; have := EB.out; omega
  have HB3 : Hid (Below B w (W2.alloc (.cells #[.int .u8 (u : Int)] 5)).drew) := HB2.out.alloc hBW (.cells #[.int .u8 (u : Int)] 5)
  have HRD : Hid (Rd (W2.alloc (.cells #[.int .u8 (u : Int)] 5)).drew B A (bvs l)) := HR.out.below HB3.out
  have hra3 : (W2.alloc (.cells #[.int .u8 (u : Int)] 5)).drew.rangeAt (w1.heap.size + 1) 0 dl := World.rangeAt_alloc hra (.cells #[.int .u8 (u : Int)] 5)
  have HSZ3 : Hid ((W2.alloc (.cells #[.int .u8 (u : Int)] 5)).drew.heap.size = W2.heap.size + 1) := by show (W2.alloc _).heap.size = _; simp
  have HSZ2 : Hid (w1.heap.size + 2 ≤ W2.heap.size) := HSZ.out
  have HBS : Hid (B ≤ W2.heap.size) := hBW
  clear hBW
  go_region_held3 (fun w' => w'.rangeAt (w1.heap.size + 1) 0 dl) (first | exact hra | exact hra3 | exact hS4 | exact hS5 | exact hS6) (first
    | (rw [if_pos (by rfl)]; refine wp_append_rd _ (.tmp 17) (.tmp 18) 46 (by rfl) W2.heap.size 5 ib _ 1 Tryz.underlying46 hi0 hz0 hs0 hb0 (by rfl) _ 1 [.int .u8 (u : Int)] (by rfl) LIT.out B A m c (bvs l) (by rfl) (by rw [bvs_length]; exact HM.out) HRD.out (bvs_one _) (by have := HM2.out; unfold maxLen; omega) (by have := HM2.out; omega) (by have := HSZ3.out; omega) ?_; intro v4 w4 hown4 hgrow4 hat4; rw [HBU.out] at hown4; have hS4 : w4.rangeAt (w1.heap.size + 1) 0 dl := range_grown hra3 (by have := HSZ3.out; have := HSZ2.out; omega) hgrow4 (by have := HSZ2.out; simp [Value.ownBlock]; omega); have hb4 : Below B w w4 := HB3.out.grown hgrow4 (by have := HSZ3.out; have := HBS.out; omega) (fun k hk => by have := HBS.out; simp [Value.ownBlock] at hk; omega); obtain ⟨A4, c4, hv4, hc4, hm4, hr4⟩ := own_rda (S := fun _ => False) hown4 (fun _ _ x => x); subst hv4; have csum4 := CSUM.out w4 A4 c4 hc4 hm4 hr4.rd; have H4 := Lib.hid hb4; have Z4 := Lib.hid hgrow4.size; clear hown4 hgrow4 hat4 hb4 hc4 hm4 hr4)
    | (go_at_call 52; refine Calls.mono csum4 ?_; rintro e w5 ⟨he, hb5⟩; have he := HT.out e he; subst he; clear csum4; have hS5 : w5.rangeAt (w1.heap.size + 1) 0 dl := range_below hS4 (by have := Z4.out; have := HSZ3.out; have := HSZ2.out; omega) hb5; have Z5 := Lib.hid hb5.size; have hb5 := H4.out.trans (hb5.mono (by have := H4.out.size; have := EB.out; omega)); have cbig := dbig T w5 TL.out; have H5 := Lib.hid hb5; clear hb5)
    | (go_at_call 32; refine Calls.mono cbig ?_; rintro e w6 ⟨v6, rfl, hown6, hb6⟩; clear cbig; have hS6 : w6.rangeAt (w1.heap.size + 1) 0 dl := range_below hS5 (by have := Z4.out; have := Z5.out; have := HSZ3.out; have := HSZ2.out; omega) hb6; have hb6 := H5.out.trans (hb6.mono (by have := H5.out.size; have := EB.out; omega)); have H6 := Lib.hid hb6; have O6 := Lib.hid hown6; have Z6 := Lib.hid H5.out.size; clear hb6 hown6))
  all_goals (
    clear hra hra3 hS4 hS5 hS6
    go_wp2_with fail
    go_ret
    exact ⟨_, rfl, O6.out.mono (by have := Z6.out; have := EB.out; omega), EB.out ▸ H6.out⟩)
end Go.Proofs.YtcjibpjdfhhhkaaGreat.Se
end

section
set_option linter.unusedVariables false
namespace Go.Proofs.YtcjibpjdfhhhkaaGreat.Se
open Go.RowKit Go.Proofs.YtcjibpjdfhhhkaaGreat.Mem

set_option maxRecDepth 100000 in
set_option maxHeartbeats 1600000 in
theorem dseal_bad (ks : Nat → UInt8) (u n : Int) (A : Option Addr) (m c : Nat) (w : World) (hx : ¬ (0 ≤ u ∧ u ≤ 255 ∧ 0 ≤ n ∧ n ≤ 1099511627776 ∧ m ≤ 784)) :
    Calls Tryz.prog 12 #[.agg (key32 ks), .int .i64 u, .int .i64 n, .slice A m c] w fun e w' => e = .returned (.tuple #[.slice none 0 0, .int .i64 1]) ∧ Below w.heap.size w w' := by
  obtain ⟨kc, ekc⟩ : ∃ kc, kc = key32 ks := ⟨_, rfl⟩
  rw [← ekc]
  have t : (decide (u < 0) = true) ∨ (decide (u < 0) = false ∧ decide (255 < u) = true) ∨ (decide (u < 0) = false ∧ decide (255 < u) = false ∧ decide (n < 0) = true) ∨ (decide (u < 0) = false ∧ decide (255 < u) = false ∧ decide (n < 0) = false ∧ decide (1099511627776 < n) = true) ∨ (decide (u < 0) = false ∧ decide (255 < u) = false ∧ decide (n < 0) = false ∧ decide (1099511627776 < n) = false ∧ decide (784 < (m : Int)) = true) := by
    simp only [decide_eq_true_eq, decide_eq_false_iff_not]
    omega
  have HB := Lib.hid ((Below.refl w.heap.size w).alloc (Nat.le_refl _) (.cells kc 33))
  clear hx ekc
  rcases t with t1 | ⟨t1, t2⟩ | ⟨t1, t2, t3⟩ | ⟨t1, t2, t3, t4⟩ | ⟨t1, t2, t3, t4, t5⟩ <;> (
    go_enter Tryz.func12, Tryz.ntmps12
    go_wp2
    go_ret2
    exact ⟨rfl, HB.out⟩)

set_option maxRecDepth 100000 in
set_option maxHeartbeats 3200000 in
theorem dseal_ok (ks : Nat → UInt8) (u n : Nat) (A : Option Addr) (m c : Nat) (p : List UInt8) (w : World) (hu : u ≤ 255) (hn : n ≤ 1099511627776) (hm : m = p.length) (hm2 : m ≤ 784) (hr : Rd w w.heap.size A (bvs p)) :
    Calls Tryz.prog 12 #[.agg (key32 ks), .int .i64 (u : Int), .int .i64 (n : Int), .slice A m c] w fun e w' => ∃ A2 c2, e = .returned (.tuple #[.slice A2 (m + 16) c2, .int .i64 0]) ∧ RdA (fun i => i < w.heap.size) w' A2 (bvs (sealL ks u n p)) ∧ Below w.heap.size w w' := by
  obtain ⟨ib, hi0, hz0, hs0, hb0⟩ := info_parts Si.u8_info
  obtain ⟨B, eB⟩ : ∃ B, B = w.heap.size := ⟨_, rfl⟩
  have cmix := fun (w1 : World) (h1 : Rd w1 w1.heap.size A (bvs p)) => dmix ks u n A m c p w1 hu (by omega) hm (by omega) h1
  have cbig := fun (w1 : World) => dbig n w1 (by omega)
  obtain ⟨L, eL⟩ : ∃ L, L = aheadL ks u n p := ⟨_, rfl⟩
  have hEL : bvs (w8 n) ++ bvs (mixL ks u n p) = bvs L := by rw [eL, aheadL, bvs_append]
  have hLL : 8 + m = L.length := by rw [eL, aheadL_length, ← hm]
  have ctag := fun (w1 : World) (A1 : Option Addr) (c1 : Nat) (h1 : Rd w1 w1.heap.size A1 (bvs L)) => dtag ks u A1 (8 + m) c1 L w1 hu hLL (by omega) h1
  have hFin : bvs L ++ bvs (w8 (tagL ks u L)) = bvs (sealL ks u n p) := by rw [eL, ← bvs_append]; rfl
  have hML : (bvs (mixL ks u n p)).length = m := by rw [bvs_length, mixL_length, hm]
  obtain ⟨M, eM⟩ : ∃ M, M = bvs (mixL ks u n p) := ⟨_, rfl⟩
  obtain ⟨W8, eW8⟩ : ∃ W8, W8 = bvs (w8 n) := ⟨_, rfl⟩
  obtain ⟨T8, eT8⟩ : ∃ T8, T8 = bvs (w8 (tagL ks u L)) := ⟨_, rfl⟩
  have oM : ∀ v ∈ M, v.oneCell' = true := eM ▸ bvs_one _
  have oT : ∀ v ∈ T8, v.oneCell' = true := eT8 ▸ bvs_one _
  have hT8 : T8.length = 8 := by rw [eT8, bvs_length, w8_length]
  rw [← eM] at cmix hEL hML
  rw [← eW8] at cbig hEL
  rw [← eT8] at ctag hFin
  have hkl : ∃ kl : List Value, kl.toArray = key32 ks := ⟨_, rfl⟩
  obtain ⟨kl, ekl⟩ := hkl
  have u32 : (Tryz.prog.info? 33).map (·.size) = some kl.length := by rw [← List.size_toArray, ekl]; exact info32 ks
  have hu32 := Tryz.underlying33
  rw [← ekl] at cmix ctag ⊢
  have q1 : (n : Int) ≤ 1099511627776 := by omega
  have q2 : (0 : Int) ≤ (n : Int) := by omega
  have q3 : (m : Int) ≤ 784 := by omega
  have q4 : IntKind.u64.wrap (n : Int) = (n : Int) := by rw [IntKind.wrap_u64]; omega
  have q5 : (n : Int) % 18446744073709551616 = (n : Int) := by omega
  have t1 : decide ((u : Int) < 0) = false := by simp
  have t2 : decide (255 < (u : Int)) = false := by simp; omega
  have t3 : decide ((n : Int) < 0) = false := by simp
  have t4 : decide (1099511627776 < (n : Int)) = false := by simp; omega
  have t5 : decide (784 < (m : Int)) = false := by simp; omega
  have EB := Lib.hid eB
  have HR := Lib.hid (eB ▸ hr); clear hr
  have HM2 := Lib.hid hm2; clear hm2
  have CMIX := Lib.hid cmix; clear cmix
  have CBIG := Lib.hid cbig; clear cbig
  have CTAG := Lib.hid ctag; clear ctag
  have HEL := Lib.hid hEL; clear hEL
  have HFIN := Lib.hid hFin; clear hFin
  have HML := Lib.hid hML; clear hML
  have HT8 := Lib.hid hT8; clear hT8
  have OM := Lib.hid oM; clear oM
  have OT := Lib.hid oT; clear oT
  have hra : (w.alloc (.cells kl.toArray 33)).drew.rangeAt w.heap.size 0 kl := by have := Si.range_blk (Blk.new w 33 kl.toArray); simpa using this
  have HB0 : Hid (Below B w (w.alloc (.cells kl.toArray 33)).drew) := eB ▸ below_drewN ((Below.refl w.heap.size w).alloc (Nat.le_refl _) _) 1
  have HS0 : Hid ((w.alloc (.cells kl.toArray 33)).drew.heap.size = B + 1) := by show (w.alloc _).heap.size = _; simp [eB]
  have cb := CBIG.out (w.alloc (.cells kl.toArray 33)).drew
  clear hu hn hm hLL eM eW8 eT8 ekl eB eL
  go_enter Tryz.func12, Tryz.ntmps12
  go_upto_region 3 with fail
  go_region_held3 (fun w' => w'.rangeAt w.heap.size 0 kl) (first | exact hra | exact hS1 | exact hS2 | exact hS3) (first
    | (rw [if_pos (by rfl)]; refine wp_append_rd _ (.tmp 32) (.tmp 38) 46 (by rfl) (B + 1) 5 ib _ 1 Tryz.underlying46 hi0 hz0 hs0 hb0 (by rfl) v1 8 W8 (by rfl) O2.out w2.heap.size A2 m c2 M (by rfl) HML.out.symm R2.out OM.out (by have := HM2.out; unfold maxLen; omega) (by have := HM2.out; omega) (by have := Z2.out; omega) ?_; intro v3 w3 hown3 hgrow3 hat3; rw [HEL.out] at hown3; have hS3 : w3.rangeAt w.heap.size 0 kl := range_grown hS2 (by have := Z2.out; have := EB.out; omega) hgrow3 (fun hx => by have := own_new O2.out _ hx; have := EB.out; omega); have hb3 : Below B w w3 := H2.out.grown hgrow3 (by have := Z2.out; omega) (fun k hk => by have := own_new O2.out _ hk; omega); obtain ⟨A3, c3, hv3, hc3, hm3, hr3⟩ := own_rda (S := fun _ => False) hown3 (fun _ _ x => x); subst hv3; have ct := CTAG.out w3 A3 c3 hr3.rd; have H3 := Lib.hid hb3; have O3 := Lib.hid hown3; have Z3 := Lib.hid (Nat.le_trans Z2.out hgrow3.size); clear hown3 hgrow3 hat3 hb3 hc3 hm3 hr3)
    | (go_at_call 32; refine Calls.mono cb ?_; rintro e w1 ⟨v1, rfl, hown1, hb1⟩; clear cb; have hS1 : w1.rangeAt w.heap.size 0 kl := range_below hra (by have := HS0.out; have := EB.out; omega) hb1; have hz1 : B + 1 ≤ w1.heap.size := by { have := HS0.out; have := hb1.size; omega }; have hb1 := HB0.out.trans (hb1.mono (by have := HS0.out; omega)); have cm := CMIX.out w1 ((HR.out.below hb1).more (by omega)); have H1 := Lib.hid hb1; have O1 := Lib.hid (hown1.mono (base' := B + 1) (by have := HS0.out; omega)); have Z1 := Lib.hid hz1; clear hb1 hown1 hz1)
    | (go_at_call 33; refine Calls.mono cm ?_; rintro e w2 ⟨v2, rfl, hown2, hb2⟩; clear cm; have hS2 : w2.rangeAt w.heap.size 0 kl := range_below hS1 (by have := Z1.out; have := EB.out; omega) hb2; have hz2 : B + 1 ≤ w2.heap.size := Nat.le_trans Z1.out hb2.size; have ho2 := own_kept O1.out hb2; obtain ⟨A2, c2, hv2, hc2, hm2, hr2⟩ := own_rda (S := fun _ => False) hown2 (fun _ _ x => x); subst hv2; have hb2 := H1.out.trans (hb2.mono (by have := Z1.out; omega)); have H2 := Lib.hid hb2; have O2 := Lib.hid ho2; have Z2 := Lib.hid hz2; have R2 := Lib.hid hr2.rd; clear hb2 hown2 hz2 ho2 hc2 hm2 hr2))
  all_goals (
    have HA3 : Hid (w3.rangeAt w.heap.size 0 kl.toArray.toList) := hS3
    have U32 : Hid ((Tryz.prog.info? 33).map (·.size) = some kl.toArray.size) := by rw [List.size_toArray]; exact u32
    clear hra hS1 hS2 hS3 u32 hu32 hb1 hb2
    go_wp2_with (first
      | (refine load_cells (by rfl) 33 (.tmp 4) (by rfl) w.heap.size 0 (by rfl) kl.toArray _ HA3.out Tryz.underlying33 (by rfl) U32.out ?_)
      | (go_at_call 34; refine Calls.mono ct ?_; rintro e w4 ⟨v4, rfl, hown4, hb4⟩; clear ct; have ho4 := own_kept O3.out hb4; have hz4 := Nat.le_trans Z3.out hb4.size; have hb4 := H3.out.trans (hb4.mono (by have := Z3.out; omega)); obtain ⟨A4, c4, hv4, hc4, hm4, hr4⟩ := own_rda (S := fun _ => False) hown4 (fun _ _ x => x); subst hv4; have H4 := Lib.hid hb4; have O4 := Lib.hid ho4; have Z4 := Lib.hid hz4; have R4 := Lib.hid hr4.rd; clear hb4 hown4 ho4 hz4 hc4 hm4 hr4)
      | (at_builtin; refine wpList_append_rd _ (by rfl) (.tmp 40) (.tmp 44) 46 (by rfl) (B + 1) 5 ib _ 1 Tryz.underlying46 hi0 hz0 hs0 hb0 (by rfl) _ (8 + m) (bvs L) (by rfl) O4.out w4.heap.size A4 8 c4 T8 (by rfl) HT8.out.symm R4.out OT.out (by have := HM2.out; unfold maxLen; omega) (by have := HM2.out; omega) (by have := Z4.out; omega) ?_; intro v5 w5 hown5 hgrow5 hat5; rw [HFIN.out] at hown5; have hb5 := H4.out.grown hgrow5 (by have := Z4.out; omega) (fun k hk => by have := own_new O4.out k hk; omega); obtain ⟨A5, c5, hv5, hc5, hm5, hr5⟩ := own_rda (S := fun i => i < w.heap.size) hown5 (fun k hk hx => by have := own_new hown5 k hk; have := EB.out; omega); subst hv5; have H5 := Lib.hid hb5; have R5 := Lib.hid hr5; clear hown5 hgrow5 hat5 hb5 hc5 hm5 hr5)
      | fail)
    go_ret2
    exact ⟨A5, c5, by show Ending.returned (.tuple #[.slice A5 (8 + m + 8) c5, .int .i64 0]) = _; rw [show 8 + m + 8 = m + 16 by omega], R5.out, EB.out ▸ H5.out⟩)
end Go.Proofs.YtcjibpjdfhhhkaaGreat.Se
end

section
set_option linter.unusedVariables false
namespace Go.Proofs.YtcjibpjdfhhhkaaGreat.Se
open Go.RowKit Go.Proofs.YtcjibpjdfhhhkaaGreat.Mem

theorem RdA.out {w w' : World} {b g : Nat} {h : Option Nat} {A : Option Addr} {xs : List Value} {ks : Nat → UInt8} {a o r : Nat} (hr : RdA (Nw w.heap.size g) w' A xs) (hK : Box w b ks h a o r) : RdA (Ow b (some g)) w' A xs := hr.mono fun i _ hx => by
  rcases hx with hx | hx
  · exact .inl (hx ▸ hK.lt)
  · injection hx with hx; exact .inr hx.symm
def k1 : Nat → UInt8 := fun i => if i = 0 then 1 else 0
end Go.Proofs.YtcjibpjdfhhhkaaGreat.Se
end

section
set_option linter.unusedVariables false
namespace Go.Proofs.YtcjibpjdfhhhkaaGreat.SeL
open Go.RowKit Go.Proofs.YtcjibpjdfhhhkaaGreat.Mem Go.Proofs.YtcjibpjdfhhhkaaGreat.Se

theorem Ow_some {b g i : Nat} (h : Ow b (some g) i) : i = b ∨ i = g := by
  rcases h with h | h
  · exact .inl h
  · injection h with h; exact .inr h.symm
end Go.Proofs.YtcjibpjdfhhhkaaGreat.SeL
end

section
set_option linter.unusedVariables false
namespace Go.Proofs.YtcjibpjdfhhhkaaGreat.SeL
open Go.RowKit Go.Proofs.YtcjibpjdfhhhkaaGreat.Mem Go.Proofs.YtcjibpjdfhhhkaaGreat.Se

def sealR (ks : Nat → UInt8) (u n : Int) (p : List UInt8) : List UInt8 × Int :=
  if 0 ≤ u ∧ u ≤ 255 ∧ 0 ≤ n ∧ n ≤ 1099511627776 ∧ p.length ≤ 784 then (sealL ks u.toNat n.toNat p, 0) else ([], 1)
def Ns (n b : Nat) (h : Option Nat) (i : Nat) : Prop := i < n ∨ Ow b h i
theorem nw_ns {n b g : Nat} {w : World} {A : Option Addr} {xs : List Value} (hr : RdA (Nw n g) w A xs) (hb : b < n) : RdA (Ns n b (some g)) w A xs := hr.mono fun i _ hx => by
  rcases hx with hx | hx
  · exact .inl hx
  · rcases Ow_some hx with h | h
    · exact .inl (by omega)
    · exact .inr h
theorem seal_res (b : Nat) (ks : Nat → UInt8) (h : Option Nat) (a o r : Nat) (u N : Int) (A : Option Addr) (m c : Nat) (p : List UInt8) (w : World) (ha : a < 1000000) (wN : (Lit.int .i64 N).wf = true) (hm : m = p.length) (hml : m ≤ maxLen) (hr : RdA (Ow b h) w A (bvs p)) (hK : Box w b ks h a o r) :
    Calls Tryz.prog 11 #[.pointer (some ⟨b, 0, none⟩), .int .i64 u, .int .i64 N, .slice A m c] w fun e w' => ∃ A2 c2 h' a', e = .returned (.tuple #[.slice A2 (sealR ks u N p).1.length c2, .int .i64 (sealR ks u N p).2]) ∧ (sealR ks u N p).1.length ≤ c2 ∧ c2 ≤ maxLen ∧ RdA (Ns w.heap.size b h') w' A2 (bvs (sealR ks u N p).1) ∧ Box w' b ks h' a' o r ∧ StepO w w' b h h' ∧ a' ≤ a + 1 := by
  by_cases hx : 0 ≤ u ∧ u ≤ 255 ∧ 0 ≤ N ∧ N ≤ 1099511627776 ∧ m ≤ 784
  · obtain ⟨u', rfl⟩ : ∃ k : Nat, u = (k : Int) := ⟨u.toNat, by omega⟩
    obtain ⟨n', rfl⟩ : ∃ k : Nat, N = (k : Int) := ⟨N.toNat, by omega⟩
    have e : sealR ks (u' : Int) (n' : Int) p = (sealL ks u' n' p, 0) := by rw [sealR, if_pos (by omega)]; rfl
    rw [e]
    refine (seal_ok b ks h a o r u' n' A m c p w ha (by omega) (by omega) hm (by omega) hr hK).mono ?_
    rintro e w' ⟨g, A2, c2, rfl, h1, h2, h3, h4, h5⟩
    exact ⟨A2, c2, some g, a + 1, by rw [sealL_length, hm], by rw [sealL_length, ← hm]; exact h1, h2, nw_ns h3 hK.lt, h4, h5.o, Nat.le_refl _⟩
  · have e : sealR ks u N p = ([], 1) := by rw [sealR, if_neg (by omega)]
    rw [e]
    refine (seal_bad b u N A m c w wN hml hx).mono ?_
    rintro e w' ⟨rfl, hw⟩
    subst hw
    exact ⟨none, 0, h, a, rfl, Nat.le_refl _, Nat.zero_le _, .inl rfl, hK, StepO.refl _ _ _, by omega⟩
theorem dseal_res (ks : Nat → UInt8) (u N : Int) (A : Option Addr) (m c : Nat) (p : List UInt8) (w : World) (hm : m = p.length) (hr : Rd w w.heap.size A (bvs p)) :
    Calls Tryz.prog 12 #[.agg (key32 ks), .int .i64 u, .int .i64 N, .slice A m c] w fun e w' => ∃ A2 c2, e = .returned (.tuple #[.slice A2 (sealR ks u N p).1.length c2, .int .i64 (sealR ks u N p).2]) ∧ RdA (fun i => i < w.heap.size) w' A2 (bvs (sealR ks u N p).1) ∧ Below w.heap.size w w' := by
  by_cases hx : 0 ≤ u ∧ u ≤ 255 ∧ 0 ≤ N ∧ N ≤ 1099511627776 ∧ m ≤ 784
  · obtain ⟨u', rfl⟩ : ∃ k : Nat, u = (k : Int) := ⟨u.toNat, by omega⟩
    obtain ⟨n', rfl⟩ : ∃ k : Nat, N = (k : Int) := ⟨N.toNat, by omega⟩
    have e : sealR ks (u' : Int) (n' : Int) p = (sealL ks u' n' p, 0) := by rw [sealR, if_pos (by omega)]; rfl
    rw [e]
    refine (dseal_ok ks u' n' A m c p w (by omega) (by omega) hm (by omega) hr).mono ?_
    rintro e w' ⟨A2, c2, rfl, h1, h2⟩
    exact ⟨A2, c2, by rw [sealL_length, hm], h1, h2⟩
  · have e : sealR ks u N p = ([], 1) := by rw [sealR, if_neg (by omega)]
    rw [e]
    refine (dseal_bad ks u N A m c w hx).mono ?_
    rintro e w' ⟨rfl, hb⟩
    exact ⟨none, 0, rfl, .inl rfl, hb⟩
end Go.Proofs.YtcjibpjdfhhhkaaGreat.SeL
end

section
set_option linter.unusedVariables false
set_option linter.unusedSimpArgs false
namespace Go.Proofs.YtcjibpjdfhhhkaaGreat.Rg
open Go.RowKit Go.Proofs.YtcjibpjdfhhhkaaGreat.Mem Go.Proofs.YtcjibpjdfhhhkaaGreat.Se

section
variable {w w' : World} {B r i : Nat} {v v' : Value} {es es' : List Ent} {e : Ent} {A : Option Addr} {xs : List Value}
theorem ow_ro (he : es[i]? = some e) {k : Nat} (h : Ow e.b e.h k) : RO r v es k := .inr (.inr ⟨i, e, he, h⟩)
theorem rda_below (h : RdA (RO r v es) w A xs) (hb : Below w.heap.size w w') : RdA (RO r v es) w' A xs :=
  h.keep (Chg.of_below hb : Chg (fun _ => False) w w') (fun _ _ x => x.elim) (fun _ _ x => x)
theorem rda_out {h' : Option Nat} (h : RdA (SeL.Ns w.heap.size e.b h') w' A xs) (hr : Ring w B r v es) (he : es[i]? = some e) (a o q : Nat) : RdA (RO r v (es.set i ⟨e.it, e.b, h', a, o, q⟩)) w' A xs :=
  h.mono fun k _ hk => by
    have hi := (List.getElem?_eq_some_iff.1 he).1
    rcases hk with hk | hk | ⟨j, f, hf, hk⟩
    · exact .inl (hr.own_lt (.inl hk))
    · exact .inl (hr.own_lt (.inr (.inl hk)))
    · by_cases g : i = j
      · subst g
        rw [List.getElem?_set_self hi] at hf
        injection hf with hf
        subst hf
        exact .inr hk
      · rw [List.getElem?_set_ne g] at hf
        exact .inl (hr.own_lt (.inr (.inr ⟨j, f, hf, hk⟩)))
end
theorem ring_seal {w : World} {B r i : Nat} {v : Value} {es : List Ent} {x : Ent} (h : Ring w B r v es) (he : es[i]? = some x) (ha : x.a < 1000000) (hB : B ≤ w.heap.size) (u N : Int) (A : Option Addr) (m c : Nat) (p : List UInt8) (wN : (Lit.int .i64 N).wf = true) (hm : m = p.length) (hml : m ≤ maxLen) (hr : RdA (RO r v es) w A (bvs p)) :
    Calls Tryz.prog 11 #[.pointer (some ⟨x.b, 0, none⟩), .int .i64 u, .int .i64 N, .slice A m c] w fun e w' => ∃ A2 c2 h' a', e = .returned (.tuple #[.slice A2 (SeL.sealR x.it.k u N p).1.length c2, .int .i64 (SeL.sealR x.it.k u N p).2]) ∧ (SeL.sealR x.it.k u N p).1.length ≤ c2 ∧ c2 ≤ maxLen ∧ RdA (RO r v (es.set i ⟨x.it, x.b, h', a', x.o, x.r⟩)) w' A2 (bvs (SeL.sealR x.it.k u N p).1) ∧ Ring w' B r v (es.set i ⟨x.it, x.b, h', a', x.o, x.r⟩) ∧ a' ≤ x.a + 1 ∧ StepO w w' x.b x.h h' := by
  refine (SeL.seal_res x.b x.it.k x.h x.a x.o x.r u N A m c p w ha wN hm hml (hr.mono fun k _ hk => ow_ro he hk) (h.box i x he)).mono ?_
  rintro e w' ⟨A2, c2, h', a', rfl, h1, h2, h3, h4, h5, h6⟩
  exact ⟨A2, c2, h', a', rfl, h1, h2, rda_out h3 h he _ _ _, h.use he h4 h5 hB, h6, h5⟩
end Go.Proofs.YtcjibpjdfhhhkaaGreat.Rg
end

section
set_option linter.unusedVariables false
namespace Go.Proofs.YtcjibpjdfhhhkaaGreat.OpenQ
open Go.Joins Go.ChangeShapes Go.WideShapes Go.ChangeAt Go.RowKit Go.Deep Go.Proofs.YtcjibpjdfhhhkaaGreat Go.Proofs.YtcjibpjdfhhhkaaGreat.Mem Go.Proofs.YtcjibpjdfhhhkaaGreat.Rg Go.Proofs.YtcjibpjdfhhhkaaGreat.Se

structure Ac where
  k : Int
  p : Pr
  y : Nat → UInt8
  n : Int
def aC (a : Ac) : List Value := .int .i64 a.k :: .string ⟨a.p.1.toArray⟩ :: .string ⟨a.p.2.toArray⟩ :: ((key32 a.y).toList ++ [.int .i64 a.n])
theorem aC_length (a : Ac) : (aC a).length = 36 := by simp [aC, key32_size]
def RdAc (w : World) (B : Nat) (A : Option Addr) (l : List Ac) : Prop :=
  l = [] ∨ ∃ g o, A = some ⟨g, o, none⟩ ∧ g < B ∧ ∀ i x, l[i]? = some x → w.rangeAt g (o + i * 36) (aC x)
theorem RdAc.keep {w w' : World} {B : Nat} {A : Option Addr} {l : List Ac} (h : RdAc w B A l) (hb : Below B w w') : RdAc w' B A l := by
  rcases h with h | ⟨g, o, h1, h2, h3⟩
  · exact .inl h
  · exact .inr ⟨g, o, h1, h2, fun i x hx j v hv => (hb.cell (p := ⟨g, _, none⟩) h2).trans (h3 i x hx j v hv)⟩
theorem RdAc.at_ {w : World} {B : Nat} {A : Option Addr} {l : List Ac} {i : Nat} {x : Ac} (h : RdAc w B A l) (hx : l[i]? = some x) : ∃ g o, A = some ⟨g, o, none⟩ ∧ g < B ∧ w.rangeAt g (o + i * 36) (aC x) := by
  rcases h with h | ⟨g, o, h1, h2, h3⟩
  · subst h; simp at hx
  · exact ⟨g, o, h1, h2, h3 i x hx⟩
theorem mem_weightsAll {H : Type} {P : Program} {e : TypeId} {n : Nat} : ∀ {l : List (DataW H)} {d : DataW H}, d ∈ l → n ∈ d.weights P e → n ∈ DataW.weightsAll P e l
  | x :: r, d, h, hn => by
    rw [DataW.weightsAll]
    rcases List.mem_cons.1 h with h | h
    · subst h; exact List.mem_append.2 (.inl hn)
    · exact List.mem_append.2 (.inr (mem_weightsAll h hn))
section
variable {H : Type} {enc : TypeId × Value → H} {W : World}
theorem c_ac : Tryz.prog.cellsOf 35 = 36 := by kernel_rfl
theorem in_ac {n : Nat} {cs : List Value} {x : DataW H × List MemPlace} (h : DataW.trod enc Tryz.prog W 0 (fun _ => true) true n 35 cs = some x) (hw : ∀ n ∈ DataW.weights Tryz.prog 35 x.1, n ≤ reachBytes) : ∃ a : Ac, cs = aC a ∧ a.p.1.length ≤ reachBytes ∧ a.p.2.length ≤ reachBytes := by
  obtain ⟨xs, m, _, hx, hl, hxl, hf⟩ := DataW.trod_struct Tryz.underlying35 h
  rw [c_ac] at hl
  match xs, hxl with
  | [y0, y1, y2, y3], _ =>
    have fw := fun (j : Nat) (t : TypeId) (d : DataW H) (ht : _[j]? = some t) (hd : [y0.1, y1.1, y2.1, y3.1][j]? = some d) (n : Nat) (hn : n ∈ d.weights Tryz.prog t) => hw n (by rw [hx]; simp only [DataW.weights, Tryz.underlying35]; exact DataW.weights_mem_each ht hd n hn)
    have h0 : DataW.trod enc Tryz.prog W 0 (fun _ => true) true m 3 ((cs.drop 0).take (Tryz.prog.cellsOf 3)) = some y0 := hf 0 _ rfl
    have h1 : DataW.trod enc Tryz.prog W 0 (fun _ => true) true m 31 ((cs.drop 1).take (Tryz.prog.cellsOf 31)) = some y1 := hf 1 _ rfl
    have h2 : DataW.trod enc Tryz.prog W 0 (fun _ => true) true m 33 ((cs.drop 3).take (Tryz.prog.cellsOf 33)) = some y2 := hf 2 _ rfl
    have h3 : DataW.trod enc Tryz.prog W 0 (fun _ => true) true m 3 ((cs.drop 35).take (Tryz.prog.cellsOf 3)) = some y3 := hf 3 _ rfl
    rw [OpenP.c_int] at h0 h3
    rw [OpenP.c_pr] at h1
    rw [OpenP.c_key] at h2
    obtain ⟨l0, e0, _⟩ := OpenP.in_int h0
    obtain ⟨l1, e1, b1, b2⟩ := OpenP.in_pr h1 (fw 1 _ _ rfl rfl)
    obtain ⟨l2, e2⟩ := OpenP.in_key h2
    obtain ⟨l3, e3, _⟩ := OpenP.in_int h3
    have k0 := OpenP.cut cs 0 1
    rw [e0] at k0
    have k1 := OpenP.cut cs 1 2
    rw [e1] at k1
    have k2 := OpenP.cut cs 3 32
    rw [e2] at k2
    have k3 := OpenP.cut cs 35 1
    rw [e3] at k3
    have k : cs = cs.drop 0 := rfl
    rw [k0, show 0 + 1 = 1 from rfl] at k
    rw [k1, show 1 + 2 = 3 from rfl] at k
    rw [k2, show 3 + 32 = 35 from rfl] at k
    rw [k3, show 35 + 1 = 36 from rfl] at k
    rw [show cs.drop 36 = [] from List.drop_of_length_le (by omega)] at k
    clear hf h h0 k0 e0 h1 k1 e1 h2 k2 e2 h3 k3 e3
    refine ⟨⟨l0, l1, l2, l3⟩, k.trans ?_, b1, b2⟩
    simp [aC, key32]
set_option maxRecDepth 100000 in
theorem open_acts {v : Value} {d : DataW H} {ps : List MemPlace} (hv : ∃ A n c, v = .slice A n c) (h : DataW.Trod enc Tryz.prog W 0 (fun _ => true) true 22 v d ps) (hw : ∀ n ∈ DataW.weights Tryz.prog 22 d, n ≤ reachBytes) :
    ∃ A l c, v = .slice A (List.length l) c ∧ RdAc W W.heap.size A l ∧ l.length ≤ c ∧ c ≤ maxLen ∧ ∀ (i : Nat) (x : Ac), l[i]? = some x → x.p.1.length ≤ reachBytes ∧ x.p.2.length ≤ reachBytes := by
  obtain ⟨A, n, c, rfl⟩ := hv
  obtain ⟨fuel, hf⟩ := h
  have ht := Tryz.underlying22
  rcases DataW.trod_slice ht hf with ⟨h0, _⟩ | ⟨a, len, cap, elems, rest, m, _, hv, hx, _, hl, hm, hlen, hel, _, _⟩
  · injection h0 with h0
    exact ⟨none, [], 0, h0, .inl rfl, Nat.le_refl _, Nat.zero_le _, fun i x hx => by simp at hx⟩
  · injection hv with hv
    subst hlen
    have each : ∀ i, i < elems.length → ∃ x : Ac, (∀ j u, (aC x)[j]? = some u → W.cell? (a.add (i * 36 + j)) = some u) ∧ x.p.1.length ≤ reachBytes ∧ x.p.2.length ≤ reachBytes := by
      intro i hi
      have h1 := hel i hi
      rw [List.getElem?_eq_getElem hi, Option.bind_eq_some_iff] at h1
      obtain ⟨cs, h2, h3⟩ := h1
      rw [c_ac] at h2
      obtain ⟨_, h4, h5⟩ := World.cells?_some h2
      obtain ⟨x, rfl, b1, b2⟩ := in_ac h3 (fun n hn => hw n (by
        have hd : d = .slice (elems.map (·.1)) (rest.map (·.1)) := congrArg Prod.fst hx
        rw [hd]
        simp only [DataW.weights, ht]
        exact List.mem_cons.2 (.inr (List.mem_append.2 (.inl (mem_weightsAll (List.mem_map.2 ⟨_, List.getElem_mem hi, rfl⟩) hn))))))
      refine ⟨x, fun j u hu => ?_, b1, b2⟩
      have hj : j < 36 := by have := (List.getElem?_eq_some_iff.1 hu).1; rw [aC_length] at this; exact this
      have h6 := h5 j hj
      rw [← hu, ← h6]
      congr 1
      exact (Go.Deep.add_add a (i * 36) j).symm
    obtain ⟨l, hll, hp⟩ := OpenP.fn_list each
    have hv2 : (Value.slice A n c) = .slice (some a) l.length cap := by rw [hll]; exact hv
    refine ⟨some a, l, cap, hv2, ?_, by omega, hm, fun i x hx => ?_⟩
    · rcases Nat.eq_zero_or_pos l.length with g | g
      · exact .inl (List.eq_nil_of_length_eq_zero g)
      · have c0 := (hp 0 g).1 0 (.int .i64 l[0].k) rfl
        rw [show a.add (0 * 36 + 0) = a by simp [Addr.add]] at c0
        obtain ⟨b, o, rfl⟩ := Open.addr_none c0
        refine .inr ⟨b, o, rfl, World.block_lt_of_cell? W _ c0, fun i x hx j u hu => ?_⟩
        obtain ⟨hi, e⟩ := List.getElem?_eq_some_iff.1 hx
        have := (hp i hi).1 j u (by rw [e]; exact hu)
        rw [addr_add] at this
        rw [Nat.add_assoc]
        exact this
    · obtain ⟨hi, e⟩ := List.getElem?_eq_some_iff.1 hx
      rw [← e]; exact (hp i hi).2
end
end Go.Proofs.YtcjibpjdfhhhkaaGreat.OpenQ
end

section
set_option linter.unusedVariables false
set_option linter.unusedSimpArgs false
namespace Go.Proofs.YtcjibpjdfhhhkaaGreat.Rg
open Go.RowKit Go.Proofs.YtcjibpjdfhhhkaaGreat.Mem Go.Proofs.YtcjibpjdfhhhkaaGreat.Se Go.Proofs.YtcjibpjdfhhhkaaGreat.OpenQ

theorem aC_0 (x : Ac) : (aC x)[0]? = some (.int .i64 x.k) := rfl
theorem aC_1 (x : Ac) : (aC x)[1]? = some (.string ⟨x.p.1.toArray⟩) := rfl
theorem aC_2 (x : Ac) : (aC x)[2]? = some (.string ⟨x.p.2.toArray⟩) := rfl
theorem aC_35 (x : Ac) : (aC x)[35]? = some (.int .i64 x.n) := by
  show ([_, _, _] ++ ((key32 x.y).toList ++ [.int .i64 x.n]) : List Value)[35]? = _
  rw [List.getElem?_append_right (by simp), List.getElem?_append_right (by simp [key32_size])]
  simp [key32_size]
theorem aC_one (x : Ac) : ∀ u ∈ aC x, u.oneCell' = true := by
  intro u hu
  simp only [aC, List.mem_cons, List.mem_append, List.not_mem_nil, or_false] at hu
  rcases hu with h | h | h | h | h
  · subst h; rfl
  · subst h; rfl
  · subst h; rfl
  · have := one32 x.y
    rw [Array.all_eq_true_iff_forall_mem] at this
    exact this u (Array.mem_def.2 h)
  · subst h; rfl
set_option maxRecDepth 100000 in
set_option maxHeartbeats 1600000 in
theorem long_any (A : Option Addr) (l : List Ac) (c : Nat) (w : World) (hr : RdAc w w.heap.size A l) (hz : ∀ (i : Nat) (x : Ac), l[i]? = some x → x.p.1.length ≤ 140737488351232 ∧ x.p.2.length ≤ 140737488351232) :
    Calls Tryz.prog 5 #[.slice A l.length c] w fun e w' => ∃ b, e = .returned (.bool b) ∧ (b = false → ∀ (i : Nat) (x : Ac), i < 60 → l[i]? = some x → x.p.1.length ≤ 4000 ∧ x.p.2.length ≤ 4000) ∧ Below w.heap.size w w' := by
  obtain ⟨n, en⟩ : ∃ n, n = l.length := ⟨_, rfl⟩
  rw [← en]
  have EN := Lib.hid en
  have HR := Lib.hid hr
  have HZ := Lib.hid hz
  have HB := Lib.hid (Below.refl w.heap.size w)
  clear hr hz en
  go_enter Tryz.func5, Tryz.ntmps5
  go_wp2
  go_loopw [3, 4] (fun sv iv wr => ∃ i t : Nat, i ≤ n ∧ i ≤ 60 ∧ t ≤ 4000 ∧ iv = .int .i64 (i : Int) ∧ sv = .int .i64 (t : Int) ∧ (∀ (j : Nat) (x : Ac), j < i → l[j]? = some x → x.p.1.length ≤ 4000 ∧ x.p.2.length ≤ 4000) ∧ Below w.heap.size w wr) (fun _ iv _ => n - (intOf iv).toNat)
  case atStart => exact ⟨0, 0, Nat.zero_le _, by decide, by decide, rfl, rfl, fun j x hj => absurd hj (Nat.not_lt_zero _), HB.out⟩
  case round =>
    clear HB
    obtain ⟨i, t, hi, hi6, ht, rfl, rfl, hno, hb⟩ := hrel
    have HB := Lib.hid hb; have HNO := Lib.hid hno; have HI := Lib.hid hi; have HI6 := Lib.hid hi6; have HT := Lib.hid ht
    clear hb hno
    by_cases hlt : i < n
    · have e1 : decide ((i : Int) < (n : Int)) = true := by simp; omega
      by_cases h6 : i < 60
      · have e2 : decide ((i : Int) < 60) = true := by simp; omega
        have e3 : (i : Int) < (n : Int) := by omega
        have e4 : (0 : Int) ≤ (i : Int) := by omega
        have e5 : (i : Int) < 60 := by omega
        have e6 : (t : Int) ≤ 4000 := by omega
        have e7 : (0 : Int) ≤ (t : Int) := by omega
        obtain ⟨x, hx⟩ : ∃ x, l[i]? = some x := ⟨l[i]'(by rw [← EN.out]; exact hlt), List.getElem?_eq_getElem _⟩
        obtain ⟨g, o, rfl, hg, hra⟩ := HR.out.at_ hx
        have hra2 : wr.rangeAt g (o + i * 36) (aC x) := fun j v hv => (HB.out.cell (p := ⟨g, _, none⟩) hg).trans (hra j v hv)
        have k1 : wr.cell? ⟨g, o + i * 36 + 1, none⟩ = some (.string ⟨x.p.1.toArray⟩) := hra2 1 _ (aC_1 x)
        have k2 : wr.cell? ⟨g, o + i * 36 + 2, none⟩ = some (.string ⟨x.p.2.toArray⟩) := hra2 2 _ (aC_2 x)
        have k3 : wr.cell? ⟨g, o + i * 36 + 1 + 1, none⟩ = some (.string ⟨x.p.2.toArray⟩) := k2
        obtain ⟨z1, z2⟩ := HZ.out i x hx
        have HX := Lib.hid hx
        have f1 : (x.p.1.length : Int) ≤ 140737488351232 := by omega
        have f2 : (x.p.2.length : Int) ≤ 140737488351232 := by omega
        have w1 : IntKind.i64.wrap ((t : Int) + 1) = (t : Int) + 1 := by rw [IntKind.wrap_i64]; omega
        have w2 : IntKind.i64.wrap ((t : Int) + 1 + (x.p.1.length : Int)) = (t : Int) + 1 + (x.p.1.length : Int) := by rw [IntKind.wrap_i64]; omega
        have w3 : IntKind.i64.wrap ((t : Int) + 1 + (x.p.1.length : Int) + (x.p.2.length : Int)) = (t : Int) + 1 + (x.p.1.length : Int) + (x.p.2.length : Int) := by rw [IntKind.wrap_i64]; omega
        have HZ1 := Lib.hid z1; have HZ2 := Lib.hid z2
        clear hra hra2 hx z1 z2 hi hi6 ht
        by_cases hs : t + 1 + x.p.1.length + x.p.2.length ≤ 4000
        · have e8 : decide ((4000 : Int) < (t : Int) + 1 + (x.p.1.length : Int) + (x.p.2.length : Int)) = false := by simp; omega
          have e9 : ¬ ((4000 : Int) < (t : Int) + 1 + (x.p.1.length : Int) + (x.p.2.length : Int)) := by omega
          have HS := Lib.hid hs; clear hs
          go_wp2
          go_quiet (fail)
          go_wp2
          go_roundw
          case rel => exact ⟨i + 1, t + 1 + x.p.1.length + x.p.2.length, by omega, by omega, HS.out, by go_num, by go_num, fun j y hj hy => by
            by_cases q : j = i
            · subst q
              rw [HX.out] at hy
              injection hy with hy
              subst hy
              have := HS.out
              exact ⟨by omega, by omega⟩
            · exact HNO.out j y (by omega) hy, below_drewN HB.out _⟩
          case measure => simp [intOf]; omega
        · have e8 : decide ((4000 : Int) < (t : Int) + 1 + (x.p.1.length : Int) + (x.p.2.length : Int)) = true := by simp; omega
          have e9 : (4000 : Int) < (t : Int) + 1 + (x.p.1.length : Int) + (x.p.2.length : Int) := by omega
          clear hs
          go_wp2
          go_quiet (fail)
          go_wp2
          go_ret
          exact ⟨true, rfl, (fun h => by cases h), below_drewN HB.out _⟩
      · have e2 : decide ((i : Int) < 60) = false := by simp; omega
        obtain rfl : i = 60 := by omega
        clear hi hi6 ht
        go_wp2
        go_ret
        exact ⟨false, rfl, fun _ j x hj hx => HNO.out j x hj hx, HB.out⟩
    · have e1 : decide ((i : Int) < (n : Int)) = false := by simp; omega
      obtain rfl : n = i := by omega
      clear hi hi6 ht
      go_wp2
      go_ret
      exact ⟨false, rfl, fun _ j x hj hx => HNO.out j x (by rw [EN.out]; exact (List.getElem?_eq_some_iff.1 hx).1) hx, HB.out⟩
end Go.Proofs.YtcjibpjdfhhhkaaGreat.Rg
end

section
set_option linter.unusedVariables false
namespace Go.Proofs.YtcjibpjdfhhhkaaGreat.Nm
open Go.RowKit Go.Proofs.YtcjibpjdfhhhkaaGreat.Mem

def st (l : L) : Value := .string ⟨l.toArray⟩
def strs (ls : List L) : List Value := ls.map st
theorem strs_length (ls : List L) : (strs ls).length = ls.length := by simp [strs]
theorem strs_append (ls ms : List L) : strs (ls ++ ms) = strs ls ++ strs ms := by simp [strs]
theorem strs_one (ls : List L) : ∀ u ∈ strs ls, u.oneCell' = true := by
  intro u hu
  obtain ⟨b, _, rfl⟩ := List.mem_map.1 hu
  rfl
theorem strs_at {ls : List L} {i : Nat} (h : i < ls.length) : (strs ls)[i]? = some (st (pl ls i)) := by
  rw [strs, List.getElem?_map, List.getElem?_eq_getElem h, pl_lt h]; rfl
theorem str_info : (Tryz.prog.info? 9).map (fun i => (i.zero, i.size, i.bytes)) = some (some (.string ⟨#[]⟩), 1, 16) := by kernel_rfl

def Own (w : World) (base : Nat) (v : Value) (ls : List L) : Prop := w.ownsRow base 9 1 v ls.length (strs ls)
theorem Own.nil (w : World) (base : Nat) : Own w base (.slice none 0 0) [] := World.ownsRow_nil w base _ 1
theorem Own.below {w w' : World} {base : Nat} {v : Value} {ls : List L} (h : Own w base v ls) (hb : Below w.heap.size w w') : Own w' base v ls := own_kept h hb
theorem Own.slice {w : World} {base : Nat} {v : Value} {ls : List L} (h : Own w base v ls) : ∃ A c, v = .slice A ls.length c ∧ Rd w w.heap.size A (strs ls) := by
  have h' := h
  rcases h.2 with ⟨h1, h2⟩ | ⟨g, cap, cur, h1, _⟩
  · have e : ls = [] := List.eq_nil_of_length_eq_zero h2
    subst e
    exact ⟨none, 0, h1, .inl rfl⟩
  · subst h1
    exact ⟨_, cap, rfl, Rd.of_own (n := ls.length) (cap := cap) h'⟩
theorem Own.lt {w : World} {base : Nat} {v : Value} {ls : List L} (h : Own w base v ls) : ∀ k, v.ownBlock = some k → base ≤ k ∧ k < w.heap.size := World.ownsRow.lt h
theorem rd_txt {w : World} {B : Nat} {A : Option Addr} {ls : List L} (h : Rd w B A (strs ls)) {i : Nat} (hi : i < ls.length) : ∃ b o, A = some ⟨b, o, none⟩ ∧ b < B ∧ w.cell? ⟨b, o + i, none⟩ = some (.string ⟨(pl ls i).toArray⟩) :=
  h.at_ (strs_at hi)

section
variable {w : World} {ops : Array Oper} {rest : List Oper} {o : Oper} {a : Act} {Q : Exit → Act → World → Prop}
theorem app_rd (hgd : o.guard = none) (s x : Operand) (ho : o.op = .call { callee := .builtin .append, args := #[s, x], argTypes := #[146, 146] })
    (base : Nat) (v : Value) (ls : List L) (hs : a.eval s = v) (hown : Own w base v ls) (B : Nat) (A : Option Addr) (c : Nat) (ms : List L) (hx : a.eval x = .slice A ms.length c) (hr : Rd w B A (strs ms))
    (hl : ls.length + ms.length ≤ 8000000000000) (hb : base ≤ w.heap.size)
    (h : ∀ v' w', Own w' base v' (ls ++ ms) → Below base w w' → wpList Tryz.prog ops Q rest (a.put o.dst v') w') : wpList Tryz.prog ops Q (o :: rest) a w := by
  obtain ⟨i0, hi0, hz0, hs0, hb0⟩ := info_parts str_info
  refine wpList_append_rd w hgd s x 146 ho base 9 i0 _ 16 Tryz.underlying146 hi0 hz0 hs0 hb0 rfl v ls.length (strs ls) hs hown B A ms.length c (strs ms) hx (strs_length _).symm hr (strs_one _) (by unfold maxLen; omega) (by omega) hb ?_
  intro v' w' h1 h2 _
  refine h v' w' (by rw [Own, List.length_append, strs_append]; exact h1) ?_
  exact (Below.refl _ _).grown h2 hb (fun k hk => (hown.lt k hk).1)
theorem app_one (hgd : o.guard = none) (s x : Operand) (ho : o.op = .call { callee := .builtin .append, args := #[s, x], argTypes := #[146, 146] })
    (base : Nat) (v : Value) (ls : List L) (hs : a.eval s = v) (hown : Own w base v ls) (r : L) (hx : a.eval x = .slice (some ⟨w.heap.size, 0, none⟩) 1 1)
    (hl : ls.length + 1 ≤ 8000000000000) (hb : base ≤ w.heap.size)
    (h : ∀ v' w', Own w' base v' (ls ++ [r]) → Below base w w' → wpList Tryz.prog ops Q rest (a.put o.dst v') w') : wpList Tryz.prog ops Q (o :: rest) a (w.alloc (.cells #[.string ⟨r.toArray⟩] 9)) := by
  refine app_rd hgd s x ho base v ls hs (hown.below ((Below.refl _ _).alloc (Nat.le_refl _) _)) (w.heap.size + 1) _ 1 [r] hx ?_ hl (by simp; omega) ?_
  · refine .inr ⟨w.heap.size, 0, rfl, by omega, fun i u hu => ?_⟩
    cases i with
    | zero =>
      simp only [strs, List.map_cons, List.map_nil, List.getElem?_cons_zero, Option.some.injEq] at hu
      subst hu
      exact (Blk.new w 9 _).cell 0
    | succ i => simp [strs] at hu
  · intro v' w' h1 h2
    exact h v' w' h1 (((Below.refl _ _).alloc hb _).trans h2)
end

theorem Own.drew {w : World} {base : Nat} {v : Value} {ls : List L} (h : Own w base v ls) : Own w.drew base v ls := h
end Go.Proofs.YtcjibpjdfhhhkaaGreat.Nm
end
