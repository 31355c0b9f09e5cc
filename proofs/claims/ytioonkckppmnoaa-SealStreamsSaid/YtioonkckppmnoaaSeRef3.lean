/-
  The document's own: bytes under the stream.
-/
import Derived.Test.YtioonkckppmnoaaSeRef2
set_option linter.unusedVariables false
namespace Go.Proofs.Ytioonkckppmnoaa.Se
open Go.RowKit Go.Proofs.Ytioonkckppmnoaa.Mem

theorem mixL_next (ks : Nat → UInt8) (u n : Nat) (p : List UInt8) (i : Nat) (h : i < p.length) (h2 : i < (strmL ks u n p.length).length) : bvs ((mixL ks u n p).take i) ++ [bv (p[i] ^^^ (strmL ks u n p.length)[i])] = bvs ((mixL ks u n p).take (i + 1)) := by
  rw [List.take_add_one, mixL_at ks u n p i h h2, bvs_append]; rfl
theorem xor_b2 (y x : UInt8) : bits .xor .u8 (y.toNat : Int) (x.toNat : Int) = ((y ^^^ x).toNat : Int) := by
  rw [u8_xor_nat _ _ y.toNat_lt x.toNat_lt, UInt8.toNat_xor]
/-- two arrays of 16, made and written -/
def twoW (w1 : World) (z : Array Value) (t : TypeId) (cs ds : Array Value) : World := (((w1.alloc (.cells z t)).alloc (.cells z t)).setCells w1.heap.size 0 cs.toList).setCells (w1.heap.size + 1) 0 ds.toList
theorem two_arrays (w1 : World) (z : Array Value) (t : TypeId) (cs ds : Array Value) (h1 : z.size = cs.size) (h2 : z.size = ds.size) :
    (twoW w1 z t cs ds).rangeAt w1.heap.size 0 cs.toList ∧ (twoW w1 z t cs ds).rangeAt (w1.heap.size + 1) 0 ds.toList ∧ Below w1.heap.size w1 (twoW w1 z t cs ds) ∧ w1.heap.size + 2 ≤ (twoW w1 z t cs ds).heap.size := by
  have t1 : ((w1.alloc (.cells z t)).alloc (.cells z t)).there w1.heap.size 0 cs.toList.length := by
    have := World.there_alloc (Si.there_blk (Blk.new w1 t z)) (.cells z t)
    rwa [h1, ← Array.length_toList] at this
  have t2 : ((w1.alloc (.cells z t)).alloc (.cells z t)).there (w1.heap.size + 1) 0 ds.toList.length := by
    have := Si.there_blk (Si.Blk.new_of (w1.alloc (.cells z t)) (w1.heap.size + 1) t z z rfl (by simp))
    rwa [h2, ← Array.length_toList] at this
  refine ⟨World.rangeAt_setCells_apart (World.rangeAt_setCells_same _ _ _ _ t1) _ _ _ (.inl (by omega)), World.rangeAt_setCells_same _ _ _ _ (World.there_setCells t2 _ _ _), ?_, ?_⟩
  · exact Si.below_setCells _ (by omega) _ _ _ (Si.below_setCells _ (Nat.le_refl _) _ _ _ (((Below.refl _ _).alloc (Nat.le_refl _) _).alloc (by simp) _))
  · unfold twoW; rw [SpL.setCells_size, SpL.setCells_size]; simp
set_option maxRecDepth 100000 in
set_option maxHeartbeats 3200000 in
theorem dmix (ks : Nat → UInt8) (u n : Nat) (A : Option Addr) (m c : Nat) (p : List UInt8) (w : World) (hu : u ≤ 255) (hn : n < 18446744073709551616) (hm : m = p.length) (hm2 : m ≤ 1000) (hr : Rd w w.heap.size A (bvs p)) :
    Calls Try.prog 29 #[.agg (key32 ks), .int .i64 (u : Int), .int .u64 (n : Int), .slice A m c] w fun e w' => ∃ v, e = .returned v ∧ w'.ownsRow w.heap.size 5 1 v m (bvs (mixL ks u n p)) ∧ Below w.heap.size w w' := by
  obtain ⟨ib, hi0, hz0, hs0, hb0⟩ := info_parts Si.u8_info
  obtain ⟨B, eB⟩ : ∃ B, B = w.heap.size := ⟨_, rfl⟩
  obtain ⟨N, eN⟩ : ∃ N, N = sn u n := ⟨_, rfl⟩
  have hsn := sn_wrap u n hu
  have hsn2 := sn_num u n hu
  have hsnlt := sn_lt u n
  rw [← eN] at hsn hsn2 hsnlt
  have hu1 : (u : Int) % 18446744073709551616 = (u : Int) := by omega
  have hstr : Sp.strm (Sp.kw ks) (Sp.upW N) (Sp.loW N) m = strmL ks u n m := by rw [eN]; rfl
  have ch := fun w1 => dhalves ks w1
  have cw := fun w1 => Sp.dwords ks w1
  have cst := fun w1 => SpL.dstream (Sp.kw ks) N m (m : Int) w1 hsnlt hm2 (by simp)
  rw [hstr] at cst
  have i32 := info32 ks
  have i16 := info16 ks
  have i16b := info16 (k2 ks)
  have o16 := one16 ks
  have o16b := one16 (k2 ks)
  have z16 := key16_size ks
  have z16b := key16_size (k2 ks)
  obtain ⟨kc, ekc⟩ : ∃ kc, kc = key32 ks := ⟨_, rfl⟩
  obtain ⟨cs, ecs⟩ : ∃ cs, cs = Sp.key16 ks := ⟨_, rfl⟩
  obtain ⟨ds, eds⟩ : ∃ ds, ds = Sp.key16 (k2 ks) := ⟨_, rfl⟩
  obtain ⟨xs, exs⟩ : ∃ xs, xs = Sp.cells27 (Sp.kw ks) := ⟨_, rfl⟩
  rw [← ekc] at ch i32 ⊢
  rw [← ecs] at ch cw i16 o16 z16
  rw [← eds] at ch i16b o16b z16b
  rw [← exs] at cw cst
  have hz : Sp.key16 (fun _ => 0) = #[.int .u8 0, .int .u8 0, .int .u8 0, .int .u8 0, .int .u8 0, .int .u8 0, .int .u8 0, .int .u8 0, .int .u8 0, .int .u8 0, .int .u8 0, .int .u8 0, .int .u8 0, .int .u8 0, .int .u8 0, .int .u8 0] := rfl
  have EB := Lib.hid eB
  have HR := Lib.hid (eB ▸ hr); clear hr
  have HM := Lib.hid hm; clear hm
  have q3 : (m : Int) ≤ 1000 := by omega
  have HM2 := Lib.hid hm2; clear hm2
  have I32 := Lib.hid i32; clear i32
  have I16 := Lib.hid i16; clear i16
  have I16B := Lib.hid i16b; clear i16b
  have O16 := Lib.hid o16; clear o16
  have O16B := Lib.hid o16b; clear o16b
  have Z16 := Lib.hid z16; clear z16
  have Z16B := Lib.hid z16b; clear z16b
  have HZ := Lib.hid hz; clear hz
  have CST := Lib.hid cst; clear cst
  have HSN := Lib.hid hsn; clear hsn
  have HSN2 := Lib.hid hsn2
  have HSN3 : Hid (((n : Int) * 256 + (u : Int)) % 18446744073709551616 = (N : Int)) := by rw [← hsn2]; show _ = _; omega
  have HSN4 : Hid (IntKind.u64.wrap (IntKind.u64.wrap ((n : Int) * 256) + (u : Int)) = (N : Int)) := by rw [IntKind.wrap_u64, IntKind.wrap_u64]; omega
  clear hsn2
  have h0 : Blk (w.alloc (.cells kc 26)) B 26 kc := eB ▸ Blk.new w _ _
  have hb0' : Below B w (w.alloc (.cells kc 26)) := eB ▸ (Below.refl w.heap.size w).alloc (Nat.le_refl _) _
  have H0 := Lib.hid h0; clear h0
  have HB0 := Lib.hid hb0'; clear hb0'
  clear hu hn hstr hsnlt eN ekc ecs eds exs eB
  go_enter Try.func29, Try.ntmps29
  go_upto_region 2 with (first
    | (refine load_cells (by rfl) 26 (.tmp 4) (by rfl) w.heap.size 0 (by rfl) kc _ (Si.range_blk (Blk.new w 26 kc)) Try.underlying26 (by rfl) I32.out ?_)
    | (go_at_call 42; refine Calls.mono (ch _) ?_; rintro e w1 ⟨rfl, hb1⟩; clear ch; have hb1 := HB0.out.trans (hb1.mono (by have := EB.out; simp; omega)); have H1 := Lib.hid hb1; clear hb1)
    | (refine wpList_store_mid (by rfl) 46 (.tmp 9) (.tmp 17) (by rfl) w1.heap.size 0 cs (by rfl) (by rfl) (by rw [Z16.out]; exact World.there_alloc (by have := Si.there_blk (Blk.new w1 46 (Sp.key16 fun _ => 0)); rwa [key16_size] at this) _) I16.out O16.out ?_)
    | (refine wpList_store_mid (by rfl) 46 (.tmp 10) (.tmp 18) (by rfl) (w1.heap.size + 1) 0 ds (by rfl) (by rfl) (by rw [Z16B.out]; exact World.there_setCells (by have := Si.there_blk (Si.Blk.new_of (w1.alloc (.cells (Sp.key16 fun _ => 0) 46)) (w1.heap.size + 1) 46 _ (Sp.key16 fun _ => 0) rfl (by simp)); rwa [key16_size] at this) _ _ _) I16B.out O16B.out ?_)
    | fail)
  have h2 := two_arrays w1 (Sp.key16 fun _ => 0) 46 cs ds (by rw [key16_size, Z16.out]) (by rw [key16_size, Z16B.out])
  change Code.wp _ _ _ _ (twoW w1 (Sp.key16 fun _ => 0) 46 cs ds)
  generalize twoW w1 (Sp.key16 fun _ => 0) 46 cs ds = W2 at h2 ⊢
  have hb2 := H1.out.trans (h2.2.2.1.mono (by have := H1.out.size; have := EB.out; omega))
  have HB2 := Lib.hid hb2; clear hb2
  have HA2 := Lib.hid h2.1; clear h2
  have cw2 := cw W2
  clear cw
  go_wp2_with (first
    | (refine load_cells (by rfl) 46 (.tmp 9) (by rfl) w1.heap.size 0 (by rfl) cs _ HA2.out Try.underlying46 (by rfl) I16.out ?_)
    | (go_at_call 21; refine Calls.mono cw2 ?_; rintro e w3 ⟨rfl, hb3⟩; clear cw2; have hb3 := HB2.out.trans (hb3.mono (by have := HB2.out.size; have := EB.out; omega)); have c4 := CST.out w3; have H3 := Lib.hid hb3; clear hb3)
    | (go_at_call 20; (first | rw [HSN2.out] | rw [HSN.out] | rw [HSN3.out] | rw [HSN4.out]); refine Calls.mono c4 ?_; rintro e w5 ⟨As, sc, rfl, hsc, hrs, hb5⟩; clear c4; have hb5 := H3.out.trans (hb5.mono (by have := H3.out.size; have := EB.out; omega)); have H5 := Lib.hid hb5; have RS := Lib.hid hrs; clear hb5 hrs)
    | fail)
  obtain ⟨N0, eN0⟩ : ∃ N0, N0 = w5.heap.size := ⟨_, rfl⟩
  have EN := Lib.hid eN0; clear eN0
  have hsm : (strmL ks u n m).length = m := strmL_length ks u n m
  have HSM := Lib.hid hsm; clear hsm
  go_loopw [12, 13] (fun bv_ iv wr => ∃ i : Nat, i ≤ m ∧ iv = .int .i64 (i : Int) ∧ wr.ownsRow N0 5 1 bv_ i (bvs ((mixL ks u n p).take i)) ∧ Below N0 w5 wr) (fun _ iv _ => m - (intOf iv).toNat)
  case atStart => exact ⟨0, Nat.zero_le _, rfl, ⟨rfl, .inl ⟨rfl, rfl⟩⟩, Below.refl _ _⟩
  case round =>
    obtain ⟨i, hi, rfl, hown, hbl⟩ := hrel
    have HO := Lib.hid hown; clear hown
    have HW := Lib.hid hbl; clear hbl
    by_cases hx : i = m
    · subst hx
      go_wp2_with fail
      go_ret
      have h9 := HO.out
      rw [List.take_of_length_le (by rw [mixL_length, HM.out]; exact Nat.le_refl _)] at h9
      refine ⟨_, rfl, h9.mono (by have := EN.out; have := H5.out.size; omega), ?_⟩
      rw [← EB.out]
      exact H5.out.trans (HW.out.mono (by have := EN.out; have := H5.out.size; have := EB.out; omega))
    · have hlt : i < m := by omega
      have hlp : i < p.length := by have := HM.out; omega
      have e1 : (i : Int) < (m : Int) := by omega
      have e2 : (0 : Int) ≤ (i : Int) := by omega
      have e3 : (i : Int) < 1000 := by omega
      have hls : i < (strmL ks u n p.length).length := by rw [strmL_length]; exact hlp
      have hls2 : i < (strmL ks u n m).length := by rw [strmL_length]; exact hlt
      obtain ⟨y, ey⟩ : ∃ y, y = p[i] := ⟨_, rfl⟩
      obtain ⟨x, ex⟩ : ∃ x, x = (strmL ks u n p.length)[i] := ⟨_, rfl⟩
      obtain ⟨z, ez⟩ : ∃ z, z = y ^^^ x := ⟨_, rfl⟩
      obtain ⟨b1, o1, rfl, hb1', hc1⟩ := HR.out.at_ (bvs_at hlp)
      obtain ⟨b2, o2, rfl, hb2', hc2⟩ := RS.out.at_ (bvs_at hls2)
      rw [← ey] at hc1
      have hex : (strmL ks u n m)[i] = x := by
        rw [ex]
        have := HM.out
        subst this
        rfl
      rw [hex] at hc2
      have hb1n : b1 < N0 := by have := EN.out; have := H5.out.size; have := EB.out; omega
      have hb2n : b2 < N0 := by have := EN.out; omega
      have d1 : wr.cell? ⟨b1, o1 + i, none⟩ = some (.int .u8 (y.toNat : Int)) := (HW.out.cell (p := ⟨b1, o1 + i, none⟩) hb1n).trans ((H5.out.cell (p := ⟨b1, o1 + i, none⟩) hb1').trans hc1)
      have d2 : wr.cell? ⟨b2, o2 + i, none⟩ = some (.int .u8 (x.toNat : Int)) := (HW.out.cell (p := ⟨b2, o2 + i, none⟩) hb2n).trans hc2
      have hxo : bits .xor .u8 (y.toNat : Int) (x.toNat : Int) = (z.toNat : Int) := by rw [ez]; exact xor_b2 y x
      have hnx := mixL_next ks u n p i hlp hls
      rw [← ey, ← ex, ← ez] at hnx
      have NX := Lib.hid hnx; clear hnx
      have HX := Lib.hid hx; clear hx
      have HI := Lib.hid hi; clear hi
      clear ey ex ez hc1 hc2 hex hls hls2 hb1' hb2' hb1n hb2n
      go_wp2_with fail
      go_region_law (refine step_append_lies _ (by rfl) (.tmp 35) (.tmp 45) 22 (by rfl) N0 5 ib _ 1 1 Try.underlying22 hi0 hz0 hs0 hb0 (by rfl) (by decide) u12 i (bvs ((mixL ks u n p).take i)) (by rfl) (own_push HO.out (by rfl)) ⟨wr.heap.size, 0, none⟩ 1 1 [.int .u8 (z.toNat : Int)] (by rfl) (by rfl) (Sp.news_push (by rfl)) (by simp [Value.oneCell']) (by decide) (by have := HI.out; have := HM2.out; unfold maxLen; omega) (by have := HI.out; have := HM2.out; omega) (by have := EN.out; have := HW.out.size; simp; omega) (wr.heap.size + 1) (by simp) ?_; intro g2 cap2 w2 hown2 hgrow hat hlt)
      all_goals (
        have hg2 : (wr.alloc (.cells #[.int .u8 (z.toNat : Int)] 5)).grownBy w2 u12.ownBlock := ⟨hgrow.os, hgrow.tape, hgrow.output, hgrow.size, hgrow.block⟩
        have hb2 := (HW.out.alloc (by have := EN.out; have := HW.out.size; omega) (Obj.cells #[.int .u8 (z.toNat : Int)] 5)).grown hg2 (by have := EN.out; have := HW.out.size; simp; omega) (fun q hq => (HO.out.lt q hq).1)
        have O6 := Lib.hid hown2; clear hown2
        have B6 := Lib.hid hb2; clear hb2
        clear hgrow hat hlt hg2 d1 d2
        go_wp2_with fail
        go_roundw
        case rel => exact ⟨i + 1, by omega, by go_num, by rw [← NX.out]; exact O6.out, B6.out⟩
        case measure => simp [intOf]; omega)
end Go.Proofs.Ytioonkckppmnoaa.Se
