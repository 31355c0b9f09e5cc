/-
  The document's own: the tag.
-/
import Derived.Test.YtioonkckppmnoaaSeRef3
import Derived.Laws.OwnMore
set_option linter.unusedVariables false
namespace Go.Proofs.Ytioonkckppmnoaa.Se
open Go.RowKit Go.Proofs.Ytioonkckppmnoaa.Mem

theorem range_grown {w w' : World} {b o : Nat} {cs : List Value} {row : Option Nat} (h : w.rangeAt b o cs) (hb : b < w.heap.size) (hg : w.grownBy w' row) (hr : row ≠ some b) : w'.rangeAt b o cs := fun j v hv =>
  (World.cell?_of_block (a := ⟨b, o + j, none⟩) (hg.block b hb (fun e => hr e.symm))).trans (h j v hv)
theorem range_below {w w' : World} {b o : Nat} {cs : List Value} (h : w.rangeAt b o cs) (hb : b < w.heap.size) (hg : Below w.heap.size w w') : w'.rangeAt b o cs := range_grown h hb (g_of_below hg none) (by simp)
set_option maxRecDepth 100000 in
set_option maxHeartbeats 3200000 in
theorem dtag (ks : Nat → UInt8) (u : Nat) (A : Option Addr) (m c : Nat) (l : List UInt8) (w : World) (hu : u ≤ 255) (hm : m = l.length) (hm2 : m ≤ 1000) (hr : Rd w w.heap.size A (bvs l)) :
    Calls Try.prog 30 #[.agg (key32 ks), .int .i64 (u : Int), .slice A m c] w fun e w' => ∃ v, e = .returned v ∧ w'.ownsRow w.heap.size 5 1 v 8 (bvs (w8 (tagL ks u l))) ∧ Below w.heap.size w w' := by
  obtain ⟨ib, hi0, hz0, hs0, hb0⟩ := info_parts Si.u8_info
  obtain ⟨B, eB⟩ : ∃ B, B = w.heap.size := ⟨_, rfl⟩
  have ch := fun w1 => dhalves ks w1
  have i32 := info32 ks
  have i16 := info16 ks
  have i16b := info16 (k2 ks)
  have o16 := one16 ks
  have o16b := one16 (k2 ks)
  have z16 := key16_size ks
  have z16b := key16_size (k2 ks)
  obtain ⟨T, eT⟩ : ∃ T, T = tagL ks u l := ⟨_, rfl⟩
  have hTL : T < 18446744073709551616 := by rw [eT]; exact tagL_lt _ _ _
  have csum := fun (w4 : World) (A4 : Option Addr) (c4 : Nat) (h1 : 1 + m ≤ c4) (h2 : c4 ≤ maxLen) (h3 : Rd w4 w4.heap.size A4 (bvs (UInt8.ofNat u :: l))) => Si.dsum_any (k2 ks) A4 (1 + m) c4 (UInt8.ofNat u :: l) w4 (by rw [List.length_cons, hm, Nat.add_comm]) (by omega) h1 h2 h3
  have hT : ∀ e, e = Ending.returned (Si.wv (Si.sumOf (k2 ks) (UInt8.ofNat u :: l))) → e = .returned (.int .u64 (T : Int)) := fun e h => by rw [h, eT]; rfl
  have hbu : [Value.int .u8 (u : Int)] ++ bvs l = bvs (UInt8.ofNat u :: l) := by
    show [Value.int .u8 (u : Int)] ++ bvs l = bv (UInt8.ofNat u) :: bvs l
    rw [bv_num u hu]; rfl
  obtain ⟨kc, ekc⟩ : ∃ kc, kc = key32 ks := ⟨_, rfl⟩
  obtain ⟨cs, ecs⟩ : ∃ cs, cs = Sp.key16 ks := ⟨_, rfl⟩
  have hds : ∃ dl : List Value, dl.toArray = Sp.key16 (k2 ks) := ⟨_, rfl⟩
  obtain ⟨dl, edl⟩ := hds
  obtain ⟨L, eL⟩ : ∃ L, L = UInt8.ofNat u :: l := ⟨_, rfl⟩
  rw [← ekc] at ch i32 ⊢
  rw [← ecs] at ch i16 o16 z16
  rw [← edl] at ch i16b o16b z16b
  have hkk : Si.key16 (k2 ks) = Sp.key16 (k2 ks) := rfl
  rw [hkk, ← edl] at csum
  rw [← eL] at csum hT hbu
  rw [← eT]
  have u16 : (Try.prog.info? 46).map (·.size) = some dl.length := by rw [← List.size_toArray]; exact i16b
  have hu16 := Try.underlying46
  have hu1 : (u : Int) ≤ 255 := by omega
  have hu2 : (0 : Int) ≤ (u : Int) := by omega
  have hu3 : (u : Int) % 256 = (u : Int) := by omega
  have hu4 : IntKind.u8.wrap (u : Int) = (u : Int) := by rw [IntKind.wrap_u8']; exact hu3
  have EB := Lib.hid eB
  have HR := Lib.hid (eB ▸ hr); clear hr
  have HM := Lib.hid hm; clear hm
  have q3 : (m : Int) ≤ 1000 := by omega
  have HM2 := Lib.hid hm2; clear hm2
  have I32 := Lib.hid i32; clear i32
  have I16 := Lib.hid i16; clear i16
  have I16B := Lib.hid i16b; clear i16b
  have O16 := Lib.hid o16; clear o16
  have O16B := Lib.hid o16b; clear o16b
  have Z16 := Lib.hid z16; clear z16
  have Z16B := Lib.hid z16b; clear z16b
  have CSUM := Lib.hid csum; clear csum
  have HT := Lib.hid hT; clear hT
  have HBU := Lib.hid hbu; clear hbu
  have TL := Lib.hid hTL; clear hTL
  have U16 := Lib.hid u16; clear u16
  have HU16 := Lib.hid hu16; clear hu16
  have hb0' : Below B w (w.alloc (.cells kc 26)) := eB ▸ (Below.refl w.heap.size w).alloc (Nat.le_refl _) _
  have HB0 := Lib.hid hb0'; clear hb0'
  clear hu ekc ecs edl eT eL hkk eB
  go_enter Try.func30, Try.ntmps30
  go_upto_region 2 with (first
    | (refine load_cells (by rfl) 26 (.tmp 3) (by rfl) w.heap.size 0 (by rfl) kc _ (Si.range_blk (Blk.new w 26 kc)) Try.underlying26 (by rfl) I32.out ?_)
    | (go_at_call 42; refine Calls.mono (ch _) ?_; rintro e w1 ⟨rfl, hb1⟩; clear ch; have hb1 := HB0.out.trans (hb1.mono (by have := EB.out; simp; omega)); have H1 := Lib.hid hb1; clear hb1)
    | (refine wpList_store_mid (by rfl) 46 (.tmp 7) (.tmp 12) (by rfl) w1.heap.size 0 cs (by rfl) (by rfl) (by rw [Z16.out]; exact World.there_alloc (by have := Si.there_blk (Blk.new w1 46 (Sp.key16 fun _ => 0)); rwa [key16_size] at this) _) I16.out O16.out ?_)
    | (refine wpList_store_mid (by rfl) 46 (.tmp 8) (.tmp 13) (by rfl) (w1.heap.size + 1) 0 dl.toArray (by rfl) (by rfl) (by rw [Z16B.out]; exact World.there_setCells (by have := Si.there_blk (Si.Blk.new_of (w1.alloc (.cells (Sp.key16 fun _ => 0) 46)) (w1.heap.size + 1) 46 _ (Sp.key16 fun _ => 0) rfl (by simp)); rwa [key16_size] at this) _ _ _) I16B.out O16B.out ?_)
    | fail)
  have h2 := two_arrays w1 (Sp.key16 fun _ => 0) 46 cs dl.toArray (by rw [key16_size, Z16.out]) (by rw [key16_size, Z16B.out])
  change Code.wp _ _ _ _ (twoW w1 (Sp.key16 fun _ => 0) 46 cs dl.toArray)
  generalize twoW w1 (Sp.key16 fun _ => 0) 46 cs dl.toArray = W2 at h2 ⊢
  have hb2 := H1.out.trans (h2.2.2.1.mono (by have := H1.out.size; have := EB.out; omega))
  have HB2 : Hid (Below B w W2.drew) := below_drewN hb2 1
  have hra : W2.drew.rangeAt (w1.heap.size + 1) 0 dl := by have := h2.2.1; simpa using this
  have HSZ := Lib.hid (show w1.heap.size + 2 ≤ W2.drew.heap.size from h2.2.2.2)
  clear h2 hb2
  have hu16 := HU16.out
  have u16 := U16.out
  simp only [Act.put]
  have LIT : Hid ((W2.alloc (.cells #[.int .u8 (u : Int)] 5)).drew.ownsRow W2.heap.size 5 1 (.slice (some ⟨W2.heap.size, 0, none⟩) 1 1) 1 [.int .u8 (u : Int)]) := World.ownsRow_lit (base := W2.heap.size) (e := 5) (size := 1) W2.drew #[.int .u8 (u : Int)] 1 (Nat.le_refl _) (by decide) (by rfl)
  have hBW : B ≤ W2.drew.heap.size := by have := HB2.out.size; have := EB.out; omega
  have HB3 : Hid (Below B w (W2.alloc (.cells #[.int .u8 (u : Int)] 5)).drew) := HB2.out.alloc hBW (.cells #[.int .u8 (u : Int)] 5)
  have HRD : Hid (Rd (W2.alloc (.cells #[.int .u8 (u : Int)] 5)).drew B A (bvs l)) := HR.out.below HB3.out
  have hra3 : (W2.alloc (.cells #[.int .u8 (u : Int)] 5)).drew.rangeAt (w1.heap.size + 1) 0 dl := World.rangeAt_alloc hra (.cells #[.int .u8 (u : Int)] 5)
  have HSZ3 : Hid ((W2.alloc (.cells #[.int .u8 (u : Int)] 5)).drew.heap.size = W2.heap.size + 1) := by show (W2.alloc _).heap.size = _; simp
  have HSZ2 : Hid (w1.heap.size + 2 ≤ W2.heap.size) := HSZ.out
  have HBS : Hid (B ≤ W2.heap.size) := hBW
  clear hBW
  go_region_held3 (fun w' => w'.rangeAt (w1.heap.size + 1) 0 dl) (first | exact hra | exact hra3 | exact hS4 | exact hS5 | exact hS6) (first
    | (rw [if_pos (by rfl)]; refine wp_append_rd _ (.tmp 17) (.tmp 18) 22 (by rfl) W2.heap.size 5 ib _ 1 Try.underlying22 hi0 hz0 hs0 hb0 (by rfl) _ 1 [.int .u8 (u : Int)] (by rfl) LIT.out B A m c (bvs l) (by rfl) (by rw [bvs_length]; exact HM.out) HRD.out (bvs_one _) (by have := HM2.out; unfold maxLen; omega) (by have := HM2.out; omega) (by have := HSZ3.out; omega) ?_; intro v4 w4 hown4 hgrow4 hat4; rw [HBU.out] at hown4; have hS4 : w4.rangeAt (w1.heap.size + 1) 0 dl := range_grown hra3 (by have := HSZ3.out; have := HSZ2.out; omega) hgrow4 (by have := HSZ2.out; simp [Value.ownBlock]; omega); have hb4 : Below B w w4 := HB3.out.grown hgrow4 (by have := HSZ3.out; have := HBS.out; omega) (fun k hk => by have := HBS.out; simp [Value.ownBlock] at hk; omega); obtain ⟨A4, c4, hv4, hc4, hm4, hr4⟩ := own_rda (S := fun _ => False) hown4 (fun _ _ x => x); subst hv4; have csum4 := CSUM.out w4 A4 c4 hc4 hm4 hr4.rd; have H4 := Lib.hid hb4; have Z4 := Lib.hid hgrow4.size; clear hown4 hgrow4 hat4 hb4 hc4 hm4 hr4)
    | (go_at_call 43; refine Calls.mono csum4 ?_; rintro e w5 ⟨he, hb5⟩; have he := HT.out e he; subst he; clear csum4; have hS5 : w5.rangeAt (w1.heap.size + 1) 0 dl := range_below hS4 (by have := Z4.out; have := HSZ3.out; have := HSZ2.out; omega) hb5; have Z5 := Lib.hid hb5.size; have hb5 := H4.out.trans (hb5.mono (by have := H4.out.size; have := EB.out; omega)); have cbig := dbig T w5 TL.out; have H5 := Lib.hid hb5; clear hb5)
    | (go_at_call 28; refine Calls.mono cbig ?_; rintro e w6 ⟨v6, rfl, hown6, hb6⟩; clear cbig; have hS6 : w6.rangeAt (w1.heap.size + 1) 0 dl := range_below hS5 (by have := Z4.out; have := Z5.out; have := HSZ3.out; have := HSZ2.out; omega) hb6; have hb6 := H5.out.trans (hb6.mono (by have := H5.out.size; have := EB.out; omega)); have H6 := Lib.hid hb6; have O6 := Lib.hid hown6; have Z6 := Lib.hid H5.out.size; clear hb6 hown6))
  all_goals (
    clear hra hra3 hS4 hS5 hS6
    go_wp2_with fail
    go_ret
    exact ⟨_, rfl, O6.out.mono (by have := Z6.out; have := EB.out; omega), EB.out ▸ H6.out⟩)
end Go.Proofs.Ytioonkckppmnoaa.Se
