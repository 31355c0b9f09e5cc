/-
  Int, Octets and Text of chapter 1, by Wrap's contract.
-/
import Derived.Test.YtkkpcnibghndgaaDerLay2
namespace Go.Proofs.Ytkkpcnibghndgaa.DerW
open Go.RowKit Go.Proofs.Ytkkpcnibghndgaa.Mem Go.Proofs.Ytkkpcnibghndgaa.DerP

/-- a row just built of one byte slice -/
theorem rds_one (w : World) (t : TypeId) (B : Nat) (A : Option Addr) (l : L) (n c : Nat) (hn : n = l.length) (h : Rd w B A (bvs l)) (hB : B ≤ w.heap.size) :
    Rds (w.alloc (.cells #[.slice A n c] t)) (w.heap.size + 1) (some ⟨w.heap.size, 0, none⟩) [l] := by
  subst hn
  refine .inr ⟨w.heap.size, 0, rfl, by omega, fun i l' hi => ?_⟩
  have hi0 : i = 0 := by
    rcases Nat.eq_zero_or_pos i with g | g
    · exact g
    · rw [List.getElem?_eq_none (by simp; omega)] at hi; cases hi
  subst hi0
  injection hi with hi
  subst hi
  exact ⟨A, c, (Blk.new w t _).cell 0, (h.alloc hB _).more (by omega)⟩

theorem octets_any (l : L) (A : Option Addr) (n c B : Nat) (w : World) (hr : Rd w B A (bvs l)) (hn : n = l.length) (hB : B ≤ w.heap.size) (hl : l.length ≤ 65535) :
    Calls Try.prog 16 #[.slice A n c] w fun e w' =>
      ∃ v, e = .returned v ∧ w'.ownsRow w.heap.size 5 1 v (elem 4 l).length (bvs (elem 4 l)) ∧ Below w.heap.size w w' := by
  have hrs := rds_one w 22 B A l n c hn hr hB
  have hw := wrap_any 4 [l] (some ⟨w.heap.size, 0, none⟩) 1 1 (w.heap.size + 1) (w.alloc (.cells #[.slice A n c] 22)) hrs rfl (by simp) (by simpa using hl) (by simp)
  have e : [l].flatten = l := by simp
  rw [e] at hw
  have HW := Lib.hid hw
  clear hw hrs hr hn hl e
  go_enter Try.func16, Try.ntmps16
  go_wp2_with (go_at_call 20; refine HW.out.mono ?_; rintro e w1 ⟨v, rfl, hown, hbel⟩)
  go_ret
  refine ⟨_, rfl, ?_, (Below.refl w.heap.size w).alloc (Nat.le_refl _) _ |>.trans (hbel.mono (by simp))⟩
  exact hown.mono (by simp)

theorem int_any (n : Int) (w : World) :
    Calls Try.prog 14 #[.int .i64 n] w fun e w' =>
      ∃ v, e = .returned v ∧ w'.ownsRow w.heap.size 5 1 v (encI n).length (bvs (encI n)) ∧ Below w.heap.size w w' := by
  have hd := digits_any (clampN n) (clampN_le n)
  rw [clampN_int] at hd
  have hw : ∀ (W : World) (g : Nat), Blk W g 5 (bvs (dig (clampN n))).toArray → Calls Try.prog 20 #[.int .u8 2, .slice (some ⟨W.heap.size, 0, none⟩) 1 1] (W.alloc (.cells #[.slice (some ⟨g, 0, none⟩) (dig (clampN n)).length (dig (clampN n)).length] 22)) fun e w' =>
      ∃ v, e = .returned v ∧ w'.ownsRow W.heap.size 5 1 v (encI n).length (bvs (encI n)) ∧ Below W.heap.size W w' := by
    intro W g hB
    have hr : Rd W W.heap.size (some ⟨g, 0, none⟩) (bvs (dig (clampN n))) := .inr ⟨g, 0, rfl, hB.lt, fun i u hu => by
      rw [Nat.zero_add, hB.cell i]; simpa using hu⟩
    have hrs := rds_one W 22 W.heap.size _ _ _ (dig (clampN n)).length rfl hr (Nat.le_refl _)
    have hd8 := encI_len n
    have h := wrap_any 2 [dig (clampN n)] (some ⟨W.heap.size, 0, none⟩) 1 1 (W.heap.size + 1) _ hrs rfl (by simp) (by simp; omega) (by simp)
    have e : [dig (clampN n)].flatten = dig (clampN n) := by simp
    rw [e] at h
    refine h.mono ?_
    rintro e w' ⟨v, rfl, hown, hbel⟩
    exact ⟨v, rfl, hown.mono (by simp), (Below.refl W.heap.size W).alloc (Nat.le_refl _) _ |>.trans (hbel.mono (by simp))⟩
  have HD := Lib.hid hd
  have HW := Lib.hid hw
  clear hd hw
  go_enter Try.func14, Try.ntmps14
  go_wp2_with (first
    | (go_at_call 36; refine (HD.out _).mono ?_; rintro e w1 ⟨g, rfl, hg, hB, hbel⟩)
    | (go_at_call 20; refine (HW.out _ _ hB).mono ?_; rintro e w2 ⟨v, rfl, hown, hbel2⟩))
  go_ret
  exact ⟨_, rfl, hown.mono hbel.size, hbel.trans (hbel2.mono hbel.size)⟩

theorem text_any (l : L) (w : World) (hl : l.length ≤ 65535) :
    Calls Try.prog 18 #[.string ⟨l.toArray⟩] w fun e w' =>
      ∃ v, e = .returned v ∧ w'.ownsRow w.heap.size 5 1 v (elem 27 l).length (bvs (elem 27 l)) ∧ Below w.heap.size w w' := by
  have hcv := fun (W : World) => Lib.run_convert_string_bytes (P := Try.prog) W 9 22 5 ⟨l.toArray⟩ Try.underlying9 Try.underlying22 Try.underlying5
  have hw : ∀ (W : World) (c : Nat), Calls Try.prog 20 #[.int .u8 27, .slice (some ⟨W.heap.size + 1, 0, none⟩) 1 1] ((Lib.bytesWorld W 5 ⟨l.toArray⟩).alloc (.cells #[.slice (some ⟨W.heap.size, 0, none⟩) l.length c] 22)) fun e w' =>
      ∃ v, e = .returned v ∧ w'.ownsRow W.heap.size 5 1 v (elem 27 l).length (bvs (elem 27 l)) ∧ Below W.heap.size W w' := by
    intro W c
    have hs := Lib.bytesWorld_size W 5 ⟨l.toArray⟩
    have hr := (bytes_fresh W 5 l).rd
    have hrs := rds_one _ 22 _ _ _ l.length c rfl hr (Nat.le_refl _)
    rw [hs] at hrs
    have h := wrap_any 27 [l] (some ⟨W.heap.size + 1, 0, none⟩) 1 1 (W.heap.size + 1 + 1) _ hrs rfl (by simp [hs]) (by simpa using hl) (by simp)
    have e : [l].flatten = l := by simp
    rw [e] at h
    refine h.mono ?_
    rintro e w' ⟨v, rfl, hown, hbel⟩
    refine ⟨v, rfl, hown.mono (by simp [hs]; omega), ?_⟩
    exact ((bytes_below W _ _).alloc (by rw [hs]; omega) _).trans (hbel.mono (by simp [hs]; omega))
  have HW := Lib.hid hw
  clear hw hl
  have hsz := fun (W : World) => Lib.bytesWorld_size W 5 ⟨l.toArray⟩
  go_enter Try.func18, Try.ntmps18
  go_wp2_with (go_at_call 20; refine (HW.out _ _).mono ?_; rintro e w2 ⟨v, rfl, hown, hbel2⟩)
  go_ret
  exact ⟨_, rfl, hown, hbel2⟩

end Go.Proofs.Ytkkpcnibghndgaa.DerW
