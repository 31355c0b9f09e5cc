/-
  The code's Krbtgt, Target, IsPrinc of chapter 5.
-/
import Derived.Test.YtcjibpjdfhhhkaaNmUp
set_option linter.unusedVariables false
namespace Go.Proofs.Ytcjibpjdfhhhkaa.Nm
open Go.RowKit Go.Proofs.Ytcjibpjdfhhhkaa.Mem
theorem mk_append (a b : L) : ByteArray.mk a.toArray ++ ByteArray.mk b.toArray = ByteArray.mk (a ++ b).toArray := by
  apply ByteArray.ext
  simp
attribute [local go_sem] mk_at List.getElem_cons_zero List.getElem_cons_succ ext_tail ext_drop ext_mid ext_take

def krb : L := [107, 114, 98, 116, 103, 116, 47]
def tgL (n : L) : Bool := preL krb n && isL (cpL krb n)
def tgR (n : L) : L := if tgL n then n.drop 7 else []
def princL (r n : L) : Bool := isL r && (tgL n || wordL wordB n)
theorem tg_len {n : L} (h : n.length ≤ 1000000000) : (tgR n).length ≤ 1000000000 := by rw [tgR]; split <;> simp <;> omega

set_option maxHeartbeats 800000 in
theorem target_any (n : L) (w : World) (hs : n.length ≤ 1000000000) : Calls Try.prog 35 #[.string ⟨n.toArray⟩] w fun e w' => e = .returned (.tuple #[.string ⟨(tgR n).toArray⟩, .bool (tgL n)]) ∧ Below w.heap.size w w' := by
  have c1 := cutprefix_any n krb w hs (by decide)
  have hcl := cp_len krb n
  have c2 := is_any (cpL krb n) w (by omega)
  have C3 := Lib.hid (fun w1 => clone_any (cpL krb n) w1 (by omega))
  have HB0 := Lib.hid (Below.refl w.heap.size w)
  cases h1 : preL krb n with
  | false =>
    have E1 := Lib.hid (show tgL n = false by rw [tgL, h1]; rfl)
    have E2 := Lib.hid (show tgR n = [] by rw [tgR, E1.out]; rfl)
    rw [h1] at c1
    clear h1 hs hcl c2
    go_enter Try.func35, Try.ntmps35
    go_wp2_with (go_at_call 46; refine Calls.mono c1 ?_; rintro e w1 ⟨rfl, rfl⟩; clear c1)
    go_ret2
    exact ⟨by rw [E1.out, E2.out]; rfl, HB0.out⟩
  | true =>
    cases h2 : isL (cpL krb n) with
    | false =>
      have E1 := Lib.hid (show tgL n = false by rw [tgL, h1, h2]; rfl)
      have E2 := Lib.hid (show tgR n = [] by rw [tgR, E1.out]; rfl)
      rw [h1] at c1
      rw [h2] at c2
      clear h1 h2 hs hcl
      go_enter Try.func35, Try.ntmps35
      go_wp2_with (first
        | (go_at_call 46; refine Calls.mono c1 ?_; rintro e w1 ⟨rfl, rfl⟩; clear c1)
        | (go_at_call 34; refine Calls.mono c2 ?_; rintro e w2 ⟨rfl, hd⟩; clear c2; have H2 := Lib.hid hd.below; clear hd))
      go_ret2
      exact ⟨by rw [E1.out, E2.out]; rfl, H2.out⟩
    | true =>
      have E1 := Lib.hid (show tgL n = true by rw [tgL, h1, h2]; rfl)
      have E2 := Lib.hid (show tgR n = cpL krb n by rw [tgR, E1.out, cpL, h1]; rfl)
      rw [h1] at c1
      rw [h2] at c2
      clear h1 h2 hs hcl
      go_enter Try.func35, Try.ntmps35
      go_wp2_with (first
        | (go_at_call 46; refine Calls.mono c1 ?_; rintro e w1 ⟨rfl, rfl⟩; clear c1)
        | (go_at_call 34; refine Calls.mono c2 ?_; rintro e w2 ⟨rfl, hd⟩; clear c2; have H2 := Lib.hid hd.below; clear hd; have c3 := C3.out w2)
        | (go_at_call 38; refine Calls.mono c3 ?_; rintro e w3 ⟨rfl, hb⟩; clear c3; have H3 := Lib.hid (H2.out.trans (hb.mono H2.out.size)); clear hb))
      go_ret2
      exact ⟨by rw [E1.out, E2.out]; rfl, H3.out⟩

set_option maxHeartbeats 800000 in
theorem isprinc_any (r n : L) (w : World) (hs : r.length ≤ 1000000000) (hs2 : n.length ≤ 1000000000) : Calls Try.prog 19 #[.agg #[.string ⟨r.toArray⟩, .string ⟨n.toArray⟩]] w fun e w' => e = .returned (.bool (princL r n)) ∧ Below w.heap.size w w' := by
  have c1 := is_any r (w.alloc (.cells #[.string ⟨r.toArray⟩, .string ⟨n.toArray⟩] 25)) hs
  have hk := Blk.new w 25 #[.string ⟨r.toArray⟩, .string ⟨n.toArray⟩]
  have hb0 := (Below.refl w.heap.size w).alloc (Nat.le_refl _) (.cells #[.string ⟨r.toArray⟩, .string ⟨n.toArray⟩] 25)
  have hsz : w.heap.size < (w.alloc (.cells #[.string ⟨r.toArray⟩, .string ⟨n.toArray⟩] 25)).heap.size := by simp
  obtain ⟨N, eN⟩ : ∃ N, N = w.heap.size := ⟨_, rfl⟩
  have C2 := Lib.hid (fun w1 => target_any n w1 hs2)
  have C3 := Lib.hid (fun w1 => isword_sd n w1 hs2)
  have E1 := Lib.hid (show princL r n = (isL r && (tgL n || wordL wordB n)) from rfl)
  rw [← eN] at hk hb0 hsz ⊢
  have EN := Lib.hid eN; clear eN
  have HK := Lib.hid hk; clear hk
  have HB0 := Lib.hid hb0; clear hb0
  have HSZ := Lib.hid hsz; clear hsz hs hs2
  cases h1 : isL r with
  | false =>
    rw [h1] at c1
    have E := Lib.hid (show princL r n = false by rw [E1.out, h1]; rfl)
    clear h1
    go_enter Try.func19, Try.ntmps19
    go_wp2_with (go_at_call 34; refine Calls.mono c1 ?_; rintro e w1 ⟨rfl, hd⟩; clear c1; have H1 := Lib.hid (HB0.out.trans (hd.below.mono (Nat.le_of_lt HSZ.out))); clear hd)
    go_ret
    exact ⟨by rw [E.out]; rfl, H1.out⟩
  | true =>
    rw [h1] at c1
    have C2' := Lib.hid (fun w1 => C2.out w1)
    cases h2 : tgL n with
    | true =>
      have E := Lib.hid (show princL r n = true by rw [E1.out, h1, h2]; rfl)
      have HT := Lib.hid h2
      clear h1 h2
      go_enter Try.func19, Try.ntmps19
      go_wp2_with (first
        | (go_at_call 34; refine Calls.mono c1 ?_; rintro e w1 ⟨rfl, hd⟩; clear c1; have H1 := Lib.hid (HB0.out.trans (hd.below.mono (Nat.le_of_lt HSZ.out))); have hk1 := (HK.out.below hd.below).cell 1; have hs1 : N < w1.heap.size := (by have := hd.below.size; have := HSZ.out; omega); have HS1 := Lib.hid hs1; rw [EN.out] at hk1; clear hd hs1; have c2 := C2.out w1; rw [HT.out] at c2)
        | (go_at_call 35; refine Calls.mono c2 ?_; rintro e w2 ⟨rfl, hb⟩; clear c2; have H2 := Lib.hid (H1.out.trans (hb.mono (Nat.le_of_lt HS1.out))); clear hb))
      go_ret
      exact ⟨by rw [E.out]; rfl, H2.out⟩
    | false =>
      have E := Lib.hid (show princL r n = wordL wordB n by rw [E1.out, h1, h2]; rfl)
      have HT := Lib.hid h2
      clear h1 h2
      go_enter Try.func19, Try.ntmps19
      go_wp2_with (first
        | (go_at_call 34; refine Calls.mono c1 ?_; rintro e w1 ⟨rfl, hd⟩; clear c1; have H1 := Lib.hid (HB0.out.trans (hd.below.mono (Nat.le_of_lt HSZ.out))); have hkk := HK.out.below hd.below; have HKK := Lib.hid hkk; have hk1 := hkk.cell 1; have hs1 : N < w1.heap.size := (by have := hd.below.size; have := HSZ.out; omega); have HS1 := Lib.hid hs1; rw [EN.out] at hk1; clear hd hs1 hkk; have c2 := C2.out w1; rw [HT.out] at c2)
        | (go_at_call 35; refine Calls.mono c2 ?_; rintro e w2 ⟨rfl, hb⟩; clear c2 hk1; have H2 := Lib.hid (H1.out.trans (hb.mono (Nat.le_of_lt HS1.out))); have hk2 := (HKK.out.below hb).cell 1; rw [EN.out] at hk2; clear hb; have c3 := C3.out w2)
        | (go_at_call 36; refine Calls.mono c3 ?_; rintro e w3 ⟨rfl, rfl⟩; clear c3))
      go_ret
      exact ⟨by rw [E.out]; rfl, H2.out⟩
end Go.Proofs.Ytcjibpjdfhhhkaa.Nm
