import Derived.Deep.MidRow
import Derived.Deep.LoopGhost
import Derived.Test.YteeabfplnaknfaaGreatZB1
import Derived.Test.YteeabfplnaknfaaGreatZB2
import Derived.Test.YteeabfplnaknfaaGreatZB3
import Derived.Test.YteeabfplnaknfaaGreatZB4
import Derived.Test.YteeabfplnaknfaaGreatZB5
import Derived.Test.YteeabfplnaknfaaGreatZB6
import Derived.Test.YteeabfplnaknfaaGreatZB7
import Derived.Test.YteeabfplnaknfaaGreatZB9
import Derived.Test.YteeabfplnaknfaaGreatZB10
import Derived.Test.YteeabfplnaknfaaGreatZB12
import Derived.Test.YteeabfplnaknfaaGreatZB14
section
set_option linter.unusedVariables false
set_option linter.unusedSimpArgs false
namespace Go.Proofs.YteeabfplnaknfaaGreat.Mc
open Go.RowKit Go.Proofs.YteeabfplnaknfaaGreat.Mem Go.Proofs.YteeabfplnaknfaaGreat.DerP Go.Proofs.YteeabfplnaknfaaGreat.DerR Go.Proofs.YteeabfplnaknfaaGreat.Ms

theorem bounded_ok (l : L) (A : Option Addr) (n c : Nat) (w : World) (hn : n = l.length) (h : l.length ≤ 2000) : Calls Tryz.prog 34 #[.slice A n c] w fun e w' => e = .returned (.tuple #[.slice A n c, .int .i64 0]) ∧ w = w' := by
  subst hn
  have t1 : decide ((2000 : Int) < (l.length : Int)) = false := decide_eq_false (by omega)
  clear h
  go_enter Tryz.func34, Tryz.ntmps34
  go_wp2
  go_ret2
  exact ⟨rfl, rfl⟩
theorem an_len {a : An} (ha : anB a = true) : (anE a).length ≤ 2000 := by
  have hp : prB a.c = true ∧ tmB a.t = true ∧ tmB a.q = true := by simpa [anB] using ha
  have b1 := (prE_len hp.1).1; have b2 := encI_le a.t; have b3 := encI_le a.q
  have := elem_len 98 [prE a.c, encI a.t, encI a.q].flatten
  rw [anE]; rw [flat3] at this ⊢; simp only [List.length_append] at this; omega
theorem rp_len {p : Rp} (hk : p.ss.length = 32) (hx : rpB p = true) : (rpE p).length ≤ 2000 := by
  have hp : prB p.s = true := (show prB p.s = true ∧ tmB p.st = true ∧ tmB p.en = true ∧ tmB p.no = true by simpa [rpB] using hx).1
  have b1 := (prE_len hp).1; have b2 := encI_le p.st; have b3 := encI_le p.en; have b4 := encI_le p.no; have b5 := elem_len 4 p.ss
  have := elem_len 122 [elem 4 p.ss, prE p.s, encI p.st, encI p.en, encI p.no].flatten
  rw [rpE]; rw [flat5] at this ⊢; simp only [List.length_append] at this; omega
theorem pt_len {p : Pt} (hk : p.ss.length = 32) (hx : ptB p = true) : (ptE p).length ≤ 2000 := by
  have hp := (pt_parts hx).2.1; have h3 := (pt_parts hx).2.2.1
  have b1 := (prE_len hp).1; have b2 := encI_le p.st; have b3 := encI_le p.en; have b4 := elem_len 27 p.tr; have b5 := elem_len 4 p.ss
  have := elem_len 99 [prE p.c, elem 4 p.ss, elem 27 p.tr, encI p.st, encI p.en].flatten
  rw [ptE]; rw [flat5] at this ⊢; simp only [List.length_append] at this; omega
set_option maxHeartbeats 3200000 in
theorem encauthn_any (a : An) (w : World) (hs : pSm a.c) : Calls Tryz.prog 19 #[.agg #[.string ⟨a.c.1.toArray⟩, .string ⟨a.c.2.toArray⟩, .int .i64 a.t, .int .i64 a.q]] w (EncR w (anO a)) := by
  have HI := Lib.hid (show (Tryz.prog.info? 57).map (·.size) = some (#[.string ⟨a.c.1.toArray⟩, .string ⟨a.c.2.toArray⟩, .int .i64 a.t, .int .i64 a.q] : Array Value).size by kernel_rfl)
  have I1 := Lib.hid (fun w1 => isauthn_any a w1 hs)
  have T0 := Lib.hid (fun (hx : anB a = true) => fun w1 => layauthn_any a w1 hx)
  have HLEN := Lib.hid (fun (hx : anB a = true) => an_len hx)
  obtain ⟨cs, ecs⟩ : ∃ cs : Array Value, cs = #[.string ⟨a.c.1.toArray⟩, .string ⟨a.c.2.toArray⟩, .int .i64 a.t, .int .i64 a.q] := ⟨_, rfl⟩
  rw [← ecs] at HI I1 T0 ⊢
  clear ecs
  have HB := Lib.hid ((Below.refl w.heap.size w).alloc (Nat.le_refl _) (.cells cs 57))
  have HK := Lib.hid (Blk.new w 57 cs)
  cases hx : anB a with
  | false =>
    rw [hx] at I1
    have E := Lib.hid (show anO a = none by unfold anO limO; rw [hx]; rfl)
    rw [E.out]
    clear hx E T0 HLEN hs
    go_enter Tryz.func19, Tryz.ntmps19
    go_wp2_with (first
      | (refine load_cells (by rfl) 57 (.tmp 1) (by rfl) w.heap.size 0 (by rfl) cs _ (range_blk HK.out) Tryz.underlying57 (by rfl) HI.out ?_)
      | (go_at_call 57; refine Calls.mono (I1.out _) ?_; rintro e w1 ⟨rfl, hb⟩; replace HB := Lib.hid (HB.out.trans (hb.mono HB.out.size)); clear hb I1)
      | fail)
    go_ret2
    exact enc_none HB.out
  | true =>
    rw [hx] at I1
    have T1 := Lib.hid (T0.out hx)
    have hlm := HLEN.out hx
    have E := Lib.hid (show anO a = some (anE a) from lim_iff.2 ⟨hx, hlm, rfl⟩)
    rw [E.out]
    obtain ⟨l, el⟩ : ∃ l, l = anE a := ⟨_, rfl⟩
    rw [← el] at T1 hlm ⊢
    have LM := Lib.hid (fun A c w1 => bounded_ok l A _ c w1 rfl hlm)
    clear hx E el hlm T0 HLEN hs
    go_enter Tryz.func19, Tryz.ntmps19
    go_wp2_with (first
      | (refine load_cells (by rfl) 57 (.tmp 1) (by rfl) w.heap.size 0 (by rfl) cs _ (range_blk HK.out) Tryz.underlying57 (by rfl) HI.out ?_)
      | (go_at_call 57; refine Calls.mono (I1.out _) ?_; rintro e w1 ⟨rfl, hb⟩; replace HK := Lib.hid (HK.out.below hb); replace HB := Lib.hid (HB.out.trans (hb.mono HB.out.size)); clear hb I1)
      | (go_at_call 58; refine Calls.mono (T1.out _ ) ?_; rintro e w2 ⟨⟨g, c, rfl, h2, h3, h4⟩, hb⟩; have HG := Lib.hid (gives_on (l := l) ⟨⟨g, c, rfl, h2, h3, h4⟩, hb⟩ HB.out); clear h2 h3 h4 hb T1)
      | (go_at_call 34; refine Calls.mono (LM.out _ _ _) ?_; rintro e wy ⟨rfl, rfl⟩; clear LM)
      | fail)
    go_ret2
    exact enc_some HG.out
set_option maxHeartbeats 3200000 in
theorem encrep_any (p : Rp) (w : World) (hk : p.ss.length = 32) (hs : pSm p.s) : Calls Tryz.prog 21 #[.agg (rpC p).toArray] w (EncR w (rpO p)) := by
  have HI := Lib.hid (show (Tryz.prog.info? 59).map (·.size) = some ((rpC p).toArray : Array Value).size by rw [rp_size hk]; kernel_rfl)
  have I1 := Lib.hid (fun w1 => isrep_any p w1 hk hs)
  have T0 := Lib.hid (fun (hx : rpB p = true) => fun w1 => layrep_any p w1 hk hx)
  have HLEN := Lib.hid (fun (hx : rpB p = true) => rp_len hk hx)
  obtain ⟨cs, ecs⟩ : ∃ cs : Array Value, cs = (rpC p).toArray := ⟨_, rfl⟩
  rw [← ecs] at HI I1 T0 ⊢
  clear ecs
  have HB := Lib.hid ((Below.refl w.heap.size w).alloc (Nat.le_refl _) (.cells cs 59))
  have HK := Lib.hid (Blk.new w 59 cs)
  cases hx : rpB p with
  | false =>
    rw [hx] at I1
    have E := Lib.hid (show rpO p = none by unfold rpO limO; rw [hx]; rfl)
    rw [E.out]
    clear hx E T0 HLEN hs hk
    go_enter Tryz.func21, Tryz.ntmps21
    go_wp2_with (first
      | (refine load_cells (by rfl) 59 (.tmp 1) (by rfl) w.heap.size 0 (by rfl) cs _ (range_blk HK.out) Tryz.underlying59 (by rfl) HI.out ?_)
      | (go_at_call 59; refine Calls.mono (I1.out _) ?_; rintro e w1 ⟨rfl, hb⟩; replace HB := Lib.hid (HB.out.trans (hb.mono HB.out.size)); clear hb I1)
      | fail)
    go_ret2
    exact enc_none HB.out
  | true =>
    rw [hx] at I1
    have T1 := Lib.hid (T0.out hx)
    have hlm := HLEN.out hx
    have E := Lib.hid (show rpO p = some (rpE p) from lim_iff.2 ⟨hx, hlm, rfl⟩)
    rw [E.out]
    obtain ⟨l, el⟩ : ∃ l, l = rpE p := ⟨_, rfl⟩
    rw [← el] at T1 hlm ⊢
    have LM := Lib.hid (fun A c w1 => bounded_ok l A _ c w1 rfl hlm)
    clear hx E el hlm T0 HLEN hs hk
    go_enter Tryz.func21, Tryz.ntmps21
    go_wp2_with (first
      | (refine load_cells (by rfl) 59 (.tmp 1) (by rfl) w.heap.size 0 (by rfl) cs _ (range_blk HK.out) Tryz.underlying59 (by rfl) HI.out ?_)
      | (go_at_call 59; refine Calls.mono (I1.out _) ?_; rintro e w1 ⟨rfl, hb⟩; replace HK := Lib.hid (HK.out.below hb); replace HB := Lib.hid (HB.out.trans (hb.mono HB.out.size)); clear hb I1)
      | (go_at_call 60; refine Calls.mono (T1.out _ ) ?_; rintro e w2 ⟨⟨g, c, rfl, h2, h3, h4⟩, hb⟩; have HG := Lib.hid (gives_on (l := l) ⟨⟨g, c, rfl, h2, h3, h4⟩, hb⟩ HB.out); clear h2 h3 h4 hb T1)
      | (go_at_call 34; refine Calls.mono (LM.out _ _ _) ?_; rintro e wy ⟨rfl, rfl⟩; clear LM)
      | fail)
    go_ret2
    exact enc_some HG.out
set_option maxHeartbeats 3200000 in
theorem encpart_any (p : Pt) (w : World) (hk : p.ss.length = 32) (hs : pSm p.c) (ht : p.tr.length ≤ 1000000000) : Calls Tryz.prog 17 #[.agg (ptC p).toArray] w (EncR w (ptO p)) := by
  have HI := Lib.hid (show (Tryz.prog.info? 55).map (·.size) = some ((ptC p).toArray : Array Value).size by rw [pt_size hk]; kernel_rfl)
  have I1 := Lib.hid (fun w1 => ispart_any p w1 hk hs ht)
  have T0 := Lib.hid (fun (hx : ptB p = true) => fun w1 => laypart_any p w1 hk hx)
  have HLEN := Lib.hid (fun (hx : ptB p = true) => pt_len hk hx)
  obtain ⟨cs, ecs⟩ : ∃ cs : Array Value, cs = (ptC p).toArray := ⟨_, rfl⟩
  rw [← ecs] at HI I1 T0 ⊢
  clear ecs
  have HB := Lib.hid ((Below.refl w.heap.size w).alloc (Nat.le_refl _) (.cells cs 55))
  have HK := Lib.hid (Blk.new w 55 cs)
  cases hx : ptB p with
  | false =>
    rw [hx] at I1
    have E := Lib.hid (show ptO p = none by unfold ptO limO; rw [hx]; rfl)
    rw [E.out]
    clear hx E T0 HLEN hs hk ht
    go_enter Tryz.func17, Tryz.ntmps17
    go_wp2_with (first
      | (refine load_cells (by rfl) 55 (.tmp 1) (by rfl) w.heap.size 0 (by rfl) cs _ (range_blk HK.out) Tryz.underlying55 (by rfl) HI.out ?_)
      | (go_at_call 54; refine Calls.mono (I1.out _) ?_; rintro e w1 ⟨rfl, hb⟩; replace HB := Lib.hid (HB.out.trans (hb.mono HB.out.size)); clear hb I1)
      | fail)
    go_ret2
    exact enc_none HB.out
  | true =>
    rw [hx] at I1
    have T1 := Lib.hid (T0.out hx)
    have hlm := HLEN.out hx
    have E := Lib.hid (show ptO p = some (ptE p) from lim_iff.2 ⟨hx, hlm, rfl⟩)
    rw [E.out]
    obtain ⟨l, el⟩ : ∃ l, l = ptE p := ⟨_, rfl⟩
    rw [← el] at T1 hlm ⊢
    have LM := Lib.hid (fun A c w1 => bounded_ok l A _ c w1 rfl hlm)
    clear hx E el hlm T0 HLEN hs hk ht
    go_enter Tryz.func17, Tryz.ntmps17
    go_wp2_with (first
      | (refine load_cells (by rfl) 55 (.tmp 1) (by rfl) w.heap.size 0 (by rfl) cs _ (range_blk HK.out) Tryz.underlying55 (by rfl) HI.out ?_)
      | (go_at_call 54; refine Calls.mono (I1.out _) ?_; rintro e w1 ⟨rfl, hb⟩; replace HK := Lib.hid (HK.out.below hb); replace HB := Lib.hid (HB.out.trans (hb.mono HB.out.size)); clear hb I1)
      | (go_at_call 55; refine Calls.mono (T1.out _ ) ?_; rintro e w2 ⟨⟨g, c, rfl, h2, h3, h4⟩, hb⟩; have HG := Lib.hid (gives_on (l := l) ⟨⟨g, c, rfl, h2, h3, h4⟩, hb⟩ HB.out); clear h2 h3 h4 hb T1)
      | (go_at_call 34; refine Calls.mono (LM.out _ _ _) ?_; rintro e wy ⟨rfl, rfl⟩; clear LM)
      | fail)
    go_ret2
    exact enc_some HG.out
end Go.Proofs.YteeabfplnaknfaaGreat.Mc
end

section
set_option linter.unusedVariables false
namespace Go.Proofs.YteeabfplnaknfaaGreat.Mc
open Go.Proofs.YteeabfplnaknfaaGreat.DerP Go.Proofs.YteeabfplnaknfaaGreat.Ms

def prQ (c : Option L) : Pr × Option L := (prI (bodyC 48 c), nextC 48 c)
def tkQ (c : Option L) : Tk × Option L := (⟨(prQ (bodyC 97 c)).1, ((intC (prQ (bodyC 97 c)).2).1 : Int), ocC (intC (prQ (bodyC 97 c)).2).2⟩, nextC 97 c)
def keQ (c : Option L) : L × Option L := ((ocC c ++ key0).take 32, nextC 4 c)
theorem keQ_len (c : Option L) : (keQ c).1.length = 32 := by
  show ((ocC c ++ key0).take 32).length = 32
  rw [List.length_take, List.length_append, show key0.length = 32 from rfl]; omega
def ptQ (b : L) : Pt × Option L :=
  let c1 := prQ (bodyC 99 (some b)); let c2 := keQ c1.2; let c3 := nextC 27 c2.2; let c4 := nmP c3; let c5 := nmP c4.2
  (⟨c1.1, c2.1, txC c2.2, c4.1, c5.1⟩, c5.2)
def anQ (b : L) : An × Option L :=
  let c1 := prQ (bodyC 98 (some b)); let c2 := nmP c1.2; let c3 := nmP c2.2
  (⟨c1.1, c2.1, c3.1⟩, c3.2)
def rpQ (b : L) : Rp × Option L :=
  let c1 := keQ (bodyC 122 (some b)); let c2 := prQ c1.2; let c3 := nmP c2.2; let c4 := nmP c3.2; let c5 := nmP c4.2
  (⟨c1.1, c2.1, c3.1, c4.1, c5.1⟩, c5.2)
def asQ (c : Option L) : As × Option L :=
  let c1 := prQ c; let c2 := prQ c1.2; let c3 := nmP c2.2; let c4 := nmP c3.2
  (⟨c1.1, c2.1, c3.1, c4.1⟩, c4.2)
def tgQ (c : Option L) : Tg × Option L :=
  let c1 := tkQ c; let c2 := nextC 4 c1.2; let c3 := prQ c2; let c4 := nmP c3.2; let c5 := nmP c4.2
  (⟨c1.1, ocC c1.2, c3.1, c4.1, c5.1⟩, c5.2)
def reQ (c : Option L) : Re × Option L :=
  let c1 := prQ c; let c2 := tkQ c1.2
  (⟨c1.1, c2.1, ocC c2.2⟩, nextC 4 c2.2)
def apQ (c : Option L) : Ap × Option L :=
  let c1 := tkQ c
  (⟨c1.1, ocC c1.2⟩, nextC 4 c1.2)
def faQ (c : Option L) : Fa × Option L :=
  let c1 := nmP c; let c2 := nmP c1.2
  (⟨c1.1, c2.1⟩, c2.2)
def mgQ (b : L) : Mg :=
  match b with
  | [] => mg0
  | t :: _ =>
    if t = 106 then ⟨1, (asQ (bodyC 106 (some b))).1, tg0, re0, ap0, fa0⟩
    else if t = 108 then ⟨2, as0, (tgQ (bodyC 108 (some b))).1, re0, ap0, fa0⟩
    else if t = 107 then ⟨3, as0, tg0, (reQ (bodyC 107 (some b))).1, ap0, fa0⟩
    else if t = 110 then ⟨4, as0, tg0, re0, (apQ (bodyC 110 (some b))).1, fa0⟩
    else if t = 126 then ⟨5, as0, tg0, re0, ap0, (faQ (bodyC 126 (some b))).1⟩
    else mg0
theorem pr_backQ {p : Pr} (h : prB p = true) (r : L) : prQ (some (prE p ++ r)) = (p, some r) := by
  have h1 := pr_len h
  have h2 := (prE_len h).2
  rw [prQ, prE, be (by omega), ne (by omega), flat2, prI, tx_at (by omega), ne (by omega), tx_at0 (by omega)]
theorem it_back {n : Int} (h0 : 0 ≤ n) (h1 : n ≤ 4611686018427387904) (r : L) : ((intC (some (encI n ++ r))).1 : Int) = n ∧ (intC (some (encI n ++ r))).2 = some r := by
  have := nm_back h0 h1 r
  rw [nmP] at this
  injection this with a b
  exact ⟨a, b⟩
theorem tk_backQ {t : Tk} (h : tkB t = true) (r : L) : tkQ (some (tkE t ++ r)) = (t, some r) := by
  obtain ⟨h1, h2, h3⟩ := tk_parts h
  have h4 := (tkE_len h).2
  have h5 := it_back (n := t.k) (by omega) (by omega) (elem 4 t.b)
  rw [tkQ, tkE, be (by omega), ne (by omega), flat3, pr_backQ h1, h5.1, h5.2, oc_at0 (by omega)]
theorem ke_backQ {k : L} (h : k.length = 32) (r : L) : keQ (some (elem 4 k ++ r)) = (k, some r) := by
  rw [keQ, oc_at (by omega), ne (by omega), List.take_append_of_le_length (by omega), List.take_of_length_le (by omega)]
theorem pt_backQ {p : Pt} (h : ptB p = true) (hk : p.ss.length = 32) : ptQ (ptE p) = (p, some []) := by
  obtain ⟨_, h2, h3, h4, h5⟩ := pt_parts h
  have t4 := tm_parts h4; have t5 := tm_parts h5
  have l1 := (prE_len h2).1
  have l2 := elem_len 4 p.ss
  have l3 := elem_len 27 p.tr
  have l4 := encI_le p.st
  have l5 := encI_le p.en
  have l6 : [prE p.c, elem 4 p.ss, elem 27 p.tr, encI p.st, encI p.en].flatten.length ≤ 65535 := by simp only [List.flatten_cons, List.flatten_nil, List.length_append, List.length_nil]; omega
  rw [ptQ, ptE, be0 l6, flat5, pr_backQ h2]
  simp only
  rw [ke_backQ hk]
  simp only
  rw [tx_at (by omega), ne (by omega), nm_back (by omega) (by omega)]
  simp only
  rw [nm_back0 (by omega) (by omega)]
theorem an_backQ {a : An} (h : anB a = true) : anQ (anE a) = (a, some []) := by
  have h' : prB a.c = true ∧ tmB a.t = true ∧ tmB a.q = true := by simpa [anB] using h
  obtain ⟨h2, h4, h5⟩ := h'
  have t4 := tm_parts h4; have t5 := tm_parts h5
  have l1 := (prE_len h2).1
  have l4 := encI_le a.t
  have l5 := encI_le a.q
  have l6 : [prE a.c, encI a.t, encI a.q].flatten.length ≤ 65535 := by simp only [List.flatten_cons, List.flatten_nil, List.length_append, List.length_nil]; omega
  rw [anQ, anE, be0 l6, flat3, pr_backQ h2]
  simp only
  rw [nm_back (by omega) (by omega)]
  simp only
  rw [nm_back0 (by omega) (by omega)]
theorem rp_backQ {p : Rp} (h : rpB p = true) (hk : p.ss.length = 32) : rpQ (rpE p) = (p, some []) := by
  have h' : prB p.s = true ∧ tmB p.st = true ∧ tmB p.en = true ∧ tmB p.no = true := by simpa [rpB] using h
  obtain ⟨h2, h4, h5, h6⟩ := h'
  have t4 := tm_parts h4; have t5 := tm_parts h5; have t6 := tm_parts h6
  have l1 := (prE_len h2).1
  have l2 := elem_len 4 p.ss
  have l4 := encI_le p.st
  have l5 := encI_le p.en
  have l6 := encI_le p.no
  have l7 : [elem 4 p.ss, prE p.s, encI p.st, encI p.en, encI p.no].flatten.length ≤ 65535 := by simp only [List.flatten_cons, List.flatten_nil, List.length_append, List.length_nil]; omega
  rw [rpQ, rpE, be0 l7, flat5, ke_backQ hk]
  simp only
  rw [pr_backQ h2]
  simp only
  rw [nm_back (by omega) (by omega)]
  simp only
  rw [nm_back (by omega) (by omega)]
  simp only
  rw [nm_back0 (by omega) (by omega)]
theorem as_backQ {q : As} (h : asB q = true) : bodyC 106 (some (asE q)) = some [prE q.c, prE q.s, encI q.t, encI q.no].flatten ∧ asQ (some [prE q.c, prE q.s, encI q.t, encI q.no].flatten) = (q, some []) := by
  have h' : prB q.c = true ∧ prB q.s = true ∧ tmB q.t = true ∧ tmB q.no = true := by simpa [asB] using h
  obtain ⟨h2, h3, h4, h5⟩ := h'
  have t4 := tm_parts h4; have t5 := tm_parts h5
  have l1 := (prE_len h2).1; have l2 := (prE_len h3).1
  have l4 := encI_le q.t
  have l5 := encI_le q.no
  have l7 : [prE q.c, prE q.s, encI q.t, encI q.no].flatten.length ≤ 65535 := by simp only [List.flatten_cons, List.flatten_nil, List.length_append, List.length_nil]; omega
  refine ⟨by rw [asE, be0 l7], ?_⟩
  rw [flat4, asQ, pr_backQ h2]
  simp only
  rw [pr_backQ h3]
  simp only
  rw [nm_back (by omega) (by omega)]
  simp only
  rw [nm_back0 (by omega) (by omega)]
theorem tg_backQ {q : Tg} (h : tgB q = true) : bodyC 108 (some (tgE q)) = some [tkE q.t, elem 4 q.a, prE q.s, encI q.u, encI q.no].flatten ∧ tgQ (some [tkE q.t, elem 4 q.a, prE q.s, encI q.u, encI q.no].flatten) = (q, some []) := by
  have h' : tkB q.t = true ∧ blobB q.a = true ∧ prB q.s = true ∧ tmB q.u = true ∧ tmB q.no = true := by simpa [tgB] using h
  obtain ⟨h2, h3, h6, h4, h5⟩ := h'
  have t4 := tm_parts h4; have t5 := tm_parts h5
  have b3 := blob_parts h3
  have l1 := (tkE_len h2).1; have l2 := elem_len 4 q.a; have l3 := (prE_len h6).1
  have l4 := encI_le q.u
  have l5 := encI_le q.no
  have l7 : [tkE q.t, elem 4 q.a, prE q.s, encI q.u, encI q.no].flatten.length ≤ 65535 := by simp only [List.flatten_cons, List.flatten_nil, List.length_append, List.length_nil]; omega
  refine ⟨by rw [tgE, be0 l7], ?_⟩
  rw [flat5, tgQ, tk_backQ h2]
  simp only
  rw [oc_at (by omega), ne (by omega), pr_backQ h6]
  simp only
  rw [nm_back (by omega) (by omega)]
  simp only
  rw [nm_back0 (by omega) (by omega)]
theorem re_backQ {q : Re} (h : reB q = true) : bodyC 107 (some (reE q)) = some [prE q.c, tkE q.t, elem 4 q.b].flatten ∧ reQ (some [prE q.c, tkE q.t, elem 4 q.b].flatten) = (q, some []) := by
  have h' : prB q.c = true ∧ tkB q.t = true ∧ blobB q.b = true := by simpa [reB] using h
  obtain ⟨h2, h3, h4⟩ := h'
  have b3 := blob_parts h4
  have l1 := (prE_len h2).1; have l2 := (tkE_len h3).1; have l3 := elem_len 4 q.b
  have l7 : [prE q.c, tkE q.t, elem 4 q.b].flatten.length ≤ 65535 := by simp only [List.flatten_cons, List.flatten_nil, List.length_append, List.length_nil]; omega
  refine ⟨by rw [reE, be0 l7], ?_⟩
  rw [flat3, reQ, pr_backQ h2]
  simp only
  rw [tk_backQ h3]
  simp only
  rw [oc_at0 (by omega), ne0 (by omega)]
theorem ap_backQ {q : Ap} (h : apB q = true) : bodyC 110 (some (apE q)) = some [tkE q.t, elem 4 q.a].flatten ∧ apQ (some [tkE q.t, elem 4 q.a].flatten) = (q, some []) := by
  have h' : tkB q.t = true ∧ blobB q.a = true := by simpa [apB] using h
  obtain ⟨h3, h4⟩ := h'
  have b3 := blob_parts h4
  have l2 := (tkE_len h3).1; have l3 := elem_len 4 q.a
  have l7 : [tkE q.t, elem 4 q.a].flatten.length ≤ 65535 := by simp only [List.flatten_cons, List.flatten_nil, List.length_append, List.length_nil]; omega
  refine ⟨by rw [apE, be0 l7], ?_⟩
  rw [flat2, apQ, tk_backQ h3]
  simp only
  rw [oc_at0 (by omega), ne0 (by omega)]
theorem fa_backQ {q : Fa} (h : faB q = true) : bodyC 126 (some (faE q)) = some [encI q.e, encI q.no].flatten ∧ faQ (some [encI q.e, encI q.no].flatten) = (q, some []) := by
  have h' : (1 ≤ q.e ∧ q.e ≤ 255) ∧ tmB q.no = true := by simpa [faB, inB] using h
  obtain ⟨h3, h4⟩ := h'
  have t4 := tm_parts h4
  have l2 := encI_le q.e; have l3 := encI_le q.no
  have l7 : [encI q.e, encI q.no].flatten.length ≤ 65535 := by simp only [List.flatten_cons, List.flatten_nil, List.length_append, List.length_nil]; omega
  refine ⟨by rw [faE, be0 l7], ?_⟩
  rw [flat2, faQ, nm_back (by omega) (by omega)]
  simp only
  rw [nm_back0 (by omega) (by omega)]
theorem mg_backQ {m : Mg} (h : mgB m = true) : mgQ (mgE m) = m := by
  rcases mg_cases h with ⟨h1, e⟩ | ⟨h1, e⟩ | ⟨h1, e⟩ | ⟨h1, e⟩ | ⟨h1, e⟩
  · have hb := as_backQ h1
    have hE : mgE m = asE m.aq := by rw [e]; rfl
    rw [hE]
    conv => rhs; rw [e]
    show (⟨1, (asQ (bodyC 106 (some (asE m.aq)))).1, tg0, re0, ap0, fa0⟩ : Mg) = _
    rw [hb.1, hb.2]
  · have hb := tg_backQ h1
    have hE : mgE m = tgE m.tg := by rw [e]; rfl
    rw [hE]
    conv => rhs; rw [e]
    show (⟨2, as0, (tgQ (bodyC 108 (some (tgE m.tg)))).1, re0, ap0, fa0⟩ : Mg) = _
    rw [hb.1, hb.2]
  · have hb := re_backQ h1
    have hE : mgE m = reE m.re := by rw [e]; rfl
    rw [hE]
    conv => rhs; rw [e]
    show (⟨3, as0, tg0, (reQ (bodyC 107 (some (reE m.re)))).1, ap0, fa0⟩ : Mg) = _
    rw [hb.1, hb.2]
  · have hb := ap_backQ h1
    have hE : mgE m = apE m.ap := by rw [e]; rfl
    rw [hE]
    conv => rhs; rw [e]
    show (⟨4, as0, tg0, re0, (apQ (bodyC 110 (some (apE m.ap)))).1, fa0⟩ : Mg) = _
    rw [hb.1, hb.2]
  · have hb := fa_backQ h1
    have hE : mgE m = faE m.fa := by rw [e]; rfl
    rw [hE]
    conv => rhs; rw [e]
    show (⟨5, as0, tg0, re0, ap0, (faQ (bodyC 126 (some (faE m.fa)))).1⟩ : Mg) = _
    rw [hb.1, hb.2]


theorem mg_same (b : L) : mgD b = if mgO (mgQ b) = some b then some (mgQ b) else none := by
  split
  · rename_i h; exact mg_iff.2 h
  · rename_i h
    cases hd : mgD b with
    | none => rfl
    | some m =>
      exfalso
      have h2 := mg_iff.1 hd
      have h3 := lim_iff.1 h2
      apply h
      have e : mgQ b = m := by rw [← h3.2.2]; exact mg_backQ h3.1
      rw [e]; exact h2
theorem an_same (b : L) : anD b = if anO (anQ b).1 = some b then some (anQ b).1 else none := by
  split
  · rename_i h; exact an_iff.2 h
  · rename_i h
    cases hd : anD b with
    | none => rfl
    | some m =>
      exfalso
      have h2 := an_iff.1 hd
      have h3 := lim_iff.1 h2
      apply h
      have e : (anQ b).1 = m := by rw [← h3.2.2, an_backQ h3.1]
      rw [e]; exact h2
theorem ptQ_key (b : L) : (ptQ b).1.ss.length = 32 := keQ_len _
theorem rpQ_key (b : L) : (rpQ b).1.ss.length = 32 := keQ_len _
theorem pt_same (b : L) : ptD b = if ptO (ptQ b).1 = some b then some (ptQ b).1 else none := by
  split
  · rename_i h; exact (pt_iff (ptQ_key b)).2 h
  · rename_i h
    cases hd : ptD b with
    | none => rfl
    | some m =>
      exfalso
      have h2 := (pt_ok hd).1
      have h3 := lim_iff.1 h2
      apply h
      have hk : m.ss.length = 32 := by
        have := (pt_ok hd).2
        have e : (ptP b).1 = m := by rw [this]
        rw [← e]; exact ke_len _
      have e : (ptQ b).1 = m := by rw [← h3.2.2, pt_backQ h3.1 hk]
      rw [e]; exact h2
theorem rp_same (b : L) : rpD b = if rpO (rpQ b).1 = some b then some (rpQ b).1 else none := by
  split
  · rename_i h; exact (rp_iff (rpQ_key b)).2 h
  · rename_i h
    cases hd : rpD b with
    | none => rfl
    | some m =>
      exfalso
      have h2 := (rp_ok hd).1
      have h3 := lim_iff.1 h2
      apply h
      have hk : m.ss.length = 32 := by
        have := (rp_ok hd).2
        have e : (rpP b).1 = m := by rw [this]
        rw [← e]; exact ke_len _
      have e : (rpQ b).1 = m := by rw [← h3.2.2, rp_backQ h3.1 hk]
      rw [e]; exact h2
end Go.Proofs.YteeabfplnaknfaaGreat.Mc
end

section
set_option linter.unusedVariables false
namespace Go.Proofs.YteeabfplnaknfaaGreat.Mc
open Go.RowKit Go.Proofs.YteeabfplnaknfaaGreat.Mem Go.Proofs.YteeabfplnaknfaaGreat.DerP Go.Proofs.YteeabfplnaknfaaGreat.DerC Go.Proofs.YteeabfplnaknfaaGreat.Ms

def OwnB (w : World) (base : Nat) (v : Value) (l : L) : Prop :=
  ∃ b c, v = .slice (some ⟨b, 0, none⟩) l.length c ∧ l.length ≤ c ∧ base ≤ b ∧ b < w.heap.size ∧ ∀ i u, (bvs l)[i]? = some u → w.cell? ⟨b, i, none⟩ = some u
theorem OwnB.of_fresh {w : World} {base b c : Nat} {l : L} (h : Fresh w base b l) (hc : l.length ≤ c) : OwnB w base (.slice (some ⟨b, 0, none⟩) l.length c) l := by
  refine ⟨b, c, rfl, hc, h.1, h.2.1, fun i u hu => ?_⟩
  have hi : i < l.length := by
    rcases Nat.lt_or_ge i l.length with g | g
    · exact g
    · rw [List.getElem?_eq_none (by rw [bvs_length]; exact g)] at hu; cases hu
  rw [bvs_at hi] at hu
  injection hu with hu
  subst hu
  exact (h.2.2 i hi).1
theorem OwnB.keep {w w' : World} {base g : Nat} {v : Value} {l : L} (h : OwnB w base v l) (hg : w.grownBy w' (some g)) (hlt : g < base) : OwnB w' base v l := by
  obtain ⟨b, c, h1, h2, h3, h4, h5⟩ := h
  exact ⟨b, c, h1, h2, h3, Nat.lt_of_lt_of_le h4 hg.size, fun i u hu => (World.cell?_of_block (a := ⟨b, i, none⟩) (hg.block b h4 (fun e => by injection e with e; omega))).trans (h5 i u hu)⟩
theorem OwnB.below {w w' : World} {base : Nat} {v : Value} {l : L} (h : OwnB w base v l) (hb : Below w.heap.size w w') : OwnB w' base v l := by
  obtain ⟨b, c, h1, h2, h3, h4, h5⟩ := h
  exact ⟨b, c, h1, h2, h3, Nat.lt_of_lt_of_le h4 hb.size, fun i u hu => (hb.cell (p := ⟨b, i, none⟩) h4).trans (h5 i u hu)⟩
theorem OwnB.less {w : World} {base base' : Nat} {v : Value} {l : L} (h : OwnB w base v l) (hb : base' ≤ base) : OwnB w base' v l := by
  obtain ⟨b, c, h1, h2, h3, h4, h5⟩ := h
  exact ⟨b, c, h1, h2, Nat.le_trans hb h3, h4, h5⟩
theorem OwnB.slb {w : World} {base : Nat} {v : Value} {l : L} (h : OwnB w base v l) : SlB w w.heap.size v l := by
  obtain ⟨b, c, h1, h2, h3, h4, h5⟩ := h
  exact ⟨_, c, h1, h2, .inr ⟨b, 0, rfl, h4, fun i u hu => by rw [Nat.zero_add]; exact h5 i u hu⟩⟩

theorem there_blk {w : World} {g : Nat} {t : TypeId} {cs : Array Value} (h : Blk w g t cs) (n : Nat) (hn : n ≤ cs.size) : w.there g 0 n := fun j hj => by
  rw [Nat.zero_add, h.cell, Array.getElem?_eq_getElem (by omega)]
  exact ⟨rfl, h.frozen j⟩
theorem blk_cells_aux {g : Nat} {t : TypeId} : ∀ (vs : List Value) (o : Nat) (w : World) (cs : Array Value), Blk w g t cs → o + vs.length ≤ cs.size →
    ∃ ds : Array Value, Blk (w.setCells g o vs) g t ds ∧ ds.size = cs.size ∧ (∀ i, o ≤ i → i < o + vs.length → ds[i]? = vs[i - o]?) ∧ (∀ i, i < o ∨ o + vs.length ≤ i → ds[i]? = cs[i]?)
  | [], o, w, cs, h, hl => ⟨cs, h, rfl, fun i h1 h2 => by simp at h2; omega, fun i _ => rfl⟩
  | v :: r, o, w, cs, h, hl => by
    rw [World.setCells]
    simp only [List.length_cons] at hl
    obtain ⟨ds, h1, h2, h3, h4⟩ := blk_cells_aux r (o + 1) _ _ (h.set o v) (by simp; omega)
    simp only [List.length_cons]
    refine ⟨ds, h1, by simpa using h2, fun i hi hj => ?_, fun i hi => ?_⟩
    · by_cases e : i = o
      · subst e
        rw [h4 i (by omega), Nat.sub_self]
        rw [Array.getElem?_setIfInBounds_self_of_lt (by omega)]
        rfl
      · rw [h3 i (by omega) (by omega), show i - o = (i - (o + 1)) + 1 by omega]
        simp
    · rw [h4 i (by omega)]
      exact Array.getElem?_setIfInBounds_ne (by omega)
theorem key_copied {w : World} {g : Nat} {t : TypeId} {x : L} (h : Blk w g t (bvs key0).toArray) : Blk (w.setCells g 0 (bvs (x.take 32))) g t (bvs ((x ++ key0).take 32)).toArray := by
  have hk : key0.length = 32 := rfl
  obtain ⟨es, h1, h2, h3, h4⟩ := blk_cells_aux (bvs (x.take 32)) 0 w _ h (by simp [bvs_length, hk]; omega)
  have e : es = (bvs ((x ++ key0).take 32)).toArray := by
    apply Array.ext_getElem?
    intro i
    rw [show (bvs ((x ++ key0).take 32)).toArray[i]? = (bvs ((x ++ key0).take 32))[i]? by simp]
    by_cases hi : i < (x.take 32).length
    · rw [h3 i (by omega) (by rw [bvs_length]; omega), Nat.sub_zero]
      simp only [bvs, List.getElem?_map]
      congr 1
      rw [List.length_take] at hi
      rw [List.getElem?_take_of_lt (by omega), List.getElem?_take_of_lt (by omega), List.getElem?_append_left (by omega)]
    · rw [h4 i (by rw [bvs_length]; omega), show (bvs key0).toArray[i]? = (bvs key0)[i]? by simp]
      simp only [bvs, List.getElem?_map]
      congr 1
      rw [List.length_take] at hi
      by_cases h5 : i < 32
      · rw [List.getElem?_take_of_lt h5, List.getElem?_append_right (by omega)]
        simp only [key0, List.getElem?_replicate]
        rw [if_pos h5, if_pos (by omega)]
      · rw [List.getElem?_eq_none (by rw [hk]; omega), List.getElem?_eq_none (by rw [List.length_take]; omega)]
  rw [← e]; exact h1
theorem blk_cells {w : World} {g : Nat} {t : TypeId} {cs ds : Array Value} (h : Blk w g t cs) (hs : cs.size = ds.size) : Blk (w.setCells g 0 ds.toList) g t ds := by
  obtain ⟨es, h1, h2, h3, _⟩ := blk_cells_aux ds.toList 0 w cs h (by simp; omega)
  have e : es = ds := by
    apply Array.ext_getElem?
    intro i
    by_cases hi : i < ds.size
    · rw [h3 i (by omega) (by simp; omega)]; simp
    · rw [Array.getElem?_eq_none (by omega), Array.getElem?_eq_none (by omega)]
  rw [← e]; rw [← e] at h1; exact h1
theorem g_cells {row : Option Nat} {a : World} {g : Nat} (hp : row = some g ∨ a.heap.size ≤ g) : ∀ (vs : List Value) (o : Nat) (w : World), a.grownBy w row → a.grownBy (w.setCells g o vs) row
  | [], _, _, h => h
  | v :: r, o, w, h => by rw [World.setCells]; exact g_cells hp r (o + 1) _ (g_set h (p := ⟨g, o, none⟩) hp v)
theorem put_cells (w : World) (g : Nat) (vs : List Value) : w.grownBy (w.setCells g 0 vs) (some g) := g_cells (.inl rfl) vs 0 w (World.grownBy.refl _ _)

theorem cur_lt {w : World} {g : Nat} {c : Option L} (h : Cur w g c) : g < w.heap.size := Blk.lt h
theorem cur_far {w w' : World} {g q : Nat} {c : Option L} (h : Cur w g c) (hg : w.grownBy w' (some q)) (hq : q ≠ g) : Cur w' g c := Blk.grown h hg (fun e => hq (by injection e))
theorem takeoct_any (g : Nat) (c : Option L) (w : World) (h : Cur w g c) (hs : ((c.getD []).length : Int) ≤ 100000) : Calls Tryz.prog 122 #[.pointer (some ⟨g, 0, none⟩)] w fun e w' =>
    (∃ v, e = .returned v ∧ OwnB w' w.heap.size v (ocC c)) ∧ Cur w' g (nextC 4 c) ∧ w.grownBy w' (some g) :=
  (octets_any g c w h hs).mono fun e w' hh => by
    obtain ⟨⟨b, cap, rfl, hc, hf⟩, h2, h3⟩ := hh
    exact ⟨⟨_, rfl, OwnB.of_fresh hf hc⟩, h2, h3⟩
theorem taketext_any (g : Nat) (c : Option L) (w : World) (h : Cur w g c) (hs : ((c.getD []).length : Int) ≤ 100000) : Calls Tryz.prog 111 #[.pointer (some ⟨g, 0, none⟩)] w fun e w' =>
    e = .returned (.string ⟨(txC c).toArray⟩) ∧ Cur w' g (nextC 27 c) ∧ w.grownBy w' (some g) := text_any g c w h hs
theorem nx_len (t : UInt8) {c : Option L} {n : Nat} (h : (c.getD []).length ≤ n) : ((nextC t c).getD []).length ≤ n := Nat.le_trans (body_len t c).2 h
theorem bd_len (t : UInt8) {c : Option L} {n : Nat} (h : (c.getD []).length ≤ n) : ((bodyC t c).getD []).length ≤ n := Nat.le_trans (body_len t c).1 h
theorem it_len {c : Option L} {n : Nat} (h : (c.getD []).length ≤ n) : ((intC c).2.getD []).length ≤ n := Nat.le_trans (intC_len c) h
end Go.Proofs.YteeabfplnaknfaaGreat.Mc
end
