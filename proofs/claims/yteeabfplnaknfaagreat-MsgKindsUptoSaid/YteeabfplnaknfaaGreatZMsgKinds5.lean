import Derived.Deep.LoopGhost
import Derived.Deep.RegionHeld3
import Derived.Deep.MidRow
import Derived.Deep.Cut
import Derived.Deep.CutRange
import Derived.Deep.CutBlock
import Derived.Test.YteeabfplnaknfaaGreatZMsgKinds1
import Derived.Test.YteeabfplnaknfaaGreatZMsgKinds2
import Derived.Test.YteeabfplnaknfaaGreatZMsgKinds3
import Derived.Test.YteeabfplnaknfaaGreatZMsgKinds4
section
set_option linter.unusedVariables false
namespace Go.Proofs.YteeabfplnaknfaaGreat.Ms
open Go.Proofs.YteeabfplnaknfaaGreat.DerP
open Go.Proofs.YteeabfplnaknfaaGreat.Nm (princL isL tgL wordL wordB kindL)

abbrev Pr := L × L
structure Tk where
  s : Pr
  k : Int
  b : L
deriving DecidableEq
structure Pt where
  c : Pr
  ss : L
  tr : L
  st : Int
  en : Int
deriving DecidableEq
structure An where
  c : Pr
  t : Int
  q : Int
deriving DecidableEq
structure Rp where
  ss : L
  s : Pr
  st : Int
  en : Int
  no : Int
deriving DecidableEq
structure As where
  c : Pr
  s : Pr
  t : Int
  no : Int
deriving DecidableEq
structure Tg where
  t : Tk
  a : L
  s : Pr
  u : Int
  no : Int
deriving DecidableEq
structure Re where
  c : Pr
  t : Tk
  b : L
deriving DecidableEq
structure Ap where
  t : Tk
  a : L
deriving DecidableEq
structure Fa where
  e : Int
  no : Int
deriving DecidableEq
structure Mg where
  k : Int
  aq : As
  tg : Tg
  re : Re
  ap : Ap
  fa : Fa
deriving DecidableEq

def pr0 : Pr := ([], [])
def tk0 : Tk := ⟨pr0, 0, []⟩
def as0 : As := ⟨pr0, pr0, 0, 0⟩
def tg0 : Tg := ⟨tk0, [], pr0, 0, 0⟩
def re0 : Re := ⟨pr0, tk0, []⟩
def ap0 : Ap := ⟨tk0, []⟩
def fa0 : Fa := ⟨0, 0⟩
def mg0 : Mg := ⟨0, as0, tg0, re0, ap0, fa0⟩
def key0 : L := List.replicate 32 0
def pt0 : Pt := ⟨pr0, key0, [], 0, 0⟩
def an0 : An := ⟨pr0, 0, 0⟩
def rp0 : Rp := ⟨key0, pr0, 0, 0, 0⟩

def inB (n a b : Int) : Bool := decide (a ≤ n) && decide (n ≤ b)
def blobB (b : L) : Bool := decide (1 ≤ b.length) && decide (b.length ≤ 800)
def prB (p : Pr) : Bool := princL p.1 p.2
def tmB (n : Int) : Bool := inB n 0 1073741824
def tkB (t : Tk) : Bool := prB t.s && (inB t.k 1 255 && blobB t.b)
def txtB (l : L) : Bool := l.all fun x => decide (32 ≤ x.toNat) && decide (x.toNat ≤ 126)
def ptB (p : Pt) : Bool := txtB p.tr && (prB p.c && (decide (p.tr.length ≤ 300) && (tmB p.st && tmB p.en)))
def anB (a : An) : Bool := prB a.c && (tmB a.t && tmB a.q)
def rpB (p : Rp) : Bool := prB p.s && (tmB p.st && (tmB p.en && tmB p.no))
def asB (q : As) : Bool := prB q.c && (prB q.s && (tmB q.t && tmB q.no))
def tgB (q : Tg) : Bool := tkB q.t && (blobB q.a && (prB q.s && (tmB q.u && tmB q.no)))
def reB (q : Re) : Bool := prB q.c && (tkB q.t && blobB q.b)
def apB (q : Ap) : Bool := tkB q.t && blobB q.a
def faB (q : Fa) : Bool := inB q.e 1 255 && tmB q.no
def mgB (m : Mg) : Bool :=
  if m.k = 1 then asB m.aq && decide (m = ⟨1, m.aq, tg0, re0, ap0, fa0⟩)
  else if m.k = 2 then tgB m.tg && decide (m = ⟨2, as0, m.tg, re0, ap0, fa0⟩)
  else if m.k = 3 then reB m.re && decide (m = ⟨3, as0, tg0, m.re, ap0, fa0⟩)
  else if m.k = 4 then apB m.ap && decide (m = ⟨4, as0, tg0, re0, m.ap, fa0⟩)
  else if m.k = 5 then faB m.fa && decide (m = ⟨5, as0, tg0, re0, ap0, m.fa⟩)
  else false

def prE (p : Pr) : L := elem 48 [elem 27 p.1, elem 27 p.2].flatten
def tkE (t : Tk) : L := elem 97 [prE t.s, encI t.k, elem 4 t.b].flatten
def ptE (p : Pt) : L := elem 99 [prE p.c, elem 4 p.ss, elem 27 p.tr, encI p.st, encI p.en].flatten
def anE (a : An) : L := elem 98 [prE a.c, encI a.t, encI a.q].flatten
def rpE (p : Rp) : L := elem 122 [elem 4 p.ss, prE p.s, encI p.st, encI p.en, encI p.no].flatten
def asE (q : As) : L := elem 106 [prE q.c, prE q.s, encI q.t, encI q.no].flatten
def tgE (q : Tg) : L := elem 108 [tkE q.t, elem 4 q.a, prE q.s, encI q.u, encI q.no].flatten
def reE (q : Re) : L := elem 107 [prE q.c, tkE q.t, elem 4 q.b].flatten
def apE (q : Ap) : L := elem 110 [tkE q.t, elem 4 q.a].flatten
def faE (q : Fa) : L := elem 126 [encI q.e, encI q.no].flatten
def mgE (m : Mg) : L := if m.k = 1 then asE m.aq else if m.k = 2 then tgE m.tg else if m.k = 3 then reE m.re else if m.k = 4 then apE m.ap else faE m.fa
def limO (ok : Bool) (l : L) : Option L := if ok = true ∧ l.length ≤ 2000 then some l else none
def mgO (m : Mg) : Option L := limO (mgB m) (mgE m)
def ptO (p : Pt) : Option L := limO (ptB p) (ptE p)
def anO (a : An) : Option L := limO (anB a) (anE a)
def rpO (p : Rp) : Option L := limO (rpB p) (rpE p)

def whC (c : Option L) : Bool := decide (c = some [])
def txC (c : Option L) : L := (bodyC 27 c).getD []
def ocC (c : Option L) : L := (bodyC 4 c).getD []
def prI (d : Option L) : Pr := (txC d, txC (nextC 27 d))
def prP (c : Option L) : Pr × Option L := (prI (bodyC 48 c), if whC (nextC 27 (nextC 27 (bodyC 48 c))) then nextC 48 c else none)
def nmP (c : Option L) : Int × Option L := (((intC c).1 : Int), (intC c).2)
def tkS (d : Option L) : Option L := (nmP (prP d).2).2
def tkI (d : Option L) : Tk := ⟨(prP d).1, (nmP (prP d).2).1, ocC (tkS d)⟩
def tkP (c : Option L) : Tk × Option L := (tkI (bodyC 97 c), if whC (nextC 4 (tkS (bodyC 97 c))) then nextC 97 c else none)
def keP (c : Option L) : L × Option L := if (ocC c).length = 32 then (ocC c, nextC 4 c) else (key0, none)
def ptP (b : L) : Pt × Option L :=
  let c1 := prP (bodyC 99 (some b)); let c2 := keP c1.2; let c3 := nextC 27 c2.2; let c4 := nmP c3; let c5 := nmP c4.2
  (⟨c1.1, c2.1, txC c2.2, c4.1, c5.1⟩, c5.2)
def anP (b : L) : An × Option L :=
  let c1 := prP (bodyC 98 (some b)); let c2 := nmP c1.2; let c3 := nmP c2.2
  (⟨c1.1, c2.1, c3.1⟩, c3.2)
def rpP (b : L) : Rp × Option L :=
  let c1 := keP (bodyC 122 (some b)); let c2 := prP c1.2; let c3 := nmP c2.2; let c4 := nmP c3.2; let c5 := nmP c4.2
  (⟨c1.1, c2.1, c3.1, c4.1, c5.1⟩, c5.2)
def asP (c : Option L) : As × Option L :=
  let c1 := prP c; let c2 := prP c1.2; let c3 := nmP c2.2; let c4 := nmP c3.2
  (⟨c1.1, c2.1, c3.1, c4.1⟩, c4.2)
def tgP (c : Option L) : Tg × Option L :=
  let c1 := tkP c; let c2 := nextC 4 c1.2; let c3 := prP c2; let c4 := nmP c3.2; let c5 := nmP c4.2
  (⟨c1.1, ocC c1.2, c3.1, c4.1, c5.1⟩, c5.2)
def reP (c : Option L) : Re × Option L :=
  let c1 := prP c; let c2 := tkP c1.2
  (⟨c1.1, c2.1, ocC c2.2⟩, nextC 4 c2.2)
def apP (c : Option L) : Ap × Option L :=
  let c1 := tkP c
  (⟨c1.1, ocC c1.2⟩, nextC 4 c1.2)
def faP (c : Option L) : Fa × Option L :=
  let c1 := nmP c; let c2 := nmP c1.2
  (⟨c1.1, c2.1⟩, c2.2)
def mgP (b : L) : Mg :=
  match b with
  | [] => mg0
  | t :: _ =>
    if t = 106 then ⟨1, (asP (bodyC 106 (some b))).1, tg0, re0, ap0, fa0⟩
    else if t = 108 then ⟨2, as0, (tgP (bodyC 108 (some b))).1, re0, ap0, fa0⟩
    else if t = 107 then ⟨3, as0, tg0, (reP (bodyC 107 (some b))).1, ap0, fa0⟩
    else if t = 110 then ⟨4, as0, tg0, re0, (apP (bodyC 110 (some b))).1, fa0⟩
    else if t = 126 then ⟨5, as0, tg0, re0, ap0, (faP (bodyC 126 (some b))).1⟩
    else mg0
def mgD (b : L) : Option Mg := if mgO (mgP b) = some b then some (mgP b) else none
def ptD (b : L) : Option Pt := if ptO (ptP b).1 = some b then some (ptP b).1 else none
def anD (b : L) : Option An := if anO (anP b).1 = some b then some (anP b).1 else none
def rpD (b : L) : Option Rp := if rpO (rpP b).1 = some b then some (rpP b).1 else none

theorem elem_len (t : UInt8) (p : L) : (elem t p).length ≤ p.length + 4 := by
  rw [length_elem, length_szL]; split
  · omega
  · split <;> omega
theorem encI_le (n : Int) : (encI n).length ≤ 12 := by
  have := elem_len 2 (dig (clampN n)); have := encI_len n; rw [encI]; omega
theorem name_len {n : L} (h : (tgL n || wordL wordB n) = true) : n.length ≤ 43 := by
  rw [Bool.or_eq_true] at h
  rcases h with h | h
  · rw [Nm.tgL, Bool.and_eq_true] at h
    have h1 : kindL (Nm.cpL Nm.krb n) ≠ 0 := by have := h.2; simp only [isL, decide_eq_true_eq] at this; omega
    have h2 := Tr.real_len h1
    have h3 : Nm.cpL Nm.krb n = n.drop 7 := by rw [Nm.cpL, h.1]; rfl
    rw [h3, List.length_drop] at h2
    omega
  · have := (Nm.wordL_iff _ _).1 h
    omega
theorem pr_len {p : Pr} (h : prB p = true) : p.1.length ≤ 36 ∧ p.2.length ≤ 43 := by
  rw [prB, princL, Bool.and_eq_true] at h
  refine ⟨Tr.real_len ?_, name_len h.2⟩
  have := h.1
  simp only [isL, decide_eq_true_eq] at this
  omega
theorem flat2 (a b : L) : [a, b].flatten = a ++ b := by simp
theorem flat3 (a b c : L) : [a, b, c].flatten = a ++ (b ++ c) := by simp
theorem flat4 (a b c d : L) : [a, b, c, d].flatten = a ++ (b ++ (c ++ d)) := by simp
theorem flat5 (a b c d e : L) : [a, b, c, d, e].flatten = a ++ (b ++ (c ++ (d ++ e))) := by simp
theorem prE_len {p : Pr} (h : prB p = true) : (prE p).length ≤ 91 ∧ [elem 27 p.1, elem 27 p.2].flatten.length ≤ 87 := by
  have h1 := pr_len h
  have h2 := elem_len 27 p.1
  have h3 := elem_len 27 p.2
  have h4 := elem_len 48 [elem 27 p.1, elem 27 p.2].flatten
  have h5 : [elem 27 p.1, elem 27 p.2].flatten.length = (elem 27 p.1).length + (elem 27 p.2).length := by simp
  rw [prE]; omega
theorem tk_parts {t : Tk} (h : tkB t = true) : prB t.s = true ∧ (1 ≤ t.k ∧ t.k ≤ 255) ∧ (1 ≤ t.b.length ∧ t.b.length ≤ 800) := by
  simpa [tkB, inB, blobB] using h
theorem tkE_len {t : Tk} (h : tkB t = true) : (tkE t).length ≤ 911 ∧ [prE t.s, encI t.k, elem 4 t.b].flatten.length ≤ 907 := by
  obtain ⟨h1, _, h2⟩ := tk_parts h
  have h3 := (prE_len h1).1
  have h4 := encI_le t.k
  have h5 := elem_len 4 t.b
  have h6 := elem_len 97 [prE t.s, encI t.k, elem 4 t.b].flatten
  have h7 : [prE t.s, encI t.k, elem 4 t.b].flatten.length = (prE t.s).length + ((encI t.k).length + (elem 4 t.b).length) := by simp
  rw [tkE]; omega

section
variable {t : UInt8} {p r : L}
theorem be (h : p.length ≤ 65535) (r : L) : bodyC t (some (elem t p ++ r)) = some p := (body_some (split_elem t p r h)).1
theorem ne (h : p.length ≤ 65535) (r : L) : nextC t (some (elem t p ++ r)) = some r := (body_some (split_elem t p r h)).2
theorem be0 (h : p.length ≤ 65535) : bodyC t (some (elem t p)) = some p := by have := be (t := t) h []; rwa [List.append_nil] at this
theorem ne0 (h : p.length ≤ 65535) : nextC t (some (elem t p)) = some [] := by have := ne (t := t) h []; rwa [List.append_nil] at this
theorem tx_at (h : p.length ≤ 65535) (r : L) : txC (some (elem 27 p ++ r)) = p := by rw [txC, be h]; rfl
theorem tx_at0 (h : p.length ≤ 65535) : txC (some (elem 27 p)) = p := by rw [txC, be0 h]; rfl
theorem oc_at (h : p.length ≤ 65535) (r : L) : ocC (some (elem 4 p ++ r)) = p := by rw [ocC, be h]; rfl
theorem oc_at0 (h : p.length ≤ 65535) : ocC (some (elem 4 p)) = p := by rw [ocC, be0 h]; rfl
end
theorem nm_back {n : Int} (h0 : 0 ≤ n) (h1 : n ≤ 4611686018427387904) (r : L) : nmP (some (encI n ++ r)) = (n, some r) := by
  rw [nmP, int_enc, clampN_of n h0 h1]
  congr 1
  omega
theorem nm_back0 {n : Int} (h0 : 0 ≤ n) (h1 : n ≤ 4611686018427387904) : nmP (some (encI n)) = (n, some []) := by
  have := nm_back h0 h1 []; rwa [List.append_nil] at this
theorem pr_back {p : Pr} (h : prB p = true) (r : L) : prP (some (prE p ++ r)) = (p, some r) := by
  have h1 := pr_len h
  have h2 := (prE_len h).2
  rw [prP, prE, be (by omega), ne (by omega), flat2, prI, tx_at (by omega), ne (by omega), tx_at0 (by omega), ne0 (by omega)]
  rfl
theorem tk_back {t : Tk} (h : tkB t = true) (r : L) : tkP (some (tkE t ++ r)) = (t, some r) := by
  obtain ⟨h1, h2, h3⟩ := tk_parts h
  have h4 := (tkE_len h).2
  rw [tkP, tkE, be (by omega), ne (by omega), flat3, tkI, tkS, pr_back h1, nm_back (by omega) (by omega), oc_at0 (by omega), ne0 (by omega)]
  rfl
theorem ke_back {k : L} (h : k.length = 32) (r : L) : keP (some (elem 4 k ++ r)) = (k, some r) := by
  rw [keP, oc_at (by omega), if_pos h, ne (by omega)]
theorem tm_parts {n : Int} (h : tmB n = true) : 0 ≤ n ∧ n ≤ 1073741824 := by simpa [tmB, inB] using h
theorem pt_parts {p : Pt} (h : ptB p = true) : txtB p.tr = true ∧ prB p.c = true ∧ p.tr.length ≤ 300 ∧ tmB p.st = true ∧ tmB p.en = true := by
  simpa [ptB] using h
theorem pt_back {p : Pt} (h : ptB p = true) (hk : p.ss.length = 32) : ptP (ptE p) = (p, some []) := by
  obtain ⟨_, h2, h3, h4, h5⟩ := pt_parts h
  have t4 := tm_parts h4; have t5 := tm_parts h5
  have l1 := (prE_len h2).1
  have l2 := elem_len 4 p.ss
  have l3 := elem_len 27 p.tr
  have l4 := encI_le p.st
  have l5 := encI_le p.en
  have l6 : [prE p.c, elem 4 p.ss, elem 27 p.tr, encI p.st, encI p.en].flatten.length ≤ 65535 := by simp only [List.flatten_cons, List.flatten_nil, List.length_append, List.length_nil]; omega
  rw [ptP, ptE, be0 l6, flat5, pr_back h2]
  simp only
  rw [ke_back hk]
  simp only
  rw [tx_at (by omega), ne (by omega), nm_back (by omega) (by omega)]
  simp only
  rw [nm_back0 (by omega) (by omega)]
theorem an_back {a : An} (h : anB a = true) : anP (anE a) = (a, some []) := by
  have h' : prB a.c = true ∧ tmB a.t = true ∧ tmB a.q = true := by simpa [anB] using h
  obtain ⟨h2, h4, h5⟩ := h'
  have t4 := tm_parts h4; have t5 := tm_parts h5
  have l1 := (prE_len h2).1
  have l4 := encI_le a.t
  have l5 := encI_le a.q
  have l6 : [prE a.c, encI a.t, encI a.q].flatten.length ≤ 65535 := by simp only [List.flatten_cons, List.flatten_nil, List.length_append, List.length_nil]; omega
  rw [anP, anE, be0 l6, flat3, pr_back h2]
  simp only
  rw [nm_back (by omega) (by omega)]
  simp only
  rw [nm_back0 (by omega) (by omega)]
theorem rp_back {p : Rp} (h : rpB p = true) (hk : p.ss.length = 32) : rpP (rpE p) = (p, some []) := by
  have h' : prB p.s = true ∧ tmB p.st = true ∧ tmB p.en = true ∧ tmB p.no = true := by simpa [rpB] using h
  obtain ⟨h2, h4, h5, h6⟩ := h'
  have t4 := tm_parts h4; have t5 := tm_parts h5; have t6 := tm_parts h6
  have l1 := (prE_len h2).1
  have l2 := elem_len 4 p.ss
  have l4 := encI_le p.st
  have l5 := encI_le p.en
  have l6 := encI_le p.no
  have l7 : [elem 4 p.ss, prE p.s, encI p.st, encI p.en, encI p.no].flatten.length ≤ 65535 := by simp only [List.flatten_cons, List.flatten_nil, List.length_append, List.length_nil]; omega
  rw [rpP, rpE, be0 l7, flat5, ke_back hk]
  simp only
  rw [pr_back h2]
  simp only
  rw [nm_back (by omega) (by omega)]
  simp only
  rw [nm_back (by omega) (by omega)]
  simp only
  rw [nm_back0 (by omega) (by omega)]
theorem as_back {q : As} (h : asB q = true) : bodyC 106 (some (asE q)) = some [prE q.c, prE q.s, encI q.t, encI q.no].flatten ∧ asP (some [prE q.c, prE q.s, encI q.t, encI q.no].flatten) = (q, some []) := by
  have h' : prB q.c = true ∧ prB q.s = true ∧ tmB q.t = true ∧ tmB q.no = true := by simpa [asB] using h
  obtain ⟨h2, h3, h4, h5⟩ := h'
  have t4 := tm_parts h4; have t5 := tm_parts h5
  have l1 := (prE_len h2).1; have l2 := (prE_len h3).1
  have l4 := encI_le q.t
  have l5 := encI_le q.no
  have l7 : [prE q.c, prE q.s, encI q.t, encI q.no].flatten.length ≤ 65535 := by simp only [List.flatten_cons, List.flatten_nil, List.length_append, List.length_nil]; omega
  refine ⟨by rw [asE, be0 l7], ?_⟩
  rw [flat4, asP, pr_back h2]
  simp only
  rw [pr_back h3]
  simp only
  rw [nm_back (by omega) (by omega)]
  simp only
  rw [nm_back0 (by omega) (by omega)]
theorem blob_parts {b : L} (h : blobB b = true) : 1 ≤ b.length ∧ b.length ≤ 800 := by simpa [blobB] using h
theorem tg_back {q : Tg} (h : tgB q = true) : bodyC 108 (some (tgE q)) = some [tkE q.t, elem 4 q.a, prE q.s, encI q.u, encI q.no].flatten ∧ tgP (some [tkE q.t, elem 4 q.a, prE q.s, encI q.u, encI q.no].flatten) = (q, some []) := by
  have h' : tkB q.t = true ∧ blobB q.a = true ∧ prB q.s = true ∧ tmB q.u = true ∧ tmB q.no = true := by simpa [tgB] using h
  obtain ⟨h2, h3, h6, h4, h5⟩ := h'
  have t4 := tm_parts h4; have t5 := tm_parts h5
  have b3 := blob_parts h3
  have l1 := (tkE_len h2).1; have l2 := elem_len 4 q.a; have l3 := (prE_len h6).1
  have l4 := encI_le q.u
  have l5 := encI_le q.no
  have l7 : [tkE q.t, elem 4 q.a, prE q.s, encI q.u, encI q.no].flatten.length ≤ 65535 := by simp only [List.flatten_cons, List.flatten_nil, List.length_append, List.length_nil]; omega
  refine ⟨by rw [tgE, be0 l7], ?_⟩
  rw [flat5, tgP, tk_back h2]
  simp only
  rw [oc_at (by omega), ne (by omega), pr_back h6]
  simp only
  rw [nm_back (by omega) (by omega)]
  simp only
  rw [nm_back0 (by omega) (by omega)]
theorem re_back {q : Re} (h : reB q = true) : bodyC 107 (some (reE q)) = some [prE q.c, tkE q.t, elem 4 q.b].flatten ∧ reP (some [prE q.c, tkE q.t, elem 4 q.b].flatten) = (q, some []) := by
  have h' : prB q.c = true ∧ tkB q.t = true ∧ blobB q.b = true := by simpa [reB] using h
  obtain ⟨h2, h3, h4⟩ := h'
  have b3 := blob_parts h4
  have l1 := (prE_len h2).1; have l2 := (tkE_len h3).1; have l3 := elem_len 4 q.b
  have l7 : [prE q.c, tkE q.t, elem 4 q.b].flatten.length ≤ 65535 := by simp only [List.flatten_cons, List.flatten_nil, List.length_append, List.length_nil]; omega
  refine ⟨by rw [reE, be0 l7], ?_⟩
  rw [flat3, reP, pr_back h2]
  simp only
  rw [tk_back h3]
  simp only
  rw [oc_at0 (by omega), ne0 (by omega)]
theorem ap_back {q : Ap} (h : apB q = true) : bodyC 110 (some (apE q)) = some [tkE q.t, elem 4 q.a].flatten ∧ apP (some [tkE q.t, elem 4 q.a].flatten) = (q, some []) := by
  have h' : tkB q.t = true ∧ blobB q.a = true := by simpa [apB] using h
  obtain ⟨h3, h4⟩ := h'
  have b3 := blob_parts h4
  have l2 := (tkE_len h3).1; have l3 := elem_len 4 q.a
  have l7 : [tkE q.t, elem 4 q.a].flatten.length ≤ 65535 := by simp only [List.flatten_cons, List.flatten_nil, List.length_append, List.length_nil]; omega
  refine ⟨by rw [apE, be0 l7], ?_⟩
  rw [flat2, apP, tk_back h3]
  simp only
  rw [oc_at0 (by omega), ne0 (by omega)]
theorem fa_back {q : Fa} (h : faB q = true) : bodyC 126 (some (faE q)) = some [encI q.e, encI q.no].flatten ∧ faP (some [encI q.e, encI q.no].flatten) = (q, some []) := by
  have h' : (1 ≤ q.e ∧ q.e ≤ 255) ∧ tmB q.no = true := by simpa [faB, inB] using h
  obtain ⟨h3, h4⟩ := h'
  have t4 := tm_parts h4
  have l2 := encI_le q.e; have l3 := encI_le q.no
  have l7 : [encI q.e, encI q.no].flatten.length ≤ 65535 := by simp only [List.flatten_cons, List.flatten_nil, List.length_append, List.length_nil]; omega
  refine ⟨by rw [faE, be0 l7], ?_⟩
  rw [flat2, faP, nm_back (by omega) (by omega)]
  simp only
  rw [nm_back0 (by omega) (by omega)]
theorem mg_cases {m : Mg} (h : mgB m = true) :
    (asB m.aq = true ∧ m = ⟨1, m.aq, tg0, re0, ap0, fa0⟩) ∨ (tgB m.tg = true ∧ m = ⟨2, as0, m.tg, re0, ap0, fa0⟩) ∨ (reB m.re = true ∧ m = ⟨3, as0, tg0, m.re, ap0, fa0⟩) ∨
    (apB m.ap = true ∧ m = ⟨4, as0, tg0, re0, m.ap, fa0⟩) ∨ (faB m.fa = true ∧ m = ⟨5, as0, tg0, re0, ap0, m.fa⟩) := by
  unfold mgB at h
  split at h
  · rw [Bool.and_eq_true, decide_eq_true_eq] at h; exact .inl h
  · split at h
    · rw [Bool.and_eq_true, decide_eq_true_eq] at h; exact .inr (.inl h)
    · split at h
      · rw [Bool.and_eq_true, decide_eq_true_eq] at h; exact .inr (.inr (.inl h))
      · split at h
        · rw [Bool.and_eq_true, decide_eq_true_eq] at h; exact .inr (.inr (.inr (.inl h)))
        · split at h
          · rw [Bool.and_eq_true, decide_eq_true_eq] at h; exact .inr (.inr (.inr (.inr h)))
          · cases h
theorem mg_back {m : Mg} (h : mgB m = true) : mgP (mgE m) = m := by
  rcases mg_cases h with ⟨h1, e⟩ | ⟨h1, e⟩ | ⟨h1, e⟩ | ⟨h1, e⟩ | ⟨h1, e⟩
  · have hb := as_back h1
    have hE : mgE m = asE m.aq := by rw [e]; rfl
    rw [hE]
    conv => rhs; rw [e]
    show (⟨1, (asP (bodyC 106 (some (asE m.aq)))).1, tg0, re0, ap0, fa0⟩ : Mg) = _
    rw [hb.1, hb.2]
  · have hb := tg_back h1
    have hE : mgE m = tgE m.tg := by rw [e]; rfl
    rw [hE]
    conv => rhs; rw [e]
    show (⟨2, as0, (tgP (bodyC 108 (some (tgE m.tg)))).1, re0, ap0, fa0⟩ : Mg) = _
    rw [hb.1, hb.2]
  · have hb := re_back h1
    have hE : mgE m = reE m.re := by rw [e]; rfl
    rw [hE]
    conv => rhs; rw [e]
    show (⟨3, as0, tg0, (reP (bodyC 107 (some (reE m.re)))).1, ap0, fa0⟩ : Mg) = _
    rw [hb.1, hb.2]
  · have hb := ap_back h1
    have hE : mgE m = apE m.ap := by rw [e]; rfl
    rw [hE]
    conv => rhs; rw [e]
    show (⟨4, as0, tg0, re0, (apP (bodyC 110 (some (apE m.ap)))).1, fa0⟩ : Mg) = _
    rw [hb.1, hb.2]
  · have hb := fa_back h1
    have hE : mgE m = faE m.fa := by rw [e]; rfl
    rw [hE]
    conv => rhs; rw [e]
    show (⟨5, as0, tg0, re0, ap0, (faP (bodyC 126 (some (faE m.fa)))).1⟩ : Mg) = _
    rw [hb.1, hb.2]

theorem lim_iff {ok : Bool} {l b : L} : limO ok l = some b ↔ ok = true ∧ l.length ≤ 2000 ∧ l = b := by
  unfold limO
  split
  · rename_i h
    exact ⟨fun e => ⟨h.1, h.2, Option.some.inj e⟩, fun e => by rw [e.2.2]⟩
  · rename_i h
    exact ⟨fun e => by (cases e), fun e => False.elim (h (And.intro e.1 e.2.1))⟩
theorem mg_iff {b : L} {m : Mg} : mgD b = some m ↔ mgO m = some b := by
  unfold mgD
  constructor
  · intro h
    split at h
    · rename_i h2; injection h with h; rw [← h]; exact h2
    · cases h
  · intro h
    have h2 := lim_iff.1 h
    have e : mgP b = m := by rw [← h2.2.2]; exact mg_back h2.1
    rw [e, if_pos h]
theorem pt_iff {b : L} {p : Pt} (hk : p.ss.length = 32) : ptD b = some p ↔ ptO p = some b := by
  unfold ptD
  constructor
  · intro h
    split at h
    · rename_i h2; injection h with h; rw [← h]; exact h2
    · cases h
  · intro h
    have h2 := lim_iff.1 h
    have e : (ptP b).1 = p := by rw [← h2.2.2, pt_back h2.1 hk]
    rw [e, if_pos h]
theorem an_iff {b : L} {a : An} : anD b = some a ↔ anO a = some b := by
  unfold anD
  constructor
  · intro h
    split at h
    · rename_i h2; injection h with h; rw [← h]; exact h2
    · cases h
  · intro h
    have h2 := lim_iff.1 h
    have e : (anP b).1 = a := by rw [← h2.2.2, an_back h2.1]
    rw [e, if_pos h]
theorem rp_iff {b : L} {p : Rp} (hk : p.ss.length = 32) : rpD b = some p ↔ rpO p = some b := by
  unfold rpD
  constructor
  · intro h
    split at h
    · rename_i h2; injection h with h; rw [← h]; exact h2
    · cases h
  · intro h
    have h2 := lim_iff.1 h
    have e : (rpP b).1 = p := by rw [← h2.2.2, rp_back h2.1 hk]
    rw [e, if_pos h]
theorem ke_len (c : Option L) : (keP c).1.length = 32 := by
  unfold keP
  split
  · assumption
  · rfl
theorem pt_ok {b : L} {p : Pt} (h : ptD b = some p) : ptO p = some b ∧ (ptP b) = (p, some []) := by
  unfold ptD at h
  split at h
  · rename_i h2
    injection h with h
    have hk : p.ss.length = 32 := by rw [← h]; exact ke_len _
    rw [h] at h2
    have h3 := lim_iff.1 h2
    exact ⟨h2, by rw [← h3.2.2]; exact pt_back h3.1 hk⟩
  · cases h
theorem rp_ok {b : L} {p : Rp} (h : rpD b = some p) : rpO p = some b ∧ (rpP b) = (p, some []) := by
  unfold rpD at h
  split at h
  · rename_i h2
    injection h with h
    have hk : p.ss.length = 32 := by rw [← h]; exact ke_len _
    rw [h] at h2
    have h3 := lim_iff.1 h2
    exact ⟨h2, by rw [← h3.2.2]; exact rp_back h3.1 hk⟩
  · cases h
theorem mg_elem {m : Mg} {b : L} (h : mgO m = some b) : ∃ t p, b = elem t p ∧ p.length ≤ 65535 ∧ (t = 106 ∨ t = 108 ∨ t = 107 ∨ t = 110 ∨ t = 126) := by
  have h2 := lim_iff.1 h
  have hl : ∀ t p, mgE m = elem t p → p.length ≤ 65535 := by
    intro t p e
    have := h2.2.1
    rw [e, length_elem] at this
    omega
  rcases mg_cases h2.1 with ⟨_, e⟩ | ⟨_, e⟩ | ⟨_, e⟩ | ⟨_, e⟩ | ⟨_, e⟩
  · have hE : mgE m = asE m.aq := by rw [e]; rfl
    exact ⟨_, _, h2.2.2.symm.trans hE, hl _ _ hE, .inl rfl⟩
  · have hE : mgE m = tgE m.tg := by rw [e]; rfl
    exact ⟨_, _, h2.2.2.symm.trans hE, hl _ _ hE, .inr (.inl rfl)⟩
  · have hE : mgE m = reE m.re := by rw [e]; rfl
    exact ⟨_, _, h2.2.2.symm.trans hE, hl _ _ hE, .inr (.inr (.inl rfl))⟩
  · have hE : mgE m = apE m.ap := by rw [e]; rfl
    exact ⟨_, _, h2.2.2.symm.trans hE, hl _ _ hE, .inr (.inr (.inr (.inl rfl)))⟩
  · have hE : mgE m = faE m.fa := by rw [e]; rfl
    exact ⟨_, _, h2.2.2.symm.trans hE, hl _ _ hE, .inr (.inr (.inr (.inr rfl)))⟩
end Go.Proofs.YteeabfplnaknfaaGreat.Ms
end

section
set_option linter.unusedVariables false
namespace Go.Proofs.YteeabfplnaknfaaGreat.Ms
open Go.RowKit Go.Proofs.YteeabfplnaknfaaGreat.Mem Go.Proofs.YteeabfplnaknfaaGreat.DerP

abbrev prV (p : Pr) : Value := .agg #[.string ⟨p.1.toArray⟩, .string ⟨p.2.toArray⟩]
def SlB (w : World) (B : Nat) (v : Value) (l : L) : Prop := ∃ A c, v = .slice A l.length c ∧ l.length ≤ c ∧ Rd w B A (bvs l)
theorem SlB.keep {w w' : World} {B : Nat} {v : Value} {l : L} (h : SlB w B v l) (hb : Below B w w') : SlB w' B v l := by
  obtain ⟨A, c, h1, h2, h3⟩ := h
  exact ⟨A, c, h1, h2, h3.below hb⟩
theorem SlB.more {w : World} {B B' : Nat} {v : Value} {l : L} (h : SlB w B v l) (hB : B ≤ B') : SlB w B' v l := by
  obtain ⟨A, c, h1, h2, h3⟩ := h
  exact ⟨A, c, h1, h2, h3.more hB⟩
theorem SlB.nil (w : World) (B : Nat) : SlB w B (.slice none 0 0) [] := ⟨none, 0, rfl, Nat.le_refl _, .inl rfl⟩
def prC (p : Pr) : List Value := [.string ⟨p.1.toArray⟩, .string ⟨p.2.toArray⟩]
def tkC (t : Tk) (b : Value) : List Value := [.string ⟨t.s.1.toArray⟩, .string ⟨t.s.2.toArray⟩, .int .i64 t.k, b]
def asC (q : As) : List Value := [.string ⟨q.c.1.toArray⟩, .string ⟨q.c.2.toArray⟩, .string ⟨q.s.1.toArray⟩, .string ⟨q.s.2.toArray⟩, .int .i64 q.t, .int .i64 q.no]
def tgC (q : Tg) (b a : Value) : List Value := tkC q.t b ++ [a, .string ⟨q.s.1.toArray⟩, .string ⟨q.s.2.toArray⟩, .int .i64 q.u, .int .i64 q.no]
def reC (q : Re) (b d : Value) : List Value := prC q.c ++ (tkC q.t b ++ [d])
def apC (q : Ap) (b a : Value) : List Value := tkC q.t b ++ [a]
def faC (q : Fa) : List Value := [.int .i64 q.e, .int .i64 q.no]
def anC (a : An) : List Value := prC a.c ++ [.int .i64 a.t, .int .i64 a.q]
def ptC (p : Pt) : List Value := prC p.c ++ (bvs p.ss ++ [.string ⟨p.tr.toArray⟩, .int .i64 p.st, .int .i64 p.en])
def rpC (p : Rp) : List Value := bvs p.ss ++ (prC p.s ++ [.int .i64 p.st, .int .i64 p.en, .int .i64 p.no])
structure Six where
  b1 : Value
  a1 : Value
  b2 : Value
  d2 : Value
  b3 : Value
  a3 : Value
structure SixR (w : World) (B : Nat) (m : Mg) (s : Six) : Prop where
  b1 : SlB w B s.b1 m.tg.t.b
  a1 : SlB w B s.a1 m.tg.a
  b2 : SlB w B s.b2 m.re.t.b
  d2 : SlB w B s.d2 m.re.b
  b3 : SlB w B s.b3 m.ap.t.b
  a3 : SlB w B s.a3 m.ap.a
theorem SixR.keep {w w' : World} {B : Nat} {m : Mg} {s : Six} (h : SixR w B m s) (hb : Below B w w') : SixR w' B m s := ⟨h.b1.keep hb, h.a1.keep hb, h.b2.keep hb, h.d2.keep hb, h.b3.keep hb, h.a3.keep hb⟩

theorem rd_on {w w' : World} {A : Option Addr} {l : L} (h : Rd w w.heap.size A (bvs l)) (hb : Below w.heap.size w w') : Rd w' w'.heap.size A (bvs l) := (h.below hb).more hb.size
section
variable {w : World} {t : TypeId} {A1 A2 A3 A4 A5 : Option Addr} {l1 l2 l3 l4 l5 : L} {c1 c2 c3 c4 c5 : Nat}
theorem lay_two (h1 : Rd w w.heap.size A1 (bvs l1)) (h2 : Rd w w.heap.size A2 (bvs l2)) :
    DerW.Rds (w.alloc (.cells #[.slice A1 l1.length c1, .slice A2 l2.length c2] t)) (w.heap.size + 1) (some ⟨w.heap.size, 0, none⟩) [l1, l2] := by
  refine .inr ⟨w.heap.size, 0, rfl, by omega, fun i l hi => ?_⟩
  match i, hi with
  | 0, hi => injection hi with hi; subst hi; exact ⟨A1, c1, (Blk.new w t _).cell 0, (h1.alloc (Nat.le_refl _) _).more (by omega)⟩
  | 1, hi => injection hi with hi; subst hi; exact ⟨A2, c2, (Blk.new w t _).cell 1, (h2.alloc (Nat.le_refl _) _).more (by omega)⟩
  | i + 2, hi => rw [List.getElem?_eq_none (by simp)] at hi; cases hi
theorem lay_three (h1 : Rd w w.heap.size A1 (bvs l1)) (h2 : Rd w w.heap.size A2 (bvs l2)) (h3 : Rd w w.heap.size A3 (bvs l3)) :
    DerW.Rds (w.alloc (.cells #[.slice A1 l1.length c1, .slice A2 l2.length c2, .slice A3 l3.length c3] t)) (w.heap.size + 1) (some ⟨w.heap.size, 0, none⟩) [l1, l2, l3] := by
  refine .inr ⟨w.heap.size, 0, rfl, by omega, fun i l hi => ?_⟩
  match i, hi with
  | 0, hi => injection hi with hi; subst hi; exact ⟨A1, c1, (Blk.new w t _).cell 0, (h1.alloc (Nat.le_refl _) _).more (by omega)⟩
  | 1, hi => injection hi with hi; subst hi; exact ⟨A2, c2, (Blk.new w t _).cell 1, (h2.alloc (Nat.le_refl _) _).more (by omega)⟩
  | 2, hi => injection hi with hi; subst hi; exact ⟨A3, c3, (Blk.new w t _).cell 2, (h3.alloc (Nat.le_refl _) _).more (by omega)⟩
  | i + 3, hi => rw [List.getElem?_eq_none (by simp)] at hi; cases hi
theorem lay_four (h1 : Rd w w.heap.size A1 (bvs l1)) (h2 : Rd w w.heap.size A2 (bvs l2)) (h3 : Rd w w.heap.size A3 (bvs l3)) (h4 : Rd w w.heap.size A4 (bvs l4)) :
    DerW.Rds (w.alloc (.cells #[.slice A1 l1.length c1, .slice A2 l2.length c2, .slice A3 l3.length c3, .slice A4 l4.length c4] t)) (w.heap.size + 1) (some ⟨w.heap.size, 0, none⟩) [l1, l2, l3, l4] := by
  refine .inr ⟨w.heap.size, 0, rfl, by omega, fun i l hi => ?_⟩
  match i, hi with
  | 0, hi => injection hi with hi; subst hi; exact ⟨A1, c1, (Blk.new w t _).cell 0, (h1.alloc (Nat.le_refl _) _).more (by omega)⟩
  | 1, hi => injection hi with hi; subst hi; exact ⟨A2, c2, (Blk.new w t _).cell 1, (h2.alloc (Nat.le_refl _) _).more (by omega)⟩
  | 2, hi => injection hi with hi; subst hi; exact ⟨A3, c3, (Blk.new w t _).cell 2, (h3.alloc (Nat.le_refl _) _).more (by omega)⟩
  | 3, hi => injection hi with hi; subst hi; exact ⟨A4, c4, (Blk.new w t _).cell 3, (h4.alloc (Nat.le_refl _) _).more (by omega)⟩
  | i + 4, hi => rw [List.getElem?_eq_none (by simp)] at hi; cases hi
theorem lay_five (h1 : Rd w w.heap.size A1 (bvs l1)) (h2 : Rd w w.heap.size A2 (bvs l2)) (h3 : Rd w w.heap.size A3 (bvs l3)) (h4 : Rd w w.heap.size A4 (bvs l4)) (h5 : Rd w w.heap.size A5 (bvs l5)) :
    DerW.Rds (w.alloc (.cells #[.slice A1 l1.length c1, .slice A2 l2.length c2, .slice A3 l3.length c3, .slice A4 l4.length c4, .slice A5 l5.length c5] t)) (w.heap.size + 1) (some ⟨w.heap.size, 0, none⟩) [l1, l2, l3, l4, l5] := by
  refine .inr ⟨w.heap.size, 0, rfl, by omega, fun i l hi => ?_⟩
  match i, hi with
  | 0, hi => injection hi with hi; subst hi; exact ⟨A1, c1, (Blk.new w t _).cell 0, (h1.alloc (Nat.le_refl _) _).more (by omega)⟩
  | 1, hi => injection hi with hi; subst hi; exact ⟨A2, c2, (Blk.new w t _).cell 1, (h2.alloc (Nat.le_refl _) _).more (by omega)⟩
  | 2, hi => injection hi with hi; subst hi; exact ⟨A3, c3, (Blk.new w t _).cell 2, (h3.alloc (Nat.le_refl _) _).more (by omega)⟩
  | 3, hi => injection hi with hi; subst hi; exact ⟨A4, c4, (Blk.new w t _).cell 3, (h4.alloc (Nat.le_refl _) _).more (by omega)⟩
  | 4, hi => injection hi with hi; subst hi; exact ⟨A5, c5, (Blk.new w t _).cell 4, (h5.alloc (Nat.le_refl _) _).more (by omega)⟩
  | i + 5, hi => rw [List.getElem?_eq_none (by simp)] at hi; cases hi
end
end Go.Proofs.YteeabfplnaknfaaGreat.Ms
end

section
set_option linter.unusedVariables false
namespace Go.Proofs.YteeabfplnaknfaaGreat.Ms
open Go.RowKit Go.Proofs.YteeabfplnaknfaaGreat.Mem Go.Proofs.YteeabfplnaknfaaGreat.DerP

theorem rin_any (n a b : Int) (w : World) : Calls Tryz.prog 70 #[.int .i64 n, .int .i64 a, .int .i64 b] w fun e w' => e = .returned (.bool (inB n a b)) ∧ w = w' := by
  cases h1 : decide (a ≤ n) with
  | false =>
    go_enter Tryz.func70, Tryz.ntmps70
    go_wp2
    go_ret
    exact ⟨by rw [inB, h1]; rfl, rfl⟩
  | true =>
    go_enter Tryz.func70, Tryz.ntmps70
    go_wp2
    go_ret
    exact ⟨by rw [inB, h1]; rfl, rfl⟩
theorem rtm_any (n : Int) (w : World) : Calls Tryz.prog 70 #[.int .i64 n, .int .i64 0, .int .i64 1073741824] w fun e w' => e = .returned (.bool (tmB n)) ∧ w = w' := rin_any n 0 1073741824 w
theorem blob_in (b : L) : inB (b.length : Int) 1 800 = blobB b := by
  rw [inB, blobB]
  have e1 : decide ((1 : Int) ≤ (b.length : Int)) = decide (1 ≤ b.length) := by rw [decide_eq_decide]; omega
  have e2 : decide ((b.length : Int) ≤ 800) = decide (b.length ≤ 800) := by rw [decide_eq_decide]; omega
  rw [e1, e2]
theorem isprinc_any (p : Pr) (w : World) (h1 : p.1.length ≤ 1000000000) (h2 : p.2.length ≤ 1000000000) : Calls Tryz.prog 69 #[prV p] w fun e w' => e = .returned (.bool (prB p)) ∧ Below w.heap.size w w' := Nm.risprinc_any p.1 p.2 w h1 h2
def pSm (p : Pr) : Prop := p.1.length ≤ 1000000000 ∧ p.2.length ≤ 1000000000
end Go.Proofs.YteeabfplnaknfaaGreat.Ms
end

section
set_option linter.unusedVariables false
namespace Go.Proofs.YteeabfplnaknfaaGreat.Ms
open Go.RowKit Go.Proofs.YteeabfplnaknfaaGreat.Mem Go.Proofs.YteeabfplnaknfaaGreat.DerP Go.Proofs.YteeabfplnaknfaaGreat.DerR

theorem gives_on {w0 w : World} {l : L} {e : Ending} {w' : World} (h : Gives w l e w') (hb : Below w0.heap.size w0 w) : Gives w0 l e w' := by
  obtain ⟨⟨g, c, h1, h2, h3, h4⟩, h5⟩ := h
  exact ⟨⟨g, c, h1, Nat.le_trans hb.size h2, h3, h4⟩, hb.trans (h5.mono hb.size)⟩
end Go.Proofs.YteeabfplnaknfaaGreat.Ms
end

section
set_option linter.unusedVariables false
set_option linter.unusedSimpArgs false
namespace Go.Proofs.YteeabfplnaknfaaGreat.Ms
open Go.RowKit Go.Proofs.YteeabfplnaknfaaGreat.Mem Go.Proofs.YteeabfplnaknfaaGreat.DerP

set_option maxHeartbeats 3200000 in
theorem risauthn_any (a : An) (w : World) (hs : pSm a.c) : Calls Tryz.prog 30 #[.agg #[.string ⟨a.c.1.toArray⟩, .string ⟨a.c.2.toArray⟩, .int .i64 a.t, .int .i64 a.q]] w fun e w' => e = .returned (.bool (anB a)) ∧ Below w.heap.size w w' := by
  have hb0 := (Below.refl w.heap.size w).alloc (Nat.le_refl _) (.cells #[.string ⟨a.c.1.toArray⟩, .string ⟨a.c.2.toArray⟩, .int .i64 a.t, .int .i64 a.q] 57)
  have HB := Lib.hid hb0
  have HK := Lib.hid (Blk.new w 57 #[.string ⟨a.c.1.toArray⟩, .string ⟨a.c.2.toArray⟩, .int .i64 a.t, .int .i64 a.q])
  clear hb0
  have T1 := Lib.hid (fun w1 => isprinc_any a.c w1 hs.1 hs.2)
  have T2 := Lib.hid (fun w1 => rtm_any a.t w1)
  have T3 := Lib.hid (fun w1 => rtm_any a.q w1)
  cases h1 : prB a.c with
  | false =>
    rw [h1] at T1
    have E := Lib.hid (show anB a = false by rw [anB, h1]; rfl)
    clear h1
    go_enter Tryz.func30, Tryz.ntmps30
    go_wp2_with (go_at_call 69; (with_reducible refine Calls.mono (T1.out _) ?_); rintro e w1 ⟨rfl, hb⟩; replace HK := Lib.hid (HK.out.below hb); replace HB := Lib.hid (HB.out.trans (hb.mono HB.out.size)); clear hb T1; (try clear k0 k1 k2 k3); have k0 := HK.out.cell 0; have k1 := HK.out.cell 1; have k2 := HK.out.cell 2; have k3 := HK.out.cell 3; simp only [List.getElem?_toArray, List.getElem?_cons_zero, List.getElem?_cons_succ] at k0 k1 k2 k3)
    go_ret
    exact ⟨by rw [E.out]; rfl, HB.out⟩
  | true =>
    rw [h1] at T1
    cases h2 : tmB a.t with
    | false =>
      rw [h2] at T2
      have E := Lib.hid (show anB a = false by rw [anB, h1, h2]; rfl)
      clear h1 h2
      go_enter Tryz.func30, Tryz.ntmps30
      go_wp2_with (first
        | (go_at_call 69; (with_reducible refine Calls.mono (T1.out _) ?_); rintro e w1 ⟨rfl, hb⟩; replace HK := Lib.hid (HK.out.below hb); replace HB := Lib.hid (HB.out.trans (hb.mono HB.out.size)); clear hb T1; (try clear k0 k1 k2 k3); have k0 := HK.out.cell 0; have k1 := HK.out.cell 1; have k2 := HK.out.cell 2; have k3 := HK.out.cell 3; simp only [List.getElem?_toArray, List.getElem?_cons_zero, List.getElem?_cons_succ] at k0 k1 k2 k3)
        | (go_at_call 70; (with_reducible refine Calls.mono (T2.out _) ?_); rintro e w2 ⟨rfl, hw⟩; subst hw; clear T2))
      go_ret
      exact ⟨by rw [E.out]; rfl, HB.out⟩
    | true =>
      rw [h2] at T2
      have E := Lib.hid (show anB a = tmB a.q by rw [anB, h1, h2]; rfl)
      clear h1 h2
      go_enter Tryz.func30, Tryz.ntmps30
      go_wp2_with (first
        | (go_at_call 69; (with_reducible refine Calls.mono (T1.out _) ?_); rintro e w1 ⟨rfl, hb⟩; replace HK := Lib.hid (HK.out.below hb); replace HB := Lib.hid (HB.out.trans (hb.mono HB.out.size)); clear hb T1; (try clear k0 k1 k2 k3); have k0 := HK.out.cell 0; have k1 := HK.out.cell 1; have k2 := HK.out.cell 2; have k3 := HK.out.cell 3; simp only [List.getElem?_toArray, List.getElem?_cons_zero, List.getElem?_cons_succ] at k0 k1 k2 k3)
        | (go_at_call 70; (with_reducible refine Calls.mono (T2.out _) ?_); rintro e w2 ⟨rfl, hw⟩; subst hw; clear T2)
        | (go_at_call 70; (with_reducible refine Calls.mono (T3.out _) ?_); rintro e w3 ⟨rfl, hw⟩; subst hw; clear T3))
      go_ret
      exact ⟨by rw [E.out]; rfl, HB.out⟩
end Go.Proofs.YteeabfplnaknfaaGreat.Ms
end

section
set_option linter.unusedVariables false
set_option linter.unusedSimpArgs false
namespace Go.Proofs.YteeabfplnaknfaaGreat.Ms
open Go.RowKit Go.Proofs.YteeabfplnaknfaaGreat.Mem Go.Proofs.YteeabfplnaknfaaGreat.DerP

def mSm (m : Mg) : Prop := (pSm m.aq.c ∧ pSm m.aq.s) ∧ (pSm m.tg.t.s ∧ pSm m.tg.s) ∧ (pSm m.re.c ∧ pSm m.re.t.s) ∧ pSm m.ap.t.s
section
variable {α : Type}
end
end Go.Proofs.YteeabfplnaknfaaGreat.Ms
end

section
set_option linter.unusedVariables false
set_option linter.unusedSimpArgs false
namespace Go.Proofs.YteeabfplnaknfaaGreat.Ms
open Go.RowKit Go.Proofs.YteeabfplnaknfaaGreat.Mem Go.Proofs.YteeabfplnaknfaaGreat.DerP Go.Proofs.YteeabfplnaknfaaGreat.DerR

def EncR (w : World) (o : Option L) (e : Ending) (w' : World) : Prop :=
  (∃ v i, e = .returned (.tuple #[v, .int .i64 i]) ∧ (o = none → v = .slice none 0 0 ∧ i = 1) ∧ ∀ l, o = some l → i = 0 ∧ ∃ g c, v = .slice (some ⟨g, 0, none⟩) l.length c ∧ w.heap.size ≤ g ∧ l.length ≤ c ∧ Rd w' w'.heap.size (some ⟨g, 0, none⟩) (bvs l)) ∧ Below w.heap.size w w'
theorem range_blk {w : World} {g : Nat} {t : TypeId} {cs : Array Value} (h : Blk w g t cs) : w.rangeAt g 0 cs.toList := fun j v hv => by
  rw [Nat.zero_add, h.cell]; simpa using hv
theorem load_cells {P : Program} {ops : Array Oper} {rest : List Oper} {op : Oper} {a : Act} {w : World} {Q : Exit → Act → World → Prop} (hgd : op.guard = none) (ty : TypeId) (x : Operand) (ho : op.op = .load ty x)
    (g o : Nat) (hx : a.eval x = .pointer (some ⟨g, o, none⟩)) (cs : Array Value) (d : TypeDesc) (hc : w.rangeAt g o cs.toList)
    (hu : P.underlying ty = some d) (hd : d.isRow = true) (hi : (P.info? ty).map (·.size) = some cs.size)
    (h : wpList P ops Q rest (a.put op.dst (.agg cs)) w) : wpList P ops Q (op :: rest) a w :=
  wpList_load_mid hgd ty x ho g o hx cs.toList d hc hu hd (by rw [Array.length_toList]; exact hi) (by simpa using h)
theorem enc_none {w w' : World} (h : Below w.heap.size w w') : EncR w none (.returned (.tuple #[.slice none 0 0, .int .i64 1])) w' :=
  ⟨⟨_, _, rfl, (fun _ => ⟨rfl, rfl⟩), (fun l e => by cases e)⟩, h⟩
theorem enc_some {w w' : World} {l : L} {g c : Nat} (h : Gives w l (.returned (.slice (some ⟨g, 0, none⟩) l.length c)) w') : EncR w (some l) (.returned (.tuple #[.slice (some ⟨g, 0, none⟩) l.length c, .int .i64 0])) w' := by
  obtain ⟨⟨g', c', h1, h2, h3, h4⟩, h5⟩ := h
  injection h1 with h1
  injection h1 with h1 h6 h7
  injection h1 with h1
  injection h1 with h1
  subst h1; subst h7
  exact ⟨⟨_, _, rfl, (fun e => by cases e), (fun l' e => by injection e with e; subst e; exact ⟨rfl, g, c, rfl, h2, h3, h4⟩)⟩, h5⟩
end Go.Proofs.YteeabfplnaknfaaGreat.Ms
end

section
set_option linter.unusedVariables false
set_option linter.unusedSimpArgs false
namespace Go.Proofs.YteeabfplnaknfaaGreat.Ms
open Go.RowKit Go.Proofs.YteeabfplnaknfaaGreat.Mem Go.Proofs.YteeabfplnaknfaaGreat.DerP

theorem rp_cells {p : Rp} (hk : p.ss.length = 32) {g : Nat} {t : TypeId} {w' : World} (h : Blk w' g t (rpC p).toArray) : w'.cell? ⟨g, 32, none⟩ = some (.string ⟨p.s.1.toArray⟩) ∧ w'.cell? ⟨g, 33, none⟩ = some (.string ⟨p.s.2.toArray⟩) ∧ w'.cell? ⟨g, 34, none⟩ = some (.int .i64 p.st) ∧ w'.cell? ⟨g, 35, none⟩ = some (.int .i64 p.en) ∧ w'.cell? ⟨g, 36, none⟩ = some (.int .i64 p.no) := by
  have hl : (bvs p.ss).length = 32 := by rw [bvs_length]; exact hk
  have key : ∀ j, w'.cell? ⟨g, 32 + j, none⟩ = (prC p.s ++ [.int .i64 p.st, .int .i64 p.en, .int .i64 p.no])[j]? := fun j => by
    rw [h.cell, List.getElem?_toArray, rpC, List.getElem?_append_right (by omega), hl, Nat.add_sub_cancel_left]
  exact ⟨key 0, key 1, key 2, key 3, key 4⟩
theorem rp_size {p : Rp} (hk : p.ss.length = 32) : (rpC p).toArray.size = 37 := by
  simp [rpC, prC, bvs_length, hk]
set_option maxHeartbeats 3200000 in
theorem risrep_any (p : Rp) (w : World) (hk : p.ss.length = 32) (hs : pSm p.s) : Calls Tryz.prog 31 #[.agg (rpC p).toArray] w fun e w' => e = .returned (.bool (rpB p)) ∧ Below w.heap.size w w' := by
  have HI := Lib.hid (show (Tryz.prog.info? 59).map (·.size) = some (rpC p).toArray.size by rw [rp_size hk]; kernel_rfl)
  have CF := Lib.hid (show ∀ w' : World, Blk w' w.heap.size 59 (rpC p).toArray → w'.cell? ⟨w.heap.size, 32, none⟩ = some (.string ⟨p.s.1.toArray⟩) ∧ w'.cell? ⟨w.heap.size, 33, none⟩ = some (.string ⟨p.s.2.toArray⟩) ∧ w'.cell? ⟨w.heap.size, 34, none⟩ = some (.int .i64 p.st) ∧ w'.cell? ⟨w.heap.size, 35, none⟩ = some (.int .i64 p.en) ∧ w'.cell? ⟨w.heap.size, 36, none⟩ = some (.int .i64 p.no) from fun w' h => rp_cells hk h)
  obtain ⟨cs, ecs⟩ : ∃ cs, cs = (rpC p).toArray := ⟨_, rfl⟩
  rw [← ecs] at HI CF ⊢
  clear ecs
  have HB := Lib.hid ((Below.refl w.heap.size w).alloc (Nat.le_refl _) (.cells cs 59))
  have HK := Lib.hid (Blk.new w 59 cs)
  have T1 := Lib.hid (fun w1 => isprinc_any p.s w1 hs.1 hs.2)
  have T2 := Lib.hid (fun w1 => rtm_any p.st w1)
  have T3 := Lib.hid (fun w1 => rtm_any p.en w1)
  have T4 := Lib.hid (fun w1 => rtm_any p.no w1)
  obtain ⟨k0, k1, k2, k3, k4⟩ := CF.out _ HK.out
  cases h1 : prB p.s with
  | false =>
    rw [h1] at T1
    have E := Lib.hid (show rpB p = false by rw [rpB, h1]; rfl)
    clear h1
    go_enter Tryz.func31, Tryz.ntmps31
    go_wp2_with (go_at_call 69; (with_reducible refine Calls.mono (T1.out _) ?_); rintro e w1 ⟨rfl, hb⟩; replace HK := Lib.hid (HK.out.below hb); replace HB := Lib.hid (HB.out.trans (hb.mono HB.out.size)); clear hb T1; (try clear k0 k1 k2 k3 k4); obtain ⟨k0, k1, k2, k3, k4⟩ := CF.out _ HK.out)
    go_ret
    exact ⟨by rw [E.out]; rfl, HB.out⟩
  | true =>
    rw [h1] at T1
    cases h2 : tmB p.st with
    | false =>
      rw [h2] at T2
      have E := Lib.hid (show rpB p = false by rw [rpB, h1, h2]; rfl)
      clear h1 h2
      go_enter Tryz.func31, Tryz.ntmps31
      go_wp2_with (first
        | (go_at_call 69; (with_reducible refine Calls.mono (T1.out _) ?_); rintro e w1 ⟨rfl, hb⟩; replace HK := Lib.hid (HK.out.below hb); replace HB := Lib.hid (HB.out.trans (hb.mono HB.out.size)); clear hb T1; (try clear k0 k1 k2 k3 k4); obtain ⟨k0, k1, k2, k3, k4⟩ := CF.out _ HK.out)
        | (go_at_call 70; (with_reducible refine Calls.mono (T2.out _) ?_); rintro e w2 ⟨rfl, hw⟩; subst hw; clear T2))
      go_ret
      exact ⟨by rw [E.out]; rfl, HB.out⟩
    | true =>
      rw [h2] at T2
      cases h3 : tmB p.en with
      | false =>
        rw [h3] at T3
        have E := Lib.hid (show rpB p = false by rw [rpB, h1, h2, h3]; rfl)
        clear h1 h2 h3
        go_enter Tryz.func31, Tryz.ntmps31
        go_wp2_with (first
          | (go_at_call 69; (with_reducible refine Calls.mono (T1.out _) ?_); rintro e w1 ⟨rfl, hb⟩; replace HK := Lib.hid (HK.out.below hb); replace HB := Lib.hid (HB.out.trans (hb.mono HB.out.size)); clear hb T1; (try clear k0 k1 k2 k3 k4); obtain ⟨k0, k1, k2, k3, k4⟩ := CF.out _ HK.out)
          | (go_at_call 70; (with_reducible refine Calls.mono (T2.out _) ?_); rintro e w2 ⟨rfl, hw⟩; subst hw; clear T2)
          | (go_at_call 70; (with_reducible refine Calls.mono (T3.out _) ?_); rintro e w3 ⟨rfl, hw⟩; subst hw; clear T3))
        go_ret
        exact ⟨by rw [E.out]; rfl, HB.out⟩
      | true =>
        rw [h3] at T3
        have E := Lib.hid (show rpB p = tmB p.no by rw [rpB, h1, h2, h3]; rfl)
        clear h1 h2 h3
        go_enter Tryz.func31, Tryz.ntmps31
        go_wp2_with (first
          | (go_at_call 69; (with_reducible refine Calls.mono (T1.out _) ?_); rintro e w1 ⟨rfl, hb⟩; replace HK := Lib.hid (HK.out.below hb); replace HB := Lib.hid (HB.out.trans (hb.mono HB.out.size)); clear hb T1; (try clear k0 k1 k2 k3 k4); obtain ⟨k0, k1, k2, k3, k4⟩ := CF.out _ HK.out)
          | (go_at_call 70; (with_reducible refine Calls.mono (T2.out _) ?_); rintro e w2 ⟨rfl, hw⟩; subst hw; clear T2)
          | (go_at_call 70; (with_reducible refine Calls.mono (T3.out _) ?_); rintro e w3 ⟨rfl, hw⟩; subst hw; clear T3)
          | (go_at_call 70; (with_reducible refine Calls.mono (T4.out _) ?_); rintro e w4 ⟨rfl, hw⟩; subst hw; clear T4))
        go_ret
        exact ⟨by rw [E.out]; rfl, HB.out⟩
end Go.Proofs.YteeabfplnaknfaaGreat.Ms
end

section
set_option linter.unusedVariables false
set_option linter.unusedSimpArgs false
namespace Go.Proofs.YteeabfplnaknfaaGreat.Ms
open Go.RowKit Go.Proofs.YteeabfplnaknfaaGreat.Mem Go.Proofs.YteeabfplnaknfaaGreat.DerP

def FitT (l : L) (k : Nat) : Prop := ∀ i (h : i < l.length), i < k → 32 ≤ l[i].toNat ∧ l[i].toNat ≤ 126
theorem txt_all {l : L} (h : FitT l l.length) : txtB l = true := by
  rw [txtB, List.all_eq_true]
  intro x hx
  obtain ⟨i, hi, rfl⟩ := List.getElem_of_mem hx
  have := h i hi hi
  simp [this.1, this.2]
theorem txt_bad {l : L} {k : Nat} (hk : k < l.length) (h : l[k].toNat < 32 ∨ 126 < l[k].toNat) : txtB l = false := by
  rw [txtB, List.all_eq_false]
  refine ⟨l[k], List.getElem_mem hk, ?_⟩
  simp; omega
theorem pt_cells {p : Pt} (hk : p.ss.length = 32) {g : Nat} {t : TypeId} {w' : World} (h : Blk w' g t (ptC p).toArray) : w'.cell? ⟨g, 0, none⟩ = some (.string ⟨p.c.1.toArray⟩) ∧ w'.cell? ⟨g, 1, none⟩ = some (.string ⟨p.c.2.toArray⟩) ∧ w'.cell? ⟨g, 34, none⟩ = some (.string ⟨p.tr.toArray⟩) ∧ w'.cell? ⟨g, 35, none⟩ = some (.int .i64 p.st) ∧ w'.cell? ⟨g, 36, none⟩ = some (.int .i64 p.en) := by
  have hl : (bvs p.ss).length = 32 := by rw [bvs_length]; exact hk
  have key : ∀ j, w'.cell? ⟨g, 34 + j, none⟩ = ([.string ⟨p.tr.toArray⟩, .int .i64 p.st, .int .i64 p.en] : List Value)[j]? := fun j => by
    rw [h.cell, List.getElem?_toArray, ptC, List.getElem?_append_right (by simp [prC]; omega), List.getElem?_append_right (by simp [prC]; omega)]
    congr 1
    simp [prC, hl]; omega
  refine ⟨by rw [h.cell]; rfl, by rw [h.cell]; rfl, key 0, key 1, key 2⟩
theorem pt_size {p : Pt} (hk : p.ss.length = 32) : (ptC p).toArray.size = 37 := by
  simp [ptC, prC, bvs_length, hk]
attribute [local go_sem] mk_at List.getElem_cons_zero List.getElem_cons_succ
set_option maxRecDepth 4000 in
set_option maxHeartbeats 3200000 in
theorem rispart_any (p : Pt) (w : World) (hk : p.ss.length = 32) (hs : pSm p.c) (ht : p.tr.length ≤ 1000000000) : Calls Tryz.prog 29 #[.agg (ptC p).toArray] w fun e w' => e = .returned (.bool (ptB p)) ∧ Below w.heap.size w w' := by
  have HI := Lib.hid (show (Tryz.prog.info? 55).map (·.size) = some (ptC p).toArray.size by rw [pt_size hk]; kernel_rfl)
  have CF := Lib.hid (show ∀ w' : World, Blk w' w.heap.size 55 (ptC p).toArray → w'.cell? ⟨w.heap.size, 0, none⟩ = some (.string ⟨p.c.1.toArray⟩) ∧ w'.cell? ⟨w.heap.size, 1, none⟩ = some (.string ⟨p.c.2.toArray⟩) ∧ w'.cell? ⟨w.heap.size, 34, none⟩ = some (.string ⟨p.tr.toArray⟩) ∧ w'.cell? ⟨w.heap.size, 35, none⟩ = some (.int .i64 p.st) ∧ w'.cell? ⟨w.heap.size, 36, none⟩ = some (.int .i64 p.en) from fun w' h => pt_cells hk h)
  obtain ⟨cs, ecs⟩ : ∃ cs, cs = (ptC p).toArray := ⟨_, rfl⟩
  rw [← ecs] at HI CF ⊢
  clear ecs
  have HB := Lib.hid ((Below.refl w.heap.size w).alloc (Nat.le_refl _) (.cells cs 55))
  have HK := Lib.hid (Blk.new w 55 cs)
  have T1 := Lib.hid (fun w1 => isprinc_any p.c w1 hs.1 hs.2)
  have T2 := Lib.hid (fun w1 => rtm_any p.st w1)
  have T3 := Lib.hid (fun w1 => rtm_any p.en w1)
  obtain ⟨k0, k1, k2, k3, k4⟩ := CF.out _ HK.out
  clear hs
  go_enter Tryz.func29, Tryz.ntmps29
  go_wp2
  go_loop [3] (fun iv => ∃ k : Nat, k ≤ p.tr.length ∧ iv = .int .i64 (k : Int) ∧ FitT p.tr k) (fun iv => p.tr.length - (intOf iv).toNat)
  case atStart => exact ⟨0, Nat.zero_le _, rfl, fun i _ h => by omega⟩
  case round =>
    obtain ⟨k, hk2, rfl, hf⟩ := hrel
    have HF := Lib.hid hf; clear hf
    by_cases hlt : k < p.tr.length
    · have e1 : (k : Int) < (p.tr.length : Int) := by omega
      by_cases b1 : p.tr[k].toNat < 32
      · have E := Lib.hid (show ptB p = false by rw [ptB, txt_bad hlt (Or.inl b1)]; rfl)
        have b1' : decide ((p.tr[k].toNat : Int) < 32) = true := by simp; omega
        clear b1
        go_wp2
        go_ret
        exact ⟨by rw [E.out]; rfl, HB.out⟩
      · have b1' : decide ((p.tr[k].toNat : Int) < 32) = false := by simp; omega
        by_cases b2 : 126 < p.tr[k].toNat
        · have E := Lib.hid (show ptB p = false by rw [ptB, txt_bad hlt (Or.inr b2)]; rfl)
          have b2' : decide (126 < (p.tr[k].toNat : Int)) = true := by simp; omega
          clear b1 b2
          go_wp2
          go_ret
          exact ⟨by rw [E.out]; rfl, HB.out⟩
        · have b2' : decide (126 < (p.tr[k].toNat : Int)) = false := by simp; omega
          have HP := Lib.hid (show 32 ≤ p.tr[k].toNat ∧ p.tr[k].toNat ≤ 126 from ⟨by omega, by omega⟩)
          clear b1 b2
          go_wp2
          go_round
          case rel => exact ⟨k + 1, by omega, by go_num, fun i hi hik => by
            by_cases q : i = k
            · subst q; exact HP.out
            · exact HF.out i hi (by omega)⟩
          case measure => simp [intOf]; omega
    · have HT := Lib.hid (txt_all (fun i hi _ => HF.out i hi (by omega)))
      have e1 : ¬ (k : Int) < (p.tr.length : Int) := by omega
      clear HF
      cases h1 : prB p.c with
      | false =>
        rw [h1] at T1
        have E := Lib.hid (show ptB p = false by rw [ptB, HT.out, h1]; rfl)
        clear h1
        go_wp2_with (first
          | (go_at_call 69; (with_reducible refine Calls.mono (T1.out _) ?_); rintro e w1 ⟨rfl, hb⟩; replace HK := Lib.hid (HK.out.below hb); replace HB := Lib.hid (HB.out.trans (hb.mono HB.out.size)); clear hb T1; (try clear k0 k1 k2 k3 k4); obtain ⟨k0, k1, k2, k3, k4⟩ := CF.out _ HK.out))
        go_ret
        exact ⟨by rw [E.out]; rfl, HB.out⟩
      | true =>
        rw [h1] at T1
        by_cases h0 : p.tr.length ≤ 300
        · have g3 : decide ((p.tr.length : Int) ≤ 300) = true := by simp; omega
          cases h2 : tmB p.st with
          | false =>
            rw [h2] at T2
            have E := Lib.hid (show ptB p = false by rw [ptB, HT.out, h1, h2, decide_eq_true h0]; rfl)
            clear h1 h2 h0
            go_wp2_with (first
              | (go_at_call 69; (with_reducible refine Calls.mono (T1.out _) ?_); rintro e w1 ⟨rfl, hb⟩; replace HK := Lib.hid (HK.out.below hb); replace HB := Lib.hid (HB.out.trans (hb.mono HB.out.size)); clear hb T1; (try clear k0 k1 k2 k3 k4); obtain ⟨k0, k1, k2, k3, k4⟩ := CF.out _ HK.out)
              | (go_at_call 70; (with_reducible refine Calls.mono (T2.out _) ?_); rintro e w2 ⟨rfl, hw⟩; subst hw; clear T2))
            go_ret
            exact ⟨by rw [E.out]; rfl, HB.out⟩
          | true =>
            rw [h2] at T2
            have E := Lib.hid (show ptB p = tmB p.en by rw [ptB, HT.out, h1, h2, decide_eq_true h0]; rfl)
            clear h1 h2 h0
            go_wp2_with (first
              | (go_at_call 69; (with_reducible refine Calls.mono (T1.out _) ?_); rintro e w1 ⟨rfl, hb⟩; replace HK := Lib.hid (HK.out.below hb); replace HB := Lib.hid (HB.out.trans (hb.mono HB.out.size)); clear hb T1; (try clear k0 k1 k2 k3 k4); obtain ⟨k0, k1, k2, k3, k4⟩ := CF.out _ HK.out)
              | (go_at_call 70; (with_reducible refine Calls.mono (T2.out _) ?_); rintro e w2 ⟨rfl, hw⟩; subst hw; clear T2)
              | (go_at_call 70; (with_reducible refine Calls.mono (T3.out _) ?_); rintro e w3 ⟨rfl, hw⟩; subst hw; clear T3))
            go_ret
            exact ⟨by rw [E.out]; rfl, HB.out⟩
        · have g3 : decide ((p.tr.length : Int) ≤ 300) = false := by simp; omega
          have E := Lib.hid (show ptB p = false by rw [ptB, HT.out, h1, decide_eq_false h0]; rfl)
          clear h1 h0
          go_wp2_with (first
            | (go_at_call 69; (with_reducible refine Calls.mono (T1.out _) ?_); rintro e w1 ⟨rfl, hb⟩; replace HK := Lib.hid (HK.out.below hb); replace HB := Lib.hid (HB.out.trans (hb.mono HB.out.size)); clear hb T1; (try clear k0 k1 k2 k3 k4); obtain ⟨k0, k1, k2, k3, k4⟩ := CF.out _ HK.out))
          go_ret
          exact ⟨by rw [E.out]; rfl, HB.out⟩
end Go.Proofs.YteeabfplnaknfaaGreat.Ms
end

section
set_option linter.unusedVariables false
set_option linter.unusedSimpArgs false
namespace Go.Proofs.YteeabfplnaknfaaGreat.Ms
open Go.RowKit Go.Proofs.YteeabfplnaknfaaGreat.Mem Go.Proofs.YteeabfplnaknfaaGreat.DerP Go.Proofs.YteeabfplnaknfaaGreat.DerR

theorem rp_key {p : Rp} (hk : p.ss.length = 32) {g : Nat} {t : TypeId} {w' : World} (h : Blk w' g t (rpC p).toArray) : Rd w' w'.heap.size (some ⟨g, 0, none⟩) (bvs p.ss) := by
  refine .inr ⟨g, 0, rfl, h.lt, fun i u hu => ?_⟩
  rw [Nat.zero_add, h.cell, List.getElem?_toArray, rpC]
  have hi : i < (bvs p.ss).length := (List.getElem?_eq_some_iff.1 hu).1
  rw [List.getElem?_append_left hi]; exact hu
end Go.Proofs.YteeabfplnaknfaaGreat.Ms
end

section
set_option linter.unusedVariables false
set_option linter.unusedSimpArgs false
namespace Go.Proofs.YteeabfplnaknfaaGreat.Ms
open Go.RowKit Go.Proofs.YteeabfplnaknfaaGreat.Mem Go.Proofs.YteeabfplnaknfaaGreat.DerP Go.Proofs.YteeabfplnaknfaaGreat.DerR

theorem pt_key {p : Pt} {g : Nat} {t : TypeId} {w' : World} (h : Blk w' g t (ptC p).toArray) : Rd w' w'.heap.size (some ⟨g, 2, none⟩) (bvs p.ss) := by
  refine .inr ⟨g, 2, rfl, h.lt, fun i u hu => ?_⟩
  have hi : i < (bvs p.ss).length := (List.getElem?_eq_some_iff.1 hu).1
  rw [h.cell, List.getElem?_toArray, ptC, List.getElem?_append_right (by simp [prC]), List.getElem?_append_left (by simp [prC]; exact hi)]
  simpa [prC] using hu
end Go.Proofs.YteeabfplnaknfaaGreat.Ms
end

section
set_option linter.unusedVariables false
set_option linter.unusedSimpArgs false
namespace Go.Proofs.YteeabfplnaknfaaGreat.Ms
open Go.RowKit Go.Proofs.YteeabfplnaknfaaGreat.Mem Go.Proofs.YteeabfplnaknfaaGreat.DerP Go.Proofs.YteeabfplnaknfaaGreat.DerR

theorem g_same {a b c : World} {row : Option Nat} (h : a.grownBy b row) (k : b.grownBy c row) : a.grownBy c row :=
  ⟨k.os.trans h.os, k.tape.trans h.tape, k.output.trans h.output, Nat.le_trans h.size k.size, fun i hi hn => (k.block i (Nat.lt_of_lt_of_le hi h.size) hn).trans (h.block i hi hn)⟩
theorem g_new {a b c : World} {row : Option Nat} {q : Nat} (h : a.grownBy b row) (k : b.grownBy c (some q)) (hq : a.heap.size ≤ q) : a.grownBy c row :=
  ⟨k.os.trans h.os, k.tape.trans h.tape, k.output.trans h.output, Nat.le_trans h.size k.size, fun i hi hn => (k.block i (Nat.lt_of_lt_of_le hi h.size) (fun e => by injection e with e; omega)).trans (h.block i hi hn)⟩
theorem results_cell {P : Program} {fn : Func} {tmps : Array Value} {w : World} {v : Value} (t : Nat) (ty : TypeId) (a : Addr) (hres : fn.results = #[.cell t ty]) (ht : tmps.getD t undef = .pointer (some a)) (hl : (loadVar ty a).run P w = .ok v w) :
    (results fn tmps).run P w = .ok v w := by
  have ht' : tmps[t]?.getD undef = .pointer (some a) := by simpa using ht
  simp [results, hres, ht', asAddr, hl]
theorem load_blk {P : Program} {w : World} {g : Nat} {t ty : TypeId} {cs : Array Value} {d : TypeDesc} (h : Blk w g t cs) (hu : P.underlying ty = some d) (hd : d.isRow = true) (hi : (P.info? ty).map (·.size) = some cs.size) :
    (loadVar ty ⟨g, 0, none⟩).run P w = .ok (.agg cs) w := by
  have hc : w.rangeAt g 0 cs.toList := fun j v hv => by rw [Nat.zero_add, h.cell]; simpa using hv
  have := run_loadVar_mid (P := P) w g 0 ty cs.toList d hc hu hd (by simpa using hi)
  simpa using this
end Go.Proofs.YteeabfplnaknfaaGreat.Ms
end

section
set_option linter.unusedVariables false
set_option linter.unusedSimpArgs false
namespace Go.Proofs.YteeabfplnaknfaaGreat.Ms
open Go.RowKit Go.Proofs.YteeabfplnaknfaaGreat.Mem Go.Proofs.YteeabfplnaknfaaGreat.DerP Go.Proofs.YteeabfplnaknfaaGreat.DerR

theorem intC_len (c : Option L) : ((intC c).2.getD []).length ≤ (c.getD []).length := by
  unfold intC
  cases h : bodyC 2 c with
  | none => simp
  | some b =>
    simp only
    cases numL b with
    | none => simp
    | some n => exact (body_len 2 c).2
end Go.Proofs.YteeabfplnaknfaaGreat.Ms
end

section
set_option linter.unusedVariables false
set_option linter.unusedSimpArgs false
namespace Go.Proofs.YteeabfplnaknfaaGreat.Ms
open Go.RowKit Go.Proofs.YteeabfplnaknfaaGreat.Mem Go.Proofs.YteeabfplnaknfaaGreat.DerP Go.Proofs.YteeabfplnaknfaaGreat.DerR

theorem results_pair {P : Program} {fn : Func} {tmps : Array Value} {w : World} {v u : Value} (t q : Nat) (ty : TypeId) (a : Addr) (hres : fn.results = #[.cell t ty, .tmp q]) (ht : tmps.getD t undef = .pointer (some a)) (hl : (loadVar ty a).run P w = .ok v w) (hq : tmps.getD q undef = u) :
    (results fn tmps).run P w = .ok (.tuple #[v, u]) w := by
  have ht' : tmps[t]?.getD undef = .pointer (some a) := by simpa using ht
  have hq' : tmps[q]?.getD undef = u := by simpa using hq
  simp [results, hres, ht', hq', asAddr, hl]
def anG (b : L) : An := (anD b).getD an0
def anI (b : L) : Int := if (anD b).isSome then 0 else 2
end Go.Proofs.YteeabfplnaknfaaGreat.Ms
end
