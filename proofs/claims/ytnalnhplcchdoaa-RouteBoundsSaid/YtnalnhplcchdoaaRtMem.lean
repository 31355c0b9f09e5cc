/-
  A topology in memory: rows of texts, of pairs of texts, of paths.
-/
import Derived.Test.YtnalnhplcchdoaaRtPlain
import Derived.Test.YtnalnhplcchdoaaTrRow
set_option linter.unusedVariables false
namespace Go.Proofs.Ytnalnhplcchdoaa.Rt
open Go.RowKit Go.Proofs.Ytnalnhplcchdoaa.Mem Go.Proofs.Ytnalnhplcchdoaa.Nm

def stp (p : Pr) : Value := .agg #[st p.1, st p.2]
/-- the slice v reads these texts -/
def SlV (w : World) (B : Nat) (v : Value) (ls : List L) : Prop := ∃ A c, v = .slice A ls.length c ∧ ls.length ≤ c ∧ Rd w B A (strs ls)
/-- the row at A reads these pairs, two cells each -/
def RdP (w : World) (B : Nat) (A : Option Addr) (K : List Pr) : Prop :=
  K = [] ∨ ∃ b o, A = some ⟨b, o, none⟩ ∧ b < B ∧ ∀ i, i < K.length → w.cell? ⟨b, o + i * 2, none⟩ = some (.string ⟨(kl K i).1.toArray⟩) ∧ w.cell? ⟨b, o + i * 2 + 1, none⟩ = some (.string ⟨(kl K i).2.toArray⟩)
def SlP (w : World) (B : Nat) (v : Value) (K : List Pr) : Prop := ∃ A c, v = .slice A K.length c ∧ K.length ≤ c ∧ RdP w B A K
/-- the row at A reads these paths, three cells each -/
def RdA (w : World) (B : Nat) (A : Option Addr) (P : List Pa) : Prop :=
  P = [] ∨ ∃ b o, A = some ⟨b, o, none⟩ ∧ b < B ∧ ∀ i, i < P.length → w.cell? ⟨b, o + i * 3, none⟩ = some (.string ⟨(al P i).f.toArray⟩) ∧ w.cell? ⟨b, o + i * 3 + 1, none⟩ = some (.string ⟨(al P i).t.toArray⟩) ∧
    ∃ v, w.cell? ⟨b, o + i * 3 + 2, none⟩ = some v ∧ SlV w B v (al P i).v
def SlA (w : World) (B : Nat) (v : Value) (P : List Pa) : Prop := ∃ A c, v = .slice A P.length c ∧ P.length ≤ c ∧ RdA w B A P
/-- the value v is this topology -/
def TpV (w : World) (B : Nat) (v : Value) (T : Tp) : Prop := ∃ v1 v2 v3, v = .agg #[v1, v2, v3] ∧ SlV w B v1 T.R ∧ SlP w B v2 T.K ∧ SlA w B v3 T.P
/-- a path by value -/
def PaV (w : World) (B : Nat) (v : Value) (p : Pa) : Prop := ∃ u, v = .agg #[.string ⟨p.f.toArray⟩, .string ⟨p.t.toArray⟩, u] ∧ SlV w B u p.v

section
variable {w w' : World} {B B' : Nat} {A : Option Addr} {v : Value} {ls : List L} {K : List Pr} {P : List Pa} {T : Tp} {p : Pa}
theorem SlV.keep (h : SlV w B v ls) (hk : ∀ b o, b < B → w'.cell? ⟨b, o, none⟩ = w.cell? ⟨b, o, none⟩) : SlV w' B v ls := by
  obtain ⟨A, c, h1, h2, h3⟩ := h
  exact ⟨A, c, h1, h2, h3.keep hk⟩
theorem SlV.more (h : SlV w B v ls) (hB : B ≤ B') : SlV w B' v ls := by
  obtain ⟨A, c, h1, h2, h3⟩ := h
  exact ⟨A, c, h1, h2, h3.more hB⟩
theorem RdP.keep (h : RdP w B A K) (hk : ∀ b o, b < B → w'.cell? ⟨b, o, none⟩ = w.cell? ⟨b, o, none⟩) : RdP w' B A K := by
  rcases h with h | ⟨b, o, h1, h2, h3⟩
  · exact .inl h
  · exact .inr ⟨b, o, h1, h2, fun i hi => ⟨(hk _ _ h2).trans (h3 i hi).1, (hk _ _ h2).trans (h3 i hi).2⟩⟩
theorem RdP.more (h : RdP w B A K) (hB : B ≤ B') : RdP w B' A K := by
  rcases h with h | ⟨b, o, h1, h2, h3⟩
  · exact .inl h
  · exact .inr ⟨b, o, h1, by omega, h3⟩
theorem SlP.keep (h : SlP w B v K) (hk : ∀ b o, b < B → w'.cell? ⟨b, o, none⟩ = w.cell? ⟨b, o, none⟩) : SlP w' B v K := by
  obtain ⟨A, c, h1, h2, h3⟩ := h
  exact ⟨A, c, h1, h2, h3.keep hk⟩
theorem SlP.more (h : SlP w B v K) (hB : B ≤ B') : SlP w B' v K := by
  obtain ⟨A, c, h1, h2, h3⟩ := h
  exact ⟨A, c, h1, h2, h3.more hB⟩
theorem RdA.keep (h : RdA w B A P) (hk : ∀ b o, b < B → w'.cell? ⟨b, o, none⟩ = w.cell? ⟨b, o, none⟩) : RdA w' B A P := by
  rcases h with h | ⟨b, o, h1, h2, h3⟩
  · exact .inl h
  · refine .inr ⟨b, o, h1, h2, fun i hi => ⟨(hk _ _ h2).trans (h3 i hi).1, (hk _ _ h2).trans (h3 i hi).2.1, ?_⟩⟩
    obtain ⟨v, h4, h5⟩ := (h3 i hi).2.2
    exact ⟨v, (hk _ _ h2).trans h4, h5.keep hk⟩
theorem RdA.more (h : RdA w B A P) (hB : B ≤ B') : RdA w B' A P := by
  rcases h with h | ⟨b, o, h1, h2, h3⟩
  · exact .inl h
  · refine .inr ⟨b, o, h1, by omega, fun i hi => ⟨(h3 i hi).1, (h3 i hi).2.1, ?_⟩⟩
    obtain ⟨v, h4, h5⟩ := (h3 i hi).2.2
    exact ⟨v, h4, h5.more hB⟩
theorem SlA.keep (h : SlA w B v P) (hk : ∀ b o, b < B → w'.cell? ⟨b, o, none⟩ = w.cell? ⟨b, o, none⟩) : SlA w' B v P := by
  obtain ⟨A, c, h1, h2, h3⟩ := h
  exact ⟨A, c, h1, h2, h3.keep hk⟩
theorem SlA.more (h : SlA w B v P) (hB : B ≤ B') : SlA w B' v P := by
  obtain ⟨A, c, h1, h2, h3⟩ := h
  exact ⟨A, c, h1, h2, h3.more hB⟩
theorem TpV.keep (h : TpV w B v T) (hk : ∀ b o, b < B → w'.cell? ⟨b, o, none⟩ = w.cell? ⟨b, o, none⟩) : TpV w' B v T := by
  obtain ⟨v1, v2, v3, h1, h2, h3, h4⟩ := h
  exact ⟨v1, v2, v3, h1, h2.keep hk, h3.keep hk, h4.keep hk⟩
theorem TpV.more (h : TpV w B v T) (hB : B ≤ B') : TpV w B' v T := by
  obtain ⟨v1, v2, v3, h1, h2, h3, h4⟩ := h
  exact ⟨v1, v2, v3, h1, h2.more hB, h3.more hB, h4.more hB⟩
theorem PaV.keep (h : PaV w B v p) (hk : ∀ b o, b < B → w'.cell? ⟨b, o, none⟩ = w.cell? ⟨b, o, none⟩) : PaV w' B v p := by
  obtain ⟨u, h1, h2⟩ := h
  exact ⟨u, h1, h2.keep hk⟩
theorem PaV.more (h : PaV w B v p) (hB : B ≤ B') : PaV w B' v p := by
  obtain ⟨u, h1, h2⟩ := h
  exact ⟨u, h1, h2.more hB⟩
theorem SlV.below (h : SlV w B v ls) (hb : Below B w w') : SlV w' B v ls := h.keep fun _ _ hp => hb.cell hp
theorem RdP.below (h : RdP w B A K) (hb : Below B w w') : RdP w' B A K := h.keep fun _ _ hp => hb.cell hp
theorem SlP.below (h : SlP w B v K) (hb : Below B w w') : SlP w' B v K := h.keep fun _ _ hp => hb.cell hp
theorem RdA.below (h : RdA w B A P) (hb : Below B w w') : RdA w' B A P := h.keep fun _ _ hp => hb.cell hp
theorem SlA.below (h : SlA w B v P) (hb : Below B w w') : SlA w' B v P := h.keep fun _ _ hp => hb.cell hp
theorem TpV.below (h : TpV w B v T) (hb : Below B w w') : TpV w' B v T := h.keep fun _ _ hp => hb.cell hp
theorem PaV.below (h : PaV w B v p) (hb : Below B w w') : PaV w' B v p := h.keep fun _ _ hp => hb.cell hp
/-- in the newest world, up to its own size -/
theorem TpV.on (h : TpV w w.heap.size v T) (hb : Below w.heap.size w w') : TpV w' w'.heap.size v T := (h.below hb).more hb.size
theorem SlV.on (h : SlV w w.heap.size v ls) (hb : Below w.heap.size w w') : SlV w' w'.heap.size v ls := (h.below hb).more hb.size
theorem SlP.on (h : SlP w w.heap.size v K) (hb : Below w.heap.size w w') : SlP w' w'.heap.size v K := (h.below hb).more hb.size
theorem SlA.on (h : SlA w w.heap.size v P) (hb : Below w.heap.size w w') : SlA w' w'.heap.size v P := (h.below hb).more hb.size

theorem rd_take {i : Nat} (h : Rd w B A (strs ls)) (hi : i ≤ ls.length) : Rd w B A (strs (ls.take i)) := by
  rcases h with h | ⟨b, o, h1, h2, h3⟩
  · left
    have : ls = [] := List.map_eq_nil_iff.1 h
    subst this; simp [strs]
  · refine .inr ⟨b, o, h1, h2, fun j u hu => h3 j u ?_⟩
    simp only [strs, List.map_take, List.getElem?_take] at hu ⊢
    split at hu
    · exact hu
    · cases hu
theorem kl_take {i j : Nat} (h : j < i) (h2 : j < K.length) : kl (K.take i) j = kl K j := by
  rw [kl_lt (by simp; omega), kl_lt h2]; simp
theorem rdp_take {i : Nat} (h : RdP w B A K) : RdP w B A (K.take i) := by
  rcases h with h | ⟨b, o, h1, h2, h3⟩
  · subst h; exact .inl (by simp)
  · refine .inr ⟨b, o, h1, h2, fun j hj => ?_⟩
    simp only [List.length_take] at hj
    rw [kl_take (by omega) (by omega)]
    exact h3 j (by omega)
theorem rdp_at {i : Nat} (h : RdP w B A K) (hi : i < K.length) : ∃ b o, A = some ⟨b, o, none⟩ ∧ b < B ∧ w.cell? ⟨b, o + i * 2, none⟩ = some (.string ⟨(kl K i).1.toArray⟩) ∧ w.cell? ⟨b, o + i * 2 + 1, none⟩ = some (.string ⟨(kl K i).2.toArray⟩) := by
  rcases h with h | ⟨b, o, h1, h2, h3⟩
  · subst h; simp at hi
  · exact ⟨b, o, h1, h2, h3 i hi⟩
theorem rda_at {i : Nat} (h : RdA w B A P) (hi : i < P.length) : ∃ b o, A = some ⟨b, o, none⟩ ∧ b < B ∧ w.cell? ⟨b, o + i * 3, none⟩ = some (.string ⟨(al P i).f.toArray⟩) ∧ w.cell? ⟨b, o + i * 3 + 1, none⟩ = some (.string ⟨(al P i).t.toArray⟩) ∧
    ∃ v, w.cell? ⟨b, o + i * 3 + 2, none⟩ = some v ∧ SlV w B v (al P i).v := by
  rcases h with h | ⟨b, o, h1, h2, h3⟩
  · subst h; simp at hi
  · exact ⟨b, o, h1, h2, h3 i hi⟩
end
end Go.Proofs.Ytnalnhplcchdoaa.Rt
