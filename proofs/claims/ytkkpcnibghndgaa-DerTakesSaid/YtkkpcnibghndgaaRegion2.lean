/-
  A region that draws its order, whose calls write blocks from B on alone: what lies below B stays.
-/
import Derived.Test.YtkkpcnibghndgaaRegion
set_option linter.unusedVariables false
namespace Go.Proofs.Ytkkpcnibghndgaa.Reg
open Go.RowKit Go.Proofs.Ytkkpcnibghndgaa.Mem

section
variable {P : Program} {ops : Array Oper} {Q : Exit → Act → World → Prop} {md : Region.Mode}

/-- what lies below B is as it was in W -/
def SB (B : Nat) (W w : World) : Prop := Below B W w
theorem begin_at (B n : Nat) {id : Nat} {a : Act} {w : World} (hn : ops.size = n) (hm : P.follows .mixedOrders = true) (h : wpAnyH P .any ops Q (SB B w.drew) n (Array.replicate n false) a w.drew) : (Code.region id ops true).wp P Q a w := by
  subst hn
  exact wp_region_held_drew hm (Below.refl _ _) (fun _ => h)
theorem take_at (i : Nat) {B : Nat} {dst : Option Tmp} {op : Op} {ty : TypeId} {pos : String} {after : Array _} {guard : Option (Nat × Bool)} {v : Value} {fuel : Nat} {listed : Array Bool} {a : Act} {w : World} (hi : ops[i]? = some ⟨dst, op, ty, pos, after, guard⟩)
    (hs : Region.noSelect ops = true) (hf : Region.free md ops listed i = true) (hr : (Region.ready md ops listed).contains i = true)
    (hQ : ∀ c a w, Q (.panic c) (a.put dst v) w → Q (.panic c) a w)
    (hw : Region.wanted ⟨dst, op, ty, pos, after, guard⟩ (yielded ops a.tmps) = true) (hy : ∀ w', SB B w w' → (execOp a.eval ⟨dst, op, ty, pos, after, guard⟩).run P w' = .ok (.value v) w')
    (h : wpAnyH P md ops Q (SB B w) fuel (listed.setIfInBounds i true) (a.put dst v) w) : wpAnyH P md ops Q (SB B w) (fuel + 1) listed a w :=
  wpAnyH_take hi hs hf hr hQ (.inl ⟨hw, hy⟩) (Below.refl _ _) h
theorem skip_at (i : Nat) {B : Nat} {dst : Option Tmp} {op : Op} {ty : TypeId} {pos : String} {after : Array _} {guard : Option (Nat × Bool)} {fuel : Nat} {listed : Array Bool} {a : Act} {w : World} (hi : ops[i]? = some ⟨dst, op, ty, pos, after, guard⟩)
    (hs : Region.noSelect ops = true) (hf : Region.free md ops listed i = true) (hr : (Region.ready md ops listed).contains i = true)
    (hQ : ∀ c a w, Q (.panic c) (a.put dst undef) w → Q (.panic c) a w)
    (hw : Region.wanted ⟨dst, op, ty, pos, after, guard⟩ (yielded ops a.tmps) = false)
    (h : wpAnyH P md ops Q (SB B w) fuel (listed.setIfInBounds i true) (a.put dst undef) w) : wpAnyH P md ops Q (SB B w) (fuel + 1) listed a w :=
  wpAnyH_take hi hs hf hr hQ (.inr ⟨hw, rfl⟩) (Below.refl _ _) h
theorem call_at (i B' : Nat) {B : Nat} {dst : Option Tmp} {op : Op} {ty : TypeId} {pos : String} {after : Array _} {guard : Option (Nat × Bool)} {fuel : Nat} {listed : Array Bool} {a : Act} {w : World} (hi : ops[i]? = some ⟨dst, op, ty, pos, after, guard⟩)
    (hr : Region.ready md ops listed = [i]) (hw : Region.wanted ⟨dst, op, ty, pos, after, guard⟩ (yielded ops a.tmps) = true) (hBB : B ≤ B') (f : FuncId) (args : Array Value)
    (hx : (execOp a.eval ⟨dst, op, ty, pos, after, guard⟩).run P w = .ok (.enter f args) w)
    (h : Calls P f args w fun e w' => ∃ v, e = .returned v ∧ Below B w w' ∧ wpAnyH P md ops Q (SB B' w') fuel (listed.setIfInBounds i true) (a.put dst v) w') : wpAnyH P md ops Q (SB B w) (fuel + 1) listed a w := by
  refine wpAnyH_all hr (by simp) fun j hj => ?_
  obtain rfl : j = i := by simpa using hj
  unfold wpOp
  simp only [hi]
  rw [if_pos hw]
  left
  unfold Oper.wp
  rw [hx]
  exact h.mono fun e w' hh => by
    obtain ⟨v, rfl, hb, hh⟩ := hh
    exact ⟨hb, held_mono (fun _ h' => hb.trans (h'.mono hBB)) _ _ _ _ hh⟩
theorem sb_str {src e dst : TypeId} (hs : P.underlying src = some (.slice e)) (he : P.underlying e = some (.int .u8)) (hd : P.underlying dst = some .string) {W : World} {B0 B n c : Nat} {A : Option Addr} {l : List UInt8} (h : Rd W B A (bvs l)) (hB : B ≤ B0) (hn : n = l.length) :
    ∀ w, SB B0 W w → (convert src dst (.slice A n c)).run P w = .ok (.string ⟨l.toArray⟩) w :=
  fun w hS => run_bytes_str w src e hs he (h.below (hS.mono hB)) n c hn dst hd
theorem sb_cell {W : World} {B0 b o : Nat} {u : Value} (h : W.cell? ⟨b, o, none⟩ = some u) (hB : b < B0) : ∀ w, SB B0 W w → w.cell? ⟨b, o, none⟩ = some u :=
  fun w hS => (hS.cell (p := ⟨b, o, none⟩) hB).trans h
end

end Go.Proofs.Ytkkpcnibghndgaa.Reg
