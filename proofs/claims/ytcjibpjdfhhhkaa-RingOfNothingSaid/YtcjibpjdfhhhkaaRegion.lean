/-
  A region that draws its order, whose calls only make memory: one condition, renewed behind each call: what was there stays.
-/
import Derived.Test.YtcjibpjdfhhhkaaMem
import Derived.Deep.RegionHeld3
set_option linter.unusedVariables false
namespace Go.Proofs.Ytcjibpjdfhhhkaa.Reg
open Go.RowKit Go.Proofs.Ytcjibpjdfhhhkaa.Mem

section
variable {P : Program} {ops : Array Oper} {Q : Exit → Act → World → Prop} {md : Region.Mode}

theorem held_mono {S1 S2 : World → Prop} (hS : ∀ w, S2 w → S1 w) : ∀ (f : Nat) (l : Array Bool) (a : Act) (w : World), wpAnyH P md ops Q S2 f l a w → wpAnyH P md ops Q S1 f l a w
  | 0, _, _, _, h => h
  | f + 1, _, _, _, h => ⟨h.1, fun i hi => wpOp_mono (fun a' w' hh => ⟨hS w' hh.1, held_mono hS f _ a' w' hh.2⟩) (h.2 i hi)⟩

/-- all that was there in W is as it was -/
def Since (W w : World) : Prop := Below W.heap.size W w
theorem held_on {W w : World} {f : Nat} {l : Array Bool} {a : Act} (hb : Below W.heap.size W w) (h : wpAnyH P md ops Q (Since w) f l a w) : wpAnyH P md ops Q (Since W) f l a w :=
  held_mono (fun _ h' => bt hb h') f l a w h
theorem region_begin (n : Nat) {id : Nat} {a : Act} {w : World} (hn : ops.size = n) (hm : P.follows .mixedOrders = true) (h : wpAnyH P .any ops Q (Since w.drew) n (Array.replicate n false) a w.drew) : (Code.region id ops true).wp P Q a w := by
  subst hn
  exact wp_region_held_drew hm (Below.refl _ _) (fun _ => h)
/-- number i comes first: it yields v whatever has been made since -/
theorem take_op (i : Nat) {dst : Option Tmp} {op : Op} {ty : TypeId} {pos : String} {after : Array _} {guard : Option (Nat × Bool)} {v : Value} {fuel : Nat} {listed : Array Bool} {a : Act} {w : World} (hi : ops[i]? = some ⟨dst, op, ty, pos, after, guard⟩)
    (hs : Region.noSelect ops = true) (hf : Region.free md ops listed i = true) (hr : (Region.ready md ops listed).contains i = true)
    (hQ : ∀ c a w, Q (.panic c) (a.put dst v) w → Q (.panic c) a w)
    (hw : Region.wanted ⟨dst, op, ty, pos, after, guard⟩ (yielded ops a.tmps) = true) (hy : ∀ w', Since w w' → (execOp a.eval ⟨dst, op, ty, pos, after, guard⟩).run P w' = .ok (.value v) w')
    (h : wpAnyH P md ops Q (Since w) fuel (listed.setIfInBounds i true) (a.put dst v) w) : wpAnyH P md ops Q (Since w) (fuel + 1) listed a w :=
  wpAnyH_take hi hs hf hr hQ (.inl ⟨hw, hy⟩) (Below.refl _ _) h
/-- number i is not wanted -/
theorem skip_op (i : Nat) {dst : Option Tmp} {op : Op} {ty : TypeId} {pos : String} {after : Array _} {guard : Option (Nat × Bool)} {fuel : Nat} {listed : Array Bool} {a : Act} {w : World} (hi : ops[i]? = some ⟨dst, op, ty, pos, after, guard⟩)
    (hs : Region.noSelect ops = true) (hf : Region.free md ops listed i = true) (hr : (Region.ready md ops listed).contains i = true)
    (hQ : ∀ c a w, Q (.panic c) (a.put dst undef) w → Q (.panic c) a w)
    (hw : Region.wanted ⟨dst, op, ty, pos, after, guard⟩ (yielded ops a.tmps) = false)
    (h : wpAnyH P md ops Q (Since w) fuel (listed.setIfInBounds i true) (a.put dst undef) w) : wpAnyH P md ops Q (Since w) (fuel + 1) listed a w :=
  wpAnyH_take hi hs hf hr hQ (.inr ⟨hw, rfl⟩) (Below.refl _ _) h
/-- only number i may come up, a call -/
theorem call_op (i : Nat) {dst : Option Tmp} {op : Op} {ty : TypeId} {pos : String} {after : Array _} {guard : Option (Nat × Bool)} {fuel : Nat} {listed : Array Bool} {a : Act} {w : World} (hi : ops[i]? = some ⟨dst, op, ty, pos, after, guard⟩)
    (hr : Region.ready md ops listed = [i]) (hw : Region.wanted ⟨dst, op, ty, pos, after, guard⟩ (yielded ops a.tmps) = true) (f : FuncId) (args : Array Value)
    (hx : (execOp a.eval ⟨dst, op, ty, pos, after, guard⟩).run P w = .ok (.enter f args) w)
    (h : Calls P f args w fun e w' => ∃ v, e = .returned v ∧ Below w.heap.size w w' ∧ wpAnyH P md ops Q (Since w') fuel (listed.setIfInBounds i true) (a.put dst v) w') : wpAnyH P md ops Q (Since w) (fuel + 1) listed a w := by
  refine wpAnyH_all hr (by simp) fun j hj => ?_
  obtain rfl : j = i := by simpa using hj
  unfold wpOp
  simp only [hi]
  rw [if_pos hw]
  left
  unfold Oper.wp
  rw [hx]
  exact h.mono fun e w' hh => by
    obtain ⟨v, rfl, hb, hh⟩ := hh
    exact ⟨hb, held_on hb hh⟩
theorem since_str {src e dst : TypeId} (hs : P.underlying src = some (.slice e)) (he : P.underlying e = some (.int .u8)) (hd : P.underlying dst = some .string) {W : World} {B n c : Nat} {A : Option Addr} {l : List UInt8} (h : Rd W B A (bvs l)) (hB : B ≤ W.heap.size) (hn : n = l.length) :
    ∀ w, Since W w → (convert src dst (.slice A n c)).run P w = .ok (.string ⟨l.toArray⟩) w :=
  fun w hS => run_bytes_str w src e hs he (h.below (hS.mono hB)) n c hn dst hd
end

end Go.Proofs.Ytcjibpjdfhhhkaa.Reg
