/-
  A Key is made; a block is turned and turned back.
-/
import Derived.Test.YtcjibpjdfhhhkaaSpOnce
set_option linter.unusedVariables false
namespace Go.Proofs.Ytcjibpjdfhhhkaa.Sp
open Go.RowKit Go.Proofs.Ytcjibpjdfhhhkaa.Mem

theorem Blk.new_of (w : World) (g : Nat) (t : TypeId) (cs cs' : Array Value) (e : cs = cs') (hg : w.heap.size = g) : Blk (w.alloc (.cells cs t)) g t cs' := hg ▸ e ▸ Blk.new w t cs
theorem below_set {B : Nat} {a w : World} (h : Below B a w) {p : Addr} (hp : B ≤ p.block) (u : Value) : Below B a (w.setCell p u) :=
  ⟨h.os, h.tape, h.output, by simpa [World.setCell] using h.size, fun i hi => (Below.heap_setCell w p u i (by omega)).trans (h.block i hi)⟩
theorem results_cell {P : Program} {fn : Func} {tmps : Array Value} {w : World} {v : Value} (t : Nat) (ty : TypeId) (a : Addr) (hres : fn.results = #[.cell t ty]) (ht : tmps.getD t undef = .pointer (some a)) (hl : (loadVar ty a).run P w = .ok v w) :
    (results fn tmps).run P w = .ok v w := by
  have ht' : tmps[t]?.getD undef = .pointer (some a) := by simpa using ht
  simp [results, hres, ht', asAddr, hl]
theorem load_blk {P : Program} {w : World} {g : Nat} {t ty : TypeId} {cs : Array Value} {d : TypeDesc} (h : Blk w g t cs) (hu : P.underlying ty = some d) (hd : d.isRow = true) (hi : (P.info? ty).map (·.size) = some cs.size) :
    (loadVar ty ⟨g, 0, none⟩).run P w = .ok (.agg cs) w := by
  have hc : w.rangeAt g 0 cs.toList := fun j v hv => by rw [Nat.zero_add, h.cell]; simpa using hv
  have := run_loadVar_mid (P := P) w g 0 ty cs.toList d hc hu hd (by simpa using hi)
  simpa using this
/-- a Key's bytes as a value -/
def key16 (ks : Nat → UInt8) : Array Value := ((List.range 16).map (fun i => bv (ks i))).toArray
set_option maxRecDepth 100000 in
set_option maxHeartbeats 1600000 in
theorem new_any (ks : Nat → UInt8) (w : World) : Calls Try.prog 63 #[.agg (key16 ks)] w fun e w' => ∃ b, e = .returned (.pointer (some ⟨b, 0, none⟩)) ∧ w.heap.size ≤ b ∧ Key w' b ks false ∧ Below w.heap.size w w' := by
  have hk : key16 ks = #[bv (ks 0), bv (ks 1), bv (ks 2), bv (ks 3), bv (ks 4), bv (ks 5), bv (ks 6), bv (ks 7), bv (ks 8), bv (ks 9), bv (ks 10), bv (ks 11), bv (ks 12), bv (ks 13), bv (ks 14), bv (ks 15)] := rfl
  rw [hk]
  simp only [bv]
  clear hk
  go_enter Try.func63, Try.ntmps63
  go_wp2
  go_ret
  exact ⟨w.heap.size + 1, rfl, Nat.le_succ _, Blk.new_of (w.alloc _) _ 125 _ (kcells ks 0 0 0 zeroW) (by kernel_rfl) (by simp), ((Below.refl w.heap.size w).alloc (Nat.le_refl _) _).alloc (by simp) _⟩

end Go.Proofs.Ytcjibpjdfhhhkaa.Sp
