/-
  A Box is made; its two halves are made once.
-/
import Derived.Test.YtcjibpjdfhhhkaaSeMem
set_option linter.unusedVariables false
namespace Go.Proofs.Ytcjibpjdfhhhkaa.Se
open Go.RowKit Go.Proofs.Ytcjibpjdfhhhkaa.Mem

/-- a key's bytes as a value -/
def key32 (ks : Nat → UInt8) : Array Value := ((List.range 32).map (fun i => bv (ks i))).toArray
theorem load_cells {P : Program} {ops : Array Oper} {rest : List Oper} {op : Oper} {a : Act} {w : World} {Q : Exit → Act → World → Prop} (hgd : op.guard = none) (ty : TypeId) (x : Operand) (ho : op.op = .load ty x)
    (g o : Nat) (hx : a.eval x = .pointer (some ⟨g, o, none⟩)) (cs : Array Value) (d : TypeDesc) (hc : w.rangeAt g o cs.toList)
    (hu : P.underlying ty = some d) (hd : d.isRow = true) (hi : (P.info? ty).map (·.size) = some cs.size)
    (h : wpList P ops Q rest (a.put op.dst (.agg cs)) w) : wpList P ops Q (op :: rest) a w :=
  wpList_load_mid hgd ty x ho g o hx cs.toList d hc hu hd (by rw [Array.length_toList]; exact hi) (by simpa using h)
theorem key32_size (ks : Nat → UInt8) : (key32 ks).size = 32 := by simp [key32]
theorem info32 (ks : Nat → UInt8) : (Try.prog.info? 30).map (·.size) = some (key32 ks).size := by rw [key32_size]; kernel_rfl
theorem one32 (ks : Nat → UInt8) : (key32 ks).all (·.oneCell') = true := by simp [key32, bv, Value.oneCell']
set_option maxRecDepth 100000 in
set_option maxHeartbeats 1600000 in
theorem new_any (ks : Nat → UInt8) (w : World) : Calls Try.prog 22 #[.agg (key32 ks)] w fun e w' => ∃ b, e = .returned (.pointer (some ⟨b, 0, none⟩)) ∧ w.heap.size ≤ b ∧ Box w' b ks none 0 0 0 ∧ Below w.heap.size w w' := by
  have hi := info32 ks
  obtain ⟨cs, ecs⟩ : ∃ cs, cs = key32 ks := ⟨_, rfl⟩
  rw [← ecs] at hi ⊢
  have hz : cs.size = 32 := by rw [ecs]; exact key32_size ks
  have HI := Lib.hid hi; clear hi
  have EC := Lib.hid ecs; clear ecs
  go_enter Try.func22, Try.ntmps22
  go_wp2_with (first
    | (refine load_cells (by rfl) 30 (.tmp 1) (by rfl) w.heap.size 0 (by rfl) cs _ (Si.range_blk (Blk.new w 30 cs)) Try.underlying30 (by rfl) HI.out ?_)
    | fail)
  go_ret
  refine ⟨w.heap.size + 1, rfl, Nat.le_succ _, ?_, ((Below.refl w.heap.size w).alloc (Nat.le_refl _) _).alloc (by simp) _⟩
  exact Sp.Blk.new_of (w.alloc _) _ 88 _ (xcells ks 0 0 none zeroK 0 0 0) (by rw [EC.out]; kernel_rfl) (by simp)

theorem XB.range1 {w : World} {b : Nat} {ks dg : Nat → UInt8} {d s : Int} {p : Option Addr} {a o r : Nat} (h : XB w b ks d s p dg a o r) : w.rangeAt b 0 (Sp.key16 ks).toList := fun j v hv => by
  rw [Sp.key16, List.toList_toArray, List.getElem?_map] at hv
  rcases Nat.lt_or_ge j 16 with g | g
  · rw [Nat.zero_add, h.ck j (by omega)]; simpa [g] using hv
  · rw [List.getElem?_eq_none (by simpa using g)] at hv; cases hv
theorem XB.range2 {w : World} {b : Nat} {ks dg : Nat → UInt8} {d s : Int} {p : Option Addr} {a o r : Nat} (h : XB w b ks d s p dg a o r) : w.rangeAt b 16 (Sp.key16 (k2 ks)).toList := fun j v hv => by
  rw [Sp.key16, List.toList_toArray, List.getElem?_map] at hv
  rcases Nat.lt_or_ge j 16 with g | g
  · rw [h.ck (16 + j) (by omega)]; simpa [g, k2] using hv
  · rw [List.getElem?_eq_none (by simpa using g)] at hv; cases hv
theorem XB.rangeD {w : World} {b : Nat} {ks dg : Nat → UInt8} {d s : Int} {p : Option Addr} {a o r : Nat} (h : XB w b ks d s p dg a o r) : w.rangeAt b 36 (Sp.key16 dg).toList := fun j v hv => by
  rw [Sp.key16, List.toList_toArray, List.getElem?_map] at hv
  rcases Nat.lt_or_ge j 16 with g | g
  · rw [h.cg j (by omega)]; simpa [g] using hv
  · rw [List.getElem?_eq_none (by simpa using g)] at hv; cases hv
theorem XB.thereD {w : World} {b : Nat} {ks dg : Nat → UInt8} {d s : Int} {p : Option Addr} {a o r : Nat} (h : XB w b ks d s p dg a o r) : w.there b 36 16 := fun j hj => ⟨by rw [h.cg j hj]; rfl, h.fz _⟩
theorem key16_size (f : Nat → UInt8) : (Sp.key16 f).size = 16 := by simp [Sp.key16]
theorem info16 (f : Nat → UInt8) : (Try.prog.info? 83).map (·.size) = some (Sp.key16 f).size := by rw [key16_size]; kernel_rfl
theorem one16 (f : Nat → UInt8) : (Sp.key16 f).all (·.oneCell') = true := by simp [Sp.key16, bv, Value.oneCell']
theorem g_setCells {a w : World} {b : Nat} : ∀ (vs : List Value) (o : Nat) (w : World), a.grownBy w (some b) → a.grownBy (w.setCells b o vs) (some b)
  | [], _, _, h => h
  | v :: r, o, w, h => g_setCells (w := w) r (o + 1) _ (g_set h (.inl rfl) v)
theorem Key.far {w : World} {g : Nat} {ks : Nat → UInt8} {m : Bool} (h : Sp.Key w g ks m) (p : Addr) (u : Value) (hp : p.block ≠ g) : Sp.Key (w.setCell p u) g ks m := by
  cases m with
  | false => exact Si.Blk.far h p u hp
  | true => exact Si.Blk.far h p u hp
theorem Key.fars {g b : Nat} {ks : Nat → UInt8} {m : Bool} (hb : b ≠ g) : ∀ (vs : List Value) (o : Nat) (w : World), Sp.Key w g ks m → Sp.Key (w.setCells b o vs) g ks m
  | [], _, _, h => h
  | v :: r, o, w, h => Key.fars hb r (o + 1) _ (Key.far h _ v hb)
set_option maxRecDepth 100000 in
set_option maxHeartbeats 3200000 in
/-- the halves are made -/
theorem make_halves (b : Nat) (ks : Nat → UInt8) (a o r : Nat) (d s : Int) (w : World) (hK : XB w b ks d s none zeroK a o r) :
    Calls Try.prog 50 #[.pointer (some ⟨b, 0, none⟩)] w fun e w' => e = .returned (.tuple #[]) ∧ ∃ g, XB w' b ks d s (some ⟨g, 0, none⟩) (k2 ks) a o r ∧ w.heap.size ≤ g ∧ Sp.Key w' g ks false ∧ w.grownBy w' (some b) := by
  have hs1 : ∀ w : World, (Instr.arrayAt 83 (.slice (some ⟨b, 0, none⟩) 16 32)).run Try.prog w = .ok (.pointer (some ⟨b, 0, none⟩)) w := fun _ => by kernel_rfl
  have hs2 : ∀ w : World, (Instr.arrayAt 83 (.slice (some ⟨b, 16, none⟩) 16 16)).run Try.prog w = .ok (.pointer (some ⟨b, 16, none⟩)) w := fun _ => by kernel_rfl
  have cn := fun w => Sp.new_any ks w
  have r1 := hK.range1
  have hk0 : ∀ w1 : World, Below w.heap.size w w1 → XB w1 b ks d s none zeroK a o r := fun w1 h => Blk.below hK h
  have hlt := hK.lt
  have R2 : Hid (∀ (w1 : World) p, XB w1 b ks d s p zeroK a o r → w1.rangeAt b 16 (Sp.key16 (k2 ks)).toList) := fun w1 p h => XB.range2 h
  have i1 := info16 ks
  have i2 := info16 (k2 ks)
  have o2 := one16 (k2 ks)
  have z2 := key16_size (k2 ks)
  obtain ⟨cs, ecs⟩ : ∃ cs, cs = Sp.key16 ks := ⟨_, rfl⟩
  obtain ⟨ds, eds⟩ : ∃ ds, ds = Sp.key16 (k2 ks) := ⟨_, rfl⟩
  rw [← ecs] at r1 i1 cn
  rw [← eds] at R2 i2 o2 z2
  have R1 := Lib.hid r1; clear r1
  have K0 := Lib.hid hk0; clear hk0
  have LT := Lib.hid hlt; clear hlt
  have I1 := Lib.hid i1; clear i1
  have I2 := Lib.hid i2; clear i2
  have O2 := Lib.hid o2; clear o2
  have Z2 := Lib.hid z2; clear z2
  have ED := Lib.hid eds; clear eds
  clear ecs hK
  go_enter Try.func50, Try.ntmps50
  go_upto_region 2 with (first
    | (refine load_cells (by rfl) 83 (.tmp 9) (by rfl) b 0 (by rfl) cs _ R1.out Try.underlying83 (by rfl) I1.out ?_)
    | (go_at_call 63; refine Calls.mono (cn _) ?_; rintro e w1 ⟨g, rfl, hg, hk1, hb1⟩; have X1 := K0.out w1 hb1; have c35 := X1.cp; have fz := X1.fz; have X2 := Lib.hid (X1.set_p (some ⟨g, 0, none⟩)); have HG := Lib.hid hg; have HK1 := Lib.hid hk1; have HB1 := Lib.hid hb1; clear hg hk1 hb1 X1)
    | fail)
  clear c35 fz
  have hR := R2.out _ _ X2.out
  have hT := XB.thereD X2.out
  rw [← Z2.out] at hT
  have HR := Lib.hid hR; clear hR
  have HT := Lib.hid hT; clear hT
  go_wp2_with (first
    | (refine load_cells (by rfl) 83 (.tmp 20) (by rfl) b 16 (by rfl) ds _ HR.out Try.underlying83 (by rfl) I2.out ?_)
    | (refine wpList_store_mid (by rfl) 83 (.tmp 23) (.tmp 21) (by rfl) b 36 ds (by rfl) (by rfl) HT.out I2.out O2.out ?_)
    | fail)
  go_end0
  have hgb : b ≠ g := by have := HG.out; have := LT.out; omega
  refine ⟨rfl, g, ?_, HG.out, Key.fars hgb _ _ _ (Key.far HK1.out _ _ hgb), g_setCells (w := w) _ _ _ (g_set (g_of_below HB1.out _) (.inl rfl) _)⟩
  rw [ED.out]
  exact X2.out.set_dg (k2 ks)
end Go.Proofs.Ytcjibpjdfhhhkaa.Se
