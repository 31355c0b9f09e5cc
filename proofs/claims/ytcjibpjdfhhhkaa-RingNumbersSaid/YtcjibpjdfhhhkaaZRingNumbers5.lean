import Derived.Deep.MidRow
import Derived.Deep.CutBlock
import Derived.StillTailTactics
import Derived.ProofKit
import Derived.OpenShut
import Derived.ShutString
import Derived.ChangeOld
import Derived.Deep.Matrix
import Derived.Deep.Slices
import Derived.Deep.QuietTactic
import Derived.BigQuiet
import Derived.Deep.LoopGhost
import Derived.Test.YtcjibpjdfhhhkaaZRingNumbers1
import Derived.Test.YtcjibpjdfhhhkaaZRingNumbers2
import Derived.Test.YtcjibpjdfhhhkaaZRingNumbers3
import Derived.Test.YtcjibpjdfhhhkaaZRingNumbers4
section
set_option linter.unusedVariables false
namespace Go.Proofs.Ytcjibpjdfhhhkaa.Se
open Go.RowKit Go.Proofs.Ytcjibpjdfhhhkaa.Mem

structure Chg (S : Nat → Prop) (w w' : World) : Prop where
  os : w'.os = w.os
  tape : w'.tape = w.tape
  output : w'.output = w.output
  size : w.heap.size ≤ w'.heap.size
  block : ∀ k, k < w.heap.size → ¬ S k → w'.heap[k]? = w.heap[k]?
section
variable {S T S' : Nat → Prop} {a w w' c : World} {A : Option Addr} {xs : List Value} {g b : Nat} {t : TypeId} {cs : Array Value}
theorem Chg.refl (S : Nat → Prop) (w : World) : Chg S w w := ⟨rfl, rfl, rfl, Nat.le_refl _, fun _ _ _ => rfl⟩
theorem Chg.trans (h : Chg S a w) (k : Chg T w c) (hs : ∀ i, i < a.heap.size → T i → S i) : Chg S a c :=
  ⟨k.os.trans h.os, k.tape.trans h.tape, k.output.trans h.output, Nat.le_trans h.size k.size, fun i hi hn => (k.block i (Nat.lt_of_lt_of_le hi h.size) (fun ht => hn (hs i hi ht))).trans (h.block i hi hn)⟩
theorem Chg.mono (h : Chg S a w) (hs : ∀ i, i < a.heap.size → S i → T i) : Chg T a w := ⟨h.os, h.tape, h.output, h.size, fun i hi hn => h.block i hi (fun x => hn (hs i hi x))⟩
theorem Chg.of_below (h : Below w.heap.size w w') : Chg S w w' := ⟨h.os, h.tape, h.output, h.size, fun i hi _ => h.block i hi⟩
theorem Chg.of_grown (h : w.grownBy w' (some g)) (hs : S g) : Chg S w w' := ⟨h.os, h.tape, h.output, h.size, fun i hi hn => h.block i hi (fun e => by injection e with e; subst e; exact hn hs)⟩
theorem Chg.below (h : Chg S a w) {B : Nat} (hB : B ≤ a.heap.size) (hs : ∀ i, i < a.heap.size → S i → B ≤ i) : Below B a w :=
  ⟨h.os, h.tape, h.output, h.size, fun i hi => h.block i (by omega) (fun x => by have := hs i (by omega) x; omega)⟩
theorem Chg.blk (h : Chg S w w') (hb : Blk w g t cs) (hs : ¬ S g) : Blk w' g t cs := (h.block g hb.lt hs).trans hb
theorem Chg.own (h : Chg S w w') {base n : Nat} {v : Value} (ho : w.ownsRow base t 1 v n xs) (hs : ∀ k, v.ownBlock = some k → ¬ S k) : w'.ownsRow base t 1 v n xs := by
  refine ⟨ho.1, ?_⟩
  rcases ho.2 with hn | ⟨g, cap, cur, rfl, hb, hgg, rest⟩
  · exact .inl hn
  · exact .inr ⟨g, cap, cur, rfl, hb, (h.block g (Array.getElem?_eq_some_iff.1 hgg).1 (hs g rfl)).trans hgg, rest⟩
theorem Chg.set (h : Chg S a w) {p : Addr} (hp : S p.block ∨ a.heap.size ≤ p.block) (u : Value) : Chg S a (w.setCell p u) :=
  ⟨h.os, h.tape, h.output, by simpa [World.setCell] using h.size, fun i hi hn => (Below.heap_setCell w p u i (by
    rintro rfl
    rcases hp with hp | hp
    · exact hn hp
    · omega)).trans (h.block i hi hn)⟩
theorem Chg.alloc (h : Chg S a w) (o : Obj) : Chg S a (w.alloc o) :=
  ⟨h.os, h.tape, h.output, Nat.le_trans h.size (by simp), fun i hi hn => (Below.heap_alloc w o i (Nat.lt_of_lt_of_le hi h.size)).trans (h.block i hi hn)⟩
theorem Chg.drew (h : Chg S a w) : Chg S a w.drew := ⟨h.os, h.tape, h.output, h.size, h.block⟩

def RdA (S : Nat → Prop) (w : World) (A : Option Addr) (xs : List Value) : Prop :=
  xs = [] ∨ ∃ b o, A = some ⟨b, o, none⟩ ∧ b < w.heap.size ∧ ¬ S b ∧ ∀ i u, xs[i]? = some u → w.cell? ⟨b, o + i, none⟩ = some u
theorem RdA.rd (h : RdA S w A xs) : Rd w w.heap.size A xs := by
  rcases h with h | ⟨b, o, h1, h2, _, h3⟩
  · exact .inl h
  · exact .inr ⟨b, o, h1, h2, h3⟩
theorem RdA.keep (h : RdA S w A xs) (hc : Chg T w w') (ht : ∀ i, i < w.heap.size → T i → S i) (hs : ∀ i, i < w.heap.size → S' i → S i) : RdA S' w' A xs := by
  rcases h with h | ⟨b, o, h1, h2, h4, h3⟩
  · exact .inl h
  · exact .inr ⟨b, o, h1, Nat.lt_of_lt_of_le h2 hc.size, fun x => h4 (hs b h2 x), fun i u hu => (World.cell?_of_block (a := ⟨b, o + i, none⟩) (hc.block b h2 (fun x => h4 (ht b h2 x)))).trans (h3 i u hu)⟩
theorem RdA.mono (h : RdA S w A xs) (hs : ∀ i, i < w.heap.size → S' i → S i) : RdA S' w A xs := h.keep (Chg.refl (fun _ => False) w) (fun _ _ x => x.elim) hs
end

def xcells (ks : Nat → UInt8) (d s : Int) (p : Option Addr) (dg : Nat → UInt8) (a o r : Nat) : Array Value :=
  ((List.range 32).map (fun i => bv (ks i)) ++ (([.int .u32 d, .int .i32 s, .int .u32 0, .pointer p] : List Value) ++ ((List.range 16).map (fun j => bv (dg j)) ++ ([.int .i64 (a : Int), .int .i64 (o : Int), .int .i64 (r : Int)] : List Value)))).toArray
def XB (w : World) (b : Nat) (ks : Nat → UInt8) (d s : Int) (p : Option Addr) (dg : Nat → UInt8) (a o r : Nat) : Prop := Blk w b 88 (xcells ks d s p dg a o r)
section
variable {w w' : World} {b : Nat} {ks dg : Nat → UInt8} {d s : Int} {p : Option Addr} {a o r : Nat}
theorem xcells_key (i : Nat) (h : i < 32) : (xcells ks d s p dg a o r)[i]? = some (bv (ks i)) := by
  rw [xcells, List.getElem?_toArray, List.getElem?_append_left (by simpa using h)]
  simp [h]
theorem xcells_mid (i : Nat) (h : i < 4) : (xcells ks d s p dg a o r)[32 + i]? = ([.int .u32 d, .int .i32 s, .int .u32 0, .pointer p] : List Value)[i]? := by
  rw [xcells, List.getElem?_toArray, List.getElem?_append_right (by simp), List.getElem?_append_left (by simpa using h)]
  simp
theorem xcells_dg (i : Nat) (h : i < 16) : (xcells ks d s p dg a o r)[36 + i]? = some (bv (dg i)) := by
  rw [xcells, List.getElem?_toArray, List.getElem?_append_right (by simp; omega), List.getElem?_append_right (by simp; omega), List.getElem?_append_left (by simp; omega)]
  have e : 36 + i - (List.map (fun i => bv (ks i)) (List.range 32)).length - ([.int .u32 d, .int .i32 s, .int .u32 0, .pointer p] : List Value).length = i := by simp; omega
  rw [e]
  simp [h]
theorem xcells_ct (i : Nat) (h : i < 3) : (xcells ks d s p dg a o r)[52 + i]? = ([.int .i64 (a : Int), .int .i64 (o : Int), .int .i64 (r : Int)] : List Value)[i]? := by
  rw [xcells, List.getElem?_toArray, List.getElem?_append_right (by simp; omega), List.getElem?_append_right (by simp; omega), List.getElem?_append_right (by simp; omega)]
  have e : 52 + i - (List.map (fun i => bv (ks i)) (List.range 32)).length - ([.int .u32 d, .int .i32 s, .int .u32 0, .pointer p] : List Value).length - (List.map (fun j => bv (dg j)) (List.range 16)).length = i := by simp; omega
  rw [e]
theorem XB.cell (h : XB w b ks d s p dg a o r) (i : Nat) : w.cell? ⟨b, i, none⟩ = (xcells ks d s p dg a o r)[i]? := Blk.cell h i
theorem XB.ck (h : XB w b ks d s p dg a o r) (i : Nat) (hi : i < 32) : w.cell? ⟨b, i, none⟩ = some (bv (ks i)) := (h.cell i).trans (xcells_key i hi)
theorem XB.cd (h : XB w b ks d s p dg a o r) : w.cell? ⟨b, 32, none⟩ = some (.int .u32 d) := (h.cell 32).trans (xcells_mid 0 (by decide))
theorem XB.cs (h : XB w b ks d s p dg a o r) : w.cell? ⟨b, 33, none⟩ = some (.int .i32 s) := (h.cell 33).trans (xcells_mid 1 (by decide))
theorem XB.cp (h : XB w b ks d s p dg a o r) : w.cell? ⟨b, 35, none⟩ = some (.pointer p) := (h.cell 35).trans (xcells_mid 3 (by decide))
theorem XB.cg (h : XB w b ks d s p dg a o r) (i : Nat) (hi : i < 16) : w.cell? ⟨b, 36 + i, none⟩ = some (bv (dg i)) := (h.cell _).trans (xcells_dg i hi)
theorem XB.ca (h : XB w b ks d s p dg a o r) : w.cell? ⟨b, 52, none⟩ = some (.int .i64 (a : Int)) := (h.cell 52).trans (xcells_ct 0 (by decide))
theorem XB.fz (h : XB w b ks d s p dg a o r) (i : Nat) : w.frozen? ⟨b, i, none⟩ = false := Blk.frozen h i
theorem XB.lt (h : XB w b ks d s p dg a o r) : b < w.heap.size := Blk.lt h
theorem xset_d (d' : Int) : (xcells ks d s p dg a o r).setIfInBounds 32 (.int .u32 d') = xcells ks d' s p dg a o r := by simp [xcells]
theorem xset_s (s' : Int) : (xcells ks d s p dg a o r).setIfInBounds 33 (.int .i32 s') = xcells ks d s' p dg a o r := by simp [xcells]
theorem xset_p (p' : Option Addr) : (xcells ks d s p dg a o r).setIfInBounds 35 (.pointer p') = xcells ks d s p' dg a o r := by simp [xcells]
theorem XB.set_d (h : XB w b ks d s p dg a o r) (d' : Int) : XB (w.setCell ⟨b, 32, none⟩ (.int .u32 d')) b ks d' s p dg a o r := by
  have := Blk.set h 32 (.int .u32 d'); rwa [xset_d] at this
theorem XB.set_s (h : XB w b ks d s p dg a o r) (s' : Int) : XB (w.setCell ⟨b, 33, none⟩ (.int .i32 s')) b ks d s' p dg a o r := by
  have := Blk.set h 33 (.int .i32 s'); rwa [xset_s] at this
theorem XB.set_p (h : XB w b ks d s p dg a o r) (p' : Option Addr) : XB (w.setCell ⟨b, 35, none⟩ (.pointer p')) b ks d s p' dg a o r := by
  have := Blk.set h 35 (.pointer p'); rwa [xset_p] at this
theorem XB.drew (h : XB w b ks d s p dg a o r) : XB w.drew b ks d s p dg a o r := h
theorem XB.chg {S : Nat → Prop} (h : XB w b ks d s p dg a o r) (hc : Chg S w w') (hs : ¬ S b) : XB w' b ks d s p dg a o r := hc.blk h hs
end
def setAll (cs : Array Value) : Nat → List Value → Array Value
  | _, [] => cs
  | o, v :: l => setAll (cs.setIfInBounds o v) (o + 1) l
theorem Blk.setCells {g : Nat} {t : TypeId} : ∀ (vs : List Value) (o : Nat) (w : World) (cs : Array Value), Blk w g t cs → Blk (w.setCells g o vs) g t (setAll cs o vs)
  | [], _, _, _, h => h
  | v :: l, o, w, cs, h => Blk.setCells l (o + 1) _ _ (h.set o v)
theorem xset_dg (ks : Nat → UInt8) (d s : Int) (p : Option Addr) (dg dg' : Nat → UInt8) (a o r : Nat) : setAll (xcells ks d s p dg a o r) 36 (Si.key16 dg').toList = xcells ks d s p dg' a o r := by kernel_rfl
theorem XB.set_dg {w : World} {b : Nat} {ks dg : Nat → UInt8} {d s : Int} {p : Option Addr} {a o r : Nat} (h : XB w b ks d s p dg a o r) (dg' : Nat → UInt8) : XB (w.setCells b 36 (Si.key16 dg').toList) b ks d s p dg' a o r := by
  have := Blk.setCells (Si.key16 dg').toList 36 _ _ h
  rwa [xset_dg] at this

abbrev zeroK : Nat → UInt8 := fun _ => 0
def Box (w : World) (b : Nat) (ks : Nat → UInt8) (h : Option Nat) (a o r : Nat) : Prop :=
  match h with
  | none => XB w b ks 0 0 none zeroK a o r
  | some g => XB w b ks 1 0 (some ⟨g, 0, none⟩) (k2 ks) a o r ∧ g ≠ b ∧ ∃ m, Sp.Key w g ks m
def Ow (b : Nat) (h : Option Nat) (i : Nat) : Prop := i = b ∨ h = some i
theorem Box.lt {w : World} {b : Nat} {ks : Nat → UInt8} {h : Option Nat} {a o r : Nat} (hx : Box w b ks h a o r) : b < w.heap.size := by
  cases h with
  | none => exact XB.lt hx
  | some g => exact XB.lt hx.1
theorem Box.lt_g {w : World} {b g : Nat} {ks : Nat → UInt8} {a o r : Nat} (hx : Box w b ks (some g) a o r) : g < w.heap.size := by
  obtain ⟨_, _, m, hk⟩ := hx
  exact hk.lt
theorem Box.own_lt {w : World} {b : Nat} {ks : Nat → UInt8} {h : Option Nat} {a o r : Nat} (hx : Box w b ks h a o r) (i : Nat) (hi : Ow b h i) : i < w.heap.size := by
  rcases hi with hi | hi
  · subst hi; exact hx.lt
  · subst hi; exact hx.lt_g
theorem key_chg {S : Nat → Prop} {w w' : World} {g : Nat} {ks : Nat → UInt8} {m : Bool} (h : Sp.Key w g ks m) (hc : Chg S w w') (hs : ¬ S g) : Sp.Key w' g ks m := by
  cases m with
  | false => exact hc.blk h hs
  | true => exact hc.blk h hs
theorem Box.chg {S : Nat → Prop} {w w' : World} {b : Nat} {ks : Nat → UInt8} {h : Option Nat} {a o r : Nat} (hx : Box w b ks h a o r) (hc : Chg S w w') (hs : ∀ i, Ow b h i → ¬ S i) : Box w' b ks h a o r := by
  cases h with
  | none => exact XB.chg hx hc (hs b (.inl rfl))
  | some g =>
    obtain ⟨h1, h2, m, h3⟩ := hx
    exact ⟨h1.chg hc (hs b (.inl rfl)), h2, m, key_chg h3 hc (hs g (.inr rfl))⟩
theorem Box.below {w w' : World} {b : Nat} {ks : Nat → UInt8} {h : Option Nat} {a o r : Nat} (hx : Box w b ks h a o r) (hc : Below w.heap.size w w') : Box w' b ks h a o r :=
  hx.chg (S := fun _ => False) (Chg.of_below hc) (fun _ _ x => x)
def Step (w w' : World) (b : Nat) (h : Option Nat) (g : Nat) : Prop := Chg (Ow b h) w w' ∧ (h = some g ∨ (h = none ∧ w.heap.size ≤ g))
theorem Step.own {w w' : World} {b g : Nat} {h : Option Nat} (hs : Step w w' b h g) : ∀ i, i < w.heap.size → Ow b (some g) i → Ow b h i := by
  intro i hi hx
  rcases hx with hx | hx
  · exact .inl hx
  · injection hx with hx
    subst hx
    rcases hs.2 with h1 | ⟨_, h1⟩
    · exact .inr h1
    · omega
theorem Step.trans {a w c : World} {b g g' : Nat} {h : Option Nat} (h1 : Step a w b h g) (h2 : Step w c b (some g) g') : g' = g ∧ Step a c b h g := by
  have e : g' = g := by
    rcases h2.2 with h3 | ⟨h3, _⟩
    · injection h3 with h3; exact h3.symm
    · cases h3
  exact ⟨e, h1.1.trans h2.1 h1.own, h1.2⟩
theorem Step.then {a w c : World} {b g : Nat} {h : Option Nat} {S : Nat → Prop} (h1 : Step a w b h g) (h2 : Chg S w c) (hs : ∀ i, i < a.heap.size → S i → Ow b h i) : Step a c b h g := ⟨h1.1.trans h2 hs, h1.2⟩
end Go.Proofs.Ytcjibpjdfhhhkaa.Se
end

section
set_option linter.unusedVariables false
namespace Go.Proofs.Ytcjibpjdfhhhkaa.Se
open Go.RowKit Go.Proofs.Ytcjibpjdfhhhkaa.Mem

def key32 (ks : Nat → UInt8) : Array Value := ((List.range 32).map (fun i => bv (ks i))).toArray
theorem load_cells {P : Program} {ops : Array Oper} {rest : List Oper} {op : Oper} {a : Act} {w : World} {Q : Exit → Act → World → Prop} (hgd : op.guard = none) (ty : TypeId) (x : Operand) (ho : op.op = .load ty x)
    (g o : Nat) (hx : a.eval x = .pointer (some ⟨g, o, none⟩)) (cs : Array Value) (d : TypeDesc) (hc : w.rangeAt g o cs.toList)
    (hu : P.underlying ty = some d) (hd : d.isRow = true) (hi : (P.info? ty).map (·.size) = some cs.size)
    (h : wpList P ops Q rest (a.put op.dst (.agg cs)) w) : wpList P ops Q (op :: rest) a w :=
  wpList_load_mid hgd ty x ho g o hx cs.toList d hc hu hd (by rw [Array.length_toList]; exact hi) (by simpa using h)
theorem key32_size (ks : Nat → UInt8) : (key32 ks).size = 32 := by simp [key32]
theorem info32 (ks : Nat → UInt8) : (Try.prog.info? 30).map (·.size) = some (key32 ks).size := by rw [key32_size]; kernel_rfl
theorem one32 (ks : Nat → UInt8) : (key32 ks).all (·.oneCell') = true := by simp [key32, bv, Value.oneCell']
set_option maxRecDepth 100000 in
set_option maxHeartbeats 1600000 in
theorem new_any (ks : Nat → UInt8) (w : World) : Calls Try.prog 22 #[.agg (key32 ks)] w fun e w' => ∃ b, e = .returned (.pointer (some ⟨b, 0, none⟩)) ∧ w.heap.size ≤ b ∧ Box w' b ks none 0 0 0 ∧ Below w.heap.size w w' := by
  have hi := info32 ks
  obtain ⟨cs, ecs⟩ : ∃ cs, cs = key32 ks := ⟨_, rfl⟩
  rw [← ecs] at hi ⊢
  have hz : cs.size = 32 := by rw [ecs]; exact key32_size ks
  have HI := Lib.hid hi; clear hi
  have EC := Lib.hid ecs; clear ecs
  go_enter Try.func22, Try.ntmps22
  go_wp2_with (first
    | (refine load_cells (by rfl) 30 (.tmp 1) (by rfl) w.heap.size 0 (by rfl) cs _ (Si.range_blk (Blk.new w 30 cs)) Try.underlying30 (by rfl) HI.out ?_)
    | fail)
  go_ret
  refine ⟨w.heap.size + 1, rfl, Nat.le_succ _, ?_, ((Below.refl w.heap.size w).alloc (Nat.le_refl _) _).alloc (by simp) _⟩
  exact Sp.Blk.new_of (w.alloc _) _ 88 _ (xcells ks 0 0 none zeroK 0 0 0) (by rw [EC.out]; kernel_rfl) (by simp)

theorem XB.range1 {w : World} {b : Nat} {ks dg : Nat → UInt8} {d s : Int} {p : Option Addr} {a o r : Nat} (h : XB w b ks d s p dg a o r) : w.rangeAt b 0 (Sp.key16 ks).toList := fun j v hv => by
  rw [Sp.key16, List.toList_toArray, List.getElem?_map] at hv
  rcases Nat.lt_or_ge j 16 with g | g
  · rw [Nat.zero_add, h.ck j (by omega)]; simpa [g] using hv
  · rw [List.getElem?_eq_none (by simpa using g)] at hv; cases hv
theorem XB.range2 {w : World} {b : Nat} {ks dg : Nat → UInt8} {d s : Int} {p : Option Addr} {a o r : Nat} (h : XB w b ks d s p dg a o r) : w.rangeAt b 16 (Sp.key16 (k2 ks)).toList := fun j v hv => by
  rw [Sp.key16, List.toList_toArray, List.getElem?_map] at hv
  rcases Nat.lt_or_ge j 16 with g | g
  · rw [h.ck (16 + j) (by omega)]; simpa [g, k2] using hv
  · rw [List.getElem?_eq_none (by simpa using g)] at hv; cases hv
theorem XB.rangeD {w : World} {b : Nat} {ks dg : Nat → UInt8} {d s : Int} {p : Option Addr} {a o r : Nat} (h : XB w b ks d s p dg a o r) : w.rangeAt b 36 (Sp.key16 dg).toList := fun j v hv => by
  rw [Sp.key16, List.toList_toArray, List.getElem?_map] at hv
  rcases Nat.lt_or_ge j 16 with g | g
  · rw [h.cg j (by omega)]; simpa [g] using hv
  · rw [List.getElem?_eq_none (by simpa using g)] at hv; cases hv
theorem XB.thereD {w : World} {b : Nat} {ks dg : Nat → UInt8} {d s : Int} {p : Option Addr} {a o r : Nat} (h : XB w b ks d s p dg a o r) : w.there b 36 16 := fun j hj => ⟨by rw [h.cg j hj]; rfl, h.fz _⟩
theorem key16_size (f : Nat → UInt8) : (Sp.key16 f).size = 16 := by simp [Sp.key16]
theorem info16 (f : Nat → UInt8) : (Try.prog.info? 83).map (·.size) = some (Sp.key16 f).size := by rw [key16_size]; kernel_rfl
theorem one16 (f : Nat → UInt8) : (Sp.key16 f).all (·.oneCell') = true := by simp [Sp.key16, bv, Value.oneCell']
theorem g_setCells {a w : World} {b : Nat} : ∀ (vs : List Value) (o : Nat) (w : World), a.grownBy w (some b) → a.grownBy (w.setCells b o vs) (some b)
  | [], _, _, h => h
  | v :: r, o, w, h => g_setCells (w := w) r (o + 1) _ (g_set h (.inl rfl) v)
theorem Key.far {w : World} {g : Nat} {ks : Nat → UInt8} {m : Bool} (h : Sp.Key w g ks m) (p : Addr) (u : Value) (hp : p.block ≠ g) : Sp.Key (w.setCell p u) g ks m := by
  cases m with
  | false => exact Si.Blk.far h p u hp
  | true => exact Si.Blk.far h p u hp
theorem Key.fars {g b : Nat} {ks : Nat → UInt8} {m : Bool} (hb : b ≠ g) : ∀ (vs : List Value) (o : Nat) (w : World), Sp.Key w g ks m → Sp.Key (w.setCells b o vs) g ks m
  | [], _, _, h => h
  | v :: r, o, w, h => Key.fars hb r (o + 1) _ (Key.far h _ v hb)
set_option maxRecDepth 100000 in
set_option maxHeartbeats 3200000 in
theorem make_halves (b : Nat) (ks : Nat → UInt8) (a o r : Nat) (d s : Int) (w : World) (hK : XB w b ks d s none zeroK a o r) :
    Calls Try.prog 50 #[.pointer (some ⟨b, 0, none⟩)] w fun e w' => e = .returned (.tuple #[]) ∧ ∃ g, XB w' b ks d s (some ⟨g, 0, none⟩) (k2 ks) a o r ∧ w.heap.size ≤ g ∧ Sp.Key w' g ks false ∧ w.grownBy w' (some b) := by
  have hs1 : ∀ w : World, (Instr.arrayAt 83 (.slice (some ⟨b, 0, none⟩) 16 32)).run Try.prog w = .ok (.pointer (some ⟨b, 0, none⟩)) w := fun _ => by kernel_rfl
  have hs2 : ∀ w : World, (Instr.arrayAt 83 (.slice (some ⟨b, 16, none⟩) 16 16)).run Try.prog w = .ok (.pointer (some ⟨b, 16, none⟩)) w := fun _ => by kernel_rfl
  have cn := fun w => Sp.new_any ks w
  have r1 := hK.range1
  have hk0 : ∀ w1 : World, Below w.heap.size w w1 → XB w1 b ks d s none zeroK a o r := fun w1 h => Blk.below hK h
  have hlt := hK.lt
  have R2 : Hid (∀ (w1 : World) p, XB w1 b ks d s p zeroK a o r → w1.rangeAt b 16 (Sp.key16 (k2 ks)).toList) := fun w1 p h => XB.range2 h
  have i1 := info16 ks
  have i2 := info16 (k2 ks)
  have o2 := one16 (k2 ks)
  have z2 := key16_size (k2 ks)
  obtain ⟨cs, ecs⟩ : ∃ cs, cs = Sp.key16 ks := ⟨_, rfl⟩
  obtain ⟨ds, eds⟩ : ∃ ds, ds = Sp.key16 (k2 ks) := ⟨_, rfl⟩
  rw [← ecs] at r1 i1 cn
  rw [← eds] at R2 i2 o2 z2
  have R1 := Lib.hid r1; clear r1
  have K0 := Lib.hid hk0; clear hk0
  have LT := Lib.hid hlt; clear hlt
  have I1 := Lib.hid i1; clear i1
  have I2 := Lib.hid i2; clear i2
  have O2 := Lib.hid o2; clear o2
  have Z2 := Lib.hid z2; clear z2
  have ED := Lib.hid eds; clear eds
  clear ecs hK
  go_enter Try.func50, Try.ntmps50
  go_upto_region 2 with (first
    | (refine load_cells (by rfl) 83 (.tmp 9) (by rfl) b 0 (by rfl) cs _ R1.out Try.underlying83 (by rfl) I1.out ?_)
    | (go_at_call 63; refine Calls.mono (cn _) ?_; rintro e w1 ⟨g, rfl, hg, hk1, hb1⟩; have X1 := K0.out w1 hb1; have c35 := X1.cp; have fz := X1.fz; have X2 := Lib.hid (X1.set_p (some ⟨g, 0, none⟩)); have HG := Lib.hid hg; have HK1 := Lib.hid hk1; have HB1 := Lib.hid hb1; clear hg hk1 hb1 X1)
    | fail)
  clear c35 fz
  have hR := R2.out _ _ X2.out
  have hT := XB.thereD X2.out
  rw [← Z2.out] at hT
  have HR := Lib.hid hR; clear hR
  have HT := Lib.hid hT; clear hT
  go_wp2_with (first
    | (refine load_cells (by rfl) 83 (.tmp 20) (by rfl) b 16 (by rfl) ds _ HR.out Try.underlying83 (by rfl) I2.out ?_)
    | (refine wpList_store_mid (by rfl) 83 (.tmp 23) (.tmp 21) (by rfl) b 36 ds (by rfl) (by rfl) HT.out I2.out O2.out ?_)
    | fail)
  go_end0
  have hgb : b ≠ g := by have := HG.out; have := LT.out; omega
  refine ⟨rfl, g, ?_, HG.out, Key.fars hgb _ _ _ (Key.far HK1.out _ _ hgb), g_setCells (w := w) _ _ _ (g_set (g_of_below HB1.out _) (.inl rfl) _)⟩
  rw [ED.out]
  exact X2.out.set_dg (k2 ks)
end Go.Proofs.Ytcjibpjdfhhhkaa.Se
end

section
set_option linter.unusedVariables false
namespace Go.Proofs.Ytcjibpjdfhhhkaa.Se
open Go.RowKit Go.Proofs.Ytcjibpjdfhhhkaa.Mem

set_option maxRecDepth 100000 in
set_option maxHeartbeats 1600000 in
theorem slow (b : Nat) (ks : Nat → UInt8) (a o r : Nat) (w : World) (hK : XB w b ks 0 0 none zeroK a o r) :
    Calls Try.prog 62 #[.pointer (some ⟨b, 32, none⟩), .func (.func 50) #[.pointer (some ⟨b, 0, none⟩)] #[]] w fun e w' => e = .returned (.tuple #[]) ∧ ∃ g, XB w' b ks 1 0 (some ⟨g, 0, none⟩) (k2 ks) a o r ∧ w.heap.size ≤ g ∧ Sp.Key w' g ks false ∧ w.grownBy w' (some b) := by
  have hK1 : XB (w.setCell ⟨b, 33, none⟩ (.int .i32 1)) b ks 0 1 none zeroK a o r := hK.set_s 1
  have g1 : w.grownBy (w.setCell ⟨b, 33, none⟩ (.int .i32 1)) (some b) := g_set (World.grownBy.refl _ _) (.inl rfl) _
  have hsz : (w.setCell ⟨b, 33, none⟩ (.int .i32 1)).heap.size = w.heap.size := by simp [World.setCell]
  have cl := Sp.lock_free ⟨b, 33, none⟩ w hK.cs (hK.fz 33)
  have cd := Sp.load_flag ⟨b, 32, none⟩ 0 _ hK1.cd false rfl
  have cm := make_halves b ks a o r 0 1 _ hK1
  rw [hsz] at cm
  have hnot : ∀ (x : Bool) (w : World), (Op.unary .not (.bool x)).run Try.prog w = .ok (.bool (!x)) w := fun _ _ => rfl
  have hlt := hK.lt
  have H := Lib.hid hK; clear hK
  have H1 := Lib.hid hK1; clear hK1
  have G1 := Lib.hid g1; clear g1
  have LT := Lib.hid hlt; clear hlt
  clear hsz
  go_enter_defers Try.func62, Try.ntmps62
  go_wp2_with (first | (go_at_call 74; refine Calls.mono cl ?_; rintro e w' ⟨rfl, rfl⟩) | (go_at_call 61; refine Calls.mono cd ?_; rintro e w' ⟨rfl, rfl⟩) | (go_at_call 50; refine Calls.mono cm ?_; rintro e w2 ⟨rfl, g, hK2, hgs, hkey, hg2⟩))
  refine leaves_cons (f := 76) (args := #[.pointer (some ⟨b, 32, none⟩), .bool true]) (by simp) (by simp [go_sem]) ?_
  refine (Sp.store_deferred ⟨b, 32, none⟩ _ .returning w2 hK2.cd (hK2.fz 32)).mono ?_
  rintro e u' w'' ⟨rfl, rfl, rfl⟩
  have hgb : b ≠ g := by have := LT.out; omega
  have hK3 := XB.set_d hK2.drew 1
  refine leaves_cons (f := 75) (args := #[.pointer (some ⟨b, 33, none⟩)]) (by simp [settle]) (by simp [go_sem]) ?_
  refine (Sp.unlock_deferred ⟨b, 33, none⟩ _ _ hK3.cs (hK3.fz 33)).mono ?_
  rintro e u' w'' ⟨rfl, rfl, rfl⟩
  have hK4 := XB.set_s hK3 0
  have hkey4 := Key.far (Key.far (w := w2.drew) (m := false) hkey ⟨b, 32, none⟩ (.int .u32 1) hgb) ⟨b, 33, none⟩ (.int .i32 0) hgb
  have hg4 := g_set (row := some b) (g_set (row := some b) (g_drew (World.grownBy.refl w2 (some b))) (p := ⟨b, 32, none⟩) (.inl rfl) (.int .u32 1)) (p := ⟨b, 33, none⟩) (.inl rfl) (.int .i32 0)
  have hg5 := Sp.grown_trans (Sp.grown_trans G1.out hg2) hg4
  simp [Leaves, settle, results, Try.results62]
  exact ⟨g, hK4, hgs, hkey4, hg5⟩

theorem do_first (b : Nat) (ks : Nat → UInt8) (a o r : Nat) (w : World) (hK : XB w b ks 0 0 none zeroK a o r) :
    Calls Try.prog 49 #[.pointer (some ⟨b, 32, none⟩), .func (.func 50) #[.pointer (some ⟨b, 0, none⟩)] #[]] w fun e w' => e = .returned (.tuple #[]) ∧ ∃ g, XB w' b ks 1 0 (some ⟨g, 0, none⟩) (k2 ks) a o r ∧ w.heap.size ≤ g ∧ Sp.Key w' g ks false ∧ w.grownBy w' (some b) := by
  have cd := Sp.load_flag ⟨b, 32, none⟩ 0 w hK.cd false rfl
  have cs := slow b ks a o r w hK
  have hnot : ∀ (x : Bool) (w : World), (Op.unary .not (.bool x)).run Try.prog w = .ok (.bool (!x)) w := fun _ _ => rfl
  clear hK
  go_enter Try.func49, Try.ntmps49
  go_wp2_with (first | (go_at_call 61; refine Calls.mono cd ?_; rintro e w' ⟨rfl, rfl⟩) | (go_at_call 62; refine Calls.mono cs ?_; rintro e w2 ⟨rfl, h2⟩; have H2 := Lib.hid h2; clear h2))
  go_end0
  exact ⟨rfl, H2.out⟩

theorem do_done (b : Nat) (fv : Value) (w : World) (hd : w.cell? ⟨b, 32, none⟩ = some (.int .u32 1)) :
    Calls Try.prog 49 #[.pointer (some ⟨b, 32, none⟩), fv] w fun e w' => e = .returned (.tuple #[]) ∧ w' = w := by
  have cd := Sp.load_flag ⟨b, 32, none⟩ 1 w hd true rfl
  have hnot : ∀ (x : Bool) (w : World), (Op.unary .not (.bool x)).run Try.prog w = .ok (.bool (!x)) w := fun _ _ => rfl
  clear hd
  go_enter Try.func49, Try.ntmps49
  go_wp2_with (first | (go_at_call 61; refine Calls.mono cd ?_; rintro e w' ⟨rfl, rfl⟩))
  go_end0
  exact ⟨rfl, rfl⟩

theorem need_any (b : Nat) (ks : Nat → UInt8) (h : Option Nat) (a o r : Nat) (w : World) (hK : Box w b ks h a o r) :
    Calls Try.prog 39 #[.pointer (some ⟨b, 0, none⟩)] w fun e w' => e = .returned (.tuple #[]) ∧ ∃ g, Box w' b ks (some g) a o r ∧ Step w w' b h g := by
  have hmf : ∀ (fn : Fn) (first cap : Array Value) (w : World), (Instr.makeFunc fn first cap).run Try.prog w = .ok (.func fn first cap) w := fun _ _ _ _ => rfl
  cases h with
  | none =>
    have cf := do_first b ks a o r w hK
    have hlt := XB.lt hK
    have LT := Lib.hid hlt; clear hlt
    clear hK
    go_enter Try.func39, Try.ntmps39
    go_wp2_with (first | (go_at_call 49; refine Calls.mono cf ?_; rintro e w' ⟨rfl, h2⟩; have H2 := Lib.hid h2; clear h2))
    go_end0
    obtain ⟨g, h1, h2, h3, h4⟩ := H2.out
    exact ⟨rfl, g, ⟨h1, by have := LT.out; omega, false, h3⟩, Chg.of_grown h4 (.inl rfl), .inr ⟨rfl, h2⟩⟩
  | some g =>
    have cf := fun fv => do_done b fv w (XB.cd hK.1)
    have H := Lib.hid hK; clear hK
    go_enter Try.func39, Try.ntmps39
    go_wp2_with (first | (go_at_call 49; refine Calls.mono (cf _) ?_; rintro e w' ⟨rfl, rfl⟩))
    go_end0
    exact ⟨rfl, g, H.out, Chg.refl _ _, .inl rfl⟩

end Go.Proofs.Ytcjibpjdfhhhkaa.Se
end

section
set_option linter.unusedVariables false
namespace Go.Proofs.Ytcjibpjdfhhhkaa.Se
open Go.RowKit Go.Proofs.Ytcjibpjdfhhhkaa.Mem

theorem fit_nonce (n : Nat) (x : Bool) (hx : x = decide (n ≤ 1099511627776)) (w : World) : Calls Try.prog 24 #[.int .u64 (n : Int)] w fun e w' => e = .returned (.bool x) ∧ w' = w := by
  subst hx
  have e : decide ((n : Int) ≤ 1099511627776) = decide (n ≤ 1099511627776) := by congr 1; exact propext ⟨by omega, by omega⟩
  have E := Lib.hid e; clear e
  go_enter Try.func24, Try.ntmps24
  go_wp2
  go_ret
  exact ⟨by rw [← E.out]; rfl, rfl⟩

theorem or_byte (x y : Nat) (hy : y < 256) (hx : x < 72057594037927936) : bits .or .u64 ((x : Int) * 256) (y : Int) = ((x * 256 + y : Nat) : Int) := by
  have e : (x : Int) * 256 = ((x * 256 : Nat) : Int) := by omega
  have h : x * 256 ||| y = x * 256 + y := by
    have h := Nat.shiftLeft_add_eq_or_of_lt (show y < 2 ^ 8 by omega) x
    rw [Nat.shiftLeft_eq] at h
    simpa using h.symm
  rw [e, u64_or_nat _ _ (by omega) (by omega), h]
set_option maxRecDepth 100000 in
set_option maxHeartbeats 1600000 in
theorem word_any (B : Nat) (A : Option Addr) (n c : Nat) (l : List UInt8) (w : World) (hn : n = l.length) (h8 : 8 ≤ n) (hc : n ≤ c) (hr : Rd w B A (bvs l)) :
    Calls Try.prog 30 #[.slice A n c] w fun e w' => e = .returned (.int .u64 (n8 l : Int)) ∧ w' = w := by
  obtain ⟨b, o, rfl, hb, hcell⟩ : ∃ b o, A = some ⟨b, o, none⟩ ∧ b < B ∧ ∀ i (h : i < l.length), w.cell? ⟨b, o + i, none⟩ = some (bv l[i]) := by
    rcases hr with h | ⟨b, o, h1, h2, h3⟩
    · have := bvs_length l; rw [h] at this; simp at this; omega
    · exact ⟨b, o, h1, h2, fun i hi => h3 i _ (bvs_at hi)⟩
  have hc8 : (8 : Int) ≤ (c : Int) := by omega
  have hc8' : 8 ≤ c := by omega
  have HC := Lib.hid hcell; clear hcell
  have HN := Lib.hid hn; clear hn
  have H8 := Lib.hid h8; clear h8
  clear hr hc hb
  go_enter Try.func30, Try.ntmps30
  go_wp2_with fail
  go_loop [3, 9] (fun wv_ iv => ∃ i : Nat, i ≤ 8 ∧ iv = .int .i64 (i : Int) ∧ wv_ = .int .u64 (big 0 (l.take i) : Nat)) (fun _ iv => 8 - (intOf iv).toNat)
  case atStart => exact ⟨0, by decide, rfl, rfl⟩
  case round =>
    obtain ⟨i, hi, rfl, rfl⟩ := hrel
    by_cases hx : i = 8
    · subst hx
      go_wp2_with fail
      go_ret
      exact ⟨rfl, rfl⟩
    · have e1 : (i : Int) < 8 := by omega
      have e2 : (0 : Int) ≤ (i : Int) := by omega
      have e3 : i < 8 := by omega
      have hl : i < l.length := by have := HN.out; have := H8.out; omega
      obtain ⟨y, ey⟩ : ∃ y, y = l[i] := ⟨_, rfl⟩
      have hcc := HC.out i hl
      rw [← ey] at hcc
      simp only [bv] at hcc
      have hy := y.toNat_lt
      obtain ⟨v, ev⟩ : ∃ v, v = big 0 (l.take i) := ⟨_, rfl⟩
      obtain ⟨u, eu⟩ : ∃ u, u = v * 256 + y.toNat := ⟨_, rfl⟩
      rw [← ev]
      have hv : v < 72057594037927936 := by
        have := big_take_lt l i
        rw [← ev] at this
        exact Nat.lt_of_lt_of_le this (Nat.pow_le_pow_right (by decide) (by omega) : 256 ^ i ≤ 256 ^ 7)
      have hw1 : (v : Int) * 256 % 18446744073709551616 = (v : Int) * 256 := by omega
      have hw2 : (y.toNat : Int) % 18446744073709551616 = (y.toNat : Int) := by omega
      have hw3 : IntKind.u64.wrap (y.toNat : Int) = (y.toNat : Int) := by rw [IntKind.wrap_u64]; exact hw2
      have hw4 : IntKind.u64.wrap ((v : Int) * 256) = (v : Int) * 256 := by rw [IntKind.wrap_u64]; exact hw1
      have hor : bits .or .u64 ((v : Int) * 256) (y.toNat : Int) = (u : Int) := by rw [eu]; exact or_byte v y.toNat hy hv
      have hnx : u = big 0 (l.take (i + 1)) := by rw [big_take l i hl, ← ey, ← ev, eu]
      have NX := Lib.hid hnx; clear hnx
      have HI := Lib.hid hi; clear hi
      have HX := Lib.hid hx; clear hx
      have HV := Lib.hid hv; clear hv
      clear eu ev ey
      go_wp2_with fail
      go_round
      case rel => exact ⟨i + 1, by omega, by go_num, by rw [← NX.out]⟩
      case measure => simp [intOf]; omega

end Go.Proofs.Ytcjibpjdfhhhkaa.Se
end

section
set_option linter.unusedVariables false
namespace Go.Proofs.Ytcjibpjdfhhhkaa.Se
open Go.RowKit Go.Proofs.Ytcjibpjdfhhhkaa.Mem

def Aw (b : Nat) (h : Option Nat) (n i : Nat) : Prop := Ow b h i ∨ n ≤ i
section
variable {w w' a c : World} {b g n : Nat} {h : Option Nat} {A : Option Addr} {xs : List Value} {S : Nat → Prop}
theorem RdA.aw (hr : RdA (Ow b h) w A xs) (hn : w.heap.size ≤ n) : RdA (Aw b h n) w A xs := hr.mono fun i hi hx => by
  rcases hx with hx | hx
  · exact hx
  · omega
theorem Step.aw (hs : Step w w' b h g) : Chg (Aw b h n) w w' := hs.1.mono fun i _ hx => .inl hx
theorem Chg.then (h : Chg S a w) (k : Chg S w c) : Chg S a c := h.trans k fun _ _ x => x
theorem RdA.go (h : RdA S w A xs) (hc : Chg S w w') : RdA S w' A xs := h.keep hc (fun _ _ x => x) (fun _ _ x => x)
end

end Go.Proofs.Ytcjibpjdfhhhkaa.Se
end

section
set_option linter.unusedVariables false
namespace Go.Proofs.Ytcjibpjdfhhhkaa.Se
open Go.RowKit Go.Proofs.Ytcjibpjdfhhhkaa.Mem

theorem bv_num (u : Nat) (hu : u ≤ 255) : bv (UInt8.ofNat u) = .int .u8 (u : Int) := by
  unfold bv; rw [UInt8.toNat_ofNat', Nat.mod_eq_of_lt (by omega)]
theorem rows_two {w : World} (u : Nat) (hu : u ≤ 255) (A : Option Addr) (m c : Nat) (l : List UInt8) (t t2 : TypeId) (hm : m = l.length) (hr : Rd w w.heap.size A (bvs l)) :
    Si.Rows ((w.alloc (.cells #[.int .u8 (u : Int)] t)).alloc (.cells #[.slice (some ⟨w.heap.size, 0, none⟩) 1 1, .slice A m c] t2)) ((w.alloc (.cells #[.int .u8 (u : Int)] t)).alloc (.cells #[.slice (some ⟨w.heap.size, 0, none⟩) 1 1, .slice A m c] t2)).heap.size (some ⟨w.heap.size + 1, 0, none⟩) [[UInt8.ofNat u], l] := by
  have h := Si.rows_alloc (w := w.alloc (.cells #[.int .u8 (u : Int)] t)) t2 [.slice (some ⟨w.heap.size, 0, none⟩) 1 1, .slice A m c] [[UInt8.ofNat u], l] #[.slice (some ⟨w.heap.size, 0, none⟩) 1 1, .slice A m c] rfl rfl (fun i hi => by
    match i, hi with
    | 0, _ =>
      refine ⟨some ⟨w.heap.size, 0, none⟩, 1, rfl, ?_⟩
      have := Si.rd_words w t #[.int .u8 (u : Int)] [.int .u8 (u : Int)] rfl w.heap.size rfl
      rw [show bvs [[UInt8.ofNat u], l][0] = [.int .u8 (u : Int)] from by show [bv (UInt8.ofNat u)] = _; rw [bv_num u hu]]
      exact this.more (by simp)
    | 1, _ => exact ⟨A, c, by rw [hm]; rfl, (hr.alloc (Nat.le_refl _) _).more (by simp)⟩)
  have e : (w.alloc (.cells #[.int .u8 (u : Int)] t)).heap.size = w.heap.size + 1 := by simp
  rw [e] at h
  exact h
set_option maxRecDepth 100000 in
set_option maxHeartbeats 1600000 in
theorem tag_any (b : Nat) (ks : Nat → UInt8) (h : Option Nat) (a o r u : Nat) (A : Option Addr) (m c : Nat) (l : List UInt8) (w : World) (hu : u ≤ 255) (hm : m = l.length) (hm2 : m ≤ 1000) (hr : RdA (Ow b h) w A (bvs l)) (hK : Box w b ks h a o r) :
    Calls Try.prog 27 #[.pointer (some ⟨b, 0, none⟩), .int .i64 (u : Int), .slice A m c] w fun e w' => ∃ g, e = .returned (.int .u64 (tagL ks u l : Nat)) ∧ Box w' b ks (some g) a o r ∧ Step w w' b h g := by
  have cn := need_any b ks h a o r w hK
  have hsum : ∀ w1, Rd w1 w1.heap.size A (bvs l) → _ := fun w1 h1 => Si.sum_any (k2 ks) (some ⟨w1.heap.size + 1, 0, none⟩) 2 2 [[UInt8.ofNat u], l] _ rfl (by decide) (by simp [Si.flat]; omega) (rows_two u hu A m c l 5 34 hm h1)
  have hfl : Si.flat [[UInt8.ofNat u], l] = UInt8.ofNat u :: l := by simp [Si.flat]
  rw [hfl] at hsum
  have i2 := info16 (k2 ks)
  have hk16 : Si.key16 (k2 ks) = Sp.key16 (k2 ks) := rfl
  rw [hk16] at hsum
  obtain ⟨T, eT⟩ : ∃ T, T = tagL ks u l := ⟨_, rfl⟩
  have hT : ∀ e, e = Ending.returned (Si.wv (Si.sumOf (k2 ks) (UInt8.ofNat u :: l))) → e = .returned (.int .u64 (T : Int)) := fun e h => by rw [h, eT]; rfl
  rw [← eT]
  have HR := Lib.hid (hr.aw (Nat.le_refl _)); clear hr
  have hu1 : (u : Int) ≤ 255 := by omega
  have hu2 : (0 : Int) ≤ (u : Int) := by omega
  have hu3 : (u : Int) % 256 = (u : Int) := by omega
  have hu4 : IntKind.u8.wrap (u : Int) = (u : Int) := by rw [IntKind.wrap_u8']; exact hu3
  obtain ⟨ds, eds⟩ : ∃ ds, ds = Sp.key16 (k2 ks) := ⟨_, rfl⟩
  have hrd : ∀ w1 g, Box w1 b ks (some g) a o r → w1.rangeAt b 36 ds.toList := fun w1 g hb => by rw [eds]; exact XB.rangeD hb.1
  rw [← eds] at i2 hsum
  have RD := Lib.hid hrd; clear hrd
  have I2 := Lib.hid i2; clear i2
  have HT := Lib.hid hT; clear hT
  clear hK hm hm2 hu eds eT hfl hk16
  go_enter Try.func27, Try.ntmps27
  go_wp2_with (first
    | (go_at_call 39; refine Calls.mono cn ?_; rintro e w1 ⟨rfl, g, hb1, hs1⟩; clear cn; have hs := hsum w1 (HR.out.go hs1.aw).rd; clear hsum; have hrr := RD.out w1 g hb1; have HRR := Lib.hid hrr; have HB1 := Lib.hid hb1; have HS1 := Lib.hid hs1; clear hb1 hs1 hrr)
    | (refine load_cells (by rfl) 83 (.tmp 11) (by rfl) b 36 (by rfl) ds _ HRR.out Try.underlying83 (by rfl) I2.out ?_)
    | (go_at_call 41; refine Calls.mono hs ?_; rintro e w2 ⟨he, hb2⟩; have he := HT.out e he; subst he; have HB2 := Lib.hid hb2; clear hb2 hs)
    | fail)
  go_ret
  have hb := ((Below.refl w1.heap.size w1).alloc (Nat.le_refl _) (Obj.cells #[.int .u8 (u : Int)] 5)).alloc (by simp) (Obj.cells #[.slice (some ⟨w1.heap.size, 0, none⟩) 1 1, .slice A m c] 34)
  have hb3 := hb.trans (HB2.out.mono (by simp; omega))
  exact ⟨g, rfl, HB1.out.below hb3, HS1.out.then (Chg.of_below (S := fun _ => False) hb3) (fun _ _ x => x.elim)⟩
end Go.Proofs.Ytcjibpjdfhhhkaa.Se
end

section
namespace Go.Proofs.Ytcjibpjdfhhhkaa.Open
open Go.ChangeShapes Go.WideShapes Go.ChangeAt Go.RowKit Go.Deep Go.Proofs.Ytcjibpjdfhhhkaa.Mem

theorem addr_none {w : World} {x : Addr} {v : Value} (h : w.cell? x = some v) : ∃ b o, x = ⟨b, o, none⟩ := by
  obtain ⟨b, o, s⟩ := x
  have := World.cell?_spot h
  exact ⟨b, o, by rw [show s = none from this]⟩

theorem rd_of_cells {w : World} {x : Addr} {xs : List Value} (h : ∀ i u, xs[i]? = some u → w.cell? (x.add i) = some u) : Rd w w.heap.size (some x) xs := by
  cases xs with
  | nil => exact .inl rfl
  | cons a r =>
    have h0 := h 0 a rfl
    rw [show x.add 0 = x by simp [Addr.add]] at h0
    obtain ⟨b, o, rfl⟩ := addr_none h0
    exact .inr ⟨b, o, rfl, World.block_lt_of_cell? w _ h0, fun i u hu => by have := h i u hu; rwa [addr_add] at this⟩

section
variable {H : Type} {enc : TypeId × Value → H} {P : Program} {W : World}

end

end Go.Proofs.Ytcjibpjdfhhhkaa.Open
end

section
set_option linter.unusedVariables false
namespace Go.Proofs.Ytcjibpjdfhhhkaa.Se
open Go.RowKit Go.Proofs.Ytcjibpjdfhhhkaa.Mem

def StepO (w w' : World) (b : Nat) (h h' : Option Nat) : Prop := Chg (Ow b h) w w' ∧ (h' = h ∨ (h = none ∧ ∃ g, h' = some g ∧ w.heap.size ≤ g))
theorem StepO.refl (w : World) (b : Nat) (h : Option Nat) : StepO w w b h h := ⟨Chg.refl _ _, .inl rfl⟩
theorem Step.o {w w' : World} {b g : Nat} {h : Option Nat} (hs : Step w w' b h g) : StepO w w' b h (some g) :=
  ⟨hs.1, hs.2.imp (fun e => e.symm) (fun e => ⟨e.1, g, rfl, e.2⟩)⟩
theorem StepO.own {w w' : World} {b : Nat} {h h' : Option Nat} (hs : StepO w w' b h h') : ∀ i, i < w.heap.size → Ow b h' i → Ow b h i := by
  intro i hi hx
  rcases hs.2 with rfl | ⟨_, g, rfl, hg⟩
  · exact hx
  · rcases hx with hx | hx
    · exact .inl hx
    · injection hx with hx; omega
theorem StepO.trans {a w c : World} {b : Nat} {h h1 h2 : Option Nat} (s1 : StepO a w b h h1) (s2 : StepO w c b h1 h2) : StepO a c b h h2 := by
  refine ⟨s1.1.trans s2.1 s1.own, ?_⟩
  rcases s1.2 with rfl | ⟨e, g, rfl, hg⟩
  · rcases s2.2 with rfl | ⟨e, g, rfl, hg⟩
    · exact .inl rfl
    · exact .inr ⟨e, g, rfl, Nat.le_trans s1.1.size hg⟩
  · rcases s2.2 with rfl | ⟨e2, _⟩
    · exact .inr ⟨e, g, rfl, hg⟩
    · cases e2
theorem StepO.drewN {w w' : World} {b : Nat} {h h' : Option Nat} (hs : StepO w w' b h h') (k : Nat) : StepO w (w'.drewN k) b h h' := ⟨⟨hs.1.os, hs.1.tape, hs.1.output, hs.1.size, hs.1.block⟩, hs.2⟩
theorem chg_drewN (S : Nat → Prop) (w : World) (k : Nat) : Chg S w (w.drewN k) := ⟨rfl, rfl, rfl, Nat.le_refl _, fun _ _ _ => rfl⟩

theorem rd_nil_16 {l : List UInt8} {n : Nat} {P : Prop} (hn : n = l.length) (h : 8 ≤ n) (hx : bvs l = []) : P := by
  have := bvs_length l; rw [hx] at this; simp at this; omega
theorem RdA.take {S : Nat → Prop} {w : World} {A : Option Addr} {l : List UInt8} (h : RdA S w A (bvs l)) (k : Nat) : RdA S w A (bvs (l.take k)) := by
  rcases h with h | ⟨b, o, h1, h2, h3, h4⟩
  · left
    have : l = [] := List.map_eq_nil_iff.1 h
    rw [this, List.take_nil]; rfl
  · refine .inr ⟨b, o, h1, h2, h3, fun i u hu => h4 i u ?_⟩
    unfold bvs at hu ⊢
    rw [List.map_take, List.getElem?_take] at hu
    split at hu
    · exact hu
    · cases hu
theorem RdA.drop {S : Nat → Prop} {w : World} {b o : Nat} {l : List UInt8} (h : RdA S w (some ⟨b, o, none⟩) (bvs l)) (k : Nat) : RdA S w (some ⟨b, o + k, none⟩) (bvs (l.drop k)) := by
  rcases h with h | ⟨b', o', h1, h2, h3, h4⟩
  · left
    have : l = [] := List.map_eq_nil_iff.1 h
    rw [this, List.drop_nil]; rfl
  · injection h1 with h1
    injection h1 with e1 e2
    subst e1 e2
    refine .inr ⟨b, o + k, rfl, h2, h3, fun i u hu => ?_⟩
    unfold bvs at hu
    rw [List.map_drop, List.getElem?_drop] at hu
    have := h4 (k + i) u hu
    rwa [← Nat.add_assoc] at this
theorem isL_short {ks : Nat → UInt8} {u : Nat} {l : List UInt8} (h : l.length < 16 ∨ 800 < l.length ∨ 1099511627776 < n8 l) : isL ks u l = false := by
  unfold isL
  rcases h with h | h | h
  · rw [show decide (16 ≤ l.length) = false by simp; omega]; simp
  · rw [show decide (l.length ≤ 800) = false by simp; omega]; simp
  · rw [show decide (n8 l ≤ 1099511627776) = false by simp; omega]; simp
theorem isL_long {ks : Nat → UInt8} {u : Nat} {l : List UInt8} (h1 : 16 ≤ l.length) (h2 : l.length ≤ 800) (h3 : n8 l ≤ 1099511627776) : isL ks u l = decide (tagL ks u (headL l) = n8 (lastL l)) := by
  unfold isL
  rw [show decide (16 ≤ l.length) = true by simpa using h1, show decide (l.length ≤ 800) = true by simpa using h2, show decide (n8 l ≤ 1099511627776) = true by simpa using h3]; simp

set_option maxRecDepth 100000 in
set_option maxHeartbeats 1600000 in
theorem is_short (b u : Nat) (ks : Nat → UInt8) (A : Option Addr) (n c : Nat) (l : List UInt8) (w : World) (hn : n = l.length) (hc : n ≤ c) (hm : c ≤ maxLen) (hr : Rd w w.heap.size A (bvs l)) (hx : l.length < 16 ∨ 800 < l.length ∨ 1099511627776 < n8 l) :
    Calls Try.prog 29 #[.pointer (some ⟨b, 0, none⟩), .int .i64 (u : Int), .slice A n c] w fun e w' => e = .returned (.bool false) ∧ w' = w := by
  by_cases h1 : n < 16
  · have t1 : decide ((n : Int) < 16) = true := by simp; omega
    clear hx hr hn hc hm h1
    go_enter Try.func29, Try.ntmps29
    go_wp2
    go_ret
    exact ⟨rfl, rfl⟩
  · have t1 : decide ((n : Int) < 16) = false := by simp; omega
    by_cases h2 : 800 < n
    · have t2 : decide (800 < (n : Int)) = true := by simp; omega
      clear hx hr hn hc hm h1 h2
      go_enter Try.func29, Try.ntmps29
      go_wp2
      go_ret
      exact ⟨rfl, rfl⟩
    · have t2 : decide (800 < (n : Int)) = false := by simp; omega
      have h3 : 1099511627776 < n8 l := by omega
      have cw := word_any w.heap.size A n c l w hn (by omega) hc hr
      have f2 := fit_nonce (n8 l) false (by simp; omega)
      obtain ⟨N, eN⟩ : ∃ N, N = n8 l := ⟨_, rfl⟩
      rw [← eN] at cw f2
      clear hx hr hn hc hm h1 h2 h3 eN
      go_enter Try.func29, Try.ntmps29
      go_wp2_with (first
        | (go_at_call 30; refine Calls.mono cw ?_; rintro e wq ⟨rfl, hw⟩; have hw := hw.symm; subst hw; clear cw)
        | (go_at_call 24; refine Calls.mono (f2 _) ?_; rintro e wq ⟨rfl, hw⟩; have hw := hw.symm; subst hw; clear f2))
      go_ret
      exact ⟨rfl, rfl⟩
set_option maxRecDepth 100000 in
set_option maxHeartbeats 1600000 in
theorem is_long (b : Nat) (ks : Nat → UInt8) (h : Option Nat) (a o r u : Nat) (A : Option Addr) (n c : Nat) (l : List UInt8) (w : World) (hu : u ≤ 255) (hn : n = l.length) (hc : n ≤ c) (hm : c ≤ maxLen) (hr : RdA (Ow b h) w A (bvs l)) (hK : Box w b ks h a o r) (h1 : 16 ≤ l.length) (h2 : l.length ≤ 800) (h3 : n8 l ≤ 1099511627776) :
    Calls Try.prog 29 #[.pointer (some ⟨b, 0, none⟩), .int .i64 (u : Int), .slice A n c] w fun e w' => e = .returned (.bool (decide (tagL ks u (headL l) = n8 (lastL l)))) ∧ ∃ g, Box w' b ks (some g) a o r ∧ Step w w' b h g := by
  have cw := word_any w.heap.size A n c l w hn (by omega) hc hr.rd
  have f2 := fit_nonce (n8 l) true (by simp; omega)
  obtain ⟨b2, o2, rfl⟩ : ∃ b2 o2, A = some ⟨b2, o2, none⟩ := by
    rcases hr with hx | ⟨b2, o2, h4, _⟩
    · exact rd_nil_16 hn (by omega) hx
    · exact ⟨b2, o2, h4⟩
  obtain ⟨k, hk⟩ : ∃ k, n = k + 8 := ⟨n - 8, by omega⟩
  have hk8 : n - 8 = k := by omega
  have hhd : headL l = l.take k := by unfold headL; rw [← hn, hk8]
  have hla : lastL l = l.drop k := by unfold lastL; rw [← hn, hk8]
  have ct := fun (q : Nat) => tag_any b ks h a o r u (some ⟨b2, o2, none⟩) k c (headL l) (w.drewN q) hu (by rw [hhd, List.length_take]; omega) (by omega) ((hhd ▸ hr.take k).keep (chg_drewN (fun _ => False) w q) (fun _ _ x => x.elim) (fun _ _ x => x)) (hK.chg (chg_drewN (fun _ => False) w q) (fun _ _ x => x))
  have cl := fun (w2 : World) (hw : RdA (Aw b h w.heap.size) w2 (some ⟨b2, o2 + k, none⟩) (bvs (lastL l))) (c2 : Nat) (hc2 : 8 ≤ c2) => word_any w2.heap.size (some ⟨b2, o2 + k, none⟩) 8 c2 (lastL l) w2 (by rw [hla, List.length_drop]; omega) (Nat.le_refl _) hc2 hw.rd
  have hrl : RdA (Aw b h w.heap.size) w (some ⟨b2, o2 + k, none⟩) (bvs (lastL l)) := hla ▸ (hr.drop k).aw (Nat.le_refl _)
  obtain ⟨N, eN⟩ : ∃ N, N = n8 l := ⟨_, rfl⟩
  obtain ⟨M, eM⟩ : ∃ M, M = n8 (lastL l) := ⟨_, rfl⟩
  obtain ⟨T, eT⟩ : ∃ T, T = tagL ks u (headL l) := ⟨_, rfl⟩
  rw [← eN] at cw f2
  rw [← eM] at cl ⊢
  rw [← eT] at ct ⊢
  have HRL := Lib.hid hrl; clear hrl
  have t1 : decide ((n : Int) < 16) = false := by simp; omega
  have t2 : decide (800 < (n : Int)) = false := by simp; omega
  have s1 : (k : Int) ≤ 792 := by omega
  have s2 : (0 : Int) ≤ (k : Int) := by omega
  have s3 : (k : Int) ≤ (c : Int) := by omega
  have s4 : (k : Int) ≤ (n : Int) := by omega
  have s5 : (n : Int) ≤ (c : Int) := by omega
  have s6 : (n : Int) - 8 = (k : Int) := by omega
  have s7 : IntKind.i64.wrap (k : Int) = (k : Int) := by rw [IntKind.wrap_i64]; omega
  have s9 : n - k = 8 := by omega
  have s10 : k ≤ c := by omega
  have s11 : k ≤ n := by omega
  have HKN := Lib.hid hk; clear hk
  have HC := Lib.hid hc; clear hc
  have CL := Lib.hid cl; clear cl
  clear hK hr hn hm h1 h2 h3 eN eM eT hhd hla hu hk8
  go_enter Try.func29, Try.ntmps29
  go_wp2_with (first
    | (go_at_call 30; refine Calls.mono cw ?_; rintro e wq ⟨rfl, hw⟩; have hw := hw.symm; subst hw; clear cw)
    | (go_at_call 24; refine Calls.mono (f2 _) ?_; rintro e wq ⟨rfl, hw⟩; have hw := hw.symm; subst hw; clear f2))
  go_quiet (fail)
  have ct2 := ct nq
  clear ct
  go_wp2_with (first
    | (go_at_call 27; refine Calls.mono ct2 ?_; rintro e w3 ⟨g, rfl, hb3, hs3⟩; clear ct2; have hr3 := HRL.out.go ((chg_drewN (Aw b h w.heap.size) w nq).then hs3.aw); have cl2 := CL.out w3 hr3 (c - k) (by have := HKN.out; have := HC.out; omega); have B3 := Lib.hid hb3; have S3 := Lib.hid hs3; clear hb3 hs3 hr3 CL)
    | (go_at_call 30; refine Calls.mono cl2 ?_; rintro e wq ⟨rfl, hw⟩; have hw := hw.symm; subst hw; clear cl2))
  go_ret
  refine ⟨?_, g, B3.out, ⟨⟨S3.out.1.os, S3.out.1.tape, S3.out.1.output, S3.out.1.size, S3.out.1.block⟩, S3.out.2⟩⟩
  show Ending.returned (.bool (decide ((T : Int) = (M : Int)))) = _
  congr 3
  exact propext ⟨by omega, by omega⟩
end Go.Proofs.Ytcjibpjdfhhhkaa.Se
end

section
set_option linter.unusedVariables false
namespace Go.Proofs.Ytcjibpjdfhhhkaa.Se
open Go.RowKit Go.Proofs.Ytcjibpjdfhhhkaa.Mem

theorem is_any (b : Nat) (ks : Nat → UInt8) (h : Option Nat) (a o r u : Nat) (A : Option Addr) (n c : Nat) (l : List UInt8) (w : World) (hu : u ≤ 255) (hn : n = l.length) (hc : n ≤ c) (hm : c ≤ maxLen) (hr : RdA (Ow b h) w A (bvs l)) (hK : Box w b ks h a o r) :
    Calls Try.prog 29 #[.pointer (some ⟨b, 0, none⟩), .int .i64 (u : Int), .slice A n c] w fun e w' => e = .returned (.bool (isL ks u l)) ∧ ∃ h', Box w' b ks h' a o r ∧ StepO w w' b h h' := by
  by_cases hx : l.length < 16 ∨ 800 < l.length ∨ 1099511627776 < n8 l
  · refine (is_short b u ks A n c l w hn hc hm hr.rd hx).mono ?_
    rintro e w' ⟨rfl, hw⟩
    subst hw
    exact ⟨by rw [isL_short hx], h, hK, StepO.refl _ _ _⟩
  · refine (is_long b ks h a o r u A n c l w hu hn hc hm hr hK (by omega) (by omega) (by omega)).mono ?_
    rintro e w' ⟨rfl, g, h1, h2⟩
    exact ⟨by rw [isL_long (by omega) (by omega) (by omega)], some g, h1, h2.o⟩
theorem StepO.aw {w w' : World} {b n : Nat} {h h' : Option Nat} (hs : StepO w w' b h h') : Chg (Aw b h n) w w' := hs.1.mono fun i _ hx => .inl hx
end Go.Proofs.Ytcjibpjdfhhhkaa.Se
end

section
set_option linter.unusedVariables false
namespace Go.Proofs.Ytcjibpjdfhhhkaa.Rg
open Go.RowKit Go.Proofs.Ytcjibpjdfhhhkaa.Mem Go.Proofs.Ytcjibpjdfhhhkaa.Se

abbrev prV (p : Pr) : Value := .agg #[.string ⟨p.1.toArray⟩, .string ⟨p.2.toArray⟩]
def iC (i : It) : List Value := .string ⟨i.p.1.toArray⟩ :: .string ⟨i.p.2.toArray⟩ :: .int .i64 (i.n : Int) :: (key32 i.k).toList
structure Ent where
  it : It
  b : Nat
  h : Option Nat
  a : Nat
  o : Nat
  r : Nat
def eC (e : Ent) : List Value := iC e.it ++ [.pointer (some ⟨e.b, 0, none⟩)]
theorem iC_length (i : It) : (iC i).length = 35 := by simp [iC, key32_size]
theorem eC_length (e : Ent) : (eC e).length = 36 := by simp [eC, iC_length]
theorem iC_one (i : It) : ∀ u ∈ iC i, u.oneCell' = true := by
  intro u hu
  simp only [iC, List.mem_cons] at hu
  rcases hu with h | h | h | h
  · subst h; rfl
  · subst h; rfl
  · subst h; rfl
  · have := one32 i.k
    rw [Array.all_eq_true_iff_forall_mem] at this
    exact this u (Array.mem_def.2 h)
theorem eC_one (e : Ent) : ∀ u ∈ eC e, u.oneCell' = true := by
  intro u hu
  rcases List.mem_append.1 hu with h | h
  · exact iC_one _ u h
  · rw [List.mem_singleton] at h; subst h; rfl
theorem flat_at {α : Type} (f : α → List Value) (n : Nat) (h : ∀ x, (f x).length = n) : ∀ (l : List α) (i : Nat) (x : α), l[i]? = some x → ∀ j v, (f x)[j]? = some v → (l.flatMap f)[i * n + j]? = some v
  | [], i, x, hx, _, _, _ => by simp at hx
  | a :: l, 0, x, hx, j, v, hv => by
    injection hx with hx
    subst hx
    have := (List.getElem?_eq_some_iff.1 hv).1
    rw [List.flatMap_cons, Nat.zero_mul, Nat.zero_add, List.getElem?_append_left this]
    exact hv
  | a :: l, i + 1, x, hx, j, v, hv => by
    rw [List.flatMap_cons, List.getElem?_append_right (by rw [h, Nat.succ_mul]; omega), h, show (i + 1) * n + j - n = i * n + j by rw [Nat.succ_mul]; omega]
    exact flat_at f n h l i x hx j v hv
def RdR {α : Type} (w : World) (B : Nat) (A : Option Addr) (f : α → List Value) (n : Nat) (l : List α) : Prop :=
  l = [] ∨ ∃ g, A = some ⟨g, 0, none⟩ ∧ g < B ∧ ∀ i x, l[i]? = some x → w.rangeAt g (i * n) (f x)
theorem RdR.keep {α : Type} {w w' : World} {B : Nat} {A : Option Addr} {f : α → List Value} {n : Nat} {l : List α} (h : RdR w B A f n l) (hb : Below B w w') : RdR w' B A f n l := by
  rcases h with h | ⟨g, h1, h2, h3⟩
  · exact .inl h
  · exact .inr ⟨g, h1, h2, fun i x hx j v hv => (hb.cell (p := ⟨g, _, none⟩) h2).trans (h3 i x hx j v hv)⟩
theorem RdR.more {α : Type} {w : World} {B B' : Nat} {A : Option Addr} {f : α → List Value} {n : Nat} {l : List α} (h : RdR w B A f n l) (hB : B ≤ B') : RdR w B' A f n l := by
  rcases h with h | ⟨g, h1, h2, h3⟩
  · exact .inl h
  · exact .inr ⟨g, h1, by omega, h3⟩
theorem RdR.at_ {α : Type} {w : World} {B : Nat} {A : Option Addr} {f : α → List Value} {n : Nat} {l : List α} {i : Nat} {x : α} (h : RdR w B A f n l) (hx : l[i]? = some x) : ∃ g, A = some ⟨g, 0, none⟩ ∧ g < B ∧ w.rangeAt g (i * n) (f x) := by
  rcases h with h | ⟨g, h1, h2, h3⟩
  · subst h; simp at hx
  · exact ⟨g, h1, h2, h3 i x hx⟩
theorem own_rdr {α : Type} {w : World} {base : Nat} {t : TypeId} {v : Value} {f : α → List Value} {n : Nat} {l : List α} (hn : ∀ x, (f x).length = n) (h : w.ownsRow base t n v l.length (l.flatMap f)) : ∃ A c, v = .slice A l.length c ∧ l.length ≤ c ∧ c ≤ maxLen ∧ RdR w w.heap.size A f n l := by
  have h' := h
  rcases h.2 with ⟨h1, h2⟩ | ⟨g, cap, cur, h1, hg, hh, hc, hm, _⟩
  · have e : l = [] := List.eq_nil_of_length_eq_zero h2
    subst e
    exact ⟨none, 0, h1, Nat.le_refl _, Nat.zero_le _, .inl rfl⟩
  · subst h1
    refine ⟨_, cap, rfl, hc, hm, .inr ⟨g, rfl, (Array.getElem?_eq_some_iff.1 hh).1, fun i x hx j v hv => ?_⟩⟩
    have h1 := h'.cells (g := g) rfl (i * n + j) v (flat_at f n hn l i x hx j v hv)
    rw [addr_add, Nat.zero_add] at h1
    exact h1
theorem own_chg {S : Nat → Prop} {w w' : World} {base size n : Nat} {t : TypeId} {v : Value} {xs : List Value} (h : Chg S w w') (ho : w.ownsRow base t size v n xs) (hs : ∀ k, v.ownBlock = some k → ¬ S k) : w'.ownsRow base t size v n xs := by
  refine ⟨ho.1, ?_⟩
  rcases ho.2 with hn | ⟨g, cap, cur, rfl, hb, hgg, rest⟩
  · exact .inl hn
  · exact .inr ⟨g, cap, cur, rfl, hb, (h.block g (Array.getElem?_eq_some_iff.1 hgg).1 (hs g rfl)).trans hgg, rest⟩

def its (es : List Ent) : List It := es.map (·.it)
theorem its_at {es : List Ent} {i : Nat} {e : Ent} (h : es[i]? = some e) : (its es)[i]? = some e.it := by simp [its, h]
theorem its_of {es : List Ent} {i : Nat} {x : It} (h : (its es)[i]? = some x) : ∃ e, es[i]? = some e ∧ e.it = x := by
  simpa [its] using h
theorem its_length (es : List Ent) : (its es).length = es.length := by simp [its]
structure Ring (w : World) (B r : Nat) (v : Value) (es : List Ent) : Prop where
  blk : Blk w r 58 #[v]
  row : w.ownsRow B 60 36 v es.length (es.flatMap eC)
  lo : B ≤ r
  vr : v.ownBlock ≠ some r
  box : ∀ (i : Nat) (e : Ent), es[i]? = some e → Box w e.b e.it.k e.h e.a e.o e.r
  off : ∀ (i : Nat) (e : Ent), es[i]? = some e → ∀ k, Ow e.b e.h k → B ≤ k ∧ k ≠ r ∧ v.ownBlock ≠ some k
  far : ∀ (i j : Nat) (e f : Ent), es[i]? = some e → es[j]? = some f → i ≠ j → ∀ k, Ow e.b e.h k → ¬ Ow f.b f.h k
def RO (r : Nat) (v : Value) (es : List Ent) (k : Nat) : Prop := k = r ∨ v.ownBlock = some k ∨ ∃ (i : Nat) (e : Ent), es[i]? = some e ∧ Ow e.b e.h k
section
variable {w w' : World} {B r : Nat} {v v' : Value} {es : List Ent} {S : Nat → Prop}
theorem Ring.own_lo (h : Ring w B r v es) {k : Nat} (hk : RO r v es k) : B ≤ k := by
  rcases hk with hk | hk | ⟨i, e, he, hk⟩
  · subst hk; exact h.lo
  · exact (World.ownsRow.lt h.row k hk).1
  · exact (h.off i e he k hk).1
theorem Ring.own_lt (h : Ring w B r v es) {k : Nat} (hk : RO r v es k) : k < w.heap.size := by
  rcases hk with hk | hk | ⟨i, e, he, hk⟩
  · subst hk; exact h.blk.lt
  · exact (World.ownsRow.lt h.row k hk).2
  · exact (h.box i e he).own_lt k hk
theorem Ring.lt (h : Ring w B r v es) : r < w.heap.size := h.blk.lt
theorem Ring.chg (h : Ring w B r v es) (hc : Chg S w w') (hs : ∀ k, RO r v es k → ¬ S k) : Ring w' B r v es :=
  ⟨hc.blk h.blk (hs r (.inl rfl)), own_chg hc h.row (fun k hk => hs k (.inr (.inl hk))), h.lo, h.vr, fun i e he => (h.box i e he).chg hc (fun k hk => hs k (.inr (.inr ⟨i, e, he, hk⟩))), h.off, h.far⟩
theorem Ring.below (h : Ring w B r v es) (hb : Below w.heap.size w w') : Ring w' B r v es := h.chg (S := fun _ => False) (Chg.of_below hb) (fun _ _ x => x)
theorem Ring.drew (h : Ring w B r v es) : Ring w.drew B r v es := h.below (below_drewN (Below.refl _ _) 1)
theorem Ring.num (h : Ring w B r v es) : ∃ A c, v = .slice A es.length c ∧ es.length ≤ c ∧ c ≤ maxLen ∧ RdR w w.heap.size A eC 36 es := own_rdr eC_length h.row
theorem Ring.snoc (h : Ring w B r v es) {e : Ent} (hc : Chg (fun k => k = r ∨ v.ownBlock = some k) w w') (hb : Blk w' r 58 #[v']) (hrow : w'.ownsRow B 60 36 v' (es.length + 1) (es.flatMap eC ++ eC e))
    (hv : v'.ownBlock = v.ownBlock ∨ ∃ k, v'.ownBlock = some k ∧ w.heap.size ≤ k ∧ k ≠ e.b) (hbx : Box w' e.b e.it.k none e.a e.o e.r) (hbl : w.heap.size ≤ e.b) (hh : e.h = none) (hB : B ≤ w.heap.size) : Ring w' B r v' (es ++ [e]) := by
  have hlt := h.lt
  have hsn : ∀ (j : Nat) (f : Ent), (es ++ [e])[j]? = some f → (es[j]? = some f) ∨ (j = es.length ∧ f = e) := fun j f hf => by
    by_cases g : j < es.length
    · rw [List.getElem?_append_left g] at hf; exact .inl hf
    · rw [List.getElem?_append_right (by omega)] at hf
      have := (List.getElem?_eq_some_iff.1 hf).1
      have e1 : j = es.length := by simp at this; omega
      subst e1
      rw [Nat.sub_self] at hf
      injection hf with hf
      exact .inr ⟨rfl, hf.symm⟩
  have hne : ∀ k, Ow e.b e.h k → k = e.b := fun k hk => by
    rcases hk with hk | hk
    · exact hk
    · rw [hh] at hk; cases hk
  have hvk : ∀ k, v'.ownBlock = some k → k < w.heap.size → v.ownBlock = some k := fun k hk hl => by
    rcases hv with g | ⟨q, g1, g2, _⟩
    · rw [← g]; exact hk
    · rw [g1] at hk; injection hk with hk; omega
  refine ⟨hb, ?_, h.lo, fun x => h.vr (hvk r x hlt), fun j f hf => ?_, fun j f hf k hk => ?_, fun j j2 f f2 hf hf2 hjne k hk hk2 => ?_⟩
  · rw [List.length_append, List.length_singleton, List.flatMap_append, List.flatMap_singleton]; exact hrow
  · rcases hsn j f hf with g | ⟨_, rfl⟩
    · refine (h.box j f g).chg hc (fun k hk x => ?_)
      rcases x with x | x
      · exact (h.off j f g k hk).2.1 x
      · exact (h.off j f g k hk).2.2 x
    · rw [hh]; exact hbx
  · rcases hsn j f hf with g | ⟨_, rfl⟩
    · have h1 := h.off j f g k hk
      exact ⟨h1.1, h1.2.1, fun x => h1.2.2 (hvk k x ((h.box j f g).own_lt k hk))⟩
    · rw [hne k hk]
      refine ⟨by omega, by omega, fun x => ?_⟩
      rcases hv with g | ⟨q, g1, _, g3⟩
      · rw [g] at x; have := (World.ownsRow.lt h.row _ x).2; omega
      · rw [g1] at x; injection x with x; exact g3 x
  · rcases hsn j f hf with g | ⟨e1, rfl⟩
    · rcases hsn j2 f2 hf2 with g2 | ⟨e2, rfl⟩
      · exact h.far j j2 f f2 g g2 hjne k hk hk2
      · have := (h.box j f g).own_lt k hk; have := hne k hk2; omega
    · rcases hsn j2 f2 hf2 with g2 | ⟨e2, rfl⟩
      · have := (h.box j2 f2 g2).own_lt k hk2; have := hne k hk; omega
      · exact hjne (e1.trans e2.symm)
theorem its_snoc (es : List Ent) (e : Ent) : its (es ++ [e]) = its es ++ [e.it] := by simp [its]
end
end Go.Proofs.Ytcjibpjdfhhhkaa.Rg
end
