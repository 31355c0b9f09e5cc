/-
  What may be turned: some blocks; a slice that is read and lies in none of them; a Box in memory.
-/
import Derived.Test.YtcjibpjdfhhhkaaSePlain
import Derived.Test.YtcjibpjdfhhhkaaSpStream
import Derived.Test.YtcjibpjdfhhhkaaSiKnown
import Derived.Deep.MidRow
set_option linter.unusedVariables false
namespace Go.Proofs.Ytcjibpjdfhhhkaa.Se
open Go.RowKit Go.Proofs.Ytcjibpjdfhhhkaa.Mem

/-- all that was there stands there still, but for the blocks of S -/
structure Chg (S : Nat → Prop) (w w' : World) : Prop where
  os : w'.os = w.os
  tape : w'.tape = w.tape
  output : w'.output = w.output
  size : w.heap.size ≤ w'.heap.size
  block : ∀ k, k < w.heap.size → ¬ S k → w'.heap[k]? = w.heap[k]?
section
variable {S T S' : Nat → Prop} {a w w' c : World} {A : Option Addr} {xs : List Value} {g b : Nat} {t : TypeId} {cs : Array Value}
theorem Chg.refl (S : Nat → Prop) (w : World) : Chg S w w := ⟨rfl, rfl, rfl, Nat.le_refl _, fun _ _ _ => rfl⟩
theorem Chg.trans (h : Chg S a w) (k : Chg T w c) (hs : ∀ i, i < a.heap.size → T i → S i) : Chg S a c :=
  ⟨k.os.trans h.os, k.tape.trans h.tape, k.output.trans h.output, Nat.le_trans h.size k.size, fun i hi hn => (k.block i (Nat.lt_of_lt_of_le hi h.size) (fun ht => hn (hs i hi ht))).trans (h.block i hi hn)⟩
theorem Chg.mono (h : Chg S a w) (hs : ∀ i, i < a.heap.size → S i → T i) : Chg T a w := ⟨h.os, h.tape, h.output, h.size, fun i hi hn => h.block i hi (fun x => hn (hs i hi x))⟩
theorem Chg.of_below (h : Below w.heap.size w w') : Chg S w w' := ⟨h.os, h.tape, h.output, h.size, fun i hi _ => h.block i hi⟩
theorem Chg.of_grown (h : w.grownBy w' (some g)) (hs : S g) : Chg S w w' := ⟨h.os, h.tape, h.output, h.size, fun i hi hn => h.block i hi (fun e => by injection e with e; subst e; exact hn hs)⟩
theorem Chg.below (h : Chg S a w) {B : Nat} (hB : B ≤ a.heap.size) (hs : ∀ i, i < a.heap.size → S i → B ≤ i) : Below B a w :=
  ⟨h.os, h.tape, h.output, h.size, fun i hi => h.block i (by omega) (fun x => by have := hs i (by omega) x; omega)⟩
theorem Chg.blk (h : Chg S w w') (hb : Blk w g t cs) (hs : ¬ S g) : Blk w' g t cs := (h.block g hb.lt hs).trans hb
theorem Chg.own (h : Chg S w w') {base n : Nat} {v : Value} (ho : w.ownsRow base t 1 v n xs) (hs : ∀ k, v.ownBlock = some k → ¬ S k) : w'.ownsRow base t 1 v n xs := by
  refine ⟨ho.1, ?_⟩
  rcases ho.2 with hn | ⟨g, cap, cur, rfl, hb, hgg, rest⟩
  · exact .inl hn
  · exact .inr ⟨g, cap, cur, rfl, hb, (h.block g (Array.getElem?_eq_some_iff.1 hgg).1 (hs g rfl)).trans hgg, rest⟩
theorem Chg.set (h : Chg S a w) {p : Addr} (hp : S p.block ∨ a.heap.size ≤ p.block) (u : Value) : Chg S a (w.setCell p u) :=
  ⟨h.os, h.tape, h.output, by simpa [World.setCell] using h.size, fun i hi hn => (Below.heap_setCell w p u i (by
    rintro rfl
    rcases hp with hp | hp
    · exact hn hp
    · omega)).trans (h.block i hi hn)⟩
theorem Chg.alloc (h : Chg S a w) (o : Obj) : Chg S a (w.alloc o) :=
  ⟨h.os, h.tape, h.output, Nat.le_trans h.size (by simp), fun i hi hn => (Below.heap_alloc w o i (Nat.lt_of_lt_of_le hi h.size)).trans (h.block i hi hn)⟩
theorem Chg.drew (h : Chg S a w) : Chg S a w.drew := ⟨h.os, h.tape, h.output, h.size, h.block⟩

/-- the slice at A has the values xs, and lies in no block of S -/
def RdA (S : Nat → Prop) (w : World) (A : Option Addr) (xs : List Value) : Prop :=
  xs = [] ∨ ∃ b o, A = some ⟨b, o, none⟩ ∧ b < w.heap.size ∧ ¬ S b ∧ ∀ i u, xs[i]? = some u → w.cell? ⟨b, o + i, none⟩ = some u
theorem RdA.rd (h : RdA S w A xs) : Rd w w.heap.size A xs := by
  rcases h with h | ⟨b, o, h1, h2, _, h3⟩
  · exact .inl h
  · exact .inr ⟨b, o, h1, h2, h3⟩
theorem RdA.keep (h : RdA S w A xs) (hc : Chg T w w') (ht : ∀ i, i < w.heap.size → T i → S i) (hs : ∀ i, i < w.heap.size → S' i → S i) : RdA S' w' A xs := by
  rcases h with h | ⟨b, o, h1, h2, h4, h3⟩
  · exact .inl h
  · exact .inr ⟨b, o, h1, Nat.lt_of_lt_of_le h2 hc.size, fun x => h4 (hs b h2 x), fun i u hu => (World.cell?_of_block (a := ⟨b, o + i, none⟩) (hc.block b h2 (fun x => h4 (ht b h2 x)))).trans (h3 i u hu)⟩
theorem RdA.of_rd {B : Nat} (h : Rd w B A xs) (hB : B ≤ w.heap.size) (hs : ∀ i, S i → B ≤ i) : RdA S w A xs := by
  rcases h with h | ⟨b, o, h1, h2, h3⟩
  · exact .inl h
  · exact .inr ⟨b, o, h1, by omega, fun x => by have := hs b x; omega, h3⟩
theorem RdA.mono (h : RdA S w A xs) (hs : ∀ i, i < w.heap.size → S' i → S i) : RdA S' w A xs := h.keep (Chg.refl (fun _ => False) w) (fun _ _ x => x.elim) hs
end

/-! ### a Box -/
def xcells (ks : Nat → UInt8) (d s : Int) (p : Option Addr) (dg : Nat → UInt8) (a o r : Nat) : Array Value :=
  ((List.range 32).map (fun i => bv (ks i)) ++ (([.int .u32 d, .int .i32 s, .int .u32 0, .pointer p] : List Value) ++ ((List.range 16).map (fun j => bv (dg j)) ++ ([.int .i64 (a : Int), .int .i64 (o : Int), .int .i64 (r : Int)] : List Value)))).toArray
def XB (w : World) (b : Nat) (ks : Nat → UInt8) (d s : Int) (p : Option Addr) (dg : Nat → UInt8) (a o r : Nat) : Prop := Blk w b 88 (xcells ks d s p dg a o r)
section
variable {w w' : World} {b : Nat} {ks dg : Nat → UInt8} {d s : Int} {p : Option Addr} {a o r : Nat}
theorem xcells_key (i : Nat) (h : i < 32) : (xcells ks d s p dg a o r)[i]? = some (bv (ks i)) := by
  rw [xcells, List.getElem?_toArray, List.getElem?_append_left (by simpa using h)]
  simp [h]
theorem xcells_mid (i : Nat) (h : i < 4) : (xcells ks d s p dg a o r)[32 + i]? = ([.int .u32 d, .int .i32 s, .int .u32 0, .pointer p] : List Value)[i]? := by
  rw [xcells, List.getElem?_toArray, List.getElem?_append_right (by simp), List.getElem?_append_left (by simpa using h)]
  simp
theorem xcells_dg (i : Nat) (h : i < 16) : (xcells ks d s p dg a o r)[36 + i]? = some (bv (dg i)) := by
  rw [xcells, List.getElem?_toArray, List.getElem?_append_right (by simp; omega), List.getElem?_append_right (by simp; omega), List.getElem?_append_left (by simp; omega)]
  have e : 36 + i - (List.map (fun i => bv (ks i)) (List.range 32)).length - ([.int .u32 d, .int .i32 s, .int .u32 0, .pointer p] : List Value).length = i := by simp; omega
  rw [e]
  simp [h]
theorem xcells_ct (i : Nat) (h : i < 3) : (xcells ks d s p dg a o r)[52 + i]? = ([.int .i64 (a : Int), .int .i64 (o : Int), .int .i64 (r : Int)] : List Value)[i]? := by
  rw [xcells, List.getElem?_toArray, List.getElem?_append_right (by simp; omega), List.getElem?_append_right (by simp; omega), List.getElem?_append_right (by simp; omega)]
  have e : 52 + i - (List.map (fun i => bv (ks i)) (List.range 32)).length - ([.int .u32 d, .int .i32 s, .int .u32 0, .pointer p] : List Value).length - (List.map (fun j => bv (dg j)) (List.range 16)).length = i := by simp; omega
  rw [e]
theorem XB.cell (h : XB w b ks d s p dg a o r) (i : Nat) : w.cell? ⟨b, i, none⟩ = (xcells ks d s p dg a o r)[i]? := Blk.cell h i
theorem XB.ck (h : XB w b ks d s p dg a o r) (i : Nat) (hi : i < 32) : w.cell? ⟨b, i, none⟩ = some (bv (ks i)) := (h.cell i).trans (xcells_key i hi)
theorem XB.cd (h : XB w b ks d s p dg a o r) : w.cell? ⟨b, 32, none⟩ = some (.int .u32 d) := (h.cell 32).trans (xcells_mid 0 (by decide))
theorem XB.cs (h : XB w b ks d s p dg a o r) : w.cell? ⟨b, 33, none⟩ = some (.int .i32 s) := (h.cell 33).trans (xcells_mid 1 (by decide))
theorem XB.cp (h : XB w b ks d s p dg a o r) : w.cell? ⟨b, 35, none⟩ = some (.pointer p) := (h.cell 35).trans (xcells_mid 3 (by decide))
theorem XB.cg (h : XB w b ks d s p dg a o r) (i : Nat) (hi : i < 16) : w.cell? ⟨b, 36 + i, none⟩ = some (bv (dg i)) := (h.cell _).trans (xcells_dg i hi)
theorem XB.ca (h : XB w b ks d s p dg a o r) : w.cell? ⟨b, 52, none⟩ = some (.int .i64 (a : Int)) := (h.cell 52).trans (xcells_ct 0 (by decide))
theorem XB.co (h : XB w b ks d s p dg a o r) : w.cell? ⟨b, 53, none⟩ = some (.int .i64 (o : Int)) := (h.cell 53).trans (xcells_ct 1 (by decide))
theorem XB.cr (h : XB w b ks d s p dg a o r) : w.cell? ⟨b, 54, none⟩ = some (.int .i64 (r : Int)) := (h.cell 54).trans (xcells_ct 2 (by decide))
theorem XB.fz (h : XB w b ks d s p dg a o r) (i : Nat) : w.frozen? ⟨b, i, none⟩ = false := Blk.frozen h i
theorem XB.lt (h : XB w b ks d s p dg a o r) : b < w.heap.size := Blk.lt h
theorem xset_d (d' : Int) : (xcells ks d s p dg a o r).setIfInBounds 32 (.int .u32 d') = xcells ks d' s p dg a o r := by simp [xcells]
theorem xset_s (s' : Int) : (xcells ks d s p dg a o r).setIfInBounds 33 (.int .i32 s') = xcells ks d s' p dg a o r := by simp [xcells]
theorem xset_p (p' : Option Addr) : (xcells ks d s p dg a o r).setIfInBounds 35 (.pointer p') = xcells ks d s p' dg a o r := by simp [xcells]
theorem xset_a (a' : Nat) : (xcells ks d s p dg a o r).setIfInBounds 52 (.int .i64 (a' : Int)) = xcells ks d s p dg a' o r := by simp [xcells]
theorem xset_o (o' : Nat) : (xcells ks d s p dg a o r).setIfInBounds 53 (.int .i64 (o' : Int)) = xcells ks d s p dg a o' r := by simp [xcells]
theorem xset_r (r' : Nat) : (xcells ks d s p dg a o r).setIfInBounds 54 (.int .i64 (r' : Int)) = xcells ks d s p dg a o r' := by simp [xcells]
theorem XB.set_d (h : XB w b ks d s p dg a o r) (d' : Int) : XB (w.setCell ⟨b, 32, none⟩ (.int .u32 d')) b ks d' s p dg a o r := by
  have := Blk.set h 32 (.int .u32 d'); rwa [xset_d] at this
theorem XB.set_s (h : XB w b ks d s p dg a o r) (s' : Int) : XB (w.setCell ⟨b, 33, none⟩ (.int .i32 s')) b ks d s' p dg a o r := by
  have := Blk.set h 33 (.int .i32 s'); rwa [xset_s] at this
theorem XB.set_p (h : XB w b ks d s p dg a o r) (p' : Option Addr) : XB (w.setCell ⟨b, 35, none⟩ (.pointer p')) b ks d s p' dg a o r := by
  have := Blk.set h 35 (.pointer p'); rwa [xset_p] at this
theorem XB.set_a (h : XB w b ks d s p dg a o r) (a' : Nat) : XB (w.setCell ⟨b, 52, none⟩ (.int .i64 (a' : Int))) b ks d s p dg a' o r := by
  have := Blk.set h 52 (.int .i64 (a' : Int)); rwa [xset_a] at this
theorem XB.set_o (h : XB w b ks d s p dg a o r) (o' : Nat) : XB (w.setCell ⟨b, 53, none⟩ (.int .i64 (o' : Int))) b ks d s p dg a o' r := by
  have := Blk.set h 53 (.int .i64 (o' : Int)); rwa [xset_o] at this
theorem XB.set_r (h : XB w b ks d s p dg a o r) (r' : Nat) : XB (w.setCell ⟨b, 54, none⟩ (.int .i64 (r' : Int))) b ks d s p dg a o r' := by
  have := Blk.set h 54 (.int .i64 (r' : Int)); rwa [xset_r] at this
theorem XB.drew (h : XB w b ks d s p dg a o r) : XB w.drew b ks d s p dg a o r := h
theorem XB.chg {S : Nat → Prop} (h : XB w b ks d s p dg a o r) (hc : Chg S w w') (hs : ¬ S b) : XB w' b ks d s p dg a o r := hc.blk h hs
end
def setAll (cs : Array Value) : Nat → List Value → Array Value
  | _, [] => cs
  | o, v :: l => setAll (cs.setIfInBounds o v) (o + 1) l
theorem Blk.setCells {g : Nat} {t : TypeId} : ∀ (vs : List Value) (o : Nat) (w : World) (cs : Array Value), Blk w g t cs → Blk (w.setCells g o vs) g t (setAll cs o vs)
  | [], _, _, _, h => h
  | v :: l, o, w, cs, h => Blk.setCells l (o + 1) _ _ (h.set o v)
theorem xset_dg (ks : Nat → UInt8) (d s : Int) (p : Option Addr) (dg dg' : Nat → UInt8) (a o r : Nat) : setAll (xcells ks d s p dg a o r) 36 (Si.key16 dg').toList = xcells ks d s p dg' a o r := by kernel_rfl
theorem XB.set_dg {w : World} {b : Nat} {ks dg : Nat → UInt8} {d s : Int} {p : Option Addr} {a o r : Nat} (h : XB w b ks d s p dg a o r) (dg' : Nat → UInt8) : XB (w.setCells b 36 (Si.key16 dg').toList) b ks d s p dg' a o r := by
  have := Blk.setCells (Si.key16 dg').toList 36 _ _ h
  rwa [xset_dg] at this

abbrev zeroK : Nat → UInt8 := fun _ => 0
/-- a Box of a key: its halves are not made, or are (the first one's Key at g); so often sealed, opened, refused -/
def Box (w : World) (b : Nat) (ks : Nat → UInt8) (h : Option Nat) (a o r : Nat) : Prop :=
  match h with
  | none => XB w b ks 0 0 none zeroK a o r
  | some g => XB w b ks 1 0 (some ⟨g, 0, none⟩) (k2 ks) a o r ∧ g ≠ b ∧ ∃ m, Sp.Key w g ks m
/-- a Box's own blocks -/
def Ow (b : Nat) (h : Option Nat) (i : Nat) : Prop := i = b ∨ h = some i
theorem Box.lt {w : World} {b : Nat} {ks : Nat → UInt8} {h : Option Nat} {a o r : Nat} (hx : Box w b ks h a o r) : b < w.heap.size := by
  cases h with
  | none => exact XB.lt hx
  | some g => exact XB.lt hx.1
theorem Box.lt_g {w : World} {b g : Nat} {ks : Nat → UInt8} {a o r : Nat} (hx : Box w b ks (some g) a o r) : g < w.heap.size := by
  obtain ⟨_, _, m, hk⟩ := hx
  exact hk.lt
theorem Box.own_lt {w : World} {b : Nat} {ks : Nat → UInt8} {h : Option Nat} {a o r : Nat} (hx : Box w b ks h a o r) (i : Nat) (hi : Ow b h i) : i < w.heap.size := by
  rcases hi with hi | hi
  · subst hi; exact hx.lt
  · subst hi; exact hx.lt_g
theorem key_chg {S : Nat → Prop} {w w' : World} {g : Nat} {ks : Nat → UInt8} {m : Bool} (h : Sp.Key w g ks m) (hc : Chg S w w') (hs : ¬ S g) : Sp.Key w' g ks m := by
  cases m with
  | false => exact hc.blk h hs
  | true => exact hc.blk h hs
theorem Box.chg {S : Nat → Prop} {w w' : World} {b : Nat} {ks : Nat → UInt8} {h : Option Nat} {a o r : Nat} (hx : Box w b ks h a o r) (hc : Chg S w w') (hs : ∀ i, Ow b h i → ¬ S i) : Box w' b ks h a o r := by
  cases h with
  | none => exact XB.chg hx hc (hs b (.inl rfl))
  | some g =>
    obtain ⟨h1, h2, m, h3⟩ := hx
    exact ⟨h1.chg hc (hs b (.inl rfl)), h2, m, key_chg h3 hc (hs g (.inr rfl))⟩
theorem Box.below {w w' : World} {b : Nat} {ks : Nat → UInt8} {h : Option Nat} {a o r : Nat} (hx : Box w b ks h a o r) (hc : Below w.heap.size w w') : Box w' b ks h a o r :=
  hx.chg (S := fun _ => False) (Chg.of_below hc) (fun _ _ x => x)
/-- what a use of a Box turns: its own blocks; its halves stand where they stood, or are new -/
def Step (w w' : World) (b : Nat) (h : Option Nat) (g : Nat) : Prop := Chg (Ow b h) w w' ∧ (h = some g ∨ (h = none ∧ w.heap.size ≤ g))
theorem Step.own {w w' : World} {b g : Nat} {h : Option Nat} (hs : Step w w' b h g) : ∀ i, i < w.heap.size → Ow b (some g) i → Ow b h i := by
  intro i hi hx
  rcases hx with hx | hx
  · exact .inl hx
  · injection hx with hx
    subst hx
    rcases hs.2 with h1 | ⟨_, h1⟩
    · exact .inr h1
    · omega
theorem Step.trans {a w c : World} {b g g' : Nat} {h : Option Nat} (h1 : Step a w b h g) (h2 : Step w c b (some g) g') : g' = g ∧ Step a c b h g := by
  have e : g' = g := by
    rcases h2.2 with h3 | ⟨h3, _⟩
    · injection h3 with h3; exact h3.symm
    · cases h3
  exact ⟨e, h1.1.trans h2.1 h1.own, h1.2⟩
theorem Step.then {a w c : World} {b g : Nat} {h : Option Nat} {S : Nat → Prop} (h1 : Step a w b h g) (h2 : Chg S w c) (hs : ∀ i, i < a.heap.size → S i → Ow b h i) : Step a c b h g := ⟨h1.1.trans h2 hs, h1.2⟩
end Go.Proofs.Ytcjibpjdfhhhkaa.Se
