/-
  No cell of these rows narrows 'for every input' (looked for: loops, veiled, ifaces, maps, wideKeys, modest, calm, conditions, laid).
  DERIVED. THE GIVEN ROWS OF THIS SEAT. 9 by the template 'for every input the law returns true; each argument reads behind the call as it read before'; 0 by the template 'total and deterministic' (their statements: YtpjilcngibaepaaTotals.lean).
  GIVEN WITH THE SEED: the statements are not yours to turn. If you find one false, say at which input.
  Laid BY PROGRAM, IN A SANDBOX (cutbox-rows.mjs): the forced cells as the released guide's own fill.sh prints them over the translation be1f4717e7abbaf7… (all of the seat's roots in one cut). By AI agents, Wed Nov 11 2026. No macro, syntax, notation, axiom, sorry.
-/
import Derived.Test.YtpjilcngibaepaaChecked
import GoSem.Claim
import GoSem.ClaimJoined
import GoSem.ClaimMapViews
import Derived.JoinedTies
import Derived.KernelRfl
namespace Go.Proofs.Ytpjilcngibaepaa
/- THE CELL 'sum', in the pinned program and in every row, IS THE sha256 OF THE DUMP (.gsa) THAT YtpjilcngibaepaaProg.lean LOADS. Nothing in Lean hashes anything: it is a label: what it is worth is what the hold of that sum in a sandbox is worth. -/
noncomputable def Try.pinned : Pinned := { name := "ytpjilcngibaepaa", sum := "be1f4717e7abbaf76821c8b3527ad1b0da3a630de4eca44256a73fa87e3d3a59", checked := Try.checked }
namespace Rows
def none {H : Type} : Left H := { results := [], args := [] }

/-- 'legatelaw5.NameTells': WHATEVER THE INPUT: true; the input reads as it did. -/
def nameTellsSpec : ChangeSpec := { name := "nameTells", fn := fun _ => fun
  | [d1, d2, d3] => { results := [.lit (.bool true)], args := [d1, d2, d3] }
  | _ => none }
def nameTellsRow : OpenClaim := { program := "ytpjilcngibaepaa", sum := "be1f4717e7abbaf76821c8b3527ad1b0da3a630de4eca44256a73fa87e3d3a59", func := "legate/legatelaw5.NameTells", spec := "nameTells", inPlace := ["internal/bytealg.IndexByteString", "internal/bytealg.IndexString"], unfollowed := true, recurses := true, named := ["internal/bytealg.MaxLen"], apart := false }
def NameTellsSaid : Prop := nameTellsRow.holds Try.pinned (OpenSpec.ofChange nameTellsSpec)

/-- ITS FALSE NEIGHBOUR: 'it returns false'. Refute it at one input. -/
def nameTellsWrong : ChangeSpec := { name := "nameTells", fn := fun _ => fun
  | [d1, d2, d3] => { results := [.lit (.bool false)], args := [d1, d2, d3] }
  | _ => none }
def NameTellsWrongFalsely : Prop := nameTellsRow.holds Try.pinned (OpenSpec.ofChange nameTellsWrong)

/-- 'legatelaw5.NameBack': WHATEVER THE INPUT: true; the input reads as it did. -/
def nameBackSpec : ChangeSpec := { name := "nameBack", fn := fun _ => fun
  | [d1, d2] => { results := [.lit (.bool true)], args := [d1, d2] }
  | _ => none }
def nameBackRow : OpenClaim := { program := "ytpjilcngibaepaa", sum := "be1f4717e7abbaf76821c8b3527ad1b0da3a630de4eca44256a73fa87e3d3a59", func := "legate/legatelaw5.NameBack", spec := "nameBack", inPlace := ["internal/bytealg.IndexByteString", "internal/bytealg.IndexString"], unfollowed := true, recurses := true, named := ["internal/bytealg.MaxLen"], apart := false }
def NameBackSaid : Prop := nameBackRow.holds Try.pinned (OpenSpec.ofChange nameBackSpec)

/-- ITS FALSE NEIGHBOUR: 'it returns false'. Refute it at one input. -/
def nameBackWrong : ChangeSpec := { name := "nameBack", fn := fun _ => fun
  | [d1, d2] => { results := [.lit (.bool false)], args := [d1, d2] }
  | _ => none }
def NameBackWrongFalsely : Prop := nameBackRow.holds Try.pinned (OpenSpec.ofChange nameBackWrong)

/-- 'legatelaw5.NameWay': WHATEVER THE INPUT: true; the input reads as it did. -/
def nameWaySpec : ChangeSpec := { name := "nameWay", fn := fun _ => fun
  | [d1, d2] => { results := [.lit (.bool true)], args := [d1, d2] }
  | _ => none }
def nameWayRow : OpenClaim := { program := "ytpjilcngibaepaa", sum := "be1f4717e7abbaf76821c8b3527ad1b0da3a630de4eca44256a73fa87e3d3a59", func := "legate/legatelaw5.NameWay", spec := "nameWay", inPlace := ["internal/bytealg.IndexByteString", "internal/bytealg.IndexString"], unfollowed := true, recurses := true, named := ["internal/bytealg.MaxLen"], apart := false }
def NameWaySaid : Prop := nameWayRow.holds Try.pinned (OpenSpec.ofChange nameWaySpec)

/-- ITS FALSE NEIGHBOUR: 'it returns false'. Refute it at one input. -/
def nameWayWrong : ChangeSpec := { name := "nameWay", fn := fun _ => fun
  | [d1, d2] => { results := [.lit (.bool false)], args := [d1, d2] }
  | _ => none }
def NameWayWrongFalsely : Prop := nameWayRow.holds Try.pinned (OpenSpec.ofChange nameWayWrong)

/-- 'legatelaw5.NameUp': WHATEVER THE INPUT: true; the input reads as it did. -/
def nameUpSpec : ChangeSpec := { name := "nameUp", fn := fun _ => fun
  | [d] => { results := [.lit (.bool true)], args := [d] }
  | _ => none }
def nameUpRow : OpenClaim := { program := "ytpjilcngibaepaa", sum := "be1f4717e7abbaf76821c8b3527ad1b0da3a630de4eca44256a73fa87e3d3a59", func := "legate/legatelaw5.NameUp", spec := "nameUp", inPlace := ["internal/bytealg.IndexByteString", "internal/bytealg.IndexString"], unfollowed := true, recurses := true, named := ["internal/bytealg.MaxLen"], apart := false }
def NameUpSaid : Prop := nameUpRow.holds Try.pinned (OpenSpec.ofChange nameUpSpec)

/-- ITS FALSE NEIGHBOUR: 'it returns false'. Refute it at one input. -/
def nameUpWrong : ChangeSpec := { name := "nameUp", fn := fun _ => fun
  | [d] => { results := [.lit (.bool false)], args := [d] }
  | _ => none }
def NameUpWrongFalsely : Prop := nameUpRow.holds Try.pinned (OpenSpec.ofChange nameUpWrong)

/-- 'legatelaw5.NameCase': WHATEVER THE INPUT: true; the input reads as it did. -/
def nameCaseSpec : ChangeSpec := { name := "nameCase", fn := fun _ => fun
  | [d] => { results := [.lit (.bool true)], args := [d] }
  | _ => none }
def nameCaseRow : OpenClaim := { program := "ytpjilcngibaepaa", sum := "be1f4717e7abbaf76821c8b3527ad1b0da3a630de4eca44256a73fa87e3d3a59", func := "legate/legatelaw5.NameCase", spec := "nameCase", inPlace := ["internal/bytealg.IndexByteString", "internal/bytealg.IndexString"], unfollowed := true, recurses := true, named := ["internal/bytealg.MaxLen"], apart := false }
def NameCaseSaid : Prop := nameCaseRow.holds Try.pinned (OpenSpec.ofChange nameCaseSpec)

/-- ITS FALSE NEIGHBOUR: 'it returns false'. Refute it at one input. -/
def nameCaseWrong : ChangeSpec := { name := "nameCase", fn := fun _ => fun
  | [d] => { results := [.lit (.bool false)], args := [d] }
  | _ => none }
def NameCaseWrongFalsely : Prop := nameCaseRow.holds Try.pinned (OpenSpec.ofChange nameCaseWrong)

/-- 'legatelaw5.NameLabels': WHATEVER THE INPUT: true; the input reads as it did. -/
def nameLabelsSpec : ChangeSpec := { name := "nameLabels", fn := fun _ => fun
  | [d1, d2, d3] => { results := [.lit (.bool true)], args := [d1, d2, d3] }
  | _ => none }
def nameLabelsRow : OpenClaim := { program := "ytpjilcngibaepaa", sum := "be1f4717e7abbaf76821c8b3527ad1b0da3a630de4eca44256a73fa87e3d3a59", func := "legate/legatelaw5.NameLabels", spec := "nameLabels", inPlace := ["internal/bytealg.IndexByteString", "internal/bytealg.IndexString"], unfollowed := true, recurses := true, named := ["internal/bytealg.MaxLen"], apart := false }
def NameLabelsSaid : Prop := nameLabelsRow.holds Try.pinned (OpenSpec.ofChange nameLabelsSpec)

/-- ITS FALSE NEIGHBOUR: 'it returns false'. Refute it at one input. -/
def nameLabelsWrong : ChangeSpec := { name := "nameLabels", fn := fun _ => fun
  | [d1, d2, d3] => { results := [.lit (.bool false)], args := [d1, d2, d3] }
  | _ => none }
def NameLabelsWrongFalsely : Prop := nameLabelsRow.holds Try.pinned (OpenSpec.ofChange nameLabelsWrong)

/-- 'legatelaw5.NameTops': WHATEVER THE INPUT: true; the input reads as it did. -/
def nameTopsSpec : ChangeSpec := { name := "nameTops", fn := fun _ => fun
  | [d1, d2] => { results := [.lit (.bool true)], args := [d1, d2] }
  | _ => none }
def nameTopsRow : OpenClaim := { program := "ytpjilcngibaepaa", sum := "be1f4717e7abbaf76821c8b3527ad1b0da3a630de4eca44256a73fa87e3d3a59", func := "legate/legatelaw5.NameTops", spec := "nameTops", inPlace := ["internal/bytealg.IndexByteString", "internal/bytealg.IndexString"], unfollowed := true, recurses := true, named := ["internal/bytealg.MaxLen"], apart := false }
def NameTopsSaid : Prop := nameTopsRow.holds Try.pinned (OpenSpec.ofChange nameTopsSpec)

/-- ITS FALSE NEIGHBOUR: 'it returns false'. Refute it at one input. -/
def nameTopsWrong : ChangeSpec := { name := "nameTops", fn := fun _ => fun
  | [d1, d2] => { results := [.lit (.bool false)], args := [d1, d2] }
  | _ => none }
def NameTopsWrongFalsely : Prop := nameTopsRow.holds Try.pinned (OpenSpec.ofChange nameTopsWrong)

/-- 'legatelaw5.NameUnders': WHATEVER THE INPUT: true; the input reads as it did. -/
def nameUndersSpec : ChangeSpec := { name := "nameUnders", fn := fun _ => fun
  | [d1, d2, d3] => { results := [.lit (.bool true)], args := [d1, d2, d3] }
  | _ => none }
def nameUndersRow : OpenClaim := { program := "ytpjilcngibaepaa", sum := "be1f4717e7abbaf76821c8b3527ad1b0da3a630de4eca44256a73fa87e3d3a59", func := "legate/legatelaw5.NameUnders", spec := "nameUnders", inPlace := ["internal/bytealg.IndexByteString", "internal/bytealg.IndexString"], unfollowed := true, recurses := true, named := ["internal/bytealg.MaxLen"], apart := false }
def NameUndersSaid : Prop := nameUndersRow.holds Try.pinned (OpenSpec.ofChange nameUndersSpec)

/-- ITS FALSE NEIGHBOUR: 'it returns false'. Refute it at one input. -/
def nameUndersWrong : ChangeSpec := { name := "nameUnders", fn := fun _ => fun
  | [d1, d2, d3] => { results := [.lit (.bool false)], args := [d1, d2, d3] }
  | _ => none }
def NameUndersWrongFalsely : Prop := nameUndersRow.holds Try.pinned (OpenSpec.ofChange nameUndersWrong)

/-- 'legatelaw5.NamePrincs': WHATEVER THE INPUT: true; the input reads as it did. -/
def namePrincsSpec : ChangeSpec := { name := "namePrincs", fn := fun _ => fun
  | [d1, d2] => { results := [.lit (.bool true)], args := [d1, d2] }
  | _ => none }
def namePrincsRow : OpenClaim := { program := "ytpjilcngibaepaa", sum := "be1f4717e7abbaf76821c8b3527ad1b0da3a630de4eca44256a73fa87e3d3a59", func := "legate/legatelaw5.NamePrincs", spec := "namePrincs", inPlace := ["internal/bytealg.IndexByteString", "internal/bytealg.IndexString"], unfollowed := true, recurses := true, named := ["internal/bytealg.MaxLen"], apart := false }
def NamePrincsSaid : Prop := namePrincsRow.holds Try.pinned (OpenSpec.ofChange namePrincsSpec)

/-- ITS FALSE NEIGHBOUR: 'it returns false'. Refute it at one input. -/
def namePrincsWrong : ChangeSpec := { name := "namePrincs", fn := fun _ => fun
  | [d1, d2] => { results := [.lit (.bool false)], args := [d1, d2] }
  | _ => none }
def NamePrincsWrongFalsely : Prop := namePrincsRow.holds Try.pinned (OpenSpec.ofChange namePrincsWrong)

/- THE SECOND FORM. 'bulk': how many values and letters a reading holds, each counted each time it is reached (what is shared counts as often as it is met; a slice's spare places count too). A statement '..UptoSaid' is the law's where the arguments, and the package variables that the reading takes, are together of bulk at most 1048576: NARROWER than '..Said'. Prove '..Said' where nothing that the law and all that it calls make is longer than what came in: it says more and counts as full. Else prove '..UptoSaid'. A law counts once. -/
mutual
def uptoBulk {H : Type} : DataW H → Nat
  | .lit (.string bytes) => bytes.length + 1
  | .lit _ => 1
  | .nil => 1
  | .ptr d => uptoBulk d + 1
  | .slice elems spare => uptoBulkAll elems + uptoBulkAll spare + 1
  | .agg parts => uptoBulkAll parts + 1
  | .iface _ d => uptoBulk d + 1
  | .map entries => uptoBulkEntries entries + 1
  | .held _ => 1
def uptoBulkAll {H : Type} : List (DataW H) → Nat
  | [] => 0
  | d :: r => uptoBulk d + uptoBulkAll r
def uptoBulkEntries {H : Type} : List (Lit × DataW H) → Nat
  | [] => 0
  | x :: r => uptoBulkEntry x + uptoBulkEntries r
def uptoBulkEntry {H : Type} : Lit × DataW H → Nat
  | (.string bytes, d) => bytes.length + uptoBulk d + 1
  | (_, d) => uptoBulk d + 1
 end
def uptoSmall : (H : Type) → List (DataW H) → Bool := fun _ ds => decide (uptoBulkAll ds ≤ 1048576)
def OpenSpec.upto (s : _root_.Go.ChangeSpec) : _root_.Go.OpenSpec := { _root_.Go.OpenSpec.ofChange s with cond := some uptoSmall }

/-- 'legatelaw5.NameTells', WHERE WHAT IT READS IS OF BULK AT MOST 1048576: true; the input reads as it did. -/
def nameTellsUptoRow : OpenClaim := { program := "ytpjilcngibaepaa", sum := "be1f4717e7abbaf76821c8b3527ad1b0da3a630de4eca44256a73fa87e3d3a59", func := "legate/legatelaw5.NameTells", spec := "nameTells", inPlace := ["internal/bytealg.IndexByteString", "internal/bytealg.IndexString"], unfollowed := true, recurses := true, named := ["internal/bytealg.MaxLen"], apart := false, narrowed := true }
def NameTellsUptoSaid : Prop := nameTellsUptoRow.holds Try.pinned (OpenSpec.upto nameTellsSpec)

/-- 'legatelaw5.NameBack', WHERE WHAT IT READS IS OF BULK AT MOST 1048576: true; the input reads as it did. -/
def nameBackUptoRow : OpenClaim := { program := "ytpjilcngibaepaa", sum := "be1f4717e7abbaf76821c8b3527ad1b0da3a630de4eca44256a73fa87e3d3a59", func := "legate/legatelaw5.NameBack", spec := "nameBack", inPlace := ["internal/bytealg.IndexByteString", "internal/bytealg.IndexString"], unfollowed := true, recurses := true, named := ["internal/bytealg.MaxLen"], apart := false, narrowed := true }
def NameBackUptoSaid : Prop := nameBackUptoRow.holds Try.pinned (OpenSpec.upto nameBackSpec)

/-- 'legatelaw5.NameWay', WHERE WHAT IT READS IS OF BULK AT MOST 1048576: true; the input reads as it did. -/
def nameWayUptoRow : OpenClaim := { program := "ytpjilcngibaepaa", sum := "be1f4717e7abbaf76821c8b3527ad1b0da3a630de4eca44256a73fa87e3d3a59", func := "legate/legatelaw5.NameWay", spec := "nameWay", inPlace := ["internal/bytealg.IndexByteString", "internal/bytealg.IndexString"], unfollowed := true, recurses := true, named := ["internal/bytealg.MaxLen"], apart := false, narrowed := true }
def NameWayUptoSaid : Prop := nameWayUptoRow.holds Try.pinned (OpenSpec.upto nameWaySpec)

/-- 'legatelaw5.NameUp', WHERE WHAT IT READS IS OF BULK AT MOST 1048576: true; the input reads as it did. -/
def nameUpUptoRow : OpenClaim := { program := "ytpjilcngibaepaa", sum := "be1f4717e7abbaf76821c8b3527ad1b0da3a630de4eca44256a73fa87e3d3a59", func := "legate/legatelaw5.NameUp", spec := "nameUp", inPlace := ["internal/bytealg.IndexByteString", "internal/bytealg.IndexString"], unfollowed := true, recurses := true, named := ["internal/bytealg.MaxLen"], apart := false, narrowed := true }
def NameUpUptoSaid : Prop := nameUpUptoRow.holds Try.pinned (OpenSpec.upto nameUpSpec)

/-- 'legatelaw5.NameCase', WHERE WHAT IT READS IS OF BULK AT MOST 1048576: true; the input reads as it did. -/
def nameCaseUptoRow : OpenClaim := { program := "ytpjilcngibaepaa", sum := "be1f4717e7abbaf76821c8b3527ad1b0da3a630de4eca44256a73fa87e3d3a59", func := "legate/legatelaw5.NameCase", spec := "nameCase", inPlace := ["internal/bytealg.IndexByteString", "internal/bytealg.IndexString"], unfollowed := true, recurses := true, named := ["internal/bytealg.MaxLen"], apart := false, narrowed := true }
def NameCaseUptoSaid : Prop := nameCaseUptoRow.holds Try.pinned (OpenSpec.upto nameCaseSpec)

/-- 'legatelaw5.NameLabels', WHERE WHAT IT READS IS OF BULK AT MOST 1048576: true; the input reads as it did. -/
def nameLabelsUptoRow : OpenClaim := { program := "ytpjilcngibaepaa", sum := "be1f4717e7abbaf76821c8b3527ad1b0da3a630de4eca44256a73fa87e3d3a59", func := "legate/legatelaw5.NameLabels", spec := "nameLabels", inPlace := ["internal/bytealg.IndexByteString", "internal/bytealg.IndexString"], unfollowed := true, recurses := true, named := ["internal/bytealg.MaxLen"], apart := false, narrowed := true }
def NameLabelsUptoSaid : Prop := nameLabelsUptoRow.holds Try.pinned (OpenSpec.upto nameLabelsSpec)

/-- 'legatelaw5.NameTops', WHERE WHAT IT READS IS OF BULK AT MOST 1048576: true; the input reads as it did. -/
def nameTopsUptoRow : OpenClaim := { program := "ytpjilcngibaepaa", sum := "be1f4717e7abbaf76821c8b3527ad1b0da3a630de4eca44256a73fa87e3d3a59", func := "legate/legatelaw5.NameTops", spec := "nameTops", inPlace := ["internal/bytealg.IndexByteString", "internal/bytealg.IndexString"], unfollowed := true, recurses := true, named := ["internal/bytealg.MaxLen"], apart := false, narrowed := true }
def NameTopsUptoSaid : Prop := nameTopsUptoRow.holds Try.pinned (OpenSpec.upto nameTopsSpec)

/-- 'legatelaw5.NameUnders', WHERE WHAT IT READS IS OF BULK AT MOST 1048576: true; the input reads as it did. -/
def nameUndersUptoRow : OpenClaim := { program := "ytpjilcngibaepaa", sum := "be1f4717e7abbaf76821c8b3527ad1b0da3a630de4eca44256a73fa87e3d3a59", func := "legate/legatelaw5.NameUnders", spec := "nameUnders", inPlace := ["internal/bytealg.IndexByteString", "internal/bytealg.IndexString"], unfollowed := true, recurses := true, named := ["internal/bytealg.MaxLen"], apart := false, narrowed := true }
def NameUndersUptoSaid : Prop := nameUndersUptoRow.holds Try.pinned (OpenSpec.upto nameUndersSpec)

/-- 'legatelaw5.NamePrincs', WHERE WHAT IT READS IS OF BULK AT MOST 1048576: true; the input reads as it did. -/
def namePrincsUptoRow : OpenClaim := { program := "ytpjilcngibaepaa", sum := "be1f4717e7abbaf76821c8b3527ad1b0da3a630de4eca44256a73fa87e3d3a59", func := "legate/legatelaw5.NamePrincs", spec := "namePrincs", inPlace := ["internal/bytealg.IndexByteString", "internal/bytealg.IndexString"], unfollowed := true, recurses := true, named := ["internal/bytealg.MaxLen"], apart := false, narrowed := true }
def NamePrincsUptoSaid : Prop := namePrincsUptoRow.holds Try.pinned (OpenSpec.upto namePrincsSpec)

end Rows
end Go.Proofs.Ytpjilcngibaepaa
