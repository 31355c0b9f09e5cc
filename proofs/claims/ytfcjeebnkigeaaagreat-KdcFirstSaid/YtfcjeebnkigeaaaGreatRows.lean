/-
  No cell of these rows narrows 'for every input' (looked for: loops, veiled, ifaces, maps, wideKeys, modest, calm, conditions, laid).
  DERIVED. THE GIVEN ROWS OF THIS SEAT. 12 by the template 'for every input the law returns true; each argument reads behind the call as it read before'; 0 by the template 'total and deterministic' (their statements: YtfcjeebnkigeaaaGreatTotals.lean).
  GIVEN WITH THE SEED: the statements are not yours to turn. If you find one false, say at which input.
  Laid BY PROGRAM, IN A SANDBOX (cutbox-rows.mjs): the forced cells as the released guide's own fill.sh prints them over the translation 61b67f957a632e67… (all of the seat's roots in one cut). By AI agents, Wed Nov 11 2026. No macro, syntax, notation, axiom, sorry.
-/
import Derived.Test.YtfcjeebnkigeaaaGreatChecked
import GoSem.Claim
import GoSem.ClaimJoined
import GoSem.ClaimMapViews
import Derived.JoinedTies
import Derived.KernelRfl
namespace Go.Proofs.YtfcjeebnkigeaaaGreat
/- THE CELL 'sum', in the pinned program and in every row, IS THE sha256 OF THE DUMP (.gsa) THAT YtfcjeebnkigeaaaGreatProg.lean LOADS. Nothing in Lean hashes anything: it is a label: what it is worth is what the hold of that sum in a sandbox is worth. -/
noncomputable def Tryz.pinned : Pinned := { name := "ytfcjeebnkigeaaagreat", sum := "61b67f957a632e67ab93826804990ee6560b75310ec98886a4ae5204fb5b3475", checked := Tryz.checked }
namespace Rows
def none {H : Type} : Left H := { results := [], args := [] }

/-- 'legatelaw10.KdcPlays': WHATEVER THE INPUT: true; the input reads as it did. -/
def kdcPlaysSpec : ChangeSpec := { name := "kdcPlays", fn := fun _ => fun
  | [d1, d2] => { results := [.lit (.bool true)], args := [d1, d2] }
  | _ => none }
def kdcPlaysRow : OpenClaim := { program := "ytfcjeebnkigeaaagreat", sum := "61b67f957a632e67ab93826804990ee6560b75310ec98886a4ae5204fb5b3475", func := "legate/legatelaw10.KdcPlays", spec := "kdcPlays", inPlace := ["internal/bytealg.IndexByteString", "internal/bytealg.IndexString", "sync/atomic.AddInt64", "sync/atomic.LoadUint32", "(*internal/sync.Mutex).Lock", "internal/race.Disable", "sync/atomic.CompareAndSwapInt32", "internal/race.Enable", "internal/race.Acquire", "(*internal/sync.Mutex).lockSlow", "internal/sync.runtime_canSpin", "internal/sync.runtime_doSpin", "internal/sync.throw", "internal/sync.runtime_nanotime", "internal/sync.runtime_SemacquireMutex", "sync/atomic.AddInt32", "(*internal/sync.Mutex).Unlock", "internal/race.ReleaseMerge", "(*internal/sync.Mutex).unlockSlow", "internal/sync.fatal", "internal/sync.runtime_Semrelease", "sync/atomic.StoreUint32", "sync/atomic.LoadInt64"], unfollowed := true, recurses := true, named := ["internal/bytealg.MaxLen"], apart := false }
def KdcPlaysSaid : Prop := kdcPlaysRow.holds Tryz.pinned (OpenSpec.ofChange kdcPlaysSpec)

/-- ITS FALSE NEIGHBOUR: 'it returns false'. Refute it at one input. -/
def kdcPlaysWrong : ChangeSpec := { name := "kdcPlays", fn := fun _ => fun
  | [d1, d2] => { results := [.lit (.bool false)], args := [d1, d2] }
  | _ => none }
def KdcPlaysWrongFalsely : Prop := kdcPlaysRow.holds Tryz.pinned (OpenSpec.ofChange kdcPlaysWrong)

/-- 'legatelaw10.KdcFirst': WHATEVER THE INPUT: true; the input reads as it did. -/
def kdcFirstSpec : ChangeSpec := { name := "kdcFirst", fn := fun _ => fun
  | [d1, d2, d3, d4] => { results := [.lit (.bool true)], args := [d1, d2, d3, d4] }
  | _ => none }
def kdcFirstRow : OpenClaim := { program := "ytfcjeebnkigeaaagreat", sum := "61b67f957a632e67ab93826804990ee6560b75310ec98886a4ae5204fb5b3475", func := "legate/legatelaw10.KdcFirst", spec := "kdcFirst", inPlace := ["internal/bytealg.IndexByteString", "internal/bytealg.IndexString", "sync/atomic.AddInt64", "sync/atomic.LoadUint32", "(*internal/sync.Mutex).Lock", "internal/race.Disable", "sync/atomic.CompareAndSwapInt32", "internal/race.Enable", "internal/race.Acquire", "(*internal/sync.Mutex).lockSlow", "internal/sync.runtime_canSpin", "internal/sync.runtime_doSpin", "internal/sync.throw", "internal/sync.runtime_nanotime", "internal/sync.runtime_SemacquireMutex", "sync/atomic.AddInt32", "(*internal/sync.Mutex).Unlock", "internal/race.ReleaseMerge", "(*internal/sync.Mutex).unlockSlow", "internal/sync.fatal", "internal/sync.runtime_Semrelease", "sync/atomic.StoreUint32", "sync/atomic.LoadInt64"], unfollowed := true, recurses := true, named := ["internal/bytealg.MaxLen"], apart := false }
def KdcFirstSaid : Prop := kdcFirstRow.holds Tryz.pinned (OpenSpec.ofChange kdcFirstSpec)

/-- ITS FALSE NEIGHBOUR: 'it returns false'. Refute it at one input. -/
def kdcFirstWrong : ChangeSpec := { name := "kdcFirst", fn := fun _ => fun
  | [d1, d2, d3, d4] => { results := [.lit (.bool false)], args := [d1, d2, d3, d4] }
  | _ => none }
def KdcFirstWrongFalsely : Prop := kdcFirstRow.holds Tryz.pinned (OpenSpec.ofChange kdcFirstWrong)

/-- 'legatelaw10.KdcFurther': WHATEVER THE INPUT: true; the input reads as it did. -/
def kdcFurtherSpec : ChangeSpec := { name := "kdcFurther", fn := fun _ => fun
  | [d1, d2, d3, d4, d5, d6] => { results := [.lit (.bool true)], args := [d1, d2, d3, d4, d5, d6] }
  | _ => none }
def kdcFurtherRow : OpenClaim := { program := "ytfcjeebnkigeaaagreat", sum := "61b67f957a632e67ab93826804990ee6560b75310ec98886a4ae5204fb5b3475", func := "legate/legatelaw10.KdcFurther", spec := "kdcFurther", inPlace := ["internal/bytealg.IndexByteString", "internal/bytealg.IndexString", "sync/atomic.LoadUint32", "(*internal/sync.Mutex).Lock", "internal/race.Disable", "sync/atomic.CompareAndSwapInt32", "internal/race.Enable", "internal/race.Acquire", "(*internal/sync.Mutex).lockSlow", "internal/sync.runtime_canSpin", "internal/sync.runtime_doSpin", "internal/sync.throw", "internal/sync.runtime_nanotime", "internal/sync.runtime_SemacquireMutex", "sync/atomic.AddInt32", "(*internal/sync.Mutex).Unlock", "internal/race.ReleaseMerge", "(*internal/sync.Mutex).unlockSlow", "internal/sync.fatal", "internal/sync.runtime_Semrelease", "sync/atomic.StoreUint32", "sync/atomic.AddInt64", "sync/atomic.LoadInt64"], unfollowed := true, recurses := true, named := ["internal/bytealg.MaxLen"], apart := false }
def KdcFurtherSaid : Prop := kdcFurtherRow.holds Tryz.pinned (OpenSpec.ofChange kdcFurtherSpec)

/-- ITS FALSE NEIGHBOUR: 'it returns false'. Refute it at one input. -/
def kdcFurtherWrong : ChangeSpec := { name := "kdcFurther", fn := fun _ => fun
  | [d1, d2, d3, d4, d5, d6] => { results := [.lit (.bool false)], args := [d1, d2, d3, d4, d5, d6] }
  | _ => none }
def KdcFurtherWrongFalsely : Prop := kdcFurtherRow.holds Tryz.pinned (OpenSpec.ofChange kdcFurtherWrong)

/-- 'legatelaw10.KdcRoutes': WHATEVER THE INPUT: true; the input reads as it did. -/
def kdcRoutesSpec : ChangeSpec := { name := "kdcRoutes", fn := fun _ => fun
  | [d1, d2] => { results := [.lit (.bool true)], args := [d1, d2] }
  | _ => none }
def kdcRoutesRow : OpenClaim := { program := "ytfcjeebnkigeaaagreat", sum := "61b67f957a632e67ab93826804990ee6560b75310ec98886a4ae5204fb5b3475", func := "legate/legatelaw10.KdcRoutes", spec := "kdcRoutes", inPlace := ["internal/bytealg.IndexByteString", "internal/bytealg.IndexString", "sync/atomic.LoadUint32", "(*internal/sync.Mutex).Lock", "internal/race.Disable", "sync/atomic.CompareAndSwapInt32", "internal/race.Enable", "internal/race.Acquire", "(*internal/sync.Mutex).lockSlow", "internal/sync.runtime_canSpin", "internal/sync.runtime_doSpin", "internal/sync.throw", "internal/sync.runtime_nanotime", "internal/sync.runtime_SemacquireMutex", "sync/atomic.AddInt32", "(*internal/sync.Mutex).Unlock", "internal/race.ReleaseMerge", "(*internal/sync.Mutex).unlockSlow", "internal/sync.fatal", "internal/sync.runtime_Semrelease", "sync/atomic.StoreUint32", "sync/atomic.AddInt64", "sync/atomic.LoadInt64"], unfollowed := true, recurses := true, named := ["internal/bytealg.MaxLen"], apart := false }
def KdcRoutesSaid : Prop := kdcRoutesRow.holds Tryz.pinned (OpenSpec.ofChange kdcRoutesSpec)

/-- ITS FALSE NEIGHBOUR: 'it returns false'. Refute it at one input. -/
def kdcRoutesWrong : ChangeSpec := { name := "kdcRoutes", fn := fun _ => fun
  | [d1, d2] => { results := [.lit (.bool false)], args := [d1, d2] }
  | _ => none }
def KdcRoutesWrongFalsely : Prop := kdcRoutesRow.holds Tryz.pinned (OpenSpec.ofChange kdcRoutesWrong)

/-- 'legatelaw10.KdcSkews': WHATEVER THE INPUT: true; the input reads as it did. -/
def kdcSkewsSpec : ChangeSpec := { name := "kdcSkews", fn := fun _ => fun
  | [d1, d2] => { results := [.lit (.bool true)], args := [d1, d2] }
  | _ => none }
def kdcSkewsRow : OpenClaim := { program := "ytfcjeebnkigeaaagreat", sum := "61b67f957a632e67ab93826804990ee6560b75310ec98886a4ae5204fb5b3475", func := "legate/legatelaw10.KdcSkews", spec := "kdcSkews", inPlace := ["internal/bytealg.IndexByteString", "internal/bytealg.IndexString", "sync/atomic.LoadUint32", "(*internal/sync.Mutex).Lock", "internal/race.Disable", "sync/atomic.CompareAndSwapInt32", "internal/race.Enable", "internal/race.Acquire", "(*internal/sync.Mutex).lockSlow", "internal/sync.runtime_canSpin", "internal/sync.runtime_doSpin", "internal/sync.throw", "internal/sync.runtime_nanotime", "internal/sync.runtime_SemacquireMutex", "sync/atomic.AddInt32", "(*internal/sync.Mutex).Unlock", "internal/race.ReleaseMerge", "(*internal/sync.Mutex).unlockSlow", "internal/sync.fatal", "internal/sync.runtime_Semrelease", "sync/atomic.StoreUint32", "sync/atomic.AddInt64", "sync/atomic.LoadInt64"], unfollowed := true, recurses := true, named := ["internal/bytealg.MaxLen"], apart := false }
def KdcSkewsSaid : Prop := kdcSkewsRow.holds Tryz.pinned (OpenSpec.ofChange kdcSkewsSpec)

/-- ITS FALSE NEIGHBOUR: 'it returns false'. Refute it at one input. -/
def kdcSkewsWrong : ChangeSpec := { name := "kdcSkews", fn := fun _ => fun
  | [d1, d2] => { results := [.lit (.bool false)], args := [d1, d2] }
  | _ => none }
def KdcSkewsWrongFalsely : Prop := kdcSkewsRow.holds Tryz.pinned (OpenSpec.ofChange kdcSkewsWrong)

/-- 'legatelaw10.KdcRefuses': WHATEVER THE INPUT: true; the input reads as it did. -/
def kdcRefusesSpec : ChangeSpec := { name := "kdcRefuses", fn := fun _ => fun
  | [d1, d2, d3] => { results := [.lit (.bool true)], args := [d1, d2, d3] }
  | _ => none }
def kdcRefusesRow : OpenClaim := { program := "ytfcjeebnkigeaaagreat", sum := "61b67f957a632e67ab93826804990ee6560b75310ec98886a4ae5204fb5b3475", func := "legate/legatelaw10.KdcRefuses", spec := "kdcRefuses", inPlace := ["internal/bytealg.IndexByteString", "internal/bytealg.IndexString", "sync/atomic.AddInt64", "sync/atomic.LoadUint32", "(*internal/sync.Mutex).Lock", "internal/race.Disable", "sync/atomic.CompareAndSwapInt32", "internal/race.Enable", "internal/race.Acquire", "(*internal/sync.Mutex).lockSlow", "internal/sync.runtime_canSpin", "internal/sync.runtime_doSpin", "internal/sync.throw", "internal/sync.runtime_nanotime", "internal/sync.runtime_SemacquireMutex", "sync/atomic.AddInt32", "(*internal/sync.Mutex).Unlock", "internal/race.ReleaseMerge", "(*internal/sync.Mutex).unlockSlow", "internal/sync.fatal", "internal/sync.runtime_Semrelease", "sync/atomic.StoreUint32", "sync/atomic.LoadInt64"], unfollowed := true, recurses := true, named := ["internal/bytealg.MaxLen"], apart := false }
def KdcRefusesSaid : Prop := kdcRefusesRow.holds Tryz.pinned (OpenSpec.ofChange kdcRefusesSpec)

/-- ITS FALSE NEIGHBOUR: 'it returns false'. Refute it at one input. -/
def kdcRefusesWrong : ChangeSpec := { name := "kdcRefuses", fn := fun _ => fun
  | [d1, d2, d3] => { results := [.lit (.bool false)], args := [d1, d2, d3] }
  | _ => none }
def KdcRefusesWrongFalsely : Prop := kdcRefusesRow.holds Tryz.pinned (OpenSpec.ofChange kdcRefusesWrong)

/-- 'legatelaw10.KdcHandles': WHATEVER THE INPUT: true; the input reads as it did. -/
def kdcHandlesSpec : ChangeSpec := { name := "kdcHandles", fn := fun _ => fun
  | [d1, d2] => { results := [.lit (.bool true)], args := [d1, d2] }
  | _ => none }
def kdcHandlesRow : OpenClaim := { program := "ytfcjeebnkigeaaagreat", sum := "61b67f957a632e67ab93826804990ee6560b75310ec98886a4ae5204fb5b3475", func := "legate/legatelaw10.KdcHandles", spec := "kdcHandles", inPlace := ["internal/bytealg.IndexByteString", "internal/bytealg.IndexString", "sync/atomic.AddInt64", "sync/atomic.LoadUint32", "(*internal/sync.Mutex).Lock", "internal/race.Disable", "sync/atomic.CompareAndSwapInt32", "internal/race.Enable", "internal/race.Acquire", "(*internal/sync.Mutex).lockSlow", "internal/sync.runtime_canSpin", "internal/sync.runtime_doSpin", "internal/sync.throw", "internal/sync.runtime_nanotime", "internal/sync.runtime_SemacquireMutex", "sync/atomic.AddInt32", "(*internal/sync.Mutex).Unlock", "internal/race.ReleaseMerge", "(*internal/sync.Mutex).unlockSlow", "internal/sync.fatal", "internal/sync.runtime_Semrelease", "sync/atomic.StoreUint32", "sync/atomic.LoadInt64"], unfollowed := true, recurses := true, named := ["internal/bytealg.MaxLen"], apart := false }
def KdcHandlesSaid : Prop := kdcHandlesRow.holds Tryz.pinned (OpenSpec.ofChange kdcHandlesSpec)

/-- ITS FALSE NEIGHBOUR: 'it returns false'. Refute it at one input. -/
def kdcHandlesWrong : ChangeSpec := { name := "kdcHandles", fn := fun _ => fun
  | [d1, d2] => { results := [.lit (.bool false)], args := [d1, d2] }
  | _ => none }
def KdcHandlesWrongFalsely : Prop := kdcHandlesRow.holds Tryz.pinned (OpenSpec.ofChange kdcHandlesWrong)

/-- 'legatelaw10.KdcOfNothing': WHATEVER THE INPUT: true; the input reads as it did. -/
def kdcOfNothingSpec : ChangeSpec := { name := "kdcOfNothing", fn := fun _ => fun
  | [d1, d2] => { results := [.lit (.bool true)], args := [d1, d2] }
  | _ => none }
def kdcOfNothingRow : OpenClaim := { program := "ytfcjeebnkigeaaagreat", sum := "61b67f957a632e67ab93826804990ee6560b75310ec98886a4ae5204fb5b3475", func := "legate/legatelaw10.KdcOfNothing", spec := "kdcOfNothing", inPlace := ["internal/bytealg.IndexByteString", "internal/bytealg.IndexString", "sync/atomic.AddInt64", "sync/atomic.LoadUint32", "(*internal/sync.Mutex).Lock", "internal/race.Disable", "sync/atomic.CompareAndSwapInt32", "internal/race.Enable", "internal/race.Acquire", "(*internal/sync.Mutex).lockSlow", "internal/sync.runtime_canSpin", "internal/sync.runtime_doSpin", "internal/sync.throw", "internal/sync.runtime_nanotime", "internal/sync.runtime_SemacquireMutex", "sync/atomic.AddInt32", "(*internal/sync.Mutex).Unlock", "internal/race.ReleaseMerge", "(*internal/sync.Mutex).unlockSlow", "internal/sync.fatal", "internal/sync.runtime_Semrelease", "sync/atomic.StoreUint32", "sync/atomic.LoadInt64"], unfollowed := true, recurses := true, named := ["internal/bytealg.MaxLen"], apart := false }
def KdcOfNothingSaid : Prop := kdcOfNothingRow.holds Tryz.pinned (OpenSpec.ofChange kdcOfNothingSpec)

/-- ITS FALSE NEIGHBOUR: 'it returns false'. Refute it at one input. -/
def kdcOfNothingWrong : ChangeSpec := { name := "kdcOfNothing", fn := fun _ => fun
  | [d1, d2] => { results := [.lit (.bool false)], args := [d1, d2] }
  | _ => none }
def KdcOfNothingWrongFalsely : Prop := kdcOfNothingRow.holds Tryz.pinned (OpenSpec.ofChange kdcOfNothingWrong)

/-- 'legatelaw10.KdcNonces': WHATEVER THE INPUT: true; the input reads as it did. -/
def kdcNoncesSpec : ChangeSpec := { name := "kdcNonces", fn := fun _ => fun
  | [d] => { results := [.lit (.bool true)], args := [d] }
  | _ => none }
def kdcNoncesRow : OpenClaim := { program := "ytfcjeebnkigeaaagreat", sum := "61b67f957a632e67ab93826804990ee6560b75310ec98886a4ae5204fb5b3475", func := "legate/legatelaw10.KdcNonces", spec := "kdcNonces", inPlace := ["internal/bytealg.IndexByteString", "internal/bytealg.IndexString", "sync/atomic.AddInt64", "sync/atomic.LoadUint32", "(*internal/sync.Mutex).Lock", "internal/race.Disable", "sync/atomic.CompareAndSwapInt32", "internal/race.Enable", "internal/race.Acquire", "(*internal/sync.Mutex).lockSlow", "internal/sync.runtime_canSpin", "internal/sync.runtime_doSpin", "internal/sync.throw", "internal/sync.runtime_nanotime", "internal/sync.runtime_SemacquireMutex", "sync/atomic.AddInt32", "(*internal/sync.Mutex).Unlock", "internal/race.ReleaseMerge", "(*internal/sync.Mutex).unlockSlow", "internal/sync.fatal", "internal/sync.runtime_Semrelease", "sync/atomic.StoreUint32", "sync/atomic.LoadInt64"], unfollowed := true, recurses := true, named := ["internal/bytealg.MaxLen"], apart := false }
def KdcNoncesSaid : Prop := kdcNoncesRow.holds Tryz.pinned (OpenSpec.ofChange kdcNoncesSpec)

/-- ITS FALSE NEIGHBOUR: 'it returns false'. Refute it at one input. -/
def kdcNoncesWrong : ChangeSpec := { name := "kdcNonces", fn := fun _ => fun
  | [d] => { results := [.lit (.bool false)], args := [d] }
  | _ => none }
def KdcNoncesWrongFalsely : Prop := kdcNoncesRow.holds Tryz.pinned (OpenSpec.ofChange kdcNoncesWrong)

/-- 'legatelaw10.KdcUnknown': WHATEVER THE INPUT: true; the input reads as it did. -/
def kdcUnknownSpec : ChangeSpec := { name := "kdcUnknown", fn := fun _ => fun
  | [d1, d2] => { results := [.lit (.bool true)], args := [d1, d2] }
  | _ => none }
def kdcUnknownRow : OpenClaim := { program := "ytfcjeebnkigeaaagreat", sum := "61b67f957a632e67ab93826804990ee6560b75310ec98886a4ae5204fb5b3475", func := "legate/legatelaw10.KdcUnknown", spec := "kdcUnknown", inPlace := ["internal/bytealg.IndexByteString", "internal/bytealg.IndexString", "sync/atomic.AddInt64", "sync/atomic.LoadUint32", "(*internal/sync.Mutex).Lock", "internal/race.Disable", "sync/atomic.CompareAndSwapInt32", "internal/race.Enable", "internal/race.Acquire", "(*internal/sync.Mutex).lockSlow", "internal/sync.runtime_canSpin", "internal/sync.runtime_doSpin", "internal/sync.throw", "internal/sync.runtime_nanotime", "internal/sync.runtime_SemacquireMutex", "sync/atomic.AddInt32", "(*internal/sync.Mutex).Unlock", "internal/race.ReleaseMerge", "(*internal/sync.Mutex).unlockSlow", "internal/sync.fatal", "internal/sync.runtime_Semrelease", "sync/atomic.StoreUint32", "sync/atomic.LoadInt64"], unfollowed := true, recurses := true, named := ["internal/bytealg.MaxLen"], apart := false }
def KdcUnknownSaid : Prop := kdcUnknownRow.holds Tryz.pinned (OpenSpec.ofChange kdcUnknownSpec)

/-- ITS FALSE NEIGHBOUR: 'it returns false'. Refute it at one input. -/
def kdcUnknownWrong : ChangeSpec := { name := "kdcUnknown", fn := fun _ => fun
  | [d1, d2] => { results := [.lit (.bool false)], args := [d1, d2] }
  | _ => none }
def KdcUnknownWrongFalsely : Prop := kdcUnknownRow.holds Tryz.pinned (OpenSpec.ofChange kdcUnknownWrong)

/-- 'legatelaw10.KdcHops': WHATEVER THE INPUT: true; the input reads as it did. -/
def kdcHopsSpec : ChangeSpec := { name := "kdcHops", fn := fun _ => fun
  | [d1, d2] => { results := [.lit (.bool true)], args := [d1, d2] }
  | _ => none }
def kdcHopsRow : OpenClaim := { program := "ytfcjeebnkigeaaagreat", sum := "61b67f957a632e67ab93826804990ee6560b75310ec98886a4ae5204fb5b3475", func := "legate/legatelaw10.KdcHops", spec := "kdcHops", inPlace := ["internal/bytealg.IndexByteString", "internal/bytealg.IndexString", "sync/atomic.LoadUint32", "(*internal/sync.Mutex).Lock", "internal/race.Disable", "sync/atomic.CompareAndSwapInt32", "internal/race.Enable", "internal/race.Acquire", "(*internal/sync.Mutex).lockSlow", "internal/sync.runtime_canSpin", "internal/sync.runtime_doSpin", "internal/sync.throw", "internal/sync.runtime_nanotime", "internal/sync.runtime_SemacquireMutex", "sync/atomic.AddInt32", "(*internal/sync.Mutex).Unlock", "internal/race.ReleaseMerge", "(*internal/sync.Mutex).unlockSlow", "internal/sync.fatal", "internal/sync.runtime_Semrelease", "sync/atomic.StoreUint32", "sync/atomic.AddInt64", "sync/atomic.LoadInt64"], unfollowed := true, recurses := true, named := ["internal/bytealg.MaxLen"], apart := false }
def KdcHopsSaid : Prop := kdcHopsRow.holds Tryz.pinned (OpenSpec.ofChange kdcHopsSpec)

/-- ITS FALSE NEIGHBOUR: 'it returns false'. Refute it at one input. -/
def kdcHopsWrong : ChangeSpec := { name := "kdcHops", fn := fun _ => fun
  | [d1, d2] => { results := [.lit (.bool false)], args := [d1, d2] }
  | _ => none }
def KdcHopsWrongFalsely : Prop := kdcHopsRow.holds Tryz.pinned (OpenSpec.ofChange kdcHopsWrong)

/-- 'legatelaw10.KdcTills': WHATEVER THE INPUT: true; the input reads as it did. -/
def kdcTillsSpec : ChangeSpec := { name := "kdcTills", fn := fun _ => fun
  | [d1, d2, d3, d4] => { results := [.lit (.bool true)], args := [d1, d2, d3, d4] }
  | _ => none }
def kdcTillsRow : OpenClaim := { program := "ytfcjeebnkigeaaagreat", sum := "61b67f957a632e67ab93826804990ee6560b75310ec98886a4ae5204fb5b3475", func := "legate/legatelaw10.KdcTills", spec := "kdcTills", inPlace := ["internal/bytealg.IndexByteString", "internal/bytealg.IndexString", "sync/atomic.LoadUint32", "(*internal/sync.Mutex).Lock", "internal/race.Disable", "sync/atomic.CompareAndSwapInt32", "internal/race.Enable", "internal/race.Acquire", "(*internal/sync.Mutex).lockSlow", "internal/sync.runtime_canSpin", "internal/sync.runtime_doSpin", "internal/sync.throw", "internal/sync.runtime_nanotime", "internal/sync.runtime_SemacquireMutex", "sync/atomic.AddInt32", "(*internal/sync.Mutex).Unlock", "internal/race.ReleaseMerge", "(*internal/sync.Mutex).unlockSlow", "internal/sync.fatal", "internal/sync.runtime_Semrelease", "sync/atomic.StoreUint32", "sync/atomic.AddInt64", "sync/atomic.LoadInt64"], unfollowed := true, recurses := true, named := ["internal/bytealg.MaxLen"], apart := false }
def KdcTillsSaid : Prop := kdcTillsRow.holds Tryz.pinned (OpenSpec.ofChange kdcTillsSpec)

/-- ITS FALSE NEIGHBOUR: 'it returns false'. Refute it at one input. -/
def kdcTillsWrong : ChangeSpec := { name := "kdcTills", fn := fun _ => fun
  | [d1, d2, d3, d4] => { results := [.lit (.bool false)], args := [d1, d2, d3, d4] }
  | _ => none }
def KdcTillsWrongFalsely : Prop := kdcTillsRow.holds Tryz.pinned (OpenSpec.ofChange kdcTillsWrong)

/- THE SECOND FORM. 'bulk': how many values and letters a reading holds, each counted each time it is reached (what is shared counts as often as it is met; a slice's spare places count too). A statement '..UptoSaid' is the law's where the arguments, and the package variables that the reading takes, are together of bulk at most 1048576: NARROWER than '..Said'. Prove '..Said' where nothing that the law and all that it calls make is longer than what came in: it says more and counts as full. Else prove '..UptoSaid'. A law counts once. -/
mutual
def uptoBulk {H : Type} : DataW H → Nat
  | .lit (.string bytes) => bytes.length + 1
  | .lit _ => 1
  | .nil => 1
  | .ptr d => uptoBulk d + 1
  | .slice elems spare => uptoBulkAll elems + uptoBulkAll spare + 1
  | .agg parts => uptoBulkAll parts + 1
  | .iface _ d => uptoBulk d + 1
  | .map entries => uptoBulkEntries entries + 1
  | .held _ => 1
def uptoBulkAll {H : Type} : List (DataW H) → Nat
  | [] => 0
  | d :: r => uptoBulk d + uptoBulkAll r
def uptoBulkEntries {H : Type} : List (Lit × DataW H) → Nat
  | [] => 0
  | x :: r => uptoBulkEntry x + uptoBulkEntries r
def uptoBulkEntry {H : Type} : Lit × DataW H → Nat
  | (.string bytes, d) => bytes.length + uptoBulk d + 1
  | (_, d) => uptoBulk d + 1
 end
def uptoSmall : (H : Type) → List (DataW H) → Bool := fun _ ds => decide (uptoBulkAll ds ≤ 1048576)
def OpenSpec.upto (s : _root_.Go.ChangeSpec) : _root_.Go.OpenSpec := { _root_.Go.OpenSpec.ofChange s with cond := some uptoSmall }

/-- 'legatelaw10.KdcPlays', WHERE WHAT IT READS IS OF BULK AT MOST 1048576: true; the input reads as it did. -/
def kdcPlaysUptoRow : OpenClaim := { program := "ytfcjeebnkigeaaagreat", sum := "61b67f957a632e67ab93826804990ee6560b75310ec98886a4ae5204fb5b3475", func := "legate/legatelaw10.KdcPlays", spec := "kdcPlays", inPlace := ["internal/bytealg.IndexByteString", "internal/bytealg.IndexString", "sync/atomic.AddInt64", "sync/atomic.LoadUint32", "(*internal/sync.Mutex).Lock", "internal/race.Disable", "sync/atomic.CompareAndSwapInt32", "internal/race.Enable", "internal/race.Acquire", "(*internal/sync.Mutex).lockSlow", "internal/sync.runtime_canSpin", "internal/sync.runtime_doSpin", "internal/sync.throw", "internal/sync.runtime_nanotime", "internal/sync.runtime_SemacquireMutex", "sync/atomic.AddInt32", "(*internal/sync.Mutex).Unlock", "internal/race.ReleaseMerge", "(*internal/sync.Mutex).unlockSlow", "internal/sync.fatal", "internal/sync.runtime_Semrelease", "sync/atomic.StoreUint32", "sync/atomic.LoadInt64"], unfollowed := true, recurses := true, named := ["internal/bytealg.MaxLen"], apart := false, narrowed := true }
def KdcPlaysUptoSaid : Prop := kdcPlaysUptoRow.holds Tryz.pinned (OpenSpec.upto kdcPlaysSpec)

/-- 'legatelaw10.KdcFirst', WHERE WHAT IT READS IS OF BULK AT MOST 1048576: true; the input reads as it did. -/
def kdcFirstUptoRow : OpenClaim := { program := "ytfcjeebnkigeaaagreat", sum := "61b67f957a632e67ab93826804990ee6560b75310ec98886a4ae5204fb5b3475", func := "legate/legatelaw10.KdcFirst", spec := "kdcFirst", inPlace := ["internal/bytealg.IndexByteString", "internal/bytealg.IndexString", "sync/atomic.AddInt64", "sync/atomic.LoadUint32", "(*internal/sync.Mutex).Lock", "internal/race.Disable", "sync/atomic.CompareAndSwapInt32", "internal/race.Enable", "internal/race.Acquire", "(*internal/sync.Mutex).lockSlow", "internal/sync.runtime_canSpin", "internal/sync.runtime_doSpin", "internal/sync.throw", "internal/sync.runtime_nanotime", "internal/sync.runtime_SemacquireMutex", "sync/atomic.AddInt32", "(*internal/sync.Mutex).Unlock", "internal/race.ReleaseMerge", "(*internal/sync.Mutex).unlockSlow", "internal/sync.fatal", "internal/sync.runtime_Semrelease", "sync/atomic.StoreUint32", "sync/atomic.LoadInt64"], unfollowed := true, recurses := true, named := ["internal/bytealg.MaxLen"], apart := false, narrowed := true }
def KdcFirstUptoSaid : Prop := kdcFirstUptoRow.holds Tryz.pinned (OpenSpec.upto kdcFirstSpec)

/-- 'legatelaw10.KdcFurther', WHERE WHAT IT READS IS OF BULK AT MOST 1048576: true; the input reads as it did. -/
def kdcFurtherUptoRow : OpenClaim := { program := "ytfcjeebnkigeaaagreat", sum := "61b67f957a632e67ab93826804990ee6560b75310ec98886a4ae5204fb5b3475", func := "legate/legatelaw10.KdcFurther", spec := "kdcFurther", inPlace := ["internal/bytealg.IndexByteString", "internal/bytealg.IndexString", "sync/atomic.LoadUint32", "(*internal/sync.Mutex).Lock", "internal/race.Disable", "sync/atomic.CompareAndSwapInt32", "internal/race.Enable", "internal/race.Acquire", "(*internal/sync.Mutex).lockSlow", "internal/sync.runtime_canSpin", "internal/sync.runtime_doSpin", "internal/sync.throw", "internal/sync.runtime_nanotime", "internal/sync.runtime_SemacquireMutex", "sync/atomic.AddInt32", "(*internal/sync.Mutex).Unlock", "internal/race.ReleaseMerge", "(*internal/sync.Mutex).unlockSlow", "internal/sync.fatal", "internal/sync.runtime_Semrelease", "sync/atomic.StoreUint32", "sync/atomic.AddInt64", "sync/atomic.LoadInt64"], unfollowed := true, recurses := true, named := ["internal/bytealg.MaxLen"], apart := false, narrowed := true }
def KdcFurtherUptoSaid : Prop := kdcFurtherUptoRow.holds Tryz.pinned (OpenSpec.upto kdcFurtherSpec)

/-- 'legatelaw10.KdcRoutes', WHERE WHAT IT READS IS OF BULK AT MOST 1048576: true; the input reads as it did. -/
def kdcRoutesUptoRow : OpenClaim := { program := "ytfcjeebnkigeaaagreat", sum := "61b67f957a632e67ab93826804990ee6560b75310ec98886a4ae5204fb5b3475", func := "legate/legatelaw10.KdcRoutes", spec := "kdcRoutes", inPlace := ["internal/bytealg.IndexByteString", "internal/bytealg.IndexString", "sync/atomic.LoadUint32", "(*internal/sync.Mutex).Lock", "internal/race.Disable", "sync/atomic.CompareAndSwapInt32", "internal/race.Enable", "internal/race.Acquire", "(*internal/sync.Mutex).lockSlow", "internal/sync.runtime_canSpin", "internal/sync.runtime_doSpin", "internal/sync.throw", "internal/sync.runtime_nanotime", "internal/sync.runtime_SemacquireMutex", "sync/atomic.AddInt32", "(*internal/sync.Mutex).Unlock", "internal/race.ReleaseMerge", "(*internal/sync.Mutex).unlockSlow", "internal/sync.fatal", "internal/sync.runtime_Semrelease", "sync/atomic.StoreUint32", "sync/atomic.AddInt64", "sync/atomic.LoadInt64"], unfollowed := true, recurses := true, named := ["internal/bytealg.MaxLen"], apart := false, narrowed := true }
def KdcRoutesUptoSaid : Prop := kdcRoutesUptoRow.holds Tryz.pinned (OpenSpec.upto kdcRoutesSpec)

/-- 'legatelaw10.KdcSkews', WHERE WHAT IT READS IS OF BULK AT MOST 1048576: true; the input reads as it did. -/
def kdcSkewsUptoRow : OpenClaim := { program := "ytfcjeebnkigeaaagreat", sum := "61b67f957a632e67ab93826804990ee6560b75310ec98886a4ae5204fb5b3475", func := "legate/legatelaw10.KdcSkews", spec := "kdcSkews", inPlace := ["internal/bytealg.IndexByteString", "internal/bytealg.IndexString", "sync/atomic.LoadUint32", "(*internal/sync.Mutex).Lock", "internal/race.Disable", "sync/atomic.CompareAndSwapInt32", "internal/race.Enable", "internal/race.Acquire", "(*internal/sync.Mutex).lockSlow", "internal/sync.runtime_canSpin", "internal/sync.runtime_doSpin", "internal/sync.throw", "internal/sync.runtime_nanotime", "internal/sync.runtime_SemacquireMutex", "sync/atomic.AddInt32", "(*internal/sync.Mutex).Unlock", "internal/race.ReleaseMerge", "(*internal/sync.Mutex).unlockSlow", "internal/sync.fatal", "internal/sync.runtime_Semrelease", "sync/atomic.StoreUint32", "sync/atomic.AddInt64", "sync/atomic.LoadInt64"], unfollowed := true, recurses := true, named := ["internal/bytealg.MaxLen"], apart := false, narrowed := true }
def KdcSkewsUptoSaid : Prop := kdcSkewsUptoRow.holds Tryz.pinned (OpenSpec.upto kdcSkewsSpec)

/-- 'legatelaw10.KdcRefuses', WHERE WHAT IT READS IS OF BULK AT MOST 1048576: true; the input reads as it did. -/
def kdcRefusesUptoRow : OpenClaim := { program := "ytfcjeebnkigeaaagreat", sum := "61b67f957a632e67ab93826804990ee6560b75310ec98886a4ae5204fb5b3475", func := "legate/legatelaw10.KdcRefuses", spec := "kdcRefuses", inPlace := ["internal/bytealg.IndexByteString", "internal/bytealg.IndexString", "sync/atomic.AddInt64", "sync/atomic.LoadUint32", "(*internal/sync.Mutex).Lock", "internal/race.Disable", "sync/atomic.CompareAndSwapInt32", "internal/race.Enable", "internal/race.Acquire", "(*internal/sync.Mutex).lockSlow", "internal/sync.runtime_canSpin", "internal/sync.runtime_doSpin", "internal/sync.throw", "internal/sync.runtime_nanotime", "internal/sync.runtime_SemacquireMutex", "sync/atomic.AddInt32", "(*internal/sync.Mutex).Unlock", "internal/race.ReleaseMerge", "(*internal/sync.Mutex).unlockSlow", "internal/sync.fatal", "internal/sync.runtime_Semrelease", "sync/atomic.StoreUint32", "sync/atomic.LoadInt64"], unfollowed := true, recurses := true, named := ["internal/bytealg.MaxLen"], apart := false, narrowed := true }
def KdcRefusesUptoSaid : Prop := kdcRefusesUptoRow.holds Tryz.pinned (OpenSpec.upto kdcRefusesSpec)

/-- 'legatelaw10.KdcHandles', WHERE WHAT IT READS IS OF BULK AT MOST 1048576: true; the input reads as it did. -/
def kdcHandlesUptoRow : OpenClaim := { program := "ytfcjeebnkigeaaagreat", sum := "61b67f957a632e67ab93826804990ee6560b75310ec98886a4ae5204fb5b3475", func := "legate/legatelaw10.KdcHandles", spec := "kdcHandles", inPlace := ["internal/bytealg.IndexByteString", "internal/bytealg.IndexString", "sync/atomic.AddInt64", "sync/atomic.LoadUint32", "(*internal/sync.Mutex).Lock", "internal/race.Disable", "sync/atomic.CompareAndSwapInt32", "internal/race.Enable", "internal/race.Acquire", "(*internal/sync.Mutex).lockSlow", "internal/sync.runtime_canSpin", "internal/sync.runtime_doSpin", "internal/sync.throw", "internal/sync.runtime_nanotime", "internal/sync.runtime_SemacquireMutex", "sync/atomic.AddInt32", "(*internal/sync.Mutex).Unlock", "internal/race.ReleaseMerge", "(*internal/sync.Mutex).unlockSlow", "internal/sync.fatal", "internal/sync.runtime_Semrelease", "sync/atomic.StoreUint32", "sync/atomic.LoadInt64"], unfollowed := true, recurses := true, named := ["internal/bytealg.MaxLen"], apart := false, narrowed := true }
def KdcHandlesUptoSaid : Prop := kdcHandlesUptoRow.holds Tryz.pinned (OpenSpec.upto kdcHandlesSpec)

/-- 'legatelaw10.KdcOfNothing', WHERE WHAT IT READS IS OF BULK AT MOST 1048576: true; the input reads as it did. -/
def kdcOfNothingUptoRow : OpenClaim := { program := "ytfcjeebnkigeaaagreat", sum := "61b67f957a632e67ab93826804990ee6560b75310ec98886a4ae5204fb5b3475", func := "legate/legatelaw10.KdcOfNothing", spec := "kdcOfNothing", inPlace := ["internal/bytealg.IndexByteString", "internal/bytealg.IndexString", "sync/atomic.AddInt64", "sync/atomic.LoadUint32", "(*internal/sync.Mutex).Lock", "internal/race.Disable", "sync/atomic.CompareAndSwapInt32", "internal/race.Enable", "internal/race.Acquire", "(*internal/sync.Mutex).lockSlow", "internal/sync.runtime_canSpin", "internal/sync.runtime_doSpin", "internal/sync.throw", "internal/sync.runtime_nanotime", "internal/sync.runtime_SemacquireMutex", "sync/atomic.AddInt32", "(*internal/sync.Mutex).Unlock", "internal/race.ReleaseMerge", "(*internal/sync.Mutex).unlockSlow", "internal/sync.fatal", "internal/sync.runtime_Semrelease", "sync/atomic.StoreUint32", "sync/atomic.LoadInt64"], unfollowed := true, recurses := true, named := ["internal/bytealg.MaxLen"], apart := false, narrowed := true }
def KdcOfNothingUptoSaid : Prop := kdcOfNothingUptoRow.holds Tryz.pinned (OpenSpec.upto kdcOfNothingSpec)

/-- 'legatelaw10.KdcNonces', WHERE WHAT IT READS IS OF BULK AT MOST 1048576: true; the input reads as it did. -/
def kdcNoncesUptoRow : OpenClaim := { program := "ytfcjeebnkigeaaagreat", sum := "61b67f957a632e67ab93826804990ee6560b75310ec98886a4ae5204fb5b3475", func := "legate/legatelaw10.KdcNonces", spec := "kdcNonces", inPlace := ["internal/bytealg.IndexByteString", "internal/bytealg.IndexString", "sync/atomic.AddInt64", "sync/atomic.LoadUint32", "(*internal/sync.Mutex).Lock", "internal/race.Disable", "sync/atomic.CompareAndSwapInt32", "internal/race.Enable", "internal/race.Acquire", "(*internal/sync.Mutex).lockSlow", "internal/sync.runtime_canSpin", "internal/sync.runtime_doSpin", "internal/sync.throw", "internal/sync.runtime_nanotime", "internal/sync.runtime_SemacquireMutex", "sync/atomic.AddInt32", "(*internal/sync.Mutex).Unlock", "internal/race.ReleaseMerge", "(*internal/sync.Mutex).unlockSlow", "internal/sync.fatal", "internal/sync.runtime_Semrelease", "sync/atomic.StoreUint32", "sync/atomic.LoadInt64"], unfollowed := true, recurses := true, named := ["internal/bytealg.MaxLen"], apart := false, narrowed := true }
def KdcNoncesUptoSaid : Prop := kdcNoncesUptoRow.holds Tryz.pinned (OpenSpec.upto kdcNoncesSpec)

/-- 'legatelaw10.KdcUnknown', WHERE WHAT IT READS IS OF BULK AT MOST 1048576: true; the input reads as it did. -/
def kdcUnknownUptoRow : OpenClaim := { program := "ytfcjeebnkigeaaagreat", sum := "61b67f957a632e67ab93826804990ee6560b75310ec98886a4ae5204fb5b3475", func := "legate/legatelaw10.KdcUnknown", spec := "kdcUnknown", inPlace := ["internal/bytealg.IndexByteString", "internal/bytealg.IndexString", "sync/atomic.AddInt64", "sync/atomic.LoadUint32", "(*internal/sync.Mutex).Lock", "internal/race.Disable", "sync/atomic.CompareAndSwapInt32", "internal/race.Enable", "internal/race.Acquire", "(*internal/sync.Mutex).lockSlow", "internal/sync.runtime_canSpin", "internal/sync.runtime_doSpin", "internal/sync.throw", "internal/sync.runtime_nanotime", "internal/sync.runtime_SemacquireMutex", "sync/atomic.AddInt32", "(*internal/sync.Mutex).Unlock", "internal/race.ReleaseMerge", "(*internal/sync.Mutex).unlockSlow", "internal/sync.fatal", "internal/sync.runtime_Semrelease", "sync/atomic.StoreUint32", "sync/atomic.LoadInt64"], unfollowed := true, recurses := true, named := ["internal/bytealg.MaxLen"], apart := false, narrowed := true }
def KdcUnknownUptoSaid : Prop := kdcUnknownUptoRow.holds Tryz.pinned (OpenSpec.upto kdcUnknownSpec)

/-- 'legatelaw10.KdcHops', WHERE WHAT IT READS IS OF BULK AT MOST 1048576: true; the input reads as it did. -/
def kdcHopsUptoRow : OpenClaim := { program := "ytfcjeebnkigeaaagreat", sum := "61b67f957a632e67ab93826804990ee6560b75310ec98886a4ae5204fb5b3475", func := "legate/legatelaw10.KdcHops", spec := "kdcHops", inPlace := ["internal/bytealg.IndexByteString", "internal/bytealg.IndexString", "sync/atomic.LoadUint32", "(*internal/sync.Mutex).Lock", "internal/race.Disable", "sync/atomic.CompareAndSwapInt32", "internal/race.Enable", "internal/race.Acquire", "(*internal/sync.Mutex).lockSlow", "internal/sync.runtime_canSpin", "internal/sync.runtime_doSpin", "internal/sync.throw", "internal/sync.runtime_nanotime", "internal/sync.runtime_SemacquireMutex", "sync/atomic.AddInt32", "(*internal/sync.Mutex).Unlock", "internal/race.ReleaseMerge", "(*internal/sync.Mutex).unlockSlow", "internal/sync.fatal", "internal/sync.runtime_Semrelease", "sync/atomic.StoreUint32", "sync/atomic.AddInt64", "sync/atomic.LoadInt64"], unfollowed := true, recurses := true, named := ["internal/bytealg.MaxLen"], apart := false, narrowed := true }
def KdcHopsUptoSaid : Prop := kdcHopsUptoRow.holds Tryz.pinned (OpenSpec.upto kdcHopsSpec)

/-- 'legatelaw10.KdcTills', WHERE WHAT IT READS IS OF BULK AT MOST 1048576: true; the input reads as it did. -/
def kdcTillsUptoRow : OpenClaim := { program := "ytfcjeebnkigeaaagreat", sum := "61b67f957a632e67ab93826804990ee6560b75310ec98886a4ae5204fb5b3475", func := "legate/legatelaw10.KdcTills", spec := "kdcTills", inPlace := ["internal/bytealg.IndexByteString", "internal/bytealg.IndexString", "sync/atomic.LoadUint32", "(*internal/sync.Mutex).Lock", "internal/race.Disable", "sync/atomic.CompareAndSwapInt32", "internal/race.Enable", "internal/race.Acquire", "(*internal/sync.Mutex).lockSlow", "internal/sync.runtime_canSpin", "internal/sync.runtime_doSpin", "internal/sync.throw", "internal/sync.runtime_nanotime", "internal/sync.runtime_SemacquireMutex", "sync/atomic.AddInt32", "(*internal/sync.Mutex).Unlock", "internal/race.ReleaseMerge", "(*internal/sync.Mutex).unlockSlow", "internal/sync.fatal", "internal/sync.runtime_Semrelease", "sync/atomic.StoreUint32", "sync/atomic.AddInt64", "sync/atomic.LoadInt64"], unfollowed := true, recurses := true, named := ["internal/bytealg.MaxLen"], apart := false, narrowed := true }
def KdcTillsUptoSaid : Prop := kdcTillsUptoRow.holds Tryz.pinned (OpenSpec.upto kdcTillsSpec)

end Rows
end Go.Proofs.YtfcjeebnkigeaaaGreat
