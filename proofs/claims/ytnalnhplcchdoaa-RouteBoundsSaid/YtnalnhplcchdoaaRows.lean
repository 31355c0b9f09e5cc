/-
  No cell of these rows narrows 'for every input' (looked for: loops, veiled, ifaces, maps, wideKeys, modest, calm, conditions, laid).
  DERIVED. THE GIVEN ROWS OF THIS SEAT. 9 by the template 'for every input the law returns true; each argument reads behind the call as it read before'; 0 by the template 'total and deterministic' (their statements: YtnalnhplcchdoaaTotals.lean).
  GIVEN WITH THE SEED: the statements are not yours to turn. If you find one false, say at which input.
  Laid BY PROGRAM, IN A SANDBOX (cutbox-rows.mjs): the forced cells as the released guide's own fill.sh prints them over the translation 5f1fab5214765805… (all of the seat's roots in one cut). By AI agents, Wed Nov 11 2026. No macro, syntax, notation, axiom, sorry.
-/
import Derived.Test.YtnalnhplcchdoaaChecked
import GoSem.Claim
import GoSem.ClaimJoined
import GoSem.ClaimMapViews
import Derived.JoinedTies
import Derived.KernelRfl
namespace Go.Proofs.Ytnalnhplcchdoaa
/- THE CELL 'sum', in the pinned program and in every row, IS THE sha256 OF THE DUMP (.gsa) THAT YtnalnhplcchdoaaProg.lean LOADS. Nothing in Lean hashes anything: it is a label: what it is worth is what the hold of that sum in a sandbox is worth. -/
noncomputable def Try.pinned : Pinned := { name := "ytnalnhplcchdoaa", sum := "5f1fab52147658053c3af2a18781c9f21595ba5b1e401d37e872ce099dc6d248", checked := Try.checked }
namespace Rows
def none {H : Type} : Left H := { results := [], args := [] }

/-- 'legatelaw7.RouteMay': WHATEVER THE INPUT: true; the input reads as it did. -/
def routeMaySpec : ChangeSpec := { name := "routeMay", fn := fun _ => fun
  | [d] => { results := [.lit (.bool true)], args := [d] }
  | _ => none }
def routeMayRow : OpenClaim := { program := "ytnalnhplcchdoaa", sum := "5f1fab52147658053c3af2a18781c9f21595ba5b1e401d37e872ce099dc6d248", func := "legate/legatelaw7.RouteMay", spec := "routeMay", inPlace := ["internal/bytealg.IndexByteString", "internal/bytealg.IndexString"], unfollowed := true, recurses := true, named := ["internal/bytealg.MaxLen"], apart := false }
def RouteMaySaid : Prop := routeMayRow.holds Try.pinned (OpenSpec.ofChange routeMaySpec)

/-- ITS FALSE NEIGHBOUR: 'it returns false'. Refute it at one input. -/
def routeMayWrong : ChangeSpec := { name := "routeMay", fn := fun _ => fun
  | [d] => { results := [.lit (.bool false)], args := [d] }
  | _ => none }
def RouteMayWrongFalsely : Prop := routeMayRow.holds Try.pinned (OpenSpec.ofChange routeMayWrong)

/-- 'legatelaw7.RouteTells': WHATEVER THE INPUT: true; the input reads as it did. -/
def routeTellsSpec : ChangeSpec := { name := "routeTells", fn := fun _ => fun
  | [d1, d2, d3, d4] => { results := [.lit (.bool true)], args := [d1, d2, d3, d4] }
  | _ => none }
def routeTellsRow : OpenClaim := { program := "ytnalnhplcchdoaa", sum := "5f1fab52147658053c3af2a18781c9f21595ba5b1e401d37e872ce099dc6d248", func := "legate/legatelaw7.RouteTells", spec := "routeTells", inPlace := ["internal/bytealg.IndexByteString", "internal/bytealg.IndexString"], unfollowed := true, recurses := true, named := ["internal/bytealg.MaxLen"], apart := false }
def RouteTellsSaid : Prop := routeTellsRow.holds Try.pinned (OpenSpec.ofChange routeTellsSpec)

/-- ITS FALSE NEIGHBOUR: 'it returns false'. Refute it at one input. -/
def routeTellsWrong : ChangeSpec := { name := "routeTells", fn := fun _ => fun
  | [d1, d2, d3, d4] => { results := [.lit (.bool false)], args := [d1, d2, d3, d4] }
  | _ => none }
def RouteTellsWrongFalsely : Prop := routeTellsRow.holds Try.pinned (OpenSpec.ofChange routeTellsWrong)

/-- 'legatelaw7.RouteWalks': WHATEVER THE INPUT: true; the input reads as it did. -/
def routeWalksSpec : ChangeSpec := { name := "routeWalks", fn := fun _ => fun
  | [d1, d2, d3] => { results := [.lit (.bool true)], args := [d1, d2, d3] }
  | _ => none }
def routeWalksRow : OpenClaim := { program := "ytnalnhplcchdoaa", sum := "5f1fab52147658053c3af2a18781c9f21595ba5b1e401d37e872ce099dc6d248", func := "legate/legatelaw7.RouteWalks", spec := "routeWalks", inPlace := ["internal/bytealg.IndexByteString", "internal/bytealg.IndexString"], unfollowed := true, recurses := true, named := ["internal/bytealg.MaxLen"], apart := false }
def RouteWalksSaid : Prop := routeWalksRow.holds Try.pinned (OpenSpec.ofChange routeWalksSpec)

/-- ITS FALSE NEIGHBOUR: 'it returns false'. Refute it at one input. -/
def routeWalksWrong : ChangeSpec := { name := "routeWalks", fn := fun _ => fun
  | [d1, d2, d3] => { results := [.lit (.bool false)], args := [d1, d2, d3] }
  | _ => none }
def RouteWalksWrongFalsely : Prop := routeWalksRow.holds Try.pinned (OpenSpec.ofChange routeWalksWrong)

/-- 'legatelaw7.RouteTrees': WHATEVER THE INPUT: true; the input reads as it did. -/
def routeTreesSpec : ChangeSpec := { name := "routeTrees", fn := fun _ => fun
  | [d1, d2, d3] => { results := [.lit (.bool true)], args := [d1, d2, d3] }
  | _ => none }
def routeTreesRow : OpenClaim := { program := "ytnalnhplcchdoaa", sum := "5f1fab52147658053c3af2a18781c9f21595ba5b1e401d37e872ce099dc6d248", func := "legate/legatelaw7.RouteTrees", spec := "routeTrees", inPlace := ["internal/bytealg.IndexByteString", "internal/bytealg.IndexString"], unfollowed := true, recurses := true, named := ["internal/bytealg.MaxLen"], apart := false }
def RouteTreesSaid : Prop := routeTreesRow.holds Try.pinned (OpenSpec.ofChange routeTreesSpec)

/-- ITS FALSE NEIGHBOUR: 'it returns false'. Refute it at one input. -/
def routeTreesWrong : ChangeSpec := { name := "routeTrees", fn := fun _ => fun
  | [d1, d2, d3] => { results := [.lit (.bool false)], args := [d1, d2, d3] }
  | _ => none }
def RouteTreesWrongFalsely : Prop := routeTreesRow.holds Try.pinned (OpenSpec.ofChange routeTreesWrong)

/-- 'legatelaw7.RoutePaths': WHATEVER THE INPUT: true; the input reads as it did. -/
def routePathsSpec : ChangeSpec := { name := "routePaths", fn := fun _ => fun
  | [d1, d2] => { results := [.lit (.bool true)], args := [d1, d2] }
  | _ => none }
def routePathsRow : OpenClaim := { program := "ytnalnhplcchdoaa", sum := "5f1fab52147658053c3af2a18781c9f21595ba5b1e401d37e872ce099dc6d248", func := "legate/legatelaw7.RoutePaths", spec := "routePaths", inPlace := ["internal/bytealg.IndexByteString", "internal/bytealg.IndexString"], unfollowed := true, recurses := true, named := ["internal/bytealg.MaxLen"], apart := false }
def RoutePathsSaid : Prop := routePathsRow.holds Try.pinned (OpenSpec.ofChange routePathsSpec)

/-- ITS FALSE NEIGHBOUR: 'it returns false'. Refute it at one input. -/
def routePathsWrong : ChangeSpec := { name := "routePaths", fn := fun _ => fun
  | [d1, d2] => { results := [.lit (.bool false)], args := [d1, d2] }
  | _ => none }
def RoutePathsWrongFalsely : Prop := routePathsRow.holds Try.pinned (OpenSpec.ofChange routePathsWrong)

/-- 'legatelaw7.RouteDirect': WHATEVER THE INPUT: true; the input reads as it did. -/
def routeDirectSpec : ChangeSpec := { name := "routeDirect", fn := fun _ => fun
  | [d1, d2, d3] => { results := [.lit (.bool true)], args := [d1, d2, d3] }
  | _ => none }
def routeDirectRow : OpenClaim := { program := "ytnalnhplcchdoaa", sum := "5f1fab52147658053c3af2a18781c9f21595ba5b1e401d37e872ce099dc6d248", func := "legate/legatelaw7.RouteDirect", spec := "routeDirect", inPlace := ["internal/bytealg.IndexByteString", "internal/bytealg.IndexString"], unfollowed := true, recurses := true, named := ["internal/bytealg.MaxLen"], apart := false }
def RouteDirectSaid : Prop := routeDirectRow.holds Try.pinned (OpenSpec.ofChange routeDirectSpec)

/-- ITS FALSE NEIGHBOUR: 'it returns false'. Refute it at one input. -/
def routeDirectWrong : ChangeSpec := { name := "routeDirect", fn := fun _ => fun
  | [d1, d2, d3] => { results := [.lit (.bool false)], args := [d1, d2, d3] }
  | _ => none }
def RouteDirectWrongFalsely : Prop := routeDirectRow.holds Try.pinned (OpenSpec.ofChange routeDirectWrong)

/-- 'legatelaw7.RouteNone': WHATEVER THE INPUT: true; the input reads as it did. -/
def routeNoneSpec : ChangeSpec := { name := "routeNone", fn := fun _ => fun
  | [d1, d2, d3] => { results := [.lit (.bool true)], args := [d1, d2, d3] }
  | _ => none }
def routeNoneRow : OpenClaim := { program := "ytnalnhplcchdoaa", sum := "5f1fab52147658053c3af2a18781c9f21595ba5b1e401d37e872ce099dc6d248", func := "legate/legatelaw7.RouteNone", spec := "routeNone", inPlace := ["internal/bytealg.IndexByteString", "internal/bytealg.IndexString"], unfollowed := true, recurses := true, named := ["internal/bytealg.MaxLen"], apart := false }
def RouteNoneSaid : Prop := routeNoneRow.holds Try.pinned (OpenSpec.ofChange routeNoneSpec)

/-- ITS FALSE NEIGHBOUR: 'it returns false'. Refute it at one input. -/
def routeNoneWrong : ChangeSpec := { name := "routeNone", fn := fun _ => fun
  | [d1, d2, d3] => { results := [.lit (.bool false)], args := [d1, d2, d3] }
  | _ => none }
def RouteNoneWrongFalsely : Prop := routeNoneRow.holds Try.pinned (OpenSpec.ofChange routeNoneWrong)

/-- 'legatelaw7.RouteBounds': WHATEVER THE INPUT: true; the input reads as it did. -/
def routeBoundsSpec : ChangeSpec := { name := "routeBounds", fn := fun _ => fun
  | [d1, d2, d3] => { results := [.lit (.bool true)], args := [d1, d2, d3] }
  | _ => none }
def routeBoundsRow : OpenClaim := { program := "ytnalnhplcchdoaa", sum := "5f1fab52147658053c3af2a18781c9f21595ba5b1e401d37e872ce099dc6d248", func := "legate/legatelaw7.RouteBounds", spec := "routeBounds", inPlace := ["internal/bytealg.IndexByteString", "internal/bytealg.IndexString"], unfollowed := true, recurses := true, named := ["internal/bytealg.MaxLen"], apart := false }
def RouteBoundsSaid : Prop := routeBoundsRow.holds Try.pinned (OpenSpec.ofChange routeBoundsSpec)

/-- ITS FALSE NEIGHBOUR: 'it returns false'. Refute it at one input. -/
def routeBoundsWrong : ChangeSpec := { name := "routeBounds", fn := fun _ => fun
  | [d1, d2, d3] => { results := [.lit (.bool false)], args := [d1, d2, d3] }
  | _ => none }
def RouteBoundsWrongFalsely : Prop := routeBoundsRow.holds Try.pinned (OpenSpec.ofChange routeBoundsWrong)

/-- 'legatelaw7.RouteAllows': WHATEVER THE INPUT: true; the input reads as it did. -/
def routeAllowsSpec : ChangeSpec := { name := "routeAllows", fn := fun _ => fun
  | [d1, d2, d3] => { results := [.lit (.bool true)], args := [d1, d2, d3] }
  | _ => none }
def routeAllowsRow : OpenClaim := { program := "ytnalnhplcchdoaa", sum := "5f1fab52147658053c3af2a18781c9f21595ba5b1e401d37e872ce099dc6d248", func := "legate/legatelaw7.RouteAllows", spec := "routeAllows", inPlace := ["internal/bytealg.IndexByteString", "internal/bytealg.IndexString"], unfollowed := true, recurses := true, named := ["internal/bytealg.MaxLen"], apart := false }
def RouteAllowsSaid : Prop := routeAllowsRow.holds Try.pinned (OpenSpec.ofChange routeAllowsSpec)

/-- ITS FALSE NEIGHBOUR: 'it returns false'. Refute it at one input. -/
def routeAllowsWrong : ChangeSpec := { name := "routeAllows", fn := fun _ => fun
  | [d1, d2, d3] => { results := [.lit (.bool false)], args := [d1, d2, d3] }
  | _ => none }
def RouteAllowsWrongFalsely : Prop := routeAllowsRow.holds Try.pinned (OpenSpec.ofChange routeAllowsWrong)

/- THE SECOND FORM. 'bulk': how many values and letters a reading holds, each counted each time it is reached (what is shared counts as often as it is met; a slice's spare places count too). A statement '..UptoSaid' is the law's where the arguments, and the package variables that the reading takes, are together of bulk at most 1048576: NARROWER than '..Said'. Prove '..Said' where nothing that the law and all that it calls make is longer than what came in: it says more and counts as full. Else prove '..UptoSaid'. A law counts once. -/
mutual
def uptoBulk {H : Type} : DataW H → Nat
  | .lit (.string bytes) => bytes.length + 1
  | .lit _ => 1
  | .nil => 1
  | .ptr d => uptoBulk d + 1
  | .slice elems spare => uptoBulkAll elems + uptoBulkAll spare + 1
  | .agg parts => uptoBulkAll parts + 1
  | .iface _ d => uptoBulk d + 1
  | .map entries => uptoBulkEntries entries + 1
  | .held _ => 1
def uptoBulkAll {H : Type} : List (DataW H) → Nat
  | [] => 0
  | d :: r => uptoBulk d + uptoBulkAll r
def uptoBulkEntries {H : Type} : List (Lit × DataW H) → Nat
  | [] => 0
  | x :: r => uptoBulkEntry x + uptoBulkEntries r
def uptoBulkEntry {H : Type} : Lit × DataW H → Nat
  | (.string bytes, d) => bytes.length + uptoBulk d + 1
  | (_, d) => uptoBulk d + 1
 end
def uptoSmall : (H : Type) → List (DataW H) → Bool := fun _ ds => decide (uptoBulkAll ds ≤ 1048576)
def OpenSpec.upto (s : _root_.Go.ChangeSpec) : _root_.Go.OpenSpec := { _root_.Go.OpenSpec.ofChange s with cond := some uptoSmall }

/-- 'legatelaw7.RouteMay', WHERE WHAT IT READS IS OF BULK AT MOST 1048576: true; the input reads as it did. -/
def routeMayUptoRow : OpenClaim := { program := "ytnalnhplcchdoaa", sum := "5f1fab52147658053c3af2a18781c9f21595ba5b1e401d37e872ce099dc6d248", func := "legate/legatelaw7.RouteMay", spec := "routeMay", inPlace := ["internal/bytealg.IndexByteString", "internal/bytealg.IndexString"], unfollowed := true, recurses := true, named := ["internal/bytealg.MaxLen"], apart := false, narrowed := true }
def RouteMayUptoSaid : Prop := routeMayUptoRow.holds Try.pinned (OpenSpec.upto routeMaySpec)

/-- 'legatelaw7.RouteTells', WHERE WHAT IT READS IS OF BULK AT MOST 1048576: true; the input reads as it did. -/
def routeTellsUptoRow : OpenClaim := { program := "ytnalnhplcchdoaa", sum := "5f1fab52147658053c3af2a18781c9f21595ba5b1e401d37e872ce099dc6d248", func := "legate/legatelaw7.RouteTells", spec := "routeTells", inPlace := ["internal/bytealg.IndexByteString", "internal/bytealg.IndexString"], unfollowed := true, recurses := true, named := ["internal/bytealg.MaxLen"], apart := false, narrowed := true }
def RouteTellsUptoSaid : Prop := routeTellsUptoRow.holds Try.pinned (OpenSpec.upto routeTellsSpec)

/-- 'legatelaw7.RouteWalks', WHERE WHAT IT READS IS OF BULK AT MOST 1048576: true; the input reads as it did. -/
def routeWalksUptoRow : OpenClaim := { program := "ytnalnhplcchdoaa", sum := "5f1fab52147658053c3af2a18781c9f21595ba5b1e401d37e872ce099dc6d248", func := "legate/legatelaw7.RouteWalks", spec := "routeWalks", inPlace := ["internal/bytealg.IndexByteString", "internal/bytealg.IndexString"], unfollowed := true, recurses := true, named := ["internal/bytealg.MaxLen"], apart := false, narrowed := true }
def RouteWalksUptoSaid : Prop := routeWalksUptoRow.holds Try.pinned (OpenSpec.upto routeWalksSpec)

/-- 'legatelaw7.RouteTrees', WHERE WHAT IT READS IS OF BULK AT MOST 1048576: true; the input reads as it did. -/
def routeTreesUptoRow : OpenClaim := { program := "ytnalnhplcchdoaa", sum := "5f1fab52147658053c3af2a18781c9f21595ba5b1e401d37e872ce099dc6d248", func := "legate/legatelaw7.RouteTrees", spec := "routeTrees", inPlace := ["internal/bytealg.IndexByteString", "internal/bytealg.IndexString"], unfollowed := true, recurses := true, named := ["internal/bytealg.MaxLen"], apart := false, narrowed := true }
def RouteTreesUptoSaid : Prop := routeTreesUptoRow.holds Try.pinned (OpenSpec.upto routeTreesSpec)

/-- 'legatelaw7.RoutePaths', WHERE WHAT IT READS IS OF BULK AT MOST 1048576: true; the input reads as it did. -/
def routePathsUptoRow : OpenClaim := { program := "ytnalnhplcchdoaa", sum := "5f1fab52147658053c3af2a18781c9f21595ba5b1e401d37e872ce099dc6d248", func := "legate/legatelaw7.RoutePaths", spec := "routePaths", inPlace := ["internal/bytealg.IndexByteString", "internal/bytealg.IndexString"], unfollowed := true, recurses := true, named := ["internal/bytealg.MaxLen"], apart := false, narrowed := true }
def RoutePathsUptoSaid : Prop := routePathsUptoRow.holds Try.pinned (OpenSpec.upto routePathsSpec)

/-- 'legatelaw7.RouteDirect', WHERE WHAT IT READS IS OF BULK AT MOST 1048576: true; the input reads as it did. -/
def routeDirectUptoRow : OpenClaim := { program := "ytnalnhplcchdoaa", sum := "5f1fab52147658053c3af2a18781c9f21595ba5b1e401d37e872ce099dc6d248", func := "legate/legatelaw7.RouteDirect", spec := "routeDirect", inPlace := ["internal/bytealg.IndexByteString", "internal/bytealg.IndexString"], unfollowed := true, recurses := true, named := ["internal/bytealg.MaxLen"], apart := false, narrowed := true }
def RouteDirectUptoSaid : Prop := routeDirectUptoRow.holds Try.pinned (OpenSpec.upto routeDirectSpec)

/-- 'legatelaw7.RouteNone', WHERE WHAT IT READS IS OF BULK AT MOST 1048576: true; the input reads as it did. -/
def routeNoneUptoRow : OpenClaim := { program := "ytnalnhplcchdoaa", sum := "5f1fab52147658053c3af2a18781c9f21595ba5b1e401d37e872ce099dc6d248", func := "legate/legatelaw7.RouteNone", spec := "routeNone", inPlace := ["internal/bytealg.IndexByteString", "internal/bytealg.IndexString"], unfollowed := true, recurses := true, named := ["internal/bytealg.MaxLen"], apart := false, narrowed := true }
def RouteNoneUptoSaid : Prop := routeNoneUptoRow.holds Try.pinned (OpenSpec.upto routeNoneSpec)

/-- 'legatelaw7.RouteBounds', WHERE WHAT IT READS IS OF BULK AT MOST 1048576: true; the input reads as it did. -/
def routeBoundsUptoRow : OpenClaim := { program := "ytnalnhplcchdoaa", sum := "5f1fab52147658053c3af2a18781c9f21595ba5b1e401d37e872ce099dc6d248", func := "legate/legatelaw7.RouteBounds", spec := "routeBounds", inPlace := ["internal/bytealg.IndexByteString", "internal/bytealg.IndexString"], unfollowed := true, recurses := true, named := ["internal/bytealg.MaxLen"], apart := false, narrowed := true }
def RouteBoundsUptoSaid : Prop := routeBoundsUptoRow.holds Try.pinned (OpenSpec.upto routeBoundsSpec)

/-- 'legatelaw7.RouteAllows', WHERE WHAT IT READS IS OF BULK AT MOST 1048576: true; the input reads as it did. -/
def routeAllowsUptoRow : OpenClaim := { program := "ytnalnhplcchdoaa", sum := "5f1fab52147658053c3af2a18781c9f21595ba5b1e401d37e872ce099dc6d248", func := "legate/legatelaw7.RouteAllows", spec := "routeAllows", inPlace := ["internal/bytealg.IndexByteString", "internal/bytealg.IndexString"], unfollowed := true, recurses := true, named := ["internal/bytealg.MaxLen"], apart := false, narrowed := true }
def RouteAllowsUptoSaid : Prop := routeAllowsUptoRow.holds Try.pinned (OpenSpec.upto routeAllowsSpec)

end Rows
end Go.Proofs.Ytnalnhplcchdoaa
