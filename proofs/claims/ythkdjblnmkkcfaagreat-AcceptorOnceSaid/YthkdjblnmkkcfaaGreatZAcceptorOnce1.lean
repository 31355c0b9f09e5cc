import Derived.WalkKit
import Derived.WalkSpells
import Derived.WalkLawsBesides
import Derived.LaidEqlPtr
import Derived.Maps.AppendAt
import Derived.Maps.Range
import Derived.Maps.RangeWalk
import Derived.Deep.AppendLies
import Derived.Deep.Draws
import Derived.Deep.Onto
import Derived.Lib.ConvBytes
import Derived.Lib.Hide
import Derived.RegionTactic
import Derived.Deep.QuietTactic
import Derived.BigQuiet
import Derived.Laws.BitsAllLaws
import Derived.Laws.BitsLemmas
import Derived.Test.YthkdjblnmkkcfaaGreatProg
import Derived.Lib.Strings
import Derived.Lib.Walk
import Derived.Lib.Bytealg
import Derived.Lib.BufferWrite
import Derived.Lib.UnsafeStr
import Derived.Laws.MakeOwn
import Derived.Laws.OwnMore
import Derived.Deep.WholeRow
import Derived.Deep.LoopGhost
import Derived.Lib.ItoaNum
import Derived.Lib.BitFns
import Derived.Lib.Tables
import Derived.Lib.MinMax
import Derived.IntWalk
import Derived.Laws.AppendOwn
import Derived.Lib.AppendStr
import Derived.DeepKeys
import Derived.Deep.RegionHeld3
import Derived.Deep.Cut
import Derived.Deep.CutRange
import Derived.Deep.CutBlock
import Derived.Deep.MidRow
import Derived.StillTailTactics
import Derived.Laws.Bits64
import Derived.Deep.RegionLaw
import Derived.Laws.Bits64b
import Derived.ProofKit
import Derived.OpenShut
import Derived.ShutString
import Derived.ChangeOld
import Derived.Deep.Matrix
import Derived.Deep.Slices
import Derived.SizedLaws
import Derived.Test.YthkdjblnmkkcfaaGreatRows
import Derived.Lib.SmallJoins
import Derived.Deep.Strs
import Derived.ChangeSame
import Derived.Deep.Grids
import Derived.Lib.SlBytesConst
import Derived.BigFrame
import Derived.Great.BuildSlice
import Derived.Laws.StructEq
import Derived.Lib.SliceRun
import Derived.Maps.OwnSet
import Derived.DeepKeys4
import Derived.Laws.IdiomCopy
import Derived.Laws.Tables
import Derived.Below
set_option maxHeartbeats 25600000
set_option maxRecDepth 100000
set_option linter.unusedVariables false
set_option linter.unusedSimpArgs false
theorem Go.RowKit.Hid.o {p : Prop} (h : Go.RowKit.Hid p) : p := h
theorem Go.Aside.o {p : Prop} (h : Go.Aside p) : p := h
theorem Go.Shut.o {p : Prop} (h : Go.Shut p) : p := h
namespace Go.Proofs.YthkdjblnmkkcfaaGreat
theorem I {p : Prop} (h : p) : Go.RowKit.Hid p := h
theorem Aj {P:Program} {f:FuncId} {args:Array Value} {w:World} {r:Ending} {K:World->Prop} {Q:Ending->World->Prop} (h:Calls P f args w fun e w'=>e=r/\K w') (k:∀w',K w'->Q r w'):Calls P f args w Q:=h.mono fun e w' x=>x.1.symm▸k w' x.2
theorem Ak {α:Sort _} (a:α):∃x,x=a:=⟨a,rfl⟩
theorem Ag {n : Nat} : n <= n := Nat.le_refl n
theorem Ah {n : Nat} {w : World} : Go.RowKit.Below n w w := Go.RowKit.Below.refl n w
theorem U {α : Type} (l : List α) (i : Nat) (a : α) : l.toArray.setIfInBounds i a = (l.set i a).toArray := List.setIfInBounds_toArray ..
theorem Aa {α : Type} {x : α} {xs : List α} {a : α} : (x :: xs).set 0 a = a :: xs := rfl
theorem Ab {α : Type} {x : α} {xs : List α} {n : Nat} {a : α} : (x :: xs).set (n + 1) a = x :: xs.set n a := rfl
abbrev Ax : Array Go.Value := #[.string ⟨#[]⟩,.string ⟨#[]⟩,.int .u8 0,.int .u8 0,.int .u8 0,.int .u8 0,.int .u8 0,.int .u8 0,.int .u8 0,.int .u8 0,.int .u8 0,.int .u8 0,.int .u8 0,.int .u8 0,.int .u8 0,.int .u8 0,.int .u8 0,.int .u8 0,.int .u8 0,.int .u8 0,.int .u8 0,.int .u8 0,.int .u8 0,.int .u8 0,.int .u8 0,.int .u8 0,.int .u8 0,.int .u8 0,.int .u8 0,.int .u8 0,.int .u8 0,.int .u8 0,.int .u8 0,.int .u8 0,.string ⟨#[]⟩,.int .i64 0,.int .i64 0]
abbrev Ay : Array Go.Value := #[.int .i64 0,.string ⟨#[]⟩,.string ⟨#[]⟩,.string ⟨#[]⟩,.string ⟨#[]⟩,.int .i64 0,.int .i64 0,.string ⟨#[]⟩,.string ⟨#[]⟩,.int .i64 0,.slice none 0 0,.slice none 0 0,.string ⟨#[]⟩,.string ⟨#[]⟩,.int .i64 0,.int .i64 0,.string ⟨#[]⟩,.string ⟨#[]⟩,.string ⟨#[]⟩,.string ⟨#[]⟩,.int .i64 0,.slice none 0 0,.slice none 0 0,.string ⟨#[]⟩,.string ⟨#[]⟩,.int .i64 0,.slice none 0 0,.slice none 0 0,.int .i64 0,.int .i64 0]
end Go.Proofs.YthkdjblnmkkcfaaGreat
theorem Go.RowKit.Hid.t {a w w' : Go.World} (h : Go.RowKit.Hid (Go.RowKit.Below a.heap.size a w)) (k : Go.RowKit.Below w.heap.size w w') : Go.RowKit.Hid (Go.RowKit.Below a.heap.size a w') := Go.Proofs.YthkdjblnmkkcfaaGreat.I (h.o.trans (k.mono h.o.size))
namespace Go.Proofs.YthkdjblnmkkcfaaGreat
namespace Af
open Go.RowKit
theorem Ep (l:List UInt8) (i:Nat) (h:i<(ByteArray.mk l.toArray).size):(ByteArray.mk l.toArray)[i]'h=l[i]'(by simpa [ByteArray.size] using h):=rfl
theorem Cg (a:UInt8) (r:List UInt8):(ByteArray.mk (a :: r).toArray).extract 1 (r.length+1)=ByteArray.mk r.toArray:=by
 rw[ByteArray.extract_mk];simp
theorem Ch (l:List UInt8) (k:Nat):(ByteArray.mk l.toArray).extract k l.length=ByteArray.mk (l.drop k).toArray:=by
 rw[ByteArray.extract_mk,List.take_of_length_le (by simp)]
theorem Dy (l:List UInt8) (k n:Nat):(ByteArray.mk l.toArray).extract k (k+n)=ByteArray.mk ((l.drop k).take n).toArray:=by
 rw[ByteArray.extract_mk,Nat.add_sub_cancel_left]
theorem Fo (a:UInt8):(a.toNat:Int)<=255:=by have:=a.toNat_lt;omega
theorem Rx (a:Nat) (M:a<9223372036854775808):(BitVec.ofInt 64 (a:Int)).toNat=a:=by
 rw[BitVec.ofInt_natCast,BitVec.toNat_ofNat];exact Nat.mod_eq_of_lt (by omega)
theorem Ry (x y:Nat) (hy:y<256) (M:x*256+y<9223372036854775808):bits .or .i64 ((x:Int)*256) (y:Int)=(x:Int)*256+y:=by
 have O:=Rx (x*256) (Nat.lt_of_le_of_lt (Nat.le_add_right _ _) M);have g2:=Rx y (Nat.lt_of_le_of_lt (Nat.le_add_left _ _) M);have e:((x:Int)*256)=((x*256:Nat):Int):=by omega
 have Z:x*256 ||| y=x*256+y:=by
  have h:=Nat.shiftLeft_add_eq_or_of_lt (show y<2 ^ 8 by omega) x;rw[Nat.shiftLeft_eq] at h
  simpa using h.symm
 rw[e];show IntKind.i64.wrap ((BitVec.ofInt 64 ((x*256:Nat):Int) ||| BitVec.ofInt 64 (y:Int)).toNat:Int)=_;rw[BitVec.toNat_or,O,g2,Z,IntKind.wrap_i64];omega
def bv (b:UInt8):Value:=.int .u8 (b.toNat:Int)
def bvs (l:List UInt8):List Value:=l.map bv
theorem AG (l:List UInt8):(bvs l).length=l.length:=by simp [bvs]
theorem Bz (l m:List UInt8):bvs (l++m)=bvs l++bvs m:=by simp [bvs]
theorem BA (l:List UInt8):∀u∈bvs l,u.oneCell'=true:=by
 intro u hu;obtain⟨b,_,rfl⟩:=List.mem_map.1 hu
 rfl
theorem Gf {l:List UInt8} {i:Nat} (h:i<l.length):(bvs l)[i]? = some (bv l[i]):=by simp [bvs,h]
def Rd (w:World) (B:Nat) (A:Option Addr) (xs:List Value):Prop:=
 xs = []\/∃b o,A=some ⟨b,o,none⟩/\b<B/\∀i u,xs[i]? = some u->w.cell? ⟨b,o+i,none⟩=some u
def Blk (w:World) (g:Nat) (t:TypeId) (cs:Array Value):Prop:=w.heap[g]? = some (.cells cs t (0,0))
theorem addr_add (b o j:Nat):(⟨b,o,none⟩:Addr).add j=⟨b,o+j,none⟩:=by unfold Addr.add;split<;>simp_all
section
variable {w w' a c:World} {B B' g:Nat} {A:Option Addr} {xs:List Value} {t:TypeId} {cs:Array Value}
theorem IV {row:Option Nat} (h:a.grownBy w row) (n:Nat):a.grownBy (w.drewN n) row:=⟨h.os,h.tape,h.output,h.size,h.block⟩
theorem Ba {row:Option Nat} (h:a.grownBy w row):a.grownBy w.drew row:=⟨h.os,h.tape,h.output,h.size,h.block⟩
theorem DJ {row:Option Nat} (h:a.grownBy w row) (o:Obj):a.grownBy (w.alloc o) row:=
 ⟨h.os,h.tape,h.output,Nat.le_trans h.size (by simp),fun i hi M=>(Below.heap_alloc w o i (Nat.lt_of_lt_of_le hi h.size)).trans (h.block i hi M)⟩
theorem AM {row:Option Nat} (h:a.grownBy w row) {p:Addr} (hp:row=some p.block\/a.heap.size<=p.block) (u:Value):a.grownBy (w.setCell p u) row:=
 ⟨h.os,h.tape,h.output,by simpa [World.setCell] using h.size,fun i hi M=>(Below.heap_setCell w p u i (by
  rintro rfl;rcases hp with hp | hp
  ·exact M hp.symm
  ·omega)).trans (h.block i hi M)⟩
theorem Dg (h:Below a.heap.size a w) (row:Option Nat):a.grownBy w row:=⟨h.os,h.tape,h.output,h.size,fun i hi _=>h.block i hi⟩
theorem IW {row:Option Nat} (h:a.grownBy w row) (k:Below w.heap.size w c):a.grownBy c row:=
 ⟨k.os.trans h.os,k.tape.trans h.tape,k.output.trans h.output,Nat.le_trans h.size k.size,fun i hi M=>(k.block i (Nat.lt_of_lt_of_le hi h.size)).trans (h.block i hi M)⟩
theorem Hn (h:Below B a w) (hB:B<=w.heap.size) (k:Below w.heap.size w c):Below B a c:=h.trans (k.mono hB)
theorem Az (h:Below B a w) (k:w.grownBy c (some g)) (hB:B<=w.heap.size) (O:B<=g):Below B a c:=
 h.grown k hB (fun j M=>by injection M with M;omega)
theorem bt (h:Below a.heap.size a w) (k:Below w.heap.size w c):Below a.heap.size a c:=h.trans (k.mono h.size)
theorem Blk.lt (h:Blk w g t cs):g<w.heap.size:=by
 rcases Nat.lt_or_ge g w.heap.size with M | M
 ·exact M
 ·unfold Blk at h;rw[Array.getElem?_eq_none M] at h;cases h
theorem Blk.cell (h:Blk w g t cs) (i:Nat):w.cell? ⟨g,i,none⟩=cs[i]?:=cell_of_row w g i cs t (0,0) h
theorem Blk.frozen (h:Blk w g t cs) (i:Nat):w.frozen? ⟨g,i,none⟩=false:=by
 unfold Blk at h;simp [World.frozen?,h]
theorem Blk.new (w:World) (t:TypeId) (cs:Array Value):Blk (w.alloc (.cells cs t)) w.heap.size t cs:=heap_alloc_new w _
theorem Blk.drewN (h:Blk w g t cs) (n:Nat):Blk (w.drewN n) g t cs:=h
theorem Blk.alloc (h:Blk w g t cs) (o:Obj):Blk (w.alloc o) g t cs:=(Below.heap_alloc w o g h.lt).trans h
theorem Blk.set (h:Blk w g t cs) (i:Nat) (u:Value):Blk (w.setCell ⟨g,i,none⟩ u) g t (cs.setIfInBounds i u):=by
 unfold Blk at h⊢;simp [World.setCell,Array.getElem?_modify,h]
section
variable {w:World} {g:Nat} {t:TypeId} {a b c d e f i j k m n o p q r u v y z A B C D E F G H J K x:Value} {l:List Value}
theorem Blk.c0 (h:Blk w g t (x::l).toArray):w.cell? ⟨g,0,none⟩=some x:=by simpa using h.cell 0
theorem Blk.c1 (h:Blk w g t (a::x::l).toArray):w.cell? ⟨g,1,none⟩=some x:=by simpa using h.cell 1
theorem Blk.c2 (h:Blk w g t (a::b::x::l).toArray):w.cell? ⟨g,2,none⟩=some x:=by simpa using h.cell 2
theorem Blk.c3 (h:Blk w g t (a::b::c::x::l).toArray):w.cell? ⟨g,3,none⟩=some x:=by simpa using h.cell 3
theorem Blk.c4 (h:Blk w g t (a::b::c::d::x::l).toArray):w.cell? ⟨g,4,none⟩=some x:=by simpa using h.cell 4
theorem Blk.c5 (h:Blk w g t (a::b::c::d::e::x::l).toArray):w.cell? ⟨g,5,none⟩=some x:=by simpa using h.cell 5
theorem Blk.c6 (h:Blk w g t (a::b::c::d::e::f::x::l).toArray):w.cell? ⟨g,6,none⟩=some x:=by simpa using h.cell 6
theorem Blk.c7 (h:Blk w g t (a::b::c::d::e::f::i::x::l).toArray):w.cell? ⟨g,7,none⟩=some x:=by simpa using h.cell 7
theorem Blk.c8 (h:Blk w g t (a::b::c::d::e::f::i::j::x::l).toArray):w.cell? ⟨g,8,none⟩=some x:=by simpa using h.cell 8
theorem Blk.c9 (h:Blk w g t (a::b::c::d::e::f::i::j::k::x::l).toArray):w.cell? ⟨g,9,none⟩=some x:=by simpa using h.cell 9
theorem Blk.c10 (h:Blk w g t (a::b::c::d::e::f::i::j::k::m::x::l).toArray):w.cell? ⟨g,10,none⟩=some x:=by simpa using h.cell 10
theorem Blk.c11 (h:Blk w g t (a::b::c::d::e::f::i::j::k::m::n::x::l).toArray):w.cell? ⟨g,11,none⟩=some x:=by simpa using h.cell 11
theorem Blk.c12 (h:Blk w g t (a::b::c::d::e::f::i::j::k::m::n::o::x::l).toArray):w.cell? ⟨g,12,none⟩=some x:=by simpa using h.cell 12
theorem Blk.c13 (h:Blk w g t (a::b::c::d::e::f::i::j::k::m::n::o::p::x::l).toArray):w.cell? ⟨g,13,none⟩=some x:=by simpa using h.cell 13
theorem Blk.c14 (h:Blk w g t (a::b::c::d::e::f::i::j::k::m::n::o::p::q::x::l).toArray):w.cell? ⟨g,14,none⟩=some x:=by simpa using h.cell 14
theorem Blk.c15 (h:Blk w g t (a::b::c::d::e::f::i::j::k::m::n::o::p::q::r::x::l).toArray):w.cell? ⟨g,15,none⟩=some x:=by simpa using h.cell 15
theorem Blk.c16 (h:Blk w g t (a::b::c::d::e::f::i::j::k::m::n::o::p::q::r::u::x::l).toArray):w.cell? ⟨g,16,none⟩=some x:=by simpa using h.cell 16
theorem Blk.c17 (h:Blk w g t (a::b::c::d::e::f::i::j::k::m::n::o::p::q::r::u::v::x::l).toArray):w.cell? ⟨g,17,none⟩=some x:=by simpa using h.cell 17
theorem Blk.c18 (h:Blk w g t (a::b::c::d::e::f::i::j::k::m::n::o::p::q::r::u::v::y::x::l).toArray):w.cell? ⟨g,18,none⟩=some x:=by simpa using h.cell 18
theorem Blk.c19 (h:Blk w g t (a::b::c::d::e::f::i::j::k::m::n::o::p::q::r::u::v::y::z::x::l).toArray):w.cell? ⟨g,19,none⟩=some x:=by simpa using h.cell 19
theorem Blk.c20 (h:Blk w g t (a::b::c::d::e::f::i::j::k::m::n::o::p::q::r::u::v::y::z::A::x::l).toArray):w.cell? ⟨g,20,none⟩=some x:=by simpa using h.cell 20
theorem Blk.c21 (h:Blk w g t (a::b::c::d::e::f::i::j::k::m::n::o::p::q::r::u::v::y::z::A::B::x::l).toArray):w.cell? ⟨g,21,none⟩=some x:=by simpa using h.cell 21
theorem Blk.c22 (h:Blk w g t (a::b::c::d::e::f::i::j::k::m::n::o::p::q::r::u::v::y::z::A::B::C::x::l).toArray):w.cell? ⟨g,22,none⟩=some x:=by simpa using h.cell 22
theorem Blk.c23 (h:Blk w g t (a::b::c::d::e::f::i::j::k::m::n::o::p::q::r::u::v::y::z::A::B::C::D::x::l).toArray):w.cell? ⟨g,23,none⟩=some x:=by simpa using h.cell 23
theorem Blk.c24 (h:Blk w g t (a::b::c::d::e::f::i::j::k::m::n::o::p::q::r::u::v::y::z::A::B::C::D::E::x::l).toArray):w.cell? ⟨g,24,none⟩=some x:=by simpa using h.cell 24
theorem Blk.c25 (h:Blk w g t (a::b::c::d::e::f::i::j::k::m::n::o::p::q::r::u::v::y::z::A::B::C::D::E::F::x::l).toArray):w.cell? ⟨g,25,none⟩=some x:=by simpa using h.cell 25
theorem Blk.c26 (h:Blk w g t (a::b::c::d::e::f::i::j::k::m::n::o::p::q::r::u::v::y::z::A::B::C::D::E::F::G::x::l).toArray):w.cell? ⟨g,26,none⟩=some x:=by simpa using h.cell 26
theorem Blk.c27 (h:Blk w g t (a::b::c::d::e::f::i::j::k::m::n::o::p::q::r::u::v::y::z::A::B::C::D::E::F::G::H::x::l).toArray):w.cell? ⟨g,27,none⟩=some x:=by simpa using h.cell 27
theorem Blk.c28 (h:Blk w g t (a::b::c::d::e::f::i::j::k::m::n::o::p::q::r::u::v::y::z::A::B::C::D::E::F::G::H::J::x::l).toArray):w.cell? ⟨g,28,none⟩=some x:=by simpa using h.cell 28
theorem Blk.c29 (h:Blk w g t (a::b::c::d::e::f::i::j::k::m::n::o::p::q::r::u::v::y::z::A::B::C::D::E::F::G::H::J::K::x::l).toArray):w.cell? ⟨g,29,none⟩=some x:=by simpa using h.cell 29
theorem _root_.Go.RowKit.Hid.c0 (h:Go.RowKit.Hid (Blk w g t (x::l).toArray)):w.cell? ⟨g,0,none⟩=some x:=h.o.c0
theorem _root_.Go.RowKit.Hid.c1 (h:Go.RowKit.Hid (Blk w g t (a::x::l).toArray)):w.cell? ⟨g,1,none⟩=some x:=h.o.c1
theorem _root_.Go.RowKit.Hid.c2 (h:Go.RowKit.Hid (Blk w g t (a::b::x::l).toArray)):w.cell? ⟨g,2,none⟩=some x:=h.o.c2
theorem _root_.Go.RowKit.Hid.c3 (h:Go.RowKit.Hid (Blk w g t (a::b::c::x::l).toArray)):w.cell? ⟨g,3,none⟩=some x:=h.o.c3
theorem _root_.Go.RowKit.Hid.c4 (h:Go.RowKit.Hid (Blk w g t (a::b::c::d::x::l).toArray)):w.cell? ⟨g,4,none⟩=some x:=h.o.c4
theorem _root_.Go.RowKit.Hid.c5 (h:Go.RowKit.Hid (Blk w g t (a::b::c::d::e::x::l).toArray)):w.cell? ⟨g,5,none⟩=some x:=h.o.c5
theorem _root_.Go.RowKit.Hid.c6 (h:Go.RowKit.Hid (Blk w g t (a::b::c::d::e::f::x::l).toArray)):w.cell? ⟨g,6,none⟩=some x:=h.o.c6
theorem _root_.Go.RowKit.Hid.c7 (h:Go.RowKit.Hid (Blk w g t (a::b::c::d::e::f::i::x::l).toArray)):w.cell? ⟨g,7,none⟩=some x:=h.o.c7
theorem _root_.Go.RowKit.Hid.c8 (h:Go.RowKit.Hid (Blk w g t (a::b::c::d::e::f::i::j::x::l).toArray)):w.cell? ⟨g,8,none⟩=some x:=h.o.c8
theorem _root_.Go.RowKit.Hid.c16 (h:Go.RowKit.Hid (Blk w g t (a::b::c::d::e::f::i::j::k::m::n::o::p::q::r::u::x::l).toArray)):w.cell? ⟨g,16,none⟩=some x:=h.o.c16
theorem _root_.Go.RowKit.Hid.c17 (h:Go.RowKit.Hid (Blk w g t (a::b::c::d::e::f::i::j::k::m::n::o::p::q::r::u::v::x::l).toArray)):w.cell? ⟨g,17,none⟩=some x:=h.o.c17
theorem _root_.Go.RowKit.Hid.c18 (h:Go.RowKit.Hid (Blk w g t (a::b::c::d::e::f::i::j::k::m::n::o::p::q::r::u::v::y::x::l).toArray)):w.cell? ⟨g,18,none⟩=some x:=h.o.c18
theorem _root_.Go.RowKit.Hid.c19 (h:Go.RowKit.Hid (Blk w g t (a::b::c::d::e::f::i::j::k::m::n::o::p::q::r::u::v::y::z::x::l).toArray)):w.cell? ⟨g,19,none⟩=some x:=h.o.c19
theorem _root_.Go.RowKit.Hid.c20 (h:Go.RowKit.Hid (Blk w g t (a::b::c::d::e::f::i::j::k::m::n::o::p::q::r::u::v::y::z::A::x::l).toArray)):w.cell? ⟨g,20,none⟩=some x:=h.o.c20
theorem _root_.Go.RowKit.Hid.c21 (h:Go.RowKit.Hid (Blk w g t (a::b::c::d::e::f::i::j::k::m::n::o::p::q::r::u::v::y::z::A::B::x::l).toArray)):w.cell? ⟨g,21,none⟩=some x:=h.o.c21
theorem _root_.Go.RowKit.Hid.c22 (h:Go.RowKit.Hid (Blk w g t (a::b::c::d::e::f::i::j::k::m::n::o::p::q::r::u::v::y::z::A::B::C::x::l).toArray)):w.cell? ⟨g,22,none⟩=some x:=h.o.c22
theorem _root_.Go.RowKit.Hid.c23 (h:Go.RowKit.Hid (Blk w g t (a::b::c::d::e::f::i::j::k::m::n::o::p::q::r::u::v::y::z::A::B::C::D::x::l).toArray)):w.cell? ⟨g,23,none⟩=some x:=h.o.c23
theorem _root_.Go.RowKit.Hid.c24 (h:Go.RowKit.Hid (Blk w g t (a::b::c::d::e::f::i::j::k::m::n::o::p::q::r::u::v::y::z::A::B::C::D::E::x::l).toArray)):w.cell? ⟨g,24,none⟩=some x:=h.o.c24
theorem _root_.Go.RowKit.Hid.c25 (h:Go.RowKit.Hid (Blk w g t (a::b::c::d::e::f::i::j::k::m::n::o::p::q::r::u::v::y::z::A::B::C::D::E::F::x::l).toArray)):w.cell? ⟨g,25,none⟩=some x:=h.o.c25
theorem _root_.Go.RowKit.Hid.c26 (h:Go.RowKit.Hid (Blk w g t (a::b::c::d::e::f::i::j::k::m::n::o::p::q::r::u::v::y::z::A::B::C::D::E::F::G::x::l).toArray)):w.cell? ⟨g,26,none⟩=some x:=h.o.c26
theorem _root_.Go.RowKit.Hid.c27 (h:Go.RowKit.Hid (Blk w g t (a::b::c::d::e::f::i::j::k::m::n::o::p::q::r::u::v::y::z::A::B::C::D::E::F::G::H::x::l).toArray)):w.cell? ⟨g,27,none⟩=some x:=h.o.c27
end
theorem Blk.below (h:Blk w g t cs) (M:Below w.heap.size w w'):Blk w' g t cs:=(M.block g h.lt).trans h
theorem Blk.grown {row:Option Nat} (h:Blk w g t cs) (O:w.grownBy w' row) (M:row≠some g):Blk w' g t cs:=(O.block g h.lt (fun e=>M e.symm)).trans h
theorem Rd.keep (h:Rd w B A xs) (hk:∀b o,b<B->w'.cell? ⟨b,o,none⟩=w.cell? ⟨b,o,none⟩):Rd w' B A xs:=by
 rcases h with h | ⟨b,o,Z,M,O⟩
 ·exact .inl h
 ·exact .inr ⟨b,o,Z,M,fun i u hu=>(hk _ _ M).trans (O i u hu)⟩
theorem Rd.more (h:Rd w B A xs) (hB:B<=B'):Rd w B' A xs:=by
 rcases h with h | ⟨b,o,O,Z,M⟩
 ·exact .inl h
 ·exact .inr ⟨b,o,O,by omega,M⟩
theorem Rd.below (h:Rd w B A xs) (M:Below B w w'):Rd w' B A xs:=h.keep fun _ _ hp=>M.cell hp
theorem Rd.drewN (h:Rd w B A xs) (n:Nat):Rd (w.drewN n) B A xs:=h.keep fun _ _ _=>rfl
theorem Rd.alloc (h:Rd w B A xs) (hB:B<=w.heap.size) (o:Obj):Rd (w.alloc o) B A xs:=
 h.below ((Below.refl B w).alloc hB o)
theorem Rd.grown {row:Option Nat} (h:Rd w B A xs) (M:w.grownBy w' row) (hB:B<=w.heap.size) (O:∀k,row=some k->B<=k):Rd w' B A xs:=
 h.below ((Below.refl B w).grown M hB O)
theorem Rd.of_own {base n cap:Nat} (h:w.ownsRow base t 1 (.slice A n cap) n xs):Rd w w.heap.size A xs:=by
 rcases h.2 with⟨_,h2⟩ | ⟨g,M,cur,hv,_,Z,_⟩
 ·left
  have O:=h.1;rw[h2] at O;exact List.eq_nil_of_length_eq_zero (by simpa using O)
 ·right
  injection hv with hA _ _;subst hA;exact⟨g,0,rfl,(Array.getElem?_eq_some_iff.1 Z).1,fun i u hu=>by
   have:=h.cells (g:=g) rfl i u hu
   rwa [addr_add] at this⟩
theorem BS {base n size:Nat} {v:Value} (h:w.ownsRow base t size v n xs) (M:Below w.heap.size w w'):w'.ownsRow base t size v n xs:=
 h.kept (Dg M none) (by cases v.ownBlock<;>simp)
theorem Rd.at_ {i:Nat} {u:Value} (h:Rd w B A xs) (hi:xs[i]? = some u):∃b o,A=some ⟨b,o,none⟩/\b<B/\w.cell? ⟨b,o+i,none⟩=some u:=by
 rcases h with h | ⟨b,o,Z,M,O⟩
 ·subst h;simp at hi
 ·exact⟨b,o,Z,M,O i u hi⟩
end
section
variable {P:Program} (w:World)
theorem Er {B:Nat} {A:Option Addr} {l:List UInt8} (src e:TypeId) (hs:P.underlying src=some (.slice e)) (he:P.underlying e=some (.int .u8)) (h:Rd w B A (bvs l)) (n c:Nat) (hn:n=l.length)
  (dst:TypeId) (Z:P.underlying dst=some .string):(convert src dst (.slice A n c)).run P w=.ok (.string ⟨l.toArray⟩) w:=by
 subst hn;have key:∀a:Addr,A=some a->(∀i u,(bvs l)[i]? = some u->w.cell? (a.add i)=some u)->(convert src dst (.slice A l.length c)).run P w=.ok (.string ⟨l.toArray⟩) w:=by
  intro a ha hc;subst ha;have e1:(l.map fun b=>(b.toNat:Int)).map (Value.int .u8)=bvs l:=by simp [bvs,bv,Function.comp_def]
  have O:(loadCells a l.length).run P w=.ok ((l.map fun b=>(b.toNat:Int)).map (Value.int .u8)).toArray w:=by
   have:=run_loadCells_list (P:=P) w a (bvs l) hc;rw[AG] at this;rw[e1];exact this
  rw[run_convert_bytes_string w src dst e _ _ c hs he Z,run_bytesToString w a l.length c _ O,foldl_push_bytes];have e2:((l.map fun b=>(b.toNat:Int)).map fun n=>UInt8.ofNat n.toNat)=l:=by
   rw[List.map_map]
   conv=>rhs;rw[<-List.map_id l]
   apply List.map_congr_left;intro b _;simp
  rw[e2];simp [ByteArray.empty,ByteArray.emptyWithCapacity]
  rfl
 cases hA:A with
 |some a=>
  rw[<-hA];refine key a hA ?_;rcases h with h | ⟨b,o,M,_,h3⟩
  ·rw[h];intro i u hu;simp at hu
  ·rw[hA] at M
   injection M with M;subst M;intro i u hu;rw[addr_add];exact h3 i u hu
 |none=>
  have O:l = []:=by
   rcases h with h | ⟨b,o,M,_,_⟩
   ·exact List.map_eq_nil_iff.1 h
   ·rw[hA] at M;cases M
  subst O;rw[run_convert_bytes_nil w src e hs he _ c dst Z]
  rfl
theorem Gw (base:Nat) (t ty e:TypeId) (i:TypeInfo) (z:Value) (bytes:Nat) (ht:P.underlying t=some (.slice e)) (hi:P.info? e=some i) (hz:i.zero=some z)
  (av:i.size=1) (bx:i.bytes=bytes) (bn:z.cells.size=1)
  (v:Value) (n:Nat) (xs:List Value) (M:w.ownsRow base e 1 v n xs)
  (B:Nat) (A:Option Addr) (m c:Nat) (news:List Value) (hm:m=news.length) (hr:Rd w B A news) (O:∀u∈news,u.oneCell'=true)
  (bs:n+m<=maxLen) (Z:(n+m)*bytes<=140737488355328) (aw:base<=w.heap.size) :
  ∃v' w',(Builtin.append_ #[t,t] ty #[v,.slice A m c]).run P w=.ok v' w'/\w'.ownsRow base e 1 v' (n+m) (xs++news)/\w.grownBy w' v.ownBlock/\
   (v'.ownBlock=v.ownBlock\/v'.ownBlock=some w.heap.size):=by
 subst hm;cases hA:A with
 |some a=>
  have hc:∀j u,news[j]? = some u->w.cell? (a.add j)=some u:=by
   rcases hr with h | ⟨b,o,O,_,h3⟩
   ·rw[h];intro i u hu;simp at hu
   ·rw[hA] at O
    injection O with O;subst O;intro i u hu;rw[addr_add];exact h3 i u hu
  obtain⟨v',w',bb,h2,h3,_,h5⟩:=run_append_own_at (P:=P) w base t ty e i z 1 bytes ht hi hz av bx bn (by omega) v n xs M a news.length c news (by omega) hc O bs Z aw;exact⟨v',w',bb,h2,h3,h5⟩
 |none=>
  have hn:news = []:=by
   rcases hr with h | ⟨b,o,O,_,_⟩
   ·exact h
   ·rw[hA] at O;cases O
  subst hn;refine⟨v,w,?_,by simpa using M,World.grownBy.refl w _,.inl rfl⟩;rcases M.2 with⟨rfl,rfl⟩ | ⟨g,cap,cur,rfl,_,_,bq,_⟩
  ·simp [Builtin.append_,run_underlying ht,sizeOf,typeInfo,hi,Builtin.lenOf,Builtin.firstCells]
  ·simp [Builtin.append_,run_underlying ht,sizeOf,typeInfo,hi,Builtin.lenOf,Builtin.firstCells,bq,storeCells]
theorem Ft {o:Oper} {a:Act} {K:Act->World->Prop} {Q:Exit->Act->World->Prop} (s x:Operand) (t:TypeId)
  (ho:o.op=.call {callee:=.builtin .append,args:=#[s,x],argTypes:=#[t,t]})
  (base:Nat) (e:TypeId) (i:TypeInfo) (z:Value) (bytes:Nat) (ht:P.underlying t=some (.slice e)) (hi:P.info? e=some i) (hz:i.zero=some z)
  (O:i.size=1) (bq:i.bytes=bytes) (bb:z.cells.size=1)
  (v:Value) (n:Nat) (xs:List Value) (hs:a.eval s=v) (aw:w.ownsRow base e 1 v n xs)
  (B:Nat) (A:Option Addr) (m c:Nat) (news:List Value) (hx:a.eval x=.slice A m c) (hm:m=news.length) (hr:Rd w B A news) (h1:∀u∈news,u.oneCell'=true)
  (bn:n+m<=maxLen) (M:(n+m)*bytes<=140737488355328) (Z:base<=w.heap.size)
  (h:∀v' w',w'.ownsRow base e 1 v' (n+m) (xs++news)->w.grownBy w' v.ownBlock->(v'.ownBlock=v.ownBlock\/v'.ownBlock=some w.heap.size)->K (a.put o.dst v') w'):o.wp P a w K Q:=by
 obtain⟨v',w',av,h2,h3,h4⟩:=Gw (P:=P) w base t o.type e i z bytes ht hi hz O bq bb v n xs aw B A m c news hm hr h1 bn M Z;unfold Oper.wp execOp;simp only[ho,resolve,invoke,builtin,Sem.run_bind,Sem.run_pure,Result.andThen_ok,List.map_toArray,List.map_cons,List.map_nil,hs,hx,av];exact h v' w' h2 h3 h4
theorem AI {ops:Array Oper} {rest:List Oper} {o:Oper} {a:Act} {Q:Exit->Act->World->Prop} (M:o.guard=none) (s x:Operand) (t:TypeId)
  (O:o.op=.call {callee:=.builtin .append,args:=#[s,x],argTypes:=#[t,t]})
  (base:Nat) (e:TypeId) (i:TypeInfo) (z:Value) (bytes:Nat) (ht:P.underlying t=some (.slice e)) (hi:P.info? e=some i) (hz:i.zero=some z)
  (hsize:i.size=1) (hby:i.bytes=bytes) (hzs:z.cells.size=1)
  (v:Value) (n:Nat) (xs:List Value) (hs:a.eval s=v) (hown:w.ownsRow base e 1 v n xs)
  (B:Nat) (A:Option Addr) (m c:Nat) (news:List Value) (hx:a.eval x=.slice A m c) (hm:m=news.length) (hr:Rd w B A news) (h1:∀u∈news,u.oneCell'=true)
  (h63:n+m<=maxLen) (hbytes:(n+m)*bytes<=140737488355328) (hbase:base<=w.heap.size)
  (h:∀v' w',w'.ownsRow base e 1 v' (n+m) (xs++news)->w.grownBy w' v.ownBlock->(v'.ownBlock=v.ownBlock\/v'.ownBlock=some w.heap.size)->wpList P ops Q rest (a.put o.dst v') w'):wpList P ops Q (o :: rest) a w:=
 wpList_plain M fun _ hK=>Ft w s x t O base e i z bytes ht hi hz hsize hby hzs v n xs hs hown B A m c news hx hm hr h1 h63 hbytes hbase fun v' w' h2 h3 Z=>hK _ _ (h v' w' h2 h3 Z)
end
def Dc (n:Nat):Array Value:=(List.replicate n (bv 0)).toArray
theorem Eg (n:Nat):(Dc n).size=n:=by simp [Dc]
theorem Gg {P:Program} {t e:TypeId} {i:TypeInfo} (M:P.underlying t=some (.slice e)) (hi:P.info? e=some i) (hz:i.zero=some (.int .u8 0)) (hs:i.size=1) (Z:i.bytes=1)
  (C:Int) (n:Nat) (hC:C=(n:Int)) (hn:n<=1000000) (w:World) :
  (Instr.makeSlice t (.int .i64 C) (.int .i64 C)).run P w=.ok (.slice (some ⟨w.heap.size,0,none⟩) n n) (w.alloc (.cells (Dc n) e)):=by
 subst hC;have h:=run_make (P:=P) w t e i _ M hi hz .i64 .i64 (n:Int) (n:Int) (by omega) (by omega) (by rw[Z];omega) (by omega);rw[Int.toNat_natCast,hs,Nat.mul_one] at h;rw[h];have O:madeCells (Value.int .u8 0).cells n=Dc n:=by
  apply Array.toList_inj.1;rw[show(Value.int .u8 0).cells=#[Value.int .u8 0] from rfl,toList_madeCells_one];simp [Dc,bv]
 rw[O]
theorem Es {P:Program} {t e:TypeId} {i:TypeInfo} (M:P.underlying t=some (.slice e)) (hi:P.info? e=some i) (hz:i.zero=some (.int .u8 0)) (hs:i.size=1) (Z:i.bytes=1)
  (C:Int) (n:Nat) (hC:C=(n:Int)) (hn:n<=1000000) (w:World) :
  (Instr.makeSlice t (.int .i64 0) (.int .i64 C)).run P w=.ok (.slice (some ⟨w.heap.size,0,none⟩) 0 n) (w.alloc (.cells (Dc n) e)):=by
 subst hC;have h:=run_make (P:=P) w t e i _ M hi hz .i64 .i64 0 (n:Int) (by omega) (by omega) (by rw[Z];omega) (by omega);rw[Int.toNat_natCast,hs,Nat.mul_one] at h;rw[h];have O:madeCells (Value.int .u8 0).cells n=Dc n:=by
  apply Array.toList_inj.1;rw[show(Value.int .u8 0).cells=#[Value.int .u8 0] from rfl,toList_madeCells_one];simp [Dc,bv]
 rw[O]
 rfl
theorem Et (w:World) (e:TypeId) (s:ByteArray):Below w.heap.size w (Lib.bytesWorld w e s):=
 ⟨rfl,rfl,rfl,by rw[Lib.bytesWorld_size];omega,fun k hk=>Lib.bytesWorld_at_old w e s k hk⟩
def Rz (w:World) (base b:Nat) (l:List UInt8):Prop:=
 base<=b/\b<w.heap.size/\∀i (h:i<l.length),w.cell? ⟨b,i,none⟩=some (bv l[i])/\w.frozen? ⟨b,i,none⟩=false
theorem Gl (w:World) (e:TypeId) (l:List UInt8):Rz (Lib.bytesWorld w e ⟨l.toArray⟩) w.heap.size w.heap.size l:=by
 refine⟨Nat.le_refl _,by rw[Lib.bytesWorld_size];omega,fun i h=>⟨?_,?_⟩⟩
 ·rw[Lib.bytesWorld_cell w e ⟨l.toArray⟩ i (by simpa [ByteArray.size] using h)]
  simp [bv,List.getD,h]
 ·have M:i<(Lib.bytesCells w e ⟨l.toArray⟩).size:=by
   simp only[Lib.bytesCells,Array.size_append,Array.size_map,Array.size_replicate];simp;omega
  simp only[World.frozen?,Lib.bytesWorld_at_new];simp;omega
theorem Rz.rd {w:World} {base b:Nat} {l:List UInt8} (h:Rz w base b l):Rd w w.heap.size (some ⟨b,0,none⟩) (bvs l):=by
 refine .inr ⟨b,0,rfl,h.2.1,fun i u hu=>?_⟩;have hi:i<l.length:=by
  rcases Nat.lt_or_ge i l.length with g | g
  ·exact g
  ·rw[List.getElem?_eq_none (by rw[AG];exact g)] at hu;cases hu
 rw[Gf hi] at hu;injection hu with hu;subst hu;rw[Nat.zero_add];exact(h.2.2 i hi).1
end Af
namespace Nm
abbrev L:=List UInt8
def capB (b:UInt8):Bool:=decide (65<=b.toNat)&&decide (b.toNat<=90)
def DK (b:UInt8):Bool:=decide (97<=b.toNat)&&decide (b.toNat<=122)
def Cs (b:UInt8):Bool:=DK b||(decide (48<=b.toNat)&&decide (b.toNat<=57))
def Cm (p:UInt8->Bool) (l:L):Bool:=decide (1<=l.length)&&(decide (l.length<=8)&&l.all p)
theorem Fu (p:UInt8->Bool) (l:L):Cm p l=true↔1<=l.length/\l.length<=8/\l.all p=true:=by simp [Cm]
def hasC (c:UInt8) (l:L):Bool:=l.any fun x=>decide (x=c)
def bef (c:UInt8):L->L
 | []=>[]
 |x :: r=>if x=c then [] else x :: bef c r
def aft (c:UInt8):L->L
 | []=>[]
 |x :: r=>if x=c then r else aft c r
theorem Eu (c:UInt8) (l:L):hasC c l=true↔c∈l:=by simp [hasC]
theorem FN (c:UInt8) (l:L):hasC c l=false↔c∉l:=by rw[<-Eu];simp
theorem Iw {c:UInt8} {l:L} (h:c∉l):bef c l=l:=by
 induction l with
 |nil=>rfl
 |cons x r ih=>
  simp only[List.mem_cons,not_or] at h;rw[bef,if_neg (fun e=>h.1 e.symm),ih h.2]
theorem Pd {c:UInt8} {l:L} (h:c∉l):aft c l = []:=by
 induction l with
 |nil=>rfl
 |cons x r ih=>
  simp only[List.mem_cons,not_or] at h;rw[aft,if_neg (fun e=>h.1 e.symm),ih h.2]
theorem RA (c:UInt8) (l:L):c∉bef c l:=by
 induction l with
 |nil=>simp [bef]
 |cons x r ih=>
  rw[bef];split
  ·simp
  ·rename_i h;simp only[List.mem_cons,not_or];exact⟨fun e=>h e.symm,ih⟩
theorem LZ {c:UInt8} {l:L} (h:c∈l):l=bef c l++c :: aft c l:=by
 induction l with
 |nil=>simp at h
 |cons x r ih=>
  by_cases e:x=c
  ·simp [bef,aft,e]
  ·rw[bef,aft,if_neg e,if_neg e]
   have:c∈r:=(List.mem_cons.1 h).resolve_left fun g=>e g.symm
   simpa using ih this
theorem br {c:UInt8} {u v:L} (h:c∉u):aft c (u++c :: v)=v:=by
 induction u with
 |nil=>simp [aft]
 |cons x r ih=>
  simp only[List.mem_cons,not_or] at h;rw[List.cons_append,aft,if_neg (fun e=>h.1 e.symm),ih h.2]
theorem Nq (c:UInt8) (l:L):(aft c l).length<=l.length:=by
 induction l with
 |nil=>simp [aft]
 |cons x r ih=>rw[aft];split<;>simp<;>omega
theorem XN {c:UInt8} {l:L} (h:l≠[]):(aft c l).length<l.length:=by
 cases l with
 |nil=>exact absurd rfl h
 |cons x r=>rw[aft];have:=Nq c r;split<;>simp<;>omega
theorem RB (c:UInt8) (l:L):(bef c l).length<=l.length:=by
 induction l with
 |nil=>simp [bef]
 |cons x r ih=>rw[bef];split<;>simp<;>omega
theorem Vq {c:UInt8} {l:L} (h:c∈l):∃u v,l=u++c :: v/\c∉v:=by
 refine⟨(aft c l.reverse).reverse,(bef c l.reverse).reverse,?_,by simpa using RA c l.reverse⟩;have M:c∈l.reverse:=by simpa using h
 have:=congrArg List.reverse (LZ M)
 simpa using this
def split (c:UInt8):L->List L
 | []=>[[]]
 |x :: r=>if x=c then [] :: split c r else match split c r with
  | []=>[[x]]
  |a :: t=>(x :: a) :: t
theorem KC (c:UInt8) (l:L):split c l≠[]:=by
 cases l with
 |nil=>simp [split]
 |cons x r=>
  rw[split];split
  ·simp
  ·split<;>simp
theorem CH (c:UInt8) (l:L):1<=(split c l).length:=by
 have:=KC c l;cases h:split c l with
 |nil=>exact absurd h this
 |cons a t=>simp
theorem FO {c:UInt8} {l:L} (h:c∉l):split c l = [l]:=by
 induction l with
 |nil=>rfl
 |cons x r ih=>
  simp only[List.mem_cons,not_or] at h;rw[split,if_neg (fun e=>h.1 e.symm),ih h.2]
theorem KD {c:UInt8} (u v:L):split c (u++c :: v)=split c u++split c v:=by
 induction u with
 |nil=>simp [split]
 |cons x r ih=>
  rw[List.cons_append,split,split]
  split
  ·rw[ih];rfl
  ·rw[ih]
   cases h:split c r with
   |nil=>exact absurd h (KC c r)
   |cons a t=>rfl
theorem Kf {c:UInt8} {u v:L} (h:c∉u):split c (u++c :: v)=u :: split c v:=by rw[KD,FO h];rfl
theorem Fv (c:UInt8) (l:L):split c l=if hasC c l then bef c l :: split c (aft c l) else [l]:=by
 by_cases h:c∈l
 ·rw[if_pos ((Eu c l).2 h)]
  conv=>lhs;rw[LZ h]
  exact Kf (RA c l)
 ·rw[if_neg (by rw[Eu];exact h)];exact FO h
def Cn (ls:List L):Bool:=decide (1<=ls.length)&&(decide (ls.length<=4)&&ls.all (Cm capB))
theorem CJ (ls:List L):Cn ls=true↔1<=ls.length/\ls.length<=4/\ls.all (Cm capB)=true:=by simp [Cn]
def areL (c:UInt8):Nat->L->Bool
 |0,_=>false
 |n+1,l=>Cm capB (bef c l)&&(if hasC c l then areL c n (aft c l) else true)
theorem YE (c:UInt8) (n:Nat):∀l:L,areL c n l=(decide ((split c l).length<=n)&&(split c l).all (Cm capB)):=by
 induction n with
 |zero=>intro l;have:=CH c l;rw[areL,decide_eq_false (by omega)];rfl
 |succ n ih=>
  intro l;rw[areL,ih,Fv c l]
  by_cases h:c∈l
  ·rw[(Eu c l).2 h,if_pos rfl,if_pos rfl]
   simp only[List.length_cons,List.all_cons,Nat.add_le_add_iff_right];cases Cm capB (bef c l)<;>simp
  ·rw[(FN c l).2 h,if_neg (by simp),if_neg (by simp),Iw h]
   simp
theorem Ma (c:UInt8) (l:L):areL c 4 l=Cn (split c l):=by
 have:=CH c l;rw[YE,Cn,decide_eq_true this];rfl
def slL (l:L):Bool:=decide (l.head? = some 47)&&Cn (split 47 l.tail)
def AR (l:L):Nat:=if slL l then 2 else if Cn (split 46 l) then 1 else 0
theorem Pe {l:L} (h:Cn (split 46 l)=true):l.head?≠some 47:=by
 intro e;cases l with
 |nil=>simp at e
 |cons x r=>
  simp only[List.head?_cons,Option.some.injEq] at e;subst e;have Z:Cm capB (bef 46 (47 :: r))=true:=by
   have M:=((CJ _).1 h).2.2;rw[Fv] at M
   split at M
   ·simp only[List.all_cons,Bool.and_eq_true] at M;exact M.1
   ·rename_i hn
    rw[Iw ((FN _ _).1 (by simpa using hn))]
    simpa using M
  have e2:bef 46 (47 :: r)=47 :: bef 46 r:=by rw[bef,if_neg (by decide)]
  have O:=((Fu _ _).1 Z).2.2;rw[e2] at O;simp [capB] at O
theorem bu {l:L} (h:Cn (split 46 l)=true):slL l=false:=by
 simp [slL,Pe h]
theorem Pf {l:L} (h:Cn (split 46 l)=true):AR l=1:=by rw[AR,bu h,h];rfl
theorem YF {l:L} (h:slL l=true):AR l=2:=by rw[AR,h];rfl
theorem Qg (l:L):AR l=if Cn (split 46 l) then 1 else if slL l then 2 else 0:=by
 cases h:Cn (split 46 l) with
 |true=>rw[Pf h];rfl
 |false=>rw[AR,h];rfl
theorem IX (l:L):AR l<=2:=by rw[AR];split<;>(try split)<;>omega
theorem KE:AR []=0:=by decide
theorem KF {l:L} (h:AR l=1):Cn (split 46 l)=true:=by
 rw[AR] at h
 split at h
 ·omega
 ·split at h
  ·assumption
  ·omega
theorem Ix {l:L} (h:AR l=2):slL l=true:=by
 rw[AR] at h
 split at h
 ·assumption
 ·split at h<;>omega
def isL (l:L):Bool:=decide (1<=AR l)
def upL (l:L):L:=if AR l=1 then aft 46 l else if AR l=2 then (aft 47 l.reverse).reverse else []
def depL (l:L):Nat:=if AR l=1 then (split 46 l).length else if AR l=2 then (split 47 l.tail).length else 0
theorem IZ {l:L} (h:AR l=0):upL l = []:=by rw[upL,if_neg (by omega),if_neg (by omega)]
theorem bw:upL [] = []:=IZ KE
theorem YG {u v:L} (h:47∉v):(aft 47 (u++47 :: v).reverse).reverse=u:=by
 have:(u++47 :: v).reverse=v.reverse++47 :: u.reverse:=by simp
 rw[this,br (by simpa using h)];simp
theorem RC {l:L} (h:AR l=2):∃u v,l=u++47 :: v/\47∉v/\upL l=u:=by
 have hs:=Ix h;have M:l.head? = some 47:=by simp only[slL,Bool.and_eq_true,decide_eq_true_eq] at hs;exact hs.1
 have hm:47∈l:=by cases l with
  |nil=>simp at M
  |cons x r=>simp at M;simp [M]
 obtain⟨u,v,e,O⟩:=Vq hm;refine⟨u,v,e,O,?_⟩;rw[upL,if_neg (by omega),if_pos h]
 conv=>lhs;rw[e]
 exact YG O
theorem Dh {l:L} (h:AR l≠0):l≠[]:=fun e=>h (by rw[e];exact KE)
theorem bA {l:L} (h:l≠[]):(upL l).length<l.length:=by
 have:=IX l
 by_cases h1:AR l=1
 ·rw[upL,if_pos h1];exact XN h
 ·by_cases h2:AR l=2
  ·obtain⟨u,v,e,_,M⟩:=RC h2
   rw[M,e];simp
  ·rw[IZ (by omega)]
   cases l with
   |nil=>exact absurd rfl h
   |cons x r=>simp
theorem bC (l:L):depL l<=4:=by
 rw[depL]
 split
 ·rename_i h;exact((CJ _).1 (KF h)).2.1
 ·split
  ·rename_i h
   have:=Ix h;simp only[slL,Bool.and_eq_true] at this;exact((CJ _).1 this.2).2.1
  ·exact Nat.zero_le _
theorem YH {l:L} (h:AR l≠0):1<=depL l:=by
 have:=IX l;rw[depL]
 split
 ·exact CH _ _
 ·rw[if_pos (by omega)];exact CH _ _
theorem Nr (l:L):upL l = []\/(AR (upL l)=AR l/\depL (upL l)+1=depL l):=by
 have hk:=IX l
 by_cases h1:AR l=1
 ·by_cases hm:(46:UInt8)∈l
  ·right
   have M:=(CJ _).1 (KF h1);have e:=Fv 46 l;rw[if_pos ((Eu _ _).2 hm)] at e;rw[e] at M;simp only[List.length_cons,List.all_cons,Bool.and_eq_true] at M;have O:Cn (split 46 (aft 46 l))=true:=(CJ _).2 ⟨CH _ _,by omega,M.2.2.2⟩;have eu:upL l=aft 46 l:=by rw[upL,if_pos h1]
   have Z:=Pf O;rw[eu];refine⟨by rw[Z,h1],?_⟩;rw[depL,if_pos Z,depL,if_pos h1,e];rfl
  ·left;rw[upL,if_pos h1];exact Pd hm
 ·by_cases O:AR l=2
  ·obtain⟨u,v,e,hv,eu⟩:=RC O
   have hs:=Ix O;simp only[slL,Bool.and_eq_true,decide_eq_true_eq] at hs;cases u with
   |nil=>left;rw[eu]
   |cons x u'=>
    right
    have hx:x=47:=by rw[e] at hs;simpa using hs.1
    subst hx;have et:l.tail=u'++47 :: v:=by rw[e];rfl
    have es:split 47 l.tail=split 47 u'++[v]:=by rw[et,KD,FO hv]
    have M:=(CJ _).1 hs.2;rw[es] at M;simp only[List.length_append,List.length_cons,List.length_nil,List.all_append,Bool.and_eq_true] at M;have h3:Cn (split 47 u')=true:=(CJ _).2 ⟨CH _ _,by omega,M.2.2.1⟩;have h4:slL (47 :: u')=true:=by simp [slL,h3]
    have h5:=YF h4;rw[eu];refine⟨by rw[h5,O],?_⟩;rw[depL,if_neg (by omega),if_pos h5,depL,if_neg (by omega),if_pos O,es];simp
  ·left;exact IZ (by omega)
def chF:Nat->L->List L
 |0,_=>[]
 |n+1,l=>if l = [] then [] else l :: chF n (upL l)
def ch (l:L):List L:=chF 4 l
theorem Ja (n:Nat):chF n [] = []:=by cases n<;>simp [chF]
theorem Vr (n:Nat):∀l:L,AR l≠0->depL l<=n->chF (n+1) l=chF n l:=by
 induction n with
 |zero=>intro l h M;have:=YH h;omega
 |succ n ih=>
  intro l h M;show(if l = [] then [] else l :: chF (n+1) (upL l))=(if l = [] then [] else l :: chF n (upL l));rw[if_neg (Dh h),if_neg (Dh h)];rcases Nr l with e | ⟨O,Z⟩
  ·rw[e,Ja,Ja]
  ·rw[ih (upL l) (by rw[O];exact h) (by omega)]
theorem DX:ch [] = []:=Ja 4
theorem Dz {l:L} (h:l≠[]):ch l=l :: ch (upL l):=by
 rw[ch,chF,if_neg h];rcases Nr l with e | ⟨M,O⟩
 ·rw[e,Ja,DX]
 ·by_cases hk:AR l=0
  ·rw[IZ hk,Ja,DX]
  ·have:=bC l
   rw[ch,Vr 3 (upL l) (by rw[M];exact hk) (by omega)]
theorem YI (n:Nat):∀l:L,(chF n l).length<=n:=by
 induction n with
 |zero=>intro l;simp [chF]
 |succ n ih=>intro l;rw[chF];split<;>simp [ih]
theorem Mb (l:L):(ch l).length<=4:=YI 4 l
theorem XO {l:L} (h:l≠[]):1<=(ch l).length:=by rw[Dz h];simp
theorem Ev {l:L} (h:l≠[]):(ch l).getD 0 []=l:=by rw[Dz h];rfl
def pl (A:List L) (i:Nat):L:=A.getD i []
theorem CK {A:List L} {i:Nat} (h:i<A.length):pl A i=A[i]:=by simp [pl,h]
theorem KG {A:List L} {i:Nat} (h:A.length<=i):pl A i = []:=by simp [pl,h]
theorem DL {A:List L} {i:Nat} (h:i<A.length):pl A i∈A:=by rw[CK h];exact List.getElem_mem h
theorem mem_pl {A:List L} {x:L} (h:x∈A):∃i,i<A.length/\pl A i=x:=by
 obtain⟨i,hi,e⟩:=List.getElem_of_mem h;exact⟨i,hi,by rw[CK hi];exact e⟩
theorem bD (i:Nat):∀a:L,i<(ch a).length->ch (pl (ch a) i)=(ch a).drop i:=by
 induction i with
 |zero=>
  intro a h
  by_cases ha:a = []
  ·subst ha;rw[DX] at h;simp at h
  ·rw[List.drop_zero,pl,Ev ha]
 |succ i ih=>
  intro a h
  by_cases ha:a = []
  ·subst ha;rw[DX] at h;simp at h
  ·rw[Dz ha] at h⊢
   simp only[List.length_cons] at h;exact ih (upL a) (by omega)
theorem Vs {i:Nat} (a:L) (h:i<(ch a).length):upL (pl (ch a) i)=pl (ch a) (i+1):=by
 have O:=bD i a h;have av:pl (ch a) i≠[]:=by
  intro e;rw[e,DX] at O;have:=congrArg List.length O;simp at this;omega
 rw[Dz av] at O;have M:=congrArg (List.drop 1) O;simp only[List.drop_succ_cons,List.drop_zero,List.drop_drop] at M
 by_cases hu:upL (pl (ch a) i) = []
 ·rw[hu,DX] at M
  rw[hu];have Z:=congrArg List.length M;simp only[List.length_nil,List.length_drop] at Z;exact(KG (by omega)).symm
 ·rw[Dz hu] at M
  have Z:=congrArg (fun m=>List.getD m 0 []) M
  simpa [pl,List.getD,List.getElem?_drop] using Z
theorem RE {i:Nat} (a:L) (h:i<(ch a).length):pl (ch a) i≠[]:=by
 intro e;have M:=bD i a h;rw[e,DX] at M;have:=congrArg List.length M;simp at this;omega
theorem YJ (i:Nat):∀a:L,i<(ch a).length->AR (pl (ch a) i)=AR a:=by
 induction i with
 |zero=>
  intro a h
  by_cases ha:a = []
  ·subst ha;rw[DX] at h;simp at h
  ·rw[pl,Ev ha]
 |succ i ih=>
  intro a h
  by_cases ha:a = []
  ·subst ha;rw[DX] at h;simp at h
  ·rw[Dz ha] at h⊢
   simp only[List.length_cons] at h;have:=ih (upL a) (by omega);rw[show pl (a :: ch (upL a)) (i+1)=pl (ch (upL a)) i from rfl,this];rcases Nr a with e | ⟨e,_⟩
   ·rw[e,DX] at h;simp at h
   ·exact e
theorem Pg {a x:L} (h:x∈ch a):AR x=AR a:=by
 obtain⟨i,hi,rfl⟩:=mem_pl h;exact YJ i a hi
theorem RG (a:L):∀j i:Nat,i<j->j<(ch a).length->(pl (ch a) j).length<(pl (ch a) i).length:=by
 intro j
 induction j with
 |zero=>intro i h;omega
 |succ j ih=>
  intro i h Z;have O:=Vs a (i:=j) (by omega);have M:=bA (RE a (i:=j) (by omega));rw[O] at M
  by_cases e:i=j
  ·subst e;exact M
  ·have:=ih i (by omega) (by omega);omega
theorem bE {a:L} {i j:Nat} (hi:i<(ch a).length) (M:j<(ch a).length) (h:pl (ch a) i=pl (ch a) j):i=j:=by
 rcases Nat.lt_trichotomy i j with g | g | g
 ·have:=RG a j i g M;rw[h] at this;omega
 ·exact g
 ·have:=RG a i j g hi;rw[h] at this;omega
theorem RH {a x:L} (h:x∈ch a):x.length<=a.length:=by
 obtain⟨i,hi,rfl⟩:=mem_pl h;have O:a≠[]:=by rintro rfl;rw[DX] at hi;simp at hi
 have M:pl (ch a) 0=a:=Ev O
 by_cases e:i=0
 ·subst e;rw[M];exact Nat.le_refl _
 ·have:=RG a i 0 (by omega) hi;rw[M] at this;omega
theorem Vt {a:L} (h:a≠[]):a∈ch a:=by rw[Dz h];exact List.mem_cons_self
def Gx (a b:L):Bool:=decide (b∈ch (upL a))
theorem RI (a b:L):Gx a b=true↔b∈ch (upL a):=by simp [Gx]
theorem Kg {b x:L} (M:b≠[]):x∈ch b↔x=b\/Gx b x=true:=by
 rw[Dz M,List.mem_cons,RI]
def ix (A B:List L):Nat:=A.findIdx fun x=>decide (x∈B)
theorem Md (A B:List L):ix A B<=A.length:=List.findIdx_le_length
theorem Vu {A B:List L} (h:ix A B<A.length):pl A (ix A B)∈B:=by
 have:=List.findIdx_getElem (w:=h);rw[CK h];exact of_decide_eq_true this
theorem Gy {A B:List L} {i:Nat} (h:i<ix A B):pl A i∉B:=by
 have M:i<A.length:=Nat.lt_of_lt_of_le h (Md A B);have:=List.not_of_lt_findIdx h;rw[CK M]
 simpa using this
theorem ix_eq {A B:List L} {i:Nat} (hi:i<A.length) (O:pl A i∈B) (M:∀k,k<i->pl A k∉B):ix A B=i:=by
 rcases Nat.lt_trichotomy (ix A B) i with g | g | g
 ·exact absurd (Vu (Nat.lt_trans g hi)) (M _ g)
 ·exact g
 ·exact absurd O (Gy g)
def KH (A B:List L):List L:=A.take (ix A B)++((A.drop (ix A B)).take 1++(B.take (ix B A)).reverse)
def Bq (a b:L):List L:=if AR a=0\/AR b=0 then [] else ((KH (ch a) (ch b)).drop 1).dropLast
theorem Nt {a b:L} (h:ix (ch a) (ch b)<(ch a).length):ix (ch b) (ch a)<(ch b).length/\pl (ch b) (ix (ch b) (ch a))=pl (ch a) (ix (ch a) (ch b)):=by
 have h1:=Vu h;have Z:=DL h;obtain⟨j,hj,e⟩:=mem_pl h1;have M:ix (ch b) (ch a)<(ch b).length:=by
  rcases Nat.lt_or_ge (ix (ch b) (ch a)) (ch b).length with g | g
  ·exact g
  ·exact absurd (by rw[e];exact Z) (Gy (A:=ch b) (B:=ch a) (i:=j) (by omega))
 refine⟨M,?_⟩;have h2:=Vu M
 -- m' is in ch a at or behind m,m in ch b at or behind m'
 obtain⟨i,hi,O⟩:=mem_pl h2;have av:ix (ch a) (ch b)<=i:=by
  rcases Nat.lt_or_ge i (ix (ch a) (ch b)) with g | g
  ·exact absurd (by rw[O];exact DL M) (Gy g)
  ·exact g
 have aw:ix (ch b) (ch a)<=j:=by
  rcases Nat.lt_or_ge j (ix (ch b) (ch a)) with g | g
  ·exact absurd (by rw[e];exact Z) (Gy g)
  ·exact g
 have m1:(pl (ch b) (ix (ch b) (ch a))).length<=(pl (ch a) (ix (ch a) (ch b))).length:=by
  rw[<-O]
  by_cases q:i=ix (ch a) (ch b)
  ·rw[q];exact Nat.le_refl _
  ·exact Nat.le_of_lt (RG a i _ (by omega) hi)
 by_cases q:j=ix (ch b) (ch a)
 ·rw[<-q];exact e
 ·have:=RG b j _ (by omega:ix (ch b) (ch a)<j) hj
  rw[e] at this;omega
theorem Nu {a b:L} (h:ix (ch a) (ch b)=(ch a).length):ix (ch b) (ch a)=(ch b).length:=by
 rcases Nat.lt_or_ge (ix (ch b) (ch a)) (ch b).length with g | g
 ·have:=(Nt (a:=b) (b:=a) g).1;omega
 ·have:=Md (ch b) (ch a);omega
theorem YK {A:List L} {i:Nat} (h:i<A.length):(A.drop i).take 1 = [pl A i]:=by
 rw[CK h,List.drop_eq_getElem_cons h];rfl
theorem RJ {a b:L} (h:ix (ch a) (ch b)<(ch a).length) :
  KH (ch a) (ch b)=(ch a).take (ix (ch a) (ch b))++pl (ch a) (ix (ch a) (ch b)) :: ((ch b).take (ix (ch b) (ch a))).reverse:=by
 rw[KH,YK h];rfl
theorem RK {a b:L} (h:ix (ch a) (ch b)=(ch a).length):KH (ch a) (ch b)=ch a++(ch b).reverse:=by
 rw[KH,Nu h,h];simp
def upW (A:List L) (b:L):Nat->List L
 |0=>[]
 |k+1=>upW A b k++(if pl A (k+1) = []\/pl A (k+1)=b then [] else [pl A (k+1)])
def Fw (B:List L) (b:L):Nat->List L
 |0=>[]
 |k+1=>Fw B b k++(if pl B k=b then [] else [pl B k])
theorem BK {A:List L} {i:Nat} (h:i<A.length):A.take (i+1)=A.take i++[pl A i]:=by
 rw[CK h,List.take_succ_eq_append_getElem h]
theorem RL {a b:L} (k:Nat) (h:k<(ch a).length) (M:∀i,i<=k->i≠0->pl (ch a) i≠b):upW (ch a) b k=((ch a).take (k+1)).drop 1:=by
 induction k with
 |zero=>rw[upW,BK h];simp
 |succ k ih=>
  rw[upW,ih (by omega) (fun i hi=>M i (by omega)),if_neg (by
   intro e;rcases e with e | e
   ·exact RE a h e
   ·exact M (k+1) Ag (by omega) e),BK h,List.drop_append_of_le_length]
  rw[List.length_take];omega
theorem Vv {b:L} (k:Nat) (h:k<=(ch b).length):Fw (ch b) b k=((ch b).take k).drop 1:=by
 induction k with
 |zero=>simp [Fw]
 |succ k ih=>
  have M:(ch b).getD 0 []=b:=by
   refine Ev ?_;rintro rfl;rw[DX] at h;simp at h
  rw[Fw,ih (by omega),BK (by omega)]
  by_cases hk:k=0
  ·subst hk;rw[if_pos (show pl (ch b) 0=b from M)];simp
  ·rw[if_neg (fun e=>hk (bE (a:=b) (i:=k) (j:=0) (by omega) (by omega) (by rw[e];exact M.symm))),List.drop_append_of_le_length]
   rw[List.length_take];omega
theorem KI {a b:L} (ha:AR a≠0) (hb:AR b≠0):upW (ch a) b (ix (ch a) (ch b))++(Fw (ch b) b (ix (ch b) (ch a))).reverse=Bq a b:=by
 have na:=Dh ha;have M:=Dh hb;have pa:=XO na;have pb:=XO M;rw[Bq,if_neg (by omega),Vv _ (Md _ _)];have Z:b∈ch b:=Vt M;rcases Nat.lt_or_ge (ix (ch a) (ch b)) (ch a).length with g | g
 ·obtain⟨h1,h2⟩:=Nt g
  rw[RJ g]
  by_cases e:pl (ch a) (ix (ch a) (ch b))=b
  ·have hj:ix (ch b) (ch a)=0:=by
    refine ix_eq (by omega) ?_ (by omega);rw[pl,Ev M,<-e];exact DL g
   rw[hj,e];cases hi:ix (ch a) (ch b) with
   |zero=>simp [upW]
   |succ k=>
    rw[hi] at e g;rw[upW,if_pos (.inr e),RL k (by omega) (fun i av _=>by
     intro q;exact absurd (by rw[q];exact Z) (Gy (A:=ch a) (B:=ch b) (i:=i) (by omega)))]
    rw[List.drop_append_of_le_length (by rw[List.length_take];omega)];simp
  ·rw[RL _ g (fun i hi _=>by
    intro q
    by_cases w:i=ix (ch a) (ch b)
    ·rw[w] at q;exact e q
    ·exact absurd (by rw[q];exact Z) (Gy (A:=ch a) (B:=ch b) (i:=i) (by omega)))]
   have hj:1<=ix (ch b) (ch a):=by
    rcases Nat.eq_zero_or_pos (ix (ch b) (ch a)) with q | q
    ·rw[q,pl,Ev M] at h2;exact absurd h2.symm e
    ·exact q
   obtain⟨j,ej⟩:∃j,ix (ch b) (ch a)=j+1:=⟨ix (ch b) (ch a) - 1,by omega⟩;rw[ej,Dz M];simp only[List.take_succ_cons,List.drop_succ_cons,List.drop_zero,List.reverse_cons];have e1:List.take (ix (ch a) (b :: ch (upL b))) (ch a)++pl (ch a) (ix (ch a) (b :: ch (upL b))) :: ((List.take j (ch (upL b))).reverse++[b])=(List.take (ix (ch a) (b :: ch (upL b))+1) (ch a)++(List.take j (ch (upL b))).reverse)++[b]:=by
    rw[BK (by rw[<-Dz M];exact g)];simp
   rw[e1,List.drop_append_of_le_length (by simp;omega),List.dropLast_concat,List.drop_append_of_le_length (by rw[List.length_take];omega)]
 ·have e:ix (ch a) (ch b)=(ch a).length:=by have:=Md (ch a) (ch b);omega
  rw[RK e,Nu e,e];obtain⟨n,en⟩:∃n,(ch a).length=n+1:=⟨(ch a).length - 1,by omega⟩;have O:∀i,i<(ch a).length->pl (ch a) i≠b:=fun i hi q=>absurd (by rw[q];exact Z) (Gy (A:=ch a) (B:=ch b) (i:=i) (by omega))
  have hu:upW (ch a) b (ch a).length=(ch a).drop 1:=by
   rw[en,upW,if_pos (.inl (KG (by omega))),RL n (by omega) (fun i hi _=>O i (by omega)),<-en];simp
  rw[hu,List.take_of_length_le Ag]
  conv=>rhs;rw[Dz M]
  conv=>lhs;rw[Dz M]
  rw[List.reverse_cons,<-List.append_assoc,List.drop_append_of_le_length (by simp;omega),List.dropLast_concat,List.drop_append_of_le_length (by omega)];simp
open Go.RowKit Af
attribute [local go_sem] Ep List.getElem_cons_zero List.getElem_cons_succ
theorem Nv (b:UInt8) (w:World):Calls Tryz.prog 204 #[.int .u8 (b.toNat:Int)] w fun e w'=>e=.returned (.bool (capB b))/\w=w':=by
 have Z:=Fo b
 by_cases h1:65<=b.toNat
 ·have M:decide (65<=(b.toNat:Int))=true:=by simp;omega
  by_cases h2:b.toNat<=90
  ·have O:decide ((b.toNat:Int)<=90)=true:=by simp;omega
   have E:=I (show capB b=true by simp [capB,h1,h2]);clear h1 h2;go_enter Tryz.func204,Tryz.ntmps204
   go_wp2
   go_ret;exact⟨by rw[E.o];rfl,rfl⟩
  ·have O:decide ((b.toNat:Int)<=90)=false:=by simp;omega
   have E:=I (show capB b=false by simp [capB,h2]);clear h1 h2;go_enter Tryz.func204,Tryz.ntmps204
   go_wp2
   go_ret;exact⟨by rw[E.o];rfl,rfl⟩
 ·have M:decide (65<=(b.toNat:Int))=false:=by simp;omega
  have E:=I (show capB b=false by simp [capB,h1]);clear h1;go_enter Tryz.func204,Tryz.ntmps204
  go_wp2
  go_ret;exact⟨by rw[E.o];rfl,rfl⟩
theorem RM (b:UInt8) (w:World):Calls Tryz.prog 99 #[.int .u8 (b.toNat:Int)] w fun e w'=>e=.returned (.bool (DK b))/\w=w':=by
 have Z:=Fo b
 by_cases h1:97<=b.toNat
 ·have M:decide (97<=(b.toNat:Int))=true:=by simp;omega
  by_cases h2:b.toNat<=122
  ·have O:decide ((b.toNat:Int)<=122)=true:=by simp;omega
   have E:=I (show DK b=true by simp [DK,h1,h2]);clear h1 h2;go_enter Tryz.func99,Tryz.ntmps99
   go_wp2
   go_ret;exact⟨by rw[E.o];rfl,rfl⟩
  ·have O:decide ((b.toNat:Int)<=122)=false:=by simp;omega
   have E:=I (show DK b=false by simp [DK,h2]);clear h1 h2;go_enter Tryz.func99,Tryz.ntmps99
   go_wp2
   go_ret;exact⟨by rw[E.o];rfl,rfl⟩
 ·have M:decide (97<=(b.toNat:Int))=false:=by simp;omega
  have E:=I (show DK b=false by simp [DK,h1]);clear h1;go_enter Tryz.func99,Tryz.ntmps99
  go_wp2
  go_ret;exact⟨by rw[E.o];rfl,rfl⟩
theorem Me (b:UInt8) (w:World):Calls Tryz.prog 54 #[.int .u8 (b.toNat:Int)] w fun e w'=>e=.returned (.bool (Cs b))/\w=w':=by
 have hb:=Fo b;have c1:=RM b w
 by_cases M:DK b=true
 ·have E:=I (show Cs b=true by simp [Cs,M])
  rw[M] at c1;clear M;go_enter Tryz.func54,Tryz.ntmps54
  go_wp2_with (go_at_call 99;refine Aj c1 ?_;rintro w1 rfl)
  go_ret;exact⟨by rw[E.o];rfl,rfl⟩
 ·have M:DK b=false:=by simpa using M
  rw[M] at c1
  by_cases h1:48<=b.toNat
  ·have O:decide (48<=(b.toNat:Int))=true:=by simp;omega
   by_cases h2:b.toNat<=57
   ·have Z:decide ((b.toNat:Int)<=57)=true:=by simp;omega
    have E:=I (show Cs b=true by simp [Cs,h1,h2]);clear h1 h2 M;go_enter Tryz.func54,Tryz.ntmps54
    go_wp2_with (go_at_call 99;refine Aj c1 ?_;rintro w1 rfl)
    go_ret;exact⟨by rw[E.o];rfl,rfl⟩
   ·have Z:decide ((b.toNat:Int)<=57)=false:=by simp;omega
    have E:=I (show Cs b=false by simp [Cs,h2,M]);clear h1 h2 M;go_enter Tryz.func54,Tryz.ntmps54
    go_wp2_with (go_at_call 99;refine Aj c1 ?_;rintro w1 rfl)
    go_ret;exact⟨by rw[E.o];rfl,rfl⟩
  ·have O:decide (48<=(b.toNat:Int))=false:=by simp;omega
   have E:=I (show Cs b=false by simp [Cs,h1,M]);clear h1 M;go_enter Tryz.func54,Tryz.ntmps54
   go_wp2_with (go_at_call 99;refine Aj c1 ?_;rintro w1 rfl)
   go_ret;exact⟨by rw[E.o];rfl,rfl⟩
theorem KJ {p:UInt8->Bool} {l:L} (h:∀i (h:i<l.length),p l[i]=true) (Z:1<=l.length) (O:l.length<=8):Cm p l=true:=by
 rw[Fu];refine⟨Z,O,?_⟩;rw[List.all_eq_true];intro x M;obtain⟨i,hi,rfl⟩:=List.getElem_of_mem M;exact h i hi
theorem Gz {p:UInt8->Bool} {l:L} {i:Nat} (hi:i<l.length) (h:p l[i]=false):Cm p l=false:=by
 cases e:Cm p l with
 |false=>rfl
 |true=>
  have:=((Fu p l).1 e).2.2;rw[List.all_eq_true] at this;have:=this _ (List.getElem_mem hi);rw[h] at this;cases this
theorem Ho {p:UInt8->Bool} {l:L} (h:l.length<1):Cm p l=false:=by simp [Cm];omega
theorem Jb {p:UInt8->Bool} {l:L} (h:8<l.length):Cm p l=false:=by simp [Cm];omega
def Fit (p:UInt8->Bool) (l:L) (k:Nat):Prop:=∀i (h:i<l.length),i<k->p l[i]=true
theorem Qh (l:L) (w:World) (hs:l.length<=1000000000):Calls Tryz.prog 53 #[.string ⟨l.toArray⟩,.func (.func 204) #[] #[]] w fun e w'=>e=.returned (.bool (Cm capB l))/\w=w':=by
 by_cases h1:l.length<1
 ·have E:=I (Ho (p:=capB) h1)
  have g1:decide ((l.length:Int)<1)=true:=by simp;omega
  clear h1;go_enter Tryz.func53,Tryz.ntmps53
  go_wp2
  go_ret;exact⟨by rw[E.o];rfl,rfl⟩
 ·have g1:decide ((l.length:Int)<1)=false:=by simp;omega
  by_cases h2:8<l.length
  ·have E:=I (Jb (p:=capB) h2)
   have g2:decide (8<(l.length:Int))=true:=by simp;omega
   clear h1 h2;go_enter Tryz.func53,Tryz.ntmps53
   go_wp2
   go_ret;exact⟨by rw[E.o];rfl,rfl⟩
  ·have g2:decide (8<(l.length:Int))=false:=by simp;omega
   have HA:=I (fun h=>KJ (p:=capB) (l:=l) h (by omega) (by omega));clear h1 h2;go_enter Tryz.func53,Tryz.ntmps53
   go_wp2
   go_loop [16] (fun Z=>∃k:Nat,k<=l.length/\Z=.int .i64 (k:Int)/\Fit capB l k) (fun Z=>l.length - (intOf Z).toNat)
   case atStart=>exact⟨0,Nat.zero_le _,rfl,fun i _ h=>by omega⟩
   case round=>
    obtain⟨k,hk,rfl,M⟩:=hrel
    by_cases hlt:k<l.length
    ·have e1:(k:Int)<(l.length:Int):=by omega
     have c1:=Nv l[k] w;have O:=I M;clear M
     by_cases hp:capB l[k]=true
     ·rw[hp] at c1
      have HP:=I hp;clear hp
      go_wp2_with (go_at_call 204;refine Aj c1 ?_;rintro w1 rfl)
      go_round
      case rel=>exact⟨k+1,by omega,by go_num,fun i hi av=>by
       by_cases q:i=k
       ·subst q;exact HP.o
       ·exact O.o i hi (by omega)⟩
      case measure=>simp [intOf];omega
     ·have hp:capB l[k]=false:=by simpa using hp
      rw[hp] at c1;have E:=I (Gz hlt hp);clear hp
      go_wp2_with (go_at_call 204;refine Aj c1 ?_;rintro w1 rfl)
      go_ret;exact⟨by rw[E.o];rfl,rfl⟩
    ·have O:=I M;clear M
     have E:=I (HA.o (fun i hi=>O.o i hi (by omega)));have e1:¬(k:Int)<(l.length:Int):=by omega
     go_wp2
     go_ret;exact⟨by rw[E.o];rfl,rfl⟩
theorem RN (l:L) (w:World) (hs:l.length<=1000000000):Calls Tryz.prog 53 #[.string ⟨l.toArray⟩,.func (.func 54) #[] #[]] w fun e w'=>e=.returned (.bool (Cm Cs l))/\w=w':=by
 by_cases h1:l.length<1
 ·have E:=I (Ho (p:=Cs) h1)
  have g1:decide ((l.length:Int)<1)=true:=by simp;omega
  clear h1;go_enter Tryz.func53,Tryz.ntmps53
  go_wp2
  go_ret;exact⟨by rw[E.o];rfl,rfl⟩
 ·have g1:decide ((l.length:Int)<1)=false:=by simp;omega
  by_cases h2:8<l.length
  ·have E:=I (Jb (p:=Cs) h2)
   have g2:decide (8<(l.length:Int))=true:=by simp;omega
   clear h1 h2;go_enter Tryz.func53,Tryz.ntmps53
   go_wp2
   go_ret;exact⟨by rw[E.o];rfl,rfl⟩
  ·have g2:decide (8<(l.length:Int))=false:=by simp;omega
   have HA:=I (fun h=>KJ (p:=Cs) (l:=l) h (by omega) (by omega));clear h1 h2;go_enter Tryz.func53,Tryz.ntmps53
   go_wp2
   go_loop [16] (fun Z=>∃k:Nat,k<=l.length/\Z=.int .i64 (k:Int)/\Fit Cs l k) (fun Z=>l.length - (intOf Z).toNat)
   case atStart=>exact⟨0,Nat.zero_le _,rfl,fun i _ h=>by omega⟩
   case round=>
    obtain⟨k,hk,rfl,M⟩:=hrel
    by_cases hlt:k<l.length
    ·have e1:(k:Int)<(l.length:Int):=by omega
     have c1:=Me l[k] w;have O:=I M;clear M
     by_cases hp:Cs l[k]=true
     ·rw[hp] at c1
      have HP:=I hp;clear hp
      go_wp2_with (go_at_call 54;refine Aj c1 ?_;rintro w1 rfl)
      go_round
      case rel=>exact⟨k+1,by omega,by go_num,fun i hi av=>by
       by_cases q:i=k
       ·subst q;exact HP.o
       ·exact O.o i hi (by omega)⟩
      case measure=>simp [intOf];omega
     ·have hp:Cs l[k]=false:=by simpa using hp
      rw[hp] at c1;have E:=I (Gz hlt hp);clear hp
      go_wp2_with (go_at_call 54;refine Aj c1 ?_;rintro w1 rfl)
      go_ret;exact⟨by rw[E.o];rfl,rfl⟩
    ·have O:=I M;clear M
     have E:=I (HA.o (fun i hi=>O.o i hi (by omega)));have e1:¬(k:Int)<(l.length:Int):=by omega
     go_wp2
     go_ret;exact⟨by rw[E.o];rfl,rfl⟩
end Nm
namespace Nm
open Go.RowKit Af
theorem Dq (l:List UInt8) (k:Nat):(ByteArray.mk l.toArray).extract 0 k=ByteArray.mk (l.take k).toArray:=by
 rw[ByteArray.extract_mk];simp
attribute [local go_sem] Ep List.getElem_cons_zero List.getElem_cons_succ Cg Ch Dy Dq
theorem YL (b:UInt8):((b.toNat:Int)).toNat.toUInt8=b:=by simp
theorem Vw {c:UInt8} {l:L} (h:c∉l):Lib.indexByte l c = -1:=by
 induction l with
 |nil=>rfl
 |cons x r ih=>
  simp only[List.mem_cons,not_or] at h;rw[Lib.indexByte,if_neg (by simpa using fun e:x=c=>h.1 e.symm),ih h.2];rfl
theorem YM {c:UInt8} {l:L} (h:c∈l):Lib.indexByte l c=((bef c l).length:Int):=by
 induction l with
 |nil=>simp at h
 |cons x r ih=>
  rw[Lib.indexByte,bef]
  by_cases e:x=c
  ·rw[if_pos (by simpa using e),if_pos e];rfl
  ·have hm:c∈r:=(List.mem_cons.1 h).resolve_left fun g=>e g.symm
   rw[if_neg (by simpa using e),if_neg e,ih hm,if_neg (by simp)];simp
theorem Vx {c:UInt8} {l:L} (h:c∈l):l.take (bef c l).length=bef c l:=by
 have e:=LZ h;have g:(bef c l++c :: aft c l).take (bef c l).length=bef c l:=by simp
 rwa [<-e] at g
theorem Vy {c:UInt8} {l:L} (h:c∈l):l.drop ((bef c l).length+1)=aft c l:=by
 have e:=LZ h;have g:(bef c l++c :: aft c l).drop ((bef c l).length+1)=aft c l:=by simp
 rwa [<-e] at g
theorem bF {c:UInt8} {l:L} (h:c∈l):(bef c l).length<l.length:=by
 have:=congrArg List.length (LZ h);simp at this;omega
theorem YN (l:L) (b:UInt8) (w:World):(callFunc 265 #[.string ⟨l.toArray⟩,.int .u8 (b.toNat:Int)]).run Tryz.prog w=.ok (.value (.int .i64 (Lib.indexByte l b))) w:=by
 rw[run_callFunc_extern Tryz.func265 (by kernel_rfl) (by kernel_rfl) (by kernel_rfl) (e:=Extern.BytealgIndexByte.indexByte) (by kernel_rfl),Lib.run_indexByteString];simp only[Result.andThen,YL]
theorem KK (l:L) (b:UInt8) (w:World):Calls Tryz.prog 251 #[.string ⟨l.toArray⟩,.int .u8 (b.toNat:Int)] w fun e w'=>e=.returned (.int .i64 (Lib.indexByte l b))/\w=w':=by
 have h:=fun w=>YN l b w
 go_enter Tryz.func251,Tryz.ntmps251
 go_wp2
 go_ret;exact⟨rfl,rfl⟩
theorem Nx (l:L):(ByteArray.mk l.toArray).size=l.length:=by simp [ByteArray.size]
theorem RQ (l:L) (b:UInt8) (w:World):Calls Tryz.prog 233 #[.string ⟨l.toArray⟩,.string ⟨#[b]⟩] w fun e w'=>e=.returned (.int .i64 (Lib.indexByte l b))/\w=w':=by
 have c1:=KK l b w
 by_cases e:l = [b]
 ·subst e
  have E:=I (show Lib.indexByte [b] b=0 by simp [Lib.indexByte]);go_enter Tryz.func233,Tryz.ntmps233
  go_wp2_with fail
  go_ret;exact⟨by rw[E.o];rfl,rfl⟩
 ·have M:([b]==l)=false:=by simpa using fun g:[b]=l=>e g.symm
  clear e;go_enter Tryz.func233,Tryz.ntmps233
  go_wp2_with (go_at_call 251;refine Aj c1 ?_;rintro w1 rfl)
  go_ret;exact⟨rfl,rfl⟩
def AU (w w':World):Prop:=∃n,w'=w.drewN n
theorem AU.refl (w:World):AU w w:=⟨0,rfl⟩
theorem AU.below {w w':World} (h:AU w w'):Below w.heap.size w w':=by
 obtain⟨n,rfl⟩:=h;exact below_drewN Ah n
theorem Ny (l:L) (b:UInt8) (w:World) (hs:l.length<=1000000000):Calls Tryz.prog 194 #[.string ⟨l.toArray⟩,.string ⟨#[b]⟩] w fun e w'=>
  e=.returned (.tuple #[.string ⟨(bef b l).toArray⟩,.string ⟨(aft b l).toArray⟩,.bool (hasC b l)])/\AU w w':=by
 have c1:=RQ l b w
 by_cases h:b∈l
 ·have Z:=I (show hasC b l=true from(Eu _ _).2 h)
  have O:=I (Vx h);have M:=I (Vy h);have hl:=bF h;obtain⟨n,en⟩:=Ak ((bef b l).length);rw[YM h,<-en] at c1;rw[<-en] at O M hl;have EN:=I en;clear en h;go_enter Tryz.func194,Tryz.ntmps194
  go_wp2_with (go_at_call 233;refine Aj c1 ?_;rintro w1 rfl)
  go_quiet (fail)
  go_wp2
  go_ret3
  rename_i q _
  exact⟨by rw[Z.o,<-O.o,<-M.o];rfl,⟨_,rfl⟩⟩
 ·have Z:=I (show hasC b l=false from(FN _ _).2 h)
  have O:=I (Iw h);have M:=I (Pd h);rw[Vw h] at c1;clear h;go_enter Tryz.func194,Tryz.ntmps194
  go_wp2_with (go_at_call 233;refine Aj c1 ?_;rintro w1 rfl)
  go_ret3
  exact⟨by rw[Z.o,O.o,M.o];rfl,AU.refl _⟩
theorem Nz (l:L) (b:UInt8) (w:World) (hs:l.length<=1000000000):Calls Tryz.prog 144 #[.string ⟨l.toArray⟩,.string ⟨#[b]⟩] w fun e w'=>
  e=.returned (.tuple #[.string ⟨(bef b l).toArray⟩,.string ⟨(aft b l).toArray⟩,.bool (hasC b l)])/\AU w w':=by
 have c1:=Ny l b w hs;go_enter Tryz.func144,Tryz.ntmps144
 go_wp2_with (go_at_call 194;refine Aj c1 ?_;rintro w1 M)
 go_ret3
 exact⟨rfl,M⟩
def preL (p l:L):Bool:=p.isPrefixOf l
theorem Ph (p l:L):(l.take p.length==p)=preL p l:=by
 rw[preL,Bool.eq_iff_iff];simp only[beq_iff_eq,List.isPrefixOf_iff_prefix];rw[List.prefix_iff_eq_take];exact eq_comm
theorem RR {p l:L} (h:preL p l=true):p.length<=l.length:=(List.isPrefixOf_iff_prefix.1 h).length_le
theorem YO {p l:L}:preL p l=true↔l=p++l.drop p.length:=by
 constructor
 ·intro h
  obtain⟨t,e⟩:=List.isPrefixOf_iff_prefix.1 h;rw[<-e];simp
 ·intro h
  rw[preL,List.isPrefixOf_iff_prefix];exact⟨_,h.symm⟩
theorem Ew (l p:L) (w:World) (hs:l.length<=1000000000) (hp:p.length<=1000000000):Calls Tryz.prog 205 #[.string ⟨l.toArray⟩,.string ⟨p.toArray⟩] w fun e w'=>
  e=.returned (.bool (preL p l))/\w=w':=by
 by_cases h:p.length<=l.length
 ·have M:(p.length:Int)<=(l.length:Int):=by omega
  have E:=I (Ph p l);clear h;go_enter Tryz.func205,Tryz.ntmps205
  go_wp2
  go_ret;exact⟨by rw[<-E.o];rfl,rfl⟩
 ·have E:=I (show preL p l=false by
   cases q:preL p l with
   |false=>rfl
   |true=>exact absurd (RR q) h)
  have M:¬(p.length:Int)<=(l.length:Int):=by omega
  clear h;go_enter Tryz.func205,Tryz.ntmps205
  go_wp2
  go_ret;exact⟨by rw[E.o];rfl,rfl⟩
def cpL (p l:L):L:=if preL p l then l.drop p.length else l
theorem Hp (l p:L) (w:World) (hs:l.length<=1000000000) (hp:p.length<=1000000000):Calls Tryz.prog 156 #[.string ⟨l.toArray⟩,.string ⟨p.toArray⟩] w fun e w'=>
  e=.returned (.tuple #[.string ⟨(cpL p l).toArray⟩,.bool (preL p l)])/\w=w':=by
 have c1:=Ew l p w hs hp
 by_cases h:preL p l=true
 ·have O:(p.length:Int)<=(l.length:Int):=by have:=RR h;omega
  have E:=I (show cpL p l=l.drop p.length by rw[cpL,if_pos h]);have M:=I h;rw[h] at c1;clear h;go_enter Tryz.func156,Tryz.ntmps156
  go_wp2_with (go_at_call 205;refine Aj c1 ?_;rintro w1 rfl)
  go_ret2
  exact⟨by rw[E.o,M.o];rfl,rfl⟩
 ·have h:preL p l=false:=by simpa using h
  have E:=I (show cpL p l=l by rw[cpL,if_neg (by simp [h])]);have M:=I h;rw[h] at c1;clear h;go_enter Tryz.func156,Tryz.ntmps156
  go_wp2_with (go_at_call 205;refine Aj c1 ?_;rintro w1 rfl)
  go_ret2
  exact⟨by rw[E.o,M.o];rfl,rfl⟩
theorem GA (l p:L) (w:World) (hs:l.length<=1000000000) (hp:p.length<=1000000000):Calls Tryz.prog 98 #[.string ⟨l.toArray⟩,.string ⟨p.toArray⟩] w fun e w'=>
  e=.returned (.tuple #[.string ⟨(cpL p l).toArray⟩,.bool (preL p l)])/\w=w':=by
 have c1:=Hp l p w hs hp;go_enter Tryz.func98,Tryz.ntmps98
 go_wp2_with (go_at_call 156;refine Aj c1 ?_;rintro w1 rfl)
 go_ret2
 exact⟨rfl,rfl⟩
theorem Mf (u v:L) (b:UInt8) (hv:b∉v) (w:World) (hs:(u++b :: v).length<=1000000000):Calls Tryz.prog 255 #[.string ⟨(u++b :: v).toArray⟩,.int .u8 (b.toNat:Int)] w fun e w'=>
  e=.returned (.int .i64 (u.length:Int))/\w=w':=by
 obtain⟨l,el⟩:=Ak (u++b :: v);have M:∀k (h:k<l.length),u.length<=k->(((l[k]).toNat:Int)==(b.toNat:Int))=decide (k=u.length):=by
  intro k h hk
  by_cases e:k=u.length
  ·subst e
   have:l[u.length]=b:=by subst el;simp
   rw[this];simp
  ·have hm:l[k]∈v:=by
    subst el;rw[List.getElem_append_right (by omega)];obtain⟨j,ej⟩:∃j,k - u.length=j+1:=⟨k - u.length - 1,by omega⟩;simp only[ej,List.getElem_cons_succ];exact List.getElem_mem _
   rw[decide_eq_false e];have:l[k]≠b:=fun q=>hv (q▸hm)
   simp only[beq_eq_false_iff_ne,ne_eq];intro q;exact this (UInt8.toNat_inj.1 (by omega))
 have hlen:u.length<l.length:=by subst el;simp
 rw[<-el] at hs⊢;clear el hv;obtain⟨n,en⟩:=Ak (u.length);rw[<-en] at M hlen⊢;clear en;have Z:=I M;clear M;go_enter Tryz.func255,Tryz.ntmps255
 go_wp2
 go_loop [5] (fun O=>∃k:Nat,k<l.length/\n<=k/\O=.int .i64 (k:Int)) (fun O=>(intOf O).toNat)
 case atStart=>exact⟨l.length - 1,by omega,by omega,by congr 1;omega⟩
 case round=>
  obtain⟨k,hk,hn,rfl⟩:=hrel;have e0:(0:Int)<=(k:Int):=by omega
  have t:=Z.o k hk hn
  by_cases e:k=n
  ·rw[decide_eq_true e] at t
   subst e
   go_wp2
   go_ret;exact⟨rfl,rfl⟩
  ·rw[decide_eq_false e] at t
   have e2:=I e;clear e
   go_wp2
   go_round
   case rel=>exact⟨k - 1,by omega,by have:=e2.o;omega,by congr 1;have:=e2.o;omega⟩
   case measure=>have:=e2.o;simp [intOf];omega
theorem NA (u v:L) (b:UInt8) (M:b∉v) (w:World) (hs:(u++b :: v).length<=1000000000):Calls Tryz.prog 236 #[.string ⟨(u++b :: v).toArray⟩,.string ⟨#[b]⟩] w fun e w'=>
  e=.returned (.int .i64 (u.length:Int))/\w=w':=by
 have c1:=Mf u v b M w hs;obtain⟨l,el⟩:=Ak (u++b :: v);obtain⟨n,en⟩:=Ak (u.length);rw[<-el] at c1 hs⊢;rw[<-en] at c1⊢;clear el en M;go_enter Tryz.func236,Tryz.ntmps236
 go_wp2_with (go_at_call 255;refine Aj c1 ?_;rintro w1 rfl)
 go_ret;exact⟨rfl,rfl⟩
theorem Mh:(Tryz.prog.info? 5).map (fun i=>(i.zero,i.size,i.bytes))=some (some (.int .u8 0),1,1):=by kernel_rfl
theorem Vz (n:Nat) (hn:n<=1000000000) (w:World):(Instr.makeSlice 33 (.int .i64 (n:Int)) (.int .i64 (n:Int))).run Tryz.prog w=.ok (.slice (some ⟨w.heap.size,0,none⟩) n n) (w.alloc (.cells (Dc n) 5)):=by
 obtain⟨M,hi,Z,hs,O⟩:=info_parts Mh;have h:=run_make (P:=Tryz.prog) w 33 5 M _ Tryz.underlying33 hi Z .i64 .i64 (n:Int) (n:Int) (by omega) (by omega) (by rw[O];omega) (by omega);have e:madeCells (Value.int .u8 0).cells (((n:Int)).toNat*M.size)=Dc n:=by
  rw[hs,Nat.mul_one,Int.toNat_natCast];refine Array.toList_inj.1 ?_;show(madeCells #[Value.int .u8 0] n).toList=_;rw[toList_madeCells_one];simp [Dc,bv]
 rw[e] at h
 simpa using h
theorem GB (s:L) (w:World):(Builtin.copy_ #[33,9] 3 #[.slice (some ⟨w.heap.size,0,none⟩) s.length s.length,.string ⟨s.toArray⟩]).run Tryz.prog (w.alloc (.cells (Dc s.length) 5))=.ok (goInt s.length) (w.alloc (.cells (bvs s).toArray 5)):=by
 obtain⟨M,hi,_,hs,_⟩:=info_parts Mh;have hk:=Blk.new w 5 (Dc s.length);have h:=Lib.run_copy_row_string (P:=Tryz.prog) _ 33 9 3 5 w.heap.size 0 s.length s.length ⟨s.toArray⟩ _ 5 Tryz.underlying33 (by rw[hi];simp [hs]) hk (by rw[Nx];exact Nat.le_refl _) (by rw[Nx,Eg];omega);rw[Nx,World.setRow_alloc_new] at h;have e:(Dc s.length).toList.take 0++Lib.byteCells s++(Dc s.length).toList.drop (0+s.length)=bvs s:=by
  rw[List.drop_of_length_le (by rw[Array.length_toList,Eg];omega)];simp [Lib.byteCells,bvs,bv]
 rw[e] at h;exact h
theorem KL (s:L) (M:s≠[]) (hs:s.length<=1000000000) (w:World):(Builtin.unsafeString_ #[256,3] 9 #[.pointer (some ⟨w.heap.size,0,none⟩),.int .i64 (s.length:Int)]).run Tryz.prog (w.alloc (.cells (bvs s).toArray 5))=.ok (.string ⟨s.toArray⟩) ((w.alloc (.cells (bvs s).toArray 5)).freeze ⟨w.heap.size,0,none⟩ s.length):=by
 obtain⟨i0,hi,_,hz,_⟩:=info_parts Mh;have hk:=Blk.new w 5 (bvs s).toArray;refine Lib.run_unsafeString_row (P:=Tryz.prog) _ _ _ _ 5 Tryz.underlying256 (by simp [Program.cellsOf,hi,hz]) w.heap.size s.length ?_ s M Ag (by omega) fun j x O=>?_
 ·unfold World.shape?
  rw[show(w.alloc (.cells (bvs s).toArray 5)).heap[w.heap.size]? = _ from hk];simp [AG]
 ·obtain⟨Z,e⟩:=List.getElem?_eq_some_iff.1 O
  rw[addr_add,Nat.zero_add,hk.cell,List.getElem?_toArray,Gf Z,e];rfl
theorem KM (s:L) (w:World) (M:s.length<=1000000000):Calls Tryz.prog 100 #[.string ⟨s.toArray⟩] w fun e w'=>e=.returned (.string ⟨s.toArray⟩)/\Below w.heap.size w w':=by
 by_cases h0:s = []
 ·subst h0
  go_enter Tryz.func100,Tryz.ntmps100
  go_wp2
  go_ret;exact⟨rfl,Below.refl _ _⟩
 ·have av:=Vz s.length M w
  have Z:=GB s w;have O:=KL s h0 M w;have hl:1<=s.length:=by
   cases s with
   |nil=>exact absurd rfl h0
   |cons a r=>simp
  have t0:((s.length:Int)==0)=false:=by simp;omega
  have HB:=I (Lib.below_freeze ((Below.refl w.heap.size w).alloc Ag (.cells (bvs s).toArray 5)) (p:=⟨w.heap.size,0,none⟩) Ag s.length);clear h0;go_enter Tryz.func100,Tryz.ntmps100
  go_wp2
  go_ret;exact⟨rfl,HB.o⟩
theorem BZ (s:L) (w:World) (M:s.length<=1000000000):Calls Tryz.prog 55 #[.string ⟨s.toArray⟩] w fun e w'=>e=.returned (.string ⟨s.toArray⟩)/\Below w.heap.size w w':=by
 have c1:=KM s w M;go_enter Tryz.func55,Tryz.ntmps55
 go_wp2_with (go_at_call 100;refine Aj c1 ?_;rintro w' O)
 go_ret;exact⟨rfl,O⟩
end Nm
namespace Nm
open Go.RowKit Af
attribute [local go_sem] Ep List.getElem_cons_zero List.getElem_cons_succ Cg Ch Dy Dq
theorem AU.trans {a b c:World} (h:AU a b) (k:AU b c):AU a c:=by
 obtain⟨n,rfl⟩:=h;obtain⟨m,rfl⟩:=k;exact⟨n+m,by simp [World.drewN_drewN]⟩
theorem GC (l:L) (b:UInt8) (w:World) (hs:l.length<=1000000000):Calls Tryz.prog 155 #[.string ⟨l.toArray⟩,.string ⟨#[b]⟩] w fun e w'=>e=.returned (.bool (areL b 4 l))/\AU w w':=by
 have HS:=I hs;clear hs;go_enter Tryz.func155,Tryz.ntmps155
 go_wp2
 go_loopw [0,8] (fun sv iv wr=>∃(k:Nat) (s:L),k<=4/\sv=.string ⟨s.toArray⟩/\iv=.int .i64 (k:Int)/\areL b (4 - k) s=areL b 4 l/\s.length<=l.length/\AU w wr) (fun _ iv _=>4 - (intOf iv).toNat)
 case atStart=>exact⟨0,l,by omega,rfl,rfl,rfl,Nat.le_refl _,AU.refl _⟩
 case round=>
  obtain⟨k,s,hk,rfl,rfl,M,hl,O⟩:=hrel;have HL:=I hl;clear hl;have HD:=I O;clear O
  by_cases hlt:k<4
  ·have e1:(k:Int)<4:=by omega
   have av:s.length<=1000000000:=Nat.le_trans HL.o HS.o;have c1:=Nz s b wr av;have c2:=fun w1=>Qh (bef b s) w1 (by have:=RB b s;omega)
   have C2:=I c2;clear c2;have ea:areL b (4 - k) s=(Cm capB (bef b s)&&(if hasC b s then areL b (4 - (k+1)) (aft b s) else true)):=by
    rw[show 4 - k=(4 - (k+1))+1 by omega];rfl
   rw[ea] at M;have aw:(aft b s).length<=l.length:=by have:=Nq b s;have:=HL.o;omega
   have bb:=I aw;clear aw ea av;cases hw:Cm capB (bef b s) with
   |false=>
    rw[hw,Bool.false_and] at M;have Z:=I M;clear M;have HW:=I hw;clear hw
    go_wp2_with (first
     |(go_at_call 144;refine Aj c1 ?_;rintro w1 O;clear c1;have c2:=C2.o w1;rw[HW.o] at c2;have H1:=I O;clear O)
     |(go_at_call 53;refine Aj c2 ?_;rintro w2 rfl;clear c2))
    go_ret;exact⟨by rw[<-Z.o];rfl,HD.o.trans H1.o⟩
   |true=>
    rw[hw,Bool.true_and] at M;have HW:=I hw;clear hw;cases hc:hasC b s with
    |false=>
     rw[hc,if_neg (by simp)] at M;rw[hc] at c1;have Z:=I M;clear M;have HC:=I hc;clear hc
     go_wp2_with (first
      |(go_at_call 144;refine Aj c1 ?_;rintro w1 O;clear c1;have c2:=C2.o w1;rw[HW.o] at c2;have H1:=I O;clear O)
      |(go_at_call 53;refine Aj c2 ?_;rintro w2 rfl;clear c2))
     go_ret;exact⟨by rw[<-Z.o];rfl,HD.o.trans H1.o⟩
    |true=>
     rw[hc,if_pos rfl] at M;rw[hc] at c1;have Z:=I M;clear M;have HC:=I hc;clear hc
     go_wp2_with (first
      |(go_at_call 144;refine Aj c1 ?_;rintro w1 O;clear c1;have c2:=C2.o w1;rw[HW.o] at c2;have H1:=I O;clear O)
      |(go_at_call 53;refine Aj c2 ?_;rintro w2 rfl;clear c2))
     go_roundw
     case rel=>exact⟨k+1,aft b s,by omega,rfl,by go_num,Z.o,bb.o,HD.o.trans H1.o⟩
     case measure=>simp [intOf];omega
  ·have e1:¬(k:Int)<4:=by omega
   obtain rfl:k=4:=by omega
   have Z:=I (show areL b 4 l=false by rw[<-M];rfl);clear M
   go_wp2
   go_ret;exact⟨by rw[Z.o];rfl,HD.o⟩
theorem bG (l:L):slL l=(preL [47] l&&Cn (split 47 (cpL [47] l))):=by
 cases l with
 |nil=>rfl
 |cons x r=>
  rw[slL,cpL]
  by_cases h:x=47
  ·subst h
   have e:preL [47] (47 :: r)=true:=by simp [preL]
   rw[e];simp
  ·have e:preL [47] (x :: r)=false:=by
    cases q:preL [47] (x :: r) with
    |false=>rfl
    |true=>have:=congrArg List.head? (YO.1 q);simp at this;exact absurd this h
   rw[e];simp [h]
theorem XP (p l:L):(cpL p l).length<=l.length:=by rw[cpL];split<;>simp
theorem KN (l:L) (w:World) (hs:l.length<=1000000000):Calls Tryz.prog 97 #[.string ⟨l.toArray⟩] w fun e w'=>e=.returned (.int .i64 (AR l:Int))/\AU w w':=by
 have c1:=GC l 46 w hs;rw[Ma] at c1;have C2:=I (fun w1=>GA l [47] w1 hs (by decide));have c3:=fun w1=>GC (cpL [47] l) 47 w1 (by have:=XP [47] l;omega)
 rw[Ma] at c3;have C3:=I c3;clear c3 hs;have O:=Qg l;rw[bG] at O;cases h1:Cn (split 46 l) with
 |true=>
  rw[h1] at c1;have E:=I (show AR l=1 by rw[O,h1];rfl);clear O h1;go_enter Tryz.func97,Tryz.ntmps97
  go_wp2_with (go_at_call 155;refine Aj c1 ?_;rintro w1 M;clear c1;have H1:=I M;clear M)
  go_ret;exact⟨by rw[E.o];rfl,H1.o⟩
 |false=>
  rw[h1] at c1;rw[h1,if_neg (by simp)] at O;cases h2:preL [47] l with
  |false=>
   have E:=I (show AR l=0 by rw[O,h2];rfl);have Z:=I h2;clear O h1 h2;go_enter Tryz.func97,Tryz.ntmps97
   go_wp2_with (first
    |(go_at_call 155;refine Aj c1 ?_;rintro w1 M;clear c1;have H1:=I M;clear M;have c2:=C2.o w1;rw[Z.o] at c2)
    |(go_at_call 98;refine Aj c2 ?_;rintro w2 rfl;clear c2))
   go_ret;exact⟨by rw[E.o];rfl,H1.o⟩
  |true=>
   rw[h2,Bool.true_and] at O;have Z:=I h2;cases h3:Cn (split 47 (cpL [47] l)) with
   |false=>
    have E:=I (show AR l=0 by rw[O,h3];rfl);have H3:=I h3;clear O h1 h2 h3;go_enter Tryz.func97,Tryz.ntmps97
    go_wp2_with (first
     |(go_at_call 155;refine Aj c1 ?_;rintro w1 M;clear c1;have H1:=I M;clear M;have c2:=C2.o w1;rw[Z.o] at c2)
     |(go_at_call 98;refine Aj c2 ?_;rintro w2 rfl;clear c2;have c4:=C3.o w1;rw[H3.o] at c4)
     |(go_at_call 155;refine Aj c4 ?_;rintro w3 M;clear c4;have H4:=I M;clear M))
    go_ret;exact⟨by rw[E.o];rfl,H1.o.trans H4.o⟩
   |true=>
    have E:=I (show AR l=2 by rw[O,h3];rfl);have H3:=I h3;clear O h1 h2 h3;go_enter Tryz.func97,Tryz.ntmps97
    go_wp2_with (first
     |(go_at_call 155;refine Aj c1 ?_;rintro w1 M;clear c1;have H1:=I M;clear M;have c2:=C2.o w1;rw[Z.o] at c2)
     |(go_at_call 98;refine Aj c2 ?_;rintro w2 rfl;clear c2;have c4:=C3.o w1;rw[H3.o] at c4)
     |(go_at_call 155;refine Aj c4 ?_;rintro w3 M;clear c4;have H4:=I M;clear M))
    go_ret;exact⟨by rw[E.o];rfl,H1.o.trans H4.o⟩
theorem Fm (l:L) (w:World) (hs:l.length<=1000000000):Calls Tryz.prog 51 #[.string ⟨l.toArray⟩] w fun e w'=>e=.returned (.bool (isL l))/\AU w w':=by
 have c1:=KN l w hs
 by_cases h:1<=AR l
 ·have E:=I (show isL l=true by simp [isL,h])
  have t:((AR l:Int) != 0)=true:=by simp;omega
  clear h;go_enter Tryz.func51,Tryz.ntmps51
  go_wp2_with (go_at_call 97;refine Aj c1 ?_;rintro w1 M;clear c1;have H1:=I M;clear M)
  go_ret;exact⟨by rw[E.o];rfl,H1.o⟩
 ·have E:=I (show isL l=false by simp [isL];omega)
  have O:AR l=0:=by omega
  rw[O] at c1;clear h O;go_enter Tryz.func51,Tryz.ntmps51
  go_wp2_with (go_at_call 97;refine Aj c1 ?_;rintro w1 M;clear c1;have H1:=I M;clear M)
  go_ret;exact⟨by rw[E.o];rfl,H1.o⟩
end Nm
namespace Nm
open Go.RowKit Af
attribute [local go_sem] Ep List.getElem_cons_zero List.getElem_cons_succ Cg Ch Dy Dq
theorem XQ (l:L):(upL l).length<=l.length:=by
 by_cases h:l = []
 ·subst h;rw[bw];exact Nat.le_refl _
 ·exact Nat.le_of_lt (bA h)
theorem Pj (l:L) (w:World) (hs:l.length<=1000000000):Calls Tryz.prog 199 #[.string ⟨l.toArray⟩] w fun e w'=>e=.returned (.string ⟨(upL l).toArray⟩)/\Below w.heap.size w w':=by
 have c1:=KN l w hs
 by_cases h1:AR l=1
 ·rw[h1] at c1
  have c2:=fun w1=>Nz l 46 w1 hs
  have O:upL l=aft 46 l:=by rw[upL,if_pos h1]
  rw[<-O] at c2;have C2:=I c2;clear c2;have C3:=I (fun w1=>BZ (upL l) w1 (Nat.le_trans (XQ l) hs));clear h1 O hs;go_enter Tryz.func199,Tryz.ntmps199
  go_wp2_with (first
   |(go_at_call 97;refine Aj c1 ?_;rintro w1 M;clear c1;have H1:=I M.below;clear M;have c2:=C2.o w1)
   |(go_at_call 144;refine Aj c2 ?_;rintro w2 M;clear c2;have H2:=I (H1.o.trans (M.below.mono H1.o.size));clear M;have c3:=C3.o w2)
   |(go_at_call 55;refine Aj c3 ?_;rintro w3 Z;clear c3;have H3:=H2.t Z;clear Z))
  go_ret;exact⟨rfl,H3.o⟩
 ·by_cases h2:AR l=2
  ·obtain⟨u,v,e,hv,O⟩:=RC h2
   rw[h2] at c1;have c2:=fun w1=>NA u v 47 hv w1 (by rw[<-e];exact hs)
   rw[<-e] at c2;obtain⟨n,en⟩:=Ak (u.length);have et:l.take n=upL l:=by rw[O,en,e];simp
   have ht:(n:Int)<=(l.length:Int):=by rw[e,en];simp;omega
   rw[<-en] at c2;have C2:=I c2;clear c2;have C3:=I (fun w1=>BZ (l.take n) w1 (Nat.le_trans (by simp;omega) hs));have E:=I et;clear en et O e hv h1 h2 hs;go_enter Tryz.func199,Tryz.ntmps199
   go_wp2_with (first
    |(go_at_call 97;refine Aj c1 ?_;rintro w1 M;clear c1;have H1:=I M.below;clear M;have c2:=C2.o w1)
    |(go_at_call 236;refine Aj c2 ?_;rintro w2 rfl;clear c2;have c3:=C3.o w1)
    |(go_at_call 55;refine Aj c3 ?_;rintro w3 Z;clear c3;have H3:=H1.t Z;clear Z))
   go_ret;exact⟨by rw[<-E.o];rfl,H3.o⟩
  ·have hk:=IX l
   have e0:AR l=0:=by omega
   have E:=I (IZ e0);rw[e0] at c1;clear e0 hk h1 h2 hs;go_enter Tryz.func199,Tryz.ntmps199
   go_wp2_with (go_at_call 97;refine Aj c1 ?_;rintro w1 M;clear c1;have H1:=I M.below;clear M)
   go_ret;exact⟨by rw[E.o];rfl,H1.o⟩
theorem RT (a b:L) (w:World) (hs:a.length<=1000000000):Calls Tryz.prog 198 #[.string ⟨a.toArray⟩,.string ⟨b.toArray⟩] w fun e w'=>e=.returned (.bool (Gx a b))/\Below w.heap.size w w':=by
 have c1:=Pj a w hs;have c2:=fun(i:Nat) w1=>Pj (pl (ch (upL a)) i) w1 (by
  rcases Nat.lt_or_ge i (ch (upL a)).length with g | g
  ·have h1:=RH (DL g);have:=XQ a;omega
  ·rw[KG g];simp)
 obtain⟨A,eA⟩:=Ak (ch (upL a));have h0:upL a=pl A 0:=by
  rw[eA]
  by_cases h:upL a = []
  ·rw[h,DX];rfl
  ·exact(Ev h).symm
 have O:∀i,i<A.length->upL (pl A i)=pl A (i+1):=by rw[eA];exact fun i h=>Vs _ h
 have Z:∀i,i<A.length->pl A i≠[]:=by rw[eA];exact fun i h=>RE _ h
 have hu:Gx a b=decide (b∈A):=by rw[eA];rfl
 rw[<-eA] at c2;rw[h0] at c1;clear eA hs;have C2:=I c2;clear c2;have av:=I O;clear O;have aw:=I Z;clear Z;have HU:=I hu;clear hu h0;have bb:=I (Below.refl w.heap.size w);go_enter Tryz.func198,Tryz.ntmps198
 go_wp2_with (go_at_call 199;refine Aj c1 ?_;rintro w1 M;clear c1;have H1:=I M;clear M)
 go_loopg [5] A.length (fun g sv wr=>∃i:Nat,i+g=A.length/\sv=.string ⟨(pl A i).toArray⟩/\(∀k,k<i->pl A k≠b)/\Below w.heap.size w wr)
 case atStart=>exact⟨0,Nat.zero_add _,rfl,fun k h=>absurd h (Nat.not_lt_zero k),H1.o⟩
 case round=>
  obtain⟨i,hi,rfl,hn,M⟩:=hrel;have HN:=I hn;clear hn;have HB:=I M;clear M
  by_cases hlt:i<A.length
  ·have t1:(pl A i == [])=false:=by simpa using aw.o i hlt
   have c3:=C2.o i wr;rw[av.o i hlt] at c3
   by_cases hx:pl A i=b
   ·have t2:(pl A i==b)=true:=by simpa using hx
    have E:=I (show Gx a b=true by rw[HU.o,<-hx];simpa using DL hlt);clear hx c3;have HI:=I hi;clear hi
    go_wp2_with fail
    go_ret;exact⟨by rw[E.o];rfl,HB.o⟩
   ·have t2:(pl A i==b)=false:=by simpa using hx
    have HX:=I hx;clear hx;have HI:=I hi;clear hi
    go_wp2_with (go_at_call 199;refine Aj c3 ?_;rintro w3 M;clear c3;have H3:=HB.t M;clear M)
    go_roundg (A.length - (i+1))
    case measure=>have:=HI.o;omega
    case rel=>exact⟨i+1,by have:=HI.o;omega,rfl,fun k hk=>by
     by_cases q:k=i
     ·rw[q];exact HX.o
     ·exact HN.o k (by omega),H3.o⟩
  ·have E:=I (show Gx a b=false by
    rw[HU.o,decide_eq_false_iff_not];intro hm;obtain⟨k,hk,e⟩:=mem_pl hm;exact HN.o k (by omega) e)
   have t1:pl A i = []:=KG (by omega);rw[t1];clear t1 hi hlt
   go_wp2_with fail
   go_ret;exact⟨by rw[E.o];rfl,HB.o⟩
end Nm
namespace Nm
open Go.RowKit Af
theorem Mi (a b:L):ByteArray.mk a.toArray++ByteArray.mk b.toArray=ByteArray.mk (a++b).toArray:=by
 apply ByteArray.ext;simp
attribute [local go_sem] Ep List.getElem_cons_zero List.getElem_cons_succ Cg Ch Dy Dq
def krb:L:=[107,114,98,116,103,116,47]
def tgL (n:L):Bool:=preL krb n&&isL (cpL krb n)
def tgR (n:L):L:=if tgL n then n.drop 7 else []
def Ct (r n:L):Bool:=isL r&&(tgL n||Cm Cs n)
theorem Qi (n:L) (w:World) (hs:n.length<=1000000000):Calls Tryz.prog 52 #[.string ⟨n.toArray⟩] w fun e w'=>e=.returned (.tuple #[.string ⟨(tgR n).toArray⟩,.bool (tgL n)])/\Below w.heap.size w w':=by
 have c1:=GA n krb w hs (by decide);have O:=XP krb n;have c2:=Fm (cpL krb n) w (by omega);have C3:=I (fun w1=>BZ (cpL krb n) w1 (by omega));have av:=I (Below.refl w.heap.size w);cases h1:preL krb n with
 |false=>
  have M:=I (show tgL n=false by rw[tgL,h1];rfl);have E2:=I (show tgR n = [] by rw[tgR,M.o];rfl);rw[h1] at c1;clear h1 hs O c2;go_enter Tryz.func52,Tryz.ntmps52
  go_wp2_with (go_at_call 98;refine Aj c1 ?_;rintro w1 rfl;clear c1)
  go_ret2
  exact⟨by rw[M.o,E2.o];rfl,av.o⟩
 |true=>
  cases h2:isL (cpL krb n) with
  |false=>
   have M:=I (show tgL n=false by rw[tgL,h1,h2];rfl);have E2:=I (show tgR n = [] by rw[tgR,M.o];rfl);rw[h1] at c1;rw[h2] at c2;clear h1 h2 hs O;go_enter Tryz.func52,Tryz.ntmps52
   go_wp2_with (first
    |(go_at_call 98;refine Aj c1 ?_;rintro w1 rfl;clear c1)
    |(go_at_call 51;refine Aj c2 ?_;rintro w2 Z;clear c2;have H2:=I Z.below;clear Z))
   go_ret2
   exact⟨by rw[M.o,E2.o];rfl,H2.o⟩
  |true=>
   have M:=I (show tgL n=true by rw[tgL,h1,h2];rfl);have E2:=I (show tgR n=cpL krb n by rw[tgR,M.o,cpL,h1];rfl);rw[h1] at c1;rw[h2] at c2;clear h1 h2 hs O;go_enter Tryz.func52,Tryz.ntmps52
   go_wp2_with (first
    |(go_at_call 98;refine Aj c1 ?_;rintro w1 rfl;clear c1)
    |(go_at_call 51;refine Aj c2 ?_;rintro w2 Z;clear c2;have H2:=I Z.below;clear Z;have c3:=C3.o w2)
    |(go_at_call 55;refine Aj c3 ?_;rintro w3 hb;clear c3;have H3:=H2.t hb;clear hb))
   go_ret2
   exact⟨by rw[M.o,E2.o];rfl,H3.o⟩
theorem AV (r n:L) (w:World) (hs:r.length<=1000000000) (bs:n.length<=1000000000):Calls Tryz.prog 24 #[.agg #[.string ⟨r.toArray⟩,.string ⟨n.toArray⟩]] w fun e w'=>e=.returned (.bool (Ct r n))/\Below w.heap.size w w':=by
 have c1:=Fm r (w.alloc (.cells #[.string ⟨r.toArray⟩,.string ⟨n.toArray⟩] 37)) hs;have hk:=Blk.new w 37 #[.string ⟨r.toArray⟩,.string ⟨n.toArray⟩];have bx:=(Below.refl w.heap.size w).alloc Ag (.cells #[.string ⟨r.toArray⟩,.string ⟨n.toArray⟩] 37);have bn:w.heap.size<(w.alloc (.cells #[.string ⟨r.toArray⟩,.string ⟨n.toArray⟩] 37)).heap.size:=by simp
 obtain⟨N,eN⟩:=Ak (w.heap.size);have C2:=I (fun w1=>Qi n w1 bs);have C3:=I (fun w1=>RN n w1 bs);have E1:=I (show Ct r n=(isL r&&(tgL n||Cm Cs n)) from rfl);rw[<-eN] at hk bx bn⊢;have EN:=I eN;clear eN;have HK:=I hk;clear hk;have aw:=I bx;clear bx;have Z:=I bn;clear bn hs bs;cases h1:isL r with
 |false=>
  rw[h1] at c1;have E:=I (show Ct r n=false by rw[E1.o,h1];rfl);clear h1;go_enter Tryz.func24,Tryz.ntmps24
  go_wp2_with (go_at_call 51;refine Aj c1 ?_;rintro w1 M;clear c1;have H1:=I (aw.o.trans (M.below.mono (Nat.le_of_lt Z.o)));clear M)
  go_ret;exact⟨by rw[E.o];rfl,H1.o⟩
 |true=>
  rw[h1] at c1;have ca:=I (fun w1=>C2.o w1);cases h2:tgL n with
  |true=>
   have E:=I (show Ct r n=true by rw[E1.o,h1,h2];rfl);have HT:=I h2;clear h1 h2;go_enter Tryz.func24,Tryz.ntmps24
   go_wp2_with (first
    |(go_at_call 51;refine Aj c1 ?_;rintro w1 M;clear c1;have H1:=I (aw.o.trans (M.below.mono (Nat.le_of_lt Z.o)));have av:=(HK.o.below M.below).cell 1;have O:N<w1.heap.size:=(by have:=M.below.size;have:=Z.o;omega);have bb:=I O;rw[EN.o] at av;clear M O;have c2:=C2.o w1;rw[HT.o] at c2)
    |(go_at_call 52;refine Aj c2 ?_;rintro w2 hb;clear c2;have H2:=I (H1.o.trans (hb.mono (Nat.le_of_lt bb.o)));clear hb))
   go_ret;exact⟨by rw[E.o];rfl,H2.o⟩
  |false=>
   have E:=I (show Ct r n=Cm Cs n by rw[E1.o,h1,h2];rfl);have HT:=I h2;clear h1 h2;go_enter Tryz.func24,Tryz.ntmps24
   go_wp2_with (first
    |(go_at_call 51;refine Aj c1 ?_;rintro w1 M;clear c1;have H1:=I (aw.o.trans (M.below.mono (Nat.le_of_lt Z.o)));have bq:=HK.o.below M.below;have bB:=I bq;have av:=bq.cell 1;have O:N<w1.heap.size:=(by have:=M.below.size;have:=Z.o;omega);have bb:=I O;rw[EN.o] at av;clear M O bq;have c2:=C2.o w1;rw[HT.o] at c2)
    |(go_at_call 52;refine Aj c2 ?_;rintro w2 hb;clear c2 av;have H2:=I (H1.o.trans (hb.mono (Nat.le_of_lt bb.o)));have bz:=(bB.o.below hb).cell 1;rw[EN.o] at bz;clear hb;have c3:=C3.o w2)
    |(go_at_call 53;refine Aj c3 ?_;rintro w3 rfl;clear c3))
   go_ret;exact⟨by rw[E.o];rfl,H2.o⟩
end Nm
namespace Nm
theorem VA {a b x:L} (h:x∈KH (ch a) (ch b)):x∈ch a\/x∈ch b:=by
 rw[KH,List.mem_append,List.mem_append,List.mem_reverse] at h;rcases h with h | h | h
 ·exact .inl (List.mem_of_mem_take h)
 ·exact .inl (List.mem_of_mem_drop (List.mem_of_mem_take h))
 ·exact .inr (List.mem_of_mem_take h)
theorem VB (a b:L):(KH (ch a) (ch b)).length<=9:=by
 have:=Mb a;have:=Mb b;rw[KH];simp only[List.length_append,List.length_take,List.length_reverse,List.length_drop];omega
theorem Gm (a b:L):(Bq a b).length<=9:=by
 rw[Bq]
 split
 ·simp
 ·have:=VB a b
  simp only[List.length_dropLast,List.length_drop];omega
theorem Mj {a b x:L} (h:x∈Bq a b):AR x≠0:=by
 rw[Bq] at h
 split at h
 ·simp at h
 ·rename_i hk
  rw[not_or] at hk;have O:=List.mem_of_mem_drop ((List.dropLast_sublist _).subset h);rcases VA O with M | M
  ·rw[Pg M];exact hk.1
  ·rw[Pg M];exact hk.2
open Go.RowKit Af
def st (l:L):Value:=.string ⟨l.toArray⟩
def strs (ls:List L):List Value:=ls.map st
theorem DM (ls:List L):(strs ls).length=ls.length:=by simp [strs]
theorem Jc (ls ms:List L):strs (ls++ms)=strs ls++strs ms:=by simp [strs]
theorem KQ (ls:List L):∀u∈strs ls,u.oneCell'=true:=by
 intro u hu;obtain⟨b,_,rfl⟩:=List.mem_map.1 hu
 rfl
theorem YP {ls:List L} {i:Nat} (h:i<ls.length):(strs ls)[i]? = some (st (pl ls i)):=by
 rw[strs,List.getElem?_map,List.getElem?_eq_getElem h,CK h];rfl
theorem Iy:(Tryz.prog.info? 9).map (fun i=>(i.zero,i.size,i.bytes))=some (some (.string ⟨#[]⟩),1,16):=by kernel_rfl
def Own (w:World) (base:Nat) (v:Value) (ls:List L):Prop:=w.ownsRow base 9 1 v ls.length (strs ls)
theorem Own.nil (w:World) (base:Nat):Own w base (.slice none 0 0) []:=World.ownsRow_nil w base _ 1
theorem Own.below {w w':World} {base:Nat} {v:Value} {ls:List L} (h:Own w base v ls) (M:Below w.heap.size w w'):Own w' base v ls:=BS h M
theorem Own.from_ {w:World} {base base':Nat} {v:Value} {ls:List L} (h:Own w base v ls) (hb:base'<=base):Own w base' v ls:=by
 refine⟨h.1,?_⟩;rcases h.2 with h | ⟨g,cap,cur,O,Z,M⟩
 ·exact .inl h
 ·exact .inr ⟨g,cap,cur,O,by omega,M⟩
theorem Own.slice {w:World} {base:Nat} {v:Value} {ls:List L} (h:Own w base v ls):∃A c,v=.slice A ls.length c/\Rd w w.heap.size A (strs ls):=by
 have O:=h;rcases h.2 with⟨M,Z⟩ | ⟨g,cap,cur,M,_⟩
 ·have e:ls = []:=List.eq_nil_of_length_eq_zero Z
  subst e;exact⟨none,0,M,.inl rfl⟩
 ·subst M
  exact⟨_,cap,rfl,Rd.of_own (n:=ls.length) (cap:=cap) O⟩
theorem Own.lt {w:World} {base:Nat} {v:Value} {ls:List L} (h:Own w base v ls):∀k,v.ownBlock=some k->base<=k/\k<w.heap.size:=World.ownsRow.lt h
theorem DD {w:World} {B:Nat} {A:Option Addr} {ls:List L} (h:Rd w B A (strs ls)) {i:Nat} (hi:i<ls.length):∃b o,A=some ⟨b,o,none⟩/\b<B/\w.cell? ⟨b,o+i,none⟩=some (.string ⟨(pl ls i).toArray⟩):=
 h.at_ (YP hi)
section
variable {w:World} {ops:Array Oper} {rest:List Oper} {o:Oper} {a:Act} {Q:Exit->Act->World->Prop}
theorem Pk (O:o.guard=none) (s x:Operand) (ho:o.op=.call {callee:=.builtin .append,args:=#[s,x],argTypes:=#[40,40]})
  (base:Nat) (v:Value) (ls:List L) (hs:a.eval s=v) (M:Own w base v ls) (B:Nat) (A:Option Addr) (c:Nat) (ms:List L) (hx:a.eval x=.slice A ms.length c) (hr:Rd w B A (strs ms))
  (hl:ls.length+ms.length<=8000000000000) (hb:base<=w.heap.size)
  (h:∀v' w',Own w' base v' (ls++ms)->Below base w w'->wpList Tryz.prog ops Q rest (a.put o.dst v') w'):wpList Tryz.prog ops Q (o :: rest) a w:=by
 obtain⟨i0,av,bb,Z,aw⟩:=info_parts Iy;refine AI w O s x 40 ho base 9 i0 _ 16 Tryz.underlying40 av bb Z aw rfl v ls.length (strs ls) hs M B A ms.length c (strs ms) hx (DM _).symm hr (KQ _) (by unfold maxLen;omega) (by omega) hb ?_;intro v' w' h1 h2 _;refine h v' w' (by rw[Own,List.length_append,Jc];exact h1) ?_;exact Ah.grown h2 hb (fun k hk=>(M.lt k hk).1)
theorem Hq (O:o.guard=none) (s x:Operand) (Z:o.op=.call {callee:=.builtin .append,args:=#[s,x],argTypes:=#[40,40]})
  (base:Nat) (v:Value) (ls:List L) (hs:a.eval s=v) (M:Own w base v ls) (r:L) (hx:a.eval x=.slice (some ⟨w.heap.size,0,none⟩) 1 1)
  (hl:ls.length+1<=8000000000000) (hb:base<=w.heap.size)
  (h:∀v' w',Own w' base v' (ls++[r])->Below base w w'->wpList Tryz.prog ops Q rest (a.put o.dst v') w'):wpList Tryz.prog ops Q (o :: rest) a (w.alloc (.cells #[.string ⟨r.toArray⟩] 9)):=by
 refine Pk O s x Z base v ls hs (M.below (Ah.alloc Ag _)) (w.heap.size+1) _ 1 [r] hx ?_ hl (by simp;omega) ?_
 ·refine .inr ⟨w.heap.size,0,rfl,by omega,fun i u hu=>?_⟩
  cases i with
  |zero=>
   simp only[strs,List.map_cons,List.map_nil,List.getElem?_cons_zero,Option.some.injEq] at hu;subst hu;exact(Blk.new w 9 _).cell 0
  |succ i=>simp [strs] at hu
 ·intro v' w' h1 h2
  exact h v' w' h1 ((Ah.alloc hb _).trans h2)
end
def rev (ls:List L) (k:Nat):List L:=(List.range ls.length).map fun j=>if j<k\/ls.length<=j+k then pl ls (ls.length - 1 - j) else pl ls j
theorem Bh (ls:List L) (k:Nat):(rev ls k).length=ls.length:=by simp [rev]
theorem Kh (ls:List L) (k j:Nat) (h:j<ls.length):pl (rev ls k) j=if j<k\/ls.length<=j+k then pl ls (ls.length - 1 - j) else pl ls j:=by
 rw[CK (by rw[Bh];exact h)];simp [rev]
theorem RU {A B:List L} (h:A.length=B.length) (hp:∀i,i<A.length->pl A i=pl B i):A=B:=by
 apply List.ext_getElem h;intro i M O;have:=hp i M
 rwa [CK M,CK O] at this
theorem rev_zero (ls:List L):rev ls 0=ls:=by
 refine RU (Bh _ _) fun i hi=>?_
 rw[Bh] at hi;rw[Kh _ _ _ hi,if_neg (by omega)]
theorem YQ (ls:List L) (k:Nat) (h:ls.length<=2*k+1) (hk:k<=ls.length):rev ls k=ls.reverse:=by
 refine RU (by rw[Bh];simp) fun i hi=>?_
 rw[Bh] at hi;rw[Kh _ _ _ hi,CK (A:=ls.reverse) (by simpa using hi),List.getElem_reverse,<-CK]
 by_cases q:i<k\/ls.length<=i+k
 ·rw[if_pos q]
 ·rw[if_neg q,show ls.length - 1 - i=i by omega]
theorem XR (A:List L) (i j:Nat) (x:L) (h:j<A.length):pl (A.set i x) j=if i=j then x else pl A j:=by
 rw[CK (by simpa using h),List.getElem_set,CK h]
theorem VC (ls:List L) (k:Nat) (h:2*k+1<ls.length):((rev ls k).set k (pl (rev ls k) (ls.length - 1 - k))).set (ls.length - 1 - k) (pl (rev ls k) k)=rev ls (k+1):=by
 refine RU (by simp [Bh]) fun i hi=>?_
 simp only[List.length_set,Bh] at hi;rw[XR _ _ _ _ (by simp [Bh];omega),XR _ _ _ _ (by rw[Bh];omega),Kh _ _ _ hi,Kh _ _ i hi,Kh _ _ k (by omega),Kh _ _ (ls.length - 1 - k) (by omega)]
 by_cases q1:ls.length - 1 - k=i
 ·rw[if_pos q1,if_neg (by omega),if_pos (by omega),show ls.length - 1 - i=k by omega]
 ·rw[if_neg q1]
  by_cases q2:k=i
  ·rw[if_pos q2,if_neg (by omega),if_pos (by omega),q2]
  ·rw[if_neg q2]
   by_cases q3:i<k\/ls.length<=i+k
   ·rw[if_pos q3,if_pos (by omega)]
   ·rw[if_neg q3,if_neg (by omega)]
theorem VD (ls:List L) (i:Nat) (x:L):strs (ls.set i x)=(strs ls).set i (st x):=by simp [strs,List.map_set]
theorem Own.stored {w:World} {base g n cap:Nat} {ls:List L} (h:Own w base (.slice (some ⟨g,0,none⟩) n cap) ls) (M:n=ls.length) (j:Nat) (x:L) :
  Own (w.setCell ⟨g,j,none⟩ (.string ⟨x.toArray⟩)) base (.slice (some ⟨g,0,none⟩) n cap) (ls.set j x)/\w.grownBy (w.setCell ⟨g,j,none⟩ (.string ⟨x.toArray⟩)) (some g):=by
 subst M;have:=World.ownsRow.stored h j (st x);refine⟨?_,this.2⟩;rw[Own,List.length_set,VD];exact this.1
theorem NC (v:Value) (ls:List L) (w:World) (base:Nat) (h:Own w base v ls) (hb:base<=w.heap.size) (hl:ls.length<=100000) :
  Calls Tryz.prog 237 #[v] w fun e w'=>e=.returned (.tuple #[])/\Own w' base v ls.reverse/\Below base w w':=by
 rcases Nat.eq_zero_or_pos ls.length with h0 | h0
 ·obtain⟨A,c,rfl,_⟩:=h.slice
  have e:ls = []:=List.eq_nil_of_length_eq_zero h0;subst e;have HO:=I h;clear h;simp only[List.length_nil];clear h0;go_enter Tryz.func237,Tryz.ntmps237
  go_wp2
  go_loopg [2,3] 0 (fun _ s2 s3 wr=>s2=.int .i64 0/\s3=.int .i64 (-1)/\wr=w)
  case atStart=>exact⟨rfl,rfl,rfl⟩
  case round=>
   obtain⟨rfl,rfl,rfl⟩:=hrel
   go_wp2
   go_end0
   exact⟨rfl,HO.o,Below.refl _ _⟩
 ·obtain⟨g,cap,rfl,hg⟩:∃g cap,v=.slice (some ⟨g,0,none⟩) ls.length cap/\base<=g:=by
   rcases h.2 with⟨_,Z⟩ | ⟨g,cap,cur,h1,Z,_⟩
   ·omega
   ·exact⟨g,cap,h1,Z⟩
  obtain⟨n,en⟩:=Ak (ls.length);rw[<-en] at h hl h0⊢;have M:=I en;clear en;have HO:=I h;clear h;have HB:=I (show Below base w w from Below.refl _ _);have HG:=I hg;clear hg;have bb:=I hb;clear hb;go_enter Tryz.func237,Tryz.ntmps237
  go_wp2
  go_loopg [2,3] n (fun q s2 s3 wr=>∃i j:Nat,i+j+1=n/\i+q=n/\i<=j+1/\s2=.int .i64 (i:Int)/\s3=.int .i64 (j:Int)/\Own wr base (.slice (some ⟨g,0,none⟩) n cap) (rev ls i)/\Below base w wr)
  case atStart=>exact⟨0,n - 1,by omega,by omega,by omega,rfl,by congr 1;omega,by rw[rev_zero];exact HO.o,HB.o⟩
  case round=>
   obtain⟨i,j,h1,Z,h3,rfl,rfl,ho,hb⟩:=hrel;have aw:=I hb;clear hb
   by_cases hlt:i<j
   ·have hr:=ho.slice
    have ci:wr.cell? ⟨g,i,none⟩=some (.string ⟨(pl (rev ls i) i).toArray⟩):=by
     obtain⟨A,c,e,O⟩:=hr;injection e with e1 e2 e3;subst e1;obtain⟨b',o',e4,_,e5⟩:=DD O (i:=i) (by rw[Bh,<-M.o];omega);injection e4 with e4;injection e4 with e6 e7;subst e6;subst e7
     rwa [Nat.zero_add] at e5
    have cj:wr.cell? ⟨g,j,none⟩=some (.string ⟨(pl (rev ls i) j).toArray⟩):=by
     obtain⟨A,c,e,O⟩:=hr;injection e with e1 e2 e3;subst e1;obtain⟨b',o',e4,_,e5⟩:=DD O (i:=j) (by rw[Bh,<-M.o];omega);injection e4 with e4;injection e4 with e6 e7;subst e6;subst e7
     rwa [Nat.zero_add] at e5
    have fi:wr.frozen? ⟨g,i,none⟩=false:=World.ownsRow.frozenAt (n:=n) (by have:=ho;rw[Own,Bh,<-M.o] at this;exact this) i;have fj:wr.frozen? ⟨g,j,none⟩=false:=World.ownsRow.frozenAt (n:=n) (by have:=ho;rw[Own,Bh,<-M.o] at this;exact this) j;clear hr;have av:=I ho;clear ho;have e1:(i:Int)<(j:Int):=by omega
    have H1:=I h1;have H2:=I Z;clear Z;have H3:=I h3;clear h3
    go_wp2_with fail
    go_region
    go_wp2
    have s1:=av.o.stored (by rw[Bh,<-M.o]) i (pl (rev ls i) j);have s2:=s1.1.stored (by rw[List.length_set,Bh,<-M.o]) j (pl (rev ls i) i);have er:((rev ls i).set i (pl (rev ls i) j)).set j (pl (rev ls i) i)=rev ls (i+1):=by
     have:=VC ls i (by have:=M.o;have:=H1.o;omega)
     rwa [show ls.length - 1 - i=j by have:=M.o;have:=H1.o;omega] at this
    rw[er] at s2
    go_roundg (n - (i+1))
    case measure=>have:=H2.o;omega
    case rel=>
     refine⟨i+1,j - 1,by have:=H1.o;omega,by have:=H2.o;omega,by omega,by go_num,by congr 1;omega,s2.1,?_⟩;have b1:=aw.o.grown s1.2 (by have:=aw.o.size;have:=bb.o;omega) (fun k hk=>by injection hk with hk;have:=HG.o;omega);have b2:=b1.grown s2.2 (by have:=b1.size;have:=bb.o;omega) (fun k hk=>by injection hk with hk;have:=HG.o;omega);exact below_drewN b2 1
   ·have av:=I ho;clear ho
    have e1:¬(i:Int)<(j:Int):=by omega
    have E:=I (YQ ls i (by have:=M.o;omega) (by have:=M.o;omega));have H1:=I h1;clear h1;have H2:=I Z;clear Z;have H3:=I h3;clear h3
    go_wp2
    go_end0
    exact⟨rfl,by rw[<-E.o];exact av.o,aw.o⟩
theorem Mk {b:L} (i:Nat):(pl (ch b) i).length<=b.length:=by
 rcases Nat.lt_or_ge i (ch b).length with g | g
 ·exact RH (DL g)
 ·rw[KG g];simp
theorem Jd (B:List L) (b:L) (k:Nat):(Fw B b k).length<=k:=by
 induction k with
 |zero=>simp [Fw]
 |succ k ih=>rw[Fw,List.length_append];split<;>simp<;>omega
theorem KR (B:List L) (b:L) (k:Nat):(upW B b k).length<=k:=by
 induction k with
 |zero=>simp [upW]
 |succ k ih=>rw[upW,List.length_append];split<;>simp<;>omega
theorem VE (x b:L) (k:Nat) (w:World) (hs:b.length<=1000000000) (hk:k<=(ch b).length) (hx:pl (ch b) k=x) (hn:∀i,i<k->pl (ch b) i≠x) :
  Calls Tryz.prog 200 #[.string ⟨x.toArray⟩,.string ⟨b.toArray⟩] w fun e w'=>∃v,e=.returned v/\Own w' w.heap.size v (Fw (ch b) b k).reverse/\Below w.heap.size w w':=by
 have c2:=fun(i:Nat) w1=>Pj (pl (ch b) i) w1 (Nat.le_trans (Mk i) hs)
 have bz:=Mb b;have bb:∀i,i<(ch b).length->upL (pl (ch b) i)=pl (ch b) (i+1):=fun i h=>Vs _ h
 have h0:pl (ch b) 0=b:=by
  by_cases e:b = []
  ·subst e;rw[DX];rfl
  ·exact Ev e
 obtain⟨B,eB⟩:=Ak (ch b);rw[<-eB] at c2 bz bb h0 hk hx hn⊢;clear eB;obtain⟨N,eN⟩:=Ak (w.heap.size);rw[<-eN];have HX:=I hx;clear hx;have H0:=I h0;clear h0;have HN:=I hn;clear hn;have C2:=I c2;clear c2;have bx:=I bb;clear bb;have bs:=I (show Below N w w by exact Below.refl _ _);have EN:=I eN;clear eN;clear hs;go_enter Tryz.func200,Tryz.ntmps200
 go_wp2
 go_loopg [5,6] k (fun g vv rv wr=>∃i:Nat,i+g=k/\rv=.string ⟨(pl B i).toArray⟩/\Own wr N vv (Fw B b i)/\Below N w wr)
 case atStart=>exact⟨0,Nat.zero_add _,by rw[H0.o],Own.nil _ _,bs.o⟩
 case round=>
  obtain⟨i,hi,rfl,ho,M⟩:=hrel;have HO:=I ho;clear ho;have HB:=I M;clear M;have HI:=I hi;clear hi;have aw:=I (show N<=wr.heap.size by have:=HB.o.size;have:=EN.o;omega)
  by_cases hlt:i<k
  ·have t1:(pl B i==x)=false:=by simpa using HN.o i hlt
   have c3:=fun w1=>C2.o i w1
   rw[bx.o i (by omega)] at c3;have C3:=I c3;clear c3
   by_cases M:pl B i=b
   ·have t2:(pl B i==b)=true:=by simpa using M
    have E:=I (show Fw B b (i+1)=Fw B b i by rw[Fw,if_pos M,List.append_nil]);clear M;have c3:=C3.o wr
    go_wp2_with (go_at_call 199;refine Aj c3 ?_;rintro w3 M;clear c3;have H3:=I (HB.o.trans (M.mono aw.o));have Z:=I (HO.o.below M);clear M)
    go_roundg (k - (i+1))
    case measure=>have:=HI.o;omega
    case rel=>exact⟨i+1,by have:=HI.o;omega,rfl,by rw[E.o];exact Z.o,H3.o⟩
   ·have t2:(pl B i==b)=false:=by simpa using M
    have E:=I (show Fw B b (i+1)=Fw B b i++[pl B i] by rw[Fw,if_neg M]);clear M
    go_wp2_with (first
     |(at_builtin;refine Hq rfl (.tmp 16) (.tmp 18) rfl N _ _ rfl HO.o (pl B i) rfl (by have:=Jd B b i;omega) aw.o ?_;intro v' w3 O bq;have H3:=I (HB.o.trans bq);rw[<-E.o] at O;have Z:=I O;clear O bq;have av:N<=w3.heap.size:=(by have:=H3.o.size;have:=EN.o;omega);have bn:=I av;clear av;have c3:=C3.o w3)
     |(go_at_call 199;refine Aj c3 ?_;rintro w4 M;clear c3;have H4:=I (H3.o.trans (M.mono bn.o));have bB:=I (Z.o.below M);clear M))
    go_roundg (k - (i+1))
    case measure=>have:=HI.o;omega
    case rel=>exact⟨i+1,by have:=HI.o;omega,rfl,bB.o,H4.o⟩
  ·obtain rfl:i=k:=by have:=HI.o;omega
   have t1:(pl B i==x)=true:=by simpa using HX.o
   have c4:=NC _ _ wr N HO.o aw.o (by have:=Jd B b i;omega)
   go_wp2_with (go_at_call 237;refine Aj c4 ?_;rintro w3 ⟨O,M⟩;clear c4;have H3:=I (HB.o.trans M);have Z:=I O;clear M O)
   go_ret;exact⟨_,rfl,Z.o,H3.o⟩
theorem Qj (a b:L) (w:World) (hs:a.length<=1000000000) (Z:b.length<=1000000000) (h:AR a=0\/AR b=0) :
  Calls Tryz.prog 147 #[.string ⟨a.toArray⟩,.string ⟨b.toArray⟩] w fun e w'=>∃v,e=.returned v/\Own w' w.heap.size v (Bq a b)/\Below w.heap.size w w':=by
 have c1:=Fm a w hs;have C2:=I (fun w1=>Fm b w1 Z);have E:=I (show Bq a b = [] by rw[Bq,if_pos h]);have av:=I (show Below w.heap.size w w by exact Below.refl _ _)
 by_cases O:isL a=true
 ·have hb:isL b=false:=by
   simp only[isL,decide_eq_true_eq] at O;simp only[isL,decide_eq_false_iff_not];omega
  rw[O] at c1;have HB:=I hb;clear O hb h hs Z;go_enter Tryz.func147,Tryz.ntmps147
  go_wp2_with (first
   |(go_at_call 51;refine Aj c1 ?_;rintro w1 M;clear c1;have H1:=I M.below;clear M;have c2:=C2.o w1;rw[HB.o] at c2)
   |(go_at_call 51;refine Aj c2 ?_;rintro w2 M;clear c2;have H2:=I (H1.o.trans (M.below.mono H1.o.size));clear M))
  go_ret;exact⟨_,rfl,by rw[E.o];exact Own.nil _ _,H2.o⟩
 ·have O:isL a=false:=by simpa using O
  rw[O] at c1;clear O h hs Z;go_enter Tryz.func147,Tryz.ntmps147
  go_wp2_with (go_at_call 51;refine Aj c1 ?_;rintro w1 M;clear c1;have H1:=I M.below;clear M)
  go_ret;exact⟨_,rfl,by rw[E.o];exact Own.nil _ _,H1.o⟩
theorem ND (a b:L) (w:World) (hs:a.length<=1000000000) (cj:b.length<=1000000000) (ha:AR a≠0) (O:AR b≠0) :
  Calls Tryz.prog 147 #[.string ⟨a.toArray⟩,.string ⟨b.toArray⟩] w fun e w'=>∃v,e=.returned v/\Own w' w.heap.size v (Bq a b)/\Below w.heap.size w w':=by
 have c1:=Fm a w hs;have c2:=fun w1=>Fm b w1 cj
 rw[show isL a=true by simp [isL];omega] at c1;rw[show isL b=true by simp [isL];omega] at c2;have C2:=I c2;clear c2;have na:=Dh ha;have nb:=Dh O;have e1:=KI ha O;have la:=Mb a;have lb:=Mb b;have ct:=Md (ch a) (ch b);have c3:=fun(i:Nat) w1=>Pj (pl (ch a) i) w1 (Nat.le_trans (Mk i) hs)
 have c4:=fun(i:Nat) w1=>RT b (pl (ch a) i) w1 cj
 have cm:∀i,i<(ch a).length->upL (pl (ch a) i)=pl (ch a) (i+1):=fun i h=>Vs _ h
 have cp:∀i,i<(ch a).length->pl (ch a) i≠[]:=fun i h=>RE _ h
 have bx:∀i,i<ix (ch a) (ch b)->pl (ch a) i≠b/\Gx b (pl (ch a) i)=false:=by
  intro i hi;have h1:=Gy hi;rw[Kg nb,not_or] at h1;exact⟨h1.1,by simpa using h1.2⟩
 have cd:ix (ch a) (ch b)<(ch a).length->pl (ch a) (ix (ch a) (ch b))≠b->Gx b (pl (ch a) (ix (ch a) (ch b)))=true:=by
  intro g q;have h1:=Vu g;rw[Kg nb] at h1;exact h1.resolve_left q
 have c5:=fun w1=>VE (pl (ch a) (ix (ch a) (ch b))) b (ix (ch b) (ch a)) w1 cj (Md _ _) (by
  rcases Nat.lt_or_ge (ix (ch a) (ch b)) (ch a).length with g | g
  ·exact(Nt g).2
  ·have e:ix (ch a) (ch b)=(ch a).length:=by omega
   rw[Nu e,KG (by omega),KG (by omega)]) (fun i hi q=>by
  rcases Nat.lt_or_ge (ix (ch a) (ch b)) (ch a).length with g | g
  ·exact Gy hi (by rw[q];exact DL g)
  ·rw[KG g] at q
   exact RE b (Nat.lt_of_lt_of_le hi (Md _ _)) q)
 have h0:pl (ch a) 0=a:=Ev na;have cA:=Jd (ch b) b (ix (ch b) (ch a));have cu:=Md (ch b) (ch a);obtain⟨W2,eW⟩:=Ak ((Fw (ch b) b (ix (ch b) (ch a))).reverse);rw[<-eW] at e1 c5;have cL:W2.length<=4:=by rw[eW,List.length_reverse];omega
 clear eW cA cu lb;obtain⟨M,eM⟩:=Ak (ix (ch a) (ch b));rw[<-eM] at e1 ct bx cd c5;clear eM;obtain⟨A,eA⟩:=Ak (ch a);rw[<-eA] at e1 ct bx cd c5 h0 cp cm c3 c4 la;clear eA ha O hs cj na nb;obtain⟨N,eN⟩:=Ak (w.heap.size);rw[<-eN];have cB:=I (show Below N w w by exact Below.refl _ _);have EN:=I eN;clear eN;have E1:=I e1;clear e1;have C3:=I c3;clear c3;have C4:=I c4;clear c4;have C5:=I c5;clear c5;have cy:=I cm;clear cm;have cr:=I cp;clear cp;have ck:=I bx;clear bx;have cx:=I cd;clear cd;have H0:=I h0;clear h0;have Z:=I (show ∀w1:World,Below N w w1->N<=w1.heap.size from fun w1 h=>by have:=h.size;have:=EN.o;omega);go_enter Tryz.func147,Tryz.ntmps147
 go_wp2_with (first
  |(go_at_call 51;refine Aj c1 ?_;rintro w1 hd;clear c1;have H1:=I (hd.below.mono (Nat.le_of_eq EN.o));clear hd;have c2:=C2.o w1)
  |(go_at_call 51;refine Aj c2 ?_;rintro w2 hd;clear c2;have H2:=I (H1.o.trans (hd.below.mono (Z.o _ H1.o)));clear hd))
 go_loopg [5,6] M (fun g vv rv wr=>∃i:Nat,i+g=M/\rv=.string ⟨(pl A i).toArray⟩/\Own wr N vv (upW A b i)/\Below N w wr)
 case atStart=>exact⟨0,Nat.zero_add _,by rw[H0.o],Own.nil _ _,H2.o⟩
 case round=>
  obtain⟨i,hi,rfl,ho,O⟩:=hrel;have HO:=I ho;clear ho;have HB:=I O;clear O;have HI:=I hi;clear hi;have bz:=I (Z.o _ HB.o)
  by_cases hlt:i<M
  ·have t1:(pl A i == [])=false:=by simpa using cr.o i (by omega)
   have t2:(pl A i==b)=false:=by simpa using (ck.o i hlt).1
   have c4:=C4.o i wr;rw[(ck.o i hlt).2] at c4;have c3:=fun w1=>C3.o i w1
   rw[cy.o i (by omega)] at c3;have cf:=I c3;clear c3
   by_cases hx:pl A (i+1) = []\/pl A (i+1)=b
   ·have E:=I (show upW A b (i+1)=upW A b i by rw[upW,if_pos hx,List.append_nil])
    by_cases hy:pl A (i+1) = []
    ·have HY:=I hy
     rw[hy] at cf;clear hx hy
     go_wp2_with (first
      |(go_at_call 198;refine Aj c4 ?_;rintro w3 O;clear c4;have H3:=I (HB.o.trans (O.mono bz.o));have bs:=I (HO.o.below O);clear O;have c3:=cf.o w3)
      |(go_at_call 199;refine Aj c3 ?_;rintro w4 O;clear c3;have H4:=I (H3.o.trans (O.mono (Z.o _ H3.o)));have bB:=I (bs.o.below O);clear O))
     go_roundg (M - (i+1))
     case measure=>have:=HI.o;omega
     case rel=>exact⟨i+1,by have:=HI.o;omega,by rw[HY.o],by rw[E.o];exact bB.o,H4.o⟩
    ·have t3:(pl A (i+1) == [])=false:=by simpa using hy
     have t4:(pl A (i+1)==b)=true:=by simpa using hx.resolve_left hy
     clear hx hy
     go_wp2_with (first
      |(go_at_call 198;refine Aj c4 ?_;rintro w3 O;clear c4;have H3:=I (HB.o.trans (O.mono bz.o));have bs:=I (HO.o.below O);clear O;have c3:=cf.o w3)
      |(go_at_call 199;refine Aj c3 ?_;rintro w4 O;clear c3;have H4:=I (H3.o.trans (O.mono (Z.o _ H3.o)));have bB:=I (bs.o.below O);clear O))
     go_roundg (M - (i+1))
     case measure=>have:=HI.o;omega
     case rel=>exact⟨i+1,by have:=HI.o;omega,rfl,by rw[E.o];exact bB.o,H4.o⟩
   ·have E:=I (show upW A b (i+1)=upW A b i++[pl A (i+1)] by rw[upW,if_neg hx])
    rw[not_or] at hx;have t3:(pl A (i+1) == [])=false:=by simpa using hx.1
    have t4:(pl A (i+1)==b)=false:=by simpa using hx.2
    clear hx
    go_wp2_with (first
     |(go_at_call 198;refine Aj c4 ?_;rintro w3 O;clear c4;have H3:=I (HB.o.trans (O.mono bz.o));have bs:=I (HO.o.below O);clear O;have c3:=cf.o w3)
     |(go_at_call 199;refine Aj c3 ?_;rintro w4 O;clear c3;have H4:=I (H3.o.trans (O.mono (Z.o _ H3.o)));have bB:=I (bs.o.below O);clear O)
     |(at_builtin;refine Hq rfl (.tmp 38) (.tmp 40) rfl N _ _ rfl bB.o (pl A (i+1)) rfl (by have:=KR A b i;omega) (Z.o _ H4.o) ?_;intro v' w5 cn cq;have H5:=I (H4.o.trans cq);rw[<-E.o] at cn;have cw:=I cn;clear cn cq))
    go_roundg (M - (i+1))
    case measure=>have:=HI.o;omega
    case rel=>exact⟨i+1,by have:=HI.o;omega,rfl,cw.o,H5.o⟩
  ·obtain rfl:i=M:=by have:=HI.o;omega
   have c5:=C5.o;have cg:=I c5;clear c5
   by_cases hl:i<A.length
   ·have t1:(pl A i == [])=false:=by simpa using cr.o i hl
    by_cases hx:pl A i=b
    ·have t2:(pl A i==b)=true:=by simpa using hx
     have c5:=cg.o wr;clear hx
     go_wp2_with (first
      |(go_at_call 200;refine Calls.mono c5 ?_;rintro e w6 ⟨v6,rfl,bq,av⟩;clear c5;obtain⟨A6,c6,rfl,bn⟩:=bq.slice;have H6:=I (HB.o.trans (av.mono bz.o));have ca:=I (HO.o.below av);have cc:=I bn;clear av bq bn)
      |(at_builtin;refine Pk rfl (.tmp 42) (.tmp 45) rfl N _ _ rfl ca.o _ _ _ W2 rfl cc.o (by have:=KR A b i;omega) (Z.o _ H6.o) ?_;intro v' w7 aw bb;rw[E1.o] at aw;have H7:=I (H6.o.trans bb);have cb:=I aw;clear aw bb))
     go_ret;exact⟨_,rfl,cb.o,H7.o⟩
    ·have t2:(pl A i==b)=false:=by simpa using hx
     have c4:=C4.o i wr;rw[cx.o hl hx] at c4;clear hx
     go_wp2_with (first
      |(go_at_call 198;refine Aj c4 ?_;rintro w3 O;clear c4;have H3:=I (HB.o.trans (O.mono bz.o));have bs:=I (HO.o.below O);clear O;have c5:=cg.o w3)
      |(go_at_call 200;refine Calls.mono c5 ?_;rintro e w6 ⟨v6,rfl,bq,av⟩;clear c5;obtain⟨A6,c6,rfl,bn⟩:=bq.slice;have H6:=I (H3.o.trans (av.mono (Z.o _ H3.o)));have ca:=I (bs.o.below av);have cc:=I bn;clear av bq bn)
      |(at_builtin;refine Pk rfl (.tmp 42) (.tmp 45) rfl N _ _ rfl ca.o _ _ _ W2 rfl cc.o (by have:=KR A b i;omega) (Z.o _ H6.o) ?_;intro v' w7 aw bb;rw[E1.o] at aw;have H7:=I (H6.o.trans bb);have cb:=I aw;clear aw bb))
     go_ret;exact⟨_,rfl,cb.o,H7.o⟩
   ·have hz:pl A i = []:=KG (by omega)
    rw[hz] at cg⊢;have c5:=cg.o wr;clear hz
    go_wp2_with (first
     |(go_at_call 200;refine Calls.mono c5 ?_;rintro e w6 ⟨v6,rfl,bq,av⟩;clear c5;obtain⟨A6,c6,rfl,bn⟩:=bq.slice;have H6:=I (HB.o.trans (av.mono bz.o));have ca:=I (HO.o.below av);have cc:=I bn;clear av bq bn)
     |(at_builtin;refine Pk rfl (.tmp 42) (.tmp 45) rfl N _ _ rfl ca.o _ _ _ W2 rfl cc.o (by have:=KR A b i;omega) (Z.o _ H6.o) ?_;intro v' w7 aw bb;rw[E1.o] at aw;have H7:=I (H6.o.trans bb);have cb:=I aw;clear aw bb))
    go_ret;exact⟨_,rfl,cb.o,H7.o⟩
theorem Gn (a b:L) (w:World) (hs:a.length<=1000000000) (M:b.length<=1000000000) :
  Calls Tryz.prog 147 #[.string ⟨a.toArray⟩,.string ⟨b.toArray⟩] w fun e w'=>∃v,e=.returned v/\Own w' w.heap.size v (Bq a b)/\Below w.heap.size w w':=by
 by_cases h:AR a=0\/AR b=0
 ·exact Qj a b w hs M h
 ·rw[not_or] at h
  exact ND a b w hs M h.1 h.2
theorem RV (l:List UInt8) (f k:Nat):(ByteArray.mk l.toArray).extract f k=ByteArray.mk ((l.drop f).take (k - f)).toArray:=by
 rw[ByteArray.extract_mk]
attribute [local go_sem] Ep List.getElem_cons_zero List.getElem_cons_succ RV
def piece (l:L) (f k:Nat):L:=(l.drop f).take (k - f)
theorem Ml {l:L} {f k:Nat} (O:f<=k) (hk:k<l.length):l.drop f=piece l f k++l[k] :: l.drop (k+1):=by
 have M:l.drop f=(l.drop f).take (k - f)++(l.drop f).drop (k - f):=(List.take_append_drop _ _).symm;rw[List.drop_drop,show f+(k - f)=k by omega,List.drop_eq_getElem_cons hk] at M;exact M
theorem Qk {l:L} {f k:Nat} (M:f<=k) (hk:k<l.length):piece l f (k+1)=piece l f k++[l[k]]:=by
 have h:=Ml M hk;have O:(piece l f k).length=k - f:=by rw[piece,List.length_take,List.length_drop];omega
 rw[piece,h,show k+1 - f=(piece l f k).length+1 by omega,List.take_append,List.take_of_length_le (by omega),Nat.add_sub_cancel_left]
 rfl
theorem Mm {l:L} {f:Nat}:piece l f l.length=l.drop f:=by rw[piece,List.take_of_length_le (by simp)]
theorem VF (c:UInt8) (l:L):(split c l).length<=l.length+1:=by
 induction l with
 |nil=>simp [split]
 |cons x r ih=>
  rw[split];split
  ·simp;omega
  ·split<;>simp_all<;>omega
theorem GD (l:L) (c:UInt8) (w:World) (hs:l.length<=1000000000):Calls Tryz.prog 158 #[.string ⟨l.toArray⟩,.int .u8 (c.toNat:Int)] w fun e w'=>∃v,e=.returned v/\Own w' w.heap.size v (split c l)/\Below w.heap.size w w':=by
 obtain⟨N,eN⟩:=Ak (w.heap.size);rw[<-eN];have bs:=I (show Below N w w by exact Below.refl _ _);have EN:=I eN;clear eN;have Z:=I (show ∀w1:World,Below N w w1->N<=w1.heap.size from fun w1 h=>by have:=h.size;have:=EN.o;omega);go_enter Tryz.func158,Tryz.ntmps158
 go_wp2
 go_loopw [5,6,7] (fun vv fv iv wr=>∃(f k:Nat) (ls:List L),f<=k/\k<=l.length/\fv=.int .i64 (f:Int)/\iv=.int .i64 (k:Int)/\Own wr N vv ls/\c∉piece l f k/\ls++split c (l.drop f)=split c l/\ls.length<=f/\Below N w wr) (fun _ _ iv _=>l.length - (intOf iv).toNat)
 case atStart=>exact⟨0,0,[],Nat.le_refl _,Nat.zero_le _,rfl,rfl,Own.nil _ _,by simp [piece],by simp,by simp,bs.o⟩
 case round=>
  obtain⟨f,k,ls,hf,hk,rfl,rfl,ho,hc,bq,bx,hb⟩:=hrel;have HO:=I ho;clear ho;have HB:=I hb;clear hb;have HC:=I hc;clear hc;have av:=I bq;clear bq
  by_cases hlt:k<l.length
  ·have e1:(k:Int)<(l.length:Int):=by omega
   have bb:=Ml hf hlt;have aw:=Qk hf hlt
   by_cases hx:l[k]=c
   ·have t1:((l[k].toNat:Int)==(c.toNat:Int))=true:=by simp [hx]
    have hn:(ls++[piece l f k])++split c (l.drop (k+1))=split c l:=by
     rw[<-av.o,bb,hx,Kf HC.o];simp
    have HN:=I hn;clear hn bb aw hx;have e2:(f:Int)<=(k:Int):=by omega
    go_wp2_with (at_builtin;refine Hq rfl (.tmp 19) (.tmp 24) rfl N _ ls rfl HO.o (piece l f k) rfl (by omega) (Z.o _ HB.o) ?_;intro v' w3 M O;have H3:=I (HB.o.trans O);have bn:=I M;clear M O)
    go_roundw
    case rel=>exact⟨k+1,k+1,_,Nat.le_refl _,by omega,by go_num,by go_num,bn.o,by simp [piece],HN.o,by simp;omega,H3.o⟩
    case measure=>simp [intOf];omega
   ·have t1:((l[k].toNat:Int)==(c.toNat:Int))=false:=by
     simp only[beq_eq_false_iff_ne,ne_eq];intro q;exact hx (UInt8.toNat_inj.1 (by omega))
    have bz:=I (show c∉piece l f (k+1) by
     rw[aw,List.mem_append,not_or];exact⟨HC.o,by simpa using fun q:c=l[k]=>hx q.symm⟩)
    clear bb aw hx
    go_wp2
    go_roundw
    case rel=>exact⟨f,k+1,ls,by omega,by omega,rfl,by go_num,HO.o,bz.o,av.o,bx,HB.o⟩
    case measure=>simp [intOf];omega
  ·obtain rfl:k=l.length:=by omega
   have e1:¬(l.length:Int)<(l.length:Int):=by omega
   have e2:(f:Int)<=(l.length:Int):=by omega
   have hc:=HC.o;rw[Mm] at hc;have hn:ls++[piece l f l.length]=split c l:=by rw[<-av.o,FO hc,Mm]
   have HN:=I hn;clear hn hc
   go_wp2_with (at_builtin;refine Hq rfl (.tmp 28) (.tmp 32) rfl N _ ls rfl HO.o (piece l f l.length) rfl (by omega) (Z.o _ HB.o) ?_;intro v' w3 M O;have H3:=I (HB.o.trans O);have bn:=I M;clear M O)
   go_ret;exact⟨_,rfl,by rw[<-HN.o];exact bn.o,H3.o⟩
end Nm
namespace Nm
open Go.RowKit Af
attribute [local go_sem] Ep List.getElem_cons_zero List.getElem_cons_succ RV
theorem Iz {ls:List L} {i:Nat} (hi:i<ls.length) (h:Cm capB (pl ls i)=false):Cn ls=false:=by
 cases e:Cn ls with
 |false=>rfl
 |true=>
  have:=((CJ ls).1 e).2.2;rw[List.all_eq_true] at this;have:=this _ (DL hi);rw[h] at this;cases this
theorem VG {ls:List L} (h:∀i,i<ls.length->Cm capB (pl ls i)=true) (O:1<=ls.length):Cn ls=decide (ls.length<=4):=by
 have Z:ls.all (Cm capB)=true:=by
  rw[List.all_eq_true];intro x M;obtain⟨i,hi,rfl⟩:=mem_pl M;exact h i hi
 rw[Cn,Z,decide_eq_true O];simp
theorem NF (ls:List L) (b o c:Nat) (w:World) (h1:1<=ls.length) (hl:ls.length<=8000000000000) (hs:∀i,i<ls.length->(pl ls i).length<=1000000000)
  (O:∀i,i<ls.length->w.cell? ⟨b,o+i,none⟩=some (.string ⟨(pl ls i).toArray⟩)) :
  Calls Tryz.prog 157 #[.slice (some ⟨b,o,none⟩) ls.length c] w fun e w'=>e=.returned (.bool (Cn ls))/\w=w':=by
 obtain⟨n,en⟩:=Ak (ls.length);rw[<-en] at h1 hl hs O⊢;have HS:=I hs;clear hs;have HC:=I O;clear O;have M:=I en;clear en;go_enter Tryz.func157,Tryz.ntmps157
 go_wp2
 go_loop [3] (fun iv=>∃i:Nat,i<=n/\iv=.int .i64 (i:Int)/\∀j,j<i->Cm capB (pl ls j)=true) (fun iv=>n - (intOf iv).toNat)
 case atStart=>exact⟨0,Nat.zero_le _,rfl,fun j h=>absurd h (Nat.not_lt_zero j)⟩
 case round=>
  obtain⟨i,hi,rfl,hw⟩:=hrel;have HW:=I hw;clear hw
  by_cases hlt:i<n
  ·have e1:(i:Int)<(n:Int):=by omega
   have O:=HC.o i hlt;have av:=HS.o i hlt;obtain⟨l,el⟩:=Ak (pl ls i);rw[<-el] at O av;have Z:=I el;clear el
   by_cases g1:l.length<1
   ·have t1:decide ((l.length:Int)<1)=true:=by simp;omega
    have E:=I (Iz (by rw[<-M.o];exact hlt) (by rw[<-Z.o];exact Ho g1));clear g1
    go_wp2
    go_ret;exact⟨by rw[E.o];rfl,rfl⟩
   ·have t1:decide ((l.length:Int)<1)=false:=by simp;omega
    by_cases g2:8<l.length
    ·have t2:decide (8<(l.length:Int))=true:=by simp;omega
     have E:=I (Iz (by rw[<-M.o];exact hlt) (by rw[<-Z.o];exact Jb g2));clear g1 g2
     go_wp2
     go_ret;exact⟨by rw[E.o];rfl,rfl⟩
    ·have t2:decide (8<(l.length:Int))=false:=by simp;omega
     have HA:=I (fun h=>KJ (p:=capB) (l:=l) h (by omega) (by omega));clear g1 g2
     go_wp2
     go_loop [4] (fun kv=>∃k:Nat,k<=l.length/\kv=.int .i64 (k:Int)/\Fit capB l k) (fun kv=>l.length - (intOf kv).toNat)
     case atStart=>exact⟨0,Nat.zero_le _,rfl,fun i _ h=>by omega⟩
     case round=>
      obtain⟨k,hk,rfl,hf⟩:=hrel;have HF:=I hf;clear hf
      by_cases hkl:k<l.length
      ·have e2:(k:Int)<(l.length:Int):=by omega
       have hb:=Fo l[k]
       by_cases q1:l[k].toNat<65
       ·have s1:decide ((l[k].toNat:Int)<65)=true:=by simp;omega
        have E:=I (Iz (ls:=ls) (i:=i) (by rw[<-M.o];exact hlt) (by rw[<-Z.o];exact Gz hkl (by simp [capB];omega)));clear q1
        go_wp2
        go_ret;exact⟨by rw[E.o];rfl,rfl⟩
       ·have s1:decide ((l[k].toNat:Int)<65)=false:=by simp;omega
        by_cases q2:90<l[k].toNat
        ·have s2:decide (90<(l[k].toNat:Int))=true:=by simp;omega
         have E:=I (Iz (ls:=ls) (i:=i) (by rw[<-M.o];exact hlt) (by rw[<-Z.o];exact Gz hkl (by simp [capB];omega)));clear q1 q2
         go_wp2
         go_ret;exact⟨by rw[E.o];rfl,rfl⟩
        ·have s2:decide (90<(l[k].toNat:Int))=false:=by simp;omega
         have HP:=I (show capB l[k]=true by simp [capB];omega);clear q1 q2
         go_wp2
         go_round
         case rel=>exact⟨k+1,by omega,by go_num,fun i hi aw=>by
          by_cases q:i=k
          ·subst q;exact HP.o
          ·exact HF.o i hi (by omega)⟩
         case measure=>simp [intOf];omega
      ·have e2:¬(k:Int)<(l.length:Int):=by omega
       have E:=I (HA.o (fun i hi=>HF.o i hi (by omega)))
       go_wp2
       go_round
       case rel=>exact⟨i+1,by omega,by go_num,fun j hj=>by
        by_cases q:j=i
        ·rw[q,<-Z.o];exact E.o
        ·exact HW.o j (by omega)⟩
       case measure=>simp [intOf];omega
  ·obtain rfl:i=n:=by omega
   have e1:¬(i:Int)<(i:Int):=by omega
   have hE:=VG (ls:=ls) (fun j hj=>HW.o j (by rw[M.o];exact hj)) (by rw[<-M.o];exact h1);rw[<-M.o] at hE;have E:=I hE;clear hE;have t1:decide ((1:Int)<=(i:Int))=true:=by simp;omega
   by_cases g:i<=4
   ·have t2:decide ((i:Int)<=4)=true:=by simp;omega
    have E2:=I (decide_eq_true g);clear g
    go_wp2
    go_ret;exact⟨by rw[E.o,E2.o];rfl,rfl⟩
   ·have t2:decide ((i:Int)<=4)=false:=by simp;omega
    have E2:=I (decide_eq_false g);clear g
    go_wp2
    go_ret;exact⟨by rw[E.o,E2.o];rfl,rfl⟩
theorem Ql (ls:List L) (A:Option Addr) (c B:Nat) (w:World) (O:1<=ls.length) (hl:ls.length<=8000000000000) (hs:∀i,i<ls.length->(pl ls i).length<=1000000000) (M:Rd w B A (strs ls)) :
  Calls Tryz.prog 157 #[.slice A ls.length c] w fun e w'=>e=.returned (.bool (Cn ls))/\w=w':=by
 obtain⟨b,o,rfl,_,_⟩:=DD M (i:=0) O;refine NF ls b o c w O hl hs fun i hi=>?_
 obtain⟨b',o',e,_,Z⟩:=DD M hi;injection e with e;injection e with e1 e2;subst e1;subst e2;exact Z
end Nm
namespace Nm
open Go.RowKit Af
attribute [local go_sem] Ep List.getElem_cons_zero List.getElem_cons_succ Cg Ch Dq
theorem RW (c:UInt8) (l:L):∀x,x∈split c l->x.length<=l.length:=by
 induction l with
 |nil=>intro x M;simp [split] at M;simp [M]
 |cons a r ih=>
  intro x M;rw[split] at M
  split at M
  ·rcases List.mem_cons.1 M with rfl | h
   ·simp
   ·have:=ih x h;simp;omega
  ·cases hs:split c r with
   |nil=>rw[hs] at M;simp at M;subst M;simp
   |cons u t=>
    rw[hs] at M ih;rcases List.mem_cons.1 M with rfl | h
    ·have:=ih u List.mem_cons_self;simp;omega
    ·have:=ih x (List.mem_cons_of_mem _ h);simp;omega
theorem Pl (l:L) (c:UInt8) (w':World) (base:Nat) (v:Value) (hs:l.length<=1000000000) (Z:Own w' base v (split c l)) :
  ∃A n cap,v=.slice A n cap/\∀w1,Below w'.heap.size w' w1->Calls Tryz.prog 157 #[.slice A n cap] w1 fun e w2=>e=.returned (.bool (Cn (split c l)))/\w1=w2:=by
 obtain⟨A,cap,rfl,M⟩:=Z.slice;refine⟨A,_,cap,rfl,fun w1 O=>?_⟩;exact Ql (split c l) A cap w'.heap.size w1 (CH c l) (by have:=VF c l;omega) (fun i hi=>by have:=RW c l _ (DL hi);omega) (M.below O)
theorem RX (l:L) (w:World) (hs:l.length<=1000000000):Calls Tryz.prog 101 #[.string ⟨l.toArray⟩] w fun e w'=>e=.returned (.int .i64 (AR l:Int))/\Below w.heap.size w w':=by
 have C2:=I (fun w1=>GD l 46 w1 hs);have S2:=I (fun w' base v M=>Pl l 46 w' base v hs M);have bn:=I (Below.refl w.heap.size w);cases l with
 |nil=>
  have E:=I KE;have c2:=C2.o w;have EL:=I (show Cn (split 46 [])=false by decide);clear hs;go_enter Tryz.func101,Tryz.ntmps101
  go_wp2_with (first
   |(go_at_call 158;refine Calls.mono c2 ?_;rintro e w1 ⟨v,rfl,M,Z⟩;clear c2;obtain⟨A,n,cap,rfl,O⟩:=S2.o w1 _ v M;have c3:=O w1 Ah;rw[EL.o] at c3;have H1:=I Z;clear Z M O)
   |(go_at_call 157;refine Aj c3 ?_;rintro w2 rfl;clear c3))
  go_ret;exact⟨by rw[E.o];rfl,H1.o⟩
 |cons x r=>
  have e0:(0:Int)<(r.length:Int)+1:=by omega
  have aw:r.length<=1000000000:=by simp at hs;omega
  have ek:AR (x :: r)=if slL (x :: r) then 2 else if Cn (split 46 (x :: r)) then 1 else 0:=rfl
  by_cases hx:x=47
  ·subst hx
   have av:slL (47 :: r)=Cn (split 47 r):=by simp [slL]
   rw[av] at ek;have c1:=GD r 47 w aw;have S1:=I (fun w' base v M=>Pl r 47 w' base v aw M);cases h1:Cn (split 47 r) with
   |true=>
    have E:=I (show AR (47 :: r)=2 by rw[ek,h1];rfl);have H:=I h1;clear ek av h1 hs aw;go_enter Tryz.func101,Tryz.ntmps101
    go_wp2_with (first
     |(go_at_call 158;refine Calls.mono c1 ?_;rintro e w1 ⟨v,rfl,M,Z⟩;clear c1;obtain⟨A,n,cap,rfl,O⟩:=S1.o w1 _ v M;have c3:=O w1 Ah;rw[H.o] at c3;have H1:=I Z;clear Z M O)
     |(go_at_call 157;refine Aj c3 ?_;rintro w2 rfl;clear c3))
    go_ret;exact⟨by rw[E.o];rfl,H1.o⟩
   |false=>
    rw[h1,if_neg (by simp)] at ek;have H:=I h1;have hd:Cn (split 46 (47 :: r))=false:=by
     cases q:Cn (split 46 (47 :: r)) with
     |false=>rfl
     |true=>exact absurd rfl (Pe q)
    have HD:=I hd;have E:=I (show AR (47 :: r)=0 by rw[ek,hd];rfl);clear ek av h1 hd hs aw;go_enter Tryz.func101,Tryz.ntmps101
    go_wp2_with (first
     |(go_at_call 158;refine Calls.mono c1 ?_;rintro e w1 ⟨v,rfl,M,Z⟩;clear c1;obtain⟨A,n,cap,rfl,O⟩:=S1.o w1 _ v M;have c3:=O w1 Ah;rw[H.o] at c3;have H1:=I Z;clear Z M O;have c2:=C2.o w1)
     |(go_at_call 157;refine Aj c3 ?_;rintro w2 rfl;clear c3)
     |(go_at_call 158;refine Calls.mono c2 ?_;rintro e w4 ⟨v4,rfl,M,Z⟩;clear c2;obtain⟨A4,n4,bb,rfl,O⟩:=S2.o w4 _ v4 M;have c5:=O w4 Ah;rw[HD.o] at c5;have H4:=H1.t Z;clear Z M O)
     |(go_at_call 157;refine Aj c5 ?_;rintro w6 rfl;clear c5))
    go_ret;exact⟨by rw[E.o];rfl,H4.o⟩
  ·have t1:((x.toNat:Int)==47)=false:=by
    simp only[beq_eq_false_iff_ne,ne_eq];intro q;exact hx (UInt8.toNat_inj.1 (by have:(47:UInt8).toNat=47:=rfl;omega))
   have av:slL (x :: r)=false:=by simp [slL,hx]
   rw[av,if_neg (by simp)] at ek;have c2:=C2.o w;cases h1:Cn (split 46 (x :: r)) with
   |true=>
    have E:=I (show AR (x :: r)=1 by rw[ek,h1];rfl);have H:=I h1;clear ek av h1 hs aw hx;go_enter Tryz.func101,Tryz.ntmps101
    go_wp2_with (first
     |(go_at_call 158;refine Calls.mono c2 ?_;rintro e w1 ⟨v,rfl,M,Z⟩;clear c2;obtain⟨A,n,cap,rfl,O⟩:=S2.o w1 _ v M;have c3:=O w1 Ah;rw[H.o] at c3;have H1:=I Z;clear Z M O)
     |(go_at_call 157;refine Aj c3 ?_;rintro w2 rfl;clear c3))
    go_ret;exact⟨by rw[E.o];rfl,H1.o⟩
   |false=>
    have E:=I (show AR (x :: r)=0 by rw[ek,h1];rfl);have H:=I h1;clear ek av h1 hs aw hx;go_enter Tryz.func101,Tryz.ntmps101
    go_wp2_with (first
     |(go_at_call 158;refine Calls.mono c2 ?_;rintro e w1 ⟨v,rfl,M,Z⟩;clear c2;obtain⟨A,n,cap,rfl,O⟩:=S2.o w1 _ v M;have c3:=O w1 Ah;rw[H.o] at c3;have H1:=I Z;clear Z M O)
     |(go_at_call 157;refine Aj c3 ?_;rintro w2 rfl;clear c3))
    go_ret;exact⟨by rw[E.o];rfl,H1.o⟩
theorem NH (l:L) (w:World) (hs:l.length<=1000000000):Calls Tryz.prog 56 #[.string ⟨l.toArray⟩] w fun e w'=>e=.returned (.bool (isL l))/\Below w.heap.size w w':=by
 have c1:=RX l w hs
 by_cases h:1<=AR l
 ·have E:=I (show isL l=true by simp [isL,h])
  have t:decide (0<AR l)=true:=by simp;omega
  clear h;go_enter Tryz.func56,Tryz.ntmps56
  go_wp2_with (go_at_call 101;refine Aj c1 ?_;rintro w1 M;clear c1;have H1:=I M;clear M)
  go_ret;exact⟨by rw[E.o];rfl,H1.o⟩
 ·have E:=I (show isL l=false by simp [isL];omega)
  have O:AR l=0:=by omega
  rw[O] at c1;clear h O;go_enter Tryz.func56,Tryz.ntmps56
  go_wp2_with (go_at_call 101;refine Aj c1 ?_;rintro w1 M;clear c1;have H1:=I M;clear M)
  go_ret;exact⟨by rw[E.o];rfl,H1.o⟩
end Nm
namespace Nm
open Go.RowKit Af
attribute [local go_sem] Ep List.getElem_cons_zero List.getElem_cons_succ Cg Ch Dq
theorem VH {n:L} (h:n.length<8):tgL n=false:=by
 cases q:preL krb n with
 |false=>rw[tgL,q];rfl
 |true=>
  have O:n.drop 7 = []:=List.drop_of_length_le (by omega);have M:cpL krb n = []:=by rw[cpL,q,if_pos rfl];exact O
  rw[tgL,M,show isL []=false from by decide,Bool.and_false]
theorem tg_eq (n:L):tgL n=((n.take 7==krb)&&isL (n.drop 7)):=by
 have e:=Ph krb n;rw[show krb.length=7 from rfl] at e;rw[tgL,e];cases q:preL krb n with
 |false=>rfl
 |true=>rw[cpL,q];rfl
theorem NI (n:L) (w:World) (hs:n.length<=1000000000):Calls Tryz.prog 57 #[.string ⟨n.toArray⟩] w fun e w'=>e=.returned (.tuple #[.string ⟨(tgR n).toArray⟩,.bool (tgL n)])/\Below w.heap.size w w':=by
 have c2:=NH (n.drop 7) w (by simp;omega);have Z:=I (Below.refl w.heap.size w)
 by_cases h8:n.length<8
 ·have M:=I (VH h8)
  have O:=I (show tgR n = [] by rw[tgR,M.o];rfl);have t1:decide ((n.length:Int)<8)=true:=by simp;omega
  clear h8 hs;go_enter Tryz.func57,Tryz.ntmps57
  go_wp2_with fail
  go_ret2
  exact⟨by rw[M.o,O.o];rfl,Z.o⟩
 ·have t1:decide ((n.length:Int)<8)=false:=by simp;omega
  have e7:(7:Int)<=(n.length:Int):=by omega
  have eq:=tg_eq n;clear h8;cases h1:(n.take 7==krb) with
  |false=>
   rw[h1] at eq;have t2:(n.take 7 == [107,114,98,116,103,116,47])=false:=h1;have M:=I (show tgL n=false from eq);have O:=I (show tgR n = [] by rw[tgR,M.o];rfl);clear eq h1 hs;go_enter Tryz.func57,Tryz.ntmps57
   go_wp2_with fail
   go_ret2
   exact⟨by rw[M.o,O.o];rfl,Z.o⟩
  |true=>
   rw[h1,Bool.true_and] at eq;have t2:(n.take 7 == [107,114,98,116,103,116,47])=true:=h1;clear h1 hs;cases h2:isL (n.drop 7) with
   |false=>
    rw[h2] at c2 eq;have M:=I eq;have O:=I (show tgR n = [] by rw[tgR,M.o];rfl);clear eq h2;go_enter Tryz.func57,Tryz.ntmps57
    go_wp2_with (go_at_call 56;refine Aj c2 ?_;rintro w2 hd;clear c2;have H2:=I hd;clear hd)
    go_ret2
    exact⟨by rw[M.o,O.o];rfl,H2.o⟩
   |true=>
    rw[h2] at c2 eq;have M:=I eq;have O:=I (show tgR n=n.drop 7 by rw[tgR,M.o];rfl);clear eq h2;go_enter Tryz.func57,Tryz.ntmps57
    go_wp2_with (go_at_call 56;refine Aj c2 ?_;rintro w2 hd;clear c2;have H2:=I hd;clear hd)
    go_ret2
    exact⟨by rw[M.o,O.o];rfl,H2.o⟩
theorem VI {p:UInt8->Bool} {l:L} (h:∀i (h:i<l.length),p l[i]=true):Cm p l=(decide (1<=l.length)&&decide (l.length<=8)):=by
 have O:l.all p=true:=by
  rw[List.all_eq_true];intro x M;obtain⟨i,hi,rfl⟩:=List.getElem_of_mem M;exact h i hi
 rw[Cm,O,Bool.and_true]
theorem DY (r n:L) (w:World) (hs:r.length<=1000000000) (cf:n.length<=1000000000):Calls Tryz.prog 28 #[.agg #[.string ⟨r.toArray⟩,.string ⟨n.toArray⟩]] w fun e w'=>e=.returned (.bool (Ct r n))/\Below w.heap.size w w':=by
 have c1:=NH r (w.alloc (.cells #[.string ⟨r.toArray⟩,.string ⟨n.toArray⟩] 37)) hs;have hk:=Blk.new w 37 #[.string ⟨r.toArray⟩,.string ⟨n.toArray⟩];have cc:=(Below.refl w.heap.size w).alloc Ag (.cells #[.string ⟨r.toArray⟩,.string ⟨n.toArray⟩] 37);have ca:w.heap.size<(w.alloc (.cells #[.string ⟨r.toArray⟩,.string ⟨n.toArray⟩] 37)).heap.size:=by simp
 obtain⟨N,eN⟩:=Ak (w.heap.size);have C2:=I (fun w1=>NI n w1 cf);have E1:=I (show Ct r n=(isL r&&(tgL n||Cm Cs n)) from rfl);rw[<-eN] at hk cc ca⊢;have EN:=I eN;clear eN;have HK:=I hk;clear hk;have bz:=I cc;clear cc;have bn:=I ca;clear ca hs;cases h1:isL r with
 |false=>
  rw[h1] at c1;have E:=I (show Ct r n=false by rw[E1.o,h1];rfl);clear h1;go_enter Tryz.func28,Tryz.ntmps28
  go_wp2_with (go_at_call 56;refine Aj c1 ?_;rintro w1 Z;clear c1;have H1:=I (bz.o.trans (Z.mono (Nat.le_of_lt bn.o)));clear Z)
  go_ret;exact⟨by rw[E.o];rfl,H1.o⟩
 |true=>
  rw[h1] at c1;cases h2:tgL n with
  |true=>
   have E:=I (show Ct r n=true by rw[E1.o,h1,h2];rfl);have HT:=I h2;clear h1 h2;go_enter Tryz.func28,Tryz.ntmps28
   go_wp2_with (first
    |(go_at_call 56;refine Aj c1 ?_;rintro w1 Z;clear c1;have H1:=I (bz.o.trans (Z.mono (Nat.le_of_lt bn.o)));have M:=HK.o.below Z;have cd:=I M;have av:=M.cell 1;have aw:N<w1.heap.size:=(by have:=Z.size;have:=bn.o;omega);have bB:=I aw;rw[EN.o] at av;clear Z aw M;have c2:=C2.o w1;rw[HT.o] at c2)
    |(go_at_call 57;refine Aj c2 ?_;rintro w2 hb;clear c2 av;have H2:=I (H1.o.trans (hb.mono (Nat.le_of_lt bB.o)));have cb:=(cd.o.below hb).cell 1;rw[EN.o] at cb;clear hb))
   go_ret;exact⟨by rw[E.o];rfl,H2.o⟩
  |false=>
   have E:=I (show Ct r n=Cm Cs n by rw[E1.o,h1,h2];rfl);have HT:=I h2;clear h1 h2;go_enter Tryz.func28,Tryz.ntmps28
   go_wp2_with (first
    |(go_at_call 56;refine Aj c1 ?_;rintro w1 Z;clear c1;have H1:=I (bz.o.trans (Z.mono (Nat.le_of_lt bn.o)));have M:=HK.o.below Z;have cd:=I M;have av:=M.cell 1;have aw:N<w1.heap.size:=(by have:=Z.size;have:=bn.o;omega);have bB:=I aw;rw[EN.o] at av;clear Z aw M;have c2:=C2.o w1;rw[HT.o] at c2)
    |(go_at_call 57;refine Aj c2 ?_;rintro w2 hb;clear c2 av;have H2:=I (H1.o.trans (hb.mono (Nat.le_of_lt bB.o)));have cb:=(cd.o.below hb).cell 1;rw[EN.o] at cb;clear hb))
   go_loop [5] (fun iv=>∃k:Nat,k<=n.length/\iv=.int .i64 (k:Int)/\Fit Cs n k) (fun iv=>n.length - (intOf iv).toNat)
   case atStart=>exact⟨0,Nat.zero_le _,rfl,fun i _ h=>by omega⟩
   case round=>
    obtain⟨k,hk,rfl,hf⟩:=hrel;have HF:=I hf;clear hf
    by_cases hlt:k<n.length
    ·have e1:(k:Int)<(n.length:Int):=by omega
     have hb:=Fo n[k];have bx:Cs n[k]=false->Hid (Ct r n=false):=fun h=>I (by rw[E.o];exact Gz hlt h)
     have bq:=I bx;clear bx;have bb:Cs n[k]=true->Hid (Fit Cs n (k+1)):=fun h=>I (fun i hi cg=>by
      by_cases q:i=k
      ·subst q;exact h
      ·exact HF.o i hi (by omega))
     have bs:=I bb;clear bb
     by_cases q1:n[k].toNat<97
     ·have s1:decide ((n[k].toNat:Int)<97)=true:=by simp;omega
      by_cases q2:n[k].toNat<48
      ·have s2:decide ((n[k].toNat:Int)<48)=true:=by simp;omega
       have O:=bq.o (by simp [Cs,DK];omega);clear q1 q2
       go_wp2
       go_ret;exact⟨by rw[O.o];rfl,H2.o⟩
      ·have s2:decide ((n[k].toNat:Int)<48)=false:=by simp;omega
       by_cases q3:57<n[k].toNat
       ·have s3:decide (57<(n[k].toNat:Int))=true:=by simp;omega
        have O:=bq.o (by simp [Cs,DK];omega);clear q1 q2 q3
        go_wp2
        go_ret;exact⟨by rw[O.o];rfl,H2.o⟩
       ·have s3:decide (57<(n[k].toNat:Int))=false:=by simp;omega
        have O:=bs.o (by simp [Cs,DK];omega);clear q1 q2 q3
        go_wp2
        go_round
        case rel=>exact⟨k+1,by omega,by go_num,O.o⟩
        case measure=>simp [intOf];omega
     ·have s1:decide ((n[k].toNat:Int)<97)=false:=by simp;omega
      by_cases q2:122<n[k].toNat
      ·have s2:decide (122<(n[k].toNat:Int))=true:=by simp;omega
       have s3:decide ((n[k].toNat:Int)<48)=false:=by simp;omega
       have s4:decide (57<(n[k].toNat:Int))=true:=by simp;omega
       have O:=bq.o (by simp [Cs,DK];omega);clear q1 q2
       go_wp2
       go_ret;exact⟨by rw[O.o];rfl,H2.o⟩
      ·have s2:decide (122<(n[k].toNat:Int))=false:=by simp;omega
       have O:=bs.o (by simp [Cs,DK];omega);clear q1 q2
       go_wp2
       go_round
       case rel=>exact⟨k+1,by omega,by go_num,O.o⟩
       case measure=>simp [intOf];omega
    ·obtain rfl:k=n.length:=by omega
     have e1:¬(n.length:Int)<(n.length:Int):=by omega
     have O:=I (E.o.trans (VI (fun i hi=>HF.o i hi hi)))
     by_cases g1:1<=n.length
     ·have t1:decide ((1:Int)<=(n.length:Int))=true:=by simp;omega
      by_cases g2:n.length<=8
      ·have t2:decide ((n.length:Int)<=8)=true:=by simp;omega
       have E3:=I (O.o.trans (show(decide (1<=n.length)&&decide (n.length<=8))=true by simp;omega));clear g1 g2
       go_wp2
       go_ret;exact⟨by rw[E3.o];rfl,H2.o⟩
      ·have t2:decide ((n.length:Int)<=8)=false:=by simp;omega
       have E3:=I (O.o.trans (show(decide (1<=n.length)&&decide (n.length<=8))=false by simp;omega));clear g1 g2
       go_wp2
       go_ret;exact⟨by rw[E3.o];rfl,H2.o⟩
     ·have t1:decide ((1:Int)<=(n.length:Int))=false:=by simp;omega
      have E3:=I (O.o.trans (show(decide (1<=n.length)&&decide (n.length<=8))=false by simp;omega));clear g1
      go_wp2
      go_ret;exact⟨by rw[E3.o];rfl,H2.o⟩
end Nm
end Go.Proofs.YthkdjblnmkkcfaaGreat
