import Derived.WalkKit
import Derived.WalkSpells
import Derived.WalkLawsBesides
import Derived.LaidEqlPtr
import Derived.Maps.AppendAt
import Derived.Maps.Range
import Derived.Maps.RangeWalk
import Derived.Deep.AppendLies
import Derived.Deep.Draws
import Derived.Deep.Onto
import Derived.Lib.ConvBytes
import Derived.Lib.Hide
import Derived.RegionTactic
import Derived.Deep.QuietTactic
import Derived.BigQuiet
import Derived.Laws.BitsAllLaws
import Derived.Laws.BitsLemmas
import Derived.Test.YtiecjolmennkfaaGreatProg
import Derived.Lib.Strings
import Derived.Lib.Walk
import Derived.Lib.Bytealg
import Derived.Lib.BufferWrite
import Derived.Lib.UnsafeStr
import Derived.Laws.MakeOwn
import Derived.Laws.OwnMore
import Derived.Deep.WholeRow
import Derived.Deep.LoopGhost
import Derived.Lib.ItoaNum
import Derived.Lib.BitFns
import Derived.Lib.Tables
import Derived.Lib.MinMax
import Derived.IntWalk
import Derived.Laws.AppendOwn
import Derived.Lib.AppendStr
import Derived.DeepKeys
import Derived.Deep.RegionHeld3
import Derived.Deep.Cut
import Derived.Deep.CutRange
import Derived.Deep.CutBlock
import Derived.Deep.MidRow
import Derived.StillTailTactics
import Derived.Laws.Bits64
import Derived.Deep.RegionLaw
import Derived.Laws.Bits64b
import Derived.ProofKit
import Derived.OpenShut
import Derived.ShutString
import Derived.ChangeOld
import Derived.Deep.Matrix
import Derived.Deep.Slices
import Derived.Lib.SlBytesConst
import Derived.BigFrame
import Derived.Great.BuildSlice
import Derived.Laws.StructEq
import Derived.Lib.SliceRun
import Derived.SizedLaws
import Derived.Test.YtiecjolmennkfaaGreatRows
import Derived.Lib.SmallJoins
import Derived.Deep.Strs
import Derived.ChangeSame
import Derived.Laws.IdiomCopy
import Derived.Laws.Tables
import Derived.Below
set_option maxHeartbeats 25600000
set_option maxRecDepth 100000
set_option linter.unusedVariables false
set_option linter.unusedSimpArgs false
theorem Go.RowKit.Hid.o {p : Prop} (h : Go.RowKit.Hid p) : p := h
theorem Go.Aside.o {p : Prop} (h : Go.Aside p) : p := h
theorem Go.Shut.o {p : Prop} (h : Go.Shut p) : p := h
namespace Go.Proofs.YtiecjolmennkfaaGreat
theorem I {p : Prop} (h : p) : Go.RowKit.Hid p := h
theorem Aj {P:Program} {f:FuncId} {args:Array Value} {w:World} {r:Ending} {K:World->Prop} {Q:Ending->World->Prop} (h:Calls P f args w fun e w'=>e=r/\K w') (k:∀w',K w'->Q r w'):Calls P f args w Q:=h.mono fun e w' x=>x.1.symm▸k w' x.2
theorem Ak {α:Sort _} (a:α):∃x,x=a:=⟨a,rfl⟩
theorem Ag {n : Nat} : n <= n := Nat.le_refl n
theorem Ah {n : Nat} {w : World} : Go.RowKit.Below n w w := Go.RowKit.Below.refl n w
theorem U {α : Type} (l : List α) (i : Nat) (a : α) : l.toArray.setIfInBounds i a = (l.set i a).toArray := List.setIfInBounds_toArray ..
theorem Aa {α : Type} {x : α} {xs : List α} {a : α} : (x :: xs).set 0 a = a :: xs := rfl
theorem Ab {α : Type} {x : α} {xs : List α} {n : Nat} {a : α} : (x :: xs).set (n + 1) a = x :: xs.set n a := rfl
abbrev Ax : Array Go.Value := #[.string ⟨#[]⟩,.string ⟨#[]⟩,.int .u8 0,.int .u8 0,.int .u8 0,.int .u8 0,.int .u8 0,.int .u8 0,.int .u8 0,.int .u8 0,.int .u8 0,.int .u8 0,.int .u8 0,.int .u8 0,.int .u8 0,.int .u8 0,.int .u8 0,.int .u8 0,.int .u8 0,.int .u8 0,.int .u8 0,.int .u8 0,.int .u8 0,.int .u8 0,.int .u8 0,.int .u8 0,.int .u8 0,.int .u8 0,.int .u8 0,.int .u8 0,.int .u8 0,.int .u8 0,.int .u8 0,.int .u8 0,.string ⟨#[]⟩,.int .i64 0,.int .i64 0]
abbrev Ay : Array Go.Value := #[.int .i64 0,.string ⟨#[]⟩,.string ⟨#[]⟩,.string ⟨#[]⟩,.string ⟨#[]⟩,.int .i64 0,.int .i64 0,.string ⟨#[]⟩,.string ⟨#[]⟩,.int .i64 0,.slice none 0 0,.slice none 0 0,.string ⟨#[]⟩,.string ⟨#[]⟩,.int .i64 0,.int .i64 0,.string ⟨#[]⟩,.string ⟨#[]⟩,.string ⟨#[]⟩,.string ⟨#[]⟩,.int .i64 0,.slice none 0 0,.slice none 0 0,.string ⟨#[]⟩,.string ⟨#[]⟩,.int .i64 0,.slice none 0 0,.slice none 0 0,.int .i64 0,.int .i64 0]
end Go.Proofs.YtiecjolmennkfaaGreat
theorem Go.RowKit.Hid.t {a w w' : Go.World} (h : Go.RowKit.Hid (Go.RowKit.Below a.heap.size a w)) (k : Go.RowKit.Below w.heap.size w w') : Go.RowKit.Hid (Go.RowKit.Below a.heap.size a w') := Go.Proofs.YtiecjolmennkfaaGreat.I (h.o.trans (k.mono h.o.size))
namespace Go.Proofs.YtiecjolmennkfaaGreat
namespace Af
open Go.RowKit
theorem Et (l:List UInt8) (i:Nat) (h:i<(ByteArray.mk l.toArray).size):(ByteArray.mk l.toArray)[i]'h=l[i]'(by simpa [ByteArray.size] using h):=rfl
theorem Cg (a:UInt8) (r:List UInt8):(ByteArray.mk (a :: r).toArray).extract 1 (r.length+1)=ByteArray.mk r.toArray:=by
 rw[ByteArray.extract_mk];simp
theorem Ch (l:List UInt8) (k:Nat):(ByteArray.mk l.toArray).extract k l.length=ByteArray.mk (l.drop k).toArray:=by
 rw[ByteArray.extract_mk,List.take_of_length_le (by simp)]
theorem DB (l:List UInt8) (k n:Nat):(ByteArray.mk l.toArray).extract k (k+n)=ByteArray.mk ((l.drop k).take n).toArray:=by
 rw[ByteArray.extract_mk,Nat.add_sub_cancel_left]
theorem Fs (a:UInt8):(a.toNat:Int)<=255:=by have:=a.toNat_lt;omega
theorem RC (a:Nat) (M:a<9223372036854775808):(BitVec.ofInt 64 (a:Int)).toNat=a:=by
 rw[BitVec.ofInt_natCast,BitVec.toNat_ofNat];exact Nat.mod_eq_of_lt (by omega)
theorem RE (x y:Nat) (hy:y<256) (M:x*256+y<9223372036854775808):bits .or .i64 ((x:Int)*256) (y:Int)=(x:Int)*256+y:=by
 have g1:=RC (x*256) (Nat.lt_of_le_of_lt (Nat.le_add_right _ _) M);have O:=RC y (Nat.lt_of_le_of_lt (Nat.le_add_left _ _) M);have e:((x:Int)*256)=((x*256:Nat):Int):=by omega
 have Z:x*256 ||| y=x*256+y:=by
  have h:=Nat.shiftLeft_add_eq_or_of_lt (show y<2 ^ 8 by omega) x;rw[Nat.shiftLeft_eq] at h
  simpa using h.symm
 rw[e];show IntKind.i64.wrap ((BitVec.ofInt 64 ((x*256:Nat):Int) ||| BitVec.ofInt 64 (y:Int)).toNat:Int)=_;rw[BitVec.toNat_or,g1,O,Z,IntKind.wrap_i64];omega
def bv (b:UInt8):Value:=.int .u8 (b.toNat:Int)
def bvs (l:List UInt8):List Value:=l.map bv
theorem AG (l:List UInt8):(bvs l).length=l.length:=by simp [bvs]
theorem BC (l m:List UInt8):bvs (l++m)=bvs l++bvs m:=by simp [bvs]
theorem BD (l:List UInt8):∀u∈bvs l,u.oneCell'=true:=by
 intro u hu;obtain⟨b,_,rfl⟩:=List.mem_map.1 hu
 rfl
theorem Fw {l:List UInt8} {i:Nat} (h:i<l.length):(bvs l)[i]? = some (bv l[i]):=by simp [bvs,h]
def Rd (w:World) (B:Nat) (A:Option Addr) (xs:List Value):Prop:=
 xs = []\/∃b o,A=some ⟨b,o,none⟩/\b<B/\∀i u,xs[i]? = some u->w.cell? ⟨b,o+i,none⟩=some u
def Blk (w:World) (g:Nat) (t:TypeId) (cs:Array Value):Prop:=w.heap[g]? = some (.cells cs t (0,0))
theorem addr_add (b o j:Nat):(⟨b,o,none⟩:Addr).add j=⟨b,o+j,none⟩:=by unfold Addr.add;split<;>simp_all
section
variable {w w' a c:World} {B B' g:Nat} {A:Option Addr} {xs:List Value} {t:TypeId} {cs:Array Value}
theorem IX {row:Option Nat} (h:a.grownBy w row) (n:Nat):a.grownBy (w.drewN n) row:=⟨h.os,h.tape,h.output,h.size,h.block⟩
theorem Bb {row:Option Nat} (h:a.grownBy w row):a.grownBy w.drew row:=⟨h.os,h.tape,h.output,h.size,h.block⟩
theorem DM {row:Option Nat} (h:a.grownBy w row) (o:Obj):a.grownBy (w.alloc o) row:=
 ⟨h.os,h.tape,h.output,Nat.le_trans h.size (by simp),fun i hi M=>(Below.heap_alloc w o i (Nat.lt_of_lt_of_le hi h.size)).trans (h.block i hi M)⟩
theorem AM {row:Option Nat} (h:a.grownBy w row) {p:Addr} (hp:row=some p.block\/a.heap.size<=p.block) (u:Value):a.grownBy (w.setCell p u) row:=
 ⟨h.os,h.tape,h.output,by simpa [World.setCell] using h.size,fun i hi M=>(Below.heap_setCell w p u i (by
  rintro rfl;rcases hp with hp | hp
  ·exact M hp.symm
  ·omega)).trans (h.block i hi M)⟩
theorem Dj (h:Below a.heap.size a w) (row:Option Nat):a.grownBy w row:=⟨h.os,h.tape,h.output,h.size,fun i hi _=>h.block i hi⟩
theorem IZ {row:Option Nat} (h:a.grownBy w row) (k:Below w.heap.size w c):a.grownBy c row:=
 ⟨k.os.trans h.os,k.tape.trans h.tape,k.output.trans h.output,Nat.le_trans h.size k.size,fun i hi M=>(k.block i (Nat.lt_of_lt_of_le hi h.size)).trans (h.block i hi M)⟩
theorem Hp (h:Below B a w) (hB:B<=w.heap.size) (k:Below w.heap.size w c):Below B a c:=h.trans (k.mono hB)
theorem Az (h:Below B a w) (k:w.grownBy c (some g)) (hB:B<=w.heap.size) (O:B<=g):Below B a c:=
 h.grown k hB (fun j M=>by injection M with M;omega)
theorem bt (h:Below a.heap.size a w) (k:Below w.heap.size w c):Below a.heap.size a c:=h.trans (k.mono h.size)
theorem Blk.lt (h:Blk w g t cs):g<w.heap.size:=by
 rcases Nat.lt_or_ge g w.heap.size with M | M
 ·exact M
 ·unfold Blk at h;rw[Array.getElem?_eq_none M] at h;cases h
theorem Blk.cell (h:Blk w g t cs) (i:Nat):w.cell? ⟨g,i,none⟩=cs[i]?:=cell_of_row w g i cs t (0,0) h
theorem Blk.frozen (h:Blk w g t cs) (i:Nat):w.frozen? ⟨g,i,none⟩=false:=by
 unfold Blk at h;simp [World.frozen?,h]
theorem Blk.new (w:World) (t:TypeId) (cs:Array Value):Blk (w.alloc (.cells cs t)) w.heap.size t cs:=heap_alloc_new w _
theorem Blk.drewN (h:Blk w g t cs) (n:Nat):Blk (w.drewN n) g t cs:=h
theorem Blk.alloc (h:Blk w g t cs) (o:Obj):Blk (w.alloc o) g t cs:=(Below.heap_alloc w o g h.lt).trans h
theorem Blk.set (h:Blk w g t cs) (i:Nat) (u:Value):Blk (w.setCell ⟨g,i,none⟩ u) g t (cs.setIfInBounds i u):=by
 unfold Blk at h⊢;simp [World.setCell,Array.getElem?_modify,h]
section
variable {w:World} {g:Nat} {t:TypeId} {a b c d e f i j k m n o p q r u v y z A B C D E F G H J K x:Value} {l:List Value}
theorem Blk.c0 (h:Blk w g t (x::l).toArray):w.cell? ⟨g,0,none⟩=some x:=by simpa using h.cell 0
theorem Blk.c1 (h:Blk w g t (a::x::l).toArray):w.cell? ⟨g,1,none⟩=some x:=by simpa using h.cell 1
theorem Blk.c2 (h:Blk w g t (a::b::x::l).toArray):w.cell? ⟨g,2,none⟩=some x:=by simpa using h.cell 2
theorem Blk.c3 (h:Blk w g t (a::b::c::x::l).toArray):w.cell? ⟨g,3,none⟩=some x:=by simpa using h.cell 3
theorem Blk.c4 (h:Blk w g t (a::b::c::d::x::l).toArray):w.cell? ⟨g,4,none⟩=some x:=by simpa using h.cell 4
theorem Blk.c5 (h:Blk w g t (a::b::c::d::e::x::l).toArray):w.cell? ⟨g,5,none⟩=some x:=by simpa using h.cell 5
theorem Blk.c6 (h:Blk w g t (a::b::c::d::e::f::x::l).toArray):w.cell? ⟨g,6,none⟩=some x:=by simpa using h.cell 6
theorem Blk.c7 (h:Blk w g t (a::b::c::d::e::f::i::x::l).toArray):w.cell? ⟨g,7,none⟩=some x:=by simpa using h.cell 7
theorem Blk.c8 (h:Blk w g t (a::b::c::d::e::f::i::j::x::l).toArray):w.cell? ⟨g,8,none⟩=some x:=by simpa using h.cell 8
theorem Blk.c9 (h:Blk w g t (a::b::c::d::e::f::i::j::k::x::l).toArray):w.cell? ⟨g,9,none⟩=some x:=by simpa using h.cell 9
theorem Blk.c10 (h:Blk w g t (a::b::c::d::e::f::i::j::k::m::x::l).toArray):w.cell? ⟨g,10,none⟩=some x:=by simpa using h.cell 10
theorem Blk.c11 (h:Blk w g t (a::b::c::d::e::f::i::j::k::m::n::x::l).toArray):w.cell? ⟨g,11,none⟩=some x:=by simpa using h.cell 11
theorem Blk.c12 (h:Blk w g t (a::b::c::d::e::f::i::j::k::m::n::o::x::l).toArray):w.cell? ⟨g,12,none⟩=some x:=by simpa using h.cell 12
theorem Blk.c13 (h:Blk w g t (a::b::c::d::e::f::i::j::k::m::n::o::p::x::l).toArray):w.cell? ⟨g,13,none⟩=some x:=by simpa using h.cell 13
theorem Blk.c14 (h:Blk w g t (a::b::c::d::e::f::i::j::k::m::n::o::p::q::x::l).toArray):w.cell? ⟨g,14,none⟩=some x:=by simpa using h.cell 14
theorem Blk.c15 (h:Blk w g t (a::b::c::d::e::f::i::j::k::m::n::o::p::q::r::x::l).toArray):w.cell? ⟨g,15,none⟩=some x:=by simpa using h.cell 15
theorem Blk.c16 (h:Blk w g t (a::b::c::d::e::f::i::j::k::m::n::o::p::q::r::u::x::l).toArray):w.cell? ⟨g,16,none⟩=some x:=by simpa using h.cell 16
theorem Blk.c17 (h:Blk w g t (a::b::c::d::e::f::i::j::k::m::n::o::p::q::r::u::v::x::l).toArray):w.cell? ⟨g,17,none⟩=some x:=by simpa using h.cell 17
theorem Blk.c18 (h:Blk w g t (a::b::c::d::e::f::i::j::k::m::n::o::p::q::r::u::v::y::x::l).toArray):w.cell? ⟨g,18,none⟩=some x:=by simpa using h.cell 18
theorem Blk.c19 (h:Blk w g t (a::b::c::d::e::f::i::j::k::m::n::o::p::q::r::u::v::y::z::x::l).toArray):w.cell? ⟨g,19,none⟩=some x:=by simpa using h.cell 19
theorem Blk.c20 (h:Blk w g t (a::b::c::d::e::f::i::j::k::m::n::o::p::q::r::u::v::y::z::A::x::l).toArray):w.cell? ⟨g,20,none⟩=some x:=by simpa using h.cell 20
theorem Blk.c21 (h:Blk w g t (a::b::c::d::e::f::i::j::k::m::n::o::p::q::r::u::v::y::z::A::B::x::l).toArray):w.cell? ⟨g,21,none⟩=some x:=by simpa using h.cell 21
theorem Blk.c22 (h:Blk w g t (a::b::c::d::e::f::i::j::k::m::n::o::p::q::r::u::v::y::z::A::B::C::x::l).toArray):w.cell? ⟨g,22,none⟩=some x:=by simpa using h.cell 22
theorem Blk.c23 (h:Blk w g t (a::b::c::d::e::f::i::j::k::m::n::o::p::q::r::u::v::y::z::A::B::C::D::x::l).toArray):w.cell? ⟨g,23,none⟩=some x:=by simpa using h.cell 23
theorem Blk.c24 (h:Blk w g t (a::b::c::d::e::f::i::j::k::m::n::o::p::q::r::u::v::y::z::A::B::C::D::E::x::l).toArray):w.cell? ⟨g,24,none⟩=some x:=by simpa using h.cell 24
theorem Blk.c25 (h:Blk w g t (a::b::c::d::e::f::i::j::k::m::n::o::p::q::r::u::v::y::z::A::B::C::D::E::F::x::l).toArray):w.cell? ⟨g,25,none⟩=some x:=by simpa using h.cell 25
theorem Blk.c26 (h:Blk w g t (a::b::c::d::e::f::i::j::k::m::n::o::p::q::r::u::v::y::z::A::B::C::D::E::F::G::x::l).toArray):w.cell? ⟨g,26,none⟩=some x:=by simpa using h.cell 26
theorem Blk.c27 (h:Blk w g t (a::b::c::d::e::f::i::j::k::m::n::o::p::q::r::u::v::y::z::A::B::C::D::E::F::G::H::x::l).toArray):w.cell? ⟨g,27,none⟩=some x:=by simpa using h.cell 27
theorem Blk.c28 (h:Blk w g t (a::b::c::d::e::f::i::j::k::m::n::o::p::q::r::u::v::y::z::A::B::C::D::E::F::G::H::J::x::l).toArray):w.cell? ⟨g,28,none⟩=some x:=by simpa using h.cell 28
theorem Blk.c29 (h:Blk w g t (a::b::c::d::e::f::i::j::k::m::n::o::p::q::r::u::v::y::z::A::B::C::D::E::F::G::H::J::K::x::l).toArray):w.cell? ⟨g,29,none⟩=some x:=by simpa using h.cell 29
theorem _root_.Go.RowKit.Hid.c0 (h:Go.RowKit.Hid (Blk w g t (x::l).toArray)):w.cell? ⟨g,0,none⟩=some x:=h.o.c0
theorem _root_.Go.RowKit.Hid.c1 (h:Go.RowKit.Hid (Blk w g t (a::x::l).toArray)):w.cell? ⟨g,1,none⟩=some x:=h.o.c1
theorem _root_.Go.RowKit.Hid.c2 (h:Go.RowKit.Hid (Blk w g t (a::b::x::l).toArray)):w.cell? ⟨g,2,none⟩=some x:=h.o.c2
theorem _root_.Go.RowKit.Hid.c3 (h:Go.RowKit.Hid (Blk w g t (a::b::c::x::l).toArray)):w.cell? ⟨g,3,none⟩=some x:=h.o.c3
theorem _root_.Go.RowKit.Hid.c4 (h:Go.RowKit.Hid (Blk w g t (a::b::c::d::x::l).toArray)):w.cell? ⟨g,4,none⟩=some x:=h.o.c4
theorem _root_.Go.RowKit.Hid.c5 (h:Go.RowKit.Hid (Blk w g t (a::b::c::d::e::x::l).toArray)):w.cell? ⟨g,5,none⟩=some x:=h.o.c5
theorem _root_.Go.RowKit.Hid.c6 (h:Go.RowKit.Hid (Blk w g t (a::b::c::d::e::f::x::l).toArray)):w.cell? ⟨g,6,none⟩=some x:=h.o.c6
theorem _root_.Go.RowKit.Hid.c7 (h:Go.RowKit.Hid (Blk w g t (a::b::c::d::e::f::i::x::l).toArray)):w.cell? ⟨g,7,none⟩=some x:=h.o.c7
theorem _root_.Go.RowKit.Hid.c8 (h:Go.RowKit.Hid (Blk w g t (a::b::c::d::e::f::i::j::x::l).toArray)):w.cell? ⟨g,8,none⟩=some x:=h.o.c8
theorem _root_.Go.RowKit.Hid.c16 (h:Go.RowKit.Hid (Blk w g t (a::b::c::d::e::f::i::j::k::m::n::o::p::q::r::u::x::l).toArray)):w.cell? ⟨g,16,none⟩=some x:=h.o.c16
theorem _root_.Go.RowKit.Hid.c17 (h:Go.RowKit.Hid (Blk w g t (a::b::c::d::e::f::i::j::k::m::n::o::p::q::r::u::v::x::l).toArray)):w.cell? ⟨g,17,none⟩=some x:=h.o.c17
theorem _root_.Go.RowKit.Hid.c18 (h:Go.RowKit.Hid (Blk w g t (a::b::c::d::e::f::i::j::k::m::n::o::p::q::r::u::v::y::x::l).toArray)):w.cell? ⟨g,18,none⟩=some x:=h.o.c18
theorem _root_.Go.RowKit.Hid.c19 (h:Go.RowKit.Hid (Blk w g t (a::b::c::d::e::f::i::j::k::m::n::o::p::q::r::u::v::y::z::x::l).toArray)):w.cell? ⟨g,19,none⟩=some x:=h.o.c19
theorem _root_.Go.RowKit.Hid.c20 (h:Go.RowKit.Hid (Blk w g t (a::b::c::d::e::f::i::j::k::m::n::o::p::q::r::u::v::y::z::A::x::l).toArray)):w.cell? ⟨g,20,none⟩=some x:=h.o.c20
theorem _root_.Go.RowKit.Hid.c21 (h:Go.RowKit.Hid (Blk w g t (a::b::c::d::e::f::i::j::k::m::n::o::p::q::r::u::v::y::z::A::B::x::l).toArray)):w.cell? ⟨g,21,none⟩=some x:=h.o.c21
theorem _root_.Go.RowKit.Hid.c22 (h:Go.RowKit.Hid (Blk w g t (a::b::c::d::e::f::i::j::k::m::n::o::p::q::r::u::v::y::z::A::B::C::x::l).toArray)):w.cell? ⟨g,22,none⟩=some x:=h.o.c22
theorem _root_.Go.RowKit.Hid.c23 (h:Go.RowKit.Hid (Blk w g t (a::b::c::d::e::f::i::j::k::m::n::o::p::q::r::u::v::y::z::A::B::C::D::x::l).toArray)):w.cell? ⟨g,23,none⟩=some x:=h.o.c23
theorem _root_.Go.RowKit.Hid.c24 (h:Go.RowKit.Hid (Blk w g t (a::b::c::d::e::f::i::j::k::m::n::o::p::q::r::u::v::y::z::A::B::C::D::E::x::l).toArray)):w.cell? ⟨g,24,none⟩=some x:=h.o.c24
theorem _root_.Go.RowKit.Hid.c25 (h:Go.RowKit.Hid (Blk w g t (a::b::c::d::e::f::i::j::k::m::n::o::p::q::r::u::v::y::z::A::B::C::D::E::F::x::l).toArray)):w.cell? ⟨g,25,none⟩=some x:=h.o.c25
theorem _root_.Go.RowKit.Hid.c26 (h:Go.RowKit.Hid (Blk w g t (a::b::c::d::e::f::i::j::k::m::n::o::p::q::r::u::v::y::z::A::B::C::D::E::F::G::x::l).toArray)):w.cell? ⟨g,26,none⟩=some x:=h.o.c26
theorem _root_.Go.RowKit.Hid.c27 (h:Go.RowKit.Hid (Blk w g t (a::b::c::d::e::f::i::j::k::m::n::o::p::q::r::u::v::y::z::A::B::C::D::E::F::G::H::x::l).toArray)):w.cell? ⟨g,27,none⟩=some x:=h.o.c27
end
theorem Blk.below (h:Blk w g t cs) (M:Below w.heap.size w w'):Blk w' g t cs:=(M.block g h.lt).trans h
theorem Blk.grown {row:Option Nat} (h:Blk w g t cs) (O:w.grownBy w' row) (M:row≠some g):Blk w' g t cs:=(O.block g h.lt (fun e=>M e.symm)).trans h
theorem Rd.keep (h:Rd w B A xs) (hk:∀b o,b<B->w'.cell? ⟨b,o,none⟩=w.cell? ⟨b,o,none⟩):Rd w' B A xs:=by
 rcases h with h | ⟨b,o,Z,M,O⟩
 ·exact .inl h
 ·exact .inr ⟨b,o,Z,M,fun i u hu=>(hk _ _ M).trans (O i u hu)⟩
theorem Rd.more (h:Rd w B A xs) (hB:B<=B'):Rd w B' A xs:=by
 rcases h with h | ⟨b,o,O,Z,M⟩
 ·exact .inl h
 ·exact .inr ⟨b,o,O,by omega,M⟩
theorem Rd.below (h:Rd w B A xs) (M:Below B w w'):Rd w' B A xs:=h.keep fun _ _ hp=>M.cell hp
theorem Rd.drewN (h:Rd w B A xs) (n:Nat):Rd (w.drewN n) B A xs:=h.keep fun _ _ _=>rfl
theorem Rd.alloc (h:Rd w B A xs) (hB:B<=w.heap.size) (o:Obj):Rd (w.alloc o) B A xs:=
 h.below ((Below.refl B w).alloc hB o)
theorem Rd.grown {row:Option Nat} (h:Rd w B A xs) (M:w.grownBy w' row) (hB:B<=w.heap.size) (O:∀k,row=some k->B<=k):Rd w' B A xs:=
 h.below ((Below.refl B w).grown M hB O)
theorem Rd.of_own {base n cap:Nat} (h:w.ownsRow base t 1 (.slice A n cap) n xs):Rd w w.heap.size A xs:=by
 rcases h.2 with⟨_,h2⟩ | ⟨g,O,cur,hv,_,Z,_⟩
 ·left
  have M:=h.1;rw[h2] at M;exact List.eq_nil_of_length_eq_zero (by simpa using M)
 ·right
  injection hv with hA _ _;subst hA;exact⟨g,0,rfl,(Array.getElem?_eq_some_iff.1 Z).1,fun i u hu=>by
   have:=h.cells (g:=g) rfl i u hu
   rwa [addr_add] at this⟩
theorem BU {base n size:Nat} {v:Value} (h:w.ownsRow base t size v n xs) (M:Below w.heap.size w w'):w'.ownsRow base t size v n xs:=
 h.kept (Dj M none) (by cases v.ownBlock<;>simp)
theorem Rd.at_ {i:Nat} {u:Value} (h:Rd w B A xs) (hi:xs[i]? = some u):∃b o,A=some ⟨b,o,none⟩/\b<B/\w.cell? ⟨b,o+i,none⟩=some u:=by
 rcases h with h | ⟨b,o,O,Z,M⟩
 ·subst h;simp at hi
 ·exact⟨b,o,O,Z,M i u hi⟩
end
section
variable {P:Program} (w:World)
theorem Eu {B:Nat} {A:Option Addr} {l:List UInt8} (src e:TypeId) (hs:P.underlying src=some (.slice e)) (he:P.underlying e=some (.int .u8)) (h:Rd w B A (bvs l)) (n c:Nat) (hn:n=l.length)
  (dst:TypeId) (Z:P.underlying dst=some .string):(convert src dst (.slice A n c)).run P w=.ok (.string ⟨l.toArray⟩) w:=by
 subst hn;have key:∀a:Addr,A=some a->(∀i u,(bvs l)[i]? = some u->w.cell? (a.add i)=some u)->(convert src dst (.slice A l.length c)).run P w=.ok (.string ⟨l.toArray⟩) w:=by
  intro a ha hc;subst ha;have e1:(l.map fun b=>(b.toNat:Int)).map (Value.int .u8)=bvs l:=by simp [bvs,bv,Function.comp_def]
  have O:(loadCells a l.length).run P w=.ok ((l.map fun b=>(b.toNat:Int)).map (Value.int .u8)).toArray w:=by
   have:=run_loadCells_list (P:=P) w a (bvs l) hc;rw[AG] at this;rw[e1];exact this
  rw[run_convert_bytes_string w src dst e _ _ c hs he Z,run_bytesToString w a l.length c _ O,foldl_push_bytes];have e2:((l.map fun b=>(b.toNat:Int)).map fun n=>UInt8.ofNat n.toNat)=l:=by
   rw[List.map_map]
   conv=>rhs;rw[<-List.map_id l]
   apply List.map_congr_left;intro b _;simp
  rw[e2];simp [ByteArray.empty,ByteArray.emptyWithCapacity]
  rfl
 cases hA:A with
 |some a=>
  rw[<-hA];refine key a hA ?_;rcases h with h | ⟨b,o,M,_,h3⟩
  ·rw[h];intro i u hu;simp at hu
  ·rw[hA] at M
   injection M with M;subst M;intro i u hu;rw[addr_add];exact h3 i u hu
 |none=>
  have O:l = []:=by
   rcases h with h | ⟨b,o,M,_,_⟩
   ·exact List.map_eq_nil_iff.1 h
   ·rw[hA] at M;cases M
  subst O;rw[run_convert_bytes_nil w src e hs he _ c dst Z]
  rfl
theorem Gy (base:Nat) (t ty e:TypeId) (i:TypeInfo) (z:Value) (bytes:Nat) (ht:P.underlying t=some (.slice e)) (hi:P.info? e=some i) (hz:i.zero=some z)
  (av:i.size=1) (bs:i.bytes=bytes) (bn:z.cells.size=1)
  (v:Value) (n:Nat) (xs:List Value) (M:w.ownsRow base e 1 v n xs)
  (B:Nat) (A:Option Addr) (m c:Nat) (news:List Value) (hm:m=news.length) (hr:Rd w B A news) (O:∀u∈news,u.oneCell'=true)
  (bq:n+m<=maxLen) (Z:(n+m)*bytes<=140737488355328) (aw:base<=w.heap.size) :
  ∃v' w',(Builtin.append_ #[t,t] ty #[v,.slice A m c]).run P w=.ok v' w'/\w'.ownsRow base e 1 v' (n+m) (xs++news)/\w.grownBy w' v.ownBlock/\
   (v'.ownBlock=v.ownBlock\/v'.ownBlock=some w.heap.size):=by
 subst hm;cases hA:A with
 |some a=>
  have hc:∀j u,news[j]? = some u->w.cell? (a.add j)=some u:=by
   rcases hr with h | ⟨b,o,O,_,h3⟩
   ·rw[h];intro i u hu;simp at hu
   ·rw[hA] at O
    injection O with O;subst O;intro i u hu;rw[addr_add];exact h3 i u hu
  obtain⟨v',w',bb,h2,h3,_,h5⟩:=run_append_own_at (P:=P) w base t ty e i z 1 bytes ht hi hz av bs bn (by omega) v n xs M a news.length c news (by omega) hc O bq Z aw;exact⟨v',w',bb,h2,h3,h5⟩
 |none=>
  have hn:news = []:=by
   rcases hr with h | ⟨b,o,O,_,_⟩
   ·exact h
   ·rw[hA] at O;cases O
  subst hn;refine⟨v,w,?_,by simpa using M,World.grownBy.refl w _,.inl rfl⟩;rcases M.2 with⟨rfl,rfl⟩ | ⟨g,cap,cur,rfl,_,_,bx,_⟩
  ·simp [Builtin.append_,run_underlying ht,sizeOf,typeInfo,hi,Builtin.lenOf,Builtin.firstCells]
  ·simp [Builtin.append_,run_underlying ht,sizeOf,typeInfo,hi,Builtin.lenOf,Builtin.firstCells,bx,storeCells]
theorem Fx {o:Oper} {a:Act} {K:Act->World->Prop} {Q:Exit->Act->World->Prop} (s x:Operand) (t:TypeId)
  (ho:o.op=.call {callee:=.builtin .append,args:=#[s,x],argTypes:=#[t,t]})
  (base:Nat) (e:TypeId) (i:TypeInfo) (z:Value) (bytes:Nat) (ht:P.underlying t=some (.slice e)) (hi:P.info? e=some i) (hz:i.zero=some z)
  (O:i.size=1) (bq:i.bytes=bytes) (bb:z.cells.size=1)
  (v:Value) (n:Nat) (xs:List Value) (hs:a.eval s=v) (aw:w.ownsRow base e 1 v n xs)
  (B:Nat) (A:Option Addr) (m c:Nat) (news:List Value) (hx:a.eval x=.slice A m c) (hm:m=news.length) (hr:Rd w B A news) (h1:∀u∈news,u.oneCell'=true)
  (bn:n+m<=maxLen) (M:(n+m)*bytes<=140737488355328) (Z:base<=w.heap.size)
  (h:∀v' w',w'.ownsRow base e 1 v' (n+m) (xs++news)->w.grownBy w' v.ownBlock->(v'.ownBlock=v.ownBlock\/v'.ownBlock=some w.heap.size)->K (a.put o.dst v') w'):o.wp P a w K Q:=by
 obtain⟨v',w',av,h2,h3,h4⟩:=Gy (P:=P) w base t o.type e i z bytes ht hi hz O bq bb v n xs aw B A m c news hm hr h1 bn M Z;unfold Oper.wp execOp;simp only[ho,resolve,invoke,builtin,Sem.run_bind,Sem.run_pure,Result.andThen_ok,List.map_toArray,List.map_cons,List.map_nil,hs,hx,av];exact h v' w' h2 h3 h4
theorem AI {ops:Array Oper} {rest:List Oper} {o:Oper} {a:Act} {Q:Exit->Act->World->Prop} (M:o.guard=none) (s x:Operand) (t:TypeId)
  (Z:o.op=.call {callee:=.builtin .append,args:=#[s,x],argTypes:=#[t,t]})
  (base:Nat) (e:TypeId) (i:TypeInfo) (z:Value) (bytes:Nat) (ht:P.underlying t=some (.slice e)) (hi:P.info? e=some i) (hz:i.zero=some z)
  (hsize:i.size=1) (hby:i.bytes=bytes) (hzs:z.cells.size=1)
  (v:Value) (n:Nat) (xs:List Value) (hs:a.eval s=v) (hown:w.ownsRow base e 1 v n xs)
  (B:Nat) (A:Option Addr) (m c:Nat) (news:List Value) (hx:a.eval x=.slice A m c) (hm:m=news.length) (hr:Rd w B A news) (h1:∀u∈news,u.oneCell'=true)
  (h63:n+m<=maxLen) (hbytes:(n+m)*bytes<=140737488355328) (hbase:base<=w.heap.size)
  (h:∀v' w',w'.ownsRow base e 1 v' (n+m) (xs++news)->w.grownBy w' v.ownBlock->(v'.ownBlock=v.ownBlock\/v'.ownBlock=some w.heap.size)->wpList P ops Q rest (a.put o.dst v') w'):wpList P ops Q (o :: rest) a w:=
 wpList_plain M fun _ hK=>Fx w s x t Z base e i z bytes ht hi hz hsize hby hzs v n xs hs hown B A m c news hx hm hr h1 h63 hbytes hbase fun v' w' h2 O h4=>hK _ _ (h v' w' h2 O h4)
end
def Dg (n:Nat):Array Value:=(List.replicate n (bv 0)).toArray
theorem Ej (n:Nat):(Dg n).size=n:=by simp [Dg]
theorem Gh {P:Program} {t e:TypeId} {i:TypeInfo} (O:P.underlying t=some (.slice e)) (hi:P.info? e=some i) (hz:i.zero=some (.int .u8 0)) (hs:i.size=1) (Z:i.bytes=1)
  (C:Int) (n:Nat) (hC:C=(n:Int)) (hn:n<=1000000) (w:World) :
  (Instr.makeSlice t (.int .i64 C) (.int .i64 C)).run P w=.ok (.slice (some ⟨w.heap.size,0,none⟩) n n) (w.alloc (.cells (Dg n) e)):=by
 subst hC;have h:=run_make (P:=P) w t e i _ O hi hz .i64 .i64 (n:Int) (n:Int) (by omega) (by omega) (by rw[Z];omega) (by omega);rw[Int.toNat_natCast,hs,Nat.mul_one] at h;rw[h];have M:madeCells (Value.int .u8 0).cells n=Dg n:=by
  apply Array.toList_inj.1;rw[show(Value.int .u8 0).cells=#[Value.int .u8 0] from rfl,toList_madeCells_one];simp [Dg,bv]
 rw[M]
theorem Ev {P:Program} {t e:TypeId} {i:TypeInfo} (O:P.underlying t=some (.slice e)) (hi:P.info? e=some i) (hz:i.zero=some (.int .u8 0)) (hs:i.size=1) (Z:i.bytes=1)
  (C:Int) (n:Nat) (hC:C=(n:Int)) (hn:n<=1000000) (w:World) :
  (Instr.makeSlice t (.int .i64 0) (.int .i64 C)).run P w=.ok (.slice (some ⟨w.heap.size,0,none⟩) 0 n) (w.alloc (.cells (Dg n) e)):=by
 subst hC;have h:=run_make (P:=P) w t e i _ O hi hz .i64 .i64 0 (n:Int) (by omega) (by omega) (by rw[Z];omega) (by omega);rw[Int.toNat_natCast,hs,Nat.mul_one] at h;rw[h];have M:madeCells (Value.int .u8 0).cells n=Dg n:=by
  apply Array.toList_inj.1;rw[show(Value.int .u8 0).cells=#[Value.int .u8 0] from rfl,toList_madeCells_one];simp [Dg,bv]
 rw[M]
 rfl
theorem Ew (w:World) (e:TypeId) (s:ByteArray):Below w.heap.size w (Lib.bytesWorld w e s):=
 ⟨rfl,rfl,rfl,by rw[Lib.bytesWorld_size];omega,fun k hk=>Lib.bytesWorld_at_old w e s k hk⟩
def RG (w:World) (base b:Nat) (l:List UInt8):Prop:=
 base<=b/\b<w.heap.size/\∀i (h:i<l.length),w.cell? ⟨b,i,none⟩=some (bv l[i])/\w.frozen? ⟨b,i,none⟩=false
theorem Gm (w:World) (e:TypeId) (l:List UInt8):RG (Lib.bytesWorld w e ⟨l.toArray⟩) w.heap.size w.heap.size l:=by
 refine⟨Nat.le_refl _,by rw[Lib.bytesWorld_size];omega,fun i h=>⟨?_,?_⟩⟩
 ·rw[Lib.bytesWorld_cell w e ⟨l.toArray⟩ i (by simpa [ByteArray.size] using h)]
  simp [bv,List.getD,h]
 ·have M:i<(Lib.bytesCells w e ⟨l.toArray⟩).size:=by
   simp only[Lib.bytesCells,Array.size_append,Array.size_map,Array.size_replicate];simp;omega
  simp only[World.frozen?,Lib.bytesWorld_at_new];simp;omega
theorem RG.rd {w:World} {base b:Nat} {l:List UInt8} (h:RG w base b l):Rd w w.heap.size (some ⟨b,0,none⟩) (bvs l):=by
 refine .inr ⟨b,0,rfl,h.2.1,fun i u hu=>?_⟩;have hi:i<l.length:=by
  rcases Nat.lt_or_ge i l.length with g | g
  ·exact g
  ·rw[List.getElem?_eq_none (by rw[AG];exact g)] at hu;cases hu
 rw[Fw hi] at hu;injection hu with hu;subst hu;rw[Nat.zero_add];exact(h.2.2 i hi).1
end Af
namespace Nm
abbrev L:=List UInt8
def capB (b:UInt8):Bool:=decide (65<=b.toNat)&&decide (b.toNat<=90)
def DN (b:UInt8):Bool:=decide (97<=b.toNat)&&decide (b.toNat<=122)
def Ct (b:UInt8):Bool:=DN b||(decide (48<=b.toNat)&&decide (b.toNat<=57))
def Cn (p:UInt8->Bool) (l:L):Bool:=decide (1<=l.length)&&(decide (l.length<=8)&&l.all p)
theorem Fy (p:UInt8->Bool) (l:L):Cn p l=true↔1<=l.length/\l.length<=8/\l.all p=true:=by simp [Cn]
def hasC (c:UInt8) (l:L):Bool:=l.any fun x=>decide (x=c)
def bef (c:UInt8):L->L
 | []=>[]
 |x :: r=>if x=c then [] else x :: bef c r
def aft (c:UInt8):L->L
 | []=>[]
 |x :: r=>if x=c then r else aft c r
theorem Ex (c:UInt8) (l:L):hasC c l=true↔c∈l:=by simp [hasC]
theorem FP (c:UInt8) (l:L):hasC c l=false↔c∉l:=by rw[<-Ex];simp
theorem Iy {c:UInt8} {l:L} (h:c∉l):bef c l=l:=by
 induction l with
 |nil=>rfl
 |cons x r ih=>
  simp only[List.mem_cons,not_or] at h;rw[bef,if_neg (fun e=>h.1 e.symm),ih h.2]
theorem Pc {c:UInt8} {l:L} (h:c∉l):aft c l = []:=by
 induction l with
 |nil=>rfl
 |cons x r ih=>
  simp only[List.mem_cons,not_or] at h;rw[aft,if_neg (fun e=>h.1 e.symm),ih h.2]
theorem RH (c:UInt8) (l:L):c∉bef c l:=by
 induction l with
 |nil=>simp [bef]
 |cons x r ih=>
  rw[bef];split
  ·simp
  ·rename_i h;simp only[List.mem_cons,not_or];exact⟨fun e=>h e.symm,ih⟩
theorem LY {c:UInt8} {l:L} (h:c∈l):l=bef c l++c :: aft c l:=by
 induction l with
 |nil=>simp at h
 |cons x r ih=>
  by_cases e:x=c
  ·simp [bef,aft,e]
  ·rw[bef,aft,if_neg e,if_neg e]
   have:c∈r:=(List.mem_cons.1 h).resolve_left fun g=>e g.symm
   simpa using ih this
theorem bJ {c:UInt8} {u v:L} (h:c∉u):aft c (u++c :: v)=v:=by
 induction u with
 |nil=>simp [aft]
 |cons x r ih=>
  simp only[List.mem_cons,not_or] at h;rw[List.cons_append,aft,if_neg (fun e=>h.1 e.symm),ih h.2]
theorem Nq (c:UInt8) (l:L):(aft c l).length<=l.length:=by
 induction l with
 |nil=>simp [aft]
 |cons x r ih=>rw[aft];split<;>simp<;>omega
theorem Yb {c:UInt8} {l:L} (h:l≠[]):(aft c l).length<l.length:=by
 cases l with
 |nil=>exact absurd rfl h
 |cons x r=>rw[aft];have:=Nq c r;split<;>simp<;>omega
theorem RI (c:UInt8) (l:L):(bef c l).length<=l.length:=by
 induction l with
 |nil=>simp [bef]
 |cons x r ih=>rw[bef];split<;>simp<;>omega
theorem Vz {c:UInt8} {l:L} (h:c∈l):∃u v,l=u++c :: v/\c∉v:=by
 refine⟨(aft c l.reverse).reverse,(bef c l.reverse).reverse,?_,by simpa using RH c l.reverse⟩;have M:c∈l.reverse:=by simpa using h
 have:=congrArg List.reverse (LY M)
 simpa using this
def split (c:UInt8):L->List L
 | []=>[[]]
 |x :: r=>if x=c then [] :: split c r else match split c r with
  | []=>[[x]]
  |a :: t=>(x :: a) :: t
theorem Kx (c:UInt8) (l:L):split c l≠[]:=by
 cases l with
 |nil=>simp [split]
 |cons x r=>
  rw[split];split
  ·simp
  ·split<;>simp
theorem CJ (c:UInt8) (l:L):1<=(split c l).length:=by
 have:=Kx c l;cases h:split c l with
 |nil=>exact absurd h this
 |cons a t=>simp
theorem FQ {c:UInt8} {l:L} (h:c∉l):split c l = [l]:=by
 induction l with
 |nil=>rfl
 |cons x r ih=>
  simp only[List.mem_cons,not_or] at h;rw[split,if_neg (fun e=>h.1 e.symm),ih h.2]
theorem Ky {c:UInt8} (u v:L):split c (u++c :: v)=split c u++split c v:=by
 induction u with
 |nil=>simp [split]
 |cons x r ih=>
  rw[List.cons_append,split,split]
  split
  ·rw[ih];rfl
  ·rw[ih]
   cases h:split c r with
   |nil=>exact absurd h (Kx c r)
   |cons a t=>rfl
theorem Ke {c:UInt8} {u v:L} (h:c∉u):split c (u++c :: v)=u :: split c v:=by rw[Ky,FQ h];rfl
theorem Fz (c:UInt8) (l:L):split c l=if hasC c l then bef c l :: split c (aft c l) else [l]:=by
 by_cases h:c∈l
 ·rw[if_pos ((Ex c l).2 h)]
  conv=>lhs;rw[LY h]
  exact Ke (RH c l)
 ·rw[if_neg (by rw[Ex];exact h)];exact FQ h
def Co (ls:List L):Bool:=decide (1<=ls.length)&&(decide (ls.length<=4)&&ls.all (Cn capB))
theorem CK (ls:List L):Co ls=true↔1<=ls.length/\ls.length<=4/\ls.all (Cn capB)=true:=by simp [Co]
def areL (c:UInt8):Nat->L->Bool
 |0,_=>false
 |n+1,l=>Cn capB (bef c l)&&(if hasC c l then areL c n (aft c l) else true)
theorem YN (c:UInt8) (n:Nat):∀l:L,areL c n l=(decide ((split c l).length<=n)&&(split c l).all (Cn capB)):=by
 induction n with
 |zero=>intro l;have:=CJ c l;rw[areL,decide_eq_false (by omega)];rfl
 |succ n ih=>
  intro l;rw[areL,ih,Fz c l]
  by_cases h:c∈l
  ·rw[(Ex c l).2 h,if_pos rfl,if_pos rfl]
   simp only[List.length_cons,List.all_cons,Nat.add_le_add_iff_right];cases Cn capB (bef c l)<;>simp
  ·rw[(FP c l).2 h,if_neg (by simp),if_neg (by simp),Iy h]
   simp
theorem LZ (c:UInt8) (l:L):areL c 4 l=Co (split c l):=by
 have:=CJ c l;rw[YN,Co,decide_eq_true this];rfl
def slL (l:L):Bool:=decide (l.head? = some 47)&&Co (split 47 l.tail)
def AU (l:L):Nat:=if slL l then 2 else if Co (split 46 l) then 1 else 0
theorem Pd {l:L} (h:Co (split 46 l)=true):l.head?≠some 47:=by
 intro e;cases l with
 |nil=>simp at e
 |cons x r=>
  simp only[List.head?_cons,Option.some.injEq] at e;subst e;have h2:Cn capB (bef 46 (47 :: r))=true:=by
   have M:=((CK _).1 h).2.2;rw[Fz] at M
   split at M
   ·simp only[List.all_cons,Bool.and_eq_true] at M;exact M.1
   ·rename_i hn
    rw[Iy ((FP _ _).1 (by simpa using hn))]
    simpa using M
  have Z:bef 46 (47 :: r)=47 :: bef 46 r:=by rw[bef,if_neg (by decide)]
  have O:=((Fy _ _).1 h2).2.2;rw[Z] at O;simp [capB] at O
theorem bK {l:L} (h:Co (split 46 l)=true):slL l=false:=by
 simp [slL,Pd h]
theorem Pe {l:L} (h:Co (split 46 l)=true):AU l=1:=by rw[AU,bK h,h];rfl
theorem YO {l:L} (h:slL l=true):AU l=2:=by rw[AU,h];rfl
theorem Qi (l:L):AU l=if Co (split 46 l) then 1 else if slL l then 2 else 0:=by
 cases h:Co (split 46 l) with
 |true=>rw[Pe h];rfl
 |false=>rw[AU,h];rfl
theorem Ja (l:L):AU l<=2:=by rw[AU];split<;>(try split)<;>omega
theorem Kz:AU []=0:=by decide
theorem KC {l:L} (h:AU l=1):Co (split 46 l)=true:=by
 rw[AU] at h
 split at h
 ·omega
 ·split at h
  ·assumption
  ·omega
theorem Iz {l:L} (h:AU l=2):slL l=true:=by
 rw[AU] at h
 split at h
 ·assumption
 ·split at h<;>omega
def isL (l:L):Bool:=decide (1<=AU l)
def upL (l:L):L:=if AU l=1 then aft 46 l else if AU l=2 then (aft 47 l.reverse).reverse else []
def depL (l:L):Nat:=if AU l=1 then (split 46 l).length else if AU l=2 then (split 47 l.tail).length else 0
theorem Jb {l:L} (h:AU l=0):upL l = []:=by rw[upL,if_neg (by omega),if_neg (by omega)]
theorem bL:upL [] = []:=Jb Kz
theorem YP {u v:L} (h:47∉v):(aft 47 (u++47 :: v).reverse).reverse=u:=by
 have:(u++47 :: v).reverse=v.reverse++47 :: u.reverse:=by simp
 rw[this,bJ (by simpa using h)];simp
theorem RJ {l:L} (h:AU l=2):∃u v,l=u++47 :: v/\47∉v/\upL l=u:=by
 have hs:=Iz h;have M:l.head? = some 47:=by simp only[slL,Bool.and_eq_true,decide_eq_true_eq] at hs;exact hs.1
 have hm:47∈l:=by cases l with
  |nil=>simp at M
  |cons x r=>simp at M;simp [M]
 obtain⟨u,v,e,O⟩:=Vz hm;refine⟨u,v,e,O,?_⟩;rw[upL,if_neg (by omega),if_pos h]
 conv=>lhs;rw[e]
 exact YP O
theorem Dk {l:L} (h:AU l≠0):l≠[]:=fun e=>h (by rw[e];exact Kz)
theorem bM {l:L} (h:l≠[]):(upL l).length<l.length:=by
 have:=Ja l
 by_cases h1:AU l=1
 ·rw[upL,if_pos h1];exact Yb h
 ·by_cases h2:AU l=2
  ·obtain⟨u,v,e,_,M⟩:=RJ h2
   rw[M,e];simp
  ·rw[Jb (by omega)]
   cases l with
   |nil=>exact absurd rfl h
   |cons x r=>simp
theorem bN (l:L):depL l<=4:=by
 rw[depL]
 split
 ·rename_i h;exact((CK _).1 (KC h)).2.1
 ·split
  ·rename_i h
   have:=Iz h;simp only[slL,Bool.and_eq_true] at this;exact((CK _).1 this.2).2.1
  ·exact Nat.zero_le _
theorem YQ {l:L} (h:AU l≠0):1<=depL l:=by
 have:=Ja l;rw[depL]
 split
 ·exact CJ _ _
 ·rw[if_pos (by omega)];exact CJ _ _
theorem Nr (l:L):upL l = []\/(AU (upL l)=AU l/\depL (upL l)+1=depL l):=by
 have hk:=Ja l
 by_cases h1:AU l=1
 ·by_cases hm:(46:UInt8)∈l
  ·right
   have M:=(CK _).1 (KC h1);have e:=Fz 46 l;rw[if_pos ((Ex _ _).2 hm)] at e;rw[e] at M;simp only[List.length_cons,List.all_cons,Bool.and_eq_true] at M;have O:Co (split 46 (aft 46 l))=true:=(CK _).2 ⟨CJ _ _,by omega,M.2.2.2⟩;have eu:upL l=aft 46 l:=by rw[upL,if_pos h1]
   have Z:=Pe O;rw[eu];refine⟨by rw[Z,h1],?_⟩;rw[depL,if_pos Z,depL,if_pos h1,e];rfl
  ·left;rw[upL,if_pos h1];exact Pc hm
 ·by_cases O:AU l=2
  ·obtain⟨u,v,e,hv,eu⟩:=RJ O
   have hs:=Iz O;simp only[slL,Bool.and_eq_true,decide_eq_true_eq] at hs;cases u with
   |nil=>left;rw[eu]
   |cons x u'=>
    right
    have hx:x=47:=by rw[e] at hs;simpa using hs.1
    subst hx;have et:l.tail=u'++47 :: v:=by rw[e];rfl
    have es:split 47 l.tail=split 47 u'++[v]:=by rw[et,Ky,FQ hv]
    have M:=(CK _).1 hs.2;rw[es] at M;simp only[List.length_append,List.length_cons,List.length_nil,List.all_append,Bool.and_eq_true] at M;have h3:Co (split 47 u')=true:=(CK _).2 ⟨CJ _ _,by omega,M.2.2.1⟩;have h4:slL (47 :: u')=true:=by simp [slL,h3]
    have h5:=YO h4;rw[eu];refine⟨by rw[h5,O],?_⟩;rw[depL,if_neg (by omega),if_pos h5,depL,if_neg (by omega),if_pos O,es];simp
  ·left;exact Jb (by omega)
def chF:Nat->L->List L
 |0,_=>[]
 |n+1,l=>if l = [] then [] else l :: chF n (upL l)
def ch (l:L):List L:=chF 4 l
theorem Jc (n:Nat):chF n [] = []:=by cases n<;>simp [chF]
theorem VA (n:Nat):∀l:L,AU l≠0->depL l<=n->chF (n+1) l=chF n l:=by
 induction n with
 |zero=>intro l h M;have:=YQ h;omega
 |succ n ih=>
  intro l h M;show(if l = [] then [] else l :: chF (n+1) (upL l))=(if l = [] then [] else l :: chF n (upL l));rw[if_neg (Dk h),if_neg (Dk h)];rcases Nr l with e | ⟨O,Z⟩
  ·rw[e,Jc,Jc]
  ·rw[ih (upL l) (by rw[O];exact h) (by omega)]
theorem Eb:ch [] = []:=Jc 4
theorem DC {l:L} (h:l≠[]):ch l=l :: ch (upL l):=by
 rw[ch,chF,if_neg h];rcases Nr l with e | ⟨M,O⟩
 ·rw[e,Jc,Eb]
 ·by_cases hk:AU l=0
  ·rw[Jb hk,Jc,Eb]
  ·have:=bN l
   rw[ch,VA 3 (upL l) (by rw[M];exact hk) (by omega)]
theorem YR (n:Nat):∀l:L,(chF n l).length<=n:=by
 induction n with
 |zero=>intro l;simp [chF]
 |succ n ih=>intro l;rw[chF];split<;>simp [ih]
theorem Ma (l:L):(ch l).length<=4:=YR 4 l
theorem Yc {l:L} (h:l≠[]):1<=(ch l).length:=by rw[DC h];simp
theorem Ey {l:L} (h:l≠[]):(ch l).getD 0 []=l:=by rw[DC h];rfl
def pl (A:List L) (i:Nat):L:=A.getD i []
theorem CO {A:List L} {i:Nat} (h:i<A.length):pl A i=A[i]:=by simp [pl,h]
theorem KD {A:List L} {i:Nat} (h:A.length<=i):pl A i = []:=by simp [pl,h]
theorem DQ {A:List L} {i:Nat} (h:i<A.length):pl A i∈A:=by rw[CO h];exact List.getElem_mem h
theorem mem_pl {A:List L} {x:L} (h:x∈A):∃i,i<A.length/\pl A i=x:=by
 obtain⟨i,hi,e⟩:=List.getElem_of_mem h;exact⟨i,hi,by rw[CO hi];exact e⟩
theorem bO (i:Nat):∀a:L,i<(ch a).length->ch (pl (ch a) i)=(ch a).drop i:=by
 induction i with
 |zero=>
  intro a h
  by_cases ha:a = []
  ·subst ha;rw[Eb] at h;simp at h
  ·rw[List.drop_zero,pl,Ey ha]
 |succ i ih=>
  intro a h
  by_cases ha:a = []
  ·subst ha;rw[Eb] at h;simp at h
  ·rw[DC ha] at h⊢
   simp only[List.length_cons] at h;exact ih (upL a) (by omega)
theorem VB {i:Nat} (a:L) (h:i<(ch a).length):upL (pl (ch a) i)=pl (ch a) (i+1):=by
 have O:=bO i a h;have av:pl (ch a) i≠[]:=by
  intro e;rw[e,Eb] at O;have:=congrArg List.length O;simp at this;omega
 rw[DC av] at O;have M:=congrArg (List.drop 1) O;simp only[List.drop_succ_cons,List.drop_zero,List.drop_drop] at M
 by_cases hu:upL (pl (ch a) i) = []
 ·rw[hu,Eb] at M
  rw[hu];have Z:=congrArg List.length M;simp only[List.length_nil,List.length_drop] at Z;exact(KD (by omega)).symm
 ·rw[DC hu] at M
  have Z:=congrArg (fun m=>List.getD m 0 []) M
  simpa [pl,List.getD,List.getElem?_drop] using Z
theorem RK {i:Nat} (a:L) (h:i<(ch a).length):pl (ch a) i≠[]:=by
 intro e;have M:=bO i a h;rw[e,Eb] at M;have:=congrArg List.length M;simp at this;omega
theorem YS (i:Nat):∀a:L,i<(ch a).length->AU (pl (ch a) i)=AU a:=by
 induction i with
 |zero=>
  intro a h
  by_cases ha:a = []
  ·subst ha;rw[Eb] at h;simp at h
  ·rw[pl,Ey ha]
 |succ i ih=>
  intro a h
  by_cases ha:a = []
  ·subst ha;rw[Eb] at h;simp at h
  ·rw[DC ha] at h⊢
   simp only[List.length_cons] at h;have:=ih (upL a) (by omega);rw[show pl (a :: ch (upL a)) (i+1)=pl (ch (upL a)) i from rfl,this];rcases Nr a with e | ⟨e,_⟩
   ·rw[e,Eb] at h;simp at h
   ·exact e
theorem Pf {a x:L} (h:x∈ch a):AU x=AU a:=by
 obtain⟨i,hi,rfl⟩:=mem_pl h;exact YS i a hi
theorem RL (a:L):∀j i:Nat,i<j->j<(ch a).length->(pl (ch a) j).length<(pl (ch a) i).length:=by
 intro j
 induction j with
 |zero=>intro i h;omega
 |succ j ih=>
  intro i h Z;have O:=VB a (i:=j) (by omega);have M:=bM (RK a (i:=j) (by omega));rw[O] at M
  by_cases e:i=j
  ·subst e;exact M
  ·have:=ih i (by omega) (by omega);omega
theorem bP {a:L} {i j:Nat} (hi:i<(ch a).length) (M:j<(ch a).length) (h:pl (ch a) i=pl (ch a) j):i=j:=by
 rcases Nat.lt_trichotomy i j with g | g | g
 ·have:=RL a j i g M;rw[h] at this;omega
 ·exact g
 ·have:=RL a i j g hi;rw[h] at this;omega
theorem RM {a x:L} (h:x∈ch a):x.length<=a.length:=by
 obtain⟨i,hi,rfl⟩:=mem_pl h;have O:a≠[]:=by rintro rfl;rw[Eb] at hi;simp at hi
 have M:pl (ch a) 0=a:=Ey O
 by_cases e:i=0
 ·subst e;rw[M];exact Nat.le_refl _
 ·have:=RL a i 0 (by omega) hi;rw[M] at this;omega
theorem VC {a:L} (h:a≠[]):a∈ch a:=by rw[DC h];exact List.mem_cons_self
def Gz (a b:L):Bool:=decide (b∈ch (upL a))
theorem RN (a b:L):Gz a b=true↔b∈ch (upL a):=by simp [Gz]
theorem Kf {b x:L} (M:b≠[]):x∈ch b↔x=b\/Gz b x=true:=by
 rw[DC M,List.mem_cons,RN]
def ix (A B:List L):Nat:=A.findIdx fun x=>decide (x∈B)
theorem Mb (A B:List L):ix A B<=A.length:=List.findIdx_le_length
theorem VD {A B:List L} (h:ix A B<A.length):pl A (ix A B)∈B:=by
 have:=List.findIdx_getElem (w:=h);rw[CO h];exact of_decide_eq_true this
theorem GA {A B:List L} {i:Nat} (h:i<ix A B):pl A i∉B:=by
 have M:i<A.length:=Nat.lt_of_lt_of_le h (Mb A B);have:=List.not_of_lt_findIdx h;rw[CO M]
 simpa using this
theorem ix_eq {A B:List L} {i:Nat} (hi:i<A.length) (O:pl A i∈B) (M:∀k,k<i->pl A k∉B):ix A B=i:=by
 rcases Nat.lt_trichotomy (ix A B) i with g | g | g
 ·exact absurd (VD (Nat.lt_trans g hi)) (M _ g)
 ·exact g
 ·exact absurd O (GA g)
def KE (A B:List L):List L:=A.take (ix A B)++((A.drop (ix A B)).take 1++(B.take (ix B A)).reverse)
def Bt (a b:L):List L:=if AU a=0\/AU b=0 then [] else ((KE (ch a) (ch b)).drop 1).dropLast
theorem Nt {a b:L} (h:ix (ch a) (ch b)<(ch a).length):ix (ch b) (ch a)<(ch b).length/\pl (ch b) (ix (ch b) (ch a))=pl (ch a) (ix (ch a) (ch b)):=by
 have h1:=VD h;have Z:=DQ h;obtain⟨j,hj,e⟩:=mem_pl h1;have M:ix (ch b) (ch a)<(ch b).length:=by
  rcases Nat.lt_or_ge (ix (ch b) (ch a)) (ch b).length with g | g
  ·exact g
  ·exact absurd (by rw[e];exact Z) (GA (A:=ch b) (B:=ch a) (i:=j) (by omega))
 refine⟨M,?_⟩;have h2:=VD M
 -- m' is in ch a at or behind m,m in ch b at or behind m'
 obtain⟨i,hi,O⟩:=mem_pl h2;have av:ix (ch a) (ch b)<=i:=by
  rcases Nat.lt_or_ge i (ix (ch a) (ch b)) with g | g
  ·exact absurd (by rw[O];exact DQ M) (GA g)
  ·exact g
 have aw:ix (ch b) (ch a)<=j:=by
  rcases Nat.lt_or_ge j (ix (ch b) (ch a)) with g | g
  ·exact absurd (by rw[e];exact Z) (GA g)
  ·exact g
 have m1:(pl (ch b) (ix (ch b) (ch a))).length<=(pl (ch a) (ix (ch a) (ch b))).length:=by
  rw[<-O]
  by_cases q:i=ix (ch a) (ch b)
  ·rw[q];exact Nat.le_refl _
  ·exact Nat.le_of_lt (RL a i _ (by omega) hi)
 by_cases q:j=ix (ch b) (ch a)
 ·rw[<-q];exact e
 ·have:=RL b j _ (by omega:ix (ch b) (ch a)<j) hj
  rw[e] at this;omega
theorem Nu {a b:L} (h:ix (ch a) (ch b)=(ch a).length):ix (ch b) (ch a)=(ch b).length:=by
 rcases Nat.lt_or_ge (ix (ch b) (ch a)) (ch b).length with g | g
 ·have:=(Nt (a:=b) (b:=a) g).1;omega
 ·have:=Mb (ch b) (ch a);omega
theorem YT {A:List L} {i:Nat} (h:i<A.length):(A.drop i).take 1 = [pl A i]:=by
 rw[CO h,List.drop_eq_getElem_cons h];rfl
theorem RQ {a b:L} (h:ix (ch a) (ch b)<(ch a).length) :
  KE (ch a) (ch b)=(ch a).take (ix (ch a) (ch b))++pl (ch a) (ix (ch a) (ch b)) :: ((ch b).take (ix (ch b) (ch a))).reverse:=by
 rw[KE,YT h];rfl
theorem RR {a b:L} (h:ix (ch a) (ch b)=(ch a).length):KE (ch a) (ch b)=ch a++(ch b).reverse:=by
 rw[KE,Nu h,h];simp
def upW (A:List L) (b:L):Nat->List L
 |0=>[]
 |k+1=>upW A b k++(if pl A (k+1) = []\/pl A (k+1)=b then [] else [pl A (k+1)])
def FA (B:List L) (b:L):Nat->List L
 |0=>[]
 |k+1=>FA B b k++(if pl B k=b then [] else [pl B k])
theorem BN {A:List L} {i:Nat} (h:i<A.length):A.take (i+1)=A.take i++[pl A i]:=by
 rw[CO h,List.take_succ_eq_append_getElem h]
theorem RT {a b:L} (k:Nat) (h:k<(ch a).length) (M:∀i,i<=k->i≠0->pl (ch a) i≠b):upW (ch a) b k=((ch a).take (k+1)).drop 1:=by
 induction k with
 |zero=>rw[upW,BN h];simp
 |succ k ih=>
  rw[upW,ih (by omega) (fun i hi=>M i (by omega)),if_neg (by
   intro e;rcases e with e | e
   ·exact RK a h e
   ·exact M (k+1) Ag (by omega) e),BN h,List.drop_append_of_le_length]
  rw[List.length_take];omega
theorem VE {b:L} (k:Nat) (h:k<=(ch b).length):FA (ch b) b k=((ch b).take k).drop 1:=by
 induction k with
 |zero=>simp [FA]
 |succ k ih=>
  have M:(ch b).getD 0 []=b:=by
   refine Ey ?_;rintro rfl;rw[Eb] at h;simp at h
  rw[FA,ih (by omega),BN (by omega)]
  by_cases hk:k=0
  ·subst hk;rw[if_pos (show pl (ch b) 0=b from M)];simp
  ·rw[if_neg (fun e=>hk (bP (a:=b) (i:=k) (j:=0) (by omega) (by omega) (by rw[e];exact M.symm))),List.drop_append_of_le_length]
   rw[List.length_take];omega
theorem KF {a b:L} (ha:AU a≠0) (hb:AU b≠0):upW (ch a) b (ix (ch a) (ch b))++(FA (ch b) b (ix (ch b) (ch a))).reverse=Bt a b:=by
 have na:=Dk ha;have M:=Dk hb;have pa:=Yc na;have pb:=Yc M;rw[Bt,if_neg (by omega),VE _ (Mb _ _)];have Z:b∈ch b:=VC M;rcases Nat.lt_or_ge (ix (ch a) (ch b)) (ch a).length with g | g
 ·obtain⟨h1,h2⟩:=Nt g
  rw[RQ g]
  by_cases e:pl (ch a) (ix (ch a) (ch b))=b
  ·have hj:ix (ch b) (ch a)=0:=by
    refine ix_eq (by omega) ?_ (by omega);rw[pl,Ey M,<-e];exact DQ g
   rw[hj,e];cases hi:ix (ch a) (ch b) with
   |zero=>simp [upW]
   |succ k=>
    rw[hi] at e g;rw[upW,if_pos (.inr e),RT k (by omega) (fun i av _=>by
     intro q;exact absurd (by rw[q];exact Z) (GA (A:=ch a) (B:=ch b) (i:=i) (by omega)))]
    rw[List.drop_append_of_le_length (by rw[List.length_take];omega)];simp
  ·rw[RT _ g (fun i hi _=>by
    intro q
    by_cases w:i=ix (ch a) (ch b)
    ·rw[w] at q;exact e q
    ·exact absurd (by rw[q];exact Z) (GA (A:=ch a) (B:=ch b) (i:=i) (by omega)))]
   have hj:1<=ix (ch b) (ch a):=by
    rcases Nat.eq_zero_or_pos (ix (ch b) (ch a)) with q | q
    ·rw[q,pl,Ey M] at h2;exact absurd h2.symm e
    ·exact q
   obtain⟨j,ej⟩:∃j,ix (ch b) (ch a)=j+1:=⟨ix (ch b) (ch a) - 1,by omega⟩;rw[ej,DC M];simp only[List.take_succ_cons,List.drop_succ_cons,List.drop_zero,List.reverse_cons];have e1:List.take (ix (ch a) (b :: ch (upL b))) (ch a)++pl (ch a) (ix (ch a) (b :: ch (upL b))) :: ((List.take j (ch (upL b))).reverse++[b])=(List.take (ix (ch a) (b :: ch (upL b))+1) (ch a)++(List.take j (ch (upL b))).reverse)++[b]:=by
    rw[BN (by rw[<-DC M];exact g)];simp
   rw[e1,List.drop_append_of_le_length (by simp;omega),List.dropLast_concat,List.drop_append_of_le_length (by rw[List.length_take];omega)]
 ·have e:ix (ch a) (ch b)=(ch a).length:=by have:=Mb (ch a) (ch b);omega
  rw[RR e,Nu e,e];obtain⟨n,en⟩:∃n,(ch a).length=n+1:=⟨(ch a).length - 1,by omega⟩;have O:∀i,i<(ch a).length->pl (ch a) i≠b:=fun i hi q=>absurd (by rw[q];exact Z) (GA (A:=ch a) (B:=ch b) (i:=i) (by omega))
  have hu:upW (ch a) b (ch a).length=(ch a).drop 1:=by
   rw[en,upW,if_pos (.inl (KD (by omega))),RT n (by omega) (fun i hi _=>O i (by omega)),<-en];simp
  rw[hu,List.take_of_length_le Ag]
  conv=>rhs;rw[DC M]
  conv=>lhs;rw[DC M]
  rw[List.reverse_cons,<-List.append_assoc,List.drop_append_of_le_length (by simp;omega),List.dropLast_concat,List.drop_append_of_le_length (by omega)];simp
open Go.RowKit Af
attribute [local go_sem] Et List.getElem_cons_zero List.getElem_cons_succ
theorem Nv (b:UInt8) (w:World):Calls Tryz.prog 197 #[.int .u8 (b.toNat:Int)] w fun e w'=>e=.returned (.bool (capB b))/\w=w':=by
 have Z:=Fs b
 by_cases h1:65<=b.toNat
 ·have O:decide (65<=(b.toNat:Int))=true:=by simp;omega
  by_cases h2:b.toNat<=90
  ·have M:decide ((b.toNat:Int)<=90)=true:=by simp;omega
   have E:=I (show capB b=true by simp [capB,h1,h2]);clear h1 h2;go_enter Tryz.func197,Tryz.ntmps197
   go_wp2
   go_ret;exact⟨by rw[E.o];rfl,rfl⟩
  ·have M:decide ((b.toNat:Int)<=90)=false:=by simp;omega
   have E:=I (show capB b=false by simp [capB,h2]);clear h1 h2;go_enter Tryz.func197,Tryz.ntmps197
   go_wp2
   go_ret;exact⟨by rw[E.o];rfl,rfl⟩
 ·have O:decide (65<=(b.toNat:Int))=false:=by simp;omega
  have E:=I (show capB b=false by simp [capB,h1]);clear h1;go_enter Tryz.func197,Tryz.ntmps197
  go_wp2
  go_ret;exact⟨by rw[E.o];rfl,rfl⟩
theorem RU (b:UInt8) (w:World):Calls Tryz.prog 99 #[.int .u8 (b.toNat:Int)] w fun e w'=>e=.returned (.bool (DN b))/\w=w':=by
 have Z:=Fs b
 by_cases h1:97<=b.toNat
 ·have O:decide (97<=(b.toNat:Int))=true:=by simp;omega
  by_cases h2:b.toNat<=122
  ·have M:decide ((b.toNat:Int)<=122)=true:=by simp;omega
   have E:=I (show DN b=true by simp [DN,h1,h2]);clear h1 h2;go_enter Tryz.func99,Tryz.ntmps99
   go_wp2
   go_ret;exact⟨by rw[E.o];rfl,rfl⟩
  ·have M:decide ((b.toNat:Int)<=122)=false:=by simp;omega
   have E:=I (show DN b=false by simp [DN,h2]);clear h1 h2;go_enter Tryz.func99,Tryz.ntmps99
   go_wp2
   go_ret;exact⟨by rw[E.o];rfl,rfl⟩
 ·have O:decide (97<=(b.toNat:Int))=false:=by simp;omega
  have E:=I (show DN b=false by simp [DN,h1]);clear h1;go_enter Tryz.func99,Tryz.ntmps99
  go_wp2
  go_ret;exact⟨by rw[E.o];rfl,rfl⟩
theorem Md (b:UInt8) (w:World):Calls Tryz.prog 62 #[.int .u8 (b.toNat:Int)] w fun e w'=>e=.returned (.bool (Ct b))/\w=w':=by
 have hb:=Fs b;have c1:=RU b w
 by_cases M:DN b=true
 ·have E:=I (show Ct b=true by simp [Ct,M])
  rw[M] at c1;clear M;go_enter Tryz.func62,Tryz.ntmps62
  go_wp2_with (go_at_call 99;refine Aj c1 ?_;rintro w1 rfl)
  go_ret;exact⟨by rw[E.o];rfl,rfl⟩
 ·have M:DN b=false:=by simpa using M
  rw[M] at c1
  by_cases h1:48<=b.toNat
  ·have Z:decide (48<=(b.toNat:Int))=true:=by simp;omega
   by_cases h2:b.toNat<=57
   ·have O:decide ((b.toNat:Int)<=57)=true:=by simp;omega
    have E:=I (show Ct b=true by simp [Ct,h1,h2]);clear h1 h2 M;go_enter Tryz.func62,Tryz.ntmps62
    go_wp2_with (go_at_call 99;refine Aj c1 ?_;rintro w1 rfl)
    go_ret;exact⟨by rw[E.o];rfl,rfl⟩
   ·have O:decide ((b.toNat:Int)<=57)=false:=by simp;omega
    have E:=I (show Ct b=false by simp [Ct,h2,M]);clear h1 h2 M;go_enter Tryz.func62,Tryz.ntmps62
    go_wp2_with (go_at_call 99;refine Aj c1 ?_;rintro w1 rfl)
    go_ret;exact⟨by rw[E.o];rfl,rfl⟩
  ·have Z:decide (48<=(b.toNat:Int))=false:=by simp;omega
   have E:=I (show Ct b=false by simp [Ct,h1,M]);clear h1 M;go_enter Tryz.func62,Tryz.ntmps62
   go_wp2_with (go_at_call 99;refine Aj c1 ?_;rintro w1 rfl)
   go_ret;exact⟨by rw[E.o];rfl,rfl⟩
theorem KG {p:UInt8->Bool} {l:L} (h:∀i (h:i<l.length),p l[i]=true) (M:1<=l.length) (Z:l.length<=8):Cn p l=true:=by
 rw[Fy];refine⟨M,Z,?_⟩;rw[List.all_eq_true];intro x O;obtain⟨i,hi,rfl⟩:=List.getElem_of_mem O;exact h i hi
theorem GB {p:UInt8->Bool} {l:L} {i:Nat} (hi:i<l.length) (h:p l[i]=false):Cn p l=false:=by
 cases e:Cn p l with
 |false=>rfl
 |true=>
  have:=((Fy p l).1 e).2.2;rw[List.all_eq_true] at this;have:=this _ (List.getElem_mem hi);rw[h] at this;cases this
theorem Hq {p:UInt8->Bool} {l:L} (h:l.length<1):Cn p l=false:=by simp [Cn];omega
theorem Jd {p:UInt8->Bool} {l:L} (h:8<l.length):Cn p l=false:=by simp [Cn];omega
def Fit (p:UInt8->Bool) (l:L) (k:Nat):Prop:=∀i (h:i<l.length),i<k->p l[i]=true
theorem Qj (l:L) (w:World) (hs:l.length<=1000000000):Calls Tryz.prog 61 #[.string ⟨l.toArray⟩,.func (.func 197) #[] #[]] w fun e w'=>e=.returned (.bool (Cn capB l))/\w=w':=by
 by_cases h1:l.length<1
 ·have E:=I (Hq (p:=capB) h1)
  have g1:decide ((l.length:Int)<1)=true:=by simp;omega
  clear h1;go_enter Tryz.func61,Tryz.ntmps61
  go_wp2
  go_ret;exact⟨by rw[E.o];rfl,rfl⟩
 ·have g1:decide ((l.length:Int)<1)=false:=by simp;omega
  by_cases h2:8<l.length
  ·have E:=I (Jd (p:=capB) h2)
   have g2:decide (8<(l.length:Int))=true:=by simp;omega
   clear h1 h2;go_enter Tryz.func61,Tryz.ntmps61
   go_wp2
   go_ret;exact⟨by rw[E.o];rfl,rfl⟩
  ·have g2:decide (8<(l.length:Int))=false:=by simp;omega
   have HA:=I (fun h=>KG (p:=capB) (l:=l) h (by omega) (by omega));clear h1 h2;go_enter Tryz.func61,Tryz.ntmps61
   go_wp2
   go_loop [16] (fun Z=>∃k:Nat,k<=l.length/\Z=.int .i64 (k:Int)/\Fit capB l k) (fun Z=>l.length - (intOf Z).toNat)
   case atStart=>exact⟨0,Nat.zero_le _,rfl,fun i _ h=>by omega⟩
   case round=>
    obtain⟨k,hk,rfl,M⟩:=hrel
    by_cases hlt:k<l.length
    ·have e1:(k:Int)<(l.length:Int):=by omega
     have c1:=Nv l[k] w;have O:=I M;clear M
     by_cases hp:capB l[k]=true
     ·rw[hp] at c1
      have HP:=I hp;clear hp
      go_wp2_with (go_at_call 197;refine Aj c1 ?_;rintro w1 rfl)
      go_round
      case rel=>exact⟨k+1,by omega,by go_num,fun i hi av=>by
       by_cases q:i=k
       ·subst q;exact HP.o
       ·exact O.o i hi (by omega)⟩
      case measure=>simp [intOf];omega
     ·have hp:capB l[k]=false:=by simpa using hp
      rw[hp] at c1;have E:=I (GB hlt hp);clear hp
      go_wp2_with (go_at_call 197;refine Aj c1 ?_;rintro w1 rfl)
      go_ret;exact⟨by rw[E.o];rfl,rfl⟩
    ·have O:=I M;clear M
     have E:=I (HA.o (fun i hi=>O.o i hi (by omega)));have e1:¬(k:Int)<(l.length:Int):=by omega
     go_wp2
     go_ret;exact⟨by rw[E.o];rfl,rfl⟩
theorem RV (l:L) (w:World) (hs:l.length<=1000000000):Calls Tryz.prog 61 #[.string ⟨l.toArray⟩,.func (.func 62) #[] #[]] w fun e w'=>e=.returned (.bool (Cn Ct l))/\w=w':=by
 by_cases h1:l.length<1
 ·have E:=I (Hq (p:=Ct) h1)
  have g1:decide ((l.length:Int)<1)=true:=by simp;omega
  clear h1;go_enter Tryz.func61,Tryz.ntmps61
  go_wp2
  go_ret;exact⟨by rw[E.o];rfl,rfl⟩
 ·have g1:decide ((l.length:Int)<1)=false:=by simp;omega
  by_cases h2:8<l.length
  ·have E:=I (Jd (p:=Ct) h2)
   have g2:decide (8<(l.length:Int))=true:=by simp;omega
   clear h1 h2;go_enter Tryz.func61,Tryz.ntmps61
   go_wp2
   go_ret;exact⟨by rw[E.o];rfl,rfl⟩
  ·have g2:decide (8<(l.length:Int))=false:=by simp;omega
   have HA:=I (fun h=>KG (p:=Ct) (l:=l) h (by omega) (by omega));clear h1 h2;go_enter Tryz.func61,Tryz.ntmps61
   go_wp2
   go_loop [16] (fun Z=>∃k:Nat,k<=l.length/\Z=.int .i64 (k:Int)/\Fit Ct l k) (fun Z=>l.length - (intOf Z).toNat)
   case atStart=>exact⟨0,Nat.zero_le _,rfl,fun i _ h=>by omega⟩
   case round=>
    obtain⟨k,hk,rfl,M⟩:=hrel
    by_cases hlt:k<l.length
    ·have e1:(k:Int)<(l.length:Int):=by omega
     have c1:=Md l[k] w;have O:=I M;clear M
     by_cases hp:Ct l[k]=true
     ·rw[hp] at c1
      have HP:=I hp;clear hp
      go_wp2_with (go_at_call 62;refine Aj c1 ?_;rintro w1 rfl)
      go_round
      case rel=>exact⟨k+1,by omega,by go_num,fun i hi av=>by
       by_cases q:i=k
       ·subst q;exact HP.o
       ·exact O.o i hi (by omega)⟩
      case measure=>simp [intOf];omega
     ·have hp:Ct l[k]=false:=by simpa using hp
      rw[hp] at c1;have E:=I (GB hlt hp);clear hp
      go_wp2_with (go_at_call 62;refine Aj c1 ?_;rintro w1 rfl)
      go_ret;exact⟨by rw[E.o];rfl,rfl⟩
    ·have O:=I M;clear M
     have E:=I (HA.o (fun i hi=>O.o i hi (by omega)));have e1:¬(k:Int)<(l.length:Int):=by omega
     go_wp2
     go_ret;exact⟨by rw[E.o];rfl,rfl⟩
end Nm
namespace Nm
open Go.RowKit Af
theorem Dt (l:List UInt8) (k:Nat):(ByteArray.mk l.toArray).extract 0 k=ByteArray.mk (l.take k).toArray:=by
 rw[ByteArray.extract_mk];simp
attribute [local go_sem] Et List.getElem_cons_zero List.getElem_cons_succ Cg Ch DB Dt
theorem YU (b:UInt8):((b.toNat:Int)).toNat.toUInt8=b:=by simp
theorem VF {c:UInt8} {l:L} (h:c∉l):Lib.indexByte l c = -1:=by
 induction l with
 |nil=>rfl
 |cons x r ih=>
  simp only[List.mem_cons,not_or] at h;rw[Lib.indexByte,if_neg (by simpa using fun e:x=c=>h.1 e.symm),ih h.2];rfl
theorem YV {c:UInt8} {l:L} (h:c∈l):Lib.indexByte l c=((bef c l).length:Int):=by
 induction l with
 |nil=>simp at h
 |cons x r ih=>
  rw[Lib.indexByte,bef]
  by_cases e:x=c
  ·rw[if_pos (by simpa using e),if_pos e];rfl
  ·have hm:c∈r:=(List.mem_cons.1 h).resolve_left fun g=>e g.symm
   rw[if_neg (by simpa using e),if_neg e,ih hm,if_neg (by simp)];simp
theorem VG {c:UInt8} {l:L} (h:c∈l):l.take (bef c l).length=bef c l:=by
 have e:=LY h;have g:(bef c l++c :: aft c l).take (bef c l).length=bef c l:=by simp
 rwa [<-e] at g
theorem VH {c:UInt8} {l:L} (h:c∈l):l.drop ((bef c l).length+1)=aft c l:=by
 have e:=LY h;have g:(bef c l++c :: aft c l).drop ((bef c l).length+1)=aft c l:=by simp
 rwa [<-e] at g
theorem bQ {c:UInt8} {l:L} (h:c∈l):(bef c l).length<l.length:=by
 have:=congrArg List.length (LY h);simp at this;omega
theorem YW (l:L) (b:UInt8) (w:World):(callFunc 264 #[.string ⟨l.toArray⟩,.int .u8 (b.toNat:Int)]).run Tryz.prog w=.ok (.value (.int .i64 (Lib.indexByte l b))) w:=by
 rw[run_callFunc_extern Tryz.func264 (by kernel_rfl) (by kernel_rfl) (by kernel_rfl) (e:=Extern.BytealgIndexByte.indexByte) (by kernel_rfl),Lib.run_indexByteString];simp only[Result.andThen,YU]
theorem KH (l:L) (b:UInt8) (w:World):Calls Tryz.prog 250 #[.string ⟨l.toArray⟩,.int .u8 (b.toNat:Int)] w fun e w'=>e=.returned (.int .i64 (Lib.indexByte l b))/\w=w':=by
 have h:=fun w=>YW l b w
 go_enter Tryz.func250,Tryz.ntmps250
 go_wp2
 go_ret;exact⟨rfl,rfl⟩
theorem Nx (l:L):(ByteArray.mk l.toArray).size=l.length:=by simp [ByteArray.size]
theorem RW (l:L) (b:UInt8) (w:World):Calls Tryz.prog 225 #[.string ⟨l.toArray⟩,.string ⟨#[b]⟩] w fun e w'=>e=.returned (.int .i64 (Lib.indexByte l b))/\w=w':=by
 have c1:=KH l b w
 by_cases e:l = [b]
 ·subst e
  have E:=I (show Lib.indexByte [b] b=0 by simp [Lib.indexByte]);go_enter Tryz.func225,Tryz.ntmps225
  go_wp2_with fail
  go_ret;exact⟨by rw[E.o];rfl,rfl⟩
 ·have M:([b]==l)=false:=by simpa using fun g:[b]=l=>e g.symm
  clear e;go_enter Tryz.func225,Tryz.ntmps225
  go_wp2_with (go_at_call 250;refine Aj c1 ?_;rintro w1 rfl)
  go_ret;exact⟨rfl,rfl⟩
def AV (w w':World):Prop:=∃n,w'=w.drewN n
theorem AV.refl (w:World):AV w w:=⟨0,rfl⟩
theorem AV.below {w w':World} (h:AV w w'):Below w.heap.size w w':=by
 obtain⟨n,rfl⟩:=h;exact below_drewN Ah n
theorem Ny (l:L) (b:UInt8) (w:World) (hs:l.length<=1000000000):Calls Tryz.prog 179 #[.string ⟨l.toArray⟩,.string ⟨#[b]⟩] w fun e w'=>
  e=.returned (.tuple #[.string ⟨(bef b l).toArray⟩,.string ⟨(aft b l).toArray⟩,.bool (hasC b l)])/\AV w w':=by
 have c1:=RW l b w
 by_cases h:b∈l
 ·have Z:=I (show hasC b l=true from(Ex _ _).2 h)
  have M:=I (VG h);have O:=I (VH h);have hl:=bQ h;obtain⟨n,en⟩:=Ak ((bef b l).length);rw[YV h,<-en] at c1;rw[<-en] at M O hl;have EN:=I en;clear en h;go_enter Tryz.func179,Tryz.ntmps179
  go_wp2_with (go_at_call 225;refine Aj c1 ?_;rintro w1 rfl)
  go_quiet (fail)
  go_wp2
  go_ret3
  rename_i q _
  exact⟨by rw[Z.o,<-M.o,<-O.o];rfl,⟨_,rfl⟩⟩
 ·have Z:=I (show hasC b l=false from(FP _ _).2 h)
  have M:=I (Iy h);have O:=I (Pc h);rw[VF h] at c1;clear h;go_enter Tryz.func179,Tryz.ntmps179
  go_wp2_with (go_at_call 225;refine Aj c1 ?_;rintro w1 rfl)
  go_ret3
  exact⟨by rw[Z.o,M.o,O.o];rfl,AV.refl _⟩
theorem Nz (l:L) (b:UInt8) (w:World) (hs:l.length<=1000000000):Calls Tryz.prog 133 #[.string ⟨l.toArray⟩,.string ⟨#[b]⟩] w fun e w'=>
  e=.returned (.tuple #[.string ⟨(bef b l).toArray⟩,.string ⟨(aft b l).toArray⟩,.bool (hasC b l)])/\AV w w':=by
 have c1:=Ny l b w hs;go_enter Tryz.func133,Tryz.ntmps133
 go_wp2_with (go_at_call 179;refine Aj c1 ?_;rintro w1 M)
 go_ret3
 exact⟨rfl,M⟩
def preL (p l:L):Bool:=p.isPrefixOf l
theorem Pg (p l:L):(l.take p.length==p)=preL p l:=by
 rw[preL,Bool.eq_iff_iff];simp only[beq_iff_eq,List.isPrefixOf_iff_prefix];rw[List.prefix_iff_eq_take];exact eq_comm
theorem RX {p l:L} (h:preL p l=true):p.length<=l.length:=(List.isPrefixOf_iff_prefix.1 h).length_le
theorem YX {p l:L}:preL p l=true↔l=p++l.drop p.length:=by
 constructor
 ·intro h
  obtain⟨t,e⟩:=List.isPrefixOf_iff_prefix.1 h;rw[<-e];simp
 ·intro h
  rw[preL,List.isPrefixOf_iff_prefix];exact⟨_,h.symm⟩
theorem Ez (l p:L) (w:World) (hs:l.length<=1000000000) (hp:p.length<=1000000000):Calls Tryz.prog 198 #[.string ⟨l.toArray⟩,.string ⟨p.toArray⟩] w fun e w'=>
  e=.returned (.bool (preL p l))/\w=w':=by
 by_cases h:p.length<=l.length
 ·have M:(p.length:Int)<=(l.length:Int):=by omega
  have E:=I (Pg p l);clear h;go_enter Tryz.func198,Tryz.ntmps198
  go_wp2
  go_ret;exact⟨by rw[<-E.o];rfl,rfl⟩
 ·have E:=I (show preL p l=false by
   cases q:preL p l with
   |false=>rfl
   |true=>exact absurd (RX q) h)
  have M:¬(p.length:Int)<=(l.length:Int):=by omega
  clear h;go_enter Tryz.func198,Tryz.ntmps198
  go_wp2
  go_ret;exact⟨by rw[E.o];rfl,rfl⟩
def cpL (p l:L):L:=if preL p l then l.drop p.length else l
theorem Hr (l p:L) (w:World) (hs:l.length<=1000000000) (hp:p.length<=1000000000):Calls Tryz.prog 147 #[.string ⟨l.toArray⟩,.string ⟨p.toArray⟩] w fun e w'=>
  e=.returned (.tuple #[.string ⟨(cpL p l).toArray⟩,.bool (preL p l)])/\w=w':=by
 have c1:=Ez l p w hs hp
 by_cases h:preL p l=true
 ·have O:(p.length:Int)<=(l.length:Int):=by have:=RX h;omega
  have E:=I (show cpL p l=l.drop p.length by rw[cpL,if_pos h]);have M:=I h;rw[h] at c1;clear h;go_enter Tryz.func147,Tryz.ntmps147
  go_wp2_with (go_at_call 198;refine Aj c1 ?_;rintro w1 rfl)
  go_ret2
  exact⟨by rw[E.o,M.o];rfl,rfl⟩
 ·have h:preL p l=false:=by simpa using h
  have E:=I (show cpL p l=l by rw[cpL,if_neg (by simp [h])]);have M:=I h;rw[h] at c1;clear h;go_enter Tryz.func147,Tryz.ntmps147
  go_wp2_with (go_at_call 198;refine Aj c1 ?_;rintro w1 rfl)
  go_ret2
  exact⟨by rw[E.o,M.o];rfl,rfl⟩
theorem GC (l p:L) (w:World) (hs:l.length<=1000000000) (hp:p.length<=1000000000):Calls Tryz.prog 98 #[.string ⟨l.toArray⟩,.string ⟨p.toArray⟩] w fun e w'=>
  e=.returned (.tuple #[.string ⟨(cpL p l).toArray⟩,.bool (preL p l)])/\w=w':=by
 have c1:=Hr l p w hs hp;go_enter Tryz.func98,Tryz.ntmps98
 go_wp2_with (go_at_call 147;refine Aj c1 ?_;rintro w1 rfl)
 go_ret2
 exact⟨rfl,rfl⟩
theorem Me (u v:L) (b:UInt8) (hv:b∉v) (w:World) (hs:(u++b :: v).length<=1000000000):Calls Tryz.prog 254 #[.string ⟨(u++b :: v).toArray⟩,.int .u8 (b.toNat:Int)] w fun e w'=>
  e=.returned (.int .i64 (u.length:Int))/\w=w':=by
 obtain⟨l,el⟩:=Ak (u++b :: v);have M:∀k (h:k<l.length),u.length<=k->(((l[k]).toNat:Int)==(b.toNat:Int))=decide (k=u.length):=by
  intro k h hk
  by_cases e:k=u.length
  ·subst e
   have:l[u.length]=b:=by subst el;simp
   rw[this];simp
  ·have hm:l[k]∈v:=by
    subst el;rw[List.getElem_append_right (by omega)];obtain⟨j,ej⟩:∃j,k - u.length=j+1:=⟨k - u.length - 1,by omega⟩;simp only[ej,List.getElem_cons_succ];exact List.getElem_mem _
   rw[decide_eq_false e];have:l[k]≠b:=fun q=>hv (q▸hm)
   simp only[beq_eq_false_iff_ne,ne_eq];intro q;exact this (UInt8.toNat_inj.1 (by omega))
 have hlen:u.length<l.length:=by subst el;simp
 rw[<-el] at hs⊢;clear el hv;obtain⟨n,en⟩:=Ak (u.length);rw[<-en] at M hlen⊢;clear en;have O:=I M;clear M;go_enter Tryz.func254,Tryz.ntmps254
 go_wp2
 go_loop [5] (fun iv=>∃k:Nat,k<l.length/\n<=k/\iv=.int .i64 (k:Int)) (fun iv=>(intOf iv).toNat)
 case atStart=>exact⟨l.length - 1,by omega,by omega,by congr 1;omega⟩
 case round=>
  obtain⟨k,hk,hn,rfl⟩:=hrel;have e0:(0:Int)<=(k:Int):=by omega
  have t:=O.o k hk hn
  by_cases e:k=n
  ·rw[decide_eq_true e] at t
   subst e
   go_wp2
   go_ret;exact⟨rfl,rfl⟩
  ·rw[decide_eq_false e] at t
   have Z:=I e;clear e
   go_wp2
   go_round
   case rel=>exact⟨k - 1,by omega,by have:=Z.o;omega,by congr 1;have:=Z.o;omega⟩
   case measure=>have:=Z.o;simp [intOf];omega
theorem NA (u v:L) (b:UInt8) (M:b∉v) (w:World) (hs:(u++b :: v).length<=1000000000):Calls Tryz.prog 228 #[.string ⟨(u++b :: v).toArray⟩,.string ⟨#[b]⟩] w fun e w'=>
  e=.returned (.int .i64 (u.length:Int))/\w=w':=by
 have c1:=Me u v b M w hs;obtain⟨l,el⟩:=Ak (u++b :: v);obtain⟨n,en⟩:=Ak (u.length);rw[<-el] at c1 hs⊢;rw[<-en] at c1⊢;clear el en M;go_enter Tryz.func228,Tryz.ntmps228
 go_wp2_with (go_at_call 254;refine Aj c1 ?_;rintro w1 rfl)
 go_ret;exact⟨rfl,rfl⟩
theorem Mf:(Tryz.prog.info? 5).map (fun i=>(i.zero,i.size,i.bytes))=some (some (.int .u8 0),1,1):=by kernel_rfl
theorem VI (n:Nat) (hn:n<=1000000000) (w:World):(Instr.makeSlice 22 (.int .i64 (n:Int)) (.int .i64 (n:Int))).run Tryz.prog w=.ok (.slice (some ⟨w.heap.size,0,none⟩) n n) (w.alloc (.cells (Dg n) 5)):=by
 obtain⟨M,hi,Z,hs,O⟩:=info_parts Mf;have h:=run_make (P:=Tryz.prog) w 22 5 M _ Tryz.underlying22 hi Z .i64 .i64 (n:Int) (n:Int) (by omega) (by omega) (by rw[O];omega) (by omega);have e:madeCells (Value.int .u8 0).cells (((n:Int)).toNat*M.size)=Dg n:=by
  rw[hs,Nat.mul_one,Int.toNat_natCast];refine Array.toList_inj.1 ?_;show(madeCells #[Value.int .u8 0] n).toList=_;rw[toList_madeCells_one];simp [Dg,bv]
 rw[e] at h
 simpa using h
theorem GD (s:L) (w:World):(Builtin.copy_ #[22,9] 3 #[.slice (some ⟨w.heap.size,0,none⟩) s.length s.length,.string ⟨s.toArray⟩]).run Tryz.prog (w.alloc (.cells (Dg s.length) 5))=.ok (goInt s.length) (w.alloc (.cells (bvs s).toArray 5)):=by
 obtain⟨M,hi,_,hs,_⟩:=info_parts Mf;have hk:=Blk.new w 5 (Dg s.length);have h:=Lib.run_copy_row_string (P:=Tryz.prog) _ 22 9 3 5 w.heap.size 0 s.length s.length ⟨s.toArray⟩ _ 5 Tryz.underlying22 (by rw[hi];simp [hs]) hk (by rw[Nx];exact Nat.le_refl _) (by rw[Nx,Ej];omega);rw[Nx,World.setRow_alloc_new] at h;have e:(Dg s.length).toList.take 0++Lib.byteCells s++(Dg s.length).toList.drop (0+s.length)=bvs s:=by
  rw[List.drop_of_length_le (by rw[Array.length_toList,Ej];omega)];simp [Lib.byteCells,bvs,bv]
 rw[e] at h;exact h
theorem KJ (s:L) (M:s≠[]) (hs:s.length<=1000000000) (w:World):(Builtin.unsafeString_ #[252,3] 9 #[.pointer (some ⟨w.heap.size,0,none⟩),.int .i64 (s.length:Int)]).run Tryz.prog (w.alloc (.cells (bvs s).toArray 5))=.ok (.string ⟨s.toArray⟩) ((w.alloc (.cells (bvs s).toArray 5)).freeze ⟨w.heap.size,0,none⟩ s.length):=by
 obtain⟨i0,hi,_,hz,_⟩:=info_parts Mf;have hk:=Blk.new w 5 (bvs s).toArray;refine Lib.run_unsafeString_row (P:=Tryz.prog) _ _ _ _ 5 Tryz.underlying252 (by simp [Program.cellsOf,hi,hz]) w.heap.size s.length ?_ s M Ag (by omega) fun j x Z=>?_
 ·unfold World.shape?
  rw[show(w.alloc (.cells (bvs s).toArray 5)).heap[w.heap.size]? = _ from hk];simp [AG]
 ·obtain⟨O,e⟩:=List.getElem?_eq_some_iff.1 Z
  rw[addr_add,Nat.zero_add,hk.cell,List.getElem?_toArray,Fw O,e];rfl
theorem KK (s:L) (w:World) (M:s.length<=1000000000):Calls Tryz.prog 100 #[.string ⟨s.toArray⟩] w fun e w'=>e=.returned (.string ⟨s.toArray⟩)/\Below w.heap.size w w':=by
 by_cases h0:s = []
 ·subst h0
  go_enter Tryz.func100,Tryz.ntmps100
  go_wp2
  go_ret;exact⟨rfl,Below.refl _ _⟩
 ·have av:=VI s.length M w
  have O:=GD s w;have Z:=KJ s h0 M w;have hl:1<=s.length:=by
   cases s with
   |nil=>exact absurd rfl h0
   |cons a r=>simp
  have t0:((s.length:Int)==0)=false:=by simp;omega
  have HB:=I (Lib.below_freeze ((Below.refl w.heap.size w).alloc Ag (.cells (bvs s).toArray 5)) (p:=⟨w.heap.size,0,none⟩) Ag s.length);clear h0;go_enter Tryz.func100,Tryz.ntmps100
  go_wp2
  go_ret;exact⟨rfl,HB.o⟩
theorem BZ (s:L) (w:World) (M:s.length<=1000000000):Calls Tryz.prog 63 #[.string ⟨s.toArray⟩] w fun e w'=>e=.returned (.string ⟨s.toArray⟩)/\Below w.heap.size w w':=by
 have c1:=KK s w M;go_enter Tryz.func63,Tryz.ntmps63
 go_wp2_with (go_at_call 100;refine Aj c1 ?_;rintro w' O)
 go_ret;exact⟨rfl,O⟩
end Nm
namespace Nm
open Go.RowKit Af
attribute [local go_sem] Et List.getElem_cons_zero List.getElem_cons_succ Cg Ch DB Dt
theorem AV.trans {a b c:World} (h:AV a b) (k:AV b c):AV a c:=by
 obtain⟨n,rfl⟩:=h;obtain⟨m,rfl⟩:=k;exact⟨n+m,by simp [World.drewN_drewN]⟩
theorem GF (l:L) (b:UInt8) (w:World) (hs:l.length<=1000000000):Calls Tryz.prog 146 #[.string ⟨l.toArray⟩,.string ⟨#[b]⟩] w fun e w'=>e=.returned (.bool (areL b 4 l))/\AV w w':=by
 have HS:=I hs;clear hs;go_enter Tryz.func146,Tryz.ntmps146
 go_wp2
 go_loopw [0,8] (fun sv iv wr=>∃(k:Nat) (s:L),k<=4/\sv=.string ⟨s.toArray⟩/\iv=.int .i64 (k:Int)/\areL b (4 - k) s=areL b 4 l/\s.length<=l.length/\AV w wr) (fun _ iv _=>4 - (intOf iv).toNat)
 case atStart=>exact⟨0,l,by omega,rfl,rfl,rfl,Nat.le_refl _,AV.refl _⟩
 case round=>
  obtain⟨k,s,hk,rfl,rfl,M,hl,O⟩:=hrel;have HL:=I hl;clear hl;have HD:=I O;clear O
  by_cases hlt:k<4
  ·have e1:(k:Int)<4:=by omega
   have av:s.length<=1000000000:=Nat.le_trans HL.o HS.o;have c1:=Nz s b wr av;have c2:=fun w1=>Qj (bef b s) w1 (by have:=RI b s;omega)
   have C2:=I c2;clear c2;have ea:areL b (4 - k) s=(Cn capB (bef b s)&&(if hasC b s then areL b (4 - (k+1)) (aft b s) else true)):=by
    rw[show 4 - k=(4 - (k+1))+1 by omega];rfl
   rw[ea] at M;have aw:(aft b s).length<=l.length:=by have:=Nq b s;have:=HL.o;omega
   have bb:=I aw;clear aw ea av;cases hw:Cn capB (bef b s) with
   |false=>
    rw[hw,Bool.false_and] at M;have Z:=I M;clear M;have HW:=I hw;clear hw
    go_wp2_with (first
     |(go_at_call 133;refine Aj c1 ?_;rintro w1 O;clear c1;have c2:=C2.o w1;rw[HW.o] at c2;have H1:=I O;clear O)
     |(go_at_call 61;refine Aj c2 ?_;rintro w2 rfl;clear c2))
    go_ret;exact⟨by rw[<-Z.o];rfl,HD.o.trans H1.o⟩
   |true=>
    rw[hw,Bool.true_and] at M;have HW:=I hw;clear hw;cases hc:hasC b s with
    |false=>
     rw[hc,if_neg (by simp)] at M;rw[hc] at c1;have Z:=I M;clear M;have HC:=I hc;clear hc
     go_wp2_with (first
      |(go_at_call 133;refine Aj c1 ?_;rintro w1 O;clear c1;have c2:=C2.o w1;rw[HW.o] at c2;have H1:=I O;clear O)
      |(go_at_call 61;refine Aj c2 ?_;rintro w2 rfl;clear c2))
     go_ret;exact⟨by rw[<-Z.o];rfl,HD.o.trans H1.o⟩
    |true=>
     rw[hc,if_pos rfl] at M;rw[hc] at c1;have Z:=I M;clear M;have HC:=I hc;clear hc
     go_wp2_with (first
      |(go_at_call 133;refine Aj c1 ?_;rintro w1 O;clear c1;have c2:=C2.o w1;rw[HW.o] at c2;have H1:=I O;clear O)
      |(go_at_call 61;refine Aj c2 ?_;rintro w2 rfl;clear c2))
     go_roundw
     case rel=>exact⟨k+1,aft b s,by omega,rfl,by go_num,Z.o,bb.o,HD.o.trans H1.o⟩
     case measure=>simp [intOf];omega
  ·have e1:¬(k:Int)<4:=by omega
   obtain rfl:k=4:=by omega
   have Z:=I (show areL b 4 l=false by rw[<-M];rfl);clear M
   go_wp2
   go_ret;exact⟨by rw[Z.o];rfl,HD.o⟩
theorem bR (l:L):slL l=(preL [47] l&&Co (split 47 (cpL [47] l))):=by
 cases l with
 |nil=>rfl
 |cons x r=>
  rw[slL,cpL]
  by_cases h:x=47
  ·subst h
   have e:preL [47] (47 :: r)=true:=by simp [preL]
   rw[e];simp
  ·have e:preL [47] (x :: r)=false:=by
    cases q:preL [47] (x :: r) with
    |false=>rfl
    |true=>have:=congrArg List.head? (YX.1 q);simp at this;exact absurd this h
   rw[e];simp [h]
theorem Yd (p l:L):(cpL p l).length<=l.length:=by rw[cpL];split<;>simp
theorem KL (l:L) (w:World) (hs:l.length<=1000000000):Calls Tryz.prog 97 #[.string ⟨l.toArray⟩] w fun e w'=>e=.returned (.int .i64 (AU l:Int))/\AV w w':=by
 have c1:=GF l 46 w hs;rw[LZ] at c1;have C2:=I (fun w1=>GC l [47] w1 hs (by decide));have c3:=fun w1=>GF (cpL [47] l) 47 w1 (by have:=Yd [47] l;omega)
 rw[LZ] at c3;have C3:=I c3;clear c3 hs;have O:=Qi l;rw[bR] at O;cases h1:Co (split 46 l) with
 |true=>
  rw[h1] at c1;have E:=I (show AU l=1 by rw[O,h1];rfl);clear O h1;go_enter Tryz.func97,Tryz.ntmps97
  go_wp2_with (go_at_call 146;refine Aj c1 ?_;rintro w1 M;clear c1;have H1:=I M;clear M)
  go_ret;exact⟨by rw[E.o];rfl,H1.o⟩
 |false=>
  rw[h1] at c1;rw[h1,if_neg (by simp)] at O;cases h2:preL [47] l with
  |false=>
   have E:=I (show AU l=0 by rw[O,h2];rfl);have Z:=I h2;clear O h1 h2;go_enter Tryz.func97,Tryz.ntmps97
   go_wp2_with (first
    |(go_at_call 146;refine Aj c1 ?_;rintro w1 M;clear c1;have H1:=I M;clear M;have c2:=C2.o w1;rw[Z.o] at c2)
    |(go_at_call 98;refine Aj c2 ?_;rintro w2 rfl;clear c2))
   go_ret;exact⟨by rw[E.o];rfl,H1.o⟩
  |true=>
   rw[h2,Bool.true_and] at O;have Z:=I h2;cases h3:Co (split 47 (cpL [47] l)) with
   |false=>
    have E:=I (show AU l=0 by rw[O,h3];rfl);have H3:=I h3;clear O h1 h2 h3;go_enter Tryz.func97,Tryz.ntmps97
    go_wp2_with (first
     |(go_at_call 146;refine Aj c1 ?_;rintro w1 M;clear c1;have H1:=I M;clear M;have c2:=C2.o w1;rw[Z.o] at c2)
     |(go_at_call 98;refine Aj c2 ?_;rintro w2 rfl;clear c2;have c4:=C3.o w1;rw[H3.o] at c4)
     |(go_at_call 146;refine Aj c4 ?_;rintro w3 M;clear c4;have H4:=I M;clear M))
    go_ret;exact⟨by rw[E.o];rfl,H1.o.trans H4.o⟩
   |true=>
    have E:=I (show AU l=2 by rw[O,h3];rfl);have H3:=I h3;clear O h1 h2 h3;go_enter Tryz.func97,Tryz.ntmps97
    go_wp2_with (first
     |(go_at_call 146;refine Aj c1 ?_;rintro w1 M;clear c1;have H1:=I M;clear M;have c2:=C2.o w1;rw[Z.o] at c2)
     |(go_at_call 98;refine Aj c2 ?_;rintro w2 rfl;clear c2;have c4:=C3.o w1;rw[H3.o] at c4)
     |(go_at_call 146;refine Aj c4 ?_;rintro w3 M;clear c4;have H4:=I M;clear M))
    go_ret;exact⟨by rw[E.o];rfl,H1.o.trans H4.o⟩
theorem Fq (l:L) (w:World) (hs:l.length<=1000000000):Calls Tryz.prog 59 #[.string ⟨l.toArray⟩] w fun e w'=>e=.returned (.bool (isL l))/\AV w w':=by
 have c1:=KL l w hs
 by_cases h:1<=AU l
 ·have E:=I (show isL l=true by simp [isL,h])
  have t:((AU l:Int) != 0)=true:=by simp;omega
  clear h;go_enter Tryz.func59,Tryz.ntmps59
  go_wp2_with (go_at_call 97;refine Aj c1 ?_;rintro w1 M;clear c1;have H1:=I M;clear M)
  go_ret;exact⟨by rw[E.o];rfl,H1.o⟩
 ·have E:=I (show isL l=false by simp [isL];omega)
  have O:AU l=0:=by omega
  rw[O] at c1;clear h O;go_enter Tryz.func59,Tryz.ntmps59
  go_wp2_with (go_at_call 97;refine Aj c1 ?_;rintro w1 M;clear c1;have H1:=I M;clear M)
  go_ret;exact⟨by rw[E.o];rfl,H1.o⟩
end Nm
namespace Nm
open Go.RowKit Af
attribute [local go_sem] Et List.getElem_cons_zero List.getElem_cons_succ Cg Ch DB Dt
theorem Ye (l:L):(upL l).length<=l.length:=by
 by_cases h:l = []
 ·subst h;rw[bL];exact Nat.le_refl _
 ·exact Nat.le_of_lt (bM h)
theorem Ph (l:L) (w:World) (hs:l.length<=1000000000):Calls Tryz.prog 184 #[.string ⟨l.toArray⟩] w fun e w'=>e=.returned (.string ⟨(upL l).toArray⟩)/\Below w.heap.size w w':=by
 have c1:=KL l w hs
 by_cases h1:AU l=1
 ·rw[h1] at c1
  have c2:=fun w1=>Nz l 46 w1 hs
  have O:upL l=aft 46 l:=by rw[upL,if_pos h1]
  rw[<-O] at c2;have C2:=I c2;clear c2;have C3:=I (fun w1=>BZ (upL l) w1 (Nat.le_trans (Ye l) hs));clear h1 O hs;go_enter Tryz.func184,Tryz.ntmps184
  go_wp2_with (first
   |(go_at_call 97;refine Aj c1 ?_;rintro w1 M;clear c1;have H1:=I M.below;clear M;have c2:=C2.o w1)
   |(go_at_call 133;refine Aj c2 ?_;rintro w2 M;clear c2;have H2:=I (H1.o.trans (M.below.mono H1.o.size));clear M;have c3:=C3.o w2)
   |(go_at_call 63;refine Aj c3 ?_;rintro w3 Z;clear c3;have H3:=H2.t Z;clear Z))
  go_ret;exact⟨rfl,H3.o⟩
 ·by_cases h2:AU l=2
  ·obtain⟨u,v,e,hv,O⟩:=RJ h2
   rw[h2] at c1;have c2:=fun w1=>NA u v 47 hv w1 (by rw[<-e];exact hs)
   rw[<-e] at c2;obtain⟨n,en⟩:=Ak (u.length);have et:l.take n=upL l:=by rw[O,en,e];simp
   have ht:(n:Int)<=(l.length:Int):=by rw[e,en];simp;omega
   rw[<-en] at c2;have C2:=I c2;clear c2;have C3:=I (fun w1=>BZ (l.take n) w1 (Nat.le_trans (by simp;omega) hs));have E:=I et;clear en et O e hv h1 h2 hs;go_enter Tryz.func184,Tryz.ntmps184
   go_wp2_with (first
    |(go_at_call 97;refine Aj c1 ?_;rintro w1 M;clear c1;have H1:=I M.below;clear M;have c2:=C2.o w1)
    |(go_at_call 228;refine Aj c2 ?_;rintro w2 rfl;clear c2;have c3:=C3.o w1)
    |(go_at_call 63;refine Aj c3 ?_;rintro w3 Z;clear c3;have H3:=H1.t Z;clear Z))
   go_ret;exact⟨by rw[<-E.o];rfl,H3.o⟩
  ·have hk:=Ja l
   have e0:AU l=0:=by omega
   have E:=I (Jb e0);rw[e0] at c1;clear e0 hk h1 h2 hs;go_enter Tryz.func184,Tryz.ntmps184
   go_wp2_with (go_at_call 97;refine Aj c1 ?_;rintro w1 M;clear c1;have H1:=I M.below;clear M)
   go_ret;exact⟨by rw[E.o];rfl,H1.o⟩
theorem RY (a b:L) (w:World) (hs:a.length<=1000000000):Calls Tryz.prog 183 #[.string ⟨a.toArray⟩,.string ⟨b.toArray⟩] w fun e w'=>e=.returned (.bool (Gz a b))/\Below w.heap.size w w':=by
 have c1:=Ph a w hs;have c2:=fun(i:Nat) w1=>Ph (pl (ch (upL a)) i) w1 (by
  rcases Nat.lt_or_ge i (ch (upL a)).length with g | g
  ·have h1:=RM (DQ g);have:=Ye a;omega
  ·rw[KD g];simp)
 obtain⟨A,eA⟩:=Ak (ch (upL a));have h0:upL a=pl A 0:=by
  rw[eA]
  by_cases h:upL a = []
  ·rw[h,Eb];rfl
  ·exact(Ey h).symm
 have O:∀i,i<A.length->upL (pl A i)=pl A (i+1):=by rw[eA];exact fun i h=>VB _ h
 have Z:∀i,i<A.length->pl A i≠[]:=by rw[eA];exact fun i h=>RK _ h
 have hu:Gz a b=decide (b∈A):=by rw[eA];rfl
 rw[<-eA] at c2;rw[h0] at c1;clear eA hs;have C2:=I c2;clear c2;have av:=I O;clear O;have aw:=I Z;clear Z;have HU:=I hu;clear hu h0;have bb:=I (Below.refl w.heap.size w);go_enter Tryz.func183,Tryz.ntmps183
 go_wp2_with (go_at_call 184;refine Aj c1 ?_;rintro w1 M;clear c1;have H1:=I M;clear M)
 go_loopg [5] A.length (fun g sv wr=>∃i:Nat,i+g=A.length/\sv=.string ⟨(pl A i).toArray⟩/\(∀k,k<i->pl A k≠b)/\Below w.heap.size w wr)
 case atStart=>exact⟨0,Nat.zero_add _,rfl,fun k h=>absurd h (Nat.not_lt_zero k),H1.o⟩
 case round=>
  obtain⟨i,hi,rfl,hn,M⟩:=hrel;have HN:=I hn;clear hn;have HB:=I M;clear M
  by_cases hlt:i<A.length
  ·have t1:(pl A i == [])=false:=by simpa using aw.o i hlt
   have c3:=C2.o i wr;rw[av.o i hlt] at c3
   by_cases hx:pl A i=b
   ·have t2:(pl A i==b)=true:=by simpa using hx
    have E:=I (show Gz a b=true by rw[HU.o,<-hx];simpa using DQ hlt);clear hx c3;have HI:=I hi;clear hi
    go_wp2_with fail
    go_ret;exact⟨by rw[E.o];rfl,HB.o⟩
   ·have t2:(pl A i==b)=false:=by simpa using hx
    have HX:=I hx;clear hx;have HI:=I hi;clear hi
    go_wp2_with (go_at_call 184;refine Aj c3 ?_;rintro w3 M;clear c3;have H3:=HB.t M;clear M)
    go_roundg (A.length - (i+1))
    case measure=>have:=HI.o;omega
    case rel=>exact⟨i+1,by have:=HI.o;omega,rfl,fun k hk=>by
     by_cases q:k=i
     ·rw[q];exact HX.o
     ·exact HN.o k (by omega),H3.o⟩
  ·have E:=I (show Gz a b=false by
    rw[HU.o,decide_eq_false_iff_not];intro hm;obtain⟨k,hk,e⟩:=mem_pl hm;exact HN.o k (by omega) e)
   have t1:pl A i = []:=KD (by omega);rw[t1];clear t1 hi hlt
   go_wp2_with fail
   go_ret;exact⟨by rw[E.o];rfl,HB.o⟩
end Nm
namespace Nm
open Go.RowKit Af
theorem Mh (a b:L):ByteArray.mk a.toArray++ByteArray.mk b.toArray=ByteArray.mk (a++b).toArray:=by
 apply ByteArray.ext;simp
attribute [local go_sem] Et List.getElem_cons_zero List.getElem_cons_succ Cg Ch DB Dt
def krb:L:=[107,114,98,116,103,116,47]
def tgL (n:L):Bool:=preL krb n&&isL (cpL krb n)
def tgR (n:L):L:=if tgL n then n.drop 7 else []
def Cu (r n:L):Bool:=isL r&&(tgL n||Cn Ct n)
theorem Qk (n:L) (w:World) (hs:n.length<=1000000000):Calls Tryz.prog 60 #[.string ⟨n.toArray⟩] w fun e w'=>e=.returned (.tuple #[.string ⟨(tgR n).toArray⟩,.bool (tgL n)])/\Below w.heap.size w w':=by
 have c1:=GC n krb w hs (by decide);have O:=Yd krb n;have c2:=Fq (cpL krb n) w (by omega);have C3:=I (fun w1=>BZ (cpL krb n) w1 (by omega));have av:=I (Below.refl w.heap.size w);cases h1:preL krb n with
 |false=>
  have M:=I (show tgL n=false by rw[tgL,h1];rfl);have E2:=I (show tgR n = [] by rw[tgR,M.o];rfl);rw[h1] at c1;clear h1 hs O c2;go_enter Tryz.func60,Tryz.ntmps60
  go_wp2_with (go_at_call 98;refine Aj c1 ?_;rintro w1 rfl;clear c1)
  go_ret2
  exact⟨by rw[M.o,E2.o];rfl,av.o⟩
 |true=>
  cases h2:isL (cpL krb n) with
  |false=>
   have M:=I (show tgL n=false by rw[tgL,h1,h2];rfl);have E2:=I (show tgR n = [] by rw[tgR,M.o];rfl);rw[h1] at c1;rw[h2] at c2;clear h1 h2 hs O;go_enter Tryz.func60,Tryz.ntmps60
   go_wp2_with (first
    |(go_at_call 98;refine Aj c1 ?_;rintro w1 rfl;clear c1)
    |(go_at_call 59;refine Aj c2 ?_;rintro w2 Z;clear c2;have H2:=I Z.below;clear Z))
   go_ret2
   exact⟨by rw[M.o,E2.o];rfl,H2.o⟩
  |true=>
   have M:=I (show tgL n=true by rw[tgL,h1,h2];rfl);have E2:=I (show tgR n=cpL krb n by rw[tgR,M.o,cpL,h1];rfl);rw[h1] at c1;rw[h2] at c2;clear h1 h2 hs O;go_enter Tryz.func60,Tryz.ntmps60
   go_wp2_with (first
    |(go_at_call 98;refine Aj c1 ?_;rintro w1 rfl;clear c1)
    |(go_at_call 59;refine Aj c2 ?_;rintro w2 Z;clear c2;have H2:=I Z.below;clear Z;have c3:=C3.o w2)
    |(go_at_call 63;refine Aj c3 ?_;rintro w3 hb;clear c3;have H3:=H2.t hb;clear hb))
   go_ret2
   exact⟨by rw[M.o,E2.o];rfl,H3.o⟩
theorem AW (r n:L) (w:World) (hs:r.length<=1000000000) (bx:n.length<=1000000000):Calls Tryz.prog 25 #[.agg #[.string ⟨r.toArray⟩,.string ⟨n.toArray⟩]] w fun e w'=>e=.returned (.bool (Cu r n))/\Below w.heap.size w w':=by
 have c1:=Fq r (w.alloc (.cells #[.string ⟨r.toArray⟩,.string ⟨n.toArray⟩] 30)) hs;have hk:=Blk.new w 30 #[.string ⟨r.toArray⟩,.string ⟨n.toArray⟩];have aw:=(Below.refl w.heap.size w).alloc Ag (.cells #[.string ⟨r.toArray⟩,.string ⟨n.toArray⟩] 30);have bn:w.heap.size<(w.alloc (.cells #[.string ⟨r.toArray⟩,.string ⟨n.toArray⟩] 30)).heap.size:=by simp
 obtain⟨N,eN⟩:=Ak (w.heap.size);have C2:=I (fun w1=>Qk n w1 bx);have C3:=I (fun w1=>RV n w1 bx);have E1:=I (show Cu r n=(isL r&&(tgL n||Cn Ct n)) from rfl);rw[<-eN] at hk aw bn⊢;have EN:=I eN;clear eN;have HK:=I hk;clear hk;have bs:=I aw;clear aw;have Z:=I bn;clear bn hs bx;cases h1:isL r with
 |false=>
  rw[h1] at c1;have E:=I (show Cu r n=false by rw[E1.o,h1];rfl);clear h1;go_enter Tryz.func25,Tryz.ntmps25
  go_wp2_with (go_at_call 59;refine Aj c1 ?_;rintro w1 M;clear c1;have H1:=I (bs.o.trans (M.below.mono (Nat.le_of_lt Z.o)));clear M)
  go_ret;exact⟨by rw[E.o];rfl,H1.o⟩
 |true=>
  rw[h1] at c1;have ca:=I (fun w1=>C2.o w1);cases h2:tgL n with
  |true=>
   have E:=I (show Cu r n=true by rw[E1.o,h1,h2];rfl);have HT:=I h2;clear h1 h2;go_enter Tryz.func25,Tryz.ntmps25
   go_wp2_with (first
    |(go_at_call 59;refine Aj c1 ?_;rintro w1 M;clear c1;have H1:=I (bs.o.trans (M.below.mono (Nat.le_of_lt Z.o)));have av:=(HK.o.below M.below).cell 1;have O:N<w1.heap.size:=(by have:=M.below.size;have:=Z.o;omega);have bb:=I O;rw[EN.o] at av;clear M O;have c2:=C2.o w1;rw[HT.o] at c2)
    |(go_at_call 60;refine Aj c2 ?_;rintro w2 hb;clear c2;have H2:=I (H1.o.trans (hb.mono (Nat.le_of_lt bb.o)));clear hb))
   go_ret;exact⟨by rw[E.o];rfl,H2.o⟩
  |false=>
   have E:=I (show Cu r n=Cn Ct n by rw[E1.o,h1,h2];rfl);have HT:=I h2;clear h1 h2;go_enter Tryz.func25,Tryz.ntmps25
   go_wp2_with (first
    |(go_at_call 59;refine Aj c1 ?_;rintro w1 M;clear c1;have H1:=I (bs.o.trans (M.below.mono (Nat.le_of_lt Z.o)));have bq:=HK.o.below M.below;have bB:=I bq;have av:=bq.cell 1;have O:N<w1.heap.size:=(by have:=M.below.size;have:=Z.o;omega);have bb:=I O;rw[EN.o] at av;clear M O bq;have c2:=C2.o w1;rw[HT.o] at c2)
    |(go_at_call 60;refine Aj c2 ?_;rintro w2 hb;clear c2 av;have H2:=I (H1.o.trans (hb.mono (Nat.le_of_lt bb.o)));have bz:=(bB.o.below hb).cell 1;rw[EN.o] at bz;clear hb;have c3:=C3.o w2)
    |(go_at_call 61;refine Aj c3 ?_;rintro w3 rfl;clear c3))
   go_ret;exact⟨by rw[E.o];rfl,H2.o⟩
end Nm
namespace Nm
theorem VJ {a b x:L} (h:x∈KE (ch a) (ch b)):x∈ch a\/x∈ch b:=by
 rw[KE,List.mem_append,List.mem_append,List.mem_reverse] at h;rcases h with h | h | h
 ·exact .inl (List.mem_of_mem_take h)
 ·exact .inl (List.mem_of_mem_drop (List.mem_of_mem_take h))
 ·exact .inr (List.mem_of_mem_take h)
theorem VK (a b:L):(KE (ch a) (ch b)).length<=9:=by
 have:=Ma a;have:=Ma b;rw[KE];simp only[List.length_append,List.length_take,List.length_reverse,List.length_drop];omega
theorem Gn (a b:L):(Bt a b).length<=9:=by
 rw[Bt]
 split
 ·simp
 ·have:=VK a b
  simp only[List.length_dropLast,List.length_drop];omega
theorem Mi {a b x:L} (h:x∈Bt a b):AU x≠0:=by
 rw[Bt] at h
 split at h
 ·simp at h
 ·rename_i hk
  rw[not_or] at hk;have O:=List.mem_of_mem_drop ((List.dropLast_sublist _).subset h);rcases VJ O with M | M
  ·rw[Pf M];exact hk.1
  ·rw[Pf M];exact hk.2
open Go.RowKit Af
def st (l:L):Value:=.string ⟨l.toArray⟩
def strs (ls:List L):List Value:=ls.map st
theorem DR (ls:List L):(strs ls).length=ls.length:=by simp [strs]
theorem Je (ls ms:List L):strs (ls++ms)=strs ls++strs ms:=by simp [strs]
theorem KM (ls:List L):∀u∈strs ls,u.oneCell'=true:=by
 intro u hu;obtain⟨b,_,rfl⟩:=List.mem_map.1 hu
 rfl
theorem YY {ls:List L} {i:Nat} (h:i<ls.length):(strs ls)[i]? = some (st (pl ls i)):=by
 rw[strs,List.getElem?_map,List.getElem?_eq_getElem h,CO h];rfl
theorem IB:(Tryz.prog.info? 9).map (fun i=>(i.zero,i.size,i.bytes))=some (some (.string ⟨#[]⟩),1,16):=by kernel_rfl
def Own (w:World) (base:Nat) (v:Value) (ls:List L):Prop:=w.ownsRow base 9 1 v ls.length (strs ls)
theorem Own.nil (w:World) (base:Nat):Own w base (.slice none 0 0) []:=World.ownsRow_nil w base _ 1
theorem Own.below {w w':World} {base:Nat} {v:Value} {ls:List L} (h:Own w base v ls) (M:Below w.heap.size w w'):Own w' base v ls:=BU h M
theorem Own.from_ {w:World} {base base':Nat} {v:Value} {ls:List L} (h:Own w base v ls) (hb:base'<=base):Own w base' v ls:=by
 refine⟨h.1,?_⟩;rcases h.2 with h | ⟨g,cap,cur,O,Z,M⟩
 ·exact .inl h
 ·exact .inr ⟨g,cap,cur,O,by omega,M⟩
theorem Own.slice {w:World} {base:Nat} {v:Value} {ls:List L} (h:Own w base v ls):∃A c,v=.slice A ls.length c/\Rd w w.heap.size A (strs ls):=by
 have O:=h;rcases h.2 with⟨M,Z⟩ | ⟨g,cap,cur,M,_⟩
 ·have e:ls = []:=List.eq_nil_of_length_eq_zero Z
  subst e;exact⟨none,0,M,.inl rfl⟩
 ·subst M
  exact⟨_,cap,rfl,Rd.of_own (n:=ls.length) (cap:=cap) O⟩
theorem Own.lt {w:World} {base:Nat} {v:Value} {ls:List L} (h:Own w base v ls):∀k,v.ownBlock=some k->base<=k/\k<w.heap.size:=World.ownsRow.lt h
theorem CU {w:World} {B:Nat} {A:Option Addr} {ls:List L} (h:Rd w B A (strs ls)) {i:Nat} (hi:i<ls.length):∃b o,A=some ⟨b,o,none⟩/\b<B/\w.cell? ⟨b,o+i,none⟩=some (.string ⟨(pl ls i).toArray⟩):=
 h.at_ (YY hi)
section
variable {w:World} {ops:Array Oper} {rest:List Oper} {o:Oper} {a:Act} {Q:Exit->Act->World->Prop}
theorem Pj (O:o.guard=none) (s x:Operand) (ho:o.op=.call {callee:=.builtin .append,args:=#[s,x],argTypes:=#[36,36]})
  (base:Nat) (v:Value) (ls:List L) (hs:a.eval s=v) (M:Own w base v ls) (B:Nat) (A:Option Addr) (c:Nat) (ms:List L) (hx:a.eval x=.slice A ms.length c) (hr:Rd w B A (strs ms))
  (hl:ls.length+ms.length<=8000000000000) (hb:base<=w.heap.size)
  (h:∀v' w',Own w' base v' (ls++ms)->Below base w w'->wpList Tryz.prog ops Q rest (a.put o.dst v') w'):wpList Tryz.prog ops Q (o :: rest) a w:=by
 obtain⟨i0,bb,aw,av,Z⟩:=info_parts IB;refine AI w O s x 36 ho base 9 i0 _ 16 Tryz.underlying36 bb aw av Z rfl v ls.length (strs ls) hs M B A ms.length c (strs ms) hx (DR _).symm hr (KM _) (by unfold maxLen;omega) (by omega) hb ?_;intro v' w' h1 h2 _;refine h v' w' (by rw[Own,List.length_append,Je];exact h1) ?_;exact Ah.grown h2 hb (fun k hk=>(M.lt k hk).1)
theorem Hs (O:o.guard=none) (s x:Operand) (ho:o.op=.call {callee:=.builtin .append,args:=#[s,x],argTypes:=#[36,36]})
  (base:Nat) (v:Value) (ls:List L) (hs:a.eval s=v) (M:Own w base v ls) (r:L) (hx:a.eval x=.slice (some ⟨w.heap.size,0,none⟩) 1 1)
  (Z:ls.length+1<=8000000000000) (hb:base<=w.heap.size)
  (h:∀v' w',Own w' base v' (ls++[r])->Below base w w'->wpList Tryz.prog ops Q rest (a.put o.dst v') w'):wpList Tryz.prog ops Q (o :: rest) a (w.alloc (.cells #[.string ⟨r.toArray⟩] 9)):=by
 refine Pj O s x ho base v ls hs (M.below (Ah.alloc Ag _)) (w.heap.size+1) _ 1 [r] hx ?_ Z (by simp;omega) ?_
 ·refine .inr ⟨w.heap.size,0,rfl,by omega,fun i u hu=>?_⟩
  cases i with
  |zero=>
   simp only[strs,List.map_cons,List.map_nil,List.getElem?_cons_zero,Option.some.injEq] at hu;subst hu;exact(Blk.new w 9 _).cell 0
  |succ i=>simp [strs] at hu
 ·intro v' w' h1 h2
  exact h v' w' h1 ((Ah.alloc hb _).trans h2)
end
def rev (ls:List L) (k:Nat):List L:=(List.range ls.length).map fun j=>if j<k\/ls.length<=j+k then pl ls (ls.length - 1 - j) else pl ls j
theorem Bi (ls:List L) (k:Nat):(rev ls k).length=ls.length:=by simp [rev]
theorem Kg (ls:List L) (k j:Nat) (h:j<ls.length):pl (rev ls k) j=if j<k\/ls.length<=j+k then pl ls (ls.length - 1 - j) else pl ls j:=by
 rw[CO (by rw[Bi];exact h)];simp [rev]
theorem RZ {A B:List L} (h:A.length=B.length) (hp:∀i,i<A.length->pl A i=pl B i):A=B:=by
 apply List.ext_getElem h;intro i M O;have:=hp i M
 rwa [CO M,CO O] at this
theorem rev_zero (ls:List L):rev ls 0=ls:=by
 refine RZ (Bi _ _) fun i hi=>?_
 rw[Bi] at hi;rw[Kg _ _ _ hi,if_neg (by omega)]
theorem YZ (ls:List L) (k:Nat) (h:ls.length<=2*k+1) (hk:k<=ls.length):rev ls k=ls.reverse:=by
 refine RZ (by rw[Bi];simp) fun i hi=>?_
 rw[Bi] at hi;rw[Kg _ _ _ hi,CO (A:=ls.reverse) (by simpa using hi),List.getElem_reverse,<-CO]
 by_cases q:i<k\/ls.length<=i+k
 ·rw[if_pos q]
 ·rw[if_neg q,show ls.length - 1 - i=i by omega]
theorem Yf (A:List L) (i j:Nat) (x:L) (h:j<A.length):pl (A.set i x) j=if i=j then x else pl A j:=by
 rw[CO (by simpa using h),List.getElem_set,CO h]
theorem VL (ls:List L) (k:Nat) (h:2*k+1<ls.length):((rev ls k).set k (pl (rev ls k) (ls.length - 1 - k))).set (ls.length - 1 - k) (pl (rev ls k) k)=rev ls (k+1):=by
 refine RZ (by simp [Bi]) fun i hi=>?_
 simp only[List.length_set,Bi] at hi;rw[Yf _ _ _ _ (by simp [Bi];omega),Yf _ _ _ _ (by rw[Bi];omega),Kg _ _ _ hi,Kg _ _ i hi,Kg _ _ k (by omega),Kg _ _ (ls.length - 1 - k) (by omega)]
 by_cases q1:ls.length - 1 - k=i
 ·rw[if_pos q1,if_neg (by omega),if_pos (by omega),show ls.length - 1 - i=k by omega]
 ·rw[if_neg q1]
  by_cases q2:k=i
  ·rw[if_pos q2,if_neg (by omega),if_pos (by omega),q2]
  ·rw[if_neg q2]
   by_cases q3:i<k\/ls.length<=i+k
   ·rw[if_pos q3,if_pos (by omega)]
   ·rw[if_neg q3,if_neg (by omega)]
theorem VM (ls:List L) (i:Nat) (x:L):strs (ls.set i x)=(strs ls).set i (st x):=by simp [strs,List.map_set]
theorem Own.stored {w:World} {base g n cap:Nat} {ls:List L} (h:Own w base (.slice (some ⟨g,0,none⟩) n cap) ls) (M:n=ls.length) (j:Nat) (x:L) :
  Own (w.setCell ⟨g,j,none⟩ (.string ⟨x.toArray⟩)) base (.slice (some ⟨g,0,none⟩) n cap) (ls.set j x)/\w.grownBy (w.setCell ⟨g,j,none⟩ (.string ⟨x.toArray⟩)) (some g):=by
 subst M;have:=World.ownsRow.stored h j (st x);refine⟨?_,this.2⟩;rw[Own,List.length_set,VM];exact this.1
theorem NC (v:Value) (ls:List L) (w:World) (base:Nat) (h:Own w base v ls) (hb:base<=w.heap.size) (hl:ls.length<=100000) :
  Calls Tryz.prog 229 #[v] w fun e w'=>e=.returned (.tuple #[])/\Own w' base v ls.reverse/\Below base w w':=by
 rcases Nat.eq_zero_or_pos ls.length with h0 | h0
 ·obtain⟨A,c,rfl,_⟩:=h.slice
  have e:ls = []:=List.eq_nil_of_length_eq_zero h0;subst e;have HO:=I h;clear h;simp only[List.length_nil];clear h0;go_enter Tryz.func229,Tryz.ntmps229
  go_wp2
  go_loopg [2,3] 0 (fun _ s2 s3 wr=>s2=.int .i64 0/\s3=.int .i64 (-1)/\wr=w)
  case atStart=>exact⟨rfl,rfl,rfl⟩
  case round=>
   obtain⟨rfl,rfl,rfl⟩:=hrel
   go_wp2
   go_end0
   exact⟨rfl,HO.o,Below.refl _ _⟩
 ·obtain⟨g,cap,rfl,hg⟩:∃g cap,v=.slice (some ⟨g,0,none⟩) ls.length cap/\base<=g:=by
   rcases h.2 with⟨_,O⟩ | ⟨g,cap,cur,h1,O,_⟩
   ·omega
   ·exact⟨g,cap,h1,O⟩
  obtain⟨n,en⟩:=Ak (ls.length);rw[<-en] at h hl h0⊢;have M:=I en;clear en;have HO:=I h;clear h;have HB:=I (show Below base w w from Below.refl _ _);have HG:=I hg;clear hg;have bb:=I hb;clear hb;go_enter Tryz.func229,Tryz.ntmps229
  go_wp2
  go_loopg [2,3] n (fun q s2 s3 wr=>∃i j:Nat,i+j+1=n/\i+q=n/\i<=j+1/\s2=.int .i64 (i:Int)/\s3=.int .i64 (j:Int)/\Own wr base (.slice (some ⟨g,0,none⟩) n cap) (rev ls i)/\Below base w wr)
  case atStart=>exact⟨0,n - 1,by omega,by omega,by omega,rfl,by congr 1;omega,by rw[rev_zero];exact HO.o,HB.o⟩
  case round=>
   obtain⟨i,j,h1,O,h3,rfl,rfl,ho,hb⟩:=hrel;have aw:=I hb;clear hb
   by_cases hlt:i<j
   ·have hr:=ho.slice
    have ci:wr.cell? ⟨g,i,none⟩=some (.string ⟨(pl (rev ls i) i).toArray⟩):=by
     obtain⟨A,c,e,Z⟩:=hr;injection e with e1 e2 e3;subst e1;obtain⟨b',o',e4,_,e5⟩:=CU Z (i:=i) (by rw[Bi,<-M.o];omega);injection e4 with e4;injection e4 with e6 e7;subst e6;subst e7
     rwa [Nat.zero_add] at e5
    have cj:wr.cell? ⟨g,j,none⟩=some (.string ⟨(pl (rev ls i) j).toArray⟩):=by
     obtain⟨A,c,e,Z⟩:=hr;injection e with e1 e2 e3;subst e1;obtain⟨b',o',e4,_,e5⟩:=CU Z (i:=j) (by rw[Bi,<-M.o];omega);injection e4 with e4;injection e4 with e6 e7;subst e6;subst e7
     rwa [Nat.zero_add] at e5
    have fi:wr.frozen? ⟨g,i,none⟩=false:=World.ownsRow.frozenAt (n:=n) (by have:=ho;rw[Own,Bi,<-M.o] at this;exact this) i;have fj:wr.frozen? ⟨g,j,none⟩=false:=World.ownsRow.frozenAt (n:=n) (by have:=ho;rw[Own,Bi,<-M.o] at this;exact this) j;clear hr;have av:=I ho;clear ho;have e1:(i:Int)<(j:Int):=by omega
    have H1:=I h1;have H2:=I O;clear O;have H3:=I h3;clear h3
    go_wp2_with fail
    go_region
    go_wp2
    have s1:=av.o.stored (by rw[Bi,<-M.o]) i (pl (rev ls i) j);have s2:=s1.1.stored (by rw[List.length_set,Bi,<-M.o]) j (pl (rev ls i) i);have er:((rev ls i).set i (pl (rev ls i) j)).set j (pl (rev ls i) i)=rev ls (i+1):=by
     have:=VL ls i (by have:=M.o;have:=H1.o;omega)
     rwa [show ls.length - 1 - i=j by have:=M.o;have:=H1.o;omega] at this
    rw[er] at s2
    go_roundg (n - (i+1))
    case measure=>have:=H2.o;omega
    case rel=>
     refine⟨i+1,j - 1,by have:=H1.o;omega,by have:=H2.o;omega,by omega,by go_num,by congr 1;omega,s2.1,?_⟩;have b1:=aw.o.grown s1.2 (by have:=aw.o.size;have:=bb.o;omega) (fun k hk=>by injection hk with hk;have:=HG.o;omega);have b2:=b1.grown s2.2 (by have:=b1.size;have:=bb.o;omega) (fun k hk=>by injection hk with hk;have:=HG.o;omega);exact below_drewN b2 1
   ·have av:=I ho;clear ho
    have e1:¬(i:Int)<(j:Int):=by omega
    have E:=I (YZ ls i (by have:=M.o;omega) (by have:=M.o;omega));have H1:=I h1;clear h1;have H2:=I O;clear O;have H3:=I h3;clear h3
    go_wp2
    go_end0
    exact⟨rfl,by rw[<-E.o];exact av.o,aw.o⟩
theorem Mj {b:L} (i:Nat):(pl (ch b) i).length<=b.length:=by
 rcases Nat.lt_or_ge i (ch b).length with g | g
 ·exact RM (DQ g)
 ·rw[KD g];simp
theorem Jf (B:List L) (b:L) (k:Nat):(FA B b k).length<=k:=by
 induction k with
 |zero=>simp [FA]
 |succ k ih=>rw[FA,List.length_append];split<;>simp<;>omega
theorem KN (B:List L) (b:L) (k:Nat):(upW B b k).length<=k:=by
 induction k with
 |zero=>simp [upW]
 |succ k ih=>rw[upW,List.length_append];split<;>simp<;>omega
theorem VN (x b:L) (k:Nat) (w:World) (hs:b.length<=1000000000) (hk:k<=(ch b).length) (hx:pl (ch b) k=x) (hn:∀i,i<k->pl (ch b) i≠x) :
  Calls Tryz.prog 185 #[.string ⟨x.toArray⟩,.string ⟨b.toArray⟩] w fun e w'=>∃v,e=.returned v/\Own w' w.heap.size v (FA (ch b) b k).reverse/\Below w.heap.size w w':=by
 have c2:=fun(i:Nat) w1=>Ph (pl (ch b) i) w1 (Nat.le_trans (Mj i) hs)
 have bs:=Ma b;have aw:∀i,i<(ch b).length->upL (pl (ch b) i)=pl (ch b) (i+1):=fun i h=>VB _ h
 have h0:pl (ch b) 0=b:=by
  by_cases e:b = []
  ·subst e;rw[Eb];rfl
  ·exact Ey e
 obtain⟨B,eB⟩:=Ak (ch b);rw[<-eB] at c2 bs aw h0 hk hx hn⊢;clear eB;obtain⟨N,eN⟩:=Ak (w.heap.size);rw[<-eN];have HX:=I hx;clear hx;have H0:=I h0;clear h0;have HN:=I hn;clear hn;have C2:=I c2;clear c2;have bx:=I aw;clear aw;have bz:=I (show Below N w w by exact Below.refl _ _);have EN:=I eN;clear eN;clear hs;go_enter Tryz.func185,Tryz.ntmps185
 go_wp2
 go_loopg [5,6] k (fun g vv rv wr=>∃i:Nat,i+g=k/\rv=.string ⟨(pl B i).toArray⟩/\Own wr N vv (FA B b i)/\Below N w wr)
 case atStart=>exact⟨0,Nat.zero_add _,by rw[H0.o],Own.nil _ _,bz.o⟩
 case round=>
  obtain⟨i,hi,rfl,ho,M⟩:=hrel;have HO:=I ho;clear ho;have HB:=I M;clear M;have HI:=I hi;clear hi;have bb:=I (show N<=wr.heap.size by have:=HB.o.size;have:=EN.o;omega)
  by_cases hlt:i<k
  ·have t1:(pl B i==x)=false:=by simpa using HN.o i hlt
   have c3:=fun w1=>C2.o i w1
   rw[bx.o i (by omega)] at c3;have C3:=I c3;clear c3
   by_cases M:pl B i=b
   ·have t2:(pl B i==b)=true:=by simpa using M
    have E:=I (show FA B b (i+1)=FA B b i by rw[FA,if_pos M,List.append_nil]);clear M;have c3:=C3.o wr
    go_wp2_with (go_at_call 184;refine Aj c3 ?_;rintro w3 M;clear c3;have H3:=I (HB.o.trans (M.mono bb.o));have Z:=I (HO.o.below M);clear M)
    go_roundg (k - (i+1))
    case measure=>have:=HI.o;omega
    case rel=>exact⟨i+1,by have:=HI.o;omega,rfl,by rw[E.o];exact Z.o,H3.o⟩
   ·have t2:(pl B i==b)=false:=by simpa using M
    have E:=I (show FA B b (i+1)=FA B b i++[pl B i] by rw[FA,if_neg M]);clear M
    go_wp2_with (first
     |(at_builtin;refine Hs rfl (.tmp 16) (.tmp 18) rfl N _ _ rfl HO.o (pl B i) rfl (by have:=Jf B b i;omega) bb.o ?_;intro v' w3 O bq;have H3:=I (HB.o.trans bq);rw[<-E.o] at O;have Z:=I O;clear O bq;have av:N<=w3.heap.size:=(by have:=H3.o.size;have:=EN.o;omega);have bn:=I av;clear av;have c3:=C3.o w3)
     |(go_at_call 184;refine Aj c3 ?_;rintro w4 M;clear c3;have H4:=I (H3.o.trans (M.mono bn.o));have bB:=I (Z.o.below M);clear M))
    go_roundg (k - (i+1))
    case measure=>have:=HI.o;omega
    case rel=>exact⟨i+1,by have:=HI.o;omega,rfl,bB.o,H4.o⟩
  ·obtain rfl:i=k:=by have:=HI.o;omega
   have t1:(pl B i==x)=true:=by simpa using HX.o
   have c4:=NC _ _ wr N HO.o bb.o (by have:=Jf B b i;omega)
   go_wp2_with (go_at_call 229;refine Aj c4 ?_;rintro w3 ⟨O,M⟩;clear c4;have H3:=I (HB.o.trans M);have Z:=I O;clear M O)
   go_ret;exact⟨_,rfl,Z.o,H3.o⟩
theorem Ql (a b:L) (w:World) (hs:a.length<=1000000000) (O:b.length<=1000000000) (h:AU a=0\/AU b=0) :
  Calls Tryz.prog 136 #[.string ⟨a.toArray⟩,.string ⟨b.toArray⟩] w fun e w'=>∃v,e=.returned v/\Own w' w.heap.size v (Bt a b)/\Below w.heap.size w w':=by
 have c1:=Fq a w hs;have C2:=I (fun w1=>Fq b w1 O);have E:=I (show Bt a b = [] by rw[Bt,if_pos h]);have av:=I (show Below w.heap.size w w by exact Below.refl _ _)
 by_cases Z:isL a=true
 ·have hb:isL b=false:=by
   simp only[isL,decide_eq_true_eq] at Z;simp only[isL,decide_eq_false_iff_not];omega
  rw[Z] at c1;have HB:=I hb;clear Z hb h hs O;go_enter Tryz.func136,Tryz.ntmps136
  go_wp2_with (first
   |(go_at_call 59;refine Aj c1 ?_;rintro w1 M;clear c1;have H1:=I M.below;clear M;have c2:=C2.o w1;rw[HB.o] at c2)
   |(go_at_call 59;refine Aj c2 ?_;rintro w2 M;clear c2;have H2:=I (H1.o.trans (M.below.mono H1.o.size));clear M))
  go_ret;exact⟨_,rfl,by rw[E.o];exact Own.nil _ _,H2.o⟩
 ·have Z:isL a=false:=by simpa using Z
  rw[Z] at c1;clear Z h hs O;go_enter Tryz.func136,Tryz.ntmps136
  go_wp2_with (go_at_call 59;refine Aj c1 ?_;rintro w1 M;clear c1;have H1:=I M.below;clear M)
  go_ret;exact⟨_,rfl,by rw[E.o];exact Own.nil _ _,H1.o⟩
theorem ND (a b:L) (w:World) (hs:a.length<=1000000000) (cj:b.length<=1000000000) (ha:AU a≠0) (O:AU b≠0) :
  Calls Tryz.prog 136 #[.string ⟨a.toArray⟩,.string ⟨b.toArray⟩] w fun e w'=>∃v,e=.returned v/\Own w' w.heap.size v (Bt a b)/\Below w.heap.size w w':=by
 have c1:=Fq a w hs;have c2:=fun w1=>Fq b w1 cj
 rw[show isL a=true by simp [isL];omega] at c1;rw[show isL b=true by simp [isL];omega] at c2;have C2:=I c2;clear c2;have na:=Dk ha;have nb:=Dk O;have e1:=KF ha O;have la:=Ma a;have lb:=Ma b;have cr:=Mb (ch a) (ch b);have c3:=fun(i:Nat) w1=>Ph (pl (ch a) i) w1 (Nat.le_trans (Mj i) hs)
 have c4:=fun(i:Nat) w1=>RY b (pl (ch a) i) w1 cj
 have cn:∀i,i<(ch a).length->upL (pl (ch a) i)=pl (ch a) (i+1):=fun i h=>VB _ h
 have cp:∀i,i<(ch a).length->pl (ch a) i≠[]:=fun i h=>RK _ h
 have bx:∀i,i<ix (ch a) (ch b)->pl (ch a) i≠b/\Gz b (pl (ch a) i)=false:=by
  intro i hi;have h1:=GA hi;rw[Kf nb,not_or] at h1;exact⟨h1.1,by simpa using h1.2⟩
 have cd:ix (ch a) (ch b)<(ch a).length->pl (ch a) (ix (ch a) (ch b))≠b->Gz b (pl (ch a) (ix (ch a) (ch b)))=true:=by
  intro g q;have h1:=VD g;rw[Kf nb] at h1;exact h1.resolve_left q
 have c5:=fun w1=>VN (pl (ch a) (ix (ch a) (ch b))) b (ix (ch b) (ch a)) w1 cj (Mb _ _) (by
  rcases Nat.lt_or_ge (ix (ch a) (ch b)) (ch a).length with g | g
  ·exact(Nt g).2
  ·have e:ix (ch a) (ch b)=(ch a).length:=by omega
   rw[Nu e,KD (by omega),KD (by omega)]) (fun i hi q=>by
  rcases Nat.lt_or_ge (ix (ch a) (ch b)) (ch a).length with g | g
  ·exact GA hi (by rw[q];exact DQ g)
  ·rw[KD g] at q
   exact RK b (Nat.lt_of_lt_of_le hi (Mb _ _)) q)
 have h0:pl (ch a) 0=a:=Ey na;have cy:=Jf (ch b) b (ix (ch b) (ch a));have cA:=Mb (ch b) (ch a);obtain⟨W2,eW⟩:=Ak ((FA (ch b) b (ix (ch b) (ch a))).reverse);rw[<-eW] at e1 c5;have cB:W2.length<=4:=by rw[eW,List.length_reverse];omega
 clear eW cy cA lb;obtain⟨M,eM⟩:=Ak (ix (ch a) (ch b));rw[<-eM] at e1 cr bx cd c5;clear eM;obtain⟨A,eA⟩:=Ak (ch a);rw[<-eA] at e1 cr bx cd c5 h0 cp cn c3 c4 la;clear eA ha O hs cj na nb;obtain⟨N,eN⟩:=Ak (w.heap.size);rw[<-eN];have cL:=I (show Below N w w by exact Below.refl _ _);have EN:=I eN;clear eN;have E1:=I e1;clear e1;have C3:=I c3;clear c3;have C4:=I c4;clear c4;have C5:=I c5;clear c5;have cw:=I cn;clear cn;have ct:=I cp;clear cp;have ck:=I bx;clear bx;have cx:=I cd;clear cd;have H0:=I h0;clear h0;have Z:=I (show ∀w1:World,Below N w w1->N<=w1.heap.size from fun w1 h=>by have:=h.size;have:=EN.o;omega);go_enter Tryz.func136,Tryz.ntmps136
 go_wp2_with (first
  |(go_at_call 59;refine Aj c1 ?_;rintro w1 hd;clear c1;have H1:=I (hd.below.mono (Nat.le_of_eq EN.o));clear hd;have c2:=C2.o w1)
  |(go_at_call 59;refine Aj c2 ?_;rintro w2 hd;clear c2;have H2:=I (H1.o.trans (hd.below.mono (Z.o _ H1.o)));clear hd))
 go_loopg [5,6] M (fun g vv rv wr=>∃i:Nat,i+g=M/\rv=.string ⟨(pl A i).toArray⟩/\Own wr N vv (upW A b i)/\Below N w wr)
 case atStart=>exact⟨0,Nat.zero_add _,by rw[H0.o],Own.nil _ _,H2.o⟩
 case round=>
  obtain⟨i,hi,rfl,ho,O⟩:=hrel;have HO:=I ho;clear ho;have HB:=I O;clear O;have HI:=I hi;clear hi;have bz:=I (Z.o _ HB.o)
  by_cases hlt:i<M
  ·have t1:(pl A i == [])=false:=by simpa using ct.o i (by omega)
   have t2:(pl A i==b)=false:=by simpa using (ck.o i hlt).1
   have c4:=C4.o i wr;rw[(ck.o i hlt).2] at c4;have c3:=fun w1=>C3.o i w1
   rw[cw.o i (by omega)] at c3;have cg:=I c3;clear c3
   by_cases hx:pl A (i+1) = []\/pl A (i+1)=b
   ·have E:=I (show upW A b (i+1)=upW A b i by rw[upW,if_pos hx,List.append_nil])
    by_cases hy:pl A (i+1) = []
    ·have HY:=I hy
     rw[hy] at cg;clear hx hy
     go_wp2_with (first
      |(go_at_call 183;refine Aj c4 ?_;rintro w3 O;clear c4;have H3:=I (HB.o.trans (O.mono bz.o));have bs:=I (HO.o.below O);clear O;have c3:=cg.o w3)
      |(go_at_call 184;refine Aj c3 ?_;rintro w4 O;clear c3;have H4:=I (H3.o.trans (O.mono (Z.o _ H3.o)));have bB:=I (bs.o.below O);clear O))
     go_roundg (M - (i+1))
     case measure=>have:=HI.o;omega
     case rel=>exact⟨i+1,by have:=HI.o;omega,by rw[HY.o],by rw[E.o];exact bB.o,H4.o⟩
    ·have t3:(pl A (i+1) == [])=false:=by simpa using hy
     have t4:(pl A (i+1)==b)=true:=by simpa using hx.resolve_left hy
     clear hx hy
     go_wp2_with (first
      |(go_at_call 183;refine Aj c4 ?_;rintro w3 O;clear c4;have H3:=I (HB.o.trans (O.mono bz.o));have bs:=I (HO.o.below O);clear O;have c3:=cg.o w3)
      |(go_at_call 184;refine Aj c3 ?_;rintro w4 O;clear c3;have H4:=I (H3.o.trans (O.mono (Z.o _ H3.o)));have bB:=I (bs.o.below O);clear O))
     go_roundg (M - (i+1))
     case measure=>have:=HI.o;omega
     case rel=>exact⟨i+1,by have:=HI.o;omega,rfl,by rw[E.o];exact bB.o,H4.o⟩
   ·have E:=I (show upW A b (i+1)=upW A b i++[pl A (i+1)] by rw[upW,if_neg hx])
    rw[not_or] at hx;have t3:(pl A (i+1) == [])=false:=by simpa using hx.1
    have t4:(pl A (i+1)==b)=false:=by simpa using hx.2
    clear hx
    go_wp2_with (first
     |(go_at_call 183;refine Aj c4 ?_;rintro w3 O;clear c4;have H3:=I (HB.o.trans (O.mono bz.o));have bs:=I (HO.o.below O);clear O;have c3:=cg.o w3)
     |(go_at_call 184;refine Aj c3 ?_;rintro w4 O;clear c3;have H4:=I (H3.o.trans (O.mono (Z.o _ H3.o)));have bB:=I (bs.o.below O);clear O)
     |(at_builtin;refine Hs rfl (.tmp 38) (.tmp 40) rfl N _ _ rfl bB.o (pl A (i+1)) rfl (by have:=KN A b i;omega) (Z.o _ H4.o) ?_;intro v' w5 cm cq;have H5:=I (H4.o.trans cq);rw[<-E.o] at cm;have cu:=I cm;clear cm cq))
    go_roundg (M - (i+1))
    case measure=>have:=HI.o;omega
    case rel=>exact⟨i+1,by have:=HI.o;omega,rfl,cu.o,H5.o⟩
  ·obtain rfl:i=M:=by have:=HI.o;omega
   have c5:=C5.o;have cf:=I c5;clear c5
   by_cases hl:i<A.length
   ·have t1:(pl A i == [])=false:=by simpa using ct.o i hl
    by_cases hx:pl A i=b
    ·have t2:(pl A i==b)=true:=by simpa using hx
     have c5:=cf.o wr;clear hx
     go_wp2_with (first
      |(go_at_call 185;refine Calls.mono c5 ?_;rintro e w6 ⟨v6,rfl,bq,av⟩;clear c5;obtain⟨A6,c6,rfl,bn⟩:=bq.slice;have H6:=I (HB.o.trans (av.mono bz.o));have cb:=I (HO.o.below av);have cc:=I bn;clear av bq bn)
      |(at_builtin;refine Pj rfl (.tmp 42) (.tmp 45) rfl N _ _ rfl cb.o _ _ _ W2 rfl cc.o (by have:=KN A b i;omega) (Z.o _ H6.o) ?_;intro v' w7 aw bb;rw[E1.o] at aw;have H7:=I (H6.o.trans bb);have ca:=I aw;clear aw bb))
     go_ret;exact⟨_,rfl,ca.o,H7.o⟩
    ·have t2:(pl A i==b)=false:=by simpa using hx
     have c4:=C4.o i wr;rw[cx.o hl hx] at c4;clear hx
     go_wp2_with (first
      |(go_at_call 183;refine Aj c4 ?_;rintro w3 O;clear c4;have H3:=I (HB.o.trans (O.mono bz.o));have bs:=I (HO.o.below O);clear O;have c5:=cf.o w3)
      |(go_at_call 185;refine Calls.mono c5 ?_;rintro e w6 ⟨v6,rfl,bq,av⟩;clear c5;obtain⟨A6,c6,rfl,bn⟩:=bq.slice;have H6:=I (H3.o.trans (av.mono (Z.o _ H3.o)));have cb:=I (bs.o.below av);have cc:=I bn;clear av bq bn)
      |(at_builtin;refine Pj rfl (.tmp 42) (.tmp 45) rfl N _ _ rfl cb.o _ _ _ W2 rfl cc.o (by have:=KN A b i;omega) (Z.o _ H6.o) ?_;intro v' w7 aw bb;rw[E1.o] at aw;have H7:=I (H6.o.trans bb);have ca:=I aw;clear aw bb))
     go_ret;exact⟨_,rfl,ca.o,H7.o⟩
   ·have hz:pl A i = []:=KD (by omega)
    rw[hz] at cf⊢;have c5:=cf.o wr;clear hz
    go_wp2_with (first
     |(go_at_call 185;refine Calls.mono c5 ?_;rintro e w6 ⟨v6,rfl,bq,av⟩;clear c5;obtain⟨A6,c6,rfl,bn⟩:=bq.slice;have H6:=I (HB.o.trans (av.mono bz.o));have cb:=I (HO.o.below av);have cc:=I bn;clear av bq bn)
     |(at_builtin;refine Pj rfl (.tmp 42) (.tmp 45) rfl N _ _ rfl cb.o _ _ _ W2 rfl cc.o (by have:=KN A b i;omega) (Z.o _ H6.o) ?_;intro v' w7 aw bb;rw[E1.o] at aw;have H7:=I (H6.o.trans bb);have ca:=I aw;clear aw bb))
    go_ret;exact⟨_,rfl,ca.o,H7.o⟩
theorem Gp (a b:L) (w:World) (hs:a.length<=1000000000) (M:b.length<=1000000000) :
  Calls Tryz.prog 136 #[.string ⟨a.toArray⟩,.string ⟨b.toArray⟩] w fun e w'=>∃v,e=.returned v/\Own w' w.heap.size v (Bt a b)/\Below w.heap.size w w':=by
 by_cases h:AU a=0\/AU b=0
 ·exact Ql a b w hs M h
 ·rw[not_or] at h
  exact ND a b w hs M h.1 h.2
theorem Sb (l:List UInt8) (f k:Nat):(ByteArray.mk l.toArray).extract f k=ByteArray.mk ((l.drop f).take (k - f)).toArray:=by
 rw[ByteArray.extract_mk]
attribute [local go_sem] Et List.getElem_cons_zero List.getElem_cons_succ Sb
def piece (l:L) (f k:Nat):L:=(l.drop f).take (k - f)
theorem Mk {l:L} {f k:Nat} (O:f<=k) (hk:k<l.length):l.drop f=piece l f k++l[k] :: l.drop (k+1):=by
 have M:l.drop f=(l.drop f).take (k - f)++(l.drop f).drop (k - f):=(List.take_append_drop _ _).symm;rw[List.drop_drop,show f+(k - f)=k by omega,List.drop_eq_getElem_cons hk] at M;exact M
theorem Qm {l:L} {f k:Nat} (M:f<=k) (hk:k<l.length):piece l f (k+1)=piece l f k++[l[k]]:=by
 have h:=Mk M hk;have O:(piece l f k).length=k - f:=by rw[piece,List.length_take,List.length_drop];omega
 rw[piece,h,show k+1 - f=(piece l f k).length+1 by omega,List.take_append,List.take_of_length_le (by omega),Nat.add_sub_cancel_left]
 rfl
theorem Ml {l:L} {f:Nat}:piece l f l.length=l.drop f:=by rw[piece,List.take_of_length_le (by simp)]
theorem VO (c:UInt8) (l:L):(split c l).length<=l.length+1:=by
 induction l with
 |nil=>simp [split]
 |cons x r ih=>
  rw[split];split
  ·simp;omega
  ·split<;>simp_all<;>omega
theorem GG (l:L) (c:UInt8) (w:World) (hs:l.length<=1000000000):Calls Tryz.prog 149 #[.string ⟨l.toArray⟩,.int .u8 (c.toNat:Int)] w fun e w'=>∃v,e=.returned v/\Own w' w.heap.size v (split c l)/\Below w.heap.size w w':=by
 obtain⟨N,eN⟩:=Ak (w.heap.size);rw[<-eN];have bz:=I (show Below N w w by exact Below.refl _ _);have EN:=I eN;clear eN;have Z:=I (show ∀w1:World,Below N w w1->N<=w1.heap.size from fun w1 h=>by have:=h.size;have:=EN.o;omega);go_enter Tryz.func149,Tryz.ntmps149
 go_wp2
 go_loopw [5,6,7] (fun vv fv iv wr=>∃(f k:Nat) (ls:List L),f<=k/\k<=l.length/\fv=.int .i64 (f:Int)/\iv=.int .i64 (k:Int)/\Own wr N vv ls/\c∉piece l f k/\ls++split c (l.drop f)=split c l/\ls.length<=f/\Below N w wr) (fun _ _ iv _=>l.length - (intOf iv).toNat)
 case atStart=>exact⟨0,0,[],Nat.le_refl _,Nat.zero_le _,rfl,rfl,Own.nil _ _,by simp [piece],by simp,by simp,bz.o⟩
 case round=>
  obtain⟨f,k,ls,hf,hk,rfl,rfl,ho,hc,bq,bx,hb⟩:=hrel;have HO:=I ho;clear ho;have HB:=I hb;clear hb;have HC:=I hc;clear hc;have bb:=I bq;clear bq
  by_cases hlt:k<l.length
  ·have e1:(k:Int)<(l.length:Int):=by omega
   have aw:=Mk hf hlt;have bn:=Qm hf hlt
   by_cases hx:l[k]=c
   ·have t1:((l[k].toNat:Int)==(c.toNat:Int))=true:=by simp [hx]
    have hn:(ls++[piece l f k])++split c (l.drop (k+1))=split c l:=by
     rw[<-bb.o,aw,hx,Ke HC.o];simp
    have HN:=I hn;clear hn aw bn hx;have e2:(f:Int)<=(k:Int):=by omega
    go_wp2_with (at_builtin;refine Hs rfl (.tmp 19) (.tmp 24) rfl N _ ls rfl HO.o (piece l f k) rfl (by omega) (Z.o _ HB.o) ?_;intro v' w3 M O;have H3:=I (HB.o.trans O);have av:=I M;clear M O)
    go_roundw
    case rel=>exact⟨k+1,k+1,_,Nat.le_refl _,by omega,by go_num,by go_num,av.o,by simp [piece],HN.o,by simp;omega,H3.o⟩
    case measure=>simp [intOf];omega
   ·have t1:((l[k].toNat:Int)==(c.toNat:Int))=false:=by
     simp only[beq_eq_false_iff_ne,ne_eq];intro q;exact hx (UInt8.toNat_inj.1 (by omega))
    have bs:=I (show c∉piece l f (k+1) by
     rw[bn,List.mem_append,not_or];exact⟨HC.o,by simpa using fun q:c=l[k]=>hx q.symm⟩)
    clear aw bn hx
    go_wp2
    go_roundw
    case rel=>exact⟨f,k+1,ls,by omega,by omega,rfl,by go_num,HO.o,bs.o,bb.o,bx,HB.o⟩
    case measure=>simp [intOf];omega
  ·obtain rfl:k=l.length:=by omega
   have e1:¬(l.length:Int)<(l.length:Int):=by omega
   have e2:(f:Int)<=(l.length:Int):=by omega
   have hc:=HC.o;rw[Ml] at hc;have hn:ls++[piece l f l.length]=split c l:=by rw[<-bb.o,FQ hc,Ml]
   have HN:=I hn;clear hn hc
   go_wp2_with (at_builtin;refine Hs rfl (.tmp 28) (.tmp 32) rfl N _ ls rfl HO.o (piece l f l.length) rfl (by omega) (Z.o _ HB.o) ?_;intro v' w3 M O;have H3:=I (HB.o.trans O);have av:=I M;clear M O)
   go_ret;exact⟨_,rfl,by rw[<-HN.o];exact av.o,H3.o⟩
end Nm
namespace Nm
open Go.RowKit Af
attribute [local go_sem] Et List.getElem_cons_zero List.getElem_cons_succ Sb
theorem IF {ls:List L} {i:Nat} (hi:i<ls.length) (h:Cn capB (pl ls i)=false):Co ls=false:=by
 cases e:Co ls with
 |false=>rfl
 |true=>
  have:=((CK ls).1 e).2.2;rw[List.all_eq_true] at this;have:=this _ (DQ hi);rw[h] at this;cases this
theorem VP {ls:List L} (h:∀i,i<ls.length->Cn capB (pl ls i)=true) (M:1<=ls.length):Co ls=decide (ls.length<=4):=by
 have Z:ls.all (Cn capB)=true:=by
  rw[List.all_eq_true];intro x O;obtain⟨i,hi,rfl⟩:=mem_pl O;exact h i hi
 rw[Co,Z,decide_eq_true M];simp
theorem NF (ls:List L) (b o c:Nat) (w:World) (h1:1<=ls.length) (hl:ls.length<=8000000000000) (hs:∀i,i<ls.length->(pl ls i).length<=1000000000)
  (Z:∀i,i<ls.length->w.cell? ⟨b,o+i,none⟩=some (.string ⟨(pl ls i).toArray⟩)) :
  Calls Tryz.prog 148 #[.slice (some ⟨b,o,none⟩) ls.length c] w fun e w'=>e=.returned (.bool (Co ls))/\w=w':=by
 obtain⟨n,en⟩:=Ak (ls.length);rw[<-en] at h1 hl hs Z⊢;have HS:=I hs;clear hs;have HC:=I Z;clear Z;have M:=I en;clear en;go_enter Tryz.func148,Tryz.ntmps148
 go_wp2
 go_loop [3] (fun iv=>∃i:Nat,i<=n/\iv=.int .i64 (i:Int)/\∀j,j<i->Cn capB (pl ls j)=true) (fun iv=>n - (intOf iv).toNat)
 case atStart=>exact⟨0,Nat.zero_le _,rfl,fun j h=>absurd h (Nat.not_lt_zero j)⟩
 case round=>
  obtain⟨i,hi,rfl,hw⟩:=hrel;have HW:=I hw;clear hw
  by_cases hlt:i<n
  ·have e1:(i:Int)<(n:Int):=by omega
   have Z:=HC.o i hlt;have av:=HS.o i hlt;obtain⟨l,el⟩:=Ak (pl ls i);rw[<-el] at Z av;have O:=I el;clear el
   by_cases g1:l.length<1
   ·have t1:decide ((l.length:Int)<1)=true:=by simp;omega
    have E:=I (IF (by rw[<-M.o];exact hlt) (by rw[<-O.o];exact Hq g1));clear g1
    go_wp2
    go_ret;exact⟨by rw[E.o];rfl,rfl⟩
   ·have t1:decide ((l.length:Int)<1)=false:=by simp;omega
    by_cases g2:8<l.length
    ·have t2:decide (8<(l.length:Int))=true:=by simp;omega
     have E:=I (IF (by rw[<-M.o];exact hlt) (by rw[<-O.o];exact Jd g2));clear g1 g2
     go_wp2
     go_ret;exact⟨by rw[E.o];rfl,rfl⟩
    ·have t2:decide (8<(l.length:Int))=false:=by simp;omega
     have HA:=I (fun h=>KG (p:=capB) (l:=l) h (by omega) (by omega));clear g1 g2
     go_wp2
     go_loop [4] (fun kv=>∃k:Nat,k<=l.length/\kv=.int .i64 (k:Int)/\Fit capB l k) (fun kv=>l.length - (intOf kv).toNat)
     case atStart=>exact⟨0,Nat.zero_le _,rfl,fun i _ h=>by omega⟩
     case round=>
      obtain⟨k,hk,rfl,hf⟩:=hrel;have HF:=I hf;clear hf
      by_cases hkl:k<l.length
      ·have e2:(k:Int)<(l.length:Int):=by omega
       have hb:=Fs l[k]
       by_cases q1:l[k].toNat<65
       ·have s1:decide ((l[k].toNat:Int)<65)=true:=by simp;omega
        have E:=I (IF (ls:=ls) (i:=i) (by rw[<-M.o];exact hlt) (by rw[<-O.o];exact GB hkl (by simp [capB];omega)));clear q1
        go_wp2
        go_ret;exact⟨by rw[E.o];rfl,rfl⟩
       ·have s1:decide ((l[k].toNat:Int)<65)=false:=by simp;omega
        by_cases q2:90<l[k].toNat
        ·have s2:decide (90<(l[k].toNat:Int))=true:=by simp;omega
         have E:=I (IF (ls:=ls) (i:=i) (by rw[<-M.o];exact hlt) (by rw[<-O.o];exact GB hkl (by simp [capB];omega)));clear q1 q2
         go_wp2
         go_ret;exact⟨by rw[E.o];rfl,rfl⟩
        ·have s2:decide (90<(l[k].toNat:Int))=false:=by simp;omega
         have HP:=I (show capB l[k]=true by simp [capB];omega);clear q1 q2
         go_wp2
         go_round
         case rel=>exact⟨k+1,by omega,by go_num,fun i hi aw=>by
          by_cases q:i=k
          ·subst q;exact HP.o
          ·exact HF.o i hi (by omega)⟩
         case measure=>simp [intOf];omega
      ·have e2:¬(k:Int)<(l.length:Int):=by omega
       have E:=I (HA.o (fun i hi=>HF.o i hi (by omega)))
       go_wp2
       go_round
       case rel=>exact⟨i+1,by omega,by go_num,fun j hj=>by
        by_cases q:j=i
        ·rw[q,<-O.o];exact E.o
        ·exact HW.o j (by omega)⟩
       case measure=>simp [intOf];omega
  ·obtain rfl:i=n:=by omega
   have e1:¬(i:Int)<(i:Int):=by omega
   have hE:=VP (ls:=ls) (fun j hj=>HW.o j (by rw[M.o];exact hj)) (by rw[<-M.o];exact h1);rw[<-M.o] at hE;have E:=I hE;clear hE;have t1:decide ((1:Int)<=(i:Int))=true:=by simp;omega
   by_cases g:i<=4
   ·have t2:decide ((i:Int)<=4)=true:=by simp;omega
    have E2:=I (decide_eq_true g);clear g
    go_wp2
    go_ret;exact⟨by rw[E.o,E2.o];rfl,rfl⟩
   ·have t2:decide ((i:Int)<=4)=false:=by simp;omega
    have E2:=I (decide_eq_false g);clear g
    go_wp2
    go_ret;exact⟨by rw[E.o,E2.o];rfl,rfl⟩
theorem Qn (ls:List L) (A:Option Addr) (c B:Nat) (w:World) (M:1<=ls.length) (Z:ls.length<=8000000000000) (hs:∀i,i<ls.length->(pl ls i).length<=1000000000) (O:Rd w B A (strs ls)) :
  Calls Tryz.prog 148 #[.slice A ls.length c] w fun e w'=>e=.returned (.bool (Co ls))/\w=w':=by
 obtain⟨b,o,rfl,_,_⟩:=CU O (i:=0) M;refine NF ls b o c w M Z hs fun i hi=>?_
 obtain⟨b',o',e,_,hc⟩:=CU O hi;injection e with e;injection e with e1 e2;subst e1;subst e2;exact hc
end Nm
namespace Nm
open Go.RowKit Af
attribute [local go_sem] Et List.getElem_cons_zero List.getElem_cons_succ Cg Ch Dt
theorem Sc (c:UInt8) (l:L):∀x,x∈split c l->x.length<=l.length:=by
 induction l with
 |nil=>intro x M;simp [split] at M;simp [M]
 |cons a r ih=>
  intro x M;rw[split] at M
  split at M
  ·rcases List.mem_cons.1 M with rfl | h
   ·simp
   ·have:=ih x h;simp;omega
  ·cases hs:split c r with
   |nil=>rw[hs] at M;simp at M;subst M;simp
   |cons u t=>
    rw[hs] at M ih;rcases List.mem_cons.1 M with rfl | h
    ·have:=ih u List.mem_cons_self;simp;omega
    ·have:=ih x (List.mem_cons_of_mem _ h);simp;omega
theorem Pk (l:L) (c:UInt8) (w':World) (base:Nat) (v:Value) (hs:l.length<=1000000000) (O:Own w' base v (split c l)) :
  ∃A n cap,v=.slice A n cap/\∀w1,Below w'.heap.size w' w1->Calls Tryz.prog 148 #[.slice A n cap] w1 fun e w2=>e=.returned (.bool (Co (split c l)))/\w1=w2:=by
 obtain⟨A,cap,rfl,M⟩:=O.slice;refine⟨A,_,cap,rfl,fun w1 Z=>?_⟩;exact Qn (split c l) A cap w'.heap.size w1 (CJ c l) (by have:=VO c l;omega) (fun i hi=>by have:=Sc c l _ (DQ hi);omega) (M.below Z)
theorem Sd (l:L) (w:World) (hs:l.length<=1000000000):Calls Tryz.prog 101 #[.string ⟨l.toArray⟩] w fun e w'=>e=.returned (.int .i64 (AU l:Int))/\Below w.heap.size w w':=by
 have C2:=I (fun w1=>GG l 46 w1 hs);have S2:=I (fun w' base v M=>Pk l 46 w' base v hs M);have bn:=I (Below.refl w.heap.size w);cases l with
 |nil=>
  have E:=I Kz;have c2:=C2.o w;have EL:=I (show Co (split 46 [])=false by decide);clear hs;go_enter Tryz.func101,Tryz.ntmps101
  go_wp2_with (first
   |(go_at_call 149;refine Calls.mono c2 ?_;rintro e w1 ⟨v,rfl,M,Z⟩;clear c2;obtain⟨A,n,cap,rfl,O⟩:=S2.o w1 _ v M;have c3:=O w1 Ah;rw[EL.o] at c3;have H1:=I Z;clear Z M O)
   |(go_at_call 148;refine Aj c3 ?_;rintro w2 rfl;clear c3))
  go_ret;exact⟨by rw[E.o];rfl,H1.o⟩
 |cons x r=>
  have e0:(0:Int)<(r.length:Int)+1:=by omega
  have aw:r.length<=1000000000:=by simp at hs;omega
  have ek:AU (x :: r)=if slL (x :: r) then 2 else if Co (split 46 (x :: r)) then 1 else 0:=rfl
  by_cases hx:x=47
  ·subst hx
   have av:slL (47 :: r)=Co (split 47 r):=by simp [slL]
   rw[av] at ek;have c1:=GG r 47 w aw;have S1:=I (fun w' base v M=>Pk r 47 w' base v aw M);cases h1:Co (split 47 r) with
   |true=>
    have E:=I (show AU (47 :: r)=2 by rw[ek,h1];rfl);have H:=I h1;clear ek av h1 hs aw;go_enter Tryz.func101,Tryz.ntmps101
    go_wp2_with (first
     |(go_at_call 149;refine Calls.mono c1 ?_;rintro e w1 ⟨v,rfl,M,Z⟩;clear c1;obtain⟨A,n,cap,rfl,O⟩:=S1.o w1 _ v M;have c3:=O w1 Ah;rw[H.o] at c3;have H1:=I Z;clear Z M O)
     |(go_at_call 148;refine Aj c3 ?_;rintro w2 rfl;clear c3))
    go_ret;exact⟨by rw[E.o];rfl,H1.o⟩
   |false=>
    rw[h1,if_neg (by simp)] at ek;have H:=I h1;have hd:Co (split 46 (47 :: r))=false:=by
     cases q:Co (split 46 (47 :: r)) with
     |false=>rfl
     |true=>exact absurd rfl (Pd q)
    have HD:=I hd;have E:=I (show AU (47 :: r)=0 by rw[ek,hd];rfl);clear ek av h1 hd hs aw;go_enter Tryz.func101,Tryz.ntmps101
    go_wp2_with (first
     |(go_at_call 149;refine Calls.mono c1 ?_;rintro e w1 ⟨v,rfl,M,Z⟩;clear c1;obtain⟨A,n,cap,rfl,O⟩:=S1.o w1 _ v M;have c3:=O w1 Ah;rw[H.o] at c3;have H1:=I Z;clear Z M O;have c2:=C2.o w1)
     |(go_at_call 148;refine Aj c3 ?_;rintro w2 rfl;clear c3)
     |(go_at_call 149;refine Calls.mono c2 ?_;rintro e w4 ⟨v4,rfl,M,Z⟩;clear c2;obtain⟨A4,n4,bb,rfl,O⟩:=S2.o w4 _ v4 M;have c5:=O w4 Ah;rw[HD.o] at c5;have H4:=H1.t Z;clear Z M O)
     |(go_at_call 148;refine Aj c5 ?_;rintro w6 rfl;clear c5))
    go_ret;exact⟨by rw[E.o];rfl,H4.o⟩
  ·have t1:((x.toNat:Int)==47)=false:=by
    simp only[beq_eq_false_iff_ne,ne_eq];intro q;exact hx (UInt8.toNat_inj.1 (by have:(47:UInt8).toNat=47:=rfl;omega))
   have av:slL (x :: r)=false:=by simp [slL,hx]
   rw[av,if_neg (by simp)] at ek;have c2:=C2.o w;cases h1:Co (split 46 (x :: r)) with
   |true=>
    have E:=I (show AU (x :: r)=1 by rw[ek,h1];rfl);have H:=I h1;clear ek av h1 hs aw hx;go_enter Tryz.func101,Tryz.ntmps101
    go_wp2_with (first
     |(go_at_call 149;refine Calls.mono c2 ?_;rintro e w1 ⟨v,rfl,M,Z⟩;clear c2;obtain⟨A,n,cap,rfl,O⟩:=S2.o w1 _ v M;have c3:=O w1 Ah;rw[H.o] at c3;have H1:=I Z;clear Z M O)
     |(go_at_call 148;refine Aj c3 ?_;rintro w2 rfl;clear c3))
    go_ret;exact⟨by rw[E.o];rfl,H1.o⟩
   |false=>
    have E:=I (show AU (x :: r)=0 by rw[ek,h1];rfl);have H:=I h1;clear ek av h1 hs aw hx;go_enter Tryz.func101,Tryz.ntmps101
    go_wp2_with (first
     |(go_at_call 149;refine Calls.mono c2 ?_;rintro e w1 ⟨v,rfl,M,Z⟩;clear c2;obtain⟨A,n,cap,rfl,O⟩:=S2.o w1 _ v M;have c3:=O w1 Ah;rw[H.o] at c3;have H1:=I Z;clear Z M O)
     |(go_at_call 148;refine Aj c3 ?_;rintro w2 rfl;clear c3))
    go_ret;exact⟨by rw[E.o];rfl,H1.o⟩
theorem NH (l:L) (w:World) (hs:l.length<=1000000000):Calls Tryz.prog 64 #[.string ⟨l.toArray⟩] w fun e w'=>e=.returned (.bool (isL l))/\Below w.heap.size w w':=by
 have c1:=Sd l w hs
 by_cases h:1<=AU l
 ·have E:=I (show isL l=true by simp [isL,h])
  have t:decide (0<AU l)=true:=by simp;omega
  clear h;go_enter Tryz.func64,Tryz.ntmps64
  go_wp2_with (go_at_call 101;refine Aj c1 ?_;rintro w1 M;clear c1;have H1:=I M;clear M)
  go_ret;exact⟨by rw[E.o];rfl,H1.o⟩
 ·have E:=I (show isL l=false by simp [isL];omega)
  have O:AU l=0:=by omega
  rw[O] at c1;clear h O;go_enter Tryz.func64,Tryz.ntmps64
  go_wp2_with (go_at_call 101;refine Aj c1 ?_;rintro w1 M;clear c1;have H1:=I M;clear M)
  go_ret;exact⟨by rw[E.o];rfl,H1.o⟩
end Nm
namespace Nm
open Go.RowKit Af
attribute [local go_sem] Et List.getElem_cons_zero List.getElem_cons_succ Cg Ch Dt
theorem VQ {n:L} (h:n.length<8):tgL n=false:=by
 cases q:preL krb n with
 |false=>rw[tgL,q];rfl
 |true=>
  have O:n.drop 7 = []:=List.drop_of_length_le (by omega);have M:cpL krb n = []:=by rw[cpL,q,if_pos rfl];exact O
  rw[tgL,M,show isL []=false from by decide,Bool.and_false]
theorem tg_eq (n:L):tgL n=((n.take 7==krb)&&isL (n.drop 7)):=by
 have e:=Pg krb n;rw[show krb.length=7 from rfl] at e;rw[tgL,e];cases q:preL krb n with
 |false=>rfl
 |true=>rw[cpL,q];rfl
theorem NI (n:L) (w:World) (hs:n.length<=1000000000):Calls Tryz.prog 65 #[.string ⟨n.toArray⟩] w fun e w'=>e=.returned (.tuple #[.string ⟨(tgR n).toArray⟩,.bool (tgL n)])/\Below w.heap.size w w':=by
 have c2:=NH (n.drop 7) w (by simp;omega);have Z:=I (Below.refl w.heap.size w)
 by_cases h8:n.length<8
 ·have M:=I (VQ h8)
  have O:=I (show tgR n = [] by rw[tgR,M.o];rfl);have t1:decide ((n.length:Int)<8)=true:=by simp;omega
  clear h8 hs;go_enter Tryz.func65,Tryz.ntmps65
  go_wp2_with fail
  go_ret2
  exact⟨by rw[M.o,O.o];rfl,Z.o⟩
 ·have t1:decide ((n.length:Int)<8)=false:=by simp;omega
  have e7:(7:Int)<=(n.length:Int):=by omega
  have eq:=tg_eq n;clear h8;cases h1:(n.take 7==krb) with
  |false=>
   rw[h1] at eq;have t2:(n.take 7 == [107,114,98,116,103,116,47])=false:=h1;have M:=I (show tgL n=false from eq);have O:=I (show tgR n = [] by rw[tgR,M.o];rfl);clear eq h1 hs;go_enter Tryz.func65,Tryz.ntmps65
   go_wp2_with fail
   go_ret2
   exact⟨by rw[M.o,O.o];rfl,Z.o⟩
  |true=>
   rw[h1,Bool.true_and] at eq;have t2:(n.take 7 == [107,114,98,116,103,116,47])=true:=h1;clear h1 hs;cases h2:isL (n.drop 7) with
   |false=>
    rw[h2] at c2 eq;have M:=I eq;have O:=I (show tgR n = [] by rw[tgR,M.o];rfl);clear eq h2;go_enter Tryz.func65,Tryz.ntmps65
    go_wp2_with (go_at_call 64;refine Aj c2 ?_;rintro w2 hd;clear c2;have H2:=I hd;clear hd)
    go_ret2
    exact⟨by rw[M.o,O.o];rfl,H2.o⟩
   |true=>
    rw[h2] at c2 eq;have M:=I eq;have O:=I (show tgR n=n.drop 7 by rw[tgR,M.o];rfl);clear eq h2;go_enter Tryz.func65,Tryz.ntmps65
    go_wp2_with (go_at_call 64;refine Aj c2 ?_;rintro w2 hd;clear c2;have H2:=I hd;clear hd)
    go_ret2
    exact⟨by rw[M.o,O.o];rfl,H2.o⟩
theorem VR {p:UInt8->Bool} {l:L} (h:∀i (h:i<l.length),p l[i]=true):Cn p l=(decide (1<=l.length)&&decide (l.length<=8)):=by
 have O:l.all p=true:=by
  rw[List.all_eq_true];intro x M;obtain⟨i,hi,rfl⟩:=List.getElem_of_mem M;exact h i hi
 rw[Cn,O,Bool.and_true]
theorem Ec (r n:L) (w:World) (hs:r.length<=1000000000) (cf:n.length<=1000000000):Calls Tryz.prog 29 #[.agg #[.string ⟨r.toArray⟩,.string ⟨n.toArray⟩]] w fun e w'=>e=.returned (.bool (Cu r n))/\Below w.heap.size w w':=by
 have c1:=NH r (w.alloc (.cells #[.string ⟨r.toArray⟩,.string ⟨n.toArray⟩] 30)) hs;have hk:=Blk.new w 30 #[.string ⟨r.toArray⟩,.string ⟨n.toArray⟩];have bz:=(Below.refl w.heap.size w).alloc Ag (.cells #[.string ⟨r.toArray⟩,.string ⟨n.toArray⟩] 30);have ca:w.heap.size<(w.alloc (.cells #[.string ⟨r.toArray⟩,.string ⟨n.toArray⟩] 30)).heap.size:=by simp
 obtain⟨N,eN⟩:=Ak (w.heap.size);have C2:=I (fun w1=>NI n w1 cf);have E1:=I (show Cu r n=(isL r&&(tgL n||Cn Ct n)) from rfl);rw[<-eN] at hk bz ca⊢;have EN:=I eN;clear eN;have HK:=I hk;clear hk;have cd:=I bz;clear bz;have bn:=I ca;clear ca hs;cases h1:isL r with
 |false=>
  rw[h1] at c1;have E:=I (show Cu r n=false by rw[E1.o,h1];rfl);clear h1;go_enter Tryz.func29,Tryz.ntmps29
  go_wp2_with (go_at_call 64;refine Aj c1 ?_;rintro w1 Z;clear c1;have H1:=I (cd.o.trans (Z.mono (Nat.le_of_lt bn.o)));clear Z)
  go_ret;exact⟨by rw[E.o];rfl,H1.o⟩
 |true=>
  rw[h1] at c1;cases h2:tgL n with
  |true=>
   have E:=I (show Cu r n=true by rw[E1.o,h1,h2];rfl);have HT:=I h2;clear h1 h2;go_enter Tryz.func29,Tryz.ntmps29
   go_wp2_with (first
    |(go_at_call 64;refine Aj c1 ?_;rintro w1 Z;clear c1;have H1:=I (cd.o.trans (Z.mono (Nat.le_of_lt bn.o)));have M:=HK.o.below Z;have cc:=I M;have av:=M.cell 1;have bb:N<w1.heap.size:=(by have:=Z.size;have:=bn.o;omega);have bB:=I bb;rw[EN.o] at av;clear Z bb M;have c2:=C2.o w1;rw[HT.o] at c2)
    |(go_at_call 65;refine Aj c2 ?_;rintro w2 hb;clear c2 av;have H2:=I (H1.o.trans (hb.mono (Nat.le_of_lt bB.o)));have cb:=(cc.o.below hb).cell 1;rw[EN.o] at cb;clear hb))
   go_ret;exact⟨by rw[E.o];rfl,H2.o⟩
  |false=>
   have E:=I (show Cu r n=Cn Ct n by rw[E1.o,h1,h2];rfl);have HT:=I h2;clear h1 h2;go_enter Tryz.func29,Tryz.ntmps29
   go_wp2_with (first
    |(go_at_call 64;refine Aj c1 ?_;rintro w1 Z;clear c1;have H1:=I (cd.o.trans (Z.mono (Nat.le_of_lt bn.o)));have M:=HK.o.below Z;have cc:=I M;have av:=M.cell 1;have bb:N<w1.heap.size:=(by have:=Z.size;have:=bn.o;omega);have bB:=I bb;rw[EN.o] at av;clear Z bb M;have c2:=C2.o w1;rw[HT.o] at c2)
    |(go_at_call 65;refine Aj c2 ?_;rintro w2 hb;clear c2 av;have H2:=I (H1.o.trans (hb.mono (Nat.le_of_lt bB.o)));have cb:=(cc.o.below hb).cell 1;rw[EN.o] at cb;clear hb))
   go_loop [5] (fun iv=>∃k:Nat,k<=n.length/\iv=.int .i64 (k:Int)/\Fit Ct n k) (fun iv=>n.length - (intOf iv).toNat)
   case atStart=>exact⟨0,Nat.zero_le _,rfl,fun i _ h=>by omega⟩
   case round=>
    obtain⟨k,hk,rfl,hf⟩:=hrel;have HF:=I hf;clear hf
    by_cases hlt:k<n.length
    ·have e1:(k:Int)<(n.length:Int):=by omega
     have hb:=Fs n[k];have bx:Ct n[k]=false->Hid (Cu r n=false):=fun h=>I (by rw[E.o];exact GB hlt h)
     have bq:=I bx;clear bx;have aw:Ct n[k]=true->Hid (Fit Ct n (k+1)):=fun h=>I (fun i hi cg=>by
      by_cases q:i=k
      ·subst q;exact h
      ·exact HF.o i hi (by omega))
     have bs:=I aw;clear aw
     by_cases q1:n[k].toNat<97
     ·have s1:decide ((n[k].toNat:Int)<97)=true:=by simp;omega
      by_cases q2:n[k].toNat<48
      ·have s2:decide ((n[k].toNat:Int)<48)=true:=by simp;omega
       have O:=bq.o (by simp [Ct,DN];omega);clear q1 q2
       go_wp2
       go_ret;exact⟨by rw[O.o];rfl,H2.o⟩
      ·have s2:decide ((n[k].toNat:Int)<48)=false:=by simp;omega
       by_cases q3:57<n[k].toNat
       ·have s3:decide (57<(n[k].toNat:Int))=true:=by simp;omega
        have O:=bq.o (by simp [Ct,DN];omega);clear q1 q2 q3
        go_wp2
        go_ret;exact⟨by rw[O.o];rfl,H2.o⟩
       ·have s3:decide (57<(n[k].toNat:Int))=false:=by simp;omega
        have O:=bs.o (by simp [Ct,DN];omega);clear q1 q2 q3
        go_wp2
        go_round
        case rel=>exact⟨k+1,by omega,by go_num,O.o⟩
        case measure=>simp [intOf];omega
     ·have s1:decide ((n[k].toNat:Int)<97)=false:=by simp;omega
      by_cases q2:122<n[k].toNat
      ·have s2:decide (122<(n[k].toNat:Int))=true:=by simp;omega
       have s3:decide ((n[k].toNat:Int)<48)=false:=by simp;omega
       have s4:decide (57<(n[k].toNat:Int))=true:=by simp;omega
       have O:=bq.o (by simp [Ct,DN];omega);clear q1 q2
       go_wp2
       go_ret;exact⟨by rw[O.o];rfl,H2.o⟩
      ·have s2:decide (122<(n[k].toNat:Int))=false:=by simp;omega
       have O:=bs.o (by simp [Ct,DN];omega);clear q1 q2
       go_wp2
       go_round
       case rel=>exact⟨k+1,by omega,by go_num,O.o⟩
       case measure=>simp [intOf];omega
    ·obtain rfl:k=n.length:=by omega
     have e1:¬(n.length:Int)<(n.length:Int):=by omega
     have O:=I (E.o.trans (VR (fun i hi=>HF.o i hi hi)))
     by_cases g1:1<=n.length
     ·have t1:decide ((1:Int)<=(n.length:Int))=true:=by simp;omega
      by_cases g2:n.length<=8
      ·have t2:decide ((n.length:Int)<=8)=true:=by simp;omega
       have E3:=I (O.o.trans (show(decide (1<=n.length)&&decide (n.length<=8))=true by simp;omega));clear g1 g2
       go_wp2
       go_ret;exact⟨by rw[E3.o];rfl,H2.o⟩
      ·have t2:decide ((n.length:Int)<=8)=false:=by simp;omega
       have E3:=I (O.o.trans (show(decide (1<=n.length)&&decide (n.length<=8))=false by simp;omega));clear g1 g2
       go_wp2
       go_ret;exact⟨by rw[E3.o];rfl,H2.o⟩
     ·have t1:decide ((1:Int)<=(n.length:Int))=false:=by simp;omega
      have E3:=I (O.o.trans (show(decide (1<=n.length)&&decide (n.length<=8))=false by simp;omega));clear g1
      go_wp2
      go_ret;exact⟨by rw[E3.o];rfl,H2.o⟩
end Nm
end Go.Proofs.YtiecjolmennkfaaGreat
