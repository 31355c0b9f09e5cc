import Derived.WalkKit
import Derived.WalkSpells
import Derived.WalkLawsBesides
import Derived.LaidEqlPtr
import Derived.Maps.AppendAt
import Derived.Maps.Range
import Derived.Maps.RangeWalk
import Derived.Deep.AppendLies
import Derived.Deep.Draws
import Derived.Deep.Onto
import Derived.Lib.ConvBytes
import Derived.Lib.Hide
import Derived.RegionTactic
import Derived.Deep.QuietTactic
import Derived.BigQuiet
import Derived.Laws.BitsAllLaws
import Derived.Laws.BitsLemmas
import Derived.Test.YtfbnjcdhipplpaaGreatProg
import Derived.Lib.Strings
import Derived.Lib.Walk
import Derived.Lib.Bytealg
import Derived.Lib.BufferWrite
import Derived.Lib.UnsafeStr
import Derived.Laws.MakeOwn
import Derived.Laws.OwnMore
import Derived.Deep.WholeRow
import Derived.Deep.LoopGhost
import Derived.Lib.ItoaNum
import Derived.Lib.BitFns
import Derived.Lib.Tables
import Derived.Lib.MinMax
import Derived.IntWalk
import Derived.Laws.AppendOwn
import Derived.Lib.AppendStr
import Derived.DeepKeys
import Derived.Deep.RegionHeld3
import Derived.Deep.Cut
import Derived.Deep.CutRange
import Derived.Deep.CutBlock
import Derived.Deep.MidRow
import Derived.StillTailTactics
import Derived.Laws.Bits64
import Derived.Deep.RegionLaw
import Derived.Laws.Bits64b
import Derived.ProofKit
import Derived.OpenShut
import Derived.ShutString
import Derived.ChangeOld
import Derived.Deep.Matrix
import Derived.Deep.Slices
import Derived.Lib.SlBytesConst
import Derived.BigFrame
import Derived.Great.BuildSlice
import Derived.Laws.StructEq
import Derived.Lib.SliceRun
import Derived.SizedLaws
import Derived.Test.YtfbnjcdhipplpaaGreatRows
import Derived.Lib.SmallJoins
import Derived.Deep.Strs
import Derived.ChangeSame
import Derived.Laws.IdiomCopy
import Derived.Laws.Tables
import Derived.Below
set_option maxHeartbeats 25600000
set_option maxRecDepth 100000
set_option linter.unusedVariables false
set_option linter.unusedSimpArgs false
theorem Go.RowKit.Hid.o {p : Prop} (h : Go.RowKit.Hid p) : p := h
theorem Go.Aside.o {p : Prop} (h : Go.Aside p) : p := h
theorem Go.Shut.o {p : Prop} (h : Go.Shut p) : p := h
namespace Go.Proofs.YtfbnjcdhipplpaaGreat
theorem I {p : Prop} (h : p) : Go.RowKit.Hid p := h
theorem Aj {P:Program} {f:FuncId} {args:Array Value} {w:World} {r:Ending} {K:World->Prop} {Q:Ending->World->Prop} (h:Calls P f args w fun e w'=>e=r/\K w') (k:∀w',K w'->Q r w'):Calls P f args w Q:=h.mono fun e w' x=>x.1.symm▸k w' x.2
theorem Ak {α:Sort _} (a:α):∃x,x=a:=⟨a,rfl⟩
theorem Ag {n : Nat} : n <= n := Nat.le_refl n
theorem Ah {n : Nat} {w : World} : Go.RowKit.Below n w w := Go.RowKit.Below.refl n w
theorem U {α : Type} (l : List α) (i : Nat) (a : α) : l.toArray.setIfInBounds i a = (l.set i a).toArray := List.setIfInBounds_toArray ..
theorem Aa {α : Type} {x : α} {xs : List α} {a : α} : (x :: xs).set 0 a = a :: xs := rfl
theorem Ab {α : Type} {x : α} {xs : List α} {n : Nat} {a : α} : (x :: xs).set (n + 1) a = x :: xs.set n a := rfl
abbrev Ax : Array Go.Value := #[.string ⟨#[]⟩,.string ⟨#[]⟩,.int .u8 0,.int .u8 0,.int .u8 0,.int .u8 0,.int .u8 0,.int .u8 0,.int .u8 0,.int .u8 0,.int .u8 0,.int .u8 0,.int .u8 0,.int .u8 0,.int .u8 0,.int .u8 0,.int .u8 0,.int .u8 0,.int .u8 0,.int .u8 0,.int .u8 0,.int .u8 0,.int .u8 0,.int .u8 0,.int .u8 0,.int .u8 0,.int .u8 0,.int .u8 0,.int .u8 0,.int .u8 0,.int .u8 0,.int .u8 0,.int .u8 0,.int .u8 0,.string ⟨#[]⟩,.int .i64 0,.int .i64 0]
abbrev Ay : Array Go.Value := #[.int .i64 0,.string ⟨#[]⟩,.string ⟨#[]⟩,.string ⟨#[]⟩,.string ⟨#[]⟩,.int .i64 0,.int .i64 0,.string ⟨#[]⟩,.string ⟨#[]⟩,.int .i64 0,.slice none 0 0,.slice none 0 0,.string ⟨#[]⟩,.string ⟨#[]⟩,.int .i64 0,.int .i64 0,.string ⟨#[]⟩,.string ⟨#[]⟩,.string ⟨#[]⟩,.string ⟨#[]⟩,.int .i64 0,.slice none 0 0,.slice none 0 0,.string ⟨#[]⟩,.string ⟨#[]⟩,.int .i64 0,.slice none 0 0,.slice none 0 0,.int .i64 0,.int .i64 0]
end Go.Proofs.YtfbnjcdhipplpaaGreat
theorem Go.RowKit.Hid.t {a w w' : Go.World} (h : Go.RowKit.Hid (Go.RowKit.Below a.heap.size a w)) (k : Go.RowKit.Below w.heap.size w w') : Go.RowKit.Hid (Go.RowKit.Below a.heap.size a w') := Go.Proofs.YtfbnjcdhipplpaaGreat.I (h.o.trans (k.mono h.o.size))
namespace Go.Proofs.YtfbnjcdhipplpaaGreat
namespace Af
open Go.RowKit
theorem Er (l:List UInt8) (i:Nat) (h:i<(ByteArray.mk l.toArray).size):(ByteArray.mk l.toArray)[i]'h=l[i]'(by simpa [ByteArray.size] using h):=rfl
theorem Cg (a:UInt8) (r:List UInt8):(ByteArray.mk (a :: r).toArray).extract 1 (r.length+1)=ByteArray.mk r.toArray:=by
 rw[ByteArray.extract_mk];simp
theorem Ch (l:List UInt8) (k:Nat):(ByteArray.mk l.toArray).extract k l.length=ByteArray.mk (l.drop k).toArray:=by
 rw[ByteArray.extract_mk,List.take_of_length_le (by simp)]
theorem Dz (l:List UInt8) (k n:Nat):(ByteArray.mk l.toArray).extract k (k+n)=ByteArray.mk ((l.drop k).take n).toArray:=by
 rw[ByteArray.extract_mk,Nat.add_sub_cancel_left]
theorem Fp (a:UInt8):(a.toNat:Int)<=255:=by have:=a.toNat_lt;omega
theorem Rk (a:Nat) (M:a<9223372036854775808):(BitVec.ofInt 64 (a:Int)).toNat=a:=by
 rw[BitVec.ofInt_natCast,BitVec.toNat_ofNat];exact Nat.mod_eq_of_lt (by omega)
theorem Rl (x y:Nat) (hy:y<256) (M:x*256+y<9223372036854775808):bits .or .i64 ((x:Int)*256) (y:Int)=(x:Int)*256+y:=by
 have O:=Rk (x*256) (Nat.lt_of_le_of_lt (Nat.le_add_right _ _) M);have g2:=Rk y (Nat.lt_of_le_of_lt (Nat.le_add_left _ _) M);have e:((x:Int)*256)=((x*256:Nat):Int):=by omega
 have Z:x*256 ||| y=x*256+y:=by
  have h:=Nat.shiftLeft_add_eq_or_of_lt (show y<2 ^ 8 by omega) x;rw[Nat.shiftLeft_eq] at h
  simpa using h.symm
 rw[e];show IntKind.i64.wrap ((BitVec.ofInt 64 ((x*256:Nat):Int) ||| BitVec.ofInt 64 (y:Int)).toNat:Int)=_;rw[BitVec.toNat_or,O,g2,Z,IntKind.wrap_i64];omega
def bv (b:UInt8):Value:=.int .u8 (b.toNat:Int)
def bvs (l:List UInt8):List Value:=l.map bv
theorem AG (l:List UInt8):(bvs l).length=l.length:=by simp [bvs]
theorem BA (l m:List UInt8):bvs (l++m)=bvs l++bvs m:=by simp [bvs]
theorem BB (l:List UInt8):∀u∈bvs l,u.oneCell'=true:=by
 intro u hu;obtain⟨b,_,rfl⟩:=List.mem_map.1 hu
 rfl
theorem Gg {l:List UInt8} {i:Nat} (h:i<l.length):(bvs l)[i]? = some (bv l[i]):=by simp [bvs,h]
def Rd (w:World) (B:Nat) (A:Option Addr) (xs:List Value):Prop:=
 xs = []\/∃b o,A=some ⟨b,o,none⟩/\b<B/\∀i u,xs[i]? = some u->w.cell? ⟨b,o+i,none⟩=some u
def Blk (w:World) (g:Nat) (t:TypeId) (cs:Array Value):Prop:=w.heap[g]? = some (.cells cs t (0,0))
theorem addr_add (b o j:Nat):(⟨b,o,none⟩:Addr).add j=⟨b,o+j,none⟩:=by unfold Addr.add;split<;>simp_all
section
variable {w w' a c:World} {B B' g:Nat} {A:Option Addr} {xs:List Value} {t:TypeId} {cs:Array Value}
theorem IW {row:Option Nat} (h:a.grownBy w row) (n:Nat):a.grownBy (w.drewN n) row:=⟨h.os,h.tape,h.output,h.size,h.block⟩
theorem Ba {row:Option Nat} (h:a.grownBy w row):a.grownBy w.drew row:=⟨h.os,h.tape,h.output,h.size,h.block⟩
theorem DJ {row:Option Nat} (h:a.grownBy w row) (o:Obj):a.grownBy (w.alloc o) row:=
 ⟨h.os,h.tape,h.output,Nat.le_trans h.size (by simp),fun i hi M=>(Below.heap_alloc w o i (Nat.lt_of_lt_of_le hi h.size)).trans (h.block i hi M)⟩
theorem AN {row:Option Nat} (h:a.grownBy w row) {p:Addr} (hp:row=some p.block\/a.heap.size<=p.block) (u:Value):a.grownBy (w.setCell p u) row:=
 ⟨h.os,h.tape,h.output,by simpa [World.setCell] using h.size,fun i hi M=>(Below.heap_setCell w p u i (by
  rintro rfl;rcases hp with hp | hp
  ·exact M hp.symm
  ·omega)).trans (h.block i hi M)⟩
theorem Dh (h:Below a.heap.size a w) (row:Option Nat):a.grownBy w row:=⟨h.os,h.tape,h.output,h.size,fun i hi _=>h.block i hi⟩
theorem IX {row:Option Nat} (h:a.grownBy w row) (k:Below w.heap.size w c):a.grownBy c row:=
 ⟨k.os.trans h.os,k.tape.trans h.tape,k.output.trans h.output,Nat.le_trans h.size k.size,fun i hi M=>(k.block i (Nat.lt_of_lt_of_le hi h.size)).trans (h.block i hi M)⟩
theorem Hn (h:Below B a w) (hB:B<=w.heap.size) (k:Below w.heap.size w c):Below B a c:=h.trans (k.mono hB)
theorem Az (h:Below B a w) (k:w.grownBy c (some g)) (hB:B<=w.heap.size) (O:B<=g):Below B a c:=
 h.grown k hB (fun j M=>by injection M with M;omega)
theorem bt (h:Below a.heap.size a w) (k:Below w.heap.size w c):Below a.heap.size a c:=h.trans (k.mono h.size)
theorem Blk.lt (h:Blk w g t cs):g<w.heap.size:=by
 rcases Nat.lt_or_ge g w.heap.size with M | M
 ·exact M
 ·unfold Blk at h;rw[Array.getElem?_eq_none M] at h;cases h
theorem Blk.cell (h:Blk w g t cs) (i:Nat):w.cell? ⟨g,i,none⟩=cs[i]?:=cell_of_row w g i cs t (0,0) h
theorem Blk.frozen (h:Blk w g t cs) (i:Nat):w.frozen? ⟨g,i,none⟩=false:=by
 unfold Blk at h;simp [World.frozen?,h]
theorem Blk.new (w:World) (t:TypeId) (cs:Array Value):Blk (w.alloc (.cells cs t)) w.heap.size t cs:=heap_alloc_new w _
theorem Blk.drewN (h:Blk w g t cs) (n:Nat):Blk (w.drewN n) g t cs:=h
theorem Blk.alloc (h:Blk w g t cs) (o:Obj):Blk (w.alloc o) g t cs:=(Below.heap_alloc w o g h.lt).trans h
theorem Blk.set (h:Blk w g t cs) (i:Nat) (u:Value):Blk (w.setCell ⟨g,i,none⟩ u) g t (cs.setIfInBounds i u):=by
 unfold Blk at h⊢;simp [World.setCell,Array.getElem?_modify,h]
section
variable {w:World} {g:Nat} {t:TypeId} {a b c d e f i j k m n o p q r u v y z A B C D E F G H J K x:Value} {l:List Value}
theorem Blk.c0 (h:Blk w g t (x::l).toArray):w.cell? ⟨g,0,none⟩=some x:=by simpa using h.cell 0
theorem Blk.c1 (h:Blk w g t (a::x::l).toArray):w.cell? ⟨g,1,none⟩=some x:=by simpa using h.cell 1
theorem Blk.c2 (h:Blk w g t (a::b::x::l).toArray):w.cell? ⟨g,2,none⟩=some x:=by simpa using h.cell 2
theorem Blk.c3 (h:Blk w g t (a::b::c::x::l).toArray):w.cell? ⟨g,3,none⟩=some x:=by simpa using h.cell 3
theorem Blk.c4 (h:Blk w g t (a::b::c::d::x::l).toArray):w.cell? ⟨g,4,none⟩=some x:=by simpa using h.cell 4
theorem Blk.c5 (h:Blk w g t (a::b::c::d::e::x::l).toArray):w.cell? ⟨g,5,none⟩=some x:=by simpa using h.cell 5
theorem Blk.c6 (h:Blk w g t (a::b::c::d::e::f::x::l).toArray):w.cell? ⟨g,6,none⟩=some x:=by simpa using h.cell 6
theorem Blk.c7 (h:Blk w g t (a::b::c::d::e::f::i::x::l).toArray):w.cell? ⟨g,7,none⟩=some x:=by simpa using h.cell 7
theorem Blk.c8 (h:Blk w g t (a::b::c::d::e::f::i::j::x::l).toArray):w.cell? ⟨g,8,none⟩=some x:=by simpa using h.cell 8
theorem Blk.c9 (h:Blk w g t (a::b::c::d::e::f::i::j::k::x::l).toArray):w.cell? ⟨g,9,none⟩=some x:=by simpa using h.cell 9
theorem Blk.c10 (h:Blk w g t (a::b::c::d::e::f::i::j::k::m::x::l).toArray):w.cell? ⟨g,10,none⟩=some x:=by simpa using h.cell 10
theorem Blk.c11 (h:Blk w g t (a::b::c::d::e::f::i::j::k::m::n::x::l).toArray):w.cell? ⟨g,11,none⟩=some x:=by simpa using h.cell 11
theorem Blk.c12 (h:Blk w g t (a::b::c::d::e::f::i::j::k::m::n::o::x::l).toArray):w.cell? ⟨g,12,none⟩=some x:=by simpa using h.cell 12
theorem Blk.c13 (h:Blk w g t (a::b::c::d::e::f::i::j::k::m::n::o::p::x::l).toArray):w.cell? ⟨g,13,none⟩=some x:=by simpa using h.cell 13
theorem Blk.c14 (h:Blk w g t (a::b::c::d::e::f::i::j::k::m::n::o::p::q::x::l).toArray):w.cell? ⟨g,14,none⟩=some x:=by simpa using h.cell 14
theorem Blk.c15 (h:Blk w g t (a::b::c::d::e::f::i::j::k::m::n::o::p::q::r::x::l).toArray):w.cell? ⟨g,15,none⟩=some x:=by simpa using h.cell 15
theorem Blk.c16 (h:Blk w g t (a::b::c::d::e::f::i::j::k::m::n::o::p::q::r::u::x::l).toArray):w.cell? ⟨g,16,none⟩=some x:=by simpa using h.cell 16
theorem Blk.c17 (h:Blk w g t (a::b::c::d::e::f::i::j::k::m::n::o::p::q::r::u::v::x::l).toArray):w.cell? ⟨g,17,none⟩=some x:=by simpa using h.cell 17
theorem Blk.c18 (h:Blk w g t (a::b::c::d::e::f::i::j::k::m::n::o::p::q::r::u::v::y::x::l).toArray):w.cell? ⟨g,18,none⟩=some x:=by simpa using h.cell 18
theorem Blk.c19 (h:Blk w g t (a::b::c::d::e::f::i::j::k::m::n::o::p::q::r::u::v::y::z::x::l).toArray):w.cell? ⟨g,19,none⟩=some x:=by simpa using h.cell 19
theorem Blk.c20 (h:Blk w g t (a::b::c::d::e::f::i::j::k::m::n::o::p::q::r::u::v::y::z::A::x::l).toArray):w.cell? ⟨g,20,none⟩=some x:=by simpa using h.cell 20
theorem Blk.c21 (h:Blk w g t (a::b::c::d::e::f::i::j::k::m::n::o::p::q::r::u::v::y::z::A::B::x::l).toArray):w.cell? ⟨g,21,none⟩=some x:=by simpa using h.cell 21
theorem Blk.c22 (h:Blk w g t (a::b::c::d::e::f::i::j::k::m::n::o::p::q::r::u::v::y::z::A::B::C::x::l).toArray):w.cell? ⟨g,22,none⟩=some x:=by simpa using h.cell 22
theorem Blk.c23 (h:Blk w g t (a::b::c::d::e::f::i::j::k::m::n::o::p::q::r::u::v::y::z::A::B::C::D::x::l).toArray):w.cell? ⟨g,23,none⟩=some x:=by simpa using h.cell 23
theorem Blk.c24 (h:Blk w g t (a::b::c::d::e::f::i::j::k::m::n::o::p::q::r::u::v::y::z::A::B::C::D::E::x::l).toArray):w.cell? ⟨g,24,none⟩=some x:=by simpa using h.cell 24
theorem Blk.c25 (h:Blk w g t (a::b::c::d::e::f::i::j::k::m::n::o::p::q::r::u::v::y::z::A::B::C::D::E::F::x::l).toArray):w.cell? ⟨g,25,none⟩=some x:=by simpa using h.cell 25
theorem Blk.c26 (h:Blk w g t (a::b::c::d::e::f::i::j::k::m::n::o::p::q::r::u::v::y::z::A::B::C::D::E::F::G::x::l).toArray):w.cell? ⟨g,26,none⟩=some x:=by simpa using h.cell 26
theorem Blk.c27 (h:Blk w g t (a::b::c::d::e::f::i::j::k::m::n::o::p::q::r::u::v::y::z::A::B::C::D::E::F::G::H::x::l).toArray):w.cell? ⟨g,27,none⟩=some x:=by simpa using h.cell 27
theorem Blk.c28 (h:Blk w g t (a::b::c::d::e::f::i::j::k::m::n::o::p::q::r::u::v::y::z::A::B::C::D::E::F::G::H::J::x::l).toArray):w.cell? ⟨g,28,none⟩=some x:=by simpa using h.cell 28
theorem Blk.c29 (h:Blk w g t (a::b::c::d::e::f::i::j::k::m::n::o::p::q::r::u::v::y::z::A::B::C::D::E::F::G::H::J::K::x::l).toArray):w.cell? ⟨g,29,none⟩=some x:=by simpa using h.cell 29
theorem _root_.Go.RowKit.Hid.c0 (h:Go.RowKit.Hid (Blk w g t (x::l).toArray)):w.cell? ⟨g,0,none⟩=some x:=h.o.c0
theorem _root_.Go.RowKit.Hid.c1 (h:Go.RowKit.Hid (Blk w g t (a::x::l).toArray)):w.cell? ⟨g,1,none⟩=some x:=h.o.c1
theorem _root_.Go.RowKit.Hid.c2 (h:Go.RowKit.Hid (Blk w g t (a::b::x::l).toArray)):w.cell? ⟨g,2,none⟩=some x:=h.o.c2
theorem _root_.Go.RowKit.Hid.c3 (h:Go.RowKit.Hid (Blk w g t (a::b::c::x::l).toArray)):w.cell? ⟨g,3,none⟩=some x:=h.o.c3
theorem _root_.Go.RowKit.Hid.c4 (h:Go.RowKit.Hid (Blk w g t (a::b::c::d::x::l).toArray)):w.cell? ⟨g,4,none⟩=some x:=h.o.c4
theorem _root_.Go.RowKit.Hid.c5 (h:Go.RowKit.Hid (Blk w g t (a::b::c::d::e::x::l).toArray)):w.cell? ⟨g,5,none⟩=some x:=h.o.c5
theorem _root_.Go.RowKit.Hid.c6 (h:Go.RowKit.Hid (Blk w g t (a::b::c::d::e::f::x::l).toArray)):w.cell? ⟨g,6,none⟩=some x:=h.o.c6
theorem _root_.Go.RowKit.Hid.c7 (h:Go.RowKit.Hid (Blk w g t (a::b::c::d::e::f::i::x::l).toArray)):w.cell? ⟨g,7,none⟩=some x:=h.o.c7
theorem _root_.Go.RowKit.Hid.c8 (h:Go.RowKit.Hid (Blk w g t (a::b::c::d::e::f::i::j::x::l).toArray)):w.cell? ⟨g,8,none⟩=some x:=h.o.c8
theorem _root_.Go.RowKit.Hid.c16 (h:Go.RowKit.Hid (Blk w g t (a::b::c::d::e::f::i::j::k::m::n::o::p::q::r::u::x::l).toArray)):w.cell? ⟨g,16,none⟩=some x:=h.o.c16
theorem _root_.Go.RowKit.Hid.c17 (h:Go.RowKit.Hid (Blk w g t (a::b::c::d::e::f::i::j::k::m::n::o::p::q::r::u::v::x::l).toArray)):w.cell? ⟨g,17,none⟩=some x:=h.o.c17
theorem _root_.Go.RowKit.Hid.c18 (h:Go.RowKit.Hid (Blk w g t (a::b::c::d::e::f::i::j::k::m::n::o::p::q::r::u::v::y::x::l).toArray)):w.cell? ⟨g,18,none⟩=some x:=h.o.c18
theorem _root_.Go.RowKit.Hid.c19 (h:Go.RowKit.Hid (Blk w g t (a::b::c::d::e::f::i::j::k::m::n::o::p::q::r::u::v::y::z::x::l).toArray)):w.cell? ⟨g,19,none⟩=some x:=h.o.c19
theorem _root_.Go.RowKit.Hid.c20 (h:Go.RowKit.Hid (Blk w g t (a::b::c::d::e::f::i::j::k::m::n::o::p::q::r::u::v::y::z::A::x::l).toArray)):w.cell? ⟨g,20,none⟩=some x:=h.o.c20
theorem _root_.Go.RowKit.Hid.c21 (h:Go.RowKit.Hid (Blk w g t (a::b::c::d::e::f::i::j::k::m::n::o::p::q::r::u::v::y::z::A::B::x::l).toArray)):w.cell? ⟨g,21,none⟩=some x:=h.o.c21
theorem _root_.Go.RowKit.Hid.c22 (h:Go.RowKit.Hid (Blk w g t (a::b::c::d::e::f::i::j::k::m::n::o::p::q::r::u::v::y::z::A::B::C::x::l).toArray)):w.cell? ⟨g,22,none⟩=some x:=h.o.c22
theorem _root_.Go.RowKit.Hid.c23 (h:Go.RowKit.Hid (Blk w g t (a::b::c::d::e::f::i::j::k::m::n::o::p::q::r::u::v::y::z::A::B::C::D::x::l).toArray)):w.cell? ⟨g,23,none⟩=some x:=h.o.c23
theorem _root_.Go.RowKit.Hid.c24 (h:Go.RowKit.Hid (Blk w g t (a::b::c::d::e::f::i::j::k::m::n::o::p::q::r::u::v::y::z::A::B::C::D::E::x::l).toArray)):w.cell? ⟨g,24,none⟩=some x:=h.o.c24
theorem _root_.Go.RowKit.Hid.c25 (h:Go.RowKit.Hid (Blk w g t (a::b::c::d::e::f::i::j::k::m::n::o::p::q::r::u::v::y::z::A::B::C::D::E::F::x::l).toArray)):w.cell? ⟨g,25,none⟩=some x:=h.o.c25
theorem _root_.Go.RowKit.Hid.c26 (h:Go.RowKit.Hid (Blk w g t (a::b::c::d::e::f::i::j::k::m::n::o::p::q::r::u::v::y::z::A::B::C::D::E::F::G::x::l).toArray)):w.cell? ⟨g,26,none⟩=some x:=h.o.c26
theorem _root_.Go.RowKit.Hid.c27 (h:Go.RowKit.Hid (Blk w g t (a::b::c::d::e::f::i::j::k::m::n::o::p::q::r::u::v::y::z::A::B::C::D::E::F::G::H::x::l).toArray)):w.cell? ⟨g,27,none⟩=some x:=h.o.c27
end
theorem Blk.below (h:Blk w g t cs) (M:Below w.heap.size w w'):Blk w' g t cs:=(M.block g h.lt).trans h
theorem Blk.grown {row:Option Nat} (h:Blk w g t cs) (O:w.grownBy w' row) (M:row≠some g):Blk w' g t cs:=(O.block g h.lt (fun e=>M e.symm)).trans h
theorem Rd.keep (h:Rd w B A xs) (hk:∀b o,b<B->w'.cell? ⟨b,o,none⟩=w.cell? ⟨b,o,none⟩):Rd w' B A xs:=by
 rcases h with h | ⟨b,o,O,M,Z⟩
 ·exact .inl h
 ·exact .inr ⟨b,o,O,M,fun i u hu=>(hk _ _ M).trans (Z i u hu)⟩
theorem Rd.more (h:Rd w B A xs) (hB:B<=B'):Rd w B' A xs:=by
 rcases h with h | ⟨b,o,M,Z,O⟩
 ·exact .inl h
 ·exact .inr ⟨b,o,M,by omega,O⟩
theorem Rd.below (h:Rd w B A xs) (M:Below B w w'):Rd w' B A xs:=h.keep fun _ _ hp=>M.cell hp
theorem Rd.drewN (h:Rd w B A xs) (n:Nat):Rd (w.drewN n) B A xs:=h.keep fun _ _ _=>rfl
theorem Rd.alloc (h:Rd w B A xs) (hB:B<=w.heap.size) (o:Obj):Rd (w.alloc o) B A xs:=
 h.below ((Below.refl B w).alloc hB o)
theorem Rd.grown {row:Option Nat} (h:Rd w B A xs) (M:w.grownBy w' row) (hB:B<=w.heap.size) (O:∀k,row=some k->B<=k):Rd w' B A xs:=
 h.below ((Below.refl B w).grown M hB O)
theorem Rd.of_own {base n cap:Nat} (h:w.ownsRow base t 1 (.slice A n cap) n xs):Rd w w.heap.size A xs:=by
 rcases h.2 with⟨_,h2⟩ | ⟨g,M,cur,hv,_,Z,_⟩
 ·left
  have O:=h.1;rw[h2] at O;exact List.eq_nil_of_length_eq_zero (by simpa using O)
 ·right
  injection hv with hA _ _;subst hA;exact⟨g,0,rfl,(Array.getElem?_eq_some_iff.1 Z).1,fun i u hu=>by
   have:=h.cells (g:=g) rfl i u hu
   rwa [addr_add] at this⟩
theorem BU {base n size:Nat} {v:Value} (h:w.ownsRow base t size v n xs) (M:Below w.heap.size w w'):w'.ownsRow base t size v n xs:=
 h.kept (Dh M none) (by cases v.ownBlock<;>simp)
theorem Rd.at_ {i:Nat} {u:Value} (h:Rd w B A xs) (hi:xs[i]? = some u):∃b o,A=some ⟨b,o,none⟩/\b<B/\w.cell? ⟨b,o+i,none⟩=some u:=by
 rcases h with h | ⟨b,o,O,M,Z⟩
 ·subst h;simp at hi
 ·exact⟨b,o,O,M,Z i u hi⟩
end
section
variable {P:Program} (w:World)
theorem Es {B:Nat} {A:Option Addr} {l:List UInt8} (src e:TypeId) (hs:P.underlying src=some (.slice e)) (he:P.underlying e=some (.int .u8)) (h:Rd w B A (bvs l)) (n c:Nat) (hn:n=l.length)
  (dst:TypeId) (Z:P.underlying dst=some .string):(convert src dst (.slice A n c)).run P w=.ok (.string ⟨l.toArray⟩) w:=by
 subst hn;have key:∀a:Addr,A=some a->(∀i u,(bvs l)[i]? = some u->w.cell? (a.add i)=some u)->(convert src dst (.slice A l.length c)).run P w=.ok (.string ⟨l.toArray⟩) w:=by
  intro a ha hc;subst ha;have e1:(l.map fun b=>(b.toNat:Int)).map (Value.int .u8)=bvs l:=by simp [bvs,bv,Function.comp_def]
  have O:(loadCells a l.length).run P w=.ok ((l.map fun b=>(b.toNat:Int)).map (Value.int .u8)).toArray w:=by
   have:=run_loadCells_list (P:=P) w a (bvs l) hc;rw[AG] at this;rw[e1];exact this
  rw[run_convert_bytes_string w src dst e _ _ c hs he Z,run_bytesToString w a l.length c _ O,foldl_push_bytes];have e2:((l.map fun b=>(b.toNat:Int)).map fun n=>UInt8.ofNat n.toNat)=l:=by
   rw[List.map_map]
   conv=>rhs;rw[<-List.map_id l]
   apply List.map_congr_left;intro b _;simp
  rw[e2];simp [ByteArray.empty,ByteArray.emptyWithCapacity]
  rfl
 cases hA:A with
 |some a=>
  rw[<-hA];refine key a hA ?_;rcases h with h | ⟨b,o,M,_,h3⟩
  ·rw[h];intro i u hu;simp at hu
  ·rw[hA] at M
   injection M with M;subst M;intro i u hu;rw[addr_add];exact h3 i u hu
 |none=>
  have O:l = []:=by
   rcases h with h | ⟨b,o,M,_,_⟩
   ·exact List.map_eq_nil_iff.1 h
   ·rw[hA] at M;cases M
  subst O;rw[run_convert_bytes_nil w src e hs he _ c dst Z]
  rfl
theorem Gy (base:Nat) (t ty e:TypeId) (i:TypeInfo) (z:Value) (bytes:Nat) (ht:P.underlying t=some (.slice e)) (hi:P.info? e=some i) (hz:i.zero=some z)
  (av:i.size=1) (bq:i.bytes=bytes) (bn:z.cells.size=1)
  (v:Value) (n:Nat) (xs:List Value) (M:w.ownsRow base e 1 v n xs)
  (B:Nat) (A:Option Addr) (m c:Nat) (news:List Value) (hm:m=news.length) (hr:Rd w B A news) (O:∀u∈news,u.oneCell'=true)
  (bx:n+m<=maxLen) (Z:(n+m)*bytes<=140737488355328) (aw:base<=w.heap.size) :
  ∃v' w',(Builtin.append_ #[t,t] ty #[v,.slice A m c]).run P w=.ok v' w'/\w'.ownsRow base e 1 v' (n+m) (xs++news)/\w.grownBy w' v.ownBlock/\
   (v'.ownBlock=v.ownBlock\/v'.ownBlock=some w.heap.size):=by
 subst hm;cases hA:A with
 |some a=>
  have hc:∀j u,news[j]? = some u->w.cell? (a.add j)=some u:=by
   rcases hr with h | ⟨b,o,O,_,h3⟩
   ·rw[h];intro i u hu;simp at hu
   ·rw[hA] at O
    injection O with O;subst O;intro i u hu;rw[addr_add];exact h3 i u hu
  obtain⟨v',w',bb,h2,h3,_,h5⟩:=run_append_own_at (P:=P) w base t ty e i z 1 bytes ht hi hz av bq bn (by omega) v n xs M a news.length c news (by omega) hc O bx Z aw;exact⟨v',w',bb,h2,h3,h5⟩
 |none=>
  have hn:news = []:=by
   rcases hr with h | ⟨b,o,O,_,_⟩
   ·exact h
   ·rw[hA] at O;cases O
  subst hn;refine⟨v,w,?_,by simpa using M,World.grownBy.refl w _,.inl rfl⟩;rcases M.2 with⟨rfl,rfl⟩ | ⟨g,cap,cur,rfl,_,_,bz,_⟩
  ·simp [Builtin.append_,run_underlying ht,sizeOf,typeInfo,hi,Builtin.lenOf,Builtin.firstCells]
  ·simp [Builtin.append_,run_underlying ht,sizeOf,typeInfo,hi,Builtin.lenOf,Builtin.firstCells,bz,storeCells]
theorem Fu {o:Oper} {a:Act} {K:Act->World->Prop} {Q:Exit->Act->World->Prop} (s x:Operand) (t:TypeId)
  (ho:o.op=.call {callee:=.builtin .append,args:=#[s,x],argTypes:=#[t,t]})
  (base:Nat) (e:TypeId) (i:TypeInfo) (z:Value) (bytes:Nat) (ht:P.underlying t=some (.slice e)) (hi:P.info? e=some i) (hz:i.zero=some z)
  (Z:i.size=1) (bn:i.bytes=bytes) (bb:z.cells.size=1)
  (v:Value) (n:Nat) (xs:List Value) (hs:a.eval s=v) (av:w.ownsRow base e 1 v n xs)
  (B:Nat) (A:Option Addr) (m c:Nat) (news:List Value) (hx:a.eval x=.slice A m c) (hm:m=news.length) (hr:Rd w B A news) (h1:∀u∈news,u.oneCell'=true)
  (bq:n+m<=maxLen) (M:(n+m)*bytes<=140737488355328) (O:base<=w.heap.size)
  (h:∀v' w',w'.ownsRow base e 1 v' (n+m) (xs++news)->w.grownBy w' v.ownBlock->(v'.ownBlock=v.ownBlock\/v'.ownBlock=some w.heap.size)->K (a.put o.dst v') w'):o.wp P a w K Q:=by
 obtain⟨v',w',aw,h2,h3,h4⟩:=Gy (P:=P) w base t o.type e i z bytes ht hi hz Z bn bb v n xs av B A m c news hm hr h1 bq M O;unfold Oper.wp execOp;simp only[ho,resolve,invoke,builtin,Sem.run_bind,Sem.run_pure,Result.andThen_ok,List.map_toArray,List.map_cons,List.map_nil,hs,hx,aw];exact h v' w' h2 h3 h4
theorem AJ {ops:Array Oper} {rest:List Oper} {o:Oper} {a:Act} {Q:Exit->Act->World->Prop} (M:o.guard=none) (s x:Operand) (t:TypeId)
  (Z:o.op=.call {callee:=.builtin .append,args:=#[s,x],argTypes:=#[t,t]})
  (base:Nat) (e:TypeId) (i:TypeInfo) (z:Value) (bytes:Nat) (ht:P.underlying t=some (.slice e)) (hi:P.info? e=some i) (hz:i.zero=some z)
  (hsize:i.size=1) (hby:i.bytes=bytes) (hzs:z.cells.size=1)
  (v:Value) (n:Nat) (xs:List Value) (hs:a.eval s=v) (hown:w.ownsRow base e 1 v n xs)
  (B:Nat) (A:Option Addr) (m c:Nat) (news:List Value) (hx:a.eval x=.slice A m c) (hm:m=news.length) (hr:Rd w B A news) (h1:∀u∈news,u.oneCell'=true)
  (h63:n+m<=maxLen) (hbytes:(n+m)*bytes<=140737488355328) (hbase:base<=w.heap.size)
  (h:∀v' w',w'.ownsRow base e 1 v' (n+m) (xs++news)->w.grownBy w' v.ownBlock->(v'.ownBlock=v.ownBlock\/v'.ownBlock=some w.heap.size)->wpList P ops Q rest (a.put o.dst v') w'):wpList P ops Q (o :: rest) a w:=
 wpList_plain M fun _ hK=>Fu w s x t Z base e i z bytes ht hi hz hsize hby hzs v n xs hs hown B A m c news hx hm hr h1 h63 hbytes hbase fun v' w' O h3 h4=>hK _ _ (h v' w' O h3 h4)
end
def De (n:Nat):Array Value:=(List.replicate n (bv 0)).toArray
theorem Eh (n:Nat):(De n).size=n:=by simp [De]
theorem Gh {P:Program} {t e:TypeId} {i:TypeInfo} (Z:P.underlying t=some (.slice e)) (hi:P.info? e=some i) (M:i.zero=some (.int .u8 0)) (hs:i.size=1) (O:i.bytes=1)
  (C:Int) (n:Nat) (hC:C=(n:Int)) (hn:n<=1000000) (w:World) :
  (Instr.makeSlice t (.int .i64 C) (.int .i64 C)).run P w=.ok (.slice (some ⟨w.heap.size,0,none⟩) n n) (w.alloc (.cells (De n) e)):=by
 subst hC;have h:=run_make (P:=P) w t e i _ Z hi M .i64 .i64 (n:Int) (n:Int) (by omega) (by omega) (by rw[O];omega) (by omega);rw[Int.toNat_natCast,hs,Nat.mul_one] at h;rw[h];have e1:madeCells (Value.int .u8 0).cells n=De n:=by
  apply Array.toList_inj.1;rw[show(Value.int .u8 0).cells=#[Value.int .u8 0] from rfl,toList_madeCells_one];simp [De,bv]
 rw[e1]
theorem Et {P:Program} {t e:TypeId} {i:TypeInfo} (Z:P.underlying t=some (.slice e)) (hi:P.info? e=some i) (M:i.zero=some (.int .u8 0)) (hs:i.size=1) (O:i.bytes=1)
  (C:Int) (n:Nat) (hC:C=(n:Int)) (hn:n<=1000000) (w:World) :
  (Instr.makeSlice t (.int .i64 0) (.int .i64 C)).run P w=.ok (.slice (some ⟨w.heap.size,0,none⟩) 0 n) (w.alloc (.cells (De n) e)):=by
 subst hC;have h:=run_make (P:=P) w t e i _ Z hi M .i64 .i64 0 (n:Int) (by omega) (by omega) (by rw[O];omega) (by omega);rw[Int.toNat_natCast,hs,Nat.mul_one] at h;rw[h];have e1:madeCells (Value.int .u8 0).cells n=De n:=by
  apply Array.toList_inj.1;rw[show(Value.int .u8 0).cells=#[Value.int .u8 0] from rfl,toList_madeCells_one];simp [De,bv]
 rw[e1]
 rfl
theorem Eu (w:World) (e:TypeId) (s:ByteArray):Below w.heap.size w (Lib.bytesWorld w e s):=
 ⟨rfl,rfl,rfl,by rw[Lib.bytesWorld_size];omega,fun k hk=>Lib.bytesWorld_at_old w e s k hk⟩
def Rm (w:World) (base b:Nat) (l:List UInt8):Prop:=
 base<=b/\b<w.heap.size/\∀i (h:i<l.length),w.cell? ⟨b,i,none⟩=some (bv l[i])/\w.frozen? ⟨b,i,none⟩=false
theorem Gm (w:World) (e:TypeId) (l:List UInt8):Rm (Lib.bytesWorld w e ⟨l.toArray⟩) w.heap.size w.heap.size l:=by
 refine⟨Nat.le_refl _,by rw[Lib.bytesWorld_size];omega,fun i h=>⟨?_,?_⟩⟩
 ·rw[Lib.bytesWorld_cell w e ⟨l.toArray⟩ i (by simpa [ByteArray.size] using h)]
  simp [bv,List.getD,h]
 ·have M:i<(Lib.bytesCells w e ⟨l.toArray⟩).size:=by
   simp only[Lib.bytesCells,Array.size_append,Array.size_map,Array.size_replicate];simp;omega
  simp only[World.frozen?,Lib.bytesWorld_at_new];simp;omega
theorem Rm.rd {w:World} {base b:Nat} {l:List UInt8} (h:Rm w base b l):Rd w w.heap.size (some ⟨b,0,none⟩) (bvs l):=by
 refine .inr ⟨b,0,rfl,h.2.1,fun i u hu=>?_⟩;have hi:i<l.length:=by
  rcases Nat.lt_or_ge i l.length with g | g
  ·exact g
  ·rw[List.getElem?_eq_none (by rw[AG];exact g)] at hu;cases hu
 rw[Gg hi] at hu;injection hu with hu;subst hu;rw[Nat.zero_add];exact(h.2.2 i hi).1
end Af
namespace Nm
abbrev L:=List UInt8
def capB (b:UInt8):Bool:=decide (65<=b.toNat)&&decide (b.toNat<=90)
def DK (b:UInt8):Bool:=decide (97<=b.toNat)&&decide (b.toNat<=122)
def Ct (b:UInt8):Bool:=DK b||(decide (48<=b.toNat)&&decide (b.toNat<=57))
def Cn (p:UInt8->Bool) (l:L):Bool:=decide (1<=l.length)&&(decide (l.length<=8)&&l.all p)
theorem Fv (p:UInt8->Bool) (l:L):Cn p l=true↔1<=l.length/\l.length<=8/\l.all p=true:=by simp [Cn]
def hasC (c:UInt8) (l:L):Bool:=l.any fun x=>decide (x=c)
def bef (c:UInt8):L->L
 | []=>[]
 |x :: r=>if x=c then [] else x :: bef c r
def aft (c:UInt8):L->L
 | []=>[]
 |x :: r=>if x=c then r else aft c r
theorem Ev (c:UInt8) (l:L):hasC c l=true↔c∈l:=by simp [hasC]
theorem FN (c:UInt8) (l:L):hasC c l=false↔c∉l:=by rw[<-Ev];simp
theorem Iz {c:UInt8} {l:L} (h:c∉l):bef c l=l:=by
 induction l with
 |nil=>rfl
 |cons x r ih=>
  simp only[List.mem_cons,not_or] at h;rw[bef,if_neg (fun e=>h.1 e.symm),ih h.2]
theorem OU {c:UInt8} {l:L} (h:c∉l):aft c l = []:=by
 induction l with
 |nil=>rfl
 |cons x r ih=>
  simp only[List.mem_cons,not_or] at h;rw[aft,if_neg (fun e=>h.1 e.symm),ih h.2]
theorem Ro (c:UInt8) (l:L):c∉bef c l:=by
 induction l with
 |nil=>simp [bef]
 |cons x r ih=>
  rw[bef];split
  ·simp
  ·rename_i h;simp only[List.mem_cons,not_or];exact⟨fun e=>h e.symm,ih⟩
theorem LL {c:UInt8} {l:L} (h:c∈l):l=bef c l++c :: aft c l:=by
 induction l with
 |nil=>simp at h
 |cons x r ih=>
  by_cases e:x=c
  ·simp [bef,aft,e]
  ·rw[bef,aft,if_neg e,if_neg e]
   have:c∈r:=(List.mem_cons.1 h).resolve_left fun g=>e g.symm
   simpa using ih this
theorem bf {c:UInt8} {u v:L} (h:c∉u):aft c (u++c :: v)=v:=by
 induction u with
 |nil=>simp [aft]
 |cons x r ih=>
  simp only[List.mem_cons,not_or] at h;rw[List.cons_append,aft,if_neg (fun e=>h.1 e.symm),ih h.2]
theorem Nd (c:UInt8) (l:L):(aft c l).length<=l.length:=by
 induction l with
 |nil=>simp [aft]
 |cons x r ih=>rw[aft];split<;>simp<;>omega
theorem XC {c:UInt8} {l:L} (h:l≠[]):(aft c l).length<l.length:=by
 cases l with
 |nil=>exact absurd rfl h
 |cons x r=>rw[aft];have:=Nd c r;split<;>simp<;>omega
theorem Rq (c:UInt8) (l:L):(bef c l).length<=l.length:=by
 induction l with
 |nil=>simp [bef]
 |cons x r ih=>rw[bef];split<;>simp<;>omega
theorem Vf {c:UInt8} {l:L} (h:c∈l):∃u v,l=u++c :: v/\c∉v:=by
 refine⟨(aft c l.reverse).reverse,(bef c l.reverse).reverse,?_,by simpa using Ro c l.reverse⟩;have M:c∈l.reverse:=by simpa using h
 have:=congrArg List.reverse (LL M)
 simpa using this
def split (c:UInt8):L->List L
 | []=>[[]]
 |x :: r=>if x=c then [] :: split c r else match split c r with
  | []=>[[x]]
  |a :: t=>(x :: a) :: t
theorem Kv (c:UInt8) (l:L):split c l≠[]:=by
 cases l with
 |nil=>simp [split]
 |cons x r=>
  rw[split];split
  ·simp
  ·split<;>simp
theorem CK (c:UInt8) (l:L):1<=(split c l).length:=by
 have:=Kv c l;cases h:split c l with
 |nil=>exact absurd h this
 |cons a t=>simp
theorem FO {c:UInt8} {l:L} (h:c∉l):split c l = [l]:=by
 induction l with
 |nil=>rfl
 |cons x r ih=>
  simp only[List.mem_cons,not_or] at h;rw[split,if_neg (fun e=>h.1 e.symm),ih h.2]
theorem Kw {c:UInt8} (u v:L):split c (u++c :: v)=split c u++split c v:=by
 induction u with
 |nil=>simp [split]
 |cons x r ih=>
  rw[List.cons_append,split,split]
  split
  ·rw[ih];rfl
  ·rw[ih]
   cases h:split c r with
   |nil=>exact absurd h (Kv c r)
   |cons a t=>rfl
theorem Kb {c:UInt8} {u v:L} (h:c∉u):split c (u++c :: v)=u :: split c v:=by rw[Kw,FO h];rfl
theorem Fw (c:UInt8) (l:L):split c l=if hasC c l then bef c l :: split c (aft c l) else [l]:=by
 by_cases h:c∈l
 ·rw[if_pos ((Ev c l).2 h)]
  conv=>lhs;rw[LL h]
  exact Kb (Ro c l)
 ·rw[if_neg (by rw[Ev];exact h)];exact FO h
def Co (ls:List L):Bool:=decide (1<=ls.length)&&(decide (ls.length<=4)&&ls.all (Cn capB))
theorem CO (ls:List L):Co ls=true↔1<=ls.length/\ls.length<=4/\ls.all (Cn capB)=true:=by simp [Co]
def areL (c:UInt8):Nat->L->Bool
 |0,_=>false
 |n+1,l=>Cn capB (bef c l)&&(if hasC c l then areL c n (aft c l) else true)
theorem Ys (c:UInt8) (n:Nat):∀l:L,areL c n l=(decide ((split c l).length<=n)&&(split c l).all (Cn capB)):=by
 induction n with
 |zero=>intro l;have:=CK c l;rw[areL,decide_eq_false (by omega)];rfl
 |succ n ih=>
  intro l;rw[areL,ih,Fw c l]
  by_cases h:c∈l
  ·rw[(Ev c l).2 h,if_pos rfl,if_pos rfl]
   simp only[List.length_cons,List.all_cons,Nat.add_le_add_iff_right];cases Cn capB (bef c l)<;>simp
  ·rw[(FN c l).2 h,if_neg (by simp),if_neg (by simp),Iz h]
   simp
theorem LN (c:UInt8) (l:L):areL c 4 l=Co (split c l):=by
 have:=CK c l;rw[Ys,Co,decide_eq_true this];rfl
def slL (l:L):Bool:=decide (l.head? = some 47)&&Co (split 47 l.tail)
def AS (l:L):Nat:=if slL l then 2 else if Co (split 46 l) then 1 else 0
theorem OV {l:L} (h:Co (split 46 l)=true):l.head?≠some 47:=by
 intro e;cases l with
 |nil=>simp at e
 |cons x r=>
  simp only[List.head?_cons,Option.some.injEq] at e;subst e;have h2:Cn capB (bef 46 (47 :: r))=true:=by
   have M:=((CO _).1 h).2.2;rw[Fw] at M
   split at M
   ·simp only[List.all_cons,Bool.and_eq_true] at M;exact M.1
   ·rename_i hn
    rw[Iz ((FN _ _).1 (by simpa using hn))]
    simpa using M
  have Z:bef 46 (47 :: r)=47 :: bef 46 r:=by rw[bef,if_neg (by decide)]
  have O:=((Fv _ _).1 h2).2.2;rw[Z] at O;simp [capB] at O
theorem bg {l:L} (h:Co (split 46 l)=true):slL l=false:=by
 simp [slL,OV h]
theorem OW {l:L} (h:Co (split 46 l)=true):AS l=1:=by rw[AS,bg h,h];rfl
theorem Yt {l:L} (h:slL l=true):AS l=2:=by rw[AS,h];rfl
theorem PX (l:L):AS l=if Co (split 46 l) then 1 else if slL l then 2 else 0:=by
 cases h:Co (split 46 l) with
 |true=>rw[OW h];rfl
 |false=>rw[AS,h];rfl
theorem IZ (l:L):AS l<=2:=by rw[AS];split<;>(try split)<;>omega
theorem Kx:AS []=0:=by decide
theorem Ky {l:L} (h:AS l=1):Co (split 46 l)=true:=by
 rw[AS] at h
 split at h
 ·omega
 ·split at h
  ·assumption
  ·omega
theorem IB {l:L} (h:AS l=2):slL l=true:=by
 rw[AS] at h
 split at h
 ·assumption
 ·split at h<;>omega
def isL (l:L):Bool:=decide (1<=AS l)
def upL (l:L):L:=if AS l=1 then aft 46 l else if AS l=2 then (aft 47 l.reverse).reverse else []
def depL (l:L):Nat:=if AS l=1 then (split 46 l).length else if AS l=2 then (split 47 l.tail).length else 0
theorem Ja {l:L} (h:AS l=0):upL l = []:=by rw[upL,if_neg (by omega),if_neg (by omega)]
theorem bh:upL [] = []:=Ja Kx
theorem Yu {u v:L} (h:47∉v):(aft 47 (u++47 :: v).reverse).reverse=u:=by
 have:(u++47 :: v).reverse=v.reverse++47 :: u.reverse:=by simp
 rw[this,bf (by simpa using h)];simp
theorem Rr {l:L} (h:AS l=2):∃u v,l=u++47 :: v/\47∉v/\upL l=u:=by
 have hs:=IB h;have M:l.head? = some 47:=by simp only[slL,Bool.and_eq_true,decide_eq_true_eq] at hs;exact hs.1
 have hm:47∈l:=by cases l with
  |nil=>simp at M
  |cons x r=>simp at M;simp [M]
 obtain⟨u,v,e,O⟩:=Vf hm;refine⟨u,v,e,O,?_⟩;rw[upL,if_neg (by omega),if_pos h]
 conv=>lhs;rw[e]
 exact Yu O
theorem Di {l:L} (h:AS l≠0):l≠[]:=fun e=>h (by rw[e];exact Kx)
theorem bj {l:L} (h:l≠[]):(upL l).length<l.length:=by
 have:=IZ l
 by_cases h1:AS l=1
 ·rw[upL,if_pos h1];exact XC h
 ·by_cases h2:AS l=2
  ·obtain⟨u,v,e,_,M⟩:=Rr h2
   rw[M,e];simp
  ·rw[Ja (by omega)]
   cases l with
   |nil=>exact absurd rfl h
   |cons x r=>simp
theorem bl (l:L):depL l<=4:=by
 rw[depL]
 split
 ·rename_i h;exact((CO _).1 (Ky h)).2.1
 ·split
  ·rename_i h
   have:=IB h;simp only[slL,Bool.and_eq_true] at this;exact((CO _).1 this.2).2.1
  ·exact Nat.zero_le _
theorem Yv {l:L} (h:AS l≠0):1<=depL l:=by
 have:=IZ l;rw[depL]
 split
 ·exact CK _ _
 ·rw[if_pos (by omega)];exact CK _ _
theorem Nf (l:L):upL l = []\/(AS (upL l)=AS l/\depL (upL l)+1=depL l):=by
 have hk:=IZ l
 by_cases h1:AS l=1
 ·by_cases hm:(46:UInt8)∈l
  ·right
   have M:=(CO _).1 (Ky h1);have e:=Fw 46 l;rw[if_pos ((Ev _ _).2 hm)] at e;rw[e] at M;simp only[List.length_cons,List.all_cons,Bool.and_eq_true] at M;have O:Co (split 46 (aft 46 l))=true:=(CO _).2 ⟨CK _ _,by omega,M.2.2.2⟩;have eu:upL l=aft 46 l:=by rw[upL,if_pos h1]
   have Z:=OW O;rw[eu];refine⟨by rw[Z,h1],?_⟩;rw[depL,if_pos Z,depL,if_pos h1,e];rfl
  ·left;rw[upL,if_pos h1];exact OU hm
 ·by_cases O:AS l=2
  ·obtain⟨u,v,e,hv,eu⟩:=Rr O
   have hs:=IB O;simp only[slL,Bool.and_eq_true,decide_eq_true_eq] at hs;cases u with
   |nil=>left;rw[eu]
   |cons x u'=>
    right
    have hx:x=47:=by rw[e] at hs;simpa using hs.1
    subst hx;have et:l.tail=u'++47 :: v:=by rw[e];rfl
    have es:split 47 l.tail=split 47 u'++[v]:=by rw[et,Kw,FO hv]
    have M:=(CO _).1 hs.2;rw[es] at M;simp only[List.length_append,List.length_cons,List.length_nil,List.all_append,Bool.and_eq_true] at M;have h3:Co (split 47 u')=true:=(CO _).2 ⟨CK _ _,by omega,M.2.2.1⟩;have h4:slL (47 :: u')=true:=by simp [slL,h3]
    have h5:=Yt h4;rw[eu];refine⟨by rw[h5,O],?_⟩;rw[depL,if_neg (by omega),if_pos h5,depL,if_neg (by omega),if_pos O,es];simp
  ·left;exact Ja (by omega)
def chF:Nat->L->List L
 |0,_=>[]
 |n+1,l=>if l = [] then [] else l :: chF n (upL l)
def ch (l:L):List L:=chF 4 l
theorem Jb (n:Nat):chF n [] = []:=by cases n<;>simp [chF]
theorem Vg (n:Nat):∀l:L,AS l≠0->depL l<=n->chF (n+1) l=chF n l:=by
 induction n with
 |zero=>intro l h M;have:=Yv h;omega
 |succ n ih=>
  intro l h M;show(if l = [] then [] else l :: chF (n+1) (upL l))=(if l = [] then [] else l :: chF n (upL l));rw[if_neg (Di h),if_neg (Di h)];rcases Nf l with e | ⟨O,Z⟩
  ·rw[e,Jb,Jb]
  ·rw[ih (upL l) (by rw[O];exact h) (by omega)]
theorem DY:ch [] = []:=Jb 4
theorem DA {l:L} (h:l≠[]):ch l=l :: ch (upL l):=by
 rw[ch,chF,if_neg h];rcases Nf l with e | ⟨M,O⟩
 ·rw[e,Jb,DY]
 ·by_cases hk:AS l=0
  ·rw[Ja hk,Jb,DY]
  ·have:=bl l
   rw[ch,Vg 3 (upL l) (by rw[M];exact hk) (by omega)]
theorem Yw (n:Nat):∀l:L,(chF n l).length<=n:=by
 induction n with
 |zero=>intro l;simp [chF]
 |succ n ih=>intro l;rw[chF];split<;>simp [ih]
theorem LP (l:L):(ch l).length<=4:=Yw 4 l
theorem XD {l:L} (h:l≠[]):1<=(ch l).length:=by rw[DA h];simp
theorem Ew {l:L} (h:l≠[]):(ch l).getD 0 []=l:=by rw[DA h];rfl
def pl (A:List L) (i:Nat):L:=A.getD i []
theorem CU {A:List L} {i:Nat} (h:i<A.length):pl A i=A[i]:=by simp [pl,h]
theorem Kz {A:List L} {i:Nat} (h:A.length<=i):pl A i = []:=by simp [pl,h]
theorem DL {A:List L} {i:Nat} (h:i<A.length):pl A i∈A:=by rw[CU h];exact List.getElem_mem h
theorem mem_pl {A:List L} {x:L} (h:x∈A):∃i,i<A.length/\pl A i=x:=by
 obtain⟨i,hi,e⟩:=List.getElem_of_mem h;exact⟨i,hi,by rw[CU hi];exact e⟩
theorem bm (i:Nat):∀a:L,i<(ch a).length->ch (pl (ch a) i)=(ch a).drop i:=by
 induction i with
 |zero=>
  intro a h
  by_cases ha:a = []
  ·subst ha;rw[DY] at h;simp at h
  ·rw[List.drop_zero,pl,Ew ha]
 |succ i ih=>
  intro a h
  by_cases ha:a = []
  ·subst ha;rw[DY] at h;simp at h
  ·rw[DA ha] at h⊢
   simp only[List.length_cons] at h;exact ih (upL a) (by omega)
theorem Vh {i:Nat} (a:L) (h:i<(ch a).length):upL (pl (ch a) i)=pl (ch a) (i+1):=by
 have O:=bm i a h;have Z:pl (ch a) i≠[]:=by
  intro e;rw[e,DY] at O;have:=congrArg List.length O;simp at this;omega
 rw[DA Z] at O;have M:=congrArg (List.drop 1) O;simp only[List.drop_succ_cons,List.drop_zero,List.drop_drop] at M
 by_cases hu:upL (pl (ch a) i) = []
 ·rw[hu,DY] at M
  rw[hu];have h3:=congrArg List.length M;simp only[List.length_nil,List.length_drop] at h3;exact(Kz (by omega)).symm
 ·rw[DA hu] at M
  have h3:=congrArg (fun m=>List.getD m 0 []) M
  simpa [pl,List.getD,List.getElem?_drop] using h3
theorem Rs {i:Nat} (a:L) (h:i<(ch a).length):pl (ch a) i≠[]:=by
 intro e;have M:=bm i a h;rw[e,DY] at M;have:=congrArg List.length M;simp at this;omega
theorem Yx (i:Nat):∀a:L,i<(ch a).length->AS (pl (ch a) i)=AS a:=by
 induction i with
 |zero=>
  intro a h
  by_cases ha:a = []
  ·subst ha;rw[DY] at h;simp at h
  ·rw[pl,Ew ha]
 |succ i ih=>
  intro a h
  by_cases ha:a = []
  ·subst ha;rw[DY] at h;simp at h
  ·rw[DA ha] at h⊢
   simp only[List.length_cons] at h;have:=ih (upL a) (by omega);rw[show pl (a :: ch (upL a)) (i+1)=pl (ch (upL a)) i from rfl,this];rcases Nf a with e | ⟨e,_⟩
   ·rw[e,DY] at h;simp at h
   ·exact e
theorem OX {a x:L} (h:x∈ch a):AS x=AS a:=by
 obtain⟨i,hi,rfl⟩:=mem_pl h;exact Yx i a hi
theorem Ru (a:L):∀j i:Nat,i<j->j<(ch a).length->(pl (ch a) j).length<(pl (ch a) i).length:=by
 intro j
 induction j with
 |zero=>intro i h;omega
 |succ j ih=>
  intro i h Z;have O:=Vh a (i:=j) (by omega);have M:=bj (Rs a (i:=j) (by omega));rw[O] at M
  by_cases e:i=j
  ·subst e;exact M
  ·have:=ih i (by omega) (by omega);omega
theorem bo {a:L} {i j:Nat} (hi:i<(ch a).length) (M:j<(ch a).length) (h:pl (ch a) i=pl (ch a) j):i=j:=by
 rcases Nat.lt_trichotomy i j with g | g | g
 ·have:=Ru a j i g M;rw[h] at this;omega
 ·exact g
 ·have:=Ru a i j g hi;rw[h] at this;omega
theorem Rv {a x:L} (h:x∈ch a):x.length<=a.length:=by
 obtain⟨i,hi,rfl⟩:=mem_pl h;have O:a≠[]:=by rintro rfl;rw[DY] at hi;simp at hi
 have M:pl (ch a) 0=a:=Ew O
 by_cases e:i=0
 ·subst e;rw[M];exact Nat.le_refl _
 ·have:=Ru a i 0 (by omega) hi;rw[M] at this;omega
theorem Vi {a:L} (h:a≠[]):a∈ch a:=by rw[DA h];exact List.mem_cons_self
def Gz (a b:L):Bool:=decide (b∈ch (upL a))
theorem Rw (a b:L):Gz a b=true↔b∈ch (upL a):=by simp [Gz]
theorem Kc {b x:L} (M:b≠[]):x∈ch b↔x=b\/Gz b x=true:=by
 rw[DA M,List.mem_cons,Rw]
def ix (A B:List L):Nat:=A.findIdx fun x=>decide (x∈B)
theorem LQ (A B:List L):ix A B<=A.length:=List.findIdx_le_length
theorem Vj {A B:List L} (h:ix A B<A.length):pl A (ix A B)∈B:=by
 have:=List.findIdx_getElem (w:=h);rw[CU h];exact of_decide_eq_true this
theorem GA {A B:List L} {i:Nat} (h:i<ix A B):pl A i∉B:=by
 have M:i<A.length:=Nat.lt_of_lt_of_le h (LQ A B);have:=List.not_of_lt_findIdx h;rw[CU M]
 simpa using this
theorem ix_eq {A B:List L} {i:Nat} (hi:i<A.length) (O:pl A i∈B) (M:∀k,k<i->pl A k∉B):ix A B=i:=by
 rcases Nat.lt_trichotomy (ix A B) i with g | g | g
 ·exact absurd (Vj (Nat.lt_trans g hi)) (M _ g)
 ·exact g
 ·exact absurd O (GA g)
def KC (A B:List L):List L:=A.take (ix A B)++((A.drop (ix A B)).take 1++(B.take (ix B A)).reverse)
def Br (a b:L):List L:=if AS a=0\/AS b=0 then [] else ((KC (ch a) (ch b)).drop 1).dropLast
theorem Ng {a b:L} (h:ix (ch a) (ch b)<(ch a).length):ix (ch b) (ch a)<(ch b).length/\pl (ch b) (ix (ch b) (ch a))=pl (ch a) (ix (ch a) (ch b)):=by
 have h1:=Vj h;have O:=DL h;obtain⟨j,hj,e⟩:=mem_pl h1;have M:ix (ch b) (ch a)<(ch b).length:=by
  rcases Nat.lt_or_ge (ix (ch b) (ch a)) (ch b).length with g | g
  ·exact g
  ·exact absurd (by rw[e];exact O) (GA (A:=ch b) (B:=ch a) (i:=j) (by omega))
 refine⟨M,?_⟩;have h2:=Vj M
 -- m' is in ch a at or behind m,m in ch b at or behind m'
 obtain⟨i,hi,Z⟩:=mem_pl h2;have aw:ix (ch a) (ch b)<=i:=by
  rcases Nat.lt_or_ge i (ix (ch a) (ch b)) with g | g
  ·exact absurd (by rw[Z];exact DL M) (GA g)
  ·exact g
 have av:ix (ch b) (ch a)<=j:=by
  rcases Nat.lt_or_ge j (ix (ch b) (ch a)) with g | g
  ·exact absurd (by rw[e];exact O) (GA g)
  ·exact g
 have m1:(pl (ch b) (ix (ch b) (ch a))).length<=(pl (ch a) (ix (ch a) (ch b))).length:=by
  rw[<-Z]
  by_cases q:i=ix (ch a) (ch b)
  ·rw[q];exact Nat.le_refl _
  ·exact Nat.le_of_lt (Ru a i _ (by omega) hi)
 by_cases q:j=ix (ch b) (ch a)
 ·rw[<-q];exact e
 ·have:=Ru b j _ (by omega:ix (ch b) (ch a)<j) hj
  rw[e] at this;omega
theorem Nh {a b:L} (h:ix (ch a) (ch b)=(ch a).length):ix (ch b) (ch a)=(ch b).length:=by
 rcases Nat.lt_or_ge (ix (ch b) (ch a)) (ch b).length with g | g
 ·have:=(Ng (a:=b) (b:=a) g).1;omega
 ·have:=LQ (ch b) (ch a);omega
theorem Yy {A:List L} {i:Nat} (h:i<A.length):(A.drop i).take 1 = [pl A i]:=by
 rw[CU h,List.drop_eq_getElem_cons h];rfl
theorem Rx {a b:L} (h:ix (ch a) (ch b)<(ch a).length) :
  KC (ch a) (ch b)=(ch a).take (ix (ch a) (ch b))++pl (ch a) (ix (ch a) (ch b)) :: ((ch b).take (ix (ch b) (ch a))).reverse:=by
 rw[KC,Yy h];rfl
theorem Ry {a b:L} (h:ix (ch a) (ch b)=(ch a).length):KC (ch a) (ch b)=ch a++(ch b).reverse:=by
 rw[KC,Nh h,h];simp
def upW (A:List L) (b:L):Nat->List L
 |0=>[]
 |k+1=>upW A b k++(if pl A (k+1) = []\/pl A (k+1)=b then [] else [pl A (k+1)])
def Fx (B:List L) (b:L):Nat->List L
 |0=>[]
 |k+1=>Fx B b k++(if pl B k=b then [] else [pl B k])
theorem BM {A:List L} {i:Nat} (h:i<A.length):A.take (i+1)=A.take i++[pl A i]:=by
 rw[CU h,List.take_succ_eq_append_getElem h]
theorem Rz {a b:L} (k:Nat) (h:k<(ch a).length) (M:∀i,i<=k->i≠0->pl (ch a) i≠b):upW (ch a) b k=((ch a).take (k+1)).drop 1:=by
 induction k with
 |zero=>rw[upW,BM h];simp
 |succ k ih=>
  rw[upW,ih (by omega) (fun i hi=>M i (by omega)),if_neg (by
   intro e;rcases e with e | e
   ·exact Rs a h e
   ·exact M (k+1) Ag (by omega) e),BM h,List.drop_append_of_le_length]
  rw[List.length_take];omega
theorem Vk {b:L} (k:Nat) (h:k<=(ch b).length):Fx (ch b) b k=((ch b).take k).drop 1:=by
 induction k with
 |zero=>simp [Fx]
 |succ k ih=>
  have M:(ch b).getD 0 []=b:=by
   refine Ew ?_;rintro rfl;rw[DY] at h;simp at h
  rw[Fx,ih (by omega),BM (by omega)]
  by_cases hk:k=0
  ·subst hk;rw[if_pos (show pl (ch b) 0=b from M)];simp
  ·rw[if_neg (fun e=>hk (bo (a:=b) (i:=k) (j:=0) (by omega) (by omega) (by rw[e];exact M.symm))),List.drop_append_of_le_length]
   rw[List.length_take];omega
theorem KD {a b:L} (ha:AS a≠0) (hb:AS b≠0):upW (ch a) b (ix (ch a) (ch b))++(Fx (ch b) b (ix (ch b) (ch a))).reverse=Br a b:=by
 have na:=Di ha;have M:=Di hb;have pa:=XD na;have pb:=XD M;rw[Br,if_neg (by omega),Vk _ (LQ _ _)];have Z:b∈ch b:=Vi M;rcases Nat.lt_or_ge (ix (ch a) (ch b)) (ch a).length with g | g
 ·obtain⟨h1,h2⟩:=Ng g
  rw[Rx g]
  by_cases e:pl (ch a) (ix (ch a) (ch b))=b
  ·have hj:ix (ch b) (ch a)=0:=by
    refine ix_eq (by omega) ?_ (by omega);rw[pl,Ew M,<-e];exact DL g
   rw[hj,e];cases hi:ix (ch a) (ch b) with
   |zero=>simp [upW]
   |succ k=>
    rw[hi] at e g;rw[upW,if_pos (.inr e),Rz k (by omega) (fun i av _=>by
     intro q;exact absurd (by rw[q];exact Z) (GA (A:=ch a) (B:=ch b) (i:=i) (by omega)))]
    rw[List.drop_append_of_le_length (by rw[List.length_take];omega)];simp
  ·rw[Rz _ g (fun i hi _=>by
    intro q
    by_cases w:i=ix (ch a) (ch b)
    ·rw[w] at q;exact e q
    ·exact absurd (by rw[q];exact Z) (GA (A:=ch a) (B:=ch b) (i:=i) (by omega)))]
   have hj:1<=ix (ch b) (ch a):=by
    rcases Nat.eq_zero_or_pos (ix (ch b) (ch a)) with q | q
    ·rw[q,pl,Ew M] at h2;exact absurd h2.symm e
    ·exact q
   obtain⟨j,ej⟩:∃j,ix (ch b) (ch a)=j+1:=⟨ix (ch b) (ch a) - 1,by omega⟩;rw[ej,DA M];simp only[List.take_succ_cons,List.drop_succ_cons,List.drop_zero,List.reverse_cons];have e1:List.take (ix (ch a) (b :: ch (upL b))) (ch a)++pl (ch a) (ix (ch a) (b :: ch (upL b))) :: ((List.take j (ch (upL b))).reverse++[b])=(List.take (ix (ch a) (b :: ch (upL b))+1) (ch a)++(List.take j (ch (upL b))).reverse)++[b]:=by
    rw[BM (by rw[<-DA M];exact g)];simp
   rw[e1,List.drop_append_of_le_length (by simp;omega),List.dropLast_concat,List.drop_append_of_le_length (by rw[List.length_take];omega)]
 ·have e:ix (ch a) (ch b)=(ch a).length:=by have:=LQ (ch a) (ch b);omega
  rw[Ry e,Nh e,e];obtain⟨n,en⟩:∃n,(ch a).length=n+1:=⟨(ch a).length - 1,by omega⟩;have O:∀i,i<(ch a).length->pl (ch a) i≠b:=fun i hi q=>absurd (by rw[q];exact Z) (GA (A:=ch a) (B:=ch b) (i:=i) (by omega))
  have hu:upW (ch a) b (ch a).length=(ch a).drop 1:=by
   rw[en,upW,if_pos (.inl (Kz (by omega))),Rz n (by omega) (fun i hi _=>O i (by omega)),<-en];simp
  rw[hu,List.take_of_length_le Ag]
  conv=>rhs;rw[DA M]
  conv=>lhs;rw[DA M]
  rw[List.reverse_cons,<-List.append_assoc,List.drop_append_of_le_length (by simp;omega),List.dropLast_concat,List.drop_append_of_le_length (by omega)];simp
open Go.RowKit Af
attribute [local go_sem] Er List.getElem_cons_zero List.getElem_cons_succ
theorem Ni (b:UInt8) (w:World):Calls Tryz.prog 244 #[.int .u8 (b.toNat:Int)] w fun e w'=>e=.returned (.bool (capB b))/\w=w':=by
 have Z:=Fp b
 by_cases h1:65<=b.toNat
 ·have M:decide (65<=(b.toNat:Int))=true:=by simp;omega
  by_cases h2:b.toNat<=90
  ·have O:decide ((b.toNat:Int)<=90)=true:=by simp;omega
   have E:=I (show capB b=true by simp [capB,h1,h2]);clear h1 h2;go_enter Tryz.func244,Tryz.ntmps244
   go_wp2
   go_ret;exact⟨by rw[E.o];rfl,rfl⟩
  ·have O:decide ((b.toNat:Int)<=90)=false:=by simp;omega
   have E:=I (show capB b=false by simp [capB,h2]);clear h1 h2;go_enter Tryz.func244,Tryz.ntmps244
   go_wp2
   go_ret;exact⟨by rw[E.o];rfl,rfl⟩
 ·have M:decide (65<=(b.toNat:Int))=false:=by simp;omega
  have E:=I (show capB b=false by simp [capB,h1]);clear h1;go_enter Tryz.func244,Tryz.ntmps244
  go_wp2
  go_ret;exact⟨by rw[E.o];rfl,rfl⟩
theorem RA (b:UInt8) (w:World):Calls Tryz.prog 151 #[.int .u8 (b.toNat:Int)] w fun e w'=>e=.returned (.bool (DK b))/\w=w':=by
 have Z:=Fp b
 by_cases h1:97<=b.toNat
 ·have M:decide (97<=(b.toNat:Int))=true:=by simp;omega
  by_cases h2:b.toNat<=122
  ·have O:decide ((b.toNat:Int)<=122)=true:=by simp;omega
   have E:=I (show DK b=true by simp [DK,h1,h2]);clear h1 h2;go_enter Tryz.func151,Tryz.ntmps151
   go_wp2
   go_ret;exact⟨by rw[E.o];rfl,rfl⟩
  ·have O:decide ((b.toNat:Int)<=122)=false:=by simp;omega
   have E:=I (show DK b=false by simp [DK,h2]);clear h1 h2;go_enter Tryz.func151,Tryz.ntmps151
   go_wp2
   go_ret;exact⟨by rw[E.o];rfl,rfl⟩
 ·have M:decide (97<=(b.toNat:Int))=false:=by simp;omega
  have E:=I (show DK b=false by simp [DK,h1]);clear h1;go_enter Tryz.func151,Tryz.ntmps151
  go_wp2
  go_ret;exact⟨by rw[E.o];rfl,rfl⟩
theorem LS (b:UInt8) (w:World):Calls Tryz.prog 113 #[.int .u8 (b.toNat:Int)] w fun e w'=>e=.returned (.bool (Ct b))/\w=w':=by
 have hb:=Fp b;have c1:=RA b w
 by_cases M:DK b=true
 ·have E:=I (show Ct b=true by simp [Ct,M])
  rw[M] at c1;clear M;go_enter Tryz.func113,Tryz.ntmps113
  go_wp2_with (go_at_call 151;refine Aj c1 ?_;rintro w1 rfl)
  go_ret;exact⟨by rw[E.o];rfl,rfl⟩
 ·have M:DK b=false:=by simpa using M
  rw[M] at c1
  by_cases h1:48<=b.toNat
  ·have O:decide (48<=(b.toNat:Int))=true:=by simp;omega
   by_cases h2:b.toNat<=57
   ·have Z:decide ((b.toNat:Int)<=57)=true:=by simp;omega
    have E:=I (show Ct b=true by simp [Ct,h1,h2]);clear h1 h2 M;go_enter Tryz.func113,Tryz.ntmps113
    go_wp2_with (go_at_call 151;refine Aj c1 ?_;rintro w1 rfl)
    go_ret;exact⟨by rw[E.o];rfl,rfl⟩
   ·have Z:decide ((b.toNat:Int)<=57)=false:=by simp;omega
    have E:=I (show Ct b=false by simp [Ct,h2,M]);clear h1 h2 M;go_enter Tryz.func113,Tryz.ntmps113
    go_wp2_with (go_at_call 151;refine Aj c1 ?_;rintro w1 rfl)
    go_ret;exact⟨by rw[E.o];rfl,rfl⟩
  ·have O:decide (48<=(b.toNat:Int))=false:=by simp;omega
   have E:=I (show Ct b=false by simp [Ct,h1,M]);clear h1 M;go_enter Tryz.func113,Tryz.ntmps113
   go_wp2_with (go_at_call 151;refine Aj c1 ?_;rintro w1 rfl)
   go_ret;exact⟨by rw[E.o];rfl,rfl⟩
theorem KE {p:UInt8->Bool} {l:L} (h:∀i (h:i<l.length),p l[i]=true) (M:1<=l.length) (Z:l.length<=8):Cn p l=true:=by
 rw[Fv];refine⟨M,Z,?_⟩;rw[List.all_eq_true];intro x O;obtain⟨i,hi,rfl⟩:=List.getElem_of_mem O;exact h i hi
theorem GB {p:UInt8->Bool} {l:L} {i:Nat} (hi:i<l.length) (h:p l[i]=false):Cn p l=false:=by
 cases e:Cn p l with
 |false=>rfl
 |true=>
  have:=((Fv p l).1 e).2.2;rw[List.all_eq_true] at this;have:=this _ (List.getElem_mem hi);rw[h] at this;cases this
theorem Ho {p:UInt8->Bool} {l:L} (h:l.length<1):Cn p l=false:=by simp [Cn];omega
theorem Jc {p:UInt8->Bool} {l:L} (h:8<l.length):Cn p l=false:=by simp [Cn];omega
def Fit (p:UInt8->Bool) (l:L) (k:Nat):Prop:=∀i (h:i<l.length),i<k->p l[i]=true
theorem PY (l:L) (w:World) (hs:l.length<=1000000000):Calls Tryz.prog 112 #[.string ⟨l.toArray⟩,.func (.func 244) #[] #[]] w fun e w'=>e=.returned (.bool (Cn capB l))/\w=w':=by
 by_cases h1:l.length<1
 ·have E:=I (Ho (p:=capB) h1)
  have g1:decide ((l.length:Int)<1)=true:=by simp;omega
  clear h1;go_enter Tryz.func112,Tryz.ntmps112
  go_wp2
  go_ret;exact⟨by rw[E.o];rfl,rfl⟩
 ·have g1:decide ((l.length:Int)<1)=false:=by simp;omega
  by_cases h2:8<l.length
  ·have E:=I (Jc (p:=capB) h2)
   have g2:decide (8<(l.length:Int))=true:=by simp;omega
   clear h1 h2;go_enter Tryz.func112,Tryz.ntmps112
   go_wp2
   go_ret;exact⟨by rw[E.o];rfl,rfl⟩
  ·have g2:decide (8<(l.length:Int))=false:=by simp;omega
   have HA:=I (fun h=>KE (p:=capB) (l:=l) h (by omega) (by omega));clear h1 h2;go_enter Tryz.func112,Tryz.ntmps112
   go_wp2
   go_loop [16] (fun O=>∃k:Nat,k<=l.length/\O=.int .i64 (k:Int)/\Fit capB l k) (fun O=>l.length - (intOf O).toNat)
   case atStart=>exact⟨0,Nat.zero_le _,rfl,fun i _ h=>by omega⟩
   case round=>
    obtain⟨k,hk,rfl,M⟩:=hrel
    by_cases hlt:k<l.length
    ·have e1:(k:Int)<(l.length:Int):=by omega
     have c1:=Ni l[k] w;have Z:=I M;clear M
     by_cases hp:capB l[k]=true
     ·rw[hp] at c1
      have HP:=I hp;clear hp
      go_wp2_with (go_at_call 244;refine Aj c1 ?_;rintro w1 rfl)
      go_round
      case rel=>exact⟨k+1,by omega,by go_num,fun i hi av=>by
       by_cases q:i=k
       ·subst q;exact HP.o
       ·exact Z.o i hi (by omega)⟩
      case measure=>simp [intOf];omega
     ·have hp:capB l[k]=false:=by simpa using hp
      rw[hp] at c1;have E:=I (GB hlt hp);clear hp
      go_wp2_with (go_at_call 244;refine Aj c1 ?_;rintro w1 rfl)
      go_ret;exact⟨by rw[E.o];rfl,rfl⟩
    ·have Z:=I M;clear M
     have E:=I (HA.o (fun i hi=>Z.o i hi (by omega)));have e1:¬(k:Int)<(l.length:Int):=by omega
     go_wp2
     go_ret;exact⟨by rw[E.o];rfl,rfl⟩
theorem RB (l:L) (w:World) (hs:l.length<=1000000000):Calls Tryz.prog 112 #[.string ⟨l.toArray⟩,.func (.func 113) #[] #[]] w fun e w'=>e=.returned (.bool (Cn Ct l))/\w=w':=by
 by_cases h1:l.length<1
 ·have E:=I (Ho (p:=Ct) h1)
  have g1:decide ((l.length:Int)<1)=true:=by simp;omega
  clear h1;go_enter Tryz.func112,Tryz.ntmps112
  go_wp2
  go_ret;exact⟨by rw[E.o];rfl,rfl⟩
 ·have g1:decide ((l.length:Int)<1)=false:=by simp;omega
  by_cases h2:8<l.length
  ·have E:=I (Jc (p:=Ct) h2)
   have g2:decide (8<(l.length:Int))=true:=by simp;omega
   clear h1 h2;go_enter Tryz.func112,Tryz.ntmps112
   go_wp2
   go_ret;exact⟨by rw[E.o];rfl,rfl⟩
  ·have g2:decide (8<(l.length:Int))=false:=by simp;omega
   have HA:=I (fun h=>KE (p:=Ct) (l:=l) h (by omega) (by omega));clear h1 h2;go_enter Tryz.func112,Tryz.ntmps112
   go_wp2
   go_loop [16] (fun O=>∃k:Nat,k<=l.length/\O=.int .i64 (k:Int)/\Fit Ct l k) (fun O=>l.length - (intOf O).toNat)
   case atStart=>exact⟨0,Nat.zero_le _,rfl,fun i _ h=>by omega⟩
   case round=>
    obtain⟨k,hk,rfl,M⟩:=hrel
    by_cases hlt:k<l.length
    ·have e1:(k:Int)<(l.length:Int):=by omega
     have c1:=LS l[k] w;have Z:=I M;clear M
     by_cases hp:Ct l[k]=true
     ·rw[hp] at c1
      have HP:=I hp;clear hp
      go_wp2_with (go_at_call 113;refine Aj c1 ?_;rintro w1 rfl)
      go_round
      case rel=>exact⟨k+1,by omega,by go_num,fun i hi av=>by
       by_cases q:i=k
       ·subst q;exact HP.o
       ·exact Z.o i hi (by omega)⟩
      case measure=>simp [intOf];omega
     ·have hp:Ct l[k]=false:=by simpa using hp
      rw[hp] at c1;have E:=I (GB hlt hp);clear hp
      go_wp2_with (go_at_call 113;refine Aj c1 ?_;rintro w1 rfl)
      go_ret;exact⟨by rw[E.o];rfl,rfl⟩
    ·have Z:=I M;clear M
     have E:=I (HA.o (fun i hi=>Z.o i hi (by omega)));have e1:¬(k:Int)<(l.length:Int):=by omega
     go_wp2
     go_ret;exact⟨by rw[E.o];rfl,rfl⟩
end Nm
namespace Nm
open Go.RowKit Af
theorem Dr (l:List UInt8) (k:Nat):(ByteArray.mk l.toArray).extract 0 k=ByteArray.mk (l.take k).toArray:=by
 rw[ByteArray.extract_mk];simp
attribute [local go_sem] Er List.getElem_cons_zero List.getElem_cons_succ Cg Ch Dz Dr
theorem Yz (b:UInt8):((b.toNat:Int)).toNat.toUInt8=b:=by simp
theorem Vl {c:UInt8} {l:L} (h:c∉l):Lib.indexByte l c = -1:=by
 induction l with
 |nil=>rfl
 |cons x r ih=>
  simp only[List.mem_cons,not_or] at h;rw[Lib.indexByte,if_neg (by simpa using fun e:x=c=>h.1 e.symm),ih h.2];rfl
theorem YA {c:UInt8} {l:L} (h:c∈l):Lib.indexByte l c=((bef c l).length:Int):=by
 induction l with
 |nil=>simp at h
 |cons x r ih=>
  rw[Lib.indexByte,bef]
  by_cases e:x=c
  ·rw[if_pos (by simpa using e),if_pos e];rfl
  ·have hm:c∈r:=(List.mem_cons.1 h).resolve_left fun g=>e g.symm
   rw[if_neg (by simpa using e),if_neg e,ih hm,if_neg (by simp)];simp
theorem Vm {c:UInt8} {l:L} (h:c∈l):l.take (bef c l).length=bef c l:=by
 have e:=LL h;have g:(bef c l++c :: aft c l).take (bef c l).length=bef c l:=by simp
 rwa [<-e] at g
theorem Vn {c:UInt8} {l:L} (h:c∈l):l.drop ((bef c l).length+1)=aft c l:=by
 have e:=LL h;have g:(bef c l++c :: aft c l).drop ((bef c l).length+1)=aft c l:=by simp
 rwa [<-e] at g
theorem bp {c:UInt8} {l:L} (h:c∈l):(bef c l).length<l.length:=by
 have:=congrArg List.length (LL h);simp at this;omega
theorem YB (l:L) (b:UInt8) (w:World):(callFunc 304 #[.string ⟨l.toArray⟩,.int .u8 (b.toNat:Int)]).run Tryz.prog w=.ok (.value (.int .i64 (Lib.indexByte l b))) w:=by
 rw[run_callFunc_extern Tryz.func304 (by kernel_rfl) (by kernel_rfl) (by kernel_rfl) (e:=Extern.BytealgIndexByte.indexByte) (by kernel_rfl),Lib.run_indexByteString];simp only[Result.andThen,Yz]
theorem KF (l:L) (b:UInt8) (w:World):Calls Tryz.prog 290 #[.string ⟨l.toArray⟩,.int .u8 (b.toNat:Int)] w fun e w'=>e=.returned (.int .i64 (Lib.indexByte l b))/\w=w':=by
 have h:=fun w=>YB l b w
 go_enter Tryz.func290,Tryz.ntmps290
 go_wp2
 go_ret;exact⟨rfl,rfl⟩
theorem Nj (l:L):(ByteArray.mk l.toArray).size=l.length:=by simp [ByteArray.size]
theorem RE (l:L) (b:UInt8) (w:World):Calls Tryz.prog 272 #[.string ⟨l.toArray⟩,.string ⟨#[b]⟩] w fun e w'=>e=.returned (.int .i64 (Lib.indexByte l b))/\w=w':=by
 have c1:=KF l b w
 by_cases e:l = [b]
 ·subst e
  have E:=I (show Lib.indexByte [b] b=0 by simp [Lib.indexByte]);go_enter Tryz.func272,Tryz.ntmps272
  go_wp2_with fail
  go_ret;exact⟨by rw[E.o];rfl,rfl⟩
 ·have M:([b]==l)=false:=by simpa using fun g:[b]=l=>e g.symm
  clear e;go_enter Tryz.func272,Tryz.ntmps272
  go_wp2_with (go_at_call 290;refine Aj c1 ?_;rintro w1 rfl)
  go_ret;exact⟨rfl,rfl⟩
def AU (w w':World):Prop:=∃n,w'=w.drewN n
theorem AU.refl (w:World):AU w w:=⟨0,rfl⟩
theorem AU.below {w w':World} (h:AU w w'):Below w.heap.size w w':=by
 obtain⟨n,rfl⟩:=h;exact below_drewN Ah n
theorem Nk (l:L) (b:UInt8) (w:World) (hs:l.length<=1000000000):Calls Tryz.prog 234 #[.string ⟨l.toArray⟩,.string ⟨#[b]⟩] w fun e w'=>
  e=.returned (.tuple #[.string ⟨(bef b l).toArray⟩,.string ⟨(aft b l).toArray⟩,.bool (hasC b l)])/\AU w w':=by
 have c1:=RE l b w
 by_cases h:b∈l
 ·have Z:=I (show hasC b l=true from(Ev _ _).2 h)
  have M:=I (Vm h);have O:=I (Vn h);have hl:=bp h;obtain⟨n,en⟩:=Ak ((bef b l).length);rw[YA h,<-en] at c1;rw[<-en] at M O hl;have EN:=I en;clear en h;go_enter Tryz.func234,Tryz.ntmps234
  go_wp2_with (go_at_call 272;refine Aj c1 ?_;rintro w1 rfl)
  go_quiet (fail)
  go_wp2
  go_ret3
  rename_i q _
  exact⟨by rw[Z.o,<-M.o,<-O.o];rfl,⟨_,rfl⟩⟩
 ·have Z:=I (show hasC b l=false from(FN _ _).2 h)
  have M:=I (Iz h);have O:=I (OU h);rw[Vl h] at c1;clear h;go_enter Tryz.func234,Tryz.ntmps234
  go_wp2_with (go_at_call 272;refine Aj c1 ?_;rintro w1 rfl)
  go_ret3
  exact⟨by rw[Z.o,M.o,O.o];rfl,AU.refl _⟩
theorem Nl (l:L) (b:UInt8) (w:World) (hs:l.length<=1000000000):Calls Tryz.prog 190 #[.string ⟨l.toArray⟩,.string ⟨#[b]⟩] w fun e w'=>
  e=.returned (.tuple #[.string ⟨(bef b l).toArray⟩,.string ⟨(aft b l).toArray⟩,.bool (hasC b l)])/\AU w w':=by
 have c1:=Nk l b w hs;go_enter Tryz.func190,Tryz.ntmps190
 go_wp2_with (go_at_call 234;refine Aj c1 ?_;rintro w1 M)
 go_ret3
 exact⟨rfl,M⟩
def preL (p l:L):Bool:=p.isPrefixOf l
theorem OY (p l:L):(l.take p.length==p)=preL p l:=by
 rw[preL,Bool.eq_iff_iff];simp only[beq_iff_eq,List.isPrefixOf_iff_prefix];rw[List.prefix_iff_eq_take];exact eq_comm
theorem RG {p l:L} (h:preL p l=true):p.length<=l.length:=(List.isPrefixOf_iff_prefix.1 h).length_le
theorem YC {p l:L}:preL p l=true↔l=p++l.drop p.length:=by
 constructor
 ·intro h
  obtain⟨t,e⟩:=List.isPrefixOf_iff_prefix.1 h;rw[<-e];simp
 ·intro h
  rw[preL,List.isPrefixOf_iff_prefix];exact⟨_,h.symm⟩
theorem Ex (l p:L) (w:World) (hs:l.length<=1000000000) (hp:p.length<=1000000000):Calls Tryz.prog 245 #[.string ⟨l.toArray⟩,.string ⟨p.toArray⟩] w fun e w'=>
  e=.returned (.bool (preL p l))/\w=w':=by
 by_cases h:p.length<=l.length
 ·have M:(p.length:Int)<=(l.length:Int):=by omega
  have E:=I (OY p l);clear h;go_enter Tryz.func245,Tryz.ntmps245
  go_wp2
  go_ret;exact⟨by rw[<-E.o];rfl,rfl⟩
 ·have E:=I (show preL p l=false by
   cases q:preL p l with
   |false=>rfl
   |true=>exact absurd (RG q) h)
  have M:¬(p.length:Int)<=(l.length:Int):=by omega
  clear h;go_enter Tryz.func245,Tryz.ntmps245
  go_wp2
  go_ret;exact⟨by rw[E.o];rfl,rfl⟩
def cpL (p l:L):L:=if preL p l then l.drop p.length else l
theorem Hp (l p:L) (w:World) (hs:l.length<=1000000000) (hp:p.length<=1000000000):Calls Tryz.prog 204 #[.string ⟨l.toArray⟩,.string ⟨p.toArray⟩] w fun e w'=>
  e=.returned (.tuple #[.string ⟨(cpL p l).toArray⟩,.bool (preL p l)])/\w=w':=by
 have c1:=Ex l p w hs hp
 by_cases h:preL p l=true
 ·have O:(p.length:Int)<=(l.length:Int):=by have:=RG h;omega
  have E:=I (show cpL p l=l.drop p.length by rw[cpL,if_pos h]);have M:=I h;rw[h] at c1;clear h;go_enter Tryz.func204,Tryz.ntmps204
  go_wp2_with (go_at_call 245;refine Aj c1 ?_;rintro w1 rfl)
  go_ret2
  exact⟨by rw[E.o,M.o];rfl,rfl⟩
 ·have h:preL p l=false:=by simpa using h
  have E:=I (show cpL p l=l by rw[cpL,if_neg (by simp [h])]);have M:=I h;rw[h] at c1;clear h;go_enter Tryz.func204,Tryz.ntmps204
  go_wp2_with (go_at_call 245;refine Aj c1 ?_;rintro w1 rfl)
  go_ret2
  exact⟨by rw[E.o,M.o];rfl,rfl⟩
theorem GC (l p:L) (w:World) (hs:l.length<=1000000000) (hp:p.length<=1000000000):Calls Tryz.prog 150 #[.string ⟨l.toArray⟩,.string ⟨p.toArray⟩] w fun e w'=>
  e=.returned (.tuple #[.string ⟨(cpL p l).toArray⟩,.bool (preL p l)])/\w=w':=by
 have c1:=Hp l p w hs hp;go_enter Tryz.func150,Tryz.ntmps150
 go_wp2_with (go_at_call 204;refine Aj c1 ?_;rintro w1 rfl)
 go_ret2
 exact⟨rfl,rfl⟩
theorem LU (u v:L) (b:UInt8) (hv:b∉v) (w:World) (hs:(u++b :: v).length<=1000000000):Calls Tryz.prog 294 #[.string ⟨(u++b :: v).toArray⟩,.int .u8 (b.toNat:Int)] w fun e w'=>
  e=.returned (.int .i64 (u.length:Int))/\w=w':=by
 obtain⟨l,el⟩:=Ak (u++b :: v);have M:∀k (h:k<l.length),u.length<=k->(((l[k]).toNat:Int)==(b.toNat:Int))=decide (k=u.length):=by
  intro k h hk
  by_cases e:k=u.length
  ·subst e
   have:l[u.length]=b:=by subst el;simp
   rw[this];simp
  ·have hm:l[k]∈v:=by
    subst el;rw[List.getElem_append_right (by omega)];obtain⟨j,ej⟩:∃j,k - u.length=j+1:=⟨k - u.length - 1,by omega⟩;simp only[ej,List.getElem_cons_succ];exact List.getElem_mem _
   rw[decide_eq_false e];have:l[k]≠b:=fun q=>hv (q▸hm)
   simp only[beq_eq_false_iff_ne,ne_eq];intro q;exact this (UInt8.toNat_inj.1 (by omega))
 have hlen:u.length<l.length:=by subst el;simp
 rw[<-el] at hs⊢;clear el hv;obtain⟨n,en⟩:=Ak (u.length);rw[<-en] at M hlen⊢;clear en;have O:=I M;clear M;go_enter Tryz.func294,Tryz.ntmps294
 go_wp2
 go_loop [5] (fun iv=>∃k:Nat,k<l.length/\n<=k/\iv=.int .i64 (k:Int)) (fun iv=>(intOf iv).toNat)
 case atStart=>exact⟨l.length - 1,by omega,by omega,by congr 1;omega⟩
 case round=>
  obtain⟨k,hk,hn,rfl⟩:=hrel;have e0:(0:Int)<=(k:Int):=by omega
  have t:=O.o k hk hn
  by_cases e:k=n
  ·rw[decide_eq_true e] at t
   subst e
   go_wp2
   go_ret;exact⟨rfl,rfl⟩
  ·rw[decide_eq_false e] at t
   have Z:=I e;clear e
   go_wp2
   go_round
   case rel=>exact⟨k - 1,by omega,by have:=Z.o;omega,by congr 1;have:=Z.o;omega⟩
   case measure=>have:=Z.o;simp [intOf];omega
theorem Nn (u v:L) (b:UInt8) (M:b∉v) (w:World) (hs:(u++b :: v).length<=1000000000):Calls Tryz.prog 275 #[.string ⟨(u++b :: v).toArray⟩,.string ⟨#[b]⟩] w fun e w'=>
  e=.returned (.int .i64 (u.length:Int))/\w=w':=by
 have c1:=LU u v b M w hs;obtain⟨l,el⟩:=Ak (u++b :: v);obtain⟨n,en⟩:=Ak (u.length);rw[<-el] at c1 hs⊢;rw[<-en] at c1⊢;clear el en M;go_enter Tryz.func275,Tryz.ntmps275
 go_wp2_with (go_at_call 294;refine Aj c1 ?_;rintro w1 rfl)
 go_ret;exact⟨rfl,rfl⟩
theorem LW:(Tryz.prog.info? 5).map (fun i=>(i.zero,i.size,i.bytes))=some (some (.int .u8 0),1,1):=by kernel_rfl
theorem Vo (n:Nat) (hn:n<=1000000000) (w:World):(Instr.makeSlice 34 (.int .i64 (n:Int)) (.int .i64 (n:Int))).run Tryz.prog w=.ok (.slice (some ⟨w.heap.size,0,none⟩) n n) (w.alloc (.cells (De n) 5)):=by
 obtain⟨M,hi,O,hs,Z⟩:=info_parts LW;have h:=run_make (P:=Tryz.prog) w 34 5 M _ Tryz.underlying34 hi O .i64 .i64 (n:Int) (n:Int) (by omega) (by omega) (by rw[Z];omega) (by omega);have e:madeCells (Value.int .u8 0).cells (((n:Int)).toNat*M.size)=De n:=by
  rw[hs,Nat.mul_one,Int.toNat_natCast];refine Array.toList_inj.1 ?_;show(madeCells #[Value.int .u8 0] n).toList=_;rw[toList_madeCells_one];simp [De,bv]
 rw[e] at h
 simpa using h
theorem GD (s:L) (w:World):(Builtin.copy_ #[34,9] 3 #[.slice (some ⟨w.heap.size,0,none⟩) s.length s.length,.string ⟨s.toArray⟩]).run Tryz.prog (w.alloc (.cells (De s.length) 5))=.ok (goInt s.length) (w.alloc (.cells (bvs s).toArray 5)):=by
 obtain⟨M,hi,_,hs,_⟩:=info_parts LW;have hk:=Blk.new w 5 (De s.length);have h:=Lib.run_copy_row_string (P:=Tryz.prog) _ 34 9 3 5 w.heap.size 0 s.length s.length ⟨s.toArray⟩ _ 5 Tryz.underlying34 (by rw[hi];simp [hs]) hk (by rw[Nj];exact Nat.le_refl _) (by rw[Nj,Eh];omega);rw[Nj,World.setRow_alloc_new] at h;have e:(De s.length).toList.take 0++Lib.byteCells s++(De s.length).toList.drop (0+s.length)=bvs s:=by
  rw[List.drop_of_length_le (by rw[Array.length_toList,Eh];omega)];simp [Lib.byteCells,bvs,bv]
 rw[e] at h;exact h
theorem KG (s:L) (O:s≠[]) (hs:s.length<=1000000000) (w:World):(Builtin.unsafeString_ #[302,3] 9 #[.pointer (some ⟨w.heap.size,0,none⟩),.int .i64 (s.length:Int)]).run Tryz.prog (w.alloc (.cells (bvs s).toArray 5))=.ok (.string ⟨s.toArray⟩) ((w.alloc (.cells (bvs s).toArray 5)).freeze ⟨w.heap.size,0,none⟩ s.length):=by
 obtain⟨i0,hi,_,M,_⟩:=info_parts LW;have hk:=Blk.new w 5 (bvs s).toArray;refine Lib.run_unsafeString_row (P:=Tryz.prog) _ _ _ _ 5 Tryz.underlying302 (by simp [Program.cellsOf,hi,M]) w.heap.size s.length ?_ s O Ag (by omega) fun j x Z=>?_
 ·unfold World.shape?
  rw[show(w.alloc (.cells (bvs s).toArray 5)).heap[w.heap.size]? = _ from hk];simp [AG]
 ·obtain⟨hj,e⟩:=List.getElem?_eq_some_iff.1 Z
  rw[addr_add,Nat.zero_add,hk.cell,List.getElem?_toArray,Gg hj,e];rfl
theorem KH (s:L) (w:World) (M:s.length<=1000000000):Calls Tryz.prog 152 #[.string ⟨s.toArray⟩] w fun e w'=>e=.returned (.string ⟨s.toArray⟩)/\Below w.heap.size w w':=by
 by_cases h0:s = []
 ·subst h0
  go_enter Tryz.func152,Tryz.ntmps152
  go_wp2
  go_ret;exact⟨rfl,Below.refl _ _⟩
 ·have av:=Vo s.length M w
  have O:=GD s w;have Z:=KG s h0 M w;have hl:1<=s.length:=by
   cases s with
   |nil=>exact absurd rfl h0
   |cons a r=>simp
  have t0:((s.length:Int)==0)=false:=by simp;omega
  have HB:=I (Lib.below_freeze ((Below.refl w.heap.size w).alloc Ag (.cells (bvs s).toArray 5)) (p:=⟨w.heap.size,0,none⟩) Ag s.length);clear h0;go_enter Tryz.func152,Tryz.ntmps152
  go_wp2
  go_ret;exact⟨rfl,HB.o⟩
theorem BZ (s:L) (w:World) (M:s.length<=1000000000):Calls Tryz.prog 114 #[.string ⟨s.toArray⟩] w fun e w'=>e=.returned (.string ⟨s.toArray⟩)/\Below w.heap.size w w':=by
 have c1:=KH s w M;go_enter Tryz.func114,Tryz.ntmps114
 go_wp2_with (go_at_call 152;refine Aj c1 ?_;rintro w' O)
 go_ret;exact⟨rfl,O⟩
end Nm
namespace Nm
open Go.RowKit Af
attribute [local go_sem] Er List.getElem_cons_zero List.getElem_cons_succ Cg Ch Dz Dr
theorem AU.trans {a b c:World} (h:AU a b) (k:AU b c):AU a c:=by
 obtain⟨n,rfl⟩:=h;obtain⟨m,rfl⟩:=k;exact⟨n+m,by simp [World.drewN_drewN]⟩
theorem GF (l:L) (b:UInt8) (w:World) (hs:l.length<=1000000000):Calls Tryz.prog 203 #[.string ⟨l.toArray⟩,.string ⟨#[b]⟩] w fun e w'=>e=.returned (.bool (areL b 4 l))/\AU w w':=by
 have HS:=I hs;clear hs;go_enter Tryz.func203,Tryz.ntmps203
 go_wp2
 go_loopw [0,8] (fun sv iv wr=>∃(k:Nat) (s:L),k<=4/\sv=.string ⟨s.toArray⟩/\iv=.int .i64 (k:Int)/\areL b (4 - k) s=areL b 4 l/\s.length<=l.length/\AU w wr) (fun _ iv _=>4 - (intOf iv).toNat)
 case atStart=>exact⟨0,l,by omega,rfl,rfl,rfl,Nat.le_refl _,AU.refl _⟩
 case round=>
  obtain⟨k,s,hk,rfl,rfl,M,hl,O⟩:=hrel;have HL:=I hl;clear hl;have HD:=I O;clear O
  by_cases hlt:k<4
  ·have e1:(k:Int)<4:=by omega
   have av:s.length<=1000000000:=Nat.le_trans HL.o HS.o;have c1:=Nl s b wr av;have c2:=fun w1=>PY (bef b s) w1 (by have:=Rq b s;omega)
   have C2:=I c2;clear c2;have ea:areL b (4 - k) s=(Cn capB (bef b s)&&(if hasC b s then areL b (4 - (k+1)) (aft b s) else true)):=by
    rw[show 4 - k=(4 - (k+1))+1 by omega];rfl
   rw[ea] at M;have aw:(aft b s).length<=l.length:=by have:=Nd b s;have:=HL.o;omega
   have bb:=I aw;clear aw ea av;cases hw:Cn capB (bef b s) with
   |false=>
    rw[hw,Bool.false_and] at M;have Z:=I M;clear M;have HW:=I hw;clear hw
    go_wp2_with (first
     |(go_at_call 190;refine Aj c1 ?_;rintro w1 O;clear c1;have c2:=C2.o w1;rw[HW.o] at c2;have H1:=I O;clear O)
     |(go_at_call 112;refine Aj c2 ?_;rintro w2 rfl;clear c2))
    go_ret;exact⟨by rw[<-Z.o];rfl,HD.o.trans H1.o⟩
   |true=>
    rw[hw,Bool.true_and] at M;have HW:=I hw;clear hw;cases hc:hasC b s with
    |false=>
     rw[hc,if_neg (by simp)] at M;rw[hc] at c1;have Z:=I M;clear M;have HC:=I hc;clear hc
     go_wp2_with (first
      |(go_at_call 190;refine Aj c1 ?_;rintro w1 O;clear c1;have c2:=C2.o w1;rw[HW.o] at c2;have H1:=I O;clear O)
      |(go_at_call 112;refine Aj c2 ?_;rintro w2 rfl;clear c2))
     go_ret;exact⟨by rw[<-Z.o];rfl,HD.o.trans H1.o⟩
    |true=>
     rw[hc,if_pos rfl] at M;rw[hc] at c1;have Z:=I M;clear M;have HC:=I hc;clear hc
     go_wp2_with (first
      |(go_at_call 190;refine Aj c1 ?_;rintro w1 O;clear c1;have c2:=C2.o w1;rw[HW.o] at c2;have H1:=I O;clear O)
      |(go_at_call 112;refine Aj c2 ?_;rintro w2 rfl;clear c2))
     go_roundw
     case rel=>exact⟨k+1,aft b s,by omega,rfl,by go_num,Z.o,bb.o,HD.o.trans H1.o⟩
     case measure=>simp [intOf];omega
  ·have e1:¬(k:Int)<4:=by omega
   obtain rfl:k=4:=by omega
   have Z:=I (show areL b 4 l=false by rw[<-M];rfl);clear M
   go_wp2
   go_ret;exact⟨by rw[Z.o];rfl,HD.o⟩
theorem br (l:L):slL l=(preL [47] l&&Co (split 47 (cpL [47] l))):=by
 cases l with
 |nil=>rfl
 |cons x r=>
  rw[slL,cpL]
  by_cases h:x=47
  ·subst h
   have e:preL [47] (47 :: r)=true:=by simp [preL]
   rw[e];simp
  ·have e:preL [47] (x :: r)=false:=by
    cases q:preL [47] (x :: r) with
    |false=>rfl
    |true=>have:=congrArg List.head? (YC.1 q);simp at this;exact absurd this h
   rw[e];simp [h]
theorem XE (p l:L):(cpL p l).length<=l.length:=by rw[cpL];split<;>simp
theorem KI (l:L) (w:World) (hs:l.length<=1000000000):Calls Tryz.prog 149 #[.string ⟨l.toArray⟩] w fun e w'=>e=.returned (.int .i64 (AS l:Int))/\AU w w':=by
 have c1:=GF l 46 w hs;rw[LN] at c1;have C2:=I (fun w1=>GC l [47] w1 hs (by decide));have c3:=fun w1=>GF (cpL [47] l) 47 w1 (by have:=XE [47] l;omega)
 rw[LN] at c3;have C3:=I c3;clear c3 hs;have O:=PX l;rw[br] at O;cases h1:Co (split 46 l) with
 |true=>
  rw[h1] at c1;have E:=I (show AS l=1 by rw[O,h1];rfl);clear O h1;go_enter Tryz.func149,Tryz.ntmps149
  go_wp2_with (go_at_call 203;refine Aj c1 ?_;rintro w1 M;clear c1;have H1:=I M;clear M)
  go_ret;exact⟨by rw[E.o];rfl,H1.o⟩
 |false=>
  rw[h1] at c1;rw[h1,if_neg (by simp)] at O;cases h2:preL [47] l with
  |false=>
   have E:=I (show AS l=0 by rw[O,h2];rfl);have Z:=I h2;clear O h1 h2;go_enter Tryz.func149,Tryz.ntmps149
   go_wp2_with (first
    |(go_at_call 203;refine Aj c1 ?_;rintro w1 M;clear c1;have H1:=I M;clear M;have c2:=C2.o w1;rw[Z.o] at c2)
    |(go_at_call 150;refine Aj c2 ?_;rintro w2 rfl;clear c2))
   go_ret;exact⟨by rw[E.o];rfl,H1.o⟩
  |true=>
   rw[h2,Bool.true_and] at O;have Z:=I h2;cases h3:Co (split 47 (cpL [47] l)) with
   |false=>
    have E:=I (show AS l=0 by rw[O,h3];rfl);have H3:=I h3;clear O h1 h2 h3;go_enter Tryz.func149,Tryz.ntmps149
    go_wp2_with (first
     |(go_at_call 203;refine Aj c1 ?_;rintro w1 M;clear c1;have H1:=I M;clear M;have c2:=C2.o w1;rw[Z.o] at c2)
     |(go_at_call 150;refine Aj c2 ?_;rintro w2 rfl;clear c2;have c4:=C3.o w1;rw[H3.o] at c4)
     |(go_at_call 203;refine Aj c4 ?_;rintro w3 M;clear c4;have H4:=I M;clear M))
    go_ret;exact⟨by rw[E.o];rfl,H1.o.trans H4.o⟩
   |true=>
    have E:=I (show AS l=2 by rw[O,h3];rfl);have H3:=I h3;clear O h1 h2 h3;go_enter Tryz.func149,Tryz.ntmps149
    go_wp2_with (first
     |(go_at_call 203;refine Aj c1 ?_;rintro w1 M;clear c1;have H1:=I M;clear M;have c2:=C2.o w1;rw[Z.o] at c2)
     |(go_at_call 150;refine Aj c2 ?_;rintro w2 rfl;clear c2;have c4:=C3.o w1;rw[H3.o] at c4)
     |(go_at_call 203;refine Aj c4 ?_;rintro w3 M;clear c4;have H4:=I M;clear M))
    go_ret;exact⟨by rw[E.o];rfl,H1.o.trans H4.o⟩
theorem Fo (l:L) (w:World) (hs:l.length<=1000000000):Calls Tryz.prog 110 #[.string ⟨l.toArray⟩] w fun e w'=>e=.returned (.bool (isL l))/\AU w w':=by
 have c1:=KI l w hs
 by_cases h:1<=AS l
 ·have E:=I (show isL l=true by simp [isL,h])
  have t:((AS l:Int) != 0)=true:=by simp;omega
  clear h;go_enter Tryz.func110,Tryz.ntmps110
  go_wp2_with (go_at_call 149;refine Aj c1 ?_;rintro w1 M;clear c1;have H1:=I M;clear M)
  go_ret;exact⟨by rw[E.o];rfl,H1.o⟩
 ·have E:=I (show isL l=false by simp [isL];omega)
  have O:AS l=0:=by omega
  rw[O] at c1;clear h O;go_enter Tryz.func110,Tryz.ntmps110
  go_wp2_with (go_at_call 149;refine Aj c1 ?_;rintro w1 M;clear c1;have H1:=I M;clear M)
  go_ret;exact⟨by rw[E.o];rfl,H1.o⟩
end Nm
namespace Nm
open Go.RowKit Af
attribute [local go_sem] Er List.getElem_cons_zero List.getElem_cons_succ Cg Ch Dz Dr
theorem XF (l:L):(upL l).length<=l.length:=by
 by_cases h:l = []
 ·subst h;rw[bh];exact Nat.le_refl _
 ·exact Nat.le_of_lt (bj h)
theorem OZ (l:L) (w:World) (hs:l.length<=1000000000):Calls Tryz.prog 239 #[.string ⟨l.toArray⟩] w fun e w'=>e=.returned (.string ⟨(upL l).toArray⟩)/\Below w.heap.size w w':=by
 have c1:=KI l w hs
 by_cases h1:AS l=1
 ·rw[h1] at c1
  have c2:=fun w1=>Nl l 46 w1 hs
  have O:upL l=aft 46 l:=by rw[upL,if_pos h1]
  rw[<-O] at c2;have C2:=I c2;clear c2;have C3:=I (fun w1=>BZ (upL l) w1 (Nat.le_trans (XF l) hs));clear h1 O hs;go_enter Tryz.func239,Tryz.ntmps239
  go_wp2_with (first
   |(go_at_call 149;refine Aj c1 ?_;rintro w1 M;clear c1;have H1:=I M.below;clear M;have c2:=C2.o w1)
   |(go_at_call 190;refine Aj c2 ?_;rintro w2 M;clear c2;have H2:=I (H1.o.trans (M.below.mono H1.o.size));clear M;have c3:=C3.o w2)
   |(go_at_call 114;refine Aj c3 ?_;rintro w3 Z;clear c3;have H3:=H2.t Z;clear Z))
  go_ret;exact⟨rfl,H3.o⟩
 ·by_cases h2:AS l=2
  ·obtain⟨u,v,e,hv,O⟩:=Rr h2
   rw[h2] at c1;have c2:=fun w1=>Nn u v 47 hv w1 (by rw[<-e];exact hs)
   rw[<-e] at c2;obtain⟨n,en⟩:=Ak (u.length);have et:l.take n=upL l:=by rw[O,en,e];simp
   have ht:(n:Int)<=(l.length:Int):=by rw[e,en];simp;omega
   rw[<-en] at c2;have C2:=I c2;clear c2;have C3:=I (fun w1=>BZ (l.take n) w1 (Nat.le_trans (by simp;omega) hs));have E:=I et;clear en et O e hv h1 h2 hs;go_enter Tryz.func239,Tryz.ntmps239
   go_wp2_with (first
    |(go_at_call 149;refine Aj c1 ?_;rintro w1 M;clear c1;have H1:=I M.below;clear M;have c2:=C2.o w1)
    |(go_at_call 275;refine Aj c2 ?_;rintro w2 rfl;clear c2;have c3:=C3.o w1)
    |(go_at_call 114;refine Aj c3 ?_;rintro w3 Z;clear c3;have H3:=H1.t Z;clear Z))
   go_ret;exact⟨by rw[<-E.o];rfl,H3.o⟩
  ·have hk:=IZ l
   have e0:AS l=0:=by omega
   have E:=I (Ja e0);rw[e0] at c1;clear e0 hk h1 h2 hs;go_enter Tryz.func239,Tryz.ntmps239
   go_wp2_with (go_at_call 149;refine Aj c1 ?_;rintro w1 M;clear c1;have H1:=I M.below;clear M)
   go_ret;exact⟨by rw[E.o];rfl,H1.o⟩
theorem RH (a b:L) (w:World) (hs:a.length<=1000000000):Calls Tryz.prog 238 #[.string ⟨a.toArray⟩,.string ⟨b.toArray⟩] w fun e w'=>e=.returned (.bool (Gz a b))/\Below w.heap.size w w':=by
 have c1:=OZ a w hs;have c2:=fun(i:Nat) w1=>OZ (pl (ch (upL a)) i) w1 (by
  rcases Nat.lt_or_ge i (ch (upL a)).length with g | g
  ·have h1:=Rv (DL g);have:=XF a;omega
  ·rw[Kz g];simp)
 obtain⟨A,eA⟩:=Ak (ch (upL a));have h0:upL a=pl A 0:=by
  rw[eA]
  by_cases h:upL a = []
  ·rw[h,DY];rfl
  ·exact(Ew h).symm
 have O:∀i,i<A.length->upL (pl A i)=pl A (i+1):=by rw[eA];exact fun i h=>Vh _ h
 have Z:∀i,i<A.length->pl A i≠[]:=by rw[eA];exact fun i h=>Rs _ h
 have hu:Gz a b=decide (b∈A):=by rw[eA];rfl
 rw[<-eA] at c2;rw[h0] at c1;clear eA hs;have C2:=I c2;clear c2;have av:=I O;clear O;have aw:=I Z;clear Z;have HU:=I hu;clear hu h0;have bb:=I (Below.refl w.heap.size w);go_enter Tryz.func238,Tryz.ntmps238
 go_wp2_with (go_at_call 239;refine Aj c1 ?_;rintro w1 M;clear c1;have H1:=I M;clear M)
 go_loopg [5] A.length (fun g sv wr=>∃i:Nat,i+g=A.length/\sv=.string ⟨(pl A i).toArray⟩/\(∀k,k<i->pl A k≠b)/\Below w.heap.size w wr)
 case atStart=>exact⟨0,Nat.zero_add _,rfl,fun k h=>absurd h (Nat.not_lt_zero k),H1.o⟩
 case round=>
  obtain⟨i,hi,rfl,hn,M⟩:=hrel;have HN:=I hn;clear hn;have HB:=I M;clear M
  by_cases hlt:i<A.length
  ·have t1:(pl A i == [])=false:=by simpa using aw.o i hlt
   have c3:=C2.o i wr;rw[av.o i hlt] at c3
   by_cases hx:pl A i=b
   ·have t2:(pl A i==b)=true:=by simpa using hx
    have E:=I (show Gz a b=true by rw[HU.o,<-hx];simpa using DL hlt);clear hx c3;have HI:=I hi;clear hi
    go_wp2_with fail
    go_ret;exact⟨by rw[E.o];rfl,HB.o⟩
   ·have t2:(pl A i==b)=false:=by simpa using hx
    have HX:=I hx;clear hx;have HI:=I hi;clear hi
    go_wp2_with (go_at_call 239;refine Aj c3 ?_;rintro w3 M;clear c3;have H3:=HB.t M;clear M)
    go_roundg (A.length - (i+1))
    case measure=>have:=HI.o;omega
    case rel=>exact⟨i+1,by have:=HI.o;omega,rfl,fun k hk=>by
     by_cases q:k=i
     ·rw[q];exact HX.o
     ·exact HN.o k (by omega),H3.o⟩
  ·have E:=I (show Gz a b=false by
    rw[HU.o,decide_eq_false_iff_not];intro hm;obtain⟨k,hk,e⟩:=mem_pl hm;exact HN.o k (by omega) e)
   have t1:pl A i = []:=Kz (by omega);rw[t1];clear t1 hi hlt
   go_wp2_with fail
   go_ret;exact⟨by rw[E.o];rfl,HB.o⟩
end Nm
namespace Nm
open Go.RowKit Af
theorem LX (a b:L):ByteArray.mk a.toArray++ByteArray.mk b.toArray=ByteArray.mk (a++b).toArray:=by
 apply ByteArray.ext;simp
attribute [local go_sem] Er List.getElem_cons_zero List.getElem_cons_succ Cg Ch Dz Dr
def krb:L:=[107,114,98,116,103,116,47]
def tgL (n:L):Bool:=preL krb n&&isL (cpL krb n)
def tgR (n:L):L:=if tgL n then n.drop 7 else []
def Cu (r n:L):Bool:=isL r&&(tgL n||Cn Ct n)
theorem PZ (n:L) (w:World) (hs:n.length<=1000000000):Calls Tryz.prog 111 #[.string ⟨n.toArray⟩] w fun e w'=>e=.returned (.tuple #[.string ⟨(tgR n).toArray⟩,.bool (tgL n)])/\Below w.heap.size w w':=by
 have c1:=GC n krb w hs (by decide);have O:=XE krb n;have c2:=Fo (cpL krb n) w (by omega);have C3:=I (fun w1=>BZ (cpL krb n) w1 (by omega));have av:=I (Below.refl w.heap.size w);cases h1:preL krb n with
 |false=>
  have M:=I (show tgL n=false by rw[tgL,h1];rfl);have E2:=I (show tgR n = [] by rw[tgR,M.o];rfl);rw[h1] at c1;clear h1 hs O c2;go_enter Tryz.func111,Tryz.ntmps111
  go_wp2_with (go_at_call 150;refine Aj c1 ?_;rintro w1 rfl;clear c1)
  go_ret2
  exact⟨by rw[M.o,E2.o];rfl,av.o⟩
 |true=>
  cases h2:isL (cpL krb n) with
  |false=>
   have M:=I (show tgL n=false by rw[tgL,h1,h2];rfl);have E2:=I (show tgR n = [] by rw[tgR,M.o];rfl);rw[h1] at c1;rw[h2] at c2;clear h1 h2 hs O;go_enter Tryz.func111,Tryz.ntmps111
   go_wp2_with (first
    |(go_at_call 150;refine Aj c1 ?_;rintro w1 rfl;clear c1)
    |(go_at_call 110;refine Aj c2 ?_;rintro w2 Z;clear c2;have H2:=I Z.below;clear Z))
   go_ret2
   exact⟨by rw[M.o,E2.o];rfl,H2.o⟩
  |true=>
   have M:=I (show tgL n=true by rw[tgL,h1,h2];rfl);have E2:=I (show tgR n=cpL krb n by rw[tgR,M.o,cpL,h1];rfl);rw[h1] at c1;rw[h2] at c2;clear h1 h2 hs O;go_enter Tryz.func111,Tryz.ntmps111
   go_wp2_with (first
    |(go_at_call 150;refine Aj c1 ?_;rintro w1 rfl;clear c1)
    |(go_at_call 110;refine Aj c2 ?_;rintro w2 Z;clear c2;have H2:=I Z.below;clear Z;have c3:=C3.o w2)
    |(go_at_call 114;refine Aj c3 ?_;rintro w3 hb;clear c3;have H3:=H2.t hb;clear hb))
   go_ret2
   exact⟨by rw[M.o,E2.o];rfl,H3.o⟩
theorem AV (r n:L) (w:World) (hs:r.length<=1000000000) (bz:n.length<=1000000000):Calls Tryz.prog 66 #[.agg #[.string ⟨r.toArray⟩,.string ⟨n.toArray⟩]] w fun e w'=>e=.returned (.bool (Cu r n))/\Below w.heap.size w w':=by
 have c1:=Fo r (w.alloc (.cells #[.string ⟨r.toArray⟩,.string ⟨n.toArray⟩] 27)) hs;have hk:=Blk.new w 27 #[.string ⟨r.toArray⟩,.string ⟨n.toArray⟩];have aw:=(Below.refl w.heap.size w).alloc Ag (.cells #[.string ⟨r.toArray⟩,.string ⟨n.toArray⟩] 27);have bn:w.heap.size<(w.alloc (.cells #[.string ⟨r.toArray⟩,.string ⟨n.toArray⟩] 27)).heap.size:=by simp
 obtain⟨N,eN⟩:=Ak (w.heap.size);have C2:=I (fun w1=>PZ n w1 bz);have C3:=I (fun w1=>RB n w1 bz);have E1:=I (show Cu r n=(isL r&&(tgL n||Cn Ct n)) from rfl);rw[<-eN] at hk aw bn⊢;have EN:=I eN;clear eN;have HK:=I hk;clear hk;have bb:=I aw;clear aw;have O:=I bn;clear bn hs bz;cases h1:isL r with
 |false=>
  rw[h1] at c1;have E:=I (show Cu r n=false by rw[E1.o,h1];rfl);clear h1;go_enter Tryz.func66,Tryz.ntmps66
  go_wp2_with (go_at_call 110;refine Aj c1 ?_;rintro w1 M;clear c1;have H1:=I (bb.o.trans (M.below.mono (Nat.le_of_lt O.o)));clear M)
  go_ret;exact⟨by rw[E.o];rfl,H1.o⟩
 |true=>
  rw[h1] at c1;have cb:=I (fun w1=>C2.o w1);cases h2:tgL n with
  |true=>
   have E:=I (show Cu r n=true by rw[E1.o,h1,h2];rfl);have HT:=I h2;clear h1 h2;go_enter Tryz.func66,Tryz.ntmps66
   go_wp2_with (first
    |(go_at_call 110;refine Aj c1 ?_;rintro w1 M;clear c1;have H1:=I (bb.o.trans (M.below.mono (Nat.le_of_lt O.o)));have av:=(HK.o.below M.below).cell 1;have Z:N<w1.heap.size:=(by have:=M.below.size;have:=O.o;omega);have bx:=I Z;rw[EN.o] at av;clear M Z;have c2:=C2.o w1;rw[HT.o] at c2)
    |(go_at_call 111;refine Aj c2 ?_;rintro w2 hb;clear c2;have H2:=I (H1.o.trans (hb.mono (Nat.le_of_lt bx.o)));clear hb))
   go_ret;exact⟨by rw[E.o];rfl,H2.o⟩
  |false=>
   have E:=I (show Cu r n=Cn Ct n by rw[E1.o,h1,h2];rfl);have HT:=I h2;clear h1 h2;go_enter Tryz.func66,Tryz.ntmps66
   go_wp2_with (first
    |(go_at_call 110;refine Aj c1 ?_;rintro w1 M;clear c1;have H1:=I (bb.o.trans (M.below.mono (Nat.le_of_lt O.o)));have bq:=HK.o.below M.below;have ca:=I bq;have av:=bq.cell 1;have Z:N<w1.heap.size:=(by have:=M.below.size;have:=O.o;omega);have bx:=I Z;rw[EN.o] at av;clear M Z bq;have c2:=C2.o w1;rw[HT.o] at c2)
    |(go_at_call 111;refine Aj c2 ?_;rintro w2 hb;clear c2 av;have H2:=I (H1.o.trans (hb.mono (Nat.le_of_lt bx.o)));have bB:=(ca.o.below hb).cell 1;rw[EN.o] at bB;clear hb;have c3:=C3.o w2)
    |(go_at_call 112;refine Aj c3 ?_;rintro w3 rfl;clear c3))
   go_ret;exact⟨by rw[E.o];rfl,H2.o⟩
end Nm
namespace Nm
theorem Vp {a b x:L} (h:x∈KC (ch a) (ch b)):x∈ch a\/x∈ch b:=by
 rw[KC,List.mem_append,List.mem_append,List.mem_reverse] at h;rcases h with h | h | h
 ·exact .inl (List.mem_of_mem_take h)
 ·exact .inl (List.mem_of_mem_drop (List.mem_of_mem_take h))
 ·exact .inr (List.mem_of_mem_take h)
theorem Vq (a b:L):(KC (ch a) (ch b)).length<=9:=by
 have:=LP a;have:=LP b;rw[KC];simp only[List.length_append,List.length_take,List.length_reverse,List.length_drop];omega
theorem Gn (a b:L):(Br a b).length<=9:=by
 rw[Br]
 split
 ·simp
 ·have:=Vq a b
  simp only[List.length_dropLast,List.length_drop];omega
theorem LY {a b x:L} (h:x∈Br a b):AS x≠0:=by
 rw[Br] at h
 split at h
 ·simp at h
 ·rename_i hk
  rw[not_or] at hk;have O:=List.mem_of_mem_drop ((List.dropLast_sublist _).subset h);rcases Vp O with M | M
  ·rw[OX M];exact hk.1
  ·rw[OX M];exact hk.2
open Go.RowKit Af
def st (l:L):Value:=.string ⟨l.toArray⟩
def strs (ls:List L):List Value:=ls.map st
theorem DM (ls:List L):(strs ls).length=ls.length:=by simp [strs]
theorem Jd (ls ms:List L):strs (ls++ms)=strs ls++strs ms:=by simp [strs]
theorem KJ (ls:List L):∀u∈strs ls,u.oneCell'=true:=by
 intro u hu;obtain⟨b,_,rfl⟩:=List.mem_map.1 hu
 rfl
theorem YD {ls:List L} {i:Nat} (h:i<ls.length):(strs ls)[i]? = some (st (pl ls i)):=by
 rw[strs,List.getElem?_map,List.getElem?_eq_getElem h,CU h];rfl
theorem IF:(Tryz.prog.info? 9).map (fun i=>(i.zero,i.size,i.bytes))=some (some (.string ⟨#[]⟩),1,16):=by kernel_rfl
def Own (w:World) (base:Nat) (v:Value) (ls:List L):Prop:=w.ownsRow base 9 1 v ls.length (strs ls)
theorem Own.nil (w:World) (base:Nat):Own w base (.slice none 0 0) []:=World.ownsRow_nil w base _ 1
theorem Own.below {w w':World} {base:Nat} {v:Value} {ls:List L} (h:Own w base v ls) (M:Below w.heap.size w w'):Own w' base v ls:=BU h M
theorem Own.from_ {w:World} {base base':Nat} {v:Value} {ls:List L} (h:Own w base v ls) (hb:base'<=base):Own w base' v ls:=by
 refine⟨h.1,?_⟩;rcases h.2 with h | ⟨g,cap,cur,M,Z,O⟩
 ·exact .inl h
 ·exact .inr ⟨g,cap,cur,M,by omega,O⟩
theorem Own.slice {w:World} {base:Nat} {v:Value} {ls:List L} (h:Own w base v ls):∃A c,v=.slice A ls.length c/\Rd w w.heap.size A (strs ls):=by
 have O:=h;rcases h.2 with⟨M,Z⟩ | ⟨g,cap,cur,M,_⟩
 ·have e:ls = []:=List.eq_nil_of_length_eq_zero Z
  subst e;exact⟨none,0,M,.inl rfl⟩
 ·subst M
  exact⟨_,cap,rfl,Rd.of_own (n:=ls.length) (cap:=cap) O⟩
theorem Own.lt {w:World} {base:Nat} {v:Value} {ls:List L} (h:Own w base v ls):∀k,v.ownBlock=some k->base<=k/\k<w.heap.size:=World.ownsRow.lt h
theorem DE {w:World} {B:Nat} {A:Option Addr} {ls:List L} (h:Rd w B A (strs ls)) {i:Nat} (hi:i<ls.length):∃b o,A=some ⟨b,o,none⟩/\b<B/\w.cell? ⟨b,o+i,none⟩=some (.string ⟨(pl ls i).toArray⟩):=
 h.at_ (YD hi)
section
variable {w:World} {ops:Array Oper} {rest:List Oper} {o:Oper} {a:Act} {Q:Exit->Act->World->Prop}
theorem Pb (O:o.guard=none) (s x:Operand) (ho:o.op=.call {callee:=.builtin .append,args:=#[s,x],argTypes:=#[42,42]})
  (base:Nat) (v:Value) (ls:List L) (hs:a.eval s=v) (M:Own w base v ls) (B:Nat) (A:Option Addr) (c:Nat) (ms:List L) (hx:a.eval x=.slice A ms.length c) (hr:Rd w B A (strs ms))
  (hl:ls.length+ms.length<=8000000000000) (hb:base<=w.heap.size)
  (h:∀v' w',Own w' base v' (ls++ms)->Below base w w'->wpList Tryz.prog ops Q rest (a.put o.dst v') w'):wpList Tryz.prog ops Q (o :: rest) a w:=by
 obtain⟨i0,bb,av,aw,Z⟩:=info_parts IF;refine AJ w O s x 42 ho base 9 i0 _ 16 Tryz.underlying42 bb av aw Z rfl v ls.length (strs ls) hs M B A ms.length c (strs ms) hx (DM _).symm hr (KJ _) (by unfold maxLen;omega) (by omega) hb ?_;intro v' w' h1 h2 _;refine h v' w' (by rw[Own,List.length_append,Jd];exact h1) ?_;exact Ah.grown h2 hb (fun k hk=>(M.lt k hk).1)
theorem Hq (O:o.guard=none) (s x:Operand) (ho:o.op=.call {callee:=.builtin .append,args:=#[s,x],argTypes:=#[42,42]})
  (base:Nat) (v:Value) (ls:List L) (hs:a.eval s=v) (M:Own w base v ls) (r:L) (hx:a.eval x=.slice (some ⟨w.heap.size,0,none⟩) 1 1)
  (hl:ls.length+1<=8000000000000) (hb:base<=w.heap.size)
  (h:∀v' w',Own w' base v' (ls++[r])->Below base w w'->wpList Tryz.prog ops Q rest (a.put o.dst v') w'):wpList Tryz.prog ops Q (o :: rest) a (w.alloc (.cells #[.string ⟨r.toArray⟩] 9)):=by
 refine Pb O s x ho base v ls hs (M.below (Ah.alloc Ag _)) (w.heap.size+1) _ 1 [r] hx ?_ hl (by simp;omega) ?_
 ·refine .inr ⟨w.heap.size,0,rfl,by omega,fun i u hu=>?_⟩
  cases i with
  |zero=>
   simp only[strs,List.map_cons,List.map_nil,List.getElem?_cons_zero,Option.some.injEq] at hu;subst hu;exact(Blk.new w 9 _).cell 0
  |succ i=>simp [strs] at hu
 ·intro v' w' h1 Z
  exact h v' w' h1 ((Ah.alloc hb _).trans Z)
end
def rev (ls:List L) (k:Nat):List L:=(List.range ls.length).map fun j=>if j<k\/ls.length<=j+k then pl ls (ls.length - 1 - j) else pl ls j
theorem Bi (ls:List L) (k:Nat):(rev ls k).length=ls.length:=by simp [rev]
theorem Ke (ls:List L) (k j:Nat) (h:j<ls.length):pl (rev ls k) j=if j<k\/ls.length<=j+k then pl ls (ls.length - 1 - j) else pl ls j:=by
 rw[CU (by rw[Bi];exact h)];simp [rev]
theorem RI {A B:List L} (h:A.length=B.length) (hp:∀i,i<A.length->pl A i=pl B i):A=B:=by
 apply List.ext_getElem h;intro i M O;have:=hp i M
 rwa [CU M,CU O] at this
theorem rev_zero (ls:List L):rev ls 0=ls:=by
 refine RI (Bi _ _) fun i hi=>?_
 rw[Bi] at hi;rw[Ke _ _ _ hi,if_neg (by omega)]
theorem YE (ls:List L) (k:Nat) (h:ls.length<=2*k+1) (hk:k<=ls.length):rev ls k=ls.reverse:=by
 refine RI (by rw[Bi];simp) fun i hi=>?_
 rw[Bi] at hi;rw[Ke _ _ _ hi,CU (A:=ls.reverse) (by simpa using hi),List.getElem_reverse,<-CU]
 by_cases q:i<k\/ls.length<=i+k
 ·rw[if_pos q]
 ·rw[if_neg q,show ls.length - 1 - i=i by omega]
theorem XG (A:List L) (i j:Nat) (x:L) (h:j<A.length):pl (A.set i x) j=if i=j then x else pl A j:=by
 rw[CU (by simpa using h),List.getElem_set,CU h]
theorem Vr (ls:List L) (k:Nat) (h:2*k+1<ls.length):((rev ls k).set k (pl (rev ls k) (ls.length - 1 - k))).set (ls.length - 1 - k) (pl (rev ls k) k)=rev ls (k+1):=by
 refine RI (by simp [Bi]) fun i hi=>?_
 simp only[List.length_set,Bi] at hi;rw[XG _ _ _ _ (by simp [Bi];omega),XG _ _ _ _ (by rw[Bi];omega),Ke _ _ _ hi,Ke _ _ i hi,Ke _ _ k (by omega),Ke _ _ (ls.length - 1 - k) (by omega)]
 by_cases q1:ls.length - 1 - k=i
 ·rw[if_pos q1,if_neg (by omega),if_pos (by omega),show ls.length - 1 - i=k by omega]
 ·rw[if_neg q1]
  by_cases q2:k=i
  ·rw[if_pos q2,if_neg (by omega),if_pos (by omega),q2]
  ·rw[if_neg q2]
   by_cases q3:i<k\/ls.length<=i+k
   ·rw[if_pos q3,if_pos (by omega)]
   ·rw[if_neg q3,if_neg (by omega)]
theorem Vs (ls:List L) (i:Nat) (x:L):strs (ls.set i x)=(strs ls).set i (st x):=by simp [strs,List.map_set]
theorem Own.stored {w:World} {base g n cap:Nat} {ls:List L} (h:Own w base (.slice (some ⟨g,0,none⟩) n cap) ls) (M:n=ls.length) (j:Nat) (x:L) :
  Own (w.setCell ⟨g,j,none⟩ (.string ⟨x.toArray⟩)) base (.slice (some ⟨g,0,none⟩) n cap) (ls.set j x)/\w.grownBy (w.setCell ⟨g,j,none⟩ (.string ⟨x.toArray⟩)) (some g):=by
 subst M;have:=World.ownsRow.stored h j (st x);refine⟨?_,this.2⟩;rw[Own,List.length_set,Vs];exact this.1
theorem No (v:Value) (ls:List L) (w:World) (base:Nat) (h:Own w base v ls) (hb:base<=w.heap.size) (hl:ls.length<=100000) :
  Calls Tryz.prog 276 #[v] w fun e w'=>e=.returned (.tuple #[])/\Own w' base v ls.reverse/\Below base w w':=by
 rcases Nat.eq_zero_or_pos ls.length with h0 | h0
 ·obtain⟨A,c,rfl,_⟩:=h.slice
  have e:ls = []:=List.eq_nil_of_length_eq_zero h0;subst e;have HO:=I h;clear h;simp only[List.length_nil];clear h0;go_enter Tryz.func276,Tryz.ntmps276
  go_wp2
  go_loopg [2,3] 0 (fun _ s2 s3 wr=>s2=.int .i64 0/\s3=.int .i64 (-1)/\wr=w)
  case atStart=>exact⟨rfl,rfl,rfl⟩
  case round=>
   obtain⟨rfl,rfl,rfl⟩:=hrel
   go_wp2
   go_end0
   exact⟨rfl,HO.o,Below.refl _ _⟩
 ·obtain⟨g,cap,rfl,hg⟩:∃g cap,v=.slice (some ⟨g,0,none⟩) ls.length cap/\base<=g:=by
   rcases h.2 with⟨_,h2⟩ | ⟨g,cap,cur,h1,h2,_⟩
   ·omega
   ·exact⟨g,cap,h1,h2⟩
  obtain⟨n,en⟩:=Ak (ls.length);rw[<-en] at h hl h0⊢;have M:=I en;clear en;have HO:=I h;clear h;have HB:=I (show Below base w w from Below.refl _ _);have HG:=I hg;clear hg;have bb:=I hb;clear hb;go_enter Tryz.func276,Tryz.ntmps276
  go_wp2
  go_loopg [2,3] n (fun q s2 s3 wr=>∃i j:Nat,i+j+1=n/\i+q=n/\i<=j+1/\s2=.int .i64 (i:Int)/\s3=.int .i64 (j:Int)/\Own wr base (.slice (some ⟨g,0,none⟩) n cap) (rev ls i)/\Below base w wr)
  case atStart=>exact⟨0,n - 1,by omega,by omega,by omega,rfl,by congr 1;omega,by rw[rev_zero];exact HO.o,HB.o⟩
  case round=>
   obtain⟨i,j,h1,h2,h3,rfl,rfl,O,hb⟩:=hrel;have Z:=I hb;clear hb
   by_cases hlt:i<j
   ·have hr:=O.slice
    have ci:wr.cell? ⟨g,i,none⟩=some (.string ⟨(pl (rev ls i) i).toArray⟩):=by
     obtain⟨A,c,e,aw⟩:=hr;injection e with e1 e2 e3;subst e1;obtain⟨b',o',e4,_,e5⟩:=DE aw (i:=i) (by rw[Bi,<-M.o];omega);injection e4 with e4;injection e4 with e6 e7;subst e6;subst e7
     rwa [Nat.zero_add] at e5
    have cj:wr.cell? ⟨g,j,none⟩=some (.string ⟨(pl (rev ls i) j).toArray⟩):=by
     obtain⟨A,c,e,aw⟩:=hr;injection e with e1 e2 e3;subst e1;obtain⟨b',o',e4,_,e5⟩:=DE aw (i:=j) (by rw[Bi,<-M.o];omega);injection e4 with e4;injection e4 with e6 e7;subst e6;subst e7
     rwa [Nat.zero_add] at e5
    have fi:wr.frozen? ⟨g,i,none⟩=false:=World.ownsRow.frozenAt (n:=n) (by have:=O;rw[Own,Bi,<-M.o] at this;exact this) i;have fj:wr.frozen? ⟨g,j,none⟩=false:=World.ownsRow.frozenAt (n:=n) (by have:=O;rw[Own,Bi,<-M.o] at this;exact this) j;clear hr;have av:=I O;clear O;have e1:(i:Int)<(j:Int):=by omega
    have H1:=I h1;have H2:=I h2;clear h2;have H3:=I h3;clear h3
    go_wp2_with fail
    go_region
    go_wp2
    have s1:=av.o.stored (by rw[Bi,<-M.o]) i (pl (rev ls i) j);have s2:=s1.1.stored (by rw[List.length_set,Bi,<-M.o]) j (pl (rev ls i) i);have er:((rev ls i).set i (pl (rev ls i) j)).set j (pl (rev ls i) i)=rev ls (i+1):=by
     have:=Vr ls i (by have:=M.o;have:=H1.o;omega)
     rwa [show ls.length - 1 - i=j by have:=M.o;have:=H1.o;omega] at this
    rw[er] at s2
    go_roundg (n - (i+1))
    case measure=>have:=H2.o;omega
    case rel=>
     refine⟨i+1,j - 1,by have:=H1.o;omega,by have:=H2.o;omega,by omega,by go_num,by congr 1;omega,s2.1,?_⟩;have b1:=Z.o.grown s1.2 (by have:=Z.o.size;have:=bb.o;omega) (fun k hk=>by injection hk with hk;have:=HG.o;omega);have b2:=b1.grown s2.2 (by have:=b1.size;have:=bb.o;omega) (fun k hk=>by injection hk with hk;have:=HG.o;omega);exact below_drewN b2 1
   ·have av:=I O;clear O
    have e1:¬(i:Int)<(j:Int):=by omega
    have E:=I (YE ls i (by have:=M.o;omega) (by have:=M.o;omega));have H1:=I h1;clear h1;have H2:=I h2;clear h2;have H3:=I h3;clear h3
    go_wp2
    go_end0
    exact⟨rfl,by rw[<-E.o];exact av.o,Z.o⟩
end Nm
end Go.Proofs.YtfbnjcdhipplpaaGreat
