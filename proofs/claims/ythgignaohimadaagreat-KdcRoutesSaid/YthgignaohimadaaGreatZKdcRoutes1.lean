import Derived.WalkKit
import Derived.WalkSpells
import Derived.WalkLawsBesides
import Derived.LaidEqlPtr
import Derived.Maps.AppendAt
import Derived.Maps.Range
import Derived.Maps.RangeWalk
import Derived.Deep.AppendLies
import Derived.Deep.Draws
import Derived.Deep.Onto
import Derived.Lib.ConvBytes
import Derived.Lib.Hide
import Derived.RegionTactic
import Derived.Deep.QuietTactic
import Derived.BigQuiet
import Derived.Laws.BitsAllLaws
import Derived.Laws.BitsLemmas
import Derived.Test.YthgignaohimadaaGreatProg
import Derived.Lib.Strings
import Derived.Lib.Walk
import Derived.Lib.Bytealg
import Derived.Lib.BufferWrite
import Derived.Lib.UnsafeStr
import Derived.Laws.MakeOwn
import Derived.Laws.OwnMore
import Derived.Deep.WholeRow
import Derived.Deep.LoopGhost
import Derived.Lib.ItoaNum
import Derived.Lib.BitFns
import Derived.Lib.Tables
import Derived.Lib.MinMax
import Derived.IntWalk
import Derived.Laws.AppendOwn
import Derived.Lib.AppendStr
import Derived.DeepKeys
import Derived.Deep.RegionHeld3
import Derived.Deep.Cut
import Derived.Deep.CutRange
import Derived.Deep.CutBlock
import Derived.Deep.MidRow
import Derived.StillTailTactics
import Derived.Laws.Bits64
import Derived.Deep.RegionLaw
import Derived.Laws.Bits64b
import Derived.ProofKit
import Derived.OpenShut
import Derived.ShutString
import Derived.ChangeOld
import Derived.Deep.Matrix
import Derived.Deep.Slices
import Derived.Lib.SlBytesConst
import Derived.BigFrame
import Derived.Great.BuildSlice
import Derived.Laws.StructEq
import Derived.SizedLaws
import Derived.Test.YthgignaohimadaaGreatRows
import Derived.Lib.SmallJoins
import Derived.Deep.Strs
import Derived.ChangeSame
import Derived.Laws.IdiomCopy
import Derived.Laws.Tables
import Derived.Below
set_option maxHeartbeats 25600000
set_option maxRecDepth 100000
set_option linter.unusedVariables false
set_option linter.unusedSimpArgs false
theorem Go.RowKit.Hid.o {p : Prop} (h : Go.RowKit.Hid p) : p := h
theorem Go.Aside.o {p : Prop} (h : Go.Aside p) : p := h
theorem Go.Shut.o {p : Prop} (h : Go.Shut p) : p := h
namespace Go.Proofs.YthgignaohimadaaGreat
theorem I {p : Prop} (h : p) : Go.RowKit.Hid p := h
theorem Aj {P:Program} {f:FuncId} {args:Array Value} {w:World} {r:Ending} {K:World->Prop} {Q:Ending->World->Prop} (h:Calls P f args w fun e w'=>e=r/\K w') (k:∀w',K w'->Q r w'):Calls P f args w Q:=h.mono fun e w' x=>x.1.symm▸k w' x.2
theorem Ak {α:Sort _} (a:α):∃x,x=a:=⟨a,rfl⟩
theorem Ag {n : Nat} : n <= n := Nat.le_refl n
theorem Ah {n : Nat} {w : World} : Go.RowKit.Below n w w := Go.RowKit.Below.refl n w
theorem U {α : Type} (l : List α) (i : Nat) (a : α) : l.toArray.setIfInBounds i a = (l.set i a).toArray := List.setIfInBounds_toArray ..
theorem Aa {α : Type} {x : α} {xs : List α} {a : α} : (x :: xs).set 0 a = a :: xs := rfl
theorem Ab {α : Type} {x : α} {xs : List α} {n : Nat} {a : α} : (x :: xs).set (n + 1) a = x :: xs.set n a := rfl
abbrev Av : Array Go.Value := #[.string ⟨#[]⟩,.string ⟨#[]⟩,.int .u8 0,.int .u8 0,.int .u8 0,.int .u8 0,.int .u8 0,.int .u8 0,.int .u8 0,.int .u8 0,.int .u8 0,.int .u8 0,.int .u8 0,.int .u8 0,.int .u8 0,.int .u8 0,.int .u8 0,.int .u8 0,.int .u8 0,.int .u8 0,.int .u8 0,.int .u8 0,.int .u8 0,.int .u8 0,.int .u8 0,.int .u8 0,.int .u8 0,.int .u8 0,.int .u8 0,.int .u8 0,.int .u8 0,.int .u8 0,.int .u8 0,.int .u8 0,.string ⟨#[]⟩,.int .i64 0,.int .i64 0]
abbrev Ax : Array Go.Value := #[.int .i64 0,.string ⟨#[]⟩,.string ⟨#[]⟩,.string ⟨#[]⟩,.string ⟨#[]⟩,.int .i64 0,.int .i64 0,.string ⟨#[]⟩,.string ⟨#[]⟩,.int .i64 0,.slice none 0 0,.slice none 0 0,.string ⟨#[]⟩,.string ⟨#[]⟩,.int .i64 0,.int .i64 0,.string ⟨#[]⟩,.string ⟨#[]⟩,.string ⟨#[]⟩,.string ⟨#[]⟩,.int .i64 0,.slice none 0 0,.slice none 0 0,.string ⟨#[]⟩,.string ⟨#[]⟩,.int .i64 0,.slice none 0 0,.slice none 0 0,.int .i64 0,.int .i64 0]
end Go.Proofs.YthgignaohimadaaGreat
theorem Go.RowKit.Hid.t {a w w' : Go.World} (h : Go.RowKit.Hid (Go.RowKit.Below a.heap.size a w)) (k : Go.RowKit.Below w.heap.size w w') : Go.RowKit.Hid (Go.RowKit.Below a.heap.size a w') := Go.Proofs.YthgignaohimadaaGreat.I (h.o.trans (k.mono h.o.size))
namespace Go.Proofs.YthgignaohimadaaGreat
namespace Af
open Go.RowKit
theorem Ea (l:List UInt8) (i:Nat) (h:i<(ByteArray.mk l.toArray).size):(ByteArray.mk l.toArray)[i]'h=l[i]'(by simpa [ByteArray.size] using h):=rfl
theorem BZ (a:UInt8) (r:List UInt8):(ByteArray.mk (a :: r).toArray).extract 1 (r.length+1)=ByteArray.mk r.toArray:=by
 rw[ByteArray.extract_mk];simp
theorem Ca (l:List UInt8) (k:Nat):(ByteArray.mk l.toArray).extract k l.length=ByteArray.mk (l.drop k).toArray:=by
 rw[ByteArray.extract_mk,List.take_of_length_le (by simp)]
theorem Dd (l:List UInt8) (k n:Nat):(ByteArray.mk l.toArray).extract k (k+n)=ByteArray.mk ((l.drop k).take n).toArray:=by
 rw[ByteArray.extract_mk,Nat.add_sub_cancel_left]
theorem Fg (a:UInt8):(a.toNat:Int)<=255:=by have:=a.toNat_lt;omega
theorem bytes_eta (s:ByteArray):s=⟨s.data.toList.toArray⟩:=by cases s;simp
theorem RE (a:Nat) (D:a<9223372036854775808):(BitVec.ofInt 64 (a:Int)).toNat=a:=by
 rw[BitVec.ofInt_natCast,BitVec.toNat_ofNat];exact Nat.mod_eq_of_lt (by omega)
theorem RF (x y:Nat) (M:y<256) (D:x*256+y<9223372036854775808):bits .or .i64 ((x:Int)*256) (y:Int)=(x:Int)*256+y:=by
 have E:=RE (x*256) (Nat.lt_of_le_of_lt (Nat.le_add_right _ _) D);have F:=RE y (Nat.lt_of_le_of_lt (Nat.le_add_left _ _) D);have e:((x:Int)*256)=((x*256:Nat):Int):=by omega
 have J:x*256 ||| y=x*256+y:=by
  have h:=Nat.shiftLeft_add_eq_or_of_lt (show y<2 ^ 8 by omega) x;rw[Nat.shiftLeft_eq] at h
  simpa using h.symm
 rw[e];show IntKind.i64.wrap ((BitVec.ofInt 64 ((x*256:Nat):Int) ||| BitVec.ofInt 64 (y:Int)).toNat:Int)=_;rw[BitVec.toNat_or,E,F,J,IntKind.wrap_i64];omega
def bv (b:UInt8):Value:=.int .u8 (b.toNat:Int)
def bvs (l:List UInt8):List Value:=l.map bv
theorem Ay (l:List UInt8):(bvs l).length=l.length:=by simp [bvs]
theorem Bu (l m:List UInt8):bvs (l++m)=bvs l++bvs m:=by simp [bvs]
theorem Br (l:List UInt8):∀u∈bvs l,u.oneCell'=true:=by
 intro u hu;obtain⟨b,_,rfl⟩:=List.mem_map.1 hu
 rfl
theorem GC {l:List UInt8} {i:Nat} (h:i<l.length):(bvs l)[i]? = some (bv l[i]):=by simp [bvs,h]
def Rd (w:World) (B:Nat) (A:Option Addr) (xs:List Value):Prop:=
 xs = []\/∃b o,A=some ⟨b,o,none⟩/\b<B/\∀i u,xs[i]? = some u->w.cell? ⟨b,o+i,none⟩=some u
def Blk (w:World) (g:Nat) (t:TypeId) (cs:Array Value):Prop:=w.heap[g]? = some (.cells cs t (0,0))
theorem addr_add (b o j:Nat):(⟨b,o,none⟩:Addr).add j=⟨b,o+j,none⟩:=by unfold Addr.add;split<;>simp_all
section
variable {w w' a c:World} {B B' g:Nat} {A:Option Addr} {xs:List Value} {t:TypeId} {cs:Array Value}
theorem Jk {row:Option Nat} (h:a.grownBy w row) (n:Nat):a.grownBy (w.drewN n) row:=⟨h.os,h.tape,h.output,h.size,h.block⟩
theorem AZ {row:Option Nat} (h:a.grownBy w row):a.grownBy w.drew row:=⟨h.os,h.tape,h.output,h.size,h.block⟩
theorem Jl {row:Option Nat} (h:a.grownBy w row) (o:Obj):a.grownBy (w.alloc o) row:=
 ⟨h.os,h.tape,h.output,Nat.le_trans h.size (by simp),fun i hi D=>(Below.heap_alloc w o i (Nat.lt_of_lt_of_le hi h.size)).trans (h.block i hi D)⟩
theorem AU {row:Option Nat} (h:a.grownBy w row) {p:Addr} (hp:row=some p.block\/a.heap.size<=p.block) (u:Value):a.grownBy (w.setCell p u) row:=
 ⟨h.os,h.tape,h.output,by simpa [World.setCell] using h.size,fun i hi D=>(Below.heap_setCell w p u i (by
  rintro rfl;rcases hp with hp | hp
  ·exact D hp.symm
  ·omega)).trans (h.block i hi D)⟩
theorem FJ (h:Below a.heap.size a w) (row:Option Nat):a.grownBy w row:=⟨h.os,h.tape,h.output,h.size,fun i hi _=>h.block i hi⟩
theorem RG {row:Option Nat} (h:a.grownBy w row) (k:Below w.heap.size w c):a.grownBy c row:=
 ⟨k.os.trans h.os,k.tape.trans h.tape,k.output.trans h.output,Nat.le_trans h.size k.size,fun i hi D=>(k.block i (Nat.lt_of_lt_of_le hi h.size)).trans (h.block i hi D)⟩
theorem Ho (h:Below B a w) (hB:B<=w.heap.size) (k:Below w.heap.size w c):Below B a c:=h.trans (k.mono hB)
theorem AJ (h:Below B a w) (k:w.grownBy c (some g)) (hB:B<=w.heap.size) (E:B<=g):Below B a c:=
 h.grown k hB (fun j D=>by injection D with D;omega)
theorem bt (h:Below a.heap.size a w) (k:Below w.heap.size w c):Below a.heap.size a c:=h.trans (k.mono h.size)
theorem Blk.lt (h:Blk w g t cs):g<w.heap.size:=by
 rcases Nat.lt_or_ge g w.heap.size with D | D
 ·exact D
 ·unfold Blk at h;rw[Array.getElem?_eq_none D] at h;cases h
theorem Blk.cell (h:Blk w g t cs) (i:Nat):w.cell? ⟨g,i,none⟩=cs[i]?:=cell_of_row w g i cs t (0,0) h
theorem Blk.frozen (h:Blk w g t cs) (i:Nat):w.frozen? ⟨g,i,none⟩=false:=by
 unfold Blk at h;simp [World.frozen?,h]
theorem Blk.new (w:World) (t:TypeId) (cs:Array Value):Blk (w.alloc (.cells cs t)) w.heap.size t cs:=heap_alloc_new w _
theorem Blk.drewN (h:Blk w g t cs) (n:Nat):Blk (w.drewN n) g t cs:=h
theorem Blk.alloc (h:Blk w g t cs) (o:Obj):Blk (w.alloc o) g t cs:=(Below.heap_alloc w o g h.lt).trans h
theorem Blk.set (h:Blk w g t cs) (i:Nat) (u:Value):Blk (w.setCell ⟨g,i,none⟩ u) g t (cs.setIfInBounds i u):=by
 unfold Blk at h⊢;simp [World.setCell,Array.getElem?_modify,h]
section
variable {w:World} {g:Nat} {t:TypeId} {a b c d e f i j x:Value} {l:List Value}
theorem Blk.c0 (h:Blk w g t (x::l).toArray):w.cell? ⟨g,0,none⟩=some x:=by simpa using h.cell 0
theorem Blk.c1 (h:Blk w g t (a::x::l).toArray):w.cell? ⟨g,1,none⟩=some x:=by simpa using h.cell 1
theorem Blk.c2 (h:Blk w g t (a::b::x::l).toArray):w.cell? ⟨g,2,none⟩=some x:=by simpa using h.cell 2
theorem Blk.c3 (h:Blk w g t (a::b::c::x::l).toArray):w.cell? ⟨g,3,none⟩=some x:=by simpa using h.cell 3
theorem Blk.c4 (h:Blk w g t (a::b::c::d::x::l).toArray):w.cell? ⟨g,4,none⟩=some x:=by simpa using h.cell 4
theorem Blk.c5 (h:Blk w g t (a::b::c::d::e::x::l).toArray):w.cell? ⟨g,5,none⟩=some x:=by simpa using h.cell 5
theorem Blk.c6 (h:Blk w g t (a::b::c::d::e::f::x::l).toArray):w.cell? ⟨g,6,none⟩=some x:=by simpa using h.cell 6
theorem Blk.c7 (h:Blk w g t (a::b::c::d::e::f::i::x::l).toArray):w.cell? ⟨g,7,none⟩=some x:=by simpa using h.cell 7
theorem Blk.c8 (h:Blk w g t (a::b::c::d::e::f::i::j::x::l).toArray):w.cell? ⟨g,8,none⟩=some x:=by simpa using h.cell 8
theorem _root_.Go.RowKit.Hid.c0 (h:Go.RowKit.Hid (Blk w g t (x::l).toArray)):w.cell? ⟨g,0,none⟩=some x:=h.o.c0
theorem _root_.Go.RowKit.Hid.c1 (h:Go.RowKit.Hid (Blk w g t (a::x::l).toArray)):w.cell? ⟨g,1,none⟩=some x:=h.o.c1
theorem _root_.Go.RowKit.Hid.c2 (h:Go.RowKit.Hid (Blk w g t (a::b::x::l).toArray)):w.cell? ⟨g,2,none⟩=some x:=h.o.c2
theorem _root_.Go.RowKit.Hid.c3 (h:Go.RowKit.Hid (Blk w g t (a::b::c::x::l).toArray)):w.cell? ⟨g,3,none⟩=some x:=h.o.c3
theorem _root_.Go.RowKit.Hid.c4 (h:Go.RowKit.Hid (Blk w g t (a::b::c::d::x::l).toArray)):w.cell? ⟨g,4,none⟩=some x:=h.o.c4
theorem _root_.Go.RowKit.Hid.c5 (h:Go.RowKit.Hid (Blk w g t (a::b::c::d::e::x::l).toArray)):w.cell? ⟨g,5,none⟩=some x:=h.o.c5
theorem _root_.Go.RowKit.Hid.c6 (h:Go.RowKit.Hid (Blk w g t (a::b::c::d::e::f::x::l).toArray)):w.cell? ⟨g,6,none⟩=some x:=h.o.c6
theorem _root_.Go.RowKit.Hid.c7 (h:Go.RowKit.Hid (Blk w g t (a::b::c::d::e::f::i::x::l).toArray)):w.cell? ⟨g,7,none⟩=some x:=h.o.c7
theorem _root_.Go.RowKit.Hid.c8 (h:Go.RowKit.Hid (Blk w g t (a::b::c::d::e::f::i::j::x::l).toArray)):w.cell? ⟨g,8,none⟩=some x:=h.o.c8
end
theorem Blk.below (h:Blk w g t cs) (D:Below w.heap.size w w'):Blk w' g t cs:=(D.block g h.lt).trans h
theorem Blk.grown {row:Option Nat} (h:Blk w g t cs) (E:w.grownBy w' row) (D:row≠some g):Blk w' g t cs:=(E.block g h.lt (fun e=>D e.symm)).trans h
theorem Rd.nil:Rd w B A []:=.inl rfl
theorem Rd.keep (h:Rd w B A xs) (hk:∀b o,b<B->w'.cell? ⟨b,o,none⟩=w.cell? ⟨b,o,none⟩):Rd w' B A xs:=by
 rcases h with h | ⟨b,o,E,D,F⟩
 ·exact .inl h
 ·exact .inr ⟨b,o,E,D,fun i u hu=>(hk _ _ D).trans (F i u hu)⟩
theorem Rd.more (h:Rd w B A xs) (hB:B<=B'):Rd w B' A xs:=by
 rcases h with h | ⟨b,o,D,F,E⟩
 ·exact .inl h
 ·exact .inr ⟨b,o,D,by omega,E⟩
theorem Rd.below (h:Rd w B A xs) (D:Below B w w'):Rd w' B A xs:=h.keep fun _ _ hp=>D.cell hp
theorem Rd.drewN (h:Rd w B A xs) (n:Nat):Rd (w.drewN n) B A xs:=h.keep fun _ _ _=>rfl
theorem Rd.alloc (h:Rd w B A xs) (hB:B<=w.heap.size) (o:Obj):Rd (w.alloc o) B A xs:=
 h.below ((Below.refl B w).alloc hB o)
theorem Rd.of_own {base n cap:Nat} (h:w.ownsRow base t 1 (.slice A n cap) n xs):Rd w w.heap.size A xs:=by
 rcases h.2 with⟨_,M⟩ | ⟨g,D,cur,J,_,F,_⟩
 ·left
  have E:=h.1;rw[M] at E;exact List.eq_nil_of_length_eq_zero (by simpa using E)
 ·right
  injection J with hA _ _;subst hA;exact⟨g,0,rfl,(Array.getElem?_eq_some_iff.1 F).1,fun i u hu=>by
   have:=h.cells (g:=g) rfl i u hu
   rwa [addr_add] at this⟩
theorem Ek {base n size:Nat} {v:Value} (h:w.ownsRow base t size v n xs) (D:Below w.heap.size w w'):w'.ownsRow base t size v n xs:=
 h.kept (FJ D none) (by cases v.ownBlock<;>simp)
theorem Rd.at_ {i:Nat} {u:Value} (h:Rd w B A xs) (hi:xs[i]? = some u):∃b o,A=some ⟨b,o,none⟩/\b<B/\w.cell? ⟨b,o+i,none⟩=some u:=by
 rcases h with h | ⟨b,o,D,E,F⟩
 ·subst h;simp at hi
 ·exact⟨b,o,D,E,F i u hi⟩
end
section
variable {P:Program} (w:World)
theorem Dt {B:Nat} {A:Option Addr} {l:List UInt8} (src e:TypeId) (hs:P.underlying src=some (.slice e)) (he:P.underlying e=some (.int .u8)) (h:Rd w B A (bvs l)) (n c:Nat) (N:n=l.length)
  (dst:TypeId) (F:P.underlying dst=some .string):(convert src dst (.slice A n c)).run P w=.ok (.string ⟨l.toArray⟩) w:=by
 subst N;have key:∀a:Addr,A=some a->(∀i u,(bvs l)[i]? = some u->w.cell? (a.add i)=some u)->(convert src dst (.slice A l.length c)).run P w=.ok (.string ⟨l.toArray⟩) w:=by
  intro a J Z;subst J;have e1:(l.map fun b=>(b.toNat:Int)).map (Value.int .u8)=bvs l:=by simp [bvs,bv,Function.comp_def]
  have E:(loadCells a l.length).run P w=.ok ((l.map fun b=>(b.toNat:Int)).map (Value.int .u8)).toArray w:=by
   have:=run_loadCells_list (P:=P) w a (bvs l) Z;rw[Ay] at this;rw[e1];exact this
  rw[run_convert_bytes_string w src dst e _ _ c hs he F,run_bytesToString w a l.length c _ E,foldl_push_bytes];have O:((l.map fun b=>(b.toNat:Int)).map fun n=>UInt8.ofNat n.toNat)=l:=by
   rw[List.map_map]
   conv=>rhs;rw[<-List.map_id l]
   apply List.map_congr_left;intro b _;simp
  rw[O];simp [ByteArray.empty,ByteArray.emptyWithCapacity]
  rfl
 cases hA:A with
 |some a=>
  rw[<-hA];refine key a hA ?_;rcases h with h | ⟨b,o,D,_,M⟩
  ·rw[h];intro i u hu;simp at hu
  ·rw[hA] at D
   injection D with D;subst D;intro i u hu;rw[addr_add];exact M i u hu
 |none=>
  have E:l = []:=by
   rcases h with h | ⟨b,o,D,_,_⟩
   ·exact List.map_eq_nil_iff.1 h
   ·rw[hA] at D;cases D
  subst E;rw[run_convert_bytes_nil w src e hs he _ c dst F]
  rfl
theorem GD (base:Nat) (t ty e:TypeId) (i:TypeInfo) (z:Value) (bytes:Nat) (ht:P.underlying t=some (.slice e)) (hi:P.info? e=some i) (hz:i.zero=some z)
  (J:i.size=1) (O:i.bytes=bytes) (bx:z.cells.size=1)
  (v:Value) (n:Nat) (xs:List Value) (D:w.ownsRow base e 1 v n xs)
  (B:Nat) (A:Option Addr) (m c:Nat) (news:List Value) (hm:m=news.length) (hr:Rd w B A news) (E:∀u∈news,u.oneCell'=true)
  (Z:n+m<=maxLen) (F:(n+m)*bytes<=140737488355328) (M:base<=w.heap.size) :
  ∃v' w',(Builtin.append_ #[t,t] ty #[v,.slice A m c]).run P w=.ok v' w'/\w'.ownsRow base e 1 v' (n+m) (xs++news)/\w.grownBy w' v.ownBlock/\
   (v'.ownBlock=v.ownBlock\/v'.ownBlock=some w.heap.size):=by
 subst hm;cases hA:A with
 |some a=>
  have hc:∀j u,news[j]? = some u->w.cell? (a.add j)=some u:=by
   rcases hr with h | ⟨b,o,E,_,h3⟩
   ·rw[h];intro i u hu;simp at hu
   ·rw[hA] at E
    injection E with E;subst E;intro i u hu;rw[addr_add];exact h3 i u hu
  obtain⟨v',w',N,h2,h3,_,h5⟩:=run_append_own_at (P:=P) w base t ty e i z 1 bytes ht hi hz J O bx (by omega) v n xs D a news.length c news (by omega) hc E Z F M;exact⟨v',w',N,h2,h3,h5⟩
 |none=>
  have hn:news = []:=by
   rcases hr with h | ⟨b,o,E,_,_⟩
   ·exact h
   ·rw[hA] at E;cases E
  subst hn;refine⟨v,w,?_,by simpa using D,World.grownBy.refl w _,.inl rfl⟩;rcases D.2 with⟨rfl,rfl⟩ | ⟨g,cap,cur,rfl,_,_,aw,_⟩
  ·simp [Builtin.append_,run_underlying ht,sizeOf,typeInfo,hi,Builtin.lenOf,Builtin.firstCells]
  ·simp [Builtin.append_,run_underlying ht,sizeOf,typeInfo,hi,Builtin.lenOf,Builtin.firstCells,aw,storeCells]
theorem Fh {o:Oper} {a:Act} {K:Act->World->Prop} {Q:Exit->Act->World->Prop} (s x:Operand) (t:TypeId)
  (ho:o.op=.call {callee:=.builtin .append,args:=#[s,x],argTypes:=#[t,t]})
  (base:Nat) (e:TypeId) (i:TypeInfo) (z:Value) (bytes:Nat) (ht:P.underlying t=some (.slice e)) (hi:P.info? e=some i) (hz:i.zero=some z)
  (E:i.size=1) (N:i.bytes=bytes) (Z:z.cells.size=1)
  (v:Value) (n:Nat) (xs:List Value) (hs:a.eval s=v) (M:w.ownsRow base e 1 v n xs)
  (B:Nat) (A:Option Addr) (m c:Nat) (news:List Value) (hx:a.eval x=.slice A m c) (hm:m=news.length) (hr:Rd w B A news) (h1:∀u∈news,u.oneCell'=true)
  (O:n+m<=maxLen) (D:(n+m)*bytes<=140737488355328) (F:base<=w.heap.size)
  (h:∀v' w',w'.ownsRow base e 1 v' (n+m) (xs++news)->w.grownBy w' v.ownBlock->(v'.ownBlock=v.ownBlock\/v'.ownBlock=some w.heap.size)->K (a.put o.dst v') w'):o.wp P a w K Q:=by
 obtain⟨v',w',J,h2,h3,h4⟩:=GD (P:=P) w base t o.type e i z bytes ht hi hz E N Z v n xs M B A m c news hm hr h1 O D F;unfold Oper.wp execOp;simp only[ho,resolve,invoke,builtin,Sem.run_bind,Sem.run_pure,Result.andThen_ok,List.map_toArray,List.map_cons,List.map_nil,hs,hx,J];exact h v' w' h2 h3 h4
theorem AA {ops:Array Oper} {rest:List Oper} {o:Oper} {a:Act} {Q:Exit->Act->World->Prop} (D:o.guard=none) (s x:Operand) (t:TypeId)
  (M:o.op=.call {callee:=.builtin .append,args:=#[s,x],argTypes:=#[t,t]})
  (base:Nat) (e:TypeId) (i:TypeInfo) (z:Value) (bytes:Nat) (ht:P.underlying t=some (.slice e)) (hi:P.info? e=some i) (hz:i.zero=some z)
  (hsize:i.size=1) (hby:i.bytes=bytes) (hzs:z.cells.size=1)
  (v:Value) (n:Nat) (xs:List Value) (hs:a.eval s=v) (hown:w.ownsRow base e 1 v n xs)
  (B:Nat) (A:Option Addr) (m c:Nat) (news:List Value) (hx:a.eval x=.slice A m c) (hm:m=news.length) (hr:Rd w B A news) (h1:∀u∈news,u.oneCell'=true)
  (h63:n+m<=maxLen) (hbytes:(n+m)*bytes<=140737488355328) (hbase:base<=w.heap.size)
  (h:∀v' w',w'.ownsRow base e 1 v' (n+m) (xs++news)->w.grownBy w' v.ownBlock->(v'.ownBlock=v.ownBlock\/v'.ownBlock=some w.heap.size)->wpList P ops Q rest (a.put o.dst v') w'):wpList P ops Q (o :: rest) a w:=
 wpList_plain D fun _ E=>Fh w s x t M base e i z bytes ht hi hz hsize hby hzs v n xs hs hown B A m c news hx hm hr h1 h63 hbytes hbase fun v' w' N F J=>E _ _ (h v' w' N F J)
end
def De (n:Nat):Array Value:=(List.replicate n (bv 0)).toArray
theorem Dx (n:Nat):(De n).size=n:=by simp [De]
theorem Gh {P:Program} {t e:TypeId} {i:TypeInfo} (E:P.underlying t=some (.slice e)) (hi:P.info? e=some i) (F:i.zero=some (.int .u8 0)) (hs:i.size=1) (D:i.bytes=1)
  (C:Int) (n:Nat) (hC:C=(n:Int)) (M:n<=1000000) (w:World) :
  (Instr.makeSlice t (.int .i64 C) (.int .i64 C)).run P w=.ok (.slice (some ⟨w.heap.size,0,none⟩) n n) (w.alloc (.cells (De n) e)):=by
 subst hC;have h:=run_make (P:=P) w t e i _ E hi F .i64 .i64 (n:Int) (n:Int) (by omega) (by omega) (by rw[D];omega) (by omega);rw[Int.toNat_natCast,hs,Nat.mul_one] at h;rw[h];have J:madeCells (Value.int .u8 0).cells n=De n:=by
  apply Array.toList_inj.1;rw[show(Value.int .u8 0).cells=#[Value.int .u8 0] from rfl,toList_madeCells_one];simp [De,bv]
 rw[J]
theorem Du {P:Program} {t e:TypeId} {i:TypeInfo} (E:P.underlying t=some (.slice e)) (hi:P.info? e=some i) (F:i.zero=some (.int .u8 0)) (hs:i.size=1) (D:i.bytes=1)
  (C:Int) (n:Nat) (hC:C=(n:Int)) (M:n<=1000000) (w:World) :
  (Instr.makeSlice t (.int .i64 0) (.int .i64 C)).run P w=.ok (.slice (some ⟨w.heap.size,0,none⟩) 0 n) (w.alloc (.cells (De n) e)):=by
 subst hC;have h:=run_make (P:=P) w t e i _ E hi F .i64 .i64 0 (n:Int) (by omega) (by omega) (by rw[D];omega) (by omega);rw[Int.toNat_natCast,hs,Nat.mul_one] at h;rw[h];have J:madeCells (Value.int .u8 0).cells n=De n:=by
  apply Array.toList_inj.1;rw[show(Value.int .u8 0).cells=#[Value.int .u8 0] from rfl,toList_madeCells_one];simp [De,bv]
 rw[J]
 rfl
theorem El (w:World) (e:TypeId) (s:ByteArray):Below w.heap.size w (Lib.bytesWorld w e s):=
 ⟨rfl,rfl,rfl,by rw[Lib.bytesWorld_size];omega,fun k hk=>Lib.bytesWorld_at_old w e s k hk⟩
def RH (w:World) (base b:Nat) (l:List UInt8):Prop:=
 base<=b/\b<w.heap.size/\∀i (h:i<l.length),w.cell? ⟨b,i,none⟩=some (bv l[i])/\w.frozen? ⟨b,i,none⟩=false
theorem Gn (w:World) (e:TypeId) (l:List UInt8):RH (Lib.bytesWorld w e ⟨l.toArray⟩) w.heap.size w.heap.size l:=by
 refine⟨Nat.le_refl _,by rw[Lib.bytesWorld_size];omega,fun i h=>⟨?_,?_⟩⟩
 ·rw[Lib.bytesWorld_cell w e ⟨l.toArray⟩ i (by simpa [ByteArray.size] using h)]
  simp [bv,List.getD,h]
 ·have D:i<(Lib.bytesCells w e ⟨l.toArray⟩).size:=by
   simp only[Lib.bytesCells,Array.size_append,Array.size_map,Array.size_replicate];simp;omega
  simp only[World.frozen?,Lib.bytesWorld_at_new];simp;omega
theorem RH.rd {w:World} {base b:Nat} {l:List UInt8} (h:RH w base b l):Rd w w.heap.size (some ⟨b,0,none⟩) (bvs l):=by
 refine .inr ⟨b,0,rfl,h.2.1,fun i u hu=>?_⟩;have hi:i<l.length:=by
  rcases Nat.lt_or_ge i l.length with g | g
  ·exact g
  ·rw[List.getElem?_eq_none (by rw[Ay];exact g)] at hu;cases hu
 rw[GC hi] at hu;injection hu with hu;subst hu;rw[Nat.zero_add];exact(h.2.2 i hi).1
end Af
namespace Nm
abbrev L:=List UInt8
def capB (b:UInt8):Bool:=decide (65<=b.toNat)&&decide (b.toNat<=90)
def DD (b:UInt8):Bool:=decide (97<=b.toNat)&&decide (b.toNat<=122)
def Cn (b:UInt8):Bool:=DD b||(decide (48<=b.toNat)&&decide (b.toNat<=57))
def Ck (p:UInt8->Bool) (l:L):Bool:=decide (1<=l.length)&&(decide (l.length<=8)&&l.all p)
theorem Eb (p:UInt8->Bool) (l:L):Ck p l=true↔1<=l.length/\l.length<=8/\l.all p=true:=by simp [Ck]
def hasC (c:UInt8) (l:L):Bool:=l.any fun x=>decide (x=c)
def bef (c:UInt8):L->L
 | []=>[]
 |x :: r=>if x=c then [] else x :: bef c r
def aft (c:UInt8):L->L
 | []=>[]
 |x :: r=>if x=c then r else aft c r
theorem Em (c:UInt8) (l:L):hasC c l=true↔c∈l:=by simp [hasC]
theorem FK (c:UInt8) (l:L):hasC c l=false↔c∉l:=by rw[<-Em];simp
theorem IL {c:UInt8} {l:L} (h:c∉l):bef c l=l:=by
 induction l with
 |nil=>rfl
 |cons x r ih=>
  simp only[List.mem_cons,not_or] at h;rw[bef,if_neg (fun e=>h.1 e.symm),ih h.2]
theorem KU {c:UInt8} {l:L} (h:c∉l):aft c l = []:=by
 induction l with
 |nil=>rfl
 |cons x r ih=>
  simp only[List.mem_cons,not_or] at h;rw[aft,if_neg (fun e=>h.1 e.symm),ih h.2]
theorem RI (c:UInt8) (l:L):c∉bef c l:=by
 induction l with
 |nil=>simp [bef]
 |cons x r ih=>
  rw[bef];split
  ·simp
  ·rename_i h;simp only[List.mem_cons,not_or];exact⟨fun e=>h e.symm,ih⟩
theorem Kp {c:UInt8} {l:L} (h:c∈l):l=bef c l++c :: aft c l:=by
 induction l with
 |nil=>simp at h
 |cons x r ih=>
  by_cases e:x=c
  ·simp [bef,aft,e]
  ·rw[bef,aft,if_neg e,if_neg e]
   have:c∈r:=(List.mem_cons.1 h).resolve_left fun g=>e g.symm
   simpa using ih this
theorem bp {c:UInt8} {u v:L} (h:c∉u):aft c (u++c :: v)=v:=by
 induction u with
 |nil=>simp [aft]
 |cons x r ih=>
  simp only[List.mem_cons,not_or] at h;rw[List.cons_append,aft,if_neg (fun e=>h.1 e.symm),ih h.2]
theorem Nx (c:UInt8) (l:L):(aft c l).length<=l.length:=by
 induction l with
 |nil=>simp [aft]
 |cons x r ih=>rw[aft];split<;>simp<;>omega
theorem XM {c:UInt8} {l:L} (h:l≠[]):(aft c l).length<l.length:=by
 cases l with
 |nil=>exact absurd rfl h
 |cons x r=>rw[aft];have:=Nx c r;split<;>simp<;>omega
theorem RJ (c:UInt8) (l:L):(bef c l).length<=l.length:=by
 induction l with
 |nil=>simp [bef]
 |cons x r ih=>rw[bef];split<;>simp<;>omega
theorem Vq {c:UInt8} {l:L} (h:c∈l):∃u v,l=u++c :: v/\c∉v:=by
 refine⟨(aft c l.reverse).reverse,(bef c l.reverse).reverse,?_,by simpa using RI c l.reverse⟩;have D:c∈l.reverse:=by simpa using h
 have:=congrArg List.reverse (Kp D)
 simpa using this
def split (c:UInt8):L->List L
 | []=>[[]]
 |x :: r=>if x=c then [] :: split c r else match split c r with
  | []=>[[x]]
  |a :: t=>(x :: a) :: t
theorem IM (c:UInt8) (l:L):split c l≠[]:=by
 cases l with
 |nil=>simp [split]
 |cons x r=>
  rw[split];split
  ·simp
  ·split<;>simp
theorem CE (c:UInt8) (l:L):1<=(split c l).length:=by
 have:=IM c l;cases h:split c l with
 |nil=>exact absurd h this
 |cons a t=>simp
theorem FL {c:UInt8} {l:L} (h:c∉l):split c l = [l]:=by
 induction l with
 |nil=>rfl
 |cons x r ih=>
  simp only[List.mem_cons,not_or] at h;rw[split,if_neg (fun e=>h.1 e.symm),ih h.2]
theorem KV {c:UInt8} (u v:L):split c (u++c :: v)=split c u++split c v:=by
 induction u with
 |nil=>simp [split]
 |cons x r ih=>
  rw[List.cons_append,split,split]
  split
  ·rw[ih];rfl
  ·rw[ih]
   cases h:split c r with
   |nil=>exact absurd h (IM c r)
   |cons a t=>rfl
theorem Kq {c:UInt8} {u v:L} (h:c∉u):split c (u++c :: v)=u :: split c v:=by rw[KV,FL h];rfl
theorem Fi (c:UInt8) (l:L):split c l=if hasC c l then bef c l :: split c (aft c l) else [l]:=by
 by_cases h:c∈l
 ·rw[if_pos ((Em c l).2 h)]
  conv=>lhs;rw[Kp h]
  exact Kq (RI c l)
 ·rw[if_neg (by rw[Em];exact h)];exact FL h
def Cg (ls:List L):Bool:=decide (1<=ls.length)&&(decide (ls.length<=4)&&ls.all (Ck capB))
theorem Co (ls:List L):Cg ls=true↔1<=ls.length/\ls.length<=4/\ls.all (Ck capB)=true:=by simp [Cg]
def areL (c:UInt8):Nat->L->Bool
 |0,_=>false
 |n+1,l=>Ck capB (bef c l)&&(if hasC c l then areL c n (aft c l) else true)
theorem YI (c:UInt8) (n:Nat):∀l:L,areL c n l=(decide ((split c l).length<=n)&&(split c l).all (Ck capB)):=by
 induction n with
 |zero=>intro l;have:=CE c l;rw[areL,decide_eq_false (by omega)];rfl
 |succ n ih=>
  intro l;rw[areL,ih,Fi c l]
  by_cases h:c∈l
  ·rw[(Em c l).2 h,if_pos rfl,if_pos rfl]
   simp only[List.length_cons,List.all_cons,Nat.add_le_add_iff_right];cases Ck capB (bef c l)<;>simp
  ·rw[(FK c l).2 h,if_neg (by simp),if_neg (by simp),IL h]
   simp
theorem Me (c:UInt8) (l:L):areL c 4 l=Cg (split c l):=by
 have:=CE c l;rw[YI,Cg,decide_eq_true this];rfl
def slL (l:L):Bool:=decide (l.head? = some 47)&&Cg (split 47 l.tail)
def AG (l:L):Nat:=if slL l then 2 else if Cg (split 46 l) then 1 else 0
theorem Pc {l:L} (h:Cg (split 46 l)=true):l.head?≠some 47:=by
 intro e;cases l with
 |nil=>simp at e
 |cons x r=>
  simp only[List.head?_cons,Option.some.injEq] at e;subst e;have J:Ck capB (bef 46 (47 :: r))=true:=by
   have D:=((Co _).1 h).2.2;rw[Fi] at D
   split at D
   ·simp only[List.all_cons,Bool.and_eq_true] at D;exact D.1
   ·rename_i hn
    rw[IL ((FK _ _).1 (by simpa using hn))]
    simpa using D
  have F:bef 46 (47 :: r)=47 :: bef 46 r:=by rw[bef,if_neg (by decide)]
  have E:=((Eb _ _).1 J).2.2;rw[F] at E;simp [capB] at E
theorem bq {l:L} (h:Cg (split 46 l)=true):slL l=false:=by
 simp [slL,Pc h]
theorem Pd {l:L} (h:Cg (split 46 l)=true):AG l=1:=by rw[AG,bq h,h];rfl
theorem YJ {l:L} (h:slL l=true):AG l=2:=by rw[AG,h];rfl
theorem Qo (l:L):AG l=if Cg (split 46 l) then 1 else if slL l then 2 else 0:=by
 cases h:Cg (split 46 l) with
 |true=>rw[Pd h];rfl
 |false=>rw[AG,h];rfl
theorem Hp (l:L):AG l<=2:=by rw[AG];split<;>(try split)<;>omega
theorem KW:AG []=0:=by decide
theorem IN {l:L} (h:AG l=1):Cg (split 46 l)=true:=by
 rw[AG] at h
 split at h
 ·omega
 ·split at h
  ·assumption
  ·omega
theorem IQ {l:L} (h:AG l=2):slL l=true:=by
 rw[AG] at h
 split at h
 ·assumption
 ·split at h<;>omega
def isL (l:L):Bool:=decide (1<=AG l)
def upL (l:L):L:=if AG l=1 then aft 46 l else if AG l=2 then (aft 47 l.reverse).reverse else []
def depL (l:L):Nat:=if AG l=1 then (split 46 l).length else if AG l=2 then (split 47 l.tail).length else 0
theorem Hq {l:L} (h:AG l=0):upL l = []:=by rw[upL,if_neg (by omega),if_neg (by omega)]
theorem br:upL [] = []:=Hq KW
theorem YK {u v:L} (h:47∉v):(aft 47 (u++47 :: v).reverse).reverse=u:=by
 have:(u++47 :: v).reverse=v.reverse++47 :: u.reverse:=by simp
 rw[this,bp (by simpa using h)];simp
theorem Mf {l:L} (h:AG l=2):∃u v,l=u++47 :: v/\47∉v/\upL l=u:=by
 have hs:=IQ h;have D:l.head? = some 47:=by simp only[slL,Bool.and_eq_true,decide_eq_true_eq] at hs;exact hs.1
 have hm:47∈l:=by cases l with
  |nil=>simp at D
  |cons x r=>simp at D;simp [D]
 obtain⟨u,v,e,E⟩:=Vq hm;refine⟨u,v,e,E,?_⟩;rw[upL,if_neg (by omega),if_pos h]
 conv=>lhs;rw[e]
 exact YK E
theorem Ch {l:L} (h:AG l≠0):l≠[]:=fun e=>h (by rw[e];exact KW)
theorem bs {l:L} (h:l≠[]):(upL l).length<l.length:=by
 have:=Hp l
 by_cases h1:AG l=1
 ·rw[upL,if_pos h1];exact XM h
 ·by_cases h2:AG l=2
  ·obtain⟨u,v,e,_,D⟩:=Mf h2
   rw[D,e];simp
  ·rw[Hq (by omega)]
   cases l with
   |nil=>exact absurd rfl h
   |cons x r=>simp
theorem bu (l:L):depL l<=4:=by
 rw[depL]
 split
 ·rename_i h;exact((Co _).1 (IN h)).2.1
 ·split
  ·rename_i h
   have:=IQ h;simp only[slL,Bool.and_eq_true] at this;exact((Co _).1 this.2).2.1
  ·exact Nat.zero_le _
theorem YL {l:L} (h:AG l≠0):1<=depL l:=by
 have:=Hp l;rw[depL]
 split
 ·exact CE _ _
 ·rw[if_pos (by omega)];exact CE _ _
theorem Jm (l:L):upL l = []\/(AG (upL l)=AG l/\depL (upL l)+1=depL l):=by
 have hk:=Hp l
 by_cases h1:AG l=1
 ·by_cases hm:(46:UInt8)∈l
  ·right
   have D:=(Co _).1 (IN h1);have e:=Fi 46 l;rw[if_pos ((Em _ _).2 hm)] at e;rw[e] at D;simp only[List.length_cons,List.all_cons,Bool.and_eq_true] at D;have E:Cg (split 46 (aft 46 l))=true:=(Co _).2 ⟨CE _ _,by omega,D.2.2.2⟩;have J:upL l=aft 46 l:=by rw[upL,if_pos h1]
   have F:=Pd E;rw[J];refine⟨by rw[F,h1],?_⟩;rw[depL,if_pos F,depL,if_pos h1,e];rfl
  ·left;rw[upL,if_pos h1];exact KU hm
 ·by_cases E:AG l=2
  ·obtain⟨u,v,e,O,J⟩:=Mf E
   have hs:=IQ E;simp only[slL,Bool.and_eq_true,decide_eq_true_eq] at hs;cases u with
   |nil=>left;rw[J]
   |cons x u'=>
    right
    have N:x=47:=by rw[e] at hs;simpa using hs.1
    subst N;have et:l.tail=u'++47 :: v:=by rw[e];rfl
    have es:split 47 l.tail=split 47 u'++[v]:=by rw[et,KV,FL O]
    have D:=(Co _).1 hs.2;rw[es] at D;simp only[List.length_append,List.length_cons,List.length_nil,List.all_append,Bool.and_eq_true] at D;have Z:Cg (split 47 u')=true:=(Co _).2 ⟨CE _ _,by omega,D.2.2.1⟩;have h4:slL (47 :: u')=true:=by simp [slL,Z]
    have M:=YJ h4;rw[J];refine⟨by rw[M,E],?_⟩;rw[depL,if_neg (by omega),if_pos M,depL,if_neg (by omega),if_pos E,es];simp
  ·left;exact Hq (by omega)
def chF:Nat->L->List L
 |0,_=>[]
 |n+1,l=>if l = [] then [] else l :: chF n (upL l)
def ch (l:L):List L:=chF 4 l
theorem Jn (n:Nat):chF n [] = []:=by cases n<;>simp [chF]
theorem Vr (n:Nat):∀l:L,AG l≠0->depL l<=n->chF (n+1) l=chF n l:=by
 induction n with
 |zero=>intro l h D;have:=YL h;omega
 |succ n ih=>
  intro l h D;show(if l = [] then [] else l :: chF (n+1) (upL l))=(if l = [] then [] else l :: chF n (upL l));rw[if_neg (Ch h),if_neg (Ch h)];rcases Jm l with e | ⟨E,F⟩
  ·rw[e,Jn,Jn]
  ·rw[ih (upL l) (by rw[E];exact h) (by omega)]
theorem CH:ch [] = []:=Jn 4
theorem Cs {l:L} (h:l≠[]):ch l=l :: ch (upL l):=by
 rw[ch,chF,if_neg h];rcases Jm l with e | ⟨D,E⟩
 ·rw[e,Jn,CH]
 ·by_cases hk:AG l=0
  ·rw[Hq hk,Jn,CH]
  ·have:=bu l
   rw[ch,Vr 3 (upL l) (by rw[D];exact hk) (by omega)]
theorem YM (n:Nat):∀l:L,(chF n l).length<=n:=by
 induction n with
 |zero=>intro l;simp [chF]
 |succ n ih=>intro l;rw[chF];split<;>simp [ih]
theorem Mh (l:L):(ch l).length<=4:=YM 4 l
theorem XN {l:L} (h:l≠[]):1<=(ch l).length:=by rw[Cs h];simp
theorem DE {l:L} (h:l≠[]):(ch l).getD 0 []=l:=by rw[Cs h];rfl
def pl (A:List L) (i:Nat):L:=A.getD i []
theorem Ct {A:List L} {i:Nat} (h:i<A.length):pl A i=A[i]:=by simp [pl,h]
theorem Jo {A:List L} {i:Nat} (h:A.length<=i):pl A i = []:=by simp [pl,h]
theorem Dc {A:List L} {i:Nat} (h:i<A.length):pl A i∈A:=by rw[Ct h];exact List.getElem_mem h
theorem mem_pl {A:List L} {x:L} (h:x∈A):∃i,i<A.length/\pl A i=x:=by
 obtain⟨i,hi,e⟩:=List.getElem_of_mem h;exact⟨i,hi,by rw[Ct hi];exact e⟩
theorem bw (i:Nat):∀a:L,i<(ch a).length->ch (pl (ch a) i)=(ch a).drop i:=by
 induction i with
 |zero=>
  intro a h
  by_cases ha:a = []
  ·subst ha;rw[CH] at h;simp at h
  ·rw[List.drop_zero,pl,DE ha]
 |succ i ih=>
  intro a h
  by_cases ha:a = []
  ·subst ha;rw[CH] at h;simp at h
  ·rw[Cs ha] at h⊢
   simp only[List.length_cons] at h;exact ih (upL a) (by omega)
theorem Vs {i:Nat} (a:L) (h:i<(ch a).length):upL (pl (ch a) i)=pl (ch a) (i+1):=by
 have E:=bw i a h;have F:pl (ch a) i≠[]:=by
  intro e;rw[e,CH] at E;have:=congrArg List.length E;simp at this;omega
 rw[Cs F] at E;have D:=congrArg (List.drop 1) E;simp only[List.drop_succ_cons,List.drop_zero,List.drop_drop] at D
 by_cases hu:upL (pl (ch a) i) = []
 ·rw[hu,CH] at D
  rw[hu];have J:=congrArg List.length D;simp only[List.length_nil,List.length_drop] at J;exact(Jo (by omega)).symm
 ·rw[Cs hu] at D
  have J:=congrArg (fun m=>List.getD m 0 []) D
  simpa [pl,List.getD,List.getElem?_drop] using J
theorem RK {i:Nat} (a:L) (h:i<(ch a).length):pl (ch a) i≠[]:=by
 intro e;have D:=bw i a h;rw[e,CH] at D;have:=congrArg List.length D;simp at this;omega
theorem YN (i:Nat):∀a:L,i<(ch a).length->AG (pl (ch a) i)=AG a:=by
 induction i with
 |zero=>
  intro a h
  by_cases ha:a = []
  ·subst ha;rw[CH] at h;simp at h
  ·rw[pl,DE ha]
 |succ i ih=>
  intro a h
  by_cases ha:a = []
  ·subst ha;rw[CH] at h;simp at h
  ·rw[Cs ha] at h⊢
   simp only[List.length_cons] at h;have:=ih (upL a) (by omega);rw[show pl (a :: ch (upL a)) (i+1)=pl (ch (upL a)) i from rfl,this];rcases Jm a with e | ⟨e,_⟩
   ·rw[e,CH] at h;simp at h
   ·exact e
theorem Pe {a x:L} (h:x∈ch a):AG x=AG a:=by
 obtain⟨i,hi,rfl⟩:=mem_pl h;exact YN i a hi
theorem RL (a:L):∀j i:Nat,i<j->j<(ch a).length->(pl (ch a) j).length<(pl (ch a) i).length:=by
 intro j
 induction j with
 |zero=>intro i h;omega
 |succ j ih=>
  intro i h F;have E:=Vs a (i:=j) (by omega);have D:=bs (RK a (i:=j) (by omega));rw[E] at D
  by_cases e:i=j
  ·subst e;exact D
  ·have:=ih i (by omega) (by omega);omega
theorem bA {a:L} {i j:Nat} (hi:i<(ch a).length) (D:j<(ch a).length) (h:pl (ch a) i=pl (ch a) j):i=j:=by
 rcases Nat.lt_trichotomy i j with g | g | g
 ·have:=RL a j i g D;rw[h] at this;omega
 ·exact g
 ·have:=RL a i j g hi;rw[h] at this;omega
theorem KX {a x:L} (h:x∈ch a):x.length<=a.length:=by
 obtain⟨i,hi,rfl⟩:=mem_pl h;have E:a≠[]:=by rintro rfl;rw[CH] at hi;simp at hi
 have D:pl (ch a) 0=a:=DE E
 by_cases e:i=0
 ·subst e;rw[D];exact Nat.le_refl _
 ·have:=RL a i 0 (by omega) hi;rw[D] at this;omega
theorem Vt {a:L} (h:a≠[]):a∈ch a:=by rw[Cs h];exact List.mem_cons_self
def BX (a b:L):Bool:=decide (b∈ch (upL a))
theorem GF (a b:L):BX a b=true↔b∈ch (upL a):=by simp [BX]
theorem Qp {a b:L} (h:BX a b=true):AG a≠0:=by
 intro e;rw[GF,Hq e,CH] at h;simp at h
theorem Kr {b x:L} (D:b≠[]):x∈ch b↔x=b\/BX b x=true:=by
 rw[Cs D,List.mem_cons,GF]
def ix (A B:List L):Nat:=A.findIdx fun x=>decide (x∈B)
theorem Mi (A B:List L):ix A B<=A.length:=List.findIdx_le_length
theorem Vu {A B:List L} (h:ix A B<A.length):pl A (ix A B)∈B:=by
 have:=List.findIdx_getElem (w:=h);rw[Ct h];exact of_decide_eq_true this
theorem GG {A B:List L} {i:Nat} (h:i<ix A B):pl A i∉B:=by
 have D:i<A.length:=Nat.lt_of_lt_of_le h (Mi A B);have:=List.not_of_lt_findIdx h;rw[Ct D]
 simpa using this
theorem ix_eq {A B:List L} {i:Nat} (hi:i<A.length) (E:pl A i∈B) (D:∀k,k<i->pl A k∉B):ix A B=i:=by
 rcases Nat.lt_trichotomy (ix A B) i with g | g | g
 ·exact absurd (Vu (Nat.lt_trans g hi)) (D _ g)
 ·exact g
 ·exact absurd E (GG g)
def KY (A B:List L):List L:=A.take (ix A B)++((A.drop (ix A B)).take 1++(B.take (ix B A)).reverse)
def Bb (a b:L):List L:=if AG a=0\/AG b=0 then [] else ((KY (ch a) (ch b)).drop 1).dropLast
theorem Ny {a b:L} (h:ix (ch a) (ch b)<(ch a).length):ix (ch b) (ch a)<(ch b).length/\pl (ch b) (ix (ch b) (ch a))=pl (ch a) (ix (ch a) (ch b)):=by
 have N:=Vu h;have F:=Dc h;obtain⟨j,Z,e⟩:=mem_pl N;have D:ix (ch b) (ch a)<(ch b).length:=by
  rcases Nat.lt_or_ge (ix (ch b) (ch a)) (ch b).length with g | g
  ·exact g
  ·exact absurd (by rw[e];exact F) (GG (A:=ch b) (B:=ch a) (i:=j) (by omega))
 refine⟨D,?_⟩;have O:=Vu D
 -- m' is in ch a at or behind m,m in ch b at or behind m'
 obtain⟨i,hi,E⟩:=mem_pl O;have M:ix (ch a) (ch b)<=i:=by
  rcases Nat.lt_or_ge i (ix (ch a) (ch b)) with g | g
  ·exact absurd (by rw[E];exact Dc D) (GG g)
  ·exact g
 have J:ix (ch b) (ch a)<=j:=by
  rcases Nat.lt_or_ge j (ix (ch b) (ch a)) with g | g
  ·exact absurd (by rw[e];exact F) (GG g)
  ·exact g
 have m1:(pl (ch b) (ix (ch b) (ch a))).length<=(pl (ch a) (ix (ch a) (ch b))).length:=by
  rw[<-E]
  by_cases q:i=ix (ch a) (ch b)
  ·rw[q];exact Nat.le_refl _
  ·exact Nat.le_of_lt (RL a i _ (by omega) hi)
 by_cases q:j=ix (ch b) (ch a)
 ·rw[<-q];exact e
 ·have:=RL b j _ (by omega:ix (ch b) (ch a)<j) Z
  rw[e] at this;omega
theorem Nz {a b:L} (h:ix (ch a) (ch b)=(ch a).length):ix (ch b) (ch a)=(ch b).length:=by
 rcases Nat.lt_or_ge (ix (ch b) (ch a)) (ch b).length with g | g
 ·have:=(Ny (a:=b) (b:=a) g).1;omega
 ·have:=Mi (ch b) (ch a);omega
theorem YO {A:List L} {i:Nat} (h:i<A.length):(A.drop i).take 1 = [pl A i]:=by
 rw[Ct h,List.drop_eq_getElem_cons h];rfl
theorem RM {a b:L} (h:ix (ch a) (ch b)<(ch a).length) :
  KY (ch a) (ch b)=(ch a).take (ix (ch a) (ch b))++pl (ch a) (ix (ch a) (ch b)) :: ((ch b).take (ix (ch b) (ch a))).reverse:=by
 rw[KY,YO h];rfl
theorem RN {a b:L} (h:ix (ch a) (ch b)=(ch a).length):KY (ch a) (ch b)=ch a++(ch b).reverse:=by
 rw[KY,Nz h,h];simp
def upW (A:List L) (b:L):Nat->List L
 |0=>[]
 |k+1=>upW A b k++(if pl A (k+1) = []\/pl A (k+1)=b then [] else [pl A (k+1)])
def Fj (B:List L) (b:L):Nat->List L
 |0=>[]
 |k+1=>Fj B b k++(if pl B k=b then [] else [pl B k])
theorem BG {A:List L} {i:Nat} (h:i<A.length):A.take (i+1)=A.take i++[pl A i]:=by
 rw[Ct h,List.take_succ_eq_append_getElem h]
theorem RQ {a b:L} (k:Nat) (h:k<(ch a).length) (D:∀i,i<=k->i≠0->pl (ch a) i≠b):upW (ch a) b k=((ch a).take (k+1)).drop 1:=by
 induction k with
 |zero=>rw[upW,BG h];simp
 |succ k ih=>
  rw[upW,ih (by omega) (fun i hi=>D i (by omega)),if_neg (by
   intro e;rcases e with e | e
   ·exact RK a h e
   ·exact D (k+1) Ag (by omega) e),BG h,List.drop_append_of_le_length]
  rw[List.length_take];omega
theorem Vv {b:L} (k:Nat) (h:k<=(ch b).length):Fj (ch b) b k=((ch b).take k).drop 1:=by
 induction k with
 |zero=>simp [Fj]
 |succ k ih=>
  have D:(ch b).getD 0 []=b:=by
   refine DE ?_;rintro rfl;rw[CH] at h;simp at h
  rw[Fj,ih (by omega),BG (by omega)]
  by_cases hk:k=0
  ·subst hk;rw[if_pos (show pl (ch b) 0=b from D)];simp
  ·rw[if_neg (fun e=>hk (bA (a:=b) (i:=k) (j:=0) (by omega) (by omega) (by rw[e];exact D.symm))),List.drop_append_of_le_length]
   rw[List.length_take];omega
theorem KZ {a b:L} (O:AG a≠0) (N:AG b≠0):upW (ch a) b (ix (ch a) (ch b))++(Fj (ch b) b (ix (ch b) (ch a))).reverse=Bb a b:=by
 have na:=Ch O;have D:=Ch N;have pa:=XN na;have pb:=XN D;rw[Bb,if_neg (by omega),Vv _ (Mi _ _)];have F:b∈ch b:=Vt D;rcases Nat.lt_or_ge (ix (ch a) (ch b)) (ch a).length with g | g
 ·obtain⟨h1,M⟩:=Ny g
  rw[RM g]
  by_cases e:pl (ch a) (ix (ch a) (ch b))=b
  ·have J:ix (ch b) (ch a)=0:=by
    refine ix_eq (by omega) ?_ (by omega);rw[pl,DE D,<-e];exact Dc g
   rw[J,e];cases hi:ix (ch a) (ch b) with
   |zero=>simp [upW]
   |succ k=>
    rw[hi] at e g;rw[upW,if_pos (.inr e),RQ k (by omega) (fun i aw _=>by
     intro q;exact absurd (by rw[q];exact F) (GG (A:=ch a) (B:=ch b) (i:=i) (by omega)))]
    rw[List.drop_append_of_le_length (by rw[List.length_take];omega)];simp
  ·rw[RQ _ g (fun i hi _=>by
    intro q
    by_cases w:i=ix (ch a) (ch b)
    ·rw[w] at q;exact e q
    ·exact absurd (by rw[q];exact F) (GG (A:=ch a) (B:=ch b) (i:=i) (by omega)))]
   have J:1<=ix (ch b) (ch a):=by
    rcases Nat.eq_zero_or_pos (ix (ch b) (ch a)) with q | q
    ·rw[q,pl,DE D] at M;exact absurd M.symm e
    ·exact q
   obtain⟨j,Z⟩:∃j,ix (ch b) (ch a)=j+1:=⟨ix (ch b) (ch a) - 1,by omega⟩;rw[Z,Cs D];simp only[List.take_succ_cons,List.drop_succ_cons,List.drop_zero,List.reverse_cons];have e1:List.take (ix (ch a) (b :: ch (upL b))) (ch a)++pl (ch a) (ix (ch a) (b :: ch (upL b))) :: ((List.take j (ch (upL b))).reverse++[b])=(List.take (ix (ch a) (b :: ch (upL b))+1) (ch a)++(List.take j (ch (upL b))).reverse)++[b]:=by
    rw[BG (by rw[<-Cs D];exact g)];simp
   rw[e1,List.drop_append_of_le_length (by simp;omega),List.dropLast_concat,List.drop_append_of_le_length (by rw[List.length_take];omega)]
 ·have e:ix (ch a) (ch b)=(ch a).length:=by have:=Mi (ch a) (ch b);omega
  rw[RN e,Nz e,e];obtain⟨n,en⟩:∃n,(ch a).length=n+1:=⟨(ch a).length - 1,by omega⟩;have E:∀i,i<(ch a).length->pl (ch a) i≠b:=fun i hi q=>absurd (by rw[q];exact F) (GG (A:=ch a) (B:=ch b) (i:=i) (by omega))
  have hu:upW (ch a) b (ch a).length=(ch a).drop 1:=by
   rw[en,upW,if_pos (.inl (Jo (by omega))),RQ n (by omega) (fun i hi _=>E i (by omega)),<-en];simp
  rw[hu,List.take_of_length_le Ag]
  conv=>rhs;rw[Cs D]
  conv=>lhs;rw[Cs D]
  rw[List.reverse_cons,<-List.append_assoc,List.drop_append_of_le_length (by simp;omega),List.dropLast_concat,List.drop_append_of_le_length (by omega)];simp
open Go.RowKit Af
attribute [local go_sem] Ea List.getElem_cons_zero List.getElem_cons_succ
theorem NA (b:UInt8) (w:World):Calls Tryz.prog 204 #[.int .u8 (b.toNat:Int)] w fun e w'=>e=.returned (.bool (capB b))/\w=w':=by
 have J:=Fg b
 by_cases h1:65<=b.toNat
 ·have D:decide (65<=(b.toNat:Int))=true:=by simp;omega
  by_cases h2:b.toNat<=90
  ·have F:decide ((b.toNat:Int)<=90)=true:=by simp;omega
   have E:=I (show capB b=true by simp [capB,h1,h2]);clear h1 h2;go_enter Tryz.func204,Tryz.ntmps204
   go_wp2
   go_ret;exact⟨by rw[E.o];rfl,rfl⟩
  ·have F:decide ((b.toNat:Int)<=90)=false:=by simp;omega
   have E:=I (show capB b=false by simp [capB,h2]);clear h1 h2;go_enter Tryz.func204,Tryz.ntmps204
   go_wp2
   go_ret;exact⟨by rw[E.o];rfl,rfl⟩
 ·have D:decide (65<=(b.toNat:Int))=false:=by simp;omega
  have E:=I (show capB b=false by simp [capB,h1]);clear h1;go_enter Tryz.func204,Tryz.ntmps204
  go_wp2
  go_ret;exact⟨by rw[E.o];rfl,rfl⟩
theorem RR (b:UInt8) (w:World):Calls Tryz.prog 119 #[.int .u8 (b.toNat:Int)] w fun e w'=>e=.returned (.bool (DD b))/\w=w':=by
 have J:=Fg b
 by_cases h1:97<=b.toNat
 ·have D:decide (97<=(b.toNat:Int))=true:=by simp;omega
  by_cases h2:b.toNat<=122
  ·have F:decide ((b.toNat:Int)<=122)=true:=by simp;omega
   have E:=I (show DD b=true by simp [DD,h1,h2]);clear h1 h2;go_enter Tryz.func119,Tryz.ntmps119
   go_wp2
   go_ret;exact⟨by rw[E.o];rfl,rfl⟩
  ·have F:decide ((b.toNat:Int)<=122)=false:=by simp;omega
   have E:=I (show DD b=false by simp [DD,h2]);clear h1 h2;go_enter Tryz.func119,Tryz.ntmps119
   go_wp2
   go_ret;exact⟨by rw[E.o];rfl,rfl⟩
 ·have D:decide (97<=(b.toNat:Int))=false:=by simp;omega
  have E:=I (show DD b=false by simp [DD,h1]);clear h1;go_enter Tryz.func119,Tryz.ntmps119
  go_wp2
  go_ret;exact⟨by rw[E.o];rfl,rfl⟩
theorem Mj (b:UInt8) (w:World):Calls Tryz.prog 78 #[.int .u8 (b.toNat:Int)] w fun e w'=>e=.returned (.bool (Cn b))/\w=w':=by
 have M:=Fg b;have c1:=RR b w
 by_cases D:DD b=true
 ·have E:=I (show Cn b=true by simp [Cn,D])
  rw[D] at c1;clear D;go_enter Tryz.func78,Tryz.ntmps78
  go_wp2_with (go_at_call 119;refine Aj c1 ?_;rintro w1 rfl)
  go_ret;exact⟨by rw[E.o];rfl,rfl⟩
 ·have D:DD b=false:=by simpa using D
  rw[D] at c1
  by_cases h1:48<=b.toNat
  ·have F:decide (48<=(b.toNat:Int))=true:=by simp;omega
   by_cases h2:b.toNat<=57
   ·have J:decide ((b.toNat:Int)<=57)=true:=by simp;omega
    have E:=I (show Cn b=true by simp [Cn,h1,h2]);clear h1 h2 D;go_enter Tryz.func78,Tryz.ntmps78
    go_wp2_with (go_at_call 119;refine Aj c1 ?_;rintro w1 rfl)
    go_ret;exact⟨by rw[E.o];rfl,rfl⟩
   ·have J:decide ((b.toNat:Int)<=57)=false:=by simp;omega
    have E:=I (show Cn b=false by simp [Cn,h2,D]);clear h1 h2 D;go_enter Tryz.func78,Tryz.ntmps78
    go_wp2_with (go_at_call 119;refine Aj c1 ?_;rintro w1 rfl)
    go_ret;exact⟨by rw[E.o];rfl,rfl⟩
  ·have F:decide (48<=(b.toNat:Int))=false:=by simp;omega
   have E:=I (show Cn b=false by simp [Cn,h1,D]);clear h1 D;go_enter Tryz.func78,Tryz.ntmps78
   go_wp2_with (go_at_call 119;refine Aj c1 ?_;rintro w1 rfl)
   go_ret;exact⟨by rw[E.o];rfl,rfl⟩
theorem La {p:UInt8->Bool} {l:L} (h:∀i (h:i<l.length),p l[i]=true) (F:1<=l.length) (E:l.length<=8):Ck p l=true:=by
 rw[Eb];refine⟨F,E,?_⟩;rw[List.all_eq_true];intro x D;obtain⟨i,hi,rfl⟩:=List.getElem_of_mem D;exact h i hi
theorem GH {p:UInt8->Bool} {l:L} {i:Nat} (hi:i<l.length) (h:p l[i]=false):Ck p l=false:=by
 cases e:Ck p l with
 |false=>rfl
 |true=>
  have:=((Eb p l).1 e).2.2;rw[List.all_eq_true] at this;have:=this _ (List.getElem_mem hi);rw[h] at this;cases this
theorem Hr {p:UInt8->Bool} {l:L} (h:l.length<1):Ck p l=false:=by simp [Ck];omega
theorem Jp {p:UInt8->Bool} {l:L} (h:8<l.length):Ck p l=false:=by simp [Ck];omega
def Fit (p:UInt8->Bool) (l:L) (k:Nat):Prop:=∀i (h:i<l.length),i<k->p l[i]=true
theorem Qq (l:L) (w:World) (hs:l.length<=1000000000):Calls Tryz.prog 77 #[.string ⟨l.toArray⟩,.func (.func 204) #[] #[]] w fun e w'=>e=.returned (.bool (Ck capB l))/\w=w':=by
 by_cases h1:l.length<1
 ·have E:=I (Hr (p:=capB) h1)
  have M:decide ((l.length:Int)<1)=true:=by simp;omega
  clear h1;go_enter Tryz.func77,Tryz.ntmps77
  go_wp2
  go_ret;exact⟨by rw[E.o];rfl,rfl⟩
 ·have M:decide ((l.length:Int)<1)=false:=by simp;omega
  by_cases h2:8<l.length
  ·have E:=I (Jp (p:=capB) h2)
   have g2:decide (8<(l.length:Int))=true:=by simp;omega
   clear h1 h2;go_enter Tryz.func77,Tryz.ntmps77
   go_wp2
   go_ret;exact⟨by rw[E.o];rfl,rfl⟩
  ·have g2:decide (8<(l.length:Int))=false:=by simp;omega
   have O:=I (fun h=>La (p:=capB) (l:=l) h (by omega) (by omega));clear h1 h2;go_enter Tryz.func77,Tryz.ntmps77
   go_wp2
   go_loop [16] (fun J=>∃k:Nat,k<=l.length/\J=.int .i64 (k:Int)/\Fit capB l k) (fun J=>l.length - (intOf J).toNat)
   case atStart=>exact⟨0,Nat.zero_le _,rfl,fun i _ h=>by omega⟩
   case round=>
    obtain⟨k,hk,rfl,D⟩:=hrel
    by_cases hlt:k<l.length
    ·have e1:(k:Int)<(l.length:Int):=by omega
     have c1:=NA l[k] w;have F:=I D;clear D
     by_cases hp:capB l[k]=true
     ·rw[hp] at c1
      have N:=I hp;clear hp
      go_wp2_with (go_at_call 204;refine Aj c1 ?_;rintro w1 rfl)
      go_round
      case rel=>exact⟨k+1,by omega,by go_num,fun i hi Z=>by
       by_cases q:i=k
       ·subst q;exact N.o
       ·exact F.o i hi (by omega)⟩
      case measure=>simp [intOf];omega
     ·have hp:capB l[k]=false:=by simpa using hp
      rw[hp] at c1;have E:=I (GH hlt hp);clear hp
      go_wp2_with (go_at_call 204;refine Aj c1 ?_;rintro w1 rfl)
      go_ret;exact⟨by rw[E.o];rfl,rfl⟩
    ·have F:=I D;clear D
     have E:=I (O.o (fun i hi=>F.o i hi (by omega)));have e1:¬(k:Int)<(l.length:Int):=by omega
     go_wp2
     go_ret;exact⟨by rw[E.o];rfl,rfl⟩
theorem RT (l:L) (w:World) (hs:l.length<=1000000000):Calls Tryz.prog 77 #[.string ⟨l.toArray⟩,.func (.func 78) #[] #[]] w fun e w'=>e=.returned (.bool (Ck Cn l))/\w=w':=by
 by_cases h1:l.length<1
 ·have E:=I (Hr (p:=Cn) h1)
  have M:decide ((l.length:Int)<1)=true:=by simp;omega
  clear h1;go_enter Tryz.func77,Tryz.ntmps77
  go_wp2
  go_ret;exact⟨by rw[E.o];rfl,rfl⟩
 ·have M:decide ((l.length:Int)<1)=false:=by simp;omega
  by_cases h2:8<l.length
  ·have E:=I (Jp (p:=Cn) h2)
   have g2:decide (8<(l.length:Int))=true:=by simp;omega
   clear h1 h2;go_enter Tryz.func77,Tryz.ntmps77
   go_wp2
   go_ret;exact⟨by rw[E.o];rfl,rfl⟩
  ·have g2:decide (8<(l.length:Int))=false:=by simp;omega
   have O:=I (fun h=>La (p:=Cn) (l:=l) h (by omega) (by omega));clear h1 h2;go_enter Tryz.func77,Tryz.ntmps77
   go_wp2
   go_loop [16] (fun J=>∃k:Nat,k<=l.length/\J=.int .i64 (k:Int)/\Fit Cn l k) (fun J=>l.length - (intOf J).toNat)
   case atStart=>exact⟨0,Nat.zero_le _,rfl,fun i _ h=>by omega⟩
   case round=>
    obtain⟨k,hk,rfl,D⟩:=hrel
    by_cases hlt:k<l.length
    ·have e1:(k:Int)<(l.length:Int):=by omega
     have c1:=Mj l[k] w;have F:=I D;clear D
     by_cases hp:Cn l[k]=true
     ·rw[hp] at c1
      have N:=I hp;clear hp
      go_wp2_with (go_at_call 78;refine Aj c1 ?_;rintro w1 rfl)
      go_round
      case rel=>exact⟨k+1,by omega,by go_num,fun i hi Z=>by
       by_cases q:i=k
       ·subst q;exact N.o
       ·exact F.o i hi (by omega)⟩
      case measure=>simp [intOf];omega
     ·have hp:Cn l[k]=false:=by simpa using hp
      rw[hp] at c1;have E:=I (GH hlt hp);clear hp
      go_wp2_with (go_at_call 78;refine Aj c1 ?_;rintro w1 rfl)
      go_ret;exact⟨by rw[E.o];rfl,rfl⟩
    ·have F:=I D;clear D
     have E:=I (O.o (fun i hi=>F.o i hi (by omega)));have e1:¬(k:Int)<(l.length:Int):=by omega
     go_wp2
     go_ret;exact⟨by rw[E.o];rfl,rfl⟩
end Nm
namespace Nm
open Go.RowKit Af
theorem CJ (l:List UInt8) (k:Nat):(ByteArray.mk l.toArray).extract 0 k=ByteArray.mk (l.take k).toArray:=by
 rw[ByteArray.extract_mk];simp
attribute [local go_sem] Ea List.getElem_cons_zero List.getElem_cons_succ BZ Ca Dd CJ
theorem YP (b:UInt8):((b.toNat:Int)).toNat.toUInt8=b:=by simp
theorem Vw {c:UInt8} {l:L} (h:c∉l):Lib.indexByte l c = -1:=by
 induction l with
 |nil=>rfl
 |cons x r ih=>
  simp only[List.mem_cons,not_or] at h;rw[Lib.indexByte,if_neg (by simpa using fun e:x=c=>h.1 e.symm),ih h.2];rfl
theorem YQ {c:UInt8} {l:L} (h:c∈l):Lib.indexByte l c=((bef c l).length:Int):=by
 induction l with
 |nil=>simp at h
 |cons x r ih=>
  rw[Lib.indexByte,bef]
  by_cases e:x=c
  ·rw[if_pos (by simpa using e),if_pos e];rfl
  ·have hm:c∈r:=(List.mem_cons.1 h).resolve_left fun g=>e g.symm
   rw[if_neg (by simpa using e),if_neg e,ih hm,if_neg (by simp)];simp
theorem Vx {c:UInt8} {l:L} (h:c∈l):l.take (bef c l).length=bef c l:=by
 have e:=Kp h;have g:(bef c l++c :: aft c l).take (bef c l).length=bef c l:=by simp
 rwa [<-e] at g
theorem Vy {c:UInt8} {l:L} (h:c∈l):l.drop ((bef c l).length+1)=aft c l:=by
 have e:=Kp h;have g:(bef c l++c :: aft c l).drop ((bef c l).length+1)=aft c l:=by simp
 rwa [<-e] at g
theorem bC {c:UInt8} {l:L} (h:c∈l):(bef c l).length<l.length:=by
 have:=congrArg List.length (Kp h);simp at this;omega
theorem YR (l:L) (b:UInt8) (w:World):(callFunc 248 #[.string ⟨l.toArray⟩,.int .u8 (b.toNat:Int)]).run Tryz.prog w=.ok (.value (.int .i64 (Lib.indexByte l b))) w:=by
 rw[run_callFunc_extern Tryz.func248 (by kernel_rfl) (by kernel_rfl) (by kernel_rfl) (e:=Extern.BytealgIndexByte.indexByte) (by kernel_rfl),Lib.run_indexByteString];simp only[Result.andThen,YP]
theorem Lb (l:L) (b:UInt8) (w:World):Calls Tryz.prog 236 #[.string ⟨l.toArray⟩,.int .u8 (b.toNat:Int)] w fun e w'=>e=.returned (.int .i64 (Lib.indexByte l b))/\w=w':=by
 have h:=fun w=>YR l b w
 go_enter Tryz.func236,Tryz.ntmps236
 go_wp2
 go_ret;exact⟨rfl,rfl⟩
theorem Hs (l:L):(ByteArray.mk l.toArray).size=l.length:=by simp [ByteArray.size]
theorem RU (l:L) (b:UInt8) (w:World):Calls Tryz.prog 219 #[.string ⟨l.toArray⟩,.string ⟨#[b]⟩] w fun e w'=>e=.returned (.int .i64 (Lib.indexByte l b))/\w=w':=by
 have c1:=Lb l b w
 by_cases e:l = [b]
 ·subst e
  have E:=I (show Lib.indexByte [b] b=0 by simp [Lib.indexByte]);go_enter Tryz.func219,Tryz.ntmps219
  go_wp2_with fail
  go_ret;exact⟨by rw[E.o];rfl,rfl⟩
 ·have D:([b]==l)=false:=by simpa using fun g:[b]=l=>e g.symm
  clear e;go_enter Tryz.func219,Tryz.ntmps219
  go_wp2_with (go_at_call 236;refine Aj c1 ?_;rintro w1 rfl)
  go_ret;exact⟨rfl,rfl⟩
def AW (w w':World):Prop:=∃n,w'=w.drewN n
theorem AW.refl (w:World):AW w w:=⟨0,rfl⟩
theorem AW.below {w w':World} (h:AW w w'):Below w.heap.size w w':=by
 obtain⟨n,rfl⟩:=h;exact below_drewN Ah n
theorem NB (l:L) (b:UInt8) (w:World) (hs:l.length<=1000000000):Calls Tryz.prog 197 #[.string ⟨l.toArray⟩,.string ⟨#[b]⟩] w fun e w'=>
  e=.returned (.tuple #[.string ⟨(bef b l).toArray⟩,.string ⟨(aft b l).toArray⟩,.bool (hasC b l)])/\AW w w':=by
 have c1:=RU l b w
 by_cases h:b∈l
 ·have F:=I (show hasC b l=true from(Em _ _).2 h)
  have D:=I (Vx h);have E:=I (Vy h);have J:=bC h;obtain⟨n,en⟩:=Ak ((bef b l).length);rw[YQ h,<-en] at c1;rw[<-en] at D E J;have M:=I en;clear en h;go_enter Tryz.func197,Tryz.ntmps197
  go_wp2_with (go_at_call 219;refine Aj c1 ?_;rintro w1 rfl)
  go_quiet (fail)
  go_wp2
  go_ret3
  rename_i q _
  exact⟨by rw[F.o,<-D.o,<-E.o];rfl,⟨_,rfl⟩⟩
 ·have F:=I (show hasC b l=false from(FK _ _).2 h)
  have D:=I (IL h);have E:=I (KU h);rw[Vw h] at c1;clear h;go_enter Tryz.func197,Tryz.ntmps197
  go_wp2_with (go_at_call 219;refine Aj c1 ?_;rintro w1 rfl)
  go_ret3
  exact⟨by rw[F.o,D.o,E.o];rfl,AW.refl _⟩
theorem NC (l:L) (b:UInt8) (w:World) (hs:l.length<=1000000000):Calls Tryz.prog 159 #[.string ⟨l.toArray⟩,.string ⟨#[b]⟩] w fun e w'=>
  e=.returned (.tuple #[.string ⟨(bef b l).toArray⟩,.string ⟨(aft b l).toArray⟩,.bool (hasC b l)])/\AW w w':=by
 have c1:=NB l b w hs;go_enter Tryz.func159,Tryz.ntmps159
 go_wp2_with (go_at_call 197;refine Aj c1 ?_;rintro w1 D)
 go_ret3
 exact⟨rfl,D⟩
def preL (p l:L):Bool:=p.isPrefixOf l
theorem Pf (p l:L):(l.take p.length==p)=preL p l:=by
 rw[preL,Bool.eq_iff_iff];simp only[beq_iff_eq,List.isPrefixOf_iff_prefix];rw[List.prefix_iff_eq_take];exact eq_comm
theorem RV {p l:L} (h:preL p l=true):p.length<=l.length:=(List.isPrefixOf_iff_prefix.1 h).length_le
theorem YS {p l:L}:preL p l=true↔l=p++l.drop p.length:=by
 constructor
 ·intro h
  obtain⟨t,e⟩:=List.isPrefixOf_iff_prefix.1 h;rw[<-e];simp
 ·intro h
  rw[preL,List.isPrefixOf_iff_prefix];exact⟨_,h.symm⟩
theorem En (l p:L) (w:World) (hs:l.length<=1000000000) (hp:p.length<=1000000000):Calls Tryz.prog 205 #[.string ⟨l.toArray⟩,.string ⟨p.toArray⟩] w fun e w'=>
  e=.returned (.bool (preL p l))/\w=w':=by
 by_cases h:p.length<=l.length
 ·have D:(p.length:Int)<=(l.length:Int):=by omega
  have E:=I (Pf p l);clear h;go_enter Tryz.func205,Tryz.ntmps205
  go_wp2
  go_ret;exact⟨by rw[<-E.o];rfl,rfl⟩
 ·have E:=I (show preL p l=false by
   cases q:preL p l with
   |false=>rfl
   |true=>exact absurd (RV q) h)
  have D:¬(p.length:Int)<=(l.length:Int):=by omega
  clear h;go_enter Tryz.func205,Tryz.ntmps205
  go_wp2
  go_ret;exact⟨by rw[E.o];rfl,rfl⟩
def cpL (p l:L):L:=if preL p l then l.drop p.length else l
theorem Ht (l p:L) (w:World) (hs:l.length<=1000000000) (hp:p.length<=1000000000):Calls Tryz.prog 174 #[.string ⟨l.toArray⟩,.string ⟨p.toArray⟩] w fun e w'=>
  e=.returned (.tuple #[.string ⟨(cpL p l).toArray⟩,.bool (preL p l)])/\w=w':=by
 have c1:=En l p w hs hp
 by_cases h:preL p l=true
 ·have F:(p.length:Int)<=(l.length:Int):=by have:=RV h;omega
  have E:=I (show cpL p l=l.drop p.length by rw[cpL,if_pos h]);have D:=I h;rw[h] at c1;clear h;go_enter Tryz.func174,Tryz.ntmps174
  go_wp2_with (go_at_call 205;refine Aj c1 ?_;rintro w1 rfl)
  go_ret2
  exact⟨by rw[E.o,D.o];rfl,rfl⟩
 ·have h:preL p l=false:=by simpa using h
  have E:=I (show cpL p l=l by rw[cpL,if_neg (by simp [h])]);have D:=I h;rw[h] at c1;clear h;go_enter Tryz.func174,Tryz.ntmps174
  go_wp2_with (go_at_call 205;refine Aj c1 ?_;rintro w1 rfl)
  go_ret2
  exact⟨by rw[E.o,D.o];rfl,rfl⟩
theorem GI (l p:L) (w:World) (hs:l.length<=1000000000) (hp:p.length<=1000000000):Calls Tryz.prog 118 #[.string ⟨l.toArray⟩,.string ⟨p.toArray⟩] w fun e w'=>
  e=.returned (.tuple #[.string ⟨(cpL p l).toArray⟩,.bool (preL p l)])/\w=w':=by
 have c1:=Ht l p w hs hp;go_enter Tryz.func118,Tryz.ntmps118
 go_wp2_with (go_at_call 174;refine Aj c1 ?_;rintro w1 rfl)
 go_ret2
 exact⟨rfl,rfl⟩
theorem Mk (u v:L) (b:UInt8) (M:b∉v) (w:World) (hs:(u++b :: v).length<=1000000000):Calls Tryz.prog 234 #[.string ⟨(u++b :: v).toArray⟩,.int .u8 (b.toNat:Int)] w fun e w'=>
  e=.returned (.int .i64 (u.length:Int))/\w=w':=by
 obtain⟨l,el⟩:=Ak (u++b :: v);have D:∀k (h:k<l.length),u.length<=k->(((l[k]).toNat:Int)==(b.toNat:Int))=decide (k=u.length):=by
  intro k h hk
  by_cases e:k=u.length
  ·subst e
   have:l[u.length]=b:=by subst el;simp
   rw[this];simp
  ·have hm:l[k]∈v:=by
    subst el;rw[List.getElem_append_right (by omega)];obtain⟨j,O⟩:∃j,k - u.length=j+1:=⟨k - u.length - 1,by omega⟩;simp only[O,List.getElem_cons_succ];exact List.getElem_mem _
   rw[decide_eq_false e];have:l[k]≠b:=fun q=>M (q▸hm)
   simp only[beq_eq_false_iff_ne,ne_eq];intro q;exact this (UInt8.toNat_inj.1 (by omega))
 have hlen:u.length<l.length:=by subst el;simp
 rw[<-el] at hs⊢;clear el M;obtain⟨n,en⟩:=Ak (u.length);rw[<-en] at D hlen⊢;clear en;have F:=I D;clear D;go_enter Tryz.func234,Tryz.ntmps234
 go_wp2
 go_loop [5] (fun E=>∃k:Nat,k<l.length/\n<=k/\E=.int .i64 (k:Int)) (fun E=>(intOf E).toNat)
 case atStart=>exact⟨l.length - 1,by omega,by omega,by congr 1;omega⟩
 case round=>
  obtain⟨k,hk,N,rfl⟩:=hrel;have Z:(0:Int)<=(k:Int):=by omega
  have t:=F.o k hk N
  by_cases e:k=n
  ·rw[decide_eq_true e] at t
   subst e
   go_wp2
   go_ret;exact⟨rfl,rfl⟩
  ·rw[decide_eq_false e] at t
   have J:=I e;clear e
   go_wp2
   go_round
   case rel=>exact⟨k - 1,by omega,by have:=J.o;omega,by congr 1;have:=J.o;omega⟩
   case measure=>have:=J.o;simp [intOf];omega
theorem ND (u v:L) (b:UInt8) (D:b∉v) (w:World) (hs:(u++b :: v).length<=1000000000):Calls Tryz.prog 218 #[.string ⟨(u++b :: v).toArray⟩,.string ⟨#[b]⟩] w fun e w'=>
  e=.returned (.int .i64 (u.length:Int))/\w=w':=by
 have c1:=Mk u v b D w hs;obtain⟨l,el⟩:=Ak (u++b :: v);obtain⟨n,en⟩:=Ak (u.length);rw[<-el] at c1 hs⊢;rw[<-en] at c1⊢;clear el en D;go_enter Tryz.func218,Tryz.ntmps218
 go_wp2_with (go_at_call 234;refine Aj c1 ?_;rintro w1 rfl)
 go_ret;exact⟨rfl,rfl⟩
theorem Pg:(Tryz.prog.info? 5).map (fun i=>(i.zero,i.size,i.bytes))=some (some (.int .u8 0),1,1):=by kernel_rfl
theorem Vz (n:Nat) (J:n<=1000000000) (w:World):(Instr.makeSlice 27 (.int .i64 (n:Int)) (.int .i64 (n:Int))).run Tryz.prog w=.ok (.slice (some ⟨w.heap.size,0,none⟩) n n) (w.alloc (.cells (De n) 5)):=by
 obtain⟨D,hi,F,hs,E⟩:=info_parts Pg;have h:=run_make (P:=Tryz.prog) w 27 5 D _ Tryz.underlying27 hi F .i64 .i64 (n:Int) (n:Int) (by omega) (by omega) (by rw[E];omega) (by omega);have e:madeCells (Value.int .u8 0).cells (((n:Int)).toNat*D.size)=De n:=by
  rw[hs,Nat.mul_one,Int.toNat_natCast];refine Array.toList_inj.1 ?_;show(madeCells #[Value.int .u8 0] n).toList=_;rw[toList_madeCells_one];simp [De,bv]
 rw[e] at h
 simpa using h
theorem IT (s:L) (w:World):(Builtin.copy_ #[27,9] 3 #[.slice (some ⟨w.heap.size,0,none⟩) s.length s.length,.string ⟨s.toArray⟩]).run Tryz.prog (w.alloc (.cells (De s.length) 5))=.ok (goInt s.length) (w.alloc (.cells (bvs s).toArray 5)):=by
 obtain⟨D,hi,_,hs,_⟩:=info_parts Pg;have hk:=Blk.new w 5 (De s.length);have h:=Lib.run_copy_row_string (P:=Tryz.prog) _ 27 9 3 5 w.heap.size 0 s.length s.length ⟨s.toArray⟩ _ 5 Tryz.underlying27 (by rw[hi];simp [hs]) hk (by rw[Hs];exact Nat.le_refl _) (by rw[Hs,Dx];omega);rw[Hs,World.setRow_alloc_new] at h;have e:(De s.length).toList.take 0++Lib.byteCells s++(De s.length).toList.drop (0+s.length)=bvs s:=by
  rw[List.drop_of_length_le (by rw[Array.length_toList,Dx];omega)];simp [Lib.byteCells,bvs,bv]
 rw[e] at h;exact h
theorem Lc (s:L) (J:s≠[]) (hs:s.length<=1000000000) (w:World):(Builtin.unsafeString_ #[226,3] 9 #[.pointer (some ⟨w.heap.size,0,none⟩),.int .i64 (s.length:Int)]).run Tryz.prog (w.alloc (.cells (bvs s).toArray 5))=.ok (.string ⟨s.toArray⟩) ((w.alloc (.cells (bvs s).toArray 5)).freeze ⟨w.heap.size,0,none⟩ s.length):=by
 obtain⟨M,hi,_,E,_⟩:=info_parts Pg;have hk:=Blk.new w 5 (bvs s).toArray;refine Lib.run_unsafeString_row (P:=Tryz.prog) _ _ _ _ 5 Tryz.underlying226 (by simp [Program.cellsOf,hi,E]) w.heap.size s.length ?_ s J Ag (by omega) fun j x D=>?_
 ·unfold World.shape?
  rw[show(w.alloc (.cells (bvs s).toArray 5)).heap[w.heap.size]? = _ from hk];simp [Ay]
 ·obtain⟨F,e⟩:=List.getElem?_eq_some_iff.1 D
  rw[addr_add,Nat.zero_add,hk.cell,List.getElem?_toArray,GC F,e];rfl
theorem Ld (s:L) (w:World) (D:s.length<=1000000000):Calls Tryz.prog 83 #[.string ⟨s.toArray⟩] w fun e w'=>e=.returned (.string ⟨s.toArray⟩)/\Below w.heap.size w w':=by
 by_cases h0:s = []
 ·subst h0
  go_enter Tryz.func83,Tryz.ntmps83
  go_wp2
  go_ret;exact⟨rfl,Below.refl _ _⟩
 ·have F:=Vz s.length D w
  have M:=IT s w;have J:=Lc s h0 D w;have N:1<=s.length:=by
   cases s with
   |nil=>exact absurd rfl h0
   |cons a r=>simp
  have O:((s.length:Int)==0)=false:=by simp;omega
  have E:=I (Lib.below_freeze ((Below.refl w.heap.size w).alloc Ag (.cells (bvs s).toArray 5)) (p:=⟨w.heap.size,0,none⟩) Ag s.length);clear h0;go_enter Tryz.func83,Tryz.ntmps83
  go_wp2
  go_ret;exact⟨rfl,E.o⟩
theorem Bm (s:L) (w:World) (D:s.length<=1000000000):Calls Tryz.prog 42 #[.string ⟨s.toArray⟩] w fun e w'=>e=.returned (.string ⟨s.toArray⟩)/\Below w.heap.size w w':=by
 have c1:=Ld s w D;go_enter Tryz.func42,Tryz.ntmps42
 go_wp2_with (go_at_call 83;refine Aj c1 ?_;rintro w' E)
 go_ret;exact⟨rfl,E⟩
end Nm
namespace Nm
open Go.RowKit Af
attribute [local go_sem] Ea List.getElem_cons_zero List.getElem_cons_succ BZ Ca Dd CJ
theorem AW.trans {a b c:World} (h:AW a b) (k:AW b c):AW a c:=by
 obtain⟨n,rfl⟩:=h;obtain⟨m,rfl⟩:=k;exact⟨n+m,by simp [World.drewN_drewN]⟩
theorem GJ (l:L) (b:UInt8) (w:World) (hs:l.length<=1000000000):Calls Tryz.prog 173 #[.string ⟨l.toArray⟩,.string ⟨#[b]⟩] w fun e w'=>e=.returned (.bool (areL b 4 l))/\AW w w':=by
 have HS:=I hs;clear hs;go_enter Tryz.func173,Tryz.ntmps173
 go_wp2
 go_loopw [0,8] (fun sv iv wr=>∃(k:Nat) (s:L),k<=4/\sv=.string ⟨s.toArray⟩/\iv=.int .i64 (k:Int)/\areL b (4 - k) s=areL b 4 l/\s.length<=l.length/\AW w wr) (fun _ iv _=>4 - (intOf iv).toNat)
 case atStart=>exact⟨0,l,by omega,rfl,rfl,rfl,Nat.le_refl _,AW.refl _⟩
 case round=>
  obtain⟨k,s,hk,rfl,rfl,D,hl,E⟩:=hrel;have HL:=I hl;clear hl;have N:=I E;clear E
  by_cases hlt:k<4
  ·have e1:(k:Int)<4:=by omega
   have M:s.length<=1000000000:=Nat.le_trans HL.o HS.o;have c1:=NC s b wr M;have c2:=fun w1=>Qq (bef b s) w1 (by have:=RJ b s;omega)
   have Z:=I c2;clear c2;have ea:areL b (4 - k) s=(Ck capB (bef b s)&&(if hasC b s then areL b (4 - (k+1)) (aft b s) else true)):=by
    rw[show 4 - k=(4 - (k+1))+1 by omega];rfl
   rw[ea] at D;have J:(aft b s).length<=l.length:=by have:=Nx b s;have:=HL.o;omega
   have aw:=I J;clear J ea M;cases hw:Ck capB (bef b s) with
   |false=>
    rw[hw,Bool.false_and] at D;have F:=I D;clear D;have O:=I hw;clear hw
    go_wp2_with (first
     |(go_at_call 159;refine Aj c1 ?_;rintro w1 E;clear c1;have c2:=Z.o w1;rw[O.o] at c2;have H1:=I E;clear E)
     |(go_at_call 77;refine Aj c2 ?_;rintro w2 rfl;clear c2))
    go_ret;exact⟨by rw[<-F.o];rfl,N.o.trans H1.o⟩
   |true=>
    rw[hw,Bool.true_and] at D;have O:=I hw;clear hw;cases hc:hasC b s with
    |false=>
     rw[hc,if_neg (by simp)] at D;rw[hc] at c1;have F:=I D;clear D;have HC:=I hc;clear hc
     go_wp2_with (first
      |(go_at_call 159;refine Aj c1 ?_;rintro w1 E;clear c1;have c2:=Z.o w1;rw[O.o] at c2;have H1:=I E;clear E)
      |(go_at_call 77;refine Aj c2 ?_;rintro w2 rfl;clear c2))
     go_ret;exact⟨by rw[<-F.o];rfl,N.o.trans H1.o⟩
    |true=>
     rw[hc,if_pos rfl] at D;rw[hc] at c1;have F:=I D;clear D;have HC:=I hc;clear hc
     go_wp2_with (first
      |(go_at_call 159;refine Aj c1 ?_;rintro w1 E;clear c1;have c2:=Z.o w1;rw[O.o] at c2;have H1:=I E;clear E)
      |(go_at_call 77;refine Aj c2 ?_;rintro w2 rfl;clear c2))
     go_roundw
     case rel=>exact⟨k+1,aft b s,by omega,rfl,by go_num,F.o,aw.o,N.o.trans H1.o⟩
     case measure=>simp [intOf];omega
  ·have e1:¬(k:Int)<4:=by omega
   obtain rfl:k=4:=by omega
   have F:=I (show areL b 4 l=false by rw[<-D];rfl);clear D
   go_wp2
   go_ret;exact⟨by rw[F.o];rfl,N.o⟩
theorem bD (l:L):slL l=(preL [47] l&&Cg (split 47 (cpL [47] l))):=by
 cases l with
 |nil=>rfl
 |cons x r=>
  rw[slL,cpL]
  by_cases h:x=47
  ·subst h
   have e:preL [47] (47 :: r)=true:=by simp [preL]
   rw[e];simp
  ·have e:preL [47] (x :: r)=false:=by
    cases q:preL [47] (x :: r) with
    |false=>rfl
    |true=>have:=congrArg List.head? (YS.1 q);simp at this;exact absurd this h
   rw[e];simp [h]
theorem XO (p l:L):(cpL p l).length<=l.length:=by rw[cpL];split<;>simp
theorem IU (l:L) (w:World) (hs:l.length<=1000000000):Calls Tryz.prog 117 #[.string ⟨l.toArray⟩] w fun e w'=>e=.returned (.int .i64 (AG l:Int))/\AW w w':=by
 have c1:=GJ l 46 w hs;rw[Me] at c1;have N:=I (fun w1=>GI l [47] w1 hs (by decide));have c3:=fun w1=>GJ (cpL [47] l) 47 w1 (by have:=XO [47] l;omega)
 rw[Me] at c3;have C3:=I c3;clear c3 hs;have F:=Qo l;rw[bD] at F;cases h1:Cg (split 46 l) with
 |true=>
  rw[h1] at c1;have E:=I (show AG l=1 by rw[F,h1];rfl);clear F h1;go_enter Tryz.func117,Tryz.ntmps117
  go_wp2_with (go_at_call 173;refine Aj c1 ?_;rintro w1 D;clear c1;have H1:=I D;clear D)
  go_ret;exact⟨by rw[E.o];rfl,H1.o⟩
 |false=>
  rw[h1] at c1;rw[h1,if_neg (by simp)] at F;cases h2:preL [47] l with
  |false=>
   have E:=I (show AG l=0 by rw[F,h2];rfl);have J:=I h2;clear F h1 h2;go_enter Tryz.func117,Tryz.ntmps117
   go_wp2_with (first
    |(go_at_call 173;refine Aj c1 ?_;rintro w1 D;clear c1;have H1:=I D;clear D;have c2:=N.o w1;rw[J.o] at c2)
    |(go_at_call 118;refine Aj c2 ?_;rintro Z rfl;clear c2))
   go_ret;exact⟨by rw[E.o];rfl,H1.o⟩
  |true=>
   rw[h2,Bool.true_and] at F;have J:=I h2;cases h3:Cg (split 47 (cpL [47] l)) with
   |false=>
    have E:=I (show AG l=0 by rw[F,h3];rfl);have O:=I h3;clear F h1 h2 h3;go_enter Tryz.func117,Tryz.ntmps117
    go_wp2_with (first
     |(go_at_call 173;refine Aj c1 ?_;rintro w1 D;clear c1;have H1:=I D;clear D;have c2:=N.o w1;rw[J.o] at c2)
     |(go_at_call 118;refine Aj c2 ?_;rintro Z rfl;clear c2;have c4:=C3.o w1;rw[O.o] at c4)
     |(go_at_call 173;refine Aj c4 ?_;rintro w3 D;clear c4;have M:=I D;clear D))
    go_ret;exact⟨by rw[E.o];rfl,H1.o.trans M.o⟩
   |true=>
    have E:=I (show AG l=2 by rw[F,h3];rfl);have O:=I h3;clear F h1 h2 h3;go_enter Tryz.func117,Tryz.ntmps117
    go_wp2_with (first
     |(go_at_call 173;refine Aj c1 ?_;rintro w1 D;clear c1;have H1:=I D;clear D;have c2:=N.o w1;rw[J.o] at c2)
     |(go_at_call 118;refine Aj c2 ?_;rintro Z rfl;clear c2;have c4:=C3.o w1;rw[O.o] at c4)
     |(go_at_call 173;refine Aj c4 ?_;rintro w3 D;clear c4;have M:=I D;clear D))
    go_ret;exact⟨by rw[E.o];rfl,H1.o.trans M.o⟩
theorem DM (l:L) (w:World) (hs:l.length<=1000000000):Calls Tryz.prog 75 #[.string ⟨l.toArray⟩] w fun e w'=>e=.returned (.bool (isL l))/\AW w w':=by
 have c1:=IU l w hs
 by_cases h:1<=AG l
 ·have E:=I (show isL l=true by simp [isL,h])
  have t:((AG l:Int) != 0)=true:=by simp;omega
  clear h;go_enter Tryz.func75,Tryz.ntmps75
  go_wp2_with (go_at_call 117;refine Aj c1 ?_;rintro w1 D;clear c1;have H1:=I D;clear D)
  go_ret;exact⟨by rw[E.o];rfl,H1.o⟩
 ·have E:=I (show isL l=false by simp [isL];omega)
  have F:AG l=0:=by omega
  rw[F] at c1;clear h F;go_enter Tryz.func75,Tryz.ntmps75
  go_wp2_with (go_at_call 117;refine Aj c1 ?_;rintro w1 D;clear c1;have H1:=I D;clear D)
  go_ret;exact⟨by rw[E.o];rfl,H1.o⟩
end Nm
namespace Nm
open Go.RowKit Af
attribute [local go_sem] Ea List.getElem_cons_zero List.getElem_cons_succ BZ Ca Dd CJ
theorem XP (l:L):(upL l).length<=l.length:=by
 by_cases h:l = []
 ·subst h;rw[br];exact Nat.le_refl _
 ·exact Nat.le_of_lt (bs h)
theorem Ph (l:L) (w:World) (hs:l.length<=1000000000):Calls Tryz.prog 194 #[.string ⟨l.toArray⟩] w fun e w'=>e=.returned (.string ⟨(upL l).toArray⟩)/\Below w.heap.size w w':=by
 have c1:=IU l w hs
 by_cases h1:AG l=1
 ·rw[h1] at c1
  have c2:=fun w1=>NC l 46 w1 hs
  have J:upL l=aft 46 l:=by rw[upL,if_pos h1]
  rw[<-J] at c2;have N:=I c2;clear c2;have Z:=I (fun w1=>Bm (upL l) w1 (Nat.le_trans (XP l) hs));clear h1 J hs;go_enter Tryz.func194,Tryz.ntmps194
  go_wp2_with (first
   |(go_at_call 117;refine Aj c1 ?_;rintro w1 D;clear c1;have H1:=I D.below;clear D;have c2:=N.o w1)
   |(go_at_call 159;refine Aj c2 ?_;rintro w2 D;clear c2;have H2:=I (H1.o.trans (D.below.mono H1.o.size));clear D;have c3:=Z.o w2)
   |(go_at_call 42;refine Aj c3 ?_;rintro w3 F;clear c3;have O:=H2.t F;clear F))
  go_ret;exact⟨rfl,O.o⟩
 ·by_cases h2:AG l=2
  ·obtain⟨u,v,e,hv,J⟩:=Mf h2
   rw[h2] at c1;have c2:=fun w1=>ND u v 47 hv w1 (by rw[<-e];exact hs)
   rw[<-e] at c2;obtain⟨n,en⟩:=Ak (u.length);have et:l.take n=upL l:=by rw[J,en,e];simp
   have ht:(n:Int)<=(l.length:Int):=by rw[e,en];simp;omega
   rw[<-en] at c2;have N:=I c2;clear c2;have Z:=I (fun w1=>Bm (l.take n) w1 (Nat.le_trans (by simp;omega) hs));have E:=I et;clear en et J e hv h1 h2 hs;go_enter Tryz.func194,Tryz.ntmps194
   go_wp2_with (first
    |(go_at_call 117;refine Aj c1 ?_;rintro w1 D;clear c1;have H1:=I D.below;clear D;have c2:=N.o w1)
    |(go_at_call 218;refine Aj c2 ?_;rintro w2 rfl;clear c2;have c3:=Z.o w1)
    |(go_at_call 42;refine Aj c3 ?_;rintro w3 F;clear c3;have O:=H1.t F;clear F))
   go_ret;exact⟨by rw[<-E.o];rfl,O.o⟩
  ·have hk:=Hp l
   have M:AG l=0:=by omega
   have E:=I (Hq M);rw[M] at c1;clear M hk h1 h2 hs;go_enter Tryz.func194,Tryz.ntmps194
   go_wp2_with (go_at_call 117;refine Aj c1 ?_;rintro w1 D;clear c1;have H1:=I D.below;clear D)
   go_ret;exact⟨by rw[E.o];rfl,H1.o⟩
theorem Ml (a b:L) (w:World) (hs:a.length<=1000000000):Calls Tryz.prog 193 #[.string ⟨a.toArray⟩,.string ⟨b.toArray⟩] w fun e w'=>e=.returned (.bool (BX a b))/\Below w.heap.size w w':=by
 have c1:=Ph a w hs;have c2:=fun(i:Nat) w1=>Ph (pl (ch (upL a)) i) w1 (by
  rcases Nat.lt_or_ge i (ch (upL a)).length with g | g
  ·have h1:=KX (Dc g);have:=XP a;omega
  ·rw[Jo g];simp)
 obtain⟨A,eA⟩:=Ak (ch (upL a));have h0:upL a=pl A 0:=by
  rw[eA]
  by_cases h:upL a = []
  ·rw[h,CH];rfl
  ·exact(DE h).symm
 have J:∀i,i<A.length->upL (pl A i)=pl A (i+1):=by rw[eA];exact fun i h=>Vs _ h
 have F:∀i,i<A.length->pl A i≠[]:=by rw[eA];exact fun i h=>RK _ h
 have hu:BX a b=decide (b∈A):=by rw[eA];rfl
 rw[<-eA] at c2;rw[h0] at c1;clear eA hs;have C2:=I c2;clear c2;have Z:=I J;clear J;have O:=I F;clear F;have HU:=I hu;clear hu h0;have aw:=I (Below.refl w.heap.size w);go_enter Tryz.func193,Tryz.ntmps193
 go_wp2_with (go_at_call 194;refine Aj c1 ?_;rintro w1 D;clear c1;have H1:=I D;clear D)
 go_loopg [5] A.length (fun g sv wr=>∃i:Nat,i+g=A.length/\sv=.string ⟨(pl A i).toArray⟩/\(∀k,k<i->pl A k≠b)/\Below w.heap.size w wr)
 case atStart=>exact⟨0,Nat.zero_add _,rfl,fun k h=>absurd h (Nat.not_lt_zero k),H1.o⟩
 case round=>
  obtain⟨i,hi,rfl,hn,D⟩:=hrel;have HN:=I hn;clear hn;have M:=I D;clear D
  by_cases hlt:i<A.length
  ·have N:(pl A i == [])=false:=by simpa using O.o i hlt
   have c3:=C2.o i wr;rw[Z.o i hlt] at c3
   by_cases hx:pl A i=b
   ·have t2:(pl A i==b)=true:=by simpa using hx
    have E:=I (show BX a b=true by rw[HU.o,<-hx];simpa using Dc hlt);clear hx c3;have HI:=I hi;clear hi
    go_wp2_with fail
    go_ret;exact⟨by rw[E.o];rfl,M.o⟩
   ·have t2:(pl A i==b)=false:=by simpa using hx
    have HX:=I hx;clear hx;have HI:=I hi;clear hi
    go_wp2_with (go_at_call 194;refine Aj c3 ?_;rintro w3 D;clear c3;have H3:=M.t D;clear D)
    go_roundg (A.length - (i+1))
    case measure=>have:=HI.o;omega
    case rel=>exact⟨i+1,by have:=HI.o;omega,rfl,fun k hk=>by
     by_cases q:k=i
     ·rw[q];exact HX.o
     ·exact HN.o k (by omega),H3.o⟩
  ·have E:=I (show BX a b=false by
    rw[HU.o,decide_eq_false_iff_not];intro hm;obtain⟨k,hk,e⟩:=mem_pl hm;exact HN.o k (by omega) e)
   have N:pl A i = []:=Jo (by omega);rw[N];clear N hi hlt
   go_wp2_with fail
   go_ret;exact⟨by rw[E.o];rfl,M.o⟩
end Nm
namespace Nm
open Go.RowKit Af
theorem Fk (a b:L):ByteArray.mk a.toArray++ByteArray.mk b.toArray=ByteArray.mk (a++b).toArray:=by
 apply ByteArray.ext;simp
attribute [local go_sem] Ea List.getElem_cons_zero List.getElem_cons_succ BZ Ca Dd CJ
def krb:L:=[107,114,98,116,103,116,47]
def tgL (n:L):Bool:=preL krb n&&isL (cpL krb n)
def tgR (n:L):L:=if tgL n then n.drop 7 else []
def Ds (r n:L):Bool:=isL r&&(tgL n||Ck Cn n)
theorem Ks (l:L) (w:World) (hs:l.length<=1000000000):Calls Tryz.prog 58 #[.string ⟨l.toArray⟩] w fun e w'=>e=.returned (.string ⟨(krb++l).toArray⟩)/\w=w':=by
 have E:=I (Fk krb l);go_enter Tryz.func58,Tryz.ntmps58
 go_wp2
 go_ret;exact⟨by rw[<-E.o];rfl,rfl⟩
theorem NF (l:L) (w:World) (hs:l.length<=1000000000):Calls Tryz.prog 24 #[.string ⟨l.toArray⟩] w fun e w'=>e=.returned (.string ⟨(krb++l).toArray⟩)/\w=w':=by
 have E:=I (Fk krb l);go_enter Tryz.func24,Tryz.ntmps24
 go_wp2
 go_ret;exact⟨by rw[<-E.o];rfl,rfl⟩
theorem Qr (n:L) (w:World) (hs:n.length<=1000000000):Calls Tryz.prog 76 #[.string ⟨n.toArray⟩] w fun e w'=>e=.returned (.tuple #[.string ⟨(tgR n).toArray⟩,.bool (tgL n)])/\Below w.heap.size w w':=by
 have c1:=GI n krb w hs (by decide);have E:=XO krb n;have c2:=DM (cpL krb n) w (by omega);have C3:=I (fun w1=>Bm (cpL krb n) w1 (by omega));have N:=I (Below.refl w.heap.size w);cases h1:preL krb n with
 |false=>
  have D:=I (show tgL n=false by rw[tgL,h1];rfl);have F:=I (show tgR n = [] by rw[tgR,D.o];rfl);rw[h1] at c1;clear h1 hs E c2;go_enter Tryz.func76,Tryz.ntmps76
  go_wp2_with (go_at_call 118;refine Aj c1 ?_;rintro w1 rfl;clear c1)
  go_ret2
  exact⟨by rw[D.o,F.o];rfl,N.o⟩
 |true=>
  cases h2:isL (cpL krb n) with
  |false=>
   have D:=I (show tgL n=false by rw[tgL,h1,h2];rfl);have F:=I (show tgR n = [] by rw[tgR,D.o];rfl);rw[h1] at c1;rw[h2] at c2;clear h1 h2 hs E;go_enter Tryz.func76,Tryz.ntmps76
   go_wp2_with (first
    |(go_at_call 118;refine Aj c1 ?_;rintro w1 rfl;clear c1)
    |(go_at_call 75;refine Aj c2 ?_;rintro O J;clear c2;have M:=I J.below;clear J))
   go_ret2
   exact⟨by rw[D.o,F.o];rfl,M.o⟩
  |true=>
   have D:=I (show tgL n=true by rw[tgL,h1,h2];rfl);have F:=I (show tgR n=cpL krb n by rw[tgR,D.o,cpL,h1];rfl);rw[h1] at c1;rw[h2] at c2;clear h1 h2 hs E;go_enter Tryz.func76,Tryz.ntmps76
   go_wp2_with (first
    |(go_at_call 118;refine Aj c1 ?_;rintro w1 rfl;clear c1)
    |(go_at_call 75;refine Aj c2 ?_;rintro O J;clear c2;have M:=I J.below;clear J;have c3:=C3.o O)
    |(go_at_call 42;refine Aj c3 ?_;rintro w3 Z;clear c3;have H3:=M.t Z;clear Z))
   go_ret2
   exact⟨by rw[D.o,F.o];rfl,H3.o⟩
theorem AV (r n:L) (w:World) (hs:r.length<=1000000000) (Z:n.length<=1000000000):Calls Tryz.prog 36 #[.agg #[.string ⟨r.toArray⟩,.string ⟨n.toArray⟩]] w fun e w'=>e=.returned (.bool (Ds r n))/\Below w.heap.size w w':=by
 have c1:=DM r (w.alloc (.cells #[.string ⟨r.toArray⟩,.string ⟨n.toArray⟩] 23)) hs;have hk:=Blk.new w 23 #[.string ⟨r.toArray⟩,.string ⟨n.toArray⟩];have aw:=(Below.refl w.heap.size w).alloc Ag (.cells #[.string ⟨r.toArray⟩,.string ⟨n.toArray⟩] 23);have bx:w.heap.size<(w.alloc (.cells #[.string ⟨r.toArray⟩,.string ⟨n.toArray⟩] 23)).heap.size:=by simp
 obtain⟨N,eN⟩:=Ak (w.heap.size);have C2:=I (fun w1=>Qr n w1 Z);have C3:=I (fun w1=>RT n w1 Z);have E1:=I (show Ds r n=(isL r&&(tgL n||Ck Cn n)) from rfl);rw[<-eN] at hk aw bx⊢;have EN:=I eN;clear eN;have HK:=I hk;clear hk;have bz:=I aw;clear aw;have J:=I bx;clear bx hs Z;cases h1:isL r with
 |false=>
  rw[h1] at c1;have E:=I (show Ds r n=false by rw[E1.o,h1];rfl);clear h1;go_enter Tryz.func36,Tryz.ntmps36
  go_wp2_with (go_at_call 75;refine Aj c1 ?_;rintro w1 D;clear c1;have H1:=I (bz.o.trans (D.below.mono (Nat.le_of_lt J.o)));clear D)
  go_ret;exact⟨by rw[E.o];rfl,H1.o⟩
 |true=>
  rw[h1] at c1;have cc:=I (fun w1=>C2.o w1);cases h2:tgL n with
  |true=>
   have E:=I (show Ds r n=true by rw[E1.o,h1,h2];rfl);have HT:=I h2;clear h1 h2;go_enter Tryz.func36,Tryz.ntmps36
   go_wp2_with (first
    |(go_at_call 75;refine Aj c1 ?_;rintro w1 D;clear c1;have H1:=I (bz.o.trans (D.below.mono (Nat.le_of_lt J.o)));have M:=(HK.o.below D.below).cell 1;have F:N<w1.heap.size:=(by have:=D.below.size;have:=J.o;omega);have bB:=I F;rw[EN.o] at M;clear D F;have c2:=C2.o w1;rw[HT.o] at c2)
    |(go_at_call 76;refine Aj c2 ?_;rintro w2 hb;clear c2;have H2:=I (H1.o.trans (hb.mono (Nat.le_of_lt bB.o)));clear hb))
   go_ret;exact⟨by rw[E.o];rfl,H2.o⟩
  |false=>
   have E:=I (show Ds r n=Ck Cn n by rw[E1.o,h1,h2];rfl);have HT:=I h2;clear h1 h2;go_enter Tryz.func36,Tryz.ntmps36
   go_wp2_with (first
    |(go_at_call 75;refine Aj c1 ?_;rintro w1 D;clear c1;have H1:=I (bz.o.trans (D.below.mono (Nat.le_of_lt J.o)));have O:=HK.o.below D.below;have ca:=I O;have M:=O.cell 1;have F:N<w1.heap.size:=(by have:=D.below.size;have:=J.o;omega);have bB:=I F;rw[EN.o] at M;clear D F O;have c2:=C2.o w1;rw[HT.o] at c2)
    |(go_at_call 76;refine Aj c2 ?_;rintro w2 hb;clear c2 M;have H2:=I (H1.o.trans (hb.mono (Nat.le_of_lt bB.o)));have cb:=(ca.o.below hb).cell 1;rw[EN.o] at cb;clear hb;have c3:=C3.o w2)
    |(go_at_call 77;refine Aj c3 ?_;rintro w3 rfl;clear c3))
   go_ret;exact⟨by rw[E.o];rfl,H2.o⟩
end Nm
namespace Nm
theorem Pj {a b x:L} (h:x∈KY (ch a) (ch b)):x∈ch a\/x∈ch b:=by
 rw[KY,List.mem_append,List.mem_append,List.mem_reverse] at h;rcases h with h | h | h
 ·exact .inl (List.mem_of_mem_take h)
 ·exact .inl (List.mem_of_mem_drop (List.mem_of_mem_take h))
 ·exact .inr (List.mem_of_mem_take h)
theorem VA (a b:L):(KY (ch a) (ch b)).length<=9:=by
 have:=Mh a;have:=Mh b;rw[KY];simp only[List.length_append,List.length_take,List.length_reverse,List.length_drop];omega
theorem Eo (a b:L):(Bb a b).length<=9:=by
 rw[Bb]
 split
 ·simp
 ·have:=VA a b
  simp only[List.length_dropLast,List.length_drop];omega
theorem Io {a b x:L} (h:x∈Bb a b):AG x≠0:=by
 rw[Bb] at h
 split at h
 ·simp at h
 ·rename_i hk
  rw[not_or] at hk;have E:=List.mem_of_mem_drop ((List.dropLast_sublist _).subset h);rcases Pj E with D | D
  ·rw[Pe D];exact hk.1
  ·rw[Pe D];exact hk.2
def okS (x y:L):Prop:=upL x=y\/upL y=x\/(upL x = []/\upL y = [])
def Steps:List L->Prop
 | []=>True
 | [_]=>True
 |x :: y :: r=>okS x y/\Steps (y :: r)
theorem Le:∀{A:List L},(∀i,i+1<A.length->okS (pl A i) (pl A (i+1)))->Steps A
 | [],_=>trivial
 | [_],_=>trivial
 |x :: y :: r,h=>⟨h 0 (by simp),Le fun i hi=>h (i+1) (by simpa using hi)⟩
theorem YT {A:List L} {i k:Nat} (h:i<k):pl (A.take k) i=pl A i:=by
 rcases Nat.lt_or_ge i A.length with g | g
 ·rw[Ct (by simp;omega),Ct g];simp
 ·rw[Jo g,Jo (by simp;omega)]
open Go.RowKit Af
def st (l:L):Value:=.string ⟨l.toArray⟩
def strs (ls:List L):List Value:=ls.map st
theorem Df (ls:List L):(strs ls).length=ls.length:=by simp [strs]
theorem Jq (ls ms:List L):strs (ls++ms)=strs ls++strs ms:=by simp [strs]
theorem Lf (ls:List L):∀u∈strs ls,u.oneCell'=true:=by
 intro u hu;obtain⟨b,_,rfl⟩:=List.mem_map.1 hu
 rfl
theorem YU {ls:List L} {i:Nat} (h:i<ls.length):(strs ls)[i]? = some (st (pl ls i)):=by
 rw[strs,List.getElem?_map,List.getElem?_eq_getElem h,Ct h];rfl
theorem IV:(Tryz.prog.info? 9).map (fun i=>(i.zero,i.size,i.bytes))=some (some (.string ⟨#[]⟩),1,16):=by kernel_rfl
def Own (w:World) (base:Nat) (v:Value) (ls:List L):Prop:=w.ownsRow base 9 1 v ls.length (strs ls)
theorem Own.nil (w:World) (base:Nat):Own w base (.slice none 0 0) []:=World.ownsRow_nil w base _ 1
theorem Own.below {w w':World} {base:Nat} {v:Value} {ls:List L} (h:Own w base v ls) (D:Below w.heap.size w w'):Own w' base v ls:=Ek h D
theorem Own.from_ {w:World} {base base':Nat} {v:Value} {ls:List L} (h:Own w base v ls) (F:base'<=base):Own w base' v ls:=by
 refine⟨h.1,?_⟩;rcases h.2 with h | ⟨g,cap,cur,D,J,E⟩
 ·exact .inl h
 ·exact .inr ⟨g,cap,cur,D,by omega,E⟩
theorem Own.slice {w:World} {base:Nat} {v:Value} {ls:List L} (h:Own w base v ls):∃A c,v=.slice A ls.length c/\Rd w w.heap.size A (strs ls):=by
 have E:=h;rcases h.2 with⟨D,F⟩ | ⟨g,cap,cur,D,_⟩
 ·have e:ls = []:=List.eq_nil_of_length_eq_zero F
  subst e;exact⟨none,0,D,.inl rfl⟩
 ·subst D
  exact⟨_,cap,rfl,Rd.of_own (n:=ls.length) (cap:=cap) E⟩
theorem Own.lt {w:World} {base:Nat} {v:Value} {ls:List L} (h:Own w base v ls):∀k,v.ownBlock=some k->base<=k/\k<w.heap.size:=World.ownsRow.lt h
theorem CQ {w:World} {B:Nat} {A:Option Addr} {ls:List L} (h:Rd w B A (strs ls)) {i:Nat} (hi:i<ls.length):∃b o,A=some ⟨b,o,none⟩/\b<B/\w.cell? ⟨b,o+i,none⟩=some (.string ⟨(pl ls i).toArray⟩):=
 h.at_ (YU hi)
section
variable {w:World} {ops:Array Oper} {rest:List Oper} {o:Oper} {a:Act} {Q:Exit->Act->World->Prop}
theorem Pk (E:o.guard=none) (s x:Operand) (ho:o.op=.call {callee:=.builtin .append,args:=#[s,x],argTypes:=#[70,70]})
  (base:Nat) (v:Value) (ls:List L) (hs:a.eval s=v) (D:Own w base v ls) (B:Nat) (A:Option Addr) (c:Nat) (ms:List L) (hx:a.eval x=.slice A ms.length c) (hr:Rd w B A (strs ms))
  (hl:ls.length+ms.length<=8000000000000) (O:base<=w.heap.size)
  (h:∀v' w',Own w' base v' (ls++ms)->Below base w w'->wpList Tryz.prog ops Q rest (a.put o.dst v') w'):wpList Tryz.prog ops Q (o :: rest) a w:=by
 obtain⟨Z,N,F,J,M⟩:=info_parts IV;refine AA w E s x 70 ho base 9 Z _ 16 Tryz.underlying70 N F J M rfl v ls.length (strs ls) hs D B A ms.length c (strs ms) hx (Df _).symm hr (Lf _) (by unfold maxLen;omega) (by omega) O ?_;intro v' w' h1 h2 _;refine h v' w' (by rw[Own,List.length_append,Jq];exact h1) ?_;exact Ah.grown h2 O (fun k hk=>(D.lt k hk).1)
theorem Gp (E:o.guard=none) (s x:Operand) (O:o.op=.call {callee:=.builtin .append,args:=#[s,x],argTypes:=#[70,70]})
  (base:Nat) (v:Value) (ls:List L) (hs:a.eval s=v) (D:Own w base v ls) (r:L) (F:a.eval x=.slice (some ⟨w.heap.size,0,none⟩) 1 1)
  (N:ls.length+1<=8000000000000) (J:base<=w.heap.size)
  (h:∀v' w',Own w' base v' (ls++[r])->Below base w w'->wpList Tryz.prog ops Q rest (a.put o.dst v') w'):wpList Tryz.prog ops Q (o :: rest) a (w.alloc (.cells #[.string ⟨r.toArray⟩] 9)):=by
 refine Pk E s x O base v ls hs (D.below (Ah.alloc Ag _)) (w.heap.size+1) _ 1 [r] F ?_ N (by simp;omega) ?_
 ·refine .inr ⟨w.heap.size,0,rfl,by omega,fun i u hu=>?_⟩
  cases i with
  |zero=>
   simp only[strs,List.map_cons,List.map_nil,List.getElem?_cons_zero,Option.some.injEq] at hu;subst hu;exact(Blk.new w 9 _).cell 0
  |succ i=>simp [strs] at hu
 ·intro v' w' M Z
  exact h v' w' M ((Ah.alloc J _).trans Z)
end
def rev (ls:List L) (k:Nat):List L:=(List.range ls.length).map fun j=>if j<k\/ls.length<=j+k then pl ls (ls.length - 1 - j) else pl ls j
theorem Bj (ls:List L) (k:Nat):(rev ls k).length=ls.length:=by simp [rev]
theorem Kt (ls:List L) (k j:Nat) (h:j<ls.length):pl (rev ls k) j=if j<k\/ls.length<=j+k then pl ls (ls.length - 1 - j) else pl ls j:=by
 rw[Ct (by rw[Bj];exact h)];simp [rev]
theorem RW {A B:List L} (h:A.length=B.length) (hp:∀i,i<A.length->pl A i=pl B i):A=B:=by
 apply List.ext_getElem h;intro i D E;have:=hp i D
 rwa [Ct D,Ct E] at this
theorem rev_zero (ls:List L):rev ls 0=ls:=by
 refine RW (Bj _ _) fun i hi=>?_
 rw[Bj] at hi;rw[Kt _ _ _ hi,if_neg (by omega)]
theorem YV (ls:List L) (k:Nat) (h:ls.length<=2*k+1) (hk:k<=ls.length):rev ls k=ls.reverse:=by
 refine RW (by rw[Bj];simp) fun i hi=>?_
 rw[Bj] at hi;rw[Kt _ _ _ hi,Ct (A:=ls.reverse) (by simpa using hi),List.getElem_reverse,<-Ct]
 by_cases q:i<k\/ls.length<=i+k
 ·rw[if_pos q]
 ·rw[if_neg q,show ls.length - 1 - i=i by omega]
theorem XQ (A:List L) (i j:Nat) (x:L) (h:j<A.length):pl (A.set i x) j=if i=j then x else pl A j:=by
 rw[Ct (by simpa using h),List.getElem_set,Ct h]
theorem VB (ls:List L) (k:Nat) (h:2*k+1<ls.length):((rev ls k).set k (pl (rev ls k) (ls.length - 1 - k))).set (ls.length - 1 - k) (pl (rev ls k) k)=rev ls (k+1):=by
 refine RW (by simp [Bj]) fun i hi=>?_
 simp only[List.length_set,Bj] at hi;rw[XQ _ _ _ _ (by simp [Bj];omega),XQ _ _ _ _ (by rw[Bj];omega),Kt _ _ _ hi,Kt _ _ i hi,Kt _ _ k (by omega),Kt _ _ (ls.length - 1 - k) (by omega)]
 by_cases q1:ls.length - 1 - k=i
 ·rw[if_pos q1,if_neg (by omega),if_pos (by omega),show ls.length - 1 - i=k by omega]
 ·rw[if_neg q1]
  by_cases q2:k=i
  ·rw[if_pos q2,if_neg (by omega),if_pos (by omega),q2]
  ·rw[if_neg q2]
   by_cases q3:i<k\/ls.length<=i+k
   ·rw[if_pos q3,if_pos (by omega)]
   ·rw[if_neg q3,if_neg (by omega)]
theorem VC (ls:List L) (i:Nat) (x:L):strs (ls.set i x)=(strs ls).set i (st x):=by simp [strs,List.map_set]
theorem Own.stored {w:World} {base g n cap:Nat} {ls:List L} (h:Own w base (.slice (some ⟨g,0,none⟩) n cap) ls) (D:n=ls.length) (j:Nat) (x:L) :
  Own (w.setCell ⟨g,j,none⟩ (.string ⟨x.toArray⟩)) base (.slice (some ⟨g,0,none⟩) n cap) (ls.set j x)/\w.grownBy (w.setCell ⟨g,j,none⟩ (.string ⟨x.toArray⟩)) (some g):=by
 subst D;have:=World.ownsRow.stored h j (st x);refine⟨?_,this.2⟩;rw[Own,List.length_set,VC];exact this.1
theorem Jr (v:Value) (ls:List L) (w:World) (base:Nat) (h:Own w base v ls) (hb:base<=w.heap.size) (hl:ls.length<=100000) :
  Calls Tryz.prog 157 #[v] w fun e w'=>e=.returned (.tuple #[])/\Own w' base v ls.reverse/\Below base w w':=by
 rcases Nat.eq_zero_or_pos ls.length with h0 | h0
 ·obtain⟨A,c,rfl,_⟩:=h.slice
  have e:ls = []:=List.eq_nil_of_length_eq_zero h0;subst e;have HO:=I h;clear h;simp only[List.length_nil];clear h0;go_enter Tryz.func157,Tryz.ntmps157
  go_wp2
  go_loopg [2,3] 0 (fun _ s2 s3 wr=>s2=.int .i64 0/\s3=.int .i64 (-1)/\wr=w)
  case atStart=>exact⟨rfl,rfl,rfl⟩
  case round=>
   obtain⟨rfl,rfl,rfl⟩:=hrel
   go_wp2
   go_end0
   exact⟨rfl,HO.o,Below.refl _ _⟩
 ·obtain⟨g,cap,rfl,hg⟩:∃g cap,v=.slice (some ⟨g,0,none⟩) ls.length cap/\base<=g:=by
   rcases h.2 with⟨_,N⟩ | ⟨g,cap,cur,h1,N,_⟩
   ·omega
   ·exact⟨g,cap,h1,N⟩
  obtain⟨n,en⟩:=Ak (ls.length);rw[<-en] at h hl h0⊢;have D:=I en;clear en;have HO:=I h;clear h;have HB:=I (show Below base w w from Below.refl _ _);have HG:=I hg;clear hg;have aw:=I hb;clear hb;go_enter Tryz.func157,Tryz.ntmps157
  go_wp2
  go_loopg [2,3] n (fun q s2 s3 wr=>∃i j:Nat,i+j+1=n/\i+q=n/\i<=j+1/\s2=.int .i64 (i:Int)/\s3=.int .i64 (j:Int)/\Own wr base (.slice (some ⟨g,0,none⟩) n cap) (rev ls i)/\Below base w wr)
  case atStart=>exact⟨0,n - 1,by omega,by omega,by omega,rfl,by congr 1;omega,by rw[rev_zero];exact HO.o,HB.o⟩
  case round=>
   obtain⟨i,j,h1,N,h3,rfl,rfl,M,hb⟩:=hrel;have J:=I hb;clear hb
   by_cases hlt:i<j
   ·have hr:=M.slice
    have ci:wr.cell? ⟨g,i,none⟩=some (.string ⟨(pl (rev ls i) i).toArray⟩):=by
     obtain⟨A,c,e,Z⟩:=hr;injection e with e1 e2 e3;subst e1;obtain⟨b',o',F,_,e5⟩:=CQ Z (i:=i) (by rw[Bj,<-D.o];omega);injection F with F;injection F with e6 e7;subst e6;subst e7
     rwa [Nat.zero_add] at e5
    have cj:wr.cell? ⟨g,j,none⟩=some (.string ⟨(pl (rev ls i) j).toArray⟩):=by
     obtain⟨A,c,e,Z⟩:=hr;injection e with e1 e2 e3;subst e1;obtain⟨b',o',F,_,e5⟩:=CQ Z (i:=j) (by rw[Bj,<-D.o];omega);injection F with F;injection F with e6 e7;subst e6;subst e7
     rwa [Nat.zero_add] at e5
    have fi:wr.frozen? ⟨g,i,none⟩=false:=World.ownsRow.frozenAt (n:=n) (by have:=M;rw[Own,Bj,<-D.o] at this;exact this) i;have fj:wr.frozen? ⟨g,j,none⟩=false:=World.ownsRow.frozenAt (n:=n) (by have:=M;rw[Own,Bj,<-D.o] at this;exact this) j;clear hr;have O:=I M;clear M;have e1:(i:Int)<(j:Int):=by omega
    have H1:=I h1;have H2:=I N;clear N;have H3:=I h3;clear h3
    go_wp2_with fail
    go_region
    go_wp2
    have s1:=O.o.stored (by rw[Bj,<-D.o]) i (pl (rev ls i) j);have s2:=s1.1.stored (by rw[List.length_set,Bj,<-D.o]) j (pl (rev ls i) i);have er:((rev ls i).set i (pl (rev ls i) j)).set j (pl (rev ls i) i)=rev ls (i+1):=by
     have:=VB ls i (by have:=D.o;have:=H1.o;omega)
     rwa [show ls.length - 1 - i=j by have:=D.o;have:=H1.o;omega] at this
    rw[er] at s2
    go_roundg (n - (i+1))
    case measure=>have:=H2.o;omega
    case rel=>
     refine⟨i+1,j - 1,by have:=H1.o;omega,by have:=H2.o;omega,by omega,by go_num,by congr 1;omega,s2.1,?_⟩;have b1:=J.o.grown s1.2 (by have:=J.o.size;have:=aw.o;omega) (fun k hk=>by injection hk with hk;have:=HG.o;omega);have b2:=b1.grown s2.2 (by have:=b1.size;have:=aw.o;omega) (fun k hk=>by injection hk with hk;have:=HG.o;omega);exact below_drewN b2 1
   ·have O:=I M;clear M
    have e1:¬(i:Int)<(j:Int):=by omega
    have E:=I (YV ls i (by have:=D.o;omega) (by have:=D.o;omega));have H1:=I h1;clear h1;have H2:=I N;clear N;have H3:=I h3;clear h3
    go_wp2
    go_end0
    exact⟨rfl,by rw[<-E.o];exact O.o,J.o⟩
end Nm
end Go.Proofs.YthgignaohimadaaGreat
