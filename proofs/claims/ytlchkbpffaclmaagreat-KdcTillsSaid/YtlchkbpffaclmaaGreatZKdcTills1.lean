import Derived.WalkKit
import Derived.WalkSpells
import Derived.WalkLawsBesides
import Derived.LaidEqlPtr
import Derived.Maps.AppendAt
import Derived.Maps.Range
import Derived.Maps.RangeWalk
import Derived.Deep.AppendLies
import Derived.Deep.Draws
import Derived.Deep.Onto
import Derived.Lib.ConvBytes
import Derived.Lib.Hide
import Derived.RegionTactic
import Derived.Deep.QuietTactic
import Derived.BigQuiet
import Derived.Laws.BitsAllLaws
import Derived.Laws.BitsLemmas
import Derived.Test.YtlchkbpffaclmaaGreatProg
import Derived.Lib.Strings
import Derived.Lib.Walk
import Derived.Lib.Bytealg
import Derived.Lib.BufferWrite
import Derived.Lib.UnsafeStr
import Derived.Laws.MakeOwn
import Derived.Laws.OwnMore
import Derived.Deep.WholeRow
import Derived.Deep.LoopGhost
import Derived.Lib.ItoaNum
import Derived.Lib.BitFns
import Derived.Lib.Tables
import Derived.Lib.MinMax
import Derived.IntWalk
import Derived.Laws.AppendOwn
import Derived.Lib.AppendStr
import Derived.DeepKeys
import Derived.Deep.RegionHeld3
import Derived.Deep.Cut
import Derived.Deep.CutRange
import Derived.Deep.CutBlock
import Derived.Deep.MidRow
import Derived.StillTailTactics
import Derived.Laws.Bits64
import Derived.Deep.RegionLaw
import Derived.Laws.Bits64b
import Derived.ProofKit
import Derived.OpenShut
import Derived.ShutString
import Derived.ChangeOld
import Derived.Deep.Matrix
import Derived.Deep.Slices
import Derived.Lib.SlBytesConst
import Derived.BigFrame
import Derived.Great.BuildSlice
import Derived.Laws.StructEq
import Derived.SizedLaws
import Derived.Test.YtlchkbpffaclmaaGreatRows
import Derived.Lib.SmallJoins
import Derived.Deep.Strs
import Derived.ChangeSame
import Derived.Laws.IdiomCopy
import Derived.Laws.Tables
import Derived.Below
set_option maxHeartbeats 25600000
set_option maxRecDepth 100000
set_option linter.unusedVariables false
set_option linter.unusedSimpArgs false
theorem Go.RowKit.Hid.o {p : Prop} (h : Go.RowKit.Hid p) : p := h
theorem Go.Aside.o {p : Prop} (h : Go.Aside p) : p := h
theorem Go.Shut.o {p : Prop} (h : Go.Shut p) : p := h
namespace Go.Proofs.YtlchkbpffaclmaaGreat
theorem I {p : Prop} (h : p) : Go.RowKit.Hid p := h
theorem Aj {P:Program} {f:FuncId} {args:Array Value} {w:World} {r:Ending} {K:World->Prop} {Q:Ending->World->Prop} (h:Calls P f args w fun e w'=>e=r/\K w') (k:∀w',K w'->Q r w'):Calls P f args w Q:=h.mono fun e w' x=>x.1.symm▸k w' x.2
theorem Ak {α:Sort _} (a:α):∃x,x=a:=⟨a,rfl⟩
theorem Ag {n : Nat} : n <= n := Nat.le_refl n
theorem Ah {n : Nat} {w : World} : Go.RowKit.Below n w w := Go.RowKit.Below.refl n w
theorem U {α : Type} (l : List α) (i : Nat) (a : α) : l.toArray.setIfInBounds i a = (l.set i a).toArray := List.setIfInBounds_toArray ..
theorem Aa {α : Type} {x : α} {xs : List α} {a : α} : (x :: xs).set 0 a = a :: xs := rfl
theorem Ab {α : Type} {x : α} {xs : List α} {n : Nat} {a : α} : (x :: xs).set (n + 1) a = x :: xs.set n a := rfl
end Go.Proofs.YtlchkbpffaclmaaGreat
theorem Go.RowKit.Hid.t {a w w' : Go.World} (h : Go.RowKit.Hid (Go.RowKit.Below a.heap.size a w)) (k : Go.RowKit.Below w.heap.size w w') : Go.RowKit.Hid (Go.RowKit.Below a.heap.size a w') := Go.Proofs.YtlchkbpffaclmaaGreat.I (h.o.trans (k.mono h.o.size))
namespace Go.Proofs.YtlchkbpffaclmaaGreat
namespace Af
open Go.RowKit
theorem Ex (l:List UInt8) (i:Nat) (h:i<(ByteArray.mk l.toArray).size):(ByteArray.mk l.toArray)[i]'h=l[i]'(by simpa [ByteArray.size] using h):=rfl
theorem Cr (a:UInt8) (r:List UInt8):(ByteArray.mk (a :: r).toArray).extract 1 (r.length+1)=ByteArray.mk r.toArray:=by
 rw[ByteArray.extract_mk];simp
theorem Cs (l:List UInt8) (k:Nat):(ByteArray.mk l.toArray).extract k l.length=ByteArray.mk (l.drop k).toArray:=by
 rw[ByteArray.extract_mk,List.take_of_length_le (by simp)]
theorem DM (l:List UInt8) (k n:Nat):(ByteArray.mk l.toArray).extract k (k+n)=ByteArray.mk ((l.drop k).take n).toArray:=by
 rw[ByteArray.extract_mk,Nat.add_sub_cancel_left]
theorem BC (a:UInt8):(a.toNat:Int)<=255:=by have:=a.toNat_lt;omega
theorem Qs (a:Nat) (ha:a<9223372036854775808):(BitVec.ofInt 64 (a:Int)).toNat=a:=by
 rw[BitVec.ofInt_natCast,BitVec.toNat_ofNat];exact Nat.mod_eq_of_lt (by omega)
theorem Hx (x y:Nat) (hy:y<256) (hx:x*256+y<9223372036854775808):bits .or .i64 ((x:Int)*256) (y:Int)=(x:Int)*256+y:=by
 have g1:=Qs (x*256) (Nat.lt_of_le_of_lt (Nat.le_add_right _ _) hx);have g2:=Qs y (Nat.lt_of_le_of_lt (Nat.le_add_left _ _) hx);have e:((x:Int)*256)=((x*256:Nat):Int):=by omega
 have h1:x*256 ||| y=x*256+y:=by
  have h:=Nat.shiftLeft_add_eq_or_of_lt (show y<2 ^ 8 by omega) x;rw[Nat.shiftLeft_eq] at h
  simpa using h.symm
 rw[e];show IntKind.i64.wrap ((BitVec.ofInt 64 ((x*256:Nat):Int) ||| BitVec.ofInt 64 (y:Int)).toNat:Int)=_;rw[BitVec.toNat_or,g1,g2,h1,IntKind.wrap_i64];omega
def bv (b:UInt8):Value:=.int .u8 (b.toNat:Int)
def bvs (l:List UInt8):List Value:=l.map bv
theorem Ao (l:List UInt8):(bvs l).length=l.length:=by simp [bvs]
theorem Bt (l m:List UInt8):bvs (l++m)=bvs l++bvs m:=by simp [bvs]
theorem Bl (l:List UInt8):∀u∈bvs l,u.oneCell'=true:=by
 intro u hu;obtain⟨b,_,rfl⟩:=List.mem_map.1 hu
 rfl
theorem Dy {l:List UInt8} {i:Nat} (h:i<l.length):(bvs l)[i]? = some (bv l[i]):=by simp [bvs,h]
def Rd (w:World) (B:Nat) (A:Option Addr) (xs:List Value):Prop:=
 xs = []\/∃b o,A=some ⟨b,o,none⟩/\b<B/\∀i u,xs[i]? = some u->w.cell? ⟨b,o+i,none⟩=some u
def Blk (w:World) (g:Nat) (t:TypeId) (cs:Array Value):Prop:=w.heap[g]? = some (.cells cs t (0,0))
theorem addr_add (b o j:Nat):(⟨b,o,none⟩:Addr).add j=⟨b,o+j,none⟩:=by unfold Addr.add;split<;>simp_all
section
variable {w w' a c:World} {B B' g:Nat} {A:Option Addr} {xs:List Value} {t:TypeId} {cs:Array Value}
theorem Ey {row:Option Nat} (h:a.grownBy w row) (n:Nat):a.grownBy (w.drewN n) row:=⟨h.os,h.tape,h.output,h.size,h.block⟩
theorem AU {row:Option Nat} (h:a.grownBy w row):a.grownBy w.drew row:=⟨h.os,h.tape,h.output,h.size,h.block⟩
theorem Dp {row:Option Nat} (h:a.grownBy w row) (o:Obj):a.grownBy (w.alloc o) row:=
 ⟨h.os,h.tape,h.output,Nat.le_trans h.size (by simp),fun i hi hne=>(Below.heap_alloc w o i (Nat.lt_of_lt_of_le hi h.size)).trans (h.block i hi hne)⟩
theorem AE {row:Option Nat} (h:a.grownBy w row) {p:Addr} (hp:row=some p.block\/a.heap.size<=p.block) (u:Value):a.grownBy (w.setCell p u) row:=
 ⟨h.os,h.tape,h.output,by simpa [World.setCell] using h.size,fun i hi hne=>(Below.heap_setCell w p u i (by
  rintro rfl;rcases hp with hp | hp
  ·exact hne hp.symm
  ·omega)).trans (h.block i hi hne)⟩
theorem BD (h:Below a.heap.size a w) (row:Option Nat):a.grownBy w row:=⟨h.os,h.tape,h.output,h.size,fun i hi _=>h.block i hi⟩
theorem IB {row:Option Nat} (h:a.grownBy w row) (k:Below w.heap.size w c):a.grownBy c row:=
 ⟨k.os.trans h.os,k.tape.trans h.tape,k.output.trans h.output,Nat.le_trans h.size k.size,fun i hi hn=>(k.block i (Nat.lt_of_lt_of_le hi h.size)).trans (h.block i hi hn)⟩
theorem Hc (h:Below B a w) (hB:B<=w.heap.size) (k:Below w.heap.size w c):Below B a c:=h.trans (k.mono hB)
theorem Av (h:Below B a w) (k:w.grownBy c (some g)) (hB:B<=w.heap.size) (hg:B<=g):Below B a c:=
 h.grown k hB (fun j hj=>by injection hj with hj;omega)
theorem bt (h:Below a.heap.size a w) (k:Below w.heap.size w c):Below a.heap.size a c:=h.trans (k.mono h.size)
theorem Blk.lt (h:Blk w g t cs):g<w.heap.size:=by
 rcases Nat.lt_or_ge g w.heap.size with h1 | h1
 ·exact h1
 ·unfold Blk at h;rw[Array.getElem?_eq_none h1] at h;cases h
theorem Blk.cell (h:Blk w g t cs) (i:Nat):w.cell? ⟨g,i,none⟩=cs[i]?:=cell_of_row w g i cs t (0,0) h
theorem Blk.frozen (h:Blk w g t cs) (i:Nat):w.frozen? ⟨g,i,none⟩=false:=by
 unfold Blk at h;simp [World.frozen?,h]
theorem Blk.new (w:World) (t:TypeId) (cs:Array Value):Blk (w.alloc (.cells cs t)) w.heap.size t cs:=heap_alloc_new w _
theorem Blk.drewN (h:Blk w g t cs) (n:Nat):Blk (w.drewN n) g t cs:=h
theorem Blk.alloc (h:Blk w g t cs) (o:Obj):Blk (w.alloc o) g t cs:=(Below.heap_alloc w o g h.lt).trans h
theorem Blk.set (h:Blk w g t cs) (i:Nat) (u:Value):Blk (w.setCell ⟨g,i,none⟩ u) g t (cs.setIfInBounds i u):=by
 unfold Blk at h⊢;simp [World.setCell,Array.getElem?_modify,h]
theorem Blk.below (h:Blk w g t cs) (hb:Below w.heap.size w w'):Blk w' g t cs:=(hb.block g h.lt).trans h
theorem Blk.grown {row:Option Nat} (h:Blk w g t cs) (hb:w.grownBy w' row) (hg:row≠some g):Blk w' g t cs:=(hb.block g h.lt (fun e=>hg e.symm)).trans h
theorem Rd.nil:Rd w B A []:=.inl rfl
theorem Rd.keep (h:Rd w B A xs) (hk:∀b o,b<B->w'.cell? ⟨b,o,none⟩=w.cell? ⟨b,o,none⟩):Rd w' B A xs:=by
 rcases h with h | ⟨b,o,h1,h2,h3⟩
 ·exact .inl h
 ·exact .inr ⟨b,o,h1,h2,fun i u hu=>(hk _ _ h2).trans (h3 i u hu)⟩
theorem Rd.more (h:Rd w B A xs) (hB:B<=B'):Rd w B' A xs:=by
 rcases h with h | ⟨b,o,h1,h2,h3⟩
 ·exact .inl h
 ·exact .inr ⟨b,o,h1,by omega,h3⟩
theorem Rd.below (h:Rd w B A xs) (hb:Below B w w'):Rd w' B A xs:=h.keep fun _ _ hp=>hb.cell hp
theorem Rd.drewN (h:Rd w B A xs) (n:Nat):Rd (w.drewN n) B A xs:=h.keep fun _ _ _=>rfl
theorem Rd.alloc (h:Rd w B A xs) (hB:B<=w.heap.size) (o:Obj):Rd (w.alloc o) B A xs:=
 h.below ((Below.refl B w).alloc hB o)
theorem Rd.grown {row:Option Nat} (h:Rd w B A xs) (hg:w.grownBy w' row) (hB:B<=w.heap.size) (hr:∀k,row=some k->B<=k):Rd w' B A xs:=
 h.below ((Below.refl B w).grown hg hB hr)
theorem Rd.of_own {base n cap:Nat} (h:w.ownsRow base t 1 (.slice A n cap) n xs):Rd w w.heap.size A xs:=by
 rcases h.2 with⟨_,h2⟩ | ⟨g,cap',cur,hv,_,hh,_⟩
 ·left
  have h1:=h.1;rw[h2] at h1;exact List.eq_nil_of_length_eq_zero (by simpa using h1)
 ·right
  injection hv with hA _ _;subst hA;exact⟨g,0,rfl,(Array.getElem?_eq_some_iff.1 hh).1,fun i u hu=>by
   have:=h.cells (g:=g) rfl i u hu
   rwa [addr_add] at this⟩
theorem FI {base n size:Nat} {v:Value} (h:w.ownsRow base t size v n xs) (hb:Below w.heap.size w w'):w'.ownsRow base t size v n xs:=
 h.kept (BD hb none) (by cases v.ownBlock<;>simp)
theorem Rd.at_ {i:Nat} {u:Value} (h:Rd w B A xs) (hi:xs[i]? = some u):∃b o,A=some ⟨b,o,none⟩/\b<B/\w.cell? ⟨b,o+i,none⟩=some u:=by
 rcases h with h | ⟨b,o,h1,h2,h3⟩
 ·subst h;simp at hi
 ·exact⟨b,o,h1,h2,h3 i u hi⟩
end
section
variable {P:Program} (w:World)
theorem AW {B:Nat} {A:Option Addr} {l:List UInt8} (src e:TypeId) (hs:P.underlying src=some (.slice e)) (he:P.underlying e=some (.int .u8)) (h:Rd w B A (bvs l)) (n c:Nat) (hn:n=l.length)
  (dst:TypeId) (hd:P.underlying dst=some .string):(convert src dst (.slice A n c)).run P w=.ok (.string ⟨l.toArray⟩) w:=by
 subst hn;have key:∀a:Addr,A=some a->(∀i u,(bvs l)[i]? = some u->w.cell? (a.add i)=some u)->(convert src dst (.slice A l.length c)).run P w=.ok (.string ⟨l.toArray⟩) w:=by
  intro a ha hc;subst ha;have e1:(l.map fun b=>(b.toNat:Int)).map (Value.int .u8)=bvs l:=by simp [bvs,bv,Function.comp_def]
  have hl:(loadCells a l.length).run P w=.ok ((l.map fun b=>(b.toNat:Int)).map (Value.int .u8)).toArray w:=by
   have:=run_loadCells_list (P:=P) w a (bvs l) hc;rw[Ao] at this;rw[e1];exact this
  rw[run_convert_bytes_string w src dst e _ _ c hs he hd,run_bytesToString w a l.length c _ hl,foldl_push_bytes];have e2:((l.map fun b=>(b.toNat:Int)).map fun n=>UInt8.ofNat n.toNat)=l:=by
   rw[List.map_map]
   conv=>rhs;rw[<-List.map_id l]
   apply List.map_congr_left;intro b _;simp
  rw[e2];simp [ByteArray.empty,ByteArray.emptyWithCapacity]
  rfl
 cases hA:A with
 |some a=>
  rw[<-hA];refine key a hA ?_;rcases h with h | ⟨b,o,h1,_,h3⟩
  ·rw[h];intro i u hu;simp at hu
  ·rw[hA] at h1
   injection h1 with h1;subst h1;intro i u hu;rw[addr_add];exact h3 i u hu
 |none=>
  have hl:l = []:=by
   rcases h with h | ⟨b,o,h1,_,_⟩
   ·exact List.map_eq_nil_iff.1 h
   ·rw[hA] at h1;cases h1
  subst hl;rw[run_convert_bytes_nil w src e hs he _ c dst hd]
  rfl
theorem Kk (base:Nat) (t ty e:TypeId) (i:TypeInfo) (z:Value) (bytes:Nat) (ht:P.underlying t=some (.slice e)) (hi:P.info? e=some i) (hz:i.zero=some z)
  (hsize:i.size=1) (hby:i.bytes=bytes) (hzs:z.cells.size=1)
  (v:Value) (n:Nat) (xs:List Value) (hown:w.ownsRow base e 1 v n xs)
  (B:Nat) (A:Option Addr) (m c:Nat) (news:List Value) (hm:m=news.length) (hr:Rd w B A news) (h1:∀u∈news,u.oneCell'=true)
  (h63:n+m<=maxLen) (hbytes:(n+m)*bytes<=140737488355328) (hbase:base<=w.heap.size) :
  ∃v' w',(Builtin.append_ #[t,t] ty #[v,.slice A m c]).run P w=.ok v' w'/\w'.ownsRow base e 1 v' (n+m) (xs++news)/\w.grownBy w' v.ownBlock/\
   (v'.ownBlock=v.ownBlock\/v'.ownBlock=some w.heap.size):=by
 subst hm;cases hA:A with
 |some a=>
  have hc:∀j u,news[j]? = some u->w.cell? (a.add j)=some u:=by
   rcases hr with h | ⟨b,o,h1,_,h3⟩
   ·rw[h];intro i u hu;simp at hu
   ·rw[hA] at h1
    injection h1 with h1;subst h1;intro i u hu;rw[addr_add];exact h3 i u hu
  obtain⟨v',w',hrun,h2,h3,_,h5⟩:=run_append_own_at (P:=P) w base t ty e i z 1 bytes ht hi hz hsize hby hzs (by omega) v n xs hown a news.length c news (by omega) hc h1 h63 hbytes hbase;exact⟨v',w',hrun,h2,h3,h5⟩
 |none=>
  have hn:news = []:=by
   rcases hr with h | ⟨b,o,h1,_,_⟩
   ·exact h
   ·rw[hA] at h1;cases h1
  subst hn;refine⟨v,w,?_,by simpa using hown,World.grownBy.refl w _,.inl rfl⟩;rcases hown.2 with⟨rfl,rfl⟩ | ⟨g,cap,cur,rfl,_,_,hnc,_⟩
  ·simp [Builtin.append_,run_underlying ht,sizeOf,typeInfo,hi,Builtin.lenOf,Builtin.firstCells]
  ·simp [Builtin.append_,run_underlying ht,sizeOf,typeInfo,hi,Builtin.lenOf,Builtin.firstCells,hnc,storeCells]
theorem Ez {o:Oper} {a:Act} {K:Act->World->Prop} {Q:Exit->Act->World->Prop} (s x:Operand) (t:TypeId)
  (ho:o.op=.call {callee:=.builtin .append,args:=#[s,x],argTypes:=#[t,t]})
  (base:Nat) (e:TypeId) (i:TypeInfo) (z:Value) (bytes:Nat) (ht:P.underlying t=some (.slice e)) (hi:P.info? e=some i) (hz:i.zero=some z)
  (hsize:i.size=1) (hby:i.bytes=bytes) (hzs:z.cells.size=1)
  (v:Value) (n:Nat) (xs:List Value) (hs:a.eval s=v) (hown:w.ownsRow base e 1 v n xs)
  (B:Nat) (A:Option Addr) (m c:Nat) (news:List Value) (hx:a.eval x=.slice A m c) (hm:m=news.length) (hr:Rd w B A news) (h1:∀u∈news,u.oneCell'=true)
  (h63:n+m<=maxLen) (hbytes:(n+m)*bytes<=140737488355328) (hbase:base<=w.heap.size)
  (h:∀v' w',w'.ownsRow base e 1 v' (n+m) (xs++news)->w.grownBy w' v.ownBlock->(v'.ownBlock=v.ownBlock\/v'.ownBlock=some w.heap.size)->K (a.put o.dst v') w'):o.wp P a w K Q:=by
 obtain⟨v',w',hrun,h2,h3,h4⟩:=Kk (P:=P) w base t o.type e i z bytes ht hi hz hsize hby hzs v n xs hown B A m c news hm hr h1 h63 hbytes hbase;unfold Oper.wp execOp;simp only[ho,resolve,invoke,builtin,Sem.run_bind,Sem.run_pure,Result.andThen_ok,List.map_toArray,List.map_cons,List.map_nil,hs,hx,hrun];exact h v' w' h2 h3 h4
theorem Az {ops:Array Oper} {rest:List Oper} {o:Oper} {a:Act} {Q:Exit->Act->World->Prop} (hgd:o.guard=none) (s x:Operand) (t:TypeId)
  (ho:o.op=.call {callee:=.builtin .append,args:=#[s,x],argTypes:=#[t,t]})
  (base:Nat) (e:TypeId) (i:TypeInfo) (z:Value) (bytes:Nat) (ht:P.underlying t=some (.slice e)) (hi:P.info? e=some i) (hz:i.zero=some z)
  (hsize:i.size=1) (hby:i.bytes=bytes) (hzs:z.cells.size=1)
  (v:Value) (n:Nat) (xs:List Value) (hs:a.eval s=v) (hown:w.ownsRow base e 1 v n xs)
  (B:Nat) (A:Option Addr) (m c:Nat) (news:List Value) (hx:a.eval x=.slice A m c) (hm:m=news.length) (hr:Rd w B A news) (h1:∀u∈news,u.oneCell'=true)
  (h63:n+m<=maxLen) (hbytes:(n+m)*bytes<=140737488355328) (hbase:base<=w.heap.size)
  (h:∀v' w',w'.ownsRow base e 1 v' (n+m) (xs++news)->w.grownBy w' v.ownBlock->(v'.ownBlock=v.ownBlock\/v'.ownBlock=some w.heap.size)->wpList P ops Q rest (a.put o.dst v') w'):wpList P ops Q (o :: rest) a w:=
 wpList_plain hgd fun _ hK=>Ez w s x t ho base e i z bytes ht hi hz hsize hby hzs v n xs hs hown B A m c news hx hm hr h1 h63 hbytes hbase fun v' w' h2 h3 h4=>hK _ _ (h v' w' h2 h3 h4)
end
def CQ (n:Nat):Array Value:=(List.replicate n (bv 0)).toArray
theorem Dj (n:Nat):(CQ n).size=n:=by simp [CQ]
theorem Gd {P:Program} {t e:TypeId} {i:TypeInfo} (ht:P.underlying t=some (.slice e)) (hi:P.info? e=some i) (hz:i.zero=some (.int .u8 0)) (hs:i.size=1) (hb:i.bytes=1)
  (C:Int) (n:Nat) (hC:C=(n:Int)) (hn:n<=1000000) (w:World) :
  (Instr.makeSlice t (.int .i64 C) (.int .i64 C)).run P w=.ok (.slice (some ⟨w.heap.size,0,none⟩) n n) (w.alloc (.cells (CQ n) e)):=by
 subst hC;have h:=run_make (P:=P) w t e i _ ht hi hz .i64 .i64 (n:Int) (n:Int) (by omega) (by omega) (by rw[hb];omega) (by omega);rw[Int.toNat_natCast,hs,Nat.mul_one] at h;rw[h];have e1:madeCells (Value.int .u8 0).cells n=CQ n:=by
  apply Array.toList_inj.1;rw[show(Value.int .u8 0).cells=#[Value.int .u8 0] from rfl,toList_madeCells_one];simp [CQ,bv]
 rw[e1]
theorem Df {P:Program} {t e:TypeId} {i:TypeInfo} (ht:P.underlying t=some (.slice e)) (hi:P.info? e=some i) (hz:i.zero=some (.int .u8 0)) (hs:i.size=1) (hb:i.bytes=1)
  (C:Int) (n:Nat) (hC:C=(n:Int)) (hn:n<=1000000) (w:World) :
  (Instr.makeSlice t (.int .i64 0) (.int .i64 C)).run P w=.ok (.slice (some ⟨w.heap.size,0,none⟩) 0 n) (w.alloc (.cells (CQ n) e)):=by
 subst hC;have h:=run_make (P:=P) w t e i _ ht hi hz .i64 .i64 0 (n:Int) (by omega) (by omega) (by rw[hb];omega) (by omega);rw[Int.toNat_natCast,hs,Nat.mul_one] at h;rw[h];have e1:madeCells (Value.int .u8 0).cells n=CQ n:=by
  apply Array.toList_inj.1;rw[show(Value.int .u8 0).cells=#[Value.int .u8 0] from rfl,toList_madeCells_one];simp [CQ,bv]
 rw[e1]
 rfl
theorem Ee (w:World) (e:TypeId) (s:ByteArray):Below w.heap.size w (Lib.bytesWorld w e s):=
 ⟨rfl,rfl,rfl,by rw[Lib.bytesWorld_size];omega,fun k hk=>Lib.bytesWorld_at_old w e s k hk⟩
def Qt (w:World) (base b:Nat) (l:List UInt8):Prop:=
 base<=b/\b<w.heap.size/\∀i (h:i<l.length),w.cell? ⟨b,i,none⟩=some (bv l[i])/\w.frozen? ⟨b,i,none⟩=false
theorem Gi (w:World) (e:TypeId) (l:List UInt8):Qt (Lib.bytesWorld w e ⟨l.toArray⟩) w.heap.size w.heap.size l:=by
 refine⟨Nat.le_refl _,by rw[Lib.bytesWorld_size];omega,fun i h=>⟨?_,?_⟩⟩
 ·rw[Lib.bytesWorld_cell w e ⟨l.toArray⟩ i (by simpa [ByteArray.size] using h)]
  simp [bv,List.getD,h]
 ·have hsz:i<(Lib.bytesCells w e ⟨l.toArray⟩).size:=by
   simp only[Lib.bytesCells,Array.size_append,Array.size_map,Array.size_replicate];simp;omega
  simp only[World.frozen?,Lib.bytesWorld_at_new];simp;omega
theorem Qt.rd {w:World} {base b:Nat} {l:List UInt8} (h:Qt w base b l):Rd w w.heap.size (some ⟨b,0,none⟩) (bvs l):=by
 refine .inr ⟨b,0,rfl,h.2.1,fun i u hu=>?_⟩;have hi:i<l.length:=by
  rcases Nat.lt_or_ge i l.length with g | g
  ·exact g
  ·rw[List.getElem?_eq_none (by rw[Ao];exact g)] at hu;cases hu
 rw[Dy hi] at hu;injection hu with hu;subst hu;rw[Nat.zero_add];exact(h.2.2 i hi).1
end Af
namespace Nm
abbrev L:=List UInt8
def capB (b:UInt8):Bool:=decide (65<=b.toNat)&&decide (b.toNat<=90)
def Dq (b:UInt8):Bool:=decide (97<=b.toNat)&&decide (b.toNat<=122)
def Cf (b:UInt8):Bool:=Dq b||(decide (48<=b.toNat)&&decide (b.toNat<=57))
def Cc (p:UInt8->Bool) (l:L):Bool:=decide (1<=l.length)&&(decide (l.length<=8)&&l.all p)
theorem EE (p:UInt8->Bool) (l:L):Cc p l=true↔1<=l.length/\l.length<=8/\l.all p=true:=by simp [Cc]
def hasC (c:UInt8) (l:L):Bool:=l.any fun x=>decide (x=c)
def bef (c:UInt8):L->L
 | []=>[]
 |x :: r=>if x=c then [] else x :: bef c r
def aft (c:UInt8):L->L
 | []=>[]
 |x :: r=>if x=c then r else aft c r
theorem Gx (c:UInt8) (l:L):hasC c l=true↔c∈l:=by simp [hasC]
theorem Hd (c:UInt8) (l:L):hasC c l=false↔c∉l:=by rw[<-Gx];simp
theorem Kl {c:UInt8} {l:L} (h:c∉l):bef c l=l:=by
 induction l with
 |nil=>rfl
 |cons x r ih=>
  simp only[List.mem_cons,not_or] at h;rw[bef,if_neg (fun e=>h.1 e.symm),ih h.2]
theorem TJ {c:UInt8} {l:L} (h:c∉l):aft c l = []:=by
 induction l with
 |nil=>rfl
 |cons x r ih=>
  simp only[List.mem_cons,not_or] at h;rw[aft,if_neg (fun e=>h.1 e.symm),ih h.2]
theorem Wq (c:UInt8) (l:L):c∉bef c l:=by
 induction l with
 |nil=>simp [bef]
 |cons x r ih=>
  rw[bef];split
  ·simp
  ·rename_i h;simp only[List.mem_cons,not_or];exact⟨fun e=>h e.symm,ih⟩
theorem NJ {c:UInt8} {l:L} (h:c∈l):l=bef c l++c :: aft c l:=by
 induction l with
 |nil=>simp at h
 |cons x r ih=>
  by_cases e:x=c
  ·simp [bef,aft,e]
  ·rw[bef,aft,if_neg e,if_neg e]
   have:c∈r:=(List.mem_cons.1 h).resolve_left fun g=>e g.symm
   simpa using ih this
theorem Wr (c:UInt8) (l:L):(aft c l).length<=l.length:=by
 induction l with
 |nil=>simp [aft]
 |cons x r ih=>rw[aft];split<;>simp<;>omega
theorem Ws (c:UInt8) (l:L):(bef c l).length<=l.length:=by
 induction l with
 |nil=>simp [bef]
 |cons x r ih=>rw[bef];split<;>simp<;>omega
def split (c:UInt8):L->List L
 | []=>[[]]
 |x :: r=>if x=c then [] :: split c r else match split c r with
  | []=>[[x]]
  |a :: t=>(x :: a) :: t
theorem Km (c:UInt8) (l:L):split c l≠[]:=by
 cases l with
 |nil=>simp [split]
 |cons x r=>
  rw[split];split
  ·simp
  ·split<;>simp
theorem EH (c:UInt8) (l:L):1<=(split c l).length:=by
 have:=Km c l;cases h:split c l with
 |nil=>exact absurd h this
 |cons a t=>simp
theorem He {c:UInt8} {l:L} (h:c∉l):split c l = [l]:=by
 induction l with
 |nil=>rfl
 |cons x r ih=>
  simp only[List.mem_cons,not_or] at h;rw[split,if_neg (fun e=>h.1 e.symm),ih h.2]
theorem Gy {c:UInt8} (u v:L):split c (u++c :: v)=split c u++split c v:=by
 induction u with
 |nil=>simp [split]
 |cons x r ih=>
  rw[List.cons_append,split,split]
  split
  ·rw[ih];rfl
  ·rw[ih]
   cases h:split c r with
   |nil=>exact absurd h (Km c r)
   |cons a t=>rfl
theorem JN {c:UInt8} {u v:L} (h:c∉u):split c (u++c :: v)=u :: split c v:=by rw[Gy,He h];rfl
theorem IF (c:UInt8) (l:L):split c l=if hasC c l then bef c l :: split c (aft c l) else [l]:=by
 by_cases h:c∈l
 ·rw[if_pos ((Gx c l).2 h)]
  conv=>lhs;rw[NJ h]
  exact JN (Wq c l)
 ·rw[if_neg (by rw[Gx];exact h)];exact He h
def Cm (ls:List L):Bool:=decide (1<=ls.length)&&(decide (ls.length<=4)&&ls.all (Cc capB))
theorem IG (ls:List L):Cm ls=true↔1<=ls.length/\ls.length<=4/\ls.all (Cc capB)=true:=by simp [Cm]
def areL (c:UInt8):Nat->L->Bool
 |0,_=>false
 |n+1,l=>Cc capB (bef c l)&&(if hasC c l then areL c n (aft c l) else true)
theorem Wt (c:UInt8) (n:Nat):∀l:L,areL c n l=(decide ((split c l).length<=n)&&(split c l).all (Cc capB)):=by
 induction n with
 |zero=>intro l;have:=EH c l;rw[areL,decide_eq_false (by omega)];rfl
 |succ n ih=>
  intro l;rw[areL,ih,IF c l]
  by_cases h:c∈l
  ·rw[(Gx c l).2 h,if_pos rfl,if_pos rfl]
   simp only[List.length_cons,List.all_cons,Nat.add_le_add_iff_right];cases Cc capB (bef c l)<;>simp
  ·rw[(Hd c l).2 h,if_neg (by simp),if_neg (by simp),Kl h]
   simp
theorem Lj (c:UInt8) (l:L):areL c 4 l=Cm (split c l):=by
 have:=EH c l;rw[Wt,Cm,decide_eq_true this];rfl
def slL (l:L):Bool:=decide (l.head? = some 47)&&Cm (split 47 l.tail)
def By (l:L):Nat:=if slL l then 2 else if Cm (split 46 l) then 1 else 0
theorem NK {l:L} (h:Cm (split 46 l)=true):l.head?≠some 47:=by
 intro e;cases l with
 |nil=>simp at e
 |cons x r=>
  simp only[List.head?_cons,Option.some.injEq] at e;subst e;have h2:Cc capB (bef 46 (47 :: r))=true:=by
   have h3:=((IG _).1 h).2.2;rw[IF] at h3
   split at h3
   ·simp only[List.all_cons,Bool.and_eq_true] at h3;exact h3.1
   ·rename_i hn
    rw[Kl ((Hd _ _).1 (by simpa using hn))]
    simpa using h3
  have e2:bef 46 (47 :: r)=47 :: bef 46 r:=by rw[bef,if_neg (by decide)]
  have h4:=((EE _ _).1 h2).2.2;rw[e2] at h4;simp [capB] at h4
theorem Yt {l:L} (h:Cm (split 46 l)=true):slL l=false:=by
 simp [slL,NK h]
theorem TK {l:L} (h:Cm (split 46 l)=true):By l=1:=by rw[By,Yt h,h];rfl
theorem OS (l:L):By l=if Cm (split 46 l) then 1 else if slL l then 2 else 0:=by
 cases h:Cm (split 46 l) with
 |true=>rw[TK h];rfl
 |false=>rw[By,h];rfl
theorem Wu (l:L):By l<=2:=by rw[By];split<;>(try split)<;>omega
theorem TM:By []=0:=by decide
theorem TO {l:L} (h:By l=1):Cm (split 46 l)=true:=by
 rw[By] at h
 split at h
 ·omega
 ·split at h
  ·assumption
  ·omega
theorem TP {l:L} (h:By l=2):slL l=true:=by
 rw[By] at h
 split at h
 ·assumption
 ·split at h<;>omega
def isL (l:L):Bool:=decide (1<=By l)
def upL (l:L):L:=if By l=1 then aft 46 l else if By l=2 then (aft 47 l.reverse).reverse else []
def chF:Nat->L->List L
 |0,_=>[]
 |n+1,l=>if l = [] then [] else l :: chF n (upL l)
def ch (l:L):List L:=chF 4 l
def pl (A:List L) (i:Nat):L:=A.getD i []
theorem EI {A:List L} {i:Nat} (h:i<A.length):pl A i=A[i]:=by simp [pl,h]
theorem JO {A:List L} {i:Nat} (h:i<A.length):pl A i∈A:=by rw[EI h];exact List.getElem_mem h
theorem mem_pl {A:List L} {x:L} (h:x∈A):∃i,i<A.length/\pl A i=x:=by
 obtain⟨i,hi,e⟩:=List.getElem_of_mem h;exact⟨i,hi,by rw[EI hi];exact e⟩
def Yu (a b:L):Bool:=decide (b∈ch (upL a))
def ix (A B:List L):Nat:=A.findIdx fun x=>decide (x∈B)
def pathL (A B:List L):List L:=A.take (ix A B)++((A.drop (ix A B)).take 1++(B.take (ix B A)).reverse)
def NL (a b:L):List L:=if By a=0\/By b=0 then [] else ((pathL (ch a) (ch b)).drop 1).dropLast
def upW (A:List L) (b:L):Nat->List L
 |0=>[]
 |k+1=>upW A b k++(if pl A (k+1) = []\/pl A (k+1)=b then [] else [pl A (k+1)])
theorem Hy {A:List L} {i:Nat} (h:i<A.length):A.take (i+1)=A.take i++[pl A i]:=by
 rw[EI h,List.take_succ_eq_append_getElem h]
open Go.RowKit Af
attribute [local go_sem] Ex List.getElem_cons_zero List.getElem_cons_succ
theorem Mr (b:UInt8) (w:World):Calls Tryz.prog 215 #[.int .u8 (b.toNat:Int)] w fun e w'=>e=.returned (.bool (capB b))/\w=w':=by
 have hb:=BC b
 by_cases h1:65<=b.toNat
 ·have g1:decide (65<=(b.toNat:Int))=true:=by simp;omega
  by_cases h2:b.toNat<=90
  ·have g2:decide ((b.toNat:Int)<=90)=true:=by simp;omega
   have E:=I (show capB b=true by simp [capB,h1,h2]);clear h1 h2;go_enter Tryz.func215,Tryz.ntmps215
   go_wp2
   go_ret;exact⟨by rw[E.o];rfl,rfl⟩
  ·have g2:decide ((b.toNat:Int)<=90)=false:=by simp;omega
   have E:=I (show capB b=false by simp [capB,h2]);clear h1 h2;go_enter Tryz.func215,Tryz.ntmps215
   go_wp2
   go_ret;exact⟨by rw[E.o];rfl,rfl⟩
 ·have g1:decide (65<=(b.toNat:Int))=false:=by simp;omega
  have E:=I (show capB b=false by simp [capB,h1]);clear h1;go_enter Tryz.func215,Tryz.ntmps215
  go_wp2
  go_ret;exact⟨by rw[E.o];rfl,rfl⟩
theorem Qu (b:UInt8) (w:World):Calls Tryz.prog 134 #[.int .u8 (b.toNat:Int)] w fun e w'=>e=.returned (.bool (Dq b))/\w=w':=by
 have hb:=BC b
 by_cases h1:97<=b.toNat
 ·have g1:decide (97<=(b.toNat:Int))=true:=by simp;omega
  by_cases h2:b.toNat<=122
  ·have g2:decide ((b.toNat:Int)<=122)=true:=by simp;omega
   have E:=I (show Dq b=true by simp [Dq,h1,h2]);clear h1 h2;go_enter Tryz.func134,Tryz.ntmps134
   go_wp2
   go_ret;exact⟨by rw[E.o];rfl,rfl⟩
  ·have g2:decide ((b.toNat:Int)<=122)=false:=by simp;omega
   have E:=I (show Dq b=false by simp [Dq,h2]);clear h1 h2;go_enter Tryz.func134,Tryz.ntmps134
   go_wp2
   go_ret;exact⟨by rw[E.o];rfl,rfl⟩
 ·have g1:decide (97<=(b.toNat:Int))=false:=by simp;omega
  have E:=I (show Dq b=false by simp [Dq,h1]);clear h1;go_enter Tryz.func134,Tryz.ntmps134
  go_wp2
  go_ret;exact⟨by rw[E.o];rfl,rfl⟩
theorem Lk (b:UInt8) (w:World):Calls Tryz.prog 89 #[.int .u8 (b.toNat:Int)] w fun e w'=>e=.returned (.bool (Cf b))/\w=w':=by
 have hb:=BC b;have c1:=Qu b w
 by_cases h0:Dq b=true
 ·have E:=I (show Cf b=true by simp [Cf,h0])
  rw[h0] at c1;clear h0;go_enter Tryz.func89,Tryz.ntmps89
  go_wp2_with (go_at_call 134;refine Aj c1 ?_;rintro w1 rfl)
  go_ret;exact⟨by rw[E.o];rfl,rfl⟩
 ·have h0:Dq b=false:=by simpa using h0
  rw[h0] at c1
  by_cases h1:48<=b.toNat
  ·have g1:decide (48<=(b.toNat:Int))=true:=by simp;omega
   by_cases h2:b.toNat<=57
   ·have g2:decide ((b.toNat:Int)<=57)=true:=by simp;omega
    have E:=I (show Cf b=true by simp [Cf,h1,h2]);clear h1 h2 h0;go_enter Tryz.func89,Tryz.ntmps89
    go_wp2_with (go_at_call 134;refine Aj c1 ?_;rintro w1 rfl)
    go_ret;exact⟨by rw[E.o];rfl,rfl⟩
   ·have g2:decide ((b.toNat:Int)<=57)=false:=by simp;omega
    have E:=I (show Cf b=false by simp [Cf,h2,h0]);clear h1 h2 h0;go_enter Tryz.func89,Tryz.ntmps89
    go_wp2_with (go_at_call 134;refine Aj c1 ?_;rintro w1 rfl)
    go_ret;exact⟨by rw[E.o];rfl,rfl⟩
  ·have g1:decide (48<=(b.toNat:Int))=false:=by simp;omega
   have E:=I (show Cf b=false by simp [Cf,h1,h0]);clear h1 h0;go_enter Tryz.func89,Tryz.ntmps89
   go_wp2_with (go_at_call 134;refine Aj c1 ?_;rintro w1 rfl)
   go_ret;exact⟨by rw[E.o];rfl,rfl⟩
theorem Ko {p:UInt8->Bool} {l:L} (h:∀i (h:i<l.length),p l[i]=true) (h1:1<=l.length) (h8:l.length<=8):Cc p l=true:=by
 rw[EE];refine⟨h1,h8,?_⟩;rw[List.all_eq_true];intro x hx;obtain⟨i,hi,rfl⟩:=List.getElem_of_mem hx;exact h i hi
theorem Gz {p:UInt8->Bool} {l:L} {i:Nat} (hi:i<l.length) (h:p l[i]=false):Cc p l=false:=by
 cases e:Cc p l with
 |false=>rfl
 |true=>
  have:=((EE p l).1 e).2.2;rw[List.all_eq_true] at this;have:=this _ (List.getElem_mem hi);rw[h] at this;cases this
theorem Hf {p:UInt8->Bool} {l:L} (h:l.length<1):Cc p l=false:=by simp [Cc];omega
theorem IH {p:UInt8->Bool} {l:L} (h:8<l.length):Cc p l=false:=by simp [Cc];omega
def Fit (p:UInt8->Bool) (l:L) (k:Nat):Prop:=∀i (h:i<l.length),i<k->p l[i]=true
theorem OU (l:L) (w:World) (hs:l.length<=1000000000):Calls Tryz.prog 88 #[.string ⟨l.toArray⟩,.func (.func 215) #[] #[]] w fun e w'=>e=.returned (.bool (Cc capB l))/\w=w':=by
 by_cases h1:l.length<1
 ·have E:=I (Hf (p:=capB) h1)
  have g1:decide ((l.length:Int)<1)=true:=by simp;omega
  clear h1;go_enter Tryz.func88,Tryz.ntmps88
  go_wp2
  go_ret;exact⟨by rw[E.o];rfl,rfl⟩
 ·have g1:decide ((l.length:Int)<1)=false:=by simp;omega
  by_cases h2:8<l.length
  ·have E:=I (IH (p:=capB) h2)
   have g2:decide (8<(l.length:Int))=true:=by simp;omega
   clear h1 h2;go_enter Tryz.func88,Tryz.ntmps88
   go_wp2
   go_ret;exact⟨by rw[E.o];rfl,rfl⟩
  ·have g2:decide (8<(l.length:Int))=false:=by simp;omega
   have HA:=I (fun h=>Ko (p:=capB) (l:=l) h (by omega) (by omega));clear h1 h2;go_enter Tryz.func88,Tryz.ntmps88
   go_wp2
   go_loop [16] (fun iv=>∃k:Nat,k<=l.length/\iv=.int .i64 (k:Int)/\Fit capB l k) (fun iv=>l.length - (intOf iv).toNat)
   case atStart=>exact⟨0,Nat.zero_le _,rfl,fun i _ h=>by omega⟩
   case round=>
    obtain⟨k,hk,rfl,hf⟩:=hrel
    by_cases hlt:k<l.length
    ·have e1:(k:Int)<(l.length:Int):=by omega
     have c1:=Mr l[k] w;have HF:=I hf;clear hf
     by_cases hp:capB l[k]=true
     ·rw[hp] at c1
      have HP:=I hp;clear hp
      go_wp2_with (go_at_call 215;refine Aj c1 ?_;rintro w1 rfl)
      go_round
      case rel=>exact⟨k+1,by omega,by go_num,fun i hi hik=>by
       by_cases q:i=k
       ·subst q;exact HP.o
       ·exact HF.o i hi (by omega)⟩
      case measure=>simp [intOf];omega
     ·have hp:capB l[k]=false:=by simpa using hp
      rw[hp] at c1;have E:=I (Gz hlt hp);clear hp
      go_wp2_with (go_at_call 215;refine Aj c1 ?_;rintro w1 rfl)
      go_ret;exact⟨by rw[E.o];rfl,rfl⟩
    ·have HF:=I hf;clear hf
     have E:=I (HA.o (fun i hi=>HF.o i hi (by omega)));have e1:¬(k:Int)<(l.length:Int):=by omega
     go_wp2
     go_ret;exact⟨by rw[E.o];rfl,rfl⟩
theorem Qv (l:L) (w:World) (hs:l.length<=1000000000):Calls Tryz.prog 88 #[.string ⟨l.toArray⟩,.func (.func 89) #[] #[]] w fun e w'=>e=.returned (.bool (Cc Cf l))/\w=w':=by
 by_cases h1:l.length<1
 ·have E:=I (Hf (p:=Cf) h1)
  have g1:decide ((l.length:Int)<1)=true:=by simp;omega
  clear h1;go_enter Tryz.func88,Tryz.ntmps88
  go_wp2
  go_ret;exact⟨by rw[E.o];rfl,rfl⟩
 ·have g1:decide ((l.length:Int)<1)=false:=by simp;omega
  by_cases h2:8<l.length
  ·have E:=I (IH (p:=Cf) h2)
   have g2:decide (8<(l.length:Int))=true:=by simp;omega
   clear h1 h2;go_enter Tryz.func88,Tryz.ntmps88
   go_wp2
   go_ret;exact⟨by rw[E.o];rfl,rfl⟩
  ·have g2:decide (8<(l.length:Int))=false:=by simp;omega
   have HA:=I (fun h=>Ko (p:=Cf) (l:=l) h (by omega) (by omega));clear h1 h2;go_enter Tryz.func88,Tryz.ntmps88
   go_wp2
   go_loop [16] (fun iv=>∃k:Nat,k<=l.length/\iv=.int .i64 (k:Int)/\Fit Cf l k) (fun iv=>l.length - (intOf iv).toNat)
   case atStart=>exact⟨0,Nat.zero_le _,rfl,fun i _ h=>by omega⟩
   case round=>
    obtain⟨k,hk,rfl,hf⟩:=hrel
    by_cases hlt:k<l.length
    ·have e1:(k:Int)<(l.length:Int):=by omega
     have c1:=Lk l[k] w;have HF:=I hf;clear hf
     by_cases hp:Cf l[k]=true
     ·rw[hp] at c1
      have HP:=I hp;clear hp
      go_wp2_with (go_at_call 89;refine Aj c1 ?_;rintro w1 rfl)
      go_round
      case rel=>exact⟨k+1,by omega,by go_num,fun i hi hik=>by
       by_cases q:i=k
       ·subst q;exact HP.o
       ·exact HF.o i hi (by omega)⟩
      case measure=>simp [intOf];omega
     ·have hp:Cf l[k]=false:=by simpa using hp
      rw[hp] at c1;have E:=I (Gz hlt hp);clear hp
      go_wp2_with (go_at_call 89;refine Aj c1 ?_;rintro w1 rfl)
      go_ret;exact⟨by rw[E.o];rfl,rfl⟩
    ·have HF:=I hf;clear hf
     have E:=I (HA.o (fun i hi=>HF.o i hi (by omega)));have e1:¬(k:Int)<(l.length:Int):=by omega
     go_wp2
     go_ret;exact⟨by rw[E.o];rfl,rfl⟩
end Nm
namespace Nm
open Go.RowKit Af
theorem Dz (l:List UInt8) (k:Nat):(ByteArray.mk l.toArray).extract 0 k=ByteArray.mk (l.take k).toArray:=by
 rw[ByteArray.extract_mk];simp
attribute [local go_sem] Ex List.getElem_cons_zero List.getElem_cons_succ Cr Cs DM Dz
theorem Wv (b:UInt8):((b.toNat:Int)).toNat.toUInt8=b:=by simp
theorem TQ {c:UInt8} {l:L} (h:c∉l):Lib.indexByte l c = -1:=by
 induction l with
 |nil=>rfl
 |cons x r ih=>
  simp only[List.mem_cons,not_or] at h;rw[Lib.indexByte,if_neg (by simpa using fun e:x=c=>h.1 e.symm),ih h.2];rfl
theorem Ww {c:UInt8} {l:L} (h:c∈l):Lib.indexByte l c=((bef c l).length:Int):=by
 induction l with
 |nil=>simp at h
 |cons x r ih=>
  rw[Lib.indexByte,bef]
  by_cases e:x=c
  ·rw[if_pos (by simpa using e),if_pos e];rfl
  ·have hm:c∈r:=(List.mem_cons.1 h).resolve_left fun g=>e g.symm
   rw[if_neg (by simpa using e),if_neg e,ih hm,if_neg (by simp)];simp
theorem TS {c:UInt8} {l:L} (h:c∈l):l.take (bef c l).length=bef c l:=by
 have e:=NJ h;have g:(bef c l++c :: aft c l).take (bef c l).length=bef c l:=by simp
 rwa [<-e] at g
theorem TT {c:UInt8} {l:L} (h:c∈l):l.drop ((bef c l).length+1)=aft c l:=by
 have e:=NJ h;have g:(bef c l++c :: aft c l).drop ((bef c l).length+1)=aft c l:=by simp
 rwa [<-e] at g
theorem Yv {c:UInt8} {l:L} (h:c∈l):(bef c l).length<l.length:=by
 have:=congrArg List.length (NJ h);simp at this;omega
theorem Wx (l:L) (b:UInt8) (w:World):(callFunc 259 #[.string ⟨l.toArray⟩,.int .u8 (b.toNat:Int)]).run Tryz.prog w=.ok (.value (.int .i64 (Lib.indexByte l b))) w:=by
 rw[run_callFunc_extern Tryz.func259 (by kernel_rfl) (by kernel_rfl) (by kernel_rfl) (e:=Extern.BytealgIndexByte.indexByte) (by kernel_rfl),Lib.run_indexByteString];simp only[Result.andThen,Wv]
theorem Kp (l:L) (b:UInt8) (w:World):Calls Tryz.prog 247 #[.string ⟨l.toArray⟩,.int .u8 (b.toNat:Int)] w fun e w'=>e=.returned (.int .i64 (Lib.indexByte l b))/\w=w':=by
 have h:=fun w=>Wx l b w
 go_enter Tryz.func247,Tryz.ntmps247
 go_wp2
 go_ret;exact⟨rfl,rfl⟩
theorem Mt (l:L):(ByteArray.mk l.toArray).size=l.length:=by simp [ByteArray.size]
theorem Qw (l:L) (b:UInt8) (w:World):Calls Tryz.prog 230 #[.string ⟨l.toArray⟩,.string ⟨#[b]⟩] w fun e w'=>e=.returned (.int .i64 (Lib.indexByte l b))/\w=w':=by
 have c1:=Kp l b w
 by_cases e:l = [b]
 ·subst e
  have E:=I (show Lib.indexByte [b] b=0 by simp [Lib.indexByte]);go_enter Tryz.func230,Tryz.ntmps230
  go_wp2_with fail
  go_ret;exact⟨by rw[E.o];rfl,rfl⟩
 ·have t1:([b]==l)=false:=by simpa using fun g:[b]=l=>e g.symm
  clear e;go_enter Tryz.func230,Tryz.ntmps230
  go_wp2_with (go_at_call 247;refine Aj c1 ?_;rintro w1 rfl)
  go_ret;exact⟨rfl,rfl⟩
def AS (w w':World):Prop:=∃n,w'=w.drewN n
theorem AS.refl (w:World):AS w w:=⟨0,rfl⟩
theorem AS.below {w w':World} (h:AS w w'):Below w.heap.size w w':=by
 obtain⟨n,rfl⟩:=h;exact below_drewN Ah n
theorem Mu (l:L) (b:UInt8) (w:World) (hs:l.length<=1000000000):Calls Tryz.prog 208 #[.string ⟨l.toArray⟩,.string ⟨#[b]⟩] w fun e w'=>
  e=.returned (.tuple #[.string ⟨(bef b l).toArray⟩,.string ⟨(aft b l).toArray⟩,.bool (hasC b l)])/\AS w w':=by
 have c1:=Qw l b w
 by_cases h:b∈l
 ·have E1:=I (show hasC b l=true from(Gx _ _).2 h)
  have E2:=I (TS h);have E3:=I (TT h);have hl:=Yv h;obtain⟨n,en⟩:=Ak ((bef b l).length);rw[Ww h,<-en] at c1;rw[<-en] at E2 E3 hl;have EN:=I en;clear en h;go_enter Tryz.func208,Tryz.ntmps208
  go_wp2_with (go_at_call 230;refine Aj c1 ?_;rintro w1 rfl)
  go_quiet (fail)
  go_wp2
  go_ret3
  rename_i q _
  exact⟨by rw[E1.o,<-E2.o,<-E3.o];rfl,⟨_,rfl⟩⟩
 ·have E1:=I (show hasC b l=false from(Hd _ _).2 h)
  have E2:=I (Kl h);have E3:=I (TJ h);rw[TQ h] at c1;clear h;go_enter Tryz.func208,Tryz.ntmps208
  go_wp2_with (go_at_call 230;refine Aj c1 ?_;rintro w1 rfl)
  go_ret3
  exact⟨by rw[E1.o,E2.o,E3.o];rfl,AS.refl _⟩
theorem Wy (l:L) (b:UInt8) (w:World) (hs:l.length<=1000000000):Calls Tryz.prog 168 #[.string ⟨l.toArray⟩,.string ⟨#[b]⟩] w fun e w'=>
  e=.returned (.tuple #[.string ⟨(bef b l).toArray⟩,.string ⟨(aft b l).toArray⟩,.bool (hasC b l)])/\AS w w':=by
 have c1:=Mu l b w hs;go_enter Tryz.func168,Tryz.ntmps168
 go_wp2_with (go_at_call 208;refine Aj c1 ?_;rintro w1 hd)
 go_ret3
 exact⟨rfl,hd⟩
def preL (p l:L):Bool:=p.isPrefixOf l
theorem NM (p l:L):(l.take p.length==p)=preL p l:=by
 rw[preL,Bool.eq_iff_iff];simp only[beq_iff_eq,List.isPrefixOf_iff_prefix];rw[List.prefix_iff_eq_take];exact eq_comm
theorem Qx {p l:L} (h:preL p l=true):p.length<=l.length:=(List.isPrefixOf_iff_prefix.1 h).length_le
theorem Wz {p l:L}:preL p l=true↔l=p++l.drop p.length:=by
 constructor
 ·intro h
  obtain⟨t,e⟩:=List.isPrefixOf_iff_prefix.1 h;rw[<-e];simp
 ·intro h
  rw[preL,List.isPrefixOf_iff_prefix];exact⟨_,h.symm⟩
theorem Kq (l p:L) (w:World) (hs:l.length<=1000000000) (hp:p.length<=1000000000):Calls Tryz.prog 216 #[.string ⟨l.toArray⟩,.string ⟨p.toArray⟩] w fun e w'=>
  e=.returned (.bool (preL p l))/\w=w':=by
 by_cases h:p.length<=l.length
 ·have e1:(p.length:Int)<=(l.length:Int):=by omega
  have E:=I (NM p l);clear h;go_enter Tryz.func216,Tryz.ntmps216
  go_wp2
  go_ret;exact⟨by rw[<-E.o];rfl,rfl⟩
 ·have E:=I (show preL p l=false by
   cases q:preL p l with
   |false=>rfl
   |true=>exact absurd (Qx q) h)
  have e1:¬(p.length:Int)<=(l.length:Int):=by omega
  clear h;go_enter Tryz.func216,Tryz.ntmps216
  go_wp2
  go_ret;exact⟨by rw[E.o];rfl,rfl⟩
def cpL (p l:L):L:=if preL p l then l.drop p.length else l
theorem Hg (l p:L) (w:World) (hs:l.length<=1000000000) (hp:p.length<=1000000000):Calls Tryz.prog 184 #[.string ⟨l.toArray⟩,.string ⟨p.toArray⟩] w fun e w'=>
  e=.returned (.tuple #[.string ⟨(cpL p l).toArray⟩,.bool (preL p l)])/\w=w':=by
 have c1:=Kq l p w hs hp
 by_cases h:preL p l=true
 ·have e1:(p.length:Int)<=(l.length:Int):=by have:=Qx h;omega
  have E:=I (show cpL p l=l.drop p.length by rw[cpL,if_pos h]);have E2:=I h;rw[h] at c1;clear h;go_enter Tryz.func184,Tryz.ntmps184
  go_wp2_with (go_at_call 216;refine Aj c1 ?_;rintro w1 rfl)
  go_ret2
  exact⟨by rw[E.o,E2.o];rfl,rfl⟩
 ·have h:preL p l=false:=by simpa using h
  have E:=I (show cpL p l=l by rw[cpL,if_neg (by simp [h])]);have E2:=I h;rw[h] at c1;clear h;go_enter Tryz.func184,Tryz.ntmps184
  go_wp2_with (go_at_call 216;refine Aj c1 ?_;rintro w1 rfl)
  go_ret2
  exact⟨by rw[E.o,E2.o];rfl,rfl⟩
theorem GA (l p:L) (w:World) (hs:l.length<=1000000000) (hp:p.length<=1000000000):Calls Tryz.prog 133 #[.string ⟨l.toArray⟩,.string ⟨p.toArray⟩] w fun e w'=>
  e=.returned (.tuple #[.string ⟨(cpL p l).toArray⟩,.bool (preL p l)])/\w=w':=by
 have c1:=Hg l p w hs hp;go_enter Tryz.func133,Tryz.ntmps133
 go_wp2_with (go_at_call 184;refine Aj c1 ?_;rintro w1 rfl)
 go_ret2
 exact⟨rfl,rfl⟩
theorem Qy:(Tryz.prog.info? 5).map (fun i=>(i.zero,i.size,i.bytes))=some (some (.int .u8 0),1,1):=by kernel_rfl
theorem TU (n:Nat) (hn:n<=1000000000) (w:World):(Instr.makeSlice 26 (.int .i64 (n:Int)) (.int .i64 (n:Int))).run Tryz.prog w=.ok (.slice (some ⟨w.heap.size,0,none⟩) n n) (w.alloc (.cells (CQ n) 5)):=by
 obtain⟨i0,hi,hz,hs,hb⟩:=info_parts Qy;have h:=run_make (P:=Tryz.prog) w 26 5 i0 _ Tryz.underlying26 hi hz .i64 .i64 (n:Int) (n:Int) (by omega) (by omega) (by rw[hb];omega) (by omega);have e:madeCells (Value.int .u8 0).cells (((n:Int)).toNat*i0.size)=CQ n:=by
  rw[hs,Nat.mul_one,Int.toNat_natCast];refine Array.toList_inj.1 ?_;show(madeCells #[Value.int .u8 0] n).toList=_;rw[toList_madeCells_one];simp [CQ,bv]
 rw[e] at h
 simpa using h
theorem TV (s:L) (w:World):(Builtin.copy_ #[26,9] 3 #[.slice (some ⟨w.heap.size,0,none⟩) s.length s.length,.string ⟨s.toArray⟩]).run Tryz.prog (w.alloc (.cells (CQ s.length) 5))=.ok (goInt s.length) (w.alloc (.cells (bvs s).toArray 5)):=by
 obtain⟨i0,hi,_,hs,_⟩:=info_parts Qy;have hk:=Blk.new w 5 (CQ s.length);have h:=Lib.run_copy_row_string (P:=Tryz.prog) _ 26 9 3 5 w.heap.size 0 s.length s.length ⟨s.toArray⟩ _ 5 Tryz.underlying26 (by rw[hi];simp [hs]) hk (by rw[Mt];exact Nat.le_refl _) (by rw[Mt,Dj];omega);rw[Mt,World.setRow_alloc_new] at h;have e:(CQ s.length).toList.take 0++Lib.byteCells s++(CQ s.length).toList.drop (0+s.length)=bvs s:=by
  rw[List.drop_of_length_le (by rw[Array.length_toList,Dj];omega)];simp [Lib.byteCells,bvs,bv]
 rw[e] at h;exact h
theorem TW (s:L) (h0:s≠[]) (hs:s.length<=1000000000) (w:World):(Builtin.unsafeString_ #[246,3] 9 #[.pointer (some ⟨w.heap.size,0,none⟩),.int .i64 (s.length:Int)]).run Tryz.prog (w.alloc (.cells (bvs s).toArray 5))=.ok (.string ⟨s.toArray⟩) ((w.alloc (.cells (bvs s).toArray 5)).freeze ⟨w.heap.size,0,none⟩ s.length):=by
 obtain⟨i0,hi,_,hz,_⟩:=info_parts Qy;have hk:=Blk.new w 5 (bvs s).toArray;refine Lib.run_unsafeString_row (P:=Tryz.prog) _ _ _ _ 5 Tryz.underlying246 (by simp [Program.cellsOf,hi,hz]) w.heap.size s.length ?_ s h0 Ag (by omega) fun j x hx=>?_
 ·unfold World.shape?
  rw[show(w.alloc (.cells (bvs s).toArray 5)).heap[w.heap.size]? = _ from hk];simp [Ao]
 ·obtain⟨hj,e⟩:=List.getElem?_eq_some_iff.1 hx
  rw[addr_add,Nat.zero_add,hk.cell,List.getElem?_toArray,Dy hj,e];rfl
theorem Kr (s:L) (w:World) (hlim:s.length<=1000000000):Calls Tryz.prog 96 #[.string ⟨s.toArray⟩] w fun e w'=>e=.returned (.string ⟨s.toArray⟩)/\Below w.heap.size w w':=by
 by_cases h0:s = []
 ·subst h0
  go_enter Tryz.func96,Tryz.ntmps96
  go_wp2
  go_ret;exact⟨rfl,Below.refl _ _⟩
 ·have hmk:=TU s.length hlim w
  have hcp:=TV s w;have hus:=TW s h0 hlim w;have hl:1<=s.length:=by
   cases s with
   |nil=>exact absurd rfl h0
   |cons a r=>simp
  have t0:((s.length:Int)==0)=false:=by simp;omega
  have HB:=I (Lib.below_freeze ((Below.refl w.heap.size w).alloc Ag (.cells (bvs s).toArray 5)) (p:=⟨w.heap.size,0,none⟩) Ag s.length);clear h0;go_enter Tryz.func96,Tryz.ntmps96
  go_wp2
  go_ret;exact⟨rfl,HB.o⟩
theorem BO (s:L) (w:World) (hlim:s.length<=1000000000):Calls Tryz.prog 49 #[.string ⟨s.toArray⟩] w fun e w'=>e=.returned (.string ⟨s.toArray⟩)/\Below w.heap.size w w':=by
 have c1:=Kr s w hlim;go_enter Tryz.func49,Tryz.ntmps49
 go_wp2_with (go_at_call 96;refine Aj c1 ?_;rintro w' hb)
 go_ret;exact⟨rfl,hb⟩
end Nm
namespace Nm
open Go.RowKit Af
attribute [local go_sem] Ex List.getElem_cons_zero List.getElem_cons_succ Cr Cs DM Dz
theorem AS.trans {a b c:World} (h:AS a b) (k:AS b c):AS a c:=by
 obtain⟨n,rfl⟩:=h;obtain⟨m,rfl⟩:=k;exact⟨n+m,by simp [World.drewN_drewN]⟩
theorem GB (l:L) (b:UInt8) (w:World) (hs:l.length<=1000000000):Calls Tryz.prog 183 #[.string ⟨l.toArray⟩,.string ⟨#[b]⟩] w fun e w'=>e=.returned (.bool (areL b 4 l))/\AS w w':=by
 have HS:=I hs;clear hs;go_enter Tryz.func183,Tryz.ntmps183
 go_wp2
 go_loopw [0,8] (fun sv iv wr=>∃(k:Nat) (s:L),k<=4/\sv=.string ⟨s.toArray⟩/\iv=.int .i64 (k:Int)/\areL b (4 - k) s=areL b 4 l/\s.length<=l.length/\AS w wr) (fun _ iv _=>4 - (intOf iv).toNat)
 case atStart=>exact⟨0,l,by omega,rfl,rfl,rfl,Nat.le_refl _,AS.refl _⟩
 case round=>
  obtain⟨k,s,hk,rfl,rfl,ha,hl,hd⟩:=hrel;have HL:=I hl;clear hl;have HD:=I hd;clear hd
  by_cases hlt:k<4
  ·have e1:(k:Int)<4:=by omega
   have hsl:s.length<=1000000000:=Nat.le_trans HL.o HS.o;have c1:=Wy s b wr hsl;have c2:=fun w1=>OU (bef b s) w1 (by have:=Ws b s;omega)
   have C2:=I c2;clear c2;have ea:areL b (4 - k) s=(Cc capB (bef b s)&&(if hasC b s then areL b (4 - (k+1)) (aft b s) else true)):=by
    rw[show 4 - k=(4 - (k+1))+1 by omega];rfl
   rw[ea] at ha;have hal:(aft b s).length<=l.length:=by have:=Wr b s;have:=HL.o;omega
   have HAL:=I hal;clear hal ea hsl;cases hw:Cc capB (bef b s) with
   |false=>
    rw[hw,Bool.false_and] at ha;have HA:=I ha;clear ha;have HW:=I hw;clear hw
    go_wp2_with (first
     |(go_at_call 168;refine Aj c1 ?_;rintro w1 hd;clear c1;have c2:=C2.o w1;rw[HW.o] at c2;have H1:=I hd;clear hd)
     |(go_at_call 88;refine Aj c2 ?_;rintro w2 rfl;clear c2))
    go_ret;exact⟨by rw[<-HA.o];rfl,HD.o.trans H1.o⟩
   |true=>
    rw[hw,Bool.true_and] at ha;have HW:=I hw;clear hw;cases hc:hasC b s with
    |false=>
     rw[hc,if_neg (by simp)] at ha;rw[hc] at c1;have HA:=I ha;clear ha;have HC:=I hc;clear hc
     go_wp2_with (first
      |(go_at_call 168;refine Aj c1 ?_;rintro w1 hd;clear c1;have c2:=C2.o w1;rw[HW.o] at c2;have H1:=I hd;clear hd)
      |(go_at_call 88;refine Aj c2 ?_;rintro w2 rfl;clear c2))
     go_ret;exact⟨by rw[<-HA.o];rfl,HD.o.trans H1.o⟩
    |true=>
     rw[hc,if_pos rfl] at ha;rw[hc] at c1;have HA:=I ha;clear ha;have HC:=I hc;clear hc
     go_wp2_with (first
      |(go_at_call 168;refine Aj c1 ?_;rintro w1 hd;clear c1;have c2:=C2.o w1;rw[HW.o] at c2;have H1:=I hd;clear hd)
      |(go_at_call 88;refine Aj c2 ?_;rintro w2 rfl;clear c2))
     go_roundw
     case rel=>exact⟨k+1,aft b s,by omega,rfl,by go_num,HA.o,HAL.o,HD.o.trans H1.o⟩
     case measure=>simp [intOf];omega
  ·have e1:¬(k:Int)<4:=by omega
   obtain rfl:k=4:=by omega
   have HA:=I (show areL b 4 l=false by rw[<-ha];rfl);clear ha
   go_wp2
   go_ret;exact⟨by rw[HA.o];rfl,HD.o⟩
theorem Yw (l:L):slL l=(preL [47] l&&Cm (split 47 (cpL [47] l))):=by
 cases l with
 |nil=>rfl
 |cons x r=>
  rw[slL,cpL]
  by_cases h:x=47
  ·subst h
   have e:preL [47] (47 :: r)=true:=by simp [preL]
   rw[e];simp
  ·have e:preL [47] (x :: r)=false:=by
    cases q:preL [47] (x :: r) with
    |false=>rfl
    |true=>have:=congrArg List.head? (Wz.1 q);simp at this;exact absurd this h
   rw[e];simp [h]
theorem VE (p l:L):(cpL p l).length<=l.length:=by rw[cpL];split<;>simp
theorem TX (l:L) (w:World) (hs:l.length<=1000000000):Calls Tryz.prog 132 #[.string ⟨l.toArray⟩] w fun e w'=>e=.returned (.int .i64 (By l:Int))/\AS w w':=by
 have c1:=GB l 46 w hs;rw[Lj] at c1;have C2:=I (fun w1=>GA l [47] w1 hs (by decide));have c3:=fun w1=>GB (cpL [47] l) 47 w1 (by have:=VE [47] l;omega)
 rw[Lj] at c3;have C3:=I c3;clear c3 hs;have ek:=OS l;rw[Yw] at ek;cases h1:Cm (split 46 l) with
 |true=>
  rw[h1] at c1;have E:=I (show By l=1 by rw[ek,h1];rfl);clear ek h1;go_enter Tryz.func132,Tryz.ntmps132
  go_wp2_with (go_at_call 183;refine Aj c1 ?_;rintro w1 hd;clear c1;have H1:=I hd;clear hd)
  go_ret;exact⟨by rw[E.o];rfl,H1.o⟩
 |false=>
  rw[h1] at c1;rw[h1,if_neg (by simp)] at ek;cases h2:preL [47] l with
  |false=>
   have E:=I (show By l=0 by rw[ek,h2];rfl);have H2:=I h2;clear ek h1 h2;go_enter Tryz.func132,Tryz.ntmps132
   go_wp2_with (first
    |(go_at_call 183;refine Aj c1 ?_;rintro w1 hd;clear c1;have H1:=I hd;clear hd;have c2:=C2.o w1;rw[H2.o] at c2)
    |(go_at_call 133;refine Aj c2 ?_;rintro w2 rfl;clear c2))
   go_ret;exact⟨by rw[E.o];rfl,H1.o⟩
  |true=>
   rw[h2,Bool.true_and] at ek;have H2:=I h2;cases h3:Cm (split 47 (cpL [47] l)) with
   |false=>
    have E:=I (show By l=0 by rw[ek,h3];rfl);have H3:=I h3;clear ek h1 h2 h3;go_enter Tryz.func132,Tryz.ntmps132
    go_wp2_with (first
     |(go_at_call 183;refine Aj c1 ?_;rintro w1 hd;clear c1;have H1:=I hd;clear hd;have c2:=C2.o w1;rw[H2.o] at c2)
     |(go_at_call 133;refine Aj c2 ?_;rintro w2 rfl;clear c2;have c4:=C3.o w1;rw[H3.o] at c4)
     |(go_at_call 183;refine Aj c4 ?_;rintro w3 hd;clear c4;have H4:=I hd;clear hd))
    go_ret;exact⟨by rw[E.o];rfl,H1.o.trans H4.o⟩
   |true=>
    have E:=I (show By l=2 by rw[ek,h3];rfl);have H3:=I h3;clear ek h1 h2 h3;go_enter Tryz.func132,Tryz.ntmps132
    go_wp2_with (first
     |(go_at_call 183;refine Aj c1 ?_;rintro w1 hd;clear c1;have H1:=I hd;clear hd;have c2:=C2.o w1;rw[H2.o] at c2)
     |(go_at_call 133;refine Aj c2 ?_;rintro w2 rfl;clear c2;have c4:=C3.o w1;rw[H3.o] at c4)
     |(go_at_call 183;refine Aj c4 ?_;rintro w3 hd;clear c4;have H4:=I hd;clear hd))
    go_ret;exact⟨by rw[E.o];rfl,H1.o.trans H4.o⟩
theorem Qz (l:L) (w:World) (hs:l.length<=1000000000):Calls Tryz.prog 86 #[.string ⟨l.toArray⟩] w fun e w'=>e=.returned (.bool (isL l))/\AS w w':=by
 have c1:=TX l w hs
 by_cases h:1<=By l
 ·have E:=I (show isL l=true by simp [isL,h])
  have t:((By l:Int) != 0)=true:=by simp;omega
  clear h;go_enter Tryz.func86,Tryz.ntmps86
  go_wp2_with (go_at_call 132;refine Aj c1 ?_;rintro w1 hd;clear c1;have H1:=I hd;clear hd)
  go_ret;exact⟨by rw[E.o];rfl,H1.o⟩
 ·have E:=I (show isL l=false by simp [isL];omega)
  have e0:By l=0:=by omega
  rw[e0] at c1;clear h e0;go_enter Tryz.func86,Tryz.ntmps86
  go_wp2_with (go_at_call 132;refine Aj c1 ?_;rintro w1 hd;clear c1;have H1:=I hd;clear hd)
  go_ret;exact⟨by rw[E.o];rfl,H1.o⟩
end Nm
namespace Nm
open Go.RowKit Af
theorem Ll (a b:L):ByteArray.mk a.toArray++ByteArray.mk b.toArray=ByteArray.mk (a++b).toArray:=by
 apply ByteArray.ext;simp
attribute [local go_sem] Ex List.getElem_cons_zero List.getElem_cons_succ Cr Cs DM Dz
def krb:L:=[107,114,98,116,103,116,47]
def tgL (n:L):Bool:=preL krb n&&isL (cpL krb n)
def tgR (n:L):L:=if tgL n then n.drop 7 else []
def De (r n:L):Bool:=isL r&&(tgL n||Cc Cf n)
theorem JP (l:L) (w:World) (hs:l.length<=1000000000):Calls Tryz.prog 63 #[.string ⟨l.toArray⟩] w fun e w'=>e=.returned (.string ⟨(krb++l).toArray⟩)/\w=w':=by
 have E:=I (Ll krb l);go_enter Tryz.func63,Tryz.ntmps63
 go_wp2
 go_ret;exact⟨by rw[<-E.o];rfl,rfl⟩
theorem Mv (l:L) (w:World) (hs:l.length<=1000000000):Calls Tryz.prog 23 #[.string ⟨l.toArray⟩] w fun e w'=>e=.returned (.string ⟨(krb++l).toArray⟩)/\w=w':=by
 have E:=I (Ll krb l);go_enter Tryz.func23,Tryz.ntmps23
 go_wp2
 go_ret;exact⟨by rw[<-E.o];rfl,rfl⟩
theorem OV (n:L) (w:World) (hs:n.length<=1000000000):Calls Tryz.prog 87 #[.string ⟨n.toArray⟩] w fun e w'=>e=.returned (.tuple #[.string ⟨(tgR n).toArray⟩,.bool (tgL n)])/\Below w.heap.size w w':=by
 have c1:=GA n krb w hs (by decide);have hcl:=VE krb n;have c2:=Qz (cpL krb n) w (by omega);have C3:=I (fun w1=>BO (cpL krb n) w1 (by omega));have HB0:=I (Below.refl w.heap.size w);cases h1:preL krb n with
 |false=>
  have E1:=I (show tgL n=false by rw[tgL,h1];rfl);have E2:=I (show tgR n = [] by rw[tgR,E1.o];rfl);rw[h1] at c1;clear h1 hs hcl c2;go_enter Tryz.func87,Tryz.ntmps87
  go_wp2_with (go_at_call 133;refine Aj c1 ?_;rintro w1 rfl;clear c1)
  go_ret2
  exact⟨by rw[E1.o,E2.o];rfl,HB0.o⟩
 |true=>
  cases h2:isL (cpL krb n) with
  |false=>
   have E1:=I (show tgL n=false by rw[tgL,h1,h2];rfl);have E2:=I (show tgR n = [] by rw[tgR,E1.o];rfl);rw[h1] at c1;rw[h2] at c2;clear h1 h2 hs hcl;go_enter Tryz.func87,Tryz.ntmps87
   go_wp2_with (first
    |(go_at_call 133;refine Aj c1 ?_;rintro w1 rfl;clear c1)
    |(go_at_call 86;refine Aj c2 ?_;rintro w2 hd;clear c2;have H2:=I hd.below;clear hd))
   go_ret2
   exact⟨by rw[E1.o,E2.o];rfl,H2.o⟩
  |true=>
   have E1:=I (show tgL n=true by rw[tgL,h1,h2];rfl);have E2:=I (show tgR n=cpL krb n by rw[tgR,E1.o,cpL,h1];rfl);rw[h1] at c1;rw[h2] at c2;clear h1 h2 hs hcl;go_enter Tryz.func87,Tryz.ntmps87
   go_wp2_with (first
    |(go_at_call 133;refine Aj c1 ?_;rintro w1 rfl;clear c1)
    |(go_at_call 86;refine Aj c2 ?_;rintro w2 hd;clear c2;have H2:=I hd.below;clear hd;have c3:=C3.o w2)
    |(go_at_call 49;refine Aj c3 ?_;rintro w3 hb;clear c3;have H3:=H2.t hb;clear hb))
   go_ret2
   exact⟨by rw[E1.o,E2.o];rfl,H3.o⟩
theorem AX (r n:L) (w:World) (hs:r.length<=1000000000) (hs2:n.length<=1000000000):Calls Tryz.prog 42 #[.agg #[.string ⟨r.toArray⟩,.string ⟨n.toArray⟩]] w fun e w'=>e=.returned (.bool (De r n))/\Below w.heap.size w w':=by
 have c1:=Qz r (w.alloc (.cells #[.string ⟨r.toArray⟩,.string ⟨n.toArray⟩] 25)) hs;have hk:=Blk.new w 25 #[.string ⟨r.toArray⟩,.string ⟨n.toArray⟩];have hb0:=(Below.refl w.heap.size w).alloc Ag (.cells #[.string ⟨r.toArray⟩,.string ⟨n.toArray⟩] 25);have hsz:w.heap.size<(w.alloc (.cells #[.string ⟨r.toArray⟩,.string ⟨n.toArray⟩] 25)).heap.size:=by simp
 obtain⟨N,eN⟩:=Ak (w.heap.size);have C2:=I (fun w1=>OV n w1 hs2);have C3:=I (fun w1=>Qv n w1 hs2);have E1:=I (show De r n=(isL r&&(tgL n||Cc Cf n)) from rfl);rw[<-eN] at hk hb0 hsz⊢;have EN:=I eN;clear eN;have HK:=I hk;clear hk;have HB0:=I hb0;clear hb0;have HSZ:=I hsz;clear hsz hs hs2;cases h1:isL r with
 |false=>
  rw[h1] at c1;have E:=I (show De r n=false by rw[E1.o,h1];rfl);clear h1;go_enter Tryz.func42,Tryz.ntmps42
  go_wp2_with (go_at_call 86;refine Aj c1 ?_;rintro w1 hd;clear c1;have H1:=I (HB0.o.trans (hd.below.mono (Nat.le_of_lt HSZ.o)));clear hd)
  go_ret;exact⟨by rw[E.o];rfl,H1.o⟩
 |true=>
  rw[h1] at c1;have C2':=I (fun w1=>C2.o w1);cases h2:tgL n with
  |true=>
   have E:=I (show De r n=true by rw[E1.o,h1,h2];rfl);have HT:=I h2;clear h1 h2;go_enter Tryz.func42,Tryz.ntmps42
   go_wp2_with (first
    |(go_at_call 86;refine Aj c1 ?_;rintro w1 hd;clear c1;have H1:=I (HB0.o.trans (hd.below.mono (Nat.le_of_lt HSZ.o)));have hk1:=(HK.o.below hd.below).cell 1;have hs1:N<w1.heap.size:=(by have:=hd.below.size;have:=HSZ.o;omega);have HS1:=I hs1;rw[EN.o] at hk1;clear hd hs1;have c2:=C2.o w1;rw[HT.o] at c2)
    |(go_at_call 87;refine Aj c2 ?_;rintro w2 hb;clear c2;have H2:=I (H1.o.trans (hb.mono (Nat.le_of_lt HS1.o)));clear hb))
   go_ret;exact⟨by rw[E.o];rfl,H2.o⟩
  |false=>
   have E:=I (show De r n=Cc Cf n by rw[E1.o,h1,h2];rfl);have HT:=I h2;clear h1 h2;go_enter Tryz.func42,Tryz.ntmps42
   go_wp2_with (first
    |(go_at_call 86;refine Aj c1 ?_;rintro w1 hd;clear c1;have H1:=I (HB0.o.trans (hd.below.mono (Nat.le_of_lt HSZ.o)));have hkk:=HK.o.below hd.below;have HKK:=I hkk;have hk1:=hkk.cell 1;have hs1:N<w1.heap.size:=(by have:=hd.below.size;have:=HSZ.o;omega);have HS1:=I hs1;rw[EN.o] at hk1;clear hd hs1 hkk;have c2:=C2.o w1;rw[HT.o] at c2)
    |(go_at_call 87;refine Aj c2 ?_;rintro w2 hb;clear c2 hk1;have H2:=I (H1.o.trans (hb.mono (Nat.le_of_lt HS1.o)));have hk2:=(HKK.o.below hb).cell 1;rw[EN.o] at hk2;clear hb;have c3:=C3.o w2)
    |(go_at_call 88;refine Aj c3 ?_;rintro w3 rfl;clear c3))
   go_ret;exact⟨by rw[E.o];rfl,H2.o⟩
end Nm
namespace Nm
open Go.RowKit Af
def st (l:L):Value:=.string ⟨l.toArray⟩
def strs (ls:List L):List Value:=ls.map st
theorem II (ls:List L):(strs ls).length=ls.length:=by simp [strs]
theorem Mw (ls ms:List L):strs (ls++ms)=strs ls++strs ms:=by simp [strs]
theorem TY (ls:List L):∀u∈strs ls,u.oneCell'=true:=by
 intro u hu;obtain⟨b,_,rfl⟩:=List.mem_map.1 hu
 rfl
theorem WA {ls:List L} {i:Nat} (h:i<ls.length):(strs ls)[i]? = some (st (pl ls i)):=by
 rw[strs,List.getElem?_map,List.getElem?_eq_getElem h,EI h];rfl
theorem Ks:(Tryz.prog.info? 9).map (fun i=>(i.zero,i.size,i.bytes))=some (some (.string ⟨#[]⟩),1,16):=by kernel_rfl
def Own (w:World) (base:Nat) (v:Value) (ls:List L):Prop:=w.ownsRow base 9 1 v ls.length (strs ls)
theorem Own.nil (w:World) (base:Nat):Own w base (.slice none 0 0) []:=World.ownsRow_nil w base _ 1
theorem Own.below {w w':World} {base:Nat} {v:Value} {ls:List L} (h:Own w base v ls) (hb:Below w.heap.size w w'):Own w' base v ls:=FI h hb
theorem Own.slice {w:World} {base:Nat} {v:Value} {ls:List L} (h:Own w base v ls):∃A c,v=.slice A ls.length c/\Rd w w.heap.size A (strs ls):=by
 have h':=h;rcases h.2 with⟨h1,h2⟩ | ⟨g,cap,cur,h1,_⟩
 ·have e:ls = []:=List.eq_nil_of_length_eq_zero h2
  subst e;exact⟨none,0,h1,.inl rfl⟩
 ·subst h1
  exact⟨_,cap,rfl,Rd.of_own (n:=ls.length) (cap:=cap) h'⟩
theorem Own.lt {w:World} {base:Nat} {v:Value} {ls:List L} (h:Own w base v ls):∀k,v.ownBlock=some k->base<=k/\k<w.heap.size:=World.ownsRow.lt h
theorem EJ {w:World} {B:Nat} {A:Option Addr} {ls:List L} (h:Rd w B A (strs ls)) {i:Nat} (hi:i<ls.length):∃b o,A=some ⟨b,o,none⟩/\b<B/\w.cell? ⟨b,o+i,none⟩=some (.string ⟨(pl ls i).toArray⟩):=
 h.at_ (WA hi)
section
variable {w:World} {ops:Array Oper} {rest:List Oper} {o:Oper} {a:Act} {Q:Exit->Act->World->Prop}
theorem Yx (hgd:o.guard=none) (s x:Operand) (ho:o.op=.call {callee:=.builtin .append,args:=#[s,x],argTypes:=#[70,70]})
  (base:Nat) (v:Value) (ls:List L) (hs:a.eval s=v) (hown:Own w base v ls) (B:Nat) (A:Option Addr) (c:Nat) (ms:List L) (hx:a.eval x=.slice A ms.length c) (hr:Rd w B A (strs ms))
  (hl:ls.length+ms.length<=8000000000000) (hb:base<=w.heap.size)
  (h:∀v' w',Own w' base v' (ls++ms)->Below base w w'->wpList Tryz.prog ops Q rest (a.put o.dst v') w'):wpList Tryz.prog ops Q (o :: rest) a w:=by
 obtain⟨i0,hi0,hz0,hs0,hb0⟩:=info_parts Ks;refine Az w hgd s x 70 ho base 9 i0 _ 16 Tryz.underlying70 hi0 hz0 hs0 hb0 rfl v ls.length (strs ls) hs hown B A ms.length c (strs ms) hx (II _).symm hr (TY _) (by unfold maxLen;omega) (by omega) hb ?_;intro v' w' h1 h2 _;refine h v' w' (by rw[Own,List.length_append,Mw];exact h1) ?_;exact Ah.grown h2 hb (fun k hk=>(hown.lt k hk).1)
theorem Mx (hgd:o.guard=none) (s x:Operand) (ho:o.op=.call {callee:=.builtin .append,args:=#[s,x],argTypes:=#[70,70]})
  (base:Nat) (v:Value) (ls:List L) (hs:a.eval s=v) (hown:Own w base v ls) (r:L) (hx:a.eval x=.slice (some ⟨w.heap.size,0,none⟩) 1 1)
  (hl:ls.length+1<=8000000000000) (hb:base<=w.heap.size)
  (h:∀v' w',Own w' base v' (ls++[r])->Below base w w'->wpList Tryz.prog ops Q rest (a.put o.dst v') w'):wpList Tryz.prog ops Q (o :: rest) a (w.alloc (.cells #[.string ⟨r.toArray⟩] 9)):=by
 refine Yx hgd s x ho base v ls hs (hown.below (Ah.alloc Ag _)) (w.heap.size+1) _ 1 [r] hx ?_ hl (by simp;omega) ?_
 ·refine .inr ⟨w.heap.size,0,rfl,by omega,fun i u hu=>?_⟩
  cases i with
  |zero=>
   simp only[strs,List.map_cons,List.map_nil,List.getElem?_cons_zero,Option.some.injEq] at hu;subst hu;exact(Blk.new w 9 _).cell 0
  |succ i=>simp [strs] at hu
 ·intro v' w' h1 h2
  exact h v' w' h1 ((Ah.alloc hb _).trans h2)
end
theorem QA (l:List UInt8) (f k:Nat):(ByteArray.mk l.toArray).extract f k=ByteArray.mk ((l.drop f).take (k - f)).toArray:=by
 rw[ByteArray.extract_mk]
attribute [local go_sem] Ex List.getElem_cons_zero List.getElem_cons_succ QA
def piece (l:L) (f k:Nat):L:=(l.drop f).take (k - f)
theorem Lm {l:L} {f k:Nat} (hf:f<=k) (hk:k<l.length):l.drop f=piece l f k++l[k] :: l.drop (k+1):=by
 have h1:l.drop f=(l.drop f).take (k - f)++(l.drop f).drop (k - f):=(List.take_append_drop _ _).symm;rw[List.drop_drop,show f+(k - f)=k by omega,List.drop_eq_getElem_cons hk] at h1;exact h1
theorem OW {l:L} {f k:Nat} (hf:f<=k) (hk:k<l.length):piece l f (k+1)=piece l f k++[l[k]]:=by
 have h:=Lm hf hk;have hl:(piece l f k).length=k - f:=by rw[piece,List.length_take,List.length_drop];omega
 rw[piece,h,show k+1 - f=(piece l f k).length+1 by omega,List.take_append,List.take_of_length_le (by omega),Nat.add_sub_cancel_left]
 rfl
theorem Ln {l:L} {f:Nat}:piece l f l.length=l.drop f:=by rw[piece,List.take_of_length_le (by simp)]
theorem TZ (c:UInt8) (l:L):(split c l).length<=l.length+1:=by
 induction l with
 |nil=>simp [split]
 |cons x r ih=>
  rw[split];split
  ·simp;omega
  ·split<;>simp_all<;>omega
theorem GC (l:L) (c:UInt8) (w:World) (hs:l.length<=1000000000):Calls Tryz.prog 186 #[.string ⟨l.toArray⟩,.int .u8 (c.toNat:Int)] w fun e w'=>∃v,e=.returned v/\Own w' w.heap.size v (split c l)/\Below w.heap.size w w':=by
 obtain⟨N,eN⟩:=Ak (w.heap.size);rw[<-eN];have HB0:=I (show Below N w w by exact Below.refl _ _);have EN:=I eN;clear eN;have HNE0:=I (show ∀w1:World,Below N w w1->N<=w1.heap.size from fun w1 h=>by have:=h.size;have:=EN.o;omega);go_enter Tryz.func186,Tryz.ntmps186
 go_wp2
 go_loopw [5,6,7] (fun vv fv iv wr=>∃(f k:Nat) (ls:List L),f<=k/\k<=l.length/\fv=.int .i64 (f:Int)/\iv=.int .i64 (k:Int)/\Own wr N vv ls/\c∉piece l f k/\ls++split c (l.drop f)=split c l/\ls.length<=f/\Below N w wr) (fun _ _ iv _=>l.length - (intOf iv).toNat)
 case atStart=>exact⟨0,0,[],Nat.le_refl _,Nat.zero_le _,rfl,rfl,Own.nil _ _,by simp [piece],by simp,by simp,HB0.o⟩
 case round=>
  obtain⟨f,k,ls,hf,hk,rfl,rfl,ho,hc,hsp,hll,hb⟩:=hrel;have HO:=I ho;clear ho;have HB:=I hb;clear hb;have HC:=I hc;clear hc;have HSP:=I hsp;clear hsp
  by_cases hlt:k<l.length
  ·have e1:(k:Int)<(l.length:Int):=by omega
   have hpc:=Lm hf hlt;have hps:=OW hf hlt
   by_cases hx:l[k]=c
   ·have t1:((l[k].toNat:Int)==(c.toNat:Int))=true:=by simp [hx]
    have hn:(ls++[piece l f k])++split c (l.drop (k+1))=split c l:=by
     rw[<-HSP.o,hpc,hx,JN HC.o];simp
    have HN:=I hn;clear hn hpc hps hx;have e2:(f:Int)<=(k:Int):=by omega
    go_wp2_with (at_builtin;refine Mx rfl (.tmp 19) (.tmp 24) rfl N _ ls rfl HO.o (piece l f k) rfl (by omega) (HNE0.o _ HB.o) ?_;intro v' w3 ho3 hb3;have H3:=I (HB.o.trans hb3);have HO3:=I ho3;clear ho3 hb3)
    go_roundw
    case rel=>exact⟨k+1,k+1,_,Nat.le_refl _,by omega,by go_num,by go_num,HO3.o,by simp [piece],HN.o,by simp;omega,H3.o⟩
    case measure=>simp [intOf];omega
   ·have t1:((l[k].toNat:Int)==(c.toNat:Int))=false:=by
     simp only[beq_eq_false_iff_ne,ne_eq];intro q;exact hx (UInt8.toNat_inj.1 (by omega))
    have HC1:=I (show c∉piece l f (k+1) by
     rw[hps,List.mem_append,not_or];exact⟨HC.o,by simpa using fun q:c=l[k]=>hx q.symm⟩)
    clear hpc hps hx
    go_wp2
    go_roundw
    case rel=>exact⟨f,k+1,ls,by omega,by omega,rfl,by go_num,HO.o,HC1.o,HSP.o,hll,HB.o⟩
    case measure=>simp [intOf];omega
  ·obtain rfl:k=l.length:=by omega
   have e1:¬(l.length:Int)<(l.length:Int):=by omega
   have e2:(f:Int)<=(l.length:Int):=by omega
   have hc:=HC.o;rw[Ln] at hc;have hn:ls++[piece l f l.length]=split c l:=by rw[<-HSP.o,He hc,Ln]
   have HN:=I hn;clear hn hc
   go_wp2_with (at_builtin;refine Mx rfl (.tmp 28) (.tmp 32) rfl N _ ls rfl HO.o (piece l f l.length) rfl (by omega) (HNE0.o _ HB.o) ?_;intro v' w3 ho3 hb3;have H3:=I (HB.o.trans hb3);have HO3:=I ho3;clear ho3 hb3)
   go_ret;exact⟨_,rfl,by rw[<-HN.o];exact HO3.o,H3.o⟩
end Nm
namespace Nm
open Go.RowKit Af
attribute [local go_sem] Ex List.getElem_cons_zero List.getElem_cons_succ QA
theorem Il {ls:List L} {i:Nat} (hi:i<ls.length) (h:Cc capB (pl ls i)=false):Cm ls=false:=by
 cases e:Cm ls with
 |false=>rfl
 |true=>
  have:=((IG ls).1 e).2.2;rw[List.all_eq_true] at this;have:=this _ (JO hi);rw[h] at this;cases this
theorem Ua {ls:List L} (h:∀i,i<ls.length->Cc capB (pl ls i)=true) (h1:1<=ls.length):Cm ls=decide (ls.length<=4):=by
 have ha:ls.all (Cc capB)=true:=by
  rw[List.all_eq_true];intro x hx;obtain⟨i,hi,rfl⟩:=mem_pl hx;exact h i hi
 rw[Cm,ha,decide_eq_true h1];simp
theorem My (ls:List L) (b o c:Nat) (w:World) (h1:1<=ls.length) (hl:ls.length<=8000000000000) (hs:∀i,i<ls.length->(pl ls i).length<=1000000000)
  (hc:∀i,i<ls.length->w.cell? ⟨b,o+i,none⟩=some (.string ⟨(pl ls i).toArray⟩)) :
  Calls Tryz.prog 185 #[.slice (some ⟨b,o,none⟩) ls.length c] w fun e w'=>e=.returned (.bool (Cm ls))/\w=w':=by
 obtain⟨n,en⟩:=Ak (ls.length);rw[<-en] at h1 hl hs hc⊢;have HS:=I hs;clear hs;have HC:=I hc;clear hc;have EN:=I en;clear en;go_enter Tryz.func185,Tryz.ntmps185
 go_wp2
 go_loop [3] (fun iv=>∃i:Nat,i<=n/\iv=.int .i64 (i:Int)/\∀j,j<i->Cc capB (pl ls j)=true) (fun iv=>n - (intOf iv).toNat)
 case atStart=>exact⟨0,Nat.zero_le _,rfl,fun j h=>absurd h (Nat.not_lt_zero j)⟩
 case round=>
  obtain⟨i,hi,rfl,hw⟩:=hrel;have HW:=I hw;clear hw
  by_cases hlt:i<n
  ·have e1:(i:Int)<(n:Int):=by omega
   have hc:=HC.o i hlt;have hsz:=HS.o i hlt;obtain⟨l,el⟩:=Ak (pl ls i);rw[<-el] at hc hsz;have EL:=I el;clear el
   by_cases g1:l.length<1
   ·have t1:decide ((l.length:Int)<1)=true:=by simp;omega
    have E:=I (Il (by rw[<-EN.o];exact hlt) (by rw[<-EL.o];exact Hf g1));clear g1
    go_wp2
    go_ret;exact⟨by rw[E.o];rfl,rfl⟩
   ·have t1:decide ((l.length:Int)<1)=false:=by simp;omega
    by_cases g2:8<l.length
    ·have t2:decide (8<(l.length:Int))=true:=by simp;omega
     have E:=I (Il (by rw[<-EN.o];exact hlt) (by rw[<-EL.o];exact IH g2));clear g1 g2
     go_wp2
     go_ret;exact⟨by rw[E.o];rfl,rfl⟩
    ·have t2:decide (8<(l.length:Int))=false:=by simp;omega
     have HA:=I (fun h=>Ko (p:=capB) (l:=l) h (by omega) (by omega));clear g1 g2
     go_wp2
     go_loop [4] (fun kv=>∃k:Nat,k<=l.length/\kv=.int .i64 (k:Int)/\Fit capB l k) (fun kv=>l.length - (intOf kv).toNat)
     case atStart=>exact⟨0,Nat.zero_le _,rfl,fun i _ h=>by omega⟩
     case round=>
      obtain⟨k,hk,rfl,hf⟩:=hrel;have HF:=I hf;clear hf
      by_cases hkl:k<l.length
      ·have e2:(k:Int)<(l.length:Int):=by omega
       have hb:=BC l[k]
       by_cases q1:l[k].toNat<65
       ·have s1:decide ((l[k].toNat:Int)<65)=true:=by simp;omega
        have E:=I (Il (ls:=ls) (i:=i) (by rw[<-EN.o];exact hlt) (by rw[<-EL.o];exact Gz hkl (by simp [capB];omega)));clear q1
        go_wp2
        go_ret;exact⟨by rw[E.o];rfl,rfl⟩
       ·have s1:decide ((l[k].toNat:Int)<65)=false:=by simp;omega
        by_cases q2:90<l[k].toNat
        ·have s2:decide (90<(l[k].toNat:Int))=true:=by simp;omega
         have E:=I (Il (ls:=ls) (i:=i) (by rw[<-EN.o];exact hlt) (by rw[<-EL.o];exact Gz hkl (by simp [capB];omega)));clear q1 q2
         go_wp2
         go_ret;exact⟨by rw[E.o];rfl,rfl⟩
        ·have s2:decide (90<(l[k].toNat:Int))=false:=by simp;omega
         have HP:=I (show capB l[k]=true by simp [capB];omega);clear q1 q2
         go_wp2
         go_round
         case rel=>exact⟨k+1,by omega,by go_num,fun i hi hik=>by
          by_cases q:i=k
          ·subst q;exact HP.o
          ·exact HF.o i hi (by omega)⟩
         case measure=>simp [intOf];omega
      ·have e2:¬(k:Int)<(l.length:Int):=by omega
       have E:=I (HA.o (fun i hi=>HF.o i hi (by omega)))
       go_wp2
       go_round
       case rel=>exact⟨i+1,by omega,by go_num,fun j hj=>by
        by_cases q:j=i
        ·rw[q,<-EL.o];exact E.o
        ·exact HW.o j (by omega)⟩
       case measure=>simp [intOf];omega
  ·obtain rfl:i=n:=by omega
   have e1:¬(i:Int)<(i:Int):=by omega
   have hE:=Ua (ls:=ls) (fun j hj=>HW.o j (by rw[EN.o];exact hj)) (by rw[<-EN.o];exact h1);rw[<-EN.o] at hE;have E:=I hE;clear hE;have t1:decide ((1:Int)<=(i:Int))=true:=by simp;omega
   by_cases g:i<=4
   ·have t2:decide ((i:Int)<=4)=true:=by simp;omega
    have E2:=I (decide_eq_true g);clear g
    go_wp2
    go_ret;exact⟨by rw[E.o,E2.o];rfl,rfl⟩
   ·have t2:decide ((i:Int)<=4)=false:=by simp;omega
    have E2:=I (decide_eq_false g);clear g
    go_wp2
    go_ret;exact⟨by rw[E.o,E2.o];rfl,rfl⟩
theorem OX (ls:List L) (A:Option Addr) (c B:Nat) (w:World) (h1:1<=ls.length) (hl:ls.length<=8000000000000) (hs:∀i,i<ls.length->(pl ls i).length<=1000000000) (hr:Rd w B A (strs ls)) :
  Calls Tryz.prog 185 #[.slice A ls.length c] w fun e w'=>e=.returned (.bool (Cm ls))/\w=w':=by
 obtain⟨b,o,rfl,_,_⟩:=EJ hr (i:=0) h1;refine My ls b o c w h1 hl hs fun i hi=>?_
 obtain⟨b',o',e,_,hc⟩:=EJ hr hi;injection e with e;injection e with e1 e2;subst e1;subst e2;exact hc
end Nm
namespace Nm
open Go.RowKit Af
attribute [local go_sem] Ex List.getElem_cons_zero List.getElem_cons_succ Cr Cs Dz
theorem QB (c:UInt8) (l:L):∀x,x∈split c l->x.length<=l.length:=by
 induction l with
 |nil=>intro x hx;simp [split] at hx;simp [hx]
 |cons a r ih=>
  intro x hx;rw[split] at hx
  split at hx
  ·rcases List.mem_cons.1 hx with rfl | h
   ·simp
   ·have:=ih x h;simp;omega
  ·cases hs:split c r with
   |nil=>rw[hs] at hx;simp at hx;subst hx;simp
   |cons u t=>
    rw[hs] at hx ih;rcases List.mem_cons.1 hx with rfl | h
    ·have:=ih u List.mem_cons_self;simp;omega
    ·have:=ih x (List.mem_cons_of_mem _ h);simp;omega
theorem NO (l:L) (c:UInt8) (w':World) (base:Nat) (v:Value) (hs:l.length<=1000000000) (ho:Own w' base v (split c l)) :
  ∃A n cap,v=.slice A n cap/\∀w1,Below w'.heap.size w' w1->Calls Tryz.prog 185 #[.slice A n cap] w1 fun e w2=>e=.returned (.bool (Cm (split c l)))/\w1=w2:=by
 obtain⟨A,cap,rfl,hr⟩:=ho.slice;refine⟨A,_,cap,rfl,fun w1 hb=>?_⟩;exact OX (split c l) A cap w'.heap.size w1 (EH c l) (by have:=TZ c l;omega) (fun i hi=>by have:=QB c l _ (JO hi);omega) (hr.below hb)
theorem QC (l:L) (w:World) (hs:l.length<=1000000000):Calls Tryz.prog 135 #[.string ⟨l.toArray⟩] w fun e w'=>e=.returned (.int .i64 (By l:Int))/\Below w.heap.size w w':=by
 have C2:=I (fun w1=>GC l 46 w1 hs);have S2:=I (fun w' base v ho=>NO l 46 w' base v hs ho);have HB0:=I (Below.refl w.heap.size w);cases l with
 |nil=>
  have E:=I TM;have c2:=C2.o w;have EL:=I (show Cm (split 46 [])=false by decide);clear hs;go_enter Tryz.func135,Tryz.ntmps135
  go_wp2_with (first
   |(go_at_call 186;refine Calls.mono c2 ?_;rintro e w1 ⟨v,rfl,ho,hb⟩;clear c2;obtain⟨A,n,cap,rfl,hc⟩:=S2.o w1 _ v ho;have c3:=hc w1 Ah;rw[EL.o] at c3;have H1:=I hb;clear hb ho hc)
   |(go_at_call 185;refine Aj c3 ?_;rintro w2 rfl;clear c3))
  go_ret;exact⟨by rw[E.o];rfl,H1.o⟩
 |cons x r=>
  have e0:(0:Int)<(r.length:Int)+1:=by omega
  have hs':r.length<=1000000000:=by simp at hs;omega
  have ek:By (x :: r)=if slL (x :: r) then 2 else if Cm (split 46 (x :: r)) then 1 else 0:=rfl
  by_cases hx:x=47
  ·subst hx
   have esl:slL (47 :: r)=Cm (split 47 r):=by simp [slL]
   rw[esl] at ek;have c1:=GC r 47 w hs';have S1:=I (fun w' base v ho=>NO r 47 w' base v hs' ho);cases h1:Cm (split 47 r) with
   |true=>
    have E:=I (show By (47 :: r)=2 by rw[ek,h1];rfl);have H:=I h1;clear ek esl h1 hs hs';go_enter Tryz.func135,Tryz.ntmps135
    go_wp2_with (first
     |(go_at_call 186;refine Calls.mono c1 ?_;rintro e w1 ⟨v,rfl,ho,hb⟩;clear c1;obtain⟨A,n,cap,rfl,hc⟩:=S1.o w1 _ v ho;have c3:=hc w1 Ah;rw[H.o] at c3;have H1:=I hb;clear hb ho hc)
     |(go_at_call 185;refine Aj c3 ?_;rintro w2 rfl;clear c3))
    go_ret;exact⟨by rw[E.o];rfl,H1.o⟩
   |false=>
    rw[h1,if_neg (by simp)] at ek;have H:=I h1;have hd:Cm (split 46 (47 :: r))=false:=by
     cases q:Cm (split 46 (47 :: r)) with
     |false=>rfl
     |true=>exact absurd rfl (NK q)
    have HD:=I hd;have E:=I (show By (47 :: r)=0 by rw[ek,hd];rfl);clear ek esl h1 hd hs hs';go_enter Tryz.func135,Tryz.ntmps135
    go_wp2_with (first
     |(go_at_call 186;refine Calls.mono c1 ?_;rintro e w1 ⟨v,rfl,ho,hb⟩;clear c1;obtain⟨A,n,cap,rfl,hc⟩:=S1.o w1 _ v ho;have c3:=hc w1 Ah;rw[H.o] at c3;have H1:=I hb;clear hb ho hc;have c2:=C2.o w1)
     |(go_at_call 185;refine Aj c3 ?_;rintro w2 rfl;clear c3)
     |(go_at_call 186;refine Calls.mono c2 ?_;rintro e w4 ⟨v4,rfl,ho,hb⟩;clear c2;obtain⟨A4,n4,cap4,rfl,hc⟩:=S2.o w4 _ v4 ho;have c5:=hc w4 Ah;rw[HD.o] at c5;have H4:=H1.t hb;clear hb ho hc)
     |(go_at_call 185;refine Aj c5 ?_;rintro w6 rfl;clear c5))
    go_ret;exact⟨by rw[E.o];rfl,H4.o⟩
  ·have t1:((x.toNat:Int)==47)=false:=by
    simp only[beq_eq_false_iff_ne,ne_eq];intro q;exact hx (UInt8.toNat_inj.1 (by have:(47:UInt8).toNat=47:=rfl;omega))
   have esl:slL (x :: r)=false:=by simp [slL,hx]
   rw[esl,if_neg (by simp)] at ek;have c2:=C2.o w;cases h1:Cm (split 46 (x :: r)) with
   |true=>
    have E:=I (show By (x :: r)=1 by rw[ek,h1];rfl);have H:=I h1;clear ek esl h1 hs hs' hx;go_enter Tryz.func135,Tryz.ntmps135
    go_wp2_with (first
     |(go_at_call 186;refine Calls.mono c2 ?_;rintro e w1 ⟨v,rfl,ho,hb⟩;clear c2;obtain⟨A,n,cap,rfl,hc⟩:=S2.o w1 _ v ho;have c3:=hc w1 Ah;rw[H.o] at c3;have H1:=I hb;clear hb ho hc)
     |(go_at_call 185;refine Aj c3 ?_;rintro w2 rfl;clear c3))
    go_ret;exact⟨by rw[E.o];rfl,H1.o⟩
   |false=>
    have E:=I (show By (x :: r)=0 by rw[ek,h1];rfl);have H:=I h1;clear ek esl h1 hs hs' hx;go_enter Tryz.func135,Tryz.ntmps135
    go_wp2_with (first
     |(go_at_call 186;refine Calls.mono c2 ?_;rintro e w1 ⟨v,rfl,ho,hb⟩;clear c2;obtain⟨A,n,cap,rfl,hc⟩:=S2.o w1 _ v ho;have c3:=hc w1 Ah;rw[H.o] at c3;have H1:=I hb;clear hb ho hc)
     |(go_at_call 185;refine Aj c3 ?_;rintro w2 rfl;clear c3))
    go_ret;exact⟨by rw[E.o];rfl,H1.o⟩
theorem Mz (l:L) (w:World) (hs:l.length<=1000000000):Calls Tryz.prog 90 #[.string ⟨l.toArray⟩] w fun e w'=>e=.returned (.bool (isL l))/\Below w.heap.size w w':=by
 have c1:=QC l w hs
 by_cases h:1<=By l
 ·have E:=I (show isL l=true by simp [isL,h])
  have t:decide (0<By l)=true:=by simp;omega
  clear h;go_enter Tryz.func90,Tryz.ntmps90
  go_wp2_with (go_at_call 135;refine Aj c1 ?_;rintro w1 hd;clear c1;have H1:=I hd;clear hd)
  go_ret;exact⟨by rw[E.o];rfl,H1.o⟩
 ·have E:=I (show isL l=false by simp [isL];omega)
  have e0:By l=0:=by omega
  rw[e0] at c1;clear h e0;go_enter Tryz.func90,Tryz.ntmps90
  go_wp2_with (go_at_call 135;refine Aj c1 ?_;rintro w1 hd;clear c1;have H1:=I hd;clear hd)
  go_ret;exact⟨by rw[E.o];rfl,H1.o⟩
end Nm
namespace Nm
open Go.RowKit Af
attribute [local go_sem] Ex List.getElem_cons_zero List.getElem_cons_succ Cr Cs Dz
theorem Ub {n:L} (h:n.length<8):tgL n=false:=by
 cases q:preL krb n with
 |false=>rw[tgL,q];rfl
 |true=>
  have h1:n.drop 7 = []:=List.drop_of_length_le (by omega);have h2:cpL krb n = []:=by rw[cpL,q,if_pos rfl];exact h1
  rw[tgL,h2,show isL []=false from by decide,Bool.and_false]
theorem tg_eq (n:L):tgL n=((n.take 7==krb)&&isL (n.drop 7)):=by
 have e:=NM krb n;rw[show krb.length=7 from rfl] at e;rw[tgL,e];cases q:preL krb n with
 |false=>rfl
 |true=>rw[cpL,q];rfl
theorem MA (n:L) (w:World) (hs:n.length<=1000000000):Calls Tryz.prog 91 #[.string ⟨n.toArray⟩] w fun e w'=>e=.returned (.tuple #[.string ⟨(tgR n).toArray⟩,.bool (tgL n)])/\Below w.heap.size w w':=by
 have c2:=Mz (n.drop 7) w (by simp;omega);have HB0:=I (Below.refl w.heap.size w)
 by_cases h8:n.length<8
 ·have E1:=I (Ub h8)
  have E2:=I (show tgR n = [] by rw[tgR,E1.o];rfl);have t1:decide ((n.length:Int)<8)=true:=by simp;omega
  clear h8 hs;go_enter Tryz.func91,Tryz.ntmps91
  go_wp2_with fail
  go_ret2
  exact⟨by rw[E1.o,E2.o];rfl,HB0.o⟩
 ·have t1:decide ((n.length:Int)<8)=false:=by simp;omega
  have e7:(7:Int)<=(n.length:Int):=by omega
  have eq:=tg_eq n;clear h8;cases h1:(n.take 7==krb) with
  |false=>
   rw[h1] at eq;have t2:(n.take 7 == [107,114,98,116,103,116,47])=false:=h1;have E1:=I (show tgL n=false from eq);have E2:=I (show tgR n = [] by rw[tgR,E1.o];rfl);clear eq h1 hs;go_enter Tryz.func91,Tryz.ntmps91
   go_wp2_with fail
   go_ret2
   exact⟨by rw[E1.o,E2.o];rfl,HB0.o⟩
  |true=>
   rw[h1,Bool.true_and] at eq;have t2:(n.take 7 == [107,114,98,116,103,116,47])=true:=h1;clear h1 hs;cases h2:isL (n.drop 7) with
   |false=>
    rw[h2] at c2 eq;have E1:=I eq;have E2:=I (show tgR n = [] by rw[tgR,E1.o];rfl);clear eq h2;go_enter Tryz.func91,Tryz.ntmps91
    go_wp2_with (go_at_call 90;refine Aj c2 ?_;rintro w2 hd;clear c2;have H2:=I hd;clear hd)
    go_ret2
    exact⟨by rw[E1.o,E2.o];rfl,H2.o⟩
   |true=>
    rw[h2] at c2 eq;have E1:=I eq;have E2:=I (show tgR n=n.drop 7 by rw[tgR,E1.o];rfl);clear eq h2;go_enter Tryz.func91,Tryz.ntmps91
    go_wp2_with (go_at_call 90;refine Aj c2 ?_;rintro w2 hd;clear c2;have H2:=I hd;clear hd)
    go_ret2
    exact⟨by rw[E1.o,E2.o];rfl,H2.o⟩
theorem Uc {p:UInt8->Bool} {l:L} (h:∀i (h:i<l.length),p l[i]=true):Cc p l=(decide (1<=l.length)&&decide (l.length<=8)):=by
 have ha:l.all p=true:=by
  rw[List.all_eq_true];intro x hx;obtain⟨i,hi,rfl⟩:=List.getElem_of_mem hx;exact h i hi
 rw[Cc,ha,Bool.and_true]
theorem Hz (r n:L) (w:World) (hs:r.length<=1000000000) (hs2:n.length<=1000000000):Calls Tryz.prog 45 #[.agg #[.string ⟨r.toArray⟩,.string ⟨n.toArray⟩]] w fun e w'=>e=.returned (.bool (De r n))/\Below w.heap.size w w':=by
 have c1:=Mz r (w.alloc (.cells #[.string ⟨r.toArray⟩,.string ⟨n.toArray⟩] 25)) hs;have hk:=Blk.new w 25 #[.string ⟨r.toArray⟩,.string ⟨n.toArray⟩];have hb0:=(Below.refl w.heap.size w).alloc Ag (.cells #[.string ⟨r.toArray⟩,.string ⟨n.toArray⟩] 25);have hsz:w.heap.size<(w.alloc (.cells #[.string ⟨r.toArray⟩,.string ⟨n.toArray⟩] 25)).heap.size:=by simp
 obtain⟨N,eN⟩:=Ak (w.heap.size);have C2:=I (fun w1=>MA n w1 hs2);have E1:=I (show De r n=(isL r&&(tgL n||Cc Cf n)) from rfl);rw[<-eN] at hk hb0 hsz⊢;have EN:=I eN;clear eN;have HK:=I hk;clear hk;have HB0:=I hb0;clear hb0;have HSZ:=I hsz;clear hsz hs;cases h1:isL r with
 |false=>
  rw[h1] at c1;have E:=I (show De r n=false by rw[E1.o,h1];rfl);clear h1;go_enter Tryz.func45,Tryz.ntmps45
  go_wp2_with (go_at_call 90;refine Aj c1 ?_;rintro w1 hd;clear c1;have H1:=I (HB0.o.trans (hd.mono (Nat.le_of_lt HSZ.o)));clear hd)
  go_ret;exact⟨by rw[E.o];rfl,H1.o⟩
 |true=>
  rw[h1] at c1;cases h2:tgL n with
  |true=>
   have E:=I (show De r n=true by rw[E1.o,h1,h2];rfl);have HT:=I h2;clear h1 h2;go_enter Tryz.func45,Tryz.ntmps45
   go_wp2_with (first
    |(go_at_call 90;refine Aj c1 ?_;rintro w1 hd;clear c1;have H1:=I (HB0.o.trans (hd.mono (Nat.le_of_lt HSZ.o)));have hkk:=HK.o.below hd;have HKK:=I hkk;have hk1:=hkk.cell 1;have hs1:N<w1.heap.size:=(by have:=hd.size;have:=HSZ.o;omega);have HS1:=I hs1;rw[EN.o] at hk1;clear hd hs1 hkk;have c2:=C2.o w1;rw[HT.o] at c2)
    |(go_at_call 91;refine Aj c2 ?_;rintro w2 hb;clear c2 hk1;have H2:=I (H1.o.trans (hb.mono (Nat.le_of_lt HS1.o)));have hk2:=(HKK.o.below hb).cell 1;rw[EN.o] at hk2;clear hb))
   go_ret;exact⟨by rw[E.o];rfl,H2.o⟩
  |false=>
   have E:=I (show De r n=Cc Cf n by rw[E1.o,h1,h2];rfl);have HT:=I h2;clear h1 h2;go_enter Tryz.func45,Tryz.ntmps45
   go_wp2_with (first
    |(go_at_call 90;refine Aj c1 ?_;rintro w1 hd;clear c1;have H1:=I (HB0.o.trans (hd.mono (Nat.le_of_lt HSZ.o)));have hkk:=HK.o.below hd;have HKK:=I hkk;have hk1:=hkk.cell 1;have hs1:N<w1.heap.size:=(by have:=hd.size;have:=HSZ.o;omega);have HS1:=I hs1;rw[EN.o] at hk1;clear hd hs1 hkk;have c2:=C2.o w1;rw[HT.o] at c2)
    |(go_at_call 91;refine Aj c2 ?_;rintro w2 hb;clear c2 hk1;have H2:=I (H1.o.trans (hb.mono (Nat.le_of_lt HS1.o)));have hk2:=(HKK.o.below hb).cell 1;rw[EN.o] at hk2;clear hb))
   go_loop [5] (fun iv=>∃k:Nat,k<=n.length/\iv=.int .i64 (k:Int)/\Fit Cf n k) (fun iv=>n.length - (intOf iv).toNat)
   case atStart=>exact⟨0,Nat.zero_le _,rfl,fun i _ h=>by omega⟩
   case round=>
    obtain⟨k,hk,rfl,hf⟩:=hrel;have HF:=I hf;clear hf
    by_cases hlt:k<n.length
    ·have e1:(k:Int)<(n.length:Int):=by omega
     have hb:=BC n[k];have hbad:Cf n[k]=false->Hid (De r n=false):=fun h=>I (by rw[E.o];exact Gz hlt h)
     have HBAD:=I hbad;clear hbad;have hgood:Cf n[k]=true->Hid (Fit Cf n (k+1)):=fun h=>I (fun i hi hik=>by
      by_cases q:i=k
      ·subst q;exact h
      ·exact HF.o i hi (by omega))
     have HGOOD:=I hgood;clear hgood
     by_cases q1:n[k].toNat<97
     ·have s1:decide ((n[k].toNat:Int)<97)=true:=by simp;omega
      by_cases q2:n[k].toNat<48
      ·have s2:decide ((n[k].toNat:Int)<48)=true:=by simp;omega
       have E2:=HBAD.o (by simp [Cf,Dq];omega);clear q1 q2
       go_wp2
       go_ret;exact⟨by rw[E2.o];rfl,H2.o⟩
      ·have s2:decide ((n[k].toNat:Int)<48)=false:=by simp;omega
       by_cases q3:57<n[k].toNat
       ·have s3:decide (57<(n[k].toNat:Int))=true:=by simp;omega
        have E2:=HBAD.o (by simp [Cf,Dq];omega);clear q1 q2 q3
        go_wp2
        go_ret;exact⟨by rw[E2.o];rfl,H2.o⟩
       ·have s3:decide (57<(n[k].toNat:Int))=false:=by simp;omega
        have E2:=HGOOD.o (by simp [Cf,Dq];omega);clear q1 q2 q3
        go_wp2
        go_round
        case rel=>exact⟨k+1,by omega,by go_num,E2.o⟩
        case measure=>simp [intOf];omega
     ·have s1:decide ((n[k].toNat:Int)<97)=false:=by simp;omega
      by_cases q2:122<n[k].toNat
      ·have s2:decide (122<(n[k].toNat:Int))=true:=by simp;omega
       have s3:decide ((n[k].toNat:Int)<48)=false:=by simp;omega
       have s4:decide (57<(n[k].toNat:Int))=true:=by simp;omega
       have E2:=HBAD.o (by simp [Cf,Dq];omega);clear q1 q2
       go_wp2
       go_ret;exact⟨by rw[E2.o];rfl,H2.o⟩
      ·have s2:decide (122<(n[k].toNat:Int))=false:=by simp;omega
       have E2:=HGOOD.o (by simp [Cf,Dq];omega);clear q1 q2
       go_wp2
       go_round
       case rel=>exact⟨k+1,by omega,by go_num,E2.o⟩
       case measure=>simp [intOf];omega
    ·obtain rfl:k=n.length:=by omega
     have e1:¬(n.length:Int)<(n.length:Int):=by omega
     have E2:=I (E.o.trans (Uc (fun i hi=>HF.o i hi hi)))
     by_cases g1:1<=n.length
     ·have t1:decide ((1:Int)<=(n.length:Int))=true:=by simp;omega
      by_cases g2:n.length<=8
      ·have t2:decide ((n.length:Int)<=8)=true:=by simp;omega
       have E3:=I (E2.o.trans (show(decide (1<=n.length)&&decide (n.length<=8))=true by simp;omega));clear g1 g2
       go_wp2
       go_ret;exact⟨by rw[E3.o];rfl,H2.o⟩
      ·have t2:decide ((n.length:Int)<=8)=false:=by simp;omega
       have E3:=I (E2.o.trans (show(decide (1<=n.length)&&decide (n.length<=8))=false by simp;omega));clear g1 g2
       go_wp2
       go_ret;exact⟨by rw[E3.o];rfl,H2.o⟩
     ·have t1:decide ((1:Int)<=(n.length:Int))=false:=by simp;omega
      have E3:=I (E2.o.trans (show(decide (1<=n.length)&&decide (n.length<=8))=false by simp;omega));clear g1
      go_wp2
      go_ret;exact⟨by rw[E3.o];rfl,H2.o⟩
end Nm
end Go.Proofs.YtlchkbpffaclmaaGreat
