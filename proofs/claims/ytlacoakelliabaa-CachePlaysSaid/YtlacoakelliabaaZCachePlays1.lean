import Derived.WalkKit
import Derived.WalkSpells
import Derived.WalkLawsBesides
import Derived.LaidEqlPtr
import Derived.Maps.AppendAt
import Derived.Maps.Range
import Derived.Maps.RangeWalk
import Derived.Deep.AppendLies
import Derived.Deep.Draws
import Derived.Deep.Onto
import Derived.Lib.ConvBytes
import Derived.Lib.Hide
import Derived.RegionTactic
import Derived.Deep.QuietTactic
import Derived.BigQuiet
import Derived.Laws.BitsAllLaws
import Derived.Laws.BitsLemmas
import Derived.ProofKit
import Derived.OpenShut
import Derived.ShutString
import Derived.ChangeOld
import Derived.Deep.Matrix
import Derived.Deep.Slices
import Derived.Test.YtlacoakelliabaaProg
import Derived.Lib.Strings
import Derived.Lib.Walk
import Derived.Lib.Bytealg
import Derived.Lib.BufferWrite
import Derived.Lib.UnsafeStr
import Derived.Laws.MakeOwn
import Derived.Laws.OwnMore
import Derived.Deep.WholeRow
import Derived.Deep.LoopGhost
import Derived.SizedLaws
import Derived.Test.YtlacoakelliabaaRows
import Derived.Lib.SmallJoins
import Derived.Deep.Strs
import Derived.ChangeSame
import Derived.Deep.MidRow
import Derived.BigFrame
import Derived.Great.BuildSlice
import Derived.Laws.Bits64
import Derived.Laws.Bits64b
import Derived.Deep.RegionHeld3
import Derived.Deep.Cut
import Derived.Deep.CutRange
import Derived.Deep.CutBlock
import Derived.StillTailTactics
section
namespace Go.Proofs.Ytlacoakelliabaa.Mem
open Go.RowKit
theorem mk_at (l:List UInt8) (i:Nat) (h:i<(ByteArray.mk l.toArray).size):(ByteArray.mk l.toArray)[i]'h=l[i]'(by simpa [ByteArray.size] using h):=rfl
theorem ext_tail (a:UInt8) (r:List UInt8):(ByteArray.mk (a :: r).toArray).extract 1 (r.length+1)=ByteArray.mk r.toArray:=by
 rw[ByteArray.extract_mk];simp
theorem ext_drop (l:List UInt8) (k:Nat):(ByteArray.mk l.toArray).extract k l.length=ByteArray.mk (l.drop k).toArray:=by
 rw[ByteArray.extract_mk,List.take_of_length_le (by simp)]
theorem ext_mid (l:List UInt8) (k n:Nat):(ByteArray.mk l.toArray).extract k (k+n)=ByteArray.mk ((l.drop k).take n).toArray:=by
 rw[ByteArray.extract_mk,Nat.add_sub_cancel_left]
theorem bytes_eta (s:ByteArray):s=⟨s.data.toList.toArray⟩:=by cases s;simp
def bv (b:UInt8):Value:=.int .u8 (b.toNat:Int)
def bvs (l:List UInt8):List Value:=l.map bv
theorem bvs_length (l:List UInt8):(bvs l).length=l.length:=by simp [bvs]
theorem bvs_one (l:List UInt8):∀u∈bvs l,u.oneCell'=true:=by
 intro u hu
 obtain⟨b,_,rfl⟩:=List.mem_map.1 hu
 rfl
theorem bvs_at {l:List UInt8} {i:Nat} (h:i<l.length):(bvs l)[i]? = some (bv l[i]):=by simp [bvs,h]
def Rd (w:World) (B:Nat) (A:Option Addr) (xs:List Value):Prop:=
 xs = []∨∃b o,A=some ⟨b,o,none⟩∧b<B∧∀i u,xs[i]? = some u→w.cell? ⟨b,o+i,none⟩=some u
def Blk (w:World) (g:Nat) (t:TypeId) (cs:Array Value):Prop:=w.heap[g]? = some (.cells cs t (0,0))
theorem addr_add (b o j:Nat):(⟨b,o,none⟩:Addr).add j=⟨b,o+j,none⟩:=by unfold Addr.add;split<;>simp_all
section
variable {w w' a c:World} {B B' g:Nat} {A:Option Addr} {xs:List Value} {t:TypeId} {cs:Array Value}
theorem below_drewN (h:Below B a w) (n:Nat):Below B a (w.drewN n):=⟨h.os,h.tape,h.output,h.size,h.block⟩
theorem g_set {row:Option Nat} (h:a.grownBy w row) {p:Addr} (hp:row=some p.block∨a.heap.size≤p.block) (u:Value):a.grownBy (w.setCell p u) row:=
 ⟨h.os,h.tape,h.output,by simpa [World.setCell] using h.size,fun i hi hne=>(Below.heap_setCell w p u i (by
  rintro rfl
  rcases hp with hp | hp
  ·exact hne hp.symm
  ·omega)).trans (h.block i hi hne)⟩
theorem g_of_below (h:Below a.heap.size a w) (row:Option Nat):a.grownBy w row:=⟨h.os,h.tape,h.output,h.size,fun i hi _=>h.block i hi⟩
theorem g_then {row:Option Nat} (h:a.grownBy w row) (k:Below w.heap.size w c):a.grownBy c row:=
 ⟨k.os.trans h.os,k.tape.trans h.tape,k.output.trans h.output,Nat.le_trans h.size k.size,fun i hi hn=>(k.block i (Nat.lt_of_lt_of_le hi h.size)).trans (h.block i hi hn)⟩
theorem below_g (h:Below B a w) (k:w.grownBy c (some g)) (hB:B≤w.heap.size) (hg:B≤g):Below B a c:=
 h.grown k hB (fun j hj=>by injection hj with hj;omega)
theorem bt (h:Below a.heap.size a w) (k:Below w.heap.size w c):Below a.heap.size a c:=h.trans (k.mono h.size)
theorem btg (h:Below a.heap.size a w) (k:w.grownBy c (some g)) (hg:a.heap.size≤g):Below a.heap.size a c:=below_g h k h.size hg
theorem Blk.lt (h:Blk w g t cs):g<w.heap.size:=by
 rcases Nat.lt_or_ge g w.heap.size with h1 | h1
 ·exact h1
 ·unfold Blk at h;rw[Array.getElem?_eq_none h1] at h;cases h
theorem Blk.cell (h:Blk w g t cs) (i:Nat):w.cell? ⟨g,i,none⟩=cs[i]?:=cell_of_row w g i cs t (0,0) h
theorem Blk.frozen (h:Blk w g t cs) (i:Nat):w.frozen? ⟨g,i,none⟩=false:=by
 unfold Blk at h
 simp [World.frozen?,h]
theorem Blk.new (w:World) (t:TypeId) (cs:Array Value):Blk (w.alloc (.cells cs t)) w.heap.size t cs:=heap_alloc_new w _
theorem Blk.drewN (h:Blk w g t cs) (n:Nat):Blk (w.drewN n) g t cs:=h
theorem Blk.alloc (h:Blk w g t cs) (o:Obj):Blk (w.alloc o) g t cs:=(Below.heap_alloc w o g h.lt).trans h
theorem Blk.set (h:Blk w g t cs) (i:Nat) (u:Value):Blk (w.setCell ⟨g,i,none⟩ u) g t (cs.setIfInBounds i u):=by
 unfold Blk at h⊢
 simp [World.setCell,Array.getElem?_modify,h]
theorem Blk.below (h:Blk w g t cs) (hb:Below w.heap.size w w'):Blk w' g t cs:=(hb.block g h.lt).trans h
theorem Blk.grown {row:Option Nat} (h:Blk w g t cs) (hb:w.grownBy w' row) (hg:row≠some g):Blk w' g t cs:=(hb.block g h.lt (fun e=>hg e.symm)).trans h
theorem Rd.nil:Rd w B A []:=.inl rfl
theorem Rd.keep (h:Rd w B A xs) (hk:∀b o,b<B→w'.cell? ⟨b,o,none⟩=w.cell? ⟨b,o,none⟩):Rd w' B A xs:=by
 rcases h with h | ⟨b,o,h1,h2,h3⟩
 ·exact .inl h
 ·exact .inr ⟨b,o,h1,h2,fun i u hu=>(hk _ _ h2).trans (h3 i u hu)⟩
theorem Rd.more (h:Rd w B A xs) (hB:B≤B'):Rd w B' A xs:=by
 rcases h with h | ⟨b,o,h1,h2,h3⟩
 ·exact .inl h
 ·exact .inr ⟨b,o,h1,by omega,h3⟩
theorem Rd.below (h:Rd w B A xs) (hb:Below B w w'):Rd w' B A xs:=h.keep fun _ _ hp=>hb.cell hp
theorem Rd.drewN (h:Rd w B A xs) (n:Nat):Rd (w.drewN n) B A xs:=h.keep fun _ _ _=>rfl
theorem Rd.alloc (h:Rd w B A xs) (hB:B≤w.heap.size) (o:Obj):Rd (w.alloc o) B A xs:=
 h.below ((Below.refl B w).alloc hB o)
theorem Rd.grown {row:Option Nat} (h:Rd w B A xs) (hg:w.grownBy w' row) (hB:B≤w.heap.size) (hr:∀k,row=some k→B≤k):Rd w' B A xs:=
 h.below ((Below.refl B w).grown hg hB hr)
theorem Rd.of_own {base n cap:Nat} (h:w.ownsRow base t 1 (.slice A n cap) n xs):Rd w w.heap.size A xs:=by
 rcases h.2 with⟨_,h2⟩ | ⟨g,cap',cur,hv,_,hh,_⟩
 ·left
  have h1:=h.1
  rw[h2] at h1
  exact List.eq_nil_of_length_eq_zero (by simpa using h1)
 ·right
  injection hv with hA _ _
  subst hA
  exact⟨g,0,rfl,(Array.getElem?_eq_some_iff.1 hh).1,fun i u hu=>by
   have:=h.cells (g:=g) rfl i u hu
   rwa [addr_add] at this⟩
theorem own_kept {base n size:Nat} {v:Value} (h:w.ownsRow base t size v n xs) (hb:Below w.heap.size w w'):w'.ownsRow base t size v n xs:=
 h.kept (g_of_below hb none) (by cases v.ownBlock<;>simp)
theorem Rd.at_ {i:Nat} {u:Value} (h:Rd w B A xs) (hi:xs[i]? = some u):∃b o,A=some ⟨b,o,none⟩∧b<B∧w.cell? ⟨b,o+i,none⟩=some u:=by
 rcases h with h | ⟨b,o,h1,h2,h3⟩
 ·subst h;simp at hi
 ·exact⟨b,o,h1,h2,h3 i u hi⟩
end
section
variable {P:Program} (w:World)
theorem run_bytes_str {B:Nat} {A:Option Addr} {l:List UInt8} (src e:TypeId) (hs:P.underlying src=some (.slice e)) (he:P.underlying e=some (.int .u8)) (h:Rd w B A (bvs l)) (n c:Nat) (hn:n=l.length)
  (dst:TypeId) (hd:P.underlying dst=some .string):(convert src dst (.slice A n c)).run P w = .ok (.string ⟨l.toArray⟩) w:=by
 subst hn
 have key:∀a:Addr,A=some a→(∀i u,(bvs l)[i]? = some u→w.cell? (a.add i)=some u)→(convert src dst (.slice A l.length c)).run P w = .ok (.string ⟨l.toArray⟩) w:=by
  intro a ha hc
  subst ha
  have e1:(l.map fun b=>(b.toNat:Int)).map (Value.int .u8)=bvs l:=by simp [bvs,bv,Function.comp_def]
  have hl:(loadCells a l.length).run P w = .ok ((l.map fun b=>(b.toNat:Int)).map (Value.int .u8)).toArray w:=by
   have:=run_loadCells_list (P:=P) w a (bvs l) hc
   rw[bvs_length] at this
   rw[e1];exact this
  rw[run_convert_bytes_string w src dst e _ _ c hs he hd,run_bytesToString w a l.length c _ hl,foldl_push_bytes]
  have e2:((l.map fun b=>(b.toNat:Int)).map fun n=>UInt8.ofNat n.toNat)=l:=by
   rw[List.map_map]
   conv=>rhs;rw[←List.map_id l]
   apply List.map_congr_left
   intro b _
   simp
  rw[e2]
  simp [ByteArray.empty,ByteArray.emptyWithCapacity]
  rfl
 cases hA:A with
 |some a=>
  rw[←hA]
  refine key a hA ?_
  rcases h with h | ⟨b,o,h1,_,h3⟩
  ·rw[h];intro i u hu;simp at hu
  ·rw[hA] at h1
   injection h1 with h1
   subst h1
   intro i u hu
   rw[addr_add];exact h3 i u hu
 |none=>
  have hl:l = []:=by
   rcases h with h | ⟨b,o,h1,_,_⟩
   ·exact List.map_eq_nil_iff.1 h
   ·rw[hA] at h1;cases h1
  subst hl
  rw[run_convert_bytes_nil w src e hs he _ c dst hd]
  rfl
theorem run_append_rd (base:Nat) (t ty e:TypeId) (i:TypeInfo) (z:Value) (bytes:Nat) (ht:P.underlying t=some (.slice e)) (hi:P.info? e=some i) (hz:i.zero=some z)
  (hsize:i.size=1) (hby:i.bytes=bytes) (hzs:z.cells.size=1)
  (v:Value) (n:Nat) (xs:List Value) (hown:w.ownsRow base e 1 v n xs)
  (B:Nat) (A:Option Addr) (m c:Nat) (news:List Value) (hm:m=news.length) (hr:Rd w B A news) (h1:∀u∈news,u.oneCell'=true)
  (h63:n+m≤maxLen) (hbytes:(n+m)*bytes≤140737488355328) (hbase:base≤w.heap.size) :
  ∃v' w',(Builtin.append_ #[t,t] ty #[v,.slice A m c]).run P w = .ok v' w'∧w'.ownsRow base e 1 v' (n+m) (xs++news)∧w.grownBy w' v.ownBlock∧
   (v'.ownBlock=v.ownBlock∨v'.ownBlock=some w.heap.size):=by
 subst hm
 cases hA:A with
 |some a=>
  have hc:∀j u,news[j]? = some u→w.cell? (a.add j)=some u:=by
   rcases hr with h | ⟨b,o,h1,_,h3⟩
   ·rw[h];intro i u hu;simp at hu
   ·rw[hA] at h1
    injection h1 with h1
    subst h1
    intro i u hu
    rw[addr_add];exact h3 i u hu
  obtain⟨v',w',hrun,h2,h3,_,h5⟩:=run_append_own_at (P:=P) w base t ty e i z 1 bytes ht hi hz hsize hby hzs (by omega) v n xs hown a news.length c news (by omega) hc h1 h63 hbytes hbase
  exact⟨v',w',hrun,h2,h3,h5⟩
 |none=>
  have hn:news = []:=by
   rcases hr with h | ⟨b,o,h1,_,_⟩
   ·exact h
   ·rw[hA] at h1;cases h1
  subst hn
  refine⟨v,w,?_,by simpa using hown,World.grownBy.refl w _,.inl rfl⟩
  rcases hown.2 with⟨rfl,rfl⟩ | ⟨g,cap,cur,rfl,_,_,hnc,_⟩
  ·simp [Builtin.append_,run_underlying ht,sizeOf,typeInfo,hi,Builtin.lenOf,Builtin.firstCells]
  ·simp [Builtin.append_,run_underlying ht,sizeOf,typeInfo,hi,Builtin.lenOf,Builtin.firstCells,hnc,storeCells]
theorem wp_append_rd {o:Oper} {a:Act} {K:Act→World→Prop} {Q:Exit→Act→World→Prop} (s x:Operand) (t:TypeId)
  (ho:o.op = .call {callee:=.builtin .append,args:=#[s,x],argTypes:=#[t,t]})
  (base:Nat) (e:TypeId) (i:TypeInfo) (z:Value) (bytes:Nat) (ht:P.underlying t=some (.slice e)) (hi:P.info? e=some i) (hz:i.zero=some z)
  (hsize:i.size=1) (hby:i.bytes=bytes) (hzs:z.cells.size=1)
  (v:Value) (n:Nat) (xs:List Value) (hs:a.eval s=v) (hown:w.ownsRow base e 1 v n xs)
  (B:Nat) (A:Option Addr) (m c:Nat) (news:List Value) (hx:a.eval x = .slice A m c) (hm:m=news.length) (hr:Rd w B A news) (h1:∀u∈news,u.oneCell'=true)
  (h63:n+m≤maxLen) (hbytes:(n+m)*bytes≤140737488355328) (hbase:base≤w.heap.size)
  (h:∀v' w',w'.ownsRow base e 1 v' (n+m) (xs++news)→w.grownBy w' v.ownBlock→(v'.ownBlock=v.ownBlock∨v'.ownBlock=some w.heap.size)→K (a.put o.dst v') w'):o.wp P a w K Q:=by
 obtain⟨v',w',hrun,h2,h3,h4⟩:=run_append_rd (P:=P) w base t o.type e i z bytes ht hi hz hsize hby hzs v n xs hown B A m c news hm hr h1 h63 hbytes hbase
 unfold Oper.wp execOp
 simp only[ho,resolve,invoke,builtin,Sem.run_bind,Sem.run_pure,Result.andThen_ok,List.map_toArray,List.map_cons,List.map_nil,hs,hx,hrun]
 exact h v' w' h2 h3 h4
theorem wpList_append_rd {ops:Array Oper} {rest:List Oper} {o:Oper} {a:Act} {Q:Exit→Act→World→Prop} (hgd:o.guard=none) (s x:Operand) (t:TypeId)
  (ho:o.op = .call {callee:=.builtin .append,args:=#[s,x],argTypes:=#[t,t]})
  (base:Nat) (e:TypeId) (i:TypeInfo) (z:Value) (bytes:Nat) (ht:P.underlying t=some (.slice e)) (hi:P.info? e=some i) (hz:i.zero=some z)
  (hsize:i.size=1) (hby:i.bytes=bytes) (hzs:z.cells.size=1)
  (v:Value) (n:Nat) (xs:List Value) (hs:a.eval s=v) (hown:w.ownsRow base e 1 v n xs)
  (B:Nat) (A:Option Addr) (m c:Nat) (news:List Value) (hx:a.eval x = .slice A m c) (hm:m=news.length) (hr:Rd w B A news) (h1:∀u∈news,u.oneCell'=true)
  (h63:n+m≤maxLen) (hbytes:(n+m)*bytes≤140737488355328) (hbase:base≤w.heap.size)
  (h:∀v' w',w'.ownsRow base e 1 v' (n+m) (xs++news)→w.grownBy w' v.ownBlock→(v'.ownBlock=v.ownBlock∨v'.ownBlock=some w.heap.size)→wpList P ops Q rest (a.put o.dst v') w'):wpList P ops Q (o :: rest) a w:=
 wpList_plain hgd fun _ hK=>wp_append_rd w s x t ho base e i z bytes ht hi hz hsize hby hzs v n xs hs hown B A m c news hx hm hr h1 h63 hbytes hbase fun v' w' h2 h3 h4=>hK _ _ (h v' w' h2 h3 h4)
end
def zeros (n:Nat):Array Value:=(List.replicate n (bv 0)).toArray
theorem zeros_size (n:Nat):(zeros n).size=n:=by simp [zeros]
def Fresh (w:World) (base b:Nat) (l:List UInt8):Prop:=
 base≤b∧b<w.heap.size∧∀i (h:i<l.length),w.cell? ⟨b,i,none⟩=some (bv l[i])∧w.frozen? ⟨b,i,none⟩=false
theorem Fresh.rd {w:World} {base b:Nat} {l:List UInt8} (h:Fresh w base b l):Rd w w.heap.size (some ⟨b,0,none⟩) (bvs l):=by
 refine .inr ⟨b,0,rfl,h.2.1,fun i u hu=>?_⟩
 have hi:i<l.length:=by
  rcases Nat.lt_or_ge i l.length with g | g
  ·exact g
  ·rw[List.getElem?_eq_none (by rw[bvs_length];exact g)] at hu;cases hu
 rw[bvs_at hi] at hu
 injection hu with hu
 subst hu
 rw[Nat.zero_add]
 exact(h.2.2 i hi).1
end Go.Proofs.Ytlacoakelliabaa.Mem
end

section
namespace Go.Proofs.Ytlacoakelliabaa.Open
open Go.ChangeShapes Go.WideShapes Go.ChangeAt Go.RowKit Go.Deep Go.Proofs.Ytlacoakelliabaa.Mem
theorem u8_of_wf {n:Int} (h:(Lit.int .u8 n).wf=true):∃b:UInt8,n=(b.toNat:Int):=by
 have hx:0≤n∧n≤255:=by simpa [Lit.wf,IntKind.min,IntKind.max,IntKind.signed,IntKind.bits] using h
 refine⟨UInt8.ofNat n.toNat,?_⟩
 have:(UInt8.ofNat n.toNat).toNat=n.toNat:=by simp;omega
 rw[this];omega
theorem addr_none {w:World} {x:Addr} {v:Value} (h:w.cell? x=some v):∃b o,x=⟨b,o,none⟩:=by
 obtain⟨b,o,s⟩:=x
 have:=World.cell?_spot h
 exact⟨b,o,by rw[show s=none from this]⟩
theorem rd_of_cells {w:World} {x:Addr} {xs:List Value} (h:∀i u,xs[i]? = some u→w.cell? (x.add i)=some u):Rd w w.heap.size (some x) xs:=by
 cases xs with
 |nil=>exact .inl rfl
 |cons a r=>
  have h0:=h 0 a rfl
  rw[show x.add 0=x by simp [Addr.add]] at h0
  obtain⟨b,o,rfl⟩:=addr_none h0
  exact .inr ⟨b,o,rfl,World.block_lt_of_cell? w _ h0,fun i u hu=>by have:=h i u hu;rwa [addr_add] at this⟩
theorem bytes_of_ints {k:Nat} {zs:List Int} (hk:k≤zs.length) (hw:∀n∈zs,(Lit.int .u8 n).wf=true):∃l:List UInt8,l.length=k∧∀i u,(bvs l)[i]? = some u→i<zs.length∧u = .int .u8 (zs.getD i 0):=by
 refine⟨(zs.take k).map fun n=>UInt8.ofNat n.toNat,by simp;omega,fun i u hu=>?_⟩
 have hi:i<k:=by
  rcases Nat.lt_or_ge i k with g | g
  ·exact g
  ·rw[List.getElem?_eq_none (by simp [bvs];omega)] at hu;cases hu
 have hz:i<zs.length:=by omega
 refine⟨hz,?_⟩
 obtain⟨b,hb⟩:=u8_of_wf (hw _ (List.getElem_mem hz))
 simp only[bvs,List.map_map,List.getElem?_map,List.getElem?_take,if_pos hi,List.getElem?_eq_getElem hz,Option.map_some,Function.comp] at hu
 injection hu with hu
 rw[←hu,List.getD,List.getElem?_eq_getElem hz,Option.getD_some,hb]
 simp [bv]
section
variable {H:Type} {enc:TypeId×Value→H} {P:Program} {W:World}
end
end Go.Proofs.Ytlacoakelliabaa.Open
end

section
namespace Go.Proofs.Ytlacoakelliabaa.Nm
abbrev L:=List UInt8
def split (c:UInt8):L→List L
 | []=>[[]]
 |x :: r=>if x=c then [] :: split c r else match split c r with
  | []=>[[x]]
  |a :: t=>(x :: a) :: t
end Go.Proofs.Ytlacoakelliabaa.Nm
end

section
namespace Go.Proofs.Ytlacoakelliabaa.Nm
open Go.RowKit Go.Proofs.Ytlacoakelliabaa.Mem
attribute [local go_sem] mk_at List.getElem_cons_zero List.getElem_cons_succ
def Fit (p:UInt8→Bool) (l:L) (k:Nat):Prop:=∀i (h:i<l.length),i<k→p l[i]=true
end Go.Proofs.Ytlacoakelliabaa.Nm
end

section
set_option linter.unusedVariables false
namespace Go.Proofs.Ytlacoakelliabaa.Nm
open Go.RowKit Go.Proofs.Ytlacoakelliabaa.Mem
theorem ext_take (l:List UInt8) (k:Nat):(ByteArray.mk l.toArray).extract 0 k=ByteArray.mk (l.take k).toArray:=by
 rw[ByteArray.extract_mk];simp
attribute [local go_sem] mk_at List.getElem_cons_zero List.getElem_cons_succ ext_tail ext_drop ext_mid ext_take
theorem size_mk (l:L):(ByteArray.mk l.toArray).size=l.length:=by simp [ByteArray.size]
def Drawn (w w':World):Prop:=∃n,w'=w.drewN n
theorem Drawn.refl (w:World):Drawn w w:=⟨0,rfl⟩
theorem Drawn.below {w w':World} (h:Drawn w w'):Below w.heap.size w w':=by
 obtain⟨n,rfl⟩:=h
 exact below_drewN (Below.refl _ _) n
theorem u8_row:(Try.prog.info? 5).map (fun i=>(i.zero,i.size,i.bytes))=some (some (.int .u8 0),1,1):=by kernel_rfl
theorem laid_any (s:L) (w:World):(Builtin.copy_ #[32,9] 3 #[.slice (some ⟨w.heap.size,0,none⟩) s.length s.length,.string ⟨s.toArray⟩]).run Try.prog (w.alloc (.cells (zeros s.length) 5)) = .ok (goInt s.length) (w.alloc (.cells (bvs s).toArray 5)):=by
 obtain⟨i0,hi,_,hs,_⟩:=info_parts u8_row
 have hk:=Blk.new w 5 (zeros s.length)
 have h:=Lib.run_copy_row_string (P:=Try.prog) _ 32 9 3 5 w.heap.size 0 s.length s.length ⟨s.toArray⟩ _ 5 Try.underlying32 (by rw[hi];simp [hs]) hk (by rw[size_mk];exact Nat.le_refl _) (by rw[size_mk,zeros_size];omega)
 rw[size_mk,World.setRow_alloc_new] at h
 have e:(zeros s.length).toList.take 0++Lib.byteCells s++(zeros s.length).toList.drop (0+s.length)=bvs s:=by
  rw[List.drop_of_length_le (by rw[Array.length_toList,zeros_size];omega)]
  simp [Lib.byteCells,bvs,bv]
 rw[e] at h
 exact h
end Go.Proofs.Ytlacoakelliabaa.Nm
end

section
set_option linter.unusedVariables false
namespace Go.Proofs.Ytlacoakelliabaa.Nm
open Go.RowKit Go.Proofs.Ytlacoakelliabaa.Mem
attribute [local go_sem] mk_at List.getElem_cons_zero List.getElem_cons_succ ext_tail ext_drop ext_mid ext_take
theorem Drawn.trans {a b c:World} (h:Drawn a b) (k:Drawn b c):Drawn a c:=by
 obtain⟨n,rfl⟩:=h
 obtain⟨m,rfl⟩:=k
 exact⟨n+m,by simp [World.drewN_drewN]⟩
end Go.Proofs.Ytlacoakelliabaa.Nm
end

section
set_option linter.unusedVariables false
namespace Go.Proofs.Ytlacoakelliabaa.Rg
open Go.Proofs.Ytlacoakelliabaa.Nm (L)
abbrev Pr:=L×L
structure It where
 p:Pr
 n:Nat
 k:Nat→UInt8
end Go.Proofs.Ytlacoakelliabaa.Rg
end

section
set_option linter.unusedVariables false
namespace Go.Proofs.Ytlacoakelliabaa.OpenP
open Go.Joins Go.ChangeShapes Go.WideShapes Go.ChangeAt Go.RowKit Go.Deep Go.Proofs.Ytlacoakelliabaa Go.Proofs.Ytlacoakelliabaa.Mem Go.Proofs.Ytlacoakelliabaa.Rg
theorem cut {α:Type} (cs:List α) (o c:Nat):cs.drop o=(cs.drop o).take c++cs.drop (o+c):=by
 rw[←List.drop_drop];exact(List.take_append_drop c _).symm
section
variable {H:Type} {enc:TypeId×Value→H} {W:World}
theorem c_str:Try.prog.cellsOf 9=1:=by kernel_rfl
theorem c_int:Try.prog.cellsOf 3=1:=by kernel_rfl
theorem c_u8:Try.prog.cellsOf 5=1:=by kernel_rfl
theorem c_pr:Try.prog.cellsOf 31=2:=by kernel_rfl
theorem in_str {n:Nat} {cs:List Value} {x:DataW H×List MemPlace} (h:DataW.trod enc Try.prog W 0 (fun _=>true) true n 9 cs=some x) (hw:∀n∈DataW.weights Try.prog 9 x.1,n≤reachBytes):∃l:List UInt8,cs = [.string ⟨l.toArray⟩]∧l.length≤reachBytes:=by
 obtain⟨s,hs,hx,hz⟩:=DataW.trod_string Try.underlying9 h
 exact⟨s.data.toList,by rw[hs,←Mem.bytes_eta s],hw _ (by rw[hx];simp [DataW.weights])⟩
theorem in_int {n:Nat} {cs:List Value} {x:DataW H×List MemPlace} (h:DataW.trod enc Try.prog W 0 (fun _=>true) true n 3 cs=some x):∃i:Int,cs = [.int .i64 i]∧(Lit.int .i64 i).wf=true:=by
 obtain⟨i,h1,_,h2⟩:=DataW.trod_int Try.underlying3 h
 exact⟨i,h1,h2⟩
theorem in_pr {n:Nat} {cs:List Value} {x:DataW H×List MemPlace} (h:DataW.trod enc Try.prog W 0 (fun _=>true) true n 31 cs=some x) (hw:∀n∈DataW.weights Try.prog 31 x.1,n≤reachBytes):∃p:Pr,cs = [.string ⟨p.1.toArray⟩,.string ⟨p.2.toArray⟩]∧p.1.length≤reachBytes∧p.2.length≤reachBytes:=by
 obtain⟨y0,y1,m,hx,hl,h0,h1⟩:=trod_struct2 Try.underlying31 h
 simp only[c_str] at h0 h1
 have fw:=fun(j:Nat) (t:TypeId) (d:DataW H) (ht:[9,9][j]? = some t) (hd:[y0.1,y1.1][j]? = some d) (n:Nat) (hn:n∈d.weights Try.prog t)=>hw n (by rw[hx];simp only[DataW.weights,Try.underlying31];exact DataW.weights_mem_each ht hd n hn)
 obtain⟨l0,e0,b0⟩:=in_str h0 (fw 0 _ _ rfl rfl)
 obtain⟨l1,e1,b1⟩:=in_str h1 (fw 1 _ _ rfl rfl)
 rw[c_pr] at hl
 refine⟨(l0,l1),?_,b0,b1⟩
 have k0:=cut cs 0 1
 have k1:=cut cs 1 1
 rw[e0] at k0
 rw[show 0+1=1 from rfl,k1,e1,List.drop_of_length_le (show cs.length≤1+1 by omega)] at k0
 exact k0
theorem fn_list {α:Type} {n:Nat} {p:Nat→α→Prop} (h:∀i,i<n→∃a,p i a):∃l:List α,l.length=n∧∀i (hi:i<l.length),p i l[i]:=by
 induction n with
 |zero=>exact⟨[],rfl,fun i hi=>by simp at hi⟩
 |succ n ih=>
  obtain⟨l,hl,hp⟩:=ih fun i hi=>h i (by omega)
  obtain⟨a,ha⟩:=h n (by omega)
  refine⟨l++[a],by simp [hl],fun i hi=>?_⟩
  rw[List.length_append,List.length_singleton] at hi
  by_cases g:i<l.length
  ·rw[List.getElem_append_left g];exact hp i g
  ·obtain rfl:i=l.length:=by omega
   rw[List.getElem_append_right (Nat.le_refl _)]
   simp only[Nat.sub_self,List.getElem_cons_zero]
   rw[hl];exact ha
theorem c_key:Try.prog.cellsOf 36=32:=by kernel_rfl
theorem in_key {n:Nat} {cs:List Value} {x:DataW H×List MemPlace} (h:DataW.trod enc Try.prog W 0 (fun _=>true) true n 36 cs=some x):∃k:Nat→UInt8,cs=(List.range 32).map (fun i=>bv (k i)):=by
 obtain⟨xs,m,_,hx,hl,hxl,hxs⟩:=DataW.trod_array Try.underlying36 h
 rw[c_key] at hl
 have each:∀i,i<32→∃b:UInt8,cs[i]? = some (bv b):=by
  intro i hi
  have g:=hxs i (by omega)
  rw[c_u8,Nat.mul_one,List.getElem?_eq_getElem (by omega)] at g
  obtain⟨v,h1,_,h2⟩:=DataW.trod_int Try.underlying5 g
  obtain⟨b,rfl⟩:=Open.u8_of_wf h2
  refine⟨b,?_⟩
  have e:=congrArg (fun l:List Value=>l[0]?) h1
  simp only[List.getElem?_cons_zero] at e
  rw[List.getElem?_take_of_lt (by omega),List.getElem?_drop,Nat.add_zero] at e
  exact e
 obtain⟨k,hk,hp⟩:=fn_list each
 refine⟨fun i=>k.getD i 0,List.ext_getElem? fun i=>?_⟩
 by_cases hi:i<32
 ·rw[hp i (by omega)]
  simp [hi,List.getD,List.getElem?_eq_getElem (show i<k.length by omega)]
 ·rw[List.getElem?_eq_none (by omega),List.getElem?_eq_none (by simp;omega)]
end
end Go.Proofs.Ytlacoakelliabaa.OpenP
end

section
set_option linter.unusedVariables false
namespace Go.Proofs.Ytlacoakelliabaa.Ca
open Go.Proofs.Ytlacoakelliabaa.Nm (L)
open Go.Proofs.Ytlacoakelliabaa.Rg (Pr)
structure Cr where
 s:Pr
 n:Int
 b:L
 k:Nat→UInt8
 e:Int
abbrev It:=Pr×Cr
def del (p:Pr) (t:Int) (i:It):Bool:=decide (i.2.e<t)||decide (i.1=p)
def rest (l:List It) (p:Pr) (t:Int):List It:=l.filter (fun i=>!del p t i)
def putL (l:List It) (p:Pr) (x:Cr) (t:Int):List It:=if (rest l p t).length<10 then rest l p t++[(p,x)] else rest l p t
def putE (l:List It) (p:Pr) (t:Int):Nat:=if (rest l p t).length<10 then 0 else 13
def hitG (p:Pr) (t:Int) (i:It):Bool:=decide (i.1=p)&&decide (t≤i.2.e)
def getO (l:List It) (p:Pr) (t:Int):Option It:=l.find? (hitG p t)
def live (l:List It) (t:Int):List It:=l.filter (fun i=>!decide (i.2.e<t))
def anew (p:Pr) (x:Cr) (i:It):It:=if i.1=p then (p,x) else i
def had (l:List It) (p:Pr):Bool:=l.any (fun i=>decide (i.1=p))
def docL (l:List It) (p:Pr) (x:Cr) (t:Int):List It:=
 if had (live l t) p=true then (live l t).map (anew p x) else if (live l t).length<10 then live l t++[(p,x)] else live l t
def docE (l:List It) (p:Pr) (t:Int):Nat:=if had (live l t) p=true then 0 else if (live l t).length<10 then 0 else 13
def Uniq (l:List It):Prop:=(l.map (·.1)).Nodup
theorem rest_live (l:List It) (p:Pr) (t:Int):rest l p t=(live l t).filter (fun i=>!decide (i.1=p)):=by
 unfold rest live del
 rw[List.filter_filter]
 congr 1
 funext i
 cases decide (i.2.e<t)<;>cases decide (i.1=p)<;>rfl
theorem uniq_sub {l m:List It} (h:m.Sublist l) (u:Uniq l):Uniq m:=List.Nodup.sublist (h.map (·.1)) u
theorem uniq_perm {l m:List It} (h:l.Perm m) (u:Uniq l):Uniq m:=by
 unfold Uniq at u⊢
 exact(h.map (fun i:It=>i.1)).nodup_iff.1 u
theorem not_had {l:List It} {p:Pr} (h:had l p=false):∀i∈l,i.1≠p:=by
 intro i hi e
 have:=List.any_eq_false.1 h i hi
 simp [e] at this
theorem out_not {l:List It} {p:Pr} (h:∀i∈l,i.1≠p):l.filter (fun i=>!decide (i.1=p))=l:=by
 rw[List.filter_eq_self]
 intro i hi
 simp [h i hi]
theorem anew_not {l:List It} {p:Pr} {x:Cr} (h:∀i∈l,i.1≠p):l.map (anew p x)=l:=by
 conv=>rhs;rw[←List.map_id l]
 refine List.map_congr_left fun i hi=>?_
 unfold anew
 rw[if_neg (h i hi)]
 rfl
theorem anew_perm {p:Pr} {x:Cr}:∀{l:List It},Uniq l→had l p=true→(l.map (anew p x)).Perm (l.filter (fun i=>!decide (i.1=p))++[(p,x)])
 | [],_,h=>by simp [had] at h
 |i :: l,u,h=>by
  obtain⟨u1,u2⟩:=List.nodup_cons.1 (show(i.1 :: l.map (·.1)).Nodup from u)
  by_cases g:i.1=p
  ·have hn:∀j∈l,j.1≠p:=fun j hj e=>u1 (List.mem_map.2 ⟨j,hj,by rw[e,g]⟩)
   rw[List.map_cons,anew_not hn,List.filter_cons,if_neg (by simp [g]),out_not hn,anew,if_pos g]
   exact(List.perm_append_singleton (p,x) l).symm
  ·have hh:had l p=true:=by
    unfold had at h⊢
    rw[List.any_cons] at h
    simpa [g] using h
   rw[List.map_cons,List.filter_cons,if_pos (by simp [g]),anew,if_neg g,List.cons_append]
   exact(anew_perm u2 hh).cons i
theorem had_len {p:Pr} {l:List It} (u:Uniq l) (h:had l p=true):(l.filter (fun i=>!decide (i.1=p))).length+1=l.length:=by
 have:=(anew_perm (x:=⟨p,0,[],fun _=>0,0⟩) u h).length_eq
 simp only[List.length_map,List.length_append,List.length_singleton] at this
 omega
theorem had_perm {l m:List It} (h:l.Perm m) (p:Pr):had l p=had m p:=by
 cases e:had m p with
 |false=>
  have hn:=not_had e
  unfold had
  rw[List.any_eq_false]
  intro i hi
  simp [hn i (h.mem_iff.1 hi)]
 |true=>
  obtain⟨i,hi,h2⟩:=List.any_eq_true.1 e
  exact List.any_eq_true.2 ⟨i,h.mem_iff.2 hi,h2⟩
theorem put_both {c d:List It} {p:Pr} {x:Cr} {t:Int} (hp:c.Perm d) (u:Uniq c) (hl:c.length≤10) :
  putE c p t=docE d p t∧(putL c p x t).Perm (docL d p x t)∧Uniq (putL c p x t)∧(putL c p x t).length≤10:=by
 have hlv:(live c t).Perm (live d t):=hp.filter _
 have ul:Uniq (live c t):=uniq_sub List.filter_sublist u
 have ud:Uniq (live d t):=uniq_perm hlv ul
 have hr:(rest c p t).Perm (rest d p t):=hp.filter _
 have hll:(live c t).length≤10:=Nat.le_trans (List.length_filter_le _ _) hl
 have hrl:(rest c p t).length≤10:=Nat.le_trans (List.length_filter_le _ _) hl
 have hlen:=hlv.length_eq
 have hrn:∀i∈rest c p t,i.1≠p:=fun i hi e=>by
  have:=(List.mem_filter.1 hi).2
  simp [del,e] at this
 have un:Uniq (rest c p t++[(p,x)]):=by
  unfold Uniq
  rw[List.map_append,List.nodup_append]
  refine⟨uniq_sub List.filter_sublist u,by simp,?_⟩
  intro a ha b hb
  obtain⟨i,hi,rfl⟩:=List.mem_map.1 ha
  simp at hb
  subst hb
  exact hrn i hi
 unfold putE docE putL docL
 cases e:had (live d t) p with
 |true=>
  have e2:had (live c t) p=true:=(had_perm hlv p).trans e
  have h1:=had_len ul e2
  rw[←rest_live] at h1
  have h2:(rest c p t).length<10:=by omega
  rw[if_pos h2,if_pos rfl,if_pos h2,if_pos rfl]
  refine⟨rfl,?_,un,by simp;omega⟩
  have h3:=anew_perm (x:=x) ud e
  rw[←rest_live] at h3
  exact(hr.append_right _).trans h3.symm
 |false=>
  have e2:had (live c t) p=false:=(had_perm hlv p).trans e
  have h1:rest c p t=live c t:=by rw[rest_live,out_not (not_had e2)]
  have h1d:rest d p t=live d t:=by rw[rest_live,out_not (not_had e)]
  rw[h1] at un hr⊢
  by_cases h2:(live c t).length<10
  ·rw[if_pos h2,if_neg (by simp),if_pos (by omega),if_pos h2,if_neg (by simp),if_pos (by omega)]
   exact⟨rfl,hlv.append_right _,un,by simp;omega⟩
  ·rw[if_neg h2,if_neg (by simp),if_neg (by omega),if_neg h2,if_neg (by simp),if_neg (by omega)]
   exact⟨rfl,hlv,ul,hll⟩
theorem get_both {c d:List It} {p:Pr} {t:Int} (hp:c.Perm d) (u:Uniq c):getO c p t=getO d p t:=by
 have key:∀{l:List It} {i:It},Uniq l→i∈l→hitG p t i=true→getO l p t=some i:=by
  intro l
  induction l with
  |nil=>intro i _ h;cases h
  |cons j l ih=>
   intro i u hi hh
   obtain⟨u1,u2⟩:=List.nodup_cons.1 (show(j.1 :: l.map (·.1)).Nodup from u)
   unfold getO
   rcases List.mem_cons.1 hi with h | h
   ·subst h;rw[List.find?_cons_of_pos hh]
   ·rw[List.find?_cons_of_neg]
    ·exact ih u2 h hh
    ·intro x
     have a1:j.1=p:=by unfold hitG at x;simp at x;exact x.1
     have a2:i.1=p:=by unfold hitG at hh;simp at hh;exact hh.1
     exact u1 (List.mem_map.2 ⟨i,h,by rw[a1,a2]⟩)
 have ud:Uniq d:=uniq_perm hp u
 cases e:getO c p t with
 |some i=>
  have h1:=List.mem_of_find?_eq_some e
  have h2:=List.find?_some e
  exact(key ud (hp.mem_iff.1 h1) h2).symm
 |none=>
  symm
  unfold getO at e⊢
  rw[List.find?_eq_none] at e⊢
  intro i hi
  exact e i (hp.mem_iff.2 hi)
end Go.Proofs.Ytlacoakelliabaa.Ca
end

section
set_option linter.unusedVariables false
namespace Go.Proofs.Ytlacoakelliabaa.Wh
open Go.RowKit Go.Proofs.Ytlacoakelliabaa.Mem
section
variable {w w':World} {g o:Nat} {t:TypeId} {cs ds ps:Array Value} {pre mid post:List Value}
theorem range_blk (h:Blk w g t cs):w.rangeAt g 0 cs.toList:=fun j v hv=>by
 rw[Nat.zero_add,h.cell];simpa using hv
theorem there_mid (h:Blk w g t cs) (o n:Nat) (hn:o+n≤cs.size):w.there g o n:=fun j hj=>by
 rw[h.cell,Array.getElem?_eq_getElem (by omega)]
 exact⟨rfl,h.frozen (o+j)⟩
theorem blk_cells_aux {g:Nat} {t:TypeId}:∀(vs:List Value) (o:Nat) (w:World) (cs:Array Value),Blk w g t cs→o+vs.length≤cs.size→
  ∃ds:Array Value,Blk (w.setCells g o vs) g t ds∧ds.size=cs.size∧(∀i,o≤i→i<o+vs.length→ds[i]? = vs[i - o]?)∧(∀i,i<o∨o+vs.length≤i→ds[i]? = cs[i]?)
 | [],o,w,cs,h,hl=>⟨cs,h,rfl,fun i h1 h2=>by simp at h2;omega,fun i _=>rfl⟩
 |v :: r,o,w,cs,h,hl=>by
  rw[World.setCells]
  simp only[List.length_cons] at hl
  obtain⟨ds,h1,h2,h3,h4⟩:=blk_cells_aux r (o+1) _ _ (h.set o v) (by simp;omega)
  simp only[List.length_cons]
  refine⟨ds,h1,by simpa using h2,fun i hi hj=>?_,fun i hi=>?_⟩
  ·by_cases e:i=o
   ·subst e
    rw[h4 i (by omega),Nat.sub_self]
    rw[Array.getElem?_setIfInBounds_self_of_lt (by omega)]
    rfl
   ·rw[h3 i (by omega) (by omega),show i - o=(i - (o+1))+1 by omega]
    simp
  ·rw[h4 i (by omega)]
   exact Array.getElem?_setIfInBounds_ne (by omega)
theorem blk_cells (h:Blk w g t cs) (hs:cs.size=ds.size):Blk (w.setCells g 0 ds.toList) g t ds:=by
 obtain⟨es,h1,h2,h3,_⟩:=blk_cells_aux ds.toList 0 w cs h (by simp;omega)
 have e:es=ds:=by
  apply Array.ext_getElem?
  intro i
  by_cases hi:i<ds.size
  ·rw[h3 i (by omega) (by simp;omega)];simp
  ·rw[Array.getElem?_eq_none (by omega),Array.getElem?_eq_none (by omega)]
 rw[←e];rw[←e] at h1;exact h1
theorem g_cells {row:Option Nat} {a:World} {g:Nat} (hp:row=some g∨a.heap.size≤g):∀(vs:List Value) (o:Nat) (w:World),a.grownBy w row→a.grownBy (w.setCells g o vs) row
 | [],_,_,h=>h
 |v :: r,o,w,h=>by rw[World.setCells];exact g_cells hp r (o+1) _ (g_set h (p:=⟨g,o,none⟩) hp v)
theorem put_mid (w:World) (g o:Nat) (vs:List Value):w.grownBy (w.setCells g o vs) (some g):=g_cells (.inl rfl) vs o w (World.grownBy.refl _ _)
end
section
variable {P:Program} {ops:Array Oper} {rest:List Oper} {op:Oper} {a:Act} {w:World} {Q:Exit→Act→World→Prop}
theorem load_g (hw:Region.wanted op (yielded ops a.tmps)=true) (ty:TypeId) (x:Operand) (ho:op.op = .load ty x)
  (g o:Nat) (hx:a.eval x = .pointer (some ⟨g,o,none⟩)) (cs:Array Value) (d:TypeDesc) (hc:w.rangeAt g o cs.toList)
  (hu:P.underlying ty=some d) (hd:d.isRow=true) (hi:(P.info? ty).map (·.size)=some cs.size)
  (h:wpList P ops Q rest (a.put op.dst (.agg cs)) w):wpList P ops Q (op :: rest) a w:=
 BigFrame.wpList_want hw fun _ hK=>wp_load_mid ty x ho g o hx cs.toList d hc hu hd (by rw[Array.length_toList];exact hi) (by simpa using hK _ _ h)
theorem stored_at (w:World) (t:TypeId) (lit cs:Array Value) (hs:lit.size=cs.size):Blk ((w.alloc (.cells lit t)).setCells w.heap.size 0 cs.toList) w.heap.size t cs∧Below w.heap.size w ((w.alloc (.cells lit t)).setCells w.heap.size 0 cs.toList):=
 ⟨blk_cells (Blk.new w t lit) hs,below_g ((Below.refl w.heap.size w).alloc (Nat.le_refl _) _) (put_mid _ _ _ _) (by simp) (Nat.le_refl _)⟩
theorem store_new {w0:World} {lit:Array Value} (hgd:op.guard=none) (ty:TypeId) (x y:Operand) (ho:op.op = .store ty x y) (t:TypeId) (hw:w=w0.alloc (.cells lit t))
  (cells:Array Value) (hx:a.eval x = .pointer (some ⟨w0.heap.size,0,none⟩)) (hy:a.eval y = .agg cells) (hs:lit.size=cells.size)
  (hi:(P.info? ty).map (·.size)=some cells.size) (h1:cells.all (·.oneCell')=true)
  (h:∀V,Blk V w0.heap.size t cells→Below w0.heap.size w0 V→wpList P ops Q rest (a.put op.dst undef) V):wpList P ops Q (op :: rest) a w:=by
 subst hw
 have hV:=stored_at w0 t lit cells hs
 exact wpList_store_mid hgd ty x y ho w0.heap.size 0 cells hx hy (there_mid (Blk.new w0 t lit) _ _ (by omega)) hi h1 (h _ hV.1 hV.2)
theorem store_over (hgd:op.guard=none) (ty:TypeId) (x y:Operand) (ho:op.op = .store ty x y) (g:Nat) (t:TypeId) (old:Array Value) (hb:Blk w g t old)
  (cells:Array Value) (hx:a.eval x = .pointer (some ⟨g,0,none⟩)) (hy:a.eval y = .agg cells) (hs:old.size=cells.size)
  (hi:(P.info? ty).map (·.size)=some cells.size) (h1:cells.all (·.oneCell')=true)
  (h:∀V,Blk V g t cells→w.grownBy V (some g)→wpList P ops Q rest (a.put op.dst undef) V):wpList P ops Q (op :: rest) a w:=
 wpList_store_mid hgd ty x y ho g 0 cells hx hy (there_mid hb _ _ (by omega)) hi h1 (h _ (blk_cells hb hs) (put_mid _ _ _ _))
theorem results_cell {fn:Func} {tmps:Array Value} {w:World} {v:Value} (t:Nat) (ty:TypeId) (a:Addr) (hres:fn.results=#[.cell t ty]) (ht:tmps.getD t undef = .pointer (some a)) (hl:(loadVar ty a).run P w = .ok v w) :
  (results fn tmps).run P w = .ok v w:=by
 have ht':tmps[t]?.getD undef = .pointer (some a):=by simpa using ht
 simp [results,hres,ht',asAddr,hl]
theorem load_blk {g:Nat} {t ty:TypeId} {cs:Array Value} {d:TypeDesc} (h:Blk w g t cs) (hu:P.underlying ty=some d) (hd:d.isRow=true) (hi:(P.info? ty).map (·.size)=some cs.size) :
  (loadVar ty ⟨g,0,none⟩).run P w = .ok (.agg cs) w:=by
 have:=run_loadVar_mid (P:=P) w g 0 ty cs.toList d (range_blk h) hu hd (by simpa using hi)
 simpa using this
theorem exec_load {w':World} {o:Oper} {g:Nat} {t ty:TypeId} {cs:Array Value} {d:TypeDesc} (x:Operand) (ho:o.op = .load ty x) (hx:a.eval x = .pointer (some ⟨g,0,none⟩)) (h:Blk w' g t cs) (hu:P.underlying ty=some d) (hd:d.isRow=true) (hi:(P.info? ty).map (·.size)=some cs.size) :
  (execOp a.eval o).run P w' = .ok (.value (.agg cs)) w':=by
 unfold execOp
 simp only[ho,hx,Instr.loadAt,Instr.sureAddr,Sem.run_bind,Sem.run_pure,Result.andThen_ok,load_blk h hu hd hi]
end
theorem fold_at (l:List Value):∀(k:Nat) (Z:Array Value),k+l.length≤Z.size→((l.zipIdx k).foldl (fun a x=>a.setIfInBounds (0+x.2) x.1) Z).size=Z.size∧∀i,((l.zipIdx k).foldl (fun a x=>a.setIfInBounds (0+x.2) x.1) Z)[i]? = if k≤i∧i<k+l.length then l[i - k]? else Z[i]?:=by
 induction l with
 |nil=>
  intro k Z h
  refine⟨rfl,fun i=>?_⟩
  rw[if_neg (by simp)]
  rfl
 |cons c l ih=>
  intro k Z h
  simp only[List.length_cons] at h
  obtain⟨h1,h2⟩:=ih (k+1) (Z.setIfInBounds (0+k) c) (by simp;omega)
  rw[List.zipIdx_cons,List.foldl_cons]
  refine⟨by rw[h1];simp,fun i=>?_⟩
  rw[h2]
  by_cases e:i=k
  ·subst e
   rw[if_neg (by omega),if_pos (by simp),Nat.sub_self,Nat.zero_add,Array.getElem?_setIfInBounds_self_of_lt (by omega)]
   rfl
  ·by_cases g:k+1≤i∧i<k+1+l.length
   ·rw[if_pos g,if_pos (by simp;omega),show i - k=(i - (k+1))+1 by omega]
    simp
   ·rw[if_neg g,if_neg (by simp;omega),Array.getElem?_setIfInBounds_ne (by omega)]
theorem fill_one (cs Z:Array Value) (n:Nat) (hn:cs.size=n) (hz:Z.size=n):Instr.fill (fun i=>some (i*n,n)) Z [(0,.agg cs)]=some cs:=by
 have hf:=fold_at cs.toList 0 Z (by simp;omega)
 have e:cs.zipIdx.foldl (fun a (x:Value×Nat)=>a.setIfInBounds (0+x.2) x.1) Z=cs:=by
  rw[←Array.foldl_toList,Array.toList_zipIdx]
  apply Array.ext_getElem?
  intro i
  rw[hf.2]
  by_cases g:i<cs.size
  ·rw[if_pos (by simp;omega)];simp
  ·rw[if_neg (by simp;omega),Array.getElem?_eq_none (by omega),Array.getElem?_eq_none (by omega)]
 have hc:(Value.agg cs).cells=cs:=rfl
 unfold Instr.fill
 simp only[Nat.zero_mul,hc]
 rw[if_neg (by simp;omega)]
 unfold Instr.fill
 congr 1
section
variable {P:Program}
theorem run_build_one (w:World) (t e:TypeId) (cs:Array Value) (ie:TypeInfo) (z:Value) (hu:P.underlying t=some (.slice e)) (hie:P.info? e=some ie) (hz:ie.zero=some z) (hs:ie.size=cs.size) (h0:0<cs.size) (h24:cs.size≤16777216) :
  (Instr.buildSlice t 1 #[(0,.agg cs)]).run P w = .ok (.slice (some ⟨w.heap.size,0,none⟩) 1 1) (w.alloc (.cells cs e)):=
 run_buildSlice w t e 1 _ cs ie z hu hie hz (by rw[hs];omega) (by rw[hs];omega) (fill_one cs _ ie.size hs.symm (by simp))
theorem build_one {ops:Array Oper} {rest:List Oper} {o:Oper} {a:Act} {w:World} {Q:Exit→Act→World→Prop} (hg:o.guard=none) (t e:TypeId) (x:Operand) (ho:o.op = .buildSlice t 1 #[(0,x)]) (cs:Array Value) (hx:a.eval x = .agg cs)
  (ie:TypeInfo) (z:Value) (hu:P.underlying t=some (.slice e)) (hie:P.info? e=some ie) (hz:ie.zero=some z) (hs:ie.size=cs.size) (h0:0<cs.size) (h24:cs.size≤16777216)
  (h:∀W,W=w.alloc (.cells cs e)→wpList P ops Q rest (a.put o.dst (.slice (some ⟨w.heap.size,0,none⟩) 1 1)) W):wpList P ops Q (o :: rest) a w:=by
 refine wpList_plain hg fun _ hK=>?_
 unfold Oper.wp execOp
 simp only[ho,Sem.run_bind,List.map_toArray,List.map_cons,List.map_nil,hx,run_build_one w t e cs ie z hu hie hz hs h0 h24,Result.andThen_ok]
 exact hK _ _ (h _ rfl)
end
theorem app_run {P:Program} {α:Type} (f:α→List Value) (n bytes:Nat) (hf:∀x,(f x).length=n) (h1:∀x,∀u∈f x,u.oneCell'=true) (w:World) (t ty e:TypeId) (i:TypeInfo) (z:Value) (ht:P.underlying t=some (.slice e)) (hi:P.info? e=some i) (hz:i.zero=some z) (hs:i.size=n) (hb:i.bytes=bytes) (hzs:z.cells.size=n) (hn:0<n)
  (base:Nat) (v:Value) (l:List α) (hown:w.ownsRow base e n v l.length (l.flatMap f)) (x:α) (g:Nat) (hg:Blk w g e (f x).toArray) (hl:l.length+1≤100000) (hby:bytes≤10000) (hbase:base≤w.heap.size) :
  ∃v' w',(Builtin.append_ #[t,t] ty #[v,.slice (some ⟨g,0,none⟩) 1 1]).run P w = .ok v' w'∧w'.ownsRow base e n v' (l++[x]).length ((l++[x]).flatMap f)∧w.grownBy w' v.ownBlock∧(v'.ownBlock=v.ownBlock∨v'.ownBlock=some w.heap.size):=by
 obtain⟨v',w',h2,h3,h4,_,h5⟩:=run_append_own_at (P:=P) w base t ty e i z n bytes ht hi hz hs hb hzs hn v l.length (l.flatMap f) hown ⟨g,0,none⟩ 1 1 (f x) (by rw[hf];omega) (fun j u hu=>by
  rw[addr_add,Nat.zero_add,hg.cell j]
  simpa using hu) (h1 x) (by unfold maxLen;omega) (by
   have:(l.length+1)*bytes≤100000*10000:=Nat.mul_le_mul hl hby
   omega) hbase
 exact⟨v',w',h2,by rw[List.length_append,List.flatMap_append,List.flatMap_singleton];exact h3,h4,h5⟩
theorem app_one {P:Program} {α:Type} (f:α→List Value) (n bytes:Nat) (hf:∀x,(f x).length=n) (h1:∀x,∀u∈f x,u.oneCell'=true) {ops:Array Oper} {rest:List Oper} {o:Oper} {a:Act} {w:World} {Q:Exit→Act→World→Prop} (hgd:o.guard=none) (s x:Operand) (t e:TypeId)
  (ho:o.op = .call {callee:=.builtin .append,args:=#[s,x],argTypes:=#[t,t]}) (i:TypeInfo) (z:Value) (ht:P.underlying t=some (.slice e)) (hi:P.info? e=some i) (hz:i.zero=some z) (hs:i.size=n) (hb:i.bytes=bytes) (hzs:z.cells.size=n) (hn:0<n) (hby:bytes≤10000)
  (base:Nat) (v:Value) (l:List α) (hv:a.eval s=v) (hown:w.ownsRow base e n v l.length (l.flatMap f)) (y:α) (g:Nat) (hx:a.eval x = .slice (some ⟨g,0,none⟩) 1 1) (hg:Blk w g e (f y).toArray) (hl:l.length+1≤100000) (hbase:base≤w.heap.size)
  (h:∀v' w',w'.ownsRow base e n v' (l++[y]).length ((l++[y]).flatMap f)→w.grownBy w' v.ownBlock→(v'.ownBlock=v.ownBlock∨v'.ownBlock=some w.heap.size)→wpList P ops Q rest (a.put o.dst v') w'):wpList P ops Q (o :: rest) a w:=by
 obtain⟨v',w',hrun,h2,h3,h4⟩:=app_run (P:=P) f n bytes hf h1 w t o.type e i z ht hi hz hs hb hzs hn base v l hown y g hg hl hby hbase
 refine wpList_plain hgd fun J hJ=>?_
 unfold Oper.wp execOp
 simp only[ho,resolve,invoke,builtin,Sem.run_bind,Sem.run_pure,Result.andThen_ok,List.map_toArray,List.map_cons,List.map_nil,hv,hx,hrun]
 exact hJ _ _ (h v' w' h2 h3 h4)
end Go.Proofs.Ytlacoakelliabaa.Wh
end

section
namespace Go.Proofs.Ytlacoakelliabaa.Sp
open Go.RowKit Go.Proofs.Ytlacoakelliabaa.Mem
abbrev Wd:=BitVec 32
end Go.Proofs.Ytlacoakelliabaa.Sp
end

section
namespace Go.Proofs.Ytlacoakelliabaa.Si
open Go.RowKit Go.Proofs.Ytlacoakelliabaa.Mem
abbrev Wd:=BitVec 64
structure V where
 a:Wd
 b:Wd
 c:Wd
 d:Wd
end Go.Proofs.Ytlacoakelliabaa.Si
end

section
namespace Go.Proofs.Ytlacoakelliabaa.Se
open Go.RowKit Go.Proofs.Ytlacoakelliabaa.Mem
def w8 (n:Nat):List UInt8:=(List.range 8).map fun j=>UInt8.ofNat (n / 2 ^ (56 - 8*j))
def big:Nat→List UInt8→Nat
 |a,[]=>a
 |a,b :: l=>big (a*256+b.toNat) l
def k2 (ks:Nat→UInt8) (i:Nat):UInt8:=ks (16+i)
end Go.Proofs.Ytlacoakelliabaa.Se
end

section
set_option linter.unusedVariables false
namespace Go.Proofs.Ytlacoakelliabaa.Sp
open Go.RowKit Go.Proofs.Ytlacoakelliabaa.Mem
def Drawn (w w':World):Prop:=∃n,w'=w.drewN n
theorem Drawn.refl (w:World):Drawn w w:=⟨0,rfl⟩
end Go.Proofs.Ytlacoakelliabaa.Sp
end

section
set_option linter.unusedVariables false
namespace Go.Proofs.Ytlacoakelliabaa.Sp
open Go.RowKit Go.Proofs.Ytlacoakelliabaa.Mem
theorem Blk.far {w:World} {g:Nat} {t:TypeId} {cs:Array Value} (h:Blk w g t cs) (p:Addr) (u:Value) (hp:p.block≠g):Blk (w.setCell p u) g t cs:=
 (Below.heap_setCell w p u g (fun e=>hp e.symm)).trans h
end Go.Proofs.Ytlacoakelliabaa.Sp
end

section
set_option linter.unusedVariables false
namespace Go.Proofs.Ytlacoakelliabaa.Sp
open Go.RowKit Go.Proofs.Ytlacoakelliabaa.Mem
theorem below_set {B:Nat} {a w:World} (h:Below B a w) {p:Addr} (hp:B≤p.block) (u:Value):Below B a (w.setCell p u):=
 ⟨h.os,h.tape,h.output,by simpa [World.setCell] using h.size,fun i hi=>(Below.heap_setCell w p u i (by omega)).trans (h.block i hi)⟩
theorem results_cell {P:Program} {fn:Func} {tmps:Array Value} {w:World} {v:Value} (t:Nat) (ty:TypeId) (a:Addr) (hres:fn.results=#[.cell t ty]) (ht:tmps.getD t undef = .pointer (some a)) (hl:(loadVar ty a).run P w = .ok v w) :
  (results fn tmps).run P w = .ok v w:=by
 have ht':tmps[t]?.getD undef = .pointer (some a):=by simpa using ht
 simp [results,hres,ht',asAddr,hl]
theorem load_blk {P:Program} {w:World} {g:Nat} {t ty:TypeId} {cs:Array Value} {d:TypeDesc} (h:Blk w g t cs) (hu:P.underlying ty=some d) (hd:d.isRow=true) (hi:(P.info? ty).map (·.size)=some cs.size) :
  (loadVar ty ⟨g,0,none⟩).run P w = .ok (.agg cs) w:=by
 have hc:w.rangeAt g 0 cs.toList:=fun j v hv=>by rw[Nat.zero_add,h.cell];simpa using hv
 have:=run_loadVar_mid (P:=P) w g 0 ty cs.toList d hc hu hd (by simpa using hi)
 simpa using this
end Go.Proofs.Ytlacoakelliabaa.Sp
end

section
set_option linter.unusedVariables false
namespace Go.Proofs.Ytlacoakelliabaa.Si
open Go.RowKit Go.Proofs.Ytlacoakelliabaa.Mem
theorem below_set {B:Nat} {a w:World} (h:Below B a w) {p:Addr} (hp:B≤p.block) (u:Value):Below B a (w.setCell p u):=
 ⟨h.os,h.tape,h.output,by simpa [World.setCell] using h.size,fun i hi=>(Below.heap_setCell w p u i (by omega)).trans (h.block i hi)⟩
theorem results_cell {P:Program} {fn:Func} {tmps:Array Value} {w:World} {v:Value} (t:Nat) (ty:TypeId) (a:Addr) (hres:fn.results=#[.cell t ty]) (ht:tmps.getD t undef = .pointer (some a)) (hl:(loadVar ty a).run P w = .ok v w) :
  (results fn tmps).run P w = .ok v w:=by
 have ht':tmps[t]?.getD undef = .pointer (some a):=by simpa using ht
 simp [results,hres,ht',asAddr,hl]
theorem load_blk {P:Program} {w:World} {g:Nat} {t ty:TypeId} {cs:Array Value} {d:TypeDesc} (h:Blk w g t cs) (hu:P.underlying ty=some d) (hd:d.isRow=true) (hi:(P.info? ty).map (·.size)=some cs.size) :
  (loadVar ty ⟨g,0,none⟩).run P w = .ok (.agg cs) w:=by
 have hc:w.rangeAt g 0 cs.toList:=fun j v hv=>by rw[Nat.zero_add,h.cell];simpa using hv
 have:=run_loadVar_mid (P:=P) w g 0 ty cs.toList d hc hu hd (by simpa using hi)
 simpa using this
theorem Blk.far {w:World} {g:Nat} {t:TypeId} {cs:Array Value} (h:Blk w g t cs) (p:Addr) (u:Value) (hp:p.block≠g):Blk (w.setCell p u) g t cs:=
 (Below.heap_setCell w p u g (fun e=>hp e.symm)).trans h
theorem range_blk {w:World} {g:Nat} {t:TypeId} {cs:Array Value} (h:Blk w g t cs):w.rangeAt g 0 cs.toList:=fun j v hv=>by
 rw[Nat.zero_add,h.cell];simpa using hv
end Go.Proofs.Ytlacoakelliabaa.Si
end

section
set_option linter.unusedVariables false
namespace Go.Proofs.Ytlacoakelliabaa.Si
open Go.RowKit Go.Proofs.Ytlacoakelliabaa.Mem
def Rows (w:World) (B:Nat) (A:Option Addr) (rows:List (List UInt8)):Prop:=
 ∃vs:List Value,vs.length=rows.length∧Rd w B A vs∧∀i (h:i<rows.length),∃(Ai:Option Addr) (ci:Nat),vs[i]? = some (.slice Ai (rows[i]).length ci)∧Rd w B Ai (bvs rows[i])
theorem Rows.below {w w':World} {B:Nat} {A:Option Addr} {rows:List (List UInt8)} (h:Rows w B A rows) (hb:Below B w w'):Rows w' B A rows:=by
 obtain⟨vs,h1,h2,h3⟩:=h
 refine⟨vs,h1,h2.below hb,fun i hi=>?_⟩
 obtain⟨Ai,ci,h4,h5⟩:=h3 i hi
 exact⟨Ai,ci,h4,h5.below hb⟩
theorem Rows.more {w:World} {B B':Nat} {A:Option Addr} {rows:List (List UInt8)} (h:Rows w B A rows) (hB:B≤B'):Rows w B' A rows:=by
 obtain⟨vs,h1,h2,h3⟩:=h
 refine⟨vs,h1,h2.more hB,fun i hi=>?_⟩
 obtain⟨Ai,ci,h4,h5⟩:=h3 i hi
 exact⟨Ai,ci,h4,h5.more hB⟩
end Go.Proofs.Ytlacoakelliabaa.Si
end

section
set_option linter.unusedVariables false
namespace Go.Proofs.Ytlacoakelliabaa.Si
open Go.RowKit Go.Proofs.Ytlacoakelliabaa.Mem
theorem Rd.drop {w:World} {B:Nat} {x:Addr} {l:List UInt8} (h:Rd w B (some x) (bvs l)) (p:Nat):Rd w B (some (x.add p)) (bvs (l.drop p)):=by
 rcases h with h | ⟨b,o,h1,h2,h3⟩
 ·left
  have:l = []:=List.map_eq_nil_iff.1 h
  rw[this];simp [bvs]
 ·injection h1 with h1
  subst h1
  rw[addr_add]
  refine .inr ⟨b,o+p,rfl,h2,fun i u hu=>?_⟩
  have:(bvs l)[p+i]? = some u:=by
   rw[←hu];simp [bvs,List.getElem?_drop]
  have:=h3 _ _ this
  rwa [Nat.add_assoc]
theorem Rd.take {w:World} {B:Nat} {A:Option Addr} {l:List UInt8} (h:Rd w B A (bvs l)) (k:Nat):Rd w B A (bvs (l.take k)):=by
 rcases h with h | ⟨b,o,h1,h2,h3⟩
 ·left
  have:l = []:=List.map_eq_nil_iff.1 h
  rw[this];simp [bvs]
 ·refine .inr ⟨b,o,h1,h2,fun i u hu=>h3 i u ?_⟩
  rw[←hu]
  have hi:i<k:=by
   rcases Nat.lt_or_ge i k with g | g
   ·exact g
   ·rw[List.getElem?_eq_none (by simp [bvs];omega)] at hu;cases hu
  simp [bvs,hi]
end Go.Proofs.Ytlacoakelliabaa.Si
end
