import Derived.WalkKit
import Derived.WalkSpells
import Derived.WalkLawsBesides
import Derived.LaidEqlPtr
import Derived.Maps.AppendAt
import Derived.Maps.Range
import Derived.Maps.RangeWalk
import Derived.Deep.AppendLies
import Derived.Deep.Draws
import Derived.Deep.Onto
import Derived.Lib.ConvBytes
import Derived.Lib.Hide
import Derived.RegionTactic
import Derived.Deep.QuietTactic
import Derived.BigQuiet
import Derived.Laws.BitsAllLaws
import Derived.Laws.BitsLemmas
import Derived.ProofKit
import Derived.OpenShut
import Derived.ShutString
import Derived.ChangeOld
import Derived.Deep.Matrix
import Derived.Deep.Slices
import Derived.Test.YtlihoeipmjbnbaaProg
import Derived.Lib.Strings
import Derived.Lib.Walk
import Derived.Lib.Bytealg
import Derived.Lib.BufferWrite
import Derived.Lib.UnsafeStr
import Derived.Laws.MakeOwn
import Derived.Laws.OwnMore
import Derived.Deep.WholeRow
import Derived.Deep.LoopGhost
import Derived.SizedLaws
import Derived.Test.YtlihoeipmjbnbaaRows
import Derived.Lib.SmallJoins
import Derived.Deep.Strs
import Derived.ChangeSame
import Derived.Deep.MidRow
import Derived.BigFrame
import Derived.Great.BuildSlice
import Derived.Laws.Bits64
import Derived.Laws.Bits64b
import Derived.Deep.RegionHeld3
import Derived.Deep.Cut
import Derived.Deep.CutRange
import Derived.Deep.CutBlock
import Derived.StillTailTactics
section
namespace Go.Proofs.Ytlihoeipmjbnbaa.Mem
open Go.RowKit
theorem mk_at (l:List UInt8) (i:Nat) (h:i<(ByteArray.mk l.toArray).size):(ByteArray.mk l.toArray)[i]'h=l[i]'(by simpa [ByteArray.size] using h):=rfl
theorem ext_tail (a:UInt8) (r:List UInt8):(ByteArray.mk (a :: r).toArray).extract 1 (r.length+1)=ByteArray.mk r.toArray:=by
 rw[ByteArray.extract_mk];simp
theorem ext_drop (l:List UInt8) (k:Nat):(ByteArray.mk l.toArray).extract k l.length=ByteArray.mk (l.drop k).toArray:=by
 rw[ByteArray.extract_mk,List.take_of_length_le (by simp)]
theorem ext_mid (l:List UInt8) (k n:Nat):(ByteArray.mk l.toArray).extract k (k+n)=ByteArray.mk ((l.drop k).take n).toArray:=by
 rw[ByteArray.extract_mk,Nat.add_sub_cancel_left]
def bv (b:UInt8):Value:=.int .u8 (b.toNat:Int)
def bvs (l:List UInt8):List Value:=l.map bv
theorem bvs_length (l:List UInt8):(bvs l).length=l.length:=by simp [bvs]
theorem bvs_one (l:List UInt8):∀u∈bvs l,u.oneCell'=true:=by
 intro u hu
 obtain⟨b,_,rfl⟩:=List.mem_map.1 hu
 rfl
theorem bvs_at {l:List UInt8} {i:Nat} (h:i<l.length):(bvs l)[i]? = some (bv l[i]):=by simp [bvs,h]
def Rd (w:World) (B:Nat) (A:Option Addr) (xs:List Value):Prop:=
 xs = []∨∃b o,A=some ⟨b,o,none⟩∧b<B∧∀i u,xs[i]? = some u→w.cell? ⟨b,o+i,none⟩=some u
def Blk (w:World) (g:Nat) (t:TypeId) (cs:Array Value):Prop:=w.heap[g]? = some (.cells cs t (0,0))
theorem addr_add (b o j:Nat):(⟨b,o,none⟩:Addr).add j=⟨b,o+j,none⟩:=by unfold Addr.add;split<;>simp_all
section
variable {w w' a c:World} {B B' g:Nat} {A:Option Addr} {xs:List Value} {t:TypeId} {cs:Array Value}
theorem below_drewN (h:Below B a w) (n:Nat):Below B a (w.drewN n):=⟨h.os,h.tape,h.output,h.size,h.block⟩
theorem g_drew {row:Option Nat} (h:a.grownBy w row):a.grownBy w.drew row:=⟨h.os,h.tape,h.output,h.size,h.block⟩
theorem g_set {row:Option Nat} (h:a.grownBy w row) {p:Addr} (hp:row=some p.block∨a.heap.size≤p.block) (u:Value):a.grownBy (w.setCell p u) row:=
 ⟨h.os,h.tape,h.output,by simpa [World.setCell] using h.size,fun i hi hne=>(Below.heap_setCell w p u i (by
  rintro rfl
  rcases hp with hp | hp
  ·exact hne hp.symm
  ·omega)).trans (h.block i hi hne)⟩
theorem below_of_g (h:a.grownBy w none):Below a.heap.size a w:=⟨h.os,h.tape,h.output,h.size,fun i hi=>h.block i hi (by simp)⟩
theorem below_g (h:Below B a w) (k:w.grownBy c (some g)) (hB:B≤w.heap.size) (hg:B≤g):Below B a c:=
 h.grown k hB (fun j hj=>by injection hj with hj;omega)
theorem btg (h:Below a.heap.size a w) (k:w.grownBy c (some g)) (hg:a.heap.size≤g):Below a.heap.size a c:=below_g h k h.size hg
theorem Blk.lt (h:Blk w g t cs):g<w.heap.size:=by
 rcases Nat.lt_or_ge g w.heap.size with h1 | h1
 ·exact h1
 ·unfold Blk at h;rw[Array.getElem?_eq_none h1] at h;cases h
theorem Blk.cell (h:Blk w g t cs) (i:Nat):w.cell? ⟨g,i,none⟩=cs[i]?:=cell_of_row w g i cs t (0,0) h
theorem Blk.frozen (h:Blk w g t cs) (i:Nat):w.frozen? ⟨g,i,none⟩=false:=by
 unfold Blk at h
 simp [World.frozen?,h]
theorem Blk.new (w:World) (t:TypeId) (cs:Array Value):Blk (w.alloc (.cells cs t)) w.heap.size t cs:=heap_alloc_new w _
theorem Blk.drewN (h:Blk w g t cs) (n:Nat):Blk (w.drewN n) g t cs:=h
theorem Blk.alloc (h:Blk w g t cs) (o:Obj):Blk (w.alloc o) g t cs:=(Below.heap_alloc w o g h.lt).trans h
theorem Blk.set (h:Blk w g t cs) (i:Nat) (u:Value):Blk (w.setCell ⟨g,i,none⟩ u) g t (cs.setIfInBounds i u):=by
 unfold Blk at h⊢
 simp [World.setCell,Array.getElem?_modify,h]
theorem Blk.below (h:Blk w g t cs) (hb:Below w.heap.size w w'):Blk w' g t cs:=(hb.block g h.lt).trans h
theorem Blk.grown {row:Option Nat} (h:Blk w g t cs) (hb:w.grownBy w' row) (hg:row≠some g):Blk w' g t cs:=(hb.block g h.lt (fun e=>hg e.symm)).trans h
theorem Rd.nil:Rd w B A []:=.inl rfl
theorem Rd.keep (h:Rd w B A xs) (hk:∀b o,b<B→w'.cell? ⟨b,o,none⟩=w.cell? ⟨b,o,none⟩):Rd w' B A xs:=by
 rcases h with h | ⟨b,o,h1,h2,h3⟩
 ·exact .inl h
 ·exact .inr ⟨b,o,h1,h2,fun i u hu=>(hk _ _ h2).trans (h3 i u hu)⟩
theorem Rd.more (h:Rd w B A xs) (hB:B≤B'):Rd w B' A xs:=by
 rcases h with h | ⟨b,o,h1,h2,h3⟩
 ·exact .inl h
 ·exact .inr ⟨b,o,h1,by omega,h3⟩
theorem Rd.below (h:Rd w B A xs) (hb:Below B w w'):Rd w' B A xs:=h.keep fun _ _ hp=>hb.cell hp
theorem Rd.drewN (h:Rd w B A xs) (n:Nat):Rd (w.drewN n) B A xs:=h.keep fun _ _ _=>rfl
theorem Rd.alloc (h:Rd w B A xs) (hB:B≤w.heap.size) (o:Obj):Rd (w.alloc o) B A xs:=
 h.below ((Below.refl B w).alloc hB o)
theorem Rd.grown {row:Option Nat} (h:Rd w B A xs) (hg:w.grownBy w' row) (hB:B≤w.heap.size) (hr:∀k,row=some k→B≤k):Rd w' B A xs:=
 h.below ((Below.refl B w).grown hg hB hr)
theorem Rd.of_own {base n cap:Nat} (h:w.ownsRow base t 1 (.slice A n cap) n xs):Rd w w.heap.size A xs:=by
 rcases h.2 with⟨_,h2⟩ | ⟨g,cap',cur,hv,_,hh,_⟩
 ·left
  have h1:=h.1
  rw[h2] at h1
  exact List.eq_nil_of_length_eq_zero (by simpa using h1)
 ·right
  injection hv with hA _ _
  subst hA
  exact⟨g,0,rfl,(Array.getElem?_eq_some_iff.1 hh).1,fun i u hu=>by
   have:=h.cells (g:=g) rfl i u hu
   rwa [addr_add] at this⟩
theorem Rd.at_ {i:Nat} {u:Value} (h:Rd w B A xs) (hi:xs[i]? = some u):∃b o,A=some ⟨b,o,none⟩∧b<B∧w.cell? ⟨b,o+i,none⟩=some u:=by
 rcases h with h | ⟨b,o,h1,h2,h3⟩
 ·subst h;simp at hi
 ·exact⟨b,o,h1,h2,h3 i u hi⟩
end
section
variable {P:Program} (w:World)
theorem run_bytes_str {B:Nat} {A:Option Addr} {l:List UInt8} (src e:TypeId) (hs:P.underlying src=some (.slice e)) (he:P.underlying e=some (.int .u8)) (h:Rd w B A (bvs l)) (n c:Nat) (hn:n=l.length)
  (dst:TypeId) (hd:P.underlying dst=some .string):(convert src dst (.slice A n c)).run P w = .ok (.string ⟨l.toArray⟩) w:=by
 subst hn
 have key:∀a:Addr,A=some a→(∀i u,(bvs l)[i]? = some u→w.cell? (a.add i)=some u)→(convert src dst (.slice A l.length c)).run P w = .ok (.string ⟨l.toArray⟩) w:=by
  intro a ha hc
  subst ha
  have e1:(l.map fun b=>(b.toNat:Int)).map (Value.int .u8)=bvs l:=by simp [bvs,bv,Function.comp_def]
  have hl:(loadCells a l.length).run P w = .ok ((l.map fun b=>(b.toNat:Int)).map (Value.int .u8)).toArray w:=by
   have:=run_loadCells_list (P:=P) w a (bvs l) hc
   rw[bvs_length] at this
   rw[e1];exact this
  rw[run_convert_bytes_string w src dst e _ _ c hs he hd,run_bytesToString w a l.length c _ hl,foldl_push_bytes]
  have e2:((l.map fun b=>(b.toNat:Int)).map fun n=>UInt8.ofNat n.toNat)=l:=by
   rw[List.map_map]
   conv=>rhs;rw[←List.map_id l]
   apply List.map_congr_left
   intro b _
   simp
  rw[e2]
  simp [ByteArray.empty,ByteArray.emptyWithCapacity]
  rfl
 cases hA:A with
 |some a=>
  rw[←hA]
  refine key a hA ?_
  rcases h with h | ⟨b,o,h1,_,h3⟩
  ·rw[h];intro i u hu;simp at hu
  ·rw[hA] at h1
   injection h1 with h1
   subst h1
   intro i u hu
   rw[addr_add];exact h3 i u hu
 |none=>
  have hl:l = []:=by
   rcases h with h | ⟨b,o,h1,_,_⟩
   ·exact List.map_eq_nil_iff.1 h
   ·rw[hA] at h1;cases h1
  subst hl
  rw[run_convert_bytes_nil w src e hs he _ c dst hd]
  rfl
theorem run_append_rd (base:Nat) (t ty e:TypeId) (i:TypeInfo) (z:Value) (bytes:Nat) (ht:P.underlying t=some (.slice e)) (hi:P.info? e=some i) (hz:i.zero=some z)
  (hsize:i.size=1) (hby:i.bytes=bytes) (hzs:z.cells.size=1)
  (v:Value) (n:Nat) (xs:List Value) (hown:w.ownsRow base e 1 v n xs)
  (B:Nat) (A:Option Addr) (m c:Nat) (news:List Value) (hm:m=news.length) (hr:Rd w B A news) (h1:∀u∈news,u.oneCell'=true)
  (h63:n+m≤maxLen) (hbytes:(n+m)*bytes≤140737488355328) (hbase:base≤w.heap.size) :
  ∃v' w',(Builtin.append_ #[t,t] ty #[v,.slice A m c]).run P w = .ok v' w'∧w'.ownsRow base e 1 v' (n+m) (xs++news)∧w.grownBy w' v.ownBlock∧
   (v'.ownBlock=v.ownBlock∨v'.ownBlock=some w.heap.size):=by
 subst hm
 cases hA:A with
 |some a=>
  have hc:∀j u,news[j]? = some u→w.cell? (a.add j)=some u:=by
   rcases hr with h | ⟨b,o,h1,_,h3⟩
   ·rw[h];intro i u hu;simp at hu
   ·rw[hA] at h1
    injection h1 with h1
    subst h1
    intro i u hu
    rw[addr_add];exact h3 i u hu
  obtain⟨v',w',hrun,h2,h3,_,h5⟩:=run_append_own_at (P:=P) w base t ty e i z 1 bytes ht hi hz hsize hby hzs (by omega) v n xs hown a news.length c news (by omega) hc h1 h63 hbytes hbase
  exact⟨v',w',hrun,h2,h3,h5⟩
 |none=>
  have hn:news = []:=by
   rcases hr with h | ⟨b,o,h1,_,_⟩
   ·exact h
   ·rw[hA] at h1;cases h1
  subst hn
  refine⟨v,w,?_,by simpa using hown,World.grownBy.refl w _,.inl rfl⟩
  rcases hown.2 with⟨rfl,rfl⟩ | ⟨g,cap,cur,rfl,_,_,hnc,_⟩
  ·simp [Builtin.append_,run_underlying ht,sizeOf,typeInfo,hi,Builtin.lenOf,Builtin.firstCells]
  ·simp [Builtin.append_,run_underlying ht,sizeOf,typeInfo,hi,Builtin.lenOf,Builtin.firstCells,hnc,storeCells]
theorem wp_append_rd {o:Oper} {a:Act} {K:Act→World→Prop} {Q:Exit→Act→World→Prop} (s x:Operand) (t:TypeId)
  (ho:o.op = .call {callee:=.builtin .append,args:=#[s,x],argTypes:=#[t,t]})
  (base:Nat) (e:TypeId) (i:TypeInfo) (z:Value) (bytes:Nat) (ht:P.underlying t=some (.slice e)) (hi:P.info? e=some i) (hz:i.zero=some z)
  (hsize:i.size=1) (hby:i.bytes=bytes) (hzs:z.cells.size=1)
  (v:Value) (n:Nat) (xs:List Value) (hs:a.eval s=v) (hown:w.ownsRow base e 1 v n xs)
  (B:Nat) (A:Option Addr) (m c:Nat) (news:List Value) (hx:a.eval x = .slice A m c) (hm:m=news.length) (hr:Rd w B A news) (h1:∀u∈news,u.oneCell'=true)
  (h63:n+m≤maxLen) (hbytes:(n+m)*bytes≤140737488355328) (hbase:base≤w.heap.size)
  (h:∀v' w',w'.ownsRow base e 1 v' (n+m) (xs++news)→w.grownBy w' v.ownBlock→(v'.ownBlock=v.ownBlock∨v'.ownBlock=some w.heap.size)→K (a.put o.dst v') w'):o.wp P a w K Q:=by
 obtain⟨v',w',hrun,h2,h3,h4⟩:=run_append_rd (P:=P) w base t o.type e i z bytes ht hi hz hsize hby hzs v n xs hown B A m c news hm hr h1 h63 hbytes hbase
 unfold Oper.wp execOp
 simp only[ho,resolve,invoke,builtin,Sem.run_bind,Sem.run_pure,Result.andThen_ok,List.map_toArray,List.map_cons,List.map_nil,hs,hx,hrun]
 exact h v' w' h2 h3 h4
theorem wpList_append_rd {ops:Array Oper} {rest:List Oper} {o:Oper} {a:Act} {Q:Exit→Act→World→Prop} (hgd:o.guard=none) (s x:Operand) (t:TypeId)
  (ho:o.op = .call {callee:=.builtin .append,args:=#[s,x],argTypes:=#[t,t]})
  (base:Nat) (e:TypeId) (i:TypeInfo) (z:Value) (bytes:Nat) (ht:P.underlying t=some (.slice e)) (hi:P.info? e=some i) (hz:i.zero=some z)
  (hsize:i.size=1) (hby:i.bytes=bytes) (hzs:z.cells.size=1)
  (v:Value) (n:Nat) (xs:List Value) (hs:a.eval s=v) (hown:w.ownsRow base e 1 v n xs)
  (B:Nat) (A:Option Addr) (m c:Nat) (news:List Value) (hx:a.eval x = .slice A m c) (hm:m=news.length) (hr:Rd w B A news) (h1:∀u∈news,u.oneCell'=true)
  (h63:n+m≤maxLen) (hbytes:(n+m)*bytes≤140737488355328) (hbase:base≤w.heap.size)
  (h:∀v' w',w'.ownsRow base e 1 v' (n+m) (xs++news)→w.grownBy w' v.ownBlock→(v'.ownBlock=v.ownBlock∨v'.ownBlock=some w.heap.size)→wpList P ops Q rest (a.put o.dst v') w'):wpList P ops Q (o :: rest) a w:=
 wpList_plain hgd fun _ hK=>wp_append_rd w s x t ho base e i z bytes ht hi hz hsize hby hzs v n xs hs hown B A m c news hx hm hr h1 h63 hbytes hbase fun v' w' h2 h3 h4=>hK _ _ (h v' w' h2 h3 h4)
end
def Fresh (w:World) (base b:Nat) (l:List UInt8):Prop:=
 base≤b∧b<w.heap.size∧∀i (h:i<l.length),w.cell? ⟨b,i,none⟩=some (bv l[i])∧w.frozen? ⟨b,i,none⟩=false
theorem Fresh.rd {w:World} {base b:Nat} {l:List UInt8} (h:Fresh w base b l):Rd w w.heap.size (some ⟨b,0,none⟩) (bvs l):=by
 refine .inr ⟨b,0,rfl,h.2.1,fun i u hu=>?_⟩
 have hi:i<l.length:=by
  rcases Nat.lt_or_ge i l.length with g | g
  ·exact g
  ·rw[List.getElem?_eq_none (by rw[bvs_length];exact g)] at hu;cases hu
 rw[bvs_at hi] at hu
 injection hu with hu
 subst hu
 rw[Nat.zero_add]
 exact(h.2.2 i hi).1
end Go.Proofs.Ytlihoeipmjbnbaa.Mem
end

section
namespace Go.Proofs.Ytlihoeipmjbnbaa.Open
open Go.ChangeShapes Go.WideShapes Go.ChangeAt Go.RowKit Go.Deep Go.Proofs.Ytlihoeipmjbnbaa.Mem
theorem u8_of_wf {n:Int} (h:(Lit.int .u8 n).wf=true):∃b:UInt8,n=(b.toNat:Int):=by
 have hx:0≤n∧n≤255:=by simpa [Lit.wf,IntKind.min,IntKind.max,IntKind.signed,IntKind.bits] using h
 refine⟨UInt8.ofNat n.toNat,?_⟩
 have:(UInt8.ofNat n.toNat).toNat=n.toNat:=by simp;omega
 rw[this];omega
theorem addr_none {w:World} {x:Addr} {v:Value} (h:w.cell? x=some v):∃b o,x=⟨b,o,none⟩:=by
 obtain⟨b,o,s⟩:=x
 have:=World.cell?_spot h
 exact⟨b,o,by rw[show s=none from this]⟩
theorem rd_of_cells {w:World} {x:Addr} {xs:List Value} (h:∀i u,xs[i]? = some u→w.cell? (x.add i)=some u):Rd w w.heap.size (some x) xs:=by
 cases xs with
 |nil=>exact .inl rfl
 |cons a r=>
  have h0:=h 0 a rfl
  rw[show x.add 0=x by simp [Addr.add]] at h0
  obtain⟨b,o,rfl⟩:=addr_none h0
  exact .inr ⟨b,o,rfl,World.block_lt_of_cell? w _ h0,fun i u hu=>by have:=h i u hu;rwa [addr_add] at this⟩
theorem bytes_of_ints {k:Nat} {zs:List Int} (hk:k≤zs.length) (hw:∀n∈zs,(Lit.int .u8 n).wf=true):∃l:List UInt8,l.length=k∧∀i u,(bvs l)[i]? = some u→i<zs.length∧u = .int .u8 (zs.getD i 0):=by
 refine⟨(zs.take k).map fun n=>UInt8.ofNat n.toNat,by simp;omega,fun i u hu=>?_⟩
 have hi:i<k:=by
  rcases Nat.lt_or_ge i k with g | g
  ·exact g
  ·rw[List.getElem?_eq_none (by simp [bvs];omega)] at hu;cases hu
 have hz:i<zs.length:=by omega
 refine⟨hz,?_⟩
 obtain⟨b,hb⟩:=u8_of_wf (hw _ (List.getElem_mem hz))
 simp only[bvs,List.map_map,List.getElem?_map,List.getElem?_take,if_pos hi,List.getElem?_eq_getElem hz,Option.map_some,Function.comp] at hu
 injection hu with hu
 rw[←hu,List.getD,List.getElem?_eq_getElem hz,Option.getD_some,hb]
 simp [bv]
section
variable {H:Type} {enc:TypeId×Value→H} {P:Program} {W:World}
end
end Go.Proofs.Ytlihoeipmjbnbaa.Open
end

section
namespace Go.Proofs.Ytlihoeipmjbnbaa.Nm
abbrev L:=List UInt8
def capB (b:UInt8):Bool:=decide (65≤b.toNat)&&decide (b.toNat≤90)
def wordL (p:UInt8→Bool) (l:L):Bool:=decide (1≤l.length)&&(decide (l.length≤8)&&l.all p)
def aft (c:UInt8):L→L
 | []=>[]
 |x :: r=>if x=c then r else aft c r
def split (c:UInt8):L→List L
 | []=>[[]]
 |x :: r=>if x=c then [] :: split c r else match split c r with
  | []=>[[x]]
  |a :: t=>(x :: a) :: t
def labsL (ls:List L):Bool:=decide (1≤ls.length)&&(decide (ls.length≤4)&&ls.all (wordL capB))
def slL (l:L):Bool:=decide (l.head? = some 47)&&labsL (split 47 l.tail)
def kindL (l:L):Nat:=if slL l then 2 else if labsL (split 46 l) then 1 else 0
def upL (l:L):L:=if kindL l=1 then aft 46 l else if kindL l=2 then (aft 47 l.reverse).reverse else []
end Go.Proofs.Ytlihoeipmjbnbaa.Nm
end

section
namespace Go.Proofs.Ytlihoeipmjbnbaa.Nm
def chF:Nat→L→List L
 |0,_=>[]
 |n+1,l=>if l = [] then [] else l :: chF n (upL l)
def ch (l:L):List L:=chF 4 l
def pl (A:List L) (i:Nat):L:=A.getD i []
end Go.Proofs.Ytlihoeipmjbnbaa.Nm
end

section
set_option linter.unusedVariables false
namespace Go.Proofs.Ytlihoeipmjbnbaa.Nm
open Go.RowKit Go.Proofs.Ytlihoeipmjbnbaa.Mem
theorem ext_take (l:List UInt8) (k:Nat):(ByteArray.mk l.toArray).extract 0 k=ByteArray.mk (l.take k).toArray:=by
 rw[ByteArray.extract_mk];simp
attribute [local go_sem] mk_at List.getElem_cons_zero List.getElem_cons_succ ext_tail ext_drop ext_mid ext_take
def Drawn (w w':World):Prop:=∃n,w'=w.drewN n
theorem Drawn.refl (w:World):Drawn w w:=⟨0,rfl⟩
theorem Drawn.below {w w':World} (h:Drawn w w'):Below w.heap.size w w':=by
 obtain⟨n,rfl⟩:=h
 exact below_drewN (Below.refl _ _) n
theorem u8_row:(Try.prog.info? 5).map (fun i=>(i.zero,i.size,i.bytes))=some (some (.int .u8 0),1,1):=by kernel_rfl
end Go.Proofs.Ytlihoeipmjbnbaa.Nm
end

section
set_option linter.unusedVariables false
namespace Go.Proofs.Ytlihoeipmjbnbaa.Nm
open Go.RowKit Go.Proofs.Ytlihoeipmjbnbaa.Mem
attribute [local go_sem] mk_at List.getElem_cons_zero List.getElem_cons_succ ext_tail ext_drop ext_mid ext_take
theorem Drawn.trans {a b c:World} (h:Drawn a b) (k:Drawn b c):Drawn a c:=by
 obtain⟨n,rfl⟩:=h
 obtain⟨m,rfl⟩:=k
 exact⟨n+m,by simp [World.drewN_drewN]⟩
end Go.Proofs.Ytlihoeipmjbnbaa.Nm
end

section
set_option linter.unusedVariables false
namespace Go.Proofs.Ytlihoeipmjbnbaa.Rg
open Go.Proofs.Ytlihoeipmjbnbaa.Nm (L)
abbrev Pr:=L×L
structure It where
 p:Pr
 n:Nat
 k:Nat→UInt8
end Go.Proofs.Ytlihoeipmjbnbaa.Rg
end

section
set_option linter.unusedVariables false
namespace Go.Proofs.Ytlihoeipmjbnbaa.OpenP
open Go.Joins Go.ChangeShapes Go.WideShapes Go.ChangeAt Go.RowKit Go.Deep Go.Proofs.Ytlihoeipmjbnbaa Go.Proofs.Ytlihoeipmjbnbaa.Mem Go.Proofs.Ytlihoeipmjbnbaa.Rg
theorem cut {α:Type} (cs:List α) (o c:Nat):cs.drop o=(cs.drop o).take c++cs.drop (o+c):=by
 rw[←List.drop_drop];exact(List.take_append_drop c _).symm
section
variable {H:Type} {enc:TypeId×Value→H} {W:World}
theorem c_int:Try.prog.cellsOf 3=1:=by kernel_rfl
theorem c_u8:Try.prog.cellsOf 5=1:=by kernel_rfl
theorem in_int {n:Nat} {cs:List Value} {x:DataW H×List MemPlace} (h:DataW.trod enc Try.prog W 0 (fun _=>true) true n 3 cs=some x):∃i:Int,cs = [.int .i64 i]∧(Lit.int .i64 i).wf=true:=by
 obtain⟨i,h1,_,h2⟩:=DataW.trod_int Try.underlying3 h
 exact⟨i,h1,h2⟩
theorem fn_list {α:Type} {n:Nat} {p:Nat→α→Prop} (h:∀i,i<n→∃a,p i a):∃l:List α,l.length=n∧∀i (hi:i<l.length),p i l[i]:=by
 induction n with
 |zero=>exact⟨[],rfl,fun i hi=>by simp at hi⟩
 |succ n ih=>
  obtain⟨l,hl,hp⟩:=ih fun i hi=>h i (by omega)
  obtain⟨a,ha⟩:=h n (by omega)
  refine⟨l++[a],by simp [hl],fun i hi=>?_⟩
  rw[List.length_append,List.length_singleton] at hi
  by_cases g:i<l.length
  ·rw[List.getElem_append_left g];exact hp i g
  ·obtain rfl:i=l.length:=by omega
   rw[List.getElem_append_right (Nat.le_refl _)]
   simp only[Nat.sub_self,List.getElem_cons_zero]
   rw[hl];exact ha
end
end Go.Proofs.Ytlihoeipmjbnbaa.OpenP
end

section
set_option linter.unusedVariables false
namespace Go.Proofs.Ytlihoeipmjbnbaa.Ca
open Go.Proofs.Ytlihoeipmjbnbaa.Nm (L)
open Go.Proofs.Ytlihoeipmjbnbaa.Rg (Pr)
structure Cr where
 s:Pr
 n:Int
 b:L
 k:Nat→UInt8
 e:Int
abbrev It:=Pr×Cr
def del (p:Pr) (t:Int) (i:It):Bool:=decide (i.2.e<t)||decide (i.1=p)
def rest (l:List It) (p:Pr) (t:Int):List It:=l.filter (fun i=>!del p t i)
end Go.Proofs.Ytlihoeipmjbnbaa.Ca
end

section
set_option linter.unusedVariables false
namespace Go.Proofs.Ytlihoeipmjbnbaa.Wh
open Go.RowKit Go.Proofs.Ytlihoeipmjbnbaa.Mem
section
variable {w w':World} {g o:Nat} {t:TypeId} {cs ds ps:Array Value} {pre mid post:List Value}
theorem range_blk (h:Blk w g t cs):w.rangeAt g 0 cs.toList:=fun j v hv=>by
 rw[Nat.zero_add,h.cell];simpa using hv
theorem there_mid (h:Blk w g t cs) (o n:Nat) (hn:o+n≤cs.size):w.there g o n:=fun j hj=>by
 rw[h.cell,Array.getElem?_eq_getElem (by omega)]
 exact⟨rfl,h.frozen (o+j)⟩
theorem blk_cells_aux {g:Nat} {t:TypeId}:∀(vs:List Value) (o:Nat) (w:World) (cs:Array Value),Blk w g t cs→o+vs.length≤cs.size→
  ∃ds:Array Value,Blk (w.setCells g o vs) g t ds∧ds.size=cs.size∧(∀i,o≤i→i<o+vs.length→ds[i]? = vs[i - o]?)∧(∀i,i<o∨o+vs.length≤i→ds[i]? = cs[i]?)
 | [],o,w,cs,h,hl=>⟨cs,h,rfl,fun i h1 h2=>by simp at h2;omega,fun i _=>rfl⟩
 |v :: r,o,w,cs,h,hl=>by
  rw[World.setCells]
  simp only[List.length_cons] at hl
  obtain⟨ds,h1,h2,h3,h4⟩:=blk_cells_aux r (o+1) _ _ (h.set o v) (by simp;omega)
  simp only[List.length_cons]
  refine⟨ds,h1,by simpa using h2,fun i hi hj=>?_,fun i hi=>?_⟩
  ·by_cases e:i=o
   ·subst e
    rw[h4 i (by omega),Nat.sub_self]
    rw[Array.getElem?_setIfInBounds_self_of_lt (by omega)]
    rfl
   ·rw[h3 i (by omega) (by omega),show i - o=(i - (o+1))+1 by omega]
    simp
  ·rw[h4 i (by omega)]
   exact Array.getElem?_setIfInBounds_ne (by omega)
theorem blk_cells (h:Blk w g t cs) (hs:cs.size=ds.size):Blk (w.setCells g 0 ds.toList) g t ds:=by
 obtain⟨es,h1,h2,h3,_⟩:=blk_cells_aux ds.toList 0 w cs h (by simp;omega)
 have e:es=ds:=by
  apply Array.ext_getElem?
  intro i
  by_cases hi:i<ds.size
  ·rw[h3 i (by omega) (by simp;omega)];simp
  ·rw[Array.getElem?_eq_none (by omega),Array.getElem?_eq_none (by omega)]
 rw[←e];rw[←e] at h1;exact h1
theorem g_cells {row:Option Nat} {a:World} {g:Nat} (hp:row=some g∨a.heap.size≤g):∀(vs:List Value) (o:Nat) (w:World),a.grownBy w row→a.grownBy (w.setCells g o vs) row
 | [],_,_,h=>h
 |v :: r,o,w,h=>by rw[World.setCells];exact g_cells hp r (o+1) _ (g_set h (p:=⟨g,o,none⟩) hp v)
theorem put_mid (w:World) (g o:Nat) (vs:List Value):w.grownBy (w.setCells g o vs) (some g):=g_cells (.inl rfl) vs o w (World.grownBy.refl _ _)
end
section
variable {P:Program} {ops:Array Oper} {rest:List Oper} {op:Oper} {a:Act} {w:World} {Q:Exit→Act→World→Prop}
theorem load_g (hw:Region.wanted op (yielded ops a.tmps)=true) (ty:TypeId) (x:Operand) (ho:op.op = .load ty x)
  (g o:Nat) (hx:a.eval x = .pointer (some ⟨g,o,none⟩)) (cs:Array Value) (d:TypeDesc) (hc:w.rangeAt g o cs.toList)
  (hu:P.underlying ty=some d) (hd:d.isRow=true) (hi:(P.info? ty).map (·.size)=some cs.size)
  (h:wpList P ops Q rest (a.put op.dst (.agg cs)) w):wpList P ops Q (op :: rest) a w:=
 BigFrame.wpList_want hw fun _ hK=>wp_load_mid ty x ho g o hx cs.toList d hc hu hd (by rw[Array.length_toList];exact hi) (by simpa using hK _ _ h)
theorem stored_at (w:World) (t:TypeId) (lit cs:Array Value) (hs:lit.size=cs.size):Blk ((w.alloc (.cells lit t)).setCells w.heap.size 0 cs.toList) w.heap.size t cs∧Below w.heap.size w ((w.alloc (.cells lit t)).setCells w.heap.size 0 cs.toList):=
 ⟨blk_cells (Blk.new w t lit) hs,below_g ((Below.refl w.heap.size w).alloc (Nat.le_refl _) _) (put_mid _ _ _ _) (by simp) (Nat.le_refl _)⟩
theorem store_new {w0:World} {lit:Array Value} (hgd:op.guard=none) (ty:TypeId) (x y:Operand) (ho:op.op = .store ty x y) (t:TypeId) (hw:w=w0.alloc (.cells lit t))
  (cells:Array Value) (hx:a.eval x = .pointer (some ⟨w0.heap.size,0,none⟩)) (hy:a.eval y = .agg cells) (hs:lit.size=cells.size)
  (hi:(P.info? ty).map (·.size)=some cells.size) (h1:cells.all (·.oneCell')=true)
  (h:∀V,Blk V w0.heap.size t cells→Below w0.heap.size w0 V→wpList P ops Q rest (a.put op.dst undef) V):wpList P ops Q (op :: rest) a w:=by
 subst hw
 have hV:=stored_at w0 t lit cells hs
 exact wpList_store_mid hgd ty x y ho w0.heap.size 0 cells hx hy (there_mid (Blk.new w0 t lit) _ _ (by omega)) hi h1 (h _ hV.1 hV.2)
theorem store_over (hgd:op.guard=none) (ty:TypeId) (x y:Operand) (ho:op.op = .store ty x y) (g:Nat) (t:TypeId) (old:Array Value) (hb:Blk w g t old)
  (cells:Array Value) (hx:a.eval x = .pointer (some ⟨g,0,none⟩)) (hy:a.eval y = .agg cells) (hs:old.size=cells.size)
  (hi:(P.info? ty).map (·.size)=some cells.size) (h1:cells.all (·.oneCell')=true)
  (h:∀V,Blk V g t cells→w.grownBy V (some g)→wpList P ops Q rest (a.put op.dst undef) V):wpList P ops Q (op :: rest) a w:=
 wpList_store_mid hgd ty x y ho g 0 cells hx hy (there_mid hb _ _ (by omega)) hi h1 (h _ (blk_cells hb hs) (put_mid _ _ _ _))
theorem results_cell {fn:Func} {tmps:Array Value} {w:World} {v:Value} (t:Nat) (ty:TypeId) (a:Addr) (hres:fn.results=#[.cell t ty]) (ht:tmps.getD t undef = .pointer (some a)) (hl:(loadVar ty a).run P w = .ok v w) :
  (results fn tmps).run P w = .ok v w:=by
 have ht':tmps[t]?.getD undef = .pointer (some a):=by simpa using ht
 simp [results,hres,ht',asAddr,hl]
theorem load_blk {g:Nat} {t ty:TypeId} {cs:Array Value} {d:TypeDesc} (h:Blk w g t cs) (hu:P.underlying ty=some d) (hd:d.isRow=true) (hi:(P.info? ty).map (·.size)=some cs.size) :
  (loadVar ty ⟨g,0,none⟩).run P w = .ok (.agg cs) w:=by
 have:=run_loadVar_mid (P:=P) w g 0 ty cs.toList d (range_blk h) hu hd (by simpa using hi)
 simpa using this
theorem exec_load {w':World} {o:Oper} {g:Nat} {t ty:TypeId} {cs:Array Value} {d:TypeDesc} (x:Operand) (ho:o.op = .load ty x) (hx:a.eval x = .pointer (some ⟨g,0,none⟩)) (h:Blk w' g t cs) (hu:P.underlying ty=some d) (hd:d.isRow=true) (hi:(P.info? ty).map (·.size)=some cs.size) :
  (execOp a.eval o).run P w' = .ok (.value (.agg cs)) w':=by
 unfold execOp
 simp only[ho,hx,Instr.loadAt,Instr.sureAddr,Sem.run_bind,Sem.run_pure,Result.andThen_ok,load_blk h hu hd hi]
end
theorem fold_at (l:List Value):∀(k:Nat) (Z:Array Value),k+l.length≤Z.size→((l.zipIdx k).foldl (fun a x=>a.setIfInBounds (0+x.2) x.1) Z).size=Z.size∧∀i,((l.zipIdx k).foldl (fun a x=>a.setIfInBounds (0+x.2) x.1) Z)[i]? = if k≤i∧i<k+l.length then l[i - k]? else Z[i]?:=by
 induction l with
 |nil=>
  intro k Z h
  refine⟨rfl,fun i=>?_⟩
  rw[if_neg (by simp)]
  rfl
 |cons c l ih=>
  intro k Z h
  simp only[List.length_cons] at h
  obtain⟨h1,h2⟩:=ih (k+1) (Z.setIfInBounds (0+k) c) (by simp;omega)
  rw[List.zipIdx_cons,List.foldl_cons]
  refine⟨by rw[h1];simp,fun i=>?_⟩
  rw[h2]
  by_cases e:i=k
  ·subst e
   rw[if_neg (by omega),if_pos (by simp),Nat.sub_self,Nat.zero_add,Array.getElem?_setIfInBounds_self_of_lt (by omega)]
   rfl
  ·by_cases g:k+1≤i∧i<k+1+l.length
   ·rw[if_pos g,if_pos (by simp;omega),show i - k=(i - (k+1))+1 by omega]
    simp
   ·rw[if_neg g,if_neg (by simp;omega),Array.getElem?_setIfInBounds_ne (by omega)]
theorem fill_one (cs Z:Array Value) (n:Nat) (hn:cs.size=n) (hz:Z.size=n):Instr.fill (fun i=>some (i*n,n)) Z [(0,.agg cs)]=some cs:=by
 have hf:=fold_at cs.toList 0 Z (by simp;omega)
 have e:cs.zipIdx.foldl (fun a (x:Value×Nat)=>a.setIfInBounds (0+x.2) x.1) Z=cs:=by
  rw[←Array.foldl_toList,Array.toList_zipIdx]
  apply Array.ext_getElem?
  intro i
  rw[hf.2]
  by_cases g:i<cs.size
  ·rw[if_pos (by simp;omega)];simp
  ·rw[if_neg (by simp;omega),Array.getElem?_eq_none (by omega),Array.getElem?_eq_none (by omega)]
 have hc:(Value.agg cs).cells=cs:=rfl
 unfold Instr.fill
 simp only[Nat.zero_mul,hc]
 rw[if_neg (by simp;omega)]
 unfold Instr.fill
 congr 1
section
variable {P:Program}
theorem run_build_one (w:World) (t e:TypeId) (cs:Array Value) (ie:TypeInfo) (z:Value) (hu:P.underlying t=some (.slice e)) (hie:P.info? e=some ie) (hz:ie.zero=some z) (hs:ie.size=cs.size) (h0:0<cs.size) (h24:cs.size≤16777216) :
  (Instr.buildSlice t 1 #[(0,.agg cs)]).run P w = .ok (.slice (some ⟨w.heap.size,0,none⟩) 1 1) (w.alloc (.cells cs e)):=
 run_buildSlice w t e 1 _ cs ie z hu hie hz (by rw[hs];omega) (by rw[hs];omega) (fill_one cs _ ie.size hs.symm (by simp))
theorem build_one {ops:Array Oper} {rest:List Oper} {o:Oper} {a:Act} {w:World} {Q:Exit→Act→World→Prop} (hg:o.guard=none) (t e:TypeId) (x:Operand) (ho:o.op = .buildSlice t 1 #[(0,x)]) (cs:Array Value) (hx:a.eval x = .agg cs)
  (ie:TypeInfo) (z:Value) (hu:P.underlying t=some (.slice e)) (hie:P.info? e=some ie) (hz:ie.zero=some z) (hs:ie.size=cs.size) (h0:0<cs.size) (h24:cs.size≤16777216)
  (h:∀W,W=w.alloc (.cells cs e)→wpList P ops Q rest (a.put o.dst (.slice (some ⟨w.heap.size,0,none⟩) 1 1)) W):wpList P ops Q (o :: rest) a w:=by
 refine wpList_plain hg fun _ hK=>?_
 unfold Oper.wp execOp
 simp only[ho,Sem.run_bind,List.map_toArray,List.map_cons,List.map_nil,hx,run_build_one w t e cs ie z hu hie hz hs h0 h24,Result.andThen_ok]
 exact hK _ _ (h _ rfl)
end
theorem app_run {P:Program} {α:Type} (f:α→List Value) (n bytes:Nat) (hf:∀x,(f x).length=n) (h1:∀x,∀u∈f x,u.oneCell'=true) (w:World) (t ty e:TypeId) (i:TypeInfo) (z:Value) (ht:P.underlying t=some (.slice e)) (hi:P.info? e=some i) (hz:i.zero=some z) (hs:i.size=n) (hb:i.bytes=bytes) (hzs:z.cells.size=n) (hn:0<n)
  (base:Nat) (v:Value) (l:List α) (hown:w.ownsRow base e n v l.length (l.flatMap f)) (x:α) (g:Nat) (hg:Blk w g e (f x).toArray) (hl:l.length+1≤100000) (hby:bytes≤10000) (hbase:base≤w.heap.size) :
  ∃v' w',(Builtin.append_ #[t,t] ty #[v,.slice (some ⟨g,0,none⟩) 1 1]).run P w = .ok v' w'∧w'.ownsRow base e n v' (l++[x]).length ((l++[x]).flatMap f)∧w.grownBy w' v.ownBlock∧(v'.ownBlock=v.ownBlock∨v'.ownBlock=some w.heap.size):=by
 obtain⟨v',w',h2,h3,h4,_,h5⟩:=run_append_own_at (P:=P) w base t ty e i z n bytes ht hi hz hs hb hzs hn v l.length (l.flatMap f) hown ⟨g,0,none⟩ 1 1 (f x) (by rw[hf];omega) (fun j u hu=>by
  rw[addr_add,Nat.zero_add,hg.cell j]
  simpa using hu) (h1 x) (by unfold maxLen;omega) (by
   have:(l.length+1)*bytes≤100000*10000:=Nat.mul_le_mul hl hby
   omega) hbase
 exact⟨v',w',h2,by rw[List.length_append,List.flatMap_append,List.flatMap_singleton];exact h3,h4,h5⟩
theorem app_one {P:Program} {α:Type} (f:α→List Value) (n bytes:Nat) (hf:∀x,(f x).length=n) (h1:∀x,∀u∈f x,u.oneCell'=true) {ops:Array Oper} {rest:List Oper} {o:Oper} {a:Act} {w:World} {Q:Exit→Act→World→Prop} (hgd:o.guard=none) (s x:Operand) (t e:TypeId)
  (ho:o.op = .call {callee:=.builtin .append,args:=#[s,x],argTypes:=#[t,t]}) (i:TypeInfo) (z:Value) (ht:P.underlying t=some (.slice e)) (hi:P.info? e=some i) (hz:i.zero=some z) (hs:i.size=n) (hb:i.bytes=bytes) (hzs:z.cells.size=n) (hn:0<n) (hby:bytes≤10000)
  (base:Nat) (v:Value) (l:List α) (hv:a.eval s=v) (hown:w.ownsRow base e n v l.length (l.flatMap f)) (y:α) (g:Nat) (hx:a.eval x = .slice (some ⟨g,0,none⟩) 1 1) (hg:Blk w g e (f y).toArray) (hl:l.length+1≤100000) (hbase:base≤w.heap.size)
  (h:∀v' w',w'.ownsRow base e n v' (l++[y]).length ((l++[y]).flatMap f)→w.grownBy w' v.ownBlock→(v'.ownBlock=v.ownBlock∨v'.ownBlock=some w.heap.size)→wpList P ops Q rest (a.put o.dst v') w'):wpList P ops Q (o :: rest) a w:=by
 obtain⟨v',w',hrun,h2,h3,h4⟩:=app_run (P:=P) f n bytes hf h1 w t o.type e i z ht hi hz hs hb hzs hn base v l hown y g hg hl hby hbase
 refine wpList_plain hgd fun J hJ=>?_
 unfold Oper.wp execOp
 simp only[ho,resolve,invoke,builtin,Sem.run_bind,Sem.run_pure,Result.andThen_ok,List.map_toArray,List.map_cons,List.map_nil,hv,hx,hrun]
 exact hJ _ _ (h v' w' h2 h3 h4)
end Go.Proofs.Ytlihoeipmjbnbaa.Wh
end

section
namespace Go.Proofs.Ytlihoeipmjbnbaa.Sp
open Go.RowKit Go.Proofs.Ytlihoeipmjbnbaa.Mem
abbrev Wd:=BitVec 32
def rot (v:Wd) (s:Nat):Wd:=(v <<< s) ||| (v >>> (32 - s))
def step (k:Wd) (p:Wd×Wd):Wd×Wd:=((rot p.1 24+p.2) ^^^ k,rot p.2 3 ^^^ ((rot p.1 24+p.2) ^^^ k))
def le4 (a b c d:UInt8):Wd:=BitVec.ofNat 32 (a.toNat+b.toNat*256+c.toNat*65536+d.toNat*16777216)
def kword (ks:Nat→UInt8) (i:Nat):Wd:=le4 (ks (4*i)) (ks (4*i+1)) (ks (4*i+2)) (ks (4*i+3))
structure Sch where
 k:Wd
 a:Wd
 b:Wd
 c:Wd
def nextL (i:Nat) (s:Sch):Wd:=(s.k+rot s.a 24) ^^^ BitVec.ofNat 32 i
def sch (ks:Nat→UInt8):Nat→Sch
 |0=>⟨kword ks 0,kword ks 1,kword ks 2,kword ks 3⟩
 |i+1=>⟨rot (sch ks i).k 3 ^^^ nextL i (sch ks i),(sch ks i).b,(sch ks i).c,nextL i (sch ks i)⟩
def kw (ks:Nat→UInt8) (i:Nat):Wd:=(sch ks i).k
end Go.Proofs.Ytlihoeipmjbnbaa.Sp
end

section
namespace Go.Proofs.Ytlihoeipmjbnbaa.Si
open Go.RowKit Go.Proofs.Ytlihoeipmjbnbaa.Mem
abbrev Wd:=BitVec 64
def rot (v:Wd) (s:Nat):Wd:=(v <<< s) ||| (v >>> (64 - s))
structure V where
 a:Wd
 b:Wd
 c:Wd
 d:Wd
end Go.Proofs.Ytlihoeipmjbnbaa.Si
end

section
namespace Go.Proofs.Ytlihoeipmjbnbaa.Se
open Go.RowKit Go.Proofs.Ytlihoeipmjbnbaa.Mem
def big:Nat→List UInt8→Nat
 |a,[]=>a
 |a,b :: l=>big (a*256+b.toNat) l
def k2 (ks:Nat→UInt8) (i:Nat):UInt8:=ks (16+i)
end Go.Proofs.Ytlihoeipmjbnbaa.Se
end

section
set_option linter.unusedVariables false
namespace Go.Proofs.Ytlihoeipmjbnbaa.Sp
open Go.RowKit Go.Proofs.Ytlihoeipmjbnbaa.Mem
def Drawn (w w':World):Prop:=∃n,w'=w.drewN n
theorem Drawn.refl (w:World):Drawn w w:=⟨0,rfl⟩
end Go.Proofs.Ytlihoeipmjbnbaa.Sp
end

section
set_option linter.unusedVariables false
namespace Go.Proofs.Ytlihoeipmjbnbaa.Sp
open Go.RowKit Go.Proofs.Ytlihoeipmjbnbaa.Mem
theorem Blk.far {w:World} {g:Nat} {t:TypeId} {cs:Array Value} (h:Blk w g t cs) (p:Addr) (u:Value) (hp:p.block≠g):Blk (w.setCell p u) g t cs:=
 (Below.heap_setCell w p u g (fun e=>hp e.symm)).trans h
end Go.Proofs.Ytlihoeipmjbnbaa.Sp
end

section
set_option linter.unusedVariables false
namespace Go.Proofs.Ytlihoeipmjbnbaa.Sp
open Go.RowKit Go.Proofs.Ytlihoeipmjbnbaa.Mem
theorem below_set {B:Nat} {a w:World} (h:Below B a w) {p:Addr} (hp:B≤p.block) (u:Value):Below B a (w.setCell p u):=
 ⟨h.os,h.tape,h.output,by simpa [World.setCell] using h.size,fun i hi=>(Below.heap_setCell w p u i (by omega)).trans (h.block i hi)⟩
theorem results_cell {P:Program} {fn:Func} {tmps:Array Value} {w:World} {v:Value} (t:Nat) (ty:TypeId) (a:Addr) (hres:fn.results=#[.cell t ty]) (ht:tmps.getD t undef = .pointer (some a)) (hl:(loadVar ty a).run P w = .ok v w) :
  (results fn tmps).run P w = .ok v w:=by
 have ht':tmps[t]?.getD undef = .pointer (some a):=by simpa using ht
 simp [results,hres,ht',asAddr,hl]
theorem load_blk {P:Program} {w:World} {g:Nat} {t ty:TypeId} {cs:Array Value} {d:TypeDesc} (h:Blk w g t cs) (hu:P.underlying ty=some d) (hd:d.isRow=true) (hi:(P.info? ty).map (·.size)=some cs.size) :
  (loadVar ty ⟨g,0,none⟩).run P w = .ok (.agg cs) w:=by
 have hc:w.rangeAt g 0 cs.toList:=fun j v hv=>by rw[Nat.zero_add,h.cell];simpa using hv
 have:=run_loadVar_mid (P:=P) w g 0 ty cs.toList d hc hu hd (by simpa using hi)
 simpa using this
end Go.Proofs.Ytlihoeipmjbnbaa.Sp
end

section
set_option linter.unusedVariables false
namespace Go.Proofs.Ytlihoeipmjbnbaa.Si
open Go.RowKit Go.Proofs.Ytlihoeipmjbnbaa.Mem
theorem below_set {B:Nat} {a w:World} (h:Below B a w) {p:Addr} (hp:B≤p.block) (u:Value):Below B a (w.setCell p u):=
 ⟨h.os,h.tape,h.output,by simpa [World.setCell] using h.size,fun i hi=>(Below.heap_setCell w p u i (by omega)).trans (h.block i hi)⟩
theorem results_cell {P:Program} {fn:Func} {tmps:Array Value} {w:World} {v:Value} (t:Nat) (ty:TypeId) (a:Addr) (hres:fn.results=#[.cell t ty]) (ht:tmps.getD t undef = .pointer (some a)) (hl:(loadVar ty a).run P w = .ok v w) :
  (results fn tmps).run P w = .ok v w:=by
 have ht':tmps[t]?.getD undef = .pointer (some a):=by simpa using ht
 simp [results,hres,ht',asAddr,hl]
theorem load_blk {P:Program} {w:World} {g:Nat} {t ty:TypeId} {cs:Array Value} {d:TypeDesc} (h:Blk w g t cs) (hu:P.underlying ty=some d) (hd:d.isRow=true) (hi:(P.info? ty).map (·.size)=some cs.size) :
  (loadVar ty ⟨g,0,none⟩).run P w = .ok (.agg cs) w:=by
 have hc:w.rangeAt g 0 cs.toList:=fun j v hv=>by rw[Nat.zero_add,h.cell];simpa using hv
 have:=run_loadVar_mid (P:=P) w g 0 ty cs.toList d hc hu hd (by simpa using hi)
 simpa using this
theorem Blk.far {w:World} {g:Nat} {t:TypeId} {cs:Array Value} (h:Blk w g t cs) (p:Addr) (u:Value) (hp:p.block≠g):Blk (w.setCell p u) g t cs:=
 (Below.heap_setCell w p u g (fun e=>hp e.symm)).trans h
theorem range_blk {w:World} {g:Nat} {t:TypeId} {cs:Array Value} (h:Blk w g t cs):w.rangeAt g 0 cs.toList:=fun j v hv=>by
 rw[Nat.zero_add,h.cell];simpa using hv
end Go.Proofs.Ytlihoeipmjbnbaa.Si
end

section
set_option linter.unusedVariables false
namespace Go.Proofs.Ytlihoeipmjbnbaa.Si
open Go.RowKit Go.Proofs.Ytlihoeipmjbnbaa.Mem
def Rows (w:World) (B:Nat) (A:Option Addr) (rows:List (List UInt8)):Prop:=
 ∃vs:List Value,vs.length=rows.length∧Rd w B A vs∧∀i (h:i<rows.length),∃(Ai:Option Addr) (ci:Nat),vs[i]? = some (.slice Ai (rows[i]).length ci)∧Rd w B Ai (bvs rows[i])
theorem Rows.below {w w':World} {B:Nat} {A:Option Addr} {rows:List (List UInt8)} (h:Rows w B A rows) (hb:Below B w w'):Rows w' B A rows:=by
 obtain⟨vs,h1,h2,h3⟩:=h
 refine⟨vs,h1,h2.below hb,fun i hi=>?_⟩
 obtain⟨Ai,ci,h4,h5⟩:=h3 i hi
 exact⟨Ai,ci,h4,h5.below hb⟩
theorem Rows.more {w:World} {B B':Nat} {A:Option Addr} {rows:List (List UInt8)} (h:Rows w B A rows) (hB:B≤B'):Rows w B' A rows:=by
 obtain⟨vs,h1,h2,h3⟩:=h
 refine⟨vs,h1,h2.more hB,fun i hi=>?_⟩
 obtain⟨Ai,ci,h4,h5⟩:=h3 i hi
 exact⟨Ai,ci,h4,h5.more hB⟩
end Go.Proofs.Ytlihoeipmjbnbaa.Si
end

section
set_option linter.unusedVariables false
namespace Go.Proofs.Ytlihoeipmjbnbaa.Si
open Go.RowKit Go.Proofs.Ytlihoeipmjbnbaa.Mem
theorem Rd.drop {w:World} {B:Nat} {x:Addr} {l:List UInt8} (h:Rd w B (some x) (bvs l)) (p:Nat):Rd w B (some (x.add p)) (bvs (l.drop p)):=by
 rcases h with h | ⟨b,o,h1,h2,h3⟩
 ·left
  have:l = []:=List.map_eq_nil_iff.1 h
  rw[this];simp [bvs]
 ·injection h1 with h1
  subst h1
  rw[addr_add]
  refine .inr ⟨b,o+p,rfl,h2,fun i u hu=>?_⟩
  have:(bvs l)[p+i]? = some u:=by
   rw[←hu];simp [bvs,List.getElem?_drop]
  have:=h3 _ _ this
  rwa [Nat.add_assoc]
theorem Rd.take {w:World} {B:Nat} {A:Option Addr} {l:List UInt8} (h:Rd w B A (bvs l)) (k:Nat):Rd w B A (bvs (l.take k)):=by
 rcases h with h | ⟨b,o,h1,h2,h3⟩
 ·left
  have:l = []:=List.map_eq_nil_iff.1 h
  rw[this];simp [bvs]
 ·refine .inr ⟨b,o,h1,h2,fun i u hu=>h3 i u ?_⟩
  rw[←hu]
  have hi:i<k:=by
   rcases Nat.lt_or_ge i k with g | g
   ·exact g
   ·rw[List.getElem?_eq_none (by simp [bvs];omega)] at hu;cases hu
  simp [bvs,hi]
end Go.Proofs.Ytlihoeipmjbnbaa.Si
end

section
set_option linter.unusedVariables false
namespace Go.Proofs.Ytlihoeipmjbnbaa.Se
open Go.RowKit Go.Proofs.Ytlihoeipmjbnbaa.Mem
structure Chg (S:Nat→Prop) (w w':World):Prop where
 os:w'.os=w.os
 tape:w'.tape=w.tape
 output:w'.output=w.output
 size:w.heap.size≤w'.heap.size
 block:∀k,k<w.heap.size→¬S k→w'.heap[k]? = w.heap[k]?
section
variable {S T S':Nat→Prop} {a w w' c:World} {A:Option Addr} {xs:List Value} {g b:Nat} {t:TypeId} {cs:Array Value}
theorem Chg.refl (S:Nat→Prop) (w:World):Chg S w w:=⟨rfl,rfl,rfl,Nat.le_refl _,fun _ _ _=>rfl⟩
theorem Chg.trans (h:Chg S a w) (k:Chg T w c) (hs:∀i,i<a.heap.size→T i→S i):Chg S a c:=
 ⟨k.os.trans h.os,k.tape.trans h.tape,k.output.trans h.output,Nat.le_trans h.size k.size,fun i hi hn=>(k.block i (Nat.lt_of_lt_of_le hi h.size) (fun ht=>hn (hs i hi ht))).trans (h.block i hi hn)⟩
theorem Chg.mono (h:Chg S a w) (hs:∀i,i<a.heap.size→S i→T i):Chg T a w:=⟨h.os,h.tape,h.output,h.size,fun i hi hn=>h.block i hi (fun x=>hn (hs i hi x))⟩
theorem Chg.of_below (h:Below w.heap.size w w'):Chg S w w':=⟨h.os,h.tape,h.output,h.size,fun i hi _=>h.block i hi⟩
theorem Chg.of_grown (h:w.grownBy w' (some g)) (hs:S g):Chg S w w':=⟨h.os,h.tape,h.output,h.size,fun i hi hn=>h.block i hi (fun e=>by injection e with e;subst e;exact hn hs)⟩
theorem Chg.below (h:Chg S a w) {B:Nat} (hB:B≤a.heap.size) (hs:∀i,i<a.heap.size→S i→B≤i):Below B a w:=
 ⟨h.os,h.tape,h.output,h.size,fun i hi=>h.block i (by omega) (fun x=>by have:=hs i (by omega) x;omega)⟩
theorem Chg.blk (h:Chg S w w') (hb:Blk w g t cs) (hs:¬S g):Blk w' g t cs:=(h.block g hb.lt hs).trans hb
theorem Chg.own (h:Chg S w w') {base n:Nat} {v:Value} (ho:w.ownsRow base t 1 v n xs) (hs:∀k,v.ownBlock=some k→¬S k):w'.ownsRow base t 1 v n xs:=by
 refine⟨ho.1,?_⟩
 rcases ho.2 with hn | ⟨g,cap,cur,rfl,hb,hgg,rest⟩
 ·exact .inl hn
 ·exact .inr ⟨g,cap,cur,rfl,hb,(h.block g (Array.getElem?_eq_some_iff.1 hgg).1 (hs g rfl)).trans hgg,rest⟩
theorem Chg.set (h:Chg S a w) {p:Addr} (hp:S p.block∨a.heap.size≤p.block) (u:Value):Chg S a (w.setCell p u):=
 ⟨h.os,h.tape,h.output,by simpa [World.setCell] using h.size,fun i hi hn=>(Below.heap_setCell w p u i (by
  rintro rfl
  rcases hp with hp | hp
  ·exact hn hp
  ·omega)).trans (h.block i hi hn)⟩
theorem Chg.alloc (h:Chg S a w) (o:Obj):Chg S a (w.alloc o):=
 ⟨h.os,h.tape,h.output,Nat.le_trans h.size (by simp),fun i hi hn=>(Below.heap_alloc w o i (Nat.lt_of_lt_of_le hi h.size)).trans (h.block i hi hn)⟩
theorem Chg.drew (h:Chg S a w):Chg S a w.drew:=⟨h.os,h.tape,h.output,h.size,h.block⟩
def RdA (S:Nat→Prop) (w:World) (A:Option Addr) (xs:List Value):Prop:=
 xs = []∨∃b o,A=some ⟨b,o,none⟩∧b<w.heap.size∧¬S b∧∀i u,xs[i]? = some u→w.cell? ⟨b,o+i,none⟩=some u
theorem RdA.rd (h:RdA S w A xs):Rd w w.heap.size A xs:=by
 rcases h with h | ⟨b,o,h1,h2,_,h3⟩
 ·exact .inl h
 ·exact .inr ⟨b,o,h1,h2,h3⟩
theorem RdA.keep (h:RdA S w A xs) (hc:Chg T w w') (ht:∀i,i<w.heap.size→T i→S i) (hs:∀i,i<w.heap.size→S' i→S i):RdA S' w' A xs:=by
 rcases h with h | ⟨b,o,h1,h2,h4,h3⟩
 ·exact .inl h
 ·exact .inr ⟨b,o,h1,Nat.lt_of_lt_of_le h2 hc.size,fun x=>h4 (hs b h2 x),fun i u hu=>(World.cell?_of_block (a:=⟨b,o+i,none⟩) (hc.block b h2 (fun x=>h4 (ht b h2 x)))).trans (h3 i u hu)⟩
theorem RdA.mono (h:RdA S w A xs) (hs:∀i,i<w.heap.size→S' i→S i):RdA S' w A xs:=h.keep (Chg.refl (fun _=>False) w) (fun _ _ x=>x.elim) hs
end
section
variable {w w':World} {b:Nat} {ks dg:Nat→UInt8} {d s:Int} {p:Option Addr} {a o r:Nat}
end
def setAll (cs:Array Value):Nat→List Value→Array Value
 |_,[]=>cs
 |o,v :: l=>setAll (cs.setIfInBounds o v) (o+1) l
theorem Blk.setCells {g:Nat} {t:TypeId}:∀(vs:List Value) (o:Nat) (w:World) (cs:Array Value),Blk w g t cs→Blk (w.setCells g o vs) g t (setAll cs o vs)
 | [],_,_,_,h=>h
 |v :: l,o,w,cs,h=>Blk.setCells l (o+1) _ _ (h.set o v)
def Ow (b:Nat) (h:Option Nat) (i:Nat):Prop:=i=b∨h=some i
def Step (w w':World) (b:Nat) (h:Option Nat) (g:Nat):Prop:=Chg (Ow b h) w w'∧(h=some g∨(h=none∧w.heap.size≤g))
theorem Step.own {w w':World} {b g:Nat} {h:Option Nat} (hs:Step w w' b h g):∀i,i<w.heap.size→Ow b (some g) i→Ow b h i:=by
 intro i hi hx
 rcases hx with hx | hx
 ·exact .inl hx
 ·injection hx with hx
  subst hx
  rcases hs.2 with h1 | ⟨_,h1⟩
  ·exact .inr h1
  ·omega
theorem Step.trans {a w c:World} {b g g':Nat} {h:Option Nat} (h1:Step a w b h g) (h2:Step w c b (some g) g'):g'=g∧Step a c b h g:=by
 have e:g'=g:=by
  rcases h2.2 with h3 | ⟨h3,_⟩
  ·injection h3 with h3;exact h3.symm
  ·cases h3
 exact⟨e,h1.1.trans h2.1 h1.own,h1.2⟩
theorem Step.then {a w c:World} {b g:Nat} {h:Option Nat} {S:Nat→Prop} (h1:Step a w b h g) (h2:Chg S w c) (hs:∀i,i<a.heap.size→S i→Ow b h i):Step a c b h g:=⟨h1.1.trans h2 hs,h1.2⟩
end Go.Proofs.Ytlihoeipmjbnbaa.Se
end

section
set_option linter.unusedVariables false
namespace Go.Proofs.Ytlihoeipmjbnbaa.Se
open Go.RowKit Go.Proofs.Ytlihoeipmjbnbaa.Mem
def key32 (ks:Nat→UInt8):Array Value:=((List.range 32).map (fun i=>bv (ks i))).toArray
theorem key32_size (ks:Nat→UInt8):(key32 ks).size=32:=by simp [key32]
theorem one32 (ks:Nat→UInt8):(key32 ks).all (·.oneCell')=true:=by simp [key32,bv,Value.oneCell']
end Go.Proofs.Ytlihoeipmjbnbaa.Se
end

section
set_option linter.unusedVariables false
namespace Go.Proofs.Ytlihoeipmjbnbaa.Se
open Go.RowKit Go.Proofs.Ytlihoeipmjbnbaa.Mem
def Aw (b:Nat) (h:Option Nat) (n i:Nat):Prop:=Ow b h i∨n≤i
section
variable {w w' a c:World} {b g n:Nat} {h:Option Nat} {A:Option Addr} {xs:List Value} {S:Nat→Prop}
theorem Chg.then (h:Chg S a w) (k:Chg S w c):Chg S a c:=h.trans k fun _ _ x=>x
theorem Chg.step (hc:Chg (Aw b h w.heap.size) w w') (hg:h=some g∨(h=none∧w.heap.size≤g)):Step w w' b h g:=
 ⟨hc.mono fun i hi hx=>by
  rcases hx with hx | hx
  ·exact hx
  ·omega,hg⟩
end
end Go.Proofs.Ytlihoeipmjbnbaa.Se
end

section
set_option linter.unusedVariables false
namespace Go.Proofs.Ytlihoeipmjbnbaa.Se
open Go.RowKit Go.Proofs.Ytlihoeipmjbnbaa.Mem
def StepO (w w':World) (b:Nat) (h h':Option Nat):Prop:=Chg (Ow b h) w w'∧(h'=h∨(h=none∧∃g,h'=some g∧w.heap.size≤g))
theorem StepO.refl (w:World) (b:Nat) (h:Option Nat):StepO w w b h h:=⟨Chg.refl _ _,.inl rfl⟩
theorem Step.o {w w':World} {b g:Nat} {h:Option Nat} (hs:Step w w' b h g):StepO w w' b h (some g):=
 ⟨hs.1,hs.2.imp (fun e=>e.symm) (fun e=>⟨e.1,g,rfl,e.2⟩)⟩
theorem StepO.own {w w':World} {b:Nat} {h h':Option Nat} (hs:StepO w w' b h h'):∀i,i<w.heap.size→Ow b h' i→Ow b h i:=by
 intro i hi hx
 rcases hs.2 with rfl | ⟨_,g,rfl,hg⟩
 ·exact hx
 ·rcases hx with hx | hx
  ·exact .inl hx
  ·injection hx with hx;omega
theorem StepO.trans {a w c:World} {b:Nat} {h h1 h2:Option Nat} (s1:StepO a w b h h1) (s2:StepO w c b h1 h2):StepO a c b h h2:=by
 refine⟨s1.1.trans s2.1 s1.own,?_⟩
 rcases s1.2 with rfl | ⟨e,g,rfl,hg⟩
 ·rcases s2.2 with rfl | ⟨e,g,rfl,hg⟩
  ·exact .inl rfl
  ·exact .inr ⟨e,g,rfl,Nat.le_trans s1.1.size hg⟩
 ·rcases s2.2 with rfl | ⟨e2,_⟩
  ·exact .inr ⟨e,g,rfl,hg⟩
  ·cases e2
theorem StepO.drewN {w w':World} {b:Nat} {h h':Option Nat} (hs:StepO w w' b h h') (k:Nat):StepO w (w'.drewN k) b h h':=⟨⟨hs.1.os,hs.1.tape,hs.1.output,hs.1.size,hs.1.block⟩,hs.2⟩
theorem RdA.take {S:Nat→Prop} {w:World} {A:Option Addr} {l:List UInt8} (h:RdA S w A (bvs l)) (k:Nat):RdA S w A (bvs (l.take k)):=by
 rcases h with h | ⟨b,o,h1,h2,h3,h4⟩
 ·left
  have:l = []:=List.map_eq_nil_iff.1 h
  rw[this,List.take_nil];rfl
 ·refine .inr ⟨b,o,h1,h2,h3,fun i u hu=>h4 i u ?_⟩
  unfold bvs at hu⊢
  rw[List.map_take,List.getElem?_take] at hu
  split at hu
  ·exact hu
  ·cases hu
theorem RdA.drop {S:Nat→Prop} {w:World} {b o:Nat} {l:List UInt8} (h:RdA S w (some ⟨b,o,none⟩) (bvs l)) (k:Nat):RdA S w (some ⟨b,o+k,none⟩) (bvs (l.drop k)):=by
 rcases h with h | ⟨b',o',h1,h2,h3,h4⟩
 ·left
  have:l = []:=List.map_eq_nil_iff.1 h
  rw[this,List.drop_nil];rfl
 ·injection h1 with h1
  injection h1 with e1 e2
  subst e1 e2
  refine .inr ⟨b,o+k,rfl,h2,h3,fun i u hu=>?_⟩
  unfold bvs at hu
  rw[List.map_drop,List.getElem?_drop] at hu
  have:=h4 (k+i) u hu
  rwa [←Nat.add_assoc] at this
end Go.Proofs.Ytlihoeipmjbnbaa.Se
end

section
set_option linter.unusedVariables false
namespace Go.Proofs.Ytlihoeipmjbnbaa.Rg
open Go.RowKit Go.Proofs.Ytlihoeipmjbnbaa.Mem Go.Proofs.Ytlihoeipmjbnbaa.Se
def iC (i:It):List Value:=.string ⟨i.p.1.toArray⟩ :: .string ⟨i.p.2.toArray⟩ :: .int .i64 (i.n:Int) :: (key32 i.k).toList
structure Ent where
 it:It
 b:Nat
 h:Option Nat
 a:Nat
 o:Nat
 r:Nat
theorem iC_length (i:It):(iC i).length=35:=by simp [iC,key32_size]
theorem iC_one (i:It):∀u∈iC i,u.oneCell'=true:=by
 intro u hu
 simp only[iC,List.mem_cons] at hu
 rcases hu with h | h | h | h
 ·subst h;rfl
 ·subst h;rfl
 ·subst h;rfl
 ·have:=one32 i.k
  rw[Array.all_eq_true_iff_forall_mem] at this
  exact this u (Array.mem_def.2 h)
theorem flat_len {α:Type} (f:α→List Value) (n:Nat) (h:∀x,(f x).length=n):∀l:List α,(l.flatMap f).length=l.length*n
 | []=>by simp
 |a :: l=>by simp only[List.flatMap_cons,List.length_append,h,flat_len f n h l,List.length_cons,Nat.succ_mul];omega
theorem flat_at {α:Type} (f:α→List Value) (n:Nat) (h:∀x,(f x).length=n):∀(l:List α) (i:Nat) (x:α),l[i]? = some x→∀j v,(f x)[j]? = some v→(l.flatMap f)[i*n+j]? = some v
 | [],i,x,hx,_,_,_=>by simp at hx
 |a :: l,0,x,hx,j,v,hv=>by
  injection hx with hx
  subst hx
  have:=(List.getElem?_eq_some_iff.1 hv).1
  rw[List.flatMap_cons,Nat.zero_mul,Nat.zero_add,List.getElem?_append_left this]
  exact hv
 |a :: l,i+1,x,hx,j,v,hv=>by
  rw[List.flatMap_cons,List.getElem?_append_right (by rw[h,Nat.succ_mul];omega),h,show(i+1)*n+j - n=i*n+j by rw[Nat.succ_mul];omega]
  exact flat_at f n h l i x hx j v hv
theorem flat_one {α:Type} (f:α→List Value) (h:∀x,∀u∈f x,u.oneCell'=true) (l:List α):∀u∈l.flatMap f,u.oneCell'=true:=by
 intro u hu
 obtain⟨x,_,h2⟩:=List.mem_flatMap.1 hu
 exact h x u h2
def RdR {α:Type} (w:World) (B:Nat) (A:Option Addr) (f:α→List Value) (n:Nat) (l:List α):Prop:=
 l = []∨∃g,A=some ⟨g,0,none⟩∧g<B∧∀i x,l[i]? = some x→w.rangeAt g (i*n) (f x)
theorem RdR.keep {α:Type} {w w':World} {B:Nat} {A:Option Addr} {f:α→List Value} {n:Nat} {l:List α} (h:RdR w B A f n l) (hb:Below B w w'):RdR w' B A f n l:=by
 rcases h with h | ⟨g,h1,h2,h3⟩
 ·exact .inl h
 ·exact .inr ⟨g,h1,h2,fun i x hx j v hv=>(hb.cell (p:=⟨g,_,none⟩) h2).trans (h3 i x hx j v hv)⟩
theorem RdR.more {α:Type} {w:World} {B B':Nat} {A:Option Addr} {f:α→List Value} {n:Nat} {l:List α} (h:RdR w B A f n l) (hB:B≤B'):RdR w B' A f n l:=by
 rcases h with h | ⟨g,h1,h2,h3⟩
 ·exact .inl h
 ·exact .inr ⟨g,h1,by omega,h3⟩
theorem RdR.at_ {α:Type} {w:World} {B:Nat} {A:Option Addr} {f:α→List Value} {n:Nat} {l:List α} {i:Nat} {x:α} (h:RdR w B A f n l) (hx:l[i]? = some x):∃g,A=some ⟨g,0,none⟩∧g<B∧w.rangeAt g (i*n) (f x):=by
 rcases h with h | ⟨g,h1,h2,h3⟩
 ·subst h;simp at hx
 ·exact⟨g,h1,h2,h3 i x hx⟩
theorem own_rdr {α:Type} {w:World} {base:Nat} {t:TypeId} {v:Value} {f:α→List Value} {n:Nat} {l:List α} (hn:∀x,(f x).length=n) (h:w.ownsRow base t n v l.length (l.flatMap f)):∃A c,v = .slice A l.length c∧l.length≤c∧c≤maxLen∧RdR w w.heap.size A f n l:=by
 have h':=h
 rcases h.2 with⟨h1,h2⟩ | ⟨g,cap,cur,h1,hg,hh,hc,hm,_⟩
 ·have e:l = []:=List.eq_nil_of_length_eq_zero h2
  subst e
  exact⟨none,0,h1,Nat.le_refl _,Nat.zero_le _,.inl rfl⟩
 ·subst h1
  refine⟨_,cap,rfl,hc,hm,.inr ⟨g,rfl,(Array.getElem?_eq_some_iff.1 hh).1,fun i x hx j v hv=>?_⟩⟩
  have h1:=h'.cells (g:=g) rfl (i*n+j) v (flat_at f n hn l i x hx j v hv)
  rw[addr_add,Nat.zero_add] at h1
  exact h1
theorem own_chg {S:Nat→Prop} {w w':World} {base size n:Nat} {t:TypeId} {v:Value} {xs:List Value} (h:Chg S w w') (ho:w.ownsRow base t size v n xs) (hs:∀k,v.ownBlock=some k→¬S k):w'.ownsRow base t size v n xs:=by
 refine⟨ho.1,?_⟩
 rcases ho.2 with hn | ⟨g,cap,cur,rfl,hb,hgg,rest⟩
 ·exact .inl hn
 ·exact .inr ⟨g,cap,cur,rfl,hb,(h.block g (Array.getElem?_eq_some_iff.1 hgg).1 (hs g rfl)).trans hgg,rest⟩
section
variable {w w':World} {B r:Nat} {v v':Value} {es:List Ent} {S:Nat→Prop}
end
end Go.Proofs.Ytlihoeipmjbnbaa.Rg
end
