import Derived.WalkKit
import Derived.WalkSpells
import Derived.WalkLawsBesides
import Derived.LaidEqlPtr
import Derived.Maps.AppendAt
import Derived.Maps.Range
import Derived.Maps.RangeWalk
import Derived.Deep.AppendLies
import Derived.Deep.Draws
import Derived.Deep.Onto
import Derived.Lib.ConvBytes
import Derived.Lib.Hide
import Derived.RegionTactic
import Derived.Deep.QuietTactic
import Derived.BigQuiet
import Derived.Laws.BitsAllLaws
import Derived.Laws.BitsLemmas
import Derived.Test.YtfcjeebnkigeaaaGreatProg
import Derived.Lib.Strings
import Derived.Lib.Walk
import Derived.Lib.Bytealg
import Derived.Lib.BufferWrite
import Derived.Lib.UnsafeStr
import Derived.Laws.MakeOwn
import Derived.Laws.OwnMore
import Derived.Deep.WholeRow
section
namespace Go.Proofs.YtfcjeebnkigeaaaGreat.Mem
open Go.RowKit
theorem mk_at (l:List UInt8) (i:Nat) (h:i<(ByteArray.mk l.toArray).size):(ByteArray.mk l.toArray)[i]'h=l[i]'(by simpa [ByteArray.size] using h):=rfl
theorem ext_tail (a:UInt8) (r:List UInt8):(ByteArray.mk (a :: r).toArray).extract 1 (r.length+1)=ByteArray.mk r.toArray:=by
 rw[ByteArray.extract_mk];simp
theorem ext_drop (l:List UInt8) (k:Nat):(ByteArray.mk l.toArray).extract k l.length=ByteArray.mk (l.drop k).toArray:=by
 rw[ByteArray.extract_mk,List.take_of_length_le (by simp)]
theorem ext_mid (l:List UInt8) (k n:Nat):(ByteArray.mk l.toArray).extract k (k+n)=ByteArray.mk ((l.drop k).take n).toArray:=by
 rw[ByteArray.extract_mk,Nat.add_sub_cancel_left]
theorem u8_le (a:UInt8):(a.toNat:Int)≤255:=by have:=a.toNat_lt;omega
theorem i64_nat (a:Nat) (ha:a<9223372036854775808):(BitVec.ofInt 64 (a:Int)).toNat=a:=by
 rw[BitVec.ofInt_natCast,BitVec.toNat_ofNat];exact Nat.mod_eq_of_lt (by omega)
theorem or_low (x y:Nat) (hy:y<256) (hx:x*256+y<9223372036854775808):bits .or .i64 ((x:Int)*256) (y:Int)=(x:Int)*256+y:=by
 have g1:=i64_nat (x*256) (Nat.lt_of_le_of_lt (Nat.le_add_right _ _) hx)
 have g2:=i64_nat y (Nat.lt_of_le_of_lt (Nat.le_add_left _ _) hx)
 have e:((x:Int)*256)=((x*256:Nat):Int):=by omega
 have h1:x*256 ||| y=x*256+y:=by
  have h:=Nat.shiftLeft_add_eq_or_of_lt (show y<2 ^ 8 by omega) x
  rw[Nat.shiftLeft_eq] at h
  simpa using h.symm
 rw[e]
 show IntKind.i64.wrap ((BitVec.ofInt 64 ((x*256:Nat):Int) ||| BitVec.ofInt 64 (y:Int)).toNat:Int)=_
 rw[BitVec.toNat_or,g1,g2,h1,IntKind.wrap_i64]
 omega
def bv (b:UInt8):Value:=.int .u8 (b.toNat:Int)
def bvs (l:List UInt8):List Value:=l.map bv
theorem bvs_length (l:List UInt8):(bvs l).length=l.length:=by simp [bvs]
theorem bvs_append (l m:List UInt8):bvs (l++m)=bvs l++bvs m:=by simp [bvs]
theorem bvs_one (l:List UInt8):∀u∈bvs l,u.oneCell'=true:=by
 intro u hu
 obtain⟨b,_,rfl⟩:=List.mem_map.1 hu
 rfl
theorem bvs_at {l:List UInt8} {i:Nat} (h:i<l.length):(bvs l)[i]? = some (bv l[i]):=by simp [bvs,h]
def Rd (w:World) (B:Nat) (A:Option Addr) (xs:List Value):Prop:=
 xs = []∨∃b o,A=some ⟨b,o,none⟩∧b<B∧∀i u,xs[i]? = some u→w.cell? ⟨b,o+i,none⟩=some u
def Blk (w:World) (g:Nat) (t:TypeId) (cs:Array Value):Prop:=w.heap[g]? = some (.cells cs t (0,0))
theorem addr_add (b o j:Nat):(⟨b,o,none⟩:Addr).add j=⟨b,o+j,none⟩:=by unfold Addr.add;split<;>simp_all
section
variable {w w' a c:World} {B B' g:Nat} {A:Option Addr} {xs:List Value} {t:TypeId} {cs:Array Value}
theorem below_drewN (h:Below B a w) (n:Nat):Below B a (w.drewN n):=⟨h.os,h.tape,h.output,h.size,h.block⟩
theorem g_drewN {row:Option Nat} (h:a.grownBy w row) (n:Nat):a.grownBy (w.drewN n) row:=⟨h.os,h.tape,h.output,h.size,h.block⟩
theorem g_drew {row:Option Nat} (h:a.grownBy w row):a.grownBy w.drew row:=⟨h.os,h.tape,h.output,h.size,h.block⟩
theorem g_alloc {row:Option Nat} (h:a.grownBy w row) (o:Obj):a.grownBy (w.alloc o) row:=
 ⟨h.os,h.tape,h.output,Nat.le_trans h.size (by simp),fun i hi hne=>(Below.heap_alloc w o i (Nat.lt_of_lt_of_le hi h.size)).trans (h.block i hi hne)⟩
theorem g_set {row:Option Nat} (h:a.grownBy w row) {p:Addr} (hp:row=some p.block∨a.heap.size≤p.block) (u:Value):a.grownBy (w.setCell p u) row:=
 ⟨h.os,h.tape,h.output,by simpa [World.setCell] using h.size,fun i hi hne=>(Below.heap_setCell w p u i (by
  rintro rfl
  rcases hp with hp | hp
  ·exact hne hp.symm
  ·omega)).trans (h.block i hi hne)⟩
theorem g_of_below (h:Below a.heap.size a w) (row:Option Nat):a.grownBy w row:=⟨h.os,h.tape,h.output,h.size,fun i hi _=>h.block i hi⟩
theorem g_then {row:Option Nat} (h:a.grownBy w row) (k:Below w.heap.size w c):a.grownBy c row:=
 ⟨k.os.trans h.os,k.tape.trans h.tape,k.output.trans h.output,Nat.le_trans h.size k.size,fun i hi hn=>(k.block i (Nat.lt_of_lt_of_le hi h.size)).trans (h.block i hi hn)⟩
theorem below_g (h:Below B a w) (k:w.grownBy c (some g)) (hB:B≤w.heap.size) (hg:B≤g):Below B a c:=
 h.grown k hB (fun j hj=>by injection hj with hj;omega)
theorem bt (h:Below a.heap.size a w) (k:Below w.heap.size w c):Below a.heap.size a c:=h.trans (k.mono h.size)
theorem Blk.lt (h:Blk w g t cs):g<w.heap.size:=by
 rcases Nat.lt_or_ge g w.heap.size with h1 | h1
 ·exact h1
 ·unfold Blk at h;rw[Array.getElem?_eq_none h1] at h;cases h
theorem Blk.cell (h:Blk w g t cs) (i:Nat):w.cell? ⟨g,i,none⟩=cs[i]?:=cell_of_row w g i cs t (0,0) h
theorem Blk.frozen (h:Blk w g t cs) (i:Nat):w.frozen? ⟨g,i,none⟩=false:=by
 unfold Blk at h
 simp [World.frozen?,h]
theorem Blk.new (w:World) (t:TypeId) (cs:Array Value):Blk (w.alloc (.cells cs t)) w.heap.size t cs:=heap_alloc_new w _
theorem Blk.drewN (h:Blk w g t cs) (n:Nat):Blk (w.drewN n) g t cs:=h
theorem Blk.alloc (h:Blk w g t cs) (o:Obj):Blk (w.alloc o) g t cs:=(Below.heap_alloc w o g h.lt).trans h
theorem Blk.set (h:Blk w g t cs) (i:Nat) (u:Value):Blk (w.setCell ⟨g,i,none⟩ u) g t (cs.setIfInBounds i u):=by
 unfold Blk at h⊢
 simp [World.setCell,Array.getElem?_modify,h]
theorem Blk.below (h:Blk w g t cs) (hb:Below w.heap.size w w'):Blk w' g t cs:=(hb.block g h.lt).trans h
theorem Blk.grown {row:Option Nat} (h:Blk w g t cs) (hb:w.grownBy w' row) (hg:row≠some g):Blk w' g t cs:=(hb.block g h.lt (fun e=>hg e.symm)).trans h
theorem Rd.nil:Rd w B A []:=.inl rfl
theorem Rd.keep (h:Rd w B A xs) (hk:∀b o,b<B→w'.cell? ⟨b,o,none⟩=w.cell? ⟨b,o,none⟩):Rd w' B A xs:=by
 rcases h with h | ⟨b,o,h1,h2,h3⟩
 ·exact .inl h
 ·exact .inr ⟨b,o,h1,h2,fun i u hu=>(hk _ _ h2).trans (h3 i u hu)⟩
theorem Rd.more (h:Rd w B A xs) (hB:B≤B'):Rd w B' A xs:=by
 rcases h with h | ⟨b,o,h1,h2,h3⟩
 ·exact .inl h
 ·exact .inr ⟨b,o,h1,by omega,h3⟩
theorem Rd.below (h:Rd w B A xs) (hb:Below B w w'):Rd w' B A xs:=h.keep fun _ _ hp=>hb.cell hp
theorem Rd.drewN (h:Rd w B A xs) (n:Nat):Rd (w.drewN n) B A xs:=h.keep fun _ _ _=>rfl
theorem Rd.alloc (h:Rd w B A xs) (hB:B≤w.heap.size) (o:Obj):Rd (w.alloc o) B A xs:=
 h.below ((Below.refl B w).alloc hB o)
theorem Rd.grown {row:Option Nat} (h:Rd w B A xs) (hg:w.grownBy w' row) (hB:B≤w.heap.size) (hr:∀k,row=some k→B≤k):Rd w' B A xs:=
 h.below ((Below.refl B w).grown hg hB hr)
theorem Rd.of_own {base n cap:Nat} (h:w.ownsRow base t 1 (.slice A n cap) n xs):Rd w w.heap.size A xs:=by
 rcases h.2 with⟨_,h2⟩ | ⟨g,cap',cur,hv,_,hh,_⟩
 ·left
  have h1:=h.1
  rw[h2] at h1
  exact List.eq_nil_of_length_eq_zero (by simpa using h1)
 ·right
  injection hv with hA _ _
  subst hA
  exact⟨g,0,rfl,(Array.getElem?_eq_some_iff.1 hh).1,fun i u hu=>by
   have:=h.cells (g:=g) rfl i u hu
   rwa [addr_add] at this⟩
theorem own_kept {base n size:Nat} {v:Value} (h:w.ownsRow base t size v n xs) (hb:Below w.heap.size w w'):w'.ownsRow base t size v n xs:=
 h.kept (g_of_below hb none) (by cases v.ownBlock<;>simp)
theorem Rd.at_ {i:Nat} {u:Value} (h:Rd w B A xs) (hi:xs[i]? = some u):∃b o,A=some ⟨b,o,none⟩∧b<B∧w.cell? ⟨b,o+i,none⟩=some u:=by
 rcases h with h | ⟨b,o,h1,h2,h3⟩
 ·subst h;simp at hi
 ·exact⟨b,o,h1,h2,h3 i u hi⟩
end
section
variable {P:Program} (w:World)
theorem run_bytes_str {B:Nat} {A:Option Addr} {l:List UInt8} (src e:TypeId) (hs:P.underlying src=some (.slice e)) (he:P.underlying e=some (.int .u8)) (h:Rd w B A (bvs l)) (n c:Nat) (hn:n=l.length)
  (dst:TypeId) (hd:P.underlying dst=some .string):(convert src dst (.slice A n c)).run P w = .ok (.string ⟨l.toArray⟩) w:=by
 subst hn
 have key:∀a:Addr,A=some a→(∀i u,(bvs l)[i]? = some u→w.cell? (a.add i)=some u)→(convert src dst (.slice A l.length c)).run P w = .ok (.string ⟨l.toArray⟩) w:=by
  intro a ha hc
  subst ha
  have e1:(l.map fun b=>(b.toNat:Int)).map (Value.int .u8)=bvs l:=by simp [bvs,bv,Function.comp_def]
  have hl:(loadCells a l.length).run P w = .ok ((l.map fun b=>(b.toNat:Int)).map (Value.int .u8)).toArray w:=by
   have:=run_loadCells_list (P:=P) w a (bvs l) hc
   rw[bvs_length] at this
   rw[e1];exact this
  rw[run_convert_bytes_string w src dst e _ _ c hs he hd,run_bytesToString w a l.length c _ hl,foldl_push_bytes]
  have e2:((l.map fun b=>(b.toNat:Int)).map fun n=>UInt8.ofNat n.toNat)=l:=by
   rw[List.map_map]
   conv=>rhs;rw[←List.map_id l]
   apply List.map_congr_left
   intro b _
   simp
  rw[e2]
  simp [ByteArray.empty,ByteArray.emptyWithCapacity]
  rfl
 cases hA:A with
 |some a=>
  rw[←hA]
  refine key a hA ?_
  rcases h with h | ⟨b,o,h1,_,h3⟩
  ·rw[h];intro i u hu;simp at hu
  ·rw[hA] at h1
   injection h1 with h1
   subst h1
   intro i u hu
   rw[addr_add];exact h3 i u hu
 |none=>
  have hl:l = []:=by
   rcases h with h | ⟨b,o,h1,_,_⟩
   ·exact List.map_eq_nil_iff.1 h
   ·rw[hA] at h1;cases h1
  subst hl
  rw[run_convert_bytes_nil w src e hs he _ c dst hd]
  rfl
theorem run_append_rd (base:Nat) (t ty e:TypeId) (i:TypeInfo) (z:Value) (bytes:Nat) (ht:P.underlying t=some (.slice e)) (hi:P.info? e=some i) (hz:i.zero=some z)
  (hsize:i.size=1) (hby:i.bytes=bytes) (hzs:z.cells.size=1)
  (v:Value) (n:Nat) (xs:List Value) (hown:w.ownsRow base e 1 v n xs)
  (B:Nat) (A:Option Addr) (m c:Nat) (news:List Value) (hm:m=news.length) (hr:Rd w B A news) (h1:∀u∈news,u.oneCell'=true)
  (h63:n+m≤maxLen) (hbytes:(n+m)*bytes≤140737488355328) (hbase:base≤w.heap.size) :
  ∃v' w',(Builtin.append_ #[t,t] ty #[v,.slice A m c]).run P w = .ok v' w'∧w'.ownsRow base e 1 v' (n+m) (xs++news)∧w.grownBy w' v.ownBlock∧
   (v'.ownBlock=v.ownBlock∨v'.ownBlock=some w.heap.size):=by
 subst hm
 cases hA:A with
 |some a=>
  have hc:∀j u,news[j]? = some u→w.cell? (a.add j)=some u:=by
   rcases hr with h | ⟨b,o,h1,_,h3⟩
   ·rw[h];intro i u hu;simp at hu
   ·rw[hA] at h1
    injection h1 with h1
    subst h1
    intro i u hu
    rw[addr_add];exact h3 i u hu
  obtain⟨v',w',hrun,h2,h3,_,h5⟩:=run_append_own_at (P:=P) w base t ty e i z 1 bytes ht hi hz hsize hby hzs (by omega) v n xs hown a news.length c news (by omega) hc h1 h63 hbytes hbase
  exact⟨v',w',hrun,h2,h3,h5⟩
 |none=>
  have hn:news = []:=by
   rcases hr with h | ⟨b,o,h1,_,_⟩
   ·exact h
   ·rw[hA] at h1;cases h1
  subst hn
  refine⟨v,w,?_,by simpa using hown,World.grownBy.refl w _,.inl rfl⟩
  rcases hown.2 with⟨rfl,rfl⟩ | ⟨g,cap,cur,rfl,_,_,hnc,_⟩
  ·simp [Builtin.append_,run_underlying ht,sizeOf,typeInfo,hi,Builtin.lenOf,Builtin.firstCells]
  ·simp [Builtin.append_,run_underlying ht,sizeOf,typeInfo,hi,Builtin.lenOf,Builtin.firstCells,hnc,storeCells]
theorem wp_append_rd {o:Oper} {a:Act} {K:Act→World→Prop} {Q:Exit→Act→World→Prop} (s x:Operand) (t:TypeId)
  (ho:o.op = .call {callee:=.builtin .append,args:=#[s,x],argTypes:=#[t,t]})
  (base:Nat) (e:TypeId) (i:TypeInfo) (z:Value) (bytes:Nat) (ht:P.underlying t=some (.slice e)) (hi:P.info? e=some i) (hz:i.zero=some z)
  (hsize:i.size=1) (hby:i.bytes=bytes) (hzs:z.cells.size=1)
  (v:Value) (n:Nat) (xs:List Value) (hs:a.eval s=v) (hown:w.ownsRow base e 1 v n xs)
  (B:Nat) (A:Option Addr) (m c:Nat) (news:List Value) (hx:a.eval x = .slice A m c) (hm:m=news.length) (hr:Rd w B A news) (h1:∀u∈news,u.oneCell'=true)
  (h63:n+m≤maxLen) (hbytes:(n+m)*bytes≤140737488355328) (hbase:base≤w.heap.size)
  (h:∀v' w',w'.ownsRow base e 1 v' (n+m) (xs++news)→w.grownBy w' v.ownBlock→(v'.ownBlock=v.ownBlock∨v'.ownBlock=some w.heap.size)→K (a.put o.dst v') w'):o.wp P a w K Q:=by
 obtain⟨v',w',hrun,h2,h3,h4⟩:=run_append_rd (P:=P) w base t o.type e i z bytes ht hi hz hsize hby hzs v n xs hown B A m c news hm hr h1 h63 hbytes hbase
 unfold Oper.wp execOp
 simp only[ho,resolve,invoke,builtin,Sem.run_bind,Sem.run_pure,Result.andThen_ok,List.map_toArray,List.map_cons,List.map_nil,hs,hx,hrun]
 exact h v' w' h2 h3 h4
theorem wpList_append_rd {ops:Array Oper} {rest:List Oper} {o:Oper} {a:Act} {Q:Exit→Act→World→Prop} (hgd:o.guard=none) (s x:Operand) (t:TypeId)
  (ho:o.op = .call {callee:=.builtin .append,args:=#[s,x],argTypes:=#[t,t]})
  (base:Nat) (e:TypeId) (i:TypeInfo) (z:Value) (bytes:Nat) (ht:P.underlying t=some (.slice e)) (hi:P.info? e=some i) (hz:i.zero=some z)
  (hsize:i.size=1) (hby:i.bytes=bytes) (hzs:z.cells.size=1)
  (v:Value) (n:Nat) (xs:List Value) (hs:a.eval s=v) (hown:w.ownsRow base e 1 v n xs)
  (B:Nat) (A:Option Addr) (m c:Nat) (news:List Value) (hx:a.eval x = .slice A m c) (hm:m=news.length) (hr:Rd w B A news) (h1:∀u∈news,u.oneCell'=true)
  (h63:n+m≤maxLen) (hbytes:(n+m)*bytes≤140737488355328) (hbase:base≤w.heap.size)
  (h:∀v' w',w'.ownsRow base e 1 v' (n+m) (xs++news)→w.grownBy w' v.ownBlock→(v'.ownBlock=v.ownBlock∨v'.ownBlock=some w.heap.size)→wpList P ops Q rest (a.put o.dst v') w'):wpList P ops Q (o :: rest) a w:=
 wpList_plain hgd fun _ hK=>wp_append_rd w s x t ho base e i z bytes ht hi hz hsize hby hzs v n xs hs hown B A m c news hx hm hr h1 h63 hbytes hbase fun v' w' h2 h3 h4=>hK _ _ (h v' w' h2 h3 h4)
end
def zeros (n:Nat):Array Value:=(List.replicate n (bv 0)).toArray
theorem zeros_size (n:Nat):(zeros n).size=n:=by simp [zeros]
theorem run_make_bytes {P:Program} {t e:TypeId} {i:TypeInfo} (ht:P.underlying t=some (.slice e)) (hi:P.info? e=some i) (hz:i.zero=some (.int .u8 0)) (hs:i.size=1) (hb:i.bytes=1)
  (C:Int) (n:Nat) (hC:C=(n:Int)) (hn:n≤1000000) (w:World) :
  (Instr.makeSlice t (.int .i64 C) (.int .i64 C)).run P w = .ok (.slice (some ⟨w.heap.size,0,none⟩) n n) (w.alloc (.cells (zeros n) e)):=by
 subst hC
 have h:=run_make (P:=P) w t e i _ ht hi hz .i64 .i64 (n:Int) (n:Int) (by omega) (by omega) (by rw[hb];omega) (by omega)
 rw[Int.toNat_natCast,hs,Nat.mul_one] at h
 rw[h]
 have e1:madeCells (Value.int .u8 0).cells n=zeros n:=by
  apply Array.toList_inj.1
  rw[show(Value.int .u8 0).cells=#[Value.int .u8 0] from rfl,toList_madeCells_one]
  simp [zeros,bv]
 rw[e1]
theorem run_make_room {P:Program} {t e:TypeId} {i:TypeInfo} (ht:P.underlying t=some (.slice e)) (hi:P.info? e=some i) (hz:i.zero=some (.int .u8 0)) (hs:i.size=1) (hb:i.bytes=1)
  (C:Int) (n:Nat) (hC:C=(n:Int)) (hn:n≤1000000) (w:World) :
  (Instr.makeSlice t (.int .i64 0) (.int .i64 C)).run P w = .ok (.slice (some ⟨w.heap.size,0,none⟩) 0 n) (w.alloc (.cells (zeros n) e)):=by
 subst hC
 have h:=run_make (P:=P) w t e i _ ht hi hz .i64 .i64 0 (n:Int) (by omega) (by omega) (by rw[hb];omega) (by omega)
 rw[Int.toNat_natCast,hs,Nat.mul_one] at h
 rw[h]
 have e1:madeCells (Value.int .u8 0).cells n=zeros n:=by
  apply Array.toList_inj.1
  rw[show(Value.int .u8 0).cells=#[Value.int .u8 0] from rfl,toList_madeCells_one]
  simp [zeros,bv]
 rw[e1]
 rfl
theorem bytes_below (w:World) (e:TypeId) (s:ByteArray):Below w.heap.size w (Lib.bytesWorld w e s):=
 ⟨rfl,rfl,rfl,by rw[Lib.bytesWorld_size];omega,fun k hk=>Lib.bytesWorld_at_old w e s k hk⟩
def Fresh (w:World) (base b:Nat) (l:List UInt8):Prop:=
 base≤b∧b<w.heap.size∧∀i (h:i<l.length),w.cell? ⟨b,i,none⟩=some (bv l[i])∧w.frozen? ⟨b,i,none⟩=false
theorem bytes_fresh (w:World) (e:TypeId) (l:List UInt8):Fresh (Lib.bytesWorld w e ⟨l.toArray⟩) w.heap.size w.heap.size l:=by
 refine⟨Nat.le_refl _,by rw[Lib.bytesWorld_size];omega,fun i h=>⟨?_,?_⟩⟩
 ·rw[Lib.bytesWorld_cell w e ⟨l.toArray⟩ i (by simpa [ByteArray.size] using h)]
  simp [bv,List.getD,h]
 ·have hsz:i<(Lib.bytesCells w e ⟨l.toArray⟩).size:=by
   simp only[Lib.bytesCells,Array.size_append,Array.size_map,Array.size_replicate]
   simp
   omega
  simp only[World.frozen?,Lib.bytesWorld_at_new]
  simp
  omega
theorem Fresh.rd {w:World} {base b:Nat} {l:List UInt8} (h:Fresh w base b l):Rd w w.heap.size (some ⟨b,0,none⟩) (bvs l):=by
 refine .inr ⟨b,0,rfl,h.2.1,fun i u hu=>?_⟩
 have hi:i<l.length:=by
  rcases Nat.lt_or_ge i l.length with g | g
  ·exact g
  ·rw[List.getElem?_eq_none (by rw[bvs_length];exact g)] at hu;cases hu
 rw[bvs_at hi] at hu
 injection hu with hu
 subst hu
 rw[Nat.zero_add]
 exact(h.2.2 i hi).1
end Go.Proofs.YtfcjeebnkigeaaaGreat.Mem
end

section
namespace Go.Proofs.YtfcjeebnkigeaaaGreat.Nm
abbrev L:=List UInt8
def capB (b:UInt8):Bool:=decide (65≤b.toNat)&&decide (b.toNat≤90)
def smallB (b:UInt8):Bool:=decide (97≤b.toNat)&&decide (b.toNat≤122)
def wordB (b:UInt8):Bool:=smallB b||(decide (48≤b.toNat)&&decide (b.toNat≤57))
def wordL (p:UInt8→Bool) (l:L):Bool:=decide (1≤l.length)&&(decide (l.length≤8)&&l.all p)
theorem wordL_iff (p:UInt8→Bool) (l:L):wordL p l=true↔1≤l.length∧l.length≤8∧l.all p=true:=by simp [wordL]
def hasC (c:UInt8) (l:L):Bool:=l.any fun x=>decide (x=c)
def bef (c:UInt8):L→L
 | []=>[]
 |x :: r=>if x=c then [] else x :: bef c r
def aft (c:UInt8):L→L
 | []=>[]
 |x :: r=>if x=c then r else aft c r
theorem hasC_iff (c:UInt8) (l:L):hasC c l=true↔c∈l:=by simp [hasC]
theorem hasC_false (c:UInt8) (l:L):hasC c l=false↔c∉l:=by rw[←hasC_iff];simp
theorem bef_none {c:UInt8} {l:L} (h:c∉l):bef c l=l:=by
 induction l with
 |nil=>rfl
 |cons x r ih=>
  simp only[List.mem_cons,not_or] at h
  rw[bef,if_neg (fun e=>h.1 e.symm),ih h.2]
theorem aft_none {c:UInt8} {l:L} (h:c∉l):aft c l = []:=by
 induction l with
 |nil=>rfl
 |cons x r ih=>
  simp only[List.mem_cons,not_or] at h
  rw[aft,if_neg (fun e=>h.1 e.symm),ih h.2]
theorem bef_not (c:UInt8) (l:L):c∉bef c l:=by
 induction l with
 |nil=>simp [bef]
 |cons x r ih=>
  rw[bef];split
  ·simp
  ·rename_i h;simp only[List.mem_cons,not_or];exact⟨fun e=>h e.symm,ih⟩
theorem cut_eq {c:UInt8} {l:L} (h:c∈l):l=bef c l++c :: aft c l:=by
 induction l with
 |nil=>simp at h
 |cons x r ih=>
  by_cases e:x=c
  ·simp [bef,aft,e]
  ·rw[bef,aft,if_neg e,if_neg e]
   have:c∈r:=(List.mem_cons.1 h).resolve_left fun g=>e g.symm
   simpa using ih this
theorem aft_len (c:UInt8) (l:L):(aft c l).length≤l.length:=by
 induction l with
 |nil=>simp [aft]
 |cons x r ih=>rw[aft];split<;>simp<;>omega
theorem bef_len (c:UInt8) (l:L):(bef c l).length≤l.length:=by
 induction l with
 |nil=>simp [bef]
 |cons x r ih=>rw[bef];split<;>simp<;>omega
def split (c:UInt8):L→List L
 | []=>[[]]
 |x :: r=>if x=c then [] :: split c r else match split c r with
  | []=>[[x]]
  |a :: t=>(x :: a) :: t
theorem split_ne (c:UInt8) (l:L):split c l≠[]:=by
 cases l with
 |nil=>simp [split]
 |cons x r=>
  rw[split];split
  ·simp
  ·split<;>simp
theorem split_len (c:UInt8) (l:L):1≤(split c l).length:=by
 have:=split_ne c l
 cases h:split c l with
 |nil=>exact absurd h this
 |cons a t=>simp
theorem split_none {c:UInt8} {l:L} (h:c∉l):split c l = [l]:=by
 induction l with
 |nil=>rfl
 |cons x r ih=>
  simp only[List.mem_cons,not_or] at h
  rw[split,if_neg (fun e=>h.1 e.symm),ih h.2]
theorem split_at {c:UInt8} (u v:L):split c (u++c :: v)=split c u++split c v:=by
 induction u with
 |nil=>simp [split]
 |cons x r ih=>
  rw[List.cons_append,split,split]
  split
  ·rw[ih];rfl
  ·rw[ih]
   cases h:split c r with
   |nil=>exact absurd h (split_ne c r)
   |cons a t=>rfl
theorem split_head {c:UInt8} {u v:L} (h:c∉u):split c (u++c :: v)=u :: split c v:=by rw[split_at,split_none h];rfl
theorem split_cut (c:UInt8) (l:L):split c l=if hasC c l then bef c l :: split c (aft c l) else [l]:=by
 by_cases h:c∈l
 ·rw[if_pos ((hasC_iff c l).2 h)]
  conv=>lhs;rw[cut_eq h]
  exact split_head (bef_not c l)
 ·rw[if_neg (by rw[hasC_iff];exact h)];exact split_none h
def labsL (ls:List L):Bool:=decide (1≤ls.length)&&(decide (ls.length≤4)&&ls.all (wordL capB))
theorem labsL_iff (ls:List L):labsL ls=true↔1≤ls.length∧ls.length≤4∧ls.all (wordL capB)=true:=by simp [labsL]
def areL (c:UInt8):Nat→L→Bool
 |0,_=>false
 |n+1,l=>wordL capB (bef c l)&&(if hasC c l then areL c n (aft c l) else true)
theorem areL_eq (c:UInt8) (n:Nat):∀l:L,areL c n l=(decide ((split c l).length≤n)&&(split c l).all (wordL capB)):=by
 induction n with
 |zero=>intro l;have:=split_len c l;rw[areL,decide_eq_false (by omega)];rfl
 |succ n ih=>
  intro l
  rw[areL,ih,split_cut c l]
  by_cases h:c∈l
  ·rw[(hasC_iff c l).2 h,if_pos rfl,if_pos rfl]
   simp only[List.length_cons,List.all_cons,Nat.add_le_add_iff_right]
   cases wordL capB (bef c l)<;>simp
  ·rw[(hasC_false c l).2 h,if_neg (by simp),if_neg (by simp),bef_none h]
   simp
theorem areL_labs (c:UInt8) (l:L):areL c 4 l=labsL (split c l):=by
 have:=split_len c l
 rw[areL_eq,labsL,decide_eq_true this];rfl
def slL (l:L):Bool:=decide (l.head? = some 47)&&labsL (split 47 l.tail)
def kindL (l:L):Nat:=if slL l then 2 else if labsL (split 46 l) then 1 else 0
theorem dom_head {l:L} (h:labsL (split 46 l)=true):l.head?≠some 47:=by
 intro e
 cases l with
 |nil=>simp at e
 |cons x r=>
  simp only[List.head?_cons,Option.some.injEq] at e
  subst e
  have h2:wordL capB (bef 46 (47 :: r))=true:=by
   have h3:=((labsL_iff _).1 h).2.2
   rw[split_cut] at h3
   split at h3
   ·simp only[List.all_cons,Bool.and_eq_true] at h3;exact h3.1
   ·rename_i hn
    rw[bef_none ((hasC_false _ _).1 (by simpa using hn))]
    simpa using h3
  have e2:bef 46 (47 :: r)=47 :: bef 46 r:=by rw[bef,if_neg (by decide)]
  have h4:=((wordL_iff _ _).1 h2).2.2
  rw[e2] at h4
  simp [capB] at h4
theorem sl_dom {l:L} (h:labsL (split 46 l)=true):slL l=false:=by
 simp [slL,dom_head h]
theorem kind_dom {l:L} (h:labsL (split 46 l)=true):kindL l=1:=by rw[kindL,sl_dom h,h];rfl
theorem kind_order (l:L):kindL l=if labsL (split 46 l) then 1 else if slL l then 2 else 0:=by
 cases h:labsL (split 46 l) with
 |true=>rw[kind_dom h];rfl
 |false=>rw[kindL,h];rfl
theorem kind_le (l:L):kindL l≤2:=by rw[kindL];split<;>(try split)<;>omega
theorem kind_nil:kindL []=0:=by decide
theorem kind_one {l:L} (h:kindL l=1):labsL (split 46 l)=true:=by
 rw[kindL] at h
 split at h
 ·omega
 ·split at h
  ·assumption
  ·omega
theorem kind_two {l:L} (h:kindL l=2):slL l=true:=by
 rw[kindL] at h
 split at h
 ·assumption
 ·split at h<;>omega
def isL (l:L):Bool:=decide (1≤kindL l)
end Go.Proofs.YtfcjeebnkigeaaaGreat.Nm
end

section
namespace Go.Proofs.YtfcjeebnkigeaaaGreat.Nm
def pl (A:List L) (i:Nat):L:=A.getD i []
theorem pl_lt {A:List L} {i:Nat} (h:i<A.length):pl A i=A[i]:=by simp [pl,h]
theorem pl_mem {A:List L} {i:Nat} (h:i<A.length):pl A i∈A:=by rw[pl_lt h];exact List.getElem_mem h
theorem mem_pl {A:List L} {x:L} (h:x∈A):∃i,i<A.length∧pl A i=x:=by
 obtain⟨i,hi,e⟩:=List.getElem_of_mem h
 exact⟨i,hi,by rw[pl_lt hi];exact e⟩
def ix (A B:List L):Nat:=A.findIdx fun x=>decide (x∈B)
def upW (A:List L) (b:L):Nat→List L
 |0=>[]
 |k+1=>upW A b k++(if pl A (k+1) = []∨pl A (k+1)=b then [] else [pl A (k+1)])
theorem take_succ_pl {A:List L} {i:Nat} (h:i<A.length):A.take (i+1)=A.take i++[pl A i]:=by
 rw[pl_lt h,List.take_succ_eq_append_getElem h]
end Go.Proofs.YtfcjeebnkigeaaaGreat.Nm
end

section
namespace Go.Proofs.YtfcjeebnkigeaaaGreat.Nm
open Go.RowKit Go.Proofs.YtfcjeebnkigeaaaGreat.Mem
attribute [local go_sem] mk_at List.getElem_cons_zero List.getElem_cons_succ
theorem capital_any (b:UInt8) (w:World):Calls Tryz.prog 279 #[.int .u8 (b.toNat:Int)] w fun e w'=>e = .returned (.bool (capB b))∧w=w':=by
 have hb:=u8_le b
 by_cases h1:65≤b.toNat
 ·have g1:decide (65≤(b.toNat:Int))=true:=by simp;omega
  by_cases h2:b.toNat≤90
  ·have g2:decide ((b.toNat:Int)≤90)=true:=by simp;omega
   have E:=Lib.hid (show capB b=true by simp [capB,h1,h2])
   clear h1 h2
   go_enter Tryz.func279,Tryz.ntmps279
   go_wp2
   go_ret
   exact⟨by rw[E.out];rfl,rfl⟩
  ·have g2:decide ((b.toNat:Int)≤90)=false:=by simp;omega
   have E:=Lib.hid (show capB b=false by simp [capB,h2])
   clear h1 h2
   go_enter Tryz.func279,Tryz.ntmps279
   go_wp2
   go_ret
   exact⟨by rw[E.out];rfl,rfl⟩
 ·have g1:decide (65≤(b.toNat:Int))=false:=by simp;omega
  have E:=Lib.hid (show capB b=false by simp [capB,h1])
  clear h1
  go_enter Tryz.func279,Tryz.ntmps279
  go_wp2
  go_ret
  exact⟨by rw[E.out];rfl,rfl⟩
theorem small_any (b:UInt8) (w:World):Calls Tryz.prog 214 #[.int .u8 (b.toNat:Int)] w fun e w'=>e = .returned (.bool (smallB b))∧w=w':=by
 have hb:=u8_le b
 by_cases h1:97≤b.toNat
 ·have g1:decide (97≤(b.toNat:Int))=true:=by simp;omega
  by_cases h2:b.toNat≤122
  ·have g2:decide ((b.toNat:Int)≤122)=true:=by simp;omega
   have E:=Lib.hid (show smallB b=true by simp [smallB,h1,h2])
   clear h1 h2
   go_enter Tryz.func214,Tryz.ntmps214
   go_wp2
   go_ret
   exact⟨by rw[E.out];rfl,rfl⟩
  ·have g2:decide ((b.toNat:Int)≤122)=false:=by simp;omega
   have E:=Lib.hid (show smallB b=false by simp [smallB,h2])
   clear h1 h2
   go_enter Tryz.func214,Tryz.ntmps214
   go_wp2
   go_ret
   exact⟨by rw[E.out];rfl,rfl⟩
 ·have g1:decide (97≤(b.toNat:Int))=false:=by simp;omega
  have E:=Lib.hid (show smallB b=false by simp [smallB,h1])
  clear h1
  go_enter Tryz.func214,Tryz.ntmps214
  go_wp2
  go_ret
  exact⟨by rw[E.out];rfl,rfl⟩
theorem smalldig_any (b:UInt8) (w:World):Calls Tryz.prog 152 #[.int .u8 (b.toNat:Int)] w fun e w'=>e = .returned (.bool (wordB b))∧w=w':=by
 have hb:=u8_le b
 have c1:=small_any b w
 by_cases h0:smallB b=true
 ·have E:=Lib.hid (show wordB b=true by simp [wordB,h0])
  rw[h0] at c1
  clear h0
  go_enter Tryz.func152,Tryz.ntmps152
  go_wp2_with (go_at_call 214;refine Calls.mono c1 ?_;rintro e w1 ⟨rfl,rfl⟩)
  go_ret
  exact⟨by rw[E.out];rfl,rfl⟩
 ·have h0:smallB b=false:=by simpa using h0
  rw[h0] at c1
  by_cases h1:48≤b.toNat
  ·have g1:decide (48≤(b.toNat:Int))=true:=by simp;omega
   by_cases h2:b.toNat≤57
   ·have g2:decide ((b.toNat:Int)≤57)=true:=by simp;omega
    have E:=Lib.hid (show wordB b=true by simp [wordB,h1,h2])
    clear h1 h2 h0
    go_enter Tryz.func152,Tryz.ntmps152
    go_wp2_with (go_at_call 214;refine Calls.mono c1 ?_;rintro e w1 ⟨rfl,rfl⟩)
    go_ret
    exact⟨by rw[E.out];rfl,rfl⟩
   ·have g2:decide ((b.toNat:Int)≤57)=false:=by simp;omega
    have E:=Lib.hid (show wordB b=false by simp [wordB,h2,h0])
    clear h1 h2 h0
    go_enter Tryz.func152,Tryz.ntmps152
    go_wp2_with (go_at_call 214;refine Calls.mono c1 ?_;rintro e w1 ⟨rfl,rfl⟩)
    go_ret
    exact⟨by rw[E.out];rfl,rfl⟩
  ·have g1:decide (48≤(b.toNat:Int))=false:=by simp;omega
   have E:=Lib.hid (show wordB b=false by simp [wordB,h1,h0])
   clear h1 h0
   go_enter Tryz.func152,Tryz.ntmps152
   go_wp2_with (go_at_call 214;refine Calls.mono c1 ?_;rintro e w1 ⟨rfl,rfl⟩)
   go_ret
   exact⟨by rw[E.out];rfl,rfl⟩
theorem word_all {p:UInt8→Bool} {l:L} (h:∀i (h:i<l.length),p l[i]=true) (h1:1≤l.length) (h8:l.length≤8):wordL p l=true:=by
 rw[wordL_iff]
 refine⟨h1,h8,?_⟩
 rw[List.all_eq_true]
 intro x hx
 obtain⟨i,hi,rfl⟩:=List.getElem_of_mem hx
 exact h i hi
theorem word_bad {p:UInt8→Bool} {l:L} {i:Nat} (hi:i<l.length) (h:p l[i]=false):wordL p l=false:=by
 cases e:wordL p l with
 |false=>rfl
 |true=>
  have:=((wordL_iff p l).1 e).2.2
  rw[List.all_eq_true] at this
  have:=this _ (List.getElem_mem hi)
  rw[h] at this;cases this
theorem word_short {p:UInt8→Bool} {l:L} (h:l.length<1):wordL p l=false:=by simp [wordL];omega
theorem word_long {p:UInt8→Bool} {l:L} (h:8<l.length):wordL p l=false:=by simp [wordL];omega
def Fit (p:UInt8→Bool) (l:L) (k:Nat):Prop:=∀i (h:i<l.length),i<k→p l[i]=true
set_option maxHeartbeats 800000 in
theorem isword_cap (l:L) (w:World) (hs:l.length≤1000000000):Calls Tryz.prog 151 #[.string ⟨l.toArray⟩,.func (.func 279) #[] #[]] w fun e w'=>e = .returned (.bool (wordL capB l))∧w=w':=by
 by_cases h1:l.length<1
 ·have E:=Lib.hid (word_short (p:=capB) h1)
  have g1:decide ((l.length:Int)<1)=true:=by simp;omega
  clear h1
  go_enter Tryz.func151,Tryz.ntmps151
  go_wp2
  go_ret
  exact⟨by rw[E.out];rfl,rfl⟩
 ·have g1:decide ((l.length:Int)<1)=false:=by simp;omega
  by_cases h2:8<l.length
  ·have E:=Lib.hid (word_long (p:=capB) h2)
   have g2:decide (8<(l.length:Int))=true:=by simp;omega
   clear h1 h2
   go_enter Tryz.func151,Tryz.ntmps151
   go_wp2
   go_ret
   exact⟨by rw[E.out];rfl,rfl⟩
  ·have g2:decide (8<(l.length:Int))=false:=by simp;omega
   have HA:=Lib.hid (fun h=>word_all (p:=capB) (l:=l) h (by omega) (by omega))
   clear h1 h2
   go_enter Tryz.func151,Tryz.ntmps151
   go_wp2
   go_loop [16] (fun iv=>∃k:Nat,k≤l.length∧iv = .int .i64 (k:Int)∧Fit capB l k) (fun iv=>l.length - (intOf iv).toNat)
   case atStart=>exact⟨0,Nat.zero_le _,rfl,fun i _ h=>by omega⟩
   case round=>
    obtain⟨k,hk,rfl,hf⟩:=hrel
    by_cases hlt:k<l.length
    ·have e1:(k:Int)<(l.length:Int):=by omega
     have c1:=capital_any l[k] w
     have HF:=Lib.hid hf;clear hf
     by_cases hp:capB l[k]=true
     ·rw[hp] at c1
      have HP:=Lib.hid hp;clear hp
      go_wp2_with (go_at_call 279;refine Calls.mono c1 ?_;rintro e w1 ⟨rfl,rfl⟩)
      go_round
      case rel=>exact⟨k+1,by omega,by go_num,fun i hi hik=>by
       by_cases q:i=k
       ·subst q;exact HP.out
       ·exact HF.out i hi (by omega)⟩
      case measure=>simp [intOf];omega
     ·have hp:capB l[k]=false:=by simpa using hp
      rw[hp] at c1
      have E:=Lib.hid (word_bad hlt hp);clear hp
      go_wp2_with (go_at_call 279;refine Calls.mono c1 ?_;rintro e w1 ⟨rfl,rfl⟩)
      go_ret
      exact⟨by rw[E.out];rfl,rfl⟩
    ·have HF:=Lib.hid hf;clear hf
     have E:=Lib.hid (HA.out (fun i hi=>HF.out i hi (by omega)))
     have e1:¬(k:Int)<(l.length:Int):=by omega
     go_wp2
     go_ret
     exact⟨by rw[E.out];rfl,rfl⟩
set_option maxHeartbeats 800000 in
theorem isword_sd (l:L) (w:World) (hs:l.length≤1000000000):Calls Tryz.prog 151 #[.string ⟨l.toArray⟩,.func (.func 152) #[] #[]] w fun e w'=>e = .returned (.bool (wordL wordB l))∧w=w':=by
 by_cases h1:l.length<1
 ·have E:=Lib.hid (word_short (p:=wordB) h1)
  have g1:decide ((l.length:Int)<1)=true:=by simp;omega
  clear h1
  go_enter Tryz.func151,Tryz.ntmps151
  go_wp2
  go_ret
  exact⟨by rw[E.out];rfl,rfl⟩
 ·have g1:decide ((l.length:Int)<1)=false:=by simp;omega
  by_cases h2:8<l.length
  ·have E:=Lib.hid (word_long (p:=wordB) h2)
   have g2:decide (8<(l.length:Int))=true:=by simp;omega
   clear h1 h2
   go_enter Tryz.func151,Tryz.ntmps151
   go_wp2
   go_ret
   exact⟨by rw[E.out];rfl,rfl⟩
  ·have g2:decide (8<(l.length:Int))=false:=by simp;omega
   have HA:=Lib.hid (fun h=>word_all (p:=wordB) (l:=l) h (by omega) (by omega))
   clear h1 h2
   go_enter Tryz.func151,Tryz.ntmps151
   go_wp2
   go_loop [16] (fun iv=>∃k:Nat,k≤l.length∧iv = .int .i64 (k:Int)∧Fit wordB l k) (fun iv=>l.length - (intOf iv).toNat)
   case atStart=>exact⟨0,Nat.zero_le _,rfl,fun i _ h=>by omega⟩
   case round=>
    obtain⟨k,hk,rfl,hf⟩:=hrel
    by_cases hlt:k<l.length
    ·have e1:(k:Int)<(l.length:Int):=by omega
     have c1:=smalldig_any l[k] w
     have HF:=Lib.hid hf;clear hf
     by_cases hp:wordB l[k]=true
     ·rw[hp] at c1
      have HP:=Lib.hid hp;clear hp
      go_wp2_with (go_at_call 152;refine Calls.mono c1 ?_;rintro e w1 ⟨rfl,rfl⟩)
      go_round
      case rel=>exact⟨k+1,by omega,by go_num,fun i hi hik=>by
       by_cases q:i=k
       ·subst q;exact HP.out
       ·exact HF.out i hi (by omega)⟩
      case measure=>simp [intOf];omega
     ·have hp:wordB l[k]=false:=by simpa using hp
      rw[hp] at c1
      have E:=Lib.hid (word_bad hlt hp);clear hp
      go_wp2_with (go_at_call 152;refine Calls.mono c1 ?_;rintro e w1 ⟨rfl,rfl⟩)
      go_ret
      exact⟨by rw[E.out];rfl,rfl⟩
    ·have HF:=Lib.hid hf;clear hf
     have E:=Lib.hid (HA.out (fun i hi=>HF.out i hi (by omega)))
     have e1:¬(k:Int)<(l.length:Int):=by omega
     go_wp2
     go_ret
     exact⟨by rw[E.out];rfl,rfl⟩
end Go.Proofs.YtfcjeebnkigeaaaGreat.Nm
end

section
set_option linter.unusedVariables false
namespace Go.Proofs.YtfcjeebnkigeaaaGreat.Nm
open Go.RowKit Go.Proofs.YtfcjeebnkigeaaaGreat.Mem
theorem ext_take (l:List UInt8) (k:Nat):(ByteArray.mk l.toArray).extract 0 k=ByteArray.mk (l.take k).toArray:=by
 rw[ByteArray.extract_mk];simp
attribute [local go_sem] mk_at List.getElem_cons_zero List.getElem_cons_succ ext_tail ext_drop ext_mid ext_take
theorem u8_back (b:UInt8):((b.toNat:Int)).toNat.toUInt8=b:=by simp
theorem idx_miss {c:UInt8} {l:L} (h:c∉l):Lib.indexByte l c = -1:=by
 induction l with
 |nil=>rfl
 |cons x r ih=>
  simp only[List.mem_cons,not_or] at h
  rw[Lib.indexByte,if_neg (by simpa using fun e:x=c=>h.1 e.symm),ih h.2];rfl
theorem idx_hit {c:UInt8} {l:L} (h:c∈l):Lib.indexByte l c=((bef c l).length:Int):=by
 induction l with
 |nil=>simp at h
 |cons x r ih=>
  rw[Lib.indexByte,bef]
  by_cases e:x=c
  ·rw[if_pos (by simpa using e),if_pos e];rfl
  ·have hm:c∈r:=(List.mem_cons.1 h).resolve_left fun g=>e g.symm
   rw[if_neg (by simpa using e),if_neg e,ih hm,if_neg (by simp)]
   simp
theorem take_bef {c:UInt8} {l:L} (h:c∈l):l.take (bef c l).length=bef c l:=by
 have e:=cut_eq h
 have g:(bef c l++c :: aft c l).take (bef c l).length=bef c l:=by simp
 rwa [←e] at g
theorem drop_bef {c:UInt8} {l:L} (h:c∈l):l.drop ((bef c l).length+1)=aft c l:=by
 have e:=cut_eq h
 have g:(bef c l++c :: aft c l).drop ((bef c l).length+1)=aft c l:=by simp
 rwa [←e] at g
theorem bef_lt {c:UInt8} {l:L} (h:c∈l):(bef c l).length<l.length:=by
 have:=congrArg List.length (cut_eq h)
 simp at this;omega
theorem ibs_run (l:L) (b:UInt8) (w:World):(callFunc 320 #[.string ⟨l.toArray⟩,.int .u8 (b.toNat:Int)]).run Tryz.prog w = .ok (.value (.int .i64 (Lib.indexByte l b))) w:=by
 rw[run_callFunc_extern Tryz.func320 (by kernel_rfl) (by kernel_rfl) (by kernel_rfl) (e:=Extern.BytealgIndexByte.indexByte) (by kernel_rfl),Lib.run_indexByteString]
 simp only[Result.andThen,u8_back]
theorem indexbyte_any (l:L) (b:UInt8) (w:World):Calls Tryz.prog 310 #[.string ⟨l.toArray⟩,.int .u8 (b.toNat:Int)] w fun e w'=>e = .returned (.int .i64 (Lib.indexByte l b))∧w=w':=by
 have h:=fun w=>ibs_run l b w
 go_enter Tryz.func310,Tryz.ntmps310
 go_wp2
 go_ret
 exact⟨rfl,rfl⟩
theorem size_mk (l:L):(ByteArray.mk l.toArray).size=l.length:=by simp [ByteArray.size]
set_option maxHeartbeats 400000 in
theorem index_one (l:L) (b:UInt8) (w:World):Calls Tryz.prog 292 #[.string ⟨l.toArray⟩,.string ⟨#[b]⟩] w fun e w'=>e = .returned (.int .i64 (Lib.indexByte l b))∧w=w':=by
 have c1:=indexbyte_any l b w
 by_cases e:l = [b]
 ·subst e
  have E:=Lib.hid (show Lib.indexByte [b] b=0 by simp [Lib.indexByte])
  go_enter Tryz.func292,Tryz.ntmps292
  go_wp2_with fail
  go_ret
  exact⟨by rw[E.out];rfl,rfl⟩
 ·have t1:([b]==l)=false:=by simpa using fun g:[b]=l=>e g.symm
  clear e
  go_enter Tryz.func292,Tryz.ntmps292
  go_wp2_with (go_at_call 310;refine Calls.mono c1 ?_;rintro e w1 ⟨rfl,rfl⟩)
  go_ret
  exact⟨rfl,rfl⟩
def Drawn (w w':World):Prop:=∃n,w'=w.drewN n
theorem Drawn.refl (w:World):Drawn w w:=⟨0,rfl⟩
theorem Drawn.below {w w':World} (h:Drawn w w'):Below w.heap.size w w':=by
 obtain⟨n,rfl⟩:=h
 exact below_drewN (Below.refl _ _) n
set_option maxHeartbeats 400000 in
theorem litecut_one (l:L) (b:UInt8) (w:World) (hs:l.length≤1000000000):Calls Tryz.prog 271 #[.string ⟨l.toArray⟩,.string ⟨#[b]⟩] w fun e w'=>
  e = .returned (.tuple #[.string ⟨(bef b l).toArray⟩,.string ⟨(aft b l).toArray⟩,.bool (hasC b l)])∧Drawn w w':=by
 have c1:=index_one l b w
 by_cases h:b∈l
 ·have E1:=Lib.hid (show hasC b l=true from(hasC_iff _ _).2 h)
  have E2:=Lib.hid (take_bef h)
  have E3:=Lib.hid (drop_bef h)
  have hl:=bef_lt h
  obtain⟨n,en⟩:∃n,n=(bef b l).length:=⟨_,rfl⟩
  rw[idx_hit h,←en] at c1
  rw[←en] at E2 E3 hl
  have EN:=Lib.hid en;clear en h
  go_enter Tryz.func271,Tryz.ntmps271
  go_wp2_with (go_at_call 292;refine Calls.mono c1 ?_;rintro e w1 ⟨rfl,rfl⟩)
  go_quiet (fail)
  go_wp2
  go_ret3
  rename_i q _
  exact⟨by rw[E1.out,←E2.out,←E3.out];rfl,⟨_,rfl⟩⟩
 ·have E1:=Lib.hid (show hasC b l=false from(hasC_false _ _).2 h)
  have E2:=Lib.hid (bef_none h)
  have E3:=Lib.hid (aft_none h)
  rw[idx_miss h] at c1
  clear h
  go_enter Tryz.func271,Tryz.ntmps271
  go_wp2_with (go_at_call 292;refine Calls.mono c1 ?_;rintro e w1 ⟨rfl,rfl⟩)
  go_ret3
  exact⟨by rw[E1.out,E2.out,E3.out];rfl,Drawn.refl _⟩
theorem cut_one (l:L) (b:UInt8) (w:World) (hs:l.length≤1000000000):Calls Tryz.prog 238 #[.string ⟨l.toArray⟩,.string ⟨#[b]⟩] w fun e w'=>
  e = .returned (.tuple #[.string ⟨(bef b l).toArray⟩,.string ⟨(aft b l).toArray⟩,.bool (hasC b l)])∧Drawn w w':=by
 have c1:=litecut_one l b w hs
 go_enter Tryz.func238,Tryz.ntmps238
 go_wp2_with (go_at_call 271;refine Calls.mono c1 ?_;rintro e w1 ⟨rfl,hd⟩)
 go_ret3
 exact⟨rfl,hd⟩
def preL (p l:L):Bool:=p.isPrefixOf l
theorem pre_take (p l:L):(l.take p.length==p)=preL p l:=by
 rw[preL,Bool.eq_iff_iff]
 simp only[beq_iff_eq,List.isPrefixOf_iff_prefix]
 rw[List.prefix_iff_eq_take]
 exact eq_comm
theorem pre_len {p l:L} (h:preL p l=true):p.length≤l.length:=(List.isPrefixOf_iff_prefix.1 h).length_le
theorem pre_iff {p l:L}:preL p l=true↔l=p++l.drop p.length:=by
 constructor
 ·intro h
  obtain⟨t,e⟩:=List.isPrefixOf_iff_prefix.1 h
  rw[←e];simp
 ·intro h
  rw[preL,List.isPrefixOf_iff_prefix]
  exact⟨_,h.symm⟩
set_option maxHeartbeats 400000 in
theorem hasprefix_any (l p:L) (w:World) (hs:l.length≤1000000000) (hp:p.length≤1000000000):Calls Tryz.prog 280 #[.string ⟨l.toArray⟩,.string ⟨p.toArray⟩] w fun e w'=>
  e = .returned (.bool (preL p l))∧w=w':=by
 by_cases h:p.length≤l.length
 ·have e1:(p.length:Int)≤(l.length:Int):=by omega
  have E:=Lib.hid (pre_take p l)
  clear h
  go_enter Tryz.func280,Tryz.ntmps280
  go_wp2
  go_ret
  exact⟨by rw[←E.out];rfl,rfl⟩
 ·have E:=Lib.hid (show preL p l=false by
   cases q:preL p l with
   |false=>rfl
   |true=>exact absurd (pre_len q) h)
  have e1:¬(p.length:Int)≤(l.length:Int):=by omega
  clear h
  go_enter Tryz.func280,Tryz.ntmps280
  go_wp2
  go_ret
  exact⟨by rw[E.out];rfl,rfl⟩
def cpL (p l:L):L:=if preL p l then l.drop p.length else l
set_option maxHeartbeats 400000 in
theorem litecutprefix_any (l p:L) (w:World) (hs:l.length≤1000000000) (hp:p.length≤1000000000):Calls Tryz.prog 256 #[.string ⟨l.toArray⟩,.string ⟨p.toArray⟩] w fun e w'=>
  e = .returned (.tuple #[.string ⟨(cpL p l).toArray⟩,.bool (preL p l)])∧w=w':=by
 have c1:=hasprefix_any l p w hs hp
 by_cases h:preL p l=true
 ·have e1:(p.length:Int)≤(l.length:Int):=by have:=pre_len h;omega
  have E:=Lib.hid (show cpL p l=l.drop p.length by rw[cpL,if_pos h])
  have E2:=Lib.hid h
  rw[h] at c1
  clear h
  go_enter Tryz.func256,Tryz.ntmps256
  go_wp2_with (go_at_call 280;refine Calls.mono c1 ?_;rintro e w1 ⟨rfl,rfl⟩)
  go_ret2
  exact⟨by rw[E.out,E2.out];rfl,rfl⟩
 ·have h:preL p l=false:=by simpa using h
  have E:=Lib.hid (show cpL p l=l by rw[cpL,if_neg (by simp [h])])
  have E2:=Lib.hid h
  rw[h] at c1
  clear h
  go_enter Tryz.func256,Tryz.ntmps256
  go_wp2_with (go_at_call 280;refine Calls.mono c1 ?_;rintro e w1 ⟨rfl,rfl⟩)
  go_ret2
  exact⟨by rw[E.out,E2.out];rfl,rfl⟩
theorem cutprefix_any (l p:L) (w:World) (hs:l.length≤1000000000) (hp:p.length≤1000000000):Calls Tryz.prog 213 #[.string ⟨l.toArray⟩,.string ⟨p.toArray⟩] w fun e w'=>
  e = .returned (.tuple #[.string ⟨(cpL p l).toArray⟩,.bool (preL p l)])∧w=w':=by
 have c1:=litecutprefix_any l p w hs hp
 go_enter Tryz.func213,Tryz.ntmps213
 go_wp2_with (go_at_call 256;refine Calls.mono c1 ?_;rintro e w1 ⟨rfl,rfl⟩)
 go_ret2
 exact⟨rfl,rfl⟩
theorem u8_row:(Tryz.prog.info? 5).map (fun i=>(i.zero,i.size,i.bytes))=some (some (.int .u8 0),1,1):=by kernel_rfl
theorem room_any (n:Nat) (hn:n≤1000000000) (w:World):(Instr.makeSlice 30 (.int .i64 (n:Int)) (.int .i64 (n:Int))).run Tryz.prog w = .ok (.slice (some ⟨w.heap.size,0,none⟩) n n) (w.alloc (.cells (zeros n) 5)):=by
 obtain⟨i0,hi,hz,hs,hb⟩:=info_parts u8_row
 have h:=run_make (P:=Tryz.prog) w 30 5 i0 _ Tryz.underlying30 hi hz .i64 .i64 (n:Int) (n:Int) (by omega) (by omega) (by rw[hb];omega) (by omega)
 have e:madeCells (Value.int .u8 0).cells (((n:Int)).toNat*i0.size)=zeros n:=by
  rw[hs,Nat.mul_one,Int.toNat_natCast]
  refine Array.toList_inj.1 ?_
  show(madeCells #[Value.int .u8 0] n).toList=_
  rw[toList_madeCells_one];simp [zeros,bv]
 rw[e] at h
 simpa using h
theorem laid_any (s:L) (w:World):(Builtin.copy_ #[30,9] 3 #[.slice (some ⟨w.heap.size,0,none⟩) s.length s.length,.string ⟨s.toArray⟩]).run Tryz.prog (w.alloc (.cells (zeros s.length) 5)) = .ok (goInt s.length) (w.alloc (.cells (bvs s).toArray 5)):=by
 obtain⟨i0,hi,_,hs,_⟩:=info_parts u8_row
 have hk:=Blk.new w 5 (zeros s.length)
 have h:=Lib.run_copy_row_string (P:=Tryz.prog) _ 30 9 3 5 w.heap.size 0 s.length s.length ⟨s.toArray⟩ _ 5 Tryz.underlying30 (by rw[hi];simp [hs]) hk (by rw[size_mk];exact Nat.le_refl _) (by rw[size_mk,zeros_size];omega)
 rw[size_mk,World.setRow_alloc_new] at h
 have e:(zeros s.length).toList.take 0++Lib.byteCells s++(zeros s.length).toList.drop (0+s.length)=bvs s:=by
  rw[List.drop_of_length_le (by rw[Array.length_toList,zeros_size];omega)]
  simp [Lib.byteCells,bvs,bv]
 rw[e] at h
 exact h
theorem told_any (s:L) (h0:s≠[]) (hs:s.length≤1000000000) (w:World):(Builtin.unsafeString_ #[327,3] 9 #[.pointer (some ⟨w.heap.size,0,none⟩),.int .i64 (s.length:Int)]).run Tryz.prog (w.alloc (.cells (bvs s).toArray 5)) = .ok (.string ⟨s.toArray⟩) ((w.alloc (.cells (bvs s).toArray 5)).freeze ⟨w.heap.size,0,none⟩ s.length):=by
 obtain⟨i0,hi,_,hz,_⟩:=info_parts u8_row
 have hk:=Blk.new w 5 (bvs s).toArray
 refine Lib.run_unsafeString_row (P:=Tryz.prog) _ _ _ _ 5 Tryz.underlying327 (by simp [Program.cellsOf,hi,hz]) w.heap.size s.length ?_ s h0 (Nat.le_refl _) (by omega) fun j x hx=>?_
 ·unfold World.shape?
  rw[show(w.alloc (.cells (bvs s).toArray 5)).heap[w.heap.size]? = _ from hk]
  simp [bvs_length]
 ·obtain⟨hj,e⟩:=List.getElem?_eq_some_iff.1 hx
  rw[addr_add,Nat.zero_add,hk.cell,List.getElem?_toArray,bvs_at hj,e];rfl
set_option maxHeartbeats 800000 in
set_option maxRecDepth 100000 in
theorem liteclone_any (s:L) (w:World) (hlim:s.length≤1000000000):Calls Tryz.prog 147 #[.string ⟨s.toArray⟩] w fun e w'=>e = .returned (.string ⟨s.toArray⟩)∧Below w.heap.size w w':=by
 by_cases h0:s = []
 ·subst h0
  go_enter Tryz.func147,Tryz.ntmps147
  go_wp2
  go_ret
  exact⟨rfl,Below.refl _ _⟩
 ·have hmk:=room_any s.length hlim w
  have hcp:=laid_any s w
  have hus:=told_any s h0 hlim w
  have hl:1≤s.length:=by
   cases s with
   |nil=>exact absurd rfl h0
   |cons a r=>simp
  have t0:((s.length:Int)==0)=false:=by simp;omega
  have HB:=Lib.hid (Lib.below_freeze ((Below.refl w.heap.size w).alloc (Nat.le_refl _) (.cells (bvs s).toArray 5)) (p:=⟨w.heap.size,0,none⟩) (Nat.le_refl _) s.length)
  clear h0
  go_enter Tryz.func147,Tryz.ntmps147
  go_wp2
  go_ret
  exact⟨rfl,HB.out⟩
theorem clone_any (s:L) (w:World) (hlim:s.length≤1000000000):Calls Tryz.prog 94 #[.string ⟨s.toArray⟩] w fun e w'=>e = .returned (.string ⟨s.toArray⟩)∧Below w.heap.size w w':=by
 have c1:=liteclone_any s w hlim
 go_enter Tryz.func94,Tryz.ntmps94
 go_wp2_with (go_at_call 147;refine Calls.mono c1 ?_;rintro e w' ⟨rfl,hb⟩)
 go_ret
 exact⟨rfl,hb⟩
end Go.Proofs.YtfcjeebnkigeaaaGreat.Nm
end
