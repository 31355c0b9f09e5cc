import Derived.Test.YtlccngianpfalaaGreatZClientRequests8
set_option maxHeartbeats 25600000
set_option maxRecDepth 100000
set_option linter.unusedVariables false
set_option linter.unusedSimpArgs false
namespace Go.Proofs.YtlccngianpfalaaGreat
namespace Wh
open Go.RowKit Ae
section
variable {w w':World} {g o:Nat} {t:TypeId} {cs ds ps:Array Value} {pre mid post:List Value}
theorem Ac (h:Blk w g t cs):w.rangeAt g 0 cs.toList:=fun j v M=>by
 rw[Nat.zero_add,h.cell];simpa using M
theorem Dk (h:Blk w g t cs) (Y:cs.toList=pre++(mid++post)) (o:Nat) (X:o=pre.length):w.rangeAt g o mid:=fun j v M=>by
 subst X;have O:j<mid.length:=(List.getElem?_eq_some_iff.1 M).1;rw[h.cell,<-Array.getElem?_toList,Y,List.getElem?_append_right (by omega),Nat.add_sub_cancel_left,List.getElem?_append_left O];exact M
theorem BZ (h:Blk w g t cs) (o n:Nat) (O:o+n<=cs.size):w.there g o n:=fun j M=>by
 rw[h.cell,Array.getElem?_eq_getElem (by omega)];exact⟨rfl,h.frozen (o+j)⟩
theorem Bl {g:Nat} {t:TypeId}:∀(vs:List Value) (o:Nat) (w:World) (cs:Array Value),Blk w g t cs->o+vs.length<=cs.size->
  ∃ds:Array Value,Blk (w.setCells g o vs) g t ds/\ds.size=cs.size/\(∀i,o<=i->i<o+vs.length->ds[i]? = vs[i - o]?)/\(∀i,i<o\/o+vs.length<=i->ds[i]? = cs[i]?)
 | [],o,w,cs,h,hl=>⟨cs,h,rfl,fun i O M=>by simp at M;omega,fun i _=>rfl⟩
 |v :: r,o,w,cs,h,hl=>by
  rw[World.setCells];simp only[List.length_cons] at hl;obtain⟨ds,O,M,Y,X⟩:=Bl r (o+1) _ _ (h.set o v) (by simp;omega);simp only[List.length_cons];refine⟨ds,O,by simpa using M,fun i Z hj=>?_,fun i Z=>?_⟩
  ·by_cases e:i=o
   ·subst e
    rw[X i (by omega),Nat.sub_self];rw[Array.getElem?_setIfInBounds_self_of_lt (by omega)]
    rfl
   ·rw[Y i (by omega) (by omega),show i - o=(i - (o+1))+1 by omega]
    simp
  ·rw[X i (by omega)]
   exact Array.getElem?_setIfInBounds_ne (by omega)
theorem AI (h:Blk w g t cs) (hs:cs.size=ds.size):Blk (w.setCells g 0 ds.toList) g t ds:=by
 obtain⟨es,M,X,O,_⟩:=Bl ds.toList 0 w cs h (by simp;omega);have e:es=ds:=by
  apply Array.ext_getElem?;intro i
  by_cases hi:i<ds.size
  ·rw[O i (by omega) (by simp;omega)];simp
  ·rw[Array.getElem?_eq_none (by omega),Array.getElem?_eq_none (by omega)]
 rw[<-e];rw[<-e] at M;exact M
theorem Eu {row:Option Nat} {a:World} {g:Nat} (M:row=some g\/a.heap.size<=g):∀(vs:List Value) (o:Nat) (w:World),a.grownBy w row->a.grownBy (w.setCells g o vs) row
 | [],_,_,h=>h
 |v :: r,o,w,h=>by rw[World.setCells];exact Eu M r (o+1) _ (Ar h (p:=⟨g,o,none⟩) M v)
theorem DK (w:World) (g o:Nat) (vs:List Value):w.grownBy (w.setCells g o vs) (some g):=Eu (.inl rfl) vs o w (World.grownBy.refl _ _)
end
section
variable {P:Program} {ops:Array Oper} {rest:List Oper} {op:Oper} {a:Act} {w:World} {Q:Exit->Act->World->Prop}
theorem AG (hw:Region.wanted op (yielded ops a.tmps)=true) (ty:TypeId) (x:Operand) (X:op.op=.load ty x)
  (g o:Nat) (Z:a.eval x=.pointer (some ⟨g,o,none⟩)) (cs:Array Value) (d:TypeDesc) (O:w.rangeAt g o cs.toList)
  (hu:P.underlying ty=some d) (Y:d.isRow=true) (hi:(P.info? ty).map (·.size)=some cs.size)
  (h:wpList P ops Q rest (a.put op.dst (.agg cs)) w):wpList P ops Q (op :: rest) a w:=
 BigFrame.wpList_want hw fun _ M=>wp_load_mid ty x X g o Z cs.toList d O hu Y (by rw[Array.length_toList];exact hi) (by simpa using M _ _ h)
theorem QD (w:World) (t:TypeId) (lit cs:Array Value) (hs:lit.size=cs.size):Blk ((w.alloc (.cells lit t)).setCells w.heap.size 0 cs.toList) w.heap.size t cs/\Below w.heap.size w ((w.alloc (.cells lit t)).setCells w.heap.size 0 cs.toList):=
 ⟨AI (Blk.new w t lit) hs,Ak ((Below.refl w.heap.size w).alloc Af _) (DK _ _ _ _) (by simp) Af⟩
theorem Bh {w0:World} {lit:Array Value} (M:op.guard=none) (ty:TypeId) (x y:Operand) (Y:op.op=.store ty x y) (t:TypeId) (hw:w=w0.alloc (.cells lit t))
  (cells:Array Value) (hx:a.eval x=.pointer (some ⟨w0.heap.size,0,none⟩)) (X:a.eval y=.agg cells) (hs:lit.size=cells.size)
  (hi:(P.info? ty).map (·.size)=some cells.size) (Z:cells.all (·.oneCell')=true)
  (h:∀V,Blk V w0.heap.size t cells->Below w0.heap.size w0 V->wpList P ops Q rest (a.put op.dst undef) V):wpList P ops Q (op :: rest) a w:=by
 subst hw;have O:=QD w0 t lit cells hs;exact wpList_store_mid M ty x y Y w0.heap.size 0 cells hx X (BZ (Blk.new w0 t lit) _ _ (by omega)) hi Z (h _ O.1 O.2)
theorem Cb (M:op.guard=none) (ty:TypeId) (x y:Operand) (Y:op.op=.store ty x y) (g:Nat) (t:TypeId) (old:Array Value) (O:Blk w g t old)
  (cells:Array Value) (hx:a.eval x=.pointer (some ⟨g,0,none⟩)) (X:a.eval y=.agg cells) (hs:old.size=cells.size)
  (hi:(P.info? ty).map (·.size)=some cells.size) (Z:cells.all (·.oneCell')=true)
  (h:∀V,Blk V g t cells->w.grownBy V (some g)->wpList P ops Q rest (a.put op.dst undef) V):wpList P ops Q (op :: rest) a w:=
 wpList_store_mid M ty x y Y g 0 cells hx X (BZ O _ _ (by omega)) hi Z (h _ (AI O hs) (DK _ _ _ _))
theorem Al {fn:Func} {tmps:Array Value} {w:World} {v:Value} (t:Nat) (ty:TypeId) (a:Addr) (M:fn.results=#[.cell t ty]) (X:tmps.getD t undef=.pointer (some a)) (Y:(loadVar ty a).run P w=.ok v w) :
  (results fn tmps).run P w=.ok v w:=by
 have O:tmps[t]?.getD undef=.pointer (some a):=by simpa using X
 simp [results,M,O,asAddr,Y]
theorem Ao {g:Nat} {t ty:TypeId} {cs:Array Value} {d:TypeDesc} (h:Blk w g t cs) (hu:P.underlying ty=some d) (M:d.isRow=true) (O:(P.info? ty).map (·.size)=some cs.size) :
  (loadVar ty ⟨g,0,none⟩).run P w=.ok (.agg cs) w:=by
 have:=run_loadVar_mid (P:=P) w g 0 ty cs.toList d (Ac h) hu M (by simpa using O)
 simpa using this
theorem Cz {w':World} {o:Oper} {g:Nat} {t ty:TypeId} {cs:Array Value} {d:TypeDesc} (x:Operand) (M:o.op=.load ty x) (X:a.eval x=.pointer (some ⟨g,0,none⟩)) (h:Blk w' g t cs) (hu:P.underlying ty=some d) (O:d.isRow=true) (Y:(P.info? ty).map (·.size)=some cs.size) :
  (execOp a.eval o).run P w'=.ok (.value (.agg cs)) w':=by
 unfold execOp;simp only[M,X,Instr.loadAt,Instr.sureAddr,Sem.run_bind,Sem.run_pure,Result.andThen_ok,Ao h hu O Y]
end
theorem Wc (l:List Value):∀(k:Nat) (Z:Array Value),k+l.length<=Z.size->((l.zipIdx k).foldl (fun a x=>a.setIfInBounds (0+x.2) x.1) Z).size=Z.size/\∀i,((l.zipIdx k).foldl (fun a x=>a.setIfInBounds (0+x.2) x.1) Z)[i]? = if k<=i/\i<k+l.length then l[i - k]? else Z[i]?:=by
 induction l with
 |nil=>
  intro k Z h;refine⟨rfl,fun i=>?_⟩;rw[if_neg (by simp)]
  rfl
 |cons c l ih=>
  intro k Z h;simp only[List.length_cons] at h;obtain⟨M,O⟩:=ih (k+1) (Z.setIfInBounds (0+k) c) (by simp;omega);rw[List.zipIdx_cons,List.foldl_cons];refine⟨by rw[M];simp,fun i=>?_⟩;rw[O]
  by_cases e:i=k
  ·subst e
   rw[if_neg (by omega),if_pos (by simp),Nat.sub_self,Nat.zero_add,Array.getElem?_setIfInBounds_self_of_lt (by omega)]
   rfl
  ·by_cases g:k+1<=i/\i<k+1+l.length
   ·rw[if_pos g,if_pos (by simp;omega),show i - k=(i - (k+1))+1 by omega]
    simp
   ·rw[if_neg g,if_neg (by simp;omega),Array.getElem?_setIfInBounds_ne (by omega)]
theorem Te (cs Z:Array Value) (n:Nat) (Y:cs.size=n) (X:Z.size=n):Instr.fill (fun i=>some (i*n,n)) Z [(0,.agg cs)]=some cs:=by
 have M:=Wc cs.toList 0 Z (by simp;omega);have e:cs.zipIdx.foldl (fun a (x:Value×Nat)=>a.setIfInBounds (0+x.2) x.1) Z=cs:=by
  rw[<-Array.foldl_toList,Array.toList_zipIdx];apply Array.ext_getElem?;intro i;rw[M.2]
  by_cases g:i<cs.size
  ·rw[if_pos (by simp;omega)];simp
  ·rw[if_neg (by simp;omega),Array.getElem?_eq_none (by omega),Array.getElem?_eq_none (by omega)]
 have O:(Value.agg cs).cells=cs:=rfl;unfold Instr.fill;simp only[Nat.zero_mul,O];rw[if_neg (by simp;omega)];unfold Instr.fill
 congr 1
section
variable {P:Program}
theorem GJ (w:World) (t e:TypeId) (cs:Array Value) (M:TypeInfo) (z:Value) (hu:P.underlying t=some (.slice e)) (O:P.info? e=some M) (Y:M.zero=some z) (hs:M.size=cs.size) (Z:0<cs.size) (X:cs.size<=16777216) :
  (Instr.buildSlice t 1 #[(0,.agg cs)]).run P w=.ok (.slice (some ⟨w.heap.size,0,none⟩) 1 1) (w.alloc (.cells cs e)):=
 run_buildSlice w t e 1 _ cs M z hu O Y (by rw[hs];omega) (by rw[hs];omega) (Te cs _ M.size hs.symm (by simp))
end
theorem JV {P:Program} {α:Type} (f:α->List Value) (n bytes:Nat) (hf:∀x,(f x).length=n) (h1:∀x,∀u∈f x,u.oneCell'=true) (w:World) (t ty e:TypeId) (i:TypeInfo) (z:Value) (ht:P.underlying t=some (.slice e)) (hi:P.info? e=some i) (Z:i.zero=some z) (hs:i.size=n) (hb:i.bytes=bytes) (X:z.cells.size=n) (hn:0<n)
  (base:Nat) (v:Value) (l:List α) (O:w.ownsRow base e n v l.length (l.flatMap f)) (x:α) (g:Nat) (hg:Blk w g e (f x).toArray) (hl:l.length+1<=100000) (Y:bytes<=10000) (M:base<=w.heap.size) :
  ∃v' w',(Builtin.append_ #[t,t] ty #[v,.slice (some ⟨g,0,none⟩) 1 1]).run P w=.ok v' w'/\w'.ownsRow base e n v' (l++[x]).length ((l++[x]).flatMap f)/\w.grownBy w' v.ownBlock/\(v'.ownBlock=v.ownBlock\/v'.ownBlock=some w.heap.size):=by
 obtain⟨v',w',h2,h3,h4,_,h5⟩:=run_append_own_at (P:=P) w base t ty e i z n bytes ht hi Z hs hb X hn v l.length (l.flatMap f) O ⟨g,0,none⟩ 1 1 (f x) (by rw[hf];omega) (fun j u hu=>by
  rw[addr_add,Nat.zero_add,hg.cell j]
  simpa using hu) (h1 x) (by unfold maxLen;omega) (by
   have:(l.length+1)*bytes<=100000*10000:=Nat.mul_le_mul hl Y;omega) M
 exact⟨v',w',h2,by rw[List.length_append,List.flatMap_append,List.flatMap_singleton];exact h3,h4,h5⟩
end Wh
namespace Rg
open Go.RowKit Ae Se
abbrev prC (p:Pr):List Value:=[.string ⟨p.1.toArray⟩,.string ⟨p.2.toArray⟩]
abbrev prV (p:Pr):Value:=.agg #[.string ⟨p.1.toArray⟩,.string ⟨p.2.toArray⟩]
def iC (i:It):List Value:=.string ⟨i.p.1.toArray⟩ :: .string ⟨i.p.2.toArray⟩ :: .int .i64 (i.n:Int) :: (AX i.k).toList
structure Ent where
 it:It
 b:Nat
 h:Option Nat
 a:Nat
 o:Nat
 r:Nat
def eC (e:Ent):List Value:=iC e.it++[.pointer (some ⟨e.b,0,none⟩)]
theorem JW {α:Type} (f:α->List Value) (n:Nat) (h:∀x,(f x).length=n):∀l:List α,(l.flatMap f).length=l.length*n
 | []=>by simp
 |a :: l=>by simp only[List.flatMap_cons,List.length_append,h,JW f n h l,List.length_cons,Nat.succ_mul];omega
theorem LX {α:Type} (f:α->List Value) (n:Nat) (h:∀x,(f x).length=n):∀(l:List α) (i:Nat) (x:α),l[i]? = some x->∀j v,(f x)[j]? = some v->(l.flatMap f)[i*n+j]? = some v
 | [],i,x,hx,_,_,_=>by simp at hx
 |a :: l,0,x,hx,j,v,hv=>by
  injection hx with hx;subst hx;have:=(List.getElem?_eq_some_iff.1 hv).1;rw[List.flatMap_cons,Nat.zero_mul,Nat.zero_add,List.getElem?_append_left this];exact hv
 |a :: l,i+1,x,hx,j,v,hv=>by
  rw[List.flatMap_cons,List.getElem?_append_right (by rw[h,Nat.succ_mul];omega),h,show(i+1)*n+j - n=i*n+j by rw[Nat.succ_mul];omega];exact LX f n h l i x hx j v hv
def RdR {α:Type} (w:World) (B:Nat) (A:Option Addr) (f:α->List Value) (n:Nat) (l:List α):Prop:=
 l = []\/∃g,A=some ⟨g,0,none⟩/\g<B/\∀i x,l[i]? = some x->w.rangeAt g (i*n) (f x)
theorem RdR.keep {α:Type} {w w':World} {B:Nat} {A:Option Addr} {f:α->List Value} {n:Nat} {l:List α} (h:RdR w B A f n l) (O:Below B w w'):RdR w' B A f n l:=by
 rcases h with h | ⟨g,X,M,Z⟩
 ·exact .inl h
 ·exact .inr ⟨g,X,M,fun i x Y j v hv=>(O.cell (p:=⟨g,_,none⟩) M).trans (Z i x Y j v hv)⟩
theorem RdR.at_ {α:Type} {w:World} {B:Nat} {A:Option Addr} {f:α->List Value} {n:Nat} {l:List α} {i:Nat} {x:α} (h:RdR w B A f n l) (M:l[i]? = some x):∃g,A=some ⟨g,0,none⟩/\g<B/\w.rangeAt g (i*n) (f x):=by
 rcases h with h | ⟨g,O,Y,X⟩
 ·subst h;simp at M
 ·exact⟨g,O,Y,X i x M⟩
theorem Cv {α:Type} {w:World} {base:Nat} {t:TypeId} {v:Value} {f:α->List Value} {n:Nat} {l:List α} (Z:∀x,(f x).length=n) (h:w.ownsRow base t n v l.length (l.flatMap f)):∃A c,v=.slice A l.length c/\l.length<=c/\c<=maxLen/\RdR w w.heap.size A f n l:=by
 have O:=h;rcases h.2 with⟨M,h2⟩ | ⟨g,cap,cur,M,hg,X,Y,hm,_⟩
 ·have e:l = []:=List.eq_nil_of_length_eq_zero h2
  subst e;exact⟨none,0,M,Nat.le_refl _,Nat.zero_le _,.inl rfl⟩
 ·subst M
  refine⟨_,cap,rfl,Y,hm,.inr ⟨g,rfl,(Array.getElem?_eq_some_iff.1 X).1,fun i x hx j v hv=>?_⟩⟩;have M:=O.cells (g:=g) rfl (i*n+j) v (LX f n Z l i x hx j v hv);rw[addr_add,Nat.zero_add] at M;exact M
theorem Cf {S:Nat->Prop} {w w':World} {base size n:Nat} {t:TypeId} {v:Value} {xs:List Value} (h:Chg S w w') (O:w.ownsRow base t size v n xs) (hs:∀k,v.ownBlock=some k->¬S k):w'.ownsRow base t size v n xs:=by
 refine⟨O.1,?_⟩;rcases O.2 with X | ⟨g,cap,cur,rfl,Y,M,rest⟩
 ·exact .inl X
 ·exact .inr ⟨g,cap,cur,rfl,Y,(h.block g (Array.getElem?_eq_some_iff.1 M).1 (hs g rfl)).trans M,rest⟩
def its (es:List Ent):List It:=es.map (·.it)
theorem Eg (es:List Ent):(its es).length=es.length:=by simp [its]
section
variable {w w':World} {B r:Nat} {v v':Value} {es:List Ent} {S:Nat->Prop}
end
theorem US (x y:Pr) (w:World):(Op.equalIn 10000 35 (.agg #[.string ⟨x.1.toArray⟩,.string ⟨x.2.toArray⟩]) (.agg #[.string ⟨y.1.toArray⟩,.string ⟨y.2.toArray⟩])).run Tryz.prog w=.ok (decide (x=y)) w:=by
 obtain⟨a,b⟩:=x;obtain⟨c,d⟩:=y;simp only
 by_cases h0:a=c
 ·subst h0
  by_cases h1:b=d
  ·subst h1
   rw[decide_eq_true rfl]
   go_simp
  ·rw[decide_eq_false (fun h=>h1 (congrArg (fun z=>z.2) h))]
   go_simp
 ·rw[decide_eq_false (fun h=>h0 (congrArg (fun z=>z.1) h))]
  go_simp
theorem Bb {x y:Pr} (h:x=y):∀w,(Op.equalIn 10000 35 (.agg #[.string ⟨x.1.toArray⟩,.string ⟨x.2.toArray⟩]) (.agg #[.string ⟨y.1.toArray⟩,.string ⟨y.2.toArray⟩])).run Tryz.prog w=.ok true w:=fun w=>by rw[US,decide_eq_true h]
theorem BA {x y:Pr} (h:x≠y):∀w,(Op.equalIn 10000 35 (.agg #[.string ⟨x.1.toArray⟩,.string ⟨x.2.toArray⟩]) (.agg #[.string ⟨y.1.toArray⟩,.string ⟨y.2.toArray⟩])).run Tryz.prog w=.ok false w:=fun w=>by rw[US,decide_eq_false h]
theorem AZ:(Tryz.prog.info? 35).map (·.size)=some 2:=by kernel_rfl
def eA (e:Ent):Array Value:=(eC e).toArray
def kC (k:Nat->UInt8):List Value:=(AX k).toList
def OwnK (w:World) (base:Nat) (v:Value) (K:List (Nat->UInt8)):Prop:=w.ownsRow base 30 32 v K.length (K.flatMap kC)
theorem OwnK.below {w w':World} {base:Nat} {v:Value} {K:List (Nat->UInt8)} (h:OwnK w base v K) (M:Below w.heap.size w w'):OwnK w' base v K:=CQ h M
theorem Hf {w w':World} {row:Option Nat} (h:w.grownBy w' row):Chg (fun q=>row=some q) w w':=⟨h.os,h.tape,h.output,h.size,fun i O M=>h.block i O (fun e=>M e.symm)⟩
section
variable {P:Program} {w w':World} {a:Act} {dst:Option Tmp} {ty:TypeId} {pos:String} {after:Array _} {guard:Option (Nat×Bool)}
theorem Hg {t:TypeId} {parts:Array (Nat×Operand)} {vs:List (Nat×Value)} {cells:Array Value} (M:(parts.map fun x=>(x.1,a.eval x.2)).toList=vs) (h:P.built t vs=some cells) :
  (execOp a.eval ⟨dst,.build t parts,ty,pos,after,guard⟩).run P w=.ok (.value (.agg cells)) w:=by
 have:=run_build (P:=P) w t (parts.map fun x=>(x.1,a.eval x.2)) cells (by rw[M];exact h);simp only[execOp,Sem.run_bind,this,Result.andThen_ok,Sem.run_pure]
theorem FR {t:TypeId} {x:Operand} {cs:Array Value} {s:Value} (M:a.eval x=.agg cs) (h:(Instr.buildSlice t 1 #[(0,.agg cs)]).run P w=.ok s w') :
  (execOp a.eval ⟨dst,.buildSlice t 1 #[(0,x)],ty,pos,after,guard⟩).run P w=.ok (.value s) w':=by
 simp only[execOp,Sem.run_bind,List.map_toArray,List.map_cons,List.map_nil,M,h,Result.andThen_ok,Sem.run_pure]
theorem Ig {t:TypeId} {x y:Operand} {u v s:Value} (M:a.eval x=u) (O:a.eval y=v) (h:(Builtin.append_ #[t,t] ty #[u,v]).run P w=.ok s w') :
  (execOp a.eval ⟨dst,.call {callee:=.builtin .append,args:=#[x,y],argTypes:=#[t,t]},ty,pos,after,guard⟩).run P w=.ok (.value s) w':=by
 simp only[execOp,resolve,invoke,builtin,Sem.run_bind,Sem.run_pure,Result.andThen_ok,List.map_toArray,List.map_cons,List.map_nil,M,O,h]
end
end Rg
namespace Ca
open Go.RowKit Ae Se
open Rg (Pr prC prV JW LX RdR Cv Cf)
section
variable {α:Type} {f:α->List Value} {n:Nat}
theorem Ng (h:∀x,(f x).length=n):∀(l:List α) (i:Nat) (x:α),i<l.length->∀q,((l.set i x).flatMap f)[q]? = if i*n<=q/\q<i*n+n then (f x)[q - i*n]? else (l.flatMap f)[q]?
 | [],i,x,hi,q=>by simp at hi
 |a :: l,0,x,hi,q=>by
  rw[List.set_cons_zero,List.flatMap_cons,List.flatMap_cons,Nat.zero_mul,Nat.zero_add,Nat.sub_zero]
  by_cases g:q<n
  ·rw[if_pos ⟨Nat.zero_le _,g⟩,List.getElem?_append_left (by rw[h];exact g)]
  ·rw[if_neg (fun x=>g x.2),List.getElem?_append_right (by rw[h];omega),List.getElem?_append_right (by rw[h];omega),h,h]
 |a :: l,i+1,x,hi,q=>by
  rw[List.set_cons_succ,List.flatMap_cons,List.flatMap_cons,Nat.succ_mul]
  by_cases g:q<n
  ·rw[if_neg (by omega),List.getElem?_append_left (by rw[h];exact g),List.getElem?_append_left (by rw[h];exact g)]
  ·rw[List.getElem?_append_right (by rw[h];omega),List.getElem?_append_right (by rw[h];omega),h,Ng h l i x (by simpa using hi)]
   by_cases k:i*n<=q - n/\q - n<i*n+n
   ·rw[if_pos k,if_pos (by omega)]
    congr 1
    omega
   ·rw[if_neg k,if_neg (by omega)]
theorem KU (h:∀x,(f x).length=n):∀(l:List α) (i:Nat),(l.flatMap f).take (i*n)=(l.take i).flatMap f
 | [],i=>by simp
 |a :: l,0=>by simp
 |a :: l,i+1=>by
  rw[List.take_succ_cons,List.flatMap_cons,List.flatMap_cons,<-KU h l i,Nat.succ_mul,Nat.add_comm (i*n) n,List.take_append,h,show n+i*n - n=i*n by omega,List.take_of_length_le (by rw[h];omega)]
variable {w:World} {B g cap:Nat} {t:TypeId} {l:List α}
theorem LY {m:Nat} {xs:List Value} (ho:w.ownsRow B t n (.slice (some ⟨g,0,none⟩) m cap) m xs):∃cur,Blk w g t cur/\B<=g/\m<=cap/\cap<=maxLen/\cur.size=cap*n/\cur.toList.take (m*n)=xs:=by
 rcases ho.2 with⟨M,_⟩ | ⟨g1,O,cur,M,Z,Y,h4,h5,X,h7⟩
 ·cases M
 ·injection M with e1 _ e2
  injection e1 with e1;injection e1 with e1;subst e1 e2;exact⟨cur,Y,Z,h4,h5,X,h7⟩
theorem UT {m:Nat} {xs:List Value} {cur:Array Value} (hb:Blk w g t cur) (Y:B<=g) (M:m<=cap) (Z:cap<=maxLen) (O:cur.size=cap*n) (X:cur.toList.take (m*n)=xs):w.ownsRow B t n (.slice (some ⟨g,0,none⟩) m cap) m xs:=
 ⟨by rw[<-X,List.length_take,Array.length_toList,O];exact Nat.min_eq_left (Nat.mul_le_mul_right n M),.inr ⟨g,cap,cur,rfl,Y,hb,M,Z,O,X⟩⟩
theorem We (M:∀x,(f x).length=n) (ho:w.ownsRow B t n (.slice (some ⟨g,0,none⟩) l.length cap) l.length (l.flatMap f)) {i:Nat} (Y:i<l.length) (x:α) :
  (w.setCells g (i*n) (f x)).ownsRow B t n (.slice (some ⟨g,0,none⟩) l.length cap) l.length ((l.set i x).flatMap f):=by
 obtain⟨cur,h1,h2,O,Z,X,h6⟩:=LY ho;have aa:i*n+n<=l.length*n:=by rw[<-Nat.succ_mul];exact Nat.mul_le_mul_right n Y
 have ab:l.length*n<=cap*n:=Nat.mul_le_mul_right n O;obtain⟨ds,k1,k2,k3,k4⟩:=Wh.Bl (f x) (i*n) w cur h1 (by rw[M,X];omega);refine UT k1 h2 O Z (by rw[k2,X]) ?_;apply List.ext_getElem?;intro q;rw[Ng M l i x Y]
 by_cases g1:q<l.length*n
 ·rw[List.getElem?_take_of_lt g1,Array.getElem?_toList]
  by_cases g2:i*n<=q/\q<i*n+n
  ·rw[if_pos g2,k3 q g2.1 (by rw[M];exact g2.2)]
  ·rw[if_neg g2,k4 q (by rw[M];omega),<-h6,List.getElem?_take_of_lt g1,Array.getElem?_toList]
 ·rw[if_neg (by omega),List.getElem?_eq_none (by rw[List.length_take];omega),List.getElem?_eq_none (by rw[JW f n M];omega)]
theorem KV (Y:w.ownsRow B t n (.slice (some ⟨g,0,none⟩) l.length cap) l.length (l.flatMap f)) (o k:Nat) (h:o+k<=l.length*n):w.there g o k:=by
 obtain⟨cur,M,h2,O,h4,h5,Z⟩:=LY Y;have X:l.length*n<=cap*n:=Nat.mul_le_mul_right n O;exact Wh.BZ M o k (by omega)
theorem Wf (hf:∀x,(f x).length=n) (ho:w.ownsRow B t n (.slice (some ⟨g,0,none⟩) l.length cap) l.length (l.flatMap f)) {i:Nat} (O:i<=l.length) (vs:List Value) (hv:i*n+vs.length<=l.length*n) :
  (w.setCells g (i*n) vs).ownsRow B t n (.slice (some ⟨g,0,none⟩) i cap) i ((l.take i).flatMap f):=by
 obtain⟨cur,h1,h2,X,Z,Y,h6⟩:=LY ho;have M:i*n<=l.length*n:=Nat.mul_le_mul_right n O;have aa:l.length*n<=cap*n:=Nat.mul_le_mul_right n X;obtain⟨ds,k1,k2,k3,k4⟩:=Wh.Bl vs (i*n) w cur h1 (by rw[Y];omega);refine UT k1 h2 (Nat.le_trans O X) Z (by rw[k2,Y]) ?_;rw[<-KU hf,<-h6,List.take_take,Nat.min_eq_left M];apply List.ext_getElem?;intro q
 by_cases g1:q<i*n
 ·rw[List.getElem?_take_of_lt g1,List.getElem?_take_of_lt g1,Array.getElem?_toList,Array.getElem?_toList,k4 q (.inl g1)]
 ·rw[List.getElem?_eq_none (by rw[List.length_take];omega),List.getElem?_eq_none (by rw[List.length_take];omega)]
end
theorem QE (P:Program) (w:World) (t e ty:TypeId) (i:TypeInfo) (z:Value) (n:Nat) (Y:P.underlying t=some (.slice e)) (hi:P.info? e=some i) (hz:i.zero=some z) (X:z.cells.size=n) (h1:∀u∈z.cells.toList,u.oneCell'=true) (hn:0<n) (b o m c:Nat)
  (Z:w.there b o (m*n)):∃vs:List Value,vs.length=m*n/\(Builtin.clear_ #[t] ty #[.slice (some ⟨b,o,none⟩) m c]).run P w=.ok (.tuple #[]) (w.setCells b o vs):=by
 have hv:(zeroValue e).run P w=.ok z w:=by simp [zeroValue,typeInfo,hi,hz]
 have hlen:(Builtin.zeroCells z.cells m).toList.length=m*n:=by simp [Builtin.zeroCells,X]
 have O:∀u∈(Builtin.zeroCells z.cells m).toList,u.oneCell'=true:=by
  intro u hu;simp only[Builtin.zeroCells,Array.toList_map,List.mem_map] at hu;obtain⟨q,_,rfl⟩:=hu;have hq:q % z.cells.size<z.cells.size:=Nat.mod_lt _ (by omega);rw[getElem!_pos z.cells (q % z.cells.size) hq];exact h1 _ (by simp)
 cases m with
 |zero=>
  refine⟨[],by simp,?_⟩;simp [Builtin.clear_,run_underlying Y,World.setCells]
 |succ m=>
  refine⟨(Builtin.zeroCells z.cells (m+1)).toList,hlen,?_⟩;have M:=run_storeCells_cells (P:=P) b o (Builtin.zeroCells z.cells (m+1)).toList 0 w (fun j hj=>by simpa using (Z j (by omega)).1) (fun j hj=>by simpa using (Z j (by omega)).2) O;simp only[Nat.add_zero] at M;simp [Builtin.clear_,run_underlying Y,hv,M]
structure En where
 p:Pr
 x:Cr
 A:Option Addr
 c:Nat
def En.it (e:En):It:=(e.p,e.x)
def crC (x:Cr) (A:Option Addr) (c:Nat):List Value:=.string ⟨x.s.1.toArray⟩ :: .string ⟨x.s.2.toArray⟩ :: .int .i64 x.n :: .slice A x.b.length c :: ((AX x.k).toList++[.int .i64 x.e])
def crA (x:Cr) (A:Option Addr) (c:Nat):Array Value:=(crC x A c).toArray
def enC (e:En):List Value:=.string ⟨e.p.1.toArray⟩ :: .string ⟨e.p.2.toArray⟩ :: crC e.x e.A e.c
def enA (e:En):Array Value:=(enC e).toArray
theorem Jv (x:Cr) (A:Option Addr) (c:Nat):(crC x A c).length=37:=by simp [crC,AU]
theorem AN (x:Cr) (A:Option Addr) (c:Nat):(crA x A c).size=37:=by simp [crA,Jv]
theorem Be (e:En):(enC e).length=39:=by simp [enC,Jv]
theorem Bp (e:En):(enA e).size=39:=by simp [enA,Be]
theorem QF (x:Cr) (A:Option Addr) (c:Nat):∀u∈crC x A c,u.oneCell'=true:=by
 intro u hu;simp only[crC,List.mem_cons,List.mem_append,List.not_mem_nil,or_false] at hu;rcases hu with h | h | h | h | h | h
 ·subst h;rfl
 ·subst h;rfl
 ·subst h;rfl
 ·subst h;rfl
 ·have:=VU x.k
  rw[Array.all_eq_true_iff_forall_mem] at this;exact this u (Array.mem_def.2 h)
 ·subst h;rfl
theorem Hh (e:En):∀u∈enC e,u.oneCell'=true:=by
 intro u hu;simp only[enC,List.mem_cons] at hu;rcases hu with h | h | h
 ·subst h;rfl
 ·subst h;rfl
 ·exact QF _ _ _ u h
theorem DL (x:Cr) (A:Option Addr) (c:Nat):(crA x A c).all (·.oneCell')=true:=by
 rw[Array.all_eq_true_iff_forall_mem];intro u hu;exact QF x A c u (by simpa [crA] using hu)
theorem QG (e:En):(enA e).all (·.oneCell')=true:=by
 rw[Array.all_eq_true_iff_forall_mem];intro u hu;exact Hh e u (by simpa [enA] using hu)
theorem DE (e:En):(enA e).toList=enC e:=by simp [enA]
theorem Jw (x:Cr) (A:Option Addr) (c:Nat):(crA x A c).toList=crC x A c:=by simp [crA]
section
variable {w:World} {g o:Nat} {e:En} {x:Cr} {A:Option Addr} {c:Nat}
theorem Tf (h:w.rangeAt g o (enC e)):w.rangeAt g o (#[.string ⟨e.p.1.toArray⟩,.string ⟨e.p.2.toArray⟩]:Array Value).toList:=fun j u hu=>by
 have M:j<2:=by have:=(List.getElem?_eq_some_iff.1 hu).1;simpa using this
 refine h j u ?_;rw[<-hu];rcases j with _ | _ | j
 ·rfl
 ·rfl
 ·omega
theorem Th (h:w.rangeAt g o (enC e)):w.rangeAt g (o+2) (crC e.x e.A e.c):=fun j u hu=>by
 have:=h (j+2) u (by simpa [enC] using hu);rw[show o+2+j=o+(j+2) by omega];exact this
theorem XS (h:w.rangeAt g o (crC x A c)):w.cell? ⟨g,o+36,none⟩=some (.int .i64 x.e):=by
 refine h 36 _ ?_;rw[crC];simp only[List.getElem?_cons_succ];rw[List.getElem?_append_right (by simp [AU]),Array.length_toList,AU]
 rfl
theorem cr_b (h:w.rangeAt g o (crC x A c)):w.cell? ⟨g,o+3,none⟩=some (.slice A x.b.length c):=h 3 _ rfl
theorem cr_sv (h:w.rangeAt g o (crC x A c)):w.rangeAt g o (#[.string ⟨x.s.1.toArray⟩,.string ⟨x.s.2.toArray⟩]:Array Value).toList:=fun j u hu=>by
 have M:j<2:=by have:=(List.getElem?_eq_some_iff.1 hu).1;simpa using this
 refine h j u ?_;rw[<-hu];rcases j with _ | _ | j
 ·rfl
 ·rfl
 ·omega
end
theorem Nh {w:World} {g o:Nat} {e:En} (h:w.rangeAt g o (enC e)):w.cell? ⟨g,o+38,none⟩=some (.int .i64 e.x.e):=XS (Th h)
theorem KW {w:World} {g:Nat} {t:TypeId} {e:En} (h:Blk w g t (enA e)):w.rangeAt g 0 (enC e):=by
 have:=Wh.Ac h
 rwa [DE] at this
theorem UU {w:World} {g:Nat} {t:TypeId} {x:Cr} {A:Option Addr} {c:Nat} (h:Blk w g t (crA x A c)):w.rangeAt g 0 (crC x A c):=by
 have:=Wh.Ac h
 rwa [Jw] at this
def its (es:List En):List It:=es.map (·.it)
theorem Eg (es:List En):(its es).length=es.length:=by simp [its]
structure Ca (w:World) (B r:Nat) (v:Value) (es:List En):Prop where
 blk:Blk w r 180 #[v]
 row:w.ownsRow B 186 39 v es.length (es.flatMap enC)
 lo:B<=r
 vr:v.ownBlock≠some r
 rd:∀e∈es,Rd w w.heap.size e.A (bvs e.x.b)
 off:∀e∈es,∀a,e.A=some a->B<=a.block/\a.block≠r/\v.ownBlock≠some a.block/\a.block<w.heap.size
def CO (r:Nat) (v:Value) (es:List En) (k:Nat):Prop:=k=r\/v.ownBlock=some k\/∃e∈es,∃a,e.A=some a/\a.block=k
abbrev PT (r:Nat) (v:Value) (q:Nat):Prop:=q=r\/v.ownBlock=some q
section
variable {w w':World} {B r:Nat} {v v':Value} {es es':List En} {S:Nat->Prop}
theorem Wg {q:Nat} (h:PT r v q):CO r v es q:=by
 rcases h with h | h
 ·exact .inl h
 ·exact .inr (.inl h)
theorem Ca.lt (h:Ca w B r v es):r<w.heap.size:=h.blk.lt
theorem Ca.big (h:Ca w B r v es):B<=w.heap.size:=by have:=h.lo;have:=h.lt;omega
theorem Ca.own_lt (h:Ca w B r v es) {k:Nat} (hk:CO r v es k):k<w.heap.size:=by
 rcases hk with hk | hk | ⟨e,he,a,M,hk⟩
 ·subst hk;exact h.lt
 ·exact(World.ownsRow.lt h.row k hk).2
 ·exact hk▸(h.off e he a M).2.2.2
theorem Jx {A:Option Addr} {xs:List Value} (h:Rd w w.heap.size A xs) (O:Chg S w w') (hs:∀a,A=some a->¬S a.block):Rd w' w'.heap.size A xs:=by
 rcases h with h | ⟨b,o,M,X,Y⟩
 ·exact .inl h
 ·exact .inr ⟨b,o,M,Nat.lt_of_lt_of_le X O.size,fun i u hu=>(World.cell?_of_block (a:=⟨b,o+i,none⟩) (O.block b X (hs _ M))).trans (Y i u hu)⟩
theorem Ca.chg (h:Ca w B r v es) (M:Chg S w w') (hs:∀k,CO r v es k->¬S k):Ca w' B r v es:=
 ⟨M.blk h.blk (hs r (.inl rfl)),Cf M h.row (fun k hk=>hs k (.inr (.inl hk))),h.lo,h.vr,
  fun e he=>Jx (h.rd e he) M (fun a O=>hs _ (.inr (.inr ⟨e,he,a,O,rfl⟩))),
  fun e he a O=>have q:=h.off e he a O;⟨q.1,q.2.1,q.2.2.1,Nat.lt_of_lt_of_le q.2.2.2 M.size⟩⟩
theorem Ca.below (h:Ca w B r v es) (M:Below w.heap.size w w'):Ca w' B r v es:=h.chg (S:=fun _=>False) (Chg.of_below M) (fun _ _ x=>x)
theorem Ca.num (h:Ca w B r v es):∃A c,v=.slice A es.length c/\es.length<=c/\c<=maxLen/\RdR w w.heap.size A enC 39 es:=Cv Be h.row
end
end Ca
namespace Ca
open Go.RowKit Ae Se
open Nm (L)
open Rg (Pr prC prV AZ RdR Cv Bb BA)
theorem LZ:(Tryz.prog.info? 186).map (·.size)=some 39:=by kernel_rfl
theorem UW (x:En) (p:Pr) (t:Int) (bt bp:Nat) (w:World) (ht:w.cell? ⟨bt,0,none⟩=some (.int .i64 t)) (hp:Blk w bp 35 #[.string ⟨p.1.toArray⟩,.string ⟨p.2.toArray⟩]) :
  Calls Tryz.prog 109 #[.agg (enA x),.pointer (some ⟨bt,0,none⟩),.pointer (some ⟨bp,0,none⟩)] w fun e w'=>e=.returned (.bool (del p t x.it))/\Below w.heap.size w w':=by
 obtain⟨cs,M⟩:=Aj (enA x);have aa:=I M;rw[<-M];have X:bt<w.heap.size:=World.block_lt_of_cell? w _ ht;obtain⟨W,O⟩:=Aj (w.alloc (.cells cs 186));have Z:Below w.heap.size w W:=O▸Ag.alloc Af _;have HB:=I Z;have hk:Blk W w.heap.size 186 (enA x):=by rw[O,<-M];exact Blk.new _ _ _
 have HP:=I (Wh.Ac (hp.below Z));have HR:=I (Tf (KW hk));have kt:W.cell? ⟨bt,0,none⟩=some (.int .i64 t):=(Z.cell (p:=⟨bt,0,none⟩) X).trans ht;have ke:W.cell? ⟨w.heap.size,38,none⟩=some (.int .i64 x.x.e):=Nh (o:=0) (KW hk);have Y:del p t x.it=(decide (x.x.e<t)||decide (x.p=p)):=rfl;rw[Y];clear Z hk hp ht X Y M
 by_cases h1:x.x.e<t
 ·have t1:decide (x.x.e<t)=true:=decide_eq_true h1
  rw[t1];clear h1;go_enter Tryz.func109,Tryz.ntmps109
  go_upto_region 1 with fail
  rw[<-O];clear O
  go_wp2
  go_ret;exact⟨rfl,HB.o⟩
 ·have t1:decide (x.x.e<t)=false:=decide_eq_false h1
  rw[t1];clear h1
  by_cases h2:x.p=p
  ·have q1:=Bb h2
   rw[decide_eq_true h2];clear h2;go_enter Tryz.func109,Tryz.ntmps109
   go_upto_region 1 with fail
   rw[<-O];clear O
   go_wp2_with (first
    |(refine Wh.AG (by rfl) 35 (.tmp 11) (by rfl) _ 0 (by rfl) _ _ HR.o Tryz.underlying35 (by rfl) AZ ?_)
    |(refine Wh.AG (by rfl) 35 (.tmp 2) (by rfl) _ 0 (by rfl) _ _ HP.o Tryz.underlying35 (by rfl) AZ ?_)
    |fail)
   go_ret;exact⟨rfl,HB.o⟩
  ·have q1:=BA h2
   rw[decide_eq_false h2];clear h2;go_enter Tryz.func109,Tryz.ntmps109
   go_upto_region 1 with fail
   rw[<-O];clear O
   go_wp2_with (first
    |(refine Wh.AG (by rfl) 35 (.tmp 11) (by rfl) _ 0 (by rfl) _ _ HR.o Tryz.underlying35 (by rfl) AZ ?_)
    |(refine Wh.AG (by rfl) 35 (.tmp 2) (by rfl) _ 0 (by rfl) _ _ HP.o Tryz.underlying35 (by rfl) AZ ?_)
    |fail)
   go_ret;exact⟨rfl,HB.o⟩
def goI (p:Pr) (t:Int) (es:List En):Option Nat:=es.findIdx? (fun e=>del p t e.it)
def goN (o:Option Nat):Int:=match o with
 |none=>-1
 |some i=>(i:Int)
theorem Ti {p:Pr} {t:Int} {es:List En} {i:Nat} {x:En} (Y:es[i]? = some x) (X:del p t x.it=true) (hn:∀j y,j<i->es[j]? = some y->del p t y.it=false):goI p t es=some i:=by
 obtain⟨O,Z⟩:=List.getElem?_eq_some_iff.1 Y;refine List.findIdx?_eq_some_iff_getElem.2 ⟨O,by rw[Z];exact X,fun j M=>?_⟩;rw[hn j _ M (List.getElem?_eq_getElem (by omega))];simp
theorem Tj {p:Pr} {t:Int} {es:List En} (Y:∀j y,j<es.length->es[j]? = some y->del p t y.it=false):goI p t es=none:=by
 refine List.findIdx?_eq_none_iff.2 fun x X=>?_
 obtain⟨j,M,O⟩:=List.getElem_of_mem X;exact Y j x M (by rw[<-O];exact List.getElem?_eq_getElem M)
theorem QH (es:List En) (p:Pr) (t:Int) (bt bp:Nat) (A:Option Addr) (c B:Nat) (w:World) (hr:RdR w B A enC 39 es) (hB:B<=w.heap.size) (ht:w.cell? ⟨bt,0,none⟩=some (.int .i64 t)) (hp:Blk w bp 35 #[.string ⟨p.1.toArray⟩,.string ⟨p.2.toArray⟩]) (hl:es.length<=1000) :
  Calls Tryz.prog 157 #[.slice A es.length c,.func (.func 109) #[] #[.pointer (some ⟨bt,0,none⟩),.pointer (some ⟨bp,0,none⟩)]] w fun e w'=>e=.returned (.int .i64 (goN (goI p t es)))/\Below w.heap.size w w':=by
 obtain⟨n,en⟩:=Aj (es.length);have EN:=I en;rw[<-en] at hl⊢;have ae:bt<w.heap.size:=World.block_lt_of_cell? w _ ht;have CD:=I (fun(x:En) (w1:World) (h:Below w.heap.size w w1)=>UW x p t bt bp w1 ((h.cell (p:=⟨bt,0,none⟩) ae).trans ht) (hp.below h));have HR:=I hr;have ai:=I hB;have M:=I (Below.refl w.heap.size w);clear hr ht hp ae en hB;go_enter Tryz.func157,Tryz.ntmps157
 go_wp2
 go_loopw [8] (fun iv wr=>∃i:Nat,i<=n/\iv=.int .i64 (i:Int)/\Below w.heap.size w wr/\∀j x,j<i->es[j]? = some x->del p t x.it=false) (fun iv _=>n - (intOf iv).toNat)
 case atStart=>exact⟨0,Nat.zero_le _,rfl,M.o,fun j x hj=>absurd hj (Nat.not_lt_zero _)⟩
 case round=>
  clear M;obtain⟨i,hi,rfl,O,af⟩:=hrel;have M:=I O;have Y:=I af;have ah:=I (HR.o.keep (O.mono ai.o));clear O af
  by_cases hlt:i<n
  ·have e1:(i:Int)<(n:Int):=by omega
   have e2:(0:Int)<=(i:Int):=by omega
   obtain⟨x,hx⟩:∃x,es[i]? = some x:=⟨es[i]'(by rw[<-EN.o];exact hlt),List.getElem?_eq_getElem _⟩;obtain⟨g,rfl,aj,Z⟩:=ah.o.at_ hx;rw[<-DE] at Z;have ad:=I Z;have ab:=LZ;rw[<-Bp x] at ab;have aa:=I ab;have HX:=I hx;have CX:=I (CD.o x);obtain⟨cs,ag⟩:=Aj (enA x);rw[<-ag] at ad aa CX;clear Z ab hx ag;obtain⟨b,eb⟩:=Aj (del p t x.it);rw[<-eb] at CX;have EB:=I eb;clear eb;cases b with
   |true=>
    go_wp2_with (first
     |(refine Wh.AG (by rfl) 186 (.tmp 14) (by rfl) g _ (by rfl) cs _ ad.o Tryz.underlying186 (by rfl) aa.o ?_)
     |(go_at_call 109;refine Ah (CX.o _ M.o) ?_;rintro w1 O;replace M:=M.t O;clear O)
     |fail)
    go_ret;exact⟨by rw[Ti HX.o EB.o.symm Y.o];rfl,M.o⟩
   |false=>
    go_wp2_with (first
     |(refine Wh.AG (by rfl) 186 (.tmp 14) (by rfl) g _ (by rfl) cs _ ad.o Tryz.underlying186 (by rfl) aa.o ?_)
     |(go_at_call 109;refine Ah (CX.o _ M.o) ?_;rintro w1 O;replace M:=M.t O;clear O)
     |fail)
    go_roundw
    case rel=>exact⟨i+1,by omega,by go_num,M.o,fun j y hj X=>by
     rcases Nat.lt_or_eq_of_le (Nat.le_of_lt_succ hj) with g | g
     ·exact Y.o j y g X
     ·rw[g,HX.o] at X
      injection X with X;rw[<-X];exact EB.o.symm⟩
    case measure=>simp [intOf];omega
  ·have e1:¬(i:Int)<(n:Int):=by omega
   obtain rfl:n=i:=by omega
   go_wp2
   go_ret;exact⟨by rw[Tj (fun j y hj X=>Y.o j y (by rw[EN.o];exact hj) X)];rfl,M.o⟩
def Cm (p:Pr) (t:Int) (es:List En):List En:=es.filter (fun e=>!del p t e.it)
theorem JX {p:Pr} {t:Int} {es:List En} {i:Nat} (h:goI p t es=some i):∃x,es[i]? = some x/\del p t x.it=true/\∀j y,j<i->es[j]? = some y->del p t y.it=false:=by
 obtain⟨M,Z,Y⟩:=List.findIdx?_eq_some_iff_getElem.1 h;refine⟨es[i],List.getElem?_eq_getElem M,Z,fun j y O X=>?_⟩;have:=Y j O;obtain⟨k1,k2⟩:=List.getElem?_eq_some_iff.1 X;rw[k2] at this
 simpa using this
theorem Oq {p:Pr} {t:Int} {es:List En} (h:goI p t es=none):Cm p t es=es:=by
 rw[Cm,List.filter_eq_self];intro x M;have:=List.findIdx?_eq_none_iff.1 h x M
 simpa using this
theorem Jy {p:Pr} {t:Int} {es:List En} {i:Nat} {x:En} (M:es[i]? = some x):Cm p t (es.take (i+1))=if del p t x.it=true then Cm p t (es.take i) else Cm p t (es.take i)++[x]:=by
 rw[List.take_add_one,M,Cm,List.filter_append];cases h:del p t x.it<;>simp [Cm,h]
theorem Ma {p:Pr} {t:Int} {es:List En} {i:Nat} (h:goI p t es=some i):Cm p t (es.take (i+1))=es.take i:=by
 obtain⟨x,Y,h2,h3⟩:=JX h;rw[Jy Y,if_pos h2,Cm,List.filter_eq_self];intro y Z;obtain⟨j,O,M⟩:=List.getElem_of_mem Z;have X:j<i:=by simp at O;omega
 have:=h3 j y X (by rw[<-M,List.getElem_take];exact List.getElem?_eq_getElem _);rw[this];rfl
theorem Tl {α:Type} (l:List α) (i:Nat) (x:α) (h:i<l.length):(l.set i x).take (i+1)=l.take i++[x]:=by
 rw[List.take_add_one,List.take_set_of_le Af,List.getElem?_set_self h]
 rfl
theorem QI:(Tryz.prog.info? 186).map (fun i=>(i.zero,i.size,i.bytes))=some (some (.agg (enA ⟨([],[]),⟨([],[]),0,[],fun _=>0,0⟩,none,0⟩)),39,136):=by kernel_rfl
theorem QJ (es:List En) (p:Pr) (t:Int) (bn bp g cap B i0:Nat) (w:World) (ho:w.ownsRow B 186 39 (.slice (some ⟨g,0,none⟩) es.length cap) es.length (es.flatMap enC)) (hB:B<=w.heap.size) (ht:w.cell? ⟨bn,0,none⟩=some (.int .i64 t)) (hp:Blk w bp 35 #[.string ⟨p.1.toArray⟩,.string ⟨p.2.toArray⟩])
  (aH:bn≠g) (aR:bp≠g) (hl:es.length<=1000) (af:goI p t es=some i0) :
  Calls Tryz.prog 108 #[.slice (some ⟨g,0,none⟩) es.length cap,.func (.func 109) #[] #[.pointer (some ⟨bn,0,none⟩),.pointer (some ⟨bp,0,none⟩)]] w fun e w'=>e=.returned (.slice (some ⟨g,0,none⟩) (Cm p t es).length cap)/\
   w'.ownsRow B 186 39 (.slice (some ⟨g,0,none⟩) (Cm p t es).length cap) (Cm p t es).length ((Cm p t es).flatMap enC)/\w.grownBy w' (some g):=by
 obtain⟨x0,aO,aU,aT⟩:=JX af;have ak:i0<es.length:=(List.getElem?_eq_some_iff.1 aO).1;obtain⟨A1,c1,e1,ae,aB,aG⟩:=Cv Be ho;injection e1 with e1 _ e2;subst e1 e2;have aK:g<w.heap.size:=(World.ownsRow.lt ho g rfl).2;have aC:B<=g:=(World.ownsRow.lt ho g rfl).1;have CI:=QH es p t bn bp (some ⟨g,0,none⟩) cap w.heap.size w aG Af ht hp hl;rw[af,show goN (some i0)=(i0:Int) from rfl] at CI;obtain⟨n,en⟩:=Aj (es.length);have EN:=I en;rw[<-en] at CI hl ak ae⊢;have aD:bn<w.heap.size:=World.block_lt_of_cell? w _ ht;have CD:=I (fun(x:En) (w1:World) (h:w.grownBy w1 (some g))=>UW x p t bn bp w1 (h.cell ht (by intro e;injection e with e;exact aH e)) (hp.grown h (by intro e;injection e with e;exact aR e.symm)));have M:=I ho;have ax:=I ak;have HF:=I (Ma af);have HL:=I hl;have aM:=I ae;have bd:=I aK;have aZ:=I aC;have bb:=I aB;have t0:((i0:Int) == -1)=false:=by simp
 obtain⟨iE,aN,ay,aX,aS⟩:=info_parts QI;have aE:(Value.agg (enA ⟨([],[]),⟨([],[]),0,[],fun _=>0,0⟩,none,0⟩)).cells.size=39:=Bp _;have aJ:∀u∈(Value.agg (enA ⟨([],[]),⟨([],[]),0,[],fun _=>0,0⟩,none,0⟩)).cells.toList,u.oneCell'=true:=by
  intro u hu;rw[show(Value.agg (enA ⟨([],[]),⟨([],[]),0,[],fun _=>0,0⟩,none,0⟩)).cells=enA ⟨([],[]),⟨([],[]),0,[],fun _=>0,0⟩,none,0⟩ from rfl,DE] at hu;exact Hh _ u hu
 have aW:=I (fun(w1:World) (ty:TypeId) (o m c:Nat) (h:w1.there g o (m*39))=>QE Tryz.prog w1 178 186 ty iE _ 39 Tryz.underlying178 aN ay aE aJ (by decide) g o m c h);clear ho aG ht hp aD en aU aT aO x0 af aK aC aH aR aB ae aN ay aX aS aE aJ hB;go_enter Tryz.func108,Tryz.ntmps108
 go_wp2_with (first
  |(go_at_call 157;refine Ah CI ?_;rintro w1 O;have Y:=I (By O (some g));replace M:=I (CQ M.o O);clear O CI)
  |fail)
 go_loopw [5,6] (fun iv jv wr=>∃(i j:Nat) (cs:List En),iv=.int .i64 (i:Int)/\jv=.int .i64 (j:Int)/\i<j/\j<=n/\cs.length=n/\cs.take i=Cm p t (es.take j)/\(∀q,j<=q->cs[q]? = es[q]?)/\wr.ownsRow B 186 39 (.slice (some ⟨g,0,none⟩) cs.length cap) cs.length (cs.flatMap enC)/\w.grownBy wr (some g)) (fun _ jv _=>n - (intOf jv).toNat)
 case atStart=>exact⟨i0,i0+1,es,rfl,by go_num,by omega,ax.o,EN.o.symm,HF.o.symm,fun q _=>rfl,M.o,Y.o⟩
 case round=>
  clear M Y HF ax;obtain⟨i,j,cs,rfl,rfl,ba,hj,ad,aP,aa,ho,hg⟩:=hrel;have M:=I ho;have Y:=I hg;have aj:=I aP;have ai:=I aa;have X:=I ad;clear ho hg aP aa ad
  by_cases hlt:j<n
  ·have e1:(j:Int)<(n:Int):=by omega
   have e2:(0:Int)<=(j:Int):=by omega
   have e3:(i:Int)<(n:Int):=by omega
   have e4:(0:Int)<=(i:Int):=by omega
   obtain⟨x,hx⟩:∃x,es[j]? = some x:=⟨es[j]'(by rw[<-EN.o];exact hlt),List.getElem?_eq_getElem _⟩;obtain⟨A1,c1,q1,_,_,hr⟩:=Cv Be M.o;injection q1 with q1 _ q2;subst q1 q2;have az:cs[j]? = some x:=(ai.o j Af).trans hx;obtain⟨g2,q3,_,ao⟩:=hr.at_ az;injection q3 with q3;injection q3 with q3;subst q3;rw[<-DE] at ao;have av:=I ao;have au:=LZ;rw[<-Bp x] at au;have Z:=I au;have ag:=I (QG x);have HX:=I hx;have CX:=I (CD.o x);obtain⟨ds,ar⟩:=Aj (enA x);rw[<-ar] at av Z CX ag;have ah:=I ar;have an:=Jy (p:=p) (t:=t) hx;obtain⟨b,eb⟩:=Aj (del p t x.it);rw[<-eb] at CX an;have aF:=I an;obtain⟨m,em⟩:=Aj (cs.length);have EM:=I em;clear ao au hx ar eb hr az an;cases b with
   |true=>
    go_wp2_with (first
     |(refine Wh.AG (by rfl) 186 (.tmp 24) (by rfl) g _ (by rfl) ds _ av.o Tryz.underlying186 (by rfl) Z.o ?_)
     |(refine Wh.Bh (by rfl) 186 (.tmp 7) (.tmp 25) (by rfl) 186 rfl ds (by rfl) (by rfl) (by rw[ah.o,Bp];rfl) Z.o ag.o ?_;rintro V hV O;have HV:=I hV;replace M:=I (CQ M.o O);replace Y:=I (Gu Y.o O);clear hV O)
     |(refine Wh.AG (by rfl) 186 (.tmp 7) (by rfl) _ 0 (by rfl) ds _ (Wh.Ac HV.o) Tryz.underlying186 (by rfl) Z.o ?_)
     |(go_at_call 109;refine Ah (CX.o _ Y.o) ?_;rintro w1 O;replace M:=I (CQ M.o O);replace Y:=I (Gu Y.o O);clear O)
     |fail)
    go_roundw
    case rel=>exact⟨i,j+1,cs,rfl,by go_num,by omega,by omega,X.o,by rw[aF.o];simpa using aj.o,fun q hq=>ai.o q (by omega),M.o,Y.o⟩
    case measure=>simp [intOf];omega
   |false=>
    have aV:=I (fun(w1:World) (h:w1.ownsRow B 186 39 (.slice (some ⟨g,0,none⟩) cs.length cap) cs.length (cs.flatMap enC))=>KV h (i*39) 39 (by have:=X.o;omega));have aA:=I (fun(w1:World) (h:w1.ownsRow B 186 39 (.slice (some ⟨g,0,none⟩) cs.length cap) cs.length (cs.flatMap enC))=>We Be h (show i<cs.length by have:=X.o;omega) x);rw[<-DE,<-ah.o] at aA
    go_wp2_with (first
     |(refine Wh.AG (by rfl) 186 (.tmp 24) (by rfl) g _ (by rfl) ds _ av.o Tryz.underlying186 (by rfl) Z.o ?_)
     |(refine Wh.Bh (by rfl) 186 (.tmp 7) (.tmp 25) (by rfl) 186 rfl ds (by rfl) (by rfl) (by rw[ah.o,Bp];rfl) Z.o ag.o ?_;rintro V hV O;have HV:=I hV;replace M:=I (CQ M.o O);replace Y:=I (Gu Y.o O);clear hV O)
     |(refine Wh.AG (by rfl) 186 (.tmp 7) (by rfl) _ 0 (by rfl) ds _ (Wh.Ac HV.o) Tryz.underlying186 (by rfl) Z.o ?_)
     |(go_at_call 109;refine Ah (CX.o _ Y.o) ?_;rintro w1 O;replace HV:=I (HV.o.below O);replace M:=I (CQ M.o O);replace Y:=I (Gu Y.o O);clear O)
     |(refine wpList_store_mid (by rfl) 186 (.tmp 33) (.tmp 32) (by rfl) g (i*39) ds (by rfl) (by rfl) (by rw[ah.o,Bp];exact aV.o _ M.o) Z.o ag.o ?_;replace M:=I (aA.o _ M.o);replace Y:=I (Wh.Eu (.inl rfl) ds.toList (i*39) _ Y.o))
     |fail)
    go_roundw
    case rel=>exact⟨i+1,j+1,cs.set i x,by go_num,by go_num,by omega,by omega,by rw[List.length_set];exact X.o,by rw[aF.o,Tl _ _ _ (by have:=X.o;omega),aj.o];simp,fun q hq=>by rw[List.getElem?_set_ne (by omega)];exact ai.o q (by omega),by rw[List.length_set];exact M.o,Y.o⟩
    case measure=>simp [intOf];omega
  ·have e1:¬(j:Int)<(n:Int):=by omega
   obtain rfl:n=j:=by omega
   have e4:(0:Int)<=(i:Int):=by omega
   have al:=fun(vs:List Value) (h:vs.length=(n - i)*39)=>Wf Be M.o (show i<=cs.length by have:=X.o;omega) vs (by have:=X.o;omega)
   obtain⟨vs,aI,ad⟩:=aW.o wr 0 (i*39) (n - i) (cap - i) (KV M.o _ _ (by have:=X.o;omega));have aw:=al vs aI;have aL:=Wh.Eu (row:=some g) (g:=g) (.inl rfl) vs (i*39) _ Y.o;have ab:List.take i cs=Cm p t es:=by rw[aj.o,List.take_of_length_le (by rw[<-EN.o];exact Nat.le_refl _)]
   have aQ:(Cm p t es).length=i:=by rw[<-ab,List.length_take];have:=X.o;omega
   rw[ab] at aw;have e5:(i:Int)<=(n:Int):=by omega
   have e6:(n:Int)<=(cap:Int):=by have:=aM.o;omega
   have aY:∀ty,(Builtin.clear_ #[178] ty #[.slice (some ⟨g,i*39,none⟩) (n - i) (cap - i)]).run Tryz.prog wr=.ok (.tuple #[]) (wr.setCells g (i*39) vs):=fun _=>ad
   have H1:=I aw;have H2:=I aL;have H3:=I aQ;clear aw aL ab aQ ad al aI M Y aj ai
   go_wp2
   go_ret;exact⟨by rw[H3.o];rfl,by rw[H3.o];exact H1.o,H2.o⟩
theorem Ni (es:List En) (p:Pr) (t:Int) (X Z B:Nat) (v:Value) (w:World) (Y:w.ownsRow B 186 39 v es.length (es.flatMap enC)) (hB:B<=w.heap.size) (ht:w.cell? ⟨X,0,none⟩=some (.int .i64 t)) (hp:Blk w Z 35 #[.string ⟨p.1.toArray⟩,.string ⟨p.2.toArray⟩])
  (O:v.ownBlock≠some X) (M:v.ownBlock≠some Z) (hl:es.length<=1000) :
  Calls Tryz.prog 108 #[v,.func (.func 109) #[] #[.pointer (some ⟨X,0,none⟩),.pointer (some ⟨Z,0,none⟩)]] w fun e w'=>∃v',e=.returned v'/\
   w'.ownsRow B 186 39 v' (Cm p t es).length ((Cm p t es).flatMap enC)/\w.grownBy w' v.ownBlock/\v'.ownBlock=v.ownBlock:=by
 cases hi:goI p t es with
 |none=>
  have he:=Oq hi;obtain⟨A,c,rfl,_,_,hr⟩:=Cv Be Y;have CI:=QH es p t X Z A c w.heap.size w hr Af ht hp hl;rw[hi,show goN none = -1 from rfl] at CI;have HO:=I Y;rw[he];obtain⟨n,en⟩:=Aj (es.length);rw[<-en] at CI HO⊢;clear hi ht hp O M hl hr he en Y;go_enter Tryz.func108,Tryz.ntmps108
  go_wp2_with (first
   |(go_at_call 157;refine Ah CI ?_;rintro w1 hb;have HB:=I hb;clear hb CI)
   |fail)
  go_ret;exact⟨_,rfl,CQ HO.o HB.o,By HB.o _,rfl⟩
 |some i0=>
  rcases Y.2 with⟨rfl,h2⟩ | ⟨g,cap,cur,rfl,_⟩
  ·obtain⟨x,hx,_⟩:=JX hi
   have:=(List.getElem?_eq_some_iff.1 hx).1;omega
  ·refine(QJ es p t X Z g cap B i0 w Y hB ht hp (fun e=>O (e▸rfl)) (fun e=>M (e▸rfl)) hl hi).mono ?_
   rintro e w' ⟨rfl,h1,h2⟩;exact⟨_,rfl,h1,h2,rfl⟩
end Ca
namespace Ca
open Go.RowKit Ae Se
open Nm (L)
open Rg (Pr prC prV AZ)
theorem Tm (n:Nat) (Z:n<=140737488351232) (w:World):(Instr.makeSlice 24 (.int .i64 (n:Int)) (.int .i64 (n:Int))).run Tryz.prog w=.ok (.slice (some ⟨w.heap.size,0,none⟩) n n) (w.alloc (.cells (Da n) 5)):=by
 obtain⟨M,Y,O,hs,X⟩:=info_parts Nm.Jn;have h:=run_make (P:=Tryz.prog) w 24 5 M _ Tryz.underlying24 Y O .i64 .i64 (n:Int) (n:Int) (by omega) (by omega) (by rw[X];omega) (by omega);have e:madeCells (Value.int .u8 0).cells (((n:Int)).toNat*M.size)=Da n:=by
  rw[hs,Nat.mul_one,Int.toNat_natCast];refine Array.toList_inj.1 ?_;show(madeCells #[Value.int .u8 0] n).toList=_;rw[toList_madeCells_one];simp [Da,bv]
 rw[e] at h
 simpa using h
theorem Tn (s:L) (Y:s≠[]) (hs:s.length<=140737488351232) (w:World):(Builtin.unsafeString_ #[226,3] 9 #[.pointer (some ⟨w.heap.size,0,none⟩),.int .i64 (s.length:Int)]).run Tryz.prog (w.alloc (.cells (bvs s).toArray 5))=.ok (.string ⟨s.toArray⟩) ((w.alloc (.cells (bvs s).toArray 5)).freeze ⟨w.heap.size,0,none⟩ s.length):=by
 obtain⟨i0,Z,_,X,_⟩:=info_parts Nm.Jn;have hk:=Blk.new w 5 (bvs s).toArray;refine Lib.run_unsafeString_row (P:=Tryz.prog) _ _ _ _ 5 Tryz.underlying226 (by simp [Program.cellsOf,Z,X]) w.heap.size s.length ?_ s Y Af (by omega) fun j x O=>?_
 ·unfold World.shape?
  rw[show(w.alloc (.cells (bvs s).toArray 5)).heap[w.heap.size]? = _ from hk];simp [AB]
 ·obtain⟨M,e⟩:=List.getElem?_eq_some_iff.1 O
  rw[addr_add,Nat.zero_add,hk.cell,List.getElem?_toArray,DR M,e];rfl
theorem Ot (s:L) (w:World) (M:s.length<=140737488351232):Calls Tryz.prog 84 #[.string ⟨s.toArray⟩] w fun e w'=>e=.returned (.string ⟨s.toArray⟩)/\Below w.heap.size w w':=by
 by_cases h0:s = []
 ·subst h0
  go_enter Tryz.func84,Tryz.ntmps84
  go_wp2
  go_ret;exact⟨rfl,Below.refl _ _⟩
 ·have Z:=Tm s.length M w
  have X:=Nm.MN s w;have O:=Tn s h0 M w;have hl:1<=s.length:=by
   cases s with
   |nil=>exact absurd rfl h0
   |cons a r=>simp
  have t0:((s.length:Int)==0)=false:=by simp;omega
  have Y:=I (Lib.below_freeze ((Below.refl w.heap.size w).alloc Af (.cells (bvs s).toArray 5)) (p:=⟨w.heap.size,0,none⟩) Af s.length);clear h0;go_enter Tryz.func84,Tryz.ntmps84
  go_wp2
  go_ret;exact⟨rfl,Y.o⟩
theorem DF (s:L) (w:World) (M:s.length<=140737488351232):Calls Tryz.prog 47 #[.string ⟨s.toArray⟩] w fun e w'=>e=.returned (.string ⟨s.toArray⟩)/\Below w.heap.size w w':=by
 have c1:=Ot s w M;go_enter Tryz.func47,Tryz.ntmps47
 go_wp2_with (go_at_call 84;refine Ah c1 ?_;rintro w' O)
 go_ret;exact⟨rfl,O⟩
theorem JY (p:Pr) (w:World) (h1:p.1.length<=140737488351232) (h2:p.2.length<=140737488351232):Calls Tryz.prog 22 #[prV p] w fun e w'=>e=.returned (prV p)/\Below w.heap.size w w':=by
 have C1:=I (fun w1=>DF p.1 w1 h1);have C2:=I (fun w1=>DF p.2 w1 h2);go_enter Tryz.func22,Tryz.ntmps22
 go_upto_region 1 with fail
 obtain⟨W,eW⟩:=Aj ((w.alloc (.cells #[.string ⟨p.1.toArray⟩,.string ⟨p.2.toArray⟩] 35)).alloc (.cells #[.string ⟨#[]⟩,.string ⟨#[]⟩] 35));have hq:=Blk.new (w.alloc (.cells #[.string ⟨p.1.toArray⟩,.string ⟨p.2.toArray⟩] 35)) 35 #[.string ⟨#[]⟩,.string ⟨#[]⟩];rw[show(w.alloc (.cells #[.string ⟨p.1.toArray⟩,.string ⟨p.2.toArray⟩] 35)).heap.size=w.heap.size+1 by simp,<-eW] at hq;have O:=I (show Blk W w.heap.size 35 #[.string ⟨p.1.toArray⟩,.string ⟨p.2.toArray⟩] by rw[eW];exact(Blk.new _ _ _).alloc _);have M:=I hq;have Y:=I (show Below w.heap.size w W by rw[eW];exact(Ag.alloc Af _).alloc (by simp) _);rw[<-eW];clear eW hq;replace O:=I (show Blk W.drew _ _ _ from O.o.drewN 1);replace M:=I (show Blk W.drew _ _ _ from M.o.drewN 1);replace Y:=I (show Below _ _ W.drew from below_drewN Y.o 1)
 go_region_held3 (fun w'=>w'.cell? ⟨w.heap.size,0,none⟩=some (.string ⟨p.1.toArray⟩)/\w'.cell? ⟨w.heap.size,1,none⟩=some (.string ⟨p.2.toArray⟩)) (first | exact⟨O.o.cell 0,O.o.cell 1⟩ | exact⟨(Si.Blk.far (Si.Blk.far O.o _ _ (by simp)) _ _ (by simp)).cell 0,(Si.Blk.far (Si.Blk.far O.o _ _ (by simp)) _ _ (by simp)).cell 1⟩) ((first
  |(go_at_call 47;(with_reducible refine Calls.mono (C1.o _) ?_);rintro e w1 ⟨rfl,X⟩;clear C1;replace O:=I (O.o.below X);replace M:=I (M.o.below X);replace Y:=Y.t X;have aa:=M.c0;have Z:=M.c1;have fz:=M.o.frozen;clear X)
  |(go_at_call 47;(with_reducible refine Calls.mono (C2.o _) ?_);rintro e w2 ⟨rfl,X⟩;clear C2 aa Z fz;replace O:=I (O.o.below X);replace M:=I (M.o.below X);replace Y:=Y.t X;have aa:=M.c0;have Z:=M.c1;have fz:=M.o.frozen;clear X)))
 go_wp2
 have hz:=(M.o.set 0 (.string ⟨p.1.toArray⟩)).set 1 (.string ⟨p.2.toArray⟩);rw[show(((#[.string ⟨#[]⟩,.string ⟨#[]⟩]:Array Value).setIfInBounds 0 (.string ⟨p.1.toArray⟩)).setIfInBounds 1 (.string ⟨p.2.toArray⟩))=#[.string ⟨p.1.toArray⟩,.string ⟨p.2.toArray⟩] from rfl] at hz;refine bodyPost_ret (v:=prV p) ?_ ?_ ?_
 ·exact Wh.Al (v:=prV p) 2 35 ⟨w.heap.size+1,0,none⟩ Tryz.results22 (by rfl) (Wh.Ao hz Tryz.underlying35 (by rfl) AZ)
 ·rfl
 ·exact⟨rfl,Si.AY (Si.AY Y.o (by simp) _) (by simp) _⟩
structure Own1 (a w:World) (A:Option Addr) (xs:List Value):Prop where
 rd:Rd w w.heap.size A xs
 lo:∀p,A=some p->a.heap.size<=p.block/\p.block<w.heap.size
 bk:∀p,A=some p->∃t cur,Blk w p.block t cur
theorem Own1.below {a w w':World} {A:Option Addr} {xs:List Value} (h:Own1 a w A xs) (M:Below w.heap.size w w'):Own1 a w' A xs:=
 ⟨(h.1.below M).more M.size,fun p O=>have q:=h.2 p O;⟨q.1,Nat.lt_of_lt_of_le q.2 M.size⟩,fun p O=>by obtain⟨t,cur,q⟩:=h.3 p O;exact⟨t,cur,q.below M⟩⟩
theorem Own1.since {a b w:World} {A:Option Addr} {xs:List Value} (h:Own1 b w A xs) (hs:a.heap.size<=b.heap.size):Own1 a w A xs:=
 ⟨h.1,fun p M=>have q:=h.2 p M;⟨Nat.le_trans hs q.1,q.2⟩,h.3⟩
theorem Own1.chg {S:Nat->Prop} {a w w':World} {A:Option Addr} {xs:List Value} (h:Own1 a w A xs) (O:Chg S w w') (hs:∀p,A=some p->¬S p.block):Own1 a w' A xs:=
 ⟨Jx h.1 O hs,fun p M=>have q:=h.2 p M;⟨q.1,Nat.lt_of_lt_of_le q.2 O.size⟩,fun p M=>by obtain⟨t,cur,q⟩:=h.3 p M;exact⟨t,cur,O.blk q (hs p M)⟩⟩
theorem Own1.none (a w:World):Own1 a w .none []:=⟨.inl rfl,(fun p M=>by cases M),(fun p M=>by cases M)⟩
theorem Own1.of_own {w w':World} {n:Nat} {v:Value} {t:TypeId} {xs:List Value} (h:w'.ownsRow w.heap.size t 1 v n xs):∃A c,v=.slice A n c/\Own1 w w' A xs/\n<=c:=by
 rcases h.2 with⟨O,Z⟩ | ⟨g,cap,cur,O,hg,X,Y,hm,hq,hx⟩
 ·subst Z
  exact⟨_,0,O,⟨Rd.of_own (n:=0) (cap:=0) (by rw[<-O];exact h),(fun p M=>by cases M),(fun p M=>by cases M)⟩,Nat.le_refl _⟩
 ·subst O
  exact⟨_,cap,rfl,⟨Rd.of_own h,(fun p M=>by injection M with M;subst M;exact⟨hg,(Array.getElem?_eq_some_iff.1 X).1⟩),(fun p M=>by injection M with M;subst M;exact⟨t,cur,X⟩)⟩,Y⟩
theorem Ov (A:Option Addr) (c B:Nat) (l:L) (w:World) (hr:Rd w B A (bvs l)) (hB:B<=w.heap.size) (hl:l.length<=100000000000):Calls Tryz.prog 129 #[.slice A l.length c] w fun e w'=>∃A' c',e=.returned (.slice A' l.length c')/\Own1 w w' A' (bvs l)/\Below w.heap.size w w'/\l.length<=c':=by
 have aj:=Lib.run_eql_slice_nil (P:=Tryz.prog) w 24 5 A l.length c 0 0 Tryz.underlying24;obtain⟨n,en⟩:=Aj (l.length);have EN:=I en;rw[<-en] at aj hl⊢;cases A with
 |none=>
  have O:bvs l = []:=by
   rcases hr with h | ⟨b,o,h,_⟩
   ·exact h
   ·cases h
  have ai:n=0:=by
   have:=congrArg List.length O;rw[AB] at this;exact en.trans this
  rw[O];clear hr en O;subst ai;go_enter Tryz.func129,Tryz.ntmps129
  go_wp2
  go_ret;exact⟨none,0,rfl,Own1.none _ _,Below.refl _ _,Nat.le_refl _⟩
 |some a=>
  obtain⟨i0,ab,Z,X,ad⟩:=info_parts Nm.Jn;have af:=I ab;have al:=I Z;have ak:=I X;have ah:=I ad;have HR:=I hr;have ag:=I hB;have HL:=I hl;have Y:Below w.heap.size w (w.alloc (.cells #[] 5)):=Ag.alloc Af _;have M:=I Y;have HO:=I (World.ownsRow_made (base:=w.heap.size) w (e:=5) (size:=1) #[] 0 Af (by decide) rfl);clear hr en ab Z X ad hB hl Y;go_enter Tryz.func129,Tryz.ntmps129
  go_wp2_with (first
   |(refine AF _ rfl (.tmp 5) (.tmp 6) 24 rfl w.heap.size 5 i0 _ 1 Tryz.underlying24 af.o al.o ak.o ah.o rfl _ 0 [] rfl HO.o B _ n c (bvs l) rfl (by rw[AB];exact EN.o) (HR.o.below (M.o.mono ag.o)) (BM _) (by have:=HL.o;unfold maxLen;omega) (by have:=HL.o;omega) M.o.size ?_;intro v' w' ho hg hv;rw[Nat.zero_add,List.nil_append] at ho;have ae:=I ho;have an:=I (Ak M.o hg M.o.size Af);clear ho hg hv)
   |fail)
  go_ret;obtain⟨A',c',rfl,ho,aa⟩:=Own1.of_own ae.o;exact⟨A',c',rfl,ho,an.o,aa⟩
theorem Bt:(Tryz.prog.info? 96).map (·.size)=some 37:=by kernel_rfl
def Jc (i:Nat):UInt8:=0
def Eh:Cr:=⟨([],[]),0,[],Jc,0⟩
theorem Ev:crA Eh none 0=#[.string ⟨#[]⟩,.string ⟨#[]⟩,.int .i64 0,.slice none 0 0,.int .u8 0,.int .u8 0,.int .u8 0,.int .u8 0,.int .u8 0,.int .u8 0,.int .u8 0,.int .u8 0,.int .u8 0,.int .u8 0,.int .u8 0,.int .u8 0,.int .u8 0,.int .u8 0,.int .u8 0,.int .u8 0,.int .u8 0,.int .u8 0,.int .u8 0,.int .u8 0,.int .u8 0,.int .u8 0,.int .u8 0,.int .u8 0,.int .u8 0,.int .u8 0,.int .u8 0,.int .u8 0,.int .u8 0,.int .u8 0,.int .u8 0,.int .u8 0,.int .i64 0]:=by rfl
theorem To {w:World} {g o:Nat} {t:TypeId} {cs:Array Value} {vs:List Value} (h:Blk w g t cs) (Z:o+vs.length<=cs.size) (hs:∀i u,vs[i]? = some u->cs[o+i]? = some u):Blk (w.setCells g o vs) g t cs:=by
 obtain⟨ds,O,h2,X,Y⟩:=Wh.Bl vs o w cs h Z;have e:ds=cs:=by
  apply Array.ext_getElem?;intro i
  by_cases g:o<=i/\i<o+vs.length
  ·rw[X i g.1 g.2]
   have M:i - o<vs.length:=by omega
   have:=hs (i - o) _ (List.getElem?_eq_getElem M);rw[show o+(i - o)=i by omega] at this;rw[List.getElem?_eq_getElem M,this]
  ·exact Y i (by omega)
 exact e▸O
theorem Ox {P:Program} {ops:Array Oper} {rest:List Oper} {op:Oper} {a:Act} {w:World} {Q:Exit->Act->World->Prop} (O:op.guard=none) (ty:TypeId) (x y:Operand) (Z:op.op=.store ty x y) (g o:Nat) (t:TypeId) (cs:Array Value) (X:Blk w g t cs)
  (cells:Array Value) (hx:a.eval x=.pointer (some ⟨g,o,none⟩)) (Y:a.eval y=.agg cells) (hs:o+cells.size<=cs.size) (hi:(P.info? ty).map (·.size)=some cells.size) (h1:cells.all (·.oneCell')=true)
  (M:∀i u,cells.toList[i]? = some u->cs[o+i]? = some u) (h:∀V,Blk V g t cs->w.grownBy V (some g)->wpList P ops Q rest (a.put op.dst undef) V):wpList P ops Q (op :: rest) a w:=
 wpList_store_mid O ty x y Z g o cells hx Y (Wh.BZ X _ _ hs) hi h1 (h _ (To X (by simpa using hs) M) (Wh.DK _ _ _ _))
theorem Wi (x:Cr) (A M:Option Addr) (c c':Nat):(crA x A c).setIfInBounds 3 (.slice M x.b.length c')=crA x M c':=by
 simp [crA,crC]
theorem Mb (x:Cr) (A:Option Addr) (c B:Nat) (w:World) (hr:Rd w B A (bvs x.b)) (hB:B<=w.heap.size) (h1:x.s.1.length<=140737488351232) (h2:x.s.2.length<=140737488351232) (h3:x.b.length<=100000000000) :
  Calls Tryz.prog 86 #[.agg (crA x A c)] w fun e w'=>∃A' c',e=.returned (.agg (crA x A' c'))/\Own1 w w' A' (bvs x.b)/\Below w.heap.size w w'/\x.b.length<=c':=by
 have C1:=I (fun w1=>JY x.s w1 h1 h2);have C2:=I (fun(w1:World) (h:Rd w1 B A (bvs x.b)) (hB:B<=w1.heap.size)=>Ov A c B x.b w1 h hB h3);obtain⟨cs,X⟩:=Aj (crA x A c);have au:=I X;obtain⟨zs,ad⟩:=Aj (crA Eh none 0);have az:=I ad;have ar:=I (ad.trans Ev);rw[<-X];obtain⟨W,eW⟩:=Aj ((w.alloc (.cells cs 96)).alloc (.cells zs 96));have M:=I (show Blk W w.heap.size 96 cs by rw[eW];exact(Blk.new _ _ _).alloc _);have hq:=Blk.new (w.alloc (.cells cs 96)) 96 zs;rw[show(w.alloc (.cells cs 96)).heap.size=w.heap.size+1 by simp,<-eW] at hq;have HZ:=I hq;have Z:Below w.heap.size w W:=eW▸(Ag.alloc Af _).alloc (by simp) _;have Y:=I Z;have HR:=I (hr.below (Z.mono hB));have af:=I hB;have aj:=I (show cs.size=37 by rw[X,AN]);have ay:=I (show zs.size=37 by rw[ad,AN]);have ak:=I (fun(w1:World) (g:Nat) (h:Blk w1 g 96 cs)=>(cr_sv (UU (show Blk w1 g 96 (crA x A c) by rw[<-X];exact h)):w1.rangeAt g 0 (#[.string ⟨x.s.1.toArray⟩,.string ⟨x.s.2.toArray⟩]:Array Value).toList));have ab:=I (fun(w1:World) (g:Nat) (h:Blk w1 g 96 cs)=>(cr_b (o:=0) (UU (show Blk w1 g 96 (crA x A c) by rw[<-X];exact h)):w1.cell? ⟨g,3,none⟩=some (.slice A x.b.length c)));have an:=I (show ∀(i:Nat) (u:Value),(#[.string ⟨x.s.1.toArray⟩,.string ⟨x.s.2.toArray⟩]:Array Value).toList[i]? = some u->cs[0+i]? = some u by
  intro i u hu;rw[X,crA,List.getElem?_toArray,Nat.zero_add];have hj:i<2:=by have:=(List.getElem?_eq_some_iff.1 hu).1;simpa using this
  rw[<-hu];rcases i with _ | _ | i
  ·rfl
  ·rfl
  ·omega)
 have k3:=ab.o _ _ M.o;clear hr hB h1 h2 h3 X ad hq Z;go_enter Tryz.func86,Tryz.ntmps86
 go_upto_region 1 with fail
 rw[<-ar.o,<-eW];clear eW ar
 go_upto_region 2 with(first
  |(refine Wh.AG (by rfl) 35 (.tmp 4) (by rfl) _ 0 (by rfl) _ _ (ak.o _ _ M.o) Tryz.underlying35 (by rfl) AZ ?_)
  |(go_at_call 22;refine Ah (C1.o _) ?_;rintro w1 Z;replace M:=I (M.o.below Z);replace HZ:=I (HZ.o.below Z);replace HR:=I (HR.o.below (Z.mono (Nat.le_trans af.o Y.o.size)));replace Y:=Y.t Z;clear Z k3)
  |(refine Ox (by rfl) 35 (.tmp 8) (.tmp 6) (by rfl) w.heap.size 0 96 cs M.o (#[.string ⟨x.s.1.toArray⟩,.string ⟨x.s.2.toArray⟩]:Array Value) (by rfl) (by rfl) (by rw[aj.o];simp) AZ (by simp [Value.oneCell']) an.o ?_;intro W1 O hg;replace M:=I O;replace HZ:=I (HZ.o.grown hg (by simp));replace HR:=I (HR.o.grown hg (Nat.le_trans af.o Y.o.size) (fun k hk=>by injection hk with hk;have:=af.o;omega));replace Y:=I (btg Y.o hg Af);clear hg O)
  |fail)
 have k3:=ab.o _ _ M.o;have f3:=M.o.frozen 3
 go_upto_region 3 with(first
  |(go_at_call 129;refine Calls.mono (C2.o _ HR.o (Nat.le_trans af.o Y.o.size)) ?_;rintro e w2 ⟨A',c',rfl,ho,Z,ag⟩;have al:=I ag;clear k3 f3 ag;have HO:=I ho;replace M:=I (M.o.below Z);have ao:=I (show ∀p,A'=some p->p.block≠w.heap.size/\p.block≠w.heap.size+1 from fun p hp=>by have:=HZ.o.lt;have:=(ho.2 p hp).1;omega);replace HZ:=I (HZ.o.below Z);replace HO:=I (ho.since Y.o.size);replace Y:=Y.t Z;have k3:=ab.o _ _ M.o;have f3:=M.o.frozen 3;clear Z ho)
  |fail)
 obtain⟨W2,ae⟩:=Aj (w2.setCell ⟨w.heap.size,3,none⟩ (.slice A' x.b.length c'));have O:=M.o.set 3 (.slice A' x.b.length c');rw[au.o,Wi,<-ae] at O;have hg:w2.grownBy W2 (some w.heap.size):=ae▸Ar (World.grownBy.refl w2 _) (p:=⟨w.heap.size,3,none⟩) (.inl rfl) _;have hc:Chg (fun k=>k=w.heap.size) w2 W2:=Chg.of_grown hg rfl;replace HO:=I (HO.o.chg hc (fun p hp=>(ao.o p hp).1));replace HZ:=I (HZ.o.grown hg (by simp));replace Y:=I (btg Y.o hg Af);rw[<-ae];clear k3 f3 M hg hc aj ak ab an C1 C2 ae;obtain⟨ds,aa⟩:=Aj (crA x A' c');rw[<-aa] at O;have M:=I O;have aw:=I (show ds.size=37 by rw[aa,AN]);have ah:=I (show(Tryz.prog.info? 96).map (·.size)=some ds.size by rw[aa,AN];exact Bt);have ax:=I (show ds.all (·.oneCell')=true by rw[aa];exact DL _ _ _);have av:=I aa;clear O aa
 go_wp2_with (first
  |(refine Wh.AG (by rfl) 96 (.tmp 1) (by rfl) _ 0 (by rfl) ds _ (Wh.Ac M.o) Tryz.underlying96 (by rfl) ah.o ?_)
  |(refine Wh.Cb (by rfl) 96 (.tmp 2) (.tmp 15) (by rfl) (w.heap.size+1) 96 _ HZ.o ds (by rfl) (by rfl) (by rw[ay.o,aw.o]) ah.o ax.o ?_;rintro V2 ai hg;have HV:=I ai;replace Y:=I (btg Y.o hg (by omega));replace HO:=I (HO.o.chg (Chg.of_grown (S:=fun k=>k=w.heap.size+1) hg rfl) (fun p hp=>(ao.o p hp).2));clear ai hg)
  |fail)
 refine bodyPost_ret (v:=.agg ds) ?_ ?_ ?_
 ·exact Wh.Al (v:=.agg ds) 2 96 ⟨w.heap.size+1,0,none⟩ Tryz.results86 (by rfl) (Wh.Ao HV.o Tryz.underlying96 (by rfl) ah.o)
 ·rfl
 ·exact⟨A',c',by rw[av.o],HO.o,Y.o,al.o⟩
end Ca
end Go.Proofs.YtlccngianpfalaaGreat
