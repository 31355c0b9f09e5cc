import Derived.StillTailTactics
import Derived.Deep.CutBlock
import Derived.Test.YtlacoakelliabaaProg
import Derived.Deep.LoopGhost
import Derived.Deep.RegionHeld3
import Derived.Test.YtlacoakelliabaaZCacheOwn1
import Derived.Test.YtlacoakelliabaaZCacheOwn2
section
set_option linter.unusedVariables false
set_option linter.unusedSimpArgs false
namespace Go.Proofs.Ytlacoakelliabaa.Rg
open Go.RowKit Go.Proofs.Ytlacoakelliabaa.Mem Go.Proofs.Ytlacoakelliabaa.Se
def kC (k:Nat→UInt8):List Value:=(key32 k).toList
def OwnK (w:World) (base:Nat) (v:Value) (K:List (Nat→UInt8)):Prop:=w.ownsRow base 36 32 v K.length (K.flatMap kC)
theorem OwnK.below {w w':World} {base:Nat} {v:Value} {K:List (Nat→UInt8)} (h:OwnK w base v K) (hb:Below w.heap.size w w'):OwnK w' base v K:=own_kept h hb
end Go.Proofs.Ytlacoakelliabaa.Rg
end

section
set_option linter.unusedVariables false
namespace Go.Proofs.Ytlacoakelliabaa.Reg
open Go.RowKit Go.Proofs.Ytlacoakelliabaa.Mem
section
variable {P:Program} {ops:Array Oper} {Q:Exit→Act→World→Prop} {md:Region.Mode}
def Eff (P:Program) (md:Region.Mode) (ops:Array Oper) (Q:Exit→Act→World→Prop) (S:World→Prop) (fuel:Nat) (listed:Array Bool) (a:Act) (w:World) (i:Nat):Prop:=
 ∃(dst:Option Tmp) (op:Op) (ty:TypeId) (pos:String) (after:Array _) (guard:Option (Nat×Bool)) (v:Value) (w':World),ops[i]? = some ⟨dst,op,ty,pos,after,guard⟩∧Region.wanted ⟨dst,op,ty,pos,after,guard⟩ (yielded ops a.tmps)=true∧(execOp a.eval ⟨dst,op,ty,pos,after,guard⟩).run P w = .ok (.value v) w'∧S w'∧wpAnyH P md ops Q S fuel (listed.setIfInBounds i true) (a.put dst v) w'
end
end Go.Proofs.Ytlacoakelliabaa.Reg
end

section
set_option linter.unusedVariables false
namespace Go.Proofs.Ytlacoakelliabaa.Reg
open Go.RowKit Go.Proofs.Ytlacoakelliabaa.Mem
section
variable {P:Program} {ops:Array Oper} {Q:Exit→Act→World→Prop} {md:Region.Mode} {S:World→Prop}
theorem any_begin (S:World→Prop) (n:Nat) {id:Nat} {a:Act} {w:World} (hn:ops.size=n) (hm:P.follows .mixedOrders=true) (hS:S w.drew) (h:wpAnyH P .any ops Q S n (Array.replicate n false) a w.drew):(Code.region id ops true).wp P Q a w:=by
 subst hn
 exact wp_region_held_drew hm hS (fun _=>h)
theorem any_take (i:Nat) {dst:Option Tmp} {op:Op} {ty:TypeId} {pos:String} {after:Array _} {guard:Option (Nat×Bool)} {v:Value} {fuel:Nat} {listed:Array Bool} {a:Act} {w:World} (hi:ops[i]? = some ⟨dst,op,ty,pos,after,guard⟩)
  (hs:Region.noSelect ops=true) (hf:Region.free md ops listed i=true) (hr:(Region.ready md ops listed).contains i=true)
  (hQ:∀c a w,Q (.panic c) (a.put dst v) w→Q (.panic c) a w) (hS:S w)
  (hw:Region.wanted ⟨dst,op,ty,pos,after,guard⟩ (yielded ops a.tmps)=true) (hy:∀w',S w'→(execOp a.eval ⟨dst,op,ty,pos,after,guard⟩).run P w' = .ok (.value v) w')
  (h:wpAnyH P md ops Q S fuel (listed.setIfInBounds i true) (a.put dst v) w):wpAnyH P md ops Q S (fuel+1) listed a w:=
 wpAnyH_take hi hs hf hr hQ (.inl ⟨hw,hy⟩) hS h
theorem any_store (i:Nat) {dst:Option Tmp} {op:Op} {ty:TypeId} {pos:String} {after:Array _} {guard:Option (Nat×Bool)} {fuel:Nat} {listed:Array Bool} {a:Act} {w:World} (w':World) (hi:ops[i]? = some ⟨dst,op,ty,pos,after,guard⟩)
  (hr:Region.ready md ops listed = [i]) (hw:Region.wanted ⟨dst,op,ty,pos,after,guard⟩ (yielded ops a.tmps)=true) (hx:(execOp a.eval ⟨dst,op,ty,pos,after,guard⟩).run P w = .ok .skip w') (hS:S w')
  (h:wpAnyH P md ops Q S fuel (listed.setIfInBounds i true) (a.put dst undef) w'):wpAnyH P md ops Q S (fuel+1) listed a w:=by
 refine wpAnyH_all hr (by simp) fun j hj=>?_
 obtain rfl:j=i:=by simpa using hj
 unfold wpOp
 simp only[hi]
 rw[if_pos hw]
 left
 unfold Oper.wp
 rw[hx]
 exact⟨hS,h⟩
end
end Go.Proofs.Ytlacoakelliabaa.Reg
end

section
set_option linter.unusedVariables false
namespace Go.Proofs.Ytlacoakelliabaa.Reg
open Go.RowKit Go.Proofs.Ytlacoakelliabaa.Mem
section
variable {P:Program} {ops:Array Oper} {Q:Exit→Act→World→Prop} {md:Region.Mode}
def Ent (P:Program) (md:Region.Mode) (ops:Array Oper) (Q:Exit→Act→World→Prop) (S:World→Prop) (fuel:Nat) (listed:Array Bool) (a:Act) (w:World) (i:Nat):Prop:=
 ∃(dst:Option Tmp) (op:Op) (ty:TypeId) (pos:String) (after:Array _) (guard:Option (Nat×Bool)) (f:FuncId) (args:Array Value),ops[i]? = some ⟨dst,op,ty,pos,after,guard⟩∧Region.wanted ⟨dst,op,ty,pos,after,guard⟩ (yielded ops a.tmps)=true∧(execOp a.eval ⟨dst,op,ty,pos,after,guard⟩).run P w = .ok (.enter f args) w∧
  Calls P f args w fun e w'=>∃v,e = .returned v∧S w'∧wpAnyH P md ops Q S fuel (listed.setIfInBounds i true) (a.put dst v) w'
theorem both_all (is:List Nat) {S:World→Prop} {fuel:Nat} {listed:Array Bool} {a:Act} {w:World} (hr:Region.ready md ops listed=is) (hne:is≠[]) (h:∀j∈is,Eff P md ops Q S fuel listed a w j∨Ent P md ops Q S fuel listed a w j):wpAnyH P md ops Q S (fuel+1) listed a w:=by
 refine wpAnyH_all hr hne fun j hj=>?_
 rcases h j hj with⟨dst,op,ty,pos,after,guard,v,w',hi,hw,hx,hs,hh⟩ | ⟨dst,op,ty,pos,after,guard,f,args,hi,hw,hx,hh⟩
 ·unfold wpOp
  simp only[hi]
  rw[if_pos hw]
  left
  unfold Oper.wp
  rw[hx]
  exact⟨hs,hh⟩
 ·unfold wpOp
  simp only[hi]
  rw[if_pos hw]
  left
  unfold Oper.wp
  rw[hx]
  refine hh.mono ?_
  rintro e w' ⟨v,rfl,hs,hh⟩
  exact⟨hs,hh⟩
end
end Go.Proofs.Ytlacoakelliabaa.Reg
end

section
set_option linter.unusedVariables false
set_option linter.unusedSimpArgs false
namespace Go.Proofs.Ytlacoakelliabaa.Rg
open Go.RowKit Go.Proofs.Ytlacoakelliabaa.Mem Go.Proofs.Ytlacoakelliabaa.Se
theorem chg_row {w w':World} {row:Option Nat} (h:w.grownBy w' row):Chg (fun q=>row=some q) w w':=⟨h.os,h.tape,h.output,h.size,fun i hi hn=>h.block i hi (fun e=>hn e.symm)⟩
section
variable {P:Program} {w w':World} {a:Act} {dst:Option Tmp} {ty:TypeId} {pos:String} {after:Array _} {guard:Option (Nat×Bool)}
theorem exec_build {t:TypeId} {parts:Array (Nat×Operand)} {vs:List (Nat×Value)} {cells:Array Value} (hv:(parts.map fun x=>(x.1,a.eval x.2)).toList=vs) (h:P.built t vs=some cells) :
  (execOp a.eval ⟨dst,.build t parts,ty,pos,after,guard⟩).run P w = .ok (.value (.agg cells)) w:=by
 have:=run_build (P:=P) w t (parts.map fun x=>(x.1,a.eval x.2)) cells (by rw[hv];exact h)
 simp only[execOp,Sem.run_bind,this,Result.andThen_ok,Sem.run_pure]
theorem exec_slice {t:TypeId} {x:Operand} {cs:Array Value} {s:Value} (hx:a.eval x = .agg cs) (h:(Instr.buildSlice t 1 #[(0,.agg cs)]).run P w = .ok s w') :
  (execOp a.eval ⟨dst,.buildSlice t 1 #[(0,x)],ty,pos,after,guard⟩).run P w = .ok (.value s) w':=by
 simp only[execOp,Sem.run_bind,List.map_toArray,List.map_cons,List.map_nil,hx,h,Result.andThen_ok,Sem.run_pure]
theorem exec_app {t:TypeId} {x y:Operand} {u v s:Value} (hx:a.eval x=u) (hy:a.eval y=v) (h:(Builtin.append_ #[t,t] ty #[u,v]).run P w = .ok s w') :
  (execOp a.eval ⟨dst,.call {callee:=.builtin .append,args:=#[x,y],argTypes:=#[t,t]},ty,pos,after,guard⟩).run P w = .ok (.value s) w':=by
 simp only[execOp,resolve,invoke,builtin,Sem.run_bind,Sem.run_pure,Result.andThen_ok,List.map_toArray,List.map_cons,List.map_nil,hx,hy,h]
end
end Go.Proofs.Ytlacoakelliabaa.Rg
end

section
set_option linter.unusedVariables false
namespace Go.Proofs.Ytlacoakelliabaa.Reg
open Go.RowKit Go.Proofs.Ytlacoakelliabaa.Mem
section
variable {P:Program} {ops:Array Oper} {Q:Exit→Act→World→Prop} {md:Region.Mode} {S:World→Prop}
theorem tk (i:Nat) {dst:Option Tmp} {op:Op} {ty:TypeId} {pos:String} {after:Array _} {guard:Option (Nat×Bool)} {v:Value} {fuel:Nat} {listed:Array Bool} {a:Act} {w:World} (hi:ops[i]? = some ⟨dst,op,ty,pos,after,guard⟩) (hS:S w)
  (hy:∀w',S w'→(execOp a.eval ⟨dst,op,ty,pos,after,guard⟩).run P w' = .ok (.value v) w')
  (h:wpAnyH P md ops Q S fuel (listed.setIfInBounds i true) (a.put dst v) w)
  (hs:Region.noSelect ops=true:=by kernel_rfl) (hf:Region.free md ops listed i=true:=by kernel_rfl) (hr:(Region.ready md ops listed).contains i=true:=by kernel_rfl)
  (hQ:∀c a w,Q (.panic c) (a.put dst v) w→Q (.panic c) a w:=by exact fun _ _ _ h=>h) (hw:Region.wanted ⟨dst,op,ty,pos,after,guard⟩ (yielded ops a.tmps)=true:=by rfl):wpAnyH P md ops Q S (fuel+1) listed a w:=
 any_take i hi hs hf hr hQ hS hw hy h
theorem s0 {α:Type} (l:List α) (i:Nat) (a:α):l.toArray.setIfInBounds i a=(l.set i a).toArray:=List.setIfInBounds_toArray ..
theorem s1 {α:Type} {x:α} {xs:List α} {a:α}:(x :: xs).set 0 a=a :: xs:=rfl
theorem s2 {α:Type} {x:α} {xs:List α} {n:Nat} {a:α}:(x :: xs).set (n+1) a=x :: xs.set n a:=rfl
end
end Go.Proofs.Ytlacoakelliabaa.Reg
end

section
set_option linter.unusedVariables false
set_option linter.unusedSimpArgs false
namespace Go.Proofs.Ytlacoakelliabaa.Ca
open Go.RowKit Go.Proofs.Ytlacoakelliabaa.Mem Go.Proofs.Ytlacoakelliabaa.Se
open Go.Proofs.Ytlacoakelliabaa.Nm (L)
open Go.Proofs.Ytlacoakelliabaa.Rg (Pr prV pr_info RdR own_rdr own_chg chg_row)
theorem its_rest (p:Pr) (t:Int) (es:List En):its (restE p t es)=rest (its es) p t:=by
 unfold its restE rest
 rw[List.filter_map]
 rfl
section
variable {w0 W w2 w5 w6:World} {B r:Nat} {v v1 v6:Value} {es es1:List En} {p:Pr} {t:Int} {e:En}
theorem ca_rest (h:Ca W B r v es) (hg:W.grownBy w2 v.ownBlock) (ho:w2.ownsRow B 60 39 v1 (restE p t es).length ((restE p t es).flatMap enC)) (hv:v1.ownBlock=v.ownBlock) :
  Ca (w2.setCell ⟨r,0,none⟩ v1) B r v1 (restE p t es)∧Chg (PT r v) W (w2.setCell ⟨r,0,none⟩ v1)∧(∀q,CO r v1 (restE p t es) q→CO r v es q):=by
 have hset:Chg (fun q=>q=r) w2 (w2.setCell ⟨r,0,none⟩ v1):=Chg.set (p:=⟨r,0,none⟩) (Chg.refl (fun q=>q=r) w2) (.inl rfl) v1
 have hc:Chg (PT r v) W (w2.setCell ⟨r,0,none⟩ v1):=((chg_row hg).mono (fun q _ x=>.inr x)).trans hset (fun q _ x=>.inl x)
 have hvr:v1.ownBlock≠some r:=by rw[hv];exact h.vr
 have hsub:∀y,y∈restE p t es→y∈es:=fun y hy=>(List.mem_filter.1 hy).1
 refine⟨⟨(h.blk.grown hg h.vr).set 0 v1,own_chg hset ho (fun k hk x=>hvr (x▸hk)),h.lo,hvr,fun y hy=>?_,fun y hy a ha=>?_⟩,hc,fun q hq=>?_⟩
 ·have q:=h.off y (hsub y hy)
  exact rd_chg (h.rd y (hsub y hy)) hc (fun a ha x=>by
   have q2:=q a ha
   rcases x with x | x
   ·exact q2.2.1 x
   ·exact q2.2.2.1 x)
 ·have q:=h.off y (hsub y hy) a ha
  exact⟨q.1,q.2.1,by rw[hv];exact q.2.2.1,Nat.lt_of_lt_of_le q.2.2.2 hc.size⟩
 ·rcases hq with hq | hq | ⟨y,hy,a,ha,hq⟩
  ·exact .inl hq
  ·exact .inr (.inl (hv▸hq))
  ·exact .inr (.inr ⟨y,hsub y hy,a,ha,hq⟩)
theorem ca_put (h:Ca w0 B r v es1) (hb:Below w0.heap.size w0 w5) (h5:Ca w5 B r v es1) (hn:Own1 w0 w5 e.A (bvs e.x.b)) (ho:w6.ownsRow B 60 39 v6 (es1++[e]).length ((es1++[e]).flatMap enC)) (hg:w5.grownBy w6 v.ownBlock) (hv:v6.ownBlock=v.ownBlock∨v6.ownBlock=some w5.heap.size) :
  Ca (w6.setCell ⟨r,0,none⟩ v6) B r v6 (es1++[e])∧Chg (PT r v) w0 (w6.setCell ⟨r,0,none⟩ v6)∧(∀q,CO r v6 (es1++[e]) q→CO r v es1 q∨w0.heap.size≤q):=by
 have hset:Chg (fun q=>q=r) w6 (w6.setCell ⟨r,0,none⟩ v6):=Chg.set (p:=⟨r,0,none⟩) (Chg.refl (fun q=>q=r) w6) (.inl rfl) v6
 have hc5:Chg (PT r v) w5 (w6.setCell ⟨r,0,none⟩ v6):=((chg_row hg).mono (fun q _ x=>.inr x)).trans hset (fun q _ x=>.inl x)
 have hc:Chg (PT r v) w0 (w6.setCell ⟨r,0,none⟩ v6):=(Chg.of_below hb).trans hc5 (fun q _ x=>x)
 have hrl:=h.lt
 have hvr:v6.ownBlock≠some r:=fun x=>by
  rcases hv with g | g
  ·rw[g] at x;exact h.vr x
  ·rw[g] at x;injection x with x;have:=hb.size;omega
 have hnot:∀a,e.A=some a→¬PT r v a.block:=fun a ha x=>by
  have q:=hn.2 a ha
  rcases x with x | x
  ·omega
  ·have:=(World.ownsRow.lt h.row _ x).2;omega
 have hmem:∀y,y∈es1++[e]→y∈es1∨y=e:=fun y hy=>by simpa using hy
 refine⟨⟨(h5.blk.grown hg h5.vr).set 0 v6,own_chg hset ho (fun k hk x=>hvr (x▸hk)),h.lo,hvr,fun y hy=>?_,fun y hy a ha=>?_⟩,hc,fun q hq=>?_⟩
 ·rcases hmem y hy with hy | rfl
  ·exact rd_chg (h5.rd y hy) hc5 (fun a ha x=>by
    have q2:=h5.off y hy a ha
    rcases x with x | x
    ·exact q2.2.1 x
    ·exact q2.2.2.1 x)
  ·exact rd_chg hn.1 hc5 hnot
 ·rcases hmem y hy with hy | rfl
  ·have q:=h5.off y hy a ha
   refine⟨q.1,q.2.1,fun x=>?_,Nat.lt_of_lt_of_le q.2.2.2 hc5.size⟩
   rcases hv with g | g
   ·rw[g] at x;exact q.2.2.1 x
   ·rw[g] at x;injection x with x;omega
  ·have q:=hn.2 a ha
   refine⟨Nat.le_trans h.big q.1,by omega,fun x=>?_,Nat.lt_of_lt_of_le q.2 hc5.size⟩
   rcases hv with g | g
   ·rw[g] at x;have:=(World.ownsRow.lt h.row _ x).2;omega
   ·rw[g] at x;injection x with x;omega
 ·rcases hq with hq | hq | ⟨y,hy,a,ha,hq⟩
  ·exact .inl (.inl hq)
  ·rcases hv with g | g
   ·exact .inl (.inr (.inl (g▸hq)))
   ·rw[g] at hq;injection hq with hq;have:=hb.size;exact .inr (by omega)
  ·rcases hmem y hy with hy | rfl
   ·exact .inl (.inr (.inr ⟨y,hy,a,ha,hq⟩))
   ·exact .inr (hq▸(hn.2 a ha).1)
end
theorem built_en (p:Pr) (x:Cr) (A:Option Addr) (c:Nat):Try.prog.built 60 [(0,prV p),(1,.agg (crA x A c))]=some (enA ⟨p,x,A,c⟩):=by
 kernel_rfl
theorem put_begin (B r:Nat) (v:Value) (es:List En) (p:Pr) (xs:Array Value) (t:Int) (w W:World) (h:Ca w B r v es) (eW:W=((w.alloc (.cells #[.string ⟨p.1.toArray⟩,.string ⟨p.2.toArray⟩] 31)).alloc (.cells xs 38)).alloc (.cells #[.int .i64 t] 3)) :
  Below w.heap.size w W∧Ca W B r v es∧Blk W w.heap.size 31 #[.string ⟨p.1.toArray⟩,.string ⟨p.2.toArray⟩]∧Blk W (w.heap.size+1) 38 xs∧W.cell? ⟨w.heap.size+2,0,none⟩=some (.int .i64 t)∧(∀k,w.heap.size≤k→v.ownBlock≠some k)∧(∀k,w.heap.size≤k→k≠r):=by
 have hb:Below w.heap.size w W:=eW▸(((Below.refl _ _).alloc (Nat.le_refl _) _).alloc (by simp) _).alloc (by simp;omega) _
 refine⟨hb,h.below hb,eW▸((Blk.new w _ _).alloc _).alloc _,?_,?_,fun k hk x=>?_,fun k hk x=>?_⟩
 ·have:=Blk.new (w.alloc (.cells #[.string ⟨p.1.toArray⟩,.string ⟨p.2.toArray⟩] 31)) 38 xs
  simp only[World.size_alloc] at this
  exact eW▸this.alloc _
 ·have:=Blk.new ((w.alloc (.cells #[.string ⟨p.1.toArray⟩,.string ⟨p.2.toArray⟩] 31)).alloc (.cells xs 38)) 3 #[.int .i64 t]
  simp only[World.size_alloc] at this
  rw[eW]
  exact this.cell 0
 ·have:=(World.ownsRow.lt h.row _ x).2;omega
 ·have:=h.lt;omega
set_option maxRecDepth 100000 in
set_option maxHeartbeats 3200000 in
theorem put_ok (B r:Nat) (v:Value) (es:List En) (p:Pr) (x:Cr) (A:Option Addr) (c:Nat) (t:Int) (w:World) (h:Ca w B r v es) (hxp:∀w',Chg (PT r v) w w'→Rd w' w'.heap.size A (bvs x.b)) (h1:p.1.length≤140737488351232) (h2:p.2.length≤140737488351232) (h3:x.s.1.length≤140737488351232) (h4:x.s.2.length≤140737488351232) (h5:x.b.length≤100000000000)
  (hl:es.length≤1000) (hlt:(restE p t es).length<10) :
  Calls Try.prog 11 #[.pointer (some ⟨r,0,none⟩),prV p,.agg (crA x A c),.int .i64 t] w fun e w'=>e = .returned (.int .i64 0)∧∃v' A' c',Ca w' B r v' (restE p t es++[⟨p,x,A',c'⟩])∧Chg (PT r v) w w'∧(∀q,CO r v' (restE p t es++[⟨p,x,A',c'⟩]) q→CO r v es q∨w.heap.size≤q):=by
 obtain⟨A0,c0,rfl,_,_,_⟩:=h.num
 obtain⟨n,en⟩:∃n,n=es.length:=⟨_,rfl⟩
 obtain⟨v,ev⟩:∃v,v=Value.slice A0 es.length c0:=⟨_,rfl⟩
 rw[←ev] at h hxp⊢
 have EV:=Lib.hid ev
 have CP:=Lib.hid (fun w1=>clone_cp p w1 h1 h2)
 have CX:=Lib.hid (fun(w1:World) (h:Rd w1 w1.heap.size A (bvs x.b))=>ccr_any x A c w1.heap.size w1 h (Nat.le_refl _) h3 h4 h5)
 obtain⟨xs,exs⟩:∃xs,xs=crA x A c:=⟨_,rfl⟩
 rw[←exs] at CX⊢
 have HXI:=Lib.hid (show(Try.prog.info? 38).map (·.size)=some xs.size by rw[exs,crA_size];exact cr_info)
 obtain⟨W,eW⟩:∃W,W=((w.alloc (.cells #[.string ⟨p.1.toArray⟩,.string ⟨p.2.toArray⟩] 31)).alloc (.cells xs 38)).alloc (.cells #[.int .i64 t] 3):=⟨_,rfl⟩
 obtain⟨hb,hca,hp,hxx,ht,hvo,hro⟩:=put_begin B r v es p xs t w W h eW
 have CD:=delf_any es p t (w.heap.size+2) w.heap.size B v W hca.row hca.big ht hp (hvo _ (by omega)) (hvo _ (Nat.le_refl _)) hl
 have HVO:=Lib.hid hvo;have HRO:=Lib.hid hro
 obtain⟨es1,ees⟩:∃es1,es1=restE p t es:=⟨_,rfl⟩
 have EES:=Lib.hid ees
 rw[←ees] at CD hlt⊢
 have HW:=Lib.hid h;have HCW:=Lib.hid hca
 have HBW:=Lib.hid hb
 have HP0:=Lib.hid hp;have HX0:=Lib.hid hxx
 have HXP:=Lib.hid hxp
 have HL:=Lib.hid hlt
 have k0:W.cell? ⟨r,0,none⟩=some (.slice A0 n c0):=by rw[en,←ev];exact hca.blk.cell 0
 have ev2:v = .slice A0 n c0:=by rw[ev,en]
 rw[ev2] at CD
 rw[←ev2] at CD
 have HVN:=Lib.hid ev2
 obtain⟨iE,hiE,hzE,hsE,hbE⟩:=info_parts en_all
 have KI1:=Lib.hid hiE;have KI2:=Lib.hid hzE;have KI3:=Lib.hid hsE;have KI4:=Lib.hid hbE
 have SL1:=Lib.hid (fun(w1:World) (A':Option Addr) (c':Nat)=>Wh.run_build_one (P:=Try.prog) w1 55 60 (enA ⟨p,x,A',c'⟩) iE _ Try.underlying55 hiE hzE (by rw[hsE,enA_size]) (by rw[enA_size];omega) (by rw[enA_size];omega))
 rw[ev2] at CD
 clear hb hca hp hxx ht hvo hro h hxp h1 h2 h3 h4 h5 hl hlt exs en ev ev2 ees hiE hzE hsE hbE
 go_enter Try.func11,Try.ntmps11
 go_upto_region 1 with fail
 rw[←eW]
 clear eW
 go_upto_region 4 with(first
  |(go_at_call 19;refine Calls.mono CD ?_;rintro e w2 ⟨v1,rfl,ho,hg,hv⟩;obtain⟨A1,c1,rfl,_⟩:=own_rdr enC_length ho;rw[←HVN.out] at hg hv;have HG:=Lib.hid hg;have HV:=Lib.hid hv;have HO:=Lib.hid ho;clear hg hv ho CD k0;have hr2:=HCW.out.blk.grown HG.out HCW.out.vr;have f0:=hr2.frozen 0;have k0:w2.cell? ⟨r,0,none⟩=some v:=hr2.cell 0;clear hr2)
  |fail)
 obtain⟨m,em⟩:∃m,m=es1.length:=⟨_,rfl⟩
 rw[←em] at HO HV⊢
 have hq:=ca_rest (p:=p) (t:=t) HCW.out HG.out (by rw[←EES.out,←em];exact HO.out) HV.out
 rw[←EES.out] at hq
 obtain⟨hca,hcg,hnw⟩:=hq
 have HNP:=Lib.hid (show ¬((Value.slice A1 m c1).ownBlock=some w.heap.size∨(Value.slice A1 m c1).ownBlock=some (w.heap.size+1)) from fun x=>by
  rw[HV.out] at x
  rcases x with x | x
  ·exact HVO.out _ (Nat.le_refl _) x
  ·exact HVO.out _ (by omega) x)
 have HNR:=Lib.hid (show r≠w.heap.size∧r≠w.heap.size+1 from⟨fun x=>HRO.out _ (Nat.le_refl _) x.symm,fun x=>HRO.out _ (by omega) x.symm⟩)
 have hnp:∀k,w.heap.size≤k→¬PT r v k:=fun k hk x=>by
  rcases x with x | x
  ·exact HRO.out k hk x
  ·exact HVO.out k hk x
 obtain⟨W3,eW3⟩:∃W3,W3=w2.setCell ⟨r,0,none⟩ (.slice A1 m c1):=⟨_,rfl⟩
 rw[←eW3] at hca hcg
 have HP3:=Lib.hid (hcg.blk HP0.out (hnp _ (Nat.le_refl _)))
 have HX3:=Lib.hid (hcg.blk HX0.out (hnp _ (by omega)))
 have HCG:=Lib.hid ((Chg.of_below HBW.out).trans hcg (fun q _ x=>x):Chg (PT r v) w W3)
 have HR3:=Lib.hid (HXP.out W3 HCG.out)
 have HNW:=Lib.hid (fun(q:Nat) (hq:CO r (.slice A1 m c1) es1 q)=>(.inl (hnw q hq):CO r v es q∨w.heap.size≤q))
 have HWC:=Lib.hid hca
 have HV1:=Lib.hid HV.out
 have t2:decide ((10:Int)≤(m:Int))=false:=by simp;have:=HL.out;omega
 have k1:W3.cell? ⟨r,0,none⟩=some (.slice A1 m c1):=hca.blk.cell 0
 have EM:=Lib.hid em
 rw[←eW3]
 clear hca hcg hnw hnp HP0 HX0 HXP HG HV HO em eW3 f0 k0 HCW HVO HRO
 go_upto_region 6 with fail
 clear k1
 have hdr:Below W3.heap.size W3 W3.drew:=below_drewN (Below.refl _ _) 1
 have HB:=Lib.hid hdr
 have HCA:=Lib.hid (HWC.out.below hdr)
 have HP:=Lib.hid (HP3.out.below hdr)
 have HX:=Lib.hid (HX3.out.below hdr)
 have HR:=Lib.hid ((HR3.out.below hdr).more hdr.size)
 obtain⟨N,eN⟩:∃N,N=w.heap.size:=⟨_,rfl⟩
 rw[←eN] at HP HX HNP HNR⊢
 clear hdr eN HP3 HX3 HR3
 refine Reg.any_begin (fun w'=>Blk w' N 31 #[.string ⟨p.1.toArray⟩,.string ⟨p.2.toArray⟩]∧Blk w' (N+1) 38 xs) 15 rfl (by kernel_rfl) ⟨HP.out,HX.out⟩ ?_
 refine Reg.tk 0 (v:=?vq1) rfl ⟨HP.out,HX.out⟩ (fun w' hS=>?hq1) ?rq1
 case hq1=>go_simp<;>rfl
 simp only[Act.put,Reg.s0,Reg.s1,Reg.s2]
 refine Reg.tk 1 (v:=?vq2) rfl ⟨HP.out,HX.out⟩ (fun w' hS=>?hq2) ?rq2
 case hq2=>go_simp<;>rfl
 simp only[Act.put,Reg.s0,Reg.s1,Reg.s2]
 refine Reg.tk 2 (v:=?vq3) rfl ⟨HP.out,HX.out⟩ (fun w' hS=>?hq3) ?rq3
 case hq3=>go_simp<;>rfl
 simp only[Act.put,Reg.s0,Reg.s1,Reg.s2]
 refine Reg.tk 3 (v:=?vq4) rfl ⟨HP.out,HX.out⟩ (fun w' hS=>?hq4) ?rq4
 case hq4=>go_simp<;>rfl
 simp only[Act.put,Reg.s0,Reg.s1,Reg.s2]
 refine Reg.tk 5 (v:=.agg #[.string ⟨p.1.toArray⟩,.string ⟨p.2.toArray⟩]) rfl ⟨HP.out,HX.out⟩ (fun w' hS=>?hq5) ?rq5
 case hq5=>exact Wh.exec_load (.tmp 5) rfl rfl hS.1 Try.underlying31 rfl pr_info
 simp only[Act.put,Reg.s0,Reg.s1,Reg.s2]
 refine Reg.tk 7 (v:=.agg xs) rfl ⟨HP.out,HX.out⟩ (fun w' hS=>?hq6) ?rq6
 case hq6=>exact Wh.exec_load (.tmp 6) rfl rfl hS.2 Try.underlying38 rfl HXI.out
 simp only[Act.put,Reg.s0,Reg.s1,Reg.s2]
 refine Reg.both_all [4,6] (by kernel_rfl) (by simp) ?_
 intro j0 hj0
 have hj0:j0=4∨j0=6:=by simpa using hj0
 rcases hj0 with rfl | rfl
 ·left
  have kr:W3.drew.cell? ⟨r,0,none⟩=some (.slice A1 m c1):=HCA.out.blk.cell 0
  refine⟨_,_,_,_,_,_,_,_,rfl,by rfl,by(go_simp;rfl),⟨HP.out,HX.out⟩,?_⟩
  simp only[Act.put,Reg.s0,Reg.s1,Reg.s2]
  clear kr
  refine Reg.both_all [6] (by kernel_rfl) (by simp) ?_
  intro j0 hj0
  obtain rfl:j0=6:=by simpa using hj0
  clear hj0
  right
  refine⟨_,_,_,_,_,_,21,#[prV p],rfl,by rfl,by go_simp,?_⟩
  refine(CP.out _).mono ?_
  rintro e waq7 ⟨rfl,hb⟩
  replace HB:=Lib.hid (HB.out.trans (hb.mono HB.out.size))
  replace HCA:=Lib.hid (HCA.out.below hb)
  replace HP:=Lib.hid (HP.out.below hb)
  replace HX:=Lib.hid (HX.out.below hb)
  replace HR:=Lib.hid ((HR.out.below hb).more hb.size)
  clear hb
  refine⟨_,rfl,⟨HP.out,HX.out⟩,?_⟩
  simp only[Act.put,Reg.s0,Reg.s1,Reg.s2]
  refine Reg.both_all [8] (by kernel_rfl) (by simp) ?_
  intro j0 hj0
  obtain rfl:j0=8:=by simpa using hj0
  clear hj0
  right
  refine⟨_,_,_,_,_,_,22,#[.agg xs],rfl,by rfl,by go_simp,?_⟩
  refine(CX.out _ HR.out).mono ?_
  rintro e wbq8 ⟨A',c',rfl,ho,hb⟩
  have HOW:=Lib.hid (ho.since HB.out.size)
  replace HB:=Lib.hid (HB.out.trans (hb.mono HB.out.size))
  replace HCA:=Lib.hid (HCA.out.below hb)
  replace HP:=Lib.hid (HP.out.below hb)
  replace HX:=Lib.hid (HX.out.below hb)
  clear hb ho
  refine⟨_,rfl,⟨HP.out,HX.out⟩,?_⟩
  simp only[Act.put,Reg.s0,Reg.s1,Reg.s2]
  refine Reg.tk 9 (v:=.agg (enA (⟨p,x,A',c'⟩:En))) rfl ⟨HP.out,HX.out⟩ (fun w' hS=>?hq9) ?rq9
  case hq9=>exact Rg.exec_build (by go_simp) (built_en p x A' c')
  simp only[Act.put,Reg.s0,Reg.s1,Reg.s2]
  refine Reg.both_all [10] (by kernel_rfl) (by simp) ?_
  intro j0 hj0
  obtain rfl:j0=10:=by simpa using hj0
  clear hj0
  left
  have hb:Below wbq8.heap.size wbq8 (wbq8.alloc (.cells (enA (⟨p,x,A',c'⟩:En)) 60)):=(Below.refl _ _).alloc (Nat.le_refl _) _
  refine⟨_,_,_,_,_,_,.slice (some ⟨wbq8.heap.size,0,none⟩) 1 1,(wbq8.alloc (.cells (enA (⟨p,x,A',c'⟩:En)) 60)),rfl,by rfl,Rg.exec_slice rfl (SL1.out _ A' c'),⟨HP.out.below hb,HX.out.below hb⟩,?_⟩
  simp only[Act.put,Reg.s0,Reg.s1,Reg.s2]
  have HNB:=Lib.hid (Blk.new wbq8 60 (enA (⟨p,x,A',c'⟩:En)))
  replace HOW:=Lib.hid (HOW.out.below hb)
  replace HB:=Lib.hid (HB.out.trans (hb.mono HB.out.size))
  replace HCA:=Lib.hid (HCA.out.below hb)
  replace HP:=Lib.hid (HP.out.below hb)
  replace HX:=Lib.hid (HX.out.below hb)
  clear hb
  obtain⟨Wq10,eWq10⟩:∃z,z=(wbq8.alloc (.cells (enA (⟨p,x,A',c'⟩:En)) 60)):=⟨_,rfl⟩
  rw[←eWq10] at HNB HOW HB HCA HP HX⊢
  clear eWq10
  refine Reg.both_all [11] (by kernel_rfl) (by simp) ?_
  intro j0 hj0
  obtain rfl:j0=11:=by simpa using hj0
  clear hj0
  left
  obtain⟨v6,w6,hrun,ho6,hg6,hv6⟩:=Wh.app_run (P:=Try.prog) enC 39 136 enC_length enC_one Wq10 55 55 60 iE _ Try.underlying55 KI1.out KI2.out KI3.out KI4.out (enA_size _) (by omega) B _ es1 HCA.out.row (⟨p,x,A',c'⟩:En) wbq8.heap.size HNB.out (by have:=EM.out;have:=HL.out;omega) (by omega) HCA.out.big
  have hfin:=ca_put HWC.out HB.out HCA.out HOW.out ho6 hg6 hv6 (w0:=W3)
  have hr6:=HCA.out.blk.grown hg6 HCA.out.vr
  replace HP:=Lib.hid (HP.out.grown hg6 (fun x=>HNP.out (Or.inl x)))
  replace HX:=Lib.hid (HX.out.grown hg6 (fun x=>HNP.out (Or.inr x)))
  refine⟨_,_,_,_,_,_,v6,w6,rfl,by rfl,Rg.exec_app rfl rfl hrun,⟨HP.out,HX.out⟩,?_⟩
  simp only[Act.put,Reg.s0,Reg.s1,Reg.s2]
  refine Reg.tk 12 (v:=?vq11) rfl ⟨HP.out,HX.out⟩ (fun w' hS=>?hq11) ?rq11
  case hq11=>go_simp<;>rfl
  simp only[Act.put,Reg.s0,Reg.s1,Reg.s2]
  refine Reg.tk 13 (v:=?vq12) rfl ⟨HP.out,HX.out⟩ (fun w' hS=>?hq12) ?rq12
  case hq12=>go_simp<;>rfl
  simp only[Act.put,Reg.s0,Reg.s1,Reg.s2]
  obtain⟨A7,c7,e7,_⟩:=own_rdr enC_length ho6
  obtain⟨m7,em7⟩:∃m7,m7=(es1++[(⟨p,x,A',c'⟩:En)]).length:=⟨_,rfl⟩
  rw[←em7] at e7
  subst e7
  have f0:=hr6.frozen 0
  have k6:w6.cell? ⟨r,0,none⟩=some _:=hr6.cell 0
  refine Reg.any_store 14 (w6.setCell ⟨r,0,none⟩ (.slice A7 m7 c7)) rfl (by kernel_rfl) (by rfl) (by go_simp) ⟨Si.Blk.far HP.out _ _ HNR.out.1,Si.Blk.far HX.out _ _ HNR.out.2⟩ ?_
  simp only[Act.put,Reg.s0,Reg.s1,Reg.s2]
  clear f0 k6 hr6 ho6 hg6 hv6 hrun em7 HP HX HCA HNB HOW HB
  refine wpAnyH_done (by kernel_rfl) ?_ _
  have HFIN:=Lib.hid hfin
  clear hfin
  go_wp2
  go_ret
  exact⟨rfl,_,A',c',HFIN.out.1,HCG.out.trans HFIN.out.2.1 (fun q _ hq=>hq.imp id (fun z=>HV1.out.symm.trans z)),fun q hq=>by
  rcases HFIN.out.2.2 q hq with k | k
  ·exact HNW.out q k
  ·exact .inr (Nat.le_trans HCG.out.size k)⟩
 ·right
  refine⟨_,_,_,_,_,_,21,#[prV p],rfl,by rfl,by go_simp,?_⟩
  refine(CP.out _).mono ?_
  rintro e waq13 ⟨rfl,hb⟩
  replace HB:=Lib.hid (HB.out.trans (hb.mono HB.out.size))
  replace HCA:=Lib.hid (HCA.out.below hb)
  replace HP:=Lib.hid (HP.out.below hb)
  replace HX:=Lib.hid (HX.out.below hb)
  replace HR:=Lib.hid ((HR.out.below hb).more hb.size)
  clear hb
  refine⟨_,rfl,⟨HP.out,HX.out⟩,?_⟩
  simp only[Act.put,Reg.s0,Reg.s1,Reg.s2]
  refine Reg.both_all [4,8] (by kernel_rfl) (by simp) ?_
  intro j0 hj0
  have hj0:j0=4∨j0=8:=by simpa using hj0
  rcases hj0 with rfl | rfl
  ·left
   have kr:waq13.cell? ⟨r,0,none⟩=some (.slice A1 m c1):=HCA.out.blk.cell 0
   refine⟨_,_,_,_,_,_,_,_,rfl,by rfl,by(go_simp;rfl),⟨HP.out,HX.out⟩,?_⟩
   simp only[Act.put,Reg.s0,Reg.s1,Reg.s2]
   clear kr
   refine Reg.both_all [8] (by kernel_rfl) (by simp) ?_
   intro j0 hj0
   obtain rfl:j0=8:=by simpa using hj0
   clear hj0
   right
   refine⟨_,_,_,_,_,_,22,#[.agg xs],rfl,by rfl,by go_simp,?_⟩
   refine(CX.out _ HR.out).mono ?_
   rintro e wbq14 ⟨A',c',rfl,ho,hb⟩
   have HOW:=Lib.hid (ho.since HB.out.size)
   replace HB:=Lib.hid (HB.out.trans (hb.mono HB.out.size))
   replace HCA:=Lib.hid (HCA.out.below hb)
   replace HP:=Lib.hid (HP.out.below hb)
   replace HX:=Lib.hid (HX.out.below hb)
   clear hb ho
   refine⟨_,rfl,⟨HP.out,HX.out⟩,?_⟩
   simp only[Act.put,Reg.s0,Reg.s1,Reg.s2]
   refine Reg.tk 9 (v:=.agg (enA (⟨p,x,A',c'⟩:En))) rfl ⟨HP.out,HX.out⟩ (fun w' hS=>?hq15) ?rq15
   case hq15=>exact Rg.exec_build (by go_simp) (built_en p x A' c')
   simp only[Act.put,Reg.s0,Reg.s1,Reg.s2]
   refine Reg.both_all [10] (by kernel_rfl) (by simp) ?_
   intro j0 hj0
   obtain rfl:j0=10:=by simpa using hj0
   clear hj0
   left
   have hb:Below wbq14.heap.size wbq14 (wbq14.alloc (.cells (enA (⟨p,x,A',c'⟩:En)) 60)):=(Below.refl _ _).alloc (Nat.le_refl _) _
   refine⟨_,_,_,_,_,_,.slice (some ⟨wbq14.heap.size,0,none⟩) 1 1,(wbq14.alloc (.cells (enA (⟨p,x,A',c'⟩:En)) 60)),rfl,by rfl,Rg.exec_slice rfl (SL1.out _ A' c'),⟨HP.out.below hb,HX.out.below hb⟩,?_⟩
   simp only[Act.put,Reg.s0,Reg.s1,Reg.s2]
   have HNB:=Lib.hid (Blk.new wbq14 60 (enA (⟨p,x,A',c'⟩:En)))
   replace HOW:=Lib.hid (HOW.out.below hb)
   replace HB:=Lib.hid (HB.out.trans (hb.mono HB.out.size))
   replace HCA:=Lib.hid (HCA.out.below hb)
   replace HP:=Lib.hid (HP.out.below hb)
   replace HX:=Lib.hid (HX.out.below hb)
   clear hb
   obtain⟨Wq16,eWq16⟩:∃z,z=(wbq14.alloc (.cells (enA (⟨p,x,A',c'⟩:En)) 60)):=⟨_,rfl⟩
   rw[←eWq16] at HNB HOW HB HCA HP HX⊢
   clear eWq16
   refine Reg.both_all [11] (by kernel_rfl) (by simp) ?_
   intro j0 hj0
   obtain rfl:j0=11:=by simpa using hj0
   clear hj0
   left
   obtain⟨v6,w6,hrun,ho6,hg6,hv6⟩:=Wh.app_run (P:=Try.prog) enC 39 136 enC_length enC_one Wq16 55 55 60 iE _ Try.underlying55 KI1.out KI2.out KI3.out KI4.out (enA_size _) (by omega) B _ es1 HCA.out.row (⟨p,x,A',c'⟩:En) wbq14.heap.size HNB.out (by have:=EM.out;have:=HL.out;omega) (by omega) HCA.out.big
   have hfin:=ca_put HWC.out HB.out HCA.out HOW.out ho6 hg6 hv6 (w0:=W3)
   have hr6:=HCA.out.blk.grown hg6 HCA.out.vr
   replace HP:=Lib.hid (HP.out.grown hg6 (fun x=>HNP.out (Or.inl x)))
   replace HX:=Lib.hid (HX.out.grown hg6 (fun x=>HNP.out (Or.inr x)))
   refine⟨_,_,_,_,_,_,v6,w6,rfl,by rfl,Rg.exec_app rfl rfl hrun,⟨HP.out,HX.out⟩,?_⟩
   simp only[Act.put,Reg.s0,Reg.s1,Reg.s2]
   refine Reg.tk 12 (v:=?vq17) rfl ⟨HP.out,HX.out⟩ (fun w' hS=>?hq17) ?rq17
   case hq17=>go_simp<;>rfl
   simp only[Act.put,Reg.s0,Reg.s1,Reg.s2]
   refine Reg.tk 13 (v:=?vq18) rfl ⟨HP.out,HX.out⟩ (fun w' hS=>?hq18) ?rq18
   case hq18=>go_simp<;>rfl
   simp only[Act.put,Reg.s0,Reg.s1,Reg.s2]
   obtain⟨A7,c7,e7,_⟩:=own_rdr enC_length ho6
   obtain⟨m7,em7⟩:∃m7,m7=(es1++[(⟨p,x,A',c'⟩:En)]).length:=⟨_,rfl⟩
   rw[←em7] at e7
   subst e7
   have f0:=hr6.frozen 0
   have k6:w6.cell? ⟨r,0,none⟩=some _:=hr6.cell 0
   refine Reg.any_store 14 (w6.setCell ⟨r,0,none⟩ (.slice A7 m7 c7)) rfl (by kernel_rfl) (by rfl) (by go_simp) ⟨Si.Blk.far HP.out _ _ HNR.out.1,Si.Blk.far HX.out _ _ HNR.out.2⟩ ?_
   simp only[Act.put,Reg.s0,Reg.s1,Reg.s2]
   clear f0 k6 hr6 ho6 hg6 hv6 hrun em7 HP HX HCA HNB HOW HB
   refine wpAnyH_done (by kernel_rfl) ?_ _
   have HFIN:=Lib.hid hfin
   clear hfin
   go_wp2
   go_ret
   exact⟨rfl,_,A',c',HFIN.out.1,HCG.out.trans HFIN.out.2.1 (fun q _ hq=>hq.imp id (fun z=>HV1.out.symm.trans z)),fun q hq=>by
  rcases HFIN.out.2.2 q hq with k | k
  ·exact HNW.out q k
  ·exact .inr (Nat.le_trans HCG.out.size k)⟩
  ·right
   refine⟨_,_,_,_,_,_,22,#[.agg xs],rfl,by rfl,by go_simp,?_⟩
   refine(CX.out _ HR.out).mono ?_
   rintro e wbq19 ⟨A',c',rfl,ho,hb⟩
   have HOW:=Lib.hid (ho.since HB.out.size)
   replace HB:=Lib.hid (HB.out.trans (hb.mono HB.out.size))
   replace HCA:=Lib.hid (HCA.out.below hb)
   replace HP:=Lib.hid (HP.out.below hb)
   replace HX:=Lib.hid (HX.out.below hb)
   clear hb ho
   refine⟨_,rfl,⟨HP.out,HX.out⟩,?_⟩
   simp only[Act.put,Reg.s0,Reg.s1,Reg.s2]
   refine Reg.tk 9 (v:=.agg (enA (⟨p,x,A',c'⟩:En))) rfl ⟨HP.out,HX.out⟩ (fun w' hS=>?hq20) ?rq20
   case hq20=>exact Rg.exec_build (by go_simp) (built_en p x A' c')
   simp only[Act.put,Reg.s0,Reg.s1,Reg.s2]
   refine Reg.both_all [4,10] (by kernel_rfl) (by simp) ?_
   intro j0 hj0
   have hj0:j0=4∨j0=10:=by simpa using hj0
   rcases hj0 with rfl | rfl
   ·left
    have kr:wbq19.cell? ⟨r,0,none⟩=some (.slice A1 m c1):=HCA.out.blk.cell 0
    refine⟨_,_,_,_,_,_,_,_,rfl,by rfl,by(go_simp;rfl),⟨HP.out,HX.out⟩,?_⟩
    simp only[Act.put,Reg.s0,Reg.s1,Reg.s2]
    clear kr
    refine Reg.both_all [10] (by kernel_rfl) (by simp) ?_
    intro j0 hj0
    obtain rfl:j0=10:=by simpa using hj0
    clear hj0
    left
    have hb:Below wbq19.heap.size wbq19 (wbq19.alloc (.cells (enA (⟨p,x,A',c'⟩:En)) 60)):=(Below.refl _ _).alloc (Nat.le_refl _) _
    refine⟨_,_,_,_,_,_,.slice (some ⟨wbq19.heap.size,0,none⟩) 1 1,(wbq19.alloc (.cells (enA (⟨p,x,A',c'⟩:En)) 60)),rfl,by rfl,Rg.exec_slice rfl (SL1.out _ A' c'),⟨HP.out.below hb,HX.out.below hb⟩,?_⟩
    simp only[Act.put,Reg.s0,Reg.s1,Reg.s2]
    have HNB:=Lib.hid (Blk.new wbq19 60 (enA (⟨p,x,A',c'⟩:En)))
    replace HOW:=Lib.hid (HOW.out.below hb)
    replace HB:=Lib.hid (HB.out.trans (hb.mono HB.out.size))
    replace HCA:=Lib.hid (HCA.out.below hb)
    replace HP:=Lib.hid (HP.out.below hb)
    replace HX:=Lib.hid (HX.out.below hb)
    clear hb
    obtain⟨Wq21,eWq21⟩:∃z,z=(wbq19.alloc (.cells (enA (⟨p,x,A',c'⟩:En)) 60)):=⟨_,rfl⟩
    rw[←eWq21] at HNB HOW HB HCA HP HX⊢
    clear eWq21
    refine Reg.both_all [11] (by kernel_rfl) (by simp) ?_
    intro j0 hj0
    obtain rfl:j0=11:=by simpa using hj0
    clear hj0
    left
    obtain⟨v6,w6,hrun,ho6,hg6,hv6⟩:=Wh.app_run (P:=Try.prog) enC 39 136 enC_length enC_one Wq21 55 55 60 iE _ Try.underlying55 KI1.out KI2.out KI3.out KI4.out (enA_size _) (by omega) B _ es1 HCA.out.row (⟨p,x,A',c'⟩:En) wbq19.heap.size HNB.out (by have:=EM.out;have:=HL.out;omega) (by omega) HCA.out.big
    have hfin:=ca_put HWC.out HB.out HCA.out HOW.out ho6 hg6 hv6 (w0:=W3)
    have hr6:=HCA.out.blk.grown hg6 HCA.out.vr
    replace HP:=Lib.hid (HP.out.grown hg6 (fun x=>HNP.out (Or.inl x)))
    replace HX:=Lib.hid (HX.out.grown hg6 (fun x=>HNP.out (Or.inr x)))
    refine⟨_,_,_,_,_,_,v6,w6,rfl,by rfl,Rg.exec_app rfl rfl hrun,⟨HP.out,HX.out⟩,?_⟩
    simp only[Act.put,Reg.s0,Reg.s1,Reg.s2]
    refine Reg.tk 12 (v:=?vq22) rfl ⟨HP.out,HX.out⟩ (fun w' hS=>?hq22) ?rq22
    case hq22=>go_simp<;>rfl
    simp only[Act.put,Reg.s0,Reg.s1,Reg.s2]
    refine Reg.tk 13 (v:=?vq23) rfl ⟨HP.out,HX.out⟩ (fun w' hS=>?hq23) ?rq23
    case hq23=>go_simp<;>rfl
    simp only[Act.put,Reg.s0,Reg.s1,Reg.s2]
    obtain⟨A7,c7,e7,_⟩:=own_rdr enC_length ho6
    obtain⟨m7,em7⟩:∃m7,m7=(es1++[(⟨p,x,A',c'⟩:En)]).length:=⟨_,rfl⟩
    rw[←em7] at e7
    subst e7
    have f0:=hr6.frozen 0
    have k6:w6.cell? ⟨r,0,none⟩=some _:=hr6.cell 0
    refine Reg.any_store 14 (w6.setCell ⟨r,0,none⟩ (.slice A7 m7 c7)) rfl (by kernel_rfl) (by rfl) (by go_simp) ⟨Si.Blk.far HP.out _ _ HNR.out.1,Si.Blk.far HX.out _ _ HNR.out.2⟩ ?_
    simp only[Act.put,Reg.s0,Reg.s1,Reg.s2]
    clear f0 k6 hr6 ho6 hg6 hv6 hrun em7 HP HX HCA HNB HOW HB
    refine wpAnyH_done (by kernel_rfl) ?_ _
    have HFIN:=Lib.hid hfin
    clear hfin
    go_wp2
    go_ret
    exact⟨rfl,_,A',c',HFIN.out.1,HCG.out.trans HFIN.out.2.1 (fun q _ hq=>hq.imp id (fun z=>HV1.out.symm.trans z)),fun q hq=>by
  rcases HFIN.out.2.2 q hq with k | k
  ·exact HNW.out q k
  ·exact .inr (Nat.le_trans HCG.out.size k)⟩
   ·left
    have hb:Below wbq19.heap.size wbq19 (wbq19.alloc (.cells (enA (⟨p,x,A',c'⟩:En)) 60)):=(Below.refl _ _).alloc (Nat.le_refl _) _
    refine⟨_,_,_,_,_,_,.slice (some ⟨wbq19.heap.size,0,none⟩) 1 1,(wbq19.alloc (.cells (enA (⟨p,x,A',c'⟩:En)) 60)),rfl,by rfl,Rg.exec_slice rfl (SL1.out _ A' c'),⟨HP.out.below hb,HX.out.below hb⟩,?_⟩
    simp only[Act.put,Reg.s0,Reg.s1,Reg.s2]
    have HNB:=Lib.hid (Blk.new wbq19 60 (enA (⟨p,x,A',c'⟩:En)))
    replace HOW:=Lib.hid (HOW.out.below hb)
    replace HB:=Lib.hid (HB.out.trans (hb.mono HB.out.size))
    replace HCA:=Lib.hid (HCA.out.below hb)
    replace HP:=Lib.hid (HP.out.below hb)
    replace HX:=Lib.hid (HX.out.below hb)
    clear hb
    obtain⟨Wq24,eWq24⟩:∃z,z=(wbq19.alloc (.cells (enA (⟨p,x,A',c'⟩:En)) 60)):=⟨_,rfl⟩
    rw[←eWq24] at HNB HOW HB HCA HP HX⊢
    clear eWq24
    refine Reg.both_all [4] (by kernel_rfl) (by simp) ?_
    intro j0 hj0
    obtain rfl:j0=4:=by simpa using hj0
    clear hj0
    left
    have kr:Wq24.cell? ⟨r,0,none⟩=some (.slice A1 m c1):=HCA.out.blk.cell 0
    refine⟨_,_,_,_,_,_,_,_,rfl,by rfl,by(go_simp;rfl),⟨HP.out,HX.out⟩,?_⟩
    simp only[Act.put,Reg.s0,Reg.s1,Reg.s2]
    clear kr
    refine Reg.both_all [11] (by kernel_rfl) (by simp) ?_
    intro j0 hj0
    obtain rfl:j0=11:=by simpa using hj0
    clear hj0
    left
    obtain⟨v6,w6,hrun,ho6,hg6,hv6⟩:=Wh.app_run (P:=Try.prog) enC 39 136 enC_length enC_one Wq24 55 55 60 iE _ Try.underlying55 KI1.out KI2.out KI3.out KI4.out (enA_size _) (by omega) B _ es1 HCA.out.row (⟨p,x,A',c'⟩:En) wbq19.heap.size HNB.out (by have:=EM.out;have:=HL.out;omega) (by omega) HCA.out.big
    have hfin:=ca_put HWC.out HB.out HCA.out HOW.out ho6 hg6 hv6 (w0:=W3)
    have hr6:=HCA.out.blk.grown hg6 HCA.out.vr
    replace HP:=Lib.hid (HP.out.grown hg6 (fun x=>HNP.out (Or.inl x)))
    replace HX:=Lib.hid (HX.out.grown hg6 (fun x=>HNP.out (Or.inr x)))
    refine⟨_,_,_,_,_,_,v6,w6,rfl,by rfl,Rg.exec_app rfl rfl hrun,⟨HP.out,HX.out⟩,?_⟩
    simp only[Act.put,Reg.s0,Reg.s1,Reg.s2]
    refine Reg.tk 12 (v:=?vq25) rfl ⟨HP.out,HX.out⟩ (fun w' hS=>?hq25) ?rq25
    case hq25=>go_simp<;>rfl
    simp only[Act.put,Reg.s0,Reg.s1,Reg.s2]
    refine Reg.tk 13 (v:=?vq26) rfl ⟨HP.out,HX.out⟩ (fun w' hS=>?hq26) ?rq26
    case hq26=>go_simp<;>rfl
    simp only[Act.put,Reg.s0,Reg.s1,Reg.s2]
    obtain⟨A7,c7,e7,_⟩:=own_rdr enC_length ho6
    obtain⟨m7,em7⟩:∃m7,m7=(es1++[(⟨p,x,A',c'⟩:En)]).length:=⟨_,rfl⟩
    rw[←em7] at e7
    subst e7
    have f0:=hr6.frozen 0
    have k6:w6.cell? ⟨r,0,none⟩=some _:=hr6.cell 0
    refine Reg.any_store 14 (w6.setCell ⟨r,0,none⟩ (.slice A7 m7 c7)) rfl (by kernel_rfl) (by rfl) (by go_simp) ⟨Si.Blk.far HP.out _ _ HNR.out.1,Si.Blk.far HX.out _ _ HNR.out.2⟩ ?_
    simp only[Act.put,Reg.s0,Reg.s1,Reg.s2]
    clear f0 k6 hr6 ho6 hg6 hv6 hrun em7 HP HX HCA HNB HOW HB
    refine wpAnyH_done (by kernel_rfl) ?_ _
    have HFIN:=Lib.hid hfin
    clear hfin
    go_wp2
    go_ret
    exact⟨rfl,_,A',c',HFIN.out.1,HCG.out.trans HFIN.out.2.1 (fun q _ hq=>hq.imp id (fun z=>HV1.out.symm.trans z)),fun q hq=>by
  rcases HFIN.out.2.2 q hq with k | k
  ·exact HNW.out q k
  ·exact .inr (Nat.le_trans HCG.out.size k)⟩
set_option maxRecDepth 100000 in
set_option maxHeartbeats 3200000 in
theorem put_full (B r:Nat) (v:Value) (es:List En) (p:Pr) (x:Cr) (A:Option Addr) (c:Nat) (t:Int) (w:World) (h:Ca w B r v es) (hxp:∀w',Chg (PT r v) w w'→Rd w' w'.heap.size A (bvs x.b)) (h1:p.1.length≤140737488351232) (h2:p.2.length≤140737488351232) (h3:x.s.1.length≤140737488351232) (h4:x.s.2.length≤140737488351232) (h5:x.b.length≤100000000000)
  (hl:es.length≤1000) (hlt:10≤(restE p t es).length) :
  Calls Try.prog 11 #[.pointer (some ⟨r,0,none⟩),prV p,.agg (crA x A c),.int .i64 t] w fun e w'=>e = .returned (.int .i64 13)∧∃v',Ca w' B r v' (restE p t es)∧Chg (PT r v) w w'∧(∀q,CO r v' (restE p t es) q→CO r v es q∨w.heap.size≤q):=by
 obtain⟨A0,c0,rfl,_,_,_⟩:=h.num
 obtain⟨n,en⟩:∃n,n=es.length:=⟨_,rfl⟩
 obtain⟨v,ev⟩:∃v,v=Value.slice A0 es.length c0:=⟨_,rfl⟩
 rw[←ev] at h hxp⊢
 have EV:=Lib.hid ev
 have CP:=Lib.hid (fun w1=>clone_cp p w1 h1 h2)
 have CX:=Lib.hid (fun(w1:World) (h:Rd w1 w1.heap.size A (bvs x.b))=>ccr_any x A c w1.heap.size w1 h (Nat.le_refl _) h3 h4 h5)
 obtain⟨xs,exs⟩:∃xs,xs=crA x A c:=⟨_,rfl⟩
 rw[←exs] at CX⊢
 have HXI:=Lib.hid (show(Try.prog.info? 38).map (·.size)=some xs.size by rw[exs,crA_size];exact cr_info)
 obtain⟨W,eW⟩:∃W,W=((w.alloc (.cells #[.string ⟨p.1.toArray⟩,.string ⟨p.2.toArray⟩] 31)).alloc (.cells xs 38)).alloc (.cells #[.int .i64 t] 3):=⟨_,rfl⟩
 obtain⟨hb,hca,hp,hxx,ht,hvo,hro⟩:=put_begin B r v es p xs t w W h eW
 have CD:=delf_any es p t (w.heap.size+2) w.heap.size B v W hca.row hca.big ht hp (hvo _ (by omega)) (hvo _ (Nat.le_refl _)) hl
 have HVO:=Lib.hid hvo;have HRO:=Lib.hid hro
 obtain⟨es1,ees⟩:∃es1,es1=restE p t es:=⟨_,rfl⟩
 have EES:=Lib.hid ees
 rw[←ees] at CD hlt⊢
 have HW:=Lib.hid h;have HCW:=Lib.hid hca
 have HBW:=Lib.hid hb
 have HP0:=Lib.hid hp;have HX0:=Lib.hid hxx
 have HXP:=Lib.hid hxp
 have HL:=Lib.hid hlt
 have k0:W.cell? ⟨r,0,none⟩=some (.slice A0 n c0):=by rw[en,←ev];exact hca.blk.cell 0
 have ev2:v = .slice A0 n c0:=by rw[ev,en]
 rw[ev2] at CD
 rw[←ev2] at CD
 have HVN:=Lib.hid ev2
 obtain⟨iE,hiE,hzE,hsE,hbE⟩:=info_parts en_all
 have KI1:=Lib.hid hiE;have KI2:=Lib.hid hzE;have KI3:=Lib.hid hsE;have KI4:=Lib.hid hbE
 have SL1:=Lib.hid (fun(w1:World) (A':Option Addr) (c':Nat)=>Wh.run_build_one (P:=Try.prog) w1 55 60 (enA ⟨p,x,A',c'⟩) iE _ Try.underlying55 hiE hzE (by rw[hsE,enA_size]) (by rw[enA_size];omega) (by rw[enA_size];omega))
 rw[ev2] at CD
 clear hb hca hp hxx ht hvo hro h hxp h1 h2 h3 h4 h5 hl hlt exs en ev ev2 ees hiE hzE hsE hbE
 go_enter Try.func11,Try.ntmps11
 go_upto_region 1 with fail
 rw[←eW]
 clear eW
 go_upto_region 4 with(first
  |(go_at_call 19;refine Calls.mono CD ?_;rintro e w2 ⟨v1,rfl,ho,hg,hv⟩;obtain⟨A1,c1,rfl,_⟩:=own_rdr enC_length ho;rw[←HVN.out] at hg hv;have HG:=Lib.hid hg;have HV:=Lib.hid hv;have HO:=Lib.hid ho;clear hg hv ho CD k0;have hr2:=HCW.out.blk.grown HG.out HCW.out.vr;have f0:=hr2.frozen 0;have k0:w2.cell? ⟨r,0,none⟩=some v:=hr2.cell 0;clear hr2)
  |fail)
 obtain⟨m,em⟩:∃m,m=es1.length:=⟨_,rfl⟩
 rw[←em] at HO HV⊢
 have hq:=ca_rest (p:=p) (t:=t) HCW.out HG.out (by rw[←EES.out,←em];exact HO.out) HV.out
 rw[←EES.out] at hq
 obtain⟨hca,hcg,hnw⟩:=hq
 have HNP:=Lib.hid (show ¬((Value.slice A1 m c1).ownBlock=some w.heap.size∨(Value.slice A1 m c1).ownBlock=some (w.heap.size+1)) from fun x=>by
  rw[HV.out] at x
  rcases x with x | x
  ·exact HVO.out _ (Nat.le_refl _) x
  ·exact HVO.out _ (by omega) x)
 have HNR:=Lib.hid (show r≠w.heap.size∧r≠w.heap.size+1 from⟨fun x=>HRO.out _ (Nat.le_refl _) x.symm,fun x=>HRO.out _ (by omega) x.symm⟩)
 have hnp:∀k,w.heap.size≤k→¬PT r v k:=fun k hk x=>by
  rcases x with x | x
  ·exact HRO.out k hk x
  ·exact HVO.out k hk x
 obtain⟨W3,eW3⟩:∃W3,W3=w2.setCell ⟨r,0,none⟩ (.slice A1 m c1):=⟨_,rfl⟩
 rw[←eW3] at hca hcg
 have HP3:=Lib.hid (hcg.blk HP0.out (hnp _ (Nat.le_refl _)))
 have HX3:=Lib.hid (hcg.blk HX0.out (hnp _ (by omega)))
 have HCG:=Lib.hid ((Chg.of_below HBW.out).trans hcg (fun q _ x=>x):Chg (PT r v) w W3)
 have HR3:=Lib.hid (HXP.out W3 HCG.out)
 have HNW:=Lib.hid (fun(q:Nat) (hq:CO r (.slice A1 m c1) es1 q)=>(.inl (hnw q hq):CO r v es q∨w.heap.size≤q))
 have HWC:=Lib.hid hca
 have HV1:=Lib.hid HV.out
 have t2:decide ((10:Int)≤(m:Int))=true:=by simp;have:=HL.out;omega
 have k1:W3.cell? ⟨r,0,none⟩=some (.slice A1 m c1):=hca.blk.cell 0
 have EM:=Lib.hid em
 rw[←eW3]
 clear hca hcg hnw hnp HP0 HX0 HXP HG HV HO em eW3 f0 k0 HCW HVO HRO
 go_wp2
 go_ret
 exact⟨rfl,_,HWC.out,HCG.out,HNW.out⟩
theorem put_any (B r:Nat) (v:Value) (es:List En) (p:Pr) (x:Cr) (A:Option Addr) (c:Nat) (t:Int) (w:World) (h:Ca w B r v es) (hxp:∀w',Chg (PT r v) w w'→Rd w' w'.heap.size A (bvs x.b)) (h1:p.1.length≤140737488351232) (h2:p.2.length≤140737488351232) (h3:x.s.1.length≤140737488351232) (h4:x.s.2.length≤140737488351232) (h5:x.b.length≤100000000000)
  (hl:es.length≤1000) :
  Calls Try.prog 11 #[.pointer (some ⟨r,0,none⟩),prV p,.agg (crA x A c),.int .i64 t] w fun e w'=>e = .returned (.int .i64 (putE (its es) p t:Int))∧∃v' es',Ca w' B r v' es'∧its es'=putL (its es) p x t∧Chg (PT r v) w w'∧(∀q,CO r v' es' q→CO r v es q∨w.heap.size≤q):=by
 have hln:(rest (its es) p t).length=(restE p t es).length:=by rw[←its_rest,its_length]
 by_cases hlt:(restE p t es).length<10
 ·refine(put_ok B r v es p x A c t w h hxp h1 h2 h3 h4 h5 hl hlt).mono ?_
  rintro e w' ⟨rfl,v',A',c',k1,k2,k3⟩
  refine⟨by rw[putE,if_pos (by omega)];rfl,v',_,k1,?_,k2,k3⟩
  rw[putL,if_pos (by omega),←its_rest]
  simp [its,En.it]
 ·refine(put_full B r v es p x A c t w h hxp h1 h2 h3 h4 h5 hl (by omega)).mono ?_
  rintro e w' ⟨rfl,v',k1,k2,k3⟩
  refine⟨by rw[putE,if_neg (by omega)];rfl,v',_,k1,?_,k2,k3⟩
  rw[putL,if_neg (by omega),←its_rest]
end Go.Proofs.Ytlacoakelliabaa.Ca
end
