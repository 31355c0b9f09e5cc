import Derived.Deep.MidRow
import Derived.Test.YtlacoakelliabaaProg
import Derived.StillTailTactics
import Derived.Deep.CutBlock
import Derived.Deep.QuietTactic
import Derived.BigQuiet
import Derived.Deep.LoopGhost
import Derived.Laws.StructEq
import Derived.Test.YtlacoakelliabaaZCachePlays1
section
set_option linter.unusedVariables false
namespace Go.Proofs.Ytlacoakelliabaa.Se
open Go.RowKit Go.Proofs.Ytlacoakelliabaa.Mem
structure Chg (S:Nat→Prop) (w w':World):Prop where
 os:w'.os=w.os
 tape:w'.tape=w.tape
 output:w'.output=w.output
 size:w.heap.size≤w'.heap.size
 block:∀k,k<w.heap.size→¬S k→w'.heap[k]? = w.heap[k]?
section
variable {S T S':Nat→Prop} {a w w' c:World} {A:Option Addr} {xs:List Value} {g b:Nat} {t:TypeId} {cs:Array Value}
theorem Chg.refl (S:Nat→Prop) (w:World):Chg S w w:=⟨rfl,rfl,rfl,Nat.le_refl _,fun _ _ _=>rfl⟩
theorem Chg.trans (h:Chg S a w) (k:Chg T w c) (hs:∀i,i<a.heap.size→T i→S i):Chg S a c:=
 ⟨k.os.trans h.os,k.tape.trans h.tape,k.output.trans h.output,Nat.le_trans h.size k.size,fun i hi hn=>(k.block i (Nat.lt_of_lt_of_le hi h.size) (fun ht=>hn (hs i hi ht))).trans (h.block i hi hn)⟩
theorem Chg.mono (h:Chg S a w) (hs:∀i,i<a.heap.size→S i→T i):Chg T a w:=⟨h.os,h.tape,h.output,h.size,fun i hi hn=>h.block i hi (fun x=>hn (hs i hi x))⟩
theorem Chg.of_below (h:Below w.heap.size w w'):Chg S w w':=⟨h.os,h.tape,h.output,h.size,fun i hi _=>h.block i hi⟩
theorem Chg.of_grown (h:w.grownBy w' (some g)) (hs:S g):Chg S w w':=⟨h.os,h.tape,h.output,h.size,fun i hi hn=>h.block i hi (fun e=>by injection e with e;subst e;exact hn hs)⟩
theorem Chg.below (h:Chg S a w) {B:Nat} (hB:B≤a.heap.size) (hs:∀i,i<a.heap.size→S i→B≤i):Below B a w:=
 ⟨h.os,h.tape,h.output,h.size,fun i hi=>h.block i (by omega) (fun x=>by have:=hs i (by omega) x;omega)⟩
theorem Chg.blk (h:Chg S w w') (hb:Blk w g t cs) (hs:¬S g):Blk w' g t cs:=(h.block g hb.lt hs).trans hb
theorem Chg.own (h:Chg S w w') {base n:Nat} {v:Value} (ho:w.ownsRow base t 1 v n xs) (hs:∀k,v.ownBlock=some k→¬S k):w'.ownsRow base t 1 v n xs:=by
 refine⟨ho.1,?_⟩
 rcases ho.2 with hn | ⟨g,cap,cur,rfl,hb,hgg,rest⟩
 ·exact .inl hn
 ·exact .inr ⟨g,cap,cur,rfl,hb,(h.block g (Array.getElem?_eq_some_iff.1 hgg).1 (hs g rfl)).trans hgg,rest⟩
theorem Chg.set (h:Chg S a w) {p:Addr} (hp:S p.block∨a.heap.size≤p.block) (u:Value):Chg S a (w.setCell p u):=
 ⟨h.os,h.tape,h.output,by simpa [World.setCell] using h.size,fun i hi hn=>(Below.heap_setCell w p u i (by
  rintro rfl
  rcases hp with hp | hp
  ·exact hn hp
  ·omega)).trans (h.block i hi hn)⟩
theorem Chg.alloc (h:Chg S a w) (o:Obj):Chg S a (w.alloc o):=
 ⟨h.os,h.tape,h.output,Nat.le_trans h.size (by simp),fun i hi hn=>(Below.heap_alloc w o i (Nat.lt_of_lt_of_le hi h.size)).trans (h.block i hi hn)⟩
theorem Chg.drew (h:Chg S a w):Chg S a w.drew:=⟨h.os,h.tape,h.output,h.size,h.block⟩
def RdA (S:Nat→Prop) (w:World) (A:Option Addr) (xs:List Value):Prop:=
 xs = []∨∃b o,A=some ⟨b,o,none⟩∧b<w.heap.size∧¬S b∧∀i u,xs[i]? = some u→w.cell? ⟨b,o+i,none⟩=some u
theorem RdA.rd (h:RdA S w A xs):Rd w w.heap.size A xs:=by
 rcases h with h | ⟨b,o,h1,h2,_,h3⟩
 ·exact .inl h
 ·exact .inr ⟨b,o,h1,h2,h3⟩
theorem RdA.keep (h:RdA S w A xs) (hc:Chg T w w') (ht:∀i,i<w.heap.size→T i→S i) (hs:∀i,i<w.heap.size→S' i→S i):RdA S' w' A xs:=by
 rcases h with h | ⟨b,o,h1,h2,h4,h3⟩
 ·exact .inl h
 ·exact .inr ⟨b,o,h1,Nat.lt_of_lt_of_le h2 hc.size,fun x=>h4 (hs b h2 x),fun i u hu=>(World.cell?_of_block (a:=⟨b,o+i,none⟩) (hc.block b h2 (fun x=>h4 (ht b h2 x)))).trans (h3 i u hu)⟩
theorem RdA.mono (h:RdA S w A xs) (hs:∀i,i<w.heap.size→S' i→S i):RdA S' w A xs:=h.keep (Chg.refl (fun _=>False) w) (fun _ _ x=>x.elim) hs
end
section
variable {w w':World} {b:Nat} {ks dg:Nat→UInt8} {d s:Int} {p:Option Addr} {a o r:Nat}
end
def setAll (cs:Array Value):Nat→List Value→Array Value
 |_,[]=>cs
 |o,v :: l=>setAll (cs.setIfInBounds o v) (o+1) l
theorem Blk.setCells {g:Nat} {t:TypeId}:∀(vs:List Value) (o:Nat) (w:World) (cs:Array Value),Blk w g t cs→Blk (w.setCells g o vs) g t (setAll cs o vs)
 | [],_,_,_,h=>h
 |v :: l,o,w,cs,h=>Blk.setCells l (o+1) _ _ (h.set o v)
abbrev zeroK:Nat→UInt8:=fun _=>0
def Ow (b:Nat) (h:Option Nat) (i:Nat):Prop:=i=b∨h=some i
def Step (w w':World) (b:Nat) (h:Option Nat) (g:Nat):Prop:=Chg (Ow b h) w w'∧(h=some g∨(h=none∧w.heap.size≤g))
theorem Step.own {w w':World} {b g:Nat} {h:Option Nat} (hs:Step w w' b h g):∀i,i<w.heap.size→Ow b (some g) i→Ow b h i:=by
 intro i hi hx
 rcases hx with hx | hx
 ·exact .inl hx
 ·injection hx with hx
  subst hx
  rcases hs.2 with h1 | ⟨_,h1⟩
  ·exact .inr h1
  ·omega
theorem Step.trans {a w c:World} {b g g':Nat} {h:Option Nat} (h1:Step a w b h g) (h2:Step w c b (some g) g'):g'=g∧Step a c b h g:=by
 have e:g'=g:=by
  rcases h2.2 with h3 | ⟨h3,_⟩
  ·injection h3 with h3;exact h3.symm
  ·cases h3
 exact⟨e,h1.1.trans h2.1 h1.own,h1.2⟩
theorem Step.then {a w c:World} {b g:Nat} {h:Option Nat} {S:Nat→Prop} (h1:Step a w b h g) (h2:Chg S w c) (hs:∀i,i<a.heap.size→S i→Ow b h i):Step a c b h g:=⟨h1.1.trans h2 hs,h1.2⟩
end Go.Proofs.Ytlacoakelliabaa.Se
end

section
set_option linter.unusedVariables false
namespace Go.Proofs.Ytlacoakelliabaa.Se
open Go.RowKit Go.Proofs.Ytlacoakelliabaa.Mem
def key32 (ks:Nat→UInt8):Array Value:=((List.range 32).map (fun i=>bv (ks i))).toArray
theorem key32_size (ks:Nat→UInt8):(key32 ks).size=32:=by simp [key32]
theorem info32 (ks:Nat→UInt8):(Try.prog.info? 36).map (·.size)=some (key32 ks).size:=by rw[key32_size];kernel_rfl
theorem one32 (ks:Nat→UInt8):(key32 ks).all (·.oneCell')=true:=by simp [key32,bv,Value.oneCell']
end Go.Proofs.Ytlacoakelliabaa.Se
end

section
set_option linter.unusedVariables false
namespace Go.Proofs.Ytlacoakelliabaa.Se
open Go.RowKit Go.Proofs.Ytlacoakelliabaa.Mem
section
variable {w w' a c:World} {b g n:Nat} {h:Option Nat} {A:Option Addr} {xs:List Value} {S:Nat→Prop}
theorem Chg.then (h:Chg S a w) (k:Chg S w c):Chg S a c:=h.trans k fun _ _ x=>x
end
end Go.Proofs.Ytlacoakelliabaa.Se
end

section
set_option linter.unusedVariables false
namespace Go.Proofs.Ytlacoakelliabaa.Se
open Go.RowKit Go.Proofs.Ytlacoakelliabaa.Mem
def StepO (w w':World) (b:Nat) (h h':Option Nat):Prop:=Chg (Ow b h) w w'∧(h'=h∨(h=none∧∃g,h'=some g∧w.heap.size≤g))
theorem StepO.refl (w:World) (b:Nat) (h:Option Nat):StepO w w b h h:=⟨Chg.refl _ _,.inl rfl⟩
theorem Step.o {w w':World} {b g:Nat} {h:Option Nat} (hs:Step w w' b h g):StepO w w' b h (some g):=
 ⟨hs.1,hs.2.imp (fun e=>e.symm) (fun e=>⟨e.1,g,rfl,e.2⟩)⟩
theorem StepO.own {w w':World} {b:Nat} {h h':Option Nat} (hs:StepO w w' b h h'):∀i,i<w.heap.size→Ow b h' i→Ow b h i:=by
 intro i hi hx
 rcases hs.2 with rfl | ⟨_,g,rfl,hg⟩
 ·exact hx
 ·rcases hx with hx | hx
  ·exact .inl hx
  ·injection hx with hx;omega
theorem StepO.trans {a w c:World} {b:Nat} {h h1 h2:Option Nat} (s1:StepO a w b h h1) (s2:StepO w c b h1 h2):StepO a c b h h2:=by
 refine⟨s1.1.trans s2.1 s1.own,?_⟩
 rcases s1.2 with rfl | ⟨e,g,rfl,hg⟩
 ·rcases s2.2 with rfl | ⟨e,g,rfl,hg⟩
  ·exact .inl rfl
  ·exact .inr ⟨e,g,rfl,Nat.le_trans s1.1.size hg⟩
 ·rcases s2.2 with rfl | ⟨e2,_⟩
  ·exact .inr ⟨e,g,rfl,hg⟩
  ·cases e2
theorem StepO.drewN {w w':World} {b:Nat} {h h':Option Nat} (hs:StepO w w' b h h') (k:Nat):StepO w (w'.drewN k) b h h':=⟨⟨hs.1.os,hs.1.tape,hs.1.output,hs.1.size,hs.1.block⟩,hs.2⟩
theorem RdA.take {S:Nat→Prop} {w:World} {A:Option Addr} {l:List UInt8} (h:RdA S w A (bvs l)) (k:Nat):RdA S w A (bvs (l.take k)):=by
 rcases h with h | ⟨b,o,h1,h2,h3,h4⟩
 ·left
  have:l = []:=List.map_eq_nil_iff.1 h
  rw[this,List.take_nil];rfl
 ·refine .inr ⟨b,o,h1,h2,h3,fun i u hu=>h4 i u ?_⟩
  unfold bvs at hu⊢
  rw[List.map_take,List.getElem?_take] at hu
  split at hu
  ·exact hu
  ·cases hu
theorem RdA.drop {S:Nat→Prop} {w:World} {b o:Nat} {l:List UInt8} (h:RdA S w (some ⟨b,o,none⟩) (bvs l)) (k:Nat):RdA S w (some ⟨b,o+k,none⟩) (bvs (l.drop k)):=by
 rcases h with h | ⟨b',o',h1,h2,h3,h4⟩
 ·left
  have:l = []:=List.map_eq_nil_iff.1 h
  rw[this,List.drop_nil];rfl
 ·injection h1 with h1
  injection h1 with e1 e2
  subst e1 e2
  refine .inr ⟨b,o+k,rfl,h2,h3,fun i u hu=>?_⟩
  unfold bvs at hu
  rw[List.map_drop,List.getElem?_drop] at hu
  have:=h4 (k+i) u hu
  rwa [←Nat.add_assoc] at this
end Go.Proofs.Ytlacoakelliabaa.Se
end

section
set_option linter.unusedVariables false
namespace Go.Proofs.Ytlacoakelliabaa.Rg
open Go.RowKit Go.Proofs.Ytlacoakelliabaa.Mem Go.Proofs.Ytlacoakelliabaa.Se
abbrev prV (p:Pr):Value:=.agg #[.string ⟨p.1.toArray⟩,.string ⟨p.2.toArray⟩]
structure Ent where
 it:It
 b:Nat
 h:Option Nat
 a:Nat
 o:Nat
 r:Nat
theorem flat_len {α:Type} (f:α→List Value) (n:Nat) (h:∀x,(f x).length=n):∀l:List α,(l.flatMap f).length=l.length*n
 | []=>by simp
 |a :: l=>by simp only[List.flatMap_cons,List.length_append,h,flat_len f n h l,List.length_cons,Nat.succ_mul];omega
theorem flat_at {α:Type} (f:α→List Value) (n:Nat) (h:∀x,(f x).length=n):∀(l:List α) (i:Nat) (x:α),l[i]? = some x→∀j v,(f x)[j]? = some v→(l.flatMap f)[i*n+j]? = some v
 | [],i,x,hx,_,_,_=>by simp at hx
 |a :: l,0,x,hx,j,v,hv=>by
  injection hx with hx
  subst hx
  have:=(List.getElem?_eq_some_iff.1 hv).1
  rw[List.flatMap_cons,Nat.zero_mul,Nat.zero_add,List.getElem?_append_left this]
  exact hv
 |a :: l,i+1,x,hx,j,v,hv=>by
  rw[List.flatMap_cons,List.getElem?_append_right (by rw[h,Nat.succ_mul];omega),h,show(i+1)*n+j - n=i*n+j by rw[Nat.succ_mul];omega]
  exact flat_at f n h l i x hx j v hv
def RdR {α:Type} (w:World) (B:Nat) (A:Option Addr) (f:α→List Value) (n:Nat) (l:List α):Prop:=
 l = []∨∃g,A=some ⟨g,0,none⟩∧g<B∧∀i x,l[i]? = some x→w.rangeAt g (i*n) (f x)
theorem RdR.keep {α:Type} {w w':World} {B:Nat} {A:Option Addr} {f:α→List Value} {n:Nat} {l:List α} (h:RdR w B A f n l) (hb:Below B w w'):RdR w' B A f n l:=by
 rcases h with h | ⟨g,h1,h2,h3⟩
 ·exact .inl h
 ·exact .inr ⟨g,h1,h2,fun i x hx j v hv=>(hb.cell (p:=⟨g,_,none⟩) h2).trans (h3 i x hx j v hv)⟩
theorem RdR.more {α:Type} {w:World} {B B':Nat} {A:Option Addr} {f:α→List Value} {n:Nat} {l:List α} (h:RdR w B A f n l) (hB:B≤B'):RdR w B' A f n l:=by
 rcases h with h | ⟨g,h1,h2,h3⟩
 ·exact .inl h
 ·exact .inr ⟨g,h1,by omega,h3⟩
theorem RdR.at_ {α:Type} {w:World} {B:Nat} {A:Option Addr} {f:α→List Value} {n:Nat} {l:List α} {i:Nat} {x:α} (h:RdR w B A f n l) (hx:l[i]? = some x):∃g,A=some ⟨g,0,none⟩∧g<B∧w.rangeAt g (i*n) (f x):=by
 rcases h with h | ⟨g,h1,h2,h3⟩
 ·subst h;simp at hx
 ·exact⟨g,h1,h2,h3 i x hx⟩
theorem own_rdr {α:Type} {w:World} {base:Nat} {t:TypeId} {v:Value} {f:α→List Value} {n:Nat} {l:List α} (hn:∀x,(f x).length=n) (h:w.ownsRow base t n v l.length (l.flatMap f)):∃A c,v = .slice A l.length c∧l.length≤c∧c≤maxLen∧RdR w w.heap.size A f n l:=by
 have h':=h
 rcases h.2 with⟨h1,h2⟩ | ⟨g,cap,cur,h1,hg,hh,hc,hm,_⟩
 ·have e:l = []:=List.eq_nil_of_length_eq_zero h2
  subst e
  exact⟨none,0,h1,Nat.le_refl _,Nat.zero_le _,.inl rfl⟩
 ·subst h1
  refine⟨_,cap,rfl,hc,hm,.inr ⟨g,rfl,(Array.getElem?_eq_some_iff.1 hh).1,fun i x hx j v hv=>?_⟩⟩
  have h1:=h'.cells (g:=g) rfl (i*n+j) v (flat_at f n hn l i x hx j v hv)
  rw[addr_add,Nat.zero_add] at h1
  exact h1
theorem own_chg {S:Nat→Prop} {w w':World} {base size n:Nat} {t:TypeId} {v:Value} {xs:List Value} (h:Chg S w w') (ho:w.ownsRow base t size v n xs) (hs:∀k,v.ownBlock=some k→¬S k):w'.ownsRow base t size v n xs:=by
 refine⟨ho.1,?_⟩
 rcases ho.2 with hn | ⟨g,cap,cur,rfl,hb,hgg,rest⟩
 ·exact .inl hn
 ·exact .inr ⟨g,cap,cur,rfl,hb,(h.block g (Array.getElem?_eq_some_iff.1 hgg).1 (hs g rfl)).trans hgg,rest⟩
def its (es:List Ent):List It:=es.map (·.it)
theorem its_at {es:List Ent} {i:Nat} {e:Ent} (h:es[i]? = some e):(its es)[i]? = some e.it:=by simp [its,h]
theorem its_of {es:List Ent} {i:Nat} {x:It} (h:(its es)[i]? = some x):∃e,es[i]? = some e∧e.it=x:=by
 simpa [its] using h
theorem its_length (es:List Ent):(its es).length=es.length:=by simp [its]
section
variable {w w':World} {B r:Nat} {v v':Value} {es:List Ent} {S:Nat→Prop}
end
end Go.Proofs.Ytlacoakelliabaa.Rg
end

section
set_option linter.unusedVariables false
set_option linter.unusedSimpArgs false
namespace Go.Proofs.Ytlacoakelliabaa.Rg
open Go.RowKit Go.Proofs.Ytlacoakelliabaa.Mem Go.Proofs.Ytlacoakelliabaa.Se
theorem eql_pr (x y:Pr) (w:World):(Op.equalIn 10000 31 (.agg #[.string ⟨x.1.toArray⟩,.string ⟨x.2.toArray⟩]) (.agg #[.string ⟨y.1.toArray⟩,.string ⟨y.2.toArray⟩])).run Try.prog w = .ok (decide (x=y)) w:=by
 obtain⟨a,b⟩:=x
 obtain⟨c,d⟩:=y
 simp only
 by_cases h0:a=c
 ·subst h0
  by_cases h1:b=d
  ·subst h1
   rw[decide_eq_true rfl]
   go_simp
  ·rw[decide_eq_false (fun h=>h1 (congrArg (fun z=>z.2) h))]
   go_simp
 ·rw[decide_eq_false (fun h=>h0 (congrArg (fun z=>z.1) h))]
  go_simp
theorem eql_pr_yes {x y:Pr} (h:x=y):∀w,(Op.equalIn 10000 31 (.agg #[.string ⟨x.1.toArray⟩,.string ⟨x.2.toArray⟩]) (.agg #[.string ⟨y.1.toArray⟩,.string ⟨y.2.toArray⟩])).run Try.prog w = .ok true w:=fun w=>by rw[eql_pr,decide_eq_true h]
theorem eql_pr_no {x y:Pr} (h:x≠y):∀w,(Op.equalIn 10000 31 (.agg #[.string ⟨x.1.toArray⟩,.string ⟨x.2.toArray⟩]) (.agg #[.string ⟨y.1.toArray⟩,.string ⟨y.2.toArray⟩])).run Try.prog w = .ok false w:=fun w=>by rw[eql_pr,decide_eq_false h]
theorem pr_info:(Try.prog.info? 31).map (·.size)=some 2:=by kernel_rfl
end Go.Proofs.Ytlacoakelliabaa.Rg
end

section
set_option linter.unusedVariables false
namespace Go.Proofs.Ytlacoakelliabaa.Ca
open Go.RowKit Go.Proofs.Ytlacoakelliabaa.Mem Go.Proofs.Ytlacoakelliabaa.Se
open Go.Proofs.Ytlacoakelliabaa.Rg (Pr prV flat_len flat_at RdR own_rdr own_chg)
section
variable {α:Type} {f:α→List Value} {n:Nat}
theorem flat_set (h:∀x,(f x).length=n):∀(l:List α) (i:Nat) (x:α),i<l.length→∀q,((l.set i x).flatMap f)[q]? = if i*n≤q∧q<i*n+n then (f x)[q - i*n]? else (l.flatMap f)[q]?
 | [],i,x,hi,q=>by simp at hi
 |a :: l,0,x,hi,q=>by
  rw[List.set_cons_zero,List.flatMap_cons,List.flatMap_cons,Nat.zero_mul,Nat.zero_add,Nat.sub_zero]
  by_cases g:q<n
  ·rw[if_pos ⟨Nat.zero_le _,g⟩,List.getElem?_append_left (by rw[h];exact g)]
  ·rw[if_neg (fun x=>g x.2),List.getElem?_append_right (by rw[h];omega),List.getElem?_append_right (by rw[h];omega),h,h]
 |a :: l,i+1,x,hi,q=>by
  rw[List.set_cons_succ,List.flatMap_cons,List.flatMap_cons,Nat.succ_mul]
  by_cases g:q<n
  ·rw[if_neg (by omega),List.getElem?_append_left (by rw[h];exact g),List.getElem?_append_left (by rw[h];exact g)]
  ·rw[List.getElem?_append_right (by rw[h];omega),List.getElem?_append_right (by rw[h];omega),h,flat_set h l i x (by simpa using hi)]
   by_cases k:i*n≤q - n∧q - n<i*n+n
   ·rw[if_pos k,if_pos (by omega)]
    congr 1
    omega
   ·rw[if_neg k,if_neg (by omega)]
theorem flat_take (h:∀x,(f x).length=n):∀(l:List α) (i:Nat),(l.flatMap f).take (i*n)=(l.take i).flatMap f
 | [],i=>by simp
 |a :: l,0=>by simp
 |a :: l,i+1=>by
  rw[List.take_succ_cons,List.flatMap_cons,List.flatMap_cons,←flat_take h l i,Nat.succ_mul,Nat.add_comm (i*n) n,List.take_append,h,show n+i*n - n=i*n by omega,List.take_of_length_le (by rw[h];omega)]
variable {w:World} {B g cap:Nat} {t:TypeId} {l:List α}
theorem row_blk {m:Nat} {xs:List Value} (ho:w.ownsRow B t n (.slice (some ⟨g,0,none⟩) m cap) m xs):∃cur,Blk w g t cur∧B≤g∧m≤cap∧cap≤maxLen∧cur.size=cap*n∧cur.toList.take (m*n)=xs:=by
 rcases ho.2 with⟨h1,_⟩ | ⟨g1,cap1,cur,h1,h2,h3,h4,h5,h6,h7⟩
 ·cases h1
 ·injection h1 with e1 _ e2
  injection e1 with e1
  injection e1 with e1
  subst e1 e2
  exact⟨cur,h3,h2,h4,h5,h6,h7⟩
theorem row_mk {m:Nat} {xs:List Value} {cur:Array Value} (hb:Blk w g t cur) (h1:B≤g) (h2:m≤cap) (h3:cap≤maxLen) (h4:cur.size=cap*n) (h5:cur.toList.take (m*n)=xs):w.ownsRow B t n (.slice (some ⟨g,0,none⟩) m cap) m xs:=
 ⟨by rw[←h5,List.length_take,Array.length_toList,h4];exact Nat.min_eq_left (Nat.mul_le_mul_right n h2),.inr ⟨g,cap,cur,rfl,h1,hb,h2,h3,h4,h5⟩⟩
theorem row_set (hf:∀x,(f x).length=n) (ho:w.ownsRow B t n (.slice (some ⟨g,0,none⟩) l.length cap) l.length (l.flatMap f)) {i:Nat} (hi:i<l.length) (x:α) :
  (w.setCells g (i*n) (f x)).ownsRow B t n (.slice (some ⟨g,0,none⟩) l.length cap) l.length ((l.set i x).flatMap f):=by
 obtain⟨cur,h1,h2,h3,h4,h5,h6⟩:=row_blk ho
 have hin:i*n+n≤l.length*n:=by rw[←Nat.succ_mul];exact Nat.mul_le_mul_right n hi
 have hln:l.length*n≤cap*n:=Nat.mul_le_mul_right n h3
 obtain⟨ds,k1,k2,k3,k4⟩:=Wh.blk_cells_aux (f x) (i*n) w cur h1 (by rw[hf,h5];omega)
 refine row_mk k1 h2 h3 h4 (by rw[k2,h5]) ?_
 apply List.ext_getElem?
 intro q
 rw[flat_set hf l i x hi]
 by_cases g1:q<l.length*n
 ·rw[List.getElem?_take_of_lt g1,Array.getElem?_toList]
  by_cases g2:i*n≤q∧q<i*n+n
  ·rw[if_pos g2,k3 q g2.1 (by rw[hf];exact g2.2)]
  ·rw[if_neg g2,k4 q (by rw[hf];omega),←h6,List.getElem?_take_of_lt g1,Array.getElem?_toList]
 ·rw[if_neg (by omega),List.getElem?_eq_none (by rw[List.length_take];omega),List.getElem?_eq_none (by rw[flat_len f n hf];omega)]
theorem row_there (ho:w.ownsRow B t n (.slice (some ⟨g,0,none⟩) l.length cap) l.length (l.flatMap f)) (o k:Nat) (h:o+k≤l.length*n):w.there g o k:=by
 obtain⟨cur,h1,h2,h3,h4,h5,h6⟩:=row_blk ho
 have hln:l.length*n≤cap*n:=Nat.mul_le_mul_right n h3
 exact Wh.there_mid h1 o k (by omega)
theorem row_cut (hf:∀x,(f x).length=n) (ho:w.ownsRow B t n (.slice (some ⟨g,0,none⟩) l.length cap) l.length (l.flatMap f)) {i:Nat} (hi:i≤l.length) (vs:List Value) (hv:i*n+vs.length≤l.length*n) :
  (w.setCells g (i*n) vs).ownsRow B t n (.slice (some ⟨g,0,none⟩) i cap) i ((l.take i).flatMap f):=by
 obtain⟨cur,h1,h2,h3,h4,h5,h6⟩:=row_blk ho
 have hin:i*n≤l.length*n:=Nat.mul_le_mul_right n hi
 have hln:l.length*n≤cap*n:=Nat.mul_le_mul_right n h3
 obtain⟨ds,k1,k2,k3,k4⟩:=Wh.blk_cells_aux vs (i*n) w cur h1 (by rw[h5];omega)
 refine row_mk k1 h2 (Nat.le_trans hi h3) h4 (by rw[k2,h5]) ?_
 rw[←flat_take hf,←h6,List.take_take,Nat.min_eq_left hin]
 apply List.ext_getElem?
 intro q
 by_cases g1:q<i*n
 ·rw[List.getElem?_take_of_lt g1,List.getElem?_take_of_lt g1,Array.getElem?_toList,Array.getElem?_toList,k4 q (.inl g1)]
 ·rw[List.getElem?_eq_none (by rw[List.length_take];omega),List.getElem?_eq_none (by rw[List.length_take];omega)]
end
theorem run_clear (P:Program) (w:World) (t e ty:TypeId) (i:TypeInfo) (z:Value) (n:Nat) (ht:P.underlying t=some (.slice e)) (hi:P.info? e=some i) (hz:i.zero=some z) (hzs:z.cells.size=n) (h1:∀u∈z.cells.toList,u.oneCell'=true) (hn:0<n) (b o m c:Nat)
  (hc:w.there b o (m*n)):∃vs:List Value,vs.length=m*n∧(Builtin.clear_ #[t] ty #[.slice (some ⟨b,o,none⟩) m c]).run P w = .ok (.tuple #[]) (w.setCells b o vs):=by
 have hv:(zeroValue e).run P w = .ok z w:=by simp [zeroValue,typeInfo,hi,hz]
 have hlen:(Builtin.zeroCells z.cells m).toList.length=m*n:=by simp [Builtin.zeroCells,hzs]
 have hone:∀u∈(Builtin.zeroCells z.cells m).toList,u.oneCell'=true:=by
  intro u hu
  simp only[Builtin.zeroCells,Array.toList_map,List.mem_map] at hu
  obtain⟨q,_,rfl⟩:=hu
  have hq:q % z.cells.size<z.cells.size:=Nat.mod_lt _ (by omega)
  rw[getElem!_pos z.cells (q % z.cells.size) hq]
  exact h1 _ (by simp)
 cases m with
 |zero=>
  refine⟨[],by simp,?_⟩
  simp [Builtin.clear_,run_underlying ht,World.setCells]
 |succ m=>
  refine⟨(Builtin.zeroCells z.cells (m+1)).toList,hlen,?_⟩
  have hst:=run_storeCells_cells (P:=P) b o (Builtin.zeroCells z.cells (m+1)).toList 0 w (fun j hj=>by simpa using (hc j (by omega)).1) (fun j hj=>by simpa using (hc j (by omega)).2) hone
  simp only[Nat.add_zero] at hst
  simp [Builtin.clear_,run_underlying ht,hv,hst]
structure En where
 p:Pr
 x:Cr
 A:Option Addr
 c:Nat
def En.it (e:En):It:=(e.p,e.x)
def crC (x:Cr) (A:Option Addr) (c:Nat):List Value:=.string ⟨x.s.1.toArray⟩ :: .string ⟨x.s.2.toArray⟩ :: .int .i64 x.n :: .slice A x.b.length c :: ((key32 x.k).toList++[.int .i64 x.e])
def crA (x:Cr) (A:Option Addr) (c:Nat):Array Value:=(crC x A c).toArray
def enC (e:En):List Value:=.string ⟨e.p.1.toArray⟩ :: .string ⟨e.p.2.toArray⟩ :: crC e.x e.A e.c
def enA (e:En):Array Value:=(enC e).toArray
theorem crC_length (x:Cr) (A:Option Addr) (c:Nat):(crC x A c).length=37:=by simp [crC,key32_size]
theorem crA_size (x:Cr) (A:Option Addr) (c:Nat):(crA x A c).size=37:=by simp [crA,crC_length]
theorem enC_length (e:En):(enC e).length=39:=by simp [enC,crC_length]
theorem enA_size (e:En):(enA e).size=39:=by simp [enA,enC_length]
theorem crC_one (x:Cr) (A:Option Addr) (c:Nat):∀u∈crC x A c,u.oneCell'=true:=by
 intro u hu
 simp only[crC,List.mem_cons,List.mem_append,List.not_mem_nil,or_false] at hu
 rcases hu with h | h | h | h | h | h
 ·subst h;rfl
 ·subst h;rfl
 ·subst h;rfl
 ·subst h;rfl
 ·have:=one32 x.k
  rw[Array.all_eq_true_iff_forall_mem] at this
  exact this u (Array.mem_def.2 h)
 ·subst h;rfl
theorem enC_one (e:En):∀u∈enC e,u.oneCell'=true:=by
 intro u hu
 simp only[enC,List.mem_cons] at hu
 rcases hu with h | h | h
 ·subst h;rfl
 ·subst h;rfl
 ·exact crC_one _ _ _ u h
theorem crA_one (x:Cr) (A:Option Addr) (c:Nat):(crA x A c).all (·.oneCell')=true:=by
 rw[Array.all_eq_true_iff_forall_mem]
 intro u hu
 exact crC_one x A c u (by simpa [crA] using hu)
theorem enA_one (e:En):(enA e).all (·.oneCell')=true:=by
 rw[Array.all_eq_true_iff_forall_mem]
 intro u hu
 exact enC_one e u (by simpa [enA] using hu)
theorem enA_toList (e:En):(enA e).toList=enC e:=by simp [enA]
theorem crA_toList (x:Cr) (A:Option Addr) (c:Nat):(crA x A c).toList=crC x A c:=by simp [crA]
section
variable {w:World} {g o:Nat} {e:En} {x:Cr} {A:Option Addr} {c:Nat}
theorem en_pr (h:w.rangeAt g o (enC e)):w.rangeAt g o (#[.string ⟨e.p.1.toArray⟩,.string ⟨e.p.2.toArray⟩]:Array Value).toList:=fun j u hu=>by
 have hj:j<2:=by have:=(List.getElem?_eq_some_iff.1 hu).1;simpa using this
 refine h j u ?_
 rw[←hu]
 rcases j with _ | _ | j
 ·rfl
 ·rfl
 ·omega
theorem en_cr (h:w.rangeAt g o (enC e)):w.rangeAt g (o+2) (crC e.x e.A e.c):=fun j u hu=>by
 have:=h (j+2) u (by simpa [enC] using hu)
 rw[show o+2+j=o+(j+2) by omega]
 exact this
theorem cr_end (h:w.rangeAt g o (crC x A c)):w.cell? ⟨g,o+36,none⟩=some (.int .i64 x.e):=by
 refine h 36 _ ?_
 rw[crC]
 simp only[List.getElem?_cons_succ]
 rw[List.getElem?_append_right (by simp [key32_size]),Array.length_toList,key32_size]
 rfl
theorem cr_s1 (h:w.rangeAt g o (crC x A c)):w.cell? ⟨g,o,none⟩=some (.string ⟨x.s.1.toArray⟩):=h 0 _ rfl
theorem cr_s2 (h:w.rangeAt g o (crC x A c)):w.cell? ⟨g,o+1,none⟩=some (.string ⟨x.s.2.toArray⟩):=h 1 _ rfl
theorem cr_b (h:w.rangeAt g o (crC x A c)):w.cell? ⟨g,o+3,none⟩=some (.slice A x.b.length c):=h 3 _ rfl
theorem cr_k (h:w.rangeAt g o (crC x A c)):w.rangeAt g (o+4) (key32 x.k).toList:=fun j u hu=>by
 have hj:j<(key32 x.k).toList.length:=(List.getElem?_eq_some_iff.1 hu).1
 have:=h (j+4) u (by rw[crC];simp only[List.getElem?_cons_succ];rw[List.getElem?_append_left hj];exact hu)
 rw[show o+4+j=o+(j+4) by omega]
 exact this
theorem cr_tk (h:w.rangeAt g o (crC x A c)):w.rangeAt g o (#[.string ⟨x.s.1.toArray⟩,.string ⟨x.s.2.toArray⟩,.int .i64 x.n,.slice A x.b.length c]:Array Value).toList:=fun j u hu=>by
 have hj:j<4:=by have:=(List.getElem?_eq_some_iff.1 hu).1;simpa using this
 refine h j u ?_
 rw[←hu]
 rcases j with _ | _ | _ | _ | j
 ·rfl
 ·rfl
 ·rfl
 ·rfl
 ·omega
theorem cr_sv (h:w.rangeAt g o (crC x A c)):w.rangeAt g o (#[.string ⟨x.s.1.toArray⟩,.string ⟨x.s.2.toArray⟩]:Array Value).toList:=fun j u hu=>by
 have hj:j<2:=by have:=(List.getElem?_eq_some_iff.1 hu).1;simpa using this
 refine h j u ?_
 rw[←hu]
 rcases j with _ | _ | j
 ·rfl
 ·rfl
 ·omega
end
theorem en_end {w:World} {g o:Nat} {e:En} (h:w.rangeAt g o (enC e)):w.cell? ⟨g,o+38,none⟩=some (.int .i64 e.x.e):=cr_end (en_cr h)
theorem blk_en {w:World} {g:Nat} {t:TypeId} {e:En} (h:Blk w g t (enA e)):w.rangeAt g 0 (enC e):=by
 have:=Wh.range_blk h
 rwa [enA_toList] at this
theorem blk_cr {w:World} {g:Nat} {t:TypeId} {x:Cr} {A:Option Addr} {c:Nat} (h:Blk w g t (crA x A c)):w.rangeAt g 0 (crC x A c):=by
 have:=Wh.range_blk h
 rwa [crA_toList] at this
def its (es:List En):List It:=es.map (·.it)
theorem its_length (es:List En):(its es).length=es.length:=by simp [its]
structure Ca (w:World) (B r:Nat) (v:Value) (es:List En):Prop where
 blk:Blk w r 57 #[v]
 row:w.ownsRow B 60 39 v es.length (es.flatMap enC)
 lo:B≤r
 vr:v.ownBlock≠some r
 rd:∀e∈es,Rd w w.heap.size e.A (bvs e.x.b)
 off:∀e∈es,∀a,e.A=some a→B≤a.block∧a.block≠r∧v.ownBlock≠some a.block∧a.block<w.heap.size
def CO (r:Nat) (v:Value) (es:List En) (k:Nat):Prop:=k=r∨v.ownBlock=some k∨∃e∈es,∃a,e.A=some a∧a.block=k
abbrev PT (r:Nat) (v:Value) (q:Nat):Prop:=q=r∨v.ownBlock=some q
section
variable {w w':World} {B r:Nat} {v v':Value} {es es':List En} {S:Nat→Prop}
theorem pt_co {q:Nat} (h:PT r v q):CO r v es q:=by
 rcases h with h | h
 ·exact .inl h
 ·exact .inr (.inl h)
theorem Ca.lt (h:Ca w B r v es):r<w.heap.size:=h.blk.lt
theorem Ca.big (h:Ca w B r v es):B≤w.heap.size:=by have:=h.lo;have:=h.lt;omega
theorem Ca.own_lo (h:Ca w B r v es) {k:Nat} (hk:CO r v es k):B≤k:=by
 rcases hk with hk | hk | ⟨e,he,a,ha,hk⟩
 ·subst hk;exact h.lo
 ·exact(World.ownsRow.lt h.row k hk).1
 ·exact hk▸(h.off e he a ha).1
theorem Ca.own_lt (h:Ca w B r v es) {k:Nat} (hk:CO r v es k):k<w.heap.size:=by
 rcases hk with hk | hk | ⟨e,he,a,ha,hk⟩
 ·subst hk;exact h.lt
 ·exact(World.ownsRow.lt h.row k hk).2
 ·exact hk▸(h.off e he a ha).2.2.2
theorem rd_chg {A:Option Addr} {xs:List Value} (h:Rd w w.heap.size A xs) (hc:Chg S w w') (hs:∀a,A=some a→¬S a.block):Rd w' w'.heap.size A xs:=by
 rcases h with h | ⟨b,o,h1,h2,h3⟩
 ·exact .inl h
 ·exact .inr ⟨b,o,h1,Nat.lt_of_lt_of_le h2 hc.size,fun i u hu=>(World.cell?_of_block (a:=⟨b,o+i,none⟩) (hc.block b h2 (hs _ h1))).trans (h3 i u hu)⟩
theorem Ca.chg (h:Ca w B r v es) (hc:Chg S w w') (hs:∀k,CO r v es k→¬S k):Ca w' B r v es:=
 ⟨hc.blk h.blk (hs r (.inl rfl)),own_chg hc h.row (fun k hk=>hs k (.inr (.inl hk))),h.lo,h.vr,
  fun e he=>rd_chg (h.rd e he) hc (fun a ha=>hs _ (.inr (.inr ⟨e,he,a,ha,rfl⟩))),
  fun e he a ha=>have q:=h.off e he a ha;⟨q.1,q.2.1,q.2.2.1,Nat.lt_of_lt_of_le q.2.2.2 hc.size⟩⟩
theorem Ca.below (h:Ca w B r v es) (hb:Below w.heap.size w w'):Ca w' B r v es:=h.chg (S:=fun _=>False) (Chg.of_below hb) (fun _ _ x=>x)
theorem Ca.drew (h:Ca w B r v es):Ca w.drew B r v es:=h.below (below_drewN (Below.refl _ _) 1)
theorem Ca.num (h:Ca w B r v es):∃A c,v = .slice A es.length c∧es.length≤c∧c≤maxLen∧RdR w w.heap.size A enC 39 es:=own_rdr enC_length h.row
end
end Go.Proofs.Ytlacoakelliabaa.Ca
end

section
set_option linter.unusedVariables false
set_option linter.unusedSimpArgs false
namespace Go.Proofs.Ytlacoakelliabaa.Ca
open Go.RowKit Go.Proofs.Ytlacoakelliabaa.Mem Go.Proofs.Ytlacoakelliabaa.Se
open Go.Proofs.Ytlacoakelliabaa.Nm (L)
open Go.Proofs.Ytlacoakelliabaa.Rg (Pr prV pr_info RdR own_rdr eql_pr_yes eql_pr_no)
theorem en_info:(Try.prog.info? 60).map (·.size)=some 39:=by kernel_rfl
set_option maxHeartbeats 1600000 in
set_option maxRecDepth 100000 in
theorem del_fn (x:En) (p:Pr) (t:Int) (bt bp:Nat) (w:World) (ht:w.cell? ⟨bt,0,none⟩=some (.int .i64 t)) (hp:Blk w bp 31 #[.string ⟨p.1.toArray⟩,.string ⟨p.2.toArray⟩]) :
  Calls Try.prog 20 #[.agg (enA x),.pointer (some ⟨bt,0,none⟩),.pointer (some ⟨bp,0,none⟩)] w fun e w'=>e = .returned (.bool (del p t x.it))∧Below w.heap.size w w':=by
 obtain⟨cs,ecs⟩:∃cs,cs=enA x:=⟨_,rfl⟩
 have ECS:=Lib.hid ecs
 rw[←ecs]
 have htl:bt<w.heap.size:=World.block_lt_of_cell? w _ ht
 obtain⟨W,eW⟩:∃W,W=w.alloc (.cells cs 60):=⟨_,rfl⟩
 have hb:Below w.heap.size w W:=eW▸(Below.refl _ _).alloc (Nat.le_refl _) _
 have HB:=Lib.hid hb
 have hk:Blk W w.heap.size 60 (enA x):=by rw[eW,←ecs];exact Blk.new _ _ _
 have HP:=Lib.hid (Wh.range_blk (hp.below hb))
 have HR:=Lib.hid (en_pr (blk_en hk))
 have kt:W.cell? ⟨bt,0,none⟩=some (.int .i64 t):=(hb.cell (p:=⟨bt,0,none⟩) htl).trans ht
 have ke:W.cell? ⟨w.heap.size,38,none⟩=some (.int .i64 x.x.e):=en_end (o:=0) (blk_en hk)
 have hdd:del p t x.it=(decide (x.x.e<t)||decide (x.p=p)):=rfl
 rw[hdd]
 clear hb hk hp ht htl hdd ecs
 by_cases h1:x.x.e<t
 ·have t1:decide (x.x.e<t)=true:=decide_eq_true h1
  rw[t1]
  clear h1
  go_enter Try.func20,Try.ntmps20
  go_upto_region 1 with fail
  rw[←eW]
  clear eW
  go_wp2
  go_ret
  exact⟨rfl,HB.out⟩
 ·have t1:decide (x.x.e<t)=false:=decide_eq_false h1
  rw[t1]
  clear h1
  by_cases h2:x.p=p
  ·have q1:=eql_pr_yes h2
   rw[decide_eq_true h2]
   clear h2
   go_enter Try.func20,Try.ntmps20
   go_upto_region 1 with fail
   rw[←eW]
   clear eW
   go_wp2_with (first
    |(refine Wh.load_g (by rfl) 31 (.tmp 11) (by rfl) _ 0 (by rfl) _ _ HR.out Try.underlying31 (by rfl) pr_info ?_)
    |(refine Wh.load_g (by rfl) 31 (.tmp 2) (by rfl) _ 0 (by rfl) _ _ HP.out Try.underlying31 (by rfl) pr_info ?_)
    |fail)
   go_ret
   exact⟨rfl,HB.out⟩
  ·have q1:=eql_pr_no h2
   rw[decide_eq_false h2]
   clear h2
   go_enter Try.func20,Try.ntmps20
   go_upto_region 1 with fail
   rw[←eW]
   clear eW
   go_wp2_with (first
    |(refine Wh.load_g (by rfl) 31 (.tmp 11) (by rfl) _ 0 (by rfl) _ _ HR.out Try.underlying31 (by rfl) pr_info ?_)
    |(refine Wh.load_g (by rfl) 31 (.tmp 2) (by rfl) _ 0 (by rfl) _ _ HP.out Try.underlying31 (by rfl) pr_info ?_)
    |fail)
   go_ret
   exact⟨rfl,HB.out⟩
def goI (p:Pr) (t:Int) (es:List En):Option Nat:=es.findIdx? (fun e=>del p t e.it)
def goN (o:Option Nat):Int:=match o with
 |none=>-1
 |some i=>(i:Int)
theorem goI_some {p:Pr} {t:Int} {es:List En} {i:Nat} {x:En} (hx:es[i]? = some x) (hd:del p t x.it=true) (hn:∀j y,j<i→es[j]? = some y→del p t y.it=false):goI p t es=some i:=by
 obtain⟨h1,h2⟩:=List.getElem?_eq_some_iff.1 hx
 refine List.findIdx?_eq_some_iff_getElem.2 ⟨h1,by rw[h2];exact hd,fun j hj=>?_⟩
 rw[hn j _ hj (List.getElem?_eq_getElem (by omega))]
 simp
theorem goI_none {p:Pr} {t:Int} {es:List En} (hn:∀j y,j<es.length→es[j]? = some y→del p t y.it=false):goI p t es=none:=by
 refine List.findIdx?_eq_none_iff.2 fun x hx=>?_
 obtain⟨j,hj1,hj2⟩:=List.getElem_of_mem hx
 exact hn j x hj1 (by rw[←hj2];exact List.getElem?_eq_getElem hj1)
set_option maxHeartbeats 1600000 in
set_option maxRecDepth 100000 in
theorem idx_any (es:List En) (p:Pr) (t:Int) (bt bp:Nat) (A:Option Addr) (c B:Nat) (w:World) (hr:RdR w B A enC 39 es) (hB:B≤w.heap.size) (ht:w.cell? ⟨bt,0,none⟩=some (.int .i64 t)) (hp:Blk w bp 31 #[.string ⟨p.1.toArray⟩,.string ⟨p.2.toArray⟩]) (hl:es.length≤1000) :
  Calls Try.prog 24 #[.slice A es.length c,.func (.func 20) #[] #[.pointer (some ⟨bt,0,none⟩),.pointer (some ⟨bp,0,none⟩)]] w fun e w'=>e = .returned (.int .i64 (goN (goI p t es)))∧Below w.heap.size w w':=by
 obtain⟨n,en⟩:∃n,n=es.length:=⟨_,rfl⟩
 have EN:=Lib.hid en
 rw[←en] at hl⊢
 have htl:bt<w.heap.size:=World.block_lt_of_cell? w _ ht
 have CD:=Lib.hid (fun(x:En) (w1:World) (h:Below w.heap.size w w1)=>del_fn x p t bt bp w1 ((h.cell (p:=⟨bt,0,none⟩) htl).trans ht) (hp.below h))
 have HR:=Lib.hid hr
 have HBB:=Lib.hid hB
 have HB:=Lib.hid (Below.refl w.heap.size w)
 clear hr ht hp htl en hB
 go_enter Try.func24,Try.ntmps24
 go_wp2
 go_loopw [8] (fun iv wr=>∃i:Nat,i≤n∧iv = .int .i64 (i:Int)∧Below w.heap.size w wr∧∀j x,j<i→es[j]? = some x→del p t x.it=false) (fun iv _=>n - (intOf iv).toNat)
 case atStart=>exact⟨0,Nat.zero_le _,rfl,HB.out,fun j x hj=>absurd hj (Nat.not_lt_zero _)⟩
 case round=>
  clear HB
  obtain⟨i,hi,rfl,hb,hno⟩:=hrel
  have HB:=Lib.hid hb;have HNO:=Lib.hid hno
  have HRR:=Lib.hid (HR.out.keep (hb.mono HBB.out))
  clear hb hno
  by_cases hlt:i<n
  ·have e1:(i:Int)<(n:Int):=by omega
   have e2:(0:Int)≤(i:Int):=by omega
   obtain⟨x,hx⟩:∃x,es[i]? = some x:=⟨es[i]'(by rw[←EN.out];exact hlt),List.getElem?_eq_getElem _⟩
   obtain⟨g,rfl,hgN,hra⟩:=HRR.out.at_ hx
   rw[←enA_toList] at hra
   have HRA:=Lib.hid hra
   have his:=en_info
   rw[←enA_size x] at his
   have HIS:=Lib.hid his
   have HX:=Lib.hid hx
   have CX:=Lib.hid (CD.out x)
   obtain⟨cs,ecs⟩:∃cs,cs=enA x:=⟨_,rfl⟩
   rw[←ecs] at HRA HIS CX
   clear hra his hx ecs
   obtain⟨b,eb⟩:∃b,b=del p t x.it:=⟨_,rfl⟩
   rw[←eb] at CX
   have EB:=Lib.hid eb
   clear eb
   cases b with
   |true=>
    go_wp2_with (first
     |(refine Wh.load_g (by rfl) 60 (.tmp 14) (by rfl) g _ (by rfl) cs _ HRA.out Try.underlying60 (by rfl) HIS.out ?_)
     |(go_at_call 20;refine Calls.mono (CX.out _ HB.out) ?_;rintro e w1 ⟨rfl,hb⟩;replace HB:=Lib.hid (HB.out.trans (hb.mono HB.out.size));clear hb)
     |fail)
    go_ret
    exact⟨by rw[goI_some HX.out EB.out.symm HNO.out];rfl,HB.out⟩
   |false=>
    go_wp2_with (first
     |(refine Wh.load_g (by rfl) 60 (.tmp 14) (by rfl) g _ (by rfl) cs _ HRA.out Try.underlying60 (by rfl) HIS.out ?_)
     |(go_at_call 20;refine Calls.mono (CX.out _ HB.out) ?_;rintro e w1 ⟨rfl,hb⟩;replace HB:=Lib.hid (HB.out.trans (hb.mono HB.out.size));clear hb)
     |fail)
    go_roundw
    case rel=>exact⟨i+1,by omega,by go_num,HB.out,fun j y hj hy=>by
     rcases Nat.lt_or_eq_of_le (Nat.le_of_lt_succ hj) with g | g
     ·exact HNO.out j y g hy
     ·rw[g,HX.out] at hy
      injection hy with hy
      rw[←hy]
      exact EB.out.symm⟩
    case measure=>simp [intOf];omega
  ·have e1:¬(i:Int)<(n:Int):=by omega
   obtain rfl:n=i:=by omega
   go_wp2
   go_ret
   exact⟨by rw[goI_none (fun j y hj hy=>HNO.out j y (by rw[EN.out];exact hj) hy)];rfl,HB.out⟩
def restE (p:Pr) (t:Int) (es:List En):List En:=es.filter (fun e=>!del p t e.it)
theorem goI_spec {p:Pr} {t:Int} {es:List En} {i:Nat} (h:goI p t es=some i):∃x,es[i]? = some x∧del p t x.it=true∧∀j y,j<i→es[j]? = some y→del p t y.it=false:=by
 obtain⟨h1,h2,h3⟩:=List.findIdx?_eq_some_iff_getElem.1 h
 refine⟨es[i],List.getElem?_eq_getElem h1,h2,fun j y hj hy=>?_⟩
 have:=h3 j hj
 obtain⟨k1,k2⟩:=List.getElem?_eq_some_iff.1 hy
 rw[k2] at this
 simpa using this
theorem restE_none {p:Pr} {t:Int} {es:List En} (h:goI p t es=none):restE p t es=es:=by
 rw[restE,List.filter_eq_self]
 intro x hx
 have:=List.findIdx?_eq_none_iff.1 h x hx
 simpa using this
theorem restE_take {p:Pr} {t:Int} {es:List En} {i:Nat} {x:En} (hx:es[i]? = some x):restE p t (es.take (i+1))=if del p t x.it=true then restE p t (es.take i) else restE p t (es.take i)++[x]:=by
 rw[List.take_add_one,hx,restE,List.filter_append]
 cases h:del p t x.it<;>simp [restE,h]
theorem restE_first {p:Pr} {t:Int} {es:List En} {i:Nat} (h:goI p t es=some i):restE p t (es.take (i+1))=es.take i:=by
 obtain⟨x,h1,h2,h3⟩:=goI_spec h
 rw[restE_take h1,if_pos h2,restE,List.filter_eq_self]
 intro y hy
 obtain⟨j,hj1,hj2⟩:=List.getElem_of_mem hy
 have hji:j<i:=by simp at hj1;omega
 have:=h3 j y hji (by rw[←hj2,List.getElem_take];exact List.getElem?_eq_getElem _)
 rw[this];rfl
theorem set_take {α:Type} (l:List α) (i:Nat) (x:α) (h:i<l.length):(l.set i x).take (i+1)=l.take i++[x]:=by
 rw[List.take_add_one,List.take_set_of_le (Nat.le_refl _),List.getElem?_set_self h]
 rfl
theorem en_all:(Try.prog.info? 60).map (fun i=>(i.zero,i.size,i.bytes))=some (some (.agg (enA ⟨([],[]),⟨([],[]),0,[],fun _=>0,0⟩,none,0⟩)),39,136):=by kernel_rfl
set_option maxHeartbeats 3200000 in
set_option maxRecDepth 100000 in
theorem delf_some (es:List En) (p:Pr) (t:Int) (bn bp g cap B i0:Nat) (w:World) (ho:w.ownsRow B 60 39 (.slice (some ⟨g,0,none⟩) es.length cap) es.length (es.flatMap enC)) (hB:B≤w.heap.size) (ht:w.cell? ⟨bn,0,none⟩=some (.int .i64 t)) (hp:Blk w bp 31 #[.string ⟨p.1.toArray⟩,.string ⟨p.2.toArray⟩])
  (hbn:bn≠g) (hbp:bp≠g) (hl:es.length≤1000) (hi0:goI p t es=some i0) :
  Calls Try.prog 19 #[.slice (some ⟨g,0,none⟩) es.length cap,.func (.func 20) #[] #[.pointer (some ⟨bn,0,none⟩),.pointer (some ⟨bp,0,none⟩)]] w fun e w'=>e = .returned (.slice (some ⟨g,0,none⟩) (restE p t es).length cap)∧
   w'.ownsRow B 60 39 (.slice (some ⟨g,0,none⟩) (restE p t es).length cap) (restE p t es).length ((restE p t es).flatMap enC)∧w.grownBy w' (some g):=by
 obtain⟨x0,hx0,hd0,hn0⟩:=goI_spec hi0
 have hi0l:i0<es.length:=(List.getElem?_eq_some_iff.1 hx0).1
 obtain⟨A1,c1,e1,hcap,hcm,hr0⟩:=own_rdr enC_length ho
 injection e1 with e1 _ e2
 subst e1 e2
 have hgl:g<w.heap.size:=(World.ownsRow.lt ho g rfl).2
 have hgB:B≤g:=(World.ownsRow.lt ho g rfl).1
 have CI:=idx_any es p t bn bp (some ⟨g,0,none⟩) cap w.heap.size w hr0 (Nat.le_refl _) ht hp hl
 rw[hi0,show goN (some i0)=(i0:Int) from rfl] at CI
 obtain⟨n,en⟩:∃n,n=es.length:=⟨_,rfl⟩
 have EN:=Lib.hid en
 rw[←en] at CI hl hi0l hcap⊢
 have hbnl:bn<w.heap.size:=World.block_lt_of_cell? w _ ht
 have CD:=Lib.hid (fun(x:En) (w1:World) (h:w.grownBy w1 (some g))=>del_fn x p t bn bp w1 (h.cell ht (by intro e;injection e with e;exact hbn e)) (hp.grown h (by intro e;injection e with e;exact hbp e.symm)))
 have HO:=Lib.hid ho
 have HI0:=Lib.hid hi0l
 have HF:=Lib.hid (restE_first hi0)
 have HL:=Lib.hid hl;have HCAP:=Lib.hid hcap;have HGL:=Lib.hid hgl;have HGB:=Lib.hid hgB;have HCM:=Lib.hid hcm
 have t0:((i0:Int) == -1)=false:=by simp
 obtain⟨iE,hiE,hzE,hsE,hbE⟩:=info_parts en_all
 have hzs:(Value.agg (enA ⟨([],[]),⟨([],[]),0,[],fun _=>0,0⟩,none,0⟩)).cells.size=39:=enA_size _
 have hz1:∀u∈(Value.agg (enA ⟨([],[]),⟨([],[]),0,[],fun _=>0,0⟩,none,0⟩)).cells.toList,u.oneCell'=true:=by
  intro u hu
  rw[show(Value.agg (enA ⟨([],[]),⟨([],[]),0,[],fun _=>0,0⟩,none,0⟩)).cells=enA ⟨([],[]),⟨([],[]),0,[],fun _=>0,0⟩,none,0⟩ from rfl,enA_toList] at hu
  exact enC_one _ u hu
 have HCL:=Lib.hid (fun(w1:World) (ty:TypeId) (o m c:Nat) (h:w1.there g o (m*39))=>run_clear Try.prog w1 55 60 ty iE _ 39 Try.underlying55 hiE hzE hzs hz1 (by decide) g o m c h)
 clear ho hr0 ht hp hbnl en hd0 hn0 hx0 x0 hi0 hgl hgB hbn hbp hcm hcap hiE hzE hsE hbE hzs hz1 hB
 go_enter Try.func19,Try.ntmps19
 go_wp2_with (first
  |(go_at_call 24;refine Calls.mono CI ?_;rintro e w1 ⟨rfl,hb⟩;have HG:=Lib.hid (g_of_below hb (some g));replace HO:=Lib.hid (own_kept HO.out hb);clear hb CI)
  |fail)
 go_loopw [5,6] (fun iv jv wr=>∃(i j:Nat) (cs:List En),iv = .int .i64 (i:Int)∧jv = .int .i64 (j:Int)∧i<j∧j≤n∧cs.length=n∧cs.take i=restE p t (es.take j)∧(∀q,j≤q→cs[q]? = es[q]?)∧wr.ownsRow B 60 39 (.slice (some ⟨g,0,none⟩) cs.length cap) cs.length (cs.flatMap enC)∧w.grownBy wr (some g)) (fun _ jv _=>n - (intOf jv).toNat)
 case atStart=>exact⟨i0,i0+1,es,rfl,by go_num,by omega,HI0.out,EN.out.symm,HF.out.symm,fun q _=>rfl,HO.out,HG.out⟩
 case round=>
  clear HO HG HF HI0
  obtain⟨i,j,cs,rfl,rfl,hij,hj,hcl,htk,hsame,ho,hg⟩:=hrel
  have HO:=Lib.hid ho;have HG:=Lib.hid hg;have HTK:=Lib.hid htk;have HSM:=Lib.hid hsame;have HCS:=Lib.hid hcl
  clear ho hg htk hsame hcl
  by_cases hlt:j<n
  ·have e1:(j:Int)<(n:Int):=by omega
   have e2:(0:Int)≤(j:Int):=by omega
   have e3:(i:Int)<(n:Int):=by omega
   have e4:(0:Int)≤(i:Int):=by omega
   obtain⟨x,hx⟩:∃x,es[j]? = some x:=⟨es[j]'(by rw[←EN.out];exact hlt),List.getElem?_eq_getElem _⟩
   obtain⟨A1,c1,q1,_,_,hr⟩:=own_rdr enC_length HO.out
   injection q1 with q1 _ q2
   subst q1 q2
   have hx2:cs[j]? = some x:=(HSM.out j (Nat.le_refl _)).trans hx
   obtain⟨g2,q3,_,hra⟩:=hr.at_ hx2
   injection q3 with q3
   injection q3 with q3
   subst q3
   rw[←enA_toList] at hra
   have HRA:=Lib.hid hra
   have his:=en_info
   rw[←enA_size x] at his
   have HIS:=Lib.hid his
   have H1X:=Lib.hid (enA_one x)
   have HX:=Lib.hid hx
   have CX:=Lib.hid (CD.out x)
   obtain⟨ds,eds⟩:∃ds,ds=enA x:=⟨_,rfl⟩
   rw[←eds] at HRA HIS CX H1X
   have EDS:=Lib.hid eds
   have hrt:=restE_take (p:=p) (t:=t) hx
   obtain⟨b,eb⟩:∃b,b=del p t x.it:=⟨_,rfl⟩
   rw[←eb] at CX hrt
   have HRT:=Lib.hid hrt
   obtain⟨m,em⟩:∃m,m=cs.length:=⟨_,rfl⟩
   have EM:=Lib.hid em
   clear hra his hx eds eb hr hx2 hrt
   cases b with
   |true=>
    go_wp2_with (first
     |(refine Wh.load_g (by rfl) 60 (.tmp 24) (by rfl) g _ (by rfl) ds _ HRA.out Try.underlying60 (by rfl) HIS.out ?_)
     |(refine Wh.store_new (by rfl) 60 (.tmp 7) (.tmp 25) (by rfl) 60 rfl ds (by rfl) (by rfl) (by rw[EDS.out,enA_size];rfl) HIS.out H1X.out ?_;rintro V hV hb;have HV:=Lib.hid hV;replace HO:=Lib.hid (own_kept HO.out hb);replace HG:=Lib.hid (g_then HG.out hb);clear hV hb)
     |(refine Wh.load_g (by rfl) 60 (.tmp 7) (by rfl) _ 0 (by rfl) ds _ (Wh.range_blk HV.out) Try.underlying60 (by rfl) HIS.out ?_)
     |(go_at_call 20;refine Calls.mono (CX.out _ HG.out) ?_;rintro e w1 ⟨rfl,hb⟩;replace HO:=Lib.hid (own_kept HO.out hb);replace HG:=Lib.hid (g_then HG.out hb);clear hb)
     |fail)
    go_roundw
    case rel=>exact⟨i,j+1,cs,rfl,by go_num,by omega,by omega,HCS.out,by rw[HRT.out];simpa using HTK.out,fun q hq=>HSM.out q (by omega),HO.out,HG.out⟩
    case measure=>simp [intOf];omega
   |false=>
    have HTH:=Lib.hid (fun(w1:World) (h:w1.ownsRow B 60 39 (.slice (some ⟨g,0,none⟩) cs.length cap) cs.length (cs.flatMap enC))=>row_there h (i*39) 39 (by have:=HCS.out;omega))
    have HRS:=Lib.hid (fun(w1:World) (h:w1.ownsRow B 60 39 (.slice (some ⟨g,0,none⟩) cs.length cap) cs.length (cs.flatMap enC))=>row_set enC_length h (show i<cs.length by have:=HCS.out;omega) x)
    rw[←enA_toList,←EDS.out] at HRS
    go_wp2_with (first
     |(refine Wh.load_g (by rfl) 60 (.tmp 24) (by rfl) g _ (by rfl) ds _ HRA.out Try.underlying60 (by rfl) HIS.out ?_)
     |(refine Wh.store_new (by rfl) 60 (.tmp 7) (.tmp 25) (by rfl) 60 rfl ds (by rfl) (by rfl) (by rw[EDS.out,enA_size];rfl) HIS.out H1X.out ?_;rintro V hV hb;have HV:=Lib.hid hV;replace HO:=Lib.hid (own_kept HO.out hb);replace HG:=Lib.hid (g_then HG.out hb);clear hV hb)
     |(refine Wh.load_g (by rfl) 60 (.tmp 7) (by rfl) _ 0 (by rfl) ds _ (Wh.range_blk HV.out) Try.underlying60 (by rfl) HIS.out ?_)
     |(go_at_call 20;refine Calls.mono (CX.out _ HG.out) ?_;rintro e w1 ⟨rfl,hb⟩;replace HV:=Lib.hid (HV.out.below hb);replace HO:=Lib.hid (own_kept HO.out hb);replace HG:=Lib.hid (g_then HG.out hb);clear hb)
     |(refine wpList_store_mid (by rfl) 60 (.tmp 33) (.tmp 32) (by rfl) g (i*39) ds (by rfl) (by rfl) (by rw[EDS.out,enA_size];exact HTH.out _ HO.out) HIS.out H1X.out ?_;replace HO:=Lib.hid (HRS.out _ HO.out);replace HG:=Lib.hid (Wh.g_cells (.inl rfl) ds.toList (i*39) _ HG.out))
     |fail)
    go_roundw
    case rel=>exact⟨i+1,j+1,cs.set i x,by go_num,by go_num,by omega,by omega,by rw[List.length_set];exact HCS.out,by rw[HRT.out,set_take _ _ _ (by have:=HCS.out;omega),HTK.out];simp,fun q hq=>by rw[List.getElem?_set_ne (by omega)];exact HSM.out q (by omega),by rw[List.length_set];exact HO.out,HG.out⟩
    case measure=>simp [intOf];omega
  ·have e1:¬(j:Int)<(n:Int):=by omega
   obtain rfl:n=j:=by omega
   have e4:(0:Int)≤(i:Int):=by omega
   have hcut:=fun(vs:List Value) (h:vs.length=(n - i)*39)=>row_cut enC_length HO.out (show i≤cs.length by have:=HCS.out;omega) vs (by have:=HCS.out;omega)
   obtain⟨vs,hvs,hcl⟩:=HCL.out wr 0 (i*39) (n - i) (cap - i) (row_there HO.out _ _ (by have:=HCS.out;omega))
   have ho2:=hcut vs hvs
   have hg2:=Wh.g_cells (row:=some g) (g:=g) (.inl rfl) vs (i*39) _ HG.out
   have hrow:List.take i cs=restE p t es:=by rw[HTK.out,List.take_of_length_le (by rw[←EN.out];exact Nat.le_refl _)]
   have hrl:(restE p t es).length=i:=by rw[←hrow,List.length_take];have:=HCS.out;omega
   rw[hrow] at ho2
   have e5:(i:Int)≤(n:Int):=by omega
   have e6:(n:Int)≤(cap:Int):=by have:=HCAP.out;omega
   have hcl2:∀ty,(Builtin.clear_ #[55] ty #[.slice (some ⟨g,i*39,none⟩) (n - i) (cap - i)]).run Try.prog wr = .ok (.tuple #[]) (wr.setCells g (i*39) vs):=fun _=>hcl
   have H1:=Lib.hid ho2;have H2:=Lib.hid hg2;have H3:=Lib.hid hrl
   clear ho2 hg2 hrow hrl hcl hcut hvs HO HG HTK HSM
   go_wp2
   go_ret
   exact⟨by rw[H3.out];rfl,by rw[H3.out];exact H1.out,H2.out⟩
theorem delf_any (es:List En) (p:Pr) (t:Int) (bn bp B:Nat) (v:Value) (w:World) (ho:w.ownsRow B 60 39 v es.length (es.flatMap enC)) (hB:B≤w.heap.size) (ht:w.cell? ⟨bn,0,none⟩=some (.int .i64 t)) (hp:Blk w bp 31 #[.string ⟨p.1.toArray⟩,.string ⟨p.2.toArray⟩])
  (hbn:v.ownBlock≠some bn) (hbp:v.ownBlock≠some bp) (hl:es.length≤1000) :
  Calls Try.prog 19 #[v,.func (.func 20) #[] #[.pointer (some ⟨bn,0,none⟩),.pointer (some ⟨bp,0,none⟩)]] w fun e w'=>∃v',e = .returned v'∧
   w'.ownsRow B 60 39 v' (restE p t es).length ((restE p t es).flatMap enC)∧w.grownBy w' v.ownBlock∧v'.ownBlock=v.ownBlock:=by
 cases hi:goI p t es with
 |none=>
  have he:=restE_none hi
  obtain⟨A,c,rfl,_,_,hr⟩:=own_rdr enC_length ho
  have CI:=idx_any es p t bn bp A c w.heap.size w hr (Nat.le_refl _) ht hp hl
  rw[hi,show goN none = -1 from rfl] at CI
  have HO:=Lib.hid ho
  rw[he]
  obtain⟨n,en⟩:∃n,n=es.length:=⟨_,rfl⟩
  rw[←en] at CI HO⊢
  clear hi ht hp hbn hbp hl hr he en ho
  go_enter Try.func19,Try.ntmps19
  go_wp2_with (first
   |(go_at_call 24;refine Calls.mono CI ?_;rintro e w1 ⟨rfl,hb⟩;have HB:=Lib.hid hb;clear hb CI)
   |fail)
  go_ret
  exact⟨_,rfl,own_kept HO.out HB.out,g_of_below HB.out _,rfl⟩
 |some i0=>
  rcases ho.2 with⟨rfl,h2⟩ | ⟨g,cap,cur,rfl,_⟩
  ·obtain⟨x,hx,_⟩:=goI_spec hi
   have:=(List.getElem?_eq_some_iff.1 hx).1
   omega
  ·refine(delf_some es p t bn bp g cap B i0 w ho hB ht hp (fun e=>hbn (e▸rfl)) (fun e=>hbp (e▸rfl)) hl hi).mono ?_
   rintro e w' ⟨rfl,h1,h2⟩
   exact⟨_,rfl,h1,h2,rfl⟩
end Go.Proofs.Ytlacoakelliabaa.Ca
end
