import Derived.Test.YtlfmicidppccnaaGreatZClientNew4
set_option maxHeartbeats 25600000
set_option maxRecDepth 100000
set_option linter.unusedVariables false
set_option linter.unusedSimpArgs false
namespace Go.Proofs.YtlfmicidppccnaaGreat
namespace Wh
open Go.RowKit Ad
section
variable {w w':World} {g o:Nat} {t:TypeId} {cs ds ps:Array Value} {pre mid post:List Value}
theorem Ak (h:Blk w g t cs):w.rangeAt g 0 cs.toList:=fun j v hv=>by
 rw[Nat.zero_add,h.cell];simpa using hv
theorem AU (h:Blk w g t cs) (o n:Nat) (hn:o+n≤cs.size):w.there g o n:=fun j hj=>by
 rw[h.cell,Array.getElem?_eq_getElem (by omega)];exact⟨rfl,h.frozen (o+j)⟩
theorem AB {g:Nat} {t:TypeId}:∀(vs:List Value) (o:Nat) (w:World) (cs:Array Value),Blk w g t cs→o+vs.length≤cs.size→
  ∃ds:Array Value,Blk (w.setCells g o vs) g t ds∧ds.size=cs.size∧(∀i,o≤i→i<o+vs.length→ds[i]? = vs[i - o]?)∧(∀i,i<o∨o+vs.length≤i→ds[i]? = cs[i]?)
 | [],o,w,cs,h,hl=>⟨cs,h,rfl,fun i h1 h2=>by simp at h2;omega,fun i _=>rfl⟩
 |v :: r,o,w,cs,h,hl=>by
  rw[World.setCells];simp only[List.length_cons] at hl;obtain⟨ds,h1,h2,h3,h4⟩:=AB r (o+1) _ _ (h.set o v) (by simp;omega);simp only[List.length_cons];refine⟨ds,h1,by simpa using h2,fun i hi hj=>?_,fun i hi=>?_⟩
  ·by_cases e:i=o
   ·subst e
    rw[h4 i (by omega),Nat.sub_self];rw[Array.getElem?_setIfInBounds_self_of_lt (by omega)]
    rfl
   ·rw[h3 i (by omega) (by omega),show i - o=(i - (o+1))+1 by omega]
    simp
  ·rw[h4 i (by omega)]
   exact Array.getElem?_setIfInBounds_ne (by omega)
theorem AN (h:Blk w g t cs) (hs:cs.size=ds.size):Blk (w.setCells g 0 ds.toList) g t ds:=by
 obtain⟨es,h1,h2,h3,_⟩:=AB ds.toList 0 w cs h (by simp;omega);have e:es=ds:=by
  apply Array.ext_getElem?;intro i
  by_cases hi:i<ds.size
  ·rw[h3 i (by omega) (by simp;omega)];simp
  ·rw[Array.getElem?_eq_none (by omega),Array.getElem?_eq_none (by omega)]
 rw[←e];rw[←e] at h1;exact h1
theorem CG {row:Option Nat} {a:World} {g:Nat} (hp:row=some g∨a.heap.size≤g):∀(vs:List Value) (o:Nat) (w:World),a.grownBy w row→a.grownBy (w.setCells g o vs) row
 | [],_,_,h=>h
 |v :: r,o,w,h=>by rw[World.setCells];exact CG hp r (o+1) _ (IH h (p:=⟨g,o,none⟩) hp v)
theorem By (w:World) (g o:Nat) (vs:List Value):w.grownBy (w.setCells g o vs) (some g):=CG (.inl rfl) vs o w (World.grownBy.refl _ _)
end
section
variable {P:Program} {ops:Array Oper} {rest:List Oper} {op:Oper} {a:Act} {w:World} {Q:Exit→Act→World→Prop}
theorem Ab (hw:Region.wanted op (yielded ops a.tmps)=true) (ty:TypeId) (x:Operand) (ho:op.op = .load ty x)
  (g o:Nat) (hx:a.eval x = .pointer (some ⟨g,o,none⟩)) (cs:Array Value) (d:TypeDesc) (hc:w.rangeAt g o cs.toList)
  (hu:P.underlying ty=some d) (hd:d.isRow=true) (hi:(P.info? ty).map (·.size)=some cs.size)
  (h:wpList P ops Q rest (a.put op.dst (.agg cs)) w):wpList P ops Q (op :: rest) a w:=
 BigFrame.wpList_want hw fun _ hK=>wp_load_mid ty x ho g o hx cs.toList d hc hu hd (by rw[Array.length_toList];exact hi) (by simpa using hK _ _ h)
theorem Gj (w:World) (t:TypeId) (lit cs:Array Value) (hs:lit.size=cs.size):Blk ((w.alloc (.cells lit t)).setCells w.heap.size 0 cs.toList) w.heap.size t cs∧Below w.heap.size w ((w.alloc (.cells lit t)).setCells w.heap.size 0 cs.toList):=
 ⟨AN (Blk.new w t lit) hs,AV ((Below.refl w.heap.size w).alloc Ae _) (By _ _ _ _) (by simp) Ae⟩
theorem AG {w0:World} {lit:Array Value} (hgd:op.guard=none) (ty:TypeId) (x y:Operand) (ho:op.op = .store ty x y) (t:TypeId) (hw:w=w0.alloc (.cells lit t))
  (cells:Array Value) (hx:a.eval x = .pointer (some ⟨w0.heap.size,0,none⟩)) (hy:a.eval y = .agg cells) (hs:lit.size=cells.size)
  (hi:(P.info? ty).map (·.size)=some cells.size) (h1:cells.all (·.oneCell')=true)
  (h:∀V,Blk V w0.heap.size t cells→Below w0.heap.size w0 V→wpList P ops Q rest (a.put op.dst undef) V):wpList P ops Q (op :: rest) a w:=by
 subst hw;have hV:=Gj w0 t lit cells hs;exact wpList_store_mid hgd ty x y ho w0.heap.size 0 cells hx hy (AU (Blk.new w0 t lit) _ _ (by omega)) hi h1 (h _ hV.1 hV.2)
theorem BZ (hgd:op.guard=none) (ty:TypeId) (x y:Operand) (ho:op.op = .store ty x y) (g:Nat) (t:TypeId) (old:Array Value) (hb:Blk w g t old)
  (cells:Array Value) (hx:a.eval x = .pointer (some ⟨g,0,none⟩)) (hy:a.eval y = .agg cells) (hs:old.size=cells.size)
  (hi:(P.info? ty).map (·.size)=some cells.size) (h1:cells.all (·.oneCell')=true)
  (h:∀V,Blk V g t cells→w.grownBy V (some g)→wpList P ops Q rest (a.put op.dst undef) V):wpList P ops Q (op :: rest) a w:=
 wpList_store_mid hgd ty x y ho g 0 cells hx hy (AU hb _ _ (by omega)) hi h1 (h _ (AN hb hs) (By _ _ _ _))
theorem An {fn:Func} {tmps:Array Value} {w:World} {v:Value} (t:Nat) (ty:TypeId) (a:Addr) (hres:fn.results=#[.cell t ty]) (ht:tmps.getD t undef = .pointer (some a)) (hl:(loadVar ty a).run P w = .ok v w) :
  (results fn tmps).run P w = .ok v w:=by
 have ht':tmps[t]?.getD undef = .pointer (some a):=by simpa using ht
 simp [results,hres,ht',asAddr,hl]
theorem Ar {g:Nat} {t ty:TypeId} {cs:Array Value} {d:TypeDesc} (h:Blk w g t cs) (hu:P.underlying ty=some d) (hd:d.isRow=true) (hi:(P.info? ty).map (·.size)=some cs.size) :
  (loadVar ty ⟨g,0,none⟩).run P w = .ok (.agg cs) w:=by
 have:=run_loadVar_mid (P:=P) w g 0 ty cs.toList d (Ak h) hu hd (by simpa using hi)
 simpa using this
theorem Bq {w':World} {o:Oper} {g:Nat} {t ty:TypeId} {cs:Array Value} {d:TypeDesc} (x:Operand) (ho:o.op = .load ty x) (hx:a.eval x = .pointer (some ⟨g,0,none⟩)) (h:Blk w' g t cs) (hu:P.underlying ty=some d) (hd:d.isRow=true) (hi:(P.info? ty).map (·.size)=some cs.size) :
  (execOp a.eval o).run P w' = .ok (.value (.agg cs)) w':=by
 unfold execOp;simp only[ho,hx,Instr.loadAt,Instr.sureAddr,Sem.run_bind,Sem.run_pure,Result.andThen_ok,Ar h hu hd hi]
end
section
variable {P:Program}
end
end Wh
namespace Rg
open Go.RowKit Ad Se
abbrev prC (p:Pr):List Value:=[.string ⟨p.1.toArray⟩,.string ⟨p.2.toArray⟩]
abbrev prV (p:Pr):Value:=.agg #[.string ⟨p.1.toArray⟩,.string ⟨p.2.toArray⟩]
structure Ent where
 it:It
 b:Nat
 h:Option Nat
 a:Nat
 o:Nat
 r:Nat
theorem Ey {α:Type} (f:α→List Value) (n:Nat) (h:∀x,(f x).length=n):∀(l:List α) (i:Nat) (x:α),l[i]? = some x→∀j v,(f x)[j]? = some v→(l.flatMap f)[i*n+j]? = some v
 | [],i,x,hx,_,_,_=>by simp at hx
 |a :: l,0,x,hx,j,v,hv=>by
  injection hx with hx;subst hx;have:=(List.getElem?_eq_some_iff.1 hv).1;rw[List.flatMap_cons,Nat.zero_mul,Nat.zero_add,List.getElem?_append_left this];exact hv
 |a :: l,i+1,x,hx,j,v,hv=>by
  rw[List.flatMap_cons,List.getElem?_append_right (by rw[h,Nat.succ_mul];omega),h,show(i+1)*n+j - n=i*n+j by rw[Nat.succ_mul];omega];exact Ey f n h l i x hx j v hv
def RdR {α:Type} (w:World) (B:Nat) (A:Option Addr) (f:α→List Value) (n:Nat) (l:List α):Prop:=
 l = []∨∃g,A=some ⟨g,0,none⟩∧g<B∧∀i x,l[i]? = some x→w.rangeAt g (i*n) (f x)
theorem RdR.keep {α:Type} {w w':World} {B:Nat} {A:Option Addr} {f:α→List Value} {n:Nat} {l:List α} (h:RdR w B A f n l) (hb:Below B w w'):RdR w' B A f n l:=by
 rcases h with h | ⟨g,h1,h2,h3⟩
 ·exact .inl h
 ·exact .inr ⟨g,h1,h2,fun i x hx j v hv=>(hb.cell (p:=⟨g,_,none⟩) h2).trans (h3 i x hx j v hv)⟩
theorem RdR.at_ {α:Type} {w:World} {B:Nat} {A:Option Addr} {f:α→List Value} {n:Nat} {l:List α} {i:Nat} {x:α} (h:RdR w B A f n l) (hx:l[i]? = some x):∃g,A=some ⟨g,0,none⟩∧g<B∧w.rangeAt g (i*n) (f x):=by
 rcases h with h | ⟨g,h1,h2,h3⟩
 ·subst h;simp at hx
 ·exact⟨g,h1,h2,h3 i x hx⟩
theorem CH {α:Type} {w:World} {base:Nat} {t:TypeId} {v:Value} {f:α→List Value} {n:Nat} {l:List α} (hn:∀x,(f x).length=n) (h:w.ownsRow base t n v l.length (l.flatMap f)):∃A c,v = .slice A l.length c∧l.length≤c∧c≤maxLen∧RdR w w.heap.size A f n l:=by
 have h':=h;rcases h.2 with⟨h1,h2⟩ | ⟨g,cap,cur,h1,hg,hh,hc,hm,_⟩
 ·have e:l = []:=List.eq_nil_of_length_eq_zero h2
  subst e;exact⟨none,0,h1,Nat.le_refl _,Nat.zero_le _,.inl rfl⟩
 ·subst h1
  refine⟨_,cap,rfl,hc,hm,.inr ⟨g,rfl,(Array.getElem?_eq_some_iff.1 hh).1,fun i x hx j v hv=>?_⟩⟩;have h1:=h'.cells (g:=g) rfl (i*n+j) v (Ey f n hn l i x hx j v hv);rw[addr_add,Nat.zero_add] at h1;exact h1
theorem BV {S:Nat→Prop} {w w':World} {base size n:Nat} {t:TypeId} {v:Value} {xs:List Value} (h:Chg S w w') (ho:w.ownsRow base t size v n xs) (hs:∀k,v.ownBlock=some k→¬S k):w'.ownsRow base t size v n xs:=by
 refine⟨ho.1,?_⟩;rcases ho.2 with hn | ⟨g,cap,cur,rfl,hb,hgg,rest⟩
 ·exact .inl hn
 ·exact .inr ⟨g,cap,cur,rfl,hb,(h.block g (Array.getElem?_eq_some_iff.1 hgg).1 (hs g rfl)).trans hgg,rest⟩
def its (es:List Ent):List It:=es.map (·.it)
theorem CJ (es:List Ent):(its es).length=es.length:=by simp [its]
section
variable {w w':World} {B r:Nat} {v v':Value} {es:List Ent} {S:Nat→Prop}
end
theorem Ix (x y:Pr) (w:World):(Op.equalIn 10000 40 (.agg #[.string ⟨x.1.toArray⟩,.string ⟨x.2.toArray⟩]) (.agg #[.string ⟨y.1.toArray⟩,.string ⟨y.2.toArray⟩])).run Tryz.prog w = .ok (decide (x=y)) w:=by
 obtain⟨a,b⟩:=x;obtain⟨c,d⟩:=y;simp only
 by_cases h0:a=c
 ·subst h0
  by_cases h1:b=d
  ·subst h1
   rw[decide_eq_true rfl]
   go_simp
  ·rw[decide_eq_false (fun h=>h1 (congrArg (fun z=>z.2) h))]
   go_simp
 ·rw[decide_eq_false (fun h=>h0 (congrArg (fun z=>z.1) h))]
  go_simp
theorem Bl {x y:Pr} (h:x=y):∀w,(Op.equalIn 10000 40 (.agg #[.string ⟨x.1.toArray⟩,.string ⟨x.2.toArray⟩]) (.agg #[.string ⟨y.1.toArray⟩,.string ⟨y.2.toArray⟩])).run Tryz.prog w = .ok true w:=fun w=>by rw[Ix,decide_eq_true h]
theorem BF {x y:Pr} (h:x≠y):∀w,(Op.equalIn 10000 40 (.agg #[.string ⟨x.1.toArray⟩,.string ⟨x.2.toArray⟩]) (.agg #[.string ⟨y.1.toArray⟩,.string ⟨y.2.toArray⟩])).run Tryz.prog w = .ok false w:=fun w=>by rw[Ix,decide_eq_false h]
theorem AD:(Tryz.prog.info? 40).map (·.size)=some 2:=by kernel_rfl
def kC (k:Nat→UInt8):List Value:=(Az k).toList
def OwnK (w:World) (base:Nat) (v:Value) (K:List (Nat→UInt8)):Prop:=w.ownsRow base 35 32 v K.length (K.flatMap kC)
end Rg
namespace Ca
open Go.RowKit Ad Se
open Rg (Pr prC prV Ey RdR CH BV)
section
variable {α:Type} {f:α→List Value} {n:Nat}
variable {w:World} {B g cap:Nat} {t:TypeId} {l:List α}
end
structure En where
 p:Pr
 x:Cr
 A:Option Addr
 c:Nat
def En.it (e:En):It:=(e.p,e.x)
def crC (x:Cr) (A:Option Addr) (c:Nat):List Value:=.string ⟨x.s.1.toArray⟩ :: .string ⟨x.s.2.toArray⟩ :: .int .i64 x.n :: .slice A x.b.length c :: ((Az x.k).toList++[.int .i64 x.e])
def crA (x:Cr) (A:Option Addr) (c:Nat):Array Value:=(crC x A c).toArray
def enC (e:En):List Value:=.string ⟨e.p.1.toArray⟩ :: .string ⟨e.p.2.toArray⟩ :: crC e.x e.A e.c
def enA (e:En):Array Value:=(enC e).toArray
theorem Dv (x:Cr) (A:Option Addr) (c:Nat):(crC x A c).length=37:=by simp [crC,Bd]
theorem Ag (x:Cr) (A:Option Addr) (c:Nat):(crA x A c).size=37:=by simp [crA,Dv]
theorem Dw (e:En):(enC e).length=39:=by simp [enC,Dv]
theorem Da (e:En):(enA e).size=39:=by simp [enA,Dw]
theorem Gk (x:Cr) (A:Option Addr) (c:Nat):∀u∈crC x A c,u.oneCell'=true:=by
 intro u hu;simp only[crC,List.mem_cons,List.mem_append,List.not_mem_nil,or_false] at hu;rcases hu with h | h | h | h | h | h
 ·subst h;rfl
 ·subst h;rfl
 ·subst h;rfl
 ·subst h;rfl
 ·have:=one32 x.k
  rw[Array.all_eq_true_iff_forall_mem] at this;exact this u (Array.mem_def.2 h)
 ·subst h;rfl
theorem Jh (e:En):∀u∈enC e,u.oneCell'=true:=by
 intro u hu;simp only[enC,List.mem_cons] at hu;rcases hu with h | h | h
 ·subst h;rfl
 ·subst h;rfl
 ·exact Gk _ _ _ u h
theorem AX (x:Cr) (A:Option Addr) (c:Nat):(crA x A c).all (·.oneCell')=true:=by
 rw[Array.all_eq_true_iff_forall_mem];intro u hu;exact Gk x A c u (by simpa [crA] using hu)
theorem Ji (e:En):(enA e).all (·.oneCell')=true:=by
 rw[Array.all_eq_true_iff_forall_mem];intro u hu;exact Jh e u (by simpa [enA] using hu)
theorem Dx (e:En):(enA e).toList=enC e:=by simp [enA]
theorem Dy (x:Cr) (A:Option Addr) (c:Nat):(crA x A c).toList=crC x A c:=by simp [crA]
section
variable {w:World} {g o:Nat} {e:En} {x:Cr} {A:Option Addr} {c:Nat}
theorem Jj (h:w.rangeAt g o (enC e)):w.rangeAt g o (#[.string ⟨e.p.1.toArray⟩,.string ⟨e.p.2.toArray⟩]:Array Value).toList:=fun j u hu=>by
 have hj:j<2:=by have:=(List.getElem?_eq_some_iff.1 hu).1;simpa using this
 refine h j u ?_;rw[←hu];rcases j with _ | _ | j
 ·rfl
 ·rfl
 ·omega
theorem Hk (h:w.rangeAt g o (enC e)):w.rangeAt g (o+2) (crC e.x e.A e.c):=fun j u hu=>by
 have:=h (j+2) u (by simpa [enC] using hu);rw[show o+2+j=o+(j+2) by omega];exact this
theorem Kc (h:w.rangeAt g o (crC x A c)):w.cell? ⟨g,o+36,none⟩=some (.int .i64 x.e):=by
 refine h 36 _ ?_;rw[crC];simp only[List.getElem?_cons_succ];rw[List.getElem?_append_right (by simp [Bd]),Array.length_toList,Bd]
 rfl
theorem cr_b (h:w.rangeAt g o (crC x A c)):w.cell? ⟨g,o+3,none⟩=some (.slice A x.b.length c):=h 3 _ rfl
theorem cr_sv (h:w.rangeAt g o (crC x A c)):w.rangeAt g o (#[.string ⟨x.s.1.toArray⟩,.string ⟨x.s.2.toArray⟩]:Array Value).toList:=fun j u hu=>by
 have hj:j<2:=by have:=(List.getElem?_eq_some_iff.1 hu).1;simpa using this
 refine h j u ?_;rw[←hu];rcases j with _ | _ | j
 ·rfl
 ·rfl
 ·omega
end
theorem Gl {w:World} {g o:Nat} {e:En} (h:w.rangeAt g o (enC e)):w.cell? ⟨g,o+38,none⟩=some (.int .i64 e.x.e):=Kc (Hk h)
theorem Gm {w:World} {g:Nat} {t:TypeId} {e:En} (h:Blk w g t (enA e)):w.rangeAt g 0 (enC e):=by
 have:=Wh.Ak h
 rwa [Dx] at this
theorem Iy {w:World} {g:Nat} {t:TypeId} {x:Cr} {A:Option Addr} {c:Nat} (h:Blk w g t (crA x A c)):w.rangeAt g 0 (crC x A c):=by
 have:=Wh.Ak h
 rwa [Dy] at this
def its (es:List En):List It:=es.map (·.it)
theorem CJ (es:List En):(its es).length=es.length:=by simp [its]
structure Ca (w:World) (B r:Nat) (v:Value) (es:List En):Prop where
 blk:Blk w r 168 #[v]
 row:w.ownsRow B 170 39 v es.length (es.flatMap enC)
 lo:B≤r
 vr:v.ownBlock≠some r
 rd:∀e∈es,Rd w w.heap.size e.A (bvs e.x.b)
 off:∀e∈es,∀a,e.A=some a→B≤a.block∧a.block≠r∧v.ownBlock≠some a.block∧a.block<w.heap.size
def CO (r:Nat) (v:Value) (es:List En) (k:Nat):Prop:=k=r∨v.ownBlock=some k∨∃e∈es,∃a,e.A=some a∧a.block=k
abbrev PT (r:Nat) (v:Value) (q:Nat):Prop:=q=r∨v.ownBlock=some q
section
variable {w w':World} {B r:Nat} {v v':Value} {es es':List En} {S:Nat→Prop}
theorem Ca.lt (h:Ca w B r v es):r<w.heap.size:=h.blk.lt
theorem Ca.big (h:Ca w B r v es):B≤w.heap.size:=by have:=h.lo;have:=h.lt;omega
theorem Ca.own_lt (h:Ca w B r v es) {k:Nat} (hk:CO r v es k):k<w.heap.size:=by
 rcases hk with hk | hk | ⟨e,he,a,ha,hk⟩
 ·subst hk;exact h.lt
 ·exact(World.ownsRow.lt h.row k hk).2
 ·exact hk▸(h.off e he a ha).2.2.2
theorem Iz {A:Option Addr} {xs:List Value} (h:Rd w w.heap.size A xs) (hc:Chg S w w') (hs:∀a,A=some a→¬S a.block):Rd w' w'.heap.size A xs:=by
 rcases h with h | ⟨b,o,h1,h2,h3⟩
 ·exact .inl h
 ·exact .inr ⟨b,o,h1,Nat.lt_of_lt_of_le h2 hc.size,fun i u hu=>(World.cell?_of_block (a:=⟨b,o+i,none⟩) (hc.block b h2 (hs _ h1))).trans (h3 i u hu)⟩
theorem Ca.chg (h:Ca w B r v es) (hc:Chg S w w') (hs:∀k,CO r v es k→¬S k):Ca w' B r v es:=
 ⟨hc.blk h.blk (hs r (.inl rfl)),BV hc h.row (fun k hk=>hs k (.inr (.inl hk))),h.lo,h.vr,
  fun e he=>Iz (h.rd e he) hc (fun a ha=>hs _ (.inr (.inr ⟨e,he,a,ha,rfl⟩))),
  fun e he a ha=>have q:=h.off e he a ha;⟨q.1,q.2.1,q.2.2.1,Nat.lt_of_lt_of_le q.2.2.2 hc.size⟩⟩
theorem Ca.below (h:Ca w B r v es) (hb:Below w.heap.size w w'):Ca w' B r v es:=h.chg (S:=fun _=>False) (Chg.of_below hb) (fun _ _ x=>x)
theorem Ca.num (h:Ca w B r v es):∃A c,v = .slice A es.length c∧es.length≤c∧c≤maxLen∧RdR w w.heap.size A enC 39 es:=CH Dw h.row
end
end Ca
namespace Ca
open Go.RowKit Ad Se
open Nm (L)
open Rg (Pr prC prV AD RdR CH Bl BF)
theorem Jk:(Tryz.prog.info? 170).map (·.size)=some 39:=by kernel_rfl
end Ca
namespace Ca
open Go.RowKit Ad Se
open Nm (L)
open Rg (Pr prC prV AD)
theorem Hl (n:Nat) (hn:n≤140737488351232) (w:World):(Instr.makeSlice 27 (.int .i64 (n:Int)) (.int .i64 (n:Int))).run Tryz.prog w = .ok (.slice (some ⟨w.heap.size,0,none⟩) n n) (w.alloc (.cells (Be n) 5)):=by
 obtain⟨i0,hi,hz,hs,hb⟩:=info_parts Nm.Dt;have h:=run_make (P:=Tryz.prog) w 27 5 i0 _ Tryz.underlying27 hi hz .i64 .i64 (n:Int) (n:Int) (by omega) (by omega) (by rw[hb];omega) (by omega);have e:madeCells (Value.int .u8 0).cells (((n:Int)).toNat*i0.size)=Be n:=by
  rw[hs,Nat.mul_one,Int.toNat_natCast];refine Array.toList_inj.1 ?_;show(madeCells #[Value.int .u8 0] n).toList=_;rw[toList_madeCells_one];simp [Be,bv]
 rw[e] at h
 simpa using h
theorem Hm (s:L) (h0:s≠[]) (hs:s.length≤140737488351232) (w:World):(Builtin.unsafeString_ #[256,3] 9 #[.pointer (some ⟨w.heap.size,0,none⟩),.int .i64 (s.length:Int)]).run Tryz.prog (w.alloc (.cells (bvs s).toArray 5)) = .ok (.string ⟨s.toArray⟩) ((w.alloc (.cells (bvs s).toArray 5)).freeze ⟨w.heap.size,0,none⟩ s.length):=by
 obtain⟨i0,hi,_,hz,_⟩:=info_parts Nm.Dt;have hk:=Blk.new w 5 (bvs s).toArray;refine Lib.run_unsafeString_row (P:=Tryz.prog) _ _ _ _ 5 Tryz.underlying256 (by simp [Program.cellsOf,hi,hz]) w.heap.size s.length ?_ s h0 Ae (by omega) fun j x hx=>?_
 ·unfold World.shape?
  rw[show(w.alloc (.cells (bvs s).toArray 5)).heap[w.heap.size]? = _ from hk];simp [AZ]
 ·obtain⟨hj,e⟩:=List.getElem?_eq_some_iff.1 hx
  rw[addr_add,Nat.zero_add,hk.cell,List.getElem?_toArray,FN hj,e];rfl
theorem Fu (s:L) (w:World) (hlim:s.length≤140737488351232):Calls Tryz.prog 129 #[.string ⟨s.toArray⟩] w fun e w'=>e = .returned (.string ⟨s.toArray⟩)∧Below w.heap.size w w':=by
 by_cases h0:s = []
 ·subst h0
  go_enter Tryz.func129,Tryz.ntmps129
  go_wp2
  go_ret;exact⟨rfl,Below.refl _ _⟩
 ·have hmk:=Hl s.length hlim w
  have hcp:=Nm.EV s w;have hus:=Hm s h0 hlim w;have hl:1≤s.length:=by
   cases s with
   |nil=>exact absurd rfl h0
   |cons a r=>simp
  have t0:((s.length:Int)==0)=false:=by simp;omega
  have HB:=I (Lib.below_freeze ((Below.refl w.heap.size w).alloc Ae (.cells (bvs s).toArray 5)) (p:=⟨w.heap.size,0,none⟩) Ae s.length);clear h0;go_enter Tryz.func129,Tryz.ntmps129
  go_wp2
  go_ret;exact⟨rfl,HB.o⟩
theorem BG (s:L) (w:World) (hlim:s.length≤140737488351232):Calls Tryz.prog 87 #[.string ⟨s.toArray⟩] w fun e w'=>e = .returned (.string ⟨s.toArray⟩)∧Below w.heap.size w w':=by
 have c1:=Fu s w hlim;go_enter Tryz.func87,Tryz.ntmps87
 go_wp2_with (go_at_call 129;refine Calls.mono c1 ?_;rintro e w' ⟨rfl,hb⟩)
 go_ret;exact⟨rfl,hb⟩
theorem Hn (p:Pr) (w:World) (h1:p.1.length≤140737488351232) (h2:p.2.length≤140737488351232):Calls Tryz.prog 123 #[prV p] w fun e w'=>e = .returned (prV p)∧Below w.heap.size w w':=by
 have C1:=I (fun w1=>BG p.1 w1 h1);have C2:=I (fun w1=>BG p.2 w1 h2);go_enter Tryz.func123,Tryz.ntmps123
 go_upto_region 1 with fail
 obtain⟨W,eW⟩:∃W,W=(w.alloc (.cells #[.string ⟨p.1.toArray⟩,.string ⟨p.2.toArray⟩] 40)).alloc (.cells #[.string ⟨#[]⟩,.string ⟨#[]⟩] 40):=⟨_,rfl⟩;have hq:=Blk.new (w.alloc (.cells #[.string ⟨p.1.toArray⟩,.string ⟨p.2.toArray⟩] 40)) 40 #[.string ⟨#[]⟩,.string ⟨#[]⟩];rw[show(w.alloc (.cells #[.string ⟨p.1.toArray⟩,.string ⟨p.2.toArray⟩] 40)).heap.size=w.heap.size+1 by simp,←eW] at hq;have HK:=I (show Blk W w.heap.size 40 #[.string ⟨p.1.toArray⟩,.string ⟨p.2.toArray⟩] by rw[eW];exact(Blk.new _ _ _).alloc _);have HZ:=I hq;have HB:=I (show Below w.heap.size w W by rw[eW];exact(Af.alloc Ae _).alloc (by simp) _);rw[←eW];clear eW hq;replace HK:=I (show Blk W.drew _ _ _ from HK.o.drewN 1);replace HZ:=I (show Blk W.drew _ _ _ from HZ.o.drewN 1);replace HB:=I (show Below _ _ W.drew from below_drewN HB.o 1)
 go_region_held3 (fun w'=>w'.cell? ⟨w.heap.size,0,none⟩=some (.string ⟨p.1.toArray⟩)∧w'.cell? ⟨w.heap.size,1,none⟩=some (.string ⟨p.2.toArray⟩)) (first | exact⟨HK.o.cell 0,HK.o.cell 1⟩ | exact⟨(Si.Blk.far (Si.Blk.far HK.o _ _ (by simp)) _ _ (by simp)).cell 0,(Si.Blk.far (Si.Blk.far HK.o _ _ (by simp)) _ _ (by simp)).cell 1⟩) ((first
  |(go_at_call 87;(with_reducible refine Calls.mono (C1.o _) ?_);rintro e w1 ⟨rfl,hb⟩;clear C1;replace HK:=I (HK.o.below hb);replace HZ:=I (HZ.o.below hb);replace HB:=HB.t hb;have kz0:w1.cell? ⟨w.heap.size+1,0,none⟩=some (.string ⟨#[]⟩):=HZ.o.cell 0;have kz1:w1.cell? ⟨w.heap.size+1,1,none⟩=some (.string ⟨#[]⟩):=HZ.o.cell 1;have fz:=HZ.o.frozen;clear hb)
  |(go_at_call 87;(with_reducible refine Calls.mono (C2.o _) ?_);rintro e w2 ⟨rfl,hb⟩;clear C2 kz0 kz1 fz;replace HK:=I (HK.o.below hb);replace HZ:=I (HZ.o.below hb);replace HB:=HB.t hb;have kz0:w2.cell? ⟨w.heap.size+1,0,none⟩=some (.string ⟨#[]⟩):=HZ.o.cell 0;have kz1:w2.cell? ⟨w.heap.size+1,1,none⟩=some (.string ⟨#[]⟩):=HZ.o.cell 1;have fz:=HZ.o.frozen;clear hb)))
 go_wp2
 have hz:=(HZ.o.set 0 (.string ⟨p.1.toArray⟩)).set 1 (.string ⟨p.2.toArray⟩);rw[show(((#[.string ⟨#[]⟩,.string ⟨#[]⟩]:Array Value).setIfInBounds 0 (.string ⟨p.1.toArray⟩)).setIfInBounds 1 (.string ⟨p.2.toArray⟩))=#[.string ⟨p.1.toArray⟩,.string ⟨p.2.toArray⟩] from rfl] at hz;refine bodyPost_ret (v:=prV p) ?_ ?_ ?_
 ·exact Wh.An (v:=prV p) 2 40 ⟨w.heap.size+1,0,none⟩ Tryz.results123 (by rfl) (Wh.Ar hz Tryz.underlying40 (by rfl) AD)
 ·rfl
 ·exact⟨rfl,Si.AF (Si.AF HB.o (by simp) _) (by simp) _⟩
structure Own1 (a w:World) (A:Option Addr) (xs:List Value):Prop where
 rd:Rd w w.heap.size A xs
 lo:∀p,A=some p→a.heap.size≤p.block∧p.block<w.heap.size
 bk:∀p,A=some p→∃t cur,Blk w p.block t cur
theorem Own1.since {a b w:World} {A:Option Addr} {xs:List Value} (h:Own1 b w A xs) (hs:a.heap.size≤b.heap.size):Own1 a w A xs:=
 ⟨h.1,fun p hp=>have q:=h.2 p hp;⟨Nat.le_trans hs q.1,q.2⟩,h.3⟩
theorem Own1.chg {S:Nat→Prop} {a w w':World} {A:Option Addr} {xs:List Value} (h:Own1 a w A xs) (hc:Chg S w w') (hs:∀p,A=some p→¬S p.block):Own1 a w' A xs:=
 ⟨Iz h.1 hc hs,fun p hp=>have q:=h.2 p hp;⟨q.1,Nat.lt_of_lt_of_le q.2 hc.size⟩,fun p hp=>by obtain⟨t,cur,q⟩:=h.3 p hp;exact⟨t,cur,hc.blk q (hs p hp)⟩⟩
theorem Own1.none (a w:World):Own1 a w .none []:=⟨.inl rfl,(fun p hp=>by cases hp),(fun p hp=>by cases hp)⟩
theorem Own1.of_own {w w':World} {n:Nat} {v:Value} {t:TypeId} {xs:List Value} (h:w'.ownsRow w.heap.size t 1 v n xs):∃A c,v = .slice A n c∧Own1 w w' A xs∧n≤c:=by
 rcases h.2 with⟨h1,h2⟩ | ⟨g,cap,cur,h1,hg,hh,hc,hm,hq,hx⟩
 ·subst h2
  exact⟨_,0,h1,⟨Rd.of_own (n:=0) (cap:=0) (by rw[←h1];exact h),(fun p hp=>by cases hp),(fun p hp=>by cases hp)⟩,Nat.le_refl _⟩
 ·subst h1
  exact⟨_,cap,rfl,⟨Rd.of_own h,(fun p hp=>by injection hp with hp;subst hp;exact⟨hg,(Array.getElem?_eq_some_iff.1 hh).1⟩),(fun p hp=>by injection hp with hp;subst hp;exact⟨t,cur,hh⟩)⟩,hc⟩
theorem Fv (A:Option Addr) (c B:Nat) (l:L) (w:World) (hr:Rd w B A (bvs l)) (hB:B≤w.heap.size) (hl:l.length≤100000000000):Calls Tryz.prog 124 #[.slice A l.length c] w fun e w'=>∃A' c',e = .returned (.slice A' l.length c')∧Own1 w w' A' (bvs l)∧Below w.heap.size w w'∧l.length≤c':=by
 have hsn:=Lib.run_eql_slice_nil (P:=Tryz.prog) w 27 5 A l.length c 0 0 Tryz.underlying27;obtain⟨n,en⟩:∃n,n=l.length:=⟨_,rfl⟩;have EN:=I en;rw[←en] at hsn hl⊢;cases A with
 |none=>
  have hl0:bvs l = []:=by
   rcases hr with h | ⟨b,o,h,_⟩
   ·exact h
   ·cases h
  have hn0:n=0:=by
   have:=congrArg List.length hl0;rw[AZ] at this;exact en.trans this
  rw[hl0];clear hr en hl0;subst hn0;go_enter Tryz.func124,Tryz.ntmps124
  go_wp2
  go_ret;exact⟨none,0,rfl,Own1.none _ _,Below.refl _ _,Nat.le_refl _⟩
 |some a=>
  obtain⟨i0,hi0,hz0,hs0,hb0⟩:=info_parts Nm.Dt;have KI1:=I hi0;have KI2:=I hz0;have KI3:=I hs0;have KI4:=I hb0;have HR:=I hr;have HBB:=I hB;have HL:=I hl;have hb1:Below w.heap.size w (w.alloc (.cells #[] 5)):=Af.alloc Ae _;have HB1:=I hb1;have HO:=I (World.ownsRow_made (base:=w.heap.size) w (e:=5) (size:=1) #[] 0 Ae (by decide) rfl);clear hr en hi0 hz0 hs0 hb0 hB hl hb1;go_enter Tryz.func124,Tryz.ntmps124
  go_wp2_with (first
   |(refine Al _ rfl (.tmp 5) (.tmp 6) 27 rfl w.heap.size 5 i0 _ 1 Tryz.underlying27 KI1.o KI2.o KI3.o KI4.o rfl _ 0 [] rfl HO.o B _ n c (bvs l) rfl (by rw[AZ];exact EN.o) (HR.o.below (HB1.o.mono HBB.o)) (BT _) (by have:=HL.o;unfold maxLen;omega) (by have:=HL.o;omega) HB1.o.size ?_;intro v' w' ho hg hv;rw[Nat.zero_add,List.nil_append] at ho;have HO2:=I ho;have HG2:=I (AV HB1.o hg HB1.o.size Ae);clear ho hg hv)
   |fail)
  go_ret;obtain⟨A',c',rfl,ho,hcap⟩:=Own1.of_own HO2.o;exact⟨A',c',rfl,ho,HG2.o,hcap⟩
theorem AJ:(Tryz.prog.info? 44).map (·.size)=some 37:=by kernel_rfl
def Hj (i:Nat):UInt8:=0
def Bz:Cr:=⟨([],[]),0,[],Hj,0⟩
theorem Ez:crA Bz none 0=#[.string ⟨#[]⟩,.string ⟨#[]⟩,.int .i64 0,.slice none 0 0,.int .u8 0,.int .u8 0,.int .u8 0,.int .u8 0,.int .u8 0,.int .u8 0,.int .u8 0,.int .u8 0,.int .u8 0,.int .u8 0,.int .u8 0,.int .u8 0,.int .u8 0,.int .u8 0,.int .u8 0,.int .u8 0,.int .u8 0,.int .u8 0,.int .u8 0,.int .u8 0,.int .u8 0,.int .u8 0,.int .u8 0,.int .u8 0,.int .u8 0,.int .u8 0,.int .u8 0,.int .u8 0,.int .u8 0,.int .u8 0,.int .u8 0,.int .u8 0,.int .i64 0]:=by rfl
theorem Ho {w:World} {g o:Nat} {t:TypeId} {cs:Array Value} {vs:List Value} (h:Blk w g t cs) (hl:o+vs.length≤cs.size) (hs:∀i u,vs[i]? = some u→cs[o+i]? = some u):Blk (w.setCells g o vs) g t cs:=by
 obtain⟨ds,h1,h2,h3,h4⟩:=Wh.AB vs o w cs h hl;have e:ds=cs:=by
  apply Array.ext_getElem?;intro i
  by_cases g:o≤i∧i<o+vs.length
  ·rw[h3 i g.1 g.2]
   have hi:i - o<vs.length:=by omega
   have:=hs (i - o) _ (List.getElem?_eq_getElem hi);rw[show o+(i - o)=i by omega] at this;rw[List.getElem?_eq_getElem hi,this]
  ·exact h4 i (by omega)
 exact e▸h1
theorem Fw {P:Program} {ops:Array Oper} {rest:List Oper} {op:Oper} {a:Act} {w:World} {Q:Exit→Act→World→Prop} (hgd:op.guard=none) (ty:TypeId) (x y:Operand) (ho:op.op = .store ty x y) (g o:Nat) (t:TypeId) (cs:Array Value) (hb:Blk w g t cs)
  (cells:Array Value) (hx:a.eval x = .pointer (some ⟨g,o,none⟩)) (hy:a.eval y = .agg cells) (hs:o+cells.size≤cs.size) (hi:(P.info? ty).map (·.size)=some cells.size) (h1:cells.all (·.oneCell')=true)
  (hsame:∀i u,cells.toList[i]? = some u→cs[o+i]? = some u) (h:∀V,Blk V g t cs→w.grownBy V (some g)→wpList P ops Q rest (a.put op.dst undef) V):wpList P ops Q (op :: rest) a w:=
 wpList_store_mid hgd ty x y ho g o cells hx hy (Wh.AU hb _ _ hs) hi h1 (h _ (Ho hb (by simpa using hs) hsame) (Wh.By _ _ _ _))
theorem Jl (x:Cr) (A A':Option Addr) (c c':Nat):(crA x A c).setIfInBounds 3 (.slice A' x.b.length c')=crA x A' c':=by
 simp [crA,crC]
theorem Jm (x:Cr) (A:Option Addr) (c B:Nat) (w:World) (hr:Rd w B A (bvs x.b)) (hB:B≤w.heap.size) (h1:x.s.1.length≤140737488351232) (h2:x.s.2.length≤140737488351232) (h3:x.b.length≤100000000000) :
  Calls Tryz.prog 84 #[.agg (crA x A c)] w fun e w'=>∃A' c',e = .returned (.agg (crA x A' c'))∧Own1 w w' A' (bvs x.b)∧Below w.heap.size w w'∧x.b.length≤c':=by
 have C1:=I (fun w1=>Hn x.s w1 h1 h2);have C2:=I (fun(w1:World) (h:Rd w1 B A (bvs x.b)) (hB:B≤w1.heap.size)=>Fv A c B x.b w1 h hB h3);obtain⟨cs,ecs⟩:∃cs,cs=crA x A c:=⟨_,rfl⟩;have ECS:=I ecs;obtain⟨zs,ezs⟩:∃zs,zs=crA Bz none 0:=⟨_,rfl⟩;have EZS:=I ezs;have EZ2:=I (ezs.trans Ez);rw[←ecs];obtain⟨W,eW⟩:∃W,W=(w.alloc (.cells cs 44)).alloc (.cells zs 44):=⟨_,rfl⟩;have HK:=I (show Blk W w.heap.size 44 cs by rw[eW];exact(Blk.new _ _ _).alloc _);have hq:=Blk.new (w.alloc (.cells cs 44)) 44 zs;rw[show(w.alloc (.cells cs 44)).heap.size=w.heap.size+1 by simp,←eW] at hq;have HZ:=I hq;have hb:Below w.heap.size w W:=eW▸(Af.alloc Ae _).alloc (by simp) _;have HB:=I hb;have HR:=I (hr.below (hb.mono hB));have HBB:=I hB;have HSZ:=I (show cs.size=37 by rw[ecs,Ag]);have HZS:=I (show zs.size=37 by rw[ezs,Ag]);have HPR:=I (fun(w1:World) (g:Nat) (h:Blk w1 g 44 cs)=>(cr_sv (Iy (show Blk w1 g 44 (crA x A c) by rw[←ecs];exact h)):w1.rangeAt g 0 (#[.string ⟨x.s.1.toArray⟩,.string ⟨x.s.2.toArray⟩]:Array Value).toList));have HBS:=I (fun(w1:World) (g:Nat) (h:Blk w1 g 44 cs)=>(cr_b (o:=0) (Iy (show Blk w1 g 44 (crA x A c) by rw[←ecs];exact h)):w1.cell? ⟨g,3,none⟩=some (.slice A x.b.length c)));have HS2:=I (show ∀(i:Nat) (u:Value),(#[.string ⟨x.s.1.toArray⟩,.string ⟨x.s.2.toArray⟩]:Array Value).toList[i]? = some u→cs[0+i]? = some u by
  intro i u hu;rw[ecs,crA,List.getElem?_toArray,Nat.zero_add];have hj:i<2:=by have:=(List.getElem?_eq_some_iff.1 hu).1;simpa using this
  rw[←hu];rcases i with _ | _ | i
  ·rfl
  ·rfl
  ·omega)
 have k3:=HBS.o _ _ HK.o;clear hr hB h1 h2 h3 ecs ezs hq hb;go_enter Tryz.func84,Tryz.ntmps84
 go_upto_region 1 with fail
 rw[←EZ2.o,←eW];clear eW EZ2
 go_upto_region 2 with(first
  |(refine Wh.Ab (by rfl) 40 (.tmp 4) (by rfl) _ 0 (by rfl) _ _ (HPR.o _ _ HK.o) Tryz.underlying40 (by rfl) AD ?_)
  |(go_at_call 123;refine Calls.mono (C1.o _) ?_;rintro e w1 ⟨rfl,hb⟩;replace HK:=I (HK.o.below hb);replace HZ:=I (HZ.o.below hb);replace HR:=I (HR.o.below (hb.mono (Nat.le_trans HBB.o HB.o.size)));replace HB:=HB.t hb;clear hb k3)
  |(refine Fw (by rfl) 40 (.tmp 8) (.tmp 6) (by rfl) w.heap.size 0 44 cs HK.o (#[.string ⟨x.s.1.toArray⟩,.string ⟨x.s.2.toArray⟩]:Array Value) (by rfl) (by rfl) (by rw[HSZ.o];simp) AD (by simp [Value.oneCell']) HS2.o ?_;intro W1 hk2 hg;replace HK:=I hk2;replace HZ:=I (HZ.o.grown hg (by simp));replace HR:=I (HR.o.grown hg (Nat.le_trans HBB.o HB.o.size) (fun k hk=>by injection hk with hk;have:=HBB.o;omega));replace HB:=I (btg HB.o hg Ae);clear hg hk2)
  |fail)
 have k3:=HBS.o _ _ HK.o;have f3:=HK.o.frozen 3
 go_upto_region 3 with(first
  |(go_at_call 124;refine Calls.mono (C2.o _ HR.o (Nat.le_trans HBB.o HB.o.size)) ?_;rintro e w2 ⟨A',c',rfl,ho,hb,hcap⟩;have HCAP:=I hcap;clear k3 f3 hcap;have HO:=I ho;replace HK:=I (HK.o.below hb);have HNE:=I (show ∀p,A'=some p→p.block≠w.heap.size∧p.block≠w.heap.size+1 from fun p hp=>by have:=HZ.o.lt;have:=(ho.2 p hp).1;omega);replace HZ:=I (HZ.o.below hb);replace HO:=I (ho.since HB.o.size);replace HB:=HB.t hb;have k3:=HBS.o _ _ HK.o;have f3:=HK.o.frozen 3;clear hb ho)
  |fail)
 obtain⟨W2,eW2⟩:∃W2,W2=w2.setCell ⟨w.heap.size,3,none⟩ (.slice A' x.b.length c'):=⟨_,rfl⟩;have hk2:=HK.o.set 3 (.slice A' x.b.length c');rw[ECS.o,Jl,←eW2] at hk2;have hg:w2.grownBy W2 (some w.heap.size):=eW2▸IH (World.grownBy.refl w2 _) (p:=⟨w.heap.size,3,none⟩) (.inl rfl) _;have hc:Chg (fun k=>k=w.heap.size) w2 W2:=Chg.of_grown hg rfl;replace HO:=I (HO.o.chg hc (fun p hp=>(HNE.o p hp).1));replace HZ:=I (HZ.o.grown hg (by simp));replace HB:=I (btg HB.o hg Ae);rw[←eW2];clear k3 f3 HK hg hc HSZ HPR HBS HS2 C1 C2 eW2;obtain⟨ds,eds⟩:∃ds,ds=crA x A' c':=⟨_,rfl⟩;rw[←eds] at hk2;have HK:=I hk2;have HDS:=I (show ds.size=37 by rw[eds,Ag]);have HDI:=I (show(Tryz.prog.info? 44).map (·.size)=some ds.size by rw[eds,Ag];exact AJ);have HD1:=I (show ds.all (·.oneCell')=true by rw[eds];exact AX _ _ _);have EDS:=I eds;clear hk2 eds
 go_wp2_with (first
  |(refine Wh.Ab (by rfl) 44 (.tmp 1) (by rfl) _ 0 (by rfl) ds _ (Wh.Ak HK.o) Tryz.underlying44 (by rfl) HDI.o ?_)
  |(refine Wh.BZ (by rfl) 44 (.tmp 2) (.tmp 15) (by rfl) (w.heap.size+1) 44 _ HZ.o ds (by rfl) (by rfl) (by rw[HZS.o,HDS.o]) HDI.o HD1.o ?_;rintro V2 hV2 hg;have HV:=I hV2;replace HB:=I (btg HB.o hg (by omega));replace HO:=I (HO.o.chg (Chg.of_grown (S:=fun k=>k=w.heap.size+1) hg rfl) (fun p hp=>(HNE.o p hp).2));clear hV2 hg)
  |fail)
 refine bodyPost_ret (v:=.agg ds) ?_ ?_ ?_
 ·exact Wh.An (v:=.agg ds) 2 44 ⟨w.heap.size+1,0,none⟩ Tryz.results84 (by rfl) (Wh.Ar HV.o Tryz.underlying44 (by rfl) HDI.o)
 ·rfl
 ·exact⟨A',c',by rw[EDS.o],HO.o,HB.o,HCAP.o⟩
end Ca
end Go.Proofs.YtlfmicidppccnaaGreat
