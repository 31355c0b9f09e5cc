import Derived.Test.YtcpccikongbopaaGreatZClientFirst8
set_option maxHeartbeats 25600000
set_option maxRecDepth 100000
set_option linter.unusedVariables false
set_option linter.unusedSimpArgs false
namespace Go.Proofs.YtcpccikongbopaaGreat
namespace Ca
open Go.RowKit Ad Se
open Rg (Pr prC prV Jv Lr RdR Cg BQ)
section
variable {α:Type} {f:α->List Value} {n:Nat}
theorem MC (h:∀x,(f x).length=n):∀(l:List α) (i:Nat) (x:α),i<l.length->∀q,((l.set i x).flatMap f)[q]? = if i*n<=q/\q<i*n+n then (f x)[q - i*n]? else (l.flatMap f)[q]?
 | [],i,x,hi,q=>by simp at hi
 |a :: l,0,x,hi,q=>by
  rw[List.set_cons_zero,List.flatMap_cons,List.flatMap_cons,Nat.zero_mul,Nat.zero_add,Nat.sub_zero]
  by_cases g:q<n
  ·rw[if_pos ⟨Nat.zero_le _,g⟩,List.getElem?_append_left (by rw[h];exact g)]
  ·rw[if_neg (fun x=>g x.2),List.getElem?_append_right (by rw[h];omega),List.getElem?_append_right (by rw[h];omega),h,h]
 |a :: l,i+1,x,hi,q=>by
  rw[List.set_cons_succ,List.flatMap_cons,List.flatMap_cons,Nat.succ_mul]
  by_cases g:q<n
  ·rw[if_neg (by omega),List.getElem?_append_left (by rw[h];exact g),List.getElem?_append_left (by rw[h];exact g)]
  ·rw[List.getElem?_append_right (by rw[h];omega),List.getElem?_append_right (by rw[h];omega),h,MC h l i x (by simpa using hi)]
   by_cases k:i*n<=q - n/\q - n<i*n+n
   ·rw[if_pos k,if_pos (by omega)]
    congr 1
    omega
   ·rw[if_neg k,if_neg (by omega)]
theorem Kq (h:∀x,(f x).length=n):∀(l:List α) (i:Nat),(l.flatMap f).take (i*n)=(l.take i).flatMap f
 | [],i=>by simp
 |a :: l,0=>by simp
 |a :: l,i+1=>by
  rw[List.take_succ_cons,List.flatMap_cons,List.flatMap_cons,<-Kq h l i,Nat.succ_mul,Nat.add_comm (i*n) n,List.take_append,h,show n+i*n - n=i*n by omega,List.take_of_length_le (by rw[h];omega)]
variable {w:World} {B g cap:Nat} {t:TypeId} {l:List α}
theorem Ls {m:Nat} {xs:List Value} (O:w.ownsRow B t n (.slice (some ⟨g,0,none⟩) m cap) m xs):∃cur,Blk w g t cur/\B<=g/\m<=cap/\cap<=maxLen/\cur.size=cap*n/\cur.toList.take (m*n)=xs:=by
 rcases O.2 with⟨D,_⟩ | ⟨g1,E,cur,D,F,X,Z,h5,Y,M⟩
 ·cases D
 ·injection D with e1 _ e2
  injection e1 with e1;injection e1 with e1;subst e1 e2;exact⟨cur,X,F,Z,h5,Y,M⟩
theorem Ud {m:Nat} {xs:List Value} {cur:Array Value} (M:Blk w g t cur) (O:B<=g) (D:m<=cap) (X:cap<=maxLen) (F:cur.size=cap*n) (E:cur.toList.take (m*n)=xs):w.ownsRow B t n (.slice (some ⟨g,0,none⟩) m cap) m xs:=
 ⟨by rw[<-E,List.length_take,Array.length_toList,F];exact Nat.min_eq_left (Nat.mul_le_mul_right n D),.inr ⟨g,cap,cur,rfl,O,M,D,X,F,E⟩⟩
theorem Vs (D:∀x,(f x).length=n) (ho:w.ownsRow B t n (.slice (some ⟨g,0,none⟩) l.length cap) l.length (l.flatMap f)) {i:Nat} (M:i<l.length) (x:α) :
  (w.setCells g (i*n) (f x)).ownsRow B t n (.slice (some ⟨g,0,none⟩) l.length cap) l.length ((l.set i x).flatMap f):=by
 obtain⟨cur,Y,O,F,Z,E,h6⟩:=Ls ho;have aa:i*n+n<=l.length*n:=by rw[<-Nat.succ_mul];exact Nat.mul_le_mul_right n M
 have ab:l.length*n<=cap*n:=Nat.mul_le_mul_right n F;obtain⟨ds,k1,k2,k3,X⟩:=Wh.Bd (f x) (i*n) w cur Y (by rw[D,E];omega);refine Ud k1 O F Z (by rw[k2,E]) ?_;apply List.ext_getElem?;intro q;rw[MC D l i x M]
 by_cases g1:q<l.length*n
 ·rw[List.getElem?_take_of_lt g1,Array.getElem?_toList]
  by_cases g2:i*n<=q/\q<i*n+n
  ·rw[if_pos g2,k3 q g2.1 (by rw[D];exact g2.2)]
  ·rw[if_neg g2,X q (by rw[D];omega),<-h6,List.getElem?_take_of_lt g1,Array.getElem?_toList]
 ·rw[if_neg (by omega),List.getElem?_eq_none (by rw[List.length_take];omega),List.getElem?_eq_none (by rw[Jv f n D];omega)]
theorem Kr (D:w.ownsRow B t n (.slice (some ⟨g,0,none⟩) l.length cap) l.length (l.flatMap f)) (o k:Nat) (h:o+k<=l.length*n):w.there g o k:=by
 obtain⟨cur,F,O,M,Z,Y,X⟩:=Ls D;have E:l.length*n<=cap*n:=Nat.mul_le_mul_right n M;exact Wh.BN F o k (by omega)
theorem Vt (hf:∀x,(f x).length=n) (ho:w.ownsRow B t n (.slice (some ⟨g,0,none⟩) l.length cap) l.length (l.flatMap f)) {i:Nat} (M:i<=l.length) (vs:List Value) (hv:i*n+vs.length<=l.length*n) :
  (w.setCells g (i*n) vs).ownsRow B t n (.slice (some ⟨g,0,none⟩) i cap) i ((l.take i).flatMap f):=by
 obtain⟨cur,Y,O,F,Z,E,h6⟩:=Ls ho;have D:i*n<=l.length*n:=Nat.mul_le_mul_right n M;have aa:l.length*n<=cap*n:=Nat.mul_le_mul_right n F;obtain⟨ds,k1,k2,k3,X⟩:=Wh.Bd vs (i*n) w cur Y (by rw[E];omega);refine Ud k1 O (Nat.le_trans M F) Z (by rw[k2,E]) ?_;rw[<-Kq hf,<-h6,List.take_take,Nat.min_eq_left D];apply List.ext_getElem?;intro q
 by_cases g1:q<i*n
 ·rw[List.getElem?_take_of_lt g1,List.getElem?_take_of_lt g1,Array.getElem?_toList,Array.getElem?_toList,X q (.inl g1)]
 ·rw[List.getElem?_eq_none (by rw[List.length_take];omega),List.getElem?_eq_none (by rw[List.length_take];omega)]
end
theorem PY (P:Program) (w:World) (t e ty:TypeId) (i:TypeInfo) (z:Value) (n:Nat) (M:P.underlying t=some (.slice e)) (hi:P.info? e=some i) (hz:i.zero=some z) (F:z.cells.size=n) (Y:∀u∈z.cells.toList,u.oneCell'=true) (hn:0<n) (b o m c:Nat)
  (O:w.there b o (m*n)):∃vs:List Value,vs.length=m*n/\(Builtin.clear_ #[t] ty #[.slice (some ⟨b,o,none⟩) m c]).run P w=.ok (.tuple #[]) (w.setCells b o vs):=by
 have X:(zeroValue e).run P w=.ok z w:=by simp [zeroValue,typeInfo,hi,hz]
 have hlen:(Builtin.zeroCells z.cells m).toList.length=m*n:=by simp [Builtin.zeroCells,F]
 have D:∀u∈(Builtin.zeroCells z.cells m).toList,u.oneCell'=true:=by
  intro u hu;simp only[Builtin.zeroCells,Array.toList_map,List.mem_map] at hu;obtain⟨q,_,rfl⟩:=hu;have Z:q % z.cells.size<z.cells.size:=Nat.mod_lt _ (by omega);rw[getElem!_pos z.cells (q % z.cells.size) Z];exact Y _ (by simp)
 cases m with
 |zero=>
  refine⟨[],by simp,?_⟩;simp [Builtin.clear_,run_underlying M,World.setCells]
 |succ m=>
  refine⟨(Builtin.zeroCells z.cells (m+1)).toList,hlen,?_⟩;have E:=run_storeCells_cells (P:=P) b o (Builtin.zeroCells z.cells (m+1)).toList 0 w (fun j hj=>by simpa using (O j (by omega)).1) (fun j hj=>by simpa using (O j (by omega)).2) D;simp only[Nat.add_zero] at E;simp [Builtin.clear_,run_underlying M,X,E]
structure En where
 p:Pr
 x:Cr
 A:Option Addr
 c:Nat
def En.it (e:En):It:=(e.p,e.x)
def crC (x:Cr) (A:Option Addr) (c:Nat):List Value:=.string ⟨x.s.1.toArray⟩ :: .string ⟨x.s.2.toArray⟩ :: .int .i64 x.n :: .slice A x.b.length c :: ((AT x.k).toList++[.int .i64 x.e])
def crA (x:Cr) (A:Option Addr) (c:Nat):Array Value:=(crC x A c).toArray
def enC (e:En):List Value:=.string ⟨e.p.1.toArray⟩ :: .string ⟨e.p.2.toArray⟩ :: crC e.x e.A e.c
def enA (e:En):Array Value:=(enC e).toArray
theorem IY (x:Cr) (A:Option Addr) (c:Nat):(crC x A c).length=37:=by simp [crC,AR]
theorem AG (x:Cr) (A:Option Addr) (c:Nat):(crA x A c).size=37:=by simp [crA,IY]
theorem AV (e:En):(enC e).length=39:=by simp [enC,IY]
theorem Bi (e:En):(enA e).size=39:=by simp [enA,AV]
theorem PZ (x:Cr) (A:Option Addr) (c:Nat):∀u∈crC x A c,u.oneCell'=true:=by
 intro u hu;simp only[crC,List.mem_cons,List.mem_append,List.not_mem_nil,or_false] at hu;rcases hu with h | h | h | h | h | h
 ·subst h;rfl
 ·subst h;rfl
 ·subst h;rfl
 ·subst h;rfl
 ·have:=Vj x.k
  rw[Array.all_eq_true_iff_forall_mem] at this;exact this u (Array.mem_def.2 h)
 ·subst h;rfl
theorem GK (e:En):∀u∈enC e,u.oneCell'=true:=by
 intro u hu;simp only[enC,List.mem_cons] at hu;rcases hu with h | h | h
 ·subst h;rfl
 ·subst h;rfl
 ·exact PZ _ _ _ u h
theorem Dv (x:Cr) (A:Option Addr) (c:Nat):(crA x A c).all (·.oneCell')=true:=by
 rw[Array.all_eq_true_iff_forall_mem];intro u hu;exact PZ x A c u (by simpa [crA] using hu)
theorem Qa (e:En):(enA e).all (·.oneCell')=true:=by
 rw[Array.all_eq_true_iff_forall_mem];intro u hu;exact GK e u (by simpa [enA] using hu)
theorem Dp (e:En):(enA e).toList=enC e:=by simp [enA]
theorem IZ (x:Cr) (A:Option Addr) (c:Nat):(crA x A c).toList=crC x A c:=by simp [crA]
section
variable {w:World} {g o:Nat} {e:En} {x:Cr} {A:Option Addr} {c:Nat}
theorem Sj (h:w.rangeAt g o (enC e)):w.rangeAt g o (#[.string ⟨e.p.1.toArray⟩,.string ⟨e.p.2.toArray⟩]:Array Value).toList:=fun j u hu=>by
 have D:j<2:=by have:=(List.getElem?_eq_some_iff.1 hu).1;simpa using this
 refine h j u ?_;rw[<-hu];rcases j with _ | _ | j
 ·rfl
 ·rfl
 ·omega
theorem Sk (h:w.rangeAt g o (enC e)):w.rangeAt g (o+2) (crC e.x e.A e.c):=fun j u hu=>by
 have:=h (j+2) u (by simpa [enC] using hu);rw[show o+2+j=o+(j+2) by omega];exact this
theorem Xn (h:w.rangeAt g o (crC x A c)):w.cell? ⟨g,o+36,none⟩=some (.int .i64 x.e):=by
 refine h 36 _ ?_;rw[crC];simp only[List.getElem?_cons_succ];rw[List.getElem?_append_right (by simp [AR]),Array.length_toList,AR]
 rfl
theorem cr_b (h:w.rangeAt g o (crC x A c)):w.cell? ⟨g,o+3,none⟩=some (.slice A x.b.length c):=h 3 _ rfl
theorem cr_sv (h:w.rangeAt g o (crC x A c)):w.rangeAt g o (#[.string ⟨x.s.1.toArray⟩,.string ⟨x.s.2.toArray⟩]:Array Value).toList:=fun j u hu=>by
 have D:j<2:=by have:=(List.getElem?_eq_some_iff.1 hu).1;simpa using this
 refine h j u ?_;rw[<-hu];rcases j with _ | _ | j
 ·rfl
 ·rfl
 ·omega
end
theorem MD {w:World} {g o:Nat} {e:En} (h:w.rangeAt g o (enC e)):w.cell? ⟨g,o+38,none⟩=some (.int .i64 e.x.e):=Xn (Sk h)
theorem Ks {w:World} {g:Nat} {t:TypeId} {e:En} (h:Blk w g t (enA e)):w.rangeAt g 0 (enC e):=by
 have:=Wh.Ab h
 rwa [Dp] at this
theorem Ue {w:World} {g:Nat} {t:TypeId} {x:Cr} {A:Option Addr} {c:Nat} (h:Blk w g t (crA x A c)):w.rangeAt g 0 (crC x A c):=by
 have:=Wh.Ab h
 rwa [IZ] at this
def its (es:List En):List It:=es.map (·.it)
theorem DL (es:List En):(its es).length=es.length:=by simp [its]
structure Ca (w:World) (B r:Nat) (v:Value) (es:List En):Prop where
 blk:Blk w r 176 #[v]
 row:w.ownsRow B 178 39 v es.length (es.flatMap enC)
 lo:B<=r
 vr:v.ownBlock≠some r
 rd:∀e∈es,Rd w w.heap.size e.A (bvs e.x.b)
 off:∀e∈es,∀a,e.A=some a->B<=a.block/\a.block≠r/\v.ownBlock≠some a.block/\a.block<w.heap.size
def CO (r:Nat) (v:Value) (es:List En) (k:Nat):Prop:=k=r\/v.ownBlock=some k\/∃e∈es,∃a,e.A=some a/\a.block=k
abbrev PT (r:Nat) (v:Value) (q:Nat):Prop:=q=r\/v.ownBlock=some q
section
variable {w w':World} {B r:Nat} {v v':Value} {es es':List En} {S:Nat->Prop}
theorem Vu {q:Nat} (h:PT r v q):CO r v es q:=by
 rcases h with h | h
 ·exact .inl h
 ·exact .inr (.inl h)
theorem Ca.lt (h:Ca w B r v es):r<w.heap.size:=h.blk.lt
theorem Ca.big (h:Ca w B r v es):B<=w.heap.size:=by have:=h.lo;have:=h.lt;omega
theorem Ca.own_lt (h:Ca w B r v es) {k:Nat} (hk:CO r v es k):k<w.heap.size:=by
 rcases hk with hk | hk | ⟨e,he,a,D,hk⟩
 ·subst hk;exact h.lt
 ·exact(World.ownsRow.lt h.row k hk).2
 ·exact hk▸(h.off e he a D).2.2.2
theorem Ja {A:Option Addr} {xs:List Value} (h:Rd w w.heap.size A xs) (F:Chg S w w') (hs:∀a,A=some a->¬S a.block):Rd w' w'.heap.size A xs:=by
 rcases h with h | ⟨b,o,E,D,M⟩
 ·exact .inl h
 ·exact .inr ⟨b,o,E,Nat.lt_of_lt_of_le D F.size,fun i u hu=>(World.cell?_of_block (a:=⟨b,o+i,none⟩) (F.block b D (hs _ E))).trans (M i u hu)⟩
theorem Ca.chg (h:Ca w B r v es) (D:Chg S w w') (hs:∀k,CO r v es k->¬S k):Ca w' B r v es:=
 ⟨D.blk h.blk (hs r (.inl rfl)),BQ D h.row (fun k hk=>hs k (.inr (.inl hk))),h.lo,h.vr,
  fun e he=>Ja (h.rd e he) D (fun a E=>hs _ (.inr (.inr ⟨e,he,a,E,rfl⟩))),
  fun e he a E=>have q:=h.off e he a E;⟨q.1,q.2.1,q.2.2.1,Nat.lt_of_lt_of_le q.2.2.2 D.size⟩⟩
theorem Ca.below (h:Ca w B r v es) (D:Below w.heap.size w w'):Ca w' B r v es:=h.chg (S:=fun _=>False) (Chg.of_below D) (fun _ _ x=>x)
theorem Ca.num (h:Ca w B r v es):∃A c,v=.slice A es.length c/\es.length<=c/\c<=maxLen/\RdR w w.heap.size A enC 39 es:=Cg AV h.row
end
end Ca
namespace Ca
open Go.RowKit Ad Se
open Nm (L)
open Rg (Pr prC prV AY RdR Cg Bh Bt)
theorem Lt:(Tryz.prog.info? 178).map (·.size)=some 39:=by kernel_rfl
theorem Uf (x:En) (p:Pr) (t:Int) (bt bp:Nat) (w:World) (Z:w.cell? ⟨bt,0,none⟩=some (.int .i64 t)) (hp:Blk w bp 36 #[.string ⟨p.1.toArray⟩,.string ⟨p.2.toArray⟩]) :
  Calls Tryz.prog 120 #[.agg (enA x),.pointer (some ⟨bt,0,none⟩),.pointer (some ⟨bp,0,none⟩)] w fun e w'=>e=.returned (.bool (del p t x.it))/\Below w.heap.size w w':=by
 obtain⟨cs,D⟩:=Ah (enA x);have aa:=I D;rw[<-D];have M:bt<w.heap.size:=World.block_lt_of_cell? w _ Z;obtain⟨W,E⟩:=Ah (w.alloc (.cells cs 178));have O:Below w.heap.size w W:=E▸Af.alloc Ae _;have X:=I O;have hk:Blk W w.heap.size 178 (enA x):=by rw[E,<-D];exact Blk.new _ _ _
 have HP:=I (Wh.Ab (hp.below O));have HR:=I (Sj (Ks hk));have kt:W.cell? ⟨bt,0,none⟩=some (.int .i64 t):=(O.cell (p:=⟨bt,0,none⟩) M).trans Z;have ke:W.cell? ⟨w.heap.size,38,none⟩=some (.int .i64 x.x.e):=MD (o:=0) (Ks hk);have F:del p t x.it=(decide (x.x.e<t)||decide (x.p=p)):=rfl;rw[F];clear O hk hp Z M F D
 by_cases h1:x.x.e<t
 ·have Y:decide (x.x.e<t)=true:=decide_eq_true h1
  rw[Y];clear h1;go_enter Tryz.func120,Tryz.ntmps120
  go_upto_region 1 with fail
  rw[<-E];clear E
  go_wp2
  go_ret;exact⟨rfl,X.o⟩
 ·have Y:decide (x.x.e<t)=false:=decide_eq_false h1
  rw[Y];clear h1
  by_cases h2:x.p=p
  ·have q1:=Bh h2
   rw[decide_eq_true h2];clear h2;go_enter Tryz.func120,Tryz.ntmps120
   go_upto_region 1 with fail
   rw[<-E];clear E
   go_wp2_with (first
    |(refine Wh.Az (by rfl) 36 (.tmp 11) (by rfl) _ 0 (by rfl) _ _ HR.o Tryz.underlying36 (by rfl) AY ?_)
    |(refine Wh.Az (by rfl) 36 (.tmp 2) (by rfl) _ 0 (by rfl) _ _ HP.o Tryz.underlying36 (by rfl) AY ?_)
    |fail)
   go_ret;exact⟨rfl,X.o⟩
  ·have q1:=Bt h2
   rw[decide_eq_false h2];clear h2;go_enter Tryz.func120,Tryz.ntmps120
   go_upto_region 1 with fail
   rw[<-E];clear E
   go_wp2_with (first
    |(refine Wh.Az (by rfl) 36 (.tmp 11) (by rfl) _ 0 (by rfl) _ _ HR.o Tryz.underlying36 (by rfl) AY ?_)
    |(refine Wh.Az (by rfl) 36 (.tmp 2) (by rfl) _ 0 (by rfl) _ _ HP.o Tryz.underlying36 (by rfl) AY ?_)
    |fail)
   go_ret;exact⟨rfl,X.o⟩
def goI (p:Pr) (t:Int) (es:List En):Option Nat:=es.findIdx? (fun e=>del p t e.it)
def goN (o:Option Nat):Int:=match o with
 |none=>-1
 |some i=>(i:Int)
theorem Sl {p:Pr} {t:Int} {es:List En} {i:Nat} {x:En} (X:es[i]? = some x) (O:del p t x.it=true) (E:∀j y,j<i->es[j]? = some y->del p t y.it=false):goI p t es=some i:=by
 obtain⟨F,D⟩:=List.getElem?_eq_some_iff.1 X;refine List.findIdx?_eq_some_iff_getElem.2 ⟨F,by rw[D];exact O,fun j M=>?_⟩;rw[E j _ M (List.getElem?_eq_getElem (by omega))];simp
theorem Sm {p:Pr} {t:Int} {es:List En} (F:∀j y,j<es.length->es[j]? = some y->del p t y.it=false):goI p t es=none:=by
 refine List.findIdx?_eq_none_iff.2 fun x M=>?_
 obtain⟨j,D,E⟩:=List.getElem_of_mem M;exact F j x D (by rw[<-E];exact List.getElem?_eq_getElem D)
theorem Qb (es:List En) (p:Pr) (t:Int) (bt bp:Nat) (A:Option Addr) (c B:Nat) (w:World) (hr:RdR w B A enC 39 es) (hB:B<=w.heap.size) (ht:w.cell? ⟨bt,0,none⟩=some (.int .i64 t)) (hp:Blk w bp 36 #[.string ⟨p.1.toArray⟩,.string ⟨p.2.toArray⟩]) (hl:es.length<=1000) :
  Calls Tryz.prog 169 #[.slice A es.length c,.func (.func 120) #[] #[.pointer (some ⟨bt,0,none⟩),.pointer (some ⟨bp,0,none⟩)]] w fun e w'=>e=.returned (.int .i64 (goN (goI p t es)))/\Below w.heap.size w w':=by
 obtain⟨n,en⟩:=Ah (es.length);have EN:=I en;rw[<-en] at hl⊢;have ab:bt<w.heap.size:=World.block_lt_of_cell? w _ ht;have CD:=I (fun(x:En) (w1:World) (h:Below w.heap.size w w1)=>Uf x p t bt bp w1 ((h.cell (p:=⟨bt,0,none⟩) ab).trans ht) (hp.below h));have HR:=I hr;have af:=I hB;have D:=I (Below.refl w.heap.size w);clear hr ht hp ab en hB;go_enter Tryz.func169,Tryz.ntmps169
 go_wp2
 go_loopw [8] (fun iv wr=>∃i:Nat,i<=n/\iv=.int .i64 (i:Int)/\Below w.heap.size w wr/\∀j x,j<i->es[j]? = some x->del p t x.it=false) (fun iv _=>n - (intOf iv).toNat)
 case atStart=>exact⟨0,Nat.zero_le _,rfl,D.o,fun j x hj=>absurd hj (Nat.not_lt_zero _)⟩
 case round=>
  clear D;obtain⟨i,hi,rfl,E,aa⟩:=hrel;have D:=I E;have O:=I aa;have ae:=I (HR.o.keep (E.mono af.o));clear E aa
  by_cases hlt:i<n
  ·have e1:(i:Int)<(n:Int):=by omega
   have e2:(0:Int)<=(i:Int):=by omega
   obtain⟨x,hx⟩:∃x,es[i]? = some x:=⟨es[i]'(by rw[<-EN.o];exact hlt),List.getElem?_eq_getElem _⟩;obtain⟨g,rfl,ag,Z⟩:=ae.o.at_ hx;rw[<-Dp] at Z;have Y:=I Z;have M:=Lt;rw[<-Bi x] at M;have F:=I M;have HX:=I hx;have CX:=I (CD.o x);obtain⟨cs,ad⟩:=Ah (enA x);rw[<-ad] at Y F CX;clear Z M hx ad;obtain⟨b,eb⟩:=Ah (del p t x.it);rw[<-eb] at CX;have EB:=I eb;clear eb;cases b with
   |true=>
    go_wp2_with (first
     |(refine Wh.Az (by rfl) 178 (.tmp 14) (by rfl) g _ (by rfl) cs _ Y.o Tryz.underlying178 (by rfl) F.o ?_)
     |(go_at_call 120;refine Ag (CX.o _ D.o) ?_;rintro w1 E;replace D:=D.t E;clear E)
     |fail)
    go_ret;exact⟨by rw[Sl HX.o EB.o.symm O.o];rfl,D.o⟩
   |false=>
    go_wp2_with (first
     |(refine Wh.Az (by rfl) 178 (.tmp 14) (by rfl) g _ (by rfl) cs _ Y.o Tryz.underlying178 (by rfl) F.o ?_)
     |(go_at_call 120;refine Ag (CX.o _ D.o) ?_;rintro w1 E;replace D:=D.t E;clear E)
     |fail)
    go_roundw
    case rel=>exact⟨i+1,by omega,by go_num,D.o,fun j y hj X=>by
     rcases Nat.lt_or_eq_of_le (Nat.le_of_lt_succ hj) with g | g
     ·exact O.o j y g X
     ·rw[g,HX.o] at X
      injection X with X;rw[<-X];exact EB.o.symm⟩
    case measure=>simp [intOf];omega
  ·have e1:¬(i:Int)<(n:Int):=by omega
   obtain rfl:n=i:=by omega
   go_wp2
   go_ret;exact⟨by rw[Sm (fun j y hj X=>O.o j y (by rw[EN.o];exact hj) X)];rfl,D.o⟩
def BX (p:Pr) (t:Int) (es:List En):List En:=es.filter (fun e=>!del p t e.it)
theorem Jw {p:Pr} {t:Int} {es:List En} {i:Nat} (h:goI p t es=some i):∃x,es[i]? = some x/\del p t x.it=true/\∀j y,j<i->es[j]? = some y->del p t y.it=false:=by
 obtain⟨F,D,E⟩:=List.findIdx?_eq_some_iff_getElem.1 h;refine⟨es[i],List.getElem?_eq_getElem F,D,fun j y O M=>?_⟩;have:=E j O;obtain⟨k1,k2⟩:=List.getElem?_eq_some_iff.1 M;rw[k2] at this
 simpa using this
theorem NB {p:Pr} {t:Int} {es:List En} (h:goI p t es=none):BX p t es=es:=by
 rw[BX,List.filter_eq_self];intro x D;have:=List.findIdx?_eq_none_iff.1 h x D
 simpa using this
theorem Jb {p:Pr} {t:Int} {es:List En} {i:Nat} {x:En} (D:es[i]? = some x):BX p t (es.take (i+1))=if del p t x.it=true then BX p t (es.take i) else BX p t (es.take i)++[x]:=by
 rw[List.take_add_one,D,BX,List.filter_append];cases h:del p t x.it<;>simp [BX,h]
theorem Lu {p:Pr} {t:Int} {es:List En} {i:Nat} (h:goI p t es=some i):BX p t (es.take (i+1))=es.take i:=by
 obtain⟨x,X,M,O⟩:=Jw h;rw[Jb X,if_pos M,BX,List.filter_eq_self];intro y Y;obtain⟨j,F,D⟩:=List.getElem_of_mem Y;have E:j<i:=by simp at F;omega
 have:=O j y E (by rw[<-D,List.getElem_take];exact List.getElem?_eq_getElem _);rw[this];rfl
theorem Sn {α:Type} (l:List α) (i:Nat) (x:α) (h:i<l.length):(l.set i x).take (i+1)=l.take i++[x]:=by
 rw[List.take_add_one,List.take_set_of_le Ae,List.getElem?_set_self h]
 rfl
theorem Qc:(Tryz.prog.info? 178).map (fun i=>(i.zero,i.size,i.bytes))=some (some (.agg (enA ⟨([],[]),⟨([],[]),0,[],fun _=>0,0⟩,none,0⟩)),39,136):=by kernel_rfl
theorem Qd (es:List En) (p:Pr) (t:Int) (bn bp g cap B i0:Nat) (w:World) (ho:w.ownsRow B 178 39 (.slice (some ⟨g,0,none⟩) es.length cap) es.length (es.flatMap enC)) (hB:B<=w.heap.size) (ht:w.cell? ⟨bn,0,none⟩=some (.int .i64 t)) (hp:Blk w bp 36 #[.string ⟨p.1.toArray⟩,.string ⟨p.2.toArray⟩])
  (aI:bn≠g) (aL:bp≠g) (hl:es.length<=1000) (ae:goI p t es=some i0) :
  Calls Tryz.prog 119 #[.slice (some ⟨g,0,none⟩) es.length cap,.func (.func 120) #[] #[.pointer (some ⟨bn,0,none⟩),.pointer (some ⟨bp,0,none⟩)]] w fun e w'=>e=.returned (.slice (some ⟨g,0,none⟩) (BX p t es).length cap)/\
   w'.ownsRow B 178 39 (.slice (some ⟨g,0,none⟩) (BX p t es).length cap) (BX p t es).length ((BX p t es).flatMap enC)/\w.grownBy w' (some g):=by
 obtain⟨x0,aJ,aS,aQ⟩:=Jw ae;have ai:i0<es.length:=(List.getElem?_eq_some_iff.1 aJ).1;obtain⟨A1,c1,e1,Y,aB,aD⟩:=Cg AV ho;injection e1 with e1 _ e2;subst e1 e2;have ay:g<w.heap.size:=(World.ownsRow.lt ho g rfl).2;have aw:B<=g:=(World.ownsRow.lt ho g rfl).1;have CI:=Qb es p t bn bp (some ⟨g,0,none⟩) cap w.heap.size w aD Ae ht hp hl;rw[ae,show goN (some i0)=(i0:Int) from rfl] at CI;obtain⟨n,en⟩:=Ah (es.length);have EN:=I en;rw[<-en] at CI hl ai Y⊢;have az:bn<w.heap.size:=World.block_lt_of_cell? w _ ht;have CD:=I (fun(x:En) (X:World) (h:w.grownBy X (some g))=>Uf x p t bn bp X (h.cell ht (by intro e;injection e with e;exact aI e)) (hp.grown h (by intro e;injection e with e;exact aL e.symm)));have D:=I ho;have ax:=I ai;have HF:=I (Lu ae);have HL:=I hl;have aA:=I Y;have aX:=I ay;have aY:=I aw;have aZ:=I aB;have t0:((i0:Int) == -1)=false:=by simp
 obtain⟨iE,aP,aK,aV,aR⟩:=info_parts Qc;have aN:(Value.agg (enA ⟨([],[]),⟨([],[]),0,[],fun _=>0,0⟩,none,0⟩)).cells.size=39:=Bi _;have av:∀u∈(Value.agg (enA ⟨([],[]),⟨([],[]),0,[],fun _=>0,0⟩,none,0⟩)).cells.toList,u.oneCell'=true:=by
  intro u hu;rw[show(Value.agg (enA ⟨([],[]),⟨([],[]),0,[],fun _=>0,0⟩,none,0⟩)).cells=enA ⟨([],[]),⟨([],[]),0,[],fun _=>0,0⟩,none,0⟩ from rfl,Dp] at hu;exact GK _ u hu
 have aU:=I (fun(X:World) (ty:TypeId) (o m c:Nat) (h:X.there g o (m*39))=>PY Tryz.prog X 174 178 ty iE _ 39 Tryz.underlying174 aP aK aN av (by decide) g o m c h);clear ho aD ht hp az en aS aQ aJ x0 ae ay aw aI aL aB Y aP aK aV aR aN av hB;go_enter Tryz.func119,Tryz.ntmps119
 go_wp2_with (first
  |(go_at_call 169;refine Ag CI ?_;rintro X E;have F:=I (Bo E (some g));replace D:=I (Cs D.o E);clear E CI)
  |fail)
 go_loopw [5,6] (fun iv jv wr=>∃(i j:Nat) (cs:List En),iv=.int .i64 (i:Int)/\jv=.int .i64 (j:Int)/\i<j/\j<=n/\cs.length=n/\cs.take i=BX p t (es.take j)/\(∀q,j<=q->cs[q]? = es[q]?)/\wr.ownsRow B 178 39 (.slice (some ⟨g,0,none⟩) cs.length cap) cs.length (cs.flatMap enC)/\w.grownBy wr (some g)) (fun _ jv _=>n - (intOf jv).toNat)
 case atStart=>exact⟨i0,i0+1,es,rfl,by go_num,by omega,ax.o,EN.o.symm,HF.o.symm,fun q _=>rfl,D.o,F.o⟩
 case round=>
  clear D F HF ax;obtain⟨i,j,cs,rfl,rfl,ba,hj,ab,aH,Z,ho,hg⟩:=hrel;have D:=I ho;have F:=I hg;have ah:=I aH;have ag:=I Z;have M:=I ab;clear ho hg aH Z ab
  by_cases hlt:j<n
  ·have e1:(j:Int)<(n:Int):=by omega
   have e2:(0:Int)<=(j:Int):=by omega
   have e3:(i:Int)<(n:Int):=by omega
   have e4:(0:Int)<=(i:Int):=by omega
   obtain⟨x,hx⟩:∃x,es[j]? = some x:=⟨es[j]'(by rw[<-EN.o];exact hlt),List.getElem?_eq_getElem _⟩;obtain⟨A1,c1,q1,_,_,hr⟩:=Cg AV D.o;injection q1 with q1 _ q2;subst q1 q2;have aG:cs[j]? = some x:=(ag.o j Ae).trans hx;obtain⟨g2,q3,_,ar⟩:=hr.at_ aG;injection q3 with q3;injection q3 with q3;subst q3;rw[<-Dp] at ar;have au:=I ar;have ao:=Lt;rw[<-Bi x] at ao;have O:=I ao;have ad:=I (Qa x);have HX:=I hx;have CX:=I (CD.o x);obtain⟨ds,ak⟩:=Ah (enA x);rw[<-ak] at au O CX ad;have af:=I ak;have an:=Jb (p:=p) (t:=t) hx;obtain⟨b,eb⟩:=Ah (del p t x.it);rw[<-eb] at CX an;have aM:=I an;obtain⟨m,em⟩:=Ah (cs.length);have EM:=I em;clear ar ao hx ak eb hr aG an;cases b with
   |true=>
    go_wp2_with (first
     |(refine Wh.Az (by rfl) 178 (.tmp 24) (by rfl) g _ (by rfl) ds _ au.o Tryz.underlying178 (by rfl) O.o ?_)
     |(refine Wh.Bs (by rfl) 178 (.tmp 7) (.tmp 25) (by rfl) 178 rfl ds (by rfl) (by rfl) (by rw[af.o,Bi];rfl) O.o ad.o ?_;rintro V hV E;have HV:=I hV;replace D:=I (Cs D.o E);replace F:=I (FU F.o E);clear hV E)
     |(refine Wh.Az (by rfl) 178 (.tmp 7) (by rfl) _ 0 (by rfl) ds _ (Wh.Ab HV.o) Tryz.underlying178 (by rfl) O.o ?_)
     |(go_at_call 120;refine Ag (CX.o _ F.o) ?_;rintro X E;replace D:=I (Cs D.o E);replace F:=I (FU F.o E);clear E)
     |fail)
    go_roundw
    case rel=>exact⟨i,j+1,cs,rfl,by go_num,by omega,by omega,M.o,by rw[aM.o];simpa using ah.o,fun q hq=>ag.o q (by omega),D.o,F.o⟩
    case measure=>simp [intOf];omega
   |false=>
    have aT:=I (fun(X:World) (h:X.ownsRow B 178 39 (.slice (some ⟨g,0,none⟩) cs.length cap) cs.length (cs.flatMap enC))=>Kr h (i*39) 39 (by have:=M.o;omega));have aO:=I (fun(X:World) (h:X.ownsRow B 178 39 (.slice (some ⟨g,0,none⟩) cs.length cap) cs.length (cs.flatMap enC))=>Vs AV h (show i<cs.length by have:=M.o;omega) x);rw[<-Dp,<-af.o] at aO
    go_wp2_with (first
     |(refine Wh.Az (by rfl) 178 (.tmp 24) (by rfl) g _ (by rfl) ds _ au.o Tryz.underlying178 (by rfl) O.o ?_)
     |(refine Wh.Bs (by rfl) 178 (.tmp 7) (.tmp 25) (by rfl) 178 rfl ds (by rfl) (by rfl) (by rw[af.o,Bi];rfl) O.o ad.o ?_;rintro V hV E;have HV:=I hV;replace D:=I (Cs D.o E);replace F:=I (FU F.o E);clear hV E)
     |(refine Wh.Az (by rfl) 178 (.tmp 7) (by rfl) _ 0 (by rfl) ds _ (Wh.Ab HV.o) Tryz.underlying178 (by rfl) O.o ?_)
     |(go_at_call 120;refine Ag (CX.o _ F.o) ?_;rintro X E;replace HV:=I (HV.o.below E);replace D:=I (Cs D.o E);replace F:=I (FU F.o E);clear E)
     |(refine wpList_store_mid (by rfl) 178 (.tmp 33) (.tmp 32) (by rfl) g (i*39) ds (by rfl) (by rfl) (by rw[af.o,Bi];exact aT.o _ D.o) O.o ad.o ?_;replace D:=I (aO.o _ D.o);replace F:=I (Wh.DX (.inl rfl) ds.toList (i*39) _ F.o))
     |fail)
    go_roundw
    case rel=>exact⟨i+1,j+1,cs.set i x,by go_num,by go_num,by omega,by omega,by rw[List.length_set];exact M.o,by rw[aM.o,Sn _ _ _ (by have:=M.o;omega),ah.o];simp,fun q hq=>by rw[List.getElem?_set_ne (by omega)];exact ag.o q (by omega),by rw[List.length_set];exact D.o,F.o⟩
    case measure=>simp [intOf];omega
  ·have e1:¬(j:Int)<(n:Int):=by omega
   obtain rfl:n=j:=by omega
   have e4:(0:Int)<=(i:Int):=by omega
   have aj:=fun(vs:List Value) (h:vs.length=(n - i)*39)=>Vt AV D.o (show i<=cs.length by have:=M.o;omega) vs (by have:=M.o;omega)
   obtain⟨vs,aC,ab⟩:=aU.o wr 0 (i*39) (n - i) (cap - i) (Kr D.o _ _ (by have:=M.o;omega));have al:=aj vs aC;have aE:=Wh.DX (row:=some g) (g:=g) (.inl rfl) vs (i*39) _ F.o;have aa:List.take i cs=BX p t es:=by rw[ah.o,List.take_of_length_le (by rw[<-EN.o];exact Nat.le_refl _)]
   have aF:(BX p t es).length=i:=by rw[<-aa,List.length_take];have:=M.o;omega
   rw[aa] at al;have e5:(i:Int)<=(n:Int):=by omega
   have e6:(n:Int)<=(cap:Int):=by have:=aA.o;omega
   have aW:∀ty,(Builtin.clear_ #[174] ty #[.slice (some ⟨g,i*39,none⟩) (n - i) (cap - i)]).run Tryz.prog wr=.ok (.tuple #[]) (wr.setCells g (i*39) vs):=fun _=>ab
   have H1:=I al;have H2:=I aE;have H3:=I aF;clear al aE aa aF ab aj aC D F ah ag
   go_wp2
   go_ret;exact⟨by rw[H3.o];rfl,by rw[H3.o];exact H1.o,H2.o⟩
theorem MF (es:List En) (p:Pr) (t:Int) (O F B:Nat) (v:Value) (w:World) (M:w.ownsRow B 178 39 v es.length (es.flatMap enC)) (hB:B<=w.heap.size) (Y:w.cell? ⟨O,0,none⟩=some (.int .i64 t)) (Z:Blk w F 36 #[.string ⟨p.1.toArray⟩,.string ⟨p.2.toArray⟩])
  (E:v.ownBlock≠some O) (D:v.ownBlock≠some F) (hl:es.length<=1000) :
  Calls Tryz.prog 119 #[v,.func (.func 120) #[] #[.pointer (some ⟨O,0,none⟩),.pointer (some ⟨F,0,none⟩)]] w fun e w'=>∃v',e=.returned v'/\
   w'.ownsRow B 178 39 v' (BX p t es).length ((BX p t es).flatMap enC)/\w.grownBy w' v.ownBlock/\v'.ownBlock=v.ownBlock:=by
 cases hi:goI p t es with
 |none=>
  have he:=NB hi;obtain⟨A,c,rfl,_,_,hr⟩:=Cg AV M;have X:=Qb es p t O F A c w.heap.size w hr Ae Y Z hl;rw[hi,show goN none = -1 from rfl] at X;have HO:=I M;rw[he];obtain⟨n,en⟩:=Ah (es.length);rw[<-en] at X HO⊢;clear hi Y Z E D hl hr he en M;go_enter Tryz.func119,Tryz.ntmps119
  go_wp2_with (first
   |(go_at_call 169;refine Ag X ?_;rintro w1 hb;have HB:=I hb;clear hb X)
   |fail)
  go_ret;exact⟨_,rfl,Cs HO.o HB.o,Bo HB.o _,rfl⟩
 |some i0=>
  rcases M.2 with⟨rfl,h2⟩ | ⟨g,cap,cur,rfl,_⟩
  ·obtain⟨x,hx,_⟩:=Jw hi
   have:=(List.getElem?_eq_some_iff.1 hx).1;omega
  ·refine(Qd es p t O F g cap B i0 w M hB Y Z (fun e=>E (e▸rfl)) (fun e=>D (e▸rfl)) hl hi).mono ?_
   rintro e w' ⟨rfl,h1,h2⟩;exact⟨_,rfl,h1,h2,rfl⟩
end Ca
namespace Ca
open Go.RowKit Ad Se
open Nm (L)
open Rg (Pr prC prV AY)
theorem So (n:Nat) (O:n<=140737488351232) (w:World):(Instr.makeSlice 25 (.int .i64 (n:Int)) (.int .i64 (n:Int))).run Tryz.prog w=.ok (.slice (some ⟨w.heap.size,0,none⟩) n n) (w.alloc (.cells (Cx n) 5)):=by
 obtain⟨D,F,M,hs,E⟩:=info_parts Nm.IQ;have h:=run_make (P:=Tryz.prog) w 25 5 D _ Tryz.underlying25 F M .i64 .i64 (n:Int) (n:Int) (by omega) (by omega) (by rw[E];omega) (by omega);have e:madeCells (Value.int .u8 0).cells (((n:Int)).toNat*D.size)=Cx n:=by
  rw[hs,Nat.mul_one,Int.toNat_natCast];refine Array.toList_inj.1 ?_;show(madeCells #[Value.int .u8 0] n).toList=_;rw[toList_madeCells_one];simp [Cx,bv]
 rw[e] at h
 simpa using h
theorem Sq (s:L) (D:s≠[]) (hs:s.length<=140737488351232) (w:World):(Builtin.unsafeString_ #[239,3] 9 #[.pointer (some ⟨w.heap.size,0,none⟩),.int .i64 (s.length:Int)]).run Tryz.prog (w.alloc (.cells (bvs s).toArray 5))=.ok (.string ⟨s.toArray⟩) ((w.alloc (.cells (bvs s).toArray 5)).freeze ⟨w.heap.size,0,none⟩ s.length):=by
 obtain⟨X,F,_,O,_⟩:=info_parts Nm.IQ;have hk:=Blk.new w 5 (bvs s).toArray;refine Lib.run_unsafeString_row (P:=Tryz.prog) _ _ _ _ 5 Tryz.underlying239 (by simp [Program.cellsOf,F,O]) w.heap.size s.length ?_ s D Ae (by omega) fun j x M=>?_
 ·unfold World.shape?
  rw[show(w.alloc (.cells (bvs s).toArray 5)).heap[w.heap.size]? = _ from hk];simp [Ao]
 ·obtain⟨E,e⟩:=List.getElem?_eq_some_iff.1 M
  rw[addr_add,Nat.zero_add,hk.cell,List.getElem?_toArray,DH E,e];rfl
theorem ND (s:L) (w:World) (D:s.length<=140737488351232):Calls Tryz.prog 99 #[.string ⟨s.toArray⟩] w fun e w'=>e=.returned (.string ⟨s.toArray⟩)/\Below w.heap.size w w':=by
 by_cases h0:s = []
 ·subst h0
  go_enter Tryz.func99,Tryz.ntmps99
  go_wp2
  go_ret;exact⟨rfl,Below.refl _ _⟩
 ·have M:=So s.length D w
  have O:=Nm.Mi s w;have F:=Sq s h0 D w;have X:1<=s.length:=by
   cases s with
   |nil=>exact absurd rfl h0
   |cons a r=>simp
  have Y:((s.length:Int)==0)=false:=by simp;omega
  have E:=I (Lib.below_freeze ((Below.refl w.heap.size w).alloc Ae (.cells (bvs s).toArray 5)) (p:=⟨w.heap.size,0,none⟩) Ae s.length);clear h0;go_enter Tryz.func99,Tryz.ntmps99
  go_wp2
  go_ret;exact⟨rfl,E.o⟩
theorem Dq (s:L) (w:World) (D:s.length<=140737488351232):Calls Tryz.prog 59 #[.string ⟨s.toArray⟩] w fun e w'=>e=.returned (.string ⟨s.toArray⟩)/\Below w.heap.size w w':=by
 have c1:=ND s w D;go_enter Tryz.func59,Tryz.ntmps59
 go_wp2_with (go_at_call 99;refine Ag c1 ?_;rintro w' E)
 go_ret;exact⟨rfl,E⟩
theorem Jx (p:Pr) (w:World) (h1:p.1.length<=140737488351232) (h2:p.2.length<=140737488351232):Calls Tryz.prog 121 #[prV p] w fun e w'=>e=.returned (prV p)/\Below w.heap.size w w':=by
 have C1:=I (fun O=>Dq p.1 O h1);have C2:=I (fun O=>Dq p.2 O h2);go_enter Tryz.func121,Tryz.ntmps121
 go_upto_region 1 with fail
 obtain⟨W,Z⟩:=Ah ((w.alloc (.cells #[.string ⟨p.1.toArray⟩,.string ⟨p.2.toArray⟩] 36)).alloc (.cells #[.string ⟨#[]⟩,.string ⟨#[]⟩] 36));have hq:=Blk.new (w.alloc (.cells #[.string ⟨p.1.toArray⟩,.string ⟨p.2.toArray⟩] 36)) 36 #[.string ⟨#[]⟩,.string ⟨#[]⟩];rw[show(w.alloc (.cells #[.string ⟨p.1.toArray⟩,.string ⟨p.2.toArray⟩] 36)).heap.size=w.heap.size+1 by simp,<-Z] at hq;have E:=I (show Blk W w.heap.size 36 #[.string ⟨p.1.toArray⟩,.string ⟨p.2.toArray⟩] by rw[Z];exact(Blk.new _ _ _).alloc _);have D:=I hq;have M:=I (show Below w.heap.size w W by rw[Z];exact(Af.alloc Ae _).alloc (by simp) _);rw[<-Z];clear Z hq;replace E:=I (show Blk W.drew _ _ _ from E.o.drewN 1);replace D:=I (show Blk W.drew _ _ _ from D.o.drewN 1);replace M:=I (show Below _ _ W.drew from below_drewN M.o 1)
 go_region_held3 (fun w'=>w'.cell? ⟨w.heap.size,0,none⟩=some (.string ⟨p.1.toArray⟩)/\w'.cell? ⟨w.heap.size,1,none⟩=some (.string ⟨p.2.toArray⟩)) (first | exact⟨E.o.cell 0,E.o.cell 1⟩ | exact⟨(Si.Blk.far (Si.Blk.far E.o _ _ (by simp)) _ _ (by simp)).cell 0,(Si.Blk.far (Si.Blk.far E.o _ _ (by simp)) _ _ (by simp)).cell 1⟩) ((first
  |(go_at_call 59;(with_reducible refine Calls.mono (C1.o _) ?_);rintro e O ⟨rfl,F⟩;clear C1;replace E:=I (E.o.below F);replace D:=I (D.o.below F);replace M:=M.t F;have Y:O.cell? ⟨w.heap.size+1,0,none⟩=some (.string ⟨#[]⟩):=D.o.cell 0;have X:O.cell? ⟨w.heap.size+1,1,none⟩=some (.string ⟨#[]⟩):=D.o.cell 1;have fz:=D.o.frozen;clear F)
  |(go_at_call 59;(with_reducible refine Calls.mono (C2.o _) ?_);rintro e w2 ⟨rfl,F⟩;clear C2 Y X fz;replace E:=I (E.o.below F);replace D:=I (D.o.below F);replace M:=M.t F;have Y:w2.cell? ⟨w.heap.size+1,0,none⟩=some (.string ⟨#[]⟩):=D.o.cell 0;have X:w2.cell? ⟨w.heap.size+1,1,none⟩=some (.string ⟨#[]⟩):=D.o.cell 1;have fz:=D.o.frozen;clear F)))
 go_wp2
 have hz:=(D.o.set 0 (.string ⟨p.1.toArray⟩)).set 1 (.string ⟨p.2.toArray⟩);rw[show(((#[.string ⟨#[]⟩,.string ⟨#[]⟩]:Array Value).setIfInBounds 0 (.string ⟨p.1.toArray⟩)).setIfInBounds 1 (.string ⟨p.2.toArray⟩))=#[.string ⟨p.1.toArray⟩,.string ⟨p.2.toArray⟩] from rfl] at hz;refine bodyPost_ret (v:=prV p) ?_ ?_ ?_
 ·exact Wh.Aj (v:=prV p) 2 36 ⟨w.heap.size+1,0,none⟩ Tryz.results121 (by rfl) (Wh.Am hz Tryz.underlying36 (by rfl) AY)
 ·rfl
 ·exact⟨rfl,Si.AS (Si.AS M.o (by simp) _) (by simp) _⟩
structure Own1 (a w:World) (A:Option Addr) (xs:List Value):Prop where
 rd:Rd w w.heap.size A xs
 lo:∀p,A=some p->a.heap.size<=p.block/\p.block<w.heap.size
 bk:∀p,A=some p->∃t cur,Blk w p.block t cur
theorem Own1.below {a w w':World} {A:Option Addr} {xs:List Value} (h:Own1 a w A xs) (D:Below w.heap.size w w'):Own1 a w' A xs:=
 ⟨(h.1.below D).more D.size,fun p E=>have q:=h.2 p E;⟨q.1,Nat.lt_of_lt_of_le q.2 D.size⟩,fun p E=>by obtain⟨t,cur,q⟩:=h.3 p E;exact⟨t,cur,q.below D⟩⟩
theorem Own1.since {a b w:World} {A:Option Addr} {xs:List Value} (h:Own1 b w A xs) (hs:a.heap.size<=b.heap.size):Own1 a w A xs:=
 ⟨h.1,fun p D=>have q:=h.2 p D;⟨Nat.le_trans hs q.1,q.2⟩,h.3⟩
theorem Own1.chg {S:Nat->Prop} {a w w':World} {A:Option Addr} {xs:List Value} (h:Own1 a w A xs) (E:Chg S w w') (hs:∀p,A=some p->¬S p.block):Own1 a w' A xs:=
 ⟨Ja h.1 E hs,fun p D=>have q:=h.2 p D;⟨q.1,Nat.lt_of_lt_of_le q.2 E.size⟩,fun p D=>by obtain⟨t,cur,q⟩:=h.3 p D;exact⟨t,cur,E.blk q (hs p D)⟩⟩
theorem Own1.none (a w:World):Own1 a w .none []:=⟨.inl rfl,(fun p D=>by cases D),(fun p D=>by cases D)⟩
theorem Own1.of_own {w w':World} {n:Nat} {v:Value} {t:TypeId} {xs:List Value} (h:w'.ownsRow w.heap.size t 1 v n xs):∃A c,v=.slice A n c/\Own1 w w' A xs/\n<=c:=by
 rcases h.2 with⟨E,M⟩ | ⟨g,cap,cur,E,O,F,X,hm,Y,Z⟩
 ·subst M
  exact⟨_,0,E,⟨Rd.of_own (n:=0) (cap:=0) (by rw[<-E];exact h),(fun p D=>by cases D),(fun p D=>by cases D)⟩,Nat.le_refl _⟩
 ·subst E
  exact⟨_,cap,rfl,⟨Rd.of_own h,(fun p D=>by injection D with D;subst D;exact⟨O,(Array.getElem?_eq_some_iff.1 F).1⟩),(fun p D=>by injection D with D;subst D;exact⟨t,cur,F⟩)⟩,X⟩
theorem NF (A:Option Addr) (c B:Nat) (l:L) (w:World) (hr:Rd w B A (bvs l)) (hB:B<=w.heap.size) (hl:l.length<=100000000000):Calls Tryz.prog 137 #[.slice A l.length c] w fun e w'=>∃A' c',e=.returned (.slice A' l.length c')/\Own1 w w' A' (bvs l)/\Below w.heap.size w w'/\l.length<=c':=by
 have aa:=Lib.run_eql_slice_nil (P:=Tryz.prog) w 25 5 A l.length c 0 0 Tryz.underlying25;obtain⟨n,en⟩:=Ah (l.length);have EN:=I en;rw[<-en] at aa hl⊢;cases A with
 |none=>
  have E:bvs l = []:=by
   rcases hr with h | ⟨b,o,h,_⟩
   ·exact h
   ·cases h
  have af:n=0:=by
   have:=congrArg List.length E;rw[Ao] at this;exact en.trans this
  rw[E];clear hr en E;subst af;go_enter Tryz.func137,Tryz.ntmps137
  go_wp2
  go_ret;exact⟨none,0,rfl,Own1.none _ _,Below.refl _ _,Nat.le_refl _⟩
 |some a=>
  obtain⟨i0,O,Y,Z,X⟩:=info_parts Nm.IQ;have aj:=I O;have ag:=I Y;have ah:=I Z;have ab:=I X;have HR:=I hr;have ae:=I hB;have HL:=I hl;have F:Below w.heap.size w (w.alloc (.cells #[] 5)):=Af.alloc Ae _;have D:=I F;have HO:=I (World.ownsRow_made (base:=w.heap.size) w (e:=5) (size:=1) #[] 0 Ae (by decide) rfl);clear hr en O Y Z X hB hl F;go_enter Tryz.func137,Tryz.ntmps137
  go_wp2_with (first
   |(refine Av _ rfl (.tmp 5) (.tmp 6) 25 rfl w.heap.size 5 i0 _ 1 Tryz.underlying25 aj.o ag.o ah.o ab.o rfl _ 0 [] rfl HO.o B _ n c (bvs l) rfl (by rw[Ao];exact EN.o) (HR.o.below (D.o.mono ae.o)) (Bz _) (by have:=HL.o;unfold maxLen;omega) (by have:=HL.o;omega) D.o.size ?_;intro v' w' ho hg hv;rw[Nat.zero_add,List.nil_append] at ho;have ai:=I ho;have ad:=I (Al D.o hg D.o.size Ae);clear ho hg hv)
   |fail)
  go_ret;obtain⟨A',c',rfl,ho,M⟩:=Own1.of_own ai.o;exact⟨A',c',rfl,ho,ad.o,M⟩
theorem Bj:(Tryz.prog.info? 102).map (·.size)=some 37:=by kernel_rfl
def IF (i:Nat):UInt8:=0
def DM:Cr:=⟨([],[]),0,[],IF,0⟩
theorem DY:crA DM none 0=#[.string ⟨#[]⟩,.string ⟨#[]⟩,.int .i64 0,.slice none 0 0,.int .u8 0,.int .u8 0,.int .u8 0,.int .u8 0,.int .u8 0,.int .u8 0,.int .u8 0,.int .u8 0,.int .u8 0,.int .u8 0,.int .u8 0,.int .u8 0,.int .u8 0,.int .u8 0,.int .u8 0,.int .u8 0,.int .u8 0,.int .u8 0,.int .u8 0,.int .u8 0,.int .u8 0,.int .u8 0,.int .u8 0,.int .u8 0,.int .u8 0,.int .u8 0,.int .u8 0,.int .u8 0,.int .u8 0,.int .u8 0,.int .u8 0,.int .u8 0,.int .i64 0]:=by rfl
theorem Sr {w:World} {g o:Nat} {t:TypeId} {cs:Array Value} {vs:List Value} (h:Blk w g t cs) (E:o+vs.length<=cs.size) (hs:∀i u,vs[i]? = some u->cs[o+i]? = some u):Blk (w.setCells g o vs) g t cs:=by
 obtain⟨ds,F,X,M,O⟩:=Wh.Bd vs o w cs h E;have e:ds=cs:=by
  apply Array.ext_getElem?;intro i
  by_cases g:o<=i/\i<o+vs.length
  ·rw[M i g.1 g.2]
   have D:i - o<vs.length:=by omega
   have:=hs (i - o) _ (List.getElem?_eq_getElem D);rw[show o+(i - o)=i by omega] at this;rw[List.getElem?_eq_getElem D,this]
  ·exact O i (by omega)
 exact e▸F
theorem NH {P:Program} {ops:Array Oper} {rest:List Oper} {op:Oper} {a:Act} {w:World} {Q:Exit->Act->World->Prop} (E:op.guard=none) (ty:TypeId) (x y:Operand) (X:op.op=.store ty x y) (g o:Nat) (t:TypeId) (cs:Array Value) (F:Blk w g t cs)
  (cells:Array Value) (O:a.eval x=.pointer (some ⟨g,o,none⟩)) (Y:a.eval y=.agg cells) (hs:o+cells.size<=cs.size) (Z:(P.info? ty).map (·.size)=some cells.size) (M:cells.all (·.oneCell')=true)
  (D:∀i u,cells.toList[i]? = some u->cs[o+i]? = some u) (h:∀V,Blk V g t cs->w.grownBy V (some g)->wpList P ops Q rest (a.put op.dst undef) V):wpList P ops Q (op :: rest) a w:=
 wpList_store_mid E ty x y X g o cells O Y (Wh.BN F _ _ hs) Z M (h _ (Sr F (by simpa using hs) D) (Wh.Du _ _ _ _))
theorem Vv (x:Cr) (A D:Option Addr) (c c':Nat):(crA x A c).setIfInBounds 3 (.slice D x.b.length c')=crA x D c':=by
 simp [crA,crC]
theorem Lv (x:Cr) (A:Option Addr) (c B:Nat) (w:World) (hr:Rd w B A (bvs x.b)) (hB:B<=w.heap.size) (h1:x.s.1.length<=140737488351232) (h2:x.s.2.length<=140737488351232) (h3:x.b.length<=100000000000) :
  Calls Tryz.prog 90 #[.agg (crA x A c)] w fun e w'=>∃A' c',e=.returned (.agg (crA x A' c'))/\Own1 w w' A' (bvs x.b)/\Below w.heap.size w w'/\x.b.length<=c':=by
 have C1:=I (fun O=>Jx x.s O h1 h2);have C2:=I (fun(O:World) (h:Rd O B A (bvs x.b)) (hB:B<=O.heap.size)=>NF A c B x.b O h hB h3);obtain⟨cs,F⟩:=Ah (crA x A c);have ar:=I F;obtain⟨zs,ae⟩:=Ah (crA DM none 0);have ay:=I ae;have ak:=I (ae.trans DY);rw[<-F];obtain⟨W,eW⟩:=Ah ((w.alloc (.cells cs 102)).alloc (.cells zs 102));have D:=I (show Blk W w.heap.size 102 cs by rw[eW];exact(Blk.new _ _ _).alloc _);have hq:=Blk.new (w.alloc (.cells cs 102)) 102 zs;rw[show(w.alloc (.cells cs 102)).heap.size=w.heap.size+1 by simp,<-eW] at hq;have HZ:=I hq;have X:Below w.heap.size w W:=eW▸(Af.alloc Ae _).alloc (by simp) _;have E:=I X;have HR:=I (hr.below (X.mono hB));have ab:=I hB;have aj:=I (show cs.size=37 by rw[F,AG]);have aw:=I (show zs.size=37 by rw[ae,AG]);have an:=I (fun(O:World) (g:Nat) (h:Blk O g 102 cs)=>(cr_sv (Ue (show Blk O g 102 (crA x A c) by rw[<-F];exact h)):O.rangeAt g 0 (#[.string ⟨x.s.1.toArray⟩,.string ⟨x.s.2.toArray⟩]:Array Value).toList));have ad:=I (fun(O:World) (g:Nat) (h:Blk O g 102 cs)=>(cr_b (o:=0) (Ue (show Blk O g 102 (crA x A c) by rw[<-F];exact h)):O.cell? ⟨g,3,none⟩=some (.slice A x.b.length c)));have al:=I (show ∀(i:Nat) (u:Value),(#[.string ⟨x.s.1.toArray⟩,.string ⟨x.s.2.toArray⟩]:Array Value).toList[i]? = some u->cs[0+i]? = some u by
  intro i u hu;rw[F,crA,List.getElem?_toArray,Nat.zero_add];have hj:i<2:=by have:=(List.getElem?_eq_some_iff.1 hu).1;simpa using this
  rw[<-hu];rcases i with _ | _ | i
  ·rfl
  ·rfl
  ·omega)
 have k3:=ad.o _ _ D.o;clear hr hB h1 h2 h3 F ae hq X;go_enter Tryz.func90,Tryz.ntmps90
 go_upto_region 1 with fail
 rw[<-ak.o,<-eW];clear eW ak
 go_upto_region 2 with(first
  |(refine Wh.Az (by rfl) 36 (.tmp 4) (by rfl) _ 0 (by rfl) _ _ (an.o _ _ D.o) Tryz.underlying36 (by rfl) AY ?_)
  |(go_at_call 121;refine Ag (C1.o _) ?_;rintro O X;replace D:=I (D.o.below X);replace HZ:=I (HZ.o.below X);replace HR:=I (HR.o.below (X.mono (Nat.le_trans ab.o E.o.size)));replace E:=E.t X;clear X k3)
  |(refine NH (by rfl) 36 (.tmp 8) (.tmp 6) (by rfl) w.heap.size 0 102 cs D.o (#[.string ⟨x.s.1.toArray⟩,.string ⟨x.s.2.toArray⟩]:Array Value) (by rfl) (by rfl) (by rw[aj.o];simp) AY (by simp [Value.oneCell']) al.o ?_;intro W1 M Z;replace D:=I M;replace HZ:=I (HZ.o.grown Z (by simp));replace HR:=I (HR.o.grown Z (Nat.le_trans ab.o E.o.size) (fun k hk=>by injection hk with hk;have:=ab.o;omega));replace E:=I (btg E.o Z Ae);clear Z M)
  |fail)
 have k3:=ad.o _ _ D.o;have f3:=D.o.frozen 3
 go_upto_region 3 with(first
  |(go_at_call 137;refine Calls.mono (C2.o _ HR.o (Nat.le_trans ab.o E.o.size)) ?_;rintro e w2 ⟨A',c',rfl,ho,X,af⟩;have ai:=I af;clear k3 f3 af;have HO:=I ho;replace D:=I (D.o.below X);have ao:=I (show ∀p,A'=some p->p.block≠w.heap.size/\p.block≠w.heap.size+1 from fun p hp=>by have:=HZ.o.lt;have:=(ho.2 p hp).1;omega);replace HZ:=I (HZ.o.below X);replace HO:=I (ho.since E.o.size);replace E:=E.t X;have k3:=ad.o _ _ D.o;have f3:=D.o.frozen 3;clear X ho)
  |fail)
 obtain⟨W2,aa⟩:=Ah (w2.setCell ⟨w.heap.size,3,none⟩ (.slice A' x.b.length c'));have M:=D.o.set 3 (.slice A' x.b.length c');rw[ar.o,Vv,<-aa] at M;have Z:w2.grownBy W2 (some w.heap.size):=aa▸Ay (World.grownBy.refl w2 _) (p:=⟨w.heap.size,3,none⟩) (.inl rfl) _;have hc:Chg (fun k=>k=w.heap.size) w2 W2:=Chg.of_grown Z rfl;replace HO:=I (HO.o.chg hc (fun p hp=>(ao.o p hp).1));replace HZ:=I (HZ.o.grown Z (by simp));replace E:=I (btg E.o Z Ae);rw[<-aa];clear k3 f3 D Z hc aj an ad al C1 C2 aa;obtain⟨ds,Y⟩:=Ah (crA x A' c');rw[<-Y] at M;have D:=I M;have av:=I (show ds.size=37 by rw[Y,AG]);have ag:=I (show(Tryz.prog.info? 102).map (·.size)=some ds.size by rw[Y,AG];exact Bj);have au:=I (show ds.all (·.oneCell')=true by rw[Y];exact Dv _ _ _);have ax:=I Y;clear M Y
 go_wp2_with (first
  |(refine Wh.Az (by rfl) 102 (.tmp 1) (by rfl) _ 0 (by rfl) ds _ (Wh.Ab D.o) Tryz.underlying102 (by rfl) ag.o ?_)
  |(refine Wh.BO (by rfl) 102 (.tmp 2) (.tmp 15) (by rfl) (w.heap.size+1) 102 _ HZ.o ds (by rfl) (by rfl) (by rw[aw.o,av.o]) ag.o au.o ?_;rintro V2 ah Z;have HV:=I ah;replace E:=I (btg E.o Z (by omega));replace HO:=I (HO.o.chg (Chg.of_grown (S:=fun k=>k=w.heap.size+1) Z rfl) (fun p hp=>(ao.o p hp).2));clear ah Z)
  |fail)
 refine bodyPost_ret (v:=.agg ds) ?_ ?_ ?_
 ·exact Wh.Aj (v:=.agg ds) 2 102 ⟨w.heap.size+1,0,none⟩ Tryz.results90 (by rfl) (Wh.Am HV.o Tryz.underlying102 (by rfl) ag.o)
 ·rfl
 ·exact⟨A',c',by rw[ax.o],HO.o,E.o,ai.o⟩
end Ca
end Go.Proofs.YtcpccikongbopaaGreat
