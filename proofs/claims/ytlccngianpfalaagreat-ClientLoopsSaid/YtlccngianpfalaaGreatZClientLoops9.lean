import Derived.Test.YtlccngianpfalaaGreatZClientLoops8
set_option maxHeartbeats 25600000
set_option maxRecDepth 100000
set_option linter.unusedVariables false
set_option linter.unusedSimpArgs false
namespace Go.Proofs.YtlccngianpfalaaGreat
namespace Ca
open Go.RowKit Ae Se
open Rg (Pr prC prV JP LP RdR Cu Cd)
section
variable {α:Type} {f:α->List Value} {n:Nat}
theorem MV (h:∀x,(f x).length=n):∀(l:List α) (i:Nat) (x:α),i<l.length->∀q,((l.set i x).flatMap f)[q]? = if i*n<=q/\q<i*n+n then (f x)[q - i*n]? else (l.flatMap f)[q]?
 | [],i,x,hi,q=>by simp at hi
 |a :: l,0,x,hi,q=>by
  rw[List.set_cons_zero,List.flatMap_cons,List.flatMap_cons,Nat.zero_mul,Nat.zero_add,Nat.sub_zero]
  by_cases g:q<n
  ·rw[if_pos ⟨Nat.zero_le _,g⟩,List.getElem?_append_left (by rw[h];exact g)]
  ·rw[if_neg (fun x=>g x.2),List.getElem?_append_right (by rw[h];omega),List.getElem?_append_right (by rw[h];omega),h,h]
 |a :: l,i+1,x,hi,q=>by
  rw[List.set_cons_succ,List.flatMap_cons,List.flatMap_cons,Nat.succ_mul]
  by_cases g:q<n
  ·rw[if_neg (by omega),List.getElem?_append_left (by rw[h];exact g),List.getElem?_append_left (by rw[h];exact g)]
  ·rw[List.getElem?_append_right (by rw[h];omega),List.getElem?_append_right (by rw[h];omega),h,MV h l i x (by simpa using hi)]
   by_cases k:i*n<=q - n/\q - n<i*n+n
   ·rw[if_pos k,if_pos (by omega)]
    congr 1
    omega
   ·rw[if_neg k,if_neg (by omega)]
theorem KK (h:∀x,(f x).length=n):∀(l:List α) (i:Nat),(l.flatMap f).take (i*n)=(l.take i).flatMap f
 | [],i=>by simp
 |a :: l,0=>by simp
 |a :: l,i+1=>by
  rw[List.take_succ_cons,List.flatMap_cons,List.flatMap_cons,<-KK h l i,Nat.succ_mul,Nat.add_comm (i*n) n,List.take_append,h,show n+i*n - n=i*n by omega,List.take_of_length_le (by rw[h];omega)]
variable {w:World} {B g cap:Nat} {t:TypeId} {l:List α}
theorem LQ {m:Nat} {xs:List Value} (ho:w.ownsRow B t n (.slice (some ⟨g,0,none⟩) m cap) m xs):∃cur,Blk w g t cur/\B<=g/\m<=cap/\cap<=maxLen/\cur.size=cap*n/\cur.toList.take (m*n)=xs:=by
 rcases ho.2 with⟨M,_⟩ | ⟨g1,O,cur,M,Z,h3,X,Y,h6,h7⟩
 ·cases M
 ·injection M with e1 _ e2
  injection e1 with e1;injection e1 with e1;subst e1 e2;exact⟨cur,h3,Z,X,Y,h6,h7⟩
theorem UD {m:Nat} {xs:List Value} {cur:Array Value} (hb:Blk w g t cur) (Y:B<=g) (X:m<=cap) (Z:cap<=maxLen) (M:cur.size=cap*n) (O:cur.toList.take (m*n)=xs):w.ownsRow B t n (.slice (some ⟨g,0,none⟩) m cap) m xs:=
 ⟨by rw[<-O,List.length_take,Array.length_toList,M];exact Nat.min_eq_left (Nat.mul_le_mul_right n X),.inr ⟨g,cap,cur,rfl,Y,hb,X,Z,M,O⟩⟩
theorem VT (M:∀x,(f x).length=n) (ho:w.ownsRow B t n (.slice (some ⟨g,0,none⟩) l.length cap) l.length (l.flatMap f)) {i:Nat} (O:i<l.length) (x:α) :
  (w.setCells g (i*n) (f x)).ownsRow B t n (.slice (some ⟨g,0,none⟩) l.length cap) l.length ((l.set i x).flatMap f):=by
 obtain⟨cur,Z,h2,Y,h4,X,h6⟩:=LQ ho;have ab:i*n+n<=l.length*n:=by rw[<-Nat.succ_mul];exact Nat.mul_le_mul_right n O
 have aa:l.length*n<=cap*n:=Nat.mul_le_mul_right n Y;obtain⟨ds,k1,k2,k3,k4⟩:=Wh.Bj (f x) (i*n) w cur Z (by rw[M,X];omega);refine UD k1 h2 Y h4 (by rw[k2,X]) ?_;apply List.ext_getElem?;intro q;rw[MV M l i x O]
 by_cases g1:q<l.length*n
 ·rw[List.getElem?_take_of_lt g1,Array.getElem?_toList]
  by_cases g2:i*n<=q/\q<i*n+n
  ·rw[if_pos g2,k3 q g2.1 (by rw[M];exact g2.2)]
  ·rw[if_neg g2,k4 q (by rw[M];omega),<-h6,List.getElem?_take_of_lt g1,Array.getElem?_toList]
 ·rw[if_neg (by omega),List.getElem?_eq_none (by rw[List.length_take];omega),List.getElem?_eq_none (by rw[JP f n M];omega)]
theorem KL (X:w.ownsRow B t n (.slice (some ⟨g,0,none⟩) l.length cap) l.length (l.flatMap f)) (o k:Nat) (h:o+k<=l.length*n):w.there g o k:=by
 obtain⟨cur,M,h2,O,Z,h5,h6⟩:=LQ X;have Y:l.length*n<=cap*n:=Nat.mul_le_mul_right n O;exact Wh.BO M o k (by omega)
theorem VU (hf:∀x,(f x).length=n) (ho:w.ownsRow B t n (.slice (some ⟨g,0,none⟩) l.length cap) l.length (l.flatMap f)) {i:Nat} (O:i<=l.length) (vs:List Value) (hv:i*n+vs.length<=l.length*n) :
  (w.setCells g (i*n) vs).ownsRow B t n (.slice (some ⟨g,0,none⟩) i cap) i ((l.take i).flatMap f):=by
 obtain⟨cur,Z,h2,Y,h4,X,h6⟩:=LQ ho;have M:i*n<=l.length*n:=Nat.mul_le_mul_right n O;have aa:l.length*n<=cap*n:=Nat.mul_le_mul_right n Y;obtain⟨ds,k1,k2,k3,k4⟩:=Wh.Bj vs (i*n) w cur Z (by rw[X];omega);refine UD k1 h2 (Nat.le_trans O Y) h4 (by rw[k2,X]) ?_;rw[<-KK hf,<-h6,List.take_take,Nat.min_eq_left M];apply List.ext_getElem?;intro q
 by_cases g1:q<i*n
 ·rw[List.getElem?_take_of_lt g1,List.getElem?_take_of_lt g1,Array.getElem?_toList,Array.getElem?_toList,k4 q (.inl g1)]
 ·rw[List.getElem?_eq_none (by rw[List.length_take];omega),List.getElem?_eq_none (by rw[List.length_take];omega)]
end
theorem Qs (P:Program) (w:World) (t e ty:TypeId) (i:TypeInfo) (z:Value) (n:Nat) (Y:P.underlying t=some (.slice e)) (hi:P.info? e=some i) (hz:i.zero=some z) (X:z.cells.size=n) (h1:∀u∈z.cells.toList,u.oneCell'=true) (hn:0<n) (b o m c:Nat)
  (Z:w.there b o (m*n)):∃vs:List Value,vs.length=m*n/\(Builtin.clear_ #[t] ty #[.slice (some ⟨b,o,none⟩) m c]).run P w=.ok (.tuple #[]) (w.setCells b o vs):=by
 have hv:(zeroValue e).run P w=.ok z w:=by simp [zeroValue,typeInfo,hi,hz]
 have hlen:(Builtin.zeroCells z.cells m).toList.length=m*n:=by simp [Builtin.zeroCells,X]
 have M:∀u∈(Builtin.zeroCells z.cells m).toList,u.oneCell'=true:=by
  intro u hu;simp only[Builtin.zeroCells,Array.toList_map,List.mem_map] at hu;obtain⟨q,_,rfl⟩:=hu;have hq:q % z.cells.size<z.cells.size:=Nat.mod_lt _ (by omega);rw[getElem!_pos z.cells (q % z.cells.size) hq];exact h1 _ (by simp)
 cases m with
 |zero=>
  refine⟨[],by simp,?_⟩;simp [Builtin.clear_,run_underlying Y,World.setCells]
 |succ m=>
  refine⟨(Builtin.zeroCells z.cells (m+1)).toList,hlen,?_⟩;have O:=run_storeCells_cells (P:=P) b o (Builtin.zeroCells z.cells (m+1)).toList 0 w (fun j hj=>by simpa using (Z j (by omega)).1) (fun j hj=>by simpa using (Z j (by omega)).2) M;simp only[Nat.add_zero] at O;simp [Builtin.clear_,run_underlying Y,hv,O]
structure En where
 p:Pr
 x:Cr
 A:Option Addr
 c:Nat
def En.it (e:En):It:=(e.p,e.x)
def crC (x:Cr) (A:Option Addr) (c:Nat):List Value:=.string ⟨x.s.1.toArray⟩ :: .string ⟨x.s.2.toArray⟩ :: .int .i64 x.n :: .slice A x.b.length c :: ((AW x.k).toList++[.int .i64 x.e])
def crA (x:Cr) (A:Option Addr) (c:Nat):Array Value:=(crC x A c).toArray
def enC (e:En):List Value:=.string ⟨e.p.1.toArray⟩ :: .string ⟨e.p.2.toArray⟩ :: crC e.x e.A e.c
def enA (e:En):Array Value:=(enC e).toArray
theorem Jp (x:Cr) (A:Option Addr) (c:Nat):(crC x A c).length=37:=by simp [crC,AQ]
theorem AP (x:Cr) (A:Option Addr) (c:Nat):(crA x A c).size=37:=by simp [crA,Jp]
theorem Be (e:En):(enC e).length=39:=by simp [enC,Jp]
theorem Bo (e:En):(enA e).size=39:=by simp [enA,Be]
theorem Qt (x:Cr) (A:Option Addr) (c:Nat):∀u∈crC x A c,u.oneCell'=true:=by
 intro u hu;simp only[crC,List.mem_cons,List.mem_append,List.not_mem_nil,or_false] at hu;rcases hu with h | h | h | h | h | h
 ·subst h;rfl
 ·subst h;rfl
 ·subst h;rfl
 ·subst h;rfl
 ·have:=VJ x.k
  rw[Array.all_eq_true_iff_forall_mem] at this;exact this u (Array.mem_def.2 h)
 ·subst h;rfl
theorem Hf (e:En):∀u∈enC e,u.oneCell'=true:=by
 intro u hu;simp only[enC,List.mem_cons] at hu;rcases hu with h | h | h
 ·subst h;rfl
 ·subst h;rfl
 ·exact Qt _ _ _ u h
theorem DF (x:Cr) (A:Option Addr) (c:Nat):(crA x A c).all (·.oneCell')=true:=by
 rw[Array.all_eq_true_iff_forall_mem];intro u hu;exact Qt x A c u (by simpa [crA] using hu)
theorem Qu (e:En):(enA e).all (·.oneCell')=true:=by
 rw[Array.all_eq_true_iff_forall_mem];intro u hu;exact Hf e u (by simpa [enA] using hu)
theorem Dy (e:En):(enA e).toList=enC e:=by simp [enA]
theorem Jq (x:Cr) (A:Option Addr) (c:Nat):(crA x A c).toList=crC x A c:=by simp [crA]
section
variable {w:World} {g o:Nat} {e:En} {x:Cr} {A:Option Addr} {c:Nat}
theorem SS (h:w.rangeAt g o (enC e)):w.rangeAt g o (#[.string ⟨e.p.1.toArray⟩,.string ⟨e.p.2.toArray⟩]:Array Value).toList:=fun j u hu=>by
 have M:j<2:=by have:=(List.getElem?_eq_some_iff.1 hu).1;simpa using this
 refine h j u ?_;rw[<-hu];rcases j with _ | _ | j
 ·rfl
 ·rfl
 ·omega
theorem SU (h:w.rangeAt g o (enC e)):w.rangeAt g (o+2) (crC e.x e.A e.c):=fun j u hu=>by
 have:=h (j+2) u (by simpa [enC] using hu);rw[show o+2+j=o+(j+2) by omega];exact this
theorem XH (h:w.rangeAt g o (crC x A c)):w.cell? ⟨g,o+36,none⟩=some (.int .i64 x.e):=by
 refine h 36 _ ?_;rw[crC];simp only[List.getElem?_cons_succ];rw[List.getElem?_append_right (by simp [AQ]),Array.length_toList,AQ]
 rfl
theorem cr_b (h:w.rangeAt g o (crC x A c)):w.cell? ⟨g,o+3,none⟩=some (.slice A x.b.length c):=h 3 _ rfl
theorem cr_sv (h:w.rangeAt g o (crC x A c)):w.rangeAt g o (#[.string ⟨x.s.1.toArray⟩,.string ⟨x.s.2.toArray⟩]:Array Value).toList:=fun j u hu=>by
 have M:j<2:=by have:=(List.getElem?_eq_some_iff.1 hu).1;simpa using this
 refine h j u ?_;rw[<-hu];rcases j with _ | _ | j
 ·rfl
 ·rfl
 ·omega
end
theorem MW {w:World} {g o:Nat} {e:En} (h:w.rangeAt g o (enC e)):w.cell? ⟨g,o+38,none⟩=some (.int .i64 e.x.e):=XH (SU h)
theorem KM {w:World} {g:Nat} {t:TypeId} {e:En} (h:Blk w g t (enA e)):w.rangeAt g 0 (enC e):=by
 have:=Wh.Ac h
 rwa [Dy] at this
theorem UE {w:World} {g:Nat} {t:TypeId} {x:Cr} {A:Option Addr} {c:Nat} (h:Blk w g t (crA x A c)):w.rangeAt g 0 (crC x A c):=by
 have:=Wh.Ac h
 rwa [Jq] at this
def its (es:List En):List It:=es.map (·.it)
theorem DY (es:List En):(its es).length=es.length:=by simp [its]
structure Ca (w:World) (B r:Nat) (v:Value) (es:List En):Prop where
 blk:Blk w r 180 #[v]
 row:w.ownsRow B 186 39 v es.length (es.flatMap enC)
 lo:B<=r
 vr:v.ownBlock≠some r
 rd:∀e∈es,Rd w w.heap.size e.A (bvs e.x.b)
 off:∀e∈es,∀a,e.A=some a->B<=a.block/\a.block≠r/\v.ownBlock≠some a.block/\a.block<w.heap.size
def CO (r:Nat) (v:Value) (es:List En) (k:Nat):Prop:=k=r\/v.ownBlock=some k\/∃e∈es,∃a,e.A=some a/\a.block=k
abbrev PT (r:Nat) (v:Value) (q:Nat):Prop:=q=r\/v.ownBlock=some q
section
variable {w w':World} {B r:Nat} {v v':Value} {es es':List En} {S:Nat->Prop}
theorem VV {q:Nat} (h:PT r v q):CO r v es q:=by
 rcases h with h | h
 ·exact .inl h
 ·exact .inr (.inl h)
theorem Ca.lt (h:Ca w B r v es):r<w.heap.size:=h.blk.lt
theorem Ca.big (h:Ca w B r v es):B<=w.heap.size:=by have:=h.lo;have:=h.lt;omega
theorem Ca.own_lt (h:Ca w B r v es) {k:Nat} (hk:CO r v es k):k<w.heap.size:=by
 rcases hk with hk | hk | ⟨e,he,a,M,hk⟩
 ·subst hk;exact h.lt
 ·exact(World.ownsRow.lt h.row k hk).2
 ·exact hk▸(h.off e he a M).2.2.2
theorem Jr {A:Option Addr} {xs:List Value} (h:Rd w w.heap.size A xs) (X:Chg S w w') (hs:∀a,A=some a->¬S a.block):Rd w' w'.heap.size A xs:=by
 rcases h with h | ⟨b,o,M,O,Y⟩
 ·exact .inl h
 ·exact .inr ⟨b,o,M,Nat.lt_of_lt_of_le O X.size,fun i u hu=>(World.cell?_of_block (a:=⟨b,o+i,none⟩) (X.block b O (hs _ M))).trans (Y i u hu)⟩
theorem Ca.chg (h:Ca w B r v es) (M:Chg S w w') (hs:∀k,CO r v es k->¬S k):Ca w' B r v es:=
 ⟨M.blk h.blk (hs r (.inl rfl)),Cd M h.row (fun k hk=>hs k (.inr (.inl hk))),h.lo,h.vr,
  fun e he=>Jr (h.rd e he) M (fun a O=>hs _ (.inr (.inr ⟨e,he,a,O,rfl⟩))),
  fun e he a O=>have q:=h.off e he a O;⟨q.1,q.2.1,q.2.2.1,Nat.lt_of_lt_of_le q.2.2.2 M.size⟩⟩
theorem Ca.below (h:Ca w B r v es) (M:Below w.heap.size w w'):Ca w' B r v es:=h.chg (S:=fun _=>False) (Chg.of_below M) (fun _ _ x=>x)
theorem Ca.num (h:Ca w B r v es):∃A c,v=.slice A es.length c/\es.length<=c/\c<=maxLen/\RdR w w.heap.size A enC 39 es:=Cu Be h.row
end
end Ca
namespace Ca
open Go.RowKit Ae Se
open Nm (L)
open Rg (Pr prC prV AZ RdR Cu Bn BC)
theorem LR:(Tryz.prog.info? 186).map (·.size)=some 39:=by kernel_rfl
theorem UF (x:En) (p:Pr) (t:Int) (bt bp:Nat) (w:World) (ht:w.cell? ⟨bt,0,none⟩=some (.int .i64 t)) (hp:Blk w bp 35 #[.string ⟨p.1.toArray⟩,.string ⟨p.2.toArray⟩]) :
  Calls Tryz.prog 109 #[.agg (enA x),.pointer (some ⟨bt,0,none⟩),.pointer (some ⟨bp,0,none⟩)] w fun e w'=>e=.returned (.bool (del p t x.it))/\Below w.heap.size w w':=by
 obtain⟨cs,M⟩:=Aj (enA x);have aa:=I M;rw[<-M];have Y:bt<w.heap.size:=World.block_lt_of_cell? w _ ht;obtain⟨W,O⟩:=Aj (w.alloc (.cells cs 186));have Z:Below w.heap.size w W:=O▸Ag.alloc Af _;have HB:=I Z;have hk:Blk W w.heap.size 186 (enA x):=by rw[O,<-M];exact Blk.new _ _ _
 have HP:=I (Wh.Ac (hp.below Z));have HR:=I (SS (KM hk));have kt:W.cell? ⟨bt,0,none⟩=some (.int .i64 t):=(Z.cell (p:=⟨bt,0,none⟩) Y).trans ht;have ke:W.cell? ⟨w.heap.size,38,none⟩=some (.int .i64 x.x.e):=MW (o:=0) (KM hk);have X:del p t x.it=(decide (x.x.e<t)||decide (x.p=p)):=rfl;rw[X];clear Z hk hp ht Y X M
 by_cases h1:x.x.e<t
 ·have t1:decide (x.x.e<t)=true:=decide_eq_true h1
  rw[t1];clear h1;go_enter Tryz.func109,Tryz.ntmps109
  go_upto_region 1 with fail
  rw[<-O];clear O
  go_wp2
  go_ret;exact⟨rfl,HB.o⟩
 ·have t1:decide (x.x.e<t)=false:=decide_eq_false h1
  rw[t1];clear h1
  by_cases h2:x.p=p
  ·have q1:=Bn h2
   rw[decide_eq_true h2];clear h2;go_enter Tryz.func109,Tryz.ntmps109
   go_upto_region 1 with fail
   rw[<-O];clear O
   go_wp2_with (first
    |(refine Wh.AE (by rfl) 35 (.tmp 11) (by rfl) _ 0 (by rfl) _ _ HR.o Tryz.underlying35 (by rfl) AZ ?_)
    |(refine Wh.AE (by rfl) 35 (.tmp 2) (by rfl) _ 0 (by rfl) _ _ HP.o Tryz.underlying35 (by rfl) AZ ?_)
    |fail)
   go_ret;exact⟨rfl,HB.o⟩
  ·have q1:=BC h2
   rw[decide_eq_false h2];clear h2;go_enter Tryz.func109,Tryz.ntmps109
   go_upto_region 1 with fail
   rw[<-O];clear O
   go_wp2_with (first
    |(refine Wh.AE (by rfl) 35 (.tmp 11) (by rfl) _ 0 (by rfl) _ _ HR.o Tryz.underlying35 (by rfl) AZ ?_)
    |(refine Wh.AE (by rfl) 35 (.tmp 2) (by rfl) _ 0 (by rfl) _ _ HP.o Tryz.underlying35 (by rfl) AZ ?_)
    |fail)
   go_ret;exact⟨rfl,HB.o⟩
def goI (p:Pr) (t:Int) (es:List En):Option Nat:=es.findIdx? (fun e=>del p t e.it)
def goN (o:Option Nat):Int:=match o with
 |none=>-1
 |some i=>(i:Int)
theorem SV {p:Pr} {t:Int} {es:List En} {i:Nat} {x:En} (hx:es[i]? = some x) (Z:del p t x.it=true) (Y:∀j y,j<i->es[j]? = some y->del p t y.it=false):goI p t es=some i:=by
 obtain⟨M,X⟩:=List.getElem?_eq_some_iff.1 hx;refine List.findIdx?_eq_some_iff_getElem.2 ⟨M,by rw[X];exact Z,fun j O=>?_⟩;rw[Y j _ O (List.getElem?_eq_getElem (by omega))];simp
theorem SW {p:Pr} {t:Int} {es:List En} (X:∀j y,j<es.length->es[j]? = some y->del p t y.it=false):goI p t es=none:=by
 refine List.findIdx?_eq_none_iff.2 fun x Y=>?_
 obtain⟨j,M,O⟩:=List.getElem_of_mem Y;exact X j x M (by rw[<-O];exact List.getElem?_eq_getElem M)
theorem Qv (es:List En) (p:Pr) (t:Int) (bt bp:Nat) (A:Option Addr) (c B:Nat) (w:World) (hr:RdR w B A enC 39 es) (hB:B<=w.heap.size) (ht:w.cell? ⟨bt,0,none⟩=some (.int .i64 t)) (hp:Blk w bp 35 #[.string ⟨p.1.toArray⟩,.string ⟨p.2.toArray⟩]) (hl:es.length<=1000) :
  Calls Tryz.prog 157 #[.slice A es.length c,.func (.func 109) #[] #[.pointer (some ⟨bt,0,none⟩),.pointer (some ⟨bp,0,none⟩)]] w fun e w'=>e=.returned (.int .i64 (goN (goI p t es)))/\Below w.heap.size w w':=by
 obtain⟨n,en⟩:=Aj (es.length);have EN:=I en;rw[<-en] at hl⊢;have ae:bt<w.heap.size:=World.block_lt_of_cell? w _ ht;have CD:=I (fun(x:En) (w1:World) (h:Below w.heap.size w w1)=>UF x p t bt bp w1 ((h.cell (p:=⟨bt,0,none⟩) ae).trans ht) (hp.below h));have HR:=I hr;have ah:=I hB;have M:=I (Below.refl w.heap.size w);clear hr ht hp ae en hB;go_enter Tryz.func157,Tryz.ntmps157
 go_wp2
 go_loopw [8] (fun iv wr=>∃i:Nat,i<=n/\iv=.int .i64 (i:Int)/\Below w.heap.size w wr/\∀j x,j<i->es[j]? = some x->del p t x.it=false) (fun iv _=>n - (intOf iv).toNat)
 case atStart=>exact⟨0,Nat.zero_le _,rfl,M.o,fun j x hj=>absurd hj (Nat.not_lt_zero _)⟩
 case round=>
  clear M;obtain⟨i,hi,rfl,O,ad⟩:=hrel;have M:=I O;have Z:=I ad;have ag:=I (HR.o.keep (O.mono ah.o));clear O ad
  by_cases hlt:i<n
  ·have e1:(i:Int)<(n:Int):=by omega
   have e2:(0:Int)<=(i:Int):=by omega
   obtain⟨x,hx⟩:∃x,es[i]? = some x:=⟨es[i]'(by rw[<-EN.o];exact hlt),List.getElem?_eq_getElem _⟩;obtain⟨g,rfl,ai,Y⟩:=ag.o.at_ hx;rw[<-Dy] at Y;have aa:=I Y;have ab:=LR;rw[<-Bo x] at ab;have X:=I ab;have HX:=I hx;have CX:=I (CD.o x);obtain⟨cs,af⟩:=Aj (enA x);rw[<-af] at aa X CX;clear Y ab hx af;obtain⟨b,eb⟩:=Aj (del p t x.it);rw[<-eb] at CX;have EB:=I eb;clear eb;cases b with
   |true=>
    go_wp2_with (first
     |(refine Wh.AE (by rfl) 186 (.tmp 14) (by rfl) g _ (by rfl) cs _ aa.o Tryz.underlying186 (by rfl) X.o ?_)
     |(go_at_call 109;refine Ah (CX.o _ M.o) ?_;rintro w1 O;replace M:=M.t O;clear O)
     |fail)
    go_ret;exact⟨by rw[SV HX.o EB.o.symm Z.o];rfl,M.o⟩
   |false=>
    go_wp2_with (first
     |(refine Wh.AE (by rfl) 186 (.tmp 14) (by rfl) g _ (by rfl) cs _ aa.o Tryz.underlying186 (by rfl) X.o ?_)
     |(go_at_call 109;refine Ah (CX.o _ M.o) ?_;rintro w1 O;replace M:=M.t O;clear O)
     |fail)
    go_roundw
    case rel=>exact⟨i+1,by omega,by go_num,M.o,fun j y hj hy=>by
     rcases Nat.lt_or_eq_of_le (Nat.le_of_lt_succ hj) with g | g
     ·exact Z.o j y g hy
     ·rw[g,HX.o] at hy
      injection hy with hy;rw[<-hy];exact EB.o.symm⟩
    case measure=>simp [intOf];omega
  ·have e1:¬(i:Int)<(n:Int):=by omega
   obtain rfl:n=i:=by omega
   go_wp2
   go_ret;exact⟨by rw[SW (fun j y hj hy=>Z.o j y (by rw[EN.o];exact hj) hy)];rfl,M.o⟩
def Cj (p:Pr) (t:Int) (es:List En):List En:=es.filter (fun e=>!del p t e.it)
theorem JQ {p:Pr} {t:Int} {es:List En} {i:Nat} (h:goI p t es=some i):∃x,es[i]? = some x/\del p t x.it=true/\∀j y,j<i->es[j]? = some y->del p t y.it=false:=by
 obtain⟨M,X,Y⟩:=List.findIdx?_eq_some_iff_getElem.1 h;refine⟨es[i],List.getElem?_eq_getElem M,X,fun j y O Z=>?_⟩;have:=Y j O;obtain⟨k1,k2⟩:=List.getElem?_eq_some_iff.1 Z;rw[k2] at this
 simpa using this
theorem Of {p:Pr} {t:Int} {es:List En} (h:goI p t es=none):Cj p t es=es:=by
 rw[Cj,List.filter_eq_self];intro x M;have:=List.findIdx?_eq_none_iff.1 h x M
 simpa using this
theorem Js {p:Pr} {t:Int} {es:List En} {i:Nat} {x:En} (M:es[i]? = some x):Cj p t (es.take (i+1))=if del p t x.it=true then Cj p t (es.take i) else Cj p t (es.take i)++[x]:=by
 rw[List.take_add_one,M,Cj,List.filter_append];cases h:del p t x.it<;>simp [Cj,h]
theorem LS {p:Pr} {t:Int} {es:List En} {i:Nat} (h:goI p t es=some i):Cj p t (es.take (i+1))=es.take i:=by
 obtain⟨x,Y,h2,h3⟩:=JQ h;rw[Js Y,if_pos h2,Cj,List.filter_eq_self];intro y Z;obtain⟨j,X,O⟩:=List.getElem_of_mem Z;have M:j<i:=by simp at X;omega
 have:=h3 j y M (by rw[<-O,List.getElem_take];exact List.getElem?_eq_getElem _);rw[this];rfl
theorem SX {α:Type} (l:List α) (i:Nat) (x:α) (h:i<l.length):(l.set i x).take (i+1)=l.take i++[x]:=by
 rw[List.take_add_one,List.take_set_of_le Af,List.getElem?_set_self h]
 rfl
theorem Qw:(Tryz.prog.info? 186).map (fun i=>(i.zero,i.size,i.bytes))=some (some (.agg (enA ⟨([],[]),⟨([],[]),0,[],fun _=>0,0⟩,none,0⟩)),39,136):=by kernel_rfl
theorem Qx (es:List En) (p:Pr) (t:Int) (bn bp g cap B i0:Nat) (w:World) (ho:w.ownsRow B 186 39 (.slice (some ⟨g,0,none⟩) es.length cap) es.length (es.flatMap enC)) (hB:B<=w.heap.size) (ht:w.cell? ⟨bn,0,none⟩=some (.int .i64 t)) (hp:Blk w bp 35 #[.string ⟨p.1.toArray⟩,.string ⟨p.2.toArray⟩])
  (aL:bn≠g) (az:bp≠g) (hl:es.length<=1000) (af:goI p t es=some i0) :
  Calls Tryz.prog 108 #[.slice (some ⟨g,0,none⟩) es.length cap,.func (.func 109) #[] #[.pointer (some ⟨bn,0,none⟩),.pointer (some ⟨bp,0,none⟩)]] w fun e w'=>e=.returned (.slice (some ⟨g,0,none⟩) (Cj p t es).length cap)/\
   w'.ownsRow B 186 39 (.slice (some ⟨g,0,none⟩) (Cj p t es).length cap) (Cj p t es).length ((Cj p t es).flatMap enC)/\w.grownBy w' (some g):=by
 obtain⟨x0,aH,aX,aU⟩:=JQ af;have ak:i0<es.length:=(List.getElem?_eq_some_iff.1 aH).1;obtain⟨A1,c1,e1,ab,aR,aS⟩:=Cu Be ho;injection e1 with e1 _ e2;subst e1 e2;have aQ:g<w.heap.size:=(World.ownsRow.lt ho g rfl).2;have aN:B<=g:=(World.ownsRow.lt ho g rfl).1;have CI:=Qv es p t bn bp (some ⟨g,0,none⟩) cap w.heap.size w aS Af ht hp hl;rw[af,show goN (some i0)=(i0:Int) from rfl] at CI;obtain⟨n,en⟩:=Aj (es.length);have EN:=I en;rw[<-en] at CI hl ak ab⊢;have aB:bn<w.heap.size:=World.block_lt_of_cell? w _ ht;have CD:=I (fun(x:En) (w1:World) (h:w.grownBy w1 (some g))=>UF x p t bn bp w1 (h.cell ht (by intro e;injection e with e;exact aL e)) (hp.grown h (by intro e;injection e with e;exact az e.symm)));have M:=I ho;have aF:=I ak;have HF:=I (LS af);have HL:=I hl;have aM:=I ab;have ba:=I aQ;have bd:=I aN;have bf:=I aR;have t0:((i0:Int) == -1)=false:=by simp
 obtain⟨iE,aA,aJ,aV,aY⟩:=info_parts Qw;have aD:(Value.agg (enA ⟨([],[]),⟨([],[]),0,[],fun _=>0,0⟩,none,0⟩)).cells.size=39:=Bo _;have aK:∀u∈(Value.agg (enA ⟨([],[]),⟨([],[]),0,[],fun _=>0,0⟩,none,0⟩)).cells.toList,u.oneCell'=true:=by
  intro u hu;rw[show(Value.agg (enA ⟨([],[]),⟨([],[]),0,[],fun _=>0,0⟩,none,0⟩)).cells=enA ⟨([],[]),⟨([],[]),0,[],fun _=>0,0⟩,none,0⟩ from rfl,Dy] at hu;exact Hf _ u hu
 have aT:=I (fun(w1:World) (ty:TypeId) (o m c:Nat) (h:w1.there g o (m*39))=>Qs Tryz.prog w1 178 186 ty iE _ 39 Tryz.underlying178 aA aJ aD aK (by decide) g o m c h);clear ho aS ht hp aB en aX aU aH x0 af aQ aN aL az aR ab aA aJ aV aY aD aK hB;go_enter Tryz.func108,Tryz.ntmps108
 go_wp2_with (first
  |(go_at_call 157;refine Ah CI ?_;rintro w1 O;have X:=I (Bz O (some g));replace M:=I (CK M.o O);clear O CI)
  |fail)
 go_loopw [5,6] (fun iv jv wr=>∃(i j:Nat) (cs:List En),iv=.int .i64 (i:Int)/\jv=.int .i64 (j:Int)/\i<j/\j<=n/\cs.length=n/\cs.take i=Cj p t (es.take j)/\(∀q,j<=q->cs[q]? = es[q]?)/\wr.ownsRow B 186 39 (.slice (some ⟨g,0,none⟩) cs.length cap) cs.length (cs.flatMap enC)/\w.grownBy wr (some g)) (fun _ jv _=>n - (intOf jv).toNat)
 case atStart=>exact⟨i0,i0+1,es,rfl,by go_num,by omega,aF.o,EN.o.symm,HF.o.symm,fun q _=>rfl,M.o,X.o⟩
 case round=>
  clear M X HF aF;obtain⟨i,j,cs,rfl,rfl,bb,hj,aa,aI,ad,ho,hg⟩:=hrel;have M:=I ho;have X:=I hg;have ag:=I aI;have aj:=I ad;have Y:=I aa;clear ho hg aI ad aa
  by_cases hlt:j<n
  ·have e1:(j:Int)<(n:Int):=by omega
   have e2:(0:Int)<=(j:Int):=by omega
   have e3:(i:Int)<(n:Int):=by omega
   have e4:(0:Int)<=(i:Int):=by omega
   obtain⟨x,hx⟩:∃x,es[j]? = some x:=⟨es[j]'(by rw[<-EN.o];exact hlt),List.getElem?_eq_getElem _⟩;obtain⟨A1,c1,q1,_,_,hr⟩:=Cu Be M.o;injection q1 with q1 _ q2;subst q1 q2;have aO:cs[j]? = some x:=(aj.o j Af).trans hx;obtain⟨g2,q3,_,aw⟩:=hr.at_ aO;injection q3 with q3;injection q3 with q3;subst q3;rw[<-Dy] at aw;have ax:=I aw;have au:=LR;rw[<-Bo x] at au;have Z:=I au;have ai:=I (Qu x);have HX:=I hx;have CX:=I (CD.o x);obtain⟨ds,ao⟩:=Aj (enA x);rw[<-ao] at ax Z CX ai;have ah:=I ao;have av:=Js (p:=p) (t:=t) hx;obtain⟨b,eb⟩:=Aj (del p t x.it);rw[<-eb] at CX av;have aE:=I av;obtain⟨m,em⟩:=Aj (cs.length);have EM:=I em;clear aw au hx ao eb hr aO av;cases b with
   |true=>
    go_wp2_with (first
     |(refine Wh.AE (by rfl) 186 (.tmp 24) (by rfl) g _ (by rfl) ds _ ax.o Tryz.underlying186 (by rfl) Z.o ?_)
     |(refine Wh.Bv (by rfl) 186 (.tmp 7) (.tmp 25) (by rfl) 186 rfl ds (by rfl) (by rfl) (by rw[ah.o,Bo];rfl) Z.o ai.o ?_;rintro V hV O;have HV:=I hV;replace M:=I (CK M.o O);replace X:=I (Gl X.o O);clear hV O)
     |(refine Wh.AE (by rfl) 186 (.tmp 7) (by rfl) _ 0 (by rfl) ds _ (Wh.Ac HV.o) Tryz.underlying186 (by rfl) Z.o ?_)
     |(go_at_call 109;refine Ah (CX.o _ X.o) ?_;rintro w1 O;replace M:=I (CK M.o O);replace X:=I (Gl X.o O);clear O)
     |fail)
    go_roundw
    case rel=>exact⟨i,j+1,cs,rfl,by go_num,by omega,by omega,Y.o,by rw[aE.o];simpa using ag.o,fun q hq=>aj.o q (by omega),M.o,X.o⟩
    case measure=>simp [intOf];omega
   |false=>
    have aW:=I (fun(w1:World) (h:w1.ownsRow B 186 39 (.slice (some ⟨g,0,none⟩) cs.length cap) cs.length (cs.flatMap enC))=>KL h (i*39) 39 (by have:=Y.o;omega));have aC:=I (fun(w1:World) (h:w1.ownsRow B 186 39 (.slice (some ⟨g,0,none⟩) cs.length cap) cs.length (cs.flatMap enC))=>VT Be h (show i<cs.length by have:=Y.o;omega) x);rw[<-Dy,<-ah.o] at aC
    go_wp2_with (first
     |(refine Wh.AE (by rfl) 186 (.tmp 24) (by rfl) g _ (by rfl) ds _ ax.o Tryz.underlying186 (by rfl) Z.o ?_)
     |(refine Wh.Bv (by rfl) 186 (.tmp 7) (.tmp 25) (by rfl) 186 rfl ds (by rfl) (by rfl) (by rw[ah.o,Bo];rfl) Z.o ai.o ?_;rintro V hV O;have HV:=I hV;replace M:=I (CK M.o O);replace X:=I (Gl X.o O);clear hV O)
     |(refine Wh.AE (by rfl) 186 (.tmp 7) (by rfl) _ 0 (by rfl) ds _ (Wh.Ac HV.o) Tryz.underlying186 (by rfl) Z.o ?_)
     |(go_at_call 109;refine Ah (CX.o _ X.o) ?_;rintro w1 O;replace HV:=I (HV.o.below O);replace M:=I (CK M.o O);replace X:=I (Gl X.o O);clear O)
     |(refine wpList_store_mid (by rfl) 186 (.tmp 33) (.tmp 32) (by rfl) g (i*39) ds (by rfl) (by rfl) (by rw[ah.o,Bo];exact aW.o _ M.o) Z.o ai.o ?_;replace M:=I (aC.o _ M.o);replace X:=I (Wh.El (.inl rfl) ds.toList (i*39) _ X.o))
     |fail)
    go_roundw
    case rel=>exact⟨i+1,j+1,cs.set i x,by go_num,by go_num,by omega,by omega,by rw[List.length_set];exact Y.o,by rw[aE.o,SX _ _ _ (by have:=Y.o;omega),ag.o];simp,fun q hq=>by rw[List.getElem?_set_ne (by omega)];exact aj.o q (by omega),by rw[List.length_set];exact M.o,X.o⟩
    case measure=>simp [intOf];omega
  ·have e1:¬(j:Int)<(n:Int):=by omega
   obtain rfl:n=j:=by omega
   have e4:(0:Int)<=(i:Int):=by omega
   have an:=fun(vs:List Value) (h:vs.length=(n - i)*39)=>VU Be M.o (show i<=cs.length by have:=Y.o;omega) vs (by have:=Y.o;omega)
   obtain⟨vs,aP,aa⟩:=aT.o wr 0 (i*39) (n - i) (cap - i) (KL M.o _ _ (by have:=Y.o;omega));have ar:=an vs aP;have aG:=Wh.El (row:=some g) (g:=g) (.inl rfl) vs (i*39) _ X.o;have ae:List.take i cs=Cj p t es:=by rw[ag.o,List.take_of_length_le (by rw[<-EN.o];exact Nat.le_refl _)]
   have ay:(Cj p t es).length=i:=by rw[<-ae,List.length_take];have:=Y.o;omega
   rw[ae] at ar;have e5:(i:Int)<=(n:Int):=by omega
   have e6:(n:Int)<=(cap:Int):=by have:=aM.o;omega
   have aZ:∀ty,(Builtin.clear_ #[178] ty #[.slice (some ⟨g,i*39,none⟩) (n - i) (cap - i)]).run Tryz.prog wr=.ok (.tuple #[]) (wr.setCells g (i*39) vs):=fun _=>aa
   have H1:=I ar;have H2:=I aG;have H3:=I ay;clear ar aG ae ay aa an aP M X ag aj
   go_wp2
   go_ret;exact⟨by rw[H3.o];rfl,by rw[H3.o];exact H1.o,H2.o⟩
theorem MX (es:List En) (p:Pr) (t:Int) (Z Y B:Nat) (v:Value) (w:World) (M:w.ownsRow B 186 39 v es.length (es.flatMap enC)) (hB:B<=w.heap.size) (ht:w.cell? ⟨Z,0,none⟩=some (.int .i64 t)) (hp:Blk w Y 35 #[.string ⟨p.1.toArray⟩,.string ⟨p.2.toArray⟩])
  (X:v.ownBlock≠some Z) (O:v.ownBlock≠some Y) (hl:es.length<=1000) :
  Calls Tryz.prog 108 #[v,.func (.func 109) #[] #[.pointer (some ⟨Z,0,none⟩),.pointer (some ⟨Y,0,none⟩)]] w fun e w'=>∃v',e=.returned v'/\
   w'.ownsRow B 186 39 v' (Cj p t es).length ((Cj p t es).flatMap enC)/\w.grownBy w' v.ownBlock/\v'.ownBlock=v.ownBlock:=by
 cases hi:goI p t es with
 |none=>
  have he:=Of hi;obtain⟨A,c,rfl,_,_,hr⟩:=Cu Be M;have CI:=Qv es p t Z Y A c w.heap.size w hr Af ht hp hl;rw[hi,show goN none = -1 from rfl] at CI;have HO:=I M;rw[he];obtain⟨n,en⟩:=Aj (es.length);rw[<-en] at CI HO⊢;clear hi ht hp X O hl hr he en M;go_enter Tryz.func108,Tryz.ntmps108
  go_wp2_with (first
   |(go_at_call 157;refine Ah CI ?_;rintro w1 hb;have HB:=I hb;clear hb CI)
   |fail)
  go_ret;exact⟨_,rfl,CK HO.o HB.o,Bz HB.o _,rfl⟩
 |some i0=>
  rcases M.2 with⟨rfl,h2⟩ | ⟨g,cap,cur,rfl,_⟩
  ·obtain⟨x,hx,_⟩:=JQ hi
   have:=(List.getElem?_eq_some_iff.1 hx).1;omega
  ·refine(Qx es p t Z Y g cap B i0 w M hB ht hp (fun e=>X (e▸rfl)) (fun e=>O (e▸rfl)) hl hi).mono ?_
   rintro e w' ⟨rfl,h1,h2⟩;exact⟨_,rfl,h1,h2,rfl⟩
end Ca
namespace Ca
open Go.RowKit Ae Se
open Nm (L)
open Rg (Pr prC prV AZ)
theorem SY (n:Nat) (Z:n<=140737488351232) (w:World):(Instr.makeSlice 24 (.int .i64 (n:Int)) (.int .i64 (n:Int))).run Tryz.prog w=.ok (.slice (some ⟨w.heap.size,0,none⟩) n n) (w.alloc (.cells (CU n) 5)):=by
 obtain⟨M,O,X,hs,Y⟩:=info_parts Nm.Ji;have h:=run_make (P:=Tryz.prog) w 24 5 M _ Tryz.underlying24 O X .i64 .i64 (n:Int) (n:Int) (by omega) (by omega) (by rw[Y];omega) (by omega);have e:madeCells (Value.int .u8 0).cells (((n:Int)).toNat*M.size)=CU n:=by
  rw[hs,Nat.mul_one,Int.toNat_natCast];refine Array.toList_inj.1 ?_;show(madeCells #[Value.int .u8 0] n).toList=_;rw[toList_madeCells_one];simp [CU,bv]
 rw[e] at h
 simpa using h
theorem SZ (s:L) (M:s≠[]) (hs:s.length<=140737488351232) (w:World):(Builtin.unsafeString_ #[226,3] 9 #[.pointer (some ⟨w.heap.size,0,none⟩),.int .i64 (s.length:Int)]).run Tryz.prog (w.alloc (.cells (bvs s).toArray 5))=.ok (.string ⟨s.toArray⟩) ((w.alloc (.cells (bvs s).toArray 5)).freeze ⟨w.heap.size,0,none⟩ s.length):=by
 obtain⟨i0,O,_,X,_⟩:=info_parts Nm.Ji;have hk:=Blk.new w 5 (bvs s).toArray;refine Lib.run_unsafeString_row (P:=Tryz.prog) _ _ _ _ 5 Tryz.underlying226 (by simp [Program.cellsOf,O,X]) w.heap.size s.length ?_ s M Af (by omega) fun j x Z=>?_
 ·unfold World.shape?
  rw[show(w.alloc (.cells (bvs s).toArray 5)).heap[w.heap.size]? = _ from hk];simp [AB]
 ·obtain⟨Y,e⟩:=List.getElem?_eq_some_iff.1 Z
  rw[addr_add,Nat.zero_add,hk.cell,List.getElem?_toArray,DT Y,e];rfl
theorem Og (s:L) (w:World) (M:s.length<=140737488351232):Calls Tryz.prog 84 #[.string ⟨s.toArray⟩] w fun e w'=>e=.returned (.string ⟨s.toArray⟩)/\Below w.heap.size w w':=by
 by_cases h0:s = []
 ·subst h0
  go_enter Tryz.func84,Tryz.ntmps84
  go_wp2
  go_ret;exact⟨rfl,Below.refl _ _⟩
 ·have O:=SY s.length M w
  have X:=Nm.MA s w;have Y:=SZ s h0 M w;have hl:1<=s.length:=by
   cases s with
   |nil=>exact absurd rfl h0
   |cons a r=>simp
  have t0:((s.length:Int)==0)=false:=by simp;omega
  have Z:=I (Lib.below_freeze ((Below.refl w.heap.size w).alloc Af (.cells (bvs s).toArray 5)) (p:=⟨w.heap.size,0,none⟩) Af s.length);clear h0;go_enter Tryz.func84,Tryz.ntmps84
  go_wp2
  go_ret;exact⟨rfl,Z.o⟩
theorem Dz (s:L) (w:World) (M:s.length<=140737488351232):Calls Tryz.prog 47 #[.string ⟨s.toArray⟩] w fun e w'=>e=.returned (.string ⟨s.toArray⟩)/\Below w.heap.size w w':=by
 have c1:=Og s w M;go_enter Tryz.func47,Tryz.ntmps47
 go_wp2_with (go_at_call 84;refine Ah c1 ?_;rintro w' O)
 go_ret;exact⟨rfl,O⟩
theorem JR (p:Pr) (w:World) (h1:p.1.length<=140737488351232) (h2:p.2.length<=140737488351232):Calls Tryz.prog 22 #[prV p] w fun e w'=>e=.returned (prV p)/\Below w.heap.size w w':=by
 have C1:=I (fun w1=>Dz p.1 w1 h1);have C2:=I (fun w1=>Dz p.2 w1 h2);go_enter Tryz.func22,Tryz.ntmps22
 go_upto_region 1 with fail
 obtain⟨W,eW⟩:=Aj ((w.alloc (.cells #[.string ⟨p.1.toArray⟩,.string ⟨p.2.toArray⟩] 35)).alloc (.cells #[.string ⟨#[]⟩,.string ⟨#[]⟩] 35));have hq:=Blk.new (w.alloc (.cells #[.string ⟨p.1.toArray⟩,.string ⟨p.2.toArray⟩] 35)) 35 #[.string ⟨#[]⟩,.string ⟨#[]⟩];rw[show(w.alloc (.cells #[.string ⟨p.1.toArray⟩,.string ⟨p.2.toArray⟩] 35)).heap.size=w.heap.size+1 by simp,<-eW] at hq;have O:=I (show Blk W w.heap.size 35 #[.string ⟨p.1.toArray⟩,.string ⟨p.2.toArray⟩] by rw[eW];exact(Blk.new _ _ _).alloc _);have M:=I hq;have Y:=I (show Below w.heap.size w W by rw[eW];exact(Ag.alloc Af _).alloc (by simp) _);rw[<-eW];clear eW hq;replace O:=I (show Blk W.drew _ _ _ from O.o.drewN 1);replace M:=I (show Blk W.drew _ _ _ from M.o.drewN 1);replace Y:=I (show Below _ _ W.drew from below_drewN Y.o 1)
 go_region_held3 (fun w'=>w'.cell? ⟨w.heap.size,0,none⟩=some (.string ⟨p.1.toArray⟩)/\w'.cell? ⟨w.heap.size,1,none⟩=some (.string ⟨p.2.toArray⟩)) (first | exact⟨O.o.cell 0,O.o.cell 1⟩ | exact⟨(Si.Blk.far (Si.Blk.far O.o _ _ (by simp)) _ _ (by simp)).cell 0,(Si.Blk.far (Si.Blk.far O.o _ _ (by simp)) _ _ (by simp)).cell 1⟩) ((first
  |(go_at_call 47;(with_reducible refine Calls.mono (C1.o _) ?_);rintro e w1 ⟨rfl,X⟩;clear C1;replace O:=I (O.o.below X);replace M:=I (M.o.below X);replace Y:=Y.t X;have aa:=M.c0;have Z:=M.c1;have fz:=M.o.frozen;clear X)
  |(go_at_call 47;(with_reducible refine Calls.mono (C2.o _) ?_);rintro e w2 ⟨rfl,X⟩;clear C2 aa Z fz;replace O:=I (O.o.below X);replace M:=I (M.o.below X);replace Y:=Y.t X;have aa:=M.c0;have Z:=M.c1;have fz:=M.o.frozen;clear X)))
 go_wp2
 have hz:=(M.o.set 0 (.string ⟨p.1.toArray⟩)).set 1 (.string ⟨p.2.toArray⟩);rw[show(((#[.string ⟨#[]⟩,.string ⟨#[]⟩]:Array Value).setIfInBounds 0 (.string ⟨p.1.toArray⟩)).setIfInBounds 1 (.string ⟨p.2.toArray⟩))=#[.string ⟨p.1.toArray⟩,.string ⟨p.2.toArray⟩] from rfl] at hz;refine bodyPost_ret (v:=prV p) ?_ ?_ ?_
 ·exact Wh.Al (v:=prV p) 2 35 ⟨w.heap.size+1,0,none⟩ Tryz.results22 (by rfl) (Wh.Ao hz Tryz.underlying35 (by rfl) AZ)
 ·rfl
 ·exact⟨rfl,Si.AX (Si.AX Y.o (by simp) _) (by simp) _⟩
structure Own1 (a w:World) (A:Option Addr) (xs:List Value):Prop where
 rd:Rd w w.heap.size A xs
 lo:∀p,A=some p->a.heap.size<=p.block/\p.block<w.heap.size
 bk:∀p,A=some p->∃t cur,Blk w p.block t cur
theorem Own1.below {a w w':World} {A:Option Addr} {xs:List Value} (h:Own1 a w A xs) (M:Below w.heap.size w w'):Own1 a w' A xs:=
 ⟨(h.1.below M).more M.size,fun p O=>have q:=h.2 p O;⟨q.1,Nat.lt_of_lt_of_le q.2 M.size⟩,fun p O=>by obtain⟨t,cur,q⟩:=h.3 p O;exact⟨t,cur,q.below M⟩⟩
theorem Own1.since {a b w:World} {A:Option Addr} {xs:List Value} (h:Own1 b w A xs) (hs:a.heap.size<=b.heap.size):Own1 a w A xs:=
 ⟨h.1,fun p M=>have q:=h.2 p M;⟨Nat.le_trans hs q.1,q.2⟩,h.3⟩
theorem Own1.chg {S:Nat->Prop} {a w w':World} {A:Option Addr} {xs:List Value} (h:Own1 a w A xs) (O:Chg S w w') (hs:∀p,A=some p->¬S p.block):Own1 a w' A xs:=
 ⟨Jr h.1 O hs,fun p M=>have q:=h.2 p M;⟨q.1,Nat.lt_of_lt_of_le q.2 O.size⟩,fun p M=>by obtain⟨t,cur,q⟩:=h.3 p M;exact⟨t,cur,O.blk q (hs p M)⟩⟩
theorem Own1.none (a w:World):Own1 a w .none []:=⟨.inl rfl,(fun p M=>by cases M),(fun p M=>by cases M)⟩
theorem Own1.of_own {w w':World} {n:Nat} {v:Value} {t:TypeId} {xs:List Value} (h:w'.ownsRow w.heap.size t 1 v n xs):∃A c,v=.slice A n c/\Own1 w w' A xs/\n<=c:=by
 rcases h.2 with⟨O,Z⟩ | ⟨g,cap,cur,O,Y,X,hc,hm,hq,hx⟩
 ·subst Z
  exact⟨_,0,O,⟨Rd.of_own (n:=0) (cap:=0) (by rw[<-O];exact h),(fun p M=>by cases M),(fun p M=>by cases M)⟩,Nat.le_refl _⟩
 ·subst O
  exact⟨_,cap,rfl,⟨Rd.of_own h,(fun p M=>by injection M with M;subst M;exact⟨Y,(Array.getElem?_eq_some_iff.1 X).1⟩),(fun p M=>by injection M with M;subst M;exact⟨t,cur,X⟩)⟩,hc⟩
theorem Oh (A:Option Addr) (c B:Nat) (l:L) (w:World) (hr:Rd w B A (bvs l)) (hB:B<=w.heap.size) (hl:l.length<=100000000000):Calls Tryz.prog 129 #[.slice A l.length c] w fun e w'=>∃A' c',e=.returned (.slice A' l.length c')/\Own1 w w' A' (bvs l)/\Below w.heap.size w w'/\l.length<=c':=by
 have an:=Lib.run_eql_slice_nil (P:=Tryz.prog) w 24 5 A l.length c 0 0 Tryz.underlying24;obtain⟨n,en⟩:=Aj (l.length);have EN:=I en;rw[<-en] at an hl⊢;cases A with
 |none=>
  have O:bvs l = []:=by
   rcases hr with h | ⟨b,o,h,_⟩
   ·exact h
   ·cases h
  have ak:n=0:=by
   have:=congrArg List.length O;rw[AB] at this;exact en.trans this
  rw[O];clear hr en O;subst ak;go_enter Tryz.func129,Tryz.ntmps129
  go_wp2
  go_ret;exact⟨none,0,rfl,Own1.none _ _,Below.refl _ _,Nat.le_refl _⟩
 |some a=>
  obtain⟨i0,Z,aa,ad,ab⟩:=info_parts Nm.Ji;have ai:=I Z;have af:=I aa;have ah:=I ad;have ag:=I ab;have HR:=I hr;have ao:=I hB;have HL:=I hl;have X:Below w.heap.size w (w.alloc (.cells #[] 5)):=Ag.alloc Af _;have M:=I X;have HO:=I (World.ownsRow_made (base:=w.heap.size) w (e:=5) (size:=1) #[] 0 Af (by decide) rfl);clear hr en Z aa ad ab hB hl X;go_enter Tryz.func129,Tryz.ntmps129
  go_wp2_with (first
   |(refine AD _ rfl (.tmp 5) (.tmp 6) 24 rfl w.heap.size 5 i0 _ 1 Tryz.underlying24 ai.o af.o ah.o ag.o rfl _ 0 [] rfl HO.o B _ n c (bvs l) rfl (by rw[AB];exact EN.o) (HR.o.below (M.o.mono ao.o)) (BK _) (by have:=HL.o;unfold maxLen;omega) (by have:=HL.o;omega) M.o.size ?_;intro v' w' Y hg hv;rw[Nat.zero_add,List.nil_append] at Y;have ar:=I Y;have aj:=I (Ak M.o hg M.o.size Af);clear Y hg hv)
   |fail)
  go_ret;obtain⟨A',c',rfl,Y,ae⟩:=Own1.of_own ar.o;exact⟨A',c',rfl,Y,aj.o,ae⟩
theorem Br:(Tryz.prog.info? 96).map (·.size)=some 37:=by kernel_rfl
def IY (i:Nat):UInt8:=0
def DZ:Cr:=⟨([],[]),0,[],IY,0⟩
theorem Em:crA DZ none 0=#[.string ⟨#[]⟩,.string ⟨#[]⟩,.int .i64 0,.slice none 0 0,.int .u8 0,.int .u8 0,.int .u8 0,.int .u8 0,.int .u8 0,.int .u8 0,.int .u8 0,.int .u8 0,.int .u8 0,.int .u8 0,.int .u8 0,.int .u8 0,.int .u8 0,.int .u8 0,.int .u8 0,.int .u8 0,.int .u8 0,.int .u8 0,.int .u8 0,.int .u8 0,.int .u8 0,.int .u8 0,.int .u8 0,.int .u8 0,.int .u8 0,.int .u8 0,.int .u8 0,.int .u8 0,.int .u8 0,.int .u8 0,.int .u8 0,.int .u8 0,.int .i64 0]:=by rfl
theorem Ta {w:World} {g o:Nat} {t:TypeId} {cs:Array Value} {vs:List Value} (h:Blk w g t cs) (Y:o+vs.length<=cs.size) (hs:∀i u,vs[i]? = some u->cs[o+i]? = some u):Blk (w.setCells g o vs) g t cs:=by
 obtain⟨ds,O,h2,Z,X⟩:=Wh.Bj vs o w cs h Y;have e:ds=cs:=by
  apply Array.ext_getElem?;intro i
  by_cases g:o<=i/\i<o+vs.length
  ·rw[Z i g.1 g.2]
   have M:i - o<vs.length:=by omega
   have:=hs (i - o) _ (List.getElem?_eq_getElem M);rw[show o+(i - o)=i by omega] at this;rw[List.getElem?_eq_getElem M,this]
  ·exact X i (by omega)
 exact e▸O
theorem Oi {P:Program} {ops:Array Oper} {rest:List Oper} {op:Oper} {a:Act} {w:World} {Q:Exit->Act->World->Prop} (O:op.guard=none) (ty:TypeId) (x y:Operand) (Z:op.op=.store ty x y) (g o:Nat) (t:TypeId) (cs:Array Value) (X:Blk w g t cs)
  (cells:Array Value) (hx:a.eval x=.pointer (some ⟨g,o,none⟩)) (hy:a.eval y=.agg cells) (hs:o+cells.size<=cs.size) (hi:(P.info? ty).map (·.size)=some cells.size) (Y:cells.all (·.oneCell')=true)
  (M:∀i u,cells.toList[i]? = some u->cs[o+i]? = some u) (h:∀V,Blk V g t cs->w.grownBy V (some g)->wpList P ops Q rest (a.put op.dst undef) V):wpList P ops Q (op :: rest) a w:=
 wpList_store_mid O ty x y Z g o cells hx hy (Wh.BO X _ _ hs) hi Y (h _ (Ta X (by simpa using hs) M) (Wh.Dp _ _ _ _))
theorem VW (x:Cr) (A M:Option Addr) (c c':Nat):(crA x A c).setIfInBounds 3 (.slice M x.b.length c')=crA x M c':=by
 simp [crA,crC]
theorem LU (x:Cr) (A:Option Addr) (c B:Nat) (w:World) (hr:Rd w B A (bvs x.b)) (hB:B<=w.heap.size) (h1:x.s.1.length<=140737488351232) (h2:x.s.2.length<=140737488351232) (h3:x.b.length<=100000000000) :
  Calls Tryz.prog 86 #[.agg (crA x A c)] w fun e w'=>∃A' c',e=.returned (.agg (crA x A' c'))/\Own1 w w' A' (bvs x.b)/\Below w.heap.size w w'/\x.b.length<=c':=by
 have C1:=I (fun Z=>JR x.s Z h1 h2);have C2:=I (fun(Z:World) (h:Rd Z B A (bvs x.b)) (hB:B<=Z.heap.size)=>Oh A c B x.b Z h hB h3);obtain⟨cs,X⟩:=Aj (crA x A c);have ax:=I X;obtain⟨zs,ad⟩:=Aj (crA DZ none 0);have aA:=I ad;have ar:=I (ad.trans Em);rw[<-X];obtain⟨W,eW⟩:=Aj ((w.alloc (.cells cs 96)).alloc (.cells zs 96));have M:=I (show Blk W w.heap.size 96 cs by rw[eW];exact(Blk.new _ _ _).alloc _);have hq:=Blk.new (w.alloc (.cells cs 96)) 96 zs;rw[show(w.alloc (.cells cs 96)).heap.size=w.heap.size+1 by simp,<-eW] at hq;have HZ:=I hq;have hb:Below w.heap.size w W:=eW▸(Ag.alloc Af _).alloc (by simp) _;have Y:=I hb;have HR:=I (hr.below (hb.mono hB));have ae:=I hB;have au:=I (show cs.size=37 by rw[X,AP]);have ay:=I (show zs.size=37 by rw[ad,AP]);have an:=I (fun(Z:World) (g:Nat) (h:Blk Z g 96 cs)=>(cr_sv (UE (show Blk Z g 96 (crA x A c) by rw[<-X];exact h)):Z.rangeAt g 0 (#[.string ⟨x.s.1.toArray⟩,.string ⟨x.s.2.toArray⟩]:Array Value).toList));have ab:=I (fun(Z:World) (g:Nat) (h:Blk Z g 96 cs)=>(cr_b (o:=0) (UE (show Blk Z g 96 (crA x A c) by rw[<-X];exact h)):Z.cell? ⟨g,3,none⟩=some (.slice A x.b.length c)));have ao:=I (show ∀(i:Nat) (u:Value),(#[.string ⟨x.s.1.toArray⟩,.string ⟨x.s.2.toArray⟩]:Array Value).toList[i]? = some u->cs[0+i]? = some u by
  intro i u hu;rw[X,crA,List.getElem?_toArray,Nat.zero_add];have hj:i<2:=by have:=(List.getElem?_eq_some_iff.1 hu).1;simpa using this
  rw[<-hu];rcases i with _ | _ | i
  ·rfl
  ·rfl
  ·omega)
 have k3:=ab.o _ _ M.o;clear hr hB h1 h2 h3 X ad hq hb;go_enter Tryz.func86,Tryz.ntmps86
 go_upto_region 1 with fail
 rw[<-ar.o,<-eW];clear eW ar
 go_upto_region 2 with(first
  |(refine Wh.AE (by rfl) 35 (.tmp 4) (by rfl) _ 0 (by rfl) _ _ (an.o _ _ M.o) Tryz.underlying35 (by rfl) AZ ?_)
  |(go_at_call 22;refine Ah (C1.o _) ?_;rintro Z hb;replace M:=I (M.o.below hb);replace HZ:=I (HZ.o.below hb);replace HR:=I (HR.o.below (hb.mono (Nat.le_trans ae.o Y.o.size)));replace Y:=Y.t hb;clear hb k3)
  |(refine Oi (by rfl) 35 (.tmp 8) (.tmp 6) (by rfl) w.heap.size 0 96 cs M.o (#[.string ⟨x.s.1.toArray⟩,.string ⟨x.s.2.toArray⟩]:Array Value) (by rfl) (by rfl) (by rw[au.o];simp) AZ (by simp [Value.oneCell']) ao.o ?_;intro W1 O hg;replace M:=I O;replace HZ:=I (HZ.o.grown hg (by simp));replace HR:=I (HR.o.grown hg (Nat.le_trans ae.o Y.o.size) (fun k hk=>by injection hk with hk;have:=ae.o;omega));replace Y:=I (btg Y.o hg Af);clear hg O)
  |fail)
 have k3:=ab.o _ _ M.o;have f3:=M.o.frozen 3
 go_upto_region 3 with(first
  |(go_at_call 129;refine Calls.mono (C2.o _ HR.o (Nat.le_trans ae.o Y.o.size)) ?_;rintro e w2 ⟨A',c',rfl,ho,hb,ag⟩;have ai:=I ag;clear k3 f3 ag;have HO:=I ho;replace M:=I (M.o.below hb);have ak:=I (show ∀p,A'=some p->p.block≠w.heap.size/\p.block≠w.heap.size+1 from fun p hp=>by have:=HZ.o.lt;have:=(ho.2 p hp).1;omega);replace HZ:=I (HZ.o.below hb);replace HO:=I (ho.since Y.o.size);replace Y:=Y.t hb;have k3:=ab.o _ _ M.o;have f3:=M.o.frozen 3;clear hb ho)
  |fail)
 obtain⟨W2,af⟩:=Aj (w2.setCell ⟨w.heap.size,3,none⟩ (.slice A' x.b.length c'));have O:=M.o.set 3 (.slice A' x.b.length c');rw[ax.o,VW,<-af] at O;have hg:w2.grownBy W2 (some w.heap.size):=af▸Ar (World.grownBy.refl w2 _) (p:=⟨w.heap.size,3,none⟩) (.inl rfl) _;have hc:Chg (fun k=>k=w.heap.size) w2 W2:=Chg.of_grown hg rfl;replace HO:=I (HO.o.chg hc (fun p hp=>(ak.o p hp).1));replace HZ:=I (HZ.o.grown hg (by simp));replace Y:=I (btg Y.o hg Af);rw[<-af];clear k3 f3 M hg hc au an ab ao C1 C2 af;obtain⟨ds,aa⟩:=Aj (crA x A' c');rw[<-aa] at O;have M:=I O;have aw:=I (show ds.size=37 by rw[aa,AP]);have ah:=I (show(Tryz.prog.info? 96).map (·.size)=some ds.size by rw[aa,AP];exact Br);have av:=I (show ds.all (·.oneCell')=true by rw[aa];exact DF _ _ _);have az:=I aa;clear O aa
 go_wp2_with (first
  |(refine Wh.AE (by rfl) 96 (.tmp 1) (by rfl) _ 0 (by rfl) ds _ (Wh.Ac M.o) Tryz.underlying96 (by rfl) ah.o ?_)
  |(refine Wh.BP (by rfl) 96 (.tmp 2) (.tmp 15) (by rfl) (w.heap.size+1) 96 _ HZ.o ds (by rfl) (by rfl) (by rw[ay.o,aw.o]) ah.o av.o ?_;rintro V2 aj hg;have HV:=I aj;replace Y:=I (btg Y.o hg (by omega));replace HO:=I (HO.o.chg (Chg.of_grown (S:=fun k=>k=w.heap.size+1) hg rfl) (fun p hp=>(ak.o p hp).2));clear aj hg)
  |fail)
 refine bodyPost_ret (v:=.agg ds) ?_ ?_ ?_
 ·exact Wh.Al (v:=.agg ds) 2 96 ⟨w.heap.size+1,0,none⟩ Tryz.results86 (by rfl) (Wh.Ao HV.o Tryz.underlying96 (by rfl) ah.o)
 ·rfl
 ·exact⟨A',c',by rw[az.o],HO.o,Y.o,ai.o⟩
end Ca
end Go.Proofs.YtlccngianpfalaaGreat
