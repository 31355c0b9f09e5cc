import Derived.Test.YtcpccikongbopaaGreatZClientLoops8
set_option maxHeartbeats 25600000
set_option maxRecDepth 100000
set_option linter.unusedVariables false
set_option linter.unusedSimpArgs false
namespace Go.Proofs.YtcpccikongbopaaGreat
namespace Ca
open Go.RowKit Ae Se
open Rg (Pr prC prV JQ LQ RdR Cv Cd)
section
variable {α:Type} {f:α->List Value} {n:Nat}
theorem MW (h:∀x,(f x).length=n):∀(l:List α) (i:Nat) (x:α),i<l.length->∀q,((l.set i x).flatMap f)[q]? = if i*n<=q/\q<i*n+n then (f x)[q - i*n]? else (l.flatMap f)[q]?
 | [],i,x,hi,q=>by simp at hi
 |a :: l,0,x,hi,q=>by
  rw[List.set_cons_zero,List.flatMap_cons,List.flatMap_cons,Nat.zero_mul,Nat.zero_add,Nat.sub_zero]
  by_cases g:q<n
  ·rw[if_pos ⟨Nat.zero_le _,g⟩,List.getElem?_append_left (by rw[h];exact g)]
  ·rw[if_neg (fun x=>g x.2),List.getElem?_append_right (by rw[h];omega),List.getElem?_append_right (by rw[h];omega),h,h]
 |a :: l,i+1,x,hi,q=>by
  rw[List.set_cons_succ,List.flatMap_cons,List.flatMap_cons,Nat.succ_mul]
  by_cases g:q<n
  ·rw[if_neg (by omega),List.getElem?_append_left (by rw[h];exact g),List.getElem?_append_left (by rw[h];exact g)]
  ·rw[List.getElem?_append_right (by rw[h];omega),List.getElem?_append_right (by rw[h];omega),h,MW h l i x (by simpa using hi)]
   by_cases k:i*n<=q - n/\q - n<i*n+n
   ·rw[if_pos k,if_pos (by omega)]
    congr 1
    omega
   ·rw[if_neg k,if_neg (by omega)]
theorem KL (h:∀x,(f x).length=n):∀(l:List α) (i:Nat),(l.flatMap f).take (i*n)=(l.take i).flatMap f
 | [],i=>by simp
 |a :: l,0=>by simp
 |a :: l,i+1=>by
  rw[List.take_succ_cons,List.flatMap_cons,List.flatMap_cons,<-KL h l i,Nat.succ_mul,Nat.add_comm (i*n) n,List.take_append,h,show n+i*n - n=i*n by omega,List.take_of_length_le (by rw[h];omega)]
variable {w:World} {B g cap:Nat} {t:TypeId} {l:List α}
theorem LR {m:Nat} {xs:List Value} (ho:w.ownsRow B t n (.slice (some ⟨g,0,none⟩) m cap) m xs):∃cur,Blk w g t cur/\B<=g/\m<=cap/\cap<=maxLen/\cur.size=cap*n/\cur.toList.take (m*n)=xs:=by
 rcases ho.2 with⟨M,_⟩ | ⟨g1,O,cur,M,h2,h3,Z,h5,Y,X⟩
 ·cases M
 ·injection M with e1 _ e2
  injection e1 with e1;injection e1 with e1;subst e1 e2;exact⟨cur,h3,h2,Z,h5,Y,X⟩
theorem UF {m:Nat} {xs:List Value} {cur:Array Value} (Y:Blk w g t cur) (Z:B<=g) (O:m<=cap) (h3:cap<=maxLen) (X:cur.size=cap*n) (M:cur.toList.take (m*n)=xs):w.ownsRow B t n (.slice (some ⟨g,0,none⟩) m cap) m xs:=
 ⟨by rw[<-M,List.length_take,Array.length_toList,X];exact Nat.min_eq_left (Nat.mul_le_mul_right n O),.inr ⟨g,cap,cur,rfl,Z,Y,O,h3,X,M⟩⟩
theorem VV (M:∀x,(f x).length=n) (ho:w.ownsRow B t n (.slice (some ⟨g,0,none⟩) l.length cap) l.length (l.flatMap f)) {i:Nat} (Y:i<l.length) (x:α) :
  (w.setCells g (i*n) (f x)).ownsRow B t n (.slice (some ⟨g,0,none⟩) l.length cap) l.length ((l.set i x).flatMap f):=by
 obtain⟨cur,h1,h2,X,h4,O,h6⟩:=LR ho;have aa:i*n+n<=l.length*n:=by rw[<-Nat.succ_mul];exact Nat.mul_le_mul_right n Y
 have ab:l.length*n<=cap*n:=Nat.mul_le_mul_right n X;obtain⟨ds,k1,k2,k3,Z⟩:=Wh.Bk (f x) (i*n) w cur h1 (by rw[M,O];omega);refine UF k1 h2 X h4 (by rw[k2,O]) ?_;apply List.ext_getElem?;intro q;rw[MW M l i x Y]
 by_cases g1:q<l.length*n
 ·rw[List.getElem?_take_of_lt g1,Array.getElem?_toList]
  by_cases g2:i*n<=q/\q<i*n+n
  ·rw[if_pos g2,k3 q g2.1 (by rw[M];exact g2.2)]
  ·rw[if_neg g2,Z q (by rw[M];omega),<-h6,List.getElem?_take_of_lt g1,Array.getElem?_toList]
 ·rw[if_neg (by omega),List.getElem?_eq_none (by rw[List.length_take];omega),List.getElem?_eq_none (by rw[JQ f n M];omega)]
theorem KM (X:w.ownsRow B t n (.slice (some ⟨g,0,none⟩) l.length cap) l.length (l.flatMap f)) (o k:Nat) (h:o+k<=l.length*n):w.there g o k:=by
 obtain⟨cur,M,h2,Y,h4,h5,Z⟩:=LR X;have O:l.length*n<=cap*n:=Nat.mul_le_mul_right n Y;exact Wh.BP M o k (by omega)
theorem VW (hf:∀x,(f x).length=n) (ho:w.ownsRow B t n (.slice (some ⟨g,0,none⟩) l.length cap) l.length (l.flatMap f)) {i:Nat} (Y:i<=l.length) (vs:List Value) (hv:i*n+vs.length<=l.length*n) :
  (w.setCells g (i*n) vs).ownsRow B t n (.slice (some ⟨g,0,none⟩) i cap) i ((l.take i).flatMap f):=by
 obtain⟨cur,h1,h2,X,h4,O,h6⟩:=LR ho;have M:i*n<=l.length*n:=Nat.mul_le_mul_right n Y;have aa:l.length*n<=cap*n:=Nat.mul_le_mul_right n X;obtain⟨ds,k1,k2,k3,Z⟩:=Wh.Bk vs (i*n) w cur h1 (by rw[O];omega);refine UF k1 h2 (Nat.le_trans Y X) h4 (by rw[k2,O]) ?_;rw[<-KL hf,<-h6,List.take_take,Nat.min_eq_left M];apply List.ext_getElem?;intro q
 by_cases g1:q<i*n
 ·rw[List.getElem?_take_of_lt g1,List.getElem?_take_of_lt g1,Array.getElem?_toList,Array.getElem?_toList,Z q (.inl g1)]
 ·rw[List.getElem?_eq_none (by rw[List.length_take];omega),List.getElem?_eq_none (by rw[List.length_take];omega)]
end
theorem Qt (P:Program) (w:World) (t e ty:TypeId) (i:TypeInfo) (z:Value) (n:Nat) (Z:P.underlying t=some (.slice e)) (hi:P.info? e=some i) (hz:i.zero=some z) (X:z.cells.size=n) (h1:∀u∈z.cells.toList,u.oneCell'=true) (hn:0<n) (b o m c:Nat)
  (Y:w.there b o (m*n)):∃vs:List Value,vs.length=m*n/\(Builtin.clear_ #[t] ty #[.slice (some ⟨b,o,none⟩) m c]).run P w=.ok (.tuple #[]) (w.setCells b o vs):=by
 have hv:(zeroValue e).run P w=.ok z w:=by simp [zeroValue,typeInfo,hi,hz]
 have hlen:(Builtin.zeroCells z.cells m).toList.length=m*n:=by simp [Builtin.zeroCells,X]
 have M:∀u∈(Builtin.zeroCells z.cells m).toList,u.oneCell'=true:=by
  intro u hu;simp only[Builtin.zeroCells,Array.toList_map,List.mem_map] at hu;obtain⟨q,_,rfl⟩:=hu;have hq:q % z.cells.size<z.cells.size:=Nat.mod_lt _ (by omega);rw[getElem!_pos z.cells (q % z.cells.size) hq];exact h1 _ (by simp)
 cases m with
 |zero=>
  refine⟨[],by simp,?_⟩;simp [Builtin.clear_,run_underlying Z,World.setCells]
 |succ m=>
  refine⟨(Builtin.zeroCells z.cells (m+1)).toList,hlen,?_⟩;have O:=run_storeCells_cells (P:=P) b o (Builtin.zeroCells z.cells (m+1)).toList 0 w (fun j hj=>by simpa using (Y j (by omega)).1) (fun j hj=>by simpa using (Y j (by omega)).2) M;simp only[Nat.add_zero] at O;simp [Builtin.clear_,run_underlying Z,hv,O]
structure En where
 p:Pr
 x:Cr
 A:Option Addr
 c:Nat
def En.it (e:En):It:=(e.p,e.x)
def crC (x:Cr) (A:Option Addr) (c:Nat):List Value:=.string ⟨x.s.1.toArray⟩ :: .string ⟨x.s.2.toArray⟩ :: .int .i64 x.n :: .slice A x.b.length c :: ((AW x.k).toList++[.int .i64 x.e])
def crA (x:Cr) (A:Option Addr) (c:Nat):Array Value:=(crC x A c).toArray
def enC (e:En):List Value:=.string ⟨e.p.1.toArray⟩ :: .string ⟨e.p.2.toArray⟩ :: crC e.x e.A e.c
def enA (e:En):Array Value:=(enC e).toArray
theorem Jp (x:Cr) (A:Option Addr) (c:Nat):(crC x A c).length=37:=by simp [crC,AQ]
theorem AP (x:Cr) (A:Option Addr) (c:Nat):(crA x A c).size=37:=by simp [crA,Jp]
theorem Bf (e:En):(enC e).length=39:=by simp [enC,Jp]
theorem Bp (e:En):(enA e).size=39:=by simp [enA,Bf]
theorem Qu (x:Cr) (A:Option Addr) (c:Nat):∀u∈crC x A c,u.oneCell'=true:=by
 intro u hu;simp only[crC,List.mem_cons,List.mem_append,List.not_mem_nil,or_false] at hu;rcases hu with h | h | h | h | h | h
 ·subst h;rfl
 ·subst h;rfl
 ·subst h;rfl
 ·subst h;rfl
 ·have:=VL x.k
  rw[Array.all_eq_true_iff_forall_mem] at this;exact this u (Array.mem_def.2 h)
 ·subst h;rfl
theorem Hf (e:En):∀u∈enC e,u.oneCell'=true:=by
 intro u hu;simp only[enC,List.mem_cons] at hu;rcases hu with h | h | h
 ·subst h;rfl
 ·subst h;rfl
 ·exact Qu _ _ _ u h
theorem DF (x:Cr) (A:Option Addr) (c:Nat):(crA x A c).all (·.oneCell')=true:=by
 rw[Array.all_eq_true_iff_forall_mem];intro u hu;exact Qu x A c u (by simpa [crA] using hu)
theorem Qv (e:En):(enA e).all (·.oneCell')=true:=by
 rw[Array.all_eq_true_iff_forall_mem];intro u hu;exact Hf e u (by simpa [enA] using hu)
theorem Dy (e:En):(enA e).toList=enC e:=by simp [enA]
theorem Jq (x:Cr) (A:Option Addr) (c:Nat):(crA x A c).toList=crC x A c:=by simp [crA]
section
variable {w:World} {g o:Nat} {e:En} {x:Cr} {A:Option Addr} {c:Nat}
theorem SV (h:w.rangeAt g o (enC e)):w.rangeAt g o (#[.string ⟨e.p.1.toArray⟩,.string ⟨e.p.2.toArray⟩]:Array Value).toList:=fun j u hu=>by
 have M:j<2:=by have:=(List.getElem?_eq_some_iff.1 hu).1;simpa using this
 refine h j u ?_;rw[<-hu];rcases j with _ | _ | j
 ·rfl
 ·rfl
 ·omega
theorem SW (h:w.rangeAt g o (enC e)):w.rangeAt g (o+2) (crC e.x e.A e.c):=fun j u hu=>by
 have:=h (j+2) u (by simpa [enC] using hu);rw[show o+2+j=o+(j+2) by omega];exact this
theorem XJ (h:w.rangeAt g o (crC x A c)):w.cell? ⟨g,o+36,none⟩=some (.int .i64 x.e):=by
 refine h 36 _ ?_;rw[crC];simp only[List.getElem?_cons_succ];rw[List.getElem?_append_right (by simp [AQ]),Array.length_toList,AQ]
 rfl
theorem cr_b (h:w.rangeAt g o (crC x A c)):w.cell? ⟨g,o+3,none⟩=some (.slice A x.b.length c):=h 3 _ rfl
theorem cr_sv (h:w.rangeAt g o (crC x A c)):w.rangeAt g o (#[.string ⟨x.s.1.toArray⟩,.string ⟨x.s.2.toArray⟩]:Array Value).toList:=fun j u hu=>by
 have M:j<2:=by have:=(List.getElem?_eq_some_iff.1 hu).1;simpa using this
 refine h j u ?_;rw[<-hu];rcases j with _ | _ | j
 ·rfl
 ·rfl
 ·omega
end
theorem MX {w:World} {g o:Nat} {e:En} (h:w.rangeAt g o (enC e)):w.cell? ⟨g,o+38,none⟩=some (.int .i64 e.x.e):=XJ (SW h)
theorem KO {w:World} {g:Nat} {t:TypeId} {e:En} (h:Blk w g t (enA e)):w.rangeAt g 0 (enC e):=by
 have:=Wh.Ac h
 rwa [Dy] at this
theorem UG {w:World} {g:Nat} {t:TypeId} {x:Cr} {A:Option Addr} {c:Nat} (h:Blk w g t (crA x A c)):w.rangeAt g 0 (crC x A c):=by
 have:=Wh.Ac h
 rwa [Jq] at this
def its (es:List En):List It:=es.map (·.it)
theorem DY (es:List En):(its es).length=es.length:=by simp [its]
structure Ca (w:World) (B r:Nat) (v:Value) (es:List En):Prop where
 blk:Blk w r 176 #[v]
 row:w.ownsRow B 178 39 v es.length (es.flatMap enC)
 lo:B<=r
 vr:v.ownBlock≠some r
 rd:∀e∈es,Rd w w.heap.size e.A (bvs e.x.b)
 off:∀e∈es,∀a,e.A=some a->B<=a.block/\a.block≠r/\v.ownBlock≠some a.block/\a.block<w.heap.size
def CO (r:Nat) (v:Value) (es:List En) (k:Nat):Prop:=k=r\/v.ownBlock=some k\/∃e∈es,∃a,e.A=some a/\a.block=k
abbrev PT (r:Nat) (v:Value) (q:Nat):Prop:=q=r\/v.ownBlock=some q
section
variable {w w':World} {B r:Nat} {v v':Value} {es es':List En} {S:Nat->Prop}
theorem VX {q:Nat} (h:PT r v q):CO r v es q:=by
 rcases h with h | h
 ·exact .inl h
 ·exact .inr (.inl h)
theorem Ca.lt (h:Ca w B r v es):r<w.heap.size:=h.blk.lt
theorem Ca.big (h:Ca w B r v es):B<=w.heap.size:=by have:=h.lo;have:=h.lt;omega
theorem Ca.own_lt (h:Ca w B r v es) {k:Nat} (hk:CO r v es k):k<w.heap.size:=by
 rcases hk with hk | hk | ⟨e,he,a,M,hk⟩
 ·subst hk;exact h.lt
 ·exact(World.ownsRow.lt h.row k hk).2
 ·exact hk▸(h.off e he a M).2.2.2
theorem Jr {A:Option Addr} {xs:List Value} (h:Rd w w.heap.size A xs) (M:Chg S w w') (hs:∀a,A=some a->¬S a.block):Rd w' w'.heap.size A xs:=by
 rcases h with h | ⟨b,o,O,X,Y⟩
 ·exact .inl h
 ·exact .inr ⟨b,o,O,Nat.lt_of_lt_of_le X M.size,fun i u hu=>(World.cell?_of_block (a:=⟨b,o+i,none⟩) (M.block b X (hs _ O))).trans (Y i u hu)⟩
theorem Ca.chg (h:Ca w B r v es) (M:Chg S w w') (hs:∀k,CO r v es k->¬S k):Ca w' B r v es:=
 ⟨M.blk h.blk (hs r (.inl rfl)),Cd M h.row (fun k hk=>hs k (.inr (.inl hk))),h.lo,h.vr,
  fun e he=>Jr (h.rd e he) M (fun a O=>hs _ (.inr (.inr ⟨e,he,a,O,rfl⟩))),
  fun e he a O=>have q:=h.off e he a O;⟨q.1,q.2.1,q.2.2.1,Nat.lt_of_lt_of_le q.2.2.2 M.size⟩⟩
theorem Ca.below (h:Ca w B r v es) (M:Below w.heap.size w w'):Ca w' B r v es:=h.chg (S:=fun _=>False) (Chg.of_below M) (fun _ _ x=>x)
theorem Ca.num (h:Ca w B r v es):∃A c,v=.slice A es.length c/\es.length<=c/\c<=maxLen/\RdR w w.heap.size A enC 39 es:=Cv Bf h.row
end
end Ca
namespace Ca
open Go.RowKit Ae Se
open Nm (L)
open Rg (Pr prC prV AZ RdR Cv Bo BD)
theorem LS:(Tryz.prog.info? 178).map (·.size)=some 39:=by kernel_rfl
theorem UH (x:En) (p:Pr) (t:Int) (bt bp:Nat) (w:World) (ht:w.cell? ⟨bt,0,none⟩=some (.int .i64 t)) (hp:Blk w bp 36 #[.string ⟨p.1.toArray⟩,.string ⟨p.2.toArray⟩]) :
  Calls Tryz.prog 120 #[.agg (enA x),.pointer (some ⟨bt,0,none⟩),.pointer (some ⟨bp,0,none⟩)] w fun e w'=>e=.returned (.bool (del p t x.it))/\Below w.heap.size w w':=by
 obtain⟨cs,M⟩:=Aj (enA x);have aa:=I M;rw[<-M];have X:bt<w.heap.size:=World.block_lt_of_cell? w _ ht;obtain⟨W,O⟩:=Aj (w.alloc (.cells cs 178));have Z:Below w.heap.size w W:=O▸Ag.alloc Af _;have HB:=I Z;have hk:Blk W w.heap.size 178 (enA x):=by rw[O,<-M];exact Blk.new _ _ _
 have HP:=I (Wh.Ac (hp.below Z));have HR:=I (SV (KO hk));have kt:W.cell? ⟨bt,0,none⟩=some (.int .i64 t):=(Z.cell (p:=⟨bt,0,none⟩) X).trans ht;have ke:W.cell? ⟨w.heap.size,38,none⟩=some (.int .i64 x.x.e):=MX (o:=0) (KO hk);have Y:del p t x.it=(decide (x.x.e<t)||decide (x.p=p)):=rfl;rw[Y];clear Z hk hp ht X Y M
 by_cases h1:x.x.e<t
 ·have t1:decide (x.x.e<t)=true:=decide_eq_true h1
  rw[t1];clear h1;go_enter Tryz.func120,Tryz.ntmps120
  go_upto_region 1 with fail
  rw[<-O];clear O
  go_wp2
  go_ret;exact⟨rfl,HB.o⟩
 ·have t1:decide (x.x.e<t)=false:=decide_eq_false h1
  rw[t1];clear h1
  by_cases h2:x.p=p
  ·have q1:=Bo h2
   rw[decide_eq_true h2];clear h2;go_enter Tryz.func120,Tryz.ntmps120
   go_upto_region 1 with fail
   rw[<-O];clear O
   go_wp2_with (first
    |(refine Wh.AE (by rfl) 36 (.tmp 11) (by rfl) _ 0 (by rfl) _ _ HR.o Tryz.underlying36 (by rfl) AZ ?_)
    |(refine Wh.AE (by rfl) 36 (.tmp 2) (by rfl) _ 0 (by rfl) _ _ HP.o Tryz.underlying36 (by rfl) AZ ?_)
    |fail)
   go_ret;exact⟨rfl,HB.o⟩
  ·have q1:=BD h2
   rw[decide_eq_false h2];clear h2;go_enter Tryz.func120,Tryz.ntmps120
   go_upto_region 1 with fail
   rw[<-O];clear O
   go_wp2_with (first
    |(refine Wh.AE (by rfl) 36 (.tmp 11) (by rfl) _ 0 (by rfl) _ _ HR.o Tryz.underlying36 (by rfl) AZ ?_)
    |(refine Wh.AE (by rfl) 36 (.tmp 2) (by rfl) _ 0 (by rfl) _ _ HP.o Tryz.underlying36 (by rfl) AZ ?_)
    |fail)
   go_ret;exact⟨rfl,HB.o⟩
def goI (p:Pr) (t:Int) (es:List En):Option Nat:=es.findIdx? (fun e=>del p t e.it)
def goN (o:Option Nat):Int:=match o with
 |none=>-1
 |some i=>(i:Int)
theorem SX {p:Pr} {t:Int} {es:List En} {i:Nat} {x:En} (M:es[i]? = some x) (O:del p t x.it=true) (X:∀j y,j<i->es[j]? = some y->del p t y.it=false):goI p t es=some i:=by
 obtain⟨Y,h2⟩:=List.getElem?_eq_some_iff.1 M;refine List.findIdx?_eq_some_iff_getElem.2 ⟨Y,by rw[h2];exact O,fun j Z=>?_⟩;rw[X j _ Z (List.getElem?_eq_getElem (by omega))];simp
theorem SY {p:Pr} {t:Int} {es:List En} (Y:∀j y,j<es.length->es[j]? = some y->del p t y.it=false):goI p t es=none:=by
 refine List.findIdx?_eq_none_iff.2 fun x X=>?_
 obtain⟨j,M,O⟩:=List.getElem_of_mem X;exact Y j x M (by rw[<-O];exact List.getElem?_eq_getElem M)
theorem Qw (es:List En) (p:Pr) (t:Int) (bt bp:Nat) (A:Option Addr) (c B:Nat) (w:World) (hr:RdR w B A enC 39 es) (hB:B<=w.heap.size) (ht:w.cell? ⟨bt,0,none⟩=some (.int .i64 t)) (hp:Blk w bp 36 #[.string ⟨p.1.toArray⟩,.string ⟨p.2.toArray⟩]) (hl:es.length<=1000) :
  Calls Tryz.prog 169 #[.slice A es.length c,.func (.func 120) #[] #[.pointer (some ⟨bt,0,none⟩),.pointer (some ⟨bp,0,none⟩)]] w fun e w'=>e=.returned (.int .i64 (goN (goI p t es)))/\Below w.heap.size w w':=by
 obtain⟨n,en⟩:=Aj (es.length);have EN:=I en;rw[<-en] at hl⊢;have ad:bt<w.heap.size:=World.block_lt_of_cell? w _ ht;have CD:=I (fun(x:En) (w1:World) (h:Below w.heap.size w w1)=>UH x p t bt bp w1 ((h.cell (p:=⟨bt,0,none⟩) ad).trans ht) (hp.below h));have HR:=I hr;have ag:=I hB;have M:=I (Below.refl w.heap.size w);clear hr ht hp ad en hB;go_enter Tryz.func169,Tryz.ntmps169
 go_wp2
 go_loopw [8] (fun iv wr=>∃i:Nat,i<=n/\iv=.int .i64 (i:Int)/\Below w.heap.size w wr/\∀j x,j<i->es[j]? = some x->del p t x.it=false) (fun iv _=>n - (intOf iv).toNat)
 case atStart=>exact⟨0,Nat.zero_le _,rfl,M.o,fun j x hj=>absurd hj (Nat.not_lt_zero _)⟩
 case round=>
  clear M;obtain⟨i,hi,rfl,O,af⟩:=hrel;have M:=I O;have Y:=I af;have ah:=I (HR.o.keep (O.mono ag.o));clear O af
  by_cases hlt:i<n
  ·have e1:(i:Int)<(n:Int):=by omega
   have e2:(0:Int)<=(i:Int):=by omega
   obtain⟨x,hx⟩:∃x,es[i]? = some x:=⟨es[i]'(by rw[<-EN.o];exact hlt),List.getElem?_eq_getElem _⟩;obtain⟨g,rfl,ai,Z⟩:=ah.o.at_ hx;rw[<-Dy] at Z;have ab:=I Z;have X:=LS;rw[<-Bp x] at X;have aa:=I X;have HX:=I hx;have CX:=I (CD.o x);obtain⟨cs,ae⟩:=Aj (enA x);rw[<-ae] at ab aa CX;clear Z X hx ae;obtain⟨b,eb⟩:=Aj (del p t x.it);rw[<-eb] at CX;have EB:=I eb;clear eb;cases b with
   |true=>
    go_wp2_with (first
     |(refine Wh.AE (by rfl) 178 (.tmp 14) (by rfl) g _ (by rfl) cs _ ab.o Tryz.underlying178 (by rfl) aa.o ?_)
     |(go_at_call 120;refine Ah (CX.o _ M.o) ?_;rintro w1 O;replace M:=M.t O;clear O)
     |fail)
    go_ret;exact⟨by rw[SX HX.o EB.o.symm Y.o];rfl,M.o⟩
   |false=>
    go_wp2_with (first
     |(refine Wh.AE (by rfl) 178 (.tmp 14) (by rfl) g _ (by rfl) cs _ ab.o Tryz.underlying178 (by rfl) aa.o ?_)
     |(go_at_call 120;refine Ah (CX.o _ M.o) ?_;rintro w1 O;replace M:=M.t O;clear O)
     |fail)
    go_roundw
    case rel=>exact⟨i+1,by omega,by go_num,M.o,fun j y hj hy=>by
     rcases Nat.lt_or_eq_of_le (Nat.le_of_lt_succ hj) with g | g
     ·exact Y.o j y g hy
     ·rw[g,HX.o] at hy
      injection hy with hy;rw[<-hy];exact EB.o.symm⟩
    case measure=>simp [intOf];omega
  ·have e1:¬(i:Int)<(n:Int):=by omega
   obtain rfl:n=i:=by omega
   go_wp2
   go_ret;exact⟨by rw[SY (fun j y hj hy=>Y.o j y (by rw[EN.o];exact hj) hy)];rfl,M.o⟩
def Ck (p:Pr) (t:Int) (es:List En):List En:=es.filter (fun e=>!del p t e.it)
theorem JR {p:Pr} {t:Int} {es:List En} {i:Nat} (h:goI p t es=some i):∃x,es[i]? = some x/\del p t x.it=true/\∀j y,j<i->es[j]? = some y->del p t y.it=false:=by
 obtain⟨M,Y,Z⟩:=List.findIdx?_eq_some_iff_getElem.1 h;refine⟨es[i],List.getElem?_eq_getElem M,Y,fun j y O X=>?_⟩;have:=Z j O;obtain⟨k1,k2⟩:=List.getElem?_eq_some_iff.1 X;rw[k2] at this
 simpa using this
theorem Og {p:Pr} {t:Int} {es:List En} (h:goI p t es=none):Ck p t es=es:=by
 rw[Ck,List.filter_eq_self];intro x M;have:=List.findIdx?_eq_none_iff.1 h x M
 simpa using this
theorem Js {p:Pr} {t:Int} {es:List En} {i:Nat} {x:En} (M:es[i]? = some x):Ck p t (es.take (i+1))=if del p t x.it=true then Ck p t (es.take i) else Ck p t (es.take i)++[x]:=by
 rw[List.take_add_one,M,Ck,List.filter_append];cases h:del p t x.it<;>simp [Ck,h]
theorem LU {p:Pr} {t:Int} {es:List En} {i:Nat} (h:goI p t es=some i):Ck p t (es.take (i+1))=es.take i:=by
 obtain⟨x,Y,h2,h3⟩:=JR h;rw[Js Y,if_pos h2,Ck,List.filter_eq_self];intro y Z;obtain⟨j,M,X⟩:=List.getElem_of_mem Z;have O:j<i:=by simp at M;omega
 have:=h3 j y O (by rw[<-X,List.getElem_take];exact List.getElem?_eq_getElem _);rw[this];rfl
theorem SZ {α:Type} (l:List α) (i:Nat) (x:α) (h:i<l.length):(l.set i x).take (i+1)=l.take i++[x]:=by
 rw[List.take_add_one,List.take_set_of_le Af,List.getElem?_set_self h]
 rfl
theorem Qx:(Tryz.prog.info? 178).map (fun i=>(i.zero,i.size,i.bytes))=some (some (.agg (enA ⟨([],[]),⟨([],[]),0,[],fun _=>0,0⟩,none,0⟩)),39,136):=by kernel_rfl
theorem Qy (es:List En) (p:Pr) (t:Int) (bn bp g cap B i0:Nat) (w:World) (ho:w.ownsRow B 178 39 (.slice (some ⟨g,0,none⟩) es.length cap) es.length (es.flatMap enC)) (hB:B<=w.heap.size) (ht:w.cell? ⟨bn,0,none⟩=some (.int .i64 t)) (hp:Blk w bp 36 #[.string ⟨p.1.toArray⟩,.string ⟨p.2.toArray⟩])
  (aH:bn≠g) (aN:bp≠g) (hl:es.length<=1000) (ah:goI p t es=some i0) :
  Calls Tryz.prog 119 #[.slice (some ⟨g,0,none⟩) es.length cap,.func (.func 120) #[] #[.pointer (some ⟨bn,0,none⟩),.pointer (some ⟨bp,0,none⟩)]] w fun e w'=>e=.returned (.slice (some ⟨g,0,none⟩) (Ck p t es).length cap)/\
   w'.ownsRow B 178 39 (.slice (some ⟨g,0,none⟩) (Ck p t es).length cap) (Ck p t es).length ((Ck p t es).flatMap enC)/\w.grownBy w' (some g):=by
 obtain⟨x0,aD,aU,aY⟩:=JR ah;have an:i0<es.length:=(List.getElem?_eq_some_iff.1 aD).1;obtain⟨A1,c1,e1,aa,aB,aC⟩:=Cv Bf ho;injection e1 with e1 _ e2;subst e1 e2;have aO:g<w.heap.size:=(World.ownsRow.lt ho g rfl).2;have aP:B<=g:=(World.ownsRow.lt ho g rfl).1;have CI:=Qw es p t bn bp (some ⟨g,0,none⟩) cap w.heap.size w aC Af ht hp hl;rw[ah,show goN (some i0)=(i0:Int) from rfl] at CI;obtain⟨n,en⟩:=Aj (es.length);have EN:=I en;rw[<-en] at CI hl an aa⊢;have aL:bn<w.heap.size:=World.block_lt_of_cell? w _ ht;have CD:=I (fun(x:En) (w1:World) (h:w.grownBy w1 (some g))=>UH x p t bn bp w1 (h.cell ht (by intro e;injection e with e;exact aH e)) (hp.grown h (by intro e;injection e with e;exact aN e.symm)));have M:=I ho;have aF:=I an;have HF:=I (LU ah);have HL:=I hl;have aQ:=I aa;have bf:=I aO;have ba:=I aP;have bb:=I aB;have t0:((i0:Int) == -1)=false:=by simp
 obtain⟨iE,aG,aS,aW,aV⟩:=info_parts Qx;have aA:(Value.agg (enA ⟨([],[]),⟨([],[]),0,[],fun _=>0,0⟩,none,0⟩)).cells.size=39:=Bp _;have aR:∀u∈(Value.agg (enA ⟨([],[]),⟨([],[]),0,[],fun _=>0,0⟩,none,0⟩)).cells.toList,u.oneCell'=true:=by
  intro u hu;rw[show(Value.agg (enA ⟨([],[]),⟨([],[]),0,[],fun _=>0,0⟩,none,0⟩)).cells=enA ⟨([],[]),⟨([],[]),0,[],fun _=>0,0⟩,none,0⟩ from rfl,Dy] at hu;exact Hf _ u hu
 have aX:=I (fun(w1:World) (ty:TypeId) (o m c:Nat) (h:w1.there g o (m*39))=>Qt Tryz.prog w1 174 178 ty iE _ 39 Tryz.underlying174 aG aS aA aR (by decide) g o m c h);clear ho aC ht hp aL en aU aY aD x0 ah aO aP aH aN aB aa aG aS aW aV aA aR hB;go_enter Tryz.func119,Tryz.ntmps119
 go_wp2_with (first
  |(go_at_call 169;refine Ah CI ?_;rintro w1 O;have X:=I (BA O (some g));replace M:=I (CN M.o O);clear O CI)
  |fail)
 go_loopw [5,6] (fun iv jv wr=>∃(i j:Nat) (cs:List En),iv=.int .i64 (i:Int)/\jv=.int .i64 (j:Int)/\i<j/\j<=n/\cs.length=n/\cs.take i=Ck p t (es.take j)/\(∀q,j<=q->cs[q]? = es[q]?)/\wr.ownsRow B 178 39 (.slice (some ⟨g,0,none⟩) cs.length cap) cs.length (cs.flatMap enC)/\w.grownBy wr (some g)) (fun _ jv _=>n - (intOf jv).toNat)
 case atStart=>exact⟨i0,i0+1,es,rfl,by go_num,by omega,aF.o,EN.o.symm,HF.o.symm,fun q _=>rfl,M.o,X.o⟩
 case round=>
  clear M X HF aF;obtain⟨i,j,cs,rfl,rfl,bd,hj,ae,aE,ad,ho,hg⟩:=hrel;have M:=I ho;have X:=I hg;have aj:=I aE;have ai:=I ad;have Y:=I ae;clear ho hg aE ad ae
  by_cases hlt:j<n
  ·have e1:(j:Int)<(n:Int):=by omega
   have e2:(0:Int)<=(j:Int):=by omega
   have e3:(i:Int)<(n:Int):=by omega
   have e4:(0:Int)<=(i:Int):=by omega
   obtain⟨x,hx⟩:∃x,es[j]? = some x:=⟨es[j]'(by rw[<-EN.o];exact hlt),List.getElem?_eq_getElem _⟩;obtain⟨A1,c1,q1,_,_,hr⟩:=Cv Bf M.o;injection q1 with q1 _ q2;subst q1 q2;have aK:cs[j]? = some x:=(ai.o j Af).trans hx;obtain⟨g2,q3,_,ao⟩:=hr.at_ aK;injection q3 with q3;injection q3 with q3;subst q3;rw[<-Dy] at ao;have ar:=I ao;have aw:=LS;rw[<-Bp x] at aw;have Z:=I aw;have af:=I (Qv x);have HX:=I hx;have CX:=I (CD.o x);obtain⟨ds,ax⟩:=Aj (enA x);rw[<-ax] at ar Z CX af;have ag:=I ax;have av:=Js (p:=p) (t:=t) hx;obtain⟨b,eb⟩:=Aj (del p t x.it);rw[<-eb] at CX av;have az:=I av;obtain⟨m,em⟩:=Aj (cs.length);have EM:=I em;clear ao aw hx ax eb hr aK av;cases b with
   |true=>
    go_wp2_with (first
     |(refine Wh.AE (by rfl) 178 (.tmp 24) (by rfl) g _ (by rfl) ds _ ar.o Tryz.underlying178 (by rfl) Z.o ?_)
     |(refine Wh.Bw (by rfl) 178 (.tmp 7) (.tmp 25) (by rfl) 178 rfl ds (by rfl) (by rfl) (by rw[ag.o,Bp];rfl) Z.o af.o ?_;rintro V hV O;have HV:=I hV;replace M:=I (CN M.o O);replace X:=I (Gl X.o O);clear hV O)
     |(refine Wh.AE (by rfl) 178 (.tmp 7) (by rfl) _ 0 (by rfl) ds _ (Wh.Ac HV.o) Tryz.underlying178 (by rfl) Z.o ?_)
     |(go_at_call 120;refine Ah (CX.o _ X.o) ?_;rintro w1 O;replace M:=I (CN M.o O);replace X:=I (Gl X.o O);clear O)
     |fail)
    go_roundw
    case rel=>exact⟨i,j+1,cs,rfl,by go_num,by omega,by omega,Y.o,by rw[az.o];simpa using aj.o,fun q hq=>ai.o q (by omega),M.o,X.o⟩
    case measure=>simp [intOf];omega
   |false=>
    have aT:=I (fun(w1:World) (h:w1.ownsRow B 178 39 (.slice (some ⟨g,0,none⟩) cs.length cap) cs.length (cs.flatMap enC))=>KM h (i*39) 39 (by have:=Y.o;omega));have aJ:=I (fun(w1:World) (h:w1.ownsRow B 178 39 (.slice (some ⟨g,0,none⟩) cs.length cap) cs.length (cs.flatMap enC))=>VV Bf h (show i<cs.length by have:=Y.o;omega) x);rw[<-Dy,<-ag.o] at aJ
    go_wp2_with (first
     |(refine Wh.AE (by rfl) 178 (.tmp 24) (by rfl) g _ (by rfl) ds _ ar.o Tryz.underlying178 (by rfl) Z.o ?_)
     |(refine Wh.Bw (by rfl) 178 (.tmp 7) (.tmp 25) (by rfl) 178 rfl ds (by rfl) (by rfl) (by rw[ag.o,Bp];rfl) Z.o af.o ?_;rintro V hV O;have HV:=I hV;replace M:=I (CN M.o O);replace X:=I (Gl X.o O);clear hV O)
     |(refine Wh.AE (by rfl) 178 (.tmp 7) (by rfl) _ 0 (by rfl) ds _ (Wh.Ac HV.o) Tryz.underlying178 (by rfl) Z.o ?_)
     |(go_at_call 120;refine Ah (CX.o _ X.o) ?_;rintro w1 O;replace HV:=I (HV.o.below O);replace M:=I (CN M.o O);replace X:=I (Gl X.o O);clear O)
     |(refine wpList_store_mid (by rfl) 178 (.tmp 33) (.tmp 32) (by rfl) g (i*39) ds (by rfl) (by rfl) (by rw[ag.o,Bp];exact aT.o _ M.o) Z.o af.o ?_;replace M:=I (aJ.o _ M.o);replace X:=I (Wh.El (.inl rfl) ds.toList (i*39) _ X.o))
     |fail)
    go_roundw
    case rel=>exact⟨i+1,j+1,cs.set i x,by go_num,by go_num,by omega,by omega,by rw[List.length_set];exact Y.o,by rw[az.o,SZ _ _ _ (by have:=Y.o;omega),aj.o];simp,fun q hq=>by rw[List.getElem?_set_ne (by omega)];exact ai.o q (by omega),by rw[List.length_set];exact M.o,X.o⟩
    case measure=>simp [intOf];omega
  ·have e1:¬(j:Int)<(n:Int):=by omega
   obtain rfl:n=j:=by omega
   have e4:(0:Int)<=(i:Int):=by omega
   have ak:=fun(vs:List Value) (h:vs.length=(n - i)*39)=>VW Bf M.o (show i<=cs.length by have:=Y.o;omega) vs (by have:=Y.o;omega)
   obtain⟨vs,aM,ae⟩:=aX.o wr 0 (i*39) (n - i) (cap - i) (KM M.o _ _ (by have:=Y.o;omega));have au:=ak vs aM;have ay:=Wh.El (row:=some g) (g:=g) (.inl rfl) vs (i*39) _ X.o;have ab:List.take i cs=Ck p t es:=by rw[aj.o,List.take_of_length_le (by rw[<-EN.o];exact Nat.le_refl _)]
   have aI:(Ck p t es).length=i:=by rw[<-ab,List.length_take];have:=Y.o;omega
   rw[ab] at au;have e5:(i:Int)<=(n:Int):=by omega
   have e6:(n:Int)<=(cap:Int):=by have:=aQ.o;omega
   have aZ:∀ty,(Builtin.clear_ #[174] ty #[.slice (some ⟨g,i*39,none⟩) (n - i) (cap - i)]).run Tryz.prog wr=.ok (.tuple #[]) (wr.setCells g (i*39) vs):=fun _=>ae
   have H1:=I au;have H2:=I ay;have H3:=I aI;clear au ay ab aI ae ak aM M X aj ai
   go_wp2
   go_ret;exact⟨by rw[H3.o];rfl,by rw[H3.o];exact H1.o,H2.o⟩
theorem MY (es:List En) (p:Pr) (t:Int) (Y O B:Nat) (v:Value) (w:World) (Z:w.ownsRow B 178 39 v es.length (es.flatMap enC)) (hB:B<=w.heap.size) (ht:w.cell? ⟨Y,0,none⟩=some (.int .i64 t)) (hp:Blk w O 36 #[.string ⟨p.1.toArray⟩,.string ⟨p.2.toArray⟩])
  (X:v.ownBlock≠some Y) (M:v.ownBlock≠some O) (hl:es.length<=1000) :
  Calls Tryz.prog 119 #[v,.func (.func 120) #[] #[.pointer (some ⟨Y,0,none⟩),.pointer (some ⟨O,0,none⟩)]] w fun e w'=>∃v',e=.returned v'/\
   w'.ownsRow B 178 39 v' (Ck p t es).length ((Ck p t es).flatMap enC)/\w.grownBy w' v.ownBlock/\v'.ownBlock=v.ownBlock:=by
 cases hi:goI p t es with
 |none=>
  have he:=Og hi;obtain⟨A,c,rfl,_,_,hr⟩:=Cv Bf Z;have CI:=Qw es p t Y O A c w.heap.size w hr Af ht hp hl;rw[hi,show goN none = -1 from rfl] at CI;have HO:=I Z;rw[he];obtain⟨n,en⟩:=Aj (es.length);rw[<-en] at CI HO⊢;clear hi ht hp X M hl hr he en Z;go_enter Tryz.func119,Tryz.ntmps119
  go_wp2_with (first
   |(go_at_call 169;refine Ah CI ?_;rintro w1 hb;have HB:=I hb;clear hb CI)
   |fail)
  go_ret;exact⟨_,rfl,CN HO.o HB.o,BA HB.o _,rfl⟩
 |some i0=>
  rcases Z.2 with⟨rfl,h2⟩ | ⟨g,cap,cur,rfl,_⟩
  ·obtain⟨x,hx,_⟩:=JR hi
   have:=(List.getElem?_eq_some_iff.1 hx).1;omega
  ·refine(Qy es p t Y O g cap B i0 w Z hB ht hp (fun e=>X (e▸rfl)) (fun e=>M (e▸rfl)) hl hi).mono ?_
   rintro e w' ⟨rfl,h1,h2⟩;exact⟨_,rfl,h1,h2,rfl⟩
end Ca
namespace Ca
open Go.RowKit Ae Se
open Nm (L)
open Rg (Pr prC prV AZ)
theorem Ta (n:Nat) (Z:n<=140737488351232) (w:World):(Instr.makeSlice 25 (.int .i64 (n:Int)) (.int .i64 (n:Int))).run Tryz.prog w=.ok (.slice (some ⟨w.heap.size,0,none⟩) n n) (w.alloc (.cells (CV n) 5)):=by
 obtain⟨M,Y,X,hs,O⟩:=info_parts Nm.Ji;have h:=run_make (P:=Tryz.prog) w 25 5 M _ Tryz.underlying25 Y X .i64 .i64 (n:Int) (n:Int) (by omega) (by omega) (by rw[O];omega) (by omega);have e:madeCells (Value.int .u8 0).cells (((n:Int)).toNat*M.size)=CV n:=by
  rw[hs,Nat.mul_one,Int.toNat_natCast];refine Array.toList_inj.1 ?_;show(madeCells #[Value.int .u8 0] n).toList=_;rw[toList_madeCells_one];simp [CV,bv]
 rw[e] at h
 simpa using h
theorem Tb (s:L) (X:s≠[]) (hs:s.length<=140737488351232) (w:World):(Builtin.unsafeString_ #[239,3] 9 #[.pointer (some ⟨w.heap.size,0,none⟩),.int .i64 (s.length:Int)]).run Tryz.prog (w.alloc (.cells (bvs s).toArray 5))=.ok (.string ⟨s.toArray⟩) ((w.alloc (.cells (bvs s).toArray 5)).freeze ⟨w.heap.size,0,none⟩ s.length):=by
 obtain⟨i0,Z,_,O,_⟩:=info_parts Nm.Ji;have hk:=Blk.new w 5 (bvs s).toArray;refine Lib.run_unsafeString_row (P:=Tryz.prog) _ _ _ _ 5 Tryz.underlying239 (by simp [Program.cellsOf,Z,O]) w.heap.size s.length ?_ s X Af (by omega) fun j x M=>?_
 ·unfold World.shape?
  rw[show(w.alloc (.cells (bvs s).toArray 5)).heap[w.heap.size]? = _ from hk];simp [AB]
 ·obtain⟨Y,e⟩:=List.getElem?_eq_some_iff.1 M
  rw[addr_add,Nat.zero_add,hk.cell,List.getElem?_toArray,DT Y,e];rfl
theorem Oh (s:L) (w:World) (M:s.length<=140737488351232):Calls Tryz.prog 99 #[.string ⟨s.toArray⟩] w fun e w'=>e=.returned (.string ⟨s.toArray⟩)/\Below w.heap.size w w':=by
 by_cases h0:s = []
 ·subst h0
  go_enter Tryz.func99,Tryz.ntmps99
  go_wp2
  go_ret;exact⟨rfl,Below.refl _ _⟩
 ·have Y:=Ta s.length M w
  have O:=Nm.MC s w;have Z:=Tb s h0 M w;have hl:1<=s.length:=by
   cases s with
   |nil=>exact absurd rfl h0
   |cons a r=>simp
  have t0:((s.length:Int)==0)=false:=by simp;omega
  have X:=I (Lib.below_freeze ((Below.refl w.heap.size w).alloc Af (.cells (bvs s).toArray 5)) (p:=⟨w.heap.size,0,none⟩) Af s.length);clear h0;go_enter Tryz.func99,Tryz.ntmps99
  go_wp2
  go_ret;exact⟨rfl,X.o⟩
theorem Dz (s:L) (w:World) (M:s.length<=140737488351232):Calls Tryz.prog 59 #[.string ⟨s.toArray⟩] w fun e w'=>e=.returned (.string ⟨s.toArray⟩)/\Below w.heap.size w w':=by
 have c1:=Oh s w M;go_enter Tryz.func59,Tryz.ntmps59
 go_wp2_with (go_at_call 99;refine Ah c1 ?_;rintro w' O)
 go_ret;exact⟨rfl,O⟩
theorem JS (p:Pr) (w:World) (h1:p.1.length<=140737488351232) (h2:p.2.length<=140737488351232):Calls Tryz.prog 121 #[prV p] w fun e w'=>e=.returned (prV p)/\Below w.heap.size w w':=by
 have C1:=I (fun w1=>Dz p.1 w1 h1);have C2:=I (fun w1=>Dz p.2 w1 h2);go_enter Tryz.func121,Tryz.ntmps121
 go_upto_region 1 with fail
 obtain⟨W,Z⟩:=Aj ((w.alloc (.cells #[.string ⟨p.1.toArray⟩,.string ⟨p.2.toArray⟩] 36)).alloc (.cells #[.string ⟨#[]⟩,.string ⟨#[]⟩] 36));have hq:=Blk.new (w.alloc (.cells #[.string ⟨p.1.toArray⟩,.string ⟨p.2.toArray⟩] 36)) 36 #[.string ⟨#[]⟩,.string ⟨#[]⟩];rw[show(w.alloc (.cells #[.string ⟨p.1.toArray⟩,.string ⟨p.2.toArray⟩] 36)).heap.size=w.heap.size+1 by simp,<-Z] at hq;have O:=I (show Blk W w.heap.size 36 #[.string ⟨p.1.toArray⟩,.string ⟨p.2.toArray⟩] by rw[Z];exact(Blk.new _ _ _).alloc _);have M:=I hq;have Y:=I (show Below w.heap.size w W by rw[Z];exact(Ag.alloc Af _).alloc (by simp) _);rw[<-Z];clear Z hq;replace O:=I (show Blk W.drew _ _ _ from O.o.drewN 1);replace M:=I (show Blk W.drew _ _ _ from M.o.drewN 1);replace Y:=I (show Below _ _ W.drew from below_drewN Y.o 1)
 go_region_held3 (fun w'=>w'.cell? ⟨w.heap.size,0,none⟩=some (.string ⟨p.1.toArray⟩)/\w'.cell? ⟨w.heap.size,1,none⟩=some (.string ⟨p.2.toArray⟩)) (first | exact⟨O.o.cell 0,O.o.cell 1⟩ | exact⟨(Si.Blk.far (Si.Blk.far O.o _ _ (by simp)) _ _ (by simp)).cell 0,(Si.Blk.far (Si.Blk.far O.o _ _ (by simp)) _ _ (by simp)).cell 1⟩) ((first
  |(go_at_call 59;(with_reducible refine Calls.mono (C1.o _) ?_);rintro e w1 ⟨rfl,X⟩;clear C1;replace O:=I (O.o.below X);replace M:=I (M.o.below X);replace Y:=Y.t X;have ab:=M.c0;have aa:=M.c1;have fz:=M.o.frozen;clear X)
  |(go_at_call 59;(with_reducible refine Calls.mono (C2.o _) ?_);rintro e w2 ⟨rfl,X⟩;clear C2 ab aa fz;replace O:=I (O.o.below X);replace M:=I (M.o.below X);replace Y:=Y.t X;have ab:=M.c0;have aa:=M.c1;have fz:=M.o.frozen;clear X)))
 go_wp2
 have hz:=(M.o.set 0 (.string ⟨p.1.toArray⟩)).set 1 (.string ⟨p.2.toArray⟩);rw[show(((#[.string ⟨#[]⟩,.string ⟨#[]⟩]:Array Value).setIfInBounds 0 (.string ⟨p.1.toArray⟩)).setIfInBounds 1 (.string ⟨p.2.toArray⟩))=#[.string ⟨p.1.toArray⟩,.string ⟨p.2.toArray⟩] from rfl] at hz;refine bodyPost_ret (v:=prV p) ?_ ?_ ?_
 ·exact Wh.Al (v:=prV p) 2 36 ⟨w.heap.size+1,0,none⟩ Tryz.results121 (by rfl) (Wh.Ao hz Tryz.underlying36 (by rfl) AZ)
 ·rfl
 ·exact⟨rfl,Si.AX (Si.AX Y.o (by simp) _) (by simp) _⟩
structure Own1 (a w:World) (A:Option Addr) (xs:List Value):Prop where
 rd:Rd w w.heap.size A xs
 lo:∀p,A=some p->a.heap.size<=p.block/\p.block<w.heap.size
 bk:∀p,A=some p->∃t cur,Blk w p.block t cur
theorem Own1.below {a w w':World} {A:Option Addr} {xs:List Value} (h:Own1 a w A xs) (M:Below w.heap.size w w'):Own1 a w' A xs:=
 ⟨(h.1.below M).more M.size,fun p O=>have q:=h.2 p O;⟨q.1,Nat.lt_of_lt_of_le q.2 M.size⟩,fun p O=>by obtain⟨t,cur,q⟩:=h.3 p O;exact⟨t,cur,q.below M⟩⟩
theorem Own1.since {a b w:World} {A:Option Addr} {xs:List Value} (h:Own1 b w A xs) (hs:a.heap.size<=b.heap.size):Own1 a w A xs:=
 ⟨h.1,fun p M=>have q:=h.2 p M;⟨Nat.le_trans hs q.1,q.2⟩,h.3⟩
theorem Own1.chg {S:Nat->Prop} {a w w':World} {A:Option Addr} {xs:List Value} (h:Own1 a w A xs) (O:Chg S w w') (hs:∀p,A=some p->¬S p.block):Own1 a w' A xs:=
 ⟨Jr h.1 O hs,fun p M=>have q:=h.2 p M;⟨q.1,Nat.lt_of_lt_of_le q.2 O.size⟩,fun p M=>by obtain⟨t,cur,q⟩:=h.3 p M;exact⟨t,cur,O.blk q (hs p M)⟩⟩
theorem Own1.none (a w:World):Own1 a w .none []:=⟨.inl rfl,(fun p M=>by cases M),(fun p M=>by cases M)⟩
theorem Own1.of_own {w w':World} {n:Nat} {v:Value} {t:TypeId} {xs:List Value} (h:w'.ownsRow w.heap.size t 1 v n xs):∃A c,v=.slice A n c/\Own1 w w' A xs/\n<=c:=by
 rcases h.2 with⟨O,Z⟩ | ⟨g,cap,cur,O,Y,X,hc,hm,hq,hx⟩
 ·subst Z
  exact⟨_,0,O,⟨Rd.of_own (n:=0) (cap:=0) (by rw[<-O];exact h),(fun p M=>by cases M),(fun p M=>by cases M)⟩,Nat.le_refl _⟩
 ·subst O
  exact⟨_,cap,rfl,⟨Rd.of_own h,(fun p M=>by injection M with M;subst M;exact⟨Y,(Array.getElem?_eq_some_iff.1 X).1⟩),(fun p M=>by injection M with M;subst M;exact⟨t,cur,X⟩)⟩,hc⟩
theorem Oi (A:Option Addr) (c B:Nat) (l:L) (w:World) (hr:Rd w B A (bvs l)) (hB:B<=w.heap.size) (hl:l.length<=100000000000):Calls Tryz.prog 137 #[.slice A l.length c] w fun e w'=>∃A' c',e=.returned (.slice A' l.length c')/\Own1 w w' A' (bvs l)/\Below w.heap.size w w'/\l.length<=c':=by
 have an:=Lib.run_eql_slice_nil (P:=Tryz.prog) w 25 5 A l.length c 0 0 Tryz.underlying25;obtain⟨n,en⟩:=Aj (l.length);have EN:=I en;rw[<-en] at an hl⊢;cases A with
 |none=>
  have O:bvs l = []:=by
   rcases hr with h | ⟨b,o,h,_⟩
   ·exact h
   ·cases h
  have af:n=0:=by
   have:=congrArg List.length O;rw[AB] at this;exact en.trans this
  rw[O];clear hr en O;subst af;go_enter Tryz.func137,Tryz.ntmps137
  go_wp2
  go_ret;exact⟨none,0,rfl,Own1.none _ _,Below.refl _ _,Nat.le_refl _⟩
 |some a=>
  obtain⟨i0,ad,X,Z,ab⟩:=info_parts Nm.Ji;have ak:=I ad;have ao:=I X;have ai:=I Z;have ag:=I ab;have HR:=I hr;have ah:=I hB;have HL:=I hl;have aa:Below w.heap.size w (w.alloc (.cells #[] 5)):=Ag.alloc Af _;have M:=I aa;have HO:=I (World.ownsRow_made (base:=w.heap.size) w (e:=5) (size:=1) #[] 0 Af (by decide) rfl);clear hr en ad X Z ab hB hl aa;go_enter Tryz.func137,Tryz.ntmps137
  go_wp2_with (first
   |(refine AD _ rfl (.tmp 5) (.tmp 6) 25 rfl w.heap.size 5 i0 _ 1 Tryz.underlying25 ak.o ao.o ai.o ag.o rfl _ 0 [] rfl HO.o B _ n c (bvs l) rfl (by rw[AB];exact EN.o) (HR.o.below (M.o.mono ah.o)) (BM _) (by have:=HL.o;unfold maxLen;omega) (by have:=HL.o;omega) M.o.size ?_;intro v' w' ho hg hv;rw[Nat.zero_add,List.nil_append] at ho;have aj:=I ho;have ae:=I (Ak M.o hg M.o.size Af);clear ho hg hv)
   |fail)
  go_ret;obtain⟨A',c',rfl,ho,Y⟩:=Own1.of_own aj.o;exact⟨A',c',rfl,ho,ae.o,Y⟩
theorem Bs:(Tryz.prog.info? 102).map (·.size)=some 37:=by kernel_rfl
def IY (i:Nat):UInt8:=0
def DZ:Cr:=⟨([],[]),0,[],IY,0⟩
theorem Em:crA DZ none 0=#[.string ⟨#[]⟩,.string ⟨#[]⟩,.int .i64 0,.slice none 0 0,.int .u8 0,.int .u8 0,.int .u8 0,.int .u8 0,.int .u8 0,.int .u8 0,.int .u8 0,.int .u8 0,.int .u8 0,.int .u8 0,.int .u8 0,.int .u8 0,.int .u8 0,.int .u8 0,.int .u8 0,.int .u8 0,.int .u8 0,.int .u8 0,.int .u8 0,.int .u8 0,.int .u8 0,.int .u8 0,.int .u8 0,.int .u8 0,.int .u8 0,.int .u8 0,.int .u8 0,.int .u8 0,.int .u8 0,.int .u8 0,.int .u8 0,.int .u8 0,.int .i64 0]:=by rfl
theorem Tc {w:World} {g o:Nat} {t:TypeId} {cs:Array Value} {vs:List Value} (h:Blk w g t cs) (Z:o+vs.length<=cs.size) (hs:∀i u,vs[i]? = some u->cs[o+i]? = some u):Blk (w.setCells g o vs) g t cs:=by
 obtain⟨ds,O,h2,Y,X⟩:=Wh.Bk vs o w cs h Z;have e:ds=cs:=by
  apply Array.ext_getElem?;intro i
  by_cases g:o<=i/\i<o+vs.length
  ·rw[Y i g.1 g.2]
   have M:i - o<vs.length:=by omega
   have:=hs (i - o) _ (List.getElem?_eq_getElem M);rw[show o+(i - o)=i by omega] at this;rw[List.getElem?_eq_getElem M,this]
  ·exact X i (by omega)
 exact e▸O
theorem Oj {P:Program} {ops:Array Oper} {rest:List Oper} {op:Oper} {a:Act} {w:World} {Q:Exit->Act->World->Prop} (O:op.guard=none) (ty:TypeId) (x y:Operand) (ho:op.op=.store ty x y) (g o:Nat) (t:TypeId) (cs:Array Value) (X:Blk w g t cs)
  (cells:Array Value) (Y:a.eval x=.pointer (some ⟨g,o,none⟩)) (hy:a.eval y=.agg cells) (hs:o+cells.size<=cs.size) (Z:(P.info? ty).map (·.size)=some cells.size) (h1:cells.all (·.oneCell')=true)
  (M:∀i u,cells.toList[i]? = some u->cs[o+i]? = some u) (h:∀V,Blk V g t cs->w.grownBy V (some g)->wpList P ops Q rest (a.put op.dst undef) V):wpList P ops Q (op :: rest) a w:=
 wpList_store_mid O ty x y ho g o cells Y hy (Wh.BP X _ _ hs) Z h1 (h _ (Tc X (by simpa using hs) M) (Wh.Dp _ _ _ _))
theorem VY (x:Cr) (A M:Option Addr) (c c':Nat):(crA x A c).setIfInBounds 3 (.slice M x.b.length c')=crA x M c':=by
 simp [crA,crC]
theorem LV (x:Cr) (A:Option Addr) (c B:Nat) (w:World) (hr:Rd w B A (bvs x.b)) (hB:B<=w.heap.size) (h1:x.s.1.length<=140737488351232) (h2:x.s.2.length<=140737488351232) (h3:x.b.length<=100000000000) :
  Calls Tryz.prog 90 #[.agg (crA x A c)] w fun e w'=>∃A' c',e=.returned (.agg (crA x A' c'))/\Own1 w w' A' (bvs x.b)/\Below w.heap.size w w'/\x.b.length<=c':=by
 have C1:=I (fun Z=>JS x.s Z h1 h2);have C2:=I (fun(Z:World) (h:Rd Z B A (bvs x.b)) (hB:B<=Z.heap.size)=>Oi A c B x.b Z h hB h3);obtain⟨cs,Y⟩:=Aj (crA x A c);have ax:=I Y;obtain⟨zs,ae⟩:=Aj (crA DZ none 0);have aA:=I ae;have ai:=I (ae.trans Em);rw[<-Y];obtain⟨W,eW⟩:=Aj ((w.alloc (.cells cs 102)).alloc (.cells zs 102));have M:=I (show Blk W w.heap.size 102 cs by rw[eW];exact(Blk.new _ _ _).alloc _);have hq:=Blk.new (w.alloc (.cells cs 102)) 102 zs;rw[show(w.alloc (.cells cs 102)).heap.size=w.heap.size+1 by simp,<-eW] at hq;have HZ:=I hq;have hb:Below w.heap.size w W:=eW▸(Ag.alloc Af _).alloc (by simp) _;have X:=I hb;have HR:=I (hr.below (hb.mono hB));have ab:=I hB;have an:=I (show cs.size=37 by rw[Y,AP]);have aw:=I (show zs.size=37 by rw[ae,AP]);have ar:=I (fun(Z:World) (g:Nat) (h:Blk Z g 102 cs)=>(cr_sv (UG (show Blk Z g 102 (crA x A c) by rw[<-Y];exact h)):Z.rangeAt g 0 (#[.string ⟨x.s.1.toArray⟩,.string ⟨x.s.2.toArray⟩]:Array Value).toList));have af:=I (fun(Z:World) (g:Nat) (h:Blk Z g 102 cs)=>(cr_b (o:=0) (UG (show Blk Z g 102 (crA x A c) by rw[<-Y];exact h)):Z.cell? ⟨g,3,none⟩=some (.slice A x.b.length c)));have ak:=I (show ∀(i:Nat) (u:Value),(#[.string ⟨x.s.1.toArray⟩,.string ⟨x.s.2.toArray⟩]:Array Value).toList[i]? = some u->cs[0+i]? = some u by
  intro i u hu;rw[Y,crA,List.getElem?_toArray,Nat.zero_add];have hj:i<2:=by have:=(List.getElem?_eq_some_iff.1 hu).1;simpa using this
  rw[<-hu];rcases i with _ | _ | i
  ·rfl
  ·rfl
  ·omega)
 have k3:=af.o _ _ M.o;clear hr hB h1 h2 h3 Y ae hq hb;go_enter Tryz.func90,Tryz.ntmps90
 go_upto_region 1 with fail
 rw[<-ai.o,<-eW];clear eW ai
 go_upto_region 2 with(first
  |(refine Wh.AE (by rfl) 36 (.tmp 4) (by rfl) _ 0 (by rfl) _ _ (ar.o _ _ M.o) Tryz.underlying36 (by rfl) AZ ?_)
  |(go_at_call 121;refine Ah (C1.o _) ?_;rintro Z hb;replace M:=I (M.o.below hb);replace HZ:=I (HZ.o.below hb);replace HR:=I (HR.o.below (hb.mono (Nat.le_trans ab.o X.o.size)));replace X:=X.t hb;clear hb k3)
  |(refine Oj (by rfl) 36 (.tmp 8) (.tmp 6) (by rfl) w.heap.size 0 102 cs M.o (#[.string ⟨x.s.1.toArray⟩,.string ⟨x.s.2.toArray⟩]:Array Value) (by rfl) (by rfl) (by rw[an.o];simp) AZ (by simp [Value.oneCell']) ak.o ?_;intro W1 O hg;replace M:=I O;replace HZ:=I (HZ.o.grown hg (by simp));replace HR:=I (HR.o.grown hg (Nat.le_trans ab.o X.o.size) (fun k hk=>by injection hk with hk;have:=ab.o;omega));replace X:=I (btg X.o hg Af);clear hg O)
  |fail)
 have k3:=af.o _ _ M.o;have f3:=M.o.frozen 3
 go_upto_region 3 with(first
  |(go_at_call 137;refine Calls.mono (C2.o _ HR.o (Nat.le_trans ab.o X.o.size)) ?_;rintro e w2 ⟨A',c',rfl,ho,hb,ag⟩;have au:=I ag;clear k3 f3 ag;have HO:=I ho;replace M:=I (M.o.below hb);have aj:=I (show ∀p,A'=some p->p.block≠w.heap.size/\p.block≠w.heap.size+1 from fun p hp=>by have:=HZ.o.lt;have:=(ho.2 p hp).1;omega);replace HZ:=I (HZ.o.below hb);replace HO:=I (ho.since X.o.size);replace X:=X.t hb;have k3:=af.o _ _ M.o;have f3:=M.o.frozen 3;clear hb ho)
  |fail)
 obtain⟨W2,ad⟩:=Aj (w2.setCell ⟨w.heap.size,3,none⟩ (.slice A' x.b.length c'));have O:=M.o.set 3 (.slice A' x.b.length c');rw[ax.o,VY,<-ad] at O;have hg:w2.grownBy W2 (some w.heap.size):=ad▸Ar (World.grownBy.refl w2 _) (p:=⟨w.heap.size,3,none⟩) (.inl rfl) _;have hc:Chg (fun k=>k=w.heap.size) w2 W2:=Chg.of_grown hg rfl;replace HO:=I (HO.o.chg hc (fun p hp=>(aj.o p hp).1));replace HZ:=I (HZ.o.grown hg (by simp));replace X:=I (btg X.o hg Af);rw[<-ad];clear k3 f3 M hg hc an ar af ak C1 C2 ad;obtain⟨ds,aa⟩:=Aj (crA x A' c');rw[<-aa] at O;have M:=I O;have av:=I (show ds.size=37 by rw[aa,AP]);have ah:=I (show(Tryz.prog.info? 102).map (·.size)=some ds.size by rw[aa,AP];exact Bs);have az:=I (show ds.all (·.oneCell')=true by rw[aa];exact DF _ _ _);have ay:=I aa;clear O aa
 go_wp2_with (first
  |(refine Wh.AE (by rfl) 102 (.tmp 1) (by rfl) _ 0 (by rfl) ds _ (Wh.Ac M.o) Tryz.underlying102 (by rfl) ah.o ?_)
  |(refine Wh.BQ (by rfl) 102 (.tmp 2) (.tmp 15) (by rfl) (w.heap.size+1) 102 _ HZ.o ds (by rfl) (by rfl) (by rw[aw.o,av.o]) ah.o az.o ?_;rintro V2 ao hg;have HV:=I ao;replace X:=I (btg X.o hg (by omega));replace HO:=I (HO.o.chg (Chg.of_grown (S:=fun k=>k=w.heap.size+1) hg rfl) (fun p hp=>(aj.o p hp).2));clear ao hg)
  |fail)
 refine bodyPost_ret (v:=.agg ds) ?_ ?_ ?_
 ·exact Wh.Al (v:=.agg ds) 2 102 ⟨w.heap.size+1,0,none⟩ Tryz.results90 (by rfl) (Wh.Ao HV.o Tryz.underlying102 (by rfl) ah.o)
 ·rfl
 ·exact⟨A',c',by rw[ay.o],HO.o,X.o,au.o⟩
end Ca
end Go.Proofs.YtcpccikongbopaaGreat
