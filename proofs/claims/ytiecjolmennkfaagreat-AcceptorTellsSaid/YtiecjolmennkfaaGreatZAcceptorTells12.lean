import Derived.Test.YtiecjolmennkfaaGreatZAcceptorTells11
set_option maxHeartbeats 25600000
set_option maxRecDepth 100000
set_option linter.unusedVariables false
set_option linter.unusedSimpArgs false
namespace Go.Proofs.YtiecjolmennkfaaGreat
namespace Ca
open Nm (L)
open Rg (Pr)
structure Cr where
 s:Pr
 n:Int
 b:L
 k:Nat->UInt8
 e:Int
abbrev It:=Pr×Cr
def del (p:Pr) (t:Int) (i:It):Bool:=decide (i.2.e<t)||decide (i.1=p)
def rest (l:List It) (p:Pr) (t:Int):List It:=l.filter (fun i=>!del p t i)
def had (l:List It) (p:Pr):Bool:=l.any (fun i=>decide (i.1=p))
end Ca
namespace Ca
open Go.RowKit Af Se
open Rg (Pr prC prV Lx OD RdR Bs Bv)
section
variable {α:Type} {f:α->List Value} {n:Nat}
theorem Qd (h:∀x,(f x).length=n):∀(l:List α) (i:Nat) (x:α),i<l.length->∀q,((l.set i x).flatMap f)[q]? = if i*n<=q/\q<i*n+n then (f x)[q - i*n]? else (l.flatMap f)[q]?
 | [],i,x,hi,q=>by simp at hi
 |a :: l,0,x,hi,q=>by
  rw[List.set_cons_zero,List.flatMap_cons,List.flatMap_cons,Nat.zero_mul,Nat.zero_add,Nat.sub_zero]
  by_cases g:q<n
  ·rw[if_pos ⟨Nat.zero_le _,g⟩,List.getElem?_append_left (by rw[h];exact g)]
  ·rw[if_neg (fun x=>g x.2),List.getElem?_append_right (by rw[h];omega),List.getElem?_append_right (by rw[h];omega),h,h]
 |a :: l,i+1,x,hi,q=>by
  rw[List.set_cons_succ,List.flatMap_cons,List.flatMap_cons,Nat.succ_mul]
  by_cases g:q<n
  ·rw[if_neg (by omega),List.getElem?_append_left (by rw[h];exact g),List.getElem?_append_left (by rw[h];exact g)]
  ·rw[List.getElem?_append_right (by rw[h];omega),List.getElem?_append_right (by rw[h];omega),h,Qd h l i x (by simpa using hi)]
   by_cases k:i*n<=q - n/\q - n<i*n+n
   ·rw[if_pos k,if_pos (by omega)]
    congr 1
    omega
   ·rw[if_neg k,if_neg (by omega)]
theorem Na (h:∀x,(f x).length=n):∀(l:List α) (i:Nat),(l.flatMap f).take (i*n)=(l.take i).flatMap f
 | [],i=>by simp
 |a :: l,0=>by simp
 |a :: l,i+1=>by
  rw[List.take_succ_cons,List.flatMap_cons,List.flatMap_cons,<-Na h l i,Nat.succ_mul,Nat.add_comm (i*n) n,List.take_append,h,show n+i*n - n=i*n by omega,List.take_of_length_le (by rw[h];omega)]
variable {w:World} {B g cap:Nat} {t:TypeId} {l:List α}
theorem OI {m:Nat} {xs:List Value} (ho:w.ownsRow B t n (.slice (some ⟨g,0,none⟩) m cap) m xs):∃cur,Blk w g t cur/\B<=g/\m<=cap/\cap<=maxLen/\cur.size=cap*n/\cur.toList.take (m*n)=xs:=by
 rcases ho.2 with⟨M,_⟩ | ⟨g1,O,cur,M,h2,h3,h4,h5,h6,Z⟩
 ·cases M
 ·injection M with e1 _ e2
  injection e1 with e1;injection e1 with e1;subst e1 e2;exact⟨cur,h3,h2,h4,h5,h6,Z⟩
theorem YD {m:Nat} {xs:List Value} {cur:Array Value} (hb:Blk w g t cur) (h1:B<=g) (M:m<=cap) (h3:cap<=maxLen) (O:cur.size=cap*n) (Z:cur.toList.take (m*n)=xs):w.ownsRow B t n (.slice (some ⟨g,0,none⟩) m cap) m xs:=
 ⟨by rw[<-Z,List.length_take,Array.length_toList,O];exact Nat.min_eq_left (Nat.mul_le_mul_right n M),.inr ⟨g,cap,cur,rfl,h1,hb,M,h3,O,Z⟩⟩
theorem UC (M:∀x,(f x).length=n) (ho:w.ownsRow B t n (.slice (some ⟨g,0,none⟩) l.length cap) l.length (l.flatMap f)) {i:Nat} (hi:i<l.length) (x:α) :
  (w.setCells g (i*n) (f x)).ownsRow B t n (.slice (some ⟨g,0,none⟩) l.length cap) l.length ((l.set i x).flatMap f):=by
 obtain⟨cur,h1,h2,O,h4,Z,h6⟩:=OI ho;have av:i*n+n<=l.length*n:=by rw[<-Nat.succ_mul];exact Nat.mul_le_mul_right n hi
 have aw:l.length*n<=cap*n:=Nat.mul_le_mul_right n O;obtain⟨ds,k1,k2,k3,k4⟩:=Wh.Bq (f x) (i*n) w cur h1 (by rw[M,Z];omega);refine YD k1 h2 O h4 (by rw[k2,Z]) ?_;apply List.ext_getElem?;intro q;rw[Qd M l i x hi]
 by_cases g1:q<l.length*n
 ·rw[List.getElem?_take_of_lt g1,Array.getElem?_toList]
  by_cases g2:i*n<=q/\q<i*n+n
  ·rw[if_pos g2,k3 q g2.1 (by rw[M];exact g2.2)]
  ·rw[if_neg g2,k4 q (by rw[M];omega),<-h6,List.getElem?_take_of_lt g1,Array.getElem?_toList]
 ·rw[if_neg (by omega),List.getElem?_eq_none (by rw[List.length_take];omega),List.getElem?_eq_none (by rw[Lx f n M];omega)]
theorem JP (Z:w.ownsRow B t n (.slice (some ⟨g,0,none⟩) l.length cap) l.length (l.flatMap f)) (o k:Nat) (h:o+k<=l.length*n):w.there g o k:=by
 obtain⟨cur,O,h2,M,h4,h5,h6⟩:=OI Z;have av:l.length*n<=cap*n:=Nat.mul_le_mul_right n M;exact Wh.Cx O o k (by omega)
theorem UD (hf:∀x,(f x).length=n) (ho:w.ownsRow B t n (.slice (some ⟨g,0,none⟩) l.length cap) l.length (l.flatMap f)) {i:Nat} (hi:i<=l.length) (M:List Value) (hv:i*n+M.length<=l.length*n) :
  (w.setCells g (i*n) M).ownsRow B t n (.slice (some ⟨g,0,none⟩) i cap) i ((l.take i).flatMap f):=by
 obtain⟨cur,h1,h2,Z,h4,h5,h6⟩:=OI ho;have O:i*n<=l.length*n:=Nat.mul_le_mul_right n hi;have av:l.length*n<=cap*n:=Nat.mul_le_mul_right n Z;obtain⟨ds,k1,k2,k3,k4⟩:=Wh.Bq M (i*n) w cur h1 (by rw[h5];omega);refine YD k1 h2 (Nat.le_trans hi Z) h4 (by rw[k2,h5]) ?_;rw[<-Na hf,<-h6,List.take_take,Nat.min_eq_left O];apply List.ext_getElem?;intro q
 by_cases g1:q<i*n
 ·rw[List.getElem?_take_of_lt g1,List.getElem?_take_of_lt g1,Array.getElem?_toList,Array.getElem?_toList,k4 q (.inl g1)]
 ·rw[List.getElem?_eq_none (by rw[List.length_take];omega),List.getElem?_eq_none (by rw[List.length_take];omega)]
end
theorem Nb (P:Program) (w:World) (t e ty:TypeId) (i:TypeInfo) (z:Value) (n:Nat) (ht:P.underlying t=some (.slice e)) (hi:P.info? e=some i) (hz:i.zero=some z) (Z:z.cells.size=n) (h1:∀u∈z.cells.toList,u.oneCell'=true) (hn:0<n) (b o m c:Nat)
  (hc:w.there b o (m*n)):∃vs:List Value,vs.length=m*n/\(Builtin.clear_ #[t] ty #[.slice (some ⟨b,o,none⟩) m c]).run P w=.ok (.tuple #[]) (w.setCells b o vs):=by
 have hv:(zeroValue e).run P w=.ok z w:=by simp [zeroValue,typeInfo,hi,hz]
 have hlen:(Builtin.zeroCells z.cells m).toList.length=m*n:=by simp [Builtin.zeroCells,Z]
 have O:∀u∈(Builtin.zeroCells z.cells m).toList,u.oneCell'=true:=by
  intro u hu;simp only[Builtin.zeroCells,Array.toList_map,List.mem_map] at hu;obtain⟨q,_,rfl⟩:=hu;have hq:q % z.cells.size<z.cells.size:=Nat.mod_lt _ (by omega);rw[getElem!_pos z.cells (q % z.cells.size) hq];exact h1 _ (by simp)
 cases m with
 |zero=>
  refine⟨[],by simp,?_⟩;simp [Builtin.clear_,run_underlying ht,World.setCells]
 |succ m=>
  refine⟨(Builtin.zeroCells z.cells (m+1)).toList,hlen,?_⟩;have M:=run_storeCells_cells (P:=P) b o (Builtin.zeroCells z.cells (m+1)).toList 0 w (fun j hj=>by simpa using (hc j (by omega)).1) (fun j hj=>by simpa using (hc j (by omega)).2) O;simp only[Nat.add_zero] at M;simp [Builtin.clear_,run_underlying ht,hv,M]
structure En where
 p:Pr
 x:Cr
 A:Option Addr
 c:Nat
def En.it (e:En):It:=(e.p,e.x)
section
variable {w:World} {g o:Nat} {e:En} {x:Cr} {A:Option Addr} {c:Nat}
end
def its (es:List En):List It:=es.map (·.it)
theorem Dq (es:List En):(its es).length=es.length:=by simp [its]
abbrev PT (r:Nat) (v:Value) (q:Nat):Prop:=q=r\/v.ownBlock=some q
section
variable {w w':World} {B r:Nat} {v v':Value} {es es':List En} {S:Nat->Prop}
theorem dN {A:Option Addr} {xs:List Value} (h:Rd w w.heap.size A xs) (M:Chg S w w') (hs:∀a,A=some a->¬S a.block):Rd w' w'.heap.size A xs:=by
 rcases h with h | ⟨b,o,O,Z,h3⟩
 ·exact .inl h
 ·exact .inr ⟨b,o,O,Nat.lt_of_lt_of_le Z M.size,fun i u hu=>(World.cell?_of_block (a:=⟨b,o+i,none⟩) (M.block b Z (hs _ O))).trans (h3 i u hu)⟩
end
end Ca
namespace Ca
open Go.RowKit Af Se
open Nm (L)
open Rg (Pr prC prV Ds)
theorem Xf (n:Nat) (hn:n<=140737488351232) (w:World):(Instr.makeSlice 22 (.int .i64 (n:Int)) (.int .i64 (n:Int))).run Tryz.prog w=.ok (.slice (some ⟨w.heap.size,0,none⟩) n n) (w.alloc (.cells (Dg n) 5)):=by
 obtain⟨M,hi,Z,hs,O⟩:=info_parts Nm.Mf;have h:=run_make (P:=Tryz.prog) w 22 5 M _ Tryz.underlying22 hi Z .i64 .i64 (n:Int) (n:Int) (by omega) (by omega) (by rw[O];omega) (by omega);have e:madeCells (Value.int .u8 0).cells (((n:Int)).toNat*M.size)=Dg n:=by
  rw[hs,Nat.mul_one,Int.toNat_natCast];refine Array.toList_inj.1 ?_;show(madeCells #[Value.int .u8 0] n).toList=_;rw[toList_madeCells_one];simp [Dg,bv]
 rw[e] at h
 simpa using h
theorem Xg (s:L) (M:s≠[]) (hs:s.length<=140737488351232) (w:World):(Builtin.unsafeString_ #[252,3] 9 #[.pointer (some ⟨w.heap.size,0,none⟩),.int .i64 (s.length:Int)]).run Tryz.prog (w.alloc (.cells (bvs s).toArray 5))=.ok (.string ⟨s.toArray⟩) ((w.alloc (.cells (bvs s).toArray 5)).freeze ⟨w.heap.size,0,none⟩ s.length):=by
 obtain⟨i0,hi,_,hz,_⟩:=info_parts Nm.Mf;have hk:=Blk.new w 5 (bvs s).toArray;refine Lib.run_unsafeString_row (P:=Tryz.prog) _ _ _ _ 5 Tryz.underlying252 (by simp [Program.cellsOf,hi,hz]) w.heap.size s.length ?_ s M Ag (by omega) fun j x Z=>?_
 ·unfold World.shape?
  rw[show(w.alloc (.cells (bvs s).toArray 5)).heap[w.heap.size]? = _ from hk];simp [AG]
 ·obtain⟨O,e⟩:=List.getElem?_eq_some_iff.1 Z
  rw[addr_add,Nat.zero_add,hk.cell,List.getElem?_toArray,Fw O,e];rfl
theorem Ri (s:L) (w:World) (M:s.length<=140737488351232):Calls Tryz.prog 100 #[.string ⟨s.toArray⟩] w fun e w'=>e=.returned (.string ⟨s.toArray⟩)/\Below w.heap.size w w':=by
 by_cases h0:s = []
 ·subst h0
  go_enter Tryz.func100,Tryz.ntmps100
  go_wp2
  go_ret;exact⟨rfl,Below.refl _ _⟩
 ·have av:=Xf s.length M w
  have O:=Nm.GD s w;have Z:=Xg s h0 M w;have hl:1<=s.length:=by
   cases s with
   |nil=>exact absurd rfl h0
   |cons a r=>simp
  have t0:((s.length:Int)==0)=false:=by simp;omega
  have HB:=I (Lib.below_freeze ((Below.refl w.heap.size w).alloc Ag (.cells (bvs s).toArray 5)) (p:=⟨w.heap.size,0,none⟩) Ag s.length);clear h0;go_enter Tryz.func100,Tryz.ntmps100
  go_wp2
  go_ret;exact⟨rfl,HB.o⟩
theorem Ku (s:L) (w:World) (M:s.length<=140737488351232):Calls Tryz.prog 63 #[.string ⟨s.toArray⟩] w fun e w'=>e=.returned (.string ⟨s.toArray⟩)/\Below w.heap.size w w':=by
 have c1:=Ri s w M;go_enter Tryz.func63,Tryz.ntmps63
 go_wp2_with (go_at_call 100;refine Aj c1 ?_;rintro w' O)
 go_ret;exact⟨rfl,O⟩
theorem Xh (p:Pr) (w:World) (h1:p.1.length<=140737488351232) (h2:p.2.length<=140737488351232):Calls Tryz.prog 27 #[prV p] w fun e w'=>e=.returned (prV p)/\Below w.heap.size w w':=by
 have C1:=I (fun w1=>Ku p.1 w1 h1);have C2:=I (fun w1=>Ku p.2 w1 h2);go_enter Tryz.func27,Tryz.ntmps27
 go_upto_region 1 with fail
 obtain⟨W,eW⟩:=Ak ((w.alloc (.cells #[.string ⟨p.1.toArray⟩,.string ⟨p.2.toArray⟩] 30)).alloc (.cells #[.string ⟨#[]⟩,.string ⟨#[]⟩] 30));have hq:=Blk.new (w.alloc (.cells #[.string ⟨p.1.toArray⟩,.string ⟨p.2.toArray⟩] 30)) 30 #[.string ⟨#[]⟩,.string ⟨#[]⟩];rw[show(w.alloc (.cells #[.string ⟨p.1.toArray⟩,.string ⟨p.2.toArray⟩] 30)).heap.size=w.heap.size+1 by simp,<-eW] at hq;have O:=I (show Blk W w.heap.size 30 #[.string ⟨p.1.toArray⟩,.string ⟨p.2.toArray⟩] by rw[eW];exact(Blk.new _ _ _).alloc _);have M:=I hq;have HB:=I (show Below w.heap.size w W by rw[eW];exact(Ah.alloc Ag _).alloc (by simp) _);rw[<-eW];clear eW hq;replace O:=I (show Blk W.drew _ _ _ from O.o.drewN 1);replace M:=I (show Blk W.drew _ _ _ from M.o.drewN 1);replace HB:=I (show Below _ _ W.drew from below_drewN HB.o 1)
 go_region_held3 (fun w'=>w'.cell? ⟨w.heap.size,0,none⟩=some (.string ⟨p.1.toArray⟩)/\w'.cell? ⟨w.heap.size,1,none⟩=some (.string ⟨p.2.toArray⟩)) (first | exact⟨O.o.cell 0,O.o.cell 1⟩ | exact⟨(Si.Blk.far (Si.Blk.far O.o _ _ (by simp)) _ _ (by simp)).cell 0,(Si.Blk.far (Si.Blk.far O.o _ _ (by simp)) _ _ (by simp)).cell 1⟩) ((first
  |(go_at_call 63;(with_reducible refine Calls.mono (C1.o _) ?_);rintro e w1 ⟨rfl,Z⟩;clear C1;replace O:=I (O.o.below Z);replace M:=I (M.o.below Z);replace HB:=HB.t Z;have av:=M.c0;have aw:=M.c1;have fz:=M.o.frozen;clear Z)
  |(go_at_call 63;(with_reducible refine Calls.mono (C2.o _) ?_);rintro e w2 ⟨rfl,Z⟩;clear C2 av aw fz;replace O:=I (O.o.below Z);replace M:=I (M.o.below Z);replace HB:=HB.t Z;have av:=M.c0;have aw:=M.c1;have fz:=M.o.frozen;clear Z)))
 go_wp2
 have hz:=(M.o.set 0 (.string ⟨p.1.toArray⟩)).set 1 (.string ⟨p.2.toArray⟩);rw[show(((#[.string ⟨#[]⟩,.string ⟨#[]⟩]:Array Value).setIfInBounds 0 (.string ⟨p.1.toArray⟩)).setIfInBounds 1 (.string ⟨p.2.toArray⟩))=#[.string ⟨p.1.toArray⟩,.string ⟨p.2.toArray⟩] from rfl] at hz;refine bodyPost_ret (v:=prV p) ?_ ?_ ?_
 ·exact Wh.Au (v:=prV p) 2 30 ⟨w.heap.size+1,0,none⟩ Tryz.results27 (by rfl) (Wh.Ao hz Tryz.underlying30 (by rfl) Ds)
 ·rfl
 ·exact⟨rfl,Si.AS (Si.AS HB.o (by simp) _) (by simp) _⟩
structure Own1 (a w:World) (A:Option Addr) (xs:List Value):Prop where
 rd:Rd w w.heap.size A xs
 lo:∀p,A=some p->a.heap.size<=p.block/\p.block<w.heap.size
 bk:∀p,A=some p->∃t cur,Blk w p.block t cur
theorem Own1.below {a w w':World} {A:Option Addr} {xs:List Value} (h:Own1 a w A xs) (M:Below w.heap.size w w'):Own1 a w' A xs:=
 ⟨(h.1.below M).more M.size,fun p hp=>have q:=h.2 p hp;⟨q.1,Nat.lt_of_lt_of_le q.2 M.size⟩,fun p hp=>by obtain⟨t,cur,q⟩:=h.3 p hp;exact⟨t,cur,q.below M⟩⟩
theorem Own1.chg {S:Nat->Prop} {a w w':World} {A:Option Addr} {xs:List Value} (h:Own1 a w A xs) (M:Chg S w w') (hs:∀p,A=some p->¬S p.block):Own1 a w' A xs:=
 ⟨dN h.1 M hs,fun p hp=>have q:=h.2 p hp;⟨q.1,Nat.lt_of_lt_of_le q.2 M.size⟩,fun p hp=>by obtain⟨t,cur,q⟩:=h.3 p hp;exact⟨t,cur,M.blk q (hs p hp)⟩⟩
theorem Own1.none (a w:World):Own1 a w .none []:=⟨.inl rfl,(fun p hp=>by cases hp),(fun p hp=>by cases hp)⟩
end Ca
namespace Rp
open Go.RowKit Af Se
open Ms (An)
open Rg (RdR Bs Bv)
abbrev anC (a:An):List Value:=[.string ⟨a.c.1.toArray⟩,.string ⟨a.c.2.toArray⟩,.int .i64 a.t,.int .i64 a.q]
abbrev anA (a:An):Array Value:=#[.string ⟨a.c.1.toArray⟩,.string ⟨a.c.2.toArray⟩,.int .i64 a.t,.int .i64 a.q]
theorem BJ (a:An):(anC a).length=4:=rfl
theorem Ga (a:An):(anA a).size=4:=rfl
theorem LH (a:An):∀u∈anC a,u.oneCell'=true:=by simp [Value.oneCell']
theorem UE (a:An):(anA a).all (·.oneCell')=true:=by
 rw[Array.all_eq_true_iff_forall_mem];exact fun u hu=>LH a u (Array.mem_def.1 hu)
theorem JQ:(Tryz.prog.info? 35).map (·.size)=some 4:=by kernel_rfl
theorem YE:(Tryz.prog.info? 35).map (fun i=>(i.zero,i.size,i.bytes))=some (some (.agg (anA ⟨([],[]),0,0⟩)),4,48):=by kernel_rfl
structure Rp (w:World) (B r:Nat) (v:Value) (on:Bool) (st:Int) (l:List An):Prop where
 blk:Blk w r 177 #[v,.bool on,.int .i64 st]
 row:w.ownsRow B 35 4 v l.length (l.flatMap anC)
 lo:B<=r
 vr:v.ownBlock≠some r
 tm:∀a∈l,Tm a.t
def RO (r:Nat) (v:Value) (k:Nat):Prop:=k=r\/v.ownBlock=some k
section
variable {w w':World} {B r:Nat} {v v':Value} {on:Bool} {st:Int} {l l':List An} {S:Nat->Prop}
theorem Rp.lt (h:Rp w B r v on st l):r<w.heap.size:=h.blk.lt
theorem Rp.big (h:Rp w B r v on st l):B<=w.heap.size:=by have:=h.lo;have:=h.lt;omega
theorem Rp.own_lo (h:Rp w B r v on st l) {k:Nat} (hk:RO r v k):B<=k:=by
 rcases hk with hk | hk
 ·subst hk;exact h.lo
 ·exact(World.ownsRow.lt h.row k hk).1
theorem Rp.own_lt (h:Rp w B r v on st l) {k:Nat} (hk:RO r v k):k<w.heap.size:=by
 rcases hk with hk | hk
 ·subst hk;exact h.lt
 ·exact(World.ownsRow.lt h.row k hk).2
theorem Rp.chg (h:Rp w B r v on st l) (M:Chg S w w') (hs:∀k,RO r v k->¬S k):Rp w' B r v on st l:=
 ⟨M.blk h.blk (hs r (.inl rfl)),Bv M h.row (fun k hk=>hs k (.inr hk)),h.lo,h.vr,h.tm⟩
theorem Rp.below (h:Rp w B r v on st l) (M:Below w.heap.size w w'):Rp w' B r v on st l:=h.chg (S:=fun _=>False) (Chg.of_below M) (fun _ _ x=>x)
theorem Rp.num (h:Rp w B r v on st l):∃A c,v=.slice A l.length c/\l.length<=c/\c<=maxLen/\RdR w w.heap.size A anC 4 l:=Bs BJ h.row
end
theorem Hj (x y:Int) (hx:Tm x) (hy:Tm y) (w:World):Calls Tryz.prog 144 #[.int .i64 x,.int .i64 y] w fun e w'=>e=.returned (.bool (old x y))/\w'=w:=by
 unfold old;have u1:IntKind.u64.wrap x=x:=by rw[IntKind.wrap_u64];omega
 have u2:IntKind.u64.wrap y=y:=by rw[IntKind.wrap_u64];omega
 by_cases h:y<x
 ·have Z:decide (y<x)=true:=decide_eq_true h
  have u3:IntKind.u64.wrap (x - y)=x - y:=by rw[IntKind.wrap_u64];omega
  obtain⟨b,M⟩:=Ak (decide (y+5<x));have hb:decide (5<x - y)=b:=by rw[M];exact decide_eq_decide.2 (by omega)
  rw[<-M];clear M;go_enter Tryz.func144,Tryz.ntmps144
  go_wp2
  go_ret;exact⟨by rw[<-hb];rfl,rfl⟩
 ·have Z:decide (y<x)=false:=decide_eq_false h
  have O:decide (y+5<x)=false:=decide_eq_false (by omega);rw[O];clear O;go_enter Tryz.func144,Tryz.ntmps144
  go_wp2
  go_ret;exact⟨rfl,rfl⟩
theorem Rj (r:Nat) (v:Value) (on:Bool) (st t now:Int) (w:World) (hb:Blk w r 177 #[v,.bool on,.int .i64 st]) (Z:Tm t) (h2:Tm now) (h3:Tm st):Calls Tryz.prog 141 #[.pointer (some ⟨r,0,none⟩),.int .i64 t,.int .i64 now] w fun e w'=>e=.returned (.bool (skw on st t now))/\w'=w:=by
 unfold skw;have M:=I (Hj t now Z h2);have O:=I (Hj now t h2 Z);have C3:=I (Hj t st Z h3);have k1:=hb.c1;have k2:=hb.c2;obtain⟨b1,e1⟩:∃b,b=old t now:=⟨_,rfl⟩;obtain⟨b2,e2⟩:∃b,b=old now t:=⟨_,rfl⟩;obtain⟨b3,e3⟩:∃b,b=old t st:=⟨_,rfl⟩;rw[<-e1] at M⊢;rw[<-e2] at O⊢;rw[<-e3] at C3⊢;clear e1 e2 e3 hb Z h2 h3;cases b1 with
 |true=>
  go_enter Tryz.func141,Tryz.ntmps141
  go_wp2_with (first
   |(go_at_call 144;with_reducible refine Aj (M.o _) ?_;rintro w1 hw;subst hw;clear M)
   |fail)
  go_ret;exact⟨rfl,rfl⟩
 |false=>
  cases b2 with
  |true=>
   go_enter Tryz.func141,Tryz.ntmps141
   go_wp2_with (first
    |(go_at_call 144;with_reducible refine Aj (M.o _) ?_;rintro w1 hw;subst hw;clear M)
    |(go_at_call 144;with_reducible refine Aj (O.o _) ?_;rintro w1 hw;subst hw;clear O)
    |fail)
   go_ret;exact⟨rfl,rfl⟩
  |false=>
   cases on with
   |false=>
    go_enter Tryz.func141,Tryz.ntmps141
    go_wp2_with (first
     |(go_at_call 144;with_reducible refine Aj (M.o _) ?_;rintro w1 hw;subst hw;clear M)
     |(go_at_call 144;with_reducible refine Aj (O.o _) ?_;rintro w1 hw;subst hw;clear O)
     |fail)
    go_ret;exact⟨rfl,rfl⟩
   |true=>
    go_enter Tryz.func141,Tryz.ntmps141
    go_wp2_with (first
     |(go_at_call 144;with_reducible refine Aj (M.o _) ?_;rintro w1 hw;subst hw;clear M)
     |(go_at_call 144;with_reducible refine Aj (O.o _) ?_;rintro w1 hw;subst hw;clear O)
     |(go_at_call 144;with_reducible refine Aj (C3.o _) ?_;rintro w1 hw;subst hw;clear C3)
     |fail)
    go_ret;exact⟨rfl,rfl⟩
theorem YF (x:An) (now:Int) (O:Nat) (w:World) (hn:w.cell? ⟨O,0,none⟩=some (.int .i64 now)) (h1:Tm now) (h2:Tm x.t) :
  Calls Tryz.prog 143 #[.agg (anA x),.pointer (some ⟨O,0,none⟩)] w fun e w'=>e=.returned (.bool (old now x.t))/\Below w.heap.size w w':=by
 have CA:=I (Hj now x.t h1 h2);have M:O<w.heap.size:=World.block_lt_of_cell? w _ hn;obtain⟨W,Z⟩:=Ak (w.alloc (.cells (anA x) 35));have hb:Below w.heap.size w W:=Z▸Ah.alloc Ag _;have HB:=I hb;have hk:Blk W w.heap.size 35 (anA x):=by rw[Z];exact Blk.new _ _ _
 have kt:W.cell? ⟨O,0,none⟩=some (.int .i64 now):=(hb.cell (p:=⟨O,0,none⟩) M).trans hn;have ke:=hk.c2;obtain⟨b,eb⟩:=Ak (old now x.t);rw[<-eb] at CA⊢;clear eb hb hk hn M h1 h2;go_enter Tryz.func143,Tryz.ntmps143
 go_upto_region 1 with fail
 rw[<-Z];clear Z
 go_wp2_with (first
  |(go_at_call 144;refine Aj (CA.o _) ?_;rintro w1 hw;subst hw;clear CA)
  |fail)
 go_ret;exact⟨rfl,HB.o⟩
open Ca (UC UD JP Nb)
theorem Gb (x:An):(anA x).toList=anC x:=rfl
def goI (t:Int) (es:List An):Option Nat:=es.findIdx? (fun e=>old t e.t)
def goN (o:Option Nat):Int:=match o with
 |none=>-1
 |some i=>(i:Int)
theorem Xi {t:Int} {es:List An} {i:Nat} {x:An} (Z:es[i]? = some x) (hd:old t x.t=true) (hn:∀j y,j<i->es[j]? = some y->old t y.t=false):goI t es=some i:=by
 obtain⟨O,h2⟩:=List.getElem?_eq_some_iff.1 Z;refine List.findIdx?_eq_some_iff_getElem.2 ⟨O,by rw[h2];exact hd,fun j M=>?_⟩;rw[hn j _ M (List.getElem?_eq_getElem (by omega))];simp
theorem Xj {t:Int} {es:List An} (hn:∀j y,j<es.length->es[j]? = some y->old t y.t=false):goI t es=none:=by
 refine List.findIdx?_eq_none_iff.2 fun x Z=>?_
 obtain⟨j,M,O⟩:=List.getElem_of_mem Z;exact hn j x M (by rw[<-O];exact List.getElem?_eq_getElem M)
theorem UF (es:List An) (t:Int) (bt:Nat) (A:Option Addr) (c B:Nat) (w:World) (hr:RdR w B A anC 4 es) (hB:B<=w.heap.size) (ht:w.cell? ⟨bt,0,none⟩=some (.int .i64 t)) (av:Tm t/\∀a∈es,Tm a.t) (hl:es.length<=1000) :
  Calls Tryz.prog 195 #[.slice A es.length c,.func (.func 143) #[] #[.pointer (some ⟨bt,0,none⟩)]] w fun e w'=>e=.returned (.int .i64 (goN (goI t es)))/\Below w.heap.size w w':=by
 obtain⟨n,en⟩:=Ak (es.length);have EN:=I en;rw[<-en] at hl⊢;have bx:bt<w.heap.size:=World.block_lt_of_cell? w _ ht;have CD:=I (fun(x:An) (w1:World) (h:Below w.heap.size w w1) (hx:Tm x.t)=>YF x t bt w1 ((h.cell (p:=⟨bt,0,none⟩) bx).trans ht) av.1 hx);have HR:=I hr;have cb:=I hB;have M:=I (Below.refl w.heap.size w);have ca:=I av.2;clear hr ht bx en hB av;go_enter Tryz.func195,Tryz.ntmps195
 go_wp2
 go_loopw [8] (fun iv wr=>∃i:Nat,i<=n/\iv=.int .i64 (i:Int)/\Below w.heap.size w wr/\∀j x,j<i->es[j]? = some x->old t x.t=false) (fun iv _=>n - (intOf iv).toNat)
 case atStart=>exact⟨0,Nat.zero_le _,rfl,M.o,fun j x hj=>absurd hj (Nat.not_lt_zero _)⟩
 case round=>
  clear M;obtain⟨i,hi,rfl,O,bz⟩:=hrel;have M:=I O;have bq:=I bz;have bB:=I (HR.o.keep (O.mono cb.o));clear O bz
  by_cases hlt:i<n
  ·have e1:(i:Int)<(n:Int):=by omega
   have e2:(0:Int)<=(i:Int):=by omega
   obtain⟨x,hx⟩:∃x,es[i]? = some x:=⟨es[i]'(by rw[<-EN.o];exact hlt),List.getElem?_eq_getElem _⟩;obtain⟨g,rfl,cc,bn⟩:=bB.o.at_ hx;rw[<-Gb] at bn;have bb:=I bn;have aw:=JQ;rw[<-Ga x] at aw;have Z:=I aw;have HX:=I hx;have CX:=I (fun w1 h=>CD.o x w1 h (ca.o x (List.mem_of_getElem? hx)));obtain⟨cs,bs⟩:=Ak (anA x);rw[<-bs] at bb Z CX;clear bn aw hx bs;obtain⟨b,eb⟩:=Ak (old t x.t);rw[<-eb] at CX;have EB:=I eb;clear eb;cases b with
   |true=>
    go_wp2_with (first
     |(refine Wh.AF (by rfl) 35 (.tmp 14) (by rfl) g _ (by rfl) cs _ bb.o Tryz.underlying35 (by rfl) Z.o ?_)
     |(go_at_call 143;refine Aj (CX.o _ M.o) ?_;rintro w1 O;replace M:=M.t O;clear O)
     |fail)
    go_ret;exact⟨by rw[Xi HX.o EB.o.symm bq.o];rfl,M.o⟩
   |false=>
    go_wp2_with (first
     |(refine Wh.AF (by rfl) 35 (.tmp 14) (by rfl) g _ (by rfl) cs _ bb.o Tryz.underlying35 (by rfl) Z.o ?_)
     |(go_at_call 143;refine Aj (CX.o _ M.o) ?_;rintro w1 O;replace M:=M.t O;clear O)
     |fail)
    go_roundw
    case rel=>exact⟨i+1,by omega,by go_num,M.o,fun j y hj hy=>by
     rcases Nat.lt_or_eq_of_le (Nat.le_of_lt_succ hj) with g | g
     ·exact bq.o j y g hy
     ·rw[g,HX.o] at hy
      injection hy with hy;rw[<-hy];exact EB.o.symm⟩
    case measure=>simp [intOf];omega
  ·have e1:¬(i:Int)<(n:Int):=by omega
   obtain rfl:n=i:=by omega
   go_wp2
   go_ret;exact⟨by rw[Xj (fun j y hj hy=>bq.o j y (by rw[EN.o];exact hj) hy)];rfl,M.o⟩
theorem LI {t:Int} {es:List An} {i:Nat} (h:goI t es=some i):∃x,es[i]? = some x/\old t x.t=true/\∀j y,j<i->es[j]? = some y->old t y.t=false:=by
 obtain⟨h1,h2,M⟩:=List.findIdx?_eq_some_iff_getElem.1 h;refine⟨es[i],List.getElem?_eq_getElem h1,h2,fun j y O Z=>?_⟩;have:=M j O;obtain⟨k1,k2⟩:=List.getElem?_eq_some_iff.1 Z;rw[k2] at this
 simpa using this
theorem Rk {t:Int} {es:List An} (h:goI t es=none):Ck t es=es:=by
 rw[Ck,List.filter_eq_self];intro x M;have:=List.findIdx?_eq_none_iff.1 h x M
 simpa using this
theorem Kv {t:Int} {es:List An} {i:Nat} {x:An} (M:es[i]? = some x):Ck t (es.take (i+1))=if old t x.t=true then Ck t (es.take i) else Ck t (es.take i)++[x]:=by
 rw[List.take_add_one,M,Ck,List.filter_append];cases h:old t x.t<;>simp [Ck,h]
theorem OJ {t:Int} {es:List An} {i:Nat} (h:goI t es=some i):Ck t (es.take (i+1))=es.take i:=by
 obtain⟨x,h1,h2,h3⟩:=LI h;rw[Kv h1,if_pos h2,Ck,List.filter_eq_self];intro y hy;obtain⟨j,M,Z⟩:=List.getElem_of_mem hy;have O:j<i:=by simp at M;omega
 have:=h3 j y O (by rw[<-Z,List.getElem_take];exact List.getElem?_eq_getElem _);rw[this];rfl
theorem Xk {α:Type} (l:List α) (i:Nat) (x:α) (h:i<l.length):(l.set i x).take (i+1)=l.take i++[x]:=by
 rw[List.take_add_one,List.take_set_of_le Ag,List.getElem?_set_self h]
 rfl
theorem UG (es:List An) (t:Int) (bn g cap B i0:Nat) (w:World) (ho:w.ownsRow B 35 4 (.slice (some ⟨g,0,none⟩) es.length cap) es.length (es.flatMap anC)) (hB:B<=w.heap.size) (ht:w.cell? ⟨bn,0,none⟩=some (.int .i64 t)) (bx:Tm t/\∀a∈es,Tm a.t)
  (ct:bn≠g) (hl:es.length<=1000) (cb:goI t es=some i0) :
  Calls Tryz.prog 142 #[.slice (some ⟨g,0,none⟩) es.length cap,.func (.func 143) #[] #[.pointer (some ⟨bn,0,none⟩)]] w fun e w'=>e=.returned (.slice (some ⟨g,0,none⟩) (Ck t es).length cap)/\
   w'.ownsRow B 35 4 (.slice (some ⟨g,0,none⟩) (Ck t es).length cap) (Ck t es).length ((Ck t es).flatMap anC)/\w.grownBy w' (some g):=by
 obtain⟨x0,cy,ed,eg⟩:=LI cb;have cf:i0<es.length:=(List.getElem?_eq_some_iff.1 cy).1;obtain⟨A1,c1,e1,bq,cA,cT⟩:=Bs BJ ho;injection e1 with e1 _ e2;subst e1 e2;have cL:g<w.heap.size:=(World.ownsRow.lt ho g rfl).2;have cu:B<=g:=(World.ownsRow.lt ho g rfl).1;have CI:=UF es t bn (some ⟨g,0,none⟩) cap w.heap.size w cT Ag ht bx hl;rw[cb,show goN (some i0)=(i0:Int) from rfl] at CI;obtain⟨n,en⟩:=Ak (es.length);have EN:=I en;rw[<-en] at CI hl cf bq⊢;have cr:bn<w.heap.size:=World.block_lt_of_cell? w _ ht;have CD:=I (fun(x:An) (w1:World) (h:w.grownBy w1 (some g)) (hx:Tm x.t)=>YF x t bn w1 (h.cell ht (by intro e;injection e with e;exact ct e)) bx.1 hx);have M:=I ho;have cZ:=I cf;have HF:=I (OJ cb);have HL:=I hl;have cX:=I bq;have ev:=I cL;have eu:=I cu;have er:=I cA;have t0:((i0:Int) == -1)=false:=by simp
 obtain⟨iE,cx,cw,ef,ek⟩:=info_parts YE;have cR:(Value.agg (anA ⟨([],[]),0,0⟩)).cells.size=4:=Ga _;have cM:∀u∈(Value.agg (anA ⟨([],[]),0,0⟩)).cells.toList,u.oneCell'=true:=by
  intro u hu;rw[show(Value.agg (anA ⟨([],[]),0,0⟩)).cells=anA ⟨([],[]),0,0⟩ from rfl,Gb] at hu;exact LH _ u hu
 have eo:=I (fun(w1:World) (ty:TypeId) (o m c:Nat) (h:w1.there g o (m*4))=>Nb Tryz.prog w1 175 35 ty iE _ 4 Tryz.underlying175 cx cw cR cM (by decide) g o m c h);have ej:=I bx.2;clear ho cT ht bx cr en ed eg cy x0 cb cL cu ct cA bq cx cw ef ek cR cM hB;go_enter Tryz.func142,Tryz.ntmps142
 go_wp2_with (first
  |(go_at_call 195;refine Aj CI ?_;rintro w1 O;have HG:=I (Dj O (some g));replace M:=I (BU M.o O);clear O CI)
  |fail)
 go_loopw [5,6] (fun iv jv wr=>∃(i j:Nat) (cs:List An),iv=.int .i64 (i:Int)/\jv=.int .i64 (j:Int)/\i<j/\j<=n/\cs.length=n/\cs.take i=Ck t (es.take j)/\(∀q,j<=q->cs[q]? = es[q]?)/\wr.ownsRow B 35 4 (.slice (some ⟨g,0,none⟩) cs.length cap) cs.length (cs.flatMap anC)/\w.grownBy wr (some g)) (fun _ jv _=>n - (intOf jv).toNat)
 case atStart=>exact⟨i0,i0+1,es,rfl,by go_num,by omega,cZ.o,EN.o.symm,HF.o.symm,fun q _=>rfl,M.o,HG.o⟩
 case round=>
  clear M HG HF cZ;obtain⟨i,j,cs,rfl,rfl,et,hj,bb,ea,bs,ho,hg⟩:=hrel;have M:=I ho;have HG:=I hg;have bB:=I ea;have bz:=I bs;have Z:=I bb;clear ho hg ea bs bb
  by_cases hlt:j<n
  ·have e1:(j:Int)<(n:Int):=by omega
   have e2:(0:Int)<=(j:Int):=by omega
   have e3:(i:Int)<(n:Int):=by omega
   have e4:(0:Int)<=(i:Int):=by omega
   obtain⟨x,hx⟩:∃x,es[j]? = some x:=⟨es[j]'(by rw[<-EN.o];exact hlt),List.getElem?_eq_getElem _⟩;obtain⟨A1,c1,q1,_,_,hr⟩:=Bs BJ M.o;injection q1 with q1 _ q2;subst q1 q2;have cY:cs[j]? = some x:=(bz.o j Ag).trans hx;obtain⟨g2,q3,_,cn⟩:=hr.at_ cY;injection q3 with q3;injection q3 with q3;subst q3;rw[<-Gb] at cn;have cm:=I cn;have ck:=JQ;rw[<-Ga x] at ck;have av:=I ck;have cc:=I (UE x);have HX:=I hx;have CX:=I (fun w1 h=>CD.o x w1 h (ej.o x (List.mem_of_getElem? hx)));obtain⟨ds,cg⟩:=Ak (anA x);rw[<-cg] at cm av CX cc;have ca:=I cg;have cp:=Kv (t:=t) hx;obtain⟨b,eb⟩:=Ak (old t x.t);rw[<-eb] at CX cp;have cQ:=I cp;obtain⟨m,em⟩:=Ak (cs.length);have EM:=I em;clear cn ck hx cg eb hr cY cp;cases b with
   |true=>
    go_wp2_with (first
     |(refine Wh.AF (by rfl) 35 (.tmp 24) (by rfl) g _ (by rfl) ds _ cm.o Tryz.underlying35 (by rfl) av.o ?_)
     |(refine Wh.Bd (by rfl) 35 (.tmp 7) (.tmp 25) (by rfl) 35 rfl ds (by rfl) (by rfl) (by rw[ca.o,Ga];rfl) av.o cc.o ?_;rintro V hV O;have HV:=I hV;replace M:=I (BU M.o O);replace HG:=I (IZ HG.o O);clear hV O)
     |(refine Wh.AF (by rfl) 35 (.tmp 7) (by rfl) _ 0 (by rfl) ds _ (Wh.Ad HV.o) Tryz.underlying35 (by rfl) av.o ?_)
     |(go_at_call 143;refine Aj (CX.o _ HG.o) ?_;rintro w1 O;replace M:=I (BU M.o O);replace HG:=I (IZ HG.o O);clear O)
     |fail)
    go_roundw
    case rel=>exact⟨i,j+1,cs,rfl,by go_num,by omega,by omega,Z.o,by rw[cQ.o];simpa using bB.o,fun q hq=>bz.o q (by omega),M.o,HG.o⟩
    case measure=>simp [intOf];omega
   |false=>
    have ei:=I (fun(w1:World) (h:w1.ownsRow B 35 4 (.slice (some ⟨g,0,none⟩) cs.length cap) cs.length (cs.flatMap anC))=>JP h (i*4) 4 (by have:=Z.o;omega));have ec:=I (fun(w1:World) (h:w1.ownsRow B 35 4 (.slice (some ⟨g,0,none⟩) cs.length cap) cs.length (cs.flatMap anC))=>UC BJ h (show i<cs.length by have:=Z.o;omega) x);rw[<-Gb,<-ca.o] at ec
    go_wp2_with (first
     |(refine Wh.AF (by rfl) 35 (.tmp 24) (by rfl) g _ (by rfl) ds _ cm.o Tryz.underlying35 (by rfl) av.o ?_)
     |(refine Wh.Bd (by rfl) 35 (.tmp 7) (.tmp 25) (by rfl) 35 rfl ds (by rfl) (by rfl) (by rw[ca.o,Ga];rfl) av.o cc.o ?_;rintro V hV O;have HV:=I hV;replace M:=I (BU M.o O);replace HG:=I (IZ HG.o O);clear hV O)
     |(refine Wh.AF (by rfl) 35 (.tmp 7) (by rfl) _ 0 (by rfl) ds _ (Wh.Ad HV.o) Tryz.underlying35 (by rfl) av.o ?_)
     |(go_at_call 143;refine Aj (CX.o _ HG.o) ?_;rintro w1 O;replace HV:=I (HV.o.below O);replace M:=I (BU M.o O);replace HG:=I (IZ HG.o O);clear O)
     |(refine wpList_store_mid (by rfl) 35 (.tmp 33) (.tmp 32) (by rfl) g (i*4) ds (by rfl) (by rfl) (by rw[ca.o,Ga];exact ei.o _ M.o) av.o cc.o ?_;replace M:=I (ec.o _ M.o);replace HG:=I (Wh.Fj (.inl rfl) ds.toList (i*4) _ HG.o))
     |fail)
    go_roundw
    case rel=>exact⟨i+1,j+1,cs.set i x,by go_num,by go_num,by omega,by omega,by rw[List.length_set];exact Z.o,by rw[cQ.o,Xk _ _ _ (by have:=Z.o;omega),bB.o];simp,fun q hq=>by rw[List.getElem?_set_ne (by omega)];exact bz.o q (by omega),by rw[List.length_set];exact M.o,HG.o⟩
    case measure=>simp [intOf];omega
  ·have e1:¬(j:Int)<(n:Int):=by omega
   obtain rfl:n=j:=by omega
   have e4:(0:Int)<=(i:Int):=by omega
   have cd:=fun(vs:List Value) (h:vs.length=(n - i)*4)=>UD BJ M.o (show i<=cs.length by have:=Z.o;omega) vs (by have:=Z.o;omega)
   obtain⟨vs,cq,bb⟩:=eo.o wr 0 (i*4) (n - i) (cap - i) (JP M.o _ _ (by have:=Z.o;omega));have cj:=cd vs cq;have cB:=Wh.Fj (row:=some g) (g:=g) (.inl rfl) vs (i*4) _ HG.o;have aw:List.take i cs=Ck t es:=by rw[bB.o,List.take_of_length_le (by rw[<-EN.o];exact Nat.le_refl _)]
   have cP:(Ck t es).length=i:=by rw[<-aw,List.length_take];have:=Z.o;omega
   rw[aw] at cj;have e5:(i:Int)<=(n:Int):=by omega
   have e6:(n:Int)<=(cap:Int):=by have:=cX.o;omega
   have ep:∀ty,(Builtin.clear_ #[175] ty #[.slice (some ⟨g,i*4,none⟩) (n - i) (cap - i)]).run Tryz.prog wr=.ok (.tuple #[]) (wr.setCells g (i*4) vs):=fun _=>bb
   have H1:=I cj;have H2:=I cB;have H3:=I cP;clear cj cB aw cP bb cd cq M HG bB bz
   go_wp2
   go_ret;exact⟨by rw[H3.o];rfl,by rw[H3.o];exact H1.o,H2.o⟩
theorem Xl (es:List An) (t:Int) (bn B:Nat) (v:Value) (w:World) (O:w.ownsRow B 35 4 v es.length (es.flatMap anC)) (hB:B<=w.heap.size) (ht:w.cell? ⟨bn,0,none⟩=some (.int .i64 t)) (M:Tm t/\∀a∈es,Tm a.t)
  (Z:v.ownBlock≠some bn) (hl:es.length<=1000) :
  Calls Tryz.prog 142 #[v,.func (.func 143) #[] #[.pointer (some ⟨bn,0,none⟩)]] w fun e w'=>∃v',e=.returned v'/\
   w'.ownsRow B 35 4 v' (Ck t es).length ((Ck t es).flatMap anC)/\w.grownBy w' v.ownBlock/\v'.ownBlock=v.ownBlock:=by
 cases hi:goI t es with
 |none=>
  have he:=Rk hi;obtain⟨A,c,rfl,_,_,hr⟩:=Bs BJ O;have CI:=UF es t bn A c w.heap.size w hr Ag ht M hl;rw[hi,show goN none = -1 from rfl] at CI;have HO:=I O;rw[he];obtain⟨n,en⟩:=Ak (es.length);rw[<-en] at CI HO⊢;clear hi ht M Z hl hr he en O;go_enter Tryz.func142,Tryz.ntmps142
  go_wp2_with (first
   |(go_at_call 195;refine Aj CI ?_;rintro w1 hb;have HB:=I hb;clear hb CI)
   |fail)
  go_ret;exact⟨_,rfl,BU HO.o HB.o,Dj HB.o _,rfl⟩
 |some i0=>
  rcases O.2 with⟨rfl,h2⟩ | ⟨g,cap,cur,rfl,_⟩
  ·obtain⟨x,hx,_⟩:=LI hi
   have:=(List.getElem?_eq_some_iff.1 hx).1;omega
  ·refine(UG es t bn g cap B i0 w O hB ht M (fun e=>Z (e▸rfl)) hl hi).mono ?_
   rintro e w' ⟨rfl,h1,h2⟩;exact⟨_,rfl,h1,h2,rfl⟩
end Rp
namespace Rp
open Go.RowKit Af Se
open Ms (An)
open Rg (RdR Bs Bv)
theorem dO (x y:An) (w:World):(Op.equalIn 10000 35 (.agg (anA x)) (.agg (anA y))).run Tryz.prog w=.ok (decide (x=y)) w:=by
 obtain⟨⟨a,b⟩,c,d⟩:=x;obtain⟨⟨Z,M⟩,c',O⟩:=y
 by_cases h0:a=Z
 ·subst h0
  by_cases h1:b=M
  ·subst h1
   by_cases h2:c=c'
   ·subst h2
    by_cases h3:d=O
    ·subst h3
     rw[decide_eq_true rfl]
     go_simp
    ·rw[decide_eq_false (fun h=>h3 (congrArg (fun z=>z.q) h))]
     go_simp
   ·rw[decide_eq_false (fun h=>h2 (congrArg (fun z=>z.t) h))]
    go_simp
  ·rw[decide_eq_false (fun h=>h1 (congrArg (fun z=>z.c.2) h))]
   go_simp
 ·rw[decide_eq_false (fun h=>h0 (congrArg (fun z=>z.c.1) h))]
  go_simp
def ixA (a:An) (l:List An):Int:=match l.findIdx? (fun x=>decide (a=x)) with
 |none=>-1
 |some i=>(i:Int)
theorem dP (a:An) (l:List An):decide (0<=ixA a l)=decide (a∈l):=by
 unfold ixA;refine decide_eq_decide.2 ?_;cases h:l.findIdx? (fun x=>decide (a=x)) with
 |none=>
  refine⟨fun x=>by simp at x,fun x=>?_⟩;have:=List.findIdx?_eq_none_iff.1 h a x;simp at this
 |some i=>
  obtain⟨O,M,_⟩:=List.findIdx?_eq_some_iff_getElem.1 h;refine⟨fun _=>?_,fun _=>by simp⟩;rw[of_decide_eq_true M];exact List.getElem_mem _
theorem Xm {a:An} {l:List An} {i:Nat} {x:An} (Z:l[i]? = some x) (hd:decide (a=x)=true) (hn:∀j y,j<i->l[j]? = some y->decide (a=y)=false):ixA a l=(i:Int):=by
 obtain⟨O,h2⟩:=List.getElem?_eq_some_iff.1 Z;rw[ixA,List.findIdx?_eq_some_iff_getElem.2 ⟨O,by rw[h2];exact hd,fun j M=>by
  rw[hn j _ M (List.getElem?_eq_getElem (by omega))];simp⟩]
theorem Xn {a:An} {l:List An} (hn:∀j y,j<l.length->l[j]? = some y->decide (a=y)=false):ixA a l = -1:=by
 rw[ixA,List.findIdx?_eq_none_iff.2 fun x Z=>?_];obtain⟨j,M,O⟩:=List.getElem_of_mem Z;exact hn j x M (by rw[<-O];exact List.getElem?_eq_getElem M)
theorem Xo (l:List An) (a:An) (A:Option Addr) (c B:Nat) (w:World) (hr:RdR w B A anC 4 l) (hB:B<=w.heap.size) (hl:l.length<=1000) :
  Calls Tryz.prog 196 #[.slice A l.length c,.agg (anA a)] w fun e w'=>e=.returned (.int .i64 (ixA a l))/\Below w.heap.size w w':=by
 obtain⟨n,en⟩:=Ak (l.length);have EN:=I en;rw[<-en] at hl⊢;obtain⟨W,eW⟩:=Ak (w.alloc (.cells (anA a) 35));have hb:Below w.heap.size w W:=eW▸Ah.alloc Ag _;have O:=I (show Blk W w.heap.size 35 (anA a) by rw[eW];exact Blk.new _ _ _);have HB:=I hb;have HR:=I (hr.keep (hb.mono hB));have bq:=I hB;clear hr en hB hb;go_enter Tryz.func196,Tryz.ntmps196
 go_upto_region 1 with fail
 rw[<-eW];clear eW
 go_wp2
 go_loopw [8] (fun iv wr=>∃i:Nat,i<=n/\iv=.int .i64 (i:Int)/\Below w.heap.size w wr/\RdR wr B A anC 4 l/\Blk wr w.heap.size 35 (anA a)/\∀j x,j<i->l[j]? = some x->decide (a=x)=false) (fun iv _=>n - (intOf iv).toNat)
 case atStart=>exact⟨0,Nat.zero_le _,rfl,HB.o,HR.o,O.o,fun j x hj=>absurd hj (Nat.not_lt_zero _)⟩
 case round=>
  clear HB HR O;obtain⟨i,hi,rfl,hb,hr,hk,aw⟩:=hrel;have HB:=I hb;have av:=I aw;have HR:=I hr;have O:=I hk;clear hb aw hr hk
  by_cases hlt:i<n
  ·have e1:(i:Int)<(n:Int):=by omega
   have e2:(0:Int)<=(i:Int):=by omega
   obtain⟨x,hx⟩:∃x,l[i]? = some x:=⟨l[i]'(by rw[<-EN.o];exact hlt),List.getElem?_eq_getElem _⟩;obtain⟨g,rfl,bb,M⟩:=HR.o.at_ hx;have HX:=I hx;have bn:=I M;have q:=dO a x;obtain⟨b,eb⟩:=Ak (decide (a=x));rw[<-eb] at q;have EB:=I eb;have k0:=O.o.cell 0;have k1:=O.o.cell 1;have k2:=O.o.cell 2;have k3:=O.o.cell 3;have x0:wr.cell? ⟨g,i*4,none⟩=some _:=M 0 _ rfl;have x1:=M 1 _ rfl;have x2:=M 2 _ rfl;have x3:=M 3 _ rfl;clear M hx eb;cases b with
   |true=>
    go_wp2
    go_quiet (fail)
    go_wp2
    go_ret;exact⟨by rw[Xm HX.o EB.o.symm av.o];rfl,below_drewN HB.o _⟩
   |false=>
    go_wp2
    go_quiet (fail)
    go_wp2
    go_roundw
    case rel=>exact⟨i+1,by omega,by go_num,below_drewN HB.o _,HR.o.keep (below_drewN Ah _),O.o.below (below_drewN Ah _),fun j y hj Z=>by
     rcases Nat.lt_or_eq_of_le (Nat.le_of_lt_succ hj) with g | g
     ·exact av.o j y g Z
     ·rw[g,HX.o] at Z
      injection Z with Z;rw[<-Z];exact EB.o.symm⟩
    case measure=>simp [intOf];omega
  ·have e1:¬(i:Int)<(n:Int):=by omega
   obtain rfl:n=i:=by omega
   go_wp2
   go_ret;exact⟨by rw[Xn (fun j y hj Z=>av.o j y (by rw[EN.o];exact hj) Z)];rfl,HB.o⟩
theorem LJ (l:List An) (a:An) (A:Option Addr) (c B:Nat) (w:World) (hr:RdR w B A anC 4 l) (hB:B<=w.heap.size) (hl:l.length<=1000) :
  Calls Tryz.prog 145 #[.slice A l.length c,.agg (anA a)] w fun e w'=>e=.returned (.bool (decide (a∈l)))/\Below w.heap.size w w':=by
 have E:=I (dP a l);obtain⟨W,O⟩:=Ak (w.alloc (.cells (anA a) 35));have M:Below w.heap.size w W:=O▸Ah.alloc Ag _;have hk:Blk W w.heap.size 35 (anA a):=by rw[O];exact Blk.new _ _ _
 have c1:=Xo l a A c B W (hr.keep (M.mono hB)) (Nat.le_trans hB M.size) hl;obtain⟨z,Z⟩:=Ak (ixA a l);rw[<-Z] at c1;have EZ:=I Z;have HB:=I M;have k0:=hk.cell 0;have k1:=hk.cell 1;have k2:=hk.cell 2;have k3:=hk.cell 3;clear Z hr M hk;go_enter Tryz.func145,Tryz.ntmps145
 go_upto_region 1 with fail
 rw[<-O];clear O
 go_wp2_with (go_at_call 196;refine Aj c1 ?_;rintro w1 M;replace HB:=HB.t M;clear M)
 go_ret;exact⟨by rw[<-E.o,<-EZ.o];rfl,HB.o⟩
section
variable {P:Program} {a:Act} {w w':World} {ty:TypeId} {dst:Option Tmp} {pos:String} {after:Array _} {guard:Option (Nat×Bool)}
theorem Cl {t:TypeId} {x:Operand} {cs:Array Value} {s:Value} (M:a.eval x=.agg cs) (h:(Instr.buildSlice t 1 #[(0,.agg cs)]).run P w=.ok s w'):(execOp a.eval ⟨dst,.buildSlice t 1 #[(0,x)],ty,pos,after,guard⟩).run P w=.ok (.value s) w':=by
 simp only[execOp,Sem.run_bind,List.map_toArray,List.map_cons,List.map_nil,M,h,Result.andThen_ok,Sem.run_pure]
theorem DH {t:TypeId} {x y:Operand} {u v s:Value} (O:a.eval x=u) (M:a.eval y=v) (h:(Builtin.append_ #[t,t] ty #[u,v]).run P w=.ok s w'):(execOp a.eval ⟨dst,.call {callee:=.builtin .append,args:=#[x,y],argTypes:=#[t,t]},ty,pos,after,guard⟩).run P w=.ok (.value s) w':=by
 simp only[execOp,resolve,invoke,builtin,Sem.run_bind,Sem.run_pure,Result.andThen_ok,List.map_toArray,List.map_cons,List.map_nil,O,M,h]
end
theorem Ih {w w':World} {row:Option Nat} (h:w.grownBy w' row):Chg (fun q=>row=some q) w w':=⟨h.os,h.tape,h.output,h.size,fun i hi M=>h.block i hi (fun e=>M e.symm)⟩
structure Stp (w w':World) (B r:Nat) (v v':Value) (on:Bool) (st:Int) (l:List An):Prop where
 rp:Rp w' B r v' on st l
 chg:Chg (RO r v) w w'
 new:∀q,RO r v' q->RO r v q\/w.heap.size<=q
section
variable {w w0 w1 W w2 w5 w6:World} {B r:Nat} {v v1 v2 v6:Value} {on:Bool} {st:Int} {l l1 l2:List An}
theorem Stp.refl (h:Rp w B r v on st l):Stp w w B r v v on st l:=⟨h,Chg.refl _ _,fun q M=>.inl M⟩
theorem Stp.trans {on2:Bool} {st2:Int} (h:Stp w w1 B r v v1 on st l1) (k:Stp w1 w2 B r v1 v2 on2 st2 l2):Stp w w2 B r v v2 on2 st2 l2:=
 ⟨k.rp,h.chg.trans k.chg (fun q M x=>by
  rcases h.new q x with g | g
  ·exact g
  ·omega),fun q M=>by
  rcases k.new q M with g | g
  ·exact h.new q g
  ·exact .inr (Nat.le_trans h.chg.size g)⟩
theorem Stp.below (h:Stp w w1 B r v v1 on st l1) (M:Below w1.heap.size w1 w2):Stp w w2 B r v v1 on st l1:=
 h.trans ⟨h.rp.below M,Chg.of_below M,fun q O=>.inl O⟩
theorem aR (h:Rp W B r v on st l) (Z:W.grownBy w2 v.ownBlock) (ho:w2.ownsRow B 35 4 v1 l1.length (l1.flatMap anC)) (hv:v1.ownBlock=v.ownBlock) (hs:∀x∈l1,x∈l) :
  Stp W (w2.setCell ⟨r,0,none⟩ v1) B r v v1 on st l1:=by
 have M:Chg (fun q=>q=r) w2 (w2.setCell ⟨r,0,none⟩ v1):=Chg.set (p:=⟨r,0,none⟩) (Chg.refl (fun q=>q=r) w2) (.inl rfl) v1;have hc:Chg (RO r v) W (w2.setCell ⟨r,0,none⟩ v1):=((Ih Z).mono (fun q _ x=>.inr x)).trans M (fun q _ x=>.inl x);have O:v1.ownBlock≠some r:=by rw[hv];exact h.vr
 exact⟨⟨(h.blk.grown Z h.vr).set 0 v1,Bv M ho (fun k hk x=>O (x▸hk)),h.lo,O,fun y hy=>h.tm y (hs y hy)⟩,hc,fun q hq=>.inl (hq.imp id (fun x=>hv▸x))⟩
theorem YG {e:An} (h5:Rp w5 B r v on st l1) (ht:Tm e.t) (ho:w6.ownsRow B 35 4 v6 (l1++[e]).length ((l1++[e]).flatMap anC)) (hg:w5.grownBy w6 v.ownBlock) (hv:v6.ownBlock=v.ownBlock\/v6.ownBlock=some w5.heap.size) :
  Stp w5 (w6.setCell ⟨r,0,none⟩ v6) B r v v6 on st (l1++[e]):=by
 have M:Chg (fun q=>q=r) w6 (w6.setCell ⟨r,0,none⟩ v6):=Chg.set (p:=⟨r,0,none⟩) (Chg.refl (fun q=>q=r) w6) (.inl rfl) v6;have aw:Chg (RO r v) w5 (w6.setCell ⟨r,0,none⟩ v6):=((Ih hg).mono (fun q _ x=>.inr x)).trans M (fun q _ x=>.inl x);have bb:=h5.lt;have av:v6.ownBlock≠some r:=fun x=>by
  rcases hv with g | g
  ·rw[g] at x;exact h5.vr x
  ·rw[g] at x;injection x with x;omega
 refine⟨⟨(h5.blk.grown hg h5.vr).set 0 v6,Bv M ho (fun k hk x=>av (x▸hk)),h5.lo,av,fun y Z=>?_⟩,aw,fun q O=>?_⟩
 ·rcases List.mem_append.1 Z with Z | Z
  ·exact h5.tm y Z
  ·rw[List.mem_singleton] at Z;exact Z▸ht
 ·rcases O with O | O
  ·exact .inl (.inl O)
  ·rcases hv with g | g
   ·exact .inl (.inr (g▸O))
   ·rw[g] at O;injection O with O;exact .inr (by omega)
end
theorem aS {w w1 w2:World} {B r M:Nat} {v v1:Value} {on:Bool} {st:Int} {l:List An} (h:Stp w w1 B r v v1 on st l) (Z:Chg (fun q=>q=M) w1 w2) (hn:∀q,RO r v1 q->¬q=M) (hN:w.heap.size<=M):Stp w w2 B r v v1 on st l:=
 ⟨h.rp.chg Z hn,h.chg.trans Z (fun q O x=>absurd hN (by subst x;omega)),fun q O=>h.new q O⟩
theorem UH (B r:Nat) (v:Value) (on:Bool) (st:Int) (l:List An) (a:An) (now:Int) (w:World) (h:Rp w B r v on st l) (hs:Tm st) (ha:Tm a.t) (hn:Tm now) (h1:a.c.1.length<=140737488351232) (h2:a.c.2.length<=140737488351232) (hl:l.length<=1000) :
  Calls Tryz.prog 95 #[.pointer (some ⟨r,0,none⟩),.agg (anA a),.int .i64 now] w fun e w'=>e=.returned (.int .i64 (seeE on st l a now))/\∃v',Stp w w' B r v v' on st (seeL on st l a now):=by
 obtain⟨W,eW⟩:=Ak ((w.alloc (.cells (anA a) 35)).alloc (.cells #[.int .i64 now] 3));have hb:Below w.heap.size w W:=eW▸(Ah.alloc Ag _).alloc (by simp) _;have ct:Blk W w.heap.size 35 (anA a):=eW▸(Blk.new w _ _).alloc _;have cq:Blk W (w.heap.size+1) 3 #[.int .i64 now]:=by
  have:=Blk.new (w.alloc (.cells (anA a) 35)) 3 #[.int .i64 now];simp only[World.size_alloc] at this;exact eW▸this
 have cd:=h.below hb;have cL:∀k,w.heap.size<=k->v.ownBlock≠some k:=fun k hk x=>by have:=(World.ownsRow.lt h.row _ x).2;omega
 have cj:=I (show ∀k,w.heap.size<=k->k≠r from fun k hk x=>by have:=h.lt;omega);have cM:=I cL;have C1:=I (fun w1 (hk:Blk w1 r 177 #[v,.bool on,.int .i64 st])=>Rj r v on st a.t now w1 hk ha hn hs);have CD:=Xl l now (w.heap.size+1) B v W cd.row cd.big (cq.cell 0) ⟨hn,h.tm⟩ (cL _ (by omega)) hl;have CP:=I (fun(w1:World)=>Ca.Xh a.c w1 h1 h2);have aw:=I (⟨cd,Chg.of_below hb,fun q hq=>.inl hq⟩:Stp w W B r v v on st l);have O:=I ct;have cR:=I ha;obtain⟨l1,el⟩:=Ak (Ck now l);have EL:=I el;obtain⟨iE,cw,cu,cp,ec⟩:=info_parts YE;have cP:=I cw;have ef:=I cu;have ea:=I cp;have eb:=I ec;have cr:=I (fun(w1:World)=>Wh.Fl (P:=Tryz.prog) w1 175 35 (anA a) iE _ Tryz.underlying175 cw cu (by rw[cp];rfl) (by simp) (by simp));have ek:=I hl;have ka:=ct.cell 2;have kn:=cq.c0;obtain⟨b0,e0⟩:∃b,b=skw on st a.t now:=⟨_,rfl⟩;rw[<-e0] at C1;have E0:=I e0;clear hb ct cq cL h hs ha hn h1 h2 hl cw cu cp ec e0;cases b0 with
 |true=>
  clear CD CP cr O;go_enter Tryz.func95,Tryz.ntmps95
  go_upto_region 1 with fail
  rw[<-eW];clear eW
  go_wp2_with (first
   |(go_at_call 141;refine Aj (C1.o _ aw.o.rp.blk) ?_;rintro w1 hw;subst hw;clear C1)
   |fail)
  go_ret;exact⟨by rw[seeE,if_pos E0.o.symm];rfl,v,by rw[seeL,if_pos E0.o.symm];exact aw.o⟩
 |false=>
  obtain⟨A0,c0,ev,_,_,_⟩:=cd.num;obtain⟨n,en⟩:=Ak (l.length);have k0:W.cell? ⟨r,0,none⟩=some (.slice A0 n c0):=by rw[en,<-ev];exact cd.blk.cell 0
  have EV:=I (show v=.slice A0 n c0 by rw[en];exact ev);have cX:=EV.o;rw[<-el] at CD;rw[cX] at CD;have ei:=I (fun x hx=>WV (a:=x) (el▸hx):∀x∈l1,x∈l);clear en ev cd el cX;go_enter Tryz.func95,Tryz.ntmps95
  go_upto_region 1 with fail
  rw[<-eW];clear eW
  go_upto_region 6 with(first
   |(go_at_call 141;refine Aj (C1.o _ aw.o.rp.blk) ?_;rintro w1 hw;subst hw;clear C1)
   |(go_at_call 142;refine Calls.mono CD ?_;rintro e w2 ⟨v1,rfl,ho,hg,hv⟩;obtain⟨A1,c1,rfl,_⟩:=Bs BJ ho;rw[<-EV.o] at hg hv;have HG:=I hg;have HV:=I hv;have HO:=I ho;clear hg hv ho CD k0;have cB:=aw.o.rp.blk.grown HG.o aw.o.rp.vr;have f0:=cB.frozen 0;have k0:=cB.c0;clear cB)
   |fail)
  obtain⟨m,em⟩:=Ak (l1.length);have EM:=I em;have hm:m<=1000:=by have:=ay now l;have:=ek.o;rw[em,EL.o];omega
  have cg:=aw.o.trans (aR aw.o.rp HG.o HO.o HV.o ei.o);rw[<-em] at cg HV⊢;have HP:=I cg.rp;replace O:=I (Si.Blk.far (O.o.grown HG.o (cM.o _ Ag)) ⟨r,0,none⟩ (.slice A1 m c1) (fun x=>cj.o _ Ag x.symm));obtain⟨W3,cY⟩:=Ak (w2.setCell ⟨r,0,none⟩ (.slice A1 m c1));rw[<-cY] at cg HP O⊢;have Z:=I cg;have bB:Below W3.heap.size W3 W3.drew:=below_drewN Ah 1;replace Z:=I (Z.o.below bB);replace HP:=I Z.o.rp;replace O:=I (O.o.below bB);have CC:=I (show ∀w1:World,Rp w1 B r (.slice A1 m c1) on st l1->Calls Tryz.prog 145 #[.slice A1 m c1,.agg (anA a)] w1 fun e w'=>e=.returned (.bool (decide (a∈l1)))/\Below w1.heap.size w1 w' from fun w1 h=>by
   obtain⟨A2,c2,e2,_,_,hr⟩:=h.num;injection e2 with q1 _ q2;have:=LJ l1 a A1 c1 w1.heap.size w1 (q1▸hr) Ag (by rw[<-EM.o];exact hm);rw[<-EM.o] at this;exact this)
  have cT:=I (show ∀k,RO r (.slice A1 m c1) k->k=w.heap.size->False from fun k hk e=>by
   rcases hk with hk | hk
   ·exact cj.o k (by omega) hk
   ·rw[HV.o] at hk;exact cM.o k (by omega) hk)
  clear cg bB em cY f0 k0 HG HV HO aw ka kn;obtain⟨b1,e1⟩:∃b,b=decide (a∈l1):=⟨_,rfl⟩;rw[<-e1] at CC;have E1:=I e1;obtain⟨NB,cA⟩:=Ak (w.heap.size);have cZ:=I (show NB≠r from cj.o _ (by omega));have ej:Hid (Value.ownBlock (.slice A1 m c1)=some NB->False\/True):=I (fun _=>.inr trivial);have et:=I (show NB<W3.drew.heap.size from by rw[cA];exact O.o.lt);rw[<-cA] at O⊢;have er:=I (show ∀k,NB<=k->k≠r from fun k hk=>cj.o k (by omega));have cx:=I (show ∀q,RO r (.slice A1 m c1) q->¬q=NB from fun q hq e=>cT.o q hq (by omega));have eg:=I (show w.heap.size<=NB by omega);clear e1 hm cj cM ej cT cA;cases b1 with
  |true=>
   refine Reg.Bo (fun w'=>Blk w' r 177 #[.slice A1 m c1,.bool on,.int .i64 st]/\Blk w' NB 35 (anA a)) 6 rfl (by kernel_rfl) ⟨HP.o.blk,O.o⟩ ?_;refine Reg.ty 0 rfl ⟨HP.o.blk,O.o⟩ ?_;refine Reg.ty 1 rfl ⟨HP.o.blk,O.o⟩ ?_;refine Reg.ty 2 rfl ⟨HP.o.blk,O.o⟩ ?_;refine Reg.tw 3 rfl ⟨HP.o.blk,O.o⟩ (fun w' hS=>by(have kq:=hS.1.c0;go_simp<;>rfl)) ?_;refine Reg.tw 4 (v:=.agg (anA a)) rfl ⟨HP.o.blk,O.o⟩ (fun w' hS=>by exact Wh.Bm (.tmp 4) rfl rfl hS.2 Tryz.underlying35 rfl JQ) ?_;refine Reg.b1 5 ?_
   right
   refine⟨_,_,_,_,_,_,145,#[.slice A1 m c1,.agg (anA a)],rfl,by rfl,by go_simp,?_⟩;refine(CC.o _ HP.o).mono ?_;rintro e WB ⟨rfl,hb⟩;replace Z:=I (Z.o.below hb);replace HP:=I Z.o.rp;replace O:=I (O.o.below hb);clear hb;refine⟨_,rfl,⟨HP.o.blk,O.o⟩,?_⟩;simp only[Act.put,U,Aa,Ab];refine wpAnyH_done (by kernel_rfl) ?_ _
   go_wp2
   go_ret;have hk:a∈Ck now l:=by rw[<-EL.o];exact of_decide_eq_true E1.o.symm
   exact⟨by rw[seeE,if_neg (by rw[<-E0.o];simp),if_pos hk];rfl,_,by rw[seeL,if_neg (by rw[<-E0.o];simp),if_pos (.inl hk),<-EL.o];exact Z.o⟩
  |false=>
   refine Reg.Bo (fun w'=>Blk w' r 177 #[.slice A1 m c1,.bool on,.int .i64 st]/\Blk w' NB 35 (anA a)) 6 rfl (by kernel_rfl) ⟨HP.o.blk,O.o⟩ ?_;refine Reg.ty 0 rfl ⟨HP.o.blk,O.o⟩ ?_;refine Reg.ty 1 rfl ⟨HP.o.blk,O.o⟩ ?_;refine Reg.ty 2 rfl ⟨HP.o.blk,O.o⟩ ?_;refine Reg.tw 3 rfl ⟨HP.o.blk,O.o⟩ (fun w' hS=>by(have kq:=hS.1.c0;go_simp<;>rfl)) ?_;refine Reg.tw 4 (v:=.agg (anA a)) rfl ⟨HP.o.blk,O.o⟩ (fun w' hS=>by exact Wh.Bm (.tmp 4) rfl rfl hS.2 Tryz.underlying35 rfl JQ) ?_;refine Reg.b1 5 ?_
   right
   refine⟨_,_,_,_,_,_,145,#[.slice A1 m c1,.agg (anA a)],rfl,by rfl,by go_simp,?_⟩;refine(CC.o _ HP.o).mono ?_;rintro e WB ⟨rfl,hb⟩;replace Z:=I (Z.o.below hb);replace HP:=I Z.o.rp;replace O:=I (O.o.below hb);clear hb;refine⟨_,rfl,⟨HP.o.blk,O.o⟩,?_⟩;simp only[Act.put,U,Aa,Ab];refine wpAnyH_done (by kernel_rfl) ?_ _;clear CC
   by_cases hfull:8<=m
   ·have t1:decide ((8:Int)<=(m:Int))=true:=decide_eq_true (by omega)
    have kr:WB.cell? ⟨r,0,none⟩=some (.slice A1 m c1):=HP.o.blk.cell 0;have HF:=I hfull;clear hfull
    go_wp2
    go_ret;have hk:¬a∈Ck now l:=by rw[<-EL.o];exact of_decide_eq_false E1.o.symm
    have hf:8<=(Ck now l).length:=by rw[<-EL.o,<-EM.o];exact HF.o
    exact⟨by rw[seeE,if_neg (by rw[<-E0.o];simp),if_neg hk,if_pos hf];rfl,_,by rw[seeL,if_neg (by rw[<-E0.o];simp),if_pos (.inr hf),<-EL.o];exact Z.o⟩
   ·have t1:decide ((8:Int)<=(m:Int))=false:=decide_eq_false (by omega)
    have kr:WB.cell? ⟨r,0,none⟩=some (.slice A1 m c1):=HP.o.blk.cell 0;have HF:=I hfull;clear hfull
    go_upto_region 10 with fail
    clear kr t1;have q0:=O.c0;have q1:=O.c1
    go_upto_region 11 with(first
     |(go_at_call 27;refine Aj (CP.o _) ?_;rintro bn hb;clear CP q0 q1;replace Z:=I (Z.o.below hb);replace HP:=I Z.o.rp;replace O:=I (O.o.below hb);clear hb;have q0:=O.o.cell 0;have q1:=O.o.cell 1;have eo:=O.o.frozen 0;have ep:=O.o.frozen 1)
     |fail)
    have ed:Blk ((bn.setCell ⟨NB,0,none⟩ (.string ⟨a.c.1.toArray⟩)).setCell ⟨NB,1,none⟩ (.string ⟨a.c.2.toArray⟩)) NB 35 (anA a):=(O.o.set 0 _).set 1 _;have cQ:Chg (fun q=>q=NB) bn ((bn.setCell ⟨NB,0,none⟩ (.string ⟨a.c.1.toArray⟩)).setCell ⟨NB,1,none⟩ (.string ⟨a.c.2.toArray⟩)):=((Chg.refl (fun q=>q=NB) bn).set (p:=⟨NB,0,none⟩) (.inl rfl) _).set (p:=⟨NB,1,none⟩) (.inl rfl) _;clear q0 q1 eo ep;replace Z:=I (aS Z.o cQ cx.o eg.o);replace HP:=I Z.o.rp;replace O:=I ed;obtain⟨M,ca⟩:=Ak (((bn.setCell ⟨NB,0,none⟩ (.string ⟨a.c.1.toArray⟩)).setCell ⟨NB,1,none⟩ (.string ⟨a.c.2.toArray⟩)));rw[<-ca] at Z HP O⊢;clear ed cQ ca;have bB:Below M.heap.size M M.drew:=below_drewN Ah 1;replace Z:=I (Z.o.below bB);replace HP:=I Z.o.rp;replace O:=I (O.o.below bB);clear bB;refine Reg.Bo (fun w'=>Blk w' NB 35 (anA a)) 11 rfl (by kernel_rfl) O.o ?_;refine Reg.ty 0 rfl O.o ?_;refine Reg.ty 1 rfl O.o ?_;refine Reg.ty 2 rfl O.o ?_;refine Reg.ty 3 rfl O.o ?_;refine Reg.tw 5 (v:=.agg (anA a)) rfl O.o (fun w' hS=>by exact Wh.Bm (.tmp 4) rfl rfl hS Tryz.underlying35 rfl JQ) ?_;refine Reg.b2 4 6 ?_ ?_
    ·left
     have kr:M.drew.cell? ⟨r,0,none⟩=some (.slice A1 m c1):=HP.o.blk.cell 0;refine⟨_,_,_,_,_,_,_,_,rfl,by rfl,by(go_simp;rfl),O.o,?_⟩;simp only[Act.put,U,Aa,Ab];clear kr;refine Reg.b1 6 ?_
     left
     have hb:Below M.drew.heap.size M.drew (M.drew.alloc (.cells (anA a) 35)):=Ah.alloc Ag _;refine⟨_,_,_,_,_,_,.slice (some ⟨M.drew.heap.size,0,none⟩) 1 1,(M.drew.alloc (.cells (anA a) 35)),rfl,by rfl,Cl rfl (cr.o _),O.o.below hb,?_⟩;simp only[Act.put,U,Aa,Ab];have bs:=I (Blk.new M.drew 35 (anA a));replace Z:=I (Z.o.below hb);replace HP:=I Z.o.rp;replace O:=I (O.o.below hb);clear hb;obtain⟨cy,cb⟩:=Ak ((M.drew.alloc (.cells (anA a) 35)));rw[<-cb] at bs Z HP O⊢;clear cb;refine Reg.b1 7 ?_
     left
     obtain⟨v6,w6,bq,bz,av,cn⟩:=Wh.FJ (P:=Tryz.prog) anC 4 48 BJ LH cy 175 175 35 iE _ Tryz.underlying175 cP.o ef.o ea.o eb.o rfl (by omega) B (.slice A1 m c1) l1 HP.o.row a M.drew.heap.size bs.o (by have:=EM.o;have:=HF.o;omega) (by omega) HP.o.big;have bb:=Z.o.trans (YG HP.o cR.o bz av cn);have bx:=HP.o.blk.grown av HP.o.vr;replace O:=I (O.o.grown av (fun x=>cx.o _ (.inr x) rfl));refine⟨_,_,_,_,_,_,v6,w6,rfl,by rfl,DH rfl rfl bq,O.o,?_⟩;simp only[Act.put,U,Aa,Ab];refine Reg.ty 8 rfl O.o ?_;refine Reg.ty 9 rfl O.o ?_;obtain⟨A7,c7,e7,_⟩:=Bs BJ bz;obtain⟨m7,ck⟩:=Ak ((l1++[a]).length);rw[<-ck] at e7;subst e7;have f0:=bx.frozen 0;have k6:=bx.c0;refine Reg.BH 10 (w6.setCell ⟨r,0,none⟩ (.slice A7 m7 c7)) rfl (by kernel_rfl) (by rfl) (by go_simp) (Si.Blk.far O.o _ _ (fun x=>cZ.o x.symm)) ?_;simp only[Act.put,U,Aa,Ab];clear f0 k6 bx bz av cn bq ck O bs HP;refine wpAnyH_done (by kernel_rfl) ?_ _;have cm:=I bb;clear bb Z
     go_wp2
     go_ret;have hk:¬a∈Ck now l:=by rw[<-EL.o];exact of_decide_eq_false E1.o.symm
     have hf:¬8<=(Ck now l).length:=by rw[<-EL.o,<-EM.o];exact HF.o
     exact⟨by rw[seeE,if_neg (by rw[<-E0.o];simp),if_neg hk,if_neg hf];rfl,_,by rw[seeL,if_neg (by rw[<-E0.o];simp),if_neg (fun x=>x.elim hk hf),<-EL.o];exact cm.o⟩
    ·left
     have hb:Below M.drew.heap.size M.drew (M.drew.alloc (.cells (anA a) 35)):=Ah.alloc Ag _;refine⟨_,_,_,_,_,_,.slice (some ⟨M.drew.heap.size,0,none⟩) 1 1,(M.drew.alloc (.cells (anA a) 35)),rfl,by rfl,Cl rfl (cr.o _),O.o.below hb,?_⟩;simp only[Act.put,U,Aa,Ab];have bs:=I (Blk.new M.drew 35 (anA a));replace Z:=I (Z.o.below hb);replace HP:=I Z.o.rp;replace O:=I (O.o.below hb);clear hb;obtain⟨cf,cc⟩:=Ak ((M.drew.alloc (.cells (anA a) 35)));rw[<-cc] at bs Z HP O⊢;clear cc;refine Reg.b1 4 ?_
     left
     have kr:cf.cell? ⟨r,0,none⟩=some (.slice A1 m c1):=HP.o.blk.cell 0;refine⟨_,_,_,_,_,_,_,_,rfl,by rfl,by(go_simp;rfl),O.o,?_⟩;simp only[Act.put,U,Aa,Ab];clear kr;refine Reg.b1 7 ?_
     left
     obtain⟨v6,w6,bq,bz,av,cn⟩:=Wh.FJ (P:=Tryz.prog) anC 4 48 BJ LH cf 175 175 35 iE _ Tryz.underlying175 cP.o ef.o ea.o eb.o rfl (by omega) B (.slice A1 m c1) l1 HP.o.row a M.drew.heap.size bs.o (by have:=EM.o;have:=HF.o;omega) (by omega) HP.o.big;have bb:=Z.o.trans (YG HP.o cR.o bz av cn);have bx:=HP.o.blk.grown av HP.o.vr;replace O:=I (O.o.grown av (fun x=>cx.o _ (.inr x) rfl));refine⟨_,_,_,_,_,_,v6,w6,rfl,by rfl,DH rfl rfl bq,O.o,?_⟩;simp only[Act.put,U,Aa,Ab];refine Reg.ty 8 rfl O.o ?_;refine Reg.ty 9 rfl O.o ?_;obtain⟨A7,c7,e7,_⟩:=Bs BJ bz;obtain⟨m7,ck⟩:=Ak ((l1++[a]).length);rw[<-ck] at e7;subst e7;have f0:=bx.frozen 0;have k6:=bx.c0;refine Reg.BH 10 (w6.setCell ⟨r,0,none⟩ (.slice A7 m7 c7)) rfl (by kernel_rfl) (by rfl) (by go_simp) (Si.Blk.far O.o _ _ (fun x=>cZ.o x.symm)) ?_;simp only[Act.put,U,Aa,Ab];clear f0 k6 bx bz av cn bq ck O bs HP;refine wpAnyH_done (by kernel_rfl) ?_ _;have cm:=I bb;clear bb Z
     go_wp2
     go_ret;have hk:¬a∈Ck now l:=by rw[<-EL.o];exact of_decide_eq_false E1.o.symm
     have hf:¬8<=(Ck now l).length:=by rw[<-EL.o,<-EM.o];exact HF.o
     exact⟨by rw[seeE,if_neg (by rw[<-E0.o];simp),if_neg hk,if_neg hf];rfl,_,by rw[seeL,if_neg (by rw[<-E0.o];simp),if_neg (fun x=>x.elim hk hf),<-EL.o];exact cm.o⟩
structure Mkd (w w':World) (r:Nat) (v:Value) (on:Bool) (st:Int) (l:List An):Prop where
 rp:Rp w' w.heap.size r v on st l
 low:Below w.heap.size w w'
theorem Hy (t:Int) (w:World):Calls Tryz.prog 34 #[.int .i64 t] w fun e w'=>∃r,e=.returned (.pointer (some ⟨r,0,none⟩))/\Mkd w w' r (.slice none 0 0) (!decide (t=0)) t []:=by
 obtain⟨b,M⟩:=Ak (!decide (t=0));have O:((t:Int) != 0)=b:=by rw[M];rfl
 rw[<-M];clear M;go_enter Tryz.func34,Tryz.ntmps34
 go_wp2
 go_ret;exact⟨_,rfl,⟨Blk.new _ _ _,⟨rfl,.inl ⟨rfl,rfl⟩⟩,Nat.le_refl _,by simp [Value.ownBlock],by simp⟩,Ah.alloc Ag _⟩
section
variable {w w1 w2:World} {B r:Nat} {v v2:Value} {on on2:Bool} {st st2:Int} {l l2:List An}
end
structure DRp (w:World) (B r:Nat) (v:Value) (on:Bool) (st:Int) (l:List An):Prop where
 blk:Blk w r 180 #[v,.bool on,.int .i64 st]
 row:w.ownsRow B 35 4 v l.length (l.flatMap anC)
 lo:B<=r
 vr:v.ownBlock≠some r
 tm:∀a∈l,Tm a.t
section
variable {w w' w1 w2:World} {B r:Nat} {v v' v1 v2:Value} {on on2:Bool} {st st2:Int} {l l' l1 l2:List An} {S:Nat->Prop}
theorem DRp.lt (h:DRp w B r v on st l):r<w.heap.size:=h.blk.lt
theorem DRp.big (h:DRp w B r v on st l):B<=w.heap.size:=by have:=h.lo;have:=h.lt;omega
theorem DRp.chg (h:DRp w B r v on st l) (M:Chg S w w') (hs:∀k,RO r v k->¬S k):DRp w' B r v on st l:=
 ⟨M.blk h.blk (hs r (.inl rfl)),Bv M h.row (fun k hk=>hs k (.inr hk)),h.lo,h.vr,h.tm⟩
theorem DRp.below (h:DRp w B r v on st l) (M:Below w.heap.size w w'):DRp w' B r v on st l:=h.chg (S:=fun _=>False) (Chg.of_below M) (fun _ _ x=>x)
structure DStp (w w':World) (B r:Nat) (v v':Value) (on:Bool) (st:Int) (l:List An):Prop where
 rp:DRp w' B r v' on st l
 chg:Chg (RO r v) w w'
 new:∀q,RO r v' q->RO r v q\/w.heap.size<=q
theorem DStp.trans (h:DStp w w1 B r v v1 on st l1) (k:DStp w1 w2 B r v1 v2 on2 st2 l2):DStp w w2 B r v v2 on2 st2 l2:=
 ⟨k.rp,h.chg.trans k.chg (fun q M x=>by
  rcases h.new q x with g | g
  ·exact g
  ·omega),fun q M=>by
  rcases k.new q M with g | g
  ·exact h.new q g
  ·exact .inr (Nat.le_trans h.chg.size g)⟩
theorem DStp.below (h:DStp w w1 B r v v1 on st l1) (M:Below w1.heap.size w1 w2):DStp w w2 B r v v1 on st l1:=
 h.trans ⟨h.rp.below M,Chg.of_below M,fun q O=>.inl O⟩
end
theorem Xp (t:Int) (w:World):Calls Tryz.prog 37 #[.int .i64 t] w fun e w'=>∃r,e=.returned (.pointer (some ⟨r,0,none⟩))/\DRp w' w.heap.size r (.slice none 0 0) (!decide (t=0)) t []/\Below w.heap.size w w':=by
 obtain⟨b,M⟩:=Ak (!decide (t=0));have O:((t:Int) != 0)=b:=by rw[M];rfl
 rw[<-M];clear M;go_enter Tryz.func37,Tryz.ntmps37
 go_wp2
 go_ret;exact⟨_,rfl,⟨Blk.new _ _ _,⟨rfl,.inl ⟨rfl,rfl⟩⟩,Nat.le_refl _,by simp [Value.ownBlock],by simp⟩,Ah.alloc Ag _⟩
end Rp
end Go.Proofs.YtiecjolmennkfaaGreat
