import Derived.Test.YthkdjblnmkkcfaaGreatZAcceptorOnce11
set_option maxHeartbeats 25600000
set_option maxRecDepth 100000
set_option linter.unusedVariables false
set_option linter.unusedSimpArgs false
namespace Go.Proofs.YthkdjblnmkkcfaaGreat
namespace Ca
open Nm (L)
open Rg (Pr)
structure Cr where
 s:Pr
 n:Int
 b:L
 k:Nat->UInt8
 e:Int
abbrev It:=Pr×Cr
def del (p:Pr) (t:Int) (i:It):Bool:=decide (i.2.e<t)||decide (i.1=p)
def rest (l:List It) (p:Pr) (t:Int):List It:=l.filter (fun i=>!del p t i)
def had (l:List It) (p:Pr):Bool:=l.any (fun i=>decide (i.1=p))
end Ca
namespace Ca
open Go.RowKit Af Se
open Rg (Pr prC prV Lw OE RdR Bp Bs)
section
variable {α:Type} {f:α->List Value} {n:Nat}
theorem PZ (h:∀x,(f x).length=n):∀(l:List α) (i:Nat) (x:α),i<l.length->∀q,((l.set i x).flatMap f)[q]? = if i*n<=q/\q<i*n+n then (f x)[q - i*n]? else (l.flatMap f)[q]?
 | [],i,x,hi,q=>by simp at hi
 |a :: l,0,x,hi,q=>by
  rw[List.set_cons_zero,List.flatMap_cons,List.flatMap_cons,Nat.zero_mul,Nat.zero_add,Nat.sub_zero]
  by_cases g:q<n
  ·rw[if_pos ⟨Nat.zero_le _,g⟩,List.getElem?_append_left (by rw[h];exact g)]
  ·rw[if_neg (fun x=>g x.2),List.getElem?_append_right (by rw[h];omega),List.getElem?_append_right (by rw[h];omega),h,h]
 |a :: l,i+1,x,hi,q=>by
  rw[List.set_cons_succ,List.flatMap_cons,List.flatMap_cons,Nat.succ_mul]
  by_cases g:q<n
  ·rw[if_neg (by omega),List.getElem?_append_left (by rw[h];exact g),List.getElem?_append_left (by rw[h];exact g)]
  ·rw[List.getElem?_append_right (by rw[h];omega),List.getElem?_append_right (by rw[h];omega),h,PZ h l i x (by simpa using hi)]
   by_cases k:i*n<=q - n/\q - n<i*n+n
   ·rw[if_pos k,if_pos (by omega)]
    congr 1
    omega
   ·rw[if_neg k,if_neg (by omega)]
theorem Nd (h:∀x,(f x).length=n):∀(l:List α) (i:Nat),(l.flatMap f).take (i*n)=(l.take i).flatMap f
 | [],i=>by simp
 |a :: l,0=>by simp
 |a :: l,i+1=>by
  rw[List.take_succ_cons,List.flatMap_cons,List.flatMap_cons,<-Nd h l i,Nat.succ_mul,Nat.add_comm (i*n) n,List.take_append,h,show n+i*n - n=i*n by omega,List.take_of_length_le (by rw[h];omega)]
variable {w:World} {B g cap:Nat} {t:TypeId} {l:List α}
theorem OJ {m:Nat} {xs:List Value} (ho:w.ownsRow B t n (.slice (some ⟨g,0,none⟩) m cap) m xs):∃cur,Blk w g t cur/\B<=g/\m<=cap/\cap<=maxLen/\cur.size=cap*n/\cur.toList.take (m*n)=xs:=by
 rcases ho.2 with⟨M,_⟩ | ⟨g1,O,cur,M,Z,h3,h4,h5,h6,h7⟩
 ·cases M
 ·injection M with e1 _ e2
  injection e1 with e1;injection e1 with e1;subst e1 e2;exact⟨cur,h3,Z,h4,h5,h6,h7⟩
theorem Yp {m:Nat} {xs:List Value} {cur:Array Value} (hb:Blk w g t cur) (h1:B<=g) (M:m<=cap) (h3:cap<=maxLen) (Z:cur.size=cap*n) (O:cur.toList.take (m*n)=xs):w.ownsRow B t n (.slice (some ⟨g,0,none⟩) m cap) m xs:=
 ⟨by rw[<-O,List.length_take,Array.length_toList,Z];exact Nat.min_eq_left (Nat.mul_le_mul_right n M),.inr ⟨g,cap,cur,rfl,h1,hb,M,h3,Z,O⟩⟩
theorem Uw (M:∀x,(f x).length=n) (ho:w.ownsRow B t n (.slice (some ⟨g,0,none⟩) l.length cap) l.length (l.flatMap f)) {i:Nat} (hi:i<l.length) (x:α) :
  (w.setCells g (i*n) (f x)).ownsRow B t n (.slice (some ⟨g,0,none⟩) l.length cap) l.length ((l.set i x).flatMap f):=by
 obtain⟨cur,h1,h2,O,h4,Z,h6⟩:=OJ ho;have av:i*n+n<=l.length*n:=by rw[<-Nat.succ_mul];exact Nat.mul_le_mul_right n hi
 have aw:l.length*n<=cap*n:=Nat.mul_le_mul_right n O;obtain⟨ds,k1,k2,k3,k4⟩:=Wh.Bn (f x) (i*n) w cur h1 (by rw[M,Z];omega);refine Yp k1 h2 O h4 (by rw[k2,Z]) ?_;apply List.ext_getElem?;intro q;rw[PZ M l i x hi]
 by_cases g1:q<l.length*n
 ·rw[List.getElem?_take_of_lt g1,Array.getElem?_toList]
  by_cases g2:i*n<=q/\q<i*n+n
  ·rw[if_pos g2,k3 q g2.1 (by rw[M];exact g2.2)]
  ·rw[if_neg g2,k4 q (by rw[M];omega),<-h6,List.getElem?_take_of_lt g1,Array.getElem?_toList]
 ·rw[if_neg (by omega),List.getElem?_eq_none (by rw[List.length_take];omega),List.getElem?_eq_none (by rw[Lw f n M];omega)]
theorem JM (ho:w.ownsRow B t n (.slice (some ⟨g,0,none⟩) l.length cap) l.length (l.flatMap f)) (o k:Nat) (h:o+k<=l.length*n):w.there g o k:=by
 obtain⟨cur,Z,h2,O,h4,h5,h6⟩:=OJ ho;have M:l.length*n<=cap*n:=Nat.mul_le_mul_right n O;exact Wh.Cw Z o k (by omega)
theorem Ux (hf:∀x,(f x).length=n) (ho:w.ownsRow B t n (.slice (some ⟨g,0,none⟩) l.length cap) l.length (l.flatMap f)) {i:Nat} (hi:i<=l.length) (M:List Value) (hv:i*n+M.length<=l.length*n) :
  (w.setCells g (i*n) M).ownsRow B t n (.slice (some ⟨g,0,none⟩) i cap) i ((l.take i).flatMap f):=by
 obtain⟨cur,h1,h2,Z,h4,h5,h6⟩:=OJ ho;have O:i*n<=l.length*n:=Nat.mul_le_mul_right n hi;have av:l.length*n<=cap*n:=Nat.mul_le_mul_right n Z;obtain⟨ds,k1,k2,k3,k4⟩:=Wh.Bn M (i*n) w cur h1 (by rw[h5];omega);refine Yp k1 h2 (Nat.le_trans hi Z) h4 (by rw[k2,h5]) ?_;rw[<-Nd hf,<-h6,List.take_take,Nat.min_eq_left O];apply List.ext_getElem?;intro q
 by_cases g1:q<i*n
 ·rw[List.getElem?_take_of_lt g1,List.getElem?_take_of_lt g1,Array.getElem?_toList,Array.getElem?_toList,k4 q (.inl g1)]
 ·rw[List.getElem?_eq_none (by rw[List.length_take];omega),List.getElem?_eq_none (by rw[List.length_take];omega)]
end
theorem Nf (P:Program) (w:World) (t e ty:TypeId) (i:TypeInfo) (z:Value) (n:Nat) (ht:P.underlying t=some (.slice e)) (hi:P.info? e=some i) (hz:i.zero=some z) (Z:z.cells.size=n) (h1:∀u∈z.cells.toList,u.oneCell'=true) (hn:0<n) (b o m c:Nat)
  (hc:w.there b o (m*n)):∃vs:List Value,vs.length=m*n/\(Builtin.clear_ #[t] ty #[.slice (some ⟨b,o,none⟩) m c]).run P w=.ok (.tuple #[]) (w.setCells b o vs):=by
 have hv:(zeroValue e).run P w=.ok z w:=by simp [zeroValue,typeInfo,hi,hz]
 have hlen:(Builtin.zeroCells z.cells m).toList.length=m*n:=by simp [Builtin.zeroCells,Z]
 have O:∀u∈(Builtin.zeroCells z.cells m).toList,u.oneCell'=true:=by
  intro u hu;simp only[Builtin.zeroCells,Array.toList_map,List.mem_map] at hu;obtain⟨q,_,rfl⟩:=hu;have hq:q % z.cells.size<z.cells.size:=Nat.mod_lt _ (by omega);rw[getElem!_pos z.cells (q % z.cells.size) hq];exact h1 _ (by simp)
 cases m with
 |zero=>
  refine⟨[],by simp,?_⟩;simp [Builtin.clear_,run_underlying ht,World.setCells]
 |succ m=>
  refine⟨(Builtin.zeroCells z.cells (m+1)).toList,hlen,?_⟩;have M:=run_storeCells_cells (P:=P) b o (Builtin.zeroCells z.cells (m+1)).toList 0 w (fun j hj=>by simpa using (hc j (by omega)).1) (fun j hj=>by simpa using (hc j (by omega)).2) O;simp only[Nat.add_zero] at M;simp [Builtin.clear_,run_underlying ht,hv,M]
structure En where
 p:Pr
 x:Cr
 A:Option Addr
 c:Nat
def En.it (e:En):It:=(e.p,e.x)
section
variable {w:World} {g o:Nat} {e:En} {x:Cr} {A:Option Addr} {c:Nat}
end
def its (es:List En):List It:=es.map (·.it)
theorem Dm (es:List En):(its es).length=es.length:=by simp [its]
abbrev PT (r:Nat) (v:Value) (q:Nat):Prop:=q=r\/v.ownBlock=some q
section
variable {w w':World} {B r:Nat} {v v':Value} {es es':List En} {S:Nat->Prop}
theorem dE {A:Option Addr} {xs:List Value} (h:Rd w w.heap.size A xs) (Z:Chg S w w') (hs:∀a,A=some a->¬S a.block):Rd w' w'.heap.size A xs:=by
 rcases h with h | ⟨b,o,O,M,h3⟩
 ·exact .inl h
 ·exact .inr ⟨b,o,O,Nat.lt_of_lt_of_le M Z.size,fun i u hu=>(World.cell?_of_block (a:=⟨b,o+i,none⟩) (Z.block b M (hs _ O))).trans (h3 i u hu)⟩
end
end Ca
namespace Ca
open Go.RowKit Af Se
open Nm (L)
open Rg (Pr prC prV Dp)
theorem WV (n:Nat) (hn:n<=140737488351232) (w:World):(Instr.makeSlice 33 (.int .i64 (n:Int)) (.int .i64 (n:Int))).run Tryz.prog w=.ok (.slice (some ⟨w.heap.size,0,none⟩) n n) (w.alloc (.cells (Dc n) 5)):=by
 obtain⟨M,hi,Z,hs,O⟩:=info_parts Nm.Mh;have h:=run_make (P:=Tryz.prog) w 33 5 M _ Tryz.underlying33 hi Z .i64 .i64 (n:Int) (n:Int) (by omega) (by omega) (by rw[O];omega) (by omega);have e:madeCells (Value.int .u8 0).cells (((n:Int)).toNat*M.size)=Dc n:=by
  rw[hs,Nat.mul_one,Int.toNat_natCast];refine Array.toList_inj.1 ?_;show(madeCells #[Value.int .u8 0] n).toList=_;rw[toList_madeCells_one];simp [Dc,bv]
 rw[e] at h
 simpa using h
theorem WW (s:L) (M:s≠[]) (hs:s.length<=140737488351232) (w:World):(Builtin.unsafeString_ #[256,3] 9 #[.pointer (some ⟨w.heap.size,0,none⟩),.int .i64 (s.length:Int)]).run Tryz.prog (w.alloc (.cells (bvs s).toArray 5))=.ok (.string ⟨s.toArray⟩) ((w.alloc (.cells (bvs s).toArray 5)).freeze ⟨w.heap.size,0,none⟩ s.length):=by
 obtain⟨i0,hi,_,hz,_⟩:=info_parts Nm.Mh;have hk:=Blk.new w 5 (bvs s).toArray;refine Lib.run_unsafeString_row (P:=Tryz.prog) _ _ _ _ 5 Tryz.underlying256 (by simp [Program.cellsOf,hi,hz]) w.heap.size s.length ?_ s M Ag (by omega) fun j x O=>?_
 ·unfold World.shape?
  rw[show(w.alloc (.cells (bvs s).toArray 5)).heap[w.heap.size]? = _ from hk];simp [AG]
 ·obtain⟨Z,e⟩:=List.getElem?_eq_some_iff.1 O
  rw[addr_add,Nat.zero_add,hk.cell,List.getElem?_toArray,Gf Z,e];rfl
theorem Ra (s:L) (w:World) (M:s.length<=140737488351232):Calls Tryz.prog 100 #[.string ⟨s.toArray⟩] w fun e w'=>e=.returned (.string ⟨s.toArray⟩)/\Below w.heap.size w w':=by
 by_cases h0:s = []
 ·subst h0
  go_enter Tryz.func100,Tryz.ntmps100
  go_wp2
  go_ret;exact⟨rfl,Below.refl _ _⟩
 ·have av:=WV s.length M w
  have Z:=Nm.GB s w;have O:=WW s h0 M w;have hl:1<=s.length:=by
   cases s with
   |nil=>exact absurd rfl h0
   |cons a r=>simp
  have t0:((s.length:Int)==0)=false:=by simp;omega
  have HB:=I (Lib.below_freeze ((Below.refl w.heap.size w).alloc Ag (.cells (bvs s).toArray 5)) (p:=⟨w.heap.size,0,none⟩) Ag s.length);clear h0;go_enter Tryz.func100,Tryz.ntmps100
  go_wp2
  go_ret;exact⟨rfl,HB.o⟩
theorem Kw (s:L) (w:World) (M:s.length<=140737488351232):Calls Tryz.prog 55 #[.string ⟨s.toArray⟩] w fun e w'=>e=.returned (.string ⟨s.toArray⟩)/\Below w.heap.size w w':=by
 have c1:=Ra s w M;go_enter Tryz.func55,Tryz.ntmps55
 go_wp2_with (go_at_call 100;refine Aj c1 ?_;rintro w' O)
 go_ret;exact⟨rfl,O⟩
theorem WX (p:Pr) (w:World) (h1:p.1.length<=140737488351232) (h2:p.2.length<=140737488351232):Calls Tryz.prog 26 #[prV p] w fun e w'=>e=.returned (prV p)/\Below w.heap.size w w':=by
 have C1:=I (fun w1=>Kw p.1 w1 h1);have C2:=I (fun w1=>Kw p.2 w1 h2);go_enter Tryz.func26,Tryz.ntmps26
 go_upto_region 1 with fail
 obtain⟨W,eW⟩:=Ak ((w.alloc (.cells #[.string ⟨p.1.toArray⟩,.string ⟨p.2.toArray⟩] 37)).alloc (.cells #[.string ⟨#[]⟩,.string ⟨#[]⟩] 37));have hq:=Blk.new (w.alloc (.cells #[.string ⟨p.1.toArray⟩,.string ⟨p.2.toArray⟩] 37)) 37 #[.string ⟨#[]⟩,.string ⟨#[]⟩];rw[show(w.alloc (.cells #[.string ⟨p.1.toArray⟩,.string ⟨p.2.toArray⟩] 37)).heap.size=w.heap.size+1 by simp,<-eW] at hq;have O:=I (show Blk W w.heap.size 37 #[.string ⟨p.1.toArray⟩,.string ⟨p.2.toArray⟩] by rw[eW];exact(Blk.new _ _ _).alloc _);have M:=I hq;have HB:=I (show Below w.heap.size w W by rw[eW];exact(Ah.alloc Ag _).alloc (by simp) _);rw[<-eW];clear eW hq;replace O:=I (show Blk W.drew _ _ _ from O.o.drewN 1);replace M:=I (show Blk W.drew _ _ _ from M.o.drewN 1);replace HB:=I (show Below _ _ W.drew from below_drewN HB.o 1)
 go_region_held3 (fun w'=>w'.cell? ⟨w.heap.size,0,none⟩=some (.string ⟨p.1.toArray⟩)/\w'.cell? ⟨w.heap.size,1,none⟩=some (.string ⟨p.2.toArray⟩)) (first | exact⟨O.o.cell 0,O.o.cell 1⟩ | exact⟨(Si.Blk.far (Si.Blk.far O.o _ _ (by simp)) _ _ (by simp)).cell 0,(Si.Blk.far (Si.Blk.far O.o _ _ (by simp)) _ _ (by simp)).cell 1⟩) ((first
  |(go_at_call 55;(with_reducible refine Calls.mono (C1.o _) ?_);rintro e w1 ⟨rfl,Z⟩;clear C1;replace O:=I (O.o.below Z);replace M:=I (M.o.below Z);replace HB:=HB.t Z;have aw:=M.c0;have av:=M.c1;have fz:=M.o.frozen;clear Z)
  |(go_at_call 55;(with_reducible refine Calls.mono (C2.o _) ?_);rintro e w2 ⟨rfl,Z⟩;clear C2 aw av fz;replace O:=I (O.o.below Z);replace M:=I (M.o.below Z);replace HB:=HB.t Z;have aw:=M.c0;have av:=M.c1;have fz:=M.o.frozen;clear Z)))
 go_wp2
 have hz:=(M.o.set 0 (.string ⟨p.1.toArray⟩)).set 1 (.string ⟨p.2.toArray⟩);rw[show(((#[.string ⟨#[]⟩,.string ⟨#[]⟩]:Array Value).setIfInBounds 0 (.string ⟨p.1.toArray⟩)).setIfInBounds 1 (.string ⟨p.2.toArray⟩))=#[.string ⟨p.1.toArray⟩,.string ⟨p.2.toArray⟩] from rfl] at hz;refine bodyPost_ret (v:=prV p) ?_ ?_ ?_
 ·exact Wh.Au (v:=prV p) 2 37 ⟨w.heap.size+1,0,none⟩ Tryz.results26 (by rfl) (Wh.Ao hz Tryz.underlying37 (by rfl) Dp)
 ·rfl
 ·exact⟨rfl,Si.AS (Si.AS HB.o (by simp) _) (by simp) _⟩
structure Own1 (a w:World) (A:Option Addr) (xs:List Value):Prop where
 rd:Rd w w.heap.size A xs
 lo:∀p,A=some p->a.heap.size<=p.block/\p.block<w.heap.size
 bk:∀p,A=some p->∃t cur,Blk w p.block t cur
theorem Own1.below {a w w':World} {A:Option Addr} {xs:List Value} (h:Own1 a w A xs) (M:Below w.heap.size w w'):Own1 a w' A xs:=
 ⟨(h.1.below M).more M.size,fun p hp=>have q:=h.2 p hp;⟨q.1,Nat.lt_of_lt_of_le q.2 M.size⟩,fun p hp=>by obtain⟨t,cur,q⟩:=h.3 p hp;exact⟨t,cur,q.below M⟩⟩
theorem Own1.chg {S:Nat->Prop} {a w w':World} {A:Option Addr} {xs:List Value} (h:Own1 a w A xs) (M:Chg S w w') (hs:∀p,A=some p->¬S p.block):Own1 a w' A xs:=
 ⟨dE h.1 M hs,fun p hp=>have q:=h.2 p hp;⟨q.1,Nat.lt_of_lt_of_le q.2 M.size⟩,fun p hp=>by obtain⟨t,cur,q⟩:=h.3 p hp;exact⟨t,cur,M.blk q (hs p hp)⟩⟩
theorem Own1.none (a w:World):Own1 a w .none []:=⟨.inl rfl,(fun p hp=>by cases hp),(fun p hp=>by cases hp)⟩
end Ca
namespace Rp
open Go.RowKit Af Se
open Ms (An)
open Rg (RdR Bp Bs)
abbrev anC (a:An):List Value:=[.string ⟨a.c.1.toArray⟩,.string ⟨a.c.2.toArray⟩,.int .i64 a.t,.int .i64 a.q]
abbrev anA (a:An):Array Value:=#[.string ⟨a.c.1.toArray⟩,.string ⟨a.c.2.toArray⟩,.int .i64 a.t,.int .i64 a.q]
theorem BH (a:An):(anC a).length=4:=rfl
theorem FY (a:An):(anA a).size=4:=rfl
theorem LG (a:An):∀u∈anC a,u.oneCell'=true:=by simp [Value.oneCell']
theorem LH (a:An):(anA a).all (·.oneCell')=true:=by
 rw[Array.all_eq_true_iff_forall_mem];exact fun u hu=>LG a u (Array.mem_def.1 hu)
theorem JN:(Tryz.prog.info? 47).map (·.size)=some 4:=by kernel_rfl
theorem Yq:(Tryz.prog.info? 47).map (fun i=>(i.zero,i.size,i.bytes))=some (some (.agg (anA ⟨([],[]),0,0⟩)),4,48):=by kernel_rfl
structure Rp (w:World) (B r:Nat) (v:Value) (on:Bool) (st:Int) (l:List An):Prop where
 blk:Blk w r 115 #[v,.bool on,.int .i64 st]
 row:w.ownsRow B 47 4 v l.length (l.flatMap anC)
 lo:B<=r
 vr:v.ownBlock≠some r
 tm:∀a∈l,Tm a.t
def RO (r:Nat) (v:Value) (k:Nat):Prop:=k=r\/v.ownBlock=some k
section
variable {w w':World} {B r:Nat} {v v':Value} {on:Bool} {st:Int} {l l':List An} {S:Nat->Prop}
theorem Rp.lt (h:Rp w B r v on st l):r<w.heap.size:=h.blk.lt
theorem Rp.big (h:Rp w B r v on st l):B<=w.heap.size:=by have:=h.lo;have:=h.lt;omega
theorem Rp.own_lo (h:Rp w B r v on st l) {k:Nat} (hk:RO r v k):B<=k:=by
 rcases hk with hk | hk
 ·subst hk;exact h.lo
 ·exact(World.ownsRow.lt h.row k hk).1
theorem Rp.own_lt (h:Rp w B r v on st l) {k:Nat} (hk:RO r v k):k<w.heap.size:=by
 rcases hk with hk | hk
 ·subst hk;exact h.lt
 ·exact(World.ownsRow.lt h.row k hk).2
theorem Rp.chg (h:Rp w B r v on st l) (M:Chg S w w') (hs:∀k,RO r v k->¬S k):Rp w' B r v on st l:=
 ⟨M.blk h.blk (hs r (.inl rfl)),Bs M h.row (fun k hk=>hs k (.inr hk)),h.lo,h.vr,h.tm⟩
theorem Rp.below (h:Rp w B r v on st l) (M:Below w.heap.size w w'):Rp w' B r v on st l:=h.chg (S:=fun _=>False) (Chg.of_below M) (fun _ _ x=>x)
theorem Rp.num (h:Rp w B r v on st l):∃A c,v=.slice A l.length c/\l.length<=c/\c<=maxLen/\RdR w w.heap.size A anC 4 l:=Bp BH h.row
end
theorem Hg (x y:Int) (hx:Tm x) (hy:Tm y) (w:World):Calls Tryz.prog 153 #[.int .i64 x,.int .i64 y] w fun e w'=>e=.returned (.bool (old x y))/\w'=w:=by
 unfold old;have u1:IntKind.u64.wrap x=x:=by rw[IntKind.wrap_u64];omega
 have u2:IntKind.u64.wrap y=y:=by rw[IntKind.wrap_u64];omega
 by_cases h:y<x
 ·have h1:decide (y<x)=true:=decide_eq_true h
  have u3:IntKind.u64.wrap (x - y)=x - y:=by rw[IntKind.wrap_u64];omega
  obtain⟨b,M⟩:=Ak (decide (y+5<x));have Z:decide (5<x - y)=b:=by rw[M];exact decide_eq_decide.2 (by omega)
  rw[<-M];clear M;go_enter Tryz.func153,Tryz.ntmps153
  go_wp2
  go_ret;exact⟨by rw[<-Z];rfl,rfl⟩
 ·have h1:decide (y<x)=false:=decide_eq_false h
  have O:decide (y+5<x)=false:=decide_eq_false (by omega);rw[O];clear O;go_enter Tryz.func153,Tryz.ntmps153
  go_wp2
  go_ret;exact⟨rfl,rfl⟩
theorem Rb (r:Nat) (v:Value) (on:Bool) (st t now:Int) (w:World) (hb:Blk w r 115 #[v,.bool on,.int .i64 st]) (Z:Tm t) (h2:Tm now) (h3:Tm st):Calls Tryz.prog 150 #[.pointer (some ⟨r,0,none⟩),.int .i64 t,.int .i64 now] w fun e w'=>e=.returned (.bool (skw on st t now))/\w'=w:=by
 unfold skw;have M:=I (Hg t now Z h2);have O:=I (Hg now t h2 Z);have C3:=I (Hg t st Z h3);have k1:=hb.c1;have k2:=hb.c2;obtain⟨b1,e1⟩:∃b,b=old t now:=⟨_,rfl⟩;obtain⟨b2,e2⟩:∃b,b=old now t:=⟨_,rfl⟩;obtain⟨b3,e3⟩:∃b,b=old t st:=⟨_,rfl⟩;rw[<-e1] at M⊢;rw[<-e2] at O⊢;rw[<-e3] at C3⊢;clear e1 e2 e3 hb Z h2 h3;cases b1 with
 |true=>
  go_enter Tryz.func150,Tryz.ntmps150
  go_wp2_with (first
   |(go_at_call 153;with_reducible refine Aj (M.o _) ?_;rintro w1 hw;subst hw;clear M)
   |fail)
  go_ret;exact⟨rfl,rfl⟩
 |false=>
  cases b2 with
  |true=>
   go_enter Tryz.func150,Tryz.ntmps150
   go_wp2_with (first
    |(go_at_call 153;with_reducible refine Aj (M.o _) ?_;rintro w1 hw;subst hw;clear M)
    |(go_at_call 153;with_reducible refine Aj (O.o _) ?_;rintro w1 hw;subst hw;clear O)
    |fail)
   go_ret;exact⟨rfl,rfl⟩
  |false=>
   cases on with
   |false=>
    go_enter Tryz.func150,Tryz.ntmps150
    go_wp2_with (first
     |(go_at_call 153;with_reducible refine Aj (M.o _) ?_;rintro w1 hw;subst hw;clear M)
     |(go_at_call 153;with_reducible refine Aj (O.o _) ?_;rintro w1 hw;subst hw;clear O)
     |fail)
    go_ret;exact⟨rfl,rfl⟩
   |true=>
    go_enter Tryz.func150,Tryz.ntmps150
    go_wp2_with (first
     |(go_at_call 153;with_reducible refine Aj (M.o _) ?_;rintro w1 hw;subst hw;clear M)
     |(go_at_call 153;with_reducible refine Aj (O.o _) ?_;rintro w1 hw;subst hw;clear O)
     |(go_at_call 153;with_reducible refine Aj (C3.o _) ?_;rintro w1 hw;subst hw;clear C3)
     |fail)
    go_ret;exact⟨rfl,rfl⟩
theorem Yr (x:An) (now:Int) (M:Nat) (w:World) (hn:w.cell? ⟨M,0,none⟩=some (.int .i64 now)) (h1:Tm now) (h2:Tm x.t) :
  Calls Tryz.prog 152 #[.agg (anA x),.pointer (some ⟨M,0,none⟩)] w fun e w'=>e=.returned (.bool (old now x.t))/\Below w.heap.size w w':=by
 have CA:=I (Hg now x.t h1 h2);have O:M<w.heap.size:=World.block_lt_of_cell? w _ hn;obtain⟨W,Z⟩:=Ak (w.alloc (.cells (anA x) 47));have hb:Below w.heap.size w W:=Z▸Ah.alloc Ag _;have HB:=I hb;have hk:Blk W w.heap.size 47 (anA x):=by rw[Z];exact Blk.new _ _ _
 have kt:W.cell? ⟨M,0,none⟩=some (.int .i64 now):=(hb.cell (p:=⟨M,0,none⟩) O).trans hn;have ke:=hk.c2;obtain⟨b,eb⟩:=Ak (old now x.t);rw[<-eb] at CA⊢;clear eb hb hk hn O h1 h2;go_enter Tryz.func152,Tryz.ntmps152
 go_upto_region 1 with fail
 rw[<-Z];clear Z
 go_wp2_with (first
  |(go_at_call 153;refine Aj (CA.o _) ?_;rintro w1 hw;subst hw;clear CA)
  |fail)
 go_ret;exact⟨rfl,HB.o⟩
open Ca (Uw Ux JM Nf)
theorem FZ (x:An):(anA x).toList=anC x:=rfl
def goI (t:Int) (es:List An):Option Nat:=es.findIdx? (fun e=>old t e.t)
def goN (o:Option Nat):Int:=match o with
 |none=>-1
 |some i=>(i:Int)
theorem WY {t:Int} {es:List An} {i:Nat} {x:An} (Z:es[i]? = some x) (hd:old t x.t=true) (hn:∀j y,j<i->es[j]? = some y->old t y.t=false):goI t es=some i:=by
 obtain⟨h1,M⟩:=List.getElem?_eq_some_iff.1 Z;refine List.findIdx?_eq_some_iff_getElem.2 ⟨h1,by rw[M];exact hd,fun j O=>?_⟩;rw[hn j _ O (List.getElem?_eq_getElem (by omega))];simp
theorem WZ {t:Int} {es:List An} (hn:∀j y,j<es.length->es[j]? = some y->old t y.t=false):goI t es=none:=by
 refine List.findIdx?_eq_none_iff.2 fun x Z=>?_
 obtain⟨j,M,O⟩:=List.getElem_of_mem Z;exact hn j x M (by rw[<-O];exact List.getElem?_eq_getElem M)
theorem Uy (es:List An) (t:Int) (bt:Nat) (A:Option Addr) (c B:Nat) (w:World) (hr:RdR w B A anC 4 es) (hB:B<=w.heap.size) (ht:w.cell? ⟨bt,0,none⟩=some (.int .i64 t)) (aw:Tm t/\∀a∈es,Tm a.t) (hl:es.length<=1000) :
  Calls Tryz.prog 202 #[.slice A es.length c,.func (.func 152) #[] #[.pointer (some ⟨bt,0,none⟩)]] w fun e w'=>e=.returned (.int .i64 (goN (goI t es)))/\Below w.heap.size w w':=by
 obtain⟨n,en⟩:=Ak (es.length);have EN:=I en;rw[<-en] at hl⊢;have bz:bt<w.heap.size:=World.block_lt_of_cell? w _ ht;have CD:=I (fun(x:An) (w1:World) (h:Below w.heap.size w w1) (hx:Tm x.t)=>Yr x t bt w1 ((h.cell (p:=⟨bt,0,none⟩) bz).trans ht) aw.1 hx);have HR:=I hr;have bB:=I hB;have M:=I (Below.refl w.heap.size w);have ca:=I aw.2;clear hr ht bz en hB aw;go_enter Tryz.func202,Tryz.ntmps202
 go_wp2
 go_loopw [8] (fun iv wr=>∃i:Nat,i<=n/\iv=.int .i64 (i:Int)/\Below w.heap.size w wr/\∀j x,j<i->es[j]? = some x->old t x.t=false) (fun iv _=>n - (intOf iv).toNat)
 case atStart=>exact⟨0,Nat.zero_le _,rfl,M.o,fun j x hj=>absurd hj (Nat.not_lt_zero _)⟩
 case round=>
  clear M;obtain⟨i,hi,rfl,O,bx⟩:=hrel;have M:=I O;have bq:=I bx;have cb:=I (HR.o.keep (O.mono bB.o));clear O bx
  by_cases hlt:i<n
  ·have e1:(i:Int)<(n:Int):=by omega
   have e2:(0:Int)<=(i:Int):=by omega
   obtain⟨x,hx⟩:∃x,es[i]? = some x:=⟨es[i]'(by rw[<-EN.o];exact hlt),List.getElem?_eq_getElem _⟩;obtain⟨g,rfl,cc,bn⟩:=cb.o.at_ hx;rw[<-FZ] at bn;have av:=I bn;have bb:=JN;rw[<-FY x] at bb;have Z:=I bb;have HX:=I hx;have CX:=I (fun w1 h=>CD.o x w1 h (ca.o x (List.mem_of_getElem? hx)));obtain⟨cs,bs⟩:=Ak (anA x);rw[<-bs] at av Z CX;clear bn bb hx bs;obtain⟨b,eb⟩:=Ak (old t x.t);rw[<-eb] at CX;have EB:=I eb;clear eb;cases b with
   |true=>
    go_wp2_with (first
     |(refine Wh.AF (by rfl) 47 (.tmp 14) (by rfl) g _ (by rfl) cs _ av.o Tryz.underlying47 (by rfl) Z.o ?_)
     |(go_at_call 152;refine Aj (CX.o _ M.o) ?_;rintro w1 O;replace M:=M.t O;clear O)
     |fail)
    go_ret;exact⟨by rw[WY HX.o EB.o.symm bq.o];rfl,M.o⟩
   |false=>
    go_wp2_with (first
     |(refine Wh.AF (by rfl) 47 (.tmp 14) (by rfl) g _ (by rfl) cs _ av.o Tryz.underlying47 (by rfl) Z.o ?_)
     |(go_at_call 152;refine Aj (CX.o _ M.o) ?_;rintro w1 O;replace M:=M.t O;clear O)
     |fail)
    go_roundw
    case rel=>exact⟨i+1,by omega,by go_num,M.o,fun j y hj hy=>by
     rcases Nat.lt_or_eq_of_le (Nat.le_of_lt_succ hj) with g | g
     ·exact bq.o j y g hy
     ·rw[g,HX.o] at hy
      injection hy with hy;rw[<-hy];exact EB.o.symm⟩
    case measure=>simp [intOf];omega
  ·have e1:¬(i:Int)<(n:Int):=by omega
   obtain rfl:n=i:=by omega
   go_wp2
   go_ret;exact⟨by rw[WZ (fun j y hj hy=>bq.o j y (by rw[EN.o];exact hj) hy)];rfl,M.o⟩
theorem LI {t:Int} {es:List An} {i:Nat} (h:goI t es=some i):∃x,es[i]? = some x/\old t x.t=true/\∀j y,j<i->es[j]? = some y->old t y.t=false:=by
 obtain⟨h1,M,O⟩:=List.findIdx?_eq_some_iff_getElem.1 h;refine⟨es[i],List.getElem?_eq_getElem h1,M,fun j y Z hy=>?_⟩;have:=O j Z;obtain⟨k1,k2⟩:=List.getElem?_eq_some_iff.1 hy;rw[k2] at this
 simpa using this
theorem Rc {t:Int} {es:List An} (h:goI t es=none):BY t es=es:=by
 rw[BY,List.filter_eq_self];intro x M;have:=List.findIdx?_eq_none_iff.1 h x M
 simpa using this
theorem Kx {t:Int} {es:List An} {i:Nat} {x:An} (M:es[i]? = some x):BY t (es.take (i+1))=if old t x.t=true then BY t (es.take i) else BY t (es.take i)++[x]:=by
 rw[List.take_add_one,M,BY,List.filter_append];cases h:old t x.t<;>simp [BY,h]
theorem OK {t:Int} {es:List An} {i:Nat} (h:goI t es=some i):BY t (es.take (i+1))=es.take i:=by
 obtain⟨x,h1,h2,h3⟩:=LI h;rw[Kx h1,if_pos h2,BY,List.filter_eq_self];intro y hy;obtain⟨j,M,O⟩:=List.getElem_of_mem hy;have Z:j<i:=by simp at M;omega
 have:=h3 j y Z (by rw[<-O,List.getElem_take];exact List.getElem?_eq_getElem _);rw[this];rfl
theorem Xa {α:Type} (l:List α) (i:Nat) (x:α) (h:i<l.length):(l.set i x).take (i+1)=l.take i++[x]:=by
 rw[List.take_add_one,List.take_set_of_le Ag,List.getElem?_set_self h]
 rfl
theorem Uz (es:List An) (t:Int) (bn g cap B i0:Nat) (w:World) (ho:w.ownsRow B 47 4 (.slice (some ⟨g,0,none⟩) es.length cap) es.length (es.flatMap anC)) (hB:B<=w.heap.size) (ht:w.cell? ⟨bn,0,none⟩=some (.int .i64 t)) (bx:Tm t/\∀a∈es,Tm a.t)
  (cA:bn≠g) (hl:es.length<=1000) (bz:goI t es=some i0) :
  Calls Tryz.prog 151 #[.slice (some ⟨g,0,none⟩) es.length cap,.func (.func 152) #[] #[.pointer (some ⟨bn,0,none⟩)]] w fun e w'=>e=.returned (.slice (some ⟨g,0,none⟩) (BY t es).length cap)/\
   w'.ownsRow B 47 4 (.slice (some ⟨g,0,none⟩) (BY t es).length cap) (BY t es).length ((BY t es).flatMap anC)/\w.grownBy w' (some g):=by
 obtain⟨x0,cT,eg,ed⟩:=LI bz;have cd:i0<es.length:=(List.getElem?_eq_some_iff.1 cT).1;obtain⟨A1,c1,e1,aw,cM,cP⟩:=Bp BH ho;injection e1 with e1 _ e2;subst e1 e2;have ct:g<w.heap.size:=(World.ownsRow.lt ho g rfl).2;have dz:B<=g:=(World.ownsRow.lt ho g rfl).1;have CI:=Uy es t bn (some ⟨g,0,none⟩) cap w.heap.size w cP Ag ht bx hl;rw[bz,show goN (some i0)=(i0:Int) from rfl] at CI;obtain⟨n,en⟩:=Ak (es.length);have EN:=I en;rw[<-en] at CI hl cd aw⊢;have ea:bn<w.heap.size:=World.block_lt_of_cell? w _ ht;have CD:=I (fun(x:An) (w1:World) (h:w.grownBy w1 (some g)) (hx:Tm x.t)=>Yr x t bn w1 (h.cell ht (by intro e;injection e with e;exact cA e)) bx.1 hx);have M:=I ho;have cR:=I cd;have HF:=I (OK bz);have HL:=I hl;have cy:=I aw;have er:=I ct;have et:=I dz;have eu:=I cM;have t0:((i0:Int) == -1)=false:=by simp
 obtain⟨iE,dy,cL,ei,ek⟩:=info_parts Yq;have cx:(Value.agg (anA ⟨([],[]),0,0⟩)).cells.size=4:=FY _;have cB:∀u∈(Value.agg (anA ⟨([],[]),0,0⟩)).cells.toList,u.oneCell'=true:=by
  intro u hu;rw[show(Value.agg (anA ⟨([],[]),0,0⟩)).cells=anA ⟨([],[]),0,0⟩ from rfl,FZ] at hu;exact LG _ u hu
 have ef:=I (fun(w1:World) (ty:TypeId) (o m c:Nat) (h:w1.there g o (m*4))=>Nf Tryz.prog w1 113 47 ty iE _ 4 Tryz.underlying113 dy cL cx cB (by decide) g o m c h);have ec:=I bx.2;clear ho cP ht bx ea en eg ed cT x0 bz ct dz cA cM aw dy cL ei ek cx cB hB;go_enter Tryz.func151,Tryz.ntmps151
 go_wp2_with (first
  |(go_at_call 202;refine Aj CI ?_;rintro w1 O;have HG:=I (Dg O (some g));replace M:=I (BS M.o O);clear O CI)
  |fail)
 go_loopw [5,6] (fun iv jv wr=>∃(i j:Nat) (cs:List An),iv=.int .i64 (i:Int)/\jv=.int .i64 (j:Int)/\i<j/\j<=n/\cs.length=n/\cs.take i=BY t (es.take j)/\(∀q,j<=q->cs[q]? = es[q]?)/\wr.ownsRow B 47 4 (.slice (some ⟨g,0,none⟩) cs.length cap) cs.length (cs.flatMap anC)/\w.grownBy wr (some g)) (fun _ jv _=>n - (intOf jv).toNat)
 case atStart=>exact⟨i0,i0+1,es,rfl,by go_num,by omega,cR.o,EN.o.symm,HF.o.symm,fun q _=>rfl,M.o,HG.o⟩
 case round=>
  clear M HG HF cR;obtain⟨i,j,cs,rfl,rfl,ep,hj,bb,cw,bq,ho,hg⟩:=hrel;have M:=I ho;have HG:=I hg;have bB:=I cw;have ca:=I bq;have Z:=I bb;clear ho hg cw bq bb
  by_cases hlt:j<n
  ·have e1:(j:Int)<(n:Int):=by omega
   have e2:(0:Int)<=(j:Int):=by omega
   have e3:(i:Int)<(n:Int):=by omega
   have e4:(0:Int)<=(i:Int):=by omega
   obtain⟨x,hx⟩:∃x,es[j]? = some x:=⟨es[j]'(by rw[<-EN.o];exact hlt),List.getElem?_eq_getElem _⟩;obtain⟨A1,c1,q1,_,_,hr⟩:=Bp BH M.o;injection q1 with q1 _ q2;subst q1 q2;have cQ:cs[j]? = some x:=(ca.o j Ag).trans hx;obtain⟨g2,q3,_,cp⟩:=hr.at_ cQ;injection q3 with q3;injection q3 with q3;subst q3;rw[<-FZ] at cp;have cj:=I cp;have cm:=JN;rw[<-FY x] at cm;have av:=I cm;have cb:=I (LH x);have HX:=I hx;have CX:=I (fun w1 h=>CD.o x w1 h (ec.o x (List.mem_of_getElem? hx)));obtain⟨ds,cg⟩:=Ak (anA x);rw[<-cg] at cj av CX cb;have cc:=I cg;have ck:=Kx (t:=t) hx;obtain⟨b,eb⟩:=Ak (old t x.t);rw[<-eb] at CX ck;have cY:=I ck;obtain⟨m,em⟩:=Ak (cs.length);have EM:=I em;clear cp cm hx cg eb hr cQ ck;cases b with
   |true=>
    go_wp2_with (first
     |(refine Wh.AF (by rfl) 47 (.tmp 24) (by rfl) g _ (by rfl) ds _ cj.o Tryz.underlying47 (by rfl) av.o ?_)
     |(refine Wh.Bb (by rfl) 47 (.tmp 7) (.tmp 25) (by rfl) 47 rfl ds (by rfl) (by rfl) (by rw[cc.o,FY];rfl) av.o cb.o ?_;rintro V hV O;have HV:=I hV;replace M:=I (BS M.o O);replace HG:=I (IW HG.o O);clear hV O)
     |(refine Wh.AF (by rfl) 47 (.tmp 7) (by rfl) _ 0 (by rfl) ds _ (Wh.Ad HV.o) Tryz.underlying47 (by rfl) av.o ?_)
     |(go_at_call 152;refine Aj (CX.o _ HG.o) ?_;rintro w1 O;replace M:=I (BS M.o O);replace HG:=I (IW HG.o O);clear O)
     |fail)
    go_roundw
    case rel=>exact⟨i,j+1,cs,rfl,by go_num,by omega,by omega,Z.o,by rw[cY.o];simpa using bB.o,fun q hq=>ca.o q (by omega),M.o,HG.o⟩
    case measure=>simp [intOf];omega
   |false=>
    have ej:=I (fun(w1:World) (h:w1.ownsRow B 47 4 (.slice (some ⟨g,0,none⟩) cs.length cap) cs.length (cs.flatMap anC))=>JM h (i*4) 4 (by have:=Z.o;omega));have cq:=I (fun(w1:World) (h:w1.ownsRow B 47 4 (.slice (some ⟨g,0,none⟩) cs.length cap) cs.length (cs.flatMap anC))=>Uw BH h (show i<cs.length by have:=Z.o;omega) x);rw[<-FZ,<-cc.o] at cq
    go_wp2_with (first
     |(refine Wh.AF (by rfl) 47 (.tmp 24) (by rfl) g _ (by rfl) ds _ cj.o Tryz.underlying47 (by rfl) av.o ?_)
     |(refine Wh.Bb (by rfl) 47 (.tmp 7) (.tmp 25) (by rfl) 47 rfl ds (by rfl) (by rfl) (by rw[cc.o,FY];rfl) av.o cb.o ?_;rintro V hV O;have HV:=I hV;replace M:=I (BS M.o O);replace HG:=I (IW HG.o O);clear hV O)
     |(refine Wh.AF (by rfl) 47 (.tmp 7) (by rfl) _ 0 (by rfl) ds _ (Wh.Ad HV.o) Tryz.underlying47 (by rfl) av.o ?_)
     |(go_at_call 152;refine Aj (CX.o _ HG.o) ?_;rintro w1 O;replace HV:=I (HV.o.below O);replace M:=I (BS M.o O);replace HG:=I (IW HG.o O);clear O)
     |(refine wpList_store_mid (by rfl) 47 (.tmp 33) (.tmp 32) (by rfl) g (i*4) ds (by rfl) (by rfl) (by rw[cc.o,FY];exact ej.o _ M.o) av.o cb.o ?_;replace M:=I (cq.o _ M.o);replace HG:=I (Wh.Fg (.inl rfl) ds.toList (i*4) _ HG.o))
     |fail)
    go_roundw
    case rel=>exact⟨i+1,j+1,cs.set i x,by go_num,by go_num,by omega,by omega,by rw[List.length_set];exact Z.o,by rw[cY.o,Xa _ _ _ (by have:=Z.o;omega),bB.o];simp,fun q hq=>by rw[List.getElem?_set_ne (by omega)];exact ca.o q (by omega),by rw[List.length_set];exact M.o,HG.o⟩
    case measure=>simp [intOf];omega
  ·have e1:¬(j:Int)<(n:Int):=by omega
   obtain rfl:n=j:=by omega
   have e4:(0:Int)<=(i:Int):=by omega
   have cf:=fun(vs:List Value) (h:vs.length=(n - i)*4)=>Ux BH M.o (show i<=cs.length by have:=Z.o;omega) vs (by have:=Z.o;omega)
   obtain⟨vs,cX,bb⟩:=ef.o wr 0 (i*4) (n - i) (cap - i) (JM M.o _ _ (by have:=Z.o;omega));have cn:=cf vs cX;have cr:=Wh.Fg (row:=some g) (g:=g) (.inl rfl) vs (i*4) _ HG.o;have bs:List.take i cs=BY t es:=by rw[bB.o,List.take_of_length_le (by rw[<-EN.o];exact Nat.le_refl _)]
   have cu:(BY t es).length=i:=by rw[<-bs,List.length_take];have:=Z.o;omega
   rw[bs] at cn;have e5:(i:Int)<=(n:Int):=by omega
   have e6:(n:Int)<=(cap:Int):=by have:=cy.o;omega
   have eo:∀ty,(Builtin.clear_ #[113] ty #[.slice (some ⟨g,i*4,none⟩) (n - i) (cap - i)]).run Tryz.prog wr=.ok (.tuple #[]) (wr.setCells g (i*4) vs):=fun _=>bb
   have H1:=I cn;have H2:=I cr;have H3:=I cu;clear cn cr bs cu bb cf cX M HG bB ca
   go_wp2
   go_ret;exact⟨by rw[H3.o];rfl,by rw[H3.o];exact H1.o,H2.o⟩
theorem Xb (es:List An) (t:Int) (O B:Nat) (v:Value) (w:World) (ho:w.ownsRow B 47 4 v es.length (es.flatMap anC)) (hB:B<=w.heap.size) (ht:w.cell? ⟨O,0,none⟩=some (.int .i64 t)) (M:Tm t/\∀a∈es,Tm a.t)
  (Z:v.ownBlock≠some O) (hl:es.length<=1000) :
  Calls Tryz.prog 151 #[v,.func (.func 152) #[] #[.pointer (some ⟨O,0,none⟩)]] w fun e w'=>∃v',e=.returned v'/\
   w'.ownsRow B 47 4 v' (BY t es).length ((BY t es).flatMap anC)/\w.grownBy w' v.ownBlock/\v'.ownBlock=v.ownBlock:=by
 cases hi:goI t es with
 |none=>
  have he:=Rc hi;obtain⟨A,c,rfl,_,_,hr⟩:=Bp BH ho;have CI:=Uy es t O A c w.heap.size w hr Ag ht M hl;rw[hi,show goN none = -1 from rfl] at CI;have HO:=I ho;rw[he];obtain⟨n,en⟩:=Ak (es.length);rw[<-en] at CI HO⊢;clear hi ht M Z hl hr he en ho;go_enter Tryz.func151,Tryz.ntmps151
  go_wp2_with (first
   |(go_at_call 202;refine Aj CI ?_;rintro w1 hb;have HB:=I hb;clear hb CI)
   |fail)
  go_ret;exact⟨_,rfl,BS HO.o HB.o,Dg HB.o _,rfl⟩
 |some i0=>
  rcases ho.2 with⟨rfl,h2⟩ | ⟨g,cap,cur,rfl,_⟩
  ·obtain⟨x,hx,_⟩:=LI hi
   have:=(List.getElem?_eq_some_iff.1 hx).1;omega
  ·refine(Uz es t O g cap B i0 w ho hB ht M (fun e=>Z (e▸rfl)) hl hi).mono ?_
   rintro e w' ⟨rfl,h1,h2⟩;exact⟨_,rfl,h1,h2,rfl⟩
end Rp
namespace Rp
open Go.RowKit Af Se
open Ms (An)
open Rg (RdR Bp Bs)
theorem dF (x y:An) (w:World):(Op.equalIn 10000 47 (.agg (anA x)) (.agg (anA y))).run Tryz.prog w=.ok (decide (x=y)) w:=by
 obtain⟨⟨a,b⟩,c,d⟩:=x;obtain⟨⟨M,O⟩,c',Z⟩:=y
 by_cases h0:a=M
 ·subst h0
  by_cases h1:b=O
  ·subst h1
   by_cases h2:c=c'
   ·subst h2
    by_cases h3:d=Z
    ·subst h3
     rw[decide_eq_true rfl]
     go_simp
    ·rw[decide_eq_false (fun h=>h3 (congrArg (fun z=>z.q) h))]
     go_simp
   ·rw[decide_eq_false (fun h=>h2 (congrArg (fun z=>z.t) h))]
    go_simp
  ·rw[decide_eq_false (fun h=>h1 (congrArg (fun z=>z.c.2) h))]
   go_simp
 ·rw[decide_eq_false (fun h=>h0 (congrArg (fun z=>z.c.1) h))]
  go_simp
def ixA (a:An) (l:List An):Int:=match l.findIdx? (fun x=>decide (a=x)) with
 |none=>-1
 |some i=>(i:Int)
theorem dG (a:An) (l:List An):decide (0<=ixA a l)=decide (a∈l):=by
 unfold ixA;refine decide_eq_decide.2 ?_;cases h:l.findIdx? (fun x=>decide (a=x)) with
 |none=>
  refine⟨fun x=>by simp at x,fun x=>?_⟩;have:=List.findIdx?_eq_none_iff.1 h a x;simp at this
 |some i=>
  obtain⟨O,M,_⟩:=List.findIdx?_eq_some_iff_getElem.1 h;refine⟨fun _=>?_,fun _=>by simp⟩;rw[of_decide_eq_true M];exact List.getElem_mem _
theorem Xc {a:An} {l:List An} {i:Nat} {x:An} (Z:l[i]? = some x) (hd:decide (a=x)=true) (hn:∀j y,j<i->l[j]? = some y->decide (a=y)=false):ixA a l=(i:Int):=by
 obtain⟨h1,M⟩:=List.getElem?_eq_some_iff.1 Z;rw[ixA,List.findIdx?_eq_some_iff_getElem.2 ⟨h1,by rw[M];exact hd,fun j O=>by
  rw[hn j _ O (List.getElem?_eq_getElem (by omega))];simp⟩]
theorem Xd {a:An} {l:List An} (Z:∀j y,j<l.length->l[j]? = some y->decide (a=y)=false):ixA a l = -1:=by
 rw[ixA,List.findIdx?_eq_none_iff.2 fun x hx=>?_];obtain⟨j,M,O⟩:=List.getElem_of_mem hx;exact Z j x M (by rw[<-O];exact List.getElem?_eq_getElem M)
theorem Xe (l:List An) (a:An) (A:Option Addr) (c B:Nat) (w:World) (hr:RdR w B A anC 4 l) (hB:B<=w.heap.size) (hl:l.length<=1000) :
  Calls Tryz.prog 203 #[.slice A l.length c,.agg (anA a)] w fun e w'=>e=.returned (.int .i64 (ixA a l))/\Below w.heap.size w w':=by
 obtain⟨n,en⟩:=Ak (l.length);have EN:=I en;rw[<-en] at hl⊢;obtain⟨W,eW⟩:=Ak (w.alloc (.cells (anA a) 47));have hb:Below w.heap.size w W:=eW▸Ah.alloc Ag _;have O:=I (show Blk W w.heap.size 47 (anA a) by rw[eW];exact Blk.new _ _ _);have HB:=I hb;have HR:=I (hr.keep (hb.mono hB));have bb:=I hB;clear hr en hB hb;go_enter Tryz.func203,Tryz.ntmps203
 go_upto_region 1 with fail
 rw[<-eW];clear eW
 go_wp2
 go_loopw [8] (fun iv wr=>∃i:Nat,i<=n/\iv=.int .i64 (i:Int)/\Below w.heap.size w wr/\RdR wr B A anC 4 l/\Blk wr w.heap.size 47 (anA a)/\∀j x,j<i->l[j]? = some x->decide (a=x)=false) (fun iv _=>n - (intOf iv).toNat)
 case atStart=>exact⟨0,Nat.zero_le _,rfl,HB.o,HR.o,O.o,fun j x hj=>absurd hj (Nat.not_lt_zero _)⟩
 case round=>
  clear HB HR O;obtain⟨i,hi,rfl,hb,hr,hk,aw⟩:=hrel;have HB:=I hb;have av:=I aw;have HR:=I hr;have O:=I hk;clear hb aw hr hk
  by_cases hlt:i<n
  ·have e1:(i:Int)<(n:Int):=by omega
   have e2:(0:Int)<=(i:Int):=by omega
   obtain⟨x,hx⟩:∃x,l[i]? = some x:=⟨l[i]'(by rw[<-EN.o];exact hlt),List.getElem?_eq_getElem _⟩;obtain⟨g,rfl,bq,M⟩:=HR.o.at_ hx;have HX:=I hx;have bn:=I M;have q:=dF a x;obtain⟨b,eb⟩:=Ak (decide (a=x));rw[<-eb] at q;have EB:=I eb;have k0:=O.o.cell 0;have k1:=O.o.cell 1;have k2:=O.o.cell 2;have k3:=O.o.cell 3;have x0:wr.cell? ⟨g,i*4,none⟩=some _:=M 0 _ rfl;have x1:=M 1 _ rfl;have x2:=M 2 _ rfl;have x3:=M 3 _ rfl;clear M hx eb;cases b with
   |true=>
    go_wp2
    go_quiet (fail)
    go_wp2
    go_ret;exact⟨by rw[Xc HX.o EB.o.symm av.o];rfl,below_drewN HB.o _⟩
   |false=>
    go_wp2
    go_quiet (fail)
    go_wp2
    go_roundw
    case rel=>exact⟨i+1,by omega,by go_num,below_drewN HB.o _,HR.o.keep (below_drewN Ah _),O.o.below (below_drewN Ah _),fun j y hj Z=>by
     rcases Nat.lt_or_eq_of_le (Nat.le_of_lt_succ hj) with g | g
     ·exact av.o j y g Z
     ·rw[g,HX.o] at Z
      injection Z with Z;rw[<-Z];exact EB.o.symm⟩
    case measure=>simp [intOf];omega
  ·have e1:¬(i:Int)<(n:Int):=by omega
   obtain rfl:n=i:=by omega
   go_wp2
   go_ret;exact⟨by rw[Xd (fun j y hj Z=>av.o j y (by rw[EN.o];exact hj) Z)];rfl,HB.o⟩
theorem LJ (l:List An) (a:An) (A:Option Addr) (c B:Nat) (w:World) (hr:RdR w B A anC 4 l) (hB:B<=w.heap.size) (hl:l.length<=1000) :
  Calls Tryz.prog 154 #[.slice A l.length c,.agg (anA a)] w fun e w'=>e=.returned (.bool (decide (a∈l)))/\Below w.heap.size w w':=by
 have E:=I (dG a l);obtain⟨W,O⟩:=Ak (w.alloc (.cells (anA a) 47));have M:Below w.heap.size w W:=O▸Ah.alloc Ag _;have hk:Blk W w.heap.size 47 (anA a):=by rw[O];exact Blk.new _ _ _
 have c1:=Xe l a A c B W (hr.keep (M.mono hB)) (Nat.le_trans hB M.size) hl;obtain⟨z,ez⟩:=Ak (ixA a l);rw[<-ez] at c1;have EZ:=I ez;have Z:=I M;have k0:=hk.cell 0;have k1:=hk.cell 1;have k2:=hk.cell 2;have k3:=hk.cell 3;clear ez hr M hk;go_enter Tryz.func154,Tryz.ntmps154
 go_upto_region 1 with fail
 rw[<-O];clear O
 go_wp2_with (go_at_call 203;refine Aj c1 ?_;rintro w1 M;replace Z:=Z.t M;clear M)
 go_ret;exact⟨by rw[<-E.o,<-EZ.o];rfl,Z.o⟩
section
variable {P:Program} {a:Act} {w w':World} {ty:TypeId} {dst:Option Tmp} {pos:String} {after:Array _} {guard:Option (Nat×Bool)}
theorem Ck {t:TypeId} {x:Operand} {cs:Array Value} {s:Value} (M:a.eval x=.agg cs) (h:(Instr.buildSlice t 1 #[(0,.agg cs)]).run P w=.ok s w'):(execOp a.eval ⟨dst,.buildSlice t 1 #[(0,x)],ty,pos,after,guard⟩).run P w=.ok (.value s) w':=by
 simp only[execOp,Sem.run_bind,List.map_toArray,List.map_cons,List.map_nil,M,h,Result.andThen_ok,Sem.run_pure]
theorem DF {t:TypeId} {x y:Operand} {u v s:Value} (M:a.eval x=u) (O:a.eval y=v) (h:(Builtin.append_ #[t,t] ty #[u,v]).run P w=.ok s w'):(execOp a.eval ⟨dst,.call {callee:=.builtin .append,args:=#[x,y],argTypes:=#[t,t]},ty,pos,after,guard⟩).run P w=.ok (.value s) w':=by
 simp only[execOp,resolve,invoke,builtin,Sem.run_bind,Sem.run_pure,Result.andThen_ok,List.map_toArray,List.map_cons,List.map_nil,M,O,h]
end
theorem Ig {w w':World} {row:Option Nat} (h:w.grownBy w' row):Chg (fun q=>row=some q) w w':=⟨h.os,h.tape,h.output,h.size,fun i hi M=>h.block i hi (fun e=>M e.symm)⟩
structure Stp (w w':World) (B r:Nat) (v v':Value) (on:Bool) (st:Int) (l:List An):Prop where
 rp:Rp w' B r v' on st l
 chg:Chg (RO r v) w w'
 new:∀q,RO r v' q->RO r v q\/w.heap.size<=q
section
variable {w w0 w1 W w2 w5 w6:World} {B r:Nat} {v v1 v2 v6:Value} {on:Bool} {st:Int} {l l1 l2:List An}
theorem Stp.refl (h:Rp w B r v on st l):Stp w w B r v v on st l:=⟨h,Chg.refl _ _,fun q M=>.inl M⟩
theorem Stp.trans {on2:Bool} {st2:Int} (h:Stp w w1 B r v v1 on st l1) (k:Stp w1 w2 B r v1 v2 on2 st2 l2):Stp w w2 B r v v2 on2 st2 l2:=
 ⟨k.rp,h.chg.trans k.chg (fun q M x=>by
  rcases h.new q x with g | g
  ·exact g
  ·omega),fun q M=>by
  rcases k.new q M with g | g
  ·exact h.new q g
  ·exact .inr (Nat.le_trans h.chg.size g)⟩
theorem Stp.below (h:Stp w w1 B r v v1 on st l1) (M:Below w1.heap.size w1 w2):Stp w w2 B r v v1 on st l1:=
 h.trans ⟨h.rp.below M,Chg.of_below M,fun q O=>.inl O⟩
theorem aG (h:Rp W B r v on st l) (Z:W.grownBy w2 v.ownBlock) (ho:w2.ownsRow B 47 4 v1 l1.length (l1.flatMap anC)) (hv:v1.ownBlock=v.ownBlock) (hs:∀x∈l1,x∈l) :
  Stp W (w2.setCell ⟨r,0,none⟩ v1) B r v v1 on st l1:=by
 have M:Chg (fun q=>q=r) w2 (w2.setCell ⟨r,0,none⟩ v1):=Chg.set (p:=⟨r,0,none⟩) (Chg.refl (fun q=>q=r) w2) (.inl rfl) v1;have hc:Chg (RO r v) W (w2.setCell ⟨r,0,none⟩ v1):=((Ig Z).mono (fun q _ x=>.inr x)).trans M (fun q _ x=>.inl x);have O:v1.ownBlock≠some r:=by rw[hv];exact h.vr
 exact⟨⟨(h.blk.grown Z h.vr).set 0 v1,Bs M ho (fun k hk x=>O (x▸hk)),h.lo,O,fun y hy=>h.tm y (hs y hy)⟩,hc,fun q hq=>.inl (hq.imp id (fun x=>hv▸x))⟩
theorem Ys {e:An} (Z:Rp w5 B r v on st l1) (ht:Tm e.t) (ho:w6.ownsRow B 47 4 v6 (l1++[e]).length ((l1++[e]).flatMap anC)) (hg:w5.grownBy w6 v.ownBlock) (hv:v6.ownBlock=v.ownBlock\/v6.ownBlock=some w5.heap.size) :
  Stp w5 (w6.setCell ⟨r,0,none⟩ v6) B r v v6 on st (l1++[e]):=by
 have O:Chg (fun q=>q=r) w6 (w6.setCell ⟨r,0,none⟩ v6):=Chg.set (p:=⟨r,0,none⟩) (Chg.refl (fun q=>q=r) w6) (.inl rfl) v6;have aw:Chg (RO r v) w5 (w6.setCell ⟨r,0,none⟩ v6):=((Ig hg).mono (fun q _ x=>.inr x)).trans O (fun q _ x=>.inl x);have bb:=Z.lt;have av:v6.ownBlock≠some r:=fun x=>by
  rcases hv with g | g
  ·rw[g] at x;exact Z.vr x
  ·rw[g] at x;injection x with x;omega
 refine⟨⟨(Z.blk.grown hg Z.vr).set 0 v6,Bs O ho (fun k hk x=>av (x▸hk)),Z.lo,av,fun y hy=>?_⟩,aw,fun q M=>?_⟩
 ·rcases List.mem_append.1 hy with hy | hy
  ·exact Z.tm y hy
  ·rw[List.mem_singleton] at hy;exact hy▸ht
 ·rcases M with M | M
  ·exact .inl (.inl M)
  ·rcases hv with g | g
   ·exact .inl (.inr (g▸M))
   ·rw[g] at M;injection M with M;exact .inr (by omega)
end
theorem aH {w w1 w2:World} {B r M:Nat} {v v1:Value} {on:Bool} {st:Int} {l:List An} (h:Stp w w1 B r v v1 on st l) (Z:Chg (fun q=>q=M) w1 w2) (hn:∀q,RO r v1 q->¬q=M) (hN:w.heap.size<=M):Stp w w2 B r v v1 on st l:=
 ⟨h.rp.chg Z hn,h.chg.trans Z (fun q O x=>absurd hN (by subst x;omega)),fun q O=>h.new q O⟩
theorem UA (B r:Nat) (v:Value) (on:Bool) (st:Int) (l:List An) (a:An) (now:Int) (w:World) (h:Rp w B r v on st l) (hs:Tm st) (ha:Tm a.t) (hn:Tm now) (h1:a.c.1.length<=140737488351232) (h2:a.c.2.length<=140737488351232) (hl:l.length<=1000) :
  Calls Tryz.prog 95 #[.pointer (some ⟨r,0,none⟩),.agg (anA a),.int .i64 now] w fun e w'=>e=.returned (.int .i64 (seeE on st l a now))/\∃v',Stp w w' B r v v' on st (seeL on st l a now):=by
 obtain⟨W,eW⟩:=Ak ((w.alloc (.cells (anA a) 47)).alloc (.cells #[.int .i64 now] 3));have hb:Below w.heap.size w W:=eW▸(Ah.alloc Ag _).alloc (by simp) _;have cw:Blk W w.heap.size 47 (anA a):=eW▸(Blk.new w _ _).alloc _;have cr:Blk W (w.heap.size+1) 3 #[.int .i64 now]:=by
  have:=Blk.new (w.alloc (.cells (anA a) 47)) 3 #[.int .i64 now];simp only[World.size_alloc] at this;exact eW▸this
 have cd:=h.below hb;have cB:∀k,w.heap.size<=k->v.ownBlock≠some k:=fun k hk x=>by have:=(World.ownsRow.lt h.row _ x).2;omega
 have cn:=I (show ∀k,w.heap.size<=k->k≠r from fun k hk x=>by have:=h.lt;omega);have cu:=I cB;have C1:=I (fun w1 (hk:Blk w1 r 115 #[v,.bool on,.int .i64 st])=>Rb r v on st a.t now w1 hk ha hn hs);have CD:=Xb l now (w.heap.size+1) B v W cd.row cd.big (cr.cell 0) ⟨hn,h.tm⟩ (cB _ (by omega)) hl;have CP:=I (fun(w1:World)=>Ca.WX a.c w1 h1 h2);have bb:=I (⟨cd,Chg.of_below hb,fun q hq=>.inl hq⟩:Stp w W B r v v on st l);have O:=I cw;have cR:=I ha;obtain⟨l1,el⟩:=Ak (BY now l);have EL:=I el;obtain⟨iE,cM,ct,cy,ec⟩:=info_parts Yq;have ea:=I cM;have dy:=I ct;have eb:=I cy;have dz:=I ec;have cA:=I (fun(w1:World)=>Wh.Fi (P:=Tryz.prog) w1 113 47 (anA a) iE _ Tryz.underlying113 cM ct (by rw[cy];rfl) (by simp) (by simp));have eo:=I hl;have ka:=cw.cell 2;have kn:=cr.c0;obtain⟨b0,e0⟩:∃b,b=skw on st a.t now:=⟨_,rfl⟩;rw[<-e0] at C1;have E0:=I e0;clear hb cw cr cB h hs ha hn h1 h2 hl cM ct cy ec e0;cases b0 with
 |true=>
  clear CD CP cA O;go_enter Tryz.func95,Tryz.ntmps95
  go_upto_region 1 with fail
  rw[<-eW];clear eW
  go_wp2_with (first
   |(go_at_call 150;refine Aj (C1.o _ bb.o.rp.blk) ?_;rintro w1 hw;subst hw;clear C1)
   |fail)
  go_ret;exact⟨by rw[seeE,if_pos E0.o.symm];rfl,v,by rw[seeL,if_pos E0.o.symm];exact bb.o⟩
 |false=>
  obtain⟨A0,c0,ev,_,_,_⟩:=cd.num;obtain⟨n,en⟩:=Ak (l.length);have k0:W.cell? ⟨r,0,none⟩=some (.slice A0 n c0):=by rw[en,<-ev];exact cd.blk.cell 0
  have EV:=I (show v=.slice A0 n c0 by rw[en];exact ev);have cX:=EV.o;rw[<-el] at CD;rw[cX] at CD;have eg:=I (fun x hx=>WK (a:=x) (el▸hx):∀x∈l1,x∈l);clear en ev cd el cX;go_enter Tryz.func95,Tryz.ntmps95
  go_upto_region 1 with fail
  rw[<-eW];clear eW
  go_upto_region 6 with(first
   |(go_at_call 150;refine Aj (C1.o _ bb.o.rp.blk) ?_;rintro w1 hw;subst hw;clear C1)
   |(go_at_call 151;refine Calls.mono CD ?_;rintro e w2 ⟨v1,rfl,ho,hg,hv⟩;obtain⟨A1,c1,rfl,_⟩:=Bp BH ho;rw[<-EV.o] at hg hv;have HG:=I hg;have HV:=I hv;have HO:=I ho;clear hg hv ho CD k0;have cL:=bb.o.rp.blk.grown HG.o bb.o.rp.vr;have f0:=cL.frozen 0;have k0:=cL.c0;clear cL)
   |fail)
  obtain⟨m,em⟩:=Ak (l1.length);have EM:=I em;have hm:m<=1000:=by have:=Uf now l;have:=eo.o;rw[em,EL.o];omega
  have cg:=bb.o.trans (aG bb.o.rp HG.o HO.o HV.o eg.o);rw[<-em] at cg HV⊢;have HP:=I cg.rp;replace O:=I (Si.Blk.far (O.o.grown HG.o (cu.o _ Ag)) ⟨r,0,none⟩ (.slice A1 m c1) (fun x=>cn.o _ Ag x.symm));obtain⟨W3,cQ⟩:=Ak (w2.setCell ⟨r,0,none⟩ (.slice A1 m c1));rw[<-cQ] at cg HP O⊢;have Z:=I cg;have bx:Below W3.heap.size W3 W3.drew:=below_drewN Ah 1;replace Z:=I (Z.o.below bx);replace HP:=I Z.o.rp;replace O:=I (O.o.below bx);have CC:=I (show ∀w1:World,Rp w1 B r (.slice A1 m c1) on st l1->Calls Tryz.prog 154 #[.slice A1 m c1,.agg (anA a)] w1 fun e w'=>e=.returned (.bool (decide (a∈l1)))/\Below w1.heap.size w1 w' from fun w1 h=>by
   obtain⟨A2,c2,e2,_,_,hr⟩:=h.num;injection e2 with q1 _ q2;have:=LJ l1 a A1 c1 w1.heap.size w1 (q1▸hr) Ag (by rw[<-EM.o];exact hm);rw[<-EM.o] at this;exact this)
  have ed:=I (show ∀k,RO r (.slice A1 m c1) k->k=w.heap.size->False from fun k hk e=>by
   rcases hk with hk | hk
   ·exact cn.o k (by omega) hk
   ·rw[HV.o] at hk;exact cu.o k (by omega) hk)
  clear cg bx em cQ f0 k0 HG HV HO bb ka kn;obtain⟨b1,e1⟩:∃b,b=decide (a∈l1):=⟨_,rfl⟩;rw[<-e1] at CC;have E1:=I e1;obtain⟨NB,cq⟩:=Ak (w.heap.size);have cT:=I (show NB≠r from cn.o _ (by omega));have ek:Hid (Value.ownBlock (.slice A1 m c1)=some NB->False\/True):=I (fun _=>.inr trivial);have er:=I (show NB<W3.drew.heap.size from by rw[cq];exact O.o.lt);rw[<-cq] at O⊢;have ep:=I (show ∀k,NB<=k->k≠r from fun k hk=>cn.o k (by omega));have cp:=I (show ∀q,RO r (.slice A1 m c1) q->¬q=NB from fun q hq e=>ed.o q hq (by omega));have ei:=I (show w.heap.size<=NB by omega);clear e1 hm cn cu ek ed cq;cases b1 with
  |true=>
   refine Reg.BQ (fun w'=>Blk w' r 115 #[.slice A1 m c1,.bool on,.int .i64 st]/\Blk w' NB 47 (anA a)) 6 rfl (by kernel_rfl) ⟨HP.o.blk,O.o⟩ ?_;refine Reg.ty 0 rfl ⟨HP.o.blk,O.o⟩ ?_;refine Reg.ty 1 rfl ⟨HP.o.blk,O.o⟩ ?_;refine Reg.ty 2 rfl ⟨HP.o.blk,O.o⟩ ?_;refine Reg.tw 3 rfl ⟨HP.o.blk,O.o⟩ (fun w' hS=>by(have kq:=hS.1.c0;go_simp<;>rfl)) ?_;refine Reg.tw 4 (v:=.agg (anA a)) rfl ⟨HP.o.blk,O.o⟩ (fun w' hS=>by exact Wh.BD (.tmp 4) rfl rfl hS.2 Tryz.underlying47 rfl JN) ?_;refine Reg.b1 5 ?_
   right
   refine⟨_,_,_,_,_,_,154,#[.slice A1 m c1,.agg (anA a)],rfl,by rfl,by go_simp,?_⟩;refine(CC.o _ HP.o).mono ?_;rintro e WB ⟨rfl,hb⟩;replace Z:=I (Z.o.below hb);replace HP:=I Z.o.rp;replace O:=I (O.o.below hb);clear hb;refine⟨_,rfl,⟨HP.o.blk,O.o⟩,?_⟩;simp only[Act.put,U,Aa,Ab];refine wpAnyH_done (by kernel_rfl) ?_ _
   go_wp2
   go_ret;have hk:a∈BY now l:=by rw[<-EL.o];exact of_decide_eq_true E1.o.symm
   exact⟨by rw[seeE,if_neg (by rw[<-E0.o];simp),if_pos hk];rfl,_,by rw[seeL,if_neg (by rw[<-E0.o];simp),if_pos (.inl hk),<-EL.o];exact Z.o⟩
  |false=>
   refine Reg.BQ (fun w'=>Blk w' r 115 #[.slice A1 m c1,.bool on,.int .i64 st]/\Blk w' NB 47 (anA a)) 6 rfl (by kernel_rfl) ⟨HP.o.blk,O.o⟩ ?_;refine Reg.ty 0 rfl ⟨HP.o.blk,O.o⟩ ?_;refine Reg.ty 1 rfl ⟨HP.o.blk,O.o⟩ ?_;refine Reg.ty 2 rfl ⟨HP.o.blk,O.o⟩ ?_;refine Reg.tw 3 rfl ⟨HP.o.blk,O.o⟩ (fun w' hS=>by(have kq:=hS.1.c0;go_simp<;>rfl)) ?_;refine Reg.tw 4 (v:=.agg (anA a)) rfl ⟨HP.o.blk,O.o⟩ (fun w' hS=>by exact Wh.BD (.tmp 4) rfl rfl hS.2 Tryz.underlying47 rfl JN) ?_;refine Reg.b1 5 ?_
   right
   refine⟨_,_,_,_,_,_,154,#[.slice A1 m c1,.agg (anA a)],rfl,by rfl,by go_simp,?_⟩;refine(CC.o _ HP.o).mono ?_;rintro e WB ⟨rfl,hb⟩;replace Z:=I (Z.o.below hb);replace HP:=I Z.o.rp;replace O:=I (O.o.below hb);clear hb;refine⟨_,rfl,⟨HP.o.blk,O.o⟩,?_⟩;simp only[Act.put,U,Aa,Ab];refine wpAnyH_done (by kernel_rfl) ?_ _;clear CC
   by_cases hfull:8<=m
   ·have t1:decide ((8:Int)<=(m:Int))=true:=decide_eq_true (by omega)
    have kr:WB.cell? ⟨r,0,none⟩=some (.slice A1 m c1):=HP.o.blk.cell 0;have HF:=I hfull;clear hfull
    go_wp2
    go_ret;have hk:¬a∈BY now l:=by rw[<-EL.o];exact of_decide_eq_false E1.o.symm
    have hf:8<=(BY now l).length:=by rw[<-EL.o,<-EM.o];exact HF.o
    exact⟨by rw[seeE,if_neg (by rw[<-E0.o];simp),if_neg hk,if_pos hf];rfl,_,by rw[seeL,if_neg (by rw[<-E0.o];simp),if_pos (.inr hf),<-EL.o];exact Z.o⟩
   ·have t1:decide ((8:Int)<=(m:Int))=false:=decide_eq_false (by omega)
    have kr:WB.cell? ⟨r,0,none⟩=some (.slice A1 m c1):=HP.o.blk.cell 0;have HF:=I hfull;clear hfull
    go_upto_region 10 with fail
    clear kr t1;have q0:=O.c0;have q1:=O.c1
    go_upto_region 11 with(first
     |(go_at_call 26;refine Aj (CP.o _) ?_;rintro bn hb;clear CP q0 q1;replace Z:=I (Z.o.below hb);replace HP:=I Z.o.rp;replace O:=I (O.o.below hb);clear hb;have q0:=O.o.cell 0;have q1:=O.o.cell 1;have ef:=O.o.frozen 0;have ej:=O.o.frozen 1)
     |fail)
    have cY:Blk ((bn.setCell ⟨NB,0,none⟩ (.string ⟨a.c.1.toArray⟩)).setCell ⟨NB,1,none⟩ (.string ⟨a.c.2.toArray⟩)) NB 47 (anA a):=(O.o.set 0 _).set 1 _;have cP:Chg (fun q=>q=NB) bn ((bn.setCell ⟨NB,0,none⟩ (.string ⟨a.c.1.toArray⟩)).setCell ⟨NB,1,none⟩ (.string ⟨a.c.2.toArray⟩)):=((Chg.refl (fun q=>q=NB) bn).set (p:=⟨NB,0,none⟩) (.inl rfl) _).set (p:=⟨NB,1,none⟩) (.inl rfl) _;clear q0 q1 ef ej;replace Z:=I (aH Z.o cP cp.o ei.o);replace HP:=I Z.o.rp;replace O:=I cY;obtain⟨M,cb⟩:=Ak (((bn.setCell ⟨NB,0,none⟩ (.string ⟨a.c.1.toArray⟩)).setCell ⟨NB,1,none⟩ (.string ⟨a.c.2.toArray⟩)));rw[<-cb] at Z HP O⊢;clear cY cP cb;have bx:Below M.heap.size M M.drew:=below_drewN Ah 1;replace Z:=I (Z.o.below bx);replace HP:=I Z.o.rp;replace O:=I (O.o.below bx);clear bx;refine Reg.BQ (fun w'=>Blk w' NB 47 (anA a)) 11 rfl (by kernel_rfl) O.o ?_;refine Reg.ty 0 rfl O.o ?_;refine Reg.ty 1 rfl O.o ?_;refine Reg.ty 2 rfl O.o ?_;refine Reg.ty 3 rfl O.o ?_;refine Reg.tw 5 (v:=.agg (anA a)) rfl O.o (fun w' hS=>by exact Wh.BD (.tmp 4) rfl rfl hS Tryz.underlying47 rfl JN) ?_;refine Reg.b2 4 6 ?_ ?_
    ·left
     have kr:M.drew.cell? ⟨r,0,none⟩=some (.slice A1 m c1):=HP.o.blk.cell 0;refine⟨_,_,_,_,_,_,_,_,rfl,by rfl,by(go_simp;rfl),O.o,?_⟩;simp only[Act.put,U,Aa,Ab];clear kr;refine Reg.b1 6 ?_
     left
     have hb:Below M.drew.heap.size M.drew (M.drew.alloc (.cells (anA a) 47)):=Ah.alloc Ag _;refine⟨_,_,_,_,_,_,.slice (some ⟨M.drew.heap.size,0,none⟩) 1 1,(M.drew.alloc (.cells (anA a) 47)),rfl,by rfl,Ck rfl (cA.o _),O.o.below hb,?_⟩;simp only[Act.put,U,Aa,Ab];have bs:=I (Blk.new M.drew 47 (anA a));replace Z:=I (Z.o.below hb);replace HP:=I Z.o.rp;replace O:=I (O.o.below hb);clear hb;obtain⟨cx,ca⟩:=Ak ((M.drew.alloc (.cells (anA a) 47)));rw[<-ca] at bs Z HP O⊢;clear ca;refine Reg.b1 7 ?_
     left
     obtain⟨v6,w6,aw,bB,av,ck⟩:=Wh.FG (P:=Tryz.prog) anC 4 48 BH LG cx 113 113 47 iE _ Tryz.underlying113 ea.o dy.o eb.o dz.o rfl (by omega) B (.slice A1 m c1) l1 HP.o.row a M.drew.heap.size bs.o (by have:=EM.o;have:=HF.o;omega) (by omega) HP.o.big;have bq:=Z.o.trans (Ys HP.o cR.o bB av ck);have bz:=HP.o.blk.grown av HP.o.vr;replace O:=I (O.o.grown av (fun x=>cp.o _ (.inr x) rfl));refine⟨_,_,_,_,_,_,v6,w6,rfl,by rfl,DF rfl rfl aw,O.o,?_⟩;simp only[Act.put,U,Aa,Ab];refine Reg.ty 8 rfl O.o ?_;refine Reg.ty 9 rfl O.o ?_;obtain⟨A7,c7,e7,_⟩:=Bp BH bB;obtain⟨m7,cm⟩:=Ak ((l1++[a]).length);rw[<-cm] at e7;subst e7;have f0:=bz.frozen 0;have k6:=bz.c0;refine Reg.BC 10 (w6.setCell ⟨r,0,none⟩ (.slice A7 m7 c7)) rfl (by kernel_rfl) (by rfl) (by go_simp) (Si.Blk.far O.o _ _ (fun x=>cT.o x.symm)) ?_;simp only[Act.put,U,Aa,Ab];clear f0 k6 bz bB av ck aw cm O bs HP;refine wpAnyH_done (by kernel_rfl) ?_ _;have cj:=I bq;clear bq Z
     go_wp2
     go_ret;have hk:¬a∈BY now l:=by rw[<-EL.o];exact of_decide_eq_false E1.o.symm
     have hf:¬8<=(BY now l).length:=by rw[<-EL.o,<-EM.o];exact HF.o
     exact⟨by rw[seeE,if_neg (by rw[<-E0.o];simp),if_neg hk,if_neg hf];rfl,_,by rw[seeL,if_neg (by rw[<-E0.o];simp),if_neg (fun x=>x.elim hk hf),<-EL.o];exact cj.o⟩
    ·left
     have hb:Below M.drew.heap.size M.drew (M.drew.alloc (.cells (anA a) 47)):=Ah.alloc Ag _;refine⟨_,_,_,_,_,_,.slice (some ⟨M.drew.heap.size,0,none⟩) 1 1,(M.drew.alloc (.cells (anA a) 47)),rfl,by rfl,Ck rfl (cA.o _),O.o.below hb,?_⟩;simp only[Act.put,U,Aa,Ab];have bs:=I (Blk.new M.drew 47 (anA a));replace Z:=I (Z.o.below hb);replace HP:=I Z.o.rp;replace O:=I (O.o.below hb);clear hb;obtain⟨cf,cc⟩:=Ak ((M.drew.alloc (.cells (anA a) 47)));rw[<-cc] at bs Z HP O⊢;clear cc;refine Reg.b1 4 ?_
     left
     have kr:cf.cell? ⟨r,0,none⟩=some (.slice A1 m c1):=HP.o.blk.cell 0;refine⟨_,_,_,_,_,_,_,_,rfl,by rfl,by(go_simp;rfl),O.o,?_⟩;simp only[Act.put,U,Aa,Ab];clear kr;refine Reg.b1 7 ?_
     left
     obtain⟨v6,w6,aw,bB,av,ck⟩:=Wh.FG (P:=Tryz.prog) anC 4 48 BH LG cf 113 113 47 iE _ Tryz.underlying113 ea.o dy.o eb.o dz.o rfl (by omega) B (.slice A1 m c1) l1 HP.o.row a M.drew.heap.size bs.o (by have:=EM.o;have:=HF.o;omega) (by omega) HP.o.big;have bq:=Z.o.trans (Ys HP.o cR.o bB av ck);have bz:=HP.o.blk.grown av HP.o.vr;replace O:=I (O.o.grown av (fun x=>cp.o _ (.inr x) rfl));refine⟨_,_,_,_,_,_,v6,w6,rfl,by rfl,DF rfl rfl aw,O.o,?_⟩;simp only[Act.put,U,Aa,Ab];refine Reg.ty 8 rfl O.o ?_;refine Reg.ty 9 rfl O.o ?_;obtain⟨A7,c7,e7,_⟩:=Bp BH bB;obtain⟨m7,cm⟩:=Ak ((l1++[a]).length);rw[<-cm] at e7;subst e7;have f0:=bz.frozen 0;have k6:=bz.c0;refine Reg.BC 10 (w6.setCell ⟨r,0,none⟩ (.slice A7 m7 c7)) rfl (by kernel_rfl) (by rfl) (by go_simp) (Si.Blk.far O.o _ _ (fun x=>cT.o x.symm)) ?_;simp only[Act.put,U,Aa,Ab];clear f0 k6 bz bB av ck aw cm O bs HP;refine wpAnyH_done (by kernel_rfl) ?_ _;have cj:=I bq;clear bq Z
     go_wp2
     go_ret;have hk:¬a∈BY now l:=by rw[<-EL.o];exact of_decide_eq_false E1.o.symm
     have hf:¬8<=(BY now l).length:=by rw[<-EL.o,<-EM.o];exact HF.o
     exact⟨by rw[seeE,if_neg (by rw[<-E0.o];simp),if_neg hk,if_neg hf];rfl,_,by rw[seeL,if_neg (by rw[<-E0.o];simp),if_neg (fun x=>x.elim hk hf),<-EL.o];exact cj.o⟩
structure Mkd (w w':World) (r:Nat) (v:Value) (on:Bool) (st:Int) (l:List An):Prop where
 rp:Rp w' w.heap.size r v on st l
 low:Below w.heap.size w w'
theorem Hw (t:Int) (w:World):Calls Tryz.prog 33 #[.int .i64 t] w fun e w'=>∃r,e=.returned (.pointer (some ⟨r,0,none⟩))/\Mkd w w' r (.slice none 0 0) (!decide (t=0)) t []:=by
 obtain⟨b,M⟩:=Ak (!decide (t=0));have O:((t:Int) != 0)=b:=by rw[M];rfl
 rw[<-M];clear M;go_enter Tryz.func33,Tryz.ntmps33
 go_wp2
 go_ret;exact⟨_,rfl,⟨Blk.new _ _ _,⟨rfl,.inl ⟨rfl,rfl⟩⟩,Nat.le_refl _,by simp [Value.ownBlock],by simp⟩,Ah.alloc Ag _⟩
theorem JO {w:World} {B r:Nat} {v:Value} {on:Bool} {st:Int} {l:List An} (t:Int) (h:Rp w B r v on st l):Calls Tryz.prog 18 #[.pointer (some ⟨r,0,none⟩),.int .i64 t] w fun e w'=>e=.returned (.tuple #[])/\Stp w w' B r v (.slice none 0 0) true t []:=by
 have k0:w.cell? ⟨r,0,none⟩=some v:=h.blk.cell 0;have k1:w.cell? ⟨r,1,none⟩=some (.bool on):=h.blk.cell 1;have k2:w.cell? ⟨r,2,none⟩=some (.int .i64 st):=h.blk.cell 2;have f0:=h.blk.frozen;have O:=I (((h.blk.set 0 (.slice none 0 0)).set 1 (.bool true)).set 2 (.int .i64 t));have Z:=I ((((Chg.refl (fun q=>q=r) w).set (p:=⟨r,0,none⟩) (.inl rfl) (.slice none 0 0)).set (p:=⟨r,1,none⟩) (.inl rfl) (.bool true)).set (p:=⟨r,2,none⟩) (.inl rfl) (.int .i64 t));have HL:=I h.lo;clear h;go_enter Tryz.func18,Tryz.ntmps18
 go_wp2
 go_end0
 refine⟨rfl,⟨O.o,⟨rfl,.inl ⟨rfl,rfl⟩⟩,HL.o,by simp [Value.ownBlock],by simp⟩,Z.o.mono (fun q _ x=>.inl x),fun q M=>?_⟩;rcases M with M | M
 ·exact .inl (.inl M)
 ·simp [Value.ownBlock] at M
section
variable {w w1 w2:World} {B r:Nat} {v v2:Value} {on on2:Bool} {st st2:Int} {l l2:List An}
end
structure DRp (w:World) (B r:Nat) (v:Value) (on:Bool) (st:Int) (l:List An):Prop where
 blk:Blk w r 171 #[v,.bool on,.int .i64 st]
 row:w.ownsRow B 47 4 v l.length (l.flatMap anC)
 lo:B<=r
 vr:v.ownBlock≠some r
 tm:∀a∈l,Tm a.t
section
variable {w w' w1 w2:World} {B r:Nat} {v v' v1 v2:Value} {on on2:Bool} {st st2:Int} {l l' l1 l2:List An} {S:Nat->Prop}
theorem DRp.lt (h:DRp w B r v on st l):r<w.heap.size:=h.blk.lt
theorem DRp.big (h:DRp w B r v on st l):B<=w.heap.size:=by have:=h.lo;have:=h.lt;omega
theorem DRp.chg (h:DRp w B r v on st l) (M:Chg S w w') (hs:∀k,RO r v k->¬S k):DRp w' B r v on st l:=
 ⟨M.blk h.blk (hs r (.inl rfl)),Bs M h.row (fun k hk=>hs k (.inr hk)),h.lo,h.vr,h.tm⟩
theorem DRp.below (h:DRp w B r v on st l) (M:Below w.heap.size w w'):DRp w' B r v on st l:=h.chg (S:=fun _=>False) (Chg.of_below M) (fun _ _ x=>x)
structure DStp (w w':World) (B r:Nat) (v v':Value) (on:Bool) (st:Int) (l:List An):Prop where
 rp:DRp w' B r v' on st l
 chg:Chg (RO r v) w w'
 new:∀q,RO r v' q->RO r v q\/w.heap.size<=q
theorem DStp.trans (h:DStp w w1 B r v v1 on st l1) (k:DStp w1 w2 B r v1 v2 on2 st2 l2):DStp w w2 B r v v2 on2 st2 l2:=
 ⟨k.rp,h.chg.trans k.chg (fun q M x=>by
  rcases h.new q x with g | g
  ·exact g
  ·omega),fun q M=>by
  rcases k.new q M with g | g
  ·exact h.new q g
  ·exact .inr (Nat.le_trans h.chg.size g)⟩
theorem DStp.below (h:DStp w w1 B r v v1 on st l1) (M:Below w1.heap.size w1 w2):DStp w w2 B r v v1 on st l1:=
 h.trans ⟨h.rp.below M,Chg.of_below M,fun q O=>.inl O⟩
end
theorem Xf (t:Int) (w:World):Calls Tryz.prog 36 #[.int .i64 t] w fun e w'=>∃r,e=.returned (.pointer (some ⟨r,0,none⟩))/\DRp w' w.heap.size r (.slice none 0 0) (!decide (t=0)) t []/\Below w.heap.size w w':=by
 obtain⟨b,M⟩:=Ak (!decide (t=0));have O:((t:Int) != 0)=b:=by rw[M];rfl
 rw[<-M];clear M;go_enter Tryz.func36,Tryz.ntmps36
 go_wp2
 go_ret;exact⟨_,rfl,⟨Blk.new _ _ _,⟨rfl,.inl ⟨rfl,rfl⟩⟩,Nat.le_refl _,by simp [Value.ownBlock],by simp⟩,Ah.alloc Ag _⟩
end Rp
section
set_option maxRecDepth 100000
namespace Rp
open Go.RowKit Af Se
open Ms (An)
open Go.Maps (Keyed)
theorem aI:laidOutB Tryz.prog=true:=by kernel_rfl
theorem dH:47<Tryz.prog.types.size:=of_decide_eq_true (by kernel_rfl)
theorem aJ:(match Tryz.prog.underlying 47 with | some (.array _ _) | some (.struct _)=>true | _=>false)=true:=by kernel_rfl
theorem UB:Keyed Tryz.prog 47:=Keyed.of_law (deep_law_laid aI (m:=3) (by omega) dH (by kernel_rfl) aJ)
theorem aK:2<=Tryz.prog.types.size:=of_decide_eq_true (by kernel_rfl)
theorem c_an:Tryz.prog.cellsOf 47=4:=by kernel_rfl
theorem c_pr:Tryz.prog.cellsOf 37=2:=by kernel_rfl
theorem dc:Tryz.prog.cellsOf 9=1:=by kernel_rfl
theorem dd:Tryz.prog.cellsOf 3=1:=by kernel_rfl
theorem Qa {m:Nat} {n:Int} (h:(Lit.int .i64 n).wf=true):Tryz.prog.keyLits (m+1) 3 [.int .i64 n]=some [.int .i64 n]:=by
 unfold Program.keyLits;simp only[Tryz.underlying3];simp [h]
theorem Qb {m:Nat} {s:List UInt8} (h:s.length<=maxLen):Tryz.prog.keyLits (m+1) 9 [.string ⟨s.toArray⟩]=some [.string s]:=by
 unfold Program.keyLits;simp only[Tryz.underlying9];have hs:(⟨s.toArray⟩:ByteArray).size=s.length:=by simp [ByteArray.size]
 simp [hs,h]
theorem Yt (a:An) (h1:a.c.1.length<=maxLen) (M:a.c.2.length<=maxLen) (Z:(Lit.int .i64 a.t).wf=true) (O:(Lit.int .i64 a.q).wf=true):∃l,keyOf Tryz.prog 47 (.agg (anA a))=some l:=by
 obtain⟨m,hm⟩:=Nat.exists_eq_add_of_le aK;have hl:Tryz.prog.keyLits (Tryz.prog.types.size+1) 47 (anC a)=some ([[.string a.c.1,.string a.c.2],[.int .i64 a.t],[.int .i64 a.q]]:List (List Lit)).flatten:=by
  have hp:Tryz.prog.keyLits (m+2) 37 [.string ⟨a.c.1.toArray⟩,.string ⟨a.c.2.toArray⟩]=some ([[.string a.c.1],[.string a.c.2]]:List (List Lit)).flatten:=by
   unfold Program.keyLits;simp only[Tryz.underlying37];rw[if_pos ⟨by rw[c_pr];rfl,by simp⟩];simp [dc,Qb h1,Qb M]
  rw[show Tryz.prog.types.size+1=(m+2)+1 by omega];unfold Program.keyLits;simp only[Tryz.underlying47];rw[if_pos ⟨by rw[c_an];rfl,by simp⟩];simp [c_pr,dd,hp,Qa Z,Qa O]
 unfold keyOf;rw[Tryz.underlying47];simp only;rw[if_pos (by rw[show Tryz.prog.keyType 47=true by kernel_rfl];simp [Value.formed,Tryz.underlying47,c_an])];rw[show(Value.agg (anA a)).cells.toList=anC a from rfl,hl];exact⟨_,rfl⟩
def Ky (a:An):Prop:=a.c.1.length<=maxLen/\a.c.2.length<=maxLen/\(Lit.int .i64 a.t).wf=true/\(Lit.int .i64 a.q).wf=true
theorem dI {a b:An} (h:(Value.agg (anA a))=.agg (anA b)):a=b:=by
 obtain⟨⟨a1,a2⟩,a3,a4⟩:=a;obtain⟨⟨b1,b2⟩,b3,b4⟩:=b;simp only[anA,Value.agg.injEq,Array.mk.injEq,List.cons.injEq,Value.string.injEq,ByteArray.mk.injEq,Value.int.injEq] at h;obtain⟨Z,M,⟨_,O⟩,⟨_,h4⟩,_⟩:=h;subst Z M O h4
 rfl
def DG (w:World) (b n:Nat) (S:List An):Prop:=∃D:DataW Unit,w.ownsMap Tryz.prog 47 (plainElem Tryz.prog 4) b n D/\∀kl,(∀a∈S,keyOf Tryz.prog 47 (.agg (anA a))≠some kl)->∀z,D.atKey kl z=z
theorem DG.made (w:World):DG (w.alloc (.map #[] 0)) w.heap.size 0 []:=⟨_,World.ownsMap_made _ _ _ _,fun kl _ z=>rfl⟩
theorem DG.chg {w w':World} {b n:Nat} {S:List An} {T:Nat->Prop} (h:DG w b n S) (Z:Chg T w w') (hn:¬T b):DG w' b n S:=by
 obtain⟨D,⟨es,clock,M,F,hs,hD⟩,O⟩:=h;exact⟨D,⟨es,clock,(Z.block b (Array.getElem?_eq_some_iff.1 M).1 hn).trans M,F,hs,hD⟩,O⟩
theorem DG.below {w w':World} {b n:Nat} {S:List An} (h:DG w b n S) (M:Below w.heap.size w w'):DG w' b n S:=h.chg (T:=fun _=>False) (Chg.of_below M) (fun x=>x)
theorem DG.more {w:World} {b n n':Nat} {S:List An} (h:DG w b n S) (Z:n<=n'):DG w b n' S:=by
 obtain⟨D,O,M⟩:=h;exact⟨D,O.mono Z,M⟩
theorem DG.lt {w:World} {b n:Nat} {S:List An} (h:DG w b n S):b<w.heap.size:=by
 obtain⟨D,M,_⟩:=h;exact M.lt
theorem UC (w:World):(zeroValue 4).run Tryz.prog w=.ok (.bool false) w:=by kernel_rfl
theorem Ke {v:Value} {z:DataW Unit×List MemPlace} (h:plainElem Tryz.prog 4 v=some z):∃x,v=.bool x/\z=(.lit (.bool x),[]):=by
 unfold plainElem at h;rw[Tryz.underlying4] at h;cases v<;>simp at h
 exact⟨_,rfl,h.symm⟩
theorem DG.look {w:World} {b n:Nat} {S:List An} (h:DG w b n S) {a:An} (Z:Ky a) (hS:∀x∈S,Ky x) (hn:¬a∈S):(Instr.lookup 26 (.map (some b)) (.agg (anA a)) false).run Tryz.prog w=.ok (.bool false) w:=by
 obtain⟨D,h1,h2⟩:=h;obtain⟨kl,hk⟩:=Yt a Z.1 Z.2.1 Z.2.2.1 Z.2.2.2;obtain⟨v,ps,O,hv⟩:=h1.lookup UB Tryz.underlying26 (UC w) (plainElem_bool Tryz.underlying4 false) hk;rw[h2 kl (fun x M av=>hn (by rw[show a=x from dI (UB.inj hk av)];exact M))] at hv;obtain⟨x,rfl,M⟩:=Ke hv;injection M with M _;injection M with M;injection M with M;subst M;exact O
theorem DG.put {w:World} {b n:Nat} {S:List An} (h:DG w b n S) {a:An} (ha:Ky a) (hn:n<maxLen):∃w',(Instr.mapUpdate 26 (.map (some b)) (.agg (anA a)) (.bool true)).run Tryz.prog w=.ok () w'/\DG w' b (n+1) (a :: S)/\w.grownBy w' (some b):=by
 obtain⟨D,h1,h2⟩:=h;obtain⟨kl,hk⟩:=Yt a ha.1 ha.2.1 ha.2.2.1 ha.2.2.2;obtain⟨w',O,k1,k2⟩:=h1.update UB Tryz.underlying26 hn hk (plainElem_bool Tryz.underlying4 true);refine⟨w',O,⟨_,k1,fun M Z z=>?_⟩,k2⟩;have av:M≠kl:=fun e=>Z a (by simp) (e▸hk)
 rw[Maps.atKey_put_other av];exact h2 M (fun x hx=>Z x (by simp [hx])) z
theorem UD {w:World} {ops:Array Oper} {rest:List Oper} {o:Oper} {a:Act} {Q:Exit->Act->World->Prop} (hg:o.guard=none) (m x v:Operand) (Z:o.op=Op.mapUpdate 26 m x v) (b n:Nat) (S:List An) (y:An) (hm:a.eval m=.map (some b)) (hx:a.eval x=.agg (anA y)) (hv:a.eval v=.bool true)
  (h:DG w b n S) (hy:Ky y) (hn:n<maxLen) (hK:∀w',DG w' b (n+1) (y :: S)->w.grownBy w' (some b)->wpList Tryz.prog ops Q rest (a.put o.dst undef) w'):wpList Tryz.prog ops Q (o :: rest) a w:=by
 refine wpList_plain hg fun K' O=>?_
 obtain⟨w',M,r1,r2⟩:=h.put hy hn;unfold Oper.wp;simp only[execOp,Z,hm,hx,hv,M,Sem.run_bind,Result.andThen_ok,Sem.run_pure];exact O _ _ (hK w' r1 r2)
end Rp
end
end Go.Proofs.YthkdjblnmkkcfaaGreat
