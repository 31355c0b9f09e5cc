import Derived.Test.YtfcjeebnkigeaaaGreatZKdcFirst4
set_option maxHeartbeats 25600000
set_option maxRecDepth 100000
set_option linter.unusedVariables false
set_option linter.unusedSimpArgs false
namespace Go.Proofs.YtfcjeebnkigeaaaGreat
section
namespace Rt
open Nm
abbrev Pr:=L×L
structure Pa where
 f:L
 t:L
 v:List L
structure Tp where
 R:List L
 K:List Pr
 P:List Pa
def kl (K:List Pr) (i:Nat):Pr:=K.getD i ([],[])
def al (P:List Pa) (i:Nat):Pa:=P.getD i ⟨[],[],[]⟩
theorem Ft {K:List Pr} {i:Nat} (h:i<K.length):kl K i=K[i]:=by simp [kl,h]
theorem Jh {P:List Pa} {i:Nat} (h:i<P.length):al P i=P[i]:=by simp [al,h]
theorem UA {K:List Pr} {i:Nat} (h:i<K.length):kl K i∈K:=by rw[Ft h];exact List.getElem_mem h
theorem Xj {K:List Pr} {x:Pr} (h:x∈K):∃i,i<K.length∧kl K i=x:=by
 obtain⟨i,hi,e⟩:=List.getElem_of_mem h;exact⟨i,hi,by rw[Ft hi];exact e⟩
theorem UB {P:List Pa} {i:Nat} (h:i<P.length):al P i∈P:=by rw[Jh h];exact List.getElem_mem h
section
variable {α:Type}
theorem take_succ {l:List α} {i:Nat} (h:i<l.length):l.take (i+1)=l.take i++[l[i]]:=List.take_succ_eq_append_getElem h
theorem CS {l:List α} {i:Nat} (h:i<l.length):(l.take (i+1)).Nodup↔(l.take i).Nodup∧l[i]∉l.take i:=by
 rw[take_succ h,List.nodup_append];constructor
 ·rintro⟨h1,_,h3⟩
  exact⟨h1,fun hm=>h3 _ hm _ (by simp) rfl⟩
 ·rintro⟨h1,h2⟩
  refine⟨h1,by simp,fun a ha b hb=>?_⟩;rw[List.mem_singleton] at hb;subst hb;rintro rfl;exact h2 ha
theorem Fj {l:List α} {i:Nat} (h:l.Nodup):(l.take i).Nodup:=h.sublist (List.take_sublist _ _)
theorem all_succ {l:List α} {p:α→Bool} {i:Nat} (h:i<l.length):(l.take (i+1)).all p=((l.take i).all p&&p l[i]):=by
 rw[take_succ h,List.all_append,List.all_cons,List.all_nil,Bool.and_true]
theorem all_false {l:List α} {p:α→Bool} {i:Nat} (h:i<l.length) (hp:p l[i]=false):l.all p=false:=by
 cases q:l.all p with
 |false=>rfl
 |true=>rw[List.all_eq_true] at q;rw[q _ (List.getElem_mem h)] at hp;cases hp
theorem CG {l:List α} {p:α→Bool} {i:Nat} (h:l.length≤i) (hp:(l.take i).all p=true):l.all p=true:=by
 rwa [List.take_of_length_le h] at hp
end
def Bo (R:List L):Bool:=R.all isL&&decide R.Nodup
def Cl (R:List L) (p:Pr):Bool:=decide (p.1≠p.2)&&(decide (p.1∈R)&&decide (p.2∈R))
def Cj (K:List Pr) (R:List L):Bool:=K.all (Cl R)&&decide K.Nodup
def onB (R:List L) (p:Pa) (r:L):Bool:=decide (r≠p.f)&&(decide (r≠p.t)&&decide (r∈R))
def viaB (R:List L) (p:Pa):Bool:=decide (p.v.length≤4)&&(p.v.all (onB R p)&&decide p.v.Nodup)
def DD (P:List Pa):List Pr:=P.map fun p=>(p.f,p.t)
def Fz (P:List Pa) (R:List L):Bool:=P.all (viaB R)&&Cj (DD P) R
def isT (T:Tp):Bool:=(decide (1≤T.R.length)&&decide (T.R.length≤6))&&((decide (T.K.length≤20)&&decide (T.P.length≤8))&&(Bo T.R&&(Cj T.K T.R&&Fz T.P T.R)))
def Ed (R:List L) (p:Pa):Bool:=Cl R (p.f,p.t)&&viaB R p
theorem JV (P:List Pa) (R:List L):Fz P R=(P.all (Ed R)&&decide (DD P).Nodup):=by
 rw[Fz,Cj,←Bool.and_assoc]
 congr 1
 induction P with
 |nil=>rfl
 |cons a t ih=>
  simp only[List.all_cons,DD,List.map_cons,Ed] at ih⊢;rw[←ih];cases viaB R a<;>cases Cl R (a.f,a.t)<;>simp
def isP (a b:L) (p:Pa):Bool:=decide (p.f=a)&&decide (p.t=b)
def LY (T:Tp) (a b:L):Nat:=T.P.findIdx (isP a b)
def laidB (T:Tp) (a b:L):Bool:=decide (LY T a b<T.P.length)
def vL (T:Tp) (a b:L):List L:=(al T.P (LY T a b)).v
theorem VC {T:Tp} {a b:L} {i:Nat} (hi:i<T.P.length) (h:isP a b (al T.P i)=true) (hn:∀k,k<i→isP a b (al T.P k)=false):LY T a b=i:=by
 rcases Nat.lt_trichotomy (LY T a b) i with g | g | g
 ·have h1:=List.findIdx_getElem (p:=isP a b) (xs:=T.P) (w:=Nat.lt_trans g hi)
  have h2:=hn _ g;rw[Jh (Nat.lt_trans g hi)] at h2;exact absurd (h1.symm.trans h2) (by simp)
 ·exact g
 ·have h1:=List.not_of_lt_findIdx g
  rw[Jh hi] at h;simp [h] at h1
theorem Qq {T:Tp} {a b:L} (hn:∀k,k<T.P.length→isP a b (al T.P k)=false):LY T a b=T.P.length:=by
 have h1:LY T a b≤T.P.length:=List.findIdx_le_length;rcases Nat.lt_or_ge (LY T a b) T.P.length with g | g
 ·have h2:=List.findIdx_getElem (p:=isP a b) (xs:=T.P) (w:=g)
  have h3:=hn _ g;rw[Jh g] at h3;exact absurd (h2.symm.trans h3) (by simp)
 ·omega
end Rt
end
section
namespace Rt
open Go.RowKit Af Nm
def stp (p:Pr):Value:=.agg #[st p.1,st p.2]
def SlV (w:World) (B:Nat) (v:Value) (ls:List L):Prop:=∃A c,v = .slice A ls.length c∧ls.length≤c∧Rd w B A (strs ls)
def RdP (w:World) (B:Nat) (A:Option Addr) (K:List Pr):Prop:=
 K = []∨∃b o,A=some ⟨b,o,none⟩∧b<B∧∀i,i<K.length→w.cell? ⟨b,o+i*2,none⟩=some (.string ⟨(kl K i).1.toArray⟩)∧w.cell? ⟨b,o+i*2+1,none⟩=some (.string ⟨(kl K i).2.toArray⟩)
def SlP (w:World) (B:Nat) (v:Value) (K:List Pr):Prop:=∃A c,v = .slice A K.length c∧K.length≤c∧RdP w B A K
def RdA (w:World) (B:Nat) (A:Option Addr) (P:List Pa):Prop:=
 P = []∨∃b o,A=some ⟨b,o,none⟩∧b<B∧∀i,i<P.length→w.cell? ⟨b,o+i*3,none⟩=some (.string ⟨(al P i).f.toArray⟩)∧w.cell? ⟨b,o+i*3+1,none⟩=some (.string ⟨(al P i).t.toArray⟩)∧
  ∃v,w.cell? ⟨b,o+i*3+2,none⟩=some v∧SlV w B v (al P i).v
def SlA (w:World) (B:Nat) (v:Value) (P:List Pa):Prop:=∃A c,v = .slice A P.length c∧P.length≤c∧RdA w B A P
def TpV (w:World) (B:Nat) (v:Value) (T:Tp):Prop:=∃v1 v2 v3,v = .agg #[v1,v2,v3]∧SlV w B v1 T.R∧SlP w B v2 T.K∧SlA w B v3 T.P
def PaV (w:World) (B:Nat) (v:Value) (p:Pa):Prop:=∃u,v = .agg #[.string ⟨p.f.toArray⟩,.string ⟨p.t.toArray⟩,u]∧SlV w B u p.v
section
variable {w w':World} {B B':Nat} {A:Option Addr} {v:Value} {ls:List L} {K:List Pr} {P:List Pa} {T:Tp} {p:Pa}
theorem SlV.keep (h:SlV w B v ls) (hk:∀b o,b<B→w'.cell? ⟨b,o,none⟩=w.cell? ⟨b,o,none⟩):SlV w' B v ls:=by
 obtain⟨A,c,h1,h2,h3⟩:=h;exact⟨A,c,h1,h2,h3.keep hk⟩
theorem SlV.more (h:SlV w B v ls) (hB:B≤B'):SlV w B' v ls:=by
 obtain⟨A,c,h1,h2,h3⟩:=h;exact⟨A,c,h1,h2,h3.more hB⟩
theorem RdP.keep (h:RdP w B A K) (hk:∀b o,b<B→w'.cell? ⟨b,o,none⟩=w.cell? ⟨b,o,none⟩):RdP w' B A K:=by
 rcases h with h | ⟨b,o,h1,h2,h3⟩
 ·exact .inl h
 ·exact .inr ⟨b,o,h1,h2,fun i hi=>⟨(hk _ _ h2).trans (h3 i hi).1,(hk _ _ h2).trans (h3 i hi).2⟩⟩
theorem RdP.more (h:RdP w B A K) (hB:B≤B'):RdP w B' A K:=by
 rcases h with h | ⟨b,o,h1,h2,h3⟩
 ·exact .inl h
 ·exact .inr ⟨b,o,h1,by omega,h3⟩
theorem SlP.keep (h:SlP w B v K) (hk:∀b o,b<B→w'.cell? ⟨b,o,none⟩=w.cell? ⟨b,o,none⟩):SlP w' B v K:=by
 obtain⟨A,c,h1,h2,h3⟩:=h;exact⟨A,c,h1,h2,h3.keep hk⟩
theorem SlP.more (h:SlP w B v K) (hB:B≤B'):SlP w B' v K:=by
 obtain⟨A,c,h1,h2,h3⟩:=h;exact⟨A,c,h1,h2,h3.more hB⟩
theorem RdA.keep (h:RdA w B A P) (hk:∀b o,b<B→w'.cell? ⟨b,o,none⟩=w.cell? ⟨b,o,none⟩):RdA w' B A P:=by
 rcases h with h | ⟨b,o,h1,h2,h3⟩
 ·exact .inl h
 ·refine .inr ⟨b,o,h1,h2,fun i hi=>⟨(hk _ _ h2).trans (h3 i hi).1,(hk _ _ h2).trans (h3 i hi).2.1,?_⟩⟩
  obtain⟨v,h4,h5⟩:=(h3 i hi).2.2;exact⟨v,(hk _ _ h2).trans h4,h5.keep hk⟩
theorem RdA.more (h:RdA w B A P) (hB:B≤B'):RdA w B' A P:=by
 rcases h with h | ⟨b,o,h1,h2,h3⟩
 ·exact .inl h
 ·refine .inr ⟨b,o,h1,by omega,fun i hi=>⟨(h3 i hi).1,(h3 i hi).2.1,?_⟩⟩
  obtain⟨v,h4,h5⟩:=(h3 i hi).2.2;exact⟨v,h4,h5.more hB⟩
theorem SlA.keep (h:SlA w B v P) (hk:∀b o,b<B→w'.cell? ⟨b,o,none⟩=w.cell? ⟨b,o,none⟩):SlA w' B v P:=by
 obtain⟨A,c,h1,h2,h3⟩:=h;exact⟨A,c,h1,h2,h3.keep hk⟩
theorem SlA.more (h:SlA w B v P) (hB:B≤B'):SlA w B' v P:=by
 obtain⟨A,c,h1,h2,h3⟩:=h;exact⟨A,c,h1,h2,h3.more hB⟩
theorem TpV.keep (h:TpV w B v T) (hk:∀b o,b<B→w'.cell? ⟨b,o,none⟩=w.cell? ⟨b,o,none⟩):TpV w' B v T:=by
 obtain⟨v1,v2,v3,h1,h2,h3,h4⟩:=h;exact⟨v1,v2,v3,h1,h2.keep hk,h3.keep hk,h4.keep hk⟩
theorem TpV.more (h:TpV w B v T) (hB:B≤B'):TpV w B' v T:=by
 obtain⟨v1,v2,v3,h1,h2,h3,h4⟩:=h;exact⟨v1,v2,v3,h1,h2.more hB,h3.more hB,h4.more hB⟩
theorem PaV.keep (h:PaV w B v p) (hk:∀b o,b<B→w'.cell? ⟨b,o,none⟩=w.cell? ⟨b,o,none⟩):PaV w' B v p:=by
 obtain⟨u,h1,h2⟩:=h;exact⟨u,h1,h2.keep hk⟩
theorem PaV.more (h:PaV w B v p) (hB:B≤B'):PaV w B' v p:=by
 obtain⟨u,h1,h2⟩:=h;exact⟨u,h1,h2.more hB⟩
theorem SlV.below (h:SlV w B v ls) (hb:Below B w w'):SlV w' B v ls:=h.keep fun _ _ hp=>hb.cell hp
theorem RdP.below (h:RdP w B A K) (hb:Below B w w'):RdP w' B A K:=h.keep fun _ _ hp=>hb.cell hp
theorem SlP.below (h:SlP w B v K) (hb:Below B w w'):SlP w' B v K:=h.keep fun _ _ hp=>hb.cell hp
theorem RdA.below (h:RdA w B A P) (hb:Below B w w'):RdA w' B A P:=h.keep fun _ _ hp=>hb.cell hp
theorem SlA.below (h:SlA w B v P) (hb:Below B w w'):SlA w' B v P:=h.keep fun _ _ hp=>hb.cell hp
theorem TpV.below (h:TpV w B v T) (hb:Below B w w'):TpV w' B v T:=h.keep fun _ _ hp=>hb.cell hp
theorem PaV.below (h:PaV w B v p) (hb:Below B w w'):PaV w' B v p:=h.keep fun _ _ hp=>hb.cell hp
theorem TpV.on (h:TpV w w.heap.size v T) (hb:Below w.heap.size w w'):TpV w' w'.heap.size v T:=(h.below hb).more hb.size
theorem SlV.on (h:SlV w w.heap.size v ls) (hb:Below w.heap.size w w'):SlV w' w'.heap.size v ls:=(h.below hb).more hb.size
theorem SlP.on (h:SlP w w.heap.size v K) (hb:Below w.heap.size w w'):SlP w' w'.heap.size v K:=(h.below hb).more hb.size
theorem SlA.on (h:SlA w w.heap.size v P) (hb:Below w.heap.size w w'):SlA w' w'.heap.size v P:=(h.below hb).more hb.size
theorem Im {i:Nat} (h:Rd w B A (strs ls)) (hi:i≤ls.length):Rd w B A (strs (ls.take i)):=by
 rcases h with h | ⟨b,o,h1,h2,h3⟩
 ·left
  have:ls = []:=List.map_eq_nil_iff.1 h;subst this;simp [strs]
 ·refine .inr ⟨b,o,h1,h2,fun j u hu=>h3 j u ?_⟩
  simp only[strs,List.map_take,List.getElem?_take] at hu⊢
  split at hu
  ·exact hu
  ·cases hu
theorem VD {i j:Nat} (h:j<i) (h2:j<K.length):kl (K.take i) j=kl K j:=by
 rw[Ft (by simp;omega),Ft h2];simp
theorem Tv {i:Nat} (h:RdP w B A K):RdP w B A (K.take i):=by
 rcases h with h | ⟨b,o,h1,h2,h3⟩
 ·subst h;exact .inl (by simp)
 ·refine .inr ⟨b,o,h1,h2,fun j hj=>?_⟩
  simp only[List.length_take] at hj;rw[VD (by omega) (by omega)];exact h3 j (by omega)
theorem KJ {i:Nat} (h:RdP w B A K) (hi:i<K.length):∃b o,A=some ⟨b,o,none⟩∧b<B∧w.cell? ⟨b,o+i*2,none⟩=some (.string ⟨(kl K i).1.toArray⟩)∧w.cell? ⟨b,o+i*2+1,none⟩=some (.string ⟨(kl K i).2.toArray⟩):=by
 rcases h with h | ⟨b,o,h1,h2,h3⟩
 ·subst h;simp at hi
 ·exact⟨b,o,h1,h2,h3 i hi⟩
theorem Nt {i:Nat} (h:RdA w B A P) (hi:i<P.length):∃b o,A=some ⟨b,o,none⟩∧b<B∧w.cell? ⟨b,o+i*3,none⟩=some (.string ⟨(al P i).f.toArray⟩)∧w.cell? ⟨b,o+i*3+1,none⟩=some (.string ⟨(al P i).t.toArray⟩)∧
  ∃v,w.cell? ⟨b,o+i*3+2,none⟩=some v∧SlV w B v (al P i).v:=by
 rcases h with h | ⟨b,o,h1,h2,h3⟩
 ·subst h;simp at hi
 ·exact⟨b,o,h1,h2,h3 i hi⟩
end
end Rt
end
section
namespace Rt
open Go.RowKit Af Nm
def ixP (x:Pr) (K:List Pr):Int:=if x∈K then ((K.findIdx fun y=>decide (y=x):Nat):Int) else -1
theorem Qr {K:List Pr} {x:Pr} {i:Nat} (hi:i<K.length) (h:kl K i=x) (hn:∀k,k<i→kl K k≠x):ixP x K=(i:Int):=by
 have hm:x∈K:=by rw[←h];exact UA hi
 rw[ixP,if_pos hm]
 congr 1
 rcases Nat.lt_trichotomy (K.findIdx fun y=>decide (y=x)) i with g | g | g
 ·have:=List.findIdx_getElem (p:=fun y=>decide (y=x)) (w:=(by omega:(K.findIdx fun y=>decide (y=x))<K.length))
  exact absurd (by rw[Ft (by omega)];simpa using this) (hn _ g)
 ·exact g
 ·have:=List.not_of_lt_findIdx g
  rw[Ft hi] at h;simp [h] at this
theorem Tw {K:List Pr} {x:Pr} (hn:∀k,k<K.length→kl K k≠x):ixP x K = -1:=by
 rw[ixP,if_neg];intro hm;obtain⟨i,hi,e⟩:=Xj hm;exact hn i hi e
theorem Xk (x:Pr) (K:List Pr):decide (0≤ixP x K)=decide (x∈K):=by
 rw[ixP]
 by_cases h:x∈K
 ·rw[if_pos h];simp [h]
 ·rw[if_neg h];simp [h]
theorem Hm (xs:Array Value) (i:Nat) (u:L) (h:xs[i]? = some (.string ⟨u.toArray⟩)) (w:World):(part 9 xs (i*Tryz.prog.cellsOf 9)).run Tryz.prog w = .ok (.string ⟨u.toArray⟩) w:=by
 have c9:Tryz.prog.cellsOf 9=1:=by kernel_rfl
 have u9:=Tryz.underlying9;rw[c9,Nat.mul_one];unfold part
 go_simp
theorem VE (a b:L) (w:World):(Op.equalIn 9999 9 (.string ⟨a.toArray⟩) (.string ⟨b.toArray⟩)).run Tryz.prog w = .ok (decide (a=b)) w:=by
 rw[show(9999:Nat)=9998+1 from rfl,run_equalIn_string w 9998 _ _ _ Tryz.underlying9]
 congr 1
 rw[ByteArray.toList_eq,ByteArray.toList_eq]
 by_cases h:a=b<;>simp [h]
theorem Nu (x y:Pr) (w:World):(Op.equalIn 10000 196 (.agg #[.string ⟨x.1.toArray⟩,.string ⟨x.2.toArray⟩]) (.agg #[.string ⟨y.1.toArray⟩,.string ⟨y.2.toArray⟩])).run Tryz.prog w = .ok (decide (x=y)) w:=by
 obtain⟨i0,hi0,_,_,_⟩:=info_parts JK;rw[run_equalIn_array w 9999 _ _ Tryz.underlying196 hi0];show(Op.eqItems 9999 9 (Tryz.prog.cellsOf 9) _ _ [0,1]).run Tryz.prog w=_;have p1:=Hm #[.string ⟨x.1.toArray⟩,.string ⟨x.2.toArray⟩] 0 x.1 rfl;have p2:=Hm #[.string ⟨x.1.toArray⟩,.string ⟨x.2.toArray⟩] 1 x.2 rfl;have p3:=Hm #[.string ⟨y.1.toArray⟩,.string ⟨y.2.toArray⟩] 0 y.1 rfl;have p4:=Hm #[.string ⟨y.1.toArray⟩,.string ⟨y.2.toArray⟩] 1 y.2 rfl;obtain⟨a,b⟩:=x;obtain⟨c,d⟩:=y;simp only at p1 p2 p3 p4;simp only[Op.eqItems,Sem.run_bind,p1,p2,p3,p4,Result.andThen_ok,VE,Sem.run_ite,Sem.run_pure]
 by_cases h1:a=c<;>by_cases h2:b=d<;>simp [h1,h2]
theorem Qs (x y:Pr) (h:x=y):∀w,(Op.equalIn 10000 196 (.agg #[.string ⟨x.1.toArray⟩,.string ⟨x.2.toArray⟩]) (.agg #[.string ⟨y.1.toArray⟩,.string ⟨y.2.toArray⟩])).run Tryz.prog w = .ok true w:=fun w=>by rw[Nu,decide_eq_true h]
theorem UC (x y:Pr) (h:x≠y):∀w,(Op.equalIn 10000 196 (.agg #[.string ⟨x.1.toArray⟩,.string ⟨x.2.toArray⟩]) (.agg #[.string ⟨y.1.toArray⟩,.string ⟨y.2.toArray⟩])).run Tryz.prog w = .ok false w:=fun w=>by rw[Nu,decide_eq_false h]
theorem OM (K:List Pr) (A:Option Addr) (c B:Nat) (x:Pr) (w:World) (hl:K.length≤1000000) (hr:RdP w B A K) (hB:B≤w.heap.size) :
  Calls Tryz.prog 270 #[.slice A K.length c,stp x] w fun e w'=>e = .returned (.int .i64 (ixP x K))∧Below w.heap.size w w':=by
 have HR:=I hr;clear hr;obtain⟨n,en⟩:∃n,n=K.length:=⟨_,rfl⟩;rw[←en] at hl⊢;have EN:=I en;clear en;rw[stp,st,st];go_enter Tryz.func270,Tryz.ntmps270
 go_wp2
 have HK:=I (Blk.new w 196 #[.string ⟨x.1.toArray⟩,.string ⟨x.2.toArray⟩]);obtain⟨W,eW⟩:∃W,W=w.alloc (.cells #[.string ⟨x.1.toArray⟩,.string ⟨x.2.toArray⟩] 196):=⟨_,rfl⟩;rw[←eW] at HK⊢;have HB:=I (show Below w.heap.size w W by rw[eW];exact(Below.refl _ _).alloc (Nat.le_refl _) _);have HG:=I (show w.heap.size≤W.heap.size from HB.o.size);obtain⟨g,eg⟩:∃g,g=w.heap.size:=⟨_,rfl⟩;rw[←eg] at HK HB hB HG⊢;replace HR:=I ((HR.o.below (HB.o.mono hB)));have EG:=I eg;clear eW eg hB
 go_loopw [8] (fun iv wr=>∃i:Nat,i≤n∧iv = .int .i64 (i:Int)∧(∀k,k<i→kl K k≠x)∧AM W wr) (fun iv _=>n - (intOf iv).toNat)
 case atStart=>exact⟨0,Nat.zero_le _,rfl,fun k h=>absurd h (Nat.not_lt_zero k),AM.refl _⟩
 case round=>
  obtain⟨i,hi,rfl,hn,hd⟩:=hrel;have HN:=I hn;clear hn;have hrr:RdP wr B A K:=HR.o.keep fun b o _=>by obtain⟨m,rfl⟩:=hd;rfl
  have hk0:wr.cell? ⟨g,0,none⟩=some (.string ⟨x.1.toArray⟩):=by obtain⟨m,rfl⟩:=hd;exact HK.o.cell 0
  have hk1:wr.cell? ⟨g,1,none⟩=some (.string ⟨x.2.toArray⟩):=by obtain⟨m,rfl⟩:=hd;exact HK.o.cell 1
  have HDR:=I hd;clear hd
  by_cases hlt:i<n
  ·have e1:(i:Int)<(n:Int):=by omega
   have e2:(0:Int)≤(i:Int):=by omega
   obtain⟨b,o,rfl,_,h1,h2⟩:=KJ hrr (i:=i) (by rw[←EN.o];exact hlt)
   by_cases hx:kl K i=x
   ·have t1:=Qs x (kl K i) hx.symm
    have E:=I (Qr (by rw[←EN.o];exact hlt) hx HN.o);clear hx
    go_wp2
    go_quiet (fail)
    go_wp2
    go_ret;exact⟨by rw[E.o];rfl,by rw[←EG.o];exact HB.o.trans ((HDR.o.trans ⟨_,rfl⟩).below.mono HG.o)⟩
   ·have t1:=UC x (kl K i) fun g=>hx g.symm
    have HX:=I hx;clear hx
    go_wp2
    go_quiet (fail)
    go_wp2
    go_roundw
    case rel=>exact⟨i+1,by omega,by go_num,fun k hk=>by
     by_cases q:k=i
     ·rw[q];exact HX.o
     ·exact HN.o k (by omega),HDR.o.trans ⟨_,rfl⟩⟩
    case measure=>simp [intOf];omega
  ·have e1:¬(i:Int)<(n:Int):=by omega
   have E:=I (Tw (K:=K) (x:=x) fun k hk=>HN.o k (by have:=EN.o;omega))
   go_wp2
   go_ret;exact⟨by rw[E.o];rfl,by rw[←EG.o];exact HB.o.trans (HDR.o.below.mono HG.o)⟩
theorem JW (K:List Pr) (A:Option Addr) (c B:Nat) (x:Pr) (w:World) (hl:K.length≤1000000) (hr:RdP w B A K) (hB:B≤w.heap.size) :
  Calls Tryz.prog 237 #[.slice A K.length c,stp x] w fun e w'=>e = .returned (.bool (decide (x∈K)))∧Below w.heap.size w w':=by
 have hb:=(Below.refl w.heap.size w).alloc (Nat.le_refl _) (.cells #[.string ⟨x.1.toArray⟩,.string ⟨x.2.toArray⟩] 196);have c1:=OM K A c B x _ hl (hr.below (hb.mono hB)) (Nat.le_trans hB hb.size);have H:=I hb;clear hb;have E:=I (Xk x K);obtain⟨z,ez⟩:∃z,z=ixP x K:=⟨_,rfl⟩;rw[←ez] at c1;have EZ:=I ez;clear ez hr;rw[stp,st,st] at c1⊢;go_enter Tryz.func237,Tryz.ntmps237
 go_wp2_with (go_at_call 270;refine Calls.mono c1 ?_;rintro e w1 ⟨rfl,hb⟩;replace H:=H.t hb;clear hb)
 go_ret;exact⟨by rw[←E.o,←EZ.o];rfl,H.o⟩
theorem Nv (ls:List L) (A:Option Addr) (c B:Nat) (w:World) (hl:ls.length≤1000000) (hc:ls.length≤c) (hr:Rd w B A (strs ls)) :
  Calls Tryz.prog 209 #[.slice A ls.length c] w fun e w'=>e = .returned (.bool (decide ls.Nodup))∧w=w':=by
 have HR:=I hr;clear hr;have C1:=I (fun(i:Nat) (hi:i<ls.length) w1 (h:Rd w1 B A (strs ls))=>Tr.Dg (ls.take i) A c B (pl ls i) w1 (by simp;omega) (Im h (by omega)));obtain⟨n,en⟩:∃n,n=ls.length:=⟨_,rfl⟩;rw[←en] at hl hc⊢;have EN:=I en;clear en;go_enter Tryz.func209,Tryz.ntmps209
 go_wp2
 go_loop [7] (fun iv=>∃i:Nat,i≤n∧iv = .int .i64 (i:Int)∧(ls.take i).Nodup) (fun iv=>n - (intOf iv).toNat)
 case atStart=>exact⟨0,Nat.zero_le _,rfl,by simp⟩
 case round=>
  obtain⟨i,hi,rfl,hn⟩:=hrel;have HN:=I hn;clear hn
  by_cases hlt:i<n
  ·have e1:(i:Int)<(n:Int):=by omega
   have e2:(0:Int)≤(i:Int):=by omega
   have e3:(i:Int)≤(c:Int):=by omega
   have him:i<ls.length:=by rw[←EN.o];exact hlt
   have c1:=C1.o i him w HR.o;have hlen:(ls.take i).length=i:=by simp;omega
   rw[hlen] at c1;have hs:=CS him;rw[←Ej him] at hs;obtain⟨b,o,rfl,_,h1⟩:=Ek HR.o him
   by_cases hx:pl ls i∈ls.take i
   ·rw[decide_eq_true hx] at c1
    have E:=I (show decide ls.Nodup=false by
     rw[decide_eq_false_iff_not];intro hn;exact(hs.1 (Fj hn)).2 hx)
    clear hx hs hlen him
    go_wp2_with (go_at_call 93;refine Calls.mono c1 ?_;rintro e w1 ⟨rfl,rfl⟩;clear c1)
    go_ret;exact⟨by rw[E.o];rfl,rfl⟩
   ·rw[decide_eq_false hx] at c1
    have E:=I (hs.2 ⟨HN.o,hx⟩);clear hx hs hlen him
    go_wp2_with (go_at_call 93;refine Calls.mono c1 ?_;rintro e w1 ⟨rfl,rfl⟩;clear c1)
    go_round
    case rel=>exact⟨i+1,by omega,by go_num,E.o⟩
    case measure=>simp [intOf];omega
  ·have e1:¬(i:Int)<(n:Int):=by omega
   have E:=I (show decide ls.Nodup=true by
    have h:=HN.o;rw[List.take_of_length_le (by have:=EN.o;omega)] at h;exact decide_eq_true h)
   go_wp2
   go_ret;exact⟨by rw[E.o];rfl,rfl⟩
theorem Qt (K:List Pr) (A:Option Addr) (c B:Nat) (w:World) (hl:K.length≤1000000) (hc:K.length≤c) (hr:RdP w B A K) (hB:B≤w.heap.size) :
  Calls Tryz.prog 210 #[.slice A K.length c] w fun e w'=>e = .returned (.bool (decide K.Nodup))∧Below w.heap.size w w':=by
 obtain⟨N,eN⟩:∃N,N=w.heap.size:=⟨_,rfl⟩;rw[←eN] at hB⊢;have HB0:=I (show Below N w w from Below.refl _ _);have EN0:=I eN;clear eN;have HSZ:=I (show ∀w1:World,Below N w w1→N≤w1.heap.size from fun w1 h=>by have:=h.size;have:=EN0.o;omega);have HR:=I hr;clear hr;have C1:=I (fun(i:Nat) (hi:i<K.length) w1 (h:RdP w1 B A K) (hB1:B≤w1.heap.size)=>JW (K.take i) A c B (kl K i) w1 (by simp;omega) (Tv h) hB1);obtain⟨n,en⟩:∃n,n=K.length:=⟨_,rfl⟩;rw[←en] at hl hc⊢;have EN:=I en;clear en;go_enter Tryz.func210,Tryz.ntmps210
 go_wp2
 go_loopw [7] (fun iv wr=>∃i:Nat,i≤n∧iv = .int .i64 (i:Int)∧(K.take i).Nodup∧Below N w wr) (fun iv _=>n - (intOf iv).toNat)
 case atStart=>exact⟨0,Nat.zero_le _,rfl,by simp,HB0.o⟩
 case round=>
  obtain⟨i,hi,rfl,hn,hb⟩:=hrel;have HN:=I hn;clear hn;have HB:=I hb;clear hb
  by_cases hlt:i<n
  ·have e1:(i:Int)<(n:Int):=by omega
   have e2:(0:Int)≤(i:Int):=by omega
   have e3:(i:Int)≤(c:Int):=by omega
   have him:i<K.length:=by rw[←EN.o];exact hlt
   have hs:=CS him;rw[←Ft him] at hs;have hrw:=HR.o.below (HB.o.mono hB);obtain⟨b,o,rfl,_,h1,h2⟩:=KJ hrw him;have hlen:(K.take i).length=i:=by simp;omega
   have HK:=I (show Blk (wr.alloc (.cells #[.string ⟨(kl K i).1.toArray⟩,.string ⟨(kl K i).2.toArray⟩] 196)).drew wr.heap.size 196 #[.string ⟨(kl K i).1.toArray⟩,.string ⟨(kl K i).2.toArray⟩] from(Blk.new wr 196 _).drewN 1);have H:=I (show Below N w (wr.alloc (.cells #[.string ⟨(kl K i).1.toArray⟩,.string ⟨(kl K i).2.toArray⟩] 196)).drew from below_drewN (HB.o.alloc (by have:=HB.o.size;have:=EN0.o;omega) _) 1);have c1:=C1.o i him _ (HR.o.below (H.o.mono hB)) (Nat.le_trans hB (by have:=H.o.size;have:=EN0.o;omega));rw[hlen] at c1;rw[stp,st,st] at c1
   by_cases hx:kl K i∈K.take i
   ·rw[decide_eq_true hx] at c1
    have E:=I (show decide K.Nodup=false by
     rw[decide_eq_false_iff_not];intro hn;exact(hs.1 (Fj hn)).2 hx)
    clear hx hs hlen him
    go_wp2
    go_region_held3 (fun w'=>w'.cell? ⟨wr.heap.size,0,none⟩=some (.string ⟨(kl K i).1.toArray⟩)∧w'.cell? ⟨wr.heap.size,1,none⟩=some (.string ⟨(kl K i).2.toArray⟩)) (exact⟨HK.o.cell 0,HK.o.cell 1⟩) ((go_at_call 237;refine Calls.mono c1 ?_;rintro e w1 ⟨rfl,hb⟩;clear c1;have H1:=I (H.o.trans (hb.mono (HSZ.o _ H.o)));replace HK:=I (HK.o.below hb);clear hb))
    go_wp2
    go_ret;exact⟨by rw[E.o];rfl,H1.o⟩
   ·rw[decide_eq_false hx] at c1
    have E:=I (hs.2 ⟨HN.o,hx⟩);clear hx hs hlen him
    go_wp2
    go_region_held3 (fun w'=>w'.cell? ⟨wr.heap.size,0,none⟩=some (.string ⟨(kl K i).1.toArray⟩)∧w'.cell? ⟨wr.heap.size,1,none⟩=some (.string ⟨(kl K i).2.toArray⟩)) (exact⟨HK.o.cell 0,HK.o.cell 1⟩) ((go_at_call 237;refine Calls.mono c1 ?_;rintro e w1 ⟨rfl,hb⟩;clear c1;have H1:=I (H.o.trans (hb.mono (HSZ.o _ H.o)));replace HK:=I (HK.o.below hb);clear hb))
    go_wp2
    go_roundw
    case rel=>exact⟨i+1,by omega,by go_num,E.o,H1.o⟩
    case measure=>simp [intOf];omega
  ·have e1:¬(i:Int)<(n:Int):=by omega
   have E:=I (show decide K.Nodup=true by
    have h:=HN.o;rw[List.take_of_length_le (by have:=EN.o;omega)] at h;exact decide_eq_true h)
   go_wp2
   go_ret;exact⟨by rw[E.o];rfl,HB.o⟩
end Rt
end
section
namespace Rt
open Go.RowKit Af Nm
def prs (K:List Pr):List Value:=K.flatMap fun p=>[st p.1,st p.2]
theorem Js (K M:List Pr):prs (K++M)=prs K++prs M:=by simp [prs]
theorem Qu (K:List Pr):∀u∈prs K,u.oneCell'=true:=by
 intro u hu;obtain⟨p,_,h⟩:=List.mem_flatMap.1 hu;rcases List.mem_cons.1 h with h | h
 ·subst h;rfl
 ·rw[List.mem_singleton] at h;subst h;rfl
theorem UD:∀{K:List Pr} {i:Nat},i<K.length→(prs K)[i*2]? = some (st (kl K i).1)∧(prs K)[i*2+1]? = some (st (kl K i).2)
 | [],i,h=>by simp at h
 |a :: t,0,_=>⟨rfl,rfl⟩
 |a :: t,i+1,h=>by
  have:=UD (K:=t) (i:=i) (by simpa using h);have e:prs (a :: t)=st a.1 :: st a.2 :: prs t:=rfl;rw[e,show(i+1)*2=i*2+2 by omega];exact this
theorem KK:(Tryz.prog.info? 196).map (fun i=>(i.zero,i.size,i.bytes))=some (some (.agg #[.string ⟨#[]⟩,.string ⟨#[]⟩]),2,32):=by kernel_rfl
def OwnP (w:World) (base:Nat) (v:Value) (K:List Pr):Prop:=w.ownsRow base 196 2 v K.length (prs K)
theorem OwnP.nil (w:World) (base:Nat):OwnP w base (.slice none 0 0) []:=World.ownsRow_nil w base _ 2
theorem OwnP.below {w w':World} {base:Nat} {v:Value} {K:List Pr} (h:OwnP w base v K) (hb:Below w.heap.size w w'):OwnP w' base v K:=Ff h hb
theorem OwnP.slice {w:World} {base:Nat} {v:Value} {K:List Pr} (h:OwnP w base v K):SlP w w.heap.size v K:=by
 have h':=h;rcases h.2 with⟨h1,h2⟩ | ⟨g,cap,cur,h1,hg,hh,hc,_⟩
 ·have e:K = []:=List.eq_nil_of_length_eq_zero h2
  subst e;exact⟨none,0,h1,Nat.le_refl _,.inl rfl⟩
 ·subst h1
  refine⟨_,cap,rfl,hc,.inr ⟨g,0,rfl,(Array.getElem?_eq_some_iff.1 hh).1,fun i hi=>?_⟩⟩;have h1:=h'.cells (g:=g) rfl;have h2:=UD hi;have a1:=h1 _ _ h2.1;have a2:=h1 _ _ h2.2;rw[addr_add] at a1 a2;rw[Nat.add_assoc];exact⟨a1,a2⟩
theorem OwnP.lt {w:World} {base:Nat} {v:Value} {K:List Pr} (h:OwnP w base v K):∀k,v.ownBlock=some k→base≤k∧k<w.heap.size:=World.ownsRow.lt h
section
variable {w:World} {ops:Array Oper} {rest:List Oper} {o:Oper} {a:Act} {Q:Exit→Act→World→Prop}
theorem Tx (hgd : o.guard = none) (s x : Operand) (ho : o.op = .call { callee := .builtin .append, args := #[s, x], argTypes := #[57, 57] })
    (base:Nat) (v:Value) (K:List Pr) (hs:a.eval s=v) (hown:OwnP w base v K) (p:Pr) (hx:a.eval x = .slice (some ⟨w.heap.size,0,none⟩) 1 1)
    (hl:K.length+1≤1000000) (hb:base≤w.heap.size)
    (h:∀v' w',OwnP w' base v' (K++[p])→Below base w w'→wpList Tryz.prog ops Q rest (a.put o.dst v') w'):wpList Tryz.prog ops Q (o :: rest) a (w.alloc (.cells #[.string ⟨p.1.toArray⟩,.string ⟨p.2.toArray⟩] 196)):=by
  obtain⟨i0,hi0,hz0,hs0,hb0⟩:=info_parts KK;have hb1:Below w.heap.size w (w.alloc (.cells #[.string ⟨p.1.toArray⟩,.string ⟨p.2.toArray⟩] 196)):=(Below.refl _ _).alloc (Nat.le_refl _) _;obtain ⟨v', w', hrun, h2, h3, _, _⟩ := run_append_own_at (P := Tryz.prog) (w.alloc (.cells #[.string ⟨p.1.toArray⟩, .string ⟨p.2.toArray⟩] 196)) base 57 o.type 196 i0 _ 2 32 Tryz.underlying57 hi0 hz0 hs0 hb0 rfl (by omega) v K.length (prs K) (hown.below hb1) ⟨w.heap.size, 0, none⟩ 1 1 (prs [p]) rfl (fun j u hu => by
      rw[addr_add,Nat.zero_add,(Blk.new w 196 _).cell j];have e:prs [p]=#[Value.string ⟨p.1.toArray⟩,.string ⟨p.2.toArray⟩].toList:=rfl;rw[e] at hu
      simpa using hu) (Qu _) (by unfold maxLen;omega) (by omega) (Nat.le_trans hb hb1.size)
  refine wpList_plain hgd fun J hJ=>?_
  unfold Oper.wp execOp;simp only[ho,resolve,invoke,builtin,Sem.run_bind,Sem.run_pure,Result.andThen_ok,List.map_toArray,List.map_cons,List.map_nil,hs,hx,hrun];refine hJ _ _ (h v' w' (by rw[OwnP,List.length_append,Js];exact h2) ?_);exact(hb1.mono hb).grown h3 (Nat.le_trans hb hb1.size) (fun k hk=>(hown.lt k hk).1)
end
end Rt
end
section
namespace Rt
open Go.RowKit Af Nm
theorem ON (ls:List L) (A:Option Addr) (c B:Nat) (w:World) (hl:ls.length≤1000000) (hc:ls.length≤c) (hr:Rd w B A (strs ls)) (hs:∀i,i<ls.length→(pl ls i).length≤1000000000) :
  Calls Tryz.prog 143 #[.slice A ls.length c] w fun e w'=>e = .returned (.bool (Bo ls))∧AM w w':=by
 have HR:=I hr;clear hr;have IS:=I (fun(i:Nat) (h:i<ls.length) w1=>MZ (pl ls i) w1 (hs i h));have C1:=I (fun w1 h=>Nv ls A c B w1 hl hc h);obtain⟨n,en⟩:∃n,n=ls.length:=⟨_,rfl⟩;rw[←en] at hl hc C1⊢;have EN:=I en;clear en hs;have HD:=I (AM.refl w);go_enter Tryz.func143,Tryz.ntmps143
 go_wp2
 go_loopw [7] (fun iv wr=>∃i:Nat,i≤n∧iv = .int .i64 (i:Int)∧(ls.take i).all isL=true∧AM w wr) (fun iv _=>n - (intOf iv).toNat)
 case atStart=>exact⟨0,Nat.zero_le _,rfl,by simp,HD.o⟩
 case round=>
  obtain⟨i,hi,rfl,hn,hd⟩:=hrel;have HN:=I hn;clear hn;have hrr:Rd wr B A (strs ls):=by obtain⟨m,rfl⟩:=hd;exact HR.o.drewN m
  have HDR:=I hd;clear hd
  by_cases hlt:i<n
  ·have e1:(i:Int)<(n:Int):=by omega
   have e2:(0:Int)≤(i:Int):=by omega
   have him:i<ls.length:=by rw[←EN.o];exact hlt
   have c1:=IS.o i him wr;have hal:=all_succ (p:=isL) him;rw[HN.o,Bool.true_and,←Ej him] at hal;obtain⟨b,o,rfl,_,h1⟩:=Ek hrr him;cases hx:isL (pl ls i) with
   |false=>
    rw[hx] at c1;have E:=I (show Bo ls=false by
     rw[Bo,all_false him (by rw[←Ej him];exact hx)];rfl)
    clear hx hal him
    go_wp2_with (go_at_call 149;refine Calls.mono c1 ?_;rintro e w1 ⟨rfl,hd⟩;clear c1;have HD2:=I (HDR.o.trans hd);clear hd)
    go_ret;exact⟨by rw[E.o];rfl,HD2.o⟩
   |true=>
    rw[hx] at c1;have E:=I (hal.trans hx);clear hx hal him
    go_wp2_with (go_at_call 149;refine Calls.mono c1 ?_;rintro e w1 ⟨rfl,hd⟩;clear c1;have HD2:=I (HDR.o.trans hd);clear hd)
    go_roundw
    case rel=>exact⟨i+1,by omega,by go_num,E.o,HD2.o⟩
    case measure=>simp [intOf];omega
  ·have e1:¬(i:Int)<(n:Int):=by omega
   have E:=I (show Bo ls=decide ls.Nodup by
    rw[Bo,CG (by have:=EN.o;omega) HN.o];rfl)
   have c1:=C1.o wr hrr
   go_wp2_with (go_at_call 209;refine Calls.mono c1 ?_;rintro e w1 ⟨rfl,rfl⟩;clear c1)
   go_ret;exact⟨by rw[E.o];rfl,HDR.o⟩
theorem KL (K:List Pr) (R:List L) (A A2:Option Addr) (c c2 B:Nat) (w:World) (hl:K.length≤1000000) (hc:K.length≤c) (hl2:R.length≤1000000) (hr:RdP w B A K) (hr2:Rd w B A2 (strs R)) (hB:B≤w.heap.size) :
  Calls Tryz.prog 144 #[.slice A K.length c,.slice A2 R.length c2] w fun e w'=>e = .returned (.bool (Cj K R))∧Below w.heap.size w w':=by
 obtain⟨N,eN⟩:∃N,N=w.heap.size:=⟨_,rfl⟩;rw[←eN] at hB⊢;have HB0:=I (show Below N w w from Below.refl _ _);have EN0:=I eN;clear eN;have HSZ:=I (show ∀w1:World,Below N w w1→N≤w1.heap.size from fun w1 h=>by have:=h.size;have:=EN0.o;omega);have HR:=I hr;clear hr;have HR2:=I hr2;clear hr2;have C1:=I (fun x w1 (h:Rd w1 B A2 (strs R))=>Tr.Dg R A2 c2 B x w1 (by omega) h);have C2:=I (fun w1 h hB1=>Qt K A c B w1 hl hc h hB1);obtain⟨n,en⟩:∃n,n=K.length:=⟨_,rfl⟩;obtain⟨m,em⟩:∃m,m=R.length:=⟨_,rfl⟩;rw[←en] at hl hc C2⊢;rw[←em] at hl2 C1⊢;have EN:=I en;clear en em;go_enter Tryz.func144,Tryz.ntmps144
 go_wp2
 go_loopw [11] (fun iv wr=>∃i:Nat,i≤n∧iv = .int .i64 (i:Int)∧(K.take i).all (Cl R)=true∧Below N w wr) (fun iv _=>n - (intOf iv).toNat)
 case atStart=>exact⟨0,Nat.zero_le _,rfl,by simp,HB0.o⟩
 case round=>
  obtain⟨i,hi,rfl,hn,hb⟩:=hrel;have HN:=I hn;clear hn;have HB:=I hb;clear hb;have hrw:=HR.o.below (HB.o.mono hB)
  by_cases hlt:i<n
  ·have e1:(i:Int)<(n:Int):=by omega
   have e2:(0:Int)≤(i:Int):=by omega
   have him:i<K.length:=by rw[←EN.o];exact hlt
   have hal:=all_succ (p:=Cl R) him;have haf:=all_false (p:=Cl R) him;rw[HN.o,Bool.true_and,←Ft him] at hal;rw[←Ft him] at haf;obtain⟨b,o,rfl,_,h1,h2⟩:=KJ hrw him;obtain⟨x,ex⟩:∃x,x=kl K i:=⟨_,rfl⟩;rw[←ex] at hal haf h1 h2;clear ex him;have HK:=I (show Blk (wr.alloc (.cells #[.string ⟨x.1.toArray⟩,.string ⟨x.2.toArray⟩] 196)).drew wr.heap.size 196 #[.string ⟨x.1.toArray⟩,.string ⟨x.2.toArray⟩] from(Blk.new wr 196 _).drewN 1);have H:=I (show Below N w (wr.alloc (.cells #[.string ⟨x.1.toArray⟩,.string ⟨x.2.toArray⟩] 196)) from HB.o.alloc (HSZ.o _ HB.o) _);have HRW2:=I (HR2.o.below (H.o.mono hB));obtain⟨W,eW⟩:∃W,W=wr.alloc (.cells #[.string ⟨x.1.toArray⟩,.string ⟨x.2.toArray⟩] 196):=⟨_,rfl⟩
   go_wp2
   rw[←eW] at HK H HRW2⊢;clear eW;have k0:W.cell? ⟨wr.heap.size,0,none⟩=some (.string ⟨x.1.toArray⟩):=HK.o.cell 0;have k1:W.cell? ⟨wr.heap.size,1,none⟩=some (.string ⟨x.2.toArray⟩):=HK.o.cell 1
   go_quiet (fail)
   by_cases q1:x.1=x.2
   ·have t1:(x.1==x.2)=true:=by simpa using q1
    have E:=I (show Cj K R=false by
     rw[Cj,haf (by rw[Cl,decide_eq_false (fun h=>h q1)];rfl)];rfl)
    clear q1 hal haf
    go_wp2_with fail
    go_ret;exact⟨by rw[E.o];rfl,below_drewN H.o _⟩
   ·have t1:(x.1==x.2)=false:=by simpa using q1
    by_cases q2:x.1∈R
    ·have c1:=fun k=>C1.o x.1 (W.drewN k) (HRW2.o.drewN k)
     rw[decide_eq_true q2] at c1
     by_cases q3:x.2∈R
     ·have c3:=fun k=>C1.o x.2 (W.drewN k) (HRW2.o.drewN k)
      rw[decide_eq_true q3] at c3;have E:=I (show((K.take (i+1)).all (Cl R)=true) by
       rw[hal,Cl,decide_eq_true q1,decide_eq_true q2,decide_eq_true q3];rfl)
      clear q1 q2 q3 hal haf
      go_wp2_with (first
       |(go_at_call 93;with_reducible refine Calls.mono (c1 _) ?_;rintro e w1 ⟨rfl,rfl⟩;clear c1)
       |(go_at_call 93;with_reducible refine Calls.mono (c3 _) ?_;rintro e w1 ⟨rfl,rfl⟩;clear c3))
      go_roundw
      case rel=>exact⟨i+1,by omega,by go_num,E.o,below_drewN H.o _⟩
      case measure=>simp [intOf];omega
     ·have c3:=fun k=>C1.o x.2 (W.drewN k) (HRW2.o.drewN k)
      rw[decide_eq_false q3] at c3;have E:=I (show Cj K R=false by
       rw[Cj,haf (by rw[Cl,decide_eq_false q3];simp)];rfl)
      clear q1 q2 q3 hal haf
      go_wp2_with (first
       |(go_at_call 93;with_reducible refine Calls.mono (c1 _) ?_;rintro e w1 ⟨rfl,rfl⟩;clear c1)
       |(go_at_call 93;with_reducible refine Calls.mono (c3 _) ?_;rintro e w1 ⟨rfl,rfl⟩;clear c3))
      go_ret;exact⟨by rw[E.o];rfl,below_drewN H.o _⟩
    ·have c1:=fun k=>C1.o x.1 (W.drewN k) (HRW2.o.drewN k)
     rw[decide_eq_false q2] at c1;have E:=I (show Cj K R=false by
      rw[Cj,haf (by rw[Cl,decide_eq_false q2];simp)];rfl)
     clear q1 q2 hal haf
     go_wp2_with (go_at_call 93;with_reducible refine Calls.mono (c1 _) ?_;rintro e w1 ⟨rfl,rfl⟩;clear c1)
     go_ret;exact⟨by rw[E.o];rfl,below_drewN H.o _⟩
  ·have e1:¬(i:Int)<(n:Int):=by omega
   have E:=I (show Cj K R=decide K.Nodup by
    rw[Cj,CG (by have:=EN.o;omega) HN.o];rfl)
   have c1:=C2.o wr hrw (Nat.le_trans hB (HSZ.o _ HB.o))
   go_wp2_with (go_at_call 210;refine Calls.mono c1 ?_;rintro e w1 ⟨rfl,hb⟩;clear c1;replace HB:=I (HB.o.trans (hb.mono (HSZ.o _ HB.o)));clear hb)
   go_ret;exact⟨by rw[E.o];rfl,HB.o⟩
end Rt
end
section
namespace Rt
open Go.RowKit Af Nm
theorem VF (p:Pa) (R:List L) (u:Value) (A2:Option Addr) (c2 B:Nat) (w:World) (hl:p.v.length≤1000000) (hl2:R.length≤1000000) (hr:SlV w B u p.v) (hr2:Rd w B A2 (strs R)) (hB:B≤w.heap.size) :
  Calls Tryz.prog 211 #[.agg #[.string ⟨p.f.toArray⟩,.string ⟨p.t.toArray⟩,u],.slice A2 R.length c2] w fun e w'=>e = .returned (.bool (viaB R p))∧Below w.heap.size w w':=by
 obtain⟨A,c,rfl,hc,hr⟩:=hr;have HB0:=I ((Below.refl w.heap.size w).alloc (Nat.le_refl _) (.cells #[.string ⟨p.f.toArray⟩,.string ⟨p.t.toArray⟩,.slice A p.v.length c] 273));have HK:=I (Blk.new w 273 #[.string ⟨p.f.toArray⟩,.string ⟨p.t.toArray⟩,.slice A p.v.length c]);have HR:=I (hr.below (HB0.o.mono hB));clear hr;have HR2:=I (hr2.below (HB0.o.mono hB));clear hr2;have C1:=I (fun x w1 (h:Rd w1 B A2 (strs R))=>Tr.Dg R A2 c2 B x w1 (by omega) h);have C2:=I (fun w1 h=>Nv p.v A c B w1 hl hc h);obtain⟨n,en⟩:∃n,n=p.v.length:=⟨_,rfl⟩;obtain⟨m,em⟩:∃m,m=R.length:=⟨_,rfl⟩;rw[←en] at hl hc C2 HB0 HK HR HR2⊢;rw[←em] at hl2 C1⊢;have EN:=I en;clear en em
 by_cases h4:n≤4
 ·have g4:decide (4<(n:Int))=false:=by simp;omega
  have H4:=I h4;go_enter Tryz.func211,Tryz.ntmps211
  go_wp2
  obtain⟨W,eW⟩:∃W,W=w.alloc (.cells #[.string ⟨p.f.toArray⟩,.string ⟨p.t.toArray⟩,.slice A n c] 273):=⟨_,rfl⟩;rw[←eW] at HB0 HK HR HR2⊢;clear eW;have k0:W.cell? ⟨w.heap.size,0,none⟩=some (.string ⟨p.f.toArray⟩):=HK.o.cell 0;have k1:W.cell? ⟨w.heap.size,1,none⟩=some (.string ⟨p.t.toArray⟩):=HK.o.cell 1;have k2:W.cell? ⟨w.heap.size,2,none⟩=some (.slice A n c):=HK.o.cell 2
  go_loop [14] (fun iv=>∃i:Nat,i≤n∧iv = .int .i64 (i:Int)∧(p.v.take i).all (onB R p)=true) (fun iv=>n - (intOf iv).toNat)
  case atStart=>exact⟨0,Nat.zero_le _,rfl,by simp⟩
  case round=>
   obtain⟨i,hi,rfl,hn⟩:=hrel;have HN:=I hn;clear hn
   by_cases hlt:i<n
   ·have e1:(i:Int)<(n:Int):=by omega
    have e2:(0:Int)≤(i:Int):=by omega
    have him:i<p.v.length:=by rw[←EN.o];exact hlt
    have hal:=all_succ (p:=onB R p) him;have haf:=all_false (p:=onB R p) him;rw[HN.o,Bool.true_and,←Ej him] at hal;rw[←Ej him] at haf;obtain⟨b,o,rfl,_,h1⟩:=Ek HR.o him;obtain⟨x,ex⟩:∃x,x=pl p.v i:=⟨_,rfl⟩;rw[←ex] at hal haf h1;clear ex him
    by_cases q1:x=p.f
    ·have t1:(x==p.f)=true:=by simpa using q1
     have E:=I (show viaB R p=false by
      rw[viaB,haf (by rw[onB,decide_eq_false (fun h=>h q1)];rfl)];simp)
     clear q1 hal haf
     go_wp2_with fail
     go_ret;exact⟨by rw[E.o];rfl,HB0.o⟩
    ·have t1:(x==p.f)=false:=by simpa using q1
     by_cases q2:x=p.t
     ·have t2:(x==p.t)=true:=by simpa using q2
      have E:=I (show viaB R p=false by
       rw[viaB,haf (by rw[onB,decide_eq_false (p:=x≠p.t) (fun h=>h q2)];simp)];simp)
      clear q1 q2 hal haf
      go_wp2_with fail
      go_ret;exact⟨by rw[E.o];rfl,HB0.o⟩
     ·have t2:(x==p.t)=false:=by simpa using q2
      have c3:=C1.o x W HR2.o
      by_cases q3:x∈R
      ·rw[decide_eq_true q3] at c3
       have E:=I (show((p.v.take (i+1)).all (onB R p)=true) by
        rw[hal,onB,decide_eq_true q1,decide_eq_true q2,decide_eq_true q3];rfl)
       clear q1 q2 q3 hal haf
       go_wp2_with (go_at_call 93;refine Calls.mono c3 ?_;rintro e w1 ⟨rfl,rfl⟩;clear c3)
       go_round
       case rel=>exact⟨i+1,by omega,by go_num,E.o⟩
       case measure=>simp [intOf];omega
      ·rw[decide_eq_false q3] at c3
       have E:=I (show viaB R p=false by
        rw[viaB,haf (by rw[onB,decide_eq_false q3];simp)];simp)
       clear q1 q2 q3 hal haf
       go_wp2_with (go_at_call 93;refine Calls.mono c3 ?_;rintro e w1 ⟨rfl,rfl⟩;clear c3)
       go_ret;exact⟨by rw[E.o];rfl,HB0.o⟩
   ·have e1:¬(i:Int)<(n:Int):=by omega
    have E:=I (show viaB R p=decide p.v.Nodup by
     rw[viaB,CG (by have:=EN.o;omega) HN.o,decide_eq_true (by rw[←EN.o];exact H4.o)];rfl)
    have c1:=C2.o W HR.o
    go_wp2_with (go_at_call 209;refine Calls.mono c1 ?_;rintro e w1 ⟨rfl,rfl⟩;clear c1)
    go_ret;exact⟨by rw[E.o];rfl,HB0.o⟩
 ·have g4:decide (4<(n:Int))=true:=by simp;omega
  have E:=I (show viaB R p=false by
   rw[viaB,decide_eq_false (by rw[←EN.o];exact h4)];rfl)
  go_enter Tryz.func211,Tryz.ntmps211
  go_wp2
  go_ret;exact⟨by rw[E.o];rfl,HB0.o⟩
theorem Qv {P:List Pa} {i:Nat} (h:i<P.length):DD (P.take (i+1))=DD (P.take i)++[((al P i).f,(al P i).t)]:=by
 rw[take_succ h,Jh h,DD,List.map_append];rfl
theorem Bp (P:List Pa):(DD P).length=P.length:=by simp [DD]
theorem Qw (P:List Pa) (R:List L) (A A2:Option Addr) (c c2 B:Nat) (w:World) (hl:P.length≤100000) (hl2:R.length≤1000000) (hv:∀p∈P,p.v.length≤1000000) (hr:RdA w B A P) (hr2:Rd w B A2 (strs R)) (hB:B≤w.heap.size) :
  Calls Tryz.prog 145 #[.slice A P.length c,.slice A2 R.length c2] w fun e w'=>e = .returned (.bool (Fz P R))∧Below w.heap.size w w':=by
 obtain⟨N,eN⟩:∃N,N=w.heap.size:=⟨_,rfl⟩;rw[←eN] at hB⊢;have HB0:=I (show Below N w w from Below.refl _ _);have EN0:=I eN;clear eN;have HSZ:=I (show ∀w1:World,Below N w w1→N≤w1.heap.size from fun w1 h=>by have:=h.size;have:=EN0.o;omega);have HR:=I hr;clear hr;have HR2:=I hr2;clear hr2;have C1:=I (fun(i:Nat) (hi:i<P.length) u w1 (h:SlV w1 B u (al P i).v) (h2:Rd w1 B A2 (strs R)) hB1=>VF (al P i) R u A2 c2 B w1 (hv _ (UB hi)) hl2 h h2 hB1);have C2:=I (fun A c w1 h1 h2 h3 h4=>KL (DD P) R A A2 c c2 w1.heap.size w1 (by rw[Bp];omega) h1 hl2 h2 h3 h4);rw[Bp] at C2;obtain⟨n,en⟩:∃n,n=P.length:=⟨_,rfl⟩;obtain⟨m,em⟩:∃m,m=R.length:=⟨_,rfl⟩;rw[←en] at hl C2⊢;rw[←em] at hl2 C1 C2⊢;have EN:=I en;clear en em hv;go_enter Tryz.func145,Tryz.ntmps145
 go_wp2
 go_loopw [5,10] (fun ev iv wr=>∃i:Nat,i≤n∧iv = .int .i64 (i:Int)∧(P.take i).all (viaB R)=true∧OwnP wr N ev (DD (P.take i))∧Below N w wr) (fun _ iv _=>n - (intOf iv).toNat)
 case atStart=>exact⟨0,Nat.zero_le _,rfl,by simp,OwnP.nil _ _,HB0.o⟩
 case round=>
  obtain⟨i,hi,rfl,hn,ho,hb⟩:=hrel;have HN:=I hn;clear hn;have HB:=I hb;clear hb;have HO:=I ho;clear ho;have hrw:=HR.o.below (HB.o.mono hB)
  by_cases hlt:i<n
  ·have e1:(i:Int)<(n:Int):=by omega
   have e2:(0:Int)≤(i:Int):=by omega
   have him:i<P.length:=by rw[←EN.o];exact hlt
   have hal:=all_succ (p:=viaB R) him;have haf:=all_false (p:=viaB R) him;have hes:=Qv him;have hel:=Bp (P.take i);rw[HN.o,Bool.true_and,←Jh him] at hal;rw[←Jh him] at haf;have hlen:(P.take i).length=i:=by simp;omega
   rw[hlen] at hel;have c1:=C1.o i him;obtain⟨b,o,rfl,_,h1,h2,u,h3,h4⟩:=Nt hrw him;obtain⟨x,ex⟩:∃x,x=al P i:=⟨_,rfl⟩;obtain⟨F,eF⟩:∃F,F=DD (P.take i):=⟨_,rfl⟩;rw[←ex] at hal haf h1 h2 h4 hes c1;rw[←eF] at hes hel HO;have HES:=I hes;have HEL:=I hel;clear hes hel;clear ex eF him hlen;have h4':=h4;obtain⟨A5,c5,eu,_⟩:=h4';subst eu;obtain⟨k5,ek5⟩:∃k,k=x.v.length:=⟨_,rfl⟩;rw[←ek5] at h3 h4;have HK:=I (Blk.new wr 273 #[.string ⟨x.f.toArray⟩,.string ⟨x.t.toArray⟩,.slice A5 k5 c5]);have HA:=I ((Below.refl wr.heap.size wr).alloc (Nat.le_refl _) (.cells #[.string ⟨x.f.toArray⟩,.string ⟨x.t.toArray⟩,.slice A5 k5 c5] 273));have H:=I (HB.o.trans (HA.o.mono (HSZ.o _ HB.o)));have c2:=c1 _ _ (h4.below (HA.o.mono (Nat.le_trans hB (HSZ.o _ HB.o)))) (HR2.o.below (H.o.mono hB)) (Nat.le_trans hB (HSZ.o _ H.o));clear c1 h4 ek5;cases hx:viaB R x with
   |false=>
    rw[hx] at c2;have E:=I (show Fz P R=false by rw[Fz,haf hx];rfl);clear hx hal haf
    go_wp2_with (go_at_call 211;refine Calls.mono c2 ?_;rintro e w1 ⟨rfl,hb⟩;clear c2;have H1:=I (H.o.trans (hb.mono (HSZ.o _ H.o)));clear hb)
    go_ret;exact⟨by rw[E.o];rfl,H1.o⟩
   |true=>
    rw[hx] at c2;have E:=I (hal.trans hx);clear hx hal haf
    go_wp2_with (first
     |(go_at_call 211;refine Calls.mono c2 ?_;rintro e w1 ⟨rfl,hb⟩;clear c2;have H1:=I (H.o.trans (hb.mono (HSZ.o _ H.o)));have HK1:=I (HK.o.below hb);have HO1:=I ((HO.o.below HA.o).below hb);clear hb HO HK;have k0:=HK1.o.cell 0;have k1:=HK1.o.cell 1;simp only[List.getElem?_toArray,List.getElem?_cons_zero,List.getElem?_cons_succ] at k0 k1)
     |(at_builtin;refine Tx rfl (.tmp 18) (.tmp 24) rfl N _ F rfl HO1.o (x.f,x.t) rfl (by have:=HEL.o;omega) (HSZ.o _ H1.o) ?_;intro v2 w2 ho2 hb2;have HO2:=I ho2;have H2:=I (H1.o.trans hb2);clear ho2 hb2))
    go_roundw
    case rel=>exact⟨i+1,by omega,by go_num,E.o,by rw[HES.o];exact HO2.o,H2.o⟩
    case measure=>simp [intOf];omega
  ·have e1:¬(i:Int)<(n:Int):=by omega
   have hiP:P.length≤i:=by have:=EN.o;omega
   have E:=I (show Fz P R=Cj (DD P) R by
    rw[Fz,CG hiP HN.o];rfl)
   rw[List.take_of_length_le hiP] at HO;obtain⟨A3,c3,rfl,q1,q2⟩:=HO.o.slice;rw[Bp,←EN.o] at q1;have c1:=C2.o A3 c3 wr q1 q2 ((HR2.o.below (HB.o.mono hB)).more (Nat.le_trans hB (HSZ.o _ HB.o))) (Nat.le_refl _);have en2:(DD P).length=n:=by rw[Bp,←EN.o]
   rw[en2];clear q1 q2 hiP
   go_wp2_with (go_at_call 144;refine Calls.mono c1 ?_;rintro e w1 ⟨rfl,hb⟩;clear c1;replace HB:=I (HB.o.trans (hb.mono (HSZ.o _ HB.o)));clear hb)
   go_ret;exact⟨by rw[E.o];rfl,HB.o⟩
end Rt
end
section
namespace Rt
open Go.RowKit Af Nm
structure Sm (T:Tp):Prop where
 r:T.R.length≤3000
 k:T.K.length≤3000
 p:T.P.length≤3000
 rt:∀x∈T.R,x.length≤3000
 v:∀q∈T.P,q.v.length≤3000
 vt:∀q∈T.P,∀x∈q.v,x.length≤3000
theorem ist_a {T:Tp} (h:¬1≤T.R.length):isT T=false:=by rw[isT,decide_eq_false h];rfl
theorem ist_b {T:Tp} (h:¬T.R.length≤6):isT T=false:=by rw[isT,decide_eq_false h];simp
theorem Xl {T:Tp} (h:¬T.K.length≤20):isT T=false:=by rw[isT,decide_eq_false h];simp
theorem Xm {T:Tp} (h:¬T.P.length≤8):isT T=false:=by rw[isT,decide_eq_false h];simp
theorem ist_e {T:Tp} (h:Bo T.R=false):isT T=false:=by rw[isT,h];simp
theorem VG {T:Tp} (h:Cj T.K T.R=false):isT T=false:=by rw[isT,h];simp
theorem ist_g {T:Tp} (h1:1≤T.R.length) (h2:T.R.length≤6) (h3:T.K.length≤20) (h4:T.P.length≤8) (h5:Bo T.R=true) (h6:Cj T.K T.R=true):isT T=Fz T.P T.R:=by
 rw[isT,decide_eq_true h1,decide_eq_true h2,decide_eq_true h3,decide_eq_true h4,h5,h6];rfl
theorem Qx (T:Tp) (v:Value) (B:Nat) (w:World) (hs:Sm T) (hv:TpV w B v T) (hB:B≤w.heap.size) :
  Calls Tryz.prog 92 #[v] w fun e w'=>e = .returned (.bool (isT T))∧Below w.heap.size w w':=by
 obtain⟨v1,v2,v3,rfl,⟨A1,c1,rfl,hc1,r1⟩,⟨A2,c2,rfl,hc2,r2⟩,⟨A3,c3,rfl,hc3,r3⟩⟩:=hv;have H:=I ((Below.refl w.heap.size w).alloc (Nat.le_refl _) (.cells #[.slice A1 T.R.length c1,.slice A2 T.K.length c2,.slice A3 T.P.length c3] 60));have HK:=I (Blk.new w 60 #[.slice A1 T.R.length c1,.slice A2 T.K.length c2,.slice A3 T.P.length c3]);obtain⟨W,eW⟩:∃W,W=w.alloc (.cells #[.slice A1 T.R.length c1,.slice A2 T.K.length c2,.slice A3 T.P.length c3] 60):=⟨_,rfl⟩;rw[←eW] at H HK;have hb:=H.o.mono hB;have C1:=I (ON T.R A1 c1 B W (by have:=hs.r;omega) hc1 (r1.below hb) (fun i hi=>by have:=hs.rt _ (Jn hi);omega));have C2:=I (fun w1 (hk:Below B W w1) hsz=>KL T.K T.R A2 A1 c2 c1 B w1 (by have:=hs.k;omega) hc2 (by have:=hs.r;omega) ((r2.below hb).below hk) ((r1.below hb).below hk) hsz);have C3:=I (fun w1 (hk:Below B W w1) hsz=>Qw T.P T.R A3 A1 c3 c1 B w1 (by have:=hs.p;omega) (by have:=hs.r;omega) (fun q hq=>by have:=hs.v q hq;omega) ((r3.below hb).below hk) ((r1.below hb).below hk) hsz);have HSZ:=I (show B≤W.heap.size from Nat.le_trans hB H.o.size);clear hb r1 r2 r3 hB hc1 hc2 hc3;have A5:=I (@ist_a T);have B5:=I (@ist_b T);have C5:=I (@Xl T);have D5:=I (@Xm T);have E5:=I (@ist_e T);have F5:=I (@VG T);have G5:=I (@ist_g T);have s1:=hs.r;have s2:=hs.k;have s3:=hs.p;obtain⟨n,en⟩:∃n,n=T.R.length:=⟨_,rfl⟩;obtain⟨m,em⟩:∃m,m=T.K.length:=⟨_,rfl⟩;obtain⟨k,ek⟩:∃k,k=T.P.length:=⟨_,rfl⟩;rw[←en,←em,←ek] at eW HK;rw[←en] at C1 C2 C3 s1 A5 B5 G5;rw[←em] at C2 s2 C5 G5;rw[←ek] at C3 s3 D5 G5;rw[←en,←em,←ek];clear en em ek hs;subst eW
 by_cases q1:1≤n
 ·have t1:decide ((n:Int)<1)=false:=by simp;omega
  by_cases q2:n≤6
  ·have t2:decide (6<(n:Int))=false:=by simp;omega
   by_cases q3:m≤20
   ·have t3:decide (20<(m:Int))=false:=by simp;omega
    by_cases q4:k≤8
    ·have t4:decide (8<(k:Int))=false:=by simp;omega
     cases q5:Bo T.R with
     |false=>
      have E:=I (E5.o q5);rw[q5] at C1;have c4:=C1.o;clear C1 C2 C3 q5;go_enter Tryz.func92,Tryz.ntmps92
      go_wp2_with (go_at_call 143;refine Calls.mono c4 ?_;rintro e w1 ⟨rfl,hd⟩;clear c4;have H1:=I (H.o.trans (hd.below.mono H.o.size));clear hd)
      go_ret;exact⟨by rw[E.o];rfl,H1.o⟩
     |true=>
      rw[q5] at C1;have c4:=C1.o;cases q6:Cj T.K T.R with
      |false=>
       have E:=I (F5.o q6);rw[q6] at C2;clear C1 C3 q5 q6;go_enter Tryz.func92,Tryz.ntmps92
       go_wp2_with (first
        |(go_at_call 143;refine Calls.mono c4 ?_;rintro e w1 ⟨rfl,hd⟩;clear c4;have H1:=I (H.o.trans (hd.below.mono H.o.size));replace HK:=I (HK.o.below hd.below);have k0:=HK.o.cell 0;have k1:=HK.o.cell 1;have k2:=HK.o.cell 2;simp only[List.getElem?_toArray,List.getElem?_cons_zero,List.getElem?_cons_succ] at k0 k1 k2;have c5:=C2.o w1 (hd.below.mono HSZ.o) (Nat.le_trans HSZ.o hd.below.size);clear hd)
        |(go_at_call 144;refine Calls.mono c5 ?_;rintro e w2 ⟨rfl,hb⟩;clear c5;replace H1:=H1.t hb;clear hb))
       go_ret;exact⟨by rw[E.o];rfl,H1.o⟩
      |true=>
       have E:=I (G5.o q1 q2 q3 q4 q5 q6);rw[q6] at C2;clear C1 q5 q6;go_enter Tryz.func92,Tryz.ntmps92
       go_wp2_with (first
        |(go_at_call 143;refine Calls.mono c4 ?_;rintro e w1 ⟨rfl,hd⟩;clear c4;have H1:=I (H.o.trans (hd.below.mono H.o.size));replace HK:=I (HK.o.below hd.below);have k0:=HK.o.cell 0;have k1:=HK.o.cell 1;have k2:=HK.o.cell 2;simp only[List.getElem?_toArray,List.getElem?_cons_zero,List.getElem?_cons_succ] at k0 k1 k2;have c5:=C2.o w1 (hd.below.mono HSZ.o) (Nat.le_trans HSZ.o hd.below.size);have HH:=I hd.below;clear hd)
        |(go_at_call 144;refine Calls.mono c5 ?_;rintro e w2 ⟨rfl,hb⟩;clear c5 k0 k1 k2;replace H1:=H1.t hb;replace HK:=I (HK.o.below hb);have k0:=HK.o.cell 0;have k1:=HK.o.cell 1;have k2:=HK.o.cell 2;simp only[List.getElem?_toArray,List.getElem?_cons_zero,List.getElem?_cons_succ] at k0 k1 k2;replace HH:=HH.t hb;have c6:=C3.o w2 (HH.o.mono HSZ.o) (Nat.le_trans HSZ.o HH.o.size);clear hb)
        |(go_at_call 145;refine Calls.mono c6 ?_;rintro e w3 ⟨rfl,hb⟩;clear c6;replace H1:=H1.t hb;clear hb))
       go_ret;exact⟨by rw[E.o];rfl,H1.o⟩
    ·have t4:decide (8<(k:Int))=true:=by simp;omega
     have E:=I (D5.o q4);go_enter Tryz.func92,Tryz.ntmps92
     go_wp2
     go_ret;exact⟨by rw[E.o];rfl,H.o⟩
   ·have t3:decide (20<(m:Int))=true:=by simp;omega
    have E:=I (C5.o q3);go_enter Tryz.func92,Tryz.ntmps92
    go_wp2
    go_ret;exact⟨by rw[E.o];rfl,H.o⟩
  ·have t2:decide (6<(n:Int))=true:=by simp;omega
   have E:=I (B5.o q2);go_enter Tryz.func92,Tryz.ntmps92
   go_wp2
   go_ret;exact⟨by rw[E.o];rfl,H.o⟩
 ·have t1:decide ((n:Int)<1)=true:=by simp;omega
  have E:=I (A5.o q1);go_enter Tryz.func92,Tryz.ntmps92
  go_wp2
  go_ret;exact⟨by rw[E.o];rfl,H.o⟩
end Rt
end
section
namespace Rt
open Go.RowKit Af Nm
theorem VH {a b:L} {p:Pa} (h1:p.f=a) (h2:p.t=b):isP a b p=true:=by rw[isP,decide_eq_true h1,decide_eq_true h2];rfl
theorem VI {a b:L} {p:Pa} (h1:p.f≠a):isP a b p=false:=by rw[isP,decide_eq_false h1];rfl
theorem VJ {a b:L} {p:Pa} (h2:p.t≠b):isP a b p=false:=by rw[isP,decide_eq_false h2];simp
theorem Qy {T:Tp} {a b:L} {i:Nat} (hi:i<T.P.length) (h:isP a b (al T.P i)=true) (hn:∀k,k<i→isP a b (al T.P k)=false):laidB T a b=true∧vL T a b=(al T.P i).v:=by
 have e:=VC hi h hn;exact⟨by rw[laidB,e];exact decide_eq_true hi,by rw[vL,e]⟩
theorem Ty {T:Tp} {a b:L} (hn:∀k,k<T.P.length→isP a b (al T.P k)=false):laidB T a b=false∧vL T a b = []:=by
 have e:=Qq hn;refine⟨by rw[laidB,e];exact decide_eq_false (by omega),?_⟩;rw[vL,e,al];simp
theorem MW (T:Tp) (v:Value) (B:Nat) (a b:L) (w:World) (hs:Sm T) (hv:TpV w B v T) (hB:B≤w.heap.size) :
  Calls Tryz.prog 234 #[v,.string ⟨a.toArray⟩,.string ⟨b.toArray⟩] w fun e w'=>∃u,e = .returned (.tuple #[u,.bool (laidB T a b)])∧SlV w' B u (vL T a b)∧Below w.heap.size w w':=by
 obtain⟨v1,v2,v3,rfl,⟨A1,c1,rfl,hc1,r1⟩,⟨A2,c2,rfl,hc2,r2⟩,⟨A3,c3,rfl,hc3,r3⟩⟩:=hv;obtain⟨N,eN⟩:∃N,N=w.heap.size:=⟨_,rfl⟩;have hb:=(Below.refl w.heap.size w).alloc (Nat.le_refl _) (.cells #[.slice A1 T.R.length c1,.slice A2 T.K.length c2,.slice A3 T.P.length c3] 60);have HB0:=I hb;clear hb;have HK:=I (Blk.new w 60 #[.slice A1 T.R.length c1,.slice A2 T.K.length c2,.slice A3 T.P.length c3]);have h3:=hs.p;obtain⟨n,en⟩:∃n,n=T.P.length:=⟨_,rfl⟩;rw[←en] at h3 HK HB0;rw[←eN] at HB0 HK hB;have EN0:=I eN;clear eN;have HSZ:=I (show ∀w1:World,Below N w w1→N≤w1.heap.size from fun w1 h=>by have:=h.size;have:=EN0.o;omega);have HR:=I r3;rw[←en];have EN:=I en;clear r1 r2 r3 hc1 hc2 hc3 hs en;go_enter Tryz.func234,Tryz.ntmps234
 go_wp2
 obtain⟨W,eW⟩:∃W,W=w.alloc (.cells #[.slice A1 T.R.length c1,.slice A2 T.K.length c2,.slice A3 n c3] 60):=⟨_,rfl⟩;rw[←eW] at HB0 HK⊢;have hsz:W.heap.size=N+1:=by rw[eW,EN0.o];simp
 clear eW;have HSW:=I (show ∀w1:World,Below W.heap.size W w1→W.heap.size≤w1.heap.size from fun w1 h=>h.size)
 go_loopw [13] (fun iv wr=>∃i:Nat,i≤n∧iv = .int .i64 (i:Int)∧(∀k,k<i→isP a b (al T.P k)=false)∧Below W.heap.size W wr) (fun iv _=>n - (intOf iv).toNat)
 case atStart=>exact⟨0,Nat.zero_le _,rfl,fun k h=>absurd h (Nat.not_lt_zero k),Below.refl _ _⟩
 case round=>
  obtain⟨i,hi,rfl,hn,hb⟩:=hrel;have HN:=I hn;clear hn;have HBW:=I hb;clear hb;have HB:=I (HB0.o.trans (HBW.o.mono (HSZ.o _ HB0.o)))
  by_cases hlt:i<n
  ·have e1:(i:Int)<(n:Int):=by omega
   have e2:(0:Int)≤(i:Int):=by omega
   have him:i<T.P.length:=by rw[←EN.o];exact hlt
   obtain⟨b1,o,rfl,_,h1,h2,u,h3,h4⟩:=Nt (HR.o.below (HB.o.mono hB)) him;obtain⟨x,ex⟩:∃x,x=al T.P i:=⟨_,rfl⟩;rw[←ex] at h1 h2 h4;have EX:=I ex;clear ex;have h4':=h4;obtain⟨A5,c5,eu,_⟩:=h4';subst eu;obtain⟨k5,ek5⟩:∃k,k=x.v.length:=⟨_,rfl⟩;rw[←ek5] at h3 h4;have H4:=I h4;clear h4 ek5;have H:=I ((Below.refl wr.heap.size wr).alloc (Nat.le_refl _) (.cells #[.string ⟨x.f.toArray⟩,.string ⟨x.t.toArray⟩,.slice A5 k5 c5] 273));have H1:=I (HBW.o.trans (H.o.mono HBW.o.size));have H2:=I (HB0.o.trans (H1.o.mono (HSZ.o _ HB0.o)))
   by_cases q1:x.f=a
   ·have t1:(x.f==a)=true:=by simpa using q1
    by_cases q2:x.t=b
    ·have t2:(x.t==b)=true:=by simpa using q2
     have E:=I (Qy (T:=T) (a:=a) (b:=b) him (by rw[←EX.o];exact VH q1 q2) HN.o);rw[←EX.o] at E;clear q1 q2 him
     go_wp2_with fail
     go_ret2
     exact⟨_,by rw[E.o.1];rfl,by rw[E.o.2];exact H4.o.below (H.o.mono (Nat.le_trans hB (HSZ.o _ HB.o))),by rw[←EN0.o];exact H2.o⟩
    ·have t2:(x.t==b)=false:=by simpa using q2
     have E:=I (VJ (a:=a) q2);rw[EX.o] at E;clear q1 q2 him
     go_wp2_with fail
     go_roundw
     case rel=>exact⟨i+1,by omega,by go_num,fun k hk=>by
      by_cases q:k=i
      ·rw[q];exact E.o
      ·exact HN.o k (by omega),H1.o⟩
     case measure=>simp [intOf];omega
   ·have t1:(x.f==a)=false:=by simpa using q1
    have E:=I (VI (b:=b) q1);rw[EX.o] at E;clear q1 him
    go_wp2_with fail
    go_roundw
    case rel=>exact⟨i+1,by omega,by go_num,fun k hk=>by
     by_cases q:k=i
     ·rw[q];exact E.o
     ·exact HN.o k (by omega),H1.o⟩
    case measure=>simp [intOf];omega
  ·have e1:¬(i:Int)<(n:Int):=by omega
   have E:=I (Ty (T:=T) (a:=a) (b:=b) fun k hk=>HN.o k (by have:=EN.o;omega))
   go_wp2
   go_ret2
   exact⟨_,by rw[E.o.1];rfl,by rw[E.o.2];exact⟨none,0,rfl,Nat.le_refl _,.inl rfl⟩,by rw[←EN0.o];exact HB.o⟩
end Rt
end
section
namespace Rt
open Go.RowKit Af Nm
theorem JX (n:Nat) (hn:n≤1000000) (w:World) :
  ∃cs:Array Value,cs.size=n∧(Instr.makeSlice 56 (.int .i64 0) (.int .i64 (n:Int))).run Tryz.prog w = .ok (.slice (some ⟨w.heap.size,0,none⟩) 0 n) (w.alloc (.cells cs 9)):=by
 obtain⟨i0,hi0,hz0,hs0,hb0⟩:=info_parts JK;have h:=run_make (P:=Tryz.prog) w 56 9 i0 _ Tryz.underlying56 hi0 hz0 .i64 .i64 0 (n:Int) (by omega) (by omega) (by rw[hb0];omega) (by omega);refine⟨_,?_,h⟩;rw[hs0,Int.toNat_natCast,Nat.mul_one,show(Value.string ⟨#[]⟩).cells=#[Value.string ⟨#[]⟩] from rfl];have e:=toList_madeCells_one (.string ⟨#[]⟩) n;have:=congrArg List.length e
 simpa using this
theorem Tz (w:World) (cs:Array Value) (n:Nat) (h:cs.size=n) (hn:n≤1000000):Own (w.alloc (.cells cs 9)) w.heap.size (.slice (some ⟨w.heap.size,0,none⟩) 0 n) []:=
 World.ownsRow_made w cs n (Nat.le_refl _) (by unfold maxLen;omega) (by omega)
end Rt
end
end Go.Proofs.YtfcjeebnkigeaaaGreat
