import Derived.Test.YthkdjblnmkkcfaaGreatZAcceptorOnce1
set_option maxHeartbeats 25600000
set_option maxRecDepth 100000
set_option linter.unusedVariables false
set_option linter.unusedSimpArgs false
namespace Go.Proofs.YthkdjblnmkkcfaaGreat
namespace Tr
open Nm
theorem Sw (c:UInt8) (l:L):((split c l).map fun p=>p.length+1).sum=l.length+1:=by
 induction l with
 |nil=>simp [split]
 |cons y r ih=>
  rw[split]
  by_cases e:y=c
  ·rw[if_pos e];simp [ih];omega
  ·rw[if_neg e]
   cases hs:split c r with
   |nil=>exact absurd hs (KC c r)
   |cons a t=>
    rw[hs] at ih;simp only[List.map_cons,List.sum_cons,List.length_cons] at ih⊢;omega
theorem bJ {ls:List L} (h:ls.all (Cm capB)=true):(ls.map fun p=>p.length+1).sum<=9*ls.length:=by
 induction ls with
 |nil=>simp
 |cons a t ih=>
  simp only[List.all_cons,Bool.and_eq_true] at h;have M:=((Fu _ _).1 h.1).2.1;have:=ih h.2;simp only[List.map_cons,List.sum_cons,List.length_cons];omega
theorem Ps {c:UInt8} {l:L} (h:Cn (split c l)=true):l.length<=35:=by
 have M:=(CJ _).1 h;have O:=bJ M.2.2;have Z:=Sw c l;omega
theorem kind_two' {l:L} (h:AR l=2):∃t,l=47 :: t/\Cn (split 47 t)=true:=by
 have M:=Ix h;simp only[slL,Bool.and_eq_true,decide_eq_true_eq] at M;cases l with
 |nil=>simp at M
 |cons x t=>
  simp only[List.head?_cons,Option.some.injEq,List.tail_cons] at M;exact⟨t,by rw[M.1],M.2⟩
theorem Qz {l:L} (h:AR l≠0):AR l=1\/AR l=2:=by have:=IX l;omega
theorem FP {l:L} (h:AR l≠0):l.length<=36:=by
 rcases Qz h with h | h
 ·have:=Ps (KF h);omega
 ·obtain⟨t,rfl,M⟩:=kind_two' h
  have:=Ps M;simp only[List.length_cons];omega
theorem Lb (l:L):isL l=true↔AR l≠0:=by simp [isL];omega
def sufL (p l:L):Bool:=p.isSuffixOf l
theorem Sx {p l:L}:sufL p l=true↔∃u,l=u++p:=by
 rw[sufL,List.isSuffixOf_iff_suffix];exact⟨fun⟨t,e⟩=>⟨t,e.symm⟩,fun⟨t,e⟩=>⟨t,e.symm⟩⟩
def preB (p l:L):Bool:=p.isPrefixOf l
theorem GO {p l:L}:preB p l=true↔∃u,l=p++u:=by
 rw[preB,List.isPrefixOf_iff_prefix];exact⟨fun⟨t,e⟩=>⟨t,e.symm⟩,fun⟨t,e⟩=>⟨t,e.symm⟩⟩
def CG (f p:L):L:=if sufL [46] f then f++p else if preB [47] f&&decide (AR p=2) then p++f else if preB [32,47] f then f.drop 1 else f
theorem VT (f p:L):(CG f p).length<=f.length+p.length:=by
 rw[CG];split
 ·simp
 ·split
  ·simp;omega
  ·split
   ·simp;omega
   ·omega
def Ht (p:L) (m:List L):L:=if m = [] then p else pl m (m.length - 1)
def addL (l:List L) (r:L):List L:=if r∈l then l else l++[r]
def GP (l rs:List L):List L:=rs.foldl addL l
theorem YY (l:List L) (r:L):(addL l r).length<=l.length+1:=by rw[addL];split<;>simp
theorem Sy (l:List L) (r:L) (t:List L):GP l (r :: t)=GP (addL l r) t:=rfl
theorem Ob (l a b:List L):GP l (a++b)=GP (GP l a) b:=List.foldl_append
theorem Pu (rs:List L):∀l,(GP l rs).length<=l.length+rs.length:=by
 induction rs with
 |nil=>intro l;exact Nat.le_refl _
 |cons r t ih=>intro l;rw[Sy];have:=ih (addL l r);have:=YY l r;simp only[List.length_cons];omega
theorem bK {l:List L} {r:L} (h:r∈l):addL l r=l:=if_pos h
theorem YZ {l:List L} {r:L} (h:r∉l):addL l r=l++[r]:=if_neg h
def Gq (c p:L):L:=if p = [] then c else p
def Mt (l:List L):List L×Nat:=if 8<l.length then ([],13) else (l,0)
def Lc (c:L) (l:List L) (p r:L) (n:Bool):List L:=if n then GP l (Bq (Gq c p) r) else l
def expF (c sv:L):List L->List L->L->Bool->List L×Nat
  | [],l,p,n=>Mt (Lc c l p sv n)
  | f :: t, l, p, n => if f = [] then expF c sv t l p true else
      if isL (CG f p) then
        (if 8<(addL (Lc c l p (CG f p) n) (CG f p)).length then ([],13) else expF c sv t (addL (Lc c l p (CG f p) n) (CG f p)) (CG f p) false)
      else ([],2)
def expL (s c sv:L):List L×Nat:=if isL c&&isL sv then (if s = [] then ([],0) else expF c sv (split 44 s) [] [] false) else ([],1)
theorem Sz (c sv:L) (t l:List L) (p:L) (n:Bool):expF c sv ([] :: t) l p n=expF c sv t l p true:=by rw[expF,if_pos rfl]
theorem VU {c sv f:L} {t l:List L} {p:L} {n:Bool} (h:f≠[]) (M:isL (CG f p)=false):expF c sv (f :: t) l p n=([],2):=by rw[expF,if_neg h,if_neg (by simp [M])]
theorem SC {c sv f:L} {t l:List L} {p:L} {n:Bool} (h:f≠[]) (M:isL (CG f p)=true) (O:(addL (Lc c l p (CG f p) n) (CG f p)).length<=8) :
 expF c sv (f :: t) l p n=expF c sv t (addL (Lc c l p (CG f p) n) (CG f p)) (CG f p) false:=by rw[expF,if_neg h,if_pos M,if_neg (by omega)]
theorem SD {c sv f:L} {t l:List L} {p:L} {n:Bool} (h:f≠[]) (O:isL (CG f p)=true) (M:8<(addL (Lc c l p (CG f p) n) (CG f p)).length) :
 expF c sv (f :: t) l p n=([],13):=by rw[expF,if_neg h,if_pos O,if_pos M]
theorem bL {s c sv:L} (h:isL c=false\/isL sv=false):expL s c sv=([],1):=by
 rw[expL,if_neg];rcases h with h | h<;>simp [h]
theorem SE {c sv:L} (h:isL c=true) (M:isL sv=true):expL [] c sv=([],0):=by rw[expL,h,M];rfl
theorem VV {s c sv:L} (h:isL c=true) (M:isL sv=true) (hs:s≠[]):expL s c sv=expF c sv (split 44 s) [] [] false:=by rw[expL,h,M,if_pos (show(true&&true)=true from rfl),if_neg hs]
theorem VW (l:List L):(Mt l).1.length<=8:=by rw[Mt];split<;>simp;omega
theorem VX (c sv:L) (M:List L):∀l p n,(expF c sv M l p n).1.length<=8:=by
 induction M with
 |nil=>intro l p n;exact VW _
 |cons f t ih=>
  intro l p n;rw[expF]
  split
  ·exact ih _ _ _
  ·split
   ·split
    ·simp
    ·exact ih _ _ _
   ·simp
theorem SF (s c sv:L):(expL s c sv).1.length<=8:=by
 rw[expL];split
 ·split
  ·simp
  ·exact VX _ _ _ _ _ _
 ·simp
open Go.RowKit Af
attribute [local go_sem] Ep List.getElem_cons_zero List.getElem_cons_succ Cg Ch Dy Dq
theorem VY {p l:L} {k:Nat} (h:l.length=k+p.length):(l.drop k==p)=sufL p l:=by
  rw[Bool.eq_iff_iff,Sx,beq_iff_eq];constructor
  · intro e
    exact ⟨l.take k, by conv => rhs; rw [<- e]
                        exact(List.take_append_drop k l).symm⟩
  · rintro ⟨u, rfl⟩
    have:k=u.length:=by simp at h;omega
    rw[this];simp
theorem Za {p l:L} (h:sufL p l=true):p.length<=l.length:=by
 obtain⟨u,rfl⟩:=Sx.1 h;simp
theorem Ld (l p:L) (w:World) (hs:l.length<=1000000000) (hp:p.length<=1000000000):Calls Tryz.prog 234 #[.string ⟨l.toArray⟩,.string ⟨p.toArray⟩] w fun e w'=>
  e=.returned (.bool (sufL p l))/\w=w':=by
 by_cases h:p.length<=l.length
 ·obtain⟨k,hk⟩:∃k,l.length=k+p.length:=⟨l.length - p.length,by omega⟩
  have E:=I (VY hk);have M:(p.length:Int)<=(l.length:Int):=by omega
  have Z:(l.length:Int) - (p.length:Int)=(k:Int):=by omega
  have O:(k:Int)<=(l.length:Int):=by omega
  clear h hk;go_enter Tryz.func234,Tryz.ntmps234
  go_wp2
  go_ret;exact⟨by rw[<-E.o];rfl,rfl⟩
 ·have E:=I (show sufL p l=false by
   cases q:sufL p l with
   |false=>rfl
   |true=>exact absurd (Za q) h)
  have M:¬(p.length:Int)<=(l.length:Int):=by omega
  clear h;go_enter Tryz.func234,Tryz.ntmps234
  go_wp2
  go_ret;exact⟨by rw[E.o];rfl,rfl⟩
theorem JY (l p:L) (w:World) (hs:l.length<=1000000000) (hp:p.length<=1000000000):Calls Tryz.prog 195 #[.string ⟨l.toArray⟩,.string ⟨p.toArray⟩] w fun e w'=>
  e=.returned (.bool (sufL p l))/\w=w':=by
 have c1:=Ld l p w hs hp;go_enter Tryz.func195,Tryz.ntmps195
 go_wp2_with (go_at_call 234;refine Aj c1 ?_;rintro w1 rfl)
 go_ret;exact⟨rfl,rfl⟩
theorem Gh (l p:L) (w:World) (hs:l.length<=1000000000) (hp:p.length<=1000000000):Calls Tryz.prog 196 #[.string ⟨l.toArray⟩,.string ⟨p.toArray⟩] w fun e w'=>
  e=.returned (.bool (preB p l))/\w=w':=by
 have c1:Calls Tryz.prog 205 #[.string ⟨l.toArray⟩,.string ⟨p.toArray⟩] w fun e w'=>e=.returned (.bool (preB p l))/\w=w':=Ew l p w hs hp
 go_enter Tryz.func196,Tryz.ntmps196
 go_wp2_with (go_at_call 205;refine Aj c1 ?_;rintro w1 rfl)
 go_ret;exact⟨rfl,rfl⟩
def tpL (p l:L):L:=if preB p l then l.drop p.length else l
theorem VZ {p l:L} (h:preB p l=true):p.length<=l.length:=by
 obtain⟨u,rfl⟩:=GO.1 h;simp
theorem GQ (l p:L) (w:World) (hs:l.length<=1000000000) (hp:p.length<=1000000000):Calls Tryz.prog 235 #[.string ⟨l.toArray⟩,.string ⟨p.toArray⟩] w fun e w'=>
  e=.returned (.string ⟨(tpL p l).toArray⟩)/\w=w':=by
 have c1:Calls Tryz.prog 205 #[.string ⟨l.toArray⟩,.string ⟨p.toArray⟩] w fun e w'=>e=.returned (.bool (preB p l))/\w=w':=Ew l p w hs hp
 by_cases h:preB p l=true
 ·have M:=VZ h
  have E:=I (show tpL p l=l.drop p.length by rw[tpL,if_pos h]);rw[h] at c1;have O:(p.length:Int)<=(l.length:Int):=by omega
  clear h M;go_enter Tryz.func235,Tryz.ntmps235
  go_wp2_with (go_at_call 205;refine Aj c1 ?_;rintro w1 rfl)
  go_ret;exact⟨by rw[E.o];rfl,rfl⟩
 ·have h:preB p l=false:=by simpa using h
  have E:=I (show tpL p l=l by rw[tpL,if_neg (by simp [h])]);rw[h] at c1;clear h;go_enter Tryz.func235,Tryz.ntmps235
  go_wp2_with (go_at_call 205;refine Aj c1 ?_;rintro w1 rfl)
  go_ret;exact⟨by rw[E.o];rfl,rfl⟩
theorem JZ (l p:L) (w:World) (hs:l.length<=1000000000) (hp:p.length<=1000000000):Calls Tryz.prog 197 #[.string ⟨l.toArray⟩,.string ⟨p.toArray⟩] w fun e w'=>
  e=.returned (.string ⟨(tpL p l).toArray⟩)/\w=w':=by
 have c1:=GQ l p w hs hp;go_enter Tryz.func197,Tryz.ntmps197
 go_wp2_with (go_at_call 235;refine Aj c1 ?_;rintro w1 rfl)
 go_ret;exact⟨rfl,rfl⟩
def ixL (r:L) (ls:List L):Int:=if r∈ls then ((ls.findIdx fun x=>decide (x=r):Nat):Int) else -1
theorem Pv {ls:List L} {r:L} {i:Nat} (hi:i<ls.length) (h:pl ls i=r) (M:∀k,k<i->pl ls k≠r):ixL r ls=(i:Int):=by
 have hm:r∈ls:=by rw[<-h];exact DL hi
 rw[ixL,if_pos hm]
 congr 1
 rcases Nat.lt_trichotomy (ls.findIdx fun x=>decide (x=r)) i with g | g | g
 ·have:=List.findIdx_getElem (p:=fun x=>decide (x=r)) (w:=(by omega:(ls.findIdx fun x=>decide (x=r))<ls.length))
  exact absurd (by rw[CK (by omega)];simpa using this) (M _ g)
 ·exact g
 ·have:=List.not_of_lt_findIdx g
  rw[CK hi] at h;simp [h] at this
theorem SG {ls:List L} {r:L} (M:∀k,k<ls.length->pl ls k≠r):ixL r ls = -1:=by
 rw[ixL,if_neg];intro hm;obtain⟨i,hi,e⟩:=mem_pl hm;exact M i hi e
theorem Zb (r:L) (ls:List L):decide (0<=ixL r ls)=decide (r∈ls):=by
 rw[ixL]
 by_cases h:r∈ls
 ·rw[if_pos h];simp [h]
 ·rw[if_neg h];simp [h]
theorem QA (ls:List L) (A:Option Addr) (c B:Nat) (r:L) (w:World) (hl:ls.length<=9000000000000000) (hr:Rd w B A (strs ls)) :
  Calls Tryz.prog 61 #[.slice A ls.length c,.string ⟨r.toArray⟩] w fun e w'=>e=.returned (.int .i64 (ixL r ls))/\w=w':=by
 have HR:=I hr;clear hr;obtain⟨n,en⟩:=Ak (ls.length);rw[<-en] at hl⊢;have O:=I en;clear en;go_enter Tryz.func61,Tryz.ntmps61
 go_wp2
 go_loop [8] (fun M=>∃i:Nat,i<=n/\M=.int .i64 (i:Int)/\∀k,k<i->pl ls k≠r) (fun M=>n - (intOf M).toNat)
 case atStart=>exact⟨0,Nat.zero_le _,rfl,fun k h=>absurd h (Nat.not_lt_zero k)⟩
 case round=>
  obtain⟨i,hi,rfl,hn⟩:=hrel;have Z:=I hn;clear hn
  by_cases hlt:i<n
  ·have e1:(i:Int)<(n:Int):=by omega
   have e2:(0:Int)<=(i:Int):=by omega
   obtain⟨b,o,rfl,_,h1⟩:=DD HR.o (i:=i) (by rw[<-O.o];exact hlt)
   by_cases hx:pl ls i=r
   ·have t1:(r==pl ls i)=true:=by simpa using hx.symm
    have E:=I (Pv (by rw[<-O.o];exact hlt) hx Z.o);clear hx
    go_wp2
    go_ret;exact⟨by rw[E.o];rfl,rfl⟩
   ·have t1:(r==pl ls i)=false:=by simpa using fun g:r=pl ls i=>hx g.symm
    have HX:=I hx;clear hx
    go_wp2
    go_round
    case rel=>exact⟨i+1,by omega,by go_num,fun k hk=>by
     by_cases q:k=i
     ·rw[q];exact HX.o
     ·exact Z.o k (by omega)⟩
    case measure=>simp [intOf];omega
  ·have e1:¬(i:Int)<(n:Int):=by omega
   have E:=I (SG (ls:=ls) (r:=r) fun k hk=>Z.o k (by have:=O.o;omega))
   go_wp2
   go_ret;exact⟨by rw[E.o];rfl,rfl⟩
theorem Cb (ls:List L) (A:Option Addr) (c B:Nat) (r:L) (w:World) (hl:ls.length<=9000000000000000) (O:Rd w B A (strs ls)) :
  Calls Tryz.prog 31 #[.slice A ls.length c,.string ⟨r.toArray⟩] w fun e w'=>e=.returned (.bool (decide (r∈ls)))/\w=w':=by
 have c1:=QA ls A c B r w hl O;have E:=I (Zb r ls);obtain⟨z,M⟩:=Ak (ixL r ls);rw[<-M] at c1;have Z:=I M;clear M O;go_enter Tryz.func31,Tryz.ntmps31
 go_wp2_with (go_at_call 61;refine Aj c1 ?_;rintro w1 rfl)
 go_ret;exact⟨by rw[<-E.o,<-Z.o];rfl,rfl⟩
end Tr
namespace Tr
open Go.RowKit Af Nm
def Far (w w':World) (v v':Value):Prop:=w.heap.size<=w'.heap.size/\∀b,b<w.heap.size->v.ownBlock≠some b->w'.heap[b]? = w.heap[b]?/\v'.ownBlock≠some b
theorem Far.refl (w:World) (v:Value):Far w w v v:=⟨Nat.le_refl _,fun _ _ h=>⟨rfl,h⟩⟩
theorem Far.trans {w w1 w2:World} {v v1 v2:Value} (h:Far w w1 v v1) (k:Far w1 w2 v1 v2):Far w w2 v v2:=by
 refine⟨Nat.le_trans h.1 k.1,fun b M O=>?_⟩;obtain⟨a1,Z⟩:=h.2 b M O;obtain⟨c1,c2⟩:=k.2 b (Nat.lt_of_lt_of_le M h.1) Z;exact⟨c1.trans a1,c2⟩
theorem Far.below {w w':World} (v:Value) (h:Below w.heap.size w w'):Far w w' v v:=⟨h.size,fun b O M=>⟨h.block b O,M⟩⟩
theorem SH {w w':World} {b:Nat} (h:w'.heap[b]? = w.heap[b]?) (o:Nat):w'.cell? ⟨b,o,none⟩=w.cell? ⟨b,o,none⟩:=by
 simp only[World.cell?,h]
def Off (A:Option Addr) (v:Value):Prop:=∀b o,A=some ⟨b,o,none⟩->v.ownBlock≠some b
theorem Far.rd {w w':World} {v v':Value} {A:Option Addr} {xs:List Value} (h:Far w w' v v') (O:Rd w w.heap.size A xs) (Z:Off A v):Rd w' w'.heap.size A xs/\(xs = []\/Off A v'):=by
 rcases O with g | ⟨b,o,rfl,M,hc⟩
 ·exact⟨.inl g,.inl g⟩
 ·obtain⟨h1,h2⟩:=h.2 b M (Z b o rfl)
  refine⟨.inr ⟨b,o,rfl,Nat.lt_of_lt_of_le M h.1,fun i u hu=>(SH h1 _).trans (hc i u hu)⟩,.inr ?_⟩;intro b' o' e;injection e with e;injection e with e1 e2;subst e1;exact h2
theorem Le {w:World} {v:Value} {ls:List L} {base:Nat} (h:Own w base v ls) {w':World} {v2:Value} {A:Option Addr} {n c:Nat} {ms:List L} (M:Own w' w.heap.size v2 ms) (e:v2=.slice A n c):Off A v:=by
 intro b o eA O;have h3:=(h.lt b O).2;subst eA;subst e;rcases M.2 with⟨q,_⟩ | ⟨g,cap,cur,q,Z,_⟩
 ·cases q
 ·injection q with q1
  injection q1 with q1;injection q1 with q1 q2;omega
theorem Wa (w:World) (base:Nat) (ty:TypeId) (v:Value) (ls:List L) (M:Own w base v ls) (B:Nat) (a:Addr) (c:Nat) (ms:List L) (hr:Rd w B (some a) (strs ms))
  (hl:ls.length+ms.length<=8000000000000) (hb:base<=w.heap.size) :
  ∃v' w',(Builtin.append_ #[40,40] ty #[v,.slice (some a) ms.length c]).run Tryz.prog w=.ok v' w'/\Own w' base v' (ls++ms)/\Own w' base v ls/\w.grownBy w' v.ownBlock/\(v'.ownBlock=v.ownBlock\/v'.ownBlock=some w.heap.size):=by
 obtain⟨i0,bq,bB,aw,bz⟩:=info_parts Iy;have bn:(strs ms).length=ms.length:=DM ms;obtain⟨v',w',Z,h2,h3,h4⟩:=Gw (P:=Tryz.prog) w base 40 ty 9 i0 _ 16 Tryz.underlying40 bq bB aw bz rfl v ls.length (strs ls) M B (some a) ms.length c (strs ms) bn.symm hr (KQ _) (by unfold maxLen;omega) (by omega) hb;have O:∀j u,(strs ms)[j]? = some u->w.cell? (a.add j)=some u:=by
  rcases hr with h | ⟨b,o,h1,_,h3⟩
  ·rw[h];intro i u hu;simp at hu
  ·injection h1 with h1
   subst h1;intro i u hu;rw[addr_add];exact h3 i u hu
 refine⟨v',w',Z,by rw[Own,List.length_append,Jc];exact h2,?_,h3,h4⟩;rcases M.2 with⟨rfl,hx⟩ | ⟨g,cap,cur,rfl,cg,hg,cf,cb,cp,cd⟩
 ·have e:ls = []:=List.eq_nil_of_length_eq_zero hx
  subst e;exact Own.nil _ _
 ·by_cases hroom:ls.length+ms.length<=cap
  ·obtain⟨w2,av,ca,_⟩:=run_append_fits (P:=Tryz.prog) (w:=w) base 40 ty 9 i0 1 Tryz.underlying40 bq aw g ls.length cap (strs ls) M a ms.length c (strs ms) (by rw[bn];omega) O (KQ _) hroom
   rw[Z] at av;injection av with e1 e2;subst e1;subst e2;rcases ca.2 with⟨q,_⟩ | ⟨g',cm,bx,q,ck,cc,cn,cj,bs,bb⟩
   ·cases q
   ·injection q with q1 q2 q3
    injection q1 with q1;injection q1 with q1;subst q1;subst q3;refine⟨M.1,.inr ⟨g,cap,bx,rfl,cg,cc,cf,cb,bs,?_⟩⟩;have e3:=congrArg (List.take (ls.length*1)) bb;rw[List.take_take,Nat.min_eq_left (by omega)] at e3;rw[e3,List.take_left' (by rw[DM];omega)]
  ·have holds:∀j u,(strs ls)[j]? = some u->w.cell? ((⟨g,0,none⟩:Addr).add j)=some u:=World.ownsRow.cells (g:=g) M rfl
   have av:=run_append_grow (P:=Tryz.prog) w 40 ty 9 i0 _ Tryz.underlying40 bq bB ⟨g,0,none⟩ ls.length cap (strs ls) (by rw[aw,DM];omega) holds a ms.length c (strs ms) (by rw[aw,bn];omega) O (by omega) (by omega) (by rw[bz];exact growslice_fits (by omega) (by omega));rw[Z] at av;injection av with e1 e2;subst e2;exact M.below (((Below.refl _ _:Below w.heap.size w w).drew).alloc Ag _)
section
variable {w:World} {ops:Array Oper} {rest:List Oper} {o:Oper} {a:Act} {Q:Exit->Act->World->Prop}
theorem Wb (bb:o.guard=none) (s x:Operand) (ho:o.op=.call {callee:=.builtin .append,args:=#[s,x],argTypes:=#[40,40]})
  (base:Nat) (v:Value) (ls:List L) (hs:a.eval s=v) (O:Own w base v ls) (r:L) (hx:a.eval x=.slice (some ⟨w.heap.size,0,none⟩) 1 1)
  (hl:ls.length+1<=8000000000000) (hb:base<=w.heap.size)
  (h:∀v' w',Own w' base v' (ls++[r])->Own w' base v ls->Far w w' v v'->Below base w w'->wpList Tryz.prog ops Q rest (a.put o.dst v') w'):wpList Tryz.prog ops Q (o :: rest) a (w.alloc (.cells #[.string ⟨r.toArray⟩] 9)):=by
 have Z:Below w.heap.size w (w.alloc (.cells #[.string ⟨r.toArray⟩] 9)):=Ah.alloc Ag _;have aw:(w.alloc (.cells #[.string ⟨r.toArray⟩] 9)).heap.size=w.heap.size+1:=by simp
 have hr:Rd (w.alloc (.cells #[.string ⟨r.toArray⟩] 9)) (w.heap.size+1) (some ⟨w.heap.size,0,none⟩) (strs [r]):=by
  refine .inr ⟨w.heap.size,0,rfl,by omega,fun i u hu=>?_⟩;cases i with
  |zero=>
   simp only[strs,List.map_cons,List.map_nil,List.getElem?_cons_zero,Option.some.injEq] at hu;subst hu;exact(Blk.new w 9 _).cell 0
  |succ i=>simp [strs] at hu
 obtain⟨v',w',M,h2,h3,h4,h5⟩:=Wa _ base o.type v ls (O.below Z) (w.heap.size+1) ⟨w.heap.size,0,none⟩ 1 [r] hr hl (by omega);refine wpList_plain bb fun K hK=>?_
 unfold Oper.wp execOp;simp only[List.length_cons,List.length_nil,Nat.zero_add] at M;simp only[ho,resolve,invoke,builtin,Sem.run_bind,Sem.run_pure,Result.andThen_ok,List.map_toArray,List.map_cons,List.map_nil,hs,hx,M];refine hK _ _ (h v' w' h2 h3 ⟨by have:=h4.size;omega,fun b av hn=>⟨(h4.block b (by omega) (fun e=>hn e.symm)).trans (Z.block b av),?_⟩⟩ ?_)
 ·rcases h5 with g | g
  ·rw[g];exact hn
  ·rw[g,aw];intro q;injection q with q;omega
 ·exact(Z.mono hb).grown h4 (by omega) (fun k hk=>(O.lt k hk).1)
end
attribute [local go_sem] Ep List.getElem_cons_zero List.getElem_cons_succ Cg Ch Dy Dq
theorem Wc {f p:L} (h:sufL [46] f=true):CG f p=f++p:=by rw[CG,if_pos h]
theorem Zc {f p:L} (h:sufL [46] f=false) (O:preB [47] f=true) (M:AR p=2):CG f p=p++f:=by rw[CG,h,O,M];rfl
theorem Zd {f p:L} (h:sufL [46] f=false) (M:preB [47] f=false\/AR p≠2) (O:preB [32,47] f=true):CG f p=f.drop 1:=by
 rw[CG,h,O];rcases M with M | M
 ·rw[M];rfl
 ·rw[decide_eq_false M];simp
theorem SI {f p:L} (h:sufL [46] f=false) (M:preB [47] f=false\/AR p≠2) (O:preB [32,47] f=false):CG f p=f:=by
 rw[CG,h,O];rcases M with M | M
 ·rw[M];rfl
 ·rw[decide_eq_false M];simp
theorem We {f:L} (h:preB [32,47] f=true):tpL [32] f=f.drop 1:=by
 obtain⟨u,rfl⟩:=GO.1 h;rw[tpL,if_pos (show preB [32] ([32,47]++u)=true from GO.2 ⟨47 :: u,rfl⟩)];rfl
theorem KL (f p:L) (w:World) (hs:f.length<=100000) (hp:p.length<=100000):Calls Tryz.prog 145 #[.string ⟨f.toArray⟩,.string ⟨p.toArray⟩] w fun e w'=>
  e=.returned (.string ⟨(CG f p).toArray⟩)/\AU w w':=by
 have c1:=JY f [46] w (by omega) (by decide);have HD:=I (AU.refl w);cases h:sufL [46] f with
 |true=>
  have E:=I ((Mi f p).trans (by rw[<-Wc (p:=p) h]));rw[h] at c1;clear h;go_enter Tryz.func145,Tryz.ntmps145
  go_wp2_with (go_at_call 195;refine Aj c1 ?_;rintro w1 rfl)
  go_ret;exact⟨by rw[<-E.o];rfl,HD.o⟩
 |false=>
  rw[h] at c1;have c2:=Gh f [47] w (by omega) (by decide);have M:=I (fun w1=>Gh f [32,47] w1 (by omega) (by decide));have Z:=I (fun w1=>JZ f [32] w1 (by omega) (by decide));have c5:=KN p w (by omega);cases h1:preB [47] f with
  |true=>
   rw[h1] at c2
   by_cases h2:AR p=2
   ·have E:=I ((Mi p f).trans (by rw[<-Zc h h1 h2]))
    rw[h2] at c5;clear h h1 h2 M Z;go_enter Tryz.func145,Tryz.ntmps145
    go_wp2_with (first
     |(go_at_call 195;refine Aj c1 ?_;rintro w1 rfl)
     |(go_at_call 196;refine Aj c2 ?_;rintro w1 rfl)
     |(go_at_call 97;refine Aj c5 ?_;rintro w2 O;have H2:=I O;clear O c5))
    go_ret;exact⟨by rw[<-E.o];rfl,H2.o⟩
   ·have t:((AR p:Int)==2)=false:=by simp;omega
    cases h3:preB [32,47] f with
    |true=>
     exfalso
     obtain⟨u,e⟩:=GO.1 h1;obtain⟨v,g⟩:=GO.1 h3;rw[e] at g;have:=congrArg List.head? g;revert this;simp
    |false=>
     have c3:=fun w1=>M.o w1
     rw[h3] at c3;have av:=I c3;have E:=I (SI h (.inr h2) h3);clear h h1 h2 h3 M Z c3;go_enter Tryz.func145,Tryz.ntmps145
     go_wp2_with (first
      |(go_at_call 195;refine Aj c1 ?_;rintro w1 rfl)
      |(go_at_call 196;refine Aj c2 ?_;rintro w1 rfl;clear c2)
      |(go_at_call 97;refine Aj c5 ?_;rintro w2 O;have H2:=I O;clear O c5;have c3:=av.o w2)
      |(go_at_call 196;refine Aj c3 ?_;rintro w3 rfl))
     go_ret;exact⟨by rw[E.o];rfl,H2.o⟩
  |false=>
   rw[h1] at c2;cases h3:preB [32,47] f with
   |true=>
    have c3:=M.o w;rw[h3] at c3;have c4:=Z.o w;rw[We h3,<-Zd (p:=p) h (.inl h1) h3] at c4;clear h h1 h3 M Z;go_enter Tryz.func145,Tryz.ntmps145
    go_wp2_with (first
     |(go_at_call 195;refine Aj c1 ?_;rintro w1 rfl)
     |(go_at_call 196;refine Aj c2 ?_;rintro w1 rfl;clear c2)
     |(go_at_call 196;refine Aj c3 ?_;rintro w3 rfl)
     |(go_at_call 197;refine Aj c4 ?_;rintro w3 rfl))
    go_ret;exact⟨rfl,HD.o⟩
   |false=>
    have c3:=M.o w;rw[h3] at c3;have E:=I (SI (p:=p) h (.inl h1) h3);clear h h1 h3 M Z;go_enter Tryz.func145,Tryz.ntmps145
    go_wp2_with (first
     |(go_at_call 195;refine Aj c1 ?_;rintro w1 rfl)
     |(go_at_call 196;refine Aj c2 ?_;rintro w1 rfl;clear c2)
     |(go_at_call 196;refine Aj c3 ?_;rintro w3 rfl))
    go_ret;exact⟨by rw[E.o];rfl,HD.o⟩
theorem Ez (v:Value) (ls:List L) (r:L) (w:World) (base:Nat) (ho:Own w base v ls) (M:base<=w.heap.size) (hl:ls.length<=1000000) (hs:r.length<=1000000000) :
  Calls Tryz.prog 148 #[v,.string ⟨r.toArray⟩] w fun e w'=>∃v',e=.returned v'/\Own w' base v' (addL ls r)/\Far w w' v v'/\Below base w w':=by
 obtain⟨A,c,rfl,hr⟩:=ho.slice;have c1:=Cb ls A c _ r w (by omega) hr;have bn:=I (Below.refl base w);have HO:=I ho;clear ho hr;have cb:=I (Far.refl w (.slice A ls.length c))
 by_cases h:r∈ls
 ·rw[decide_eq_true h] at c1
  have E:=I (bK h);clear h M hl hs;go_enter Tryz.func148,Tryz.ntmps148
  go_wp2_with (go_at_call 31;refine Aj c1 ?_;rintro w1 rfl)
  go_ret;exact⟨_,rfl,by rw[E.o];exact HO.o,cb.o,bn.o⟩
 ·rw[decide_eq_false h] at c1
  have E:=I (YZ h);have c2:=BZ r w hs;have aw:=I M;have HL:=I hl;clear h hs M hl;go_enter Tryz.func148,Tryz.ntmps148
  go_wp2_with (first
   |(go_at_call 31;refine Aj c1 ?_;rintro w1 rfl)
   |(go_at_call 55;refine Aj c2 ?_;rintro w2 M;clear c2;have H2:=I (M.mono aw.o);have bs:=I (HO.o.below M);have av:=Nat.le_trans aw.o M.size;have bB:=I av;have bq:=I (Far.below (.slice A ls.length c) M);clear M av)
   |(at_builtin;refine Wb rfl (.tmp 9) (.tmp 12) rfl base _ _ rfl bs.o r rfl (by have:=HL.o;omega) bB.o ?_;intro v' w3 O bx Z bb;rw[<-E.o] at O;have H3:=I (H2.o.trans bb);have ca:=I O;have bz:=I (bq.o.trans Z);clear O bb bx Z))
  go_ret;exact⟨_,rfl,ca.o,bz.o,H3.o⟩
theorem addsK (l ms:List L) (k:Nat) (h:k<ms.length):GP l (ms.take (k+1))=addL (GP l (ms.take k)) (pl ms k):=by
 rw[BK h,Ob];rfl
theorem EE (v:Value) (ls ms:List L) (A2:Option Addr) (c2:Nat) (w:World) (base:Nat) (Z:Own w base v ls) (hb:base<=w.heap.size) (hl:ls.length+ms.length<=1000000) (hr:Rd w w.heap.size A2 (strs ms)) (O:Off A2 v) (hs:∀x∈ms,x.length<=1000000000) :
  Calls Tryz.prog 146 #[v,.slice A2 ms.length c2] w fun e w'=>∃v',e=.returned v'/\Own w' base v' (GP ls ms)/\Far w w' v v'/\Below base w w':=by
 have HO:=I Z;clear Z;have HR:=I hr;clear hr;have bx:=I O;clear O;have HS:=I hs;clear hs;have bn:=I (Below.refl base w);have bB:=I (Far.refl w v);have bq:=I hb;clear hb;obtain⟨n,en⟩:=Ak (ms.length);rw[<-en] at hl⊢;have HL:=I hl;have hn:n<=1000000:=by omega
 have EN:=I en;clear en hl;go_enter Tryz.func146,Tryz.ntmps146
 go_wp2
 go_loopw [0,9] (fun vv iv wr=>∃i:Nat,i<=n/\iv=.int .i64 (i:Int)/\Own wr base vv (GP ls (ms.take i))/\Far w wr v vv/\Below base w wr) (fun _ iv _=>n - (intOf iv).toNat)
 case atStart=>exact⟨0,Nat.zero_le _,rfl,HO.o,bB.o,bn.o⟩
 case round=>
  obtain⟨i,hi,rfl,Z,hf,hb⟩:=hrel;have bb:=I Z;clear Z;have av:=I hf;clear hf;have aw:=I hb;clear hb
  by_cases hlt:i<n
  ·have e1:(i:Int)<(n:Int):=by omega
   have e2:(0:Int)<=(i:Int):=by omega
   have M:i<ms.length:=by rw[<-EN.o];exact hlt
   obtain⟨b,o,rfl,_,h1⟩:=DD (av.o.rd HR.o bx.o).1 M;have c1:=Ez _ _ (pl ms i) wr base bb.o (Nat.le_trans bq.o aw.o.size) (by have:=Pu (ms.take i) ls;simp at this;have:=HL.o;omega) (HS.o _ (DL M));rw[<-addsK ls ms i M] at c1;have HM:=I M;clear M
   go_wp2_with (go_at_call 148;refine Calls.mono c1 ?_;rintro e w1 ⟨v',rfl,Z,hf,hb⟩;clear c1;have bs:=I Z;have bz:=I (av.o.trans hf);have H1:=I (aw.o.trans hb);clear Z hb hf)
   go_roundw
   case rel=>exact⟨i+1,by omega,by go_num,bs.o,bz.o,H1.o⟩
   case measure=>simp [intOf];omega
  ·have e1:¬(i:Int)<(n:Int):=by omega
   have E:=I (show ms.take i=ms from List.take_of_length_le (by have:=EN.o;omega))
   go_wp2
   go_ret;exact⟨_,rfl,by rw[<-E.o];exact bb.o,av.o,aw.o⟩
end Tr
namespace Tr
open Go.RowKit Af Nm
attribute [local go_sem] Ep List.getElem_cons_zero List.getElem_cons_succ Cg Ch Dy Dq
def OwnB (w:World) (base:Nat) (v:Value) (l:L):Prop:=w.ownsRow base 5 1 v l.length (bvs l)
theorem OwnB.below {w w':World} {base:Nat} {v:Value} {l:L} (h:OwnB w base v l) (M:Below w.heap.size w w'):OwnB w' base v l:=BS h M
theorem OwnB.slice {w:World} {base:Nat} {v:Value} {l:L} (h:OwnB w base v l):∃A c,v=.slice A l.length c/\Rd w w.heap.size A (bvs l):=by
 have O:=h;rcases h.2 with⟨M,Z⟩ | ⟨g,cap,cur,M,_⟩
 ·have e:l = []:=List.eq_nil_of_length_eq_zero Z
  subst e;exact⟨none,0,M,.inl rfl⟩
 ·subst M
  exact⟨_,cap,rfl,Rd.of_own (n:=l.length) (cap:=cap) O⟩
section
variable {w:World} {ops:Array Oper} {rest:List Oper} {o:Oper} {a:Act} {Q:Exit->Act->World->Prop}
end
theorem Dt {ls:List L} {i:Nat} (h:(ls.take i).all isL=true) (hi:i<ls.length) (M:isL (pl ls i)=true):(ls.take (i+1)).all isL=true:=by
 rw[BK hi,List.all_append,h];simp [M]
end Tr
namespace Tr
open Go.RowKit Af Nm
attribute [local go_sem] Ep List.getElem_cons_zero List.getElem_cons_succ Cg Ch Dy Dq
def Jn (s:L) (more:Bool):List L:=if more then split 44 s else []
def gm (more:Bool) (s:L):Nat:=if more then s.length+1 else 0
theorem Wf (s:L):Jn s true=bef 44 s :: Jn (aft 44 s) (hasC 44 s):=by
 rw[Jn,if_pos rfl,Fv,Jn];cases h:hasC 44 s with
 |true=>rfl
 |false=>rw[Iw ((FN _ _).1 h)];rfl
theorem gm_lt (s:L):gm (hasC 44 s) (aft 44 s)<gm true s:=by
 rw[gm,gm,if_pos rfl];cases h:hasC 44 s with
 |true=>
  rw[if_pos rfl];have hm:=(Eu _ _).1 h;have:=XN (c:=44) (l:=s) (by rintro rfl;simp at hm);omega
 |false=>rw[if_neg (by simp)];omega
theorem XT {c p:L} (h:p≠[]):Gq c p=p:=if_neg h
theorem Wg (c:L):Gq c []=c:=rfl
theorem SJ {l:List L} (h:l.length<=8):Mt l=(l,0):=by rw[Mt,if_neg (by omega)]
theorem SK {l:List L} (h:8<l.length):Mt l=([],13):=by rw[Mt,if_pos h]
theorem XU (c:L) (l:List L) (p r:L):Lc c l p r true=GP l (Bq (Gq c p) r):=rfl
theorem XV (c:L) (l:List L) (p r:L):Lc c l p r false=l:=rfl
theorem Iq {a b:L}:∀x∈Bq a b,x.length<=1000000000:=fun x M=>by have:=FP (Mj M);omega
def ExpV (w':World) (base:Nat) (e:Ending) (r:List L×Nat):Prop:=∃v,e=.returned (.tuple #[v,.int .i64 (r.2:Int)])/\Own w' base v r.1
theorem Ze (s c sv:L) (w:World) (hc:c.length<=1000000000) (hv:sv.length<=1000000000) (h:isL c=false\/isL sv=false) :
  Calls Tryz.prog 93 #[.string ⟨s.toArray⟩,.string ⟨c.toArray⟩,.string ⟨sv.toArray⟩] w fun e w'=>ExpV w' w.heap.size e (expL s c sv)/\Below w.heap.size w w':=by
 have E:=I (bL (s:=s) h);have c1:=Fm c w hc;have C2:=I (fun w1=>Fm sv w1 hv);cases h1:isL c with
 |false=>
  rw[h1] at c1;clear h h1;go_enter Tryz.func93,Tryz.ntmps93
  go_wp2_with (go_at_call 51;refine Aj c1 ?_;rintro w1 M;clear c1;have H1:=I M.below;clear M)
  go_ret2
  exact⟨⟨_,by rw[E.o];rfl,by rw[E.o];exact Own.nil _ _⟩,H1.o⟩
 |true=>
  rw[h1] at c1;have Z:isL sv=false:=by
   rcases h with h | h
   ·rw[h1] at h;cases h
   ·exact h
  have c2:=fun w1=>C2.o w1
  rw[Z] at c2;have O:=I c2;clear h h1 Z c2 C2;go_enter Tryz.func93,Tryz.ntmps93
  go_wp2_with (first
   |(go_at_call 51;with_reducible refine Aj c1 ?_;rintro w1 M;clear c1;have H1:=I M.below;clear M;have c2:=O.o w1)
   |(go_at_call 51;with_reducible refine Aj c2 ?_;rintro w2 M;clear c2;have H2:=I (H1.o.trans (M.below.mono H1.o.size));clear M))
  go_ret2
  exact⟨⟨_,by rw[E.o];rfl,by rw[E.o];exact Own.nil _ _⟩,H2.o⟩
theorem Zf (s0 c sv:L) (w:World) (hs:s0.length<=90000) (hc:isL c=true) (hv:isL sv=true) :
  Calls Tryz.prog 93 #[.string ⟨s0.toArray⟩,.string ⟨c.toArray⟩,.string ⟨sv.toArray⟩] w fun e w'=>ExpV w' w.heap.size e (expL s0 c sv)/\Below w.heap.size w w':=by
 have lc:=FP ((Lb c).1 hc);have lv:=FP ((Lb sv).1 hv);have c1:=Fm c w (by omega);have c2:=fun w1=>Fm sv w1 (by omega)
 rw[hc] at c1;rw[hv] at c2;have C2:=I c2;clear c2;have ER:expF c sv (Jn s0 (!List.isEmpty s0)) [] [] false=expL s0 c sv:=by
  by_cases h:s0 = []
  ·subst h;rw[SE hc hv];rfl
  ·rw[VV hc hv h,Jn,if_pos (by simpa using h)]
 obtain⟨R,eR⟩:=Ak (expL s0 c sv);rw[<-eR] at ER⊢;have ep:=I ER;have HS:=I hs;have LC:=I lc;have LV:=I lv;clear eR hc hv ER hs lc lv;obtain⟨N,eN⟩:=Ak (w.heap.size);rw[<-eN];have er:=I (show Below N w w by exact Below.refl _ _);have EN:=I eN;clear eN;have HN:=I (show ∀w1:World,Below N w w1->N<=w1.heap.size from fun w1 h=>by have:=h.size;have:=EN.o;omega);go_enter Tryz.func93,Tryz.ntmps93
 go_wp2_with (first
  |(go_at_call 51;with_reducible refine Aj c1 ?_;rintro w1 O;clear c1;have H1:=I (O.below.mono (Nat.le_of_eq EN.o));clear O;have c2:=C2.o w1)
  |(go_at_call 51;with_reducible refine Aj c2 ?_;rintro w2 O;clear c2;have H2:=I (H1.o.trans (O.below.mono (HN.o _ H1.o)));clear O))
 go_loopg [0,8,9,10,11,12] (gm (!List.isEmpty s0) s0) (fun g ei vv pv lv nv mv wr=>∃(s p:L) (l:List L) (nl more:Bool),g=gm more s/\ei=.string ⟨s.toArray⟩/\pv=.string ⟨p.toArray⟩/\lv=.string ⟨(Gq c p).toArray⟩/\nv=.bool nl/\mv=.bool more/\expF c sv (Jn s more) l p nl=R/\s.length<=90000/\l.length<=8/\p.length<=36/\Own wr N vv l/\Below N w wr)
 case atStart=>exact⟨s0,[],[],false,(!List.isEmpty s0),rfl,rfl,rfl,by rw[Wg],rfl,rfl,ep.o,HS.o,by simp,by simp,Own.nil _ _,H2.o⟩
 case round=>
  obtain⟨s,p,l,nl,more,hg,rfl,rfl,rfl,rfl,rfl,hR,ef,ea,ed,ho,hb⟩:=hrel;have HG:=I hg;clear hg;have HO:=I ho;clear ho;have HB:=I hb;clear hb;have cA:=I ef;clear ef;have bq:=I ea;clear ea;have ct:=I ed;clear ed;have ec:=I (show(Gq c p).length<=36 by
   rw[Gq];split
   ·exact LC.o
   ·exact ct.o)
  cases more with
  |false=>
   have HR:=I (show Mt (Lc c l p sv nl)=R from hR);clear hR;have dy:=bq.o;obtain⟨A0,c0,rfl,ek⟩:=HO.o.slice;clear ek;cases nl with
   |false=>
    have e8:¬(8:Int)<(l.length:Int):=by omega
    have E:=I (show R=(l,0) by rw[<-HR.o,XV,SJ bq.o]);clear dy
    go_wp2
    go_ret2
    exact⟨⟨_,by rw[E.o];rfl,by rw[E.o];exact HO.o⟩,HB.o⟩
   |true=>
    have c3:=Gn (Gq c p) sv wr (by have:=ec.o;omega) (by have:=LV.o;omega);have cd:=Gm (Gq c p) sv;have bz:=Iq (a:=Gq c p) (b:=sv);rw[XU] at HR;obtain⟨M,eM⟩:=Ak (Bq (Gq c p) sv);rw[<-eM] at c3 cd bz HR;have cg:=I cd;clear cd;have cp:=I bz;clear bz;clear eM;obtain⟨K,eK⟩:=Ak (GP l M);rw[<-eK] at HR;have EK:=I eK;clear eK
    by_cases h8:8<K.length
    ·have e8:(8:Int)<(K.length:Int):=by omega
     have E:=I (show R=([],13) by rw[<-HR.o,SK h8]);clear h8
     go_wp2_with (first
      |(go_at_call 147;refine Calls.mono c3 ?_;rintro e w3 ⟨v3,rfl,bx,cb⟩;clear c3;obtain⟨A3,c3,e3,ck⟩:=bx.slice;have aw:=Le HO.o bx e3;subst e3;have H3:=I (HB.o.trans (cb.mono (HN.o _ HB.o)));have c4:=EE _ l M A3 c3 w3 N (HO.o.below cb) (HN.o _ H3.o) (by have:=bq.o;have:=cg.o;omega) ck aw cp.o;rw[<-EK.o] at c4;clear aw bx cb ck)
      |(go_at_call 146;refine Calls.mono c4 ?_;rintro e w4 ⟨v4,rfl,cc,cL,cm⟩;clear c4 cL;obtain⟨A4,c4,rfl,_⟩:=cc.slice;have cT:=I cc;have H4:=I (H3.o.trans cm);clear cc cm))
     go_ret2
     exact⟨⟨_,by rw[E.o];rfl,by rw[E.o];exact Own.nil _ _⟩,H4.o⟩
    ·have e8:¬(8:Int)<(K.length:Int):=by omega
     have E:=I (show R=(K,0) by rw[<-HR.o,SJ (by omega)]);clear h8
     go_wp2_with (first
      |(go_at_call 147;refine Calls.mono c3 ?_;rintro e w3 ⟨v3,rfl,bx,cb⟩;clear c3;obtain⟨A3,c3,e3,ck⟩:=bx.slice;have aw:=Le HO.o bx e3;subst e3;have H3:=I (HB.o.trans (cb.mono (HN.o _ HB.o)));have c4:=EE _ l M A3 c3 w3 N (HO.o.below cb) (HN.o _ H3.o) (by have:=bq.o;have:=cg.o;omega) ck aw cp.o;rw[<-EK.o] at c4;clear aw bx cb ck)
      |(go_at_call 146;refine Calls.mono c4 ?_;rintro e w4 ⟨v4,rfl,cc,cL,cm⟩;clear c4 cL;obtain⟨A4,c4,rfl,_⟩:=cc.slice;have cT:=I cc;have H4:=I (H3.o.trans cm);clear cc cm))
     go_ret2
     exact⟨⟨_,by rw[E.o];rfl,by rw[E.o];exact cT.o⟩,H4.o⟩
  |true=>
   rw[Wf] at hR;have c3:=Nz s 44 wr (by have:=cA.o;omega);have cu:=gm_lt s;rw[<-HG.o] at cu;have cw:=RB 44 s;have cQ:=Nq 44 s;obtain⟨u,eu⟩:=Ak (bef 44 s);obtain⟨s2,es⟩:=Ak (aft 44 s);obtain⟨m2,em⟩:=Ak (hasC 44 s);rw[<-eu,<-es,<-em] at c3;rw[<-eu,<-es,<-em] at hR;rw[<-es,<-em] at cu;rw[<-eu] at cw;rw[<-es] at cQ;have cy:=I cu;clear cu;have cX:=I (Nat.le_trans cw cA.o);clear cw;have cP:=I (Nat.le_trans cQ cA.o);clear cQ;clear eu es em
   by_cases hu:u = []
   ·subst hu
    rw[Sz] at hR;have HR:=I hR;clear hR
    go_wp2_with (go_at_call 144;refine Aj c3 ?_;rintro w3 O;clear c3;have H3:=I (HB.o.trans (O.below.mono (HN.o _ HB.o)));have ej:=I (HO.o.below O.below);clear O)
    go_roundg (gm m2 s2)
    case measure=>exact cy.o
    case rel=>exact⟨s2,p,l,true,m2,rfl,rfl,rfl,rfl,rfl,rfl,HR.o,cP.o,bq.o,ct.o,ej.o,H3.o⟩
   ·have tu:(u == [])=false:=by simpa using hu
    have c4:=fun w1=>KL u p w1 (by have:=cX.o;omega) (by have:=ct.o;omega)
    have eo:=VT u p;obtain⟨q,eq⟩:=Ak (CG u p);have c5:=fun w1=>Fm q w1 (by rw[eq];have:=cX.o;have:=ct.o;omega)
    rw[<-eq] at c4;have C4:=I c4;clear c4;have EQ:=I eq;clear eq eo;have HU:=I hu;clear hu;cases hq:isL q with
    |false=>
     have E:=I (show R=([],2) by rw[<-hR,VU HU.o (by rw[<-EQ.o];exact hq)]);rw[hq] at c5;have C5:=I c5;clear hR c5 hq
     go_wp2_with (first
      |(go_at_call 144;refine Aj c3 ?_;rintro w3 O;clear c3;have H3:=I (HB.o.trans (O.below.mono (HN.o _ HB.o)));clear O;have c4:=C4.o w3)
      |(go_at_call 145;refine Aj c4 ?_;rintro w4 O;clear c4;have H4:=I (H3.o.trans (O.below.mono (HN.o _ H3.o)));clear O;have c5:=C5.o w4)
      |(go_at_call 51;refine Aj c5 ?_;rintro w5 O;clear c5;have H5:=I (H4.o.trans (O.below.mono (HN.o _ H4.o)));clear O))
     go_ret2
     exact⟨⟨_,by rw[E.o];rfl,by rw[E.o];exact Own.nil _ _⟩,H5.o⟩
    |true=>
     have dz:=FP ((Lb q).1 hq);have eb:=Dh ((Lb q).1 hq);rw[hq] at c5;have C5:=I c5;have HQ:=I hq;have bs:=I dz;have cR:=I eb;clear c5 hq dz eb;have av:=fun h8=>SC (c:=c) (sv:=sv) (t:=Jn s2 m2) (l:=l) (n:=nl) HU.o (by rw[<-EQ.o];exact HQ.o:isL (CG u p)=true) h8
     have Z:=fun h8=>SD (c:=c) (sv:=sv) (t:=Jn s2 m2) (l:=l) (n:=nl) HU.o (by rw[<-EQ.o];exact HQ.o:isL (CG u p)=true) h8
     rw[<-EQ.o] at av Z;cases nl with
     |false=>
      rw[XV] at av Z;have c6:=fun w1 eg=>Ez _ l q w1 N (HO.o.below (w':=w1) eg)
      obtain⟨K,eK⟩:=Ak (addL l q);rw[<-eK] at av Z c6;have C6:=I c6;have EK:=I eK;clear c6 eK
      by_cases h8:8<K.length
      ·have e8:(8:Int)<(K.length:Int):=by omega
       have E:=I (show R=([],13) by rw[<-hR,Z h8]);clear h8 hR av Z
       go_wp2_with (first
        |(go_at_call 144;refine Aj c3 ?_;rintro w3 O;clear c3;have G3:=I O.below;have H3:=I (HB.o.trans (O.below.mono (HN.o _ HB.o)));clear O;have c4:=C4.o w3)
        |(go_at_call 145;refine Aj c4 ?_;rintro w4 O;clear c4;have G4:=I (bt G3.o O.below);have H4:=I (H3.o.trans (O.below.mono (HN.o _ H3.o)));clear O;have c5:=C5.o w4)
        |(go_at_call 51;refine Aj c5 ?_;rintro w5 O;clear c5;have G5:=I (bt G4.o O.below);have H5:=I (H4.o.trans (O.below.mono (HN.o _ H4.o)));clear O;have c6:=C6.o w5 G5.o (HN.o _ H5.o) (by have:=bq.o;omega) (by have:=bs.o;omega))
        |(go_at_call 148;refine Calls.mono c6 ?_;rintro e w6 ⟨v6,rfl,bb,bB,bn⟩;clear c6 bB;obtain⟨A6,c6,rfl,_⟩:=bb.slice;have H6:=I (H5.o.trans bn);clear bb bn))
       go_ret2
       exact⟨⟨_,by rw[E.o];rfl,by rw[E.o];exact Own.nil _ _⟩,H6.o⟩
      ·have e8:¬(8:Int)<(K.length:Int):=by omega
       have cB:=I (show K.length<=8 by omega);have HR:=I (show expF c sv (Jn s2 m2) K q false=R by rw[<-hR,av (by omega)]);clear h8 hR av Z
       go_wp2_with (first
        |(go_at_call 144;refine Aj c3 ?_;rintro w3 O;clear c3;have G3:=I O.below;have H3:=I (HB.o.trans (O.below.mono (HN.o _ HB.o)));clear O;have c4:=C4.o w3)
        |(go_at_call 145;refine Aj c4 ?_;rintro w4 O;clear c4;have G4:=I (bt G3.o O.below);have H4:=I (H3.o.trans (O.below.mono (HN.o _ H3.o)));clear O;have c5:=C5.o w4)
        |(go_at_call 51;refine Aj c5 ?_;rintro w5 O;clear c5;have G5:=I (bt G4.o O.below);have H5:=I (H4.o.trans (O.below.mono (HN.o _ H4.o)));clear O;have c6:=C6.o w5 G5.o (HN.o _ H5.o) (by have:=bq.o;omega) (by have:=bs.o;omega))
        |(go_at_call 148;refine Calls.mono c6 ?_;rintro e w6 ⟨v6,rfl,bb,bB,bn⟩;clear c6 bB;obtain⟨A6,c6,rfl,_⟩:=bb.slice;have H6:=I (H5.o.trans bn);have cx:=I bb;clear bb bn))
       go_roundg (gm m2 s2)
       case measure=>exact cy.o
       case rel=>exact⟨s2,q,K,false,m2,rfl,rfl,rfl,by rw[XT cR.o],rfl,rfl,HR.o,cP.o,cB.o,bs.o,cx.o,H6.o⟩
     |true=>
      rw[XU] at av Z;have c7:=fun w1=>Gn (Gq c p) q w1 (by have:=ec.o;omega) (by have:=bs.o;omega)
      have cd:=Gm (Gq c p) q;have bz:=Iq (a:=Gq c p) (b:=q);obtain⟨M,eM⟩:=Ak (Bq (Gq c p) q);rw[<-eM] at c7 cd bz av Z;have C7:=I c7;clear c7;have cg:=I cd;clear cd;have cp:=I bz;clear bz;clear eM;obtain⟨J,eJ⟩:=Ak (GP l M);have cY:=I (show J.length<=17 by rw[eJ];have:=Pu M l;have:=bq.o;have:=cg.o;omega);rw[<-eJ] at av Z;have EJ:=I eJ;clear eJ;obtain⟨K,eK⟩:=Ak (addL J q);rw[<-eK] at av Z;have EK:=I eK;clear eK
      by_cases h8:8<K.length
      ·have e8:(8:Int)<(K.length:Int):=by omega
       have E:=I (show R=([],13) by rw[<-hR,Z h8]);clear h8 hR av Z
       go_wp2_with (first
        |(go_at_call 144;refine Aj c3 ?_;rintro w3 O;clear c3;have G3:=I O.below;have H3:=I (HB.o.trans (O.below.mono (HN.o _ HB.o)));clear O;have c4:=C4.o w3)
        |(go_at_call 145;refine Aj c4 ?_;rintro w4 O;clear c4;have G4:=I (bt G3.o O.below);have H4:=I (H3.o.trans (O.below.mono (HN.o _ H3.o)));clear O;have c5:=C5.o w4)
        |(go_at_call 51;refine Aj c5 ?_;rintro w5 O;clear c5;have G5:=I (bt G4.o O.below);have H5:=I (H4.o.trans (O.below.mono (HN.o _ H4.o)));have cr:=I (HO.o.below G5.o);clear O;have c7:=C7.o w5)
        |(go_at_call 147;refine Calls.mono c7 ?_;rintro e w7 ⟨v7,rfl,cf,ca⟩;clear c7;obtain⟨A7,c7,e7,cq⟩:=cf.slice;have aw:=Le cr.o cf e7;subst e7;have H7:=I (H5.o.trans (ca.mono (HN.o _ H5.o)));have c8:=EE _ l M A7 c7 w7 N (cr.o.below ca) (HN.o _ H7.o) (by have:=bq.o;have:=cg.o;omega) cq aw cp.o;rw[<-EJ.o] at c8;clear aw cf ca cq)
        |(go_at_call 146;refine Calls.mono c8 ?_;rintro e w8 ⟨v8,rfl,cn,cM,cj⟩;clear c8 cM;have H8:=I (H7.o.trans cj);have c6:=Ez _ J q w8 N cn (HN.o _ H8.o) (by have:=cY.o;omega) (by have:=bs.o;omega);rw[<-EK.o] at c6;clear cn cj)
        |(go_at_call 148;refine Calls.mono c6 ?_;rintro e w6 ⟨v6,rfl,bb,bB,bn⟩;clear c6 bB;obtain⟨A6,c6,rfl,_⟩:=bb.slice;have H6:=I (H8.o.trans bn);clear bb bn))
       go_ret2
       exact⟨⟨_,by rw[E.o];rfl,by rw[E.o];exact Own.nil _ _⟩,H6.o⟩
      ·have e8:¬(8:Int)<(K.length:Int):=by omega
       have cB:=I (show K.length<=8 by omega);have HR:=I (show expF c sv (Jn s2 m2) K q false=R by rw[<-hR,av (by omega)]);clear h8 hR av Z
       go_wp2_with (first
        |(go_at_call 144;refine Aj c3 ?_;rintro w3 O;clear c3;have G3:=I O.below;have H3:=I (HB.o.trans (O.below.mono (HN.o _ HB.o)));clear O;have c4:=C4.o w3)
        |(go_at_call 145;refine Aj c4 ?_;rintro w4 O;clear c4;have G4:=I (bt G3.o O.below);have H4:=I (H3.o.trans (O.below.mono (HN.o _ H3.o)));clear O;have c5:=C5.o w4)
        |(go_at_call 51;refine Aj c5 ?_;rintro w5 O;clear c5;have G5:=I (bt G4.o O.below);have H5:=I (H4.o.trans (O.below.mono (HN.o _ H4.o)));have cr:=I (HO.o.below G5.o);clear O;have c7:=C7.o w5)
        |(go_at_call 147;refine Calls.mono c7 ?_;rintro e w7 ⟨v7,rfl,cf,ca⟩;clear c7;obtain⟨A7,c7,e7,cq⟩:=cf.slice;have aw:=Le cr.o cf e7;subst e7;have H7:=I (H5.o.trans (ca.mono (HN.o _ H5.o)));have c8:=EE _ l M A7 c7 w7 N (cr.o.below ca) (HN.o _ H7.o) (by have:=bq.o;have:=cg.o;omega) cq aw cp.o;rw[<-EJ.o] at c8;clear aw cf ca cq)
        |(go_at_call 146;refine Calls.mono c8 ?_;rintro e w8 ⟨v8,rfl,cn,cM,cj⟩;clear c8 cM;have H8:=I (H7.o.trans cj);have c6:=Ez _ J q w8 N cn (HN.o _ H8.o) (by have:=cY.o;omega) (by have:=bs.o;omega);rw[<-EK.o] at c6;clear cn cj)
        |(go_at_call 148;refine Calls.mono c6 ?_;rintro e w6 ⟨v6,rfl,bb,bB,bn⟩;clear c6 bB;obtain⟨A6,c6,rfl,_⟩:=bb.slice;have H6:=I (H8.o.trans bn);have cx:=I bb;clear bb bn))
       go_roundg (gm m2 s2)
       case measure=>exact cy.o
       case rel=>exact⟨s2,q,K,false,m2,rfl,rfl,rfl,by rw[XT cR.o],rfl,rfl,HR.o,cP.o,cB.o,bs.o,cx.o,H6.o⟩
theorem SL (s c sv:L) (w:World) (hs:s.length<=90000) (M:c.length<=1000000000) (O:sv.length<=1000000000) :
  Calls Tryz.prog 93 #[.string ⟨s.toArray⟩,.string ⟨c.toArray⟩,.string ⟨sv.toArray⟩] w fun e w'=>ExpV w' w.heap.size e (expL s c sv)/\Below w.heap.size w w':=by
 by_cases h:isL c=true/\isL sv=true
 ·exact Zf s c sv w hs h.1 h.2
 ·refine Ze s c sv w M O ?_
  cases h1:isL c with
  |false=>exact .inl rfl
  |true=>
   cases h2:isL sv with
   |false=>exact .inr rfl
   |true=>exact absurd ⟨h1,h2⟩ h
end Tr
end Go.Proofs.YthkdjblnmkkcfaaGreat
