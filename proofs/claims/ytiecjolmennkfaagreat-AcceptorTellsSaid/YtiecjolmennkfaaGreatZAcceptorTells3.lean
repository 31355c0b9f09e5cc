import Derived.Test.YtiecjolmennkfaaGreatZAcceptorTells1
set_option maxHeartbeats 25600000
set_option maxRecDepth 100000
set_option linter.unusedVariables false
set_option linter.unusedSimpArgs false
namespace Go.Proofs.YtiecjolmennkfaaGreat
namespace Tr
open Nm
theorem SD (c:UInt8) (l:L):((split c l).map fun p=>p.length+1).sum=l.length+1:=by
 induction l with
 |nil=>simp [split]
 |cons y r ih=>
  rw[split]
  by_cases e:y=c
  ·rw[if_pos e];simp [ih];omega
  ·rw[if_neg e]
   cases hs:split c r with
   |nil=>exact absurd hs (Kx c r)
   |cons a t=>
    rw[hs] at ih;simp only[List.map_cons,List.sum_cons,List.length_cons] at ih⊢;omega
theorem bU {ls:List L} (h:ls.all (Cn capB)=true):(ls.map fun p=>p.length+1).sum<=9*ls.length:=by
 induction ls with
 |nil=>simp
 |cons a t ih=>
  simp only[List.all_cons,Bool.and_eq_true] at h;have M:=((Fy _ _).1 h.1).2.1;have:=ih h.2;simp only[List.map_cons,List.sum_cons,List.length_cons];omega
theorem Pq {c:UInt8} {l:L} (h:Co (split c l)=true):l.length<=35:=by
 have M:=(CK _).1 h;have O:=bU M.2.2;have Z:=SD c l;omega
theorem kind_two' {l:L} (h:AU l=2):∃t,l=47 :: t/\Co (split 47 t)=true:=by
 have M:=Iz h;simp only[slL,Bool.and_eq_true,decide_eq_true_eq] at M;cases l with
 |nil=>simp at M
 |cons x t=>
  simp only[List.head?_cons,Option.some.injEq,List.tail_cons] at M;exact⟨t,by rw[M.1],M.2⟩
theorem QB {l:L} (h:AU l≠0):AU l=1\/AU l=2:=by have:=Ja l;omega
theorem FR {l:L} (h:AU l≠0):l.length<=36:=by
 rcases QB h with h | h
 ·have:=Pq (KC h);omega
 ·obtain⟨t,rfl,M⟩:=kind_two' h
  have:=Pq M;simp only[List.length_cons];omega
theorem La (l:L):isL l=true↔AU l≠0:=by simp [isL];omega
def sufL (p l:L):Bool:=p.isSuffixOf l
theorem SE {p l:L}:sufL p l=true↔∃u,l=u++p:=by
 rw[sufL,List.isSuffixOf_iff_suffix];exact⟨fun⟨t,e⟩=>⟨t,e.symm⟩,fun⟨t,e⟩=>⟨t,e.symm⟩⟩
def preB (p l:L):Bool:=p.isPrefixOf l
theorem GQ {p l:L}:preB p l=true↔∃u,l=p++u:=by
 rw[preB,List.isPrefixOf_iff_prefix];exact⟨fun⟨t,e⟩=>⟨t,e.symm⟩,fun⟨t,e⟩=>⟨t,e.symm⟩⟩
def CH (f p:L):L:=if sufL [46] f then f++p else if preB [47] f&&decide (AU p=2) then p++f else if preB [32,47] f then f.drop 1 else f
theorem Wc (f p:L):(CH f p).length<=f.length+p.length:=by
 rw[CH];split
 ·simp
 ·split
  ·simp;omega
  ·split
   ·simp;omega
   ·omega
def Hv (p:L) (m:List L):L:=if m = [] then p else pl m (m.length - 1)
def addL (l:List L) (r:L):List L:=if r∈l then l else l++[r]
def GR (l rs:List L):List L:=rs.foldl addL l
theorem Zh (l:List L) (r:L):(addL l r).length<=l.length+1:=by rw[addL];split<;>simp
theorem SF (l:List L) (r:L) (t:List L):GR l (r :: t)=GR (addL l r) t:=rfl
theorem Ob (l a b:List L):GR l (a++b)=GR (GR l a) b:=List.foldl_append
theorem Ps (rs:List L):∀l,(GR l rs).length<=l.length+rs.length:=by
 induction rs with
 |nil=>intro l;exact Nat.le_refl _
 |cons r t ih=>intro l;rw[SF];have:=ih (addL l r);have:=Zh l r;simp only[List.length_cons];omega
theorem bV {l:List L} {r:L} (h:r∈l):addL l r=l:=if_pos h
theorem Zi {l:List L} {r:L} (h:r∉l):addL l r=l++[r]:=if_neg h
def Gr (c p:L):L:=if p = [] then c else p
def Mr (l:List L):List L×Nat:=if 8<l.length then ([],13) else (l,0)
def Lb (c:L) (l:List L) (p r:L) (n:Bool):List L:=if n then GR l (Bt (Gr c p) r) else l
def expF (c sv:L):List L->List L->L->Bool->List L×Nat
  | [],l,p,n=>Mr (Lb c l p sv n)
  | f :: t, l, p, n => if f = [] then expF c sv t l p true else
      if isL (CH f p) then
        (if 8<(addL (Lb c l p (CH f p) n) (CH f p)).length then ([],13) else expF c sv t (addL (Lb c l p (CH f p) n) (CH f p)) (CH f p) false)
      else ([],2)
def expL (s c sv:L):List L×Nat:=if isL c&&isL sv then (if s = [] then ([],0) else expF c sv (split 44 s) [] [] false) else ([],1)
theorem SG (c sv:L) (t l:List L) (p:L) (n:Bool):expF c sv ([] :: t) l p n=expF c sv t l p true:=by rw[expF,if_pos rfl]
theorem We {c sv f:L} {t l:List L} {p:L} {n:Bool} (h:f≠[]) (M:isL (CH f p)=false):expF c sv (f :: t) l p n=([],2):=by rw[expF,if_neg h,if_neg (by simp [M])]
theorem SH {c sv f:L} {t l:List L} {p:L} {n:Bool} (h:f≠[]) (M:isL (CH f p)=true) (O:(addL (Lb c l p (CH f p) n) (CH f p)).length<=8) :
 expF c sv (f :: t) l p n=expF c sv t (addL (Lb c l p (CH f p) n) (CH f p)) (CH f p) false:=by rw[expF,if_neg h,if_pos M,if_neg (by omega)]
theorem SI {c sv f:L} {t l:List L} {p:L} {n:Bool} (h:f≠[]) (M:isL (CH f p)=true) (O:8<(addL (Lb c l p (CH f p) n) (CH f p)).length) :
 expF c sv (f :: t) l p n=([],13):=by rw[expF,if_neg h,if_pos M,if_pos O]
theorem bW {s c sv:L} (h:isL c=false\/isL sv=false):expL s c sv=([],1):=by
 rw[expL,if_neg];rcases h with h | h<;>simp [h]
theorem SJ {c sv:L} (h:isL c=true) (M:isL sv=true):expL [] c sv=([],0):=by rw[expL,h,M];rfl
theorem Wf {s c sv:L} (h:isL c=true) (M:isL sv=true) (hs:s≠[]):expL s c sv=expF c sv (split 44 s) [] [] false:=by rw[expL,h,M,if_pos (show(true&&true)=true from rfl),if_neg hs]
theorem Wg (l:List L):(Mr l).1.length<=8:=by rw[Mr];split<;>simp;omega
theorem Wi (c sv:L) (M:List L):∀l p n,(expF c sv M l p n).1.length<=8:=by
 induction M with
 |nil=>intro l p n;exact Wg _
 |cons f t ih=>
  intro l p n;rw[expF]
  split
  ·exact ih _ _ _
  ·split
   ·split
    ·simp
    ·exact ih _ _ _
   ·simp
theorem SK (s c sv:L):(expL s c sv).1.length<=8:=by
 rw[expL];split
 ·split
  ·simp
  ·exact Wi _ _ _ _ _ _
 ·simp
open Go.RowKit Af
attribute [local go_sem] Et List.getElem_cons_zero List.getElem_cons_succ Cg Ch DB Dt
theorem Wj {p l:L} {k:Nat} (h:l.length=k+p.length):(l.drop k==p)=sufL p l:=by
  rw[Bool.eq_iff_iff,SE,beq_iff_eq];constructor
  · intro e
    exact ⟨l.take k, by conv => rhs; rw [<- e]
                        exact(List.take_append_drop k l).symm⟩
  · rintro ⟨u, rfl⟩
    have:k=u.length:=by simp at h;omega
    rw[this];simp
theorem Zj {p l:L} (h:sufL p l=true):p.length<=l.length:=by
 obtain⟨u,rfl⟩:=SE.1 h;simp
theorem Lc (l p:L) (w:World) (hs:l.length<=1000000000) (hp:p.length<=1000000000):Calls Tryz.prog 226 #[.string ⟨l.toArray⟩,.string ⟨p.toArray⟩] w fun e w'=>
  e=.returned (.bool (sufL p l))/\w=w':=by
 by_cases h:p.length<=l.length
 ·obtain⟨k,hk⟩:∃k,l.length=k+p.length:=⟨l.length - p.length,by omega⟩
  have E:=I (Wj hk);have M:(p.length:Int)<=(l.length:Int):=by omega
  have O:(l.length:Int) - (p.length:Int)=(k:Int):=by omega
  have Z:(k:Int)<=(l.length:Int):=by omega
  clear h hk;go_enter Tryz.func226,Tryz.ntmps226
  go_wp2
  go_ret;exact⟨by rw[<-E.o];rfl,rfl⟩
 ·have E:=I (show sufL p l=false by
   cases q:sufL p l with
   |false=>rfl
   |true=>exact absurd (Zj q) h)
  have M:¬(p.length:Int)<=(l.length:Int):=by omega
  clear h;go_enter Tryz.func226,Tryz.ntmps226
  go_wp2
  go_ret;exact⟨by rw[E.o];rfl,rfl⟩
theorem JY (l p:L) (w:World) (hs:l.length<=1000000000) (hp:p.length<=1000000000):Calls Tryz.prog 180 #[.string ⟨l.toArray⟩,.string ⟨p.toArray⟩] w fun e w'=>
  e=.returned (.bool (sufL p l))/\w=w':=by
 have c1:=Lc l p w hs hp;go_enter Tryz.func180,Tryz.ntmps180
 go_wp2_with (go_at_call 226;refine Aj c1 ?_;rintro w1 rfl)
 go_ret;exact⟨rfl,rfl⟩
theorem Gi (l p:L) (w:World) (hs:l.length<=1000000000) (hp:p.length<=1000000000):Calls Tryz.prog 181 #[.string ⟨l.toArray⟩,.string ⟨p.toArray⟩] w fun e w'=>
  e=.returned (.bool (preB p l))/\w=w':=by
 have c1:Calls Tryz.prog 198 #[.string ⟨l.toArray⟩,.string ⟨p.toArray⟩] w fun e w'=>e=.returned (.bool (preB p l))/\w=w':=Ez l p w hs hp
 go_enter Tryz.func181,Tryz.ntmps181
 go_wp2_with (go_at_call 198;refine Aj c1 ?_;rintro w1 rfl)
 go_ret;exact⟨rfl,rfl⟩
def tpL (p l:L):L:=if preB p l then l.drop p.length else l
theorem Wk {p l:L} (h:preB p l=true):p.length<=l.length:=by
 obtain⟨u,rfl⟩:=GQ.1 h;simp
theorem GU (l p:L) (w:World) (hs:l.length<=1000000000) (hp:p.length<=1000000000):Calls Tryz.prog 227 #[.string ⟨l.toArray⟩,.string ⟨p.toArray⟩] w fun e w'=>
  e=.returned (.string ⟨(tpL p l).toArray⟩)/\w=w':=by
 have c1:Calls Tryz.prog 198 #[.string ⟨l.toArray⟩,.string ⟨p.toArray⟩] w fun e w'=>e=.returned (.bool (preB p l))/\w=w':=Ez l p w hs hp
 by_cases h:preB p l=true
 ·have M:=Wk h
  have E:=I (show tpL p l=l.drop p.length by rw[tpL,if_pos h]);rw[h] at c1;have O:(p.length:Int)<=(l.length:Int):=by omega
  clear h M;go_enter Tryz.func227,Tryz.ntmps227
  go_wp2_with (go_at_call 198;refine Aj c1 ?_;rintro w1 rfl)
  go_ret;exact⟨by rw[E.o];rfl,rfl⟩
 ·have h:preB p l=false:=by simpa using h
  have E:=I (show tpL p l=l by rw[tpL,if_neg (by simp [h])]);rw[h] at c1;clear h;go_enter Tryz.func227,Tryz.ntmps227
  go_wp2_with (go_at_call 198;refine Aj c1 ?_;rintro w1 rfl)
  go_ret;exact⟨by rw[E.o];rfl,rfl⟩
theorem JZ (l p:L) (w:World) (hs:l.length<=1000000000) (hp:p.length<=1000000000):Calls Tryz.prog 182 #[.string ⟨l.toArray⟩,.string ⟨p.toArray⟩] w fun e w'=>
  e=.returned (.string ⟨(tpL p l).toArray⟩)/\w=w':=by
 have c1:=GU l p w hs hp;go_enter Tryz.func182,Tryz.ntmps182
 go_wp2_with (go_at_call 227;refine Aj c1 ?_;rintro w1 rfl)
 go_ret;exact⟨rfl,rfl⟩
def ixL (r:L) (ls:List L):Int:=if r∈ls then ((ls.findIdx fun x=>decide (x=r):Nat):Int) else -1
theorem Pu {ls:List L} {r:L} {i:Nat} (hi:i<ls.length) (h:pl ls i=r) (M:∀k,k<i->pl ls k≠r):ixL r ls=(i:Int):=by
 have hm:r∈ls:=by rw[<-h];exact DQ hi
 rw[ixL,if_pos hm]
 congr 1
 rcases Nat.lt_trichotomy (ls.findIdx fun x=>decide (x=r)) i with g | g | g
 ·have:=List.findIdx_getElem (p:=fun x=>decide (x=r)) (w:=(by omega:(ls.findIdx fun x=>decide (x=r))<ls.length))
  exact absurd (by rw[CO (by omega)];simpa using this) (M _ g)
 ·exact g
 ·have:=List.not_of_lt_findIdx g
  rw[CO hi] at h;simp [h] at this
theorem SL {ls:List L} {r:L} (M:∀k,k<ls.length->pl ls k≠r):ixL r ls = -1:=by
 rw[ixL,if_neg];intro hm;obtain⟨i,hi,e⟩:=mem_pl hm;exact M i hi e
theorem Zk (r:L) (ls:List L):decide (0<=ixL r ls)=decide (r∈ls):=by
 rw[ixL]
 by_cases h:r∈ls
 ·rw[if_pos h];simp [h]
 ·rw[if_neg h];simp [h]
theorem QC (ls:List L) (A:Option Addr) (c B:Nat) (r:L) (w:World) (hl:ls.length<=9000000000000000) (hr:Rd w B A (strs ls)) :
  Calls Tryz.prog 69 #[.slice A ls.length c,.string ⟨r.toArray⟩] w fun e w'=>e=.returned (.int .i64 (ixL r ls))/\w=w':=by
 have HR:=I hr;clear hr;obtain⟨n,en⟩:=Ak (ls.length);rw[<-en] at hl⊢;have Z:=I en;clear en;go_enter Tryz.func69,Tryz.ntmps69
 go_wp2
 go_loop [8] (fun O=>∃i:Nat,i<=n/\O=.int .i64 (i:Int)/\∀k,k<i->pl ls k≠r) (fun O=>n - (intOf O).toNat)
 case atStart=>exact⟨0,Nat.zero_le _,rfl,fun k h=>absurd h (Nat.not_lt_zero k)⟩
 case round=>
  obtain⟨i,hi,rfl,hn⟩:=hrel;have M:=I hn;clear hn
  by_cases hlt:i<n
  ·have e1:(i:Int)<(n:Int):=by omega
   have e2:(0:Int)<=(i:Int):=by omega
   obtain⟨b,o,rfl,_,h1⟩:=CU HR.o (i:=i) (by rw[<-Z.o];exact hlt)
   by_cases hx:pl ls i=r
   ·have t1:(r==pl ls i)=true:=by simpa using hx.symm
    have E:=I (Pu (by rw[<-Z.o];exact hlt) hx M.o);clear hx
    go_wp2
    go_ret;exact⟨by rw[E.o];rfl,rfl⟩
   ·have t1:(r==pl ls i)=false:=by simpa using fun g:r=pl ls i=>hx g.symm
    have HX:=I hx;clear hx
    go_wp2
    go_round
    case rel=>exact⟨i+1,by omega,by go_num,fun k hk=>by
     by_cases q:k=i
     ·rw[q];exact HX.o
     ·exact M.o k (by omega)⟩
    case measure=>simp [intOf];omega
  ·have e1:¬(i:Int)<(n:Int):=by omega
   have E:=I (SL (ls:=ls) (r:=r) fun k hk=>M.o k (by have:=Z.o;omega))
   go_wp2
   go_ret;exact⟨by rw[E.o];rfl,rfl⟩
theorem Cb (ls:List L) (A:Option Addr) (c B:Nat) (r:L) (w:World) (Z:ls.length<=9000000000000000) (O:Rd w B A (strs ls)) :
  Calls Tryz.prog 32 #[.slice A ls.length c,.string ⟨r.toArray⟩] w fun e w'=>e=.returned (.bool (decide (r∈ls)))/\w=w':=by
 have c1:=QC ls A c B r w Z O;have E:=I (Zk r ls);obtain⟨z,M⟩:=Ak (ixL r ls);rw[<-M] at c1;have EZ:=I M;clear M O;go_enter Tryz.func32,Tryz.ntmps32
 go_wp2_with (go_at_call 69;refine Aj c1 ?_;rintro w1 rfl)
 go_ret;exact⟨by rw[<-E.o,<-EZ.o];rfl,rfl⟩
end Tr
namespace Tr
open Go.RowKit Af Nm
def Far (w w':World) (v v':Value):Prop:=w.heap.size<=w'.heap.size/\∀b,b<w.heap.size->v.ownBlock≠some b->w'.heap[b]? = w.heap[b]?/\v'.ownBlock≠some b
theorem Far.refl (w:World) (v:Value):Far w w v v:=⟨Nat.le_refl _,fun _ _ h=>⟨rfl,h⟩⟩
theorem Far.trans {w w1 w2:World} {v v1 v2:Value} (h:Far w w1 v v1) (k:Far w1 w2 v1 v2):Far w w2 v v2:=by
 refine⟨Nat.le_trans h.1 k.1,fun b M Z=>?_⟩;obtain⟨a1,O⟩:=h.2 b M Z;obtain⟨c1,c2⟩:=k.2 b (Nat.lt_of_lt_of_le M h.1) O;exact⟨c1.trans a1,c2⟩
theorem Far.below {w w':World} (v:Value) (h:Below w.heap.size w w'):Far w w' v v:=⟨h.size,fun b O M=>⟨h.block b O,M⟩⟩
theorem SM {w w':World} {b:Nat} (h:w'.heap[b]? = w.heap[b]?) (o:Nat):w'.cell? ⟨b,o,none⟩=w.cell? ⟨b,o,none⟩:=by
 simp only[World.cell?,h]
def Off (A:Option Addr) (v:Value):Prop:=∀b o,A=some ⟨b,o,none⟩->v.ownBlock≠some b
theorem Far.rd {w w':World} {v v':Value} {A:Option Addr} {xs:List Value} (h:Far w w' v v') (hr:Rd w w.heap.size A xs) (Z:Off A v):Rd w' w'.heap.size A xs/\(xs = []\/Off A v'):=by
 rcases hr with g | ⟨b,o,rfl,M,hc⟩
 ·exact⟨.inl g,.inl g⟩
 ·obtain⟨O,h2⟩:=h.2 b M (Z b o rfl)
  refine⟨.inr ⟨b,o,rfl,Nat.lt_of_lt_of_le M h.1,fun i u hu=>(SM O _).trans (hc i u hu)⟩,.inr ?_⟩;intro b' o' e;injection e with e;injection e with e1 e2;subst e1;exact h2
theorem Ld {w:World} {v:Value} {ls:List L} {base:Nat} (h:Own w base v ls) {w':World} {v2:Value} {A:Option Addr} {n c:Nat} {ms:List L} (M:Own w' w.heap.size v2 ms) (e:v2=.slice A n c):Off A v:=by
 intro b o eA O;have h3:=(h.lt b O).2;subst eA;subst e;rcases M.2 with⟨q,_⟩ | ⟨g,cap,cur,q,Z,_⟩
 ·cases q
 ·injection q with q1
  injection q1 with q1;injection q1 with q1 q2;omega
theorem Wl (w:World) (base:Nat) (ty:TypeId) (v:Value) (ls:List L) (M:Own w base v ls) (B:Nat) (a:Addr) (c:Nat) (ms:List L) (hr:Rd w B (some a) (strs ms))
  (hl:ls.length+ms.length<=8000000000000) (hb:base<=w.heap.size) :
  ∃v' w',(Builtin.append_ #[36,36] ty #[v,.slice (some a) ms.length c]).run Tryz.prog w=.ok v' w'/\Own w' base v' (ls++ms)/\Own w' base v ls/\w.grownBy w' v.ownBlock/\(v'.ownBlock=v.ownBlock\/v'.ownBlock=some w.heap.size):=by
 obtain⟨i0,bq,bz,aw,bs⟩:=info_parts IB;have bn:(strs ms).length=ms.length:=DR ms;obtain⟨v',w',O,h2,h3,h4⟩:=Gy (P:=Tryz.prog) w base 36 ty 9 i0 _ 16 Tryz.underlying36 bq bz aw bs rfl v ls.length (strs ls) M B (some a) ms.length c (strs ms) bn.symm hr (KM _) (by unfold maxLen;omega) (by omega) hb;have Z:∀j u,(strs ms)[j]? = some u->w.cell? (a.add j)=some u:=by
  rcases hr with h | ⟨b,o,h1,_,h3⟩
  ·rw[h];intro i u hu;simp at hu
  ·injection h1 with h1
   subst h1;intro i u hu;rw[addr_add];exact h3 i u hu
 refine⟨v',w',O,by rw[Own,List.length_append,Je];exact h2,?_,h3,h4⟩;rcases M.2 with⟨rfl,hx⟩ | ⟨g,cap,cur,rfl,cd,hg,cf,ca,cp,cb⟩
 ·have e:ls = []:=List.eq_nil_of_length_eq_zero hx
  subst e;exact Own.nil _ _
 ·by_cases hroom:ls.length+ms.length<=cap
  ·obtain⟨w2,av,cg,_⟩:=run_append_fits (P:=Tryz.prog) (w:=w) base 36 ty 9 i0 1 Tryz.underlying36 bq aw g ls.length cap (strs ls) M a ms.length c (strs ms) (by rw[bn];omega) Z (KM _) hroom
   rw[O] at av;injection av with e1 e2;subst e1;subst e2;rcases cg.2 with⟨q,_⟩ | ⟨g',ck,bB,q,cj,cc,cm,cn,bx,bb⟩
   ·cases q
   ·injection q with q1 q2 q3
    injection q1 with q1;injection q1 with q1;subst q1;subst q3;refine⟨M.1,.inr ⟨g,cap,bB,rfl,cd,cc,cf,ca,bx,?_⟩⟩;have e3:=congrArg (List.take (ls.length*1)) bb;rw[List.take_take,Nat.min_eq_left (by omega)] at e3;rw[e3,List.take_left' (by rw[DR];omega)]
  ·have holds:∀j u,(strs ls)[j]? = some u->w.cell? ((⟨g,0,none⟩:Addr).add j)=some u:=World.ownsRow.cells (g:=g) M rfl
   have av:=run_append_grow (P:=Tryz.prog) w 36 ty 9 i0 _ Tryz.underlying36 bq bz ⟨g,0,none⟩ ls.length cap (strs ls) (by rw[aw,DR];omega) holds a ms.length c (strs ms) (by rw[aw,bn];omega) Z (by omega) (by omega) (by rw[bs];exact growslice_fits (by omega) (by omega));rw[O] at av;injection av with e1 e2;subst e2;exact M.below (((Below.refl _ _:Below w.heap.size w w).drew).alloc Ag _)
section
variable {w:World} {ops:Array Oper} {rest:List Oper} {o:Oper} {a:Act} {Q:Exit->Act->World->Prop}
theorem Wm (av:o.guard=none) (s x:Operand) (ho:o.op=.call {callee:=.builtin .append,args:=#[s,x],argTypes:=#[36,36]})
  (base:Nat) (v:Value) (ls:List L) (hs:a.eval s=v) (O:Own w base v ls) (r:L) (hx:a.eval x=.slice (some ⟨w.heap.size,0,none⟩) 1 1)
  (hl:ls.length+1<=8000000000000) (hb:base<=w.heap.size)
  (h:∀v' w',Own w' base v' (ls++[r])->Own w' base v ls->Far w w' v v'->Below base w w'->wpList Tryz.prog ops Q rest (a.put o.dst v') w'):wpList Tryz.prog ops Q (o :: rest) a (w.alloc (.cells #[.string ⟨r.toArray⟩] 9)):=by
 have Z:Below w.heap.size w (w.alloc (.cells #[.string ⟨r.toArray⟩] 9)):=Ah.alloc Ag _;have aw:(w.alloc (.cells #[.string ⟨r.toArray⟩] 9)).heap.size=w.heap.size+1:=by simp
 have hr:Rd (w.alloc (.cells #[.string ⟨r.toArray⟩] 9)) (w.heap.size+1) (some ⟨w.heap.size,0,none⟩) (strs [r]):=by
  refine .inr ⟨w.heap.size,0,rfl,by omega,fun i u hu=>?_⟩;cases i with
  |zero=>
   simp only[strs,List.map_cons,List.map_nil,List.getElem?_cons_zero,Option.some.injEq] at hu;subst hu;exact(Blk.new w 9 _).cell 0
  |succ i=>simp [strs] at hu
 obtain⟨v',w',M,h2,h3,h4,h5⟩:=Wl _ base o.type v ls (O.below Z) (w.heap.size+1) ⟨w.heap.size,0,none⟩ 1 [r] hr hl (by omega);refine wpList_plain av fun K hK=>?_
 unfold Oper.wp execOp;simp only[List.length_cons,List.length_nil,Nat.zero_add] at M;simp only[ho,resolve,invoke,builtin,Sem.run_bind,Sem.run_pure,Result.andThen_ok,List.map_toArray,List.map_cons,List.map_nil,hs,hx,M];refine hK _ _ (h v' w' h2 h3 ⟨by have:=h4.size;omega,fun b bb hn=>⟨(h4.block b (by omega) (fun e=>hn e.symm)).trans (Z.block b bb),?_⟩⟩ ?_)
 ·rcases h5 with g | g
  ·rw[g];exact hn
  ·rw[g,aw];intro q;injection q with q;omega
 ·exact(Z.mono hb).grown h4 (by omega) (fun k hk=>(O.lt k hk).1)
end
attribute [local go_sem] Et List.getElem_cons_zero List.getElem_cons_succ Cg Ch DB Dt
theorem Wn {f p:L} (h:sufL [46] f=true):CH f p=f++p:=by rw[CH,if_pos h]
theorem Zl {f p:L} (h:sufL [46] f=false) (O:preB [47] f=true) (M:AU p=2):CH f p=p++f:=by rw[CH,h,O,M];rfl
theorem Zm {f p:L} (h:sufL [46] f=false) (M:preB [47] f=false\/AU p≠2) (O:preB [32,47] f=true):CH f p=f.drop 1:=by
 rw[CH,h,O];rcases M with M | M
 ·rw[M];rfl
 ·rw[decide_eq_false M];simp
theorem SN {f p:L} (h:sufL [46] f=false) (M:preB [47] f=false\/AU p≠2) (O:preB [32,47] f=false):CH f p=f:=by
 rw[CH,h,O];rcases M with M | M
 ·rw[M];rfl
 ·rw[decide_eq_false M];simp
theorem Wo {f:L} (h:preB [32,47] f=true):tpL [32] f=f.drop 1:=by
 obtain⟨u,rfl⟩:=GQ.1 h;rw[tpL,if_pos (show preB [32] ([32,47]++u)=true from GQ.2 ⟨47 :: u,rfl⟩)];rfl
theorem KJ (f p:L) (w:World) (hs:f.length<=100000) (hp:p.length<=100000):Calls Tryz.prog 134 #[.string ⟨f.toArray⟩,.string ⟨p.toArray⟩] w fun e w'=>
  e=.returned (.string ⟨(CH f p).toArray⟩)/\AV w w':=by
 have c1:=JY f [46] w (by omega) (by decide);have HD:=I (AV.refl w);cases h:sufL [46] f with
 |true=>
  have E:=I ((Mh f p).trans (by rw[<-Wn (p:=p) h]));rw[h] at c1;clear h;go_enter Tryz.func134,Tryz.ntmps134
  go_wp2_with (go_at_call 180;refine Aj c1 ?_;rintro w1 rfl)
  go_ret;exact⟨by rw[<-E.o];rfl,HD.o⟩
 |false=>
  rw[h] at c1;have c2:=Gi f [47] w (by omega) (by decide);have M:=I (fun w1=>Gi f [32,47] w1 (by omega) (by decide));have Z:=I (fun w1=>JZ f [32] w1 (by omega) (by decide));have c5:=KL p w (by omega);cases h1:preB [47] f with
  |true=>
   rw[h1] at c2
   by_cases h2:AU p=2
   ·have E:=I ((Mh p f).trans (by rw[<-Zl h h1 h2]))
    rw[h2] at c5;clear h h1 h2 M Z;go_enter Tryz.func134,Tryz.ntmps134
    go_wp2_with (first
     |(go_at_call 180;refine Aj c1 ?_;rintro w1 rfl)
     |(go_at_call 181;refine Aj c2 ?_;rintro w1 rfl)
     |(go_at_call 97;refine Aj c5 ?_;rintro w2 O;have H2:=I O;clear O c5))
    go_ret;exact⟨by rw[<-E.o];rfl,H2.o⟩
   ·have t:((AU p:Int)==2)=false:=by simp;omega
    cases h3:preB [32,47] f with
    |true=>
     exfalso
     obtain⟨u,e⟩:=GQ.1 h1;obtain⟨v,g⟩:=GQ.1 h3;rw[e] at g;have:=congrArg List.head? g;revert this;simp
    |false=>
     have c3:=fun w1=>M.o w1
     rw[h3] at c3;have av:=I c3;have E:=I (SN h (.inr h2) h3);clear h h1 h2 h3 M Z c3;go_enter Tryz.func134,Tryz.ntmps134
     go_wp2_with (first
      |(go_at_call 180;refine Aj c1 ?_;rintro w1 rfl)
      |(go_at_call 181;refine Aj c2 ?_;rintro w1 rfl;clear c2)
      |(go_at_call 97;refine Aj c5 ?_;rintro w2 O;have H2:=I O;clear O c5;have c3:=av.o w2)
      |(go_at_call 181;refine Aj c3 ?_;rintro w3 rfl))
     go_ret;exact⟨by rw[E.o];rfl,H2.o⟩
  |false=>
   rw[h1] at c2;cases h3:preB [32,47] f with
   |true=>
    have c3:=M.o w;rw[h3] at c3;have c4:=Z.o w;rw[Wo h3,<-Zm (p:=p) h (.inl h1) h3] at c4;clear h h1 h3 M Z;go_enter Tryz.func134,Tryz.ntmps134
    go_wp2_with (first
     |(go_at_call 180;refine Aj c1 ?_;rintro w1 rfl)
     |(go_at_call 181;refine Aj c2 ?_;rintro w1 rfl;clear c2)
     |(go_at_call 181;refine Aj c3 ?_;rintro w3 rfl)
     |(go_at_call 182;refine Aj c4 ?_;rintro w3 rfl))
    go_ret;exact⟨rfl,HD.o⟩
   |false=>
    have c3:=M.o w;rw[h3] at c3;have E:=I (SN (p:=p) h (.inl h1) h3);clear h h1 h3 M Z;go_enter Tryz.func134,Tryz.ntmps134
    go_wp2_with (first
     |(go_at_call 180;refine Aj c1 ?_;rintro w1 rfl)
     |(go_at_call 181;refine Aj c2 ?_;rintro w1 rfl;clear c2)
     |(go_at_call 181;refine Aj c3 ?_;rintro w3 rfl))
    go_ret;exact⟨by rw[E.o];rfl,HD.o⟩
theorem EI (v:Value) (ls:List L) (r:L) (w:World) (base:Nat) (ho:Own w base v ls) (M:base<=w.heap.size) (hl:ls.length<=1000000) (hs:r.length<=1000000000) :
  Calls Tryz.prog 137 #[v,.string ⟨r.toArray⟩] w fun e w'=>∃v',e=.returned v'/\Own w' base v' (addL ls r)/\Far w w' v v'/\Below base w w':=by
 obtain⟨A,c,rfl,hr⟩:=ho.slice;have c1:=Cb ls A c _ r w (by omega) hr;have bB:=I (Below.refl base w);have HO:=I ho;clear ho hr;have ca:=I (Far.refl w (.slice A ls.length c))
 by_cases h:r∈ls
 ·rw[decide_eq_true h] at c1
  have E:=I (bV h);clear h M hl hs;go_enter Tryz.func137,Tryz.ntmps137
  go_wp2_with (go_at_call 32;refine Aj c1 ?_;rintro w1 rfl)
  go_ret;exact⟨_,rfl,by rw[E.o];exact HO.o,ca.o,bB.o⟩
 ·rw[decide_eq_false h] at c1
  have E:=I (Zi h);have c2:=BZ r w hs;have Z:=I M;have HL:=I hl;clear h hs M hl;go_enter Tryz.func137,Tryz.ntmps137
  go_wp2_with (first
   |(go_at_call 32;refine Aj c1 ?_;rintro w1 rfl)
   |(go_at_call 63;refine Aj c2 ?_;rintro w2 M;clear c2;have H2:=I (M.mono Z.o);have bs:=I (HO.o.below M);have av:=Nat.le_trans Z.o M.size;have cb:=I av;have bz:=I (Far.below (.slice A ls.length c) M);clear M av)
   |(at_builtin;refine Wm rfl (.tmp 9) (.tmp 12) rfl base _ _ rfl bs.o r rfl (by have:=HL.o;omega) cb.o ?_;intro v' w3 O bq aw bb;rw[<-E.o] at O;have H3:=I (H2.o.trans bb);have bn:=I O;have bx:=I (bz.o.trans aw);clear O bb bq aw))
  go_ret;exact⟨_,rfl,bn.o,bx.o,H3.o⟩
theorem addsK (l ms:List L) (k:Nat) (h:k<ms.length):GR l (ms.take (k+1))=addL (GR l (ms.take k)) (pl ms k):=by
 rw[BN h,Ob];rfl
theorem EW (v:Value) (ls ms:List L) (A2:Option Addr) (c2:Nat) (w:World) (base:Nat) (O:Own w base v ls) (hb:base<=w.heap.size) (hl:ls.length+ms.length<=1000000) (hr:Rd w w.heap.size A2 (strs ms)) (Z:Off A2 v) (hs:∀x∈ms,x.length<=1000000000) :
  Calls Tryz.prog 135 #[v,.slice A2 ms.length c2] w fun e w'=>∃v',e=.returned v'/\Own w' base v' (GR ls ms)/\Far w w' v v'/\Below base w w':=by
 have HO:=I O;clear O;have HR:=I hr;clear hr;have bB:=I Z;clear Z;have HS:=I hs;clear hs;have bx:=I (Below.refl base w);have bz:=I (Far.refl w v);have bn:=I hb;clear hb;obtain⟨n,en⟩:=Ak (ms.length);rw[<-en] at hl⊢;have HL:=I hl;have hn:n<=1000000:=by omega
 have EN:=I en;clear en hl;go_enter Tryz.func135,Tryz.ntmps135
 go_wp2
 go_loopw [0,9] (fun vv iv wr=>∃i:Nat,i<=n/\iv=.int .i64 (i:Int)/\Own wr base vv (GR ls (ms.take i))/\Far w wr v vv/\Below base w wr) (fun _ iv _=>n - (intOf iv).toNat)
 case atStart=>exact⟨0,Nat.zero_le _,rfl,HO.o,bz.o,bx.o⟩
 case round=>
  obtain⟨i,hi,rfl,O,hf,hb⟩:=hrel;have bb:=I O;clear O;have aw:=I hf;clear hf;have av:=I hb;clear hb
  by_cases hlt:i<n
  ·have e1:(i:Int)<(n:Int):=by omega
   have e2:(0:Int)<=(i:Int):=by omega
   have M:i<ms.length:=by rw[<-EN.o];exact hlt
   obtain⟨b,o,rfl,_,h1⟩:=CU (aw.o.rd HR.o bB.o).1 M;have c1:=EI _ _ (pl ms i) wr base bb.o (Nat.le_trans bn.o av.o.size) (by have:=Ps (ms.take i) ls;simp at this;have:=HL.o;omega) (HS.o _ (DQ M));rw[<-addsK ls ms i M] at c1;have HM:=I M;clear M
   go_wp2_with (go_at_call 137;refine Calls.mono c1 ?_;rintro e w1 ⟨v',rfl,O,hf,hb⟩;clear c1;have bs:=I O;have bq:=I (aw.o.trans hf);have H1:=I (av.o.trans hb);clear O hb hf)
   go_roundw
   case rel=>exact⟨i+1,by omega,by go_num,bs.o,bq.o,H1.o⟩
   case measure=>simp [intOf];omega
  ·have e1:¬(i:Int)<(n:Int):=by omega
   have E:=I (show ms.take i=ms from List.take_of_length_le (by have:=EN.o;omega))
   go_wp2
   go_ret;exact⟨_,rfl,by rw[<-E.o];exact bb.o,aw.o,av.o⟩
end Tr
namespace Tr
open Go.RowKit Af Nm
attribute [local go_sem] Et List.getElem_cons_zero List.getElem_cons_succ Cg Ch DB Dt
def OwnB (w:World) (base:Nat) (v:Value) (l:L):Prop:=w.ownsRow base 5 1 v l.length (bvs l)
theorem OwnB.below {w w':World} {base:Nat} {v:Value} {l:L} (h:OwnB w base v l) (M:Below w.heap.size w w'):OwnB w' base v l:=BU h M
theorem OwnB.slice {w:World} {base:Nat} {v:Value} {l:L} (h:OwnB w base v l):∃A c,v=.slice A l.length c/\Rd w w.heap.size A (bvs l):=by
 have O:=h;rcases h.2 with⟨M,Z⟩ | ⟨g,cap,cur,M,_⟩
 ·have e:l = []:=List.eq_nil_of_length_eq_zero Z
  subst e;exact⟨none,0,M,.inl rfl⟩
 ·subst M
  exact⟨_,cap,rfl,Rd.of_own (n:=l.length) (cap:=cap) O⟩
section
variable {w:World} {ops:Array Oper} {rest:List Oper} {o:Oper} {a:Act} {Q:Exit->Act->World->Prop}
end
theorem Dw {ls:List L} {i:Nat} (h:(ls.take i).all isL=true) (hi:i<ls.length) (M:isL (pl ls i)=true):(ls.take (i+1)).all isL=true:=by
 rw[BN hi,List.all_append,h];simp [M]
end Tr
namespace Tr
open Go.RowKit Af Nm
attribute [local go_sem] Et List.getElem_cons_zero List.getElem_cons_succ Cg Ch DB Dt
def Jp (s:L) (more:Bool):List L:=if more then split 44 s else []
def gm (more:Bool) (s:L):Nat:=if more then s.length+1 else 0
theorem Wp (s:L):Jp s true=bef 44 s :: Jp (aft 44 s) (hasC 44 s):=by
 rw[Jp,if_pos rfl,Fz,Jp];cases h:hasC 44 s with
 |true=>rfl
 |false=>rw[Iy ((FP _ _).1 h)];rfl
theorem gm_lt (s:L):gm (hasC 44 s) (aft 44 s)<gm true s:=by
 rw[gm,gm,if_pos rfl];cases h:hasC 44 s with
 |true=>
  rw[if_pos rfl];have hm:=(Ex _ _).1 h;have:=Yb (c:=44) (l:=s) (by rintro rfl;simp at hm);omega
 |false=>rw[if_neg (by simp)];omega
theorem Yh {c p:L} (h:p≠[]):Gr c p=p:=if_neg h
theorem Wq (c:L):Gr c []=c:=rfl
theorem SR {l:List L} (h:l.length<=8):Mr l=(l,0):=by rw[Mr,if_neg (by omega)]
theorem SS {l:List L} (h:8<l.length):Mr l=([],13):=by rw[Mr,if_pos h]
theorem Yi (c:L) (l:List L) (p r:L):Lb c l p r true=GR l (Bt (Gr c p) r):=rfl
theorem Yj (c:L) (l:List L) (p r:L):Lb c l p r false=l:=rfl
theorem Ir {a b:L}:∀x∈Bt a b,x.length<=1000000000:=fun x M=>by have:=FR (Mi M);omega
def ExpV (w':World) (base:Nat) (e:Ending) (r:List L×Nat):Prop:=∃v,e=.returned (.tuple #[v,.int .i64 (r.2:Int)])/\Own w' base v r.1
theorem Zn (s c sv:L) (w:World) (hc:c.length<=1000000000) (hv:sv.length<=1000000000) (h:isL c=false\/isL sv=false) :
  Calls Tryz.prog 91 #[.string ⟨s.toArray⟩,.string ⟨c.toArray⟩,.string ⟨sv.toArray⟩] w fun e w'=>ExpV w' w.heap.size e (expL s c sv)/\Below w.heap.size w w':=by
 have E:=I (bW (s:=s) h);have c1:=Fq c w hc;have C2:=I (fun w1=>Fq sv w1 hv);cases h1:isL c with
 |false=>
  rw[h1] at c1;clear h h1;go_enter Tryz.func91,Tryz.ntmps91
  go_wp2_with (go_at_call 59;refine Aj c1 ?_;rintro w1 M;clear c1;have H1:=I M.below;clear M)
  go_ret2
  exact⟨⟨_,by rw[E.o];rfl,by rw[E.o];exact Own.nil _ _⟩,H1.o⟩
 |true=>
  rw[h1] at c1;have Z:isL sv=false:=by
   rcases h with h | h
   ·rw[h1] at h;cases h
   ·exact h
  have c2:=fun w1=>C2.o w1
  rw[Z] at c2;have O:=I c2;clear h h1 Z c2 C2;go_enter Tryz.func91,Tryz.ntmps91
  go_wp2_with (first
   |(go_at_call 59;with_reducible refine Aj c1 ?_;rintro w1 M;clear c1;have H1:=I M.below;clear M;have c2:=O.o w1)
   |(go_at_call 59;with_reducible refine Aj c2 ?_;rintro w2 M;clear c2;have H2:=I (H1.o.trans (M.below.mono H1.o.size));clear M))
  go_ret2
  exact⟨⟨_,by rw[E.o];rfl,by rw[E.o];exact Own.nil _ _⟩,H2.o⟩
theorem Zo (s0 c sv:L) (w:World) (hs:s0.length<=90000) (hc:isL c=true) (hv:isL sv=true) :
  Calls Tryz.prog 91 #[.string ⟨s0.toArray⟩,.string ⟨c.toArray⟩,.string ⟨sv.toArray⟩] w fun e w'=>ExpV w' w.heap.size e (expL s0 c sv)/\Below w.heap.size w w':=by
 have lc:=FR ((La c).1 hc);have lv:=FR ((La sv).1 hv);have c1:=Fq c w (by omega);have c2:=fun w1=>Fq sv w1 (by omega)
 rw[hc] at c1;rw[hv] at c2;have C2:=I c2;clear c2;have ER:expF c sv (Jp s0 (!List.isEmpty s0)) [] [] false=expL s0 c sv:=by
  by_cases h:s0 = []
  ·subst h;rw[SJ hc hv];rfl
  ·rw[Wf hc hv h,Jp,if_pos (by simpa using h)]
 obtain⟨R,eR⟩:=Ak (expL s0 c sv);rw[<-eR] at ER⊢;have ep:=I ER;have HS:=I hs;have LC:=I lc;have LV:=I lv;clear eR hc hv ER hs lc lv;obtain⟨N,eN⟩:=Ak (w.heap.size);rw[<-eN];have et:=I (show Below N w w by exact Below.refl _ _);have EN:=I eN;clear eN;have HN:=I (show ∀w1:World,Below N w w1->N<=w1.heap.size from fun w1 h=>by have:=h.size;have:=EN.o;omega);go_enter Tryz.func91,Tryz.ntmps91
 go_wp2_with (first
  |(go_at_call 59;with_reducible refine Aj c1 ?_;rintro w1 O;clear c1;have H1:=I (O.below.mono (Nat.le_of_eq EN.o));clear O;have c2:=C2.o w1)
  |(go_at_call 59;with_reducible refine Aj c2 ?_;rintro w2 O;clear c2;have H2:=I (H1.o.trans (O.below.mono (HN.o _ H1.o)));clear O))
 go_loopg [0,8,9,10,11,12] (gm (!List.isEmpty s0) s0) (fun g ei vv pv lv nv mv wr=>∃(s p:L) (l:List L) (nl more:Bool),g=gm more s/\ei=.string ⟨s.toArray⟩/\pv=.string ⟨p.toArray⟩/\lv=.string ⟨(Gr c p).toArray⟩/\nv=.bool nl/\mv=.bool more/\expF c sv (Jp s more) l p nl=R/\s.length<=90000/\l.length<=8/\p.length<=36/\Own wr N vv l/\Below N w wr)
 case atStart=>exact⟨s0,[],[],false,(!List.isEmpty s0),rfl,rfl,rfl,by rw[Wq],rfl,rfl,ep.o,HS.o,by simp,by simp,Own.nil _ _,H2.o⟩
 case round=>
  obtain⟨s,p,l,nl,more,hg,rfl,rfl,rfl,rfl,rfl,hR,ed,cT,cY,ho,hb⟩:=hrel;have HG:=I hg;clear hg;have HO:=I ho;clear ho;have HB:=I hb;clear hb;have cL:=I ed;clear ed;have bq:=I cT;clear cT;have ct:=I cY;clear cY;have cX:=I (show(Gr c p).length<=36 by
   rw[Gr];split
   ·exact LC.o
   ·exact ct.o)
  cases more with
  |false=>
   have HR:=I (show Mr (Lb c l p sv nl)=R from hR);clear hR;have ea:=bq.o;obtain⟨A0,c0,rfl,eo⟩:=HO.o.slice;clear eo;cases nl with
   |false=>
    have e8:¬(8:Int)<(l.length:Int):=by omega
    have E:=I (show R=(l,0) by rw[<-HR.o,Yj,SR bq.o]);clear ea
    go_wp2
    go_ret2
    exact⟨⟨_,by rw[E.o];rfl,by rw[E.o];exact HO.o⟩,HB.o⟩
   |true=>
    have c3:=Gp (Gr c p) sv wr (by have:=cX.o;omega) (by have:=LV.o;omega);have cc:=Gn (Gr c p) sv;have cb:=Ir (a:=Gr c p) (b:=sv);rw[Yi] at HR;obtain⟨M,eM⟩:=Ak (Bt (Gr c p) sv);rw[<-eM] at c3 cc cb HR;have cg:=I cc;clear cc;have cq:=I cb;clear cb;clear eM;obtain⟨K,eK⟩:=Ak (GR l M);rw[<-eK] at HR;have EK:=I eK;clear eK
    by_cases h8:8<K.length
    ·have e8:(8:Int)<(K.length:Int):=by omega
     have E:=I (show R=([],13) by rw[<-HR.o,SS h8]);clear h8
     go_wp2_with (first
      |(go_at_call 136;refine Calls.mono c3 ?_;rintro e w3 ⟨v3,rfl,bx,ca⟩;clear c3;obtain⟨A3,c3,e3,ck⟩:=bx.slice;have aw:=Ld HO.o bx e3;subst e3;have H3:=I (HB.o.trans (ca.mono (HN.o _ HB.o)));have c4:=EW _ l M A3 c3 w3 N (HO.o.below ca) (HN.o _ H3.o) (by have:=bq.o;have:=cg.o;omega) ck aw cq.o;rw[<-EK.o] at c4;clear aw bx ca ck)
      |(go_at_call 135;refine Calls.mono c4 ?_;rintro e w4 ⟨v4,rfl,cd,cw,cp⟩;clear c4 cw;obtain⟨A4,c4,rfl,_⟩:=cd.slice;have eb:=I cd;have H4:=I (H3.o.trans cp);clear cd cp))
     go_ret2
     exact⟨⟨_,by rw[E.o];rfl,by rw[E.o];exact Own.nil _ _⟩,H4.o⟩
    ·have e8:¬(8:Int)<(K.length:Int):=by omega
     have E:=I (show R=(K,0) by rw[<-HR.o,SR (by omega)]);clear h8
     go_wp2_with (first
      |(go_at_call 136;refine Calls.mono c3 ?_;rintro e w3 ⟨v3,rfl,bx,ca⟩;clear c3;obtain⟨A3,c3,e3,ck⟩:=bx.slice;have aw:=Ld HO.o bx e3;subst e3;have H3:=I (HB.o.trans (ca.mono (HN.o _ HB.o)));have c4:=EW _ l M A3 c3 w3 N (HO.o.below ca) (HN.o _ H3.o) (by have:=bq.o;have:=cg.o;omega) ck aw cq.o;rw[<-EK.o] at c4;clear aw bx ca ck)
      |(go_at_call 135;refine Calls.mono c4 ?_;rintro e w4 ⟨v4,rfl,cd,cw,cp⟩;clear c4 cw;obtain⟨A4,c4,rfl,_⟩:=cd.slice;have eb:=I cd;have H4:=I (H3.o.trans cp);clear cd cp))
     go_ret2
     exact⟨⟨_,by rw[E.o];rfl,by rw[E.o];exact eb.o⟩,H4.o⟩
  |true=>
   rw[Wp] at hR;have c3:=Nz s 44 wr (by have:=cL.o;omega);have cu:=gm_lt s;rw[<-HG.o] at cu;have cP:=RI 44 s;have cQ:=Nq 44 s;obtain⟨u,eu⟩:=Ak (bef 44 s);obtain⟨s2,es⟩:=Ak (aft 44 s);obtain⟨m2,em⟩:=Ak (hasC 44 s);rw[<-eu,<-es,<-em] at c3;rw[<-eu,<-es,<-em] at hR;rw[<-es,<-em] at cu;rw[<-eu] at cP;rw[<-es] at cQ;have cB:=I cu;clear cu;have ef:=I (Nat.le_trans cP cL.o);clear cP;have cx:=I (Nat.le_trans cQ cL.o);clear cQ;clear eu es em
   by_cases hu:u = []
   ·subst hu
    rw[SG] at hR;have HR:=I hR;clear hR
    go_wp2_with (go_at_call 133;refine Aj c3 ?_;rintro w3 O;clear c3;have H3:=I (HB.o.trans (O.below.mono (HN.o _ HB.o)));have ek:=I (HO.o.below O.below);clear O)
    go_roundg (gm m2 s2)
    case measure=>exact cB.o
    case rel=>exact⟨s2,p,l,true,m2,rfl,rfl,rfl,rfl,rfl,rfl,HR.o,cx.o,bq.o,ct.o,ek.o,H3.o⟩
   ·have tu:(u == [])=false:=by simpa using hu
    have c4:=fun w1=>KJ u p w1 (by have:=ef.o;omega) (by have:=ct.o;omega)
    have ej:=Wc u p;obtain⟨q,eq⟩:=Ak (CH u p);have c5:=fun w1=>Fq q w1 (by rw[eq];have:=ef.o;have:=ct.o;omega)
    rw[<-eq] at c4;have C4:=I c4;clear c4;have EQ:=I eq;clear eq ej;have HU:=I hu;clear hu;cases hq:isL q with
    |false=>
     have E:=I (show R=([],2) by rw[<-hR,We HU.o (by rw[<-EQ.o];exact hq)]);rw[hq] at c5;have C5:=I c5;clear hR c5 hq
     go_wp2_with (first
      |(go_at_call 133;refine Aj c3 ?_;rintro w3 O;clear c3;have H3:=I (HB.o.trans (O.below.mono (HN.o _ HB.o)));clear O;have c4:=C4.o w3)
      |(go_at_call 134;refine Aj c4 ?_;rintro w4 O;clear c4;have H4:=I (H3.o.trans (O.below.mono (HN.o _ H3.o)));clear O;have c5:=C5.o w4)
      |(go_at_call 59;refine Aj c5 ?_;rintro w5 O;clear c5;have H5:=I (H4.o.trans (O.below.mono (HN.o _ H4.o)));clear O))
     go_ret2
     exact⟨⟨_,by rw[E.o];rfl,by rw[E.o];exact Own.nil _ _⟩,H5.o⟩
    |true=>
     have eg:=FR ((La q).1 hq);have ec:=Dk ((La q).1 hq);rw[hq] at c5;have C5:=I c5;have HQ:=I hq;have bz:=I eg;have cZ:=I ec;clear c5 hq eg ec;have Z:=fun h8=>SH (c:=c) (sv:=sv) (t:=Jp s2 m2) (l:=l) (n:=nl) HU.o (by rw[<-EQ.o];exact HQ.o:isL (CH u p)=true) h8
     have av:=fun h8=>SI (c:=c) (sv:=sv) (t:=Jp s2 m2) (l:=l) (n:=nl) HU.o (by rw[<-EQ.o];exact HQ.o:isL (CH u p)=true) h8
     rw[<-EQ.o] at Z av;cases nl with
     |false=>
      rw[Yj] at Z av;have c6:=fun w1 er=>EI _ l q w1 N (HO.o.below (w':=w1) er)
      obtain⟨K,eK⟩:=Ak (addL l q);rw[<-eK] at Z av c6;have C6:=I c6;have EK:=I eK;clear c6 eK
      by_cases h8:8<K.length
      ·have e8:(8:Int)<(K.length:Int):=by omega
       have E:=I (show R=([],13) by rw[<-hR,av h8]);clear h8 hR Z av
       go_wp2_with (first
        |(go_at_call 133;refine Aj c3 ?_;rintro w3 O;clear c3;have G3:=I O.below;have H3:=I (HB.o.trans (O.below.mono (HN.o _ HB.o)));clear O;have c4:=C4.o w3)
        |(go_at_call 134;refine Aj c4 ?_;rintro w4 O;clear c4;have G4:=I (bt G3.o O.below);have H4:=I (H3.o.trans (O.below.mono (HN.o _ H3.o)));clear O;have c5:=C5.o w4)
        |(go_at_call 59;refine Aj c5 ?_;rintro w5 O;clear c5;have G5:=I (bt G4.o O.below);have H5:=I (H4.o.trans (O.below.mono (HN.o _ H4.o)));clear O;have c6:=C6.o w5 G5.o (HN.o _ H5.o) (by have:=bq.o;omega) (by have:=bz.o;omega))
        |(go_at_call 137;refine Calls.mono c6 ?_;rintro e w6 ⟨v6,rfl,bb,bB,bn⟩;clear c6 bB;obtain⟨A6,c6,rfl,_⟩:=bb.slice;have H6:=I (H5.o.trans bn);clear bb bn))
       go_ret2
       exact⟨⟨_,by rw[E.o];rfl,by rw[E.o];exact Own.nil _ _⟩,H6.o⟩
      ·have e8:¬(8:Int)<(K.length:Int):=by omega
       have cy:=I (show K.length<=8 by omega);have HR:=I (show expF c sv (Jp s2 m2) K q false=R by rw[<-hR,Z (by omega)]);clear h8 hR Z av
       go_wp2_with (first
        |(go_at_call 133;refine Aj c3 ?_;rintro w3 O;clear c3;have G3:=I O.below;have H3:=I (HB.o.trans (O.below.mono (HN.o _ HB.o)));clear O;have c4:=C4.o w3)
        |(go_at_call 134;refine Aj c4 ?_;rintro w4 O;clear c4;have G4:=I (bt G3.o O.below);have H4:=I (H3.o.trans (O.below.mono (HN.o _ H3.o)));clear O;have c5:=C5.o w4)
        |(go_at_call 59;refine Aj c5 ?_;rintro w5 O;clear c5;have G5:=I (bt G4.o O.below);have H5:=I (H4.o.trans (O.below.mono (HN.o _ H4.o)));clear O;have c6:=C6.o w5 G5.o (HN.o _ H5.o) (by have:=bq.o;omega) (by have:=bz.o;omega))
        |(go_at_call 137;refine Calls.mono c6 ?_;rintro e w6 ⟨v6,rfl,bb,bB,bn⟩;clear c6 bB;obtain⟨A6,c6,rfl,_⟩:=bb.slice;have H6:=I (H5.o.trans bn);have cM:=I bb;clear bb bn))
       go_roundg (gm m2 s2)
       case measure=>exact cB.o
       case rel=>exact⟨s2,q,K,false,m2,rfl,rfl,rfl,by rw[Yh cZ.o],rfl,rfl,HR.o,cx.o,cy.o,bz.o,cM.o,H6.o⟩
     |true=>
      rw[Yi] at Z av;have c7:=fun w1=>Gp (Gr c p) q w1 (by have:=cX.o;omega) (by have:=bz.o;omega)
      have cc:=Gn (Gr c p) q;have cb:=Ir (a:=Gr c p) (b:=q);obtain⟨M,eM⟩:=Ak (Bt (Gr c p) q);rw[<-eM] at c7 cc cb Z av;have C7:=I c7;clear c7;have cg:=I cc;clear cc;have cq:=I cb;clear cb;clear eM;obtain⟨J,eJ⟩:=Ak (GR l M);have cR:=I (show J.length<=17 by rw[eJ];have:=Ps M l;have:=bq.o;have:=cg.o;omega);rw[<-eJ] at Z av;have EJ:=I eJ;clear eJ;obtain⟨K,eK⟩:=Ak (addL J q);rw[<-eK] at Z av;have EK:=I eK;clear eK
      by_cases h8:8<K.length
      ·have e8:(8:Int)<(K.length:Int):=by omega
       have E:=I (show R=([],13) by rw[<-hR,av h8]);clear h8 hR Z av
       go_wp2_with (first
        |(go_at_call 133;refine Aj c3 ?_;rintro w3 O;clear c3;have G3:=I O.below;have H3:=I (HB.o.trans (O.below.mono (HN.o _ HB.o)));clear O;have c4:=C4.o w3)
        |(go_at_call 134;refine Aj c4 ?_;rintro w4 O;clear c4;have G4:=I (bt G3.o O.below);have H4:=I (H3.o.trans (O.below.mono (HN.o _ H3.o)));clear O;have c5:=C5.o w4)
        |(go_at_call 59;refine Aj c5 ?_;rintro w5 O;clear c5;have G5:=I (bt G4.o O.below);have H5:=I (H4.o.trans (O.below.mono (HN.o _ H4.o)));have cn:=I (HO.o.below G5.o);clear O;have c7:=C7.o w5)
        |(go_at_call 136;refine Calls.mono c7 ?_;rintro e w7 ⟨v7,rfl,cf,bs⟩;clear c7;obtain⟨A7,c7,e7,cr⟩:=cf.slice;have aw:=Ld cn.o cf e7;subst e7;have H7:=I (H5.o.trans (bs.mono (HN.o _ H5.o)));have c8:=EW _ l M A7 c7 w7 N (cn.o.below bs) (HN.o _ H7.o) (by have:=bq.o;have:=cg.o;omega) cr aw cq.o;rw[<-EJ.o] at c8;clear aw cf bs cr)
        |(go_at_call 135;refine Calls.mono c8 ?_;rintro e w8 ⟨v8,rfl,cj,cA,cm⟩;clear c8 cA;have H8:=I (H7.o.trans cm);have c6:=EI _ J q w8 N cj (HN.o _ H8.o) (by have:=cR.o;omega) (by have:=bz.o;omega);rw[<-EK.o] at c6;clear cj cm)
        |(go_at_call 137;refine Calls.mono c6 ?_;rintro e w6 ⟨v6,rfl,bb,bB,bn⟩;clear c6 bB;obtain⟨A6,c6,rfl,_⟩:=bb.slice;have H6:=I (H8.o.trans bn);clear bb bn))
       go_ret2
       exact⟨⟨_,by rw[E.o];rfl,by rw[E.o];exact Own.nil _ _⟩,H6.o⟩
      ·have e8:¬(8:Int)<(K.length:Int):=by omega
       have cy:=I (show K.length<=8 by omega);have HR:=I (show expF c sv (Jp s2 m2) K q false=R by rw[<-hR,Z (by omega)]);clear h8 hR Z av
       go_wp2_with (first
        |(go_at_call 133;refine Aj c3 ?_;rintro w3 O;clear c3;have G3:=I O.below;have H3:=I (HB.o.trans (O.below.mono (HN.o _ HB.o)));clear O;have c4:=C4.o w3)
        |(go_at_call 134;refine Aj c4 ?_;rintro w4 O;clear c4;have G4:=I (bt G3.o O.below);have H4:=I (H3.o.trans (O.below.mono (HN.o _ H3.o)));clear O;have c5:=C5.o w4)
        |(go_at_call 59;refine Aj c5 ?_;rintro w5 O;clear c5;have G5:=I (bt G4.o O.below);have H5:=I (H4.o.trans (O.below.mono (HN.o _ H4.o)));have cn:=I (HO.o.below G5.o);clear O;have c7:=C7.o w5)
        |(go_at_call 136;refine Calls.mono c7 ?_;rintro e w7 ⟨v7,rfl,cf,bs⟩;clear c7;obtain⟨A7,c7,e7,cr⟩:=cf.slice;have aw:=Ld cn.o cf e7;subst e7;have H7:=I (H5.o.trans (bs.mono (HN.o _ H5.o)));have c8:=EW _ l M A7 c7 w7 N (cn.o.below bs) (HN.o _ H7.o) (by have:=bq.o;have:=cg.o;omega) cr aw cq.o;rw[<-EJ.o] at c8;clear aw cf bs cr)
        |(go_at_call 135;refine Calls.mono c8 ?_;rintro e w8 ⟨v8,rfl,cj,cA,cm⟩;clear c8 cA;have H8:=I (H7.o.trans cm);have c6:=EI _ J q w8 N cj (HN.o _ H8.o) (by have:=cR.o;omega) (by have:=bz.o;omega);rw[<-EK.o] at c6;clear cj cm)
        |(go_at_call 137;refine Calls.mono c6 ?_;rintro e w6 ⟨v6,rfl,bb,bB,bn⟩;clear c6 bB;obtain⟨A6,c6,rfl,_⟩:=bb.slice;have H6:=I (H8.o.trans bn);have cM:=I bb;clear bb bn))
       go_roundg (gm m2 s2)
       case measure=>exact cB.o
       case rel=>exact⟨s2,q,K,false,m2,rfl,rfl,rfl,by rw[Yh cZ.o],rfl,rfl,HR.o,cx.o,cy.o,bz.o,cM.o,H6.o⟩
theorem SU (s c sv:L) (w:World) (hs:s.length<=90000) (M:c.length<=1000000000) (O:sv.length<=1000000000) :
  Calls Tryz.prog 91 #[.string ⟨s.toArray⟩,.string ⟨c.toArray⟩,.string ⟨sv.toArray⟩] w fun e w'=>ExpV w' w.heap.size e (expL s c sv)/\Below w.heap.size w w':=by
 by_cases h:isL c=true/\isL sv=true
 ·exact Zo s c sv w hs h.1 h.2
 ·refine Zn s c sv w M O ?_
  cases h1:isL c with
  |false=>exact .inl rfl
  |true=>
   cases h2:isL sv with
   |false=>exact .inr rfl
   |true=>exact absurd ⟨h1,h2⟩ h
end Tr
end Go.Proofs.YtiecjolmennkfaaGreat
