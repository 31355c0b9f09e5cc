import Derived.Test.YtlccngianpfalaaGreatZClientRequests1
set_option maxHeartbeats 25600000
set_option maxRecDepth 100000
set_option linter.unusedVariables false
set_option linter.unusedSimpArgs false
namespace Go.Proofs.YtlccngianpfalaaGreat
namespace Nm
abbrev L:=List UInt8
def capB (b:UInt8):Bool:=decide (65<=b.toNat)&&decide (b.toNat<=90)
def DI (b:UInt8):Bool:=decide (97<=b.toNat)&&decide (b.toNat<=122)
def Cx (b:UInt8):Bool:=DI b||(decide (48<=b.toNat)&&decide (b.toNat<=57))
def Cu (p:UInt8->Bool) (l:L):Bool:=decide (1<=l.length)&&(decide (l.length<=8)&&l.all p)
theorem Fq (p:UInt8->Bool) (l:L):Cu p l=true↔1<=l.length/\l.length<=8/\l.all p=true:=by simp [Cu]
def hasC (c:UInt8) (l:L):Bool:=l.any fun x=>decide (x=c)
def bef (c:UInt8):L->L
 | []=>[]
 |x :: r=>if x=c then [] else x :: bef c r
def aft (c:UInt8):L->L
 | []=>[]
 |x :: r=>if x=c then r else aft c r
theorem Gw (c:UInt8) (l:L):hasC c l=true↔c∈l:=by simp [hasC]
theorem GU (c:UInt8) (l:L):hasC c l=false↔c∉l:=by rw[<-Gw];simp
theorem JG {c:UInt8} {l:L} (h:c∉l):bef c l=l:=by
 induction l with
 |nil=>rfl
 |cons x r ih=>
  simp only[List.mem_cons,not_or] at h;rw[bef,if_neg (fun e=>h.1 e.symm),ih h.2]
theorem Sn {c:UInt8} {l:L} (h:c∉l):aft c l = []:=by
 induction l with
 |nil=>rfl
 |cons x r ih=>
  simp only[List.mem_cons,not_or] at h;rw[aft,if_neg (fun e=>h.1 e.symm),ih h.2]
theorem Vk (c:UInt8) (l:L):c∉bef c l:=by
 induction l with
 |nil=>simp [bef]
 |cons x r ih=>
  rw[bef];split
  ·simp
  ·rename_i h;simp only[List.mem_cons,not_or];exact⟨fun e=>h e.symm,ih⟩
theorem MJ {c:UInt8} {l:L} (h:c∈l):l=bef c l++c :: aft c l:=by
 induction l with
 |nil=>simp at h
 |cons x r ih=>
  by_cases e:x=c
  ·simp [bef,aft,e]
  ·rw[bef,aft,if_neg e,if_neg e]
   have:c∈r:=(List.mem_cons.1 h).resolve_left fun g=>e g.symm
   simpa using ih this
theorem Vl (c:UInt8) (l:L):(aft c l).length<=l.length:=by
 induction l with
 |nil=>simp [aft]
 |cons x r ih=>rw[aft];split<;>simp<;>omega
theorem Vm (c:UInt8) (l:L):(bef c l).length<=l.length:=by
 induction l with
 |nil=>simp [bef]
 |cons x r ih=>rw[bef];split<;>simp<;>omega
def split (c:UInt8):L->List L
 | []=>[[]]
 |x :: r=>if x=c then [] :: split c r else match split c r with
  | []=>[[x]]
  |a :: t=>(x :: a) :: t
theorem JH (c:UInt8) (l:L):split c l≠[]:=by
 cases l with
 |nil=>simp [split]
 |cons x r=>
  rw[split];split
  ·simp
  ·split<;>simp
theorem Fl (c:UInt8) (l:L):1<=(split c l).length:=by
 have:=JH c l;cases h:split c l with
 |nil=>exact absurd h this
 |cons a t=>simp
theorem GV {c:UInt8} {l:L} (h:c∉l):split c l = [l]:=by
 induction l with
 |nil=>rfl
 |cons x r ih=>
  simp only[List.mem_cons,not_or] at h;rw[split,if_neg (fun e=>h.1 e.symm),ih h.2]
theorem Gx {c:UInt8} (u v:L):split c (u++c :: v)=split c u++split c v:=by
 induction u with
 |nil=>simp [split]
 |cons x r ih=>
  rw[List.cons_append,split,split]
  split
  ·rw[ih];rfl
  ·rw[ih]
   cases h:split c r with
   |nil=>exact absurd h (JH c r)
   |cons a t=>rfl
theorem Jm {c:UInt8} {u v:L} (h:c∉u):split c (u++c :: v)=u :: split c v:=by rw[Gx,GV h];rfl
theorem Is (c:UInt8) (l:L):split c l=if hasC c l then bef c l :: split c (aft c l) else [l]:=by
 by_cases h:c∈l
 ·rw[if_pos ((Gw c l).2 h)]
  conv=>lhs;rw[MJ h]
  exact Jm (Vk c l)
 ·rw[if_neg (by rw[Gw];exact h)];exact GV h
def CV (ls:List L):Bool:=decide (1<=ls.length)&&(decide (ls.length<=4)&&ls.all (Cu capB))
theorem Iu (ls:List L):CV ls=true↔1<=ls.length/\ls.length<=4/\ls.all (Cu capB)=true:=by simp [CV]
def areL (c:UInt8):Nat->L->Bool
 |0,_=>false
 |n+1,l=>Cu capB (bef c l)&&(if hasC c l then areL c n (aft c l) else true)
theorem Vn (c:UInt8) (n:Nat):∀l:L,areL c n l=(decide ((split c l).length<=n)&&(split c l).all (Cu capB)):=by
 induction n with
 |zero=>intro l;have:=Fl c l;rw[areL,decide_eq_false (by omega)];rfl
 |succ n ih=>
  intro l;rw[areL,ih,Is c l]
  by_cases h:c∈l
  ·rw[(Gw c l).2 h,if_pos rfl,if_pos rfl]
   simp only[List.length_cons,List.all_cons,Nat.add_le_add_iff_right];cases Cu capB (bef c l)<;>simp
  ·rw[(GU c l).2 h,if_neg (by simp),if_neg (by simp),JG h]
   simp
theorem Kv (c:UInt8) (l:L):areL c 4 l=CV (split c l):=by
 have:=Fl c l;rw[Vn,CV,decide_eq_true this];rfl
def slL (l:L):Bool:=decide (l.head? = some 47)&&CV (split 47 l.tail)
def BN (l:L):Nat:=if slL l then 2 else if CV (split 46 l) then 1 else 0
theorem ML {l:L} (h:CV (split 46 l)=true):l.head?≠some 47:=by
 intro e;cases l with
 |nil=>simp at e
 |cons x r=>
  simp only[List.head?_cons,Option.some.injEq] at e;subst e;have Y:Cu capB (bef 46 (47 :: r))=true:=by
   have M:=((Iu _).1 h).2.2;rw[Is] at M
   split at M
   ·simp only[List.all_cons,Bool.and_eq_true] at M;exact M.1
   ·rename_i hn
    rw[JG ((GU _ _).1 (by simpa using hn))]
    simpa using M
  have X:bef 46 (47 :: r)=47 :: bef 46 r:=by rw[bef,if_neg (by decide)]
  have O:=((Fq _ _).1 Y).2.2;rw[X] at O;simp [capB] at O
theorem Xd {l:L} (h:CV (split 46 l)=true):slL l=false:=by
 simp [slL,ML h]
theorem So {l:L} (h:CV (split 46 l)=true):BN l=1:=by rw[BN,Xd h,h];rfl
theorem NJ (l:L):BN l=if CV (split 46 l) then 1 else if slL l then 2 else 0:=by
 cases h:CV (split 46 l) with
 |true=>rw[So h];rfl
 |false=>rw[BN,h];rfl
theorem Vo (l:L):BN l<=2:=by rw[BN];split<;>(try split)<;>omega
theorem Sq:BN []=0:=by decide
theorem Sr {l:L} (h:BN l=1):CV (split 46 l)=true:=by
 rw[BN] at h
 split at h
 ·omega
 ·split at h
  ·assumption
  ·omega
theorem Su {l:L} (h:BN l=2):slL l=true:=by
 rw[BN] at h
 split at h
 ·assumption
 ·split at h<;>omega
def isL (l:L):Bool:=decide (1<=BN l)
def upL (l:L):L:=if BN l=1 then aft 46 l else if BN l=2 then (aft 47 l.reverse).reverse else []
def chF:Nat->L->List L
 |0,_=>[]
 |n+1,l=>if l = [] then [] else l :: chF n (upL l)
def ch (l:L):List L:=chF 4 l
def pl (A:List L) (i:Nat):L:=A.getD i []
theorem Pw {A:List L} {i:Nat} (h:i<A.length):pl A i=A[i]:=by simp [pl,h]
theorem Px {A:List L} {i:Nat} (h:i<A.length):pl A i∈A:=by rw[Pw h];exact List.getElem_mem h
theorem mem_pl {A:List L} {x:L} (h:x∈A):∃i,i<A.length/\pl A i=x:=by
 obtain⟨i,M,e⟩:=List.getElem_of_mem h;exact⟨i,M,by rw[Pw M];exact e⟩
def Xe (a b:L):Bool:=decide (b∈ch (upL a))
def upW (A:List L) (b:L):Nat->List L
 |0=>[]
 |k+1=>upW A b k++(if pl A (k+1) = []\/pl A (k+1)=b then [] else [pl A (k+1)])
open Go.RowKit Ae
attribute [local go_sem] Gt List.getElem_cons_zero List.getElem_cons_succ
theorem Lv (b:UInt8) (w:World):Calls Tryz.prog 192 #[.int .u8 (b.toNat:Int)] w fun e w'=>e=.returned (.bool (capB b))/\w=w':=by
 have X:=BG b
 by_cases h1:65<=b.toNat
 ·have M:decide (65<=(b.toNat:Int))=true:=by simp;omega
  by_cases h2:b.toNat<=90
  ·have O:decide ((b.toNat:Int)<=90)=true:=by simp;omega
   have E:=I (show capB b=true by simp [capB,h1,h2]);clear h1 h2;go_enter Tryz.func192,Tryz.ntmps192
   go_wp2
   go_ret;exact⟨by rw[E.o];rfl,rfl⟩
  ·have O:decide ((b.toNat:Int)<=90)=false:=by simp;omega
   have E:=I (show capB b=false by simp [capB,h2]);clear h1 h2;go_enter Tryz.func192,Tryz.ntmps192
   go_wp2
   go_ret;exact⟨by rw[E.o];rfl,rfl⟩
 ·have M:decide (65<=(b.toNat:Int))=false:=by simp;omega
  have E:=I (show capB b=false by simp [capB,h1]);clear h1;go_enter Tryz.func192,Tryz.ntmps192
  go_wp2
  go_ret;exact⟨by rw[E.o];rfl,rfl⟩
theorem Py (b:UInt8) (w:World):Calls Tryz.prog 128 #[.int .u8 (b.toNat:Int)] w fun e w'=>e=.returned (.bool (DI b))/\w=w':=by
 have X:=BG b
 by_cases h1:97<=b.toNat
 ·have M:decide (97<=(b.toNat:Int))=true:=by simp;omega
  by_cases h2:b.toNat<=122
  ·have O:decide ((b.toNat:Int)<=122)=true:=by simp;omega
   have E:=I (show DI b=true by simp [DI,h1,h2]);clear h1 h2;go_enter Tryz.func128,Tryz.ntmps128
   go_wp2
   go_ret;exact⟨by rw[E.o];rfl,rfl⟩
  ·have O:decide ((b.toNat:Int)<=122)=false:=by simp;omega
   have E:=I (show DI b=false by simp [DI,h2]);clear h1 h2;go_enter Tryz.func128,Tryz.ntmps128
   go_wp2
   go_ret;exact⟨by rw[E.o];rfl,rfl⟩
 ·have M:decide (97<=(b.toNat:Int))=false:=by simp;omega
  have E:=I (show DI b=false by simp [DI,h1]);clear h1;go_enter Tryz.func128,Tryz.ntmps128
  go_wp2
  go_ret;exact⟨by rw[E.o];rfl,rfl⟩
theorem Kw (b:UInt8) (w:World):Calls Tryz.prog 83 #[.int .u8 (b.toNat:Int)] w fun e w'=>e=.returned (.bool (Cx b))/\w=w':=by
 have Z:=BG b;have c1:=Py b w
 by_cases M:DI b=true
 ·have E:=I (show Cx b=true by simp [Cx,M])
  rw[M] at c1;clear M;go_enter Tryz.func83,Tryz.ntmps83
  go_wp2_with (go_at_call 128;refine Ah c1 ?_;rintro O rfl)
  go_ret;exact⟨by rw[E.o];rfl,rfl⟩
 ·have M:DI b=false:=by simpa using M
  rw[M] at c1
  by_cases h1:48<=b.toNat
  ·have X:decide (48<=(b.toNat:Int))=true:=by simp;omega
   by_cases h2:b.toNat<=57
   ·have Y:decide ((b.toNat:Int)<=57)=true:=by simp;omega
    have E:=I (show Cx b=true by simp [Cx,h1,h2]);clear h1 h2 M;go_enter Tryz.func83,Tryz.ntmps83
    go_wp2_with (go_at_call 128;refine Ah c1 ?_;rintro O rfl)
    go_ret;exact⟨by rw[E.o];rfl,rfl⟩
   ·have Y:decide ((b.toNat:Int)<=57)=false:=by simp;omega
    have E:=I (show Cx b=false by simp [Cx,h2,M]);clear h1 h2 M;go_enter Tryz.func83,Tryz.ntmps83
    go_wp2_with (go_at_call 128;refine Ah c1 ?_;rintro O rfl)
    go_ret;exact⟨by rw[E.o];rfl,rfl⟩
  ·have X:decide (48<=(b.toNat:Int))=false:=by simp;omega
   have E:=I (show Cx b=false by simp [Cx,h1,M]);clear h1 M;go_enter Tryz.func83,Tryz.ntmps83
   go_wp2_with (go_at_call 128;refine Ah c1 ?_;rintro O rfl)
   go_ret;exact⟨by rw[E.o];rfl,rfl⟩
theorem JI {p:UInt8->Bool} {l:L} (h:∀i (h:i<l.length),p l[i]=true) (M:1<=l.length) (X:l.length<=8):Cu p l=true:=by
 rw[Fq];refine⟨M,X,?_⟩;rw[List.all_eq_true];intro x O;obtain⟨i,Y,rfl⟩:=List.getElem_of_mem O;exact h i Y
theorem Gy {p:UInt8->Bool} {l:L} {i:Nat} (M:i<l.length) (h:p l[i]=false):Cu p l=false:=by
 cases e:Cu p l with
 |false=>rfl
 |true=>
  have:=((Fq p l).1 e).2.2;rw[List.all_eq_true] at this;have:=this _ (List.getElem_mem M);rw[h] at this;cases this
theorem GW {p:UInt8->Bool} {l:L} (h:l.length<1):Cu p l=false:=by simp [Cu];omega
theorem Iv {p:UInt8->Bool} {l:L} (h:8<l.length):Cu p l=false:=by simp [Cu];omega
def Fit (p:UInt8->Bool) (l:L) (k:Nat):Prop:=∀i (h:i<l.length),i<k->p l[i]=true
theorem NL (l:L) (w:World) (hs:l.length<=1000000000):Calls Tryz.prog 82 #[.string ⟨l.toArray⟩,.func (.func 192) #[] #[]] w fun e w'=>e=.returned (.bool (Cu capB l))/\w=w':=by
 by_cases h1:l.length<1
 ·have E:=I (GW (p:=capB) h1)
  have g1:decide ((l.length:Int)<1)=true:=by simp;omega
  clear h1;go_enter Tryz.func82,Tryz.ntmps82
  go_wp2
  go_ret;exact⟨by rw[E.o];rfl,rfl⟩
 ·have g1:decide ((l.length:Int)<1)=false:=by simp;omega
  by_cases h2:8<l.length
  ·have E:=I (Iv (p:=capB) h2)
   have g2:decide (8<(l.length:Int))=true:=by simp;omega
   clear h1 h2;go_enter Tryz.func82,Tryz.ntmps82
   go_wp2
   go_ret;exact⟨by rw[E.o];rfl,rfl⟩
  ·have g2:decide (8<(l.length:Int))=false:=by simp;omega
   have HA:=I (fun h=>JI (p:=capB) (l:=l) h (by omega) (by omega));clear h1 h2;go_enter Tryz.func82,Tryz.ntmps82
   go_wp2
   go_loop [16] (fun X=>∃k:Nat,k<=l.length/\X=.int .i64 (k:Int)/\Fit capB l k) (fun X=>l.length - (intOf X).toNat)
   case atStart=>exact⟨0,Nat.zero_le _,rfl,fun i _ h=>by omega⟩
   case round=>
    obtain⟨k,hk,rfl,O⟩:=hrel
    by_cases hlt:k<l.length
    ·have e1:(k:Int)<(l.length:Int):=by omega
     have c1:=Lv l[k] w;have Z:=I O;clear O
     by_cases M:capB l[k]=true
     ·rw[M] at c1
      have HP:=I M;clear M
      go_wp2_with (go_at_call 192;refine Ah c1 ?_;rintro w1 rfl)
      go_round
      case rel=>exact⟨k+1,by omega,by go_num,fun i Y aa=>by
       by_cases q:i=k
       ·subst q;exact HP.o
       ·exact Z.o i Y (by omega)⟩
      case measure=>simp [intOf];omega
     ·have M:capB l[k]=false:=by simpa using M
      rw[M] at c1;have E:=I (Gy hlt M);clear M
      go_wp2_with (go_at_call 192;refine Ah c1 ?_;rintro w1 rfl)
      go_ret;exact⟨by rw[E.o];rfl,rfl⟩
    ·have Z:=I O;clear O
     have E:=I (HA.o (fun i Y=>Z.o i Y (by omega)));have e1:¬(k:Int)<(l.length:Int):=by omega
     go_wp2
     go_ret;exact⟨by rw[E.o];rfl,rfl⟩
theorem Pz (l:L) (w:World) (hs:l.length<=1000000000):Calls Tryz.prog 82 #[.string ⟨l.toArray⟩,.func (.func 83) #[] #[]] w fun e w'=>e=.returned (.bool (Cu Cx l))/\w=w':=by
 by_cases h1:l.length<1
 ·have E:=I (GW (p:=Cx) h1)
  have g1:decide ((l.length:Int)<1)=true:=by simp;omega
  clear h1;go_enter Tryz.func82,Tryz.ntmps82
  go_wp2
  go_ret;exact⟨by rw[E.o];rfl,rfl⟩
 ·have g1:decide ((l.length:Int)<1)=false:=by simp;omega
  by_cases h2:8<l.length
  ·have E:=I (Iv (p:=Cx) h2)
   have g2:decide (8<(l.length:Int))=true:=by simp;omega
   clear h1 h2;go_enter Tryz.func82,Tryz.ntmps82
   go_wp2
   go_ret;exact⟨by rw[E.o];rfl,rfl⟩
  ·have g2:decide (8<(l.length:Int))=false:=by simp;omega
   have HA:=I (fun h=>JI (p:=Cx) (l:=l) h (by omega) (by omega));clear h1 h2;go_enter Tryz.func82,Tryz.ntmps82
   go_wp2
   go_loop [16] (fun X=>∃k:Nat,k<=l.length/\X=.int .i64 (k:Int)/\Fit Cx l k) (fun X=>l.length - (intOf X).toNat)
   case atStart=>exact⟨0,Nat.zero_le _,rfl,fun i _ h=>by omega⟩
   case round=>
    obtain⟨k,hk,rfl,O⟩:=hrel
    by_cases hlt:k<l.length
    ·have e1:(k:Int)<(l.length:Int):=by omega
     have c1:=Kw l[k] w;have Z:=I O;clear O
     by_cases M:Cx l[k]=true
     ·rw[M] at c1
      have HP:=I M;clear M
      go_wp2_with (go_at_call 83;refine Ah c1 ?_;rintro w1 rfl)
      go_round
      case rel=>exact⟨k+1,by omega,by go_num,fun i Y aa=>by
       by_cases q:i=k
       ·subst q;exact HP.o
       ·exact Z.o i Y (by omega)⟩
      case measure=>simp [intOf];omega
     ·have M:Cx l[k]=false:=by simpa using M
      rw[M] at c1;have E:=I (Gy hlt M);clear M
      go_wp2_with (go_at_call 83;refine Ah c1 ?_;rintro w1 rfl)
      go_ret;exact⟨by rw[E.o];rfl,rfl⟩
    ·have Z:=I O;clear O
     have E:=I (HA.o (fun i Y=>Z.o i Y (by omega)));have e1:¬(k:Int)<(l.length:Int):=by omega
     go_wp2
     go_ret;exact⟨by rw[E.o];rfl,rfl⟩
end Nm
namespace Nm
open Go.RowKit Ae
theorem FL (l:List UInt8) (k:Nat):(ByteArray.mk l.toArray).extract 0 k=ByteArray.mk (l.take k).toArray:=by
 rw[ByteArray.extract_mk];simp
attribute [local go_sem] Gt List.getElem_cons_zero List.getElem_cons_succ Dw Dx Fm FL
theorem Vp (b:UInt8):((b.toNat:Int)).toNat.toUInt8=b:=by simp
theorem Sv {c:UInt8} {l:L} (h:c∉l):Lib.indexByte l c = -1:=by
 induction l with
 |nil=>rfl
 |cons x r ih=>
  simp only[List.mem_cons,not_or] at h;rw[Lib.indexByte,if_neg (by simpa using fun e:x=c=>h.1 e.symm),ih h.2];rfl
theorem Vq {c:UInt8} {l:L} (h:c∈l):Lib.indexByte l c=((bef c l).length:Int):=by
 induction l with
 |nil=>simp at h
 |cons x r ih=>
  rw[Lib.indexByte,bef]
  by_cases e:x=c
  ·rw[if_pos (by simpa using e),if_pos e];rfl
  ·have hm:c∈r:=(List.mem_cons.1 h).resolve_left fun g=>e g.symm
   rw[if_neg (by simpa using e),if_neg e,ih hm,if_neg (by simp)];simp
theorem Sw {c:UInt8} {l:L} (h:c∈l):l.take (bef c l).length=bef c l:=by
 have e:=MJ h;have g:(bef c l++c :: aft c l).take (bef c l).length=bef c l:=by simp
 rwa [<-e] at g
theorem Sx {c:UInt8} {l:L} (h:c∈l):l.drop ((bef c l).length+1)=aft c l:=by
 have e:=MJ h;have g:(bef c l++c :: aft c l).drop ((bef c l).length+1)=aft c l:=by simp
 rwa [<-e] at g
theorem Xf {c:UInt8} {l:L} (h:c∈l):(bef c l).length<l.length:=by
 have:=congrArg List.length (MJ h);simp at this;omega
theorem Vr (l:L) (b:UInt8) (w:World):(callFunc 238 #[.string ⟨l.toArray⟩,.int .u8 (b.toNat:Int)]).run Tryz.prog w=.ok (.value (.int .i64 (Lib.indexByte l b))) w:=by
 rw[run_callFunc_extern Tryz.func238 (by kernel_rfl) (by kernel_rfl) (by kernel_rfl) (e:=Extern.BytealgIndexByte.indexByte) (by kernel_rfl),Lib.run_indexByteString];simp only[Result.andThen,Vp]
theorem JJ (l:L) (b:UInt8) (w:World):Calls Tryz.prog 226 #[.string ⟨l.toArray⟩,.int .u8 (b.toNat:Int)] w fun e w'=>e=.returned (.int .i64 (Lib.indexByte l b))/\w=w':=by
 have h:=fun w=>Vr l b w
 go_enter Tryz.func226,Tryz.ntmps226
 go_wp2
 go_ret;exact⟨rfl,rfl⟩
theorem Lw (l:L):(ByteArray.mk l.toArray).size=l.length:=by simp [ByteArray.size]
theorem PA (l:L) (b:UInt8) (w:World):Calls Tryz.prog 218 #[.string ⟨l.toArray⟩,.string ⟨#[b]⟩] w fun e w'=>e=.returned (.int .i64 (Lib.indexByte l b))/\w=w':=by
 have c1:=JJ l b w
 by_cases e:l = [b]
 ·subst e
  have E:=I (show Lib.indexByte [b] b=0 by simp [Lib.indexByte]);go_enter Tryz.func218,Tryz.ntmps218
  go_wp2_with fail
  go_ret;exact⟨by rw[E.o];rfl,rfl⟩
 ·have M:([b]==l)=false:=by simpa using fun g:[b]=l=>e g.symm
  clear e;go_enter Tryz.func218,Tryz.ntmps218
  go_wp2_with (go_at_call 226;refine Ah c1 ?_;rintro O rfl)
  go_ret;exact⟨rfl,rfl⟩
def Bo (w w':World):Prop:=∃n,w'=w.drewN n
theorem Bo.refl (w:World):Bo w w:=⟨0,rfl⟩
theorem Bo.below {w w':World} (h:Bo w w'):Below w.heap.size w w':=by
 obtain⟨n,rfl⟩:=h;exact below_drewN Ag n
theorem Lx (l:L) (b:UInt8) (w:World) (hs:l.length<=1000000000):Calls Tryz.prog 207 #[.string ⟨l.toArray⟩,.string ⟨#[b]⟩] w fun e w'=>
  e=.returned (.tuple #[.string ⟨(bef b l).toArray⟩,.string ⟨(aft b l).toArray⟩,.bool (hasC b l)])/\Bo w w':=by
 have c1:=PA l b w
 by_cases h:b∈l
 ·have X:=I (show hasC b l=true from(Gw _ _).2 h)
  have O:=I (Sw h);have M:=I (Sx h);have Z:=Xf h;obtain⟨n,en⟩:=Aj ((bef b l).length);rw[Vq h,<-en] at c1;rw[<-en] at O M Z;have EN:=I en;clear en h;go_enter Tryz.func207,Tryz.ntmps207
  go_wp2_with (go_at_call 218;refine Ah c1 ?_;rintro Y rfl)
  go_quiet (fail)
  go_wp2
  go_ret3
  rename_i q _
  exact⟨by rw[X.o,<-O.o,<-M.o];rfl,⟨_,rfl⟩⟩
 ·have X:=I (show hasC b l=false from(GU _ _).2 h)
  have O:=I (JG h);have M:=I (Sn h);rw[Sv h] at c1;clear h;go_enter Tryz.func207,Tryz.ntmps207
  go_wp2_with (go_at_call 218;refine Ah c1 ?_;rintro Y rfl)
  go_ret3
  exact⟨by rw[X.o,O.o,M.o];rfl,Bo.refl _⟩
theorem Vs (l:L) (b:UInt8) (w:World) (hs:l.length<=1000000000):Calls Tryz.prog 191 #[.string ⟨l.toArray⟩,.string ⟨#[b]⟩] w fun e w'=>
  e=.returned (.tuple #[.string ⟨(bef b l).toArray⟩,.string ⟨(aft b l).toArray⟩,.bool (hasC b l)])/\Bo w w':=by
 have c1:=Lx l b w hs;go_enter Tryz.func191,Tryz.ntmps191
 go_wp2_with (go_at_call 207;refine Ah c1 ?_;rintro O M)
 go_ret3
 exact⟨rfl,M⟩
def preL (p l:L):Bool:=p.isPrefixOf l
theorem MM (p l:L):(l.take p.length==p)=preL p l:=by
 rw[preL,Bool.eq_iff_iff];simp only[beq_iff_eq,List.isPrefixOf_iff_prefix];rw[List.prefix_iff_eq_take];exact eq_comm
theorem PB {p l:L} (h:preL p l=true):p.length<=l.length:=(List.isPrefixOf_iff_prefix.1 h).length_le
theorem Vt {p l:L}:preL p l=true↔l=p++l.drop p.length:=by
 constructor
 ·intro h
  obtain⟨t,e⟩:=List.isPrefixOf_iff_prefix.1 h;rw[<-e];simp
 ·intro h
  rw[preL,List.isPrefixOf_iff_prefix];exact⟨_,h.symm⟩
theorem JK (l p:L) (w:World) (hs:l.length<=1000000000) (O:p.length<=1000000000):Calls Tryz.prog 162 #[.string ⟨l.toArray⟩,.string ⟨p.toArray⟩] w fun e w'=>
  e=.returned (.bool (preL p l))/\w=w':=by
 by_cases h:p.length<=l.length
 ·have M:(p.length:Int)<=(l.length:Int):=by omega
  have E:=I (MM p l);clear h;go_enter Tryz.func162,Tryz.ntmps162
  go_wp2
  go_ret;exact⟨by rw[<-E.o];rfl,rfl⟩
 ·have E:=I (show preL p l=false by
   cases q:preL p l with
   |false=>rfl
   |true=>exact absurd (PB q) h)
  have M:¬(p.length:Int)<=(l.length:Int):=by omega
  clear h;go_enter Tryz.func162,Tryz.ntmps162
  go_wp2
  go_ret;exact⟨by rw[E.o];rfl,rfl⟩
def cpL (p l:L):L:=if preL p l then l.drop p.length else l
theorem GX (l p:L) (w:World) (hs:l.length<=1000000000) (X:p.length<=1000000000):Calls Tryz.prog 126 #[.string ⟨l.toArray⟩,.string ⟨p.toArray⟩] w fun e w'=>
  e=.returned (.tuple #[.string ⟨(cpL p l).toArray⟩,.bool (preL p l)])/\w=w':=by
 have c1:=JK l p w hs X
 by_cases h:preL p l=true
 ·have Y:(p.length:Int)<=(l.length:Int):=by have:=PB h;omega
  have E:=I (show cpL p l=l.drop p.length by rw[cpL,if_pos h]);have M:=I h;rw[h] at c1;clear h;go_enter Tryz.func126,Tryz.ntmps126
  go_wp2_with (go_at_call 162;refine Ah c1 ?_;rintro O rfl)
  go_ret2
  exact⟨by rw[E.o,M.o];rfl,rfl⟩
 ·have h:preL p l=false:=by simpa using h
  have E:=I (show cpL p l=l by rw[cpL,if_neg (by simp [h])]);have M:=I h;rw[h] at c1;clear h;go_enter Tryz.func126,Tryz.ntmps126
  go_wp2_with (go_at_call 162;refine Ah c1 ?_;rintro O rfl)
  go_ret2
  exact⟨by rw[E.o,M.o];rfl,rfl⟩
theorem Gz (l p:L) (w:World) (hs:l.length<=1000000000) (M:p.length<=1000000000):Calls Tryz.prog 80 #[.string ⟨l.toArray⟩,.string ⟨p.toArray⟩] w fun e w'=>
  e=.returned (.tuple #[.string ⟨(cpL p l).toArray⟩,.bool (preL p l)])/\w=w':=by
 have c1:=GX l p w hs M;go_enter Tryz.func80,Tryz.ntmps80
 go_wp2_with (go_at_call 126;refine Ah c1 ?_;rintro O rfl)
 go_ret2
 exact⟨rfl,rfl⟩
theorem Jn:(Tryz.prog.info? 5).map (fun i=>(i.zero,i.size,i.bytes))=some (some (.int .u8 0),1,1):=by kernel_rfl
theorem Sy (n:Nat) (Z:n<=1000000000) (w:World):(Instr.makeSlice 24 (.int .i64 (n:Int)) (.int .i64 (n:Int))).run Tryz.prog w=.ok (.slice (some ⟨w.heap.size,0,none⟩) n n) (w.alloc (.cells (Da n) 5)):=by
 obtain⟨M,Y,O,hs,X⟩:=info_parts Jn;have h:=run_make (P:=Tryz.prog) w 24 5 M _ Tryz.underlying24 Y O .i64 .i64 (n:Int) (n:Int) (by omega) (by omega) (by rw[X];omega) (by omega);have e:madeCells (Value.int .u8 0).cells (((n:Int)).toNat*M.size)=Da n:=by
  rw[hs,Nat.mul_one,Int.toNat_natCast];refine Array.toList_inj.1 ?_;show(madeCells #[Value.int .u8 0] n).toList=_;rw[toList_madeCells_one];simp [Da,bv]
 rw[e] at h
 simpa using h
theorem MN (s:L) (w:World):(Builtin.copy_ #[24,9] 3 #[.slice (some ⟨w.heap.size,0,none⟩) s.length s.length,.string ⟨s.toArray⟩]).run Tryz.prog (w.alloc (.cells (Da s.length) 5))=.ok (goInt s.length) (w.alloc (.cells (bvs s).toArray 5)):=by
 obtain⟨O,M,_,hs,_⟩:=info_parts Jn;have hk:=Blk.new w 5 (Da s.length);have h:=Lib.run_copy_row_string (P:=Tryz.prog) _ 24 9 3 5 w.heap.size 0 s.length s.length ⟨s.toArray⟩ _ 5 Tryz.underlying24 (by rw[M];simp [hs]) hk (by rw[Lw];exact Nat.le_refl _) (by rw[Lw,DC];omega);rw[Lw,World.setRow_alloc_new] at h;have e:(Da s.length).toList.take 0++Lib.byteCells s++(Da s.length).toList.drop (0+s.length)=bvs s:=by
  rw[List.drop_of_length_le (by rw[Array.length_toList,DC];omega)];simp [Lib.byteCells,bvs,bv]
 rw[e] at h;exact h
theorem SD (s:L) (Y:s≠[]) (hs:s.length<=1000000000) (w:World):(Builtin.unsafeString_ #[226,3] 9 #[.pointer (some ⟨w.heap.size,0,none⟩),.int .i64 (s.length:Int)]).run Tryz.prog (w.alloc (.cells (bvs s).toArray 5))=.ok (.string ⟨s.toArray⟩) ((w.alloc (.cells (bvs s).toArray 5)).freeze ⟨w.heap.size,0,none⟩ s.length):=by
 obtain⟨i0,Z,_,X,_⟩:=info_parts Jn;have hk:=Blk.new w 5 (bvs s).toArray;refine Lib.run_unsafeString_row (P:=Tryz.prog) _ _ _ _ 5 Tryz.underlying226 (by simp [Program.cellsOf,Z,X]) w.heap.size s.length ?_ s Y Af (by omega) fun j x O=>?_
 ·unfold World.shape?
  rw[show(w.alloc (.cells (bvs s).toArray 5)).heap[w.heap.size]? = _ from hk];simp [AB]
 ·obtain⟨M,e⟩:=List.getElem?_eq_some_iff.1 O
  rw[addr_add,Nat.zero_add,hk.cell,List.getElem?_toArray,DR M,e];rfl
theorem JL (s:L) (w:World) (M:s.length<=1000000000):Calls Tryz.prog 84 #[.string ⟨s.toArray⟩] w fun e w'=>e=.returned (.string ⟨s.toArray⟩)/\Below w.heap.size w w':=by
 by_cases h0:s = []
 ·subst h0
  go_enter Tryz.func84,Tryz.ntmps84
  go_wp2
  go_ret;exact⟨rfl,Below.refl _ _⟩
 ·have Z:=Sy s.length M w
  have X:=MN s w;have O:=SD s h0 M w;have hl:1<=s.length:=by
   cases s with
   |nil=>exact absurd rfl h0
   |cons a r=>simp
  have t0:((s.length:Int)==0)=false:=by simp;omega
  have Y:=I (Lib.below_freeze ((Below.refl w.heap.size w).alloc Af (.cells (bvs s).toArray 5)) (p:=⟨w.heap.size,0,none⟩) Af s.length);clear h0;go_enter Tryz.func84,Tryz.ntmps84
  go_wp2
  go_ret;exact⟨rfl,Y.o⟩
theorem Kx (s:L) (w:World) (M:s.length<=1000000000):Calls Tryz.prog 47 #[.string ⟨s.toArray⟩] w fun e w'=>e=.returned (.string ⟨s.toArray⟩)/\Below w.heap.size w w':=by
 have c1:=JL s w M;go_enter Tryz.func47,Tryz.ntmps47
 go_wp2_with (go_at_call 84;refine Ah c1 ?_;rintro w' O)
 go_ret;exact⟨rfl,O⟩
end Nm
namespace Nm
open Go.RowKit Ae
attribute [local go_sem] Gt List.getElem_cons_zero List.getElem_cons_succ Dw Dx Fm FL
theorem Bo.trans {a b c:World} (h:Bo a b) (k:Bo b c):Bo a c:=by
 obtain⟨n,rfl⟩:=h;obtain⟨m,rfl⟩:=k;exact⟨n+m,by simp [World.drewN_drewN]⟩
theorem GA (l:L) (b:UInt8) (w:World) (hs:l.length<=1000000000):Calls Tryz.prog 163 #[.string ⟨l.toArray⟩,.string ⟨#[b]⟩] w fun e w'=>e=.returned (.bool (areL b 4 l))/\Bo w w':=by
 have HS:=I hs;clear hs;go_enter Tryz.func163,Tryz.ntmps163
 go_wp2
 go_loopw [0,8] (fun sv iv wr=>∃(k:Nat) (s:L),k<=4/\sv=.string ⟨s.toArray⟩/\iv=.int .i64 (k:Int)/\areL b (4 - k) s=areL b 4 l/\s.length<=l.length/\Bo w wr) (fun _ iv _=>4 - (intOf iv).toNat)
 case atStart=>exact⟨0,l,by omega,rfl,rfl,rfl,Nat.le_refl _,Bo.refl _⟩
 case round=>
  obtain⟨k,s,hk,rfl,rfl,M,hl,O⟩:=hrel;have HL:=I hl;clear hl;have HD:=I O;clear O
  by_cases hlt:k<4
  ·have e1:(k:Int)<4:=by omega
   have aa:s.length<=1000000000:=Nat.le_trans HL.o HS.o;have c1:=Vs s b wr aa;have c2:=fun Y=>NL (bef b s) Y (by have:=Vm b s;omega)
   have C2:=I c2;clear c2;have ea:areL b (4 - k) s=(Cu capB (bef b s)&&(if hasC b s then areL b (4 - (k+1)) (aft b s) else true)):=by
    rw[show 4 - k=(4 - (k+1))+1 by omega];rfl
   rw[ea] at M;have Z:(aft b s).length<=l.length:=by have:=Vl b s;have:=HL.o;omega
   have ab:=I Z;clear Z ea aa;cases hw:Cu capB (bef b s) with
   |false=>
    rw[hw,Bool.false_and] at M;have X:=I M;clear M;have HW:=I hw;clear hw
    go_wp2_with (first
     |(go_at_call 191;refine Ah c1 ?_;rintro Y O;clear c1;have c2:=C2.o Y;rw[HW.o] at c2;have H1:=I O;clear O)
     |(go_at_call 82;refine Ah c2 ?_;rintro w2 rfl;clear c2))
    go_ret;exact⟨by rw[<-X.o];rfl,HD.o.trans H1.o⟩
   |true=>
    rw[hw,Bool.true_and] at M;have HW:=I hw;clear hw;cases hc:hasC b s with
    |false=>
     rw[hc,if_neg (by simp)] at M;rw[hc] at c1;have X:=I M;clear M;have HC:=I hc;clear hc
     go_wp2_with (first
      |(go_at_call 191;refine Ah c1 ?_;rintro Y O;clear c1;have c2:=C2.o Y;rw[HW.o] at c2;have H1:=I O;clear O)
      |(go_at_call 82;refine Ah c2 ?_;rintro w2 rfl;clear c2))
     go_ret;exact⟨by rw[<-X.o];rfl,HD.o.trans H1.o⟩
    |true=>
     rw[hc,if_pos rfl] at M;rw[hc] at c1;have X:=I M;clear M;have HC:=I hc;clear hc
     go_wp2_with (first
      |(go_at_call 191;refine Ah c1 ?_;rintro Y O;clear c1;have c2:=C2.o Y;rw[HW.o] at c2;have H1:=I O;clear O)
      |(go_at_call 82;refine Ah c2 ?_;rintro w2 rfl;clear c2))
     go_roundw
     case rel=>exact⟨k+1,aft b s,by omega,rfl,by go_num,X.o,ab.o,HD.o.trans H1.o⟩
     case measure=>simp [intOf];omega
  ·have e1:¬(k:Int)<4:=by omega
   obtain rfl:k=4:=by omega
   have X:=I (show areL b 4 l=false by rw[<-M];rfl);clear M
   go_wp2
   go_ret;exact⟨by rw[X.o];rfl,HD.o⟩
theorem Xg (l:L):slL l=(preL [47] l&&CV (split 47 (cpL [47] l))):=by
 cases l with
 |nil=>rfl
 |cons x r=>
  rw[slL,cpL]
  by_cases h:x=47
  ·subst h
   have e:preL [47] (47 :: r)=true:=by simp [preL]
   rw[e];simp
  ·have e:preL [47] (x :: r)=false:=by
    cases q:preL [47] (x :: r) with
    |false=>rfl
    |true=>have:=congrArg List.head? (Vt.1 q);simp at this;exact absurd this h
   rw[e];simp [h]
theorem UD (p l:L):(cpL p l).length<=l.length:=by rw[cpL];split<;>simp
theorem SE (l:L) (w:World) (hs:l.length<=1000000000):Calls Tryz.prog 127 #[.string ⟨l.toArray⟩] w fun e w'=>e=.returned (.int .i64 (BN l:Int))/\Bo w w':=by
 have c1:=GA l 46 w hs;rw[Kv] at c1;have C2:=I (fun O=>Gz l [47] O hs (by decide));have c3:=fun O=>GA (cpL [47] l) 47 O (by have:=UD [47] l;omega)
 rw[Kv] at c3;have C3:=I c3;clear c3 hs;have X:=NJ l;rw[Xg] at X;cases h1:CV (split 46 l) with
 |true=>
  rw[h1] at c1;have E:=I (show BN l=1 by rw[X,h1];rfl);clear X h1;go_enter Tryz.func127,Tryz.ntmps127
  go_wp2_with (go_at_call 163;refine Ah c1 ?_;rintro O M;clear c1;have H1:=I M;clear M)
  go_ret;exact⟨by rw[E.o];rfl,H1.o⟩
 |false=>
  rw[h1] at c1;rw[h1,if_neg (by simp)] at X;cases h2:preL [47] l with
  |false=>
   have E:=I (show BN l=0 by rw[X,h2];rfl);have Y:=I h2;clear X h1 h2;go_enter Tryz.func127,Tryz.ntmps127
   go_wp2_with (first
    |(go_at_call 163;refine Ah c1 ?_;rintro O M;clear c1;have H1:=I M;clear M;have c2:=C2.o O;rw[Y.o] at c2)
    |(go_at_call 80;refine Ah c2 ?_;rintro w2 rfl;clear c2))
   go_ret;exact⟨by rw[E.o];rfl,H1.o⟩
  |true=>
   rw[h2,Bool.true_and] at X;have Y:=I h2;cases h3:CV (split 47 (cpL [47] l)) with
   |false=>
    have E:=I (show BN l=0 by rw[X,h3];rfl);have H3:=I h3;clear X h1 h2 h3;go_enter Tryz.func127,Tryz.ntmps127
    go_wp2_with (first
     |(go_at_call 163;refine Ah c1 ?_;rintro O M;clear c1;have H1:=I M;clear M;have c2:=C2.o O;rw[Y.o] at c2)
     |(go_at_call 80;refine Ah c2 ?_;rintro w2 rfl;clear c2;have c4:=C3.o O;rw[H3.o] at c4)
     |(go_at_call 163;refine Ah c4 ?_;rintro w3 M;clear c4;have Z:=I M;clear M))
    go_ret;exact⟨by rw[E.o];rfl,H1.o.trans Z.o⟩
   |true=>
    have E:=I (show BN l=2 by rw[X,h3];rfl);have H3:=I h3;clear X h1 h2 h3;go_enter Tryz.func127,Tryz.ntmps127
    go_wp2_with (first
     |(go_at_call 163;refine Ah c1 ?_;rintro O M;clear c1;have H1:=I M;clear M;have c2:=C2.o O;rw[Y.o] at c2)
     |(go_at_call 80;refine Ah c2 ?_;rintro w2 rfl;clear c2;have c4:=C3.o O;rw[H3.o] at c4)
     |(go_at_call 163;refine Ah c4 ?_;rintro w3 M;clear c4;have Z:=I M;clear M))
    go_ret;exact⟨by rw[E.o];rfl,H1.o.trans Z.o⟩
theorem UE (l:L) (w:World) (hs:l.length<=1000000000):Calls Tryz.prog 81 #[.string ⟨l.toArray⟩] w fun e w'=>e=.returned (.bool (isL l))/\Bo w w':=by
 have c1:=SE l w hs
 by_cases h:1<=BN l
 ·have E:=I (show isL l=true by simp [isL,h])
  have t:((BN l:Int) != 0)=true:=by simp;omega
  clear h;go_enter Tryz.func81,Tryz.ntmps81
  go_wp2_with (go_at_call 127;refine Ah c1 ?_;rintro X M;clear c1;have H1:=I M;clear M)
  go_ret;exact⟨by rw[E.o];rfl,H1.o⟩
 ·have E:=I (show isL l=false by simp [isL];omega)
  have O:BN l=0:=by omega
  rw[O] at c1;clear h O;go_enter Tryz.func81,Tryz.ntmps81
  go_wp2_with (go_at_call 127;refine Ah c1 ?_;rintro X M;clear c1;have H1:=I M;clear M)
  go_ret;exact⟨by rw[E.o];rfl,H1.o⟩
end Nm
namespace Nm
open Go.RowKit Ae
theorem Ky (a b:L):ByteArray.mk a.toArray++ByteArray.mk b.toArray=ByteArray.mk (a++b).toArray:=by
 apply ByteArray.ext;simp
attribute [local go_sem] Gt List.getElem_cons_zero List.getElem_cons_succ Dw Dx Fm FL
def krb:L:=[107,114,98,116,103,116,47]
def tgL (n:L):Bool:=preL krb n&&isL (cpL krb n)
def tgR (n:L):L:=if tgL n then n.drop 7 else []
def Cg (r n:L):Bool:=isL r&&(tgL n||Cu Cx n)
theorem GY (l:L) (w:World) (hs:l.length<=1000000000):Calls Tryz.prog 85 #[.string ⟨l.toArray⟩] w fun e w'=>e=.returned (.string ⟨(krb++l).toArray⟩)/\w=w':=by
 have E:=I (Ky krb l);go_enter Tryz.func85,Tryz.ntmps85
 go_wp2
 go_ret;exact⟨by rw[<-E.o];rfl,rfl⟩
theorem Iw (l:L) (w:World) (hs:l.length<=1000000000):Calls Tryz.prog 28 #[.string ⟨l.toArray⟩] w fun e w'=>e=.returned (.string ⟨(krb++l).toArray⟩)/\w=w':=by
 have E:=I (Ky krb l);go_enter Tryz.func28,Tryz.ntmps28
 go_wp2
 go_ret;exact⟨by rw[<-E.o];rfl,rfl⟩
theorem DD (n:L) (w:World) (hs:n.length<=1000000000):Calls Tryz.prog 45 #[.string ⟨n.toArray⟩] w fun e w'=>e=.returned (.tuple #[.string ⟨(tgR n).toArray⟩,.bool (tgL n)])/\Below w.heap.size w w':=by
 have c1:=Gz n krb w hs (by decide);have O:=UD krb n;have c2:=UE (cpL krb n) w (by omega);have C3:=I (fun Z=>Kx (cpL krb n) Z (by omega));have aa:=I (Below.refl w.heap.size w);cases h1:preL krb n with
 |false=>
  have M:=I (show tgL n=false by rw[tgL,h1];rfl);have X:=I (show tgR n = [] by rw[tgR,M.o];rfl);rw[h1] at c1;clear h1 hs O c2;go_enter Tryz.func45,Tryz.ntmps45
  go_wp2_with (go_at_call 80;refine Ah c1 ?_;rintro Z rfl;clear c1)
  go_ret2
  exact⟨by rw[M.o,X.o];rfl,aa.o⟩
 |true=>
  cases h2:isL (cpL krb n) with
  |false=>
   have M:=I (show tgL n=false by rw[tgL,h1,h2];rfl);have X:=I (show tgR n = [] by rw[tgR,M.o];rfl);rw[h1] at c1;rw[h2] at c2;clear h1 h2 hs O;go_enter Tryz.func45,Tryz.ntmps45
   go_wp2_with (first
    |(go_at_call 80;refine Ah c1 ?_;rintro Z rfl;clear c1)
    |(go_at_call 81;refine Ah c2 ?_;rintro w2 Y;clear c2;have H2:=I Y.below;clear Y))
   go_ret2
   exact⟨by rw[M.o,X.o];rfl,H2.o⟩
  |true=>
   have M:=I (show tgL n=true by rw[tgL,h1,h2];rfl);have X:=I (show tgR n=cpL krb n by rw[tgR,M.o,cpL,h1];rfl);rw[h1] at c1;rw[h2] at c2;clear h1 h2 hs O;go_enter Tryz.func45,Tryz.ntmps45
   go_wp2_with (first
    |(go_at_call 80;refine Ah c1 ?_;rintro Z rfl;clear c1)
    |(go_at_call 81;refine Ah c2 ?_;rintro w2 Y;clear c2;have H2:=I Y.below;clear Y;have c3:=C3.o w2)
    |(go_at_call 47;refine Ah c3 ?_;rintro w3 hb;clear c3;have H3:=H2.t hb;clear hb))
   go_ret2
   exact⟨by rw[M.o,X.o];rfl,H3.o⟩
theorem AS (r n:L) (w:World) (hs:r.length<=1000000000) (ab:n.length<=1000000000):Calls Tryz.prog 46 #[.agg #[.string ⟨r.toArray⟩,.string ⟨n.toArray⟩]] w fun e w'=>e=.returned (.bool (Cg r n))/\Below w.heap.size w w':=by
 have c1:=UE r (w.alloc (.cells #[.string ⟨r.toArray⟩,.string ⟨n.toArray⟩] 35)) hs;have hk:=Blk.new w 35 #[.string ⟨r.toArray⟩,.string ⟨n.toArray⟩];have af:=(Below.refl w.heap.size w).alloc Af (.cells #[.string ⟨r.toArray⟩,.string ⟨n.toArray⟩] 35);have ag:w.heap.size<(w.alloc (.cells #[.string ⟨r.toArray⟩,.string ⟨n.toArray⟩] 35)).heap.size:=by simp
 obtain⟨N,eN⟩:=Aj (w.heap.size);have C2:=I (fun O=>DD n O ab);have C3:=I (fun O=>Pz n O ab);have E1:=I (show Cg r n=(isL r&&(tgL n||Cu Cx n)) from rfl);rw[<-eN] at hk af ag⊢;have EN:=I eN;clear eN;have HK:=I hk;clear hk;have ae:=I af;clear af;have X:=I ag;clear ag hs ab;cases h1:isL r with
 |false=>
  rw[h1] at c1;have E:=I (show Cg r n=false by rw[E1.o,h1];rfl);clear h1;go_enter Tryz.func46,Tryz.ntmps46
  go_wp2_with (go_at_call 81;refine Ah c1 ?_;rintro O M;clear c1;have H1:=I (ae.o.trans (M.below.mono (Nat.le_of_lt X.o)));clear M)
  go_ret;exact⟨by rw[E.o];rfl,H1.o⟩
 |true=>
  rw[h1] at c1;have aj:=I (fun O=>C2.o O);cases h2:tgL n with
  |true=>
   have E:=I (show Cg r n=true by rw[E1.o,h1,h2];rfl);have HT:=I h2;clear h1 h2;go_enter Tryz.func46,Tryz.ntmps46
   go_wp2_with (first
    |(go_at_call 81;refine Ah c1 ?_;rintro O M;clear c1;have H1:=I (ae.o.trans (M.below.mono (Nat.le_of_lt X.o)));have Z:=(HK.o.below M.below).cell 1;have Y:N<O.heap.size:=(by have:=M.below.size;have:=X.o;omega);have ad:=I Y;rw[EN.o] at Z;clear M Y;have c2:=C2.o O;rw[HT.o] at c2)
    |(go_at_call 45;refine Ah c2 ?_;rintro w2 hb;clear c2;have H2:=I (H1.o.trans (hb.mono (Nat.le_of_lt ad.o)));clear hb))
   go_ret;exact⟨by rw[E.o];rfl,H2.o⟩
  |false=>
   have E:=I (show Cg r n=Cu Cx n by rw[E1.o,h1,h2];rfl);have HT:=I h2;clear h1 h2;go_enter Tryz.func46,Tryz.ntmps46
   go_wp2_with (first
    |(go_at_call 81;refine Ah c1 ?_;rintro O M;clear c1;have H1:=I (ae.o.trans (M.below.mono (Nat.le_of_lt X.o)));have aa:=HK.o.below M.below;have ai:=I aa;have Z:=aa.cell 1;have Y:N<O.heap.size:=(by have:=M.below.size;have:=X.o;omega);have ad:=I Y;rw[EN.o] at Z;clear M Y aa;have c2:=C2.o O;rw[HT.o] at c2)
    |(go_at_call 45;refine Ah c2 ?_;rintro w2 hb;clear c2 Z;have H2:=I (H1.o.trans (hb.mono (Nat.le_of_lt ad.o)));have ah:=(ai.o.below hb).cell 1;rw[EN.o] at ah;clear hb;have c3:=C3.o w2)
    |(go_at_call 82;refine Ah c3 ?_;rintro w3 rfl;clear c3))
   go_ret;exact⟨by rw[E.o];rfl,H2.o⟩
end Nm
namespace Nm
open Go.RowKit Ae
def st (l:L):Value:=.string ⟨l.toArray⟩
def strs (ls:List L):List Value:=ls.map st
theorem Ly (ls:List L):(strs ls).length=ls.length:=by simp [strs]
theorem Ix (ls ms:List L):strs (ls++ms)=strs ls++strs ms:=by simp [strs]
theorem MO (ls:List L):∀u∈strs ls,u.oneCell'=true:=by
 intro u hu;obtain⟨b,_,rfl⟩:=List.mem_map.1 hu
 rfl
theorem Vu {ls:List L} {i:Nat} (h:i<ls.length):(strs ls)[i]? = some (st (pl ls i)):=by
 rw[strs,List.getElem?_map,List.getElem?_eq_getElem h,Pw h];rfl
theorem MP:(Tryz.prog.info? 9).map (fun i=>(i.zero,i.size,i.bytes))=some (some (.string ⟨#[]⟩),1,16):=by kernel_rfl
def Own (w:World) (base:Nat) (v:Value) (ls:List L):Prop:=w.ownsRow base 9 1 v ls.length (strs ls)
theorem Own.nil (w:World) (base:Nat):Own w base (.slice none 0 0) []:=World.ownsRow_nil w base _ 1
theorem Own.below {w w':World} {base:Nat} {v:Value} {ls:List L} (h:Own w base v ls) (M:Below w.heap.size w w'):Own w' base v ls:=CQ h M
theorem Own.from_ {w:World} {base base':Nat} {v:Value} {ls:List L} (h:Own w base v ls) (Y:base'<=base):Own w base' v ls:=by
 refine⟨h.1,?_⟩;rcases h.2 with h | ⟨g,cap,cur,M,X,O⟩
 ·exact .inl h
 ·exact .inr ⟨g,cap,cur,M,by omega,O⟩
theorem Own.slice {w:World} {base:Nat} {v:Value} {ls:List L} (h:Own w base v ls):∃A c,v=.slice A ls.length c/\Rd w w.heap.size A (strs ls):=by
 have X:=h;rcases h.2 with⟨M,O⟩ | ⟨g,cap,cur,M,_⟩
 ·have e:ls = []:=List.eq_nil_of_length_eq_zero O
  subst e;exact⟨none,0,M,.inl rfl⟩
 ·subst M
  exact⟨_,cap,rfl,Rd.of_own (n:=ls.length) (cap:=cap) X⟩
theorem Own.lt {w:World} {base:Nat} {v:Value} {ls:List L} (h:Own w base v ls):∀k,v.ownBlock=some k->base<=k/\k<w.heap.size:=World.ownsRow.lt h
theorem PD {w:World} {B:Nat} {A:Option Addr} {ls:List L} (h:Rd w B A (strs ls)) {i:Nat} (M:i<ls.length):∃b o,A=some ⟨b,o,none⟩/\b<B/\w.cell? ⟨b,o+i,none⟩=some (.string ⟨(pl ls i).toArray⟩):=
 h.at_ (Vu M)
section
variable {w:World} {ops:Array Oper} {rest:List Oper} {o:Oper} {a:Act} {Q:Exit->Act->World->Prop}
theorem Xh (Y:o.guard=none) (s x:Operand) (ho:o.op=.call {callee:=.builtin .append,args:=#[s,x],argTypes:=#[38,38]})
  (base:Nat) (v:Value) (ls:List L) (hs:a.eval s=v) (M:Own w base v ls) (B:Nat) (A:Option Addr) (c:Nat) (ms:List L) (hx:a.eval x=.slice A ms.length c) (hr:Rd w B A (strs ms))
  (hl:ls.length+ms.length<=8000000000000) (hb:base<=w.heap.size)
  (h:∀v' w',Own w' base v' (ls++ms)->Below base w w'->wpList Tryz.prog ops Q rest (a.put o.dst v') w'):wpList Tryz.prog ops Q (o :: rest) a w:=by
 obtain⟨i0,Z,X,O,aa⟩:=info_parts MP;refine AF w Y s x 38 ho base 9 i0 _ 16 Tryz.underlying38 Z X O aa rfl v ls.length (strs ls) hs M B A ms.length c (strs ms) hx (Ly _).symm hr (MO _) (by unfold maxLen;omega) (by omega) hb ?_;intro v' w' h1 h2 _;refine h v' w' (by rw[Own,List.length_append,Ix];exact h1) ?_;exact Ag.grown h2 hb (fun k hk=>(M.lt k hk).1)
theorem PE (O:o.guard=none) (s x:Operand) (Y:o.op=.call {callee:=.builtin .append,args:=#[s,x],argTypes:=#[38,38]})
  (base:Nat) (v:Value) (ls:List L) (hs:a.eval s=v) (M:Own w base v ls) (r:L) (hx:a.eval x=.slice (some ⟨w.heap.size,0,none⟩) 1 1)
  (hl:ls.length+1<=8000000000000) (X:base<=w.heap.size)
  (h:∀v' w',Own w' base v' (ls++[r])->Below base w w'->wpList Tryz.prog ops Q rest (a.put o.dst v') w'):wpList Tryz.prog ops Q (o :: rest) a (w.alloc (.cells #[.string ⟨r.toArray⟩] 9)):=by
 refine Xh O s x Y base v ls hs (M.below (Ag.alloc Af _)) (w.heap.size+1) _ 1 [r] hx ?_ hl (by simp;omega) ?_
 ·refine .inr ⟨w.heap.size,0,rfl,by omega,fun i u hu=>?_⟩
  cases i with
  |zero=>
   simp only[strs,List.map_cons,List.map_nil,List.getElem?_cons_zero,Option.some.injEq] at hu;subst hu;exact(Blk.new w 9 _).cell 0
  |succ i=>simp [strs] at hu
 ·intro v' w' Z h2
  exact h v' w' Z ((Ag.alloc X _).trans h2)
end
theorem PG (l:List UInt8) (f k:Nat):(ByteArray.mk l.toArray).extract f k=ByteArray.mk ((l.drop f).take (k - f)).toArray:=by
 rw[ByteArray.extract_mk]
attribute [local go_sem] Gt List.getElem_cons_zero List.getElem_cons_succ PG
def piece (l:L) (f k:Nat):L:=(l.drop f).take (k - f)
theorem Kz {l:L} {f k:Nat} (O:f<=k) (hk:k<l.length):l.drop f=piece l f k++l[k] :: l.drop (k+1):=by
 have M:l.drop f=(l.drop f).take (k - f)++(l.drop f).drop (k - f):=(List.take_append_drop _ _).symm;rw[List.drop_drop,show f+(k - f)=k by omega,List.drop_eq_getElem_cons hk] at M;exact M
theorem NO {l:L} {f k:Nat} (M:f<=k) (hk:k<l.length):piece l f (k+1)=piece l f k++[l[k]]:=by
 have h:=Kz M hk;have O:(piece l f k).length=k - f:=by rw[piece,List.length_take,List.length_drop];omega
 rw[piece,h,show k+1 - f=(piece l f k).length+1 by omega,List.take_append,List.take_of_length_le (by omega),Nat.add_sub_cancel_left]
 rfl
theorem KA {l:L} {f:Nat}:piece l f l.length=l.drop f:=by rw[piece,List.take_of_length_le (by simp)]
theorem SF (c:UInt8) (l:L):(split c l).length<=l.length+1:=by
 induction l with
 |nil=>simp [split]
 |cons x r ih=>
  rw[split];split
  ·simp;omega
  ·split<;>simp_all<;>omega
theorem GB (l:L) (c:UInt8) (w:World) (hs:l.length<=1000000000):Calls Tryz.prog 161 #[.string ⟨l.toArray⟩,.int .u8 (c.toNat:Int)] w fun e w'=>∃v,e=.returned v/\Own w' w.heap.size v (split c l)/\Below w.heap.size w w':=by
 obtain⟨N,eN⟩:=Aj (w.heap.size);rw[<-eN];have ae:=I (show Below N w w by exact Below.refl _ _);have EN:=I eN;clear eN;have X:=I (show ∀w1:World,Below N w w1->N<=w1.heap.size from fun w1 h=>by have:=h.size;have:=EN.o;omega);go_enter Tryz.func161,Tryz.ntmps161
 go_wp2
 go_loopw [5,6,7] (fun vv fv iv wr=>∃(f k:Nat) (ls:List L),f<=k/\k<=l.length/\fv=.int .i64 (f:Int)/\iv=.int .i64 (k:Int)/\Own wr N vv ls/\c∉piece l f k/\ls++split c (l.drop f)=split c l/\ls.length<=f/\Below N w wr) (fun _ _ iv _=>l.length - (intOf iv).toNat)
 case atStart=>exact⟨0,0,[],Nat.le_refl _,Nat.zero_le _,rfl,rfl,Own.nil _ _,by simp [piece],by simp,by simp,ae.o⟩
 case round=>
  obtain⟨f,k,ls,hf,hk,rfl,rfl,ho,hc,ad,ag,hb⟩:=hrel;have HO:=I ho;clear ho;have HB:=I hb;clear hb;have HC:=I hc;clear hc;have Y:=I ad;clear ad
  by_cases hlt:k<l.length
  ·have e1:(k:Int)<(l.length:Int):=by omega
   have aa:=Kz hf hlt;have ab:=NO hf hlt
   by_cases hx:l[k]=c
   ·have t1:((l[k].toNat:Int)==(c.toNat:Int))=true:=by simp [hx]
    have hn:(ls++[piece l f k])++split c (l.drop (k+1))=split c l:=by
     rw[<-Y.o,aa,hx,Jm HC.o];simp
    have HN:=I hn;clear hn aa ab hx;have e2:(f:Int)<=(k:Int):=by omega
    go_wp2_with (at_builtin;refine PE rfl (.tmp 19) (.tmp 24) rfl N _ ls rfl HO.o (piece l f k) rfl (by omega) (X.o _ HB.o) ?_;intro v' w3 M O;have H3:=I (HB.o.trans O);have Z:=I M;clear M O)
    go_roundw
    case rel=>exact⟨k+1,k+1,_,Nat.le_refl _,by omega,by go_num,by go_num,Z.o,by simp [piece],HN.o,by simp;omega,H3.o⟩
    case measure=>simp [intOf];omega
   ·have t1:((l[k].toNat:Int)==(c.toNat:Int))=false:=by
     simp only[beq_eq_false_iff_ne,ne_eq];intro q;exact hx (UInt8.toNat_inj.1 (by omega))
    have af:=I (show c∉piece l f (k+1) by
     rw[ab,List.mem_append,not_or];exact⟨HC.o,by simpa using fun q:c=l[k]=>hx q.symm⟩)
    clear aa ab hx
    go_wp2
    go_roundw
    case rel=>exact⟨f,k+1,ls,by omega,by omega,rfl,by go_num,HO.o,af.o,Y.o,ag,HB.o⟩
    case measure=>simp [intOf];omega
  ·obtain rfl:k=l.length:=by omega
   have e1:¬(l.length:Int)<(l.length:Int):=by omega
   have e2:(f:Int)<=(l.length:Int):=by omega
   have hc:=HC.o;rw[KA] at hc;have hn:ls++[piece l f l.length]=split c l:=by rw[<-Y.o,GV hc,KA]
   have HN:=I hn;clear hn hc
   go_wp2_with (at_builtin;refine PE rfl (.tmp 28) (.tmp 32) rfl N _ ls rfl HO.o (piece l f l.length) rfl (by omega) (X.o _ HB.o) ?_;intro v' w3 M O;have H3:=I (HB.o.trans O);have Z:=I M;clear M O)
   go_ret;exact⟨_,rfl,by rw[<-HN.o];exact Z.o,H3.o⟩
end Nm
namespace Nm
open Go.RowKit Ae
attribute [local go_sem] Gt List.getElem_cons_zero List.getElem_cons_succ PG
theorem Hz {ls:List L} {i:Nat} (M:i<ls.length) (h:Cu capB (pl ls i)=false):CV ls=false:=by
 cases e:CV ls with
 |false=>rfl
 |true=>
  have:=((Iu ls).1 e).2.2;rw[List.all_eq_true] at this;have:=this _ (Px M);rw[h] at this;cases this
theorem SG {ls:List L} (h:∀i,i<ls.length->Cu capB (pl ls i)=true) (M:1<=ls.length):CV ls=decide (ls.length<=4):=by
 have X:ls.all (Cu capB)=true:=by
  rw[List.all_eq_true];intro x O;obtain⟨i,Y,rfl⟩:=mem_pl O;exact h i Y
 rw[CV,X,decide_eq_true M];simp
theorem Lz (ls:List L) (b o c:Nat) (w:World) (h1:1<=ls.length) (hl:ls.length<=8000000000000) (hs:∀i,i<ls.length->(pl ls i).length<=1000000000)
  (X:∀i,i<ls.length->w.cell? ⟨b,o+i,none⟩=some (.string ⟨(pl ls i).toArray⟩)) :
  Calls Tryz.prog 160 #[.slice (some ⟨b,o,none⟩) ls.length c] w fun e w'=>e=.returned (.bool (CV ls))/\w=w':=by
 obtain⟨n,en⟩:=Aj (ls.length);rw[<-en] at h1 hl hs X⊢;have HS:=I hs;clear hs;have HC:=I X;clear X;have M:=I en;clear en;go_enter Tryz.func160,Tryz.ntmps160
 go_wp2
 go_loop [3] (fun Z=>∃i:Nat,i<=n/\Z=.int .i64 (i:Int)/\∀j,j<i->Cu capB (pl ls j)=true) (fun Z=>n - (intOf Z).toNat)
 case atStart=>exact⟨0,Nat.zero_le _,rfl,fun j h=>absurd h (Nat.not_lt_zero j)⟩
 case round=>
  obtain⟨i,Y,rfl,hw⟩:=hrel;have HW:=I hw;clear hw
  by_cases hlt:i<n
  ·have e1:(i:Int)<(n:Int):=by omega
   have X:=HC.o i hlt;have aa:=HS.o i hlt;obtain⟨l,el⟩:=Aj (pl ls i);rw[<-el] at X aa;have O:=I el;clear el
   by_cases g1:l.length<1
   ·have t1:decide ((l.length:Int)<1)=true:=by simp;omega
    have E:=I (Hz (by rw[<-M.o];exact hlt) (by rw[<-O.o];exact GW g1));clear g1
    go_wp2
    go_ret;exact⟨by rw[E.o];rfl,rfl⟩
   ·have t1:decide ((l.length:Int)<1)=false:=by simp;omega
    by_cases g2:8<l.length
    ·have t2:decide (8<(l.length:Int))=true:=by simp;omega
     have E:=I (Hz (by rw[<-M.o];exact hlt) (by rw[<-O.o];exact Iv g2));clear g1 g2
     go_wp2
     go_ret;exact⟨by rw[E.o];rfl,rfl⟩
    ·have t2:decide (8<(l.length:Int))=false:=by simp;omega
     have HA:=I (fun h=>JI (p:=capB) (l:=l) h (by omega) (by omega));clear g1 g2
     go_wp2
     go_loop [4] (fun kv=>∃k:Nat,k<=l.length/\kv=.int .i64 (k:Int)/\Fit capB l k) (fun kv=>l.length - (intOf kv).toNat)
     case atStart=>exact⟨0,Nat.zero_le _,rfl,fun i _ h=>by omega⟩
     case round=>
      obtain⟨k,hk,rfl,hf⟩:=hrel;have HF:=I hf;clear hf
      by_cases hkl:k<l.length
      ·have e2:(k:Int)<(l.length:Int):=by omega
       have hb:=BG l[k]
       by_cases q1:l[k].toNat<65
       ·have s1:decide ((l[k].toNat:Int)<65)=true:=by simp;omega
        have E:=I (Hz (ls:=ls) (i:=i) (by rw[<-M.o];exact hlt) (by rw[<-O.o];exact Gy hkl (by simp [capB];omega)));clear q1
        go_wp2
        go_ret;exact⟨by rw[E.o];rfl,rfl⟩
       ·have s1:decide ((l[k].toNat:Int)<65)=false:=by simp;omega
        by_cases q2:90<l[k].toNat
        ·have s2:decide (90<(l[k].toNat:Int))=true:=by simp;omega
         have E:=I (Hz (ls:=ls) (i:=i) (by rw[<-M.o];exact hlt) (by rw[<-O.o];exact Gy hkl (by simp [capB];omega)));clear q1 q2
         go_wp2
         go_ret;exact⟨by rw[E.o];rfl,rfl⟩
        ·have s2:decide (90<(l[k].toNat:Int))=false:=by simp;omega
         have HP:=I (show capB l[k]=true by simp [capB];omega);clear q1 q2
         go_wp2
         go_round
         case rel=>exact⟨k+1,by omega,by go_num,fun i Y ab=>by
          by_cases q:i=k
          ·subst q;exact HP.o
          ·exact HF.o i Y (by omega)⟩
         case measure=>simp [intOf];omega
      ·have e2:¬(k:Int)<(l.length:Int):=by omega
       have E:=I (HA.o (fun i Y=>HF.o i Y (by omega)))
       go_wp2
       go_round
       case rel=>exact⟨i+1,by omega,by go_num,fun j hj=>by
        by_cases q:j=i
        ·rw[q,<-O.o];exact E.o
        ·exact HW.o j (by omega)⟩
       case measure=>simp [intOf];omega
  ·obtain rfl:i=n:=by omega
   have e1:¬(i:Int)<(i:Int):=by omega
   have hE:=SG (ls:=ls) (fun j hj=>HW.o j (by rw[M.o];exact hj)) (by rw[<-M.o];exact h1);rw[<-M.o] at hE;have E:=I hE;clear hE;have t1:decide ((1:Int)<=(i:Int))=true:=by simp;omega
   by_cases g:i<=4
   ·have t2:decide ((i:Int)<=4)=true:=by simp;omega
    have E2:=I (decide_eq_true g);clear g
    go_wp2
    go_ret;exact⟨by rw[E.o,E2.o];rfl,rfl⟩
   ·have t2:decide ((i:Int)<=4)=false:=by simp;omega
    have E2:=I (decide_eq_false g);clear g
    go_wp2
    go_ret;exact⟨by rw[E.o,E2.o];rfl,rfl⟩
theorem NP (ls:List L) (A:Option Addr) (c B:Nat) (w:World) (M:1<=ls.length) (Y:ls.length<=8000000000000) (hs:∀i,i<ls.length->(pl ls i).length<=1000000000) (O:Rd w B A (strs ls)) :
  Calls Tryz.prog 160 #[.slice A ls.length c] w fun e w'=>e=.returned (.bool (CV ls))/\w=w':=by
 obtain⟨b,o,rfl,_,_⟩:=PD O (i:=0) M;refine Lz ls b o c w M Y hs fun i Z=>?_
 obtain⟨b',o',e,_,X⟩:=PD O Z;injection e with e;injection e with e1 e2;subst e1;subst e2;exact X
end Nm
namespace Nm
open Go.RowKit Ae
attribute [local go_sem] Gt List.getElem_cons_zero List.getElem_cons_succ Dw Dx FL
theorem PH (c:UInt8) (l:L):∀x,x∈split c l->x.length<=l.length:=by
 induction l with
 |nil=>intro x M;simp [split] at M;simp [M]
 |cons a r ih=>
  intro x M;rw[split] at M
  split at M
  ·rcases List.mem_cons.1 M with rfl | h
   ·simp
   ·have:=ih x h;simp;omega
  ·cases hs:split c r with
   |nil=>rw[hs] at M;simp at M;subst M;simp
   |cons u t=>
    rw[hs] at M ih;rcases List.mem_cons.1 M with rfl | h
    ·have:=ih u List.mem_cons_self;simp;omega
    ·have:=ih x (List.mem_cons_of_mem _ h);simp;omega
theorem MQ (l:L) (c:UInt8) (w':World) (base:Nat) (v:Value) (hs:l.length<=1000000000) (O:Own w' base v (split c l)) :
  ∃A n cap,v=.slice A n cap/\∀M,Below w'.heap.size w' M->Calls Tryz.prog 160 #[.slice A n cap] M fun e w2=>e=.returned (.bool (CV (split c l)))/\M=w2:=by
 obtain⟨A,cap,rfl,X⟩:=O.slice;refine⟨A,_,cap,rfl,fun M Z=>?_⟩;exact NP (split c l) A cap w'.heap.size M (Fl c l) (by have:=SF c l;omega) (fun i Y=>by have:=PH c l _ (Px Y);omega) (X.below Z)
theorem PI (l:L) (w:World) (hs:l.length<=1000000000):Calls Tryz.prog 125 #[.string ⟨l.toArray⟩] w fun e w'=>e=.returned (.int .i64 (BN l:Int))/\Below w.heap.size w w':=by
 have C2:=I (fun Y=>GB l 46 Y hs);have S2:=I (fun w' base v M=>MQ l 46 w' base v hs M);have ad:=I (Below.refl w.heap.size w);cases l with
 |nil=>
  have E:=I Sq;have c2:=C2.o w;have EL:=I (show CV (split 46 [])=false by decide);clear hs;go_enter Tryz.func125,Tryz.ntmps125
  go_wp2_with (first
   |(go_at_call 161;refine Calls.mono c2 ?_;rintro e Y ⟨v,rfl,M,O⟩;clear c2;obtain⟨A,n,cap,rfl,X⟩:=S2.o Y _ v M;have c3:=X Y Ag;rw[EL.o] at c3;have H1:=I O;clear O M X)
   |(go_at_call 160;refine Ah c3 ?_;rintro w2 rfl;clear c3))
  go_ret;exact⟨by rw[E.o];rfl,H1.o⟩
 |cons x r=>
  have e0:(0:Int)<(r.length:Int)+1:=by omega
  have aa:r.length<=1000000000:=by simp at hs;omega
  have ek:BN (x :: r)=if slL (x :: r) then 2 else if CV (split 46 (x :: r)) then 1 else 0:=rfl
  by_cases hx:x=47
  ·subst hx
   have Z:slL (47 :: r)=CV (split 47 r):=by simp [slL]
   rw[Z] at ek;have c1:=GB r 47 w aa;have S1:=I (fun w' base v M=>MQ r 47 w' base v aa M);cases h1:CV (split 47 r) with
   |true=>
    have E:=I (show BN (47 :: r)=2 by rw[ek,h1];rfl);have H:=I h1;clear ek Z h1 hs aa;go_enter Tryz.func125,Tryz.ntmps125
    go_wp2_with (first
     |(go_at_call 161;refine Calls.mono c1 ?_;rintro e Y ⟨v,rfl,M,O⟩;clear c1;obtain⟨A,n,cap,rfl,X⟩:=S1.o Y _ v M;have c3:=X Y Ag;rw[H.o] at c3;have H1:=I O;clear O M X)
     |(go_at_call 160;refine Ah c3 ?_;rintro w2 rfl;clear c3))
    go_ret;exact⟨by rw[E.o];rfl,H1.o⟩
   |false=>
    rw[h1,if_neg (by simp)] at ek;have H:=I h1;have hd:CV (split 46 (47 :: r))=false:=by
     cases q:CV (split 46 (47 :: r)) with
     |false=>rfl
     |true=>exact absurd rfl (ML q)
    have HD:=I hd;have E:=I (show BN (47 :: r)=0 by rw[ek,hd];rfl);clear ek Z h1 hd hs aa;go_enter Tryz.func125,Tryz.ntmps125
    go_wp2_with (first
     |(go_at_call 161;refine Calls.mono c1 ?_;rintro e Y ⟨v,rfl,M,O⟩;clear c1;obtain⟨A,n,cap,rfl,X⟩:=S1.o Y _ v M;have c3:=X Y Ag;rw[H.o] at c3;have H1:=I O;clear O M X;have c2:=C2.o Y)
     |(go_at_call 160;refine Ah c3 ?_;rintro w2 rfl;clear c3)
     |(go_at_call 161;refine Calls.mono c2 ?_;rintro e w4 ⟨v4,rfl,M,O⟩;clear c2;obtain⟨A4,n4,ab,rfl,X⟩:=S2.o w4 _ v4 M;have c5:=X w4 Ag;rw[HD.o] at c5;have H4:=H1.t O;clear O M X)
     |(go_at_call 160;refine Ah c5 ?_;rintro w6 rfl;clear c5))
    go_ret;exact⟨by rw[E.o];rfl,H4.o⟩
  ·have t1:((x.toNat:Int)==47)=false:=by
    simp only[beq_eq_false_iff_ne,ne_eq];intro q;exact hx (UInt8.toNat_inj.1 (by have:(47:UInt8).toNat=47:=rfl;omega))
   have Z:slL (x :: r)=false:=by simp [slL,hx]
   rw[Z,if_neg (by simp)] at ek;have c2:=C2.o w;cases h1:CV (split 46 (x :: r)) with
   |true=>
    have E:=I (show BN (x :: r)=1 by rw[ek,h1];rfl);have H:=I h1;clear ek Z h1 hs aa hx;go_enter Tryz.func125,Tryz.ntmps125
    go_wp2_with (first
     |(go_at_call 161;refine Calls.mono c2 ?_;rintro e Y ⟨v,rfl,M,O⟩;clear c2;obtain⟨A,n,cap,rfl,X⟩:=S2.o Y _ v M;have c3:=X Y Ag;rw[H.o] at c3;have H1:=I O;clear O M X)
     |(go_at_call 160;refine Ah c3 ?_;rintro w2 rfl;clear c3))
    go_ret;exact⟨by rw[E.o];rfl,H1.o⟩
   |false=>
    have E:=I (show BN (x :: r)=0 by rw[ek,h1];rfl);have H:=I h1;clear ek Z h1 hs aa hx;go_enter Tryz.func125,Tryz.ntmps125
    go_wp2_with (first
     |(go_at_call 161;refine Calls.mono c2 ?_;rintro e Y ⟨v,rfl,M,O⟩;clear c2;obtain⟨A,n,cap,rfl,X⟩:=S2.o Y _ v M;have c3:=X Y Ag;rw[H.o] at c3;have H1:=I O;clear O M X)
     |(go_at_call 160;refine Ah c3 ?_;rintro w2 rfl;clear c3))
    go_ret;exact⟨by rw[E.o];rfl,H1.o⟩
theorem PJ (l:L) (w:World) (hs:l.length<=1000000000):Calls Tryz.prog 79 #[.string ⟨l.toArray⟩] w fun e w'=>e=.returned (.bool (isL l))/\Below w.heap.size w w':=by
 have c1:=PI l w hs
 by_cases h:1<=BN l
 ·have E:=I (show isL l=true by simp [isL,h])
  have t:decide (0<BN l)=true:=by simp;omega
  clear h;go_enter Tryz.func79,Tryz.ntmps79
  go_wp2_with (go_at_call 125;refine Ah c1 ?_;rintro X M;clear c1;have H1:=I M;clear M)
  go_ret;exact⟨by rw[E.o];rfl,H1.o⟩
 ·have E:=I (show isL l=false by simp [isL];omega)
  have O:BN l=0:=by omega
  rw[O] at c1;clear h O;go_enter Tryz.func79,Tryz.ntmps79
  go_wp2_with (go_at_call 125;refine Ah c1 ?_;rintro X M;clear c1;have H1:=I M;clear M)
  go_ret;exact⟨by rw[E.o];rfl,H1.o⟩
end Nm
namespace Nm
open Go.RowKit Ae
attribute [local go_sem] Gt List.getElem_cons_zero List.getElem_cons_succ Dw Dx FL
theorem SH {n:L} (h:n.length<8):tgL n=false:=by
 cases q:preL krb n with
 |false=>rw[tgL,q];rfl
 |true=>
  have M:n.drop 7 = []:=List.drop_of_length_le (by omega);have O:cpL krb n = []:=by rw[cpL,q,if_pos rfl];exact M
  rw[tgL,O,show isL []=false from by decide,Bool.and_false]
theorem tg_eq (n:L):tgL n=((n.take 7==krb)&&isL (n.drop 7)):=by
 have e:=MM krb n;rw[show krb.length=7 from rfl] at e;rw[tgL,e];cases q:preL krb n with
 |false=>rfl
 |true=>rw[cpL,q];rfl
theorem Gf (n:L) (w:World) (hs:n.length<=1000000000):Calls Tryz.prog 43 #[.string ⟨n.toArray⟩] w fun e w'=>e=.returned (.tuple #[.string ⟨(tgR n).toArray⟩,.bool (tgL n)])/\Below w.heap.size w w':=by
 have c2:=PJ (n.drop 7) w (by simp;omega);have Y:=I (Below.refl w.heap.size w)
 by_cases h8:n.length<8
 ·have M:=I (SH h8)
  have O:=I (show tgR n = [] by rw[tgR,M.o];rfl);have t1:decide ((n.length:Int)<8)=true:=by simp;omega
  clear h8 hs;go_enter Tryz.func43,Tryz.ntmps43
  go_wp2_with fail
  go_ret2
  exact⟨by rw[M.o,O.o];rfl,Y.o⟩
 ·have t1:decide ((n.length:Int)<8)=false:=by simp;omega
  have e7:(7:Int)<=(n.length:Int):=by omega
  have eq:=tg_eq n;clear h8;cases h1:(n.take 7==krb) with
  |false=>
   rw[h1] at eq;have t2:(n.take 7 == [107,114,98,116,103,116,47])=false:=h1;have M:=I (show tgL n=false from eq);have O:=I (show tgR n = [] by rw[tgR,M.o];rfl);clear eq h1 hs;go_enter Tryz.func43,Tryz.ntmps43
   go_wp2_with fail
   go_ret2
   exact⟨by rw[M.o,O.o];rfl,Y.o⟩
  |true=>
   rw[h1,Bool.true_and] at eq;have t2:(n.take 7 == [107,114,98,116,103,116,47])=true:=h1;clear h1 hs;cases h2:isL (n.drop 7) with
   |false=>
    rw[h2] at c2 eq;have M:=I eq;have O:=I (show tgR n = [] by rw[tgR,M.o];rfl);clear eq h2;go_enter Tryz.func43,Tryz.ntmps43
    go_wp2_with (go_at_call 79;refine Ah c2 ?_;rintro w2 X;clear c2;have Z:=I X;clear X)
    go_ret2
    exact⟨by rw[M.o,O.o];rfl,Z.o⟩
   |true=>
    rw[h2] at c2 eq;have M:=I eq;have O:=I (show tgR n=n.drop 7 by rw[tgR,M.o];rfl);clear eq h2;go_enter Tryz.func43,Tryz.ntmps43
    go_wp2_with (go_at_call 79;refine Ah c2 ?_;rintro w2 X;clear c2;have Z:=I X;clear X)
    go_ret2
    exact⟨by rw[M.o,O.o];rfl,Z.o⟩
theorem SI {p:UInt8->Bool} {l:L} (h:∀i (h:i<l.length),p l[i]=true):Cu p l=(decide (1<=l.length)&&decide (l.length<=8)):=by
 have O:l.all p=true:=by
  rw[List.all_eq_true];intro x M;obtain⟨i,X,rfl⟩:=List.getElem_of_mem M;exact h i X
 rw[Cu,O,Bool.and_true]
theorem Fs (r n:L) (w:World) (hs:r.length<=1000000000) (an:n.length<=1000000000):Calls Tryz.prog 44 #[.agg #[.string ⟨r.toArray⟩,.string ⟨n.toArray⟩]] w fun e w'=>e=.returned (.bool (Cg r n))/\Below w.heap.size w w':=by
 have c1:=PJ r (w.alloc (.cells #[.string ⟨r.toArray⟩,.string ⟨n.toArray⟩] 35)) hs;have hk:=Blk.new w 35 #[.string ⟨r.toArray⟩,.string ⟨n.toArray⟩];have ak:=(Below.refl w.heap.size w).alloc Af (.cells #[.string ⟨r.toArray⟩,.string ⟨n.toArray⟩] 35);have al:w.heap.size<(w.alloc (.cells #[.string ⟨r.toArray⟩,.string ⟨n.toArray⟩] 35)).heap.size:=by simp
 obtain⟨N,eN⟩:=Aj (w.heap.size);have C2:=I (fun w1=>Gf n w1 an);have E1:=I (show Cg r n=(isL r&&(tgL n||Cu Cx n)) from rfl);rw[<-eN] at hk ak al⊢;have EN:=I eN;clear eN;have HK:=I hk;clear hk;have ah:=I ak;clear ak;have Z:=I al;clear al hs;cases h1:isL r with
 |false=>
  rw[h1] at c1;have E:=I (show Cg r n=false by rw[E1.o,h1];rfl);clear h1;go_enter Tryz.func44,Tryz.ntmps44
  go_wp2_with (go_at_call 79;refine Ah c1 ?_;rintro w1 X;clear c1;have H1:=I (ah.o.trans (X.mono (Nat.le_of_lt Z.o)));clear X)
  go_ret;exact⟨by rw[E.o];rfl,H1.o⟩
 |true=>
  rw[h1] at c1;cases h2:tgL n with
  |true=>
   have E:=I (show Cg r n=true by rw[E1.o,h1,h2];rfl);have HT:=I h2;clear h1 h2;go_enter Tryz.func44,Tryz.ntmps44
   go_wp2_with (first
    |(go_at_call 79;refine Ah c1 ?_;rintro w1 X;clear c1;have H1:=I (ah.o.trans (X.mono (Nat.le_of_lt Z.o)));have M:=HK.o.below X;have aj:=I M;have ad:=M.cell 1;have ae:N<w1.heap.size:=(by have:=X.size;have:=Z.o;omega);have ag:=I ae;rw[EN.o] at ad;clear X ae M;have c2:=C2.o w1;rw[HT.o] at c2)
    |(go_at_call 43;refine Ah c2 ?_;rintro w2 hb;clear c2 ad;have H2:=I (H1.o.trans (hb.mono (Nat.le_of_lt ag.o)));have ai:=(aj.o.below hb).cell 1;rw[EN.o] at ai;clear hb))
   go_ret;exact⟨by rw[E.o];rfl,H2.o⟩
  |false=>
   have E:=I (show Cg r n=Cu Cx n by rw[E1.o,h1,h2];rfl);have HT:=I h2;clear h1 h2;go_enter Tryz.func44,Tryz.ntmps44
   go_wp2_with (first
    |(go_at_call 79;refine Ah c1 ?_;rintro w1 X;clear c1;have H1:=I (ah.o.trans (X.mono (Nat.le_of_lt Z.o)));have M:=HK.o.below X;have aj:=I M;have ad:=M.cell 1;have ae:N<w1.heap.size:=(by have:=X.size;have:=Z.o;omega);have ag:=I ae;rw[EN.o] at ad;clear X ae M;have c2:=C2.o w1;rw[HT.o] at c2)
    |(go_at_call 43;refine Ah c2 ?_;rintro w2 hb;clear c2 ad;have H2:=I (H1.o.trans (hb.mono (Nat.le_of_lt ag.o)));have ai:=(aj.o.below hb).cell 1;rw[EN.o] at ai;clear hb))
   go_loop [5] (fun iv=>∃k:Nat,k<=n.length/\iv=.int .i64 (k:Int)/\Fit Cx n k) (fun iv=>n.length - (intOf iv).toNat)
   case atStart=>exact⟨0,Nat.zero_le _,rfl,fun i _ h=>by omega⟩
   case round=>
    obtain⟨k,hk,rfl,hf⟩:=hrel;have HF:=I hf;clear hf
    by_cases hlt:k<n.length
    ·have e1:(k:Int)<(n.length:Int):=by omega
     have hb:=BG n[k];have af:Cx n[k]=false->Hid (Cg r n=false):=fun h=>I (by rw[E.o];exact Gy hlt h)
     have ab:=I af;clear af;have Y:Cx n[k]=true->Hid (Fit Cx n (k+1)):=fun h=>I (fun i hi ao=>by
      by_cases q:i=k
      ·subst q;exact h
      ·exact HF.o i hi (by omega))
     have aa:=I Y;clear Y
     by_cases q1:n[k].toNat<97
     ·have s1:decide ((n[k].toNat:Int)<97)=true:=by simp;omega
      by_cases q2:n[k].toNat<48
      ·have s2:decide ((n[k].toNat:Int)<48)=true:=by simp;omega
       have O:=ab.o (by simp [Cx,DI];omega);clear q1 q2
       go_wp2
       go_ret;exact⟨by rw[O.o];rfl,H2.o⟩
      ·have s2:decide ((n[k].toNat:Int)<48)=false:=by simp;omega
       by_cases q3:57<n[k].toNat
       ·have s3:decide (57<(n[k].toNat:Int))=true:=by simp;omega
        have O:=ab.o (by simp [Cx,DI];omega);clear q1 q2 q3
        go_wp2
        go_ret;exact⟨by rw[O.o];rfl,H2.o⟩
       ·have s3:decide (57<(n[k].toNat:Int))=false:=by simp;omega
        have O:=aa.o (by simp [Cx,DI];omega);clear q1 q2 q3
        go_wp2
        go_round
        case rel=>exact⟨k+1,by omega,by go_num,O.o⟩
        case measure=>simp [intOf];omega
     ·have s1:decide ((n[k].toNat:Int)<97)=false:=by simp;omega
      by_cases q2:122<n[k].toNat
      ·have s2:decide (122<(n[k].toNat:Int))=true:=by simp;omega
       have s3:decide ((n[k].toNat:Int)<48)=false:=by simp;omega
       have s4:decide (57<(n[k].toNat:Int))=true:=by simp;omega
       have O:=ab.o (by simp [Cx,DI];omega);clear q1 q2
       go_wp2
       go_ret;exact⟨by rw[O.o];rfl,H2.o⟩
      ·have s2:decide (122<(n[k].toNat:Int))=false:=by simp;omega
       have O:=aa.o (by simp [Cx,DI];omega);clear q1 q2
       go_wp2
       go_round
       case rel=>exact⟨k+1,by omega,by go_num,O.o⟩
       case measure=>simp [intOf];omega
    ·obtain rfl:k=n.length:=by omega
     have e1:¬(n.length:Int)<(n.length:Int):=by omega
     have O:=I (E.o.trans (SI (fun i hi=>HF.o i hi hi)))
     by_cases g1:1<=n.length
     ·have t1:decide ((1:Int)<=(n.length:Int))=true:=by simp;omega
      by_cases g2:n.length<=8
      ·have t2:decide ((n.length:Int)<=8)=true:=by simp;omega
       have E3:=I (O.o.trans (show(decide (1<=n.length)&&decide (n.length<=8))=true by simp;omega));clear g1 g2
       go_wp2
       go_ret;exact⟨by rw[E3.o];rfl,H2.o⟩
      ·have t2:decide ((n.length:Int)<=8)=false:=by simp;omega
       have E3:=I (O.o.trans (show(decide (1<=n.length)&&decide (n.length<=8))=false by simp;omega));clear g1 g2
       go_wp2
       go_ret;exact⟨by rw[E3.o];rfl,H2.o⟩
     ·have t1:decide ((1:Int)<=(n.length:Int))=false:=by simp;omega
      have E3:=I (O.o.trans (show(decide (1<=n.length)&&decide (n.length<=8))=false by simp;omega));clear g1
      go_wp2
      go_ret;exact⟨by rw[E3.o];rfl,H2.o⟩
end Nm
end Go.Proofs.YtlccngianpfalaaGreat
