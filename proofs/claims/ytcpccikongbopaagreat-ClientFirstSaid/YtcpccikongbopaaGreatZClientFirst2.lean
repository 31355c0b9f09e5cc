import Derived.Test.YtcpccikongbopaaGreatZClientFirst1
set_option maxHeartbeats 25600000
set_option maxRecDepth 100000
set_option linter.unusedVariables false
set_option linter.unusedSimpArgs false
namespace Go.Proofs.YtcpccikongbopaaGreat
namespace Nm
abbrev L:=List UInt8
def capB (b:UInt8):Bool:=decide (65<=b.toNat)&&decide (b.toNat<=90)
def Ds (b:UInt8):Bool:=decide (97<=b.toNat)&&decide (b.toNat<=122)
def Ci (b:UInt8):Bool:=Ds b||(decide (48<=b.toNat)&&decide (b.toNat<=57))
def Cf (p:UInt8->Bool) (l:L):Bool:=decide (1<=l.length)&&(decide (l.length<=8)&&l.all p)
theorem DI (p:UInt8->Bool) (l:L):Cf p l=true↔1<=l.length/\l.length<=8/\l.all p=true:=by simp [Cf]
def hasC (c:UInt8) (l:L):Bool:=l.any fun x=>decide (x=c)
def bef (c:UInt8):L->L
 | []=>[]
 |x :: r=>if x=c then [] else x :: bef c r
def aft (c:UInt8):L->L
 | []=>[]
 |x :: r=>if x=c then r else aft c r
theorem FX (c:UInt8) (l:L):hasC c l=true↔c∈l:=by simp [hasC]
theorem Gs (c:UInt8) (l:L):hasC c l=false↔c∉l:=by rw[<-FX];simp
theorem Jg {c:UInt8} {l:L} (h:c∉l):bef c l=l:=by
 induction l with
 |nil=>rfl
 |cons x r ih=>
  simp only[List.mem_cons,not_or] at h;rw[bef,if_neg (fun e=>h.1 e.symm),ih h.2]
theorem Rs {c:UInt8} {l:L} (h:c∉l):aft c l = []:=by
 induction l with
 |nil=>rfl
 |cons x r ih=>
  simp only[List.mem_cons,not_or] at h;rw[aft,if_neg (fun e=>h.1 e.symm),ih h.2]
theorem Uz (c:UInt8) (l:L):c∉bef c l:=by
 induction l with
 |nil=>simp [bef]
 |cons x r ih=>
  rw[bef];split
  ·simp
  ·rename_i h;simp only[List.mem_cons,not_or];exact⟨fun e=>h e.symm,ih⟩
theorem Me {c:UInt8} {l:L} (h:c∈l):l=bef c l++c :: aft c l:=by
 induction l with
 |nil=>simp at h
 |cons x r ih=>
  by_cases e:x=c
  ·simp [bef,aft,e]
  ·rw[bef,aft,if_neg e,if_neg e]
   have:c∈r:=(List.mem_cons.1 h).resolve_left fun g=>e g.symm
   simpa using ih this
theorem UA (c:UInt8) (l:L):(aft c l).length<=l.length:=by
 induction l with
 |nil=>simp [aft]
 |cons x r ih=>rw[aft];split<;>simp<;>omega
theorem UB (c:UInt8) (l:L):(bef c l).length<=l.length:=by
 induction l with
 |nil=>simp [bef]
 |cons x r ih=>rw[bef];split<;>simp<;>omega
def split (c:UInt8):L->List L
 | []=>[[]]
 |x :: r=>if x=c then [] :: split c r else match split c r with
  | []=>[[x]]
  |a :: t=>(x :: a) :: t
theorem Jh (c:UInt8) (l:L):split c l≠[]:=by
 cases l with
 |nil=>simp [split]
 |cons x r=>
  rw[split];split
  ·simp
  ·split<;>simp
theorem Er (c:UInt8) (l:L):1<=(split c l).length:=by
 have:=Jh c l;cases h:split c l with
 |nil=>exact absurd h this
 |cons a t=>simp
theorem Gt {c:UInt8} {l:L} (h:c∉l):split c l = [l]:=by
 induction l with
 |nil=>rfl
 |cons x r ih=>
  simp only[List.mem_cons,not_or] at h;rw[split,if_neg (fun e=>h.1 e.symm),ih h.2]
theorem FY {c:UInt8} (u v:L):split c (u++c :: v)=split c u++split c v:=by
 induction u with
 |nil=>simp [split]
 |cons x r ih=>
  rw[List.cons_append,split,split]
  split
  ·rw[ih];rfl
  ·rw[ih]
   cases h:split c r with
   |nil=>exact absurd h (Jh c r)
   |cons a t=>rfl
theorem IP {c:UInt8} {u v:L} (h:c∉u):split c (u++c :: v)=u :: split c v:=by rw[FY,Gt h];rfl
theorem Hv (c:UInt8) (l:L):split c l=if hasC c l then bef c l :: split c (aft c l) else [l]:=by
 by_cases h:c∈l
 ·rw[if_pos ((FX c l).2 h)]
  conv=>lhs;rw[Me h]
  exact IP (Uz c l)
 ·rw[if_neg (by rw[FX];exact h)];exact Gt h
def Cu (ls:List L):Bool:=decide (1<=ls.length)&&(decide (ls.length<=4)&&ls.all (Cf capB))
theorem Hw (ls:List L):Cu ls=true↔1<=ls.length/\ls.length<=4/\ls.all (Cf capB)=true:=by simp [Cu]
def areL (c:UInt8):Nat->L->Bool
 |0,_=>false
 |n+1,l=>Cf capB (bef c l)&&(if hasC c l then areL c n (aft c l) else true)
theorem UC (c:UInt8) (n:Nat):∀l:L,areL c n l=(decide ((split c l).length<=n)&&(split c l).all (Cf capB)):=by
 induction n with
 |zero=>intro l;have:=Er c l;rw[areL,decide_eq_false (by omega)];rfl
 |succ n ih=>
  intro l;rw[areL,ih,Hv c l]
  by_cases h:c∈l
  ·rw[(FX c l).2 h,if_pos rfl,if_pos rfl]
   simp only[List.length_cons,List.all_cons,Nat.add_le_add_iff_right];cases Cf capB (bef c l)<;>simp
  ·rw[(Gs c l).2 h,if_neg (by simp),if_neg (by simp),Jg h]
   simp
theorem JS (c:UInt8) (l:L):areL c 4 l=Cu (split c l):=by
 have:=Er c l;rw[UC,Cu,decide_eq_true this];rfl
def slL (l:L):Bool:=decide (l.head? = some 47)&&Cu (split 47 l.tail)
def BD (l:L):Nat:=if slL l then 2 else if Cu (split 46 l) then 1 else 0
theorem Mf {l:L} (h:Cu (split 46 l)=true):l.head?≠some 47:=by
 intro e;cases l with
 |nil=>simp at e
 |cons x r=>
  simp only[List.head?_cons,Option.some.injEq] at e;subst e;have F:Cf capB (bef 46 (47 :: r))=true:=by
   have D:=((Hw _).1 h).2.2;rw[Hv] at D
   split at D
   ·simp only[List.all_cons,Bool.and_eq_true] at D;exact D.1
   ·rename_i hn
    rw[Jg ((Gs _ _).1 (by simpa using hn))]
    simpa using D
  have M:bef 46 (47 :: r)=47 :: bef 46 r:=by rw[bef,if_neg (by decide)]
  have E:=((DI _ _).1 F).2.2;rw[M] at E;simp [capB] at E
theorem Wx {l:L} (h:Cu (split 46 l)=true):slL l=false:=by
 simp [slL,Mf h]
theorem Ru {l:L} (h:Cu (split 46 l)=true):BD l=1:=by rw[BD,Wx h,h];rfl
theorem Na (l:L):BD l=if Cu (split 46 l) then 1 else if slL l then 2 else 0:=by
 cases h:Cu (split 46 l) with
 |true=>rw[Ru h];rfl
 |false=>rw[BD,h];rfl
theorem UD (l:L):BD l<=2:=by rw[BD];split<;>(try split)<;>omega
theorem Rv:BD []=0:=by decide
theorem Rw {l:L} (h:BD l=1):Cu (split 46 l)=true:=by
 rw[BD] at h
 split at h
 ·omega
 ·split at h
  ·assumption
  ·omega
theorem Rx {l:L} (h:BD l=2):slL l=true:=by
 rw[BD] at h
 split at h
 ·assumption
 ·split at h<;>omega
def isL (l:L):Bool:=decide (1<=BD l)
def upL (l:L):L:=if BD l=1 then aft 46 l else if BD l=2 then (aft 47 l.reverse).reverse else []
def chF:Nat->L->List L
 |0,_=>[]
 |n+1,l=>if l = [] then [] else l :: chF n (upL l)
def ch (l:L):List L:=chF 4 l
def pl (A:List L) (i:Nat):L:=A.getD i []
theorem OK {A:List L} {i:Nat} (h:i<A.length):pl A i=A[i]:=by simp [pl,h]
theorem ON {A:List L} {i:Nat} (h:i<A.length):pl A i∈A:=by rw[OK h];exact List.getElem_mem h
theorem mem_pl {A:List L} {x:L} (h:x∈A):∃i,i<A.length/\pl A i=x:=by
 obtain⟨i,D,e⟩:=List.getElem_of_mem h;exact⟨i,D,by rw[OK D];exact e⟩
def Wy (a b:L):Bool:=decide (b∈ch (upL a))
def upW (A:List L) (b:L):Nat->List L
 |0=>[]
 |k+1=>upW A b k++(if pl A (k+1) = []\/pl A (k+1)=b then [] else [pl A (k+1)])
open Go.RowKit Ad
attribute [local go_sem] FT List.getElem_cons_zero List.getElem_cons_succ
theorem KT (b:UInt8) (w:World):Calls Tryz.prog 205 #[.int .u8 (b.toNat:Int)] w fun e w'=>e=.returned (.bool (capB b))/\w=w':=by
 have M:=By b
 by_cases h1:65<=b.toNat
 ·have D:decide (65<=(b.toNat:Int))=true:=by simp;omega
  by_cases h2:b.toNat<=90
  ·have F:decide ((b.toNat:Int)<=90)=true:=by simp;omega
   have E:=I (show capB b=true by simp [capB,h1,h2]);clear h1 h2;go_enter Tryz.func205,Tryz.ntmps205
   go_wp2
   go_ret;exact⟨by rw[E.o];rfl,rfl⟩
  ·have F:decide ((b.toNat:Int)<=90)=false:=by simp;omega
   have E:=I (show capB b=false by simp [capB,h2]);clear h1 h2;go_enter Tryz.func205,Tryz.ntmps205
   go_wp2
   go_ret;exact⟨by rw[E.o];rfl,rfl⟩
 ·have D:decide (65<=(b.toNat:Int))=false:=by simp;omega
  have E:=I (show capB b=false by simp [capB,h1]);clear h1;go_enter Tryz.func205,Tryz.ntmps205
  go_wp2
  go_ret;exact⟨by rw[E.o];rfl,rfl⟩
theorem OO (b:UInt8) (w:World):Calls Tryz.prog 146 #[.int .u8 (b.toNat:Int)] w fun e w'=>e=.returned (.bool (Ds b))/\w=w':=by
 have M:=By b
 by_cases h1:97<=b.toNat
 ·have D:decide (97<=(b.toNat:Int))=true:=by simp;omega
  by_cases h2:b.toNat<=122
  ·have F:decide ((b.toNat:Int)<=122)=true:=by simp;omega
   have E:=I (show Ds b=true by simp [Ds,h1,h2]);clear h1 h2;go_enter Tryz.func146,Tryz.ntmps146
   go_wp2
   go_ret;exact⟨by rw[E.o];rfl,rfl⟩
  ·have F:decide ((b.toNat:Int)<=122)=false:=by simp;omega
   have E:=I (show Ds b=false by simp [Ds,h2]);clear h1 h2;go_enter Tryz.func146,Tryz.ntmps146
   go_wp2
   go_ret;exact⟨by rw[E.o];rfl,rfl⟩
 ·have D:decide (97<=(b.toNat:Int))=false:=by simp;omega
  have E:=I (show Ds b=false by simp [Ds,h1]);clear h1;go_enter Tryz.func146,Tryz.ntmps146
  go_wp2
  go_ret;exact⟨by rw[E.o];rfl,rfl⟩
theorem JT (b:UInt8) (w:World):Calls Tryz.prog 98 #[.int .u8 (b.toNat:Int)] w fun e w'=>e=.returned (.bool (Ci b))/\w=w':=by
 have X:=By b;have c1:=OO b w
 by_cases D:Ds b=true
 ·have E:=I (show Ci b=true by simp [Ci,D])
  rw[D] at c1;clear D;go_enter Tryz.func98,Tryz.ntmps98
  go_wp2_with (go_at_call 146;refine Ag c1 ?_;rintro F rfl)
  go_ret;exact⟨by rw[E.o];rfl,rfl⟩
 ·have D:Ds b=false:=by simpa using D
  rw[D] at c1
  by_cases h1:48<=b.toNat
  ·have M:decide (48<=(b.toNat:Int))=true:=by simp;omega
   by_cases h2:b.toNat<=57
   ·have O:decide ((b.toNat:Int)<=57)=true:=by simp;omega
    have E:=I (show Ci b=true by simp [Ci,h1,h2]);clear h1 h2 D;go_enter Tryz.func98,Tryz.ntmps98
    go_wp2_with (go_at_call 146;refine Ag c1 ?_;rintro F rfl)
    go_ret;exact⟨by rw[E.o];rfl,rfl⟩
   ·have O:decide ((b.toNat:Int)<=57)=false:=by simp;omega
    have E:=I (show Ci b=false by simp [Ci,h2,D]);clear h1 h2 D;go_enter Tryz.func98,Tryz.ntmps98
    go_wp2_with (go_at_call 146;refine Ag c1 ?_;rintro F rfl)
    go_ret;exact⟨by rw[E.o];rfl,rfl⟩
  ·have M:decide (48<=(b.toNat:Int))=false:=by simp;omega
   have E:=I (show Ci b=false by simp [Ci,h1,D]);clear h1 D;go_enter Tryz.func98,Tryz.ntmps98
   go_wp2_with (go_at_call 146;refine Ag c1 ?_;rintro F rfl)
   go_ret;exact⟨by rw[E.o];rfl,rfl⟩
theorem Ji {p:UInt8->Bool} {l:L} (h:∀i (h:i<l.length),p l[i]=true) (E:1<=l.length) (D:l.length<=8):Cf p l=true:=by
 rw[DI];refine⟨E,D,?_⟩;rw[List.all_eq_true];intro x M;obtain⟨i,F,rfl⟩:=List.getElem_of_mem M;exact h i F
theorem FZ {p:UInt8->Bool} {l:L} {i:Nat} (D:i<l.length) (h:p l[i]=false):Cf p l=false:=by
 cases e:Cf p l with
 |false=>rfl
 |true=>
  have:=((DI p l).1 e).2.2;rw[List.all_eq_true] at this;have:=this _ (List.getElem_mem D);rw[h] at this;cases this
theorem Gu {p:UInt8->Bool} {l:L} (h:l.length<1):Cf p l=false:=by simp [Cf];omega
theorem Hx {p:UInt8->Bool} {l:L} (h:8<l.length):Cf p l=false:=by simp [Cf];omega
def Fit (p:UInt8->Bool) (l:L) (k:Nat):Prop:=∀i (h:i<l.length),i<k->p l[i]=true
theorem Nb (l:L) (w:World) (hs:l.length<=1000000000):Calls Tryz.prog 97 #[.string ⟨l.toArray⟩,.func (.func 205) #[] #[]] w fun e w'=>e=.returned (.bool (Cf capB l))/\w=w':=by
 by_cases h1:l.length<1
 ·have E:=I (Gu (p:=capB) h1)
  have g1:decide ((l.length:Int)<1)=true:=by simp;omega
  clear h1;go_enter Tryz.func97,Tryz.ntmps97
  go_wp2
  go_ret;exact⟨by rw[E.o];rfl,rfl⟩
 ·have g1:decide ((l.length:Int)<1)=false:=by simp;omega
  by_cases h2:8<l.length
  ·have E:=I (Hx (p:=capB) h2)
   have g2:decide (8<(l.length:Int))=true:=by simp;omega
   clear h1 h2;go_enter Tryz.func97,Tryz.ntmps97
   go_wp2
   go_ret;exact⟨by rw[E.o];rfl,rfl⟩
  ·have g2:decide (8<(l.length:Int))=false:=by simp;omega
   have HA:=I (fun h=>Ji (p:=capB) (l:=l) h (by omega) (by omega));clear h1 h2;go_enter Tryz.func97,Tryz.ntmps97
   go_wp2
   go_loop [16] (fun M=>∃k:Nat,k<=l.length/\M=.int .i64 (k:Int)/\Fit capB l k) (fun M=>l.length - (intOf M).toNat)
   case atStart=>exact⟨0,Nat.zero_le _,rfl,fun i _ h=>by omega⟩
   case round=>
    obtain⟨k,hk,rfl,F⟩:=hrel
    by_cases hlt:k<l.length
    ·have Y:(k:Int)<(l.length:Int):=by omega
     have c1:=KT l[k] w;have X:=I F;clear F
     by_cases D:capB l[k]=true
     ·rw[D] at c1
      have HP:=I D;clear D
      go_wp2_with (go_at_call 205;refine Ag c1 ?_;rintro Z rfl)
      go_round
      case rel=>exact⟨k+1,by omega,by go_num,fun i O aa=>by
       by_cases q:i=k
       ·subst q;exact HP.o
       ·exact X.o i O (by omega)⟩
      case measure=>simp [intOf];omega
     ·have D:capB l[k]=false:=by simpa using D
      rw[D] at c1;have E:=I (FZ hlt D);clear D
      go_wp2_with (go_at_call 205;refine Ag c1 ?_;rintro Z rfl)
      go_ret;exact⟨by rw[E.o];rfl,rfl⟩
    ·have X:=I F;clear F
     have E:=I (HA.o (fun i O=>X.o i O (by omega)));have Y:¬(k:Int)<(l.length:Int):=by omega
     go_wp2
     go_ret;exact⟨by rw[E.o];rfl,rfl⟩
theorem OP (l:L) (w:World) (hs:l.length<=1000000000):Calls Tryz.prog 97 #[.string ⟨l.toArray⟩,.func (.func 98) #[] #[]] w fun e w'=>e=.returned (.bool (Cf Ci l))/\w=w':=by
 by_cases h1:l.length<1
 ·have E:=I (Gu (p:=Ci) h1)
  have g1:decide ((l.length:Int)<1)=true:=by simp;omega
  clear h1;go_enter Tryz.func97,Tryz.ntmps97
  go_wp2
  go_ret;exact⟨by rw[E.o];rfl,rfl⟩
 ·have g1:decide ((l.length:Int)<1)=false:=by simp;omega
  by_cases h2:8<l.length
  ·have E:=I (Hx (p:=Ci) h2)
   have g2:decide (8<(l.length:Int))=true:=by simp;omega
   clear h1 h2;go_enter Tryz.func97,Tryz.ntmps97
   go_wp2
   go_ret;exact⟨by rw[E.o];rfl,rfl⟩
  ·have g2:decide (8<(l.length:Int))=false:=by simp;omega
   have HA:=I (fun h=>Ji (p:=Ci) (l:=l) h (by omega) (by omega));clear h1 h2;go_enter Tryz.func97,Tryz.ntmps97
   go_wp2
   go_loop [16] (fun M=>∃k:Nat,k<=l.length/\M=.int .i64 (k:Int)/\Fit Ci l k) (fun M=>l.length - (intOf M).toNat)
   case atStart=>exact⟨0,Nat.zero_le _,rfl,fun i _ h=>by omega⟩
   case round=>
    obtain⟨k,hk,rfl,F⟩:=hrel
    by_cases hlt:k<l.length
    ·have Y:(k:Int)<(l.length:Int):=by omega
     have c1:=JT l[k] w;have X:=I F;clear F
     by_cases D:Ci l[k]=true
     ·rw[D] at c1
      have HP:=I D;clear D
      go_wp2_with (go_at_call 98;refine Ag c1 ?_;rintro Z rfl)
      go_round
      case rel=>exact⟨k+1,by omega,by go_num,fun i O aa=>by
       by_cases q:i=k
       ·subst q;exact HP.o
       ·exact X.o i O (by omega)⟩
      case measure=>simp [intOf];omega
     ·have D:Ci l[k]=false:=by simpa using D
      rw[D] at c1;have E:=I (FZ hlt D);clear D
      go_wp2_with (go_at_call 98;refine Ag c1 ?_;rintro Z rfl)
      go_ret;exact⟨by rw[E.o];rfl,rfl⟩
    ·have X:=I F;clear F
     have E:=I (HA.o (fun i O=>X.o i O (by omega)));have Y:¬(k:Int)<(l.length:Int):=by omega
     go_wp2
     go_ret;exact⟨by rw[E.o];rfl,rfl⟩
end Nm
namespace Nm
open Go.RowKit Ad
theorem Fi (l:List UInt8) (k:Nat):(ByteArray.mk l.toArray).extract 0 k=ByteArray.mk (l.take k).toArray:=by
 rw[ByteArray.extract_mk];simp
attribute [local go_sem] FT List.getElem_cons_zero List.getElem_cons_succ Di Dj Es Fi
theorem UE (b:UInt8):((b.toNat:Int)).toNat.toUInt8=b:=by simp
theorem Ry {c:UInt8} {l:L} (h:c∉l):Lib.indexByte l c = -1:=by
 induction l with
 |nil=>rfl
 |cons x r ih=>
  simp only[List.mem_cons,not_or] at h;rw[Lib.indexByte,if_neg (by simpa using fun e:x=c=>h.1 e.symm),ih h.2];rfl
theorem UF {c:UInt8} {l:L} (h:c∈l):Lib.indexByte l c=((bef c l).length:Int):=by
 induction l with
 |nil=>simp at h
 |cons x r ih=>
  rw[Lib.indexByte,bef]
  by_cases e:x=c
  ·rw[if_pos (by simpa using e),if_pos e];rfl
  ·have hm:c∈r:=(List.mem_cons.1 h).resolve_left fun g=>e g.symm
   rw[if_neg (by simpa using e),if_neg e,ih hm,if_neg (by simp)];simp
theorem Rz {c:UInt8} {l:L} (h:c∈l):l.take (bef c l).length=bef c l:=by
 have e:=Me h;have g:(bef c l++c :: aft c l).take (bef c l).length=bef c l:=by simp
 rwa [<-e] at g
theorem RA {c:UInt8} {l:L} (h:c∈l):l.drop ((bef c l).length+1)=aft c l:=by
 have e:=Me h;have g:(bef c l++c :: aft c l).drop ((bef c l).length+1)=aft c l:=by simp
 rwa [<-e] at g
theorem Wz {c:UInt8} {l:L} (h:c∈l):(bef c l).length<l.length:=by
 have:=congrArg List.length (Me h);simp at this;omega
theorem UG (l:L) (b:UInt8) (w:World):(callFunc 245 #[.string ⟨l.toArray⟩,.int .u8 (b.toNat:Int)]).run Tryz.prog w=.ok (.value (.int .i64 (Lib.indexByte l b))) w:=by
 rw[run_callFunc_extern Tryz.func245 (by kernel_rfl) (by kernel_rfl) (by kernel_rfl) (e:=Extern.BytealgIndexByte.indexByte) (by kernel_rfl),Lib.run_indexByteString];simp only[Result.andThen,UE]
theorem Jj (l:L) (b:UInt8) (w:World):Calls Tryz.prog 233 #[.string ⟨l.toArray⟩,.int .u8 (b.toNat:Int)] w fun e w'=>e=.returned (.int .i64 (Lib.indexByte l b))/\w=w':=by
 have h:=fun w=>UG l b w
 go_enter Tryz.func233,Tryz.ntmps233
 go_wp2
 go_ret;exact⟨rfl,rfl⟩
theorem KU (l:L):(ByteArray.mk l.toArray).size=l.length:=by simp [ByteArray.size]
theorem OQ (l:L) (b:UInt8) (w:World):Calls Tryz.prog 228 #[.string ⟨l.toArray⟩,.string ⟨#[b]⟩] w fun e w'=>e=.returned (.int .i64 (Lib.indexByte l b))/\w=w':=by
 have c1:=Jj l b w
 by_cases e:l = [b]
 ·subst e
  have E:=I (show Lib.indexByte [b] b=0 by simp [Lib.indexByte]);go_enter Tryz.func228,Tryz.ntmps228
  go_wp2_with fail
  go_ret;exact⟨by rw[E.o];rfl,rfl⟩
 ·have F:([b]==l)=false:=by simpa using fun g:[b]=l=>e g.symm
  clear e;go_enter Tryz.func228,Tryz.ntmps228
  go_wp2_with (go_at_call 233;refine Ag c1 ?_;rintro D rfl)
  go_ret;exact⟨rfl,rfl⟩
def Bg (w w':World):Prop:=∃n,w'=w.drewN n
theorem Bg.refl (w:World):Bg w w:=⟨0,rfl⟩
theorem Bg.below {w w':World} (h:Bg w w'):Below w.heap.size w w':=by
 obtain⟨n,rfl⟩:=h;exact below_drewN Af n
theorem KV (l:L) (b:UInt8) (w:World) (hs:l.length<=1000000000):Calls Tryz.prog 218 #[.string ⟨l.toArray⟩,.string ⟨#[b]⟩] w fun e w'=>
  e=.returned (.tuple #[.string ⟨(bef b l).toArray⟩,.string ⟨(aft b l).toArray⟩,.bool (hasC b l)])/\Bg w w':=by
 have c1:=OQ l b w
 by_cases h:b∈l
 ·have F:=I (show hasC b l=true from(FX _ _).2 h)
  have D:=I (Rz h);have E:=I (RA h);have O:=Wz h;obtain⟨n,en⟩:=Ah ((bef b l).length);rw[UF h,<-en] at c1;rw[<-en] at D E O;have X:=I en;clear en h;go_enter Tryz.func218,Tryz.ntmps218
  go_wp2_with (go_at_call 228;refine Ag c1 ?_;rintro M rfl)
  go_quiet (fail)
  go_wp2
  go_ret3
  rename_i q _
  exact⟨by rw[F.o,<-D.o,<-E.o];rfl,⟨_,rfl⟩⟩
 ·have F:=I (show hasC b l=false from(Gs _ _).2 h)
  have D:=I (Jg h);have E:=I (Rs h);rw[Ry h] at c1;clear h;go_enter Tryz.func218,Tryz.ntmps218
  go_wp2_with (go_at_call 228;refine Ag c1 ?_;rintro M rfl)
  go_ret3
  exact⟨by rw[F.o,D.o,E.o];rfl,Bg.refl _⟩
theorem UH (l:L) (b:UInt8) (w:World) (hs:l.length<=1000000000):Calls Tryz.prog 204 #[.string ⟨l.toArray⟩,.string ⟨#[b]⟩] w fun e w'=>
  e=.returned (.tuple #[.string ⟨(bef b l).toArray⟩,.string ⟨(aft b l).toArray⟩,.bool (hasC b l)])/\Bg w w':=by
 have c1:=KV l b w hs;go_enter Tryz.func204,Tryz.ntmps204
 go_wp2_with (go_at_call 218;refine Ag c1 ?_;rintro E D)
 go_ret3
 exact⟨rfl,D⟩
def preL (p l:L):Bool:=p.isPrefixOf l
theorem Mh (p l:L):(l.take p.length==p)=preL p l:=by
 rw[preL,Bool.eq_iff_iff];simp only[beq_iff_eq,List.isPrefixOf_iff_prefix];rw[List.prefix_iff_eq_take];exact eq_comm
theorem OR {p l:L} (h:preL p l=true):p.length<=l.length:=(List.isPrefixOf_iff_prefix.1 h).length_le
theorem UI {p l:L}:preL p l=true↔l=p++l.drop p.length:=by
 constructor
 ·intro h
  obtain⟨t,e⟩:=List.isPrefixOf_iff_prefix.1 h;rw[<-e];simp
 ·intro h
  rw[preL,List.isPrefixOf_iff_prefix];exact⟨_,h.symm⟩
theorem Jk (l p:L) (w:World) (hs:l.length<=1000000000) (F:p.length<=1000000000):Calls Tryz.prog 178 #[.string ⟨l.toArray⟩,.string ⟨p.toArray⟩] w fun e w'=>
  e=.returned (.bool (preL p l))/\w=w':=by
 by_cases h:p.length<=l.length
 ·have D:(p.length:Int)<=(l.length:Int):=by omega
  have E:=I (Mh p l);clear h;go_enter Tryz.func178,Tryz.ntmps178
  go_wp2
  go_ret;exact⟨by rw[<-E.o];rfl,rfl⟩
 ·have E:=I (show preL p l=false by
   cases q:preL p l with
   |false=>rfl
   |true=>exact absurd (OR q) h)
  have D:¬(p.length:Int)<=(l.length:Int):=by omega
  clear h;go_enter Tryz.func178,Tryz.ntmps178
  go_wp2
  go_ret;exact⟨by rw[E.o];rfl,rfl⟩
def cpL (p l:L):L:=if preL p l then l.drop p.length else l
theorem Gv (l p:L) (w:World) (hs:l.length<=1000000000) (M:p.length<=1000000000):Calls Tryz.prog 144 #[.string ⟨l.toArray⟩,.string ⟨p.toArray⟩] w fun e w'=>
  e=.returned (.tuple #[.string ⟨(cpL p l).toArray⟩,.bool (preL p l)])/\w=w':=by
 have c1:=Jk l p w hs M
 by_cases h:preL p l=true
 ·have O:(p.length:Int)<=(l.length:Int):=by have:=OR h;omega
  have E:=I (show cpL p l=l.drop p.length by rw[cpL,if_pos h]);have D:=I h;rw[h] at c1;clear h;go_enter Tryz.func144,Tryz.ntmps144
  go_wp2_with (go_at_call 178;refine Ag c1 ?_;rintro F rfl)
  go_ret2
  exact⟨by rw[E.o,D.o];rfl,rfl⟩
 ·have h:preL p l=false:=by simpa using h
  have E:=I (show cpL p l=l by rw[cpL,if_neg (by simp [h])]);have D:=I h;rw[h] at c1;clear h;go_enter Tryz.func144,Tryz.ntmps144
  go_wp2_with (go_at_call 178;refine Ag c1 ?_;rintro F rfl)
  go_ret2
  exact⟨by rw[E.o,D.o];rfl,rfl⟩
theorem Ga (l p:L) (w:World) (hs:l.length<=1000000000) (D:p.length<=1000000000):Calls Tryz.prog 95 #[.string ⟨l.toArray⟩,.string ⟨p.toArray⟩] w fun e w'=>
  e=.returned (.tuple #[.string ⟨(cpL p l).toArray⟩,.bool (preL p l)])/\w=w':=by
 have c1:=Gv l p w hs D;go_enter Tryz.func95,Tryz.ntmps95
 go_wp2_with (go_at_call 144;refine Ag c1 ?_;rintro E rfl)
 go_ret2
 exact⟨rfl,rfl⟩
theorem IQ:(Tryz.prog.info? 5).map (fun i=>(i.zero,i.size,i.bytes))=some (some (.int .u8 0),1,1):=by kernel_rfl
theorem RB (n:Nat) (O:n<=1000000000) (w:World):(Instr.makeSlice 25 (.int .i64 (n:Int)) (.int .i64 (n:Int))).run Tryz.prog w=.ok (.slice (some ⟨w.heap.size,0,none⟩) n n) (w.alloc (.cells (Cx n) 5)):=by
 obtain⟨D,F,M,hs,E⟩:=info_parts IQ;have h:=run_make (P:=Tryz.prog) w 25 5 D _ Tryz.underlying25 F M .i64 .i64 (n:Int) (n:Int) (by omega) (by omega) (by rw[E];omega) (by omega);have e:madeCells (Value.int .u8 0).cells (((n:Int)).toNat*D.size)=Cx n:=by
  rw[hs,Nat.mul_one,Int.toNat_natCast];refine Array.toList_inj.1 ?_;show(madeCells #[Value.int .u8 0] n).toList=_;rw[toList_madeCells_one];simp [Cx,bv]
 rw[e] at h
 simpa using h
theorem Mi (s:L) (w:World):(Builtin.copy_ #[25,9] 3 #[.slice (some ⟨w.heap.size,0,none⟩) s.length s.length,.string ⟨s.toArray⟩]).run Tryz.prog (w.alloc (.cells (Cx s.length) 5))=.ok (goInt s.length) (w.alloc (.cells (bvs s).toArray 5)):=by
 obtain⟨E,D,_,hs,_⟩:=info_parts IQ;have hk:=Blk.new w 5 (Cx s.length);have h:=Lib.run_copy_row_string (P:=Tryz.prog) _ 25 9 3 5 w.heap.size 0 s.length s.length ⟨s.toArray⟩ _ 5 Tryz.underlying25 (by rw[D];simp [hs]) hk (by rw[KU];exact Nat.le_refl _) (by rw[KU,Dm];omega);rw[KU,World.setRow_alloc_new] at h;have e:(Cx s.length).toList.take 0++Lib.byteCells s++(Cx s.length).toList.drop (0+s.length)=bvs s:=by
  rw[List.drop_of_length_le (by rw[Array.length_toList,Dm];omega)];simp [Lib.byteCells,bvs,bv]
 rw[e] at h;exact h
theorem RE (s:L) (D:s≠[]) (hs:s.length<=1000000000) (w:World):(Builtin.unsafeString_ #[239,3] 9 #[.pointer (some ⟨w.heap.size,0,none⟩),.int .i64 (s.length:Int)]).run Tryz.prog (w.alloc (.cells (bvs s).toArray 5))=.ok (.string ⟨s.toArray⟩) ((w.alloc (.cells (bvs s).toArray 5)).freeze ⟨w.heap.size,0,none⟩ s.length):=by
 obtain⟨X,F,_,O,_⟩:=info_parts IQ;have hk:=Blk.new w 5 (bvs s).toArray;refine Lib.run_unsafeString_row (P:=Tryz.prog) _ _ _ _ 5 Tryz.underlying239 (by simp [Program.cellsOf,F,O]) w.heap.size s.length ?_ s D Ae (by omega) fun j x M=>?_
 ·unfold World.shape?
  rw[show(w.alloc (.cells (bvs s).toArray 5)).heap[w.heap.size]? = _ from hk];simp [Ao]
 ·obtain⟨E,e⟩:=List.getElem?_eq_some_iff.1 M
  rw[addr_add,Nat.zero_add,hk.cell,List.getElem?_toArray,DH E,e];rfl
theorem Jl (s:L) (w:World) (D:s.length<=1000000000):Calls Tryz.prog 99 #[.string ⟨s.toArray⟩] w fun e w'=>e=.returned (.string ⟨s.toArray⟩)/\Below w.heap.size w w':=by
 by_cases h0:s = []
 ·subst h0
  go_enter Tryz.func99,Tryz.ntmps99
  go_wp2
  go_ret;exact⟨rfl,Below.refl _ _⟩
 ·have M:=RB s.length D w
  have O:=Mi s w;have F:=RE s h0 D w;have X:1<=s.length:=by
   cases s with
   |nil=>exact absurd rfl h0
   |cons a r=>simp
  have Y:((s.length:Int)==0)=false:=by simp;omega
  have E:=I (Lib.below_freeze ((Below.refl w.heap.size w).alloc Ae (.cells (bvs s).toArray 5)) (p:=⟨w.heap.size,0,none⟩) Ae s.length);clear h0;go_enter Tryz.func99,Tryz.ntmps99
  go_wp2
  go_ret;exact⟨rfl,E.o⟩
theorem JU (s:L) (w:World) (D:s.length<=1000000000):Calls Tryz.prog 59 #[.string ⟨s.toArray⟩] w fun e w'=>e=.returned (.string ⟨s.toArray⟩)/\Below w.heap.size w w':=by
 have c1:=Jl s w D;go_enter Tryz.func59,Tryz.ntmps59
 go_wp2_with (go_at_call 99;refine Ag c1 ?_;rintro w' E)
 go_ret;exact⟨rfl,E⟩
end Nm
namespace Nm
open Go.RowKit Ad
attribute [local go_sem] FT List.getElem_cons_zero List.getElem_cons_succ Di Dj Es Fi
theorem Bg.trans {a b c:World} (h:Bg a b) (k:Bg b c):Bg a c:=by
 obtain⟨n,rfl⟩:=h;obtain⟨m,rfl⟩:=k;exact⟨n+m,by simp [World.drewN_drewN]⟩
theorem Gb (l:L) (b:UInt8) (w:World) (hs:l.length<=1000000000):Calls Tryz.prog 179 #[.string ⟨l.toArray⟩,.string ⟨#[b]⟩] w fun e w'=>e=.returned (.bool (areL b 4 l))/\Bg w w':=by
 have HS:=I hs;clear hs;go_enter Tryz.func179,Tryz.ntmps179
 go_wp2
 go_loopw [0,8] (fun sv iv wr=>∃(k:Nat) (s:L),k<=4/\sv=.string ⟨s.toArray⟩/\iv=.int .i64 (k:Int)/\areL b (4 - k) s=areL b 4 l/\s.length<=l.length/\Bg w wr) (fun _ iv _=>4 - (intOf iv).toNat)
 case atStart=>exact⟨0,l,by omega,rfl,rfl,rfl,Nat.le_refl _,Bg.refl _⟩
 case round=>
  obtain⟨k,s,hk,rfl,rfl,D,hl,E⟩:=hrel;have HL:=I hl;clear hl;have Y:=I E;clear E
  by_cases hlt:k<4
  ·have e1:(k:Int)<4:=by omega
   have X:s.length<=1000000000:=Nat.le_trans HL.o HS.o;have c1:=UH s b wr X;have c2:=fun F=>Nb (bef b s) F (by have:=UB b s;omega)
   have C2:=I c2;clear c2;have ea:areL b (4 - k) s=(Cf capB (bef b s)&&(if hasC b s then areL b (4 - (k+1)) (aft b s) else true)):=by
    rw[show 4 - k=(4 - (k+1))+1 by omega];rfl
   rw[ea] at D;have O:(aft b s).length<=l.length:=by have:=UA b s;have:=HL.o;omega
   have aa:=I O;clear O ea X;cases hw:Cf capB (bef b s) with
   |false=>
    rw[hw,Bool.false_and] at D;have M:=I D;clear D;have Z:=I hw;clear hw
    go_wp2_with (first
     |(go_at_call 204;refine Ag c1 ?_;rintro F E;clear c1;have c2:=C2.o F;rw[Z.o] at c2;have H1:=I E;clear E)
     |(go_at_call 97;refine Ag c2 ?_;rintro w2 rfl;clear c2))
    go_ret;exact⟨by rw[<-M.o];rfl,Y.o.trans H1.o⟩
   |true=>
    rw[hw,Bool.true_and] at D;have Z:=I hw;clear hw;cases hc:hasC b s with
    |false=>
     rw[hc,if_neg (by simp)] at D;rw[hc] at c1;have M:=I D;clear D;have HC:=I hc;clear hc
     go_wp2_with (first
      |(go_at_call 204;refine Ag c1 ?_;rintro F E;clear c1;have c2:=C2.o F;rw[Z.o] at c2;have H1:=I E;clear E)
      |(go_at_call 97;refine Ag c2 ?_;rintro w2 rfl;clear c2))
     go_ret;exact⟨by rw[<-M.o];rfl,Y.o.trans H1.o⟩
    |true=>
     rw[hc,if_pos rfl] at D;rw[hc] at c1;have M:=I D;clear D;have HC:=I hc;clear hc
     go_wp2_with (first
      |(go_at_call 204;refine Ag c1 ?_;rintro F E;clear c1;have c2:=C2.o F;rw[Z.o] at c2;have H1:=I E;clear E)
      |(go_at_call 97;refine Ag c2 ?_;rintro w2 rfl;clear c2))
     go_roundw
     case rel=>exact⟨k+1,aft b s,by omega,rfl,by go_num,M.o,aa.o,Y.o.trans H1.o⟩
     case measure=>simp [intOf];omega
  ·have e1:¬(k:Int)<4:=by omega
   obtain rfl:k=4:=by omega
   have M:=I (show areL b 4 l=false by rw[<-D];rfl);clear D
   go_wp2
   go_ret;exact⟨by rw[M.o];rfl,Y.o⟩
theorem WA (l:L):slL l=(preL [47] l&&Cu (split 47 (cpL [47] l))):=by
 cases l with
 |nil=>rfl
 |cons x r=>
  rw[slL,cpL]
  by_cases h:x=47
  ·subst h
   have e:preL [47] (47 :: r)=true:=by simp [preL]
   rw[e];simp
  ·have e:preL [47] (x :: r)=false:=by
    cases q:preL [47] (x :: r) with
    |false=>rfl
    |true=>have:=congrArg List.head? (UI.1 q);simp at this;exact absurd this h
   rw[e];simp [h]
theorem TK (p l:L):(cpL p l).length<=l.length:=by rw[cpL];split<;>simp
theorem RG (l:L) (w:World) (hs:l.length<=1000000000):Calls Tryz.prog 145 #[.string ⟨l.toArray⟩] w fun e w'=>e=.returned (.int .i64 (BD l:Int))/\Bg w w':=by
 have c1:=Gb l 46 w hs;rw[JS] at c1;have X:=I (fun F=>Ga l [47] F hs (by decide));have c3:=fun F=>Gb (cpL [47] l) 47 F (by have:=TK [47] l;omega)
 rw[JS] at c3;have C3:=I c3;clear c3 hs;have M:=Na l;rw[WA] at M;cases h1:Cu (split 46 l) with
 |true=>
  rw[h1] at c1;have E:=I (show BD l=1 by rw[M,h1];rfl);clear M h1;go_enter Tryz.func145,Tryz.ntmps145
  go_wp2_with (go_at_call 179;refine Ag c1 ?_;rintro F D;clear c1;have H1:=I D;clear D)
  go_ret;exact⟨by rw[E.o];rfl,H1.o⟩
 |false=>
  rw[h1] at c1;rw[h1,if_neg (by simp)] at M;cases h2:preL [47] l with
  |false=>
   have E:=I (show BD l=0 by rw[M,h2];rfl);have O:=I h2;clear M h1 h2;go_enter Tryz.func145,Tryz.ntmps145
   go_wp2_with (first
    |(go_at_call 179;refine Ag c1 ?_;rintro F D;clear c1;have H1:=I D;clear D;have c2:=X.o F;rw[O.o] at c2)
    |(go_at_call 95;refine Ag c2 ?_;rintro w2 rfl;clear c2))
   go_ret;exact⟨by rw[E.o];rfl,H1.o⟩
  |true=>
   rw[h2,Bool.true_and] at M;have O:=I h2;cases h3:Cu (split 47 (cpL [47] l)) with
   |false=>
    have E:=I (show BD l=0 by rw[M,h3];rfl);have Y:=I h3;clear M h1 h2 h3;go_enter Tryz.func145,Tryz.ntmps145
    go_wp2_with (first
     |(go_at_call 179;refine Ag c1 ?_;rintro F D;clear c1;have H1:=I D;clear D;have c2:=X.o F;rw[O.o] at c2)
     |(go_at_call 95;refine Ag c2 ?_;rintro w2 rfl;clear c2;have c4:=C3.o F;rw[Y.o] at c4)
     |(go_at_call 179;refine Ag c4 ?_;rintro w3 D;clear c4;have Z:=I D;clear D))
    go_ret;exact⟨by rw[E.o];rfl,H1.o.trans Z.o⟩
   |true=>
    have E:=I (show BD l=2 by rw[M,h3];rfl);have Y:=I h3;clear M h1 h2 h3;go_enter Tryz.func145,Tryz.ntmps145
    go_wp2_with (first
     |(go_at_call 179;refine Ag c1 ?_;rintro F D;clear c1;have H1:=I D;clear D;have c2:=X.o F;rw[O.o] at c2)
     |(go_at_call 95;refine Ag c2 ?_;rintro w2 rfl;clear c2;have c4:=C3.o F;rw[Y.o] at c4)
     |(go_at_call 179;refine Ag c4 ?_;rintro w3 D;clear c4;have Z:=I D;clear D))
    go_ret;exact⟨by rw[E.o];rfl,H1.o.trans Z.o⟩
theorem TM (l:L) (w:World) (hs:l.length<=1000000000):Calls Tryz.prog 96 #[.string ⟨l.toArray⟩] w fun e w'=>e=.returned (.bool (isL l))/\Bg w w':=by
 have c1:=RG l w hs
 by_cases h:1<=BD l
 ·have E:=I (show isL l=true by simp [isL,h])
  have t:((BD l:Int) != 0)=true:=by simp;omega
  clear h;go_enter Tryz.func96,Tryz.ntmps96
  go_wp2_with (go_at_call 145;refine Ag c1 ?_;rintro M D;clear c1;have H1:=I D;clear D)
  go_ret;exact⟨by rw[E.o];rfl,H1.o⟩
 ·have E:=I (show isL l=false by simp [isL];omega)
  have F:BD l=0:=by omega
  rw[F] at c1;clear h F;go_enter Tryz.func96,Tryz.ntmps96
  go_wp2_with (go_at_call 145;refine Ag c1 ?_;rintro M D;clear c1;have H1:=I D;clear D)
  go_ret;exact⟨by rw[E.o];rfl,H1.o⟩
end Nm
namespace Nm
open Go.RowKit Ad
theorem JV (a b:L):ByteArray.mk a.toArray++ByteArray.mk b.toArray=ByteArray.mk (a++b).toArray:=by
 apply ByteArray.ext;simp
attribute [local go_sem] FT List.getElem_cons_zero List.getElem_cons_succ Di Dj Es Fi
def krb:L:=[107,114,98,116,103,116,47]
def tgL (n:L):Bool:=preL krb n&&isL (cpL krb n)
def tgR (n:L):L:=if tgL n then n.drop 7 else []
def BM (r n:L):Bool:=isL r&&(tgL n||Cf Ci n)
theorem Gw (l:L) (w:World) (hs:l.length<=1000000000):Calls Tryz.prog 100 #[.string ⟨l.toArray⟩] w fun e w'=>e=.returned (.string ⟨(krb++l).toArray⟩)/\w=w':=by
 have E:=I (JV krb l);go_enter Tryz.func100,Tryz.ntmps100
 go_wp2
 go_ret;exact⟨by rw[<-E.o];rfl,rfl⟩
theorem Hy (l:L) (w:World) (hs:l.length<=1000000000):Calls Tryz.prog 35 #[.string ⟨l.toArray⟩] w fun e w'=>e=.returned (.string ⟨(krb++l).toArray⟩)/\w=w':=by
 have E:=I (JV krb l);go_enter Tryz.func35,Tryz.ntmps35
 go_wp2
 go_ret;exact⟨by rw[<-E.o];rfl,rfl⟩
theorem Dn (n:L) (w:World) (hs:n.length<=1000000000):Calls Tryz.prog 57 #[.string ⟨n.toArray⟩] w fun e w'=>e=.returned (.tuple #[.string ⟨(tgR n).toArray⟩,.bool (tgL n)])/\Below w.heap.size w w':=by
 have c1:=Ga n krb w hs (by decide);have E:=TK krb n;have c2:=TM (cpL krb n) w (by omega);have C3:=I (fun O=>JU (cpL krb n) O (by omega));have X:=I (Below.refl w.heap.size w);cases h1:preL krb n with
 |false=>
  have D:=I (show tgL n=false by rw[tgL,h1];rfl);have F:=I (show tgR n = [] by rw[tgR,D.o];rfl);rw[h1] at c1;clear h1 hs E c2;go_enter Tryz.func57,Tryz.ntmps57
  go_wp2_with (go_at_call 95;refine Ag c1 ?_;rintro O rfl;clear c1)
  go_ret2
  exact⟨by rw[D.o,F.o];rfl,X.o⟩
 |true=>
  cases h2:isL (cpL krb n) with
  |false=>
   have D:=I (show tgL n=false by rw[tgL,h1,h2];rfl);have F:=I (show tgR n = [] by rw[tgR,D.o];rfl);rw[h1] at c1;rw[h2] at c2;clear h1 h2 hs E;go_enter Tryz.func57,Tryz.ntmps57
   go_wp2_with (first
    |(go_at_call 95;refine Ag c1 ?_;rintro O rfl;clear c1)
    |(go_at_call 96;refine Ag c2 ?_;rintro w2 M;clear c2;have Y:=I M.below;clear M))
   go_ret2
   exact⟨by rw[D.o,F.o];rfl,Y.o⟩
  |true=>
   have D:=I (show tgL n=true by rw[tgL,h1,h2];rfl);have F:=I (show tgR n=cpL krb n by rw[tgR,D.o,cpL,h1];rfl);rw[h1] at c1;rw[h2] at c2;clear h1 h2 hs E;go_enter Tryz.func57,Tryz.ntmps57
   go_wp2_with (first
    |(go_at_call 95;refine Ag c1 ?_;rintro O rfl;clear c1)
    |(go_at_call 96;refine Ag c2 ?_;rintro w2 M;clear c2;have Y:=I M.below;clear M;have c3:=C3.o w2)
    |(go_at_call 59;refine Ag c3 ?_;rintro w3 Z;clear c3;have H3:=Y.t Z;clear Z))
   go_ret2
   exact⟨by rw[D.o,F.o];rfl,H3.o⟩
theorem AM (r n:L) (w:World) (hs:r.length<=1000000000) (ad:n.length<=1000000000):Calls Tryz.prog 58 #[.agg #[.string ⟨r.toArray⟩,.string ⟨n.toArray⟩]] w fun e w'=>e=.returned (.bool (BM r n))/\Below w.heap.size w w':=by
 have c1:=TM r (w.alloc (.cells #[.string ⟨r.toArray⟩,.string ⟨n.toArray⟩] 36)) hs;have hk:=Blk.new w 36 #[.string ⟨r.toArray⟩,.string ⟨n.toArray⟩];have ae:=(Below.refl w.heap.size w).alloc Ae (.cells #[.string ⟨r.toArray⟩,.string ⟨n.toArray⟩] 36);have Y:w.heap.size<(w.alloc (.cells #[.string ⟨r.toArray⟩,.string ⟨n.toArray⟩] 36)).heap.size:=by simp
 obtain⟨N,eN⟩:=Ah (w.heap.size);have C2:=I (fun D=>Dn n D ad);have C3:=I (fun D=>OP n D ad);have E1:=I (show BM r n=(isL r&&(tgL n||Cf Ci n)) from rfl);rw[<-eN] at hk ae Y⊢;have EN:=I eN;clear eN;have HK:=I hk;clear hk;have Z:=I ae;clear ae;have O:=I Y;clear Y hs ad;cases h1:isL r with
 |false=>
  rw[h1] at c1;have E:=I (show BM r n=false by rw[E1.o,h1];rfl);clear h1;go_enter Tryz.func58,Tryz.ntmps58
  go_wp2_with (go_at_call 96;refine Ag c1 ?_;rintro D F;clear c1;have H1:=I (Z.o.trans (F.below.mono (Nat.le_of_lt O.o)));clear F)
  go_ret;exact⟨by rw[E.o];rfl,H1.o⟩
 |true=>
  rw[h1] at c1;have ah:=I (fun D=>C2.o D);cases h2:tgL n with
  |true=>
   have E:=I (show BM r n=true by rw[E1.o,h1,h2];rfl);have HT:=I h2;clear h1 h2;go_enter Tryz.func58,Tryz.ntmps58
   go_wp2_with (first
    |(go_at_call 96;refine Ag c1 ?_;rintro D F;clear c1;have H1:=I (Z.o.trans (F.below.mono (Nat.le_of_lt O.o)));have X:=(HK.o.below F.below).cell 1;have M:N<D.heap.size:=(by have:=F.below.size;have:=O.o;omega);have ab:=I M;rw[EN.o] at X;clear F M;have c2:=C2.o D;rw[HT.o] at c2)
    |(go_at_call 57;refine Ag c2 ?_;rintro w2 hb;clear c2;have H2:=I (H1.o.trans (hb.mono (Nat.le_of_lt ab.o)));clear hb))
   go_ret;exact⟨by rw[E.o];rfl,H2.o⟩
  |false=>
   have E:=I (show BM r n=Cf Ci n by rw[E1.o,h1,h2];rfl);have HT:=I h2;clear h1 h2;go_enter Tryz.func58,Tryz.ntmps58
   go_wp2_with (first
    |(go_at_call 96;refine Ag c1 ?_;rintro D F;clear c1;have H1:=I (Z.o.trans (F.below.mono (Nat.le_of_lt O.o)));have aa:=HK.o.below F.below;have af:=I aa;have X:=aa.cell 1;have M:N<D.heap.size:=(by have:=F.below.size;have:=O.o;omega);have ab:=I M;rw[EN.o] at X;clear F M aa;have c2:=C2.o D;rw[HT.o] at c2)
    |(go_at_call 57;refine Ag c2 ?_;rintro w2 hb;clear c2 X;have H2:=I (H1.o.trans (hb.mono (Nat.le_of_lt ab.o)));have ag:=(af.o.below hb).cell 1;rw[EN.o] at ag;clear hb;have c3:=C3.o w2)
    |(go_at_call 97;refine Ag c3 ?_;rintro w3 rfl;clear c3))
   go_ret;exact⟨by rw[E.o];rfl,H2.o⟩
end Nm
namespace Nm
open Go.RowKit Ad
def st (l:L):Value:=.string ⟨l.toArray⟩
def strs (ls:List L):List Value:=ls.map st
theorem KW (ls:List L):(strs ls).length=ls.length:=by simp [strs]
theorem Hz (ls ms:List L):strs (ls++ms)=strs ls++strs ms:=by simp [strs]
theorem Mj (ls:List L):∀u∈strs ls,u.oneCell'=true:=by
 intro u hu;obtain⟨b,_,rfl⟩:=List.mem_map.1 hu
 rfl
theorem UJ {ls:List L} {i:Nat} (h:i<ls.length):(strs ls)[i]? = some (st (pl ls i)):=by
 rw[strs,List.getElem?_map,List.getElem?_eq_getElem h,OK h];rfl
theorem Mk:(Tryz.prog.info? 9).map (fun i=>(i.zero,i.size,i.bytes))=some (some (.string ⟨#[]⟩),1,16):=by kernel_rfl
def Own (w:World) (base:Nat) (v:Value) (ls:List L):Prop:=w.ownsRow base 9 1 v ls.length (strs ls)
theorem Own.nil (w:World) (base:Nat):Own w base (.slice none 0 0) []:=World.ownsRow_nil w base _ 1
theorem Own.below {w w':World} {base:Nat} {v:Value} {ls:List L} (h:Own w base v ls) (D:Below w.heap.size w w'):Own w' base v ls:=Cs h D
theorem Own.from_ {w:World} {base base':Nat} {v:Value} {ls:List L} (h:Own w base v ls) (M:base'<=base):Own w base' v ls:=by
 refine⟨h.1,?_⟩;rcases h.2 with h | ⟨g,cap,cur,D,F,E⟩
 ·exact .inl h
 ·exact .inr ⟨g,cap,cur,D,by omega,E⟩
theorem Own.slice {w:World} {base:Nat} {v:Value} {ls:List L} (h:Own w base v ls):∃A c,v=.slice A ls.length c/\Rd w w.heap.size A (strs ls):=by
 have F:=h;rcases h.2 with⟨D,E⟩ | ⟨g,cap,cur,D,_⟩
 ·have e:ls = []:=List.eq_nil_of_length_eq_zero E
  subst e;exact⟨none,0,D,.inl rfl⟩
 ·subst D
  exact⟨_,cap,rfl,Rd.of_own (n:=ls.length) (cap:=cap) F⟩
theorem Own.lt {w:World} {base:Nat} {v:Value} {ls:List L} (h:Own w base v ls):∀k,v.ownBlock=some k->base<=k/\k<w.heap.size:=World.ownsRow.lt h
theorem OS {w:World} {B:Nat} {A:Option Addr} {ls:List L} (h:Rd w B A (strs ls)) {i:Nat} (D:i<ls.length):∃b o,A=some ⟨b,o,none⟩/\b<B/\w.cell? ⟨b,o+i,none⟩=some (.string ⟨(pl ls i).toArray⟩):=
 h.at_ (UJ D)
section
variable {w:World} {ops:Array Oper} {rest:List Oper} {o:Oper} {a:Act} {Q:Exit->Act->World->Prop}
theorem WB (F:o.guard=none) (s x:Operand) (ho:o.op=.call {callee:=.builtin .append,args:=#[s,x],argTypes:=#[22,22]})
  (base:Nat) (v:Value) (ls:List L) (hs:a.eval s=v) (D:Own w base v ls) (B:Nat) (A:Option Addr) (c:Nat) (ms:List L) (hx:a.eval x=.slice A ms.length c) (hr:Rd w B A (strs ms))
  (hl:ls.length+ms.length<=8000000000000) (Y:base<=w.heap.size)
  (h:∀v' w',Own w' base v' (ls++ms)->Below base w w'->wpList Tryz.prog ops Q rest (a.put o.dst v') w'):wpList Tryz.prog ops Q (o :: rest) a w:=by
 obtain⟨i0,E,O,X,M⟩:=info_parts Mk;refine Av w F s x 22 ho base 9 i0 _ 16 Tryz.underlying22 E O X M rfl v ls.length (strs ls) hs D B A ms.length c (strs ms) hx (KW _).symm hr (Mj _) (by unfold maxLen;omega) (by omega) Y ?_;intro v' w' h1 Z _;refine h v' w' (by rw[Own,List.length_append,Hz];exact h1) ?_;exact Af.grown Z Y (fun k hk=>(D.lt k hk).1)
theorem OU (E:o.guard=none) (s x:Operand) (Y:o.op=.call {callee:=.builtin .append,args:=#[s,x],argTypes:=#[22,22]})
  (base:Nat) (v:Value) (ls:List L) (hs:a.eval s=v) (D:Own w base v ls) (r:L) (X:a.eval x=.slice (some ⟨w.heap.size,0,none⟩) 1 1)
  (M:ls.length+1<=8000000000000) (Z:base<=w.heap.size)
  (h:∀v' w',Own w' base v' (ls++[r])->Below base w w'->wpList Tryz.prog ops Q rest (a.put o.dst v') w'):wpList Tryz.prog ops Q (o :: rest) a (w.alloc (.cells #[.string ⟨r.toArray⟩] 9)):=by
 refine WB E s x Y base v ls hs (D.below (Af.alloc Ae _)) (w.heap.size+1) _ 1 [r] X ?_ M (by simp;omega) ?_
 ·refine .inr ⟨w.heap.size,0,rfl,by omega,fun i u hu=>?_⟩
  cases i with
  |zero=>
   simp only[strs,List.map_cons,List.map_nil,List.getElem?_cons_zero,Option.some.injEq] at hu;subst hu;exact(Blk.new w 9 _).cell 0
  |succ i=>simp [strs] at hu
 ·intro v' w' O F
  exact h v' w' O ((Af.alloc Z _).trans F)
end
theorem OV (l:List UInt8) (f k:Nat):(ByteArray.mk l.toArray).extract f k=ByteArray.mk ((l.drop f).take (k - f)).toArray:=by
 rw[ByteArray.extract_mk]
attribute [local go_sem] FT List.getElem_cons_zero List.getElem_cons_succ OV
def piece (l:L) (f k:Nat):L:=(l.drop f).take (k - f)
theorem JW {l:L} {f k:Nat} (E:f<=k) (hk:k<l.length):l.drop f=piece l f k++l[k] :: l.drop (k+1):=by
 have D:l.drop f=(l.drop f).take (k - f)++(l.drop f).drop (k - f):=(List.take_append_drop _ _).symm;rw[List.drop_drop,show f+(k - f)=k by omega,List.drop_eq_getElem_cons hk] at D;exact D
theorem Nc {l:L} {f k:Nat} (D:f<=k) (hk:k<l.length):piece l f (k+1)=piece l f k++[l[k]]:=by
 have h:=JW D hk;have E:(piece l f k).length=k - f:=by rw[piece,List.length_take,List.length_drop];omega
 rw[piece,h,show k+1 - f=(piece l f k).length+1 by omega,List.take_append,List.take_of_length_le (by omega),Nat.add_sub_cancel_left]
 rfl
theorem JX {l:L} {f:Nat}:piece l f l.length=l.drop f:=by rw[piece,List.take_of_length_le (by simp)]
theorem RH (c:UInt8) (l:L):(split c l).length<=l.length+1:=by
 induction l with
 |nil=>simp [split]
 |cons x r ih=>
  rw[split];split
  ·simp;omega
  ·split<;>simp_all<;>omega
theorem Gc (l:L) (c:UInt8) (w:World) (hs:l.length<=1000000000):Calls Tryz.prog 81 #[.string ⟨l.toArray⟩,.int .u8 (c.toNat:Int)] w fun e w'=>∃v,e=.returned v/\Own w' w.heap.size v (split c l)/\Below w.heap.size w w':=by
 obtain⟨N,eN⟩:=Ah (w.heap.size);rw[<-eN];have ab:=I (show Below N w w by exact Below.refl _ _);have EN:=I eN;clear eN;have F:=I (show ∀w1:World,Below N w w1->N<=w1.heap.size from fun w1 h=>by have:=h.size;have:=EN.o;omega);go_enter Tryz.func81,Tryz.ntmps81
 go_wp2
 go_loopw [5,6,7] (fun vv fv iv wr=>∃(f k:Nat) (ls:List L),f<=k/\k<=l.length/\fv=.int .i64 (f:Int)/\iv=.int .i64 (k:Int)/\Own wr N vv ls/\c∉piece l f k/\ls++split c (l.drop f)=split c l/\ls.length<=f/\Below N w wr) (fun _ _ iv _=>l.length - (intOf iv).toNat)
 case atStart=>exact⟨0,0,[],Nat.le_refl _,Nat.zero_le _,rfl,rfl,Own.nil _ _,by simp [piece],by simp,by simp,ab.o⟩
 case round=>
  obtain⟨f,k,ls,hf,hk,rfl,rfl,ho,Z,aa,ad,hb⟩:=hrel;have HO:=I ho;clear ho;have HB:=I hb;clear hb;have HC:=I Z;clear Z;have M:=I aa;clear aa
  by_cases hlt:k<l.length
  ·have e1:(k:Int)<(l.length:Int):=by omega
   have Y:=JW hf hlt;have X:=Nc hf hlt
   by_cases hx:l[k]=c
   ·have t1:((l[k].toNat:Int)==(c.toNat:Int))=true:=by simp [hx]
    have hn:(ls++[piece l f k])++split c (l.drop (k+1))=split c l:=by
     rw[<-M.o,Y,hx,IP HC.o];simp
    have HN:=I hn;clear hn Y X hx;have e2:(f:Int)<=(k:Int):=by omega
    go_wp2_with (at_builtin;refine OU rfl (.tmp 19) (.tmp 24) rfl N _ ls rfl HO.o (piece l f k) rfl (by omega) (F.o _ HB.o) ?_;intro v' w3 E D;have H3:=I (HB.o.trans D);have O:=I E;clear E D)
    go_roundw
    case rel=>exact⟨k+1,k+1,_,Nat.le_refl _,by omega,by go_num,by go_num,O.o,by simp [piece],HN.o,by simp;omega,H3.o⟩
    case measure=>simp [intOf];omega
   ·have t1:((l[k].toNat:Int)==(c.toNat:Int))=false:=by
     simp only[beq_eq_false_iff_ne,ne_eq];intro q;exact hx (UInt8.toNat_inj.1 (by omega))
    have ae:=I (show c∉piece l f (k+1) by
     rw[X,List.mem_append,not_or];exact⟨HC.o,by simpa using fun q:c=l[k]=>hx q.symm⟩)
    clear Y X hx
    go_wp2
    go_roundw
    case rel=>exact⟨f,k+1,ls,by omega,by omega,rfl,by go_num,HO.o,ae.o,M.o,ad,HB.o⟩
    case measure=>simp [intOf];omega
  ·obtain rfl:k=l.length:=by omega
   have e1:¬(l.length:Int)<(l.length:Int):=by omega
   have e2:(f:Int)<=(l.length:Int):=by omega
   have Z:=HC.o;rw[JX] at Z;have hn:ls++[piece l f l.length]=split c l:=by rw[<-M.o,Gt Z,JX]
   have HN:=I hn;clear hn Z
   go_wp2_with (at_builtin;refine OU rfl (.tmp 28) (.tmp 32) rfl N _ ls rfl HO.o (piece l f l.length) rfl (by omega) (F.o _ HB.o) ?_;intro v' w3 E D;have H3:=I (HB.o.trans D);have O:=I E;clear E D)
   go_ret;exact⟨_,rfl,by rw[<-HN.o];exact O.o,H3.o⟩
end Nm
namespace Nm
open Go.RowKit Ad
attribute [local go_sem] FT List.getElem_cons_zero List.getElem_cons_succ OV
theorem Hh {ls:List L} {i:Nat} (D:i<ls.length) (h:Cf capB (pl ls i)=false):Cu ls=false:=by
 cases e:Cu ls with
 |false=>rfl
 |true=>
  have:=((Hw ls).1 e).2.2;rw[List.all_eq_true] at this;have:=this _ (ON D);rw[h] at this;cases this
theorem RI {ls:List L} (h:∀i,i<ls.length->Cf capB (pl ls i)=true) (D:1<=ls.length):Cu ls=decide (ls.length<=4):=by
 have E:ls.all (Cf capB)=true:=by
  rw[List.all_eq_true];intro x M;obtain⟨i,F,rfl⟩:=mem_pl M;exact h i F
 rw[Cu,E,decide_eq_true D];simp
theorem KX (ls:List L) (b o c:Nat) (w:World) (h1:1<=ls.length) (hl:ls.length<=8000000000000) (hs:∀i,i<ls.length->(pl ls i).length<=1000000000)
  (F:∀i,i<ls.length->w.cell? ⟨b,o+i,none⟩=some (.string ⟨(pl ls i).toArray⟩)) :
  Calls Tryz.prog 80 #[.slice (some ⟨b,o,none⟩) ls.length c] w fun e w'=>e=.returned (.bool (Cu ls))/\w=w':=by
 obtain⟨n,en⟩:=Ah (ls.length);rw[<-en] at h1 hl hs F⊢;have HS:=I hs;clear hs;have HC:=I F;clear F;have D:=I en;clear en;go_enter Tryz.func80,Tryz.ntmps80
 go_wp2
 go_loop [3] (fun Y=>∃i:Nat,i<=n/\Y=.int .i64 (i:Int)/\∀j,j<i->Cf capB (pl ls j)=true) (fun Y=>n - (intOf Y).toNat)
 case atStart=>exact⟨0,Nat.zero_le _,rfl,fun j h=>absurd h (Nat.not_lt_zero j)⟩
 case round=>
  obtain⟨i,O,rfl,hw⟩:=hrel;have HW:=I hw;clear hw
  by_cases hlt:i<n
  ·have e1:(i:Int)<(n:Int):=by omega
   have F:=HC.o i hlt;have X:=HS.o i hlt;obtain⟨l,el⟩:=Ah (pl ls i);rw[<-el] at F X;have M:=I el;clear el
   by_cases g1:l.length<1
   ·have t1:decide ((l.length:Int)<1)=true:=by simp;omega
    have E:=I (Hh (by rw[<-D.o];exact hlt) (by rw[<-M.o];exact Gu g1));clear g1
    go_wp2
    go_ret;exact⟨by rw[E.o];rfl,rfl⟩
   ·have t1:decide ((l.length:Int)<1)=false:=by simp;omega
    by_cases g2:8<l.length
    ·have t2:decide (8<(l.length:Int))=true:=by simp;omega
     have E:=I (Hh (by rw[<-D.o];exact hlt) (by rw[<-M.o];exact Hx g2));clear g1 g2
     go_wp2
     go_ret;exact⟨by rw[E.o];rfl,rfl⟩
    ·have t2:decide (8<(l.length:Int))=false:=by simp;omega
     have HA:=I (fun h=>Ji (p:=capB) (l:=l) h (by omega) (by omega));clear g1 g2
     go_wp2
     go_loop [4] (fun kv=>∃k:Nat,k<=l.length/\kv=.int .i64 (k:Int)/\Fit capB l k) (fun kv=>l.length - (intOf kv).toNat)
     case atStart=>exact⟨0,Nat.zero_le _,rfl,fun i _ h=>by omega⟩
     case round=>
      obtain⟨k,hk,rfl,hf⟩:=hrel;have HF:=I hf;clear hf
      by_cases hkl:k<l.length
      ·have e2:(k:Int)<(l.length:Int):=by omega
       have hb:=By l[k]
       by_cases q1:l[k].toNat<65
       ·have s1:decide ((l[k].toNat:Int)<65)=true:=by simp;omega
        have E:=I (Hh (ls:=ls) (i:=i) (by rw[<-D.o];exact hlt) (by rw[<-M.o];exact FZ hkl (by simp [capB];omega)));clear q1
        go_wp2
        go_ret;exact⟨by rw[E.o];rfl,rfl⟩
       ·have s1:decide ((l[k].toNat:Int)<65)=false:=by simp;omega
        by_cases q2:90<l[k].toNat
        ·have s2:decide (90<(l[k].toNat:Int))=true:=by simp;omega
         have E:=I (Hh (ls:=ls) (i:=i) (by rw[<-D.o];exact hlt) (by rw[<-M.o];exact FZ hkl (by simp [capB];omega)));clear q1 q2
         go_wp2
         go_ret;exact⟨by rw[E.o];rfl,rfl⟩
        ·have s2:decide (90<(l[k].toNat:Int))=false:=by simp;omega
         have HP:=I (show capB l[k]=true by simp [capB];omega);clear q1 q2
         go_wp2
         go_round
         case rel=>exact⟨k+1,by omega,by go_num,fun i O aa=>by
          by_cases q:i=k
          ·subst q;exact HP.o
          ·exact HF.o i O (by omega)⟩
         case measure=>simp [intOf];omega
      ·have e2:¬(k:Int)<(l.length:Int):=by omega
       have E:=I (HA.o (fun i O=>HF.o i O (by omega)))
       go_wp2
       go_round
       case rel=>exact⟨i+1,by omega,by go_num,fun j hj=>by
        by_cases q:j=i
        ·rw[q,<-M.o];exact E.o
        ·exact HW.o j (by omega)⟩
       case measure=>simp [intOf];omega
  ·obtain rfl:i=n:=by omega
   have e1:¬(i:Int)<(i:Int):=by omega
   have hE:=RI (ls:=ls) (fun j hj=>HW.o j (by rw[D.o];exact hj)) (by rw[<-D.o];exact h1);rw[<-D.o] at hE;have E:=I hE;clear hE;have t1:decide ((1:Int)<=(i:Int))=true:=by simp;omega
   by_cases g:i<=4
   ·have t2:decide ((i:Int)<=4)=true:=by simp;omega
    have Z:=I (decide_eq_true g);clear g
    go_wp2
    go_ret;exact⟨by rw[E.o,Z.o];rfl,rfl⟩
   ·have t2:decide ((i:Int)<=4)=false:=by simp;omega
    have Z:=I (decide_eq_false g);clear g
    go_wp2
    go_ret;exact⟨by rw[E.o,Z.o];rfl,rfl⟩
theorem Nd (ls:List L) (A:Option Addr) (c B:Nat) (w:World) (D:1<=ls.length) (F:ls.length<=8000000000000) (hs:∀i,i<ls.length->(pl ls i).length<=1000000000) (E:Rd w B A (strs ls)) :
  Calls Tryz.prog 80 #[.slice A ls.length c] w fun e w'=>e=.returned (.bool (Cu ls))/\w=w':=by
 obtain⟨b,o,rfl,_,_⟩:=OS E (i:=0) D;refine KX ls b o c w D F hs fun i O=>?_
 obtain⟨Y,X,e,_,M⟩:=OS E O;injection e with e;injection e with e1 e2;subst e1;subst e2;exact M
end Nm
namespace Nm
open Go.RowKit Ad
attribute [local go_sem] FT List.getElem_cons_zero List.getElem_cons_succ Di Dj Fi
theorem OW (c:UInt8) (l:L):∀x,x∈split c l->x.length<=l.length:=by
 induction l with
 |nil=>intro x D;simp [split] at D;simp [D]
 |cons a r ih=>
  intro x D;rw[split] at D
  split at D
  ·rcases List.mem_cons.1 D with rfl | h
   ·simp
   ·have:=ih x h;simp;omega
  ·cases hs:split c r with
   |nil=>rw[hs] at D;simp at D;subst D;simp
   |cons u t=>
    rw[hs] at D ih;rcases List.mem_cons.1 D with rfl | h
    ·have:=ih u List.mem_cons_self;simp;omega
    ·have:=ih x (List.mem_cons_of_mem _ h);simp;omega
theorem Ml (l:L) (c:UInt8) (w':World) (base:Nat) (v:Value) (hs:l.length<=1000000000) (E:Own w' base v (split c l)) :
  ∃A n cap,v=.slice A n cap/\∀D,Below w'.heap.size w' D->Calls Tryz.prog 80 #[.slice A n cap] D fun e w2=>e=.returned (.bool (Cu (split c l)))/\D=w2:=by
 obtain⟨A,cap,rfl,M⟩:=E.slice;refine⟨A,_,cap,rfl,fun D F=>?_⟩;exact Nd (split c l) A cap w'.heap.size D (Er c l) (by have:=RH c l;omega) (fun i O=>by have:=OW c l _ (ON O);omega) (M.below F)
theorem OX (l:L) (w:World) (hs:l.length<=1000000000):Calls Tryz.prog 39 #[.string ⟨l.toArray⟩] w fun e w'=>e=.returned (.int .i64 (BD l:Int))/\Below w.heap.size w w':=by
 have C2:=I (fun F=>Gc l 46 F hs);have S2:=I (fun w' base v D=>Ml l 46 w' base v hs D);have ab:=I (Below.refl w.heap.size w);cases l with
 |nil=>
  have E:=I Rv;have c2:=C2.o w;have EL:=I (show Cu (split 46 [])=false by decide);clear hs;go_enter Tryz.func39,Tryz.ntmps39
  go_wp2_with (first
   |(go_at_call 81;refine Calls.mono c2 ?_;rintro e F ⟨v,rfl,D,M⟩;clear c2;obtain⟨A,n,cap,rfl,O⟩:=S2.o F _ v D;have c3:=O F Af;rw[EL.o] at c3;have H1:=I M;clear M D O)
   |(go_at_call 80;refine Ag c3 ?_;rintro w2 rfl;clear c3))
  go_ret;exact⟨by rw[E.o];rfl,H1.o⟩
 |cons x r=>
  have e0:(0:Int)<(r.length:Int)+1:=by omega
  have Y:r.length<=1000000000:=by simp at hs;omega
  have Z:BD (x :: r)=if slL (x :: r) then 2 else if Cu (split 46 (x :: r)) then 1 else 0:=rfl
  by_cases hx:x=47
  ·subst hx
   have X:slL (47 :: r)=Cu (split 47 r):=by simp [slL]
   rw[X] at Z;have c1:=Gc r 47 w Y;have S1:=I (fun w' base v D=>Ml r 47 w' base v Y D);cases h1:Cu (split 47 r) with
   |true=>
    have E:=I (show BD (47 :: r)=2 by rw[Z,h1];rfl);have H:=I h1;clear Z X h1 hs Y;go_enter Tryz.func39,Tryz.ntmps39
    go_wp2_with (first
     |(go_at_call 81;refine Calls.mono c1 ?_;rintro e F ⟨v,rfl,D,M⟩;clear c1;obtain⟨A,n,cap,rfl,O⟩:=S1.o F _ v D;have c3:=O F Af;rw[H.o] at c3;have H1:=I M;clear M D O)
     |(go_at_call 80;refine Ag c3 ?_;rintro w2 rfl;clear c3))
    go_ret;exact⟨by rw[E.o];rfl,H1.o⟩
   |false=>
    rw[h1,if_neg (by simp)] at Z;have H:=I h1;have hd:Cu (split 46 (47 :: r))=false:=by
     cases q:Cu (split 46 (47 :: r)) with
     |false=>rfl
     |true=>exact absurd rfl (Mf q)
    have HD:=I hd;have E:=I (show BD (47 :: r)=0 by rw[Z,hd];rfl);clear Z X h1 hd hs Y;go_enter Tryz.func39,Tryz.ntmps39
    go_wp2_with (first
     |(go_at_call 81;refine Calls.mono c1 ?_;rintro e F ⟨v,rfl,D,M⟩;clear c1;obtain⟨A,n,cap,rfl,O⟩:=S1.o F _ v D;have c3:=O F Af;rw[H.o] at c3;have H1:=I M;clear M D O;have c2:=C2.o F)
     |(go_at_call 80;refine Ag c3 ?_;rintro w2 rfl;clear c3)
     |(go_at_call 81;refine Calls.mono c2 ?_;rintro e w4 ⟨v4,rfl,D,M⟩;clear c2;obtain⟨A4,n4,aa,rfl,O⟩:=S2.o w4 _ v4 D;have c5:=O w4 Af;rw[HD.o] at c5;have H4:=H1.t M;clear M D O)
     |(go_at_call 80;refine Ag c5 ?_;rintro w6 rfl;clear c5))
    go_ret;exact⟨by rw[E.o];rfl,H4.o⟩
  ·have t1:((x.toNat:Int)==47)=false:=by
    simp only[beq_eq_false_iff_ne,ne_eq];intro q;exact hx (UInt8.toNat_inj.1 (by have:(47:UInt8).toNat=47:=rfl;omega))
   have X:slL (x :: r)=false:=by simp [slL,hx]
   rw[X,if_neg (by simp)] at Z;have c2:=C2.o w;cases h1:Cu (split 46 (x :: r)) with
   |true=>
    have E:=I (show BD (x :: r)=1 by rw[Z,h1];rfl);have H:=I h1;clear Z X h1 hs Y hx;go_enter Tryz.func39,Tryz.ntmps39
    go_wp2_with (first
     |(go_at_call 81;refine Calls.mono c2 ?_;rintro e F ⟨v,rfl,D,M⟩;clear c2;obtain⟨A,n,cap,rfl,O⟩:=S2.o F _ v D;have c3:=O F Af;rw[H.o] at c3;have H1:=I M;clear M D O)
     |(go_at_call 80;refine Ag c3 ?_;rintro w2 rfl;clear c3))
    go_ret;exact⟨by rw[E.o];rfl,H1.o⟩
   |false=>
    have E:=I (show BD (x :: r)=0 by rw[Z,h1];rfl);have H:=I h1;clear Z X h1 hs Y hx;go_enter Tryz.func39,Tryz.ntmps39
    go_wp2_with (first
     |(go_at_call 81;refine Calls.mono c2 ?_;rintro e F ⟨v,rfl,D,M⟩;clear c2;obtain⟨A,n,cap,rfl,O⟩:=S2.o F _ v D;have c3:=O F Af;rw[H.o] at c3;have H1:=I M;clear M D O)
     |(go_at_call 80;refine Ag c3 ?_;rintro w2 rfl;clear c3))
    go_ret;exact⟨by rw[E.o];rfl,H1.o⟩
theorem OY (l:L) (w:World) (hs:l.length<=1000000000):Calls Tryz.prog 16 #[.string ⟨l.toArray⟩] w fun e w'=>e=.returned (.bool (isL l))/\Below w.heap.size w w':=by
 have c1:=OX l w hs
 by_cases h:1<=BD l
 ·have E:=I (show isL l=true by simp [isL,h])
  have t:decide (0<BD l)=true:=by simp;omega
  clear h;go_enter Tryz.func16,Tryz.ntmps16
  go_wp2_with (go_at_call 39;refine Ag c1 ?_;rintro M D;clear c1;have H1:=I D;clear D)
  go_ret;exact⟨by rw[E.o];rfl,H1.o⟩
 ·have E:=I (show isL l=false by simp [isL];omega)
  have F:BD l=0:=by omega
  rw[F] at c1;clear h F;go_enter Tryz.func16,Tryz.ntmps16
  go_wp2_with (go_at_call 39;refine Ag c1 ?_;rintro M D;clear c1;have H1:=I D;clear D)
  go_ret;exact⟨by rw[E.o];rfl,H1.o⟩
end Nm
namespace Nm
open Go.RowKit Ad
attribute [local go_sem] FT List.getElem_cons_zero List.getElem_cons_succ Di Dj Fi
theorem RJ {n:L} (h:n.length<8):tgL n=false:=by
 cases q:preL krb n with
 |false=>rw[tgL,q];rfl
 |true=>
  have D:n.drop 7 = []:=List.drop_of_length_le (by omega);have E:cpL krb n = []:=by rw[cpL,q,if_pos rfl];exact D
  rw[tgL,E,show isL []=false from by decide,Bool.and_false]
theorem tg_eq (n:L):tgL n=((n.take 7==krb)&&isL (n.drop 7)):=by
 have e:=Mh krb n;rw[show krb.length=7 from rfl] at e;rw[tgL,e];cases q:preL krb n with
 |false=>rfl
 |true=>rw[cpL,q];rfl
theorem FF (n:L) (w:World) (hs:n.length<=1000000000):Calls Tryz.prog 55 #[.string ⟨n.toArray⟩] w fun e w'=>e=.returned (.tuple #[.string ⟨(tgR n).toArray⟩,.bool (tgL n)])/\Below w.heap.size w w':=by
 have c2:=OY (n.drop 7) w (by simp;omega);have F:=I (Below.refl w.heap.size w)
 by_cases h8:n.length<8
 ·have D:=I (RJ h8)
  have E:=I (show tgR n = [] by rw[tgR,D.o];rfl);have X:decide ((n.length:Int)<8)=true:=by simp;omega
  clear h8 hs;go_enter Tryz.func55,Tryz.ntmps55
  go_wp2_with fail
  go_ret2
  exact⟨by rw[D.o,E.o];rfl,F.o⟩
 ·have X:decide ((n.length:Int)<8)=false:=by simp;omega
  have Z:(7:Int)<=(n.length:Int):=by omega
  have eq:=tg_eq n;clear h8;cases h1:(n.take 7==krb) with
  |false=>
   rw[h1] at eq;have Y:(n.take 7 == [107,114,98,116,103,116,47])=false:=h1;have D:=I (show tgL n=false from eq);have E:=I (show tgR n = [] by rw[tgR,D.o];rfl);clear eq h1 hs;go_enter Tryz.func55,Tryz.ntmps55
   go_wp2_with fail
   go_ret2
   exact⟨by rw[D.o,E.o];rfl,F.o⟩
  |true=>
   rw[h1,Bool.true_and] at eq;have Y:(n.take 7 == [107,114,98,116,103,116,47])=true:=h1;clear h1 hs;cases h2:isL (n.drop 7) with
   |false=>
    rw[h2] at c2 eq;have D:=I eq;have E:=I (show tgR n = [] by rw[tgR,D.o];rfl);clear eq h2;go_enter Tryz.func55,Tryz.ntmps55
    go_wp2_with (go_at_call 16;refine Ag c2 ?_;rintro w2 M;clear c2;have O:=I M;clear M)
    go_ret2
    exact⟨by rw[D.o,E.o];rfl,O.o⟩
   |true=>
    rw[h2] at c2 eq;have D:=I eq;have E:=I (show tgR n=n.drop 7 by rw[tgR,D.o];rfl);clear eq h2;go_enter Tryz.func55,Tryz.ntmps55
    go_wp2_with (go_at_call 16;refine Ag c2 ?_;rintro w2 M;clear c2;have O:=I M;clear M)
    go_ret2
    exact⟨by rw[D.o,E.o];rfl,O.o⟩
theorem RK {p:UInt8->Bool} {l:L} (h:∀i (h:i<l.length),p l[i]=true):Cf p l=(decide (1<=l.length)&&decide (l.length<=8)):=by
 have D:l.all p=true:=by
  rw[List.all_eq_true];intro x F;obtain⟨i,E,rfl⟩:=List.getElem_of_mem F;exact h i E
 rw[Cf,D,Bool.and_true]
theorem Ev (r n:L) (w:World) (hs:r.length<=1000000000) (ak:n.length<=1000000000):Calls Tryz.prog 56 #[.agg #[.string ⟨r.toArray⟩,.string ⟨n.toArray⟩]] w fun e w'=>e=.returned (.bool (BM r n))/\Below w.heap.size w w':=by
 have c1:=OY r (w.alloc (.cells #[.string ⟨r.toArray⟩,.string ⟨n.toArray⟩] 36)) hs;have hk:=Blk.new w 36 #[.string ⟨r.toArray⟩,.string ⟨n.toArray⟩];have ai:=(Below.refl w.heap.size w).alloc Ae (.cells #[.string ⟨r.toArray⟩,.string ⟨n.toArray⟩] 36);have ae:w.heap.size<(w.alloc (.cells #[.string ⟨r.toArray⟩,.string ⟨n.toArray⟩] 36)).heap.size:=by simp
 obtain⟨N,eN⟩:=Ah (w.heap.size);have C2:=I (fun w1=>FF n w1 ak);have E1:=I (show BM r n=(isL r&&(tgL n||Cf Ci n)) from rfl);rw[<-eN] at hk ai ae⊢;have EN:=I eN;clear eN;have HK:=I hk;clear hk;have af:=I ai;clear ai;have ab:=I ae;clear ae hs;cases h1:isL r with
 |false=>
  rw[h1] at c1;have E:=I (show BM r n=false by rw[E1.o,h1];rfl);clear h1;go_enter Tryz.func56,Tryz.ntmps56
  go_wp2_with (go_at_call 16;refine Ag c1 ?_;rintro w1 M;clear c1;have H1:=I (af.o.trans (M.mono (Nat.le_of_lt ab.o)));clear M)
  go_ret;exact⟨by rw[E.o];rfl,H1.o⟩
 |true=>
  rw[h1] at c1;cases h2:tgL n with
  |true=>
   have E:=I (show BM r n=true by rw[E1.o,h1,h2];rfl);have HT:=I h2;clear h1 h2;go_enter Tryz.func56,Tryz.ntmps56
   go_wp2_with (first
    |(go_at_call 16;refine Ag c1 ?_;rintro w1 M;clear c1;have H1:=I (af.o.trans (M.mono (Nat.le_of_lt ab.o)));have D:=HK.o.below M;have ag:=I D;have aa:=D.cell 1;have X:N<w1.heap.size:=(by have:=M.size;have:=ab.o;omega);have ah:=I X;rw[EN.o] at aa;clear M X D;have c2:=C2.o w1;rw[HT.o] at c2)
    |(go_at_call 55;refine Ag c2 ?_;rintro w2 hb;clear c2 aa;have H2:=I (H1.o.trans (hb.mono (Nat.le_of_lt ah.o)));have aj:=(ag.o.below hb).cell 1;rw[EN.o] at aj;clear hb))
   go_ret;exact⟨by rw[E.o];rfl,H2.o⟩
  |false=>
   have E:=I (show BM r n=Cf Ci n by rw[E1.o,h1,h2];rfl);have HT:=I h2;clear h1 h2;go_enter Tryz.func56,Tryz.ntmps56
   go_wp2_with (first
    |(go_at_call 16;refine Ag c1 ?_;rintro w1 M;clear c1;have H1:=I (af.o.trans (M.mono (Nat.le_of_lt ab.o)));have D:=HK.o.below M;have ag:=I D;have aa:=D.cell 1;have X:N<w1.heap.size:=(by have:=M.size;have:=ab.o;omega);have ah:=I X;rw[EN.o] at aa;clear M X D;have c2:=C2.o w1;rw[HT.o] at c2)
    |(go_at_call 55;refine Ag c2 ?_;rintro w2 hb;clear c2 aa;have H2:=I (H1.o.trans (hb.mono (Nat.le_of_lt ah.o)));have aj:=(ag.o.below hb).cell 1;rw[EN.o] at aj;clear hb))
   go_loop [5] (fun iv=>∃k:Nat,k<=n.length/\iv=.int .i64 (k:Int)/\Fit Ci n k) (fun iv=>n.length - (intOf iv).toNat)
   case atStart=>exact⟨0,Nat.zero_le _,rfl,fun i _ h=>by omega⟩
   case round=>
    obtain⟨k,hk,rfl,hf⟩:=hrel;have HF:=I hf;clear hf
    by_cases hlt:k<n.length
    ·have e1:(k:Int)<(n.length:Int):=by omega
     have hb:=By n[k];have ad:Ci n[k]=false->Hid (BM r n=false):=fun h=>I (by rw[E.o];exact FZ hlt h)
     have O:=I ad;clear ad;have Y:Ci n[k]=true->Hid (Fit Ci n (k+1)):=fun h=>I (fun i hi al=>by
      by_cases q:i=k
      ·subst q;exact h
      ·exact HF.o i hi (by omega))
     have Z:=I Y;clear Y
     by_cases q1:n[k].toNat<97
     ·have s1:decide ((n[k].toNat:Int)<97)=true:=by simp;omega
      by_cases q2:n[k].toNat<48
      ·have s2:decide ((n[k].toNat:Int)<48)=true:=by simp;omega
       have F:=O.o (by simp [Ci,Ds];omega);clear q1 q2
       go_wp2
       go_ret;exact⟨by rw[F.o];rfl,H2.o⟩
      ·have s2:decide ((n[k].toNat:Int)<48)=false:=by simp;omega
       by_cases q3:57<n[k].toNat
       ·have s3:decide (57<(n[k].toNat:Int))=true:=by simp;omega
        have F:=O.o (by simp [Ci,Ds];omega);clear q1 q2 q3
        go_wp2
        go_ret;exact⟨by rw[F.o];rfl,H2.o⟩
       ·have s3:decide (57<(n[k].toNat:Int))=false:=by simp;omega
        have F:=Z.o (by simp [Ci,Ds];omega);clear q1 q2 q3
        go_wp2
        go_round
        case rel=>exact⟨k+1,by omega,by go_num,F.o⟩
        case measure=>simp [intOf];omega
     ·have s1:decide ((n[k].toNat:Int)<97)=false:=by simp;omega
      by_cases q2:122<n[k].toNat
      ·have s2:decide (122<(n[k].toNat:Int))=true:=by simp;omega
       have s3:decide ((n[k].toNat:Int)<48)=false:=by simp;omega
       have s4:decide (57<(n[k].toNat:Int))=true:=by simp;omega
       have F:=O.o (by simp [Ci,Ds];omega);clear q1 q2
       go_wp2
       go_ret;exact⟨by rw[F.o];rfl,H2.o⟩
      ·have s2:decide (122<(n[k].toNat:Int))=false:=by simp;omega
       have F:=Z.o (by simp [Ci,Ds];omega);clear q1 q2
       go_wp2
       go_round
       case rel=>exact⟨k+1,by omega,by go_num,F.o⟩
       case measure=>simp [intOf];omega
    ·obtain rfl:k=n.length:=by omega
     have e1:¬(n.length:Int)<(n.length:Int):=by omega
     have F:=I (E.o.trans (RK (fun i hi=>HF.o i hi hi)))
     by_cases g1:1<=n.length
     ·have t1:decide ((1:Int)<=(n.length:Int))=true:=by simp;omega
      by_cases g2:n.length<=8
      ·have t2:decide ((n.length:Int)<=8)=true:=by simp;omega
       have E3:=I (F.o.trans (show(decide (1<=n.length)&&decide (n.length<=8))=true by simp;omega));clear g1 g2
       go_wp2
       go_ret;exact⟨by rw[E3.o];rfl,H2.o⟩
      ·have t2:decide ((n.length:Int)<=8)=false:=by simp;omega
       have E3:=I (F.o.trans (show(decide (1<=n.length)&&decide (n.length<=8))=false by simp;omega));clear g1 g2
       go_wp2
       go_ret;exact⟨by rw[E3.o];rfl,H2.o⟩
     ·have t1:decide ((1:Int)<=(n.length:Int))=false:=by simp;omega
      have E3:=I (F.o.trans (show(decide (1<=n.length)&&decide (n.length<=8))=false by simp;omega));clear g1
      go_wp2
      go_ret;exact⟨by rw[E3.o];rfl,H2.o⟩
end Nm
end Go.Proofs.YtcpccikongbopaaGreat
