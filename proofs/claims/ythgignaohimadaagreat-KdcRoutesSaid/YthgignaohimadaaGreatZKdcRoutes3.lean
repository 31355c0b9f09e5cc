import Derived.Test.YthgignaohimadaaGreatZKdcRoutes1
set_option maxHeartbeats 25600000
set_option maxRecDepth 100000
set_option linter.unusedVariables false
set_option linter.unusedSimpArgs false
namespace Go.Proofs.YthgignaohimadaaGreat
namespace Rg
open Nm (Ds L)
abbrev Pr:=L×L
def prB (p:Pr):Bool:=Ds p.1 p.2
structure It where
 p:Pr
 n:Nat
 k:Nat->UInt8
def hit (i:It) (p:Pr) (n:Int):Bool:=decide (i.p=p)&&decide ((i.n:Int)=n)
def Cv (l:List It) (p:Pr) (n:Int):Option Nat:=l.findIdx? (fun i=>hit i p n)
def Bv (l:List It) (p:Pr):Nat->Option Nat
 |0=>none
 |i+1=>if (l[i]?).map (·.p)=some p then some i else Bv l p i
def BA (l:List It) (p:Pr):Option Nat:=Bv l p l.length
def numO (l:List It):Option Nat->Nat
 |none=>0
 |some i=>((l[i]?).map (·.n)).getD 0
def BH (l:List It) (p:Pr):Nat:=numO l (BA l p)
def Num (l:List It):Prop:=∀j i,l[j]? = some i->i.n=numO l (Bv l i.p j)+1
def addN (l:List It) (p:Pr):Nat:=if prB p=true then (if l.length<40 then BH l p+1 else 0) else 0
def addE (l:List It) (p:Pr):Nat:=if prB p=true then (if l.length<40 then 0 else 13) else 1
def addL (l:List It) (p:Pr) (k:Nat->UInt8):List It:=if prB p=true then (if l.length<40 then l++[⟨p,BH l p+1,k⟩] else l) else l
theorem Ep {l:List It} {p:Pr}:∀{i j:Nat},Bv l p i=some j->j<i/\∃x,l[j]? = some x/\x.p=p
 |0,j,h=>by cases h
 |i+1,j,h=>by
  unfold Bv at h
  split at h
  ·rename_i e
   injection h with h;subst h;obtain⟨x,D,E⟩:=Option.map_eq_some_iff.1 e;exact⟨Nat.lt_succ_self _,x,D,E⟩
  ·obtain⟨D,E⟩:=Ep h
   exact⟨Nat.lt_succ_of_lt D,E⟩
theorem Ku {l m:List It} {p:Pr}:∀{i:Nat},i<=l.length->Bv (l++m) p i=Bv l p i
 |0,_=>rfl
 |i+1,h=>by unfold Bv;rw[List.getElem?_append_left (by omega),Ku (by omega)]
theorem Jt {l:List It} (h:Num l) (p:Pr):∀i,numO l (Bv l p i)<=i
 |0=>Nat.le_refl _
 |i+1=>by
  unfold Bv
  split
  ·rename_i e
   obtain⟨x,D,F⟩:=Option.map_eq_some_iff.1 e;have E:=h i x D;have J:=Jt h p i;rw[F] at E;simp only[numO,D,Option.map_some,Option.getD_some];omega
  ·have:=Jt h p i;omega
theorem YX {l:List It} (h:Num l) (p:Pr):BH l p<=l.length:=Jt h p _
theorem Lh {x:It} {p:Pr} {n:Int}:hit x p n=true↔x.p=p/\(x.n:Int)=n:=by simp [hit]
theorem Hu {l:List It} {p:Pr} {n:Int} {i:Nat} (h:Cv l p n=some i):∃x,l[i]? = some x/\x.p=p/\(x.n:Int)=n:=by
 obtain⟨D,E,_⟩:=List.findIdx?_eq_some_iff_getElem.1 h;exact⟨l[i],List.getElem?_eq_getElem D,Lh.1 E⟩
theorem VI {l:List It} {p:Pr} {n:Int} {i:Nat} {x:It} (E:l[i]? = some x) (hp:x.p=p) (N:(x.n:Int)=n) (J:∀(j:Nat) (y:It),j<i->l[j]? = some y->¬(y.p=p/\(y.n:Int)=n)):Cv l p n=some i:=by
 obtain⟨F,O⟩:=List.getElem?_eq_some_iff.1 E;refine List.findIdx?_eq_some_iff_getElem.2 ⟨F,by rw[O];exact Lh.2 ⟨hp,N⟩,fun j D M=>?_⟩;exact J j _ D (List.getElem?_eq_getElem (by omega)) (Lh.1 M)
theorem Qv {l:List It} {p:Pr} {n:Int} (J:∀(j:Nat) (y:It),l[j]? = some y->¬(y.p=p/\(y.n:Int)=n)):Cv l p n=none:=by
 refine List.findIdx?_eq_none_iff.2 fun x F=>?_
 obtain⟨j,E,D⟩:=List.getElem_of_mem F;have:=J j x (by rw[<-D];exact List.getElem?_eq_getElem E);rw[<-Lh] at this
 simpa using this
end Rg
namespace DerP
abbrev L:=List UInt8
def szL (n:Nat):L:=if n<128 then [UInt8.ofNat n] else if n<=255 then [129,UInt8.ofNat n] else [130,UInt8.ofNat (n / 256),UInt8.ofNat n]
def elem (t:UInt8) (p:L):L:=t :: (szL p.length++p)
def lenR:L->Nat×Nat×Bool
 | []=>(0,0,false)
 |a :: r=>
  if a.toNat<128 then (a.toNat,1,true)
  else if a.toNat=129 then
   match r with
   | []=>(0,0,false)
   |b :: _=>(b.toNat,2,decide (128<=b.toNat))
  else if a.toNat=130 then
   match r with
   |b :: c :: _=>(b.toNat*256+c.toNat,3,decide (255<b.toNat*256+c.toNat))
   |_=>(0,0,false)
  else (0,0,false)
def BM (t:UInt8):L->Option (L×L)
 | []=>none
 |a :: s=>
  if a=t/\(lenR s).2.2=true/\(lenR s).1+(lenR s).2.1<=s.length
  then some ((s.drop (lenR s).2.1).take (lenR s).1,(s.drop (lenR s).2.1).drop (lenR s).1) else none
def BN (t:UInt8) (c:Option L):Option L:=(c.bind (BM t)).map (·.2)
def Bp (t:UInt8) (c:Option L):Option L:=(c.bind (BM t)).map (·.1)
theorem Mp {t:UInt8} {s:L} (h:BM t s=none):Bp t (some s)=none/\BN t (some s)=none:=by simp [Bp,BN,h]
theorem GM {t:UInt8} {s b r:L} (h:BM t s=some (b,r)):Bp t (some s)=some b/\BN t (some s)=some r:=by simp [Bp,BN,h]
def val (l:L):Nat:=l.foldl (fun a b=>a*256+b.toNat) 0
def BI:L->Bool
 | []=>false
 |b :: _=>decide (b.toNat<128)
def numL:L->Option Nat
 | []=>none
 |a :: r=>
  if 7<r.length\/128<=a.toNat then none
  else if a.toNat=0/\BI r=true then none
  else if 4611686018427387904<val (a :: r) then none
  else some (val (a :: r))
def digK:Nat->Nat->L
 |0,_=>[]
 |k+1,n=>digK k (n / 256)++[UInt8.ofNat n]
def dig (n:Nat):L:=digK (Lib.bitLen n / 8+1) n
def Ci (n:Int):Nat:=(min (max n 0) 4611686018427387904).toNat
def encI (n:Int):L:=elem 2 (dig (Ci n))
def intC (c:Option L):Nat×Option L:=
 match Bp 2 c with
 |none=>(0,none)
 |some b=>match numL b with
  |none=>(0,none)
  |some n=>(n,BN 2 c)
theorem GN (n:Int):Ci n<=4611686018427387904:=by unfold Ci;omega
theorem Sa (n:Int) (E:0<=n) (D:n<=4611686018427387904):Ci n=n.toNat:=by unfold Ci;omega
theorem Kv (n:Int):((Ci n:Nat):Int)=min (max n 0) 4611686018427387904:=by unfold Ci;omega
theorem Bk (k n:Nat):(digK k n).length=k:=by
 induction k generalizing n with
 |zero=>rfl
 |succ k ih=>simp [digK,ih]
theorem Li (l:L) (b:UInt8):val (l++[b])=val l*256+b.toNat:=by simp [val]
theorem Pm (k n:Nat):val (digK k n)=n % 256 ^ k:=by
 induction k generalizing n with
 |zero=>simp [digK,val,Nat.mod_one]
 |succ k ih=>
  rw[digK,Li,ih];have D:(UInt8.ofNat n).toNat=n % 256:=by simp
  rw[D,Nat.pow_succ,Nat.mul_comm (256 ^ k) 256,Nat.mod_mul];omega
theorem Qw (l:L) (k:Nat) (h:l.length=k+1):∃m b,l=m++[b]/\m.length=k:=by
 refine⟨l.take k,l[k]'(by omega),?_,by simp;omega⟩;rw[List.take_append_getElem];rw[List.take_of_length_le (by omega)]
theorem VJ (k:Nat) (l:L) (h:l.length=k):digK k (val l)=l:=by
 induction k generalizing l with
 |zero=>rw[List.length_eq_zero_iff.1 h];rfl
 |succ k ih=>
  obtain⟨m,b,rfl,hm⟩:=Qw l k h;rw[digK,Li];have D:=b.toNat_lt;have e:(val m*256+b.toNat) / 256=val m:=by omega
  rw[e,ih m hm]
  congr 1
  simp only[List.cons.injEq,and_true];apply UInt8.toNat_inj.1;simp
theorem Sb (k n j:Nat) (h:j<k):(digK k n)[j]? = some (UInt8.ofNat (n / 256 ^ (k - 1 - j))):=by
 induction k generalizing n with
 |zero=>omega
 |succ k ih=>
  rw[digK]
  by_cases hj:j<k
  ·rw[List.getElem?_append_left (by rw[Bk];exact hj),ih _ hj]
   congr 2
   rw[Nat.div_div_eq_div_mul]
   congr 1
   rw[show k+1 - 1 - j=(k - 1 - j)+1 by omega,Nat.pow_succ,Nat.mul_comm]
  ·obtain rfl:j=k:=by omega
   rw[List.getElem?_append_right (by rw[Bk];omega),Bk];simp
theorem Sd (l:L) (j:Nat) (b:UInt8) (h:l[j]? = some b):l.drop j=b :: l.drop (j+1):=by
 obtain⟨D,e⟩:=List.getElem?_eq_some_iff.1 h;rw[List.drop_eq_getElem_cons D,e]
theorem XR (l:L):val l<256 ^ l.length:=by
 have h:=Pm l.length (val l);rw[VJ l.length l rfl] at h;have hp:0<256 ^ l.length:=Nat.pow_pos (by omega);rw[h];exact Nat.mod_lt _ hp
theorem Sf (l:L) (x:Nat):l.foldl (fun a b=>a*256+b.toNat) x=x*256 ^ l.length+val l:=by
 induction l generalizing x with
 |nil=>simp [val]
 |cons a r ih=>
  have e:val (a :: r)=a.toNat*256 ^ r.length+val r:=by
   show List.foldl _ (0*256+a.toNat) r=_;rw[ih];simp
  rw[List.foldl_cons,ih,e,List.length_cons,Nat.pow_succ,Nat.add_mul,Nat.mul_assoc,Nat.mul_comm 256,Nat.add_assoc]
theorem Lj (a:UInt8) (r:L):val (a :: r)=a.toNat*256 ^ r.length+val r:=by
 show List.foldl _ (0*256+a.toNat) r=_;rw[Sf];simp
theorem Ju (x:Nat) (D:x<18446744073709551616) (k:Nat) (h:2 ^ k<=x):k+1<=Lib.bitLen x:=by
 have J:x≠0:=by
  have:=Nat.pow_pos (n:=k) (show 0<2 by omega);omega
 obtain⟨_,_,E⟩:=Lib.bitLenAux_bounds 64 x (by simpa using D) J;have F:2 ^ k<2 ^ Lib.bitLen x:=Nat.lt_of_le_of_lt h E;have:=(Nat.pow_lt_pow_iff_right (a:=2) (by omega)).1 F;omega
theorem DN (x k:Nat) (hk:k<=64) (h:x<2 ^ k):Lib.bitLen x<=k:=Lib.bitLen_le x k hk h
theorem Mq (x:Nat) (D:x<18446744073709551616):x<2 ^ Lib.bitLen x:=by
 by_cases h0:x=0
 ·subst h0;exact Nat.pow_pos (by omega)
 ·exact(Lib.bitLenAux_bounds 64 x (by simpa using D) h0).2.2
theorem GO (n:Nat) (h:n<=4611686018427387904):Lib.bitLen n<=63:=DN n 63 (by omega) (by omega)
theorem Hv (n:Nat):(dig n).length=Lib.bitLen n / 8+1:=Bk _ _
theorem YY (n:Nat) (h:n<=4611686018427387904):(dig n).length<=8:=by
 rw[Hv];have:=GO n h;omega
theorem Jv (k:Nat):256 ^ k=2 ^ (8*k):=by rw[Nat.pow_mul]
theorem YZ (n:Nat) (h:n<=4611686018427387904):val (dig n)=n:=by
 rw[dig,Pm];apply Nat.mod_eq_of_lt;rw[Jv];refine Nat.lt_of_lt_of_le (Mq n (by omega)) (Nat.pow_le_pow_right (by omega) (by omega))
theorem Za (n:Nat) (h:n<=4611686018427387904):numL (dig n)=some n:=by
 have F:=YZ n h;have E:=Hv n;have Z:=GO n h;have M:=Mq n (by omega);cases hd:dig n with
 |nil=>rw[hd] at E;simp at E
 |cons a r=>
  rw[hd] at F E;simp only[List.length_cons] at E;have N:r.length=Lib.bitLen n / 8:=by omega
  have J:=Lj a r;rw[F] at J;have ha:a.toNat<128:=by
   rcases Nat.lt_or_ge a.toNat 128 with g | g
   ·exact g
   ·exfalso
    have D:128*256 ^ r.length<=n:=by
     have:=Nat.mul_le_mul_right (256 ^ r.length) g;omega
    have h2:2 ^ (8*r.length+7)<=n:=by
     rw[Nat.pow_add,<-Jv,Nat.mul_comm];simpa using D
    have h3:=Ju n (by omega) _ h2;omega
  have hs:¬(a.toNat=0/\BI r=true):=by
   rintro⟨h0,D⟩;cases r with
   |nil=>simp [BI] at D
   |cons b q=>
    simp only[BI,decide_eq_true_eq] at D;have hq:=Lj b q;have hb:=XR q;simp only[List.length_cons] at N J;rw[h0] at J;have O:n<128*256 ^ q.length:=by
     have:(b.toNat+1)*256 ^ q.length<=128*256 ^ q.length:=Nat.mul_le_mul_right _ (by omega);rw[Nat.add_mul] at this;omega
    have h5:n<2 ^ (8*q.length+7):=by
     rw[Nat.pow_add,<-Jv,Nat.mul_comm];simpa using O
    have h6:=DN n (8*q.length+7) (by omega) h5;omega
  simp only[numL];rw[if_neg (by omega),if_neg hs,if_neg (by omega),F]
theorem GP (l:L) (i:Nat) (h:i<l.length):val (l.take (i+1))=val (l.take i)*256+(l[i]).toNat:=by
 rw[List.take_succ_eq_append_getElem h,Li]
theorem NK {a:UInt8} {r:L} (J:a.toNat<128) (O:r.length<=7) (i:Nat):val ((a :: r).take i)<9223372036854775808:=by
 cases i with
 |zero=>simp [val]
 |succ i=>
  rw[List.take_succ_cons,Lj];have N:=XR (r.take i);have E:(r.take i).length<=7:=by have:=List.length_take_le i r;have:=List.length_take_le' i r;omega
  have D:256 ^ (r.take i).length<=256 ^ 7:=Nat.pow_le_pow_right (by omega) E;have F:(a.toNat+1)*256 ^ (r.take i).length<=128*256 ^ 7:=Nat.mul_le_mul (by omega) D;rw[Nat.add_mul] at F;have M:(128:Nat)*256 ^ 7=9223372036854775808:=by decide
  omega
def numR (s:L):Nat×Bool:=((numL s).getD 0,(numL s).isSome)
theorem GQ {a:UInt8} {r:L} (h:(7<r.length\/128<=a.toNat)\/(a.toNat=0/\BI r=true)\/4611686018427387904<val (a :: r)):numL (a :: r)=none:=by
 rw[numL]
 by_cases h1:7<r.length\/128<=a.toNat
 ·rw[if_pos h1]
 ·rw[if_neg h1]
  by_cases h2:a.toNat=0/\BI r=true
  ·rw[if_pos h2]
  ·rw[if_neg h2]
   rcases h with h | h | h
   ·exact absurd h h1
   ·exact absurd h h2
   ·rw[if_pos h]
theorem Fl {s:L} (h:numL s=none):numR s=(0,false):=by rw[numR,h];rfl
theorem Sg {a:UInt8} {r:L} (h:7<r.length):numR (a :: r)=(0,false):=Fl (GQ (.inl (.inl h)))
theorem Sh {a:UInt8} {r:L} (h:128<=a.toNat):numR (a :: r)=(0,false):=Fl (GQ (.inl (.inr h)))
theorem Sj {a b:UInt8} {r:L} (h:a.toNat=0) (D:b.toNat<128):numR (a :: b :: r)=(0,false):=Fl (GQ (.inr (.inl ⟨h,by simpa [BI] using D⟩)))
theorem Qx {a:UInt8} {r:L} (h:4611686018427387904<val (a :: r)):numR (a :: r)=(0,false):=Fl (GQ (.inr (.inr h)))
theorem Sk {a:UInt8} {r:L} (E:r.length<=7) (F:a.toNat<128) (D:¬(a.toNat=0/\BI r=true)) (J:val (a :: r)<=4611686018427387904):numR (a :: r)=(val (a :: r),true):=by
 simp only[numR,numL];rw[if_neg (by omega),if_neg D,if_neg (by omega)];rfl
theorem Kw {a:UInt8} {r:L} (h:a.toNat<128):lenR (a :: r)=(a.toNat,1,true):=by simp [lenR,h]
theorem Iq {a:UInt8} (h:a.toNat=129):lenR [a]=(0,0,false):=by simp [lenR,h]
theorem Pn {a b:UInt8} {r:L} (h:a.toNat=129):lenR (a :: b :: r)=(b.toNat,2,decide (128<=b.toNat)):=by simp [lenR,h]
theorem Ir {a:UInt8} (h:a.toNat=130):lenR [a]=(0,0,false):=by simp [lenR,h]
theorem Is {a b:UInt8} (h:a.toNat=130):lenR [a,b]=(0,0,false):=by simp [lenR,h]
theorem Po {a b c:UInt8} {r:L} (h:a.toNat=130):lenR (a :: b :: c :: r)=(b.toNat*256+c.toNat,3,decide (255<b.toNat*256+c.toNat)):=by simp [lenR,h]
theorem Mr {a:UInt8} {r:L} (D:¬a.toNat<128) (E:¬a.toNat=129) (F:¬a.toNat=130):lenR (a :: r)=(0,0,false):=by simp [lenR,D,E,F]
theorem Sl (s:L):(lenR s).1<=65535/\(lenR s).2.1<=3:=by
 cases s with
 |nil=>simp [lenR]
 |cons a r=>
  have D:=a.toNat_lt
  by_cases h1:a.toNat<128
  ·rw[Kw h1];simp;omega
  ·by_cases h2:a.toNat=129
   ·cases r with
    |nil=>rw[Iq h2];simp
    |cons b q=>rw[Pn h2];have:=b.toNat_lt;simp;omega
   ·by_cases h3:a.toNat=130
    ·rcases r with _ | ⟨b,_ | ⟨c,q⟩⟩
     ·rw[Ir h3];simp
     ·rw[Is h3];simp
     ·rw[Po h3];have:=b.toNat_lt;have:=c.toNat_lt;simp;omega
    ·rw[Mr h1 h2 h3];simp
theorem Hw (n:Nat):(szL n).length=if n<128 then 1 else if n<=255 then 2 else 3:=by
 unfold szL;split
 ·rfl
 ·split<;>rfl
theorem Er (t:UInt8) (p:L):(elem t p).length=1+(szL p.length).length+p.length:=by
 simp [elem];omega
theorem VK (n:Nat) (h:n<=65535) (r:L):lenR (szL n++r)=(n,(szL n).length,true):=by
 unfold szL
 by_cases h1:n<128
 ·have e:n % 256=n:=by omega
  simp [h1,lenR,e]
 ·by_cases h2:n<=255
  ·have e:(UInt8.ofNat n).toNat=n:=by simp;omega
   simp [h1,h2,lenR];omega
  ·have F:(UInt8.ofNat (n / 256)).toNat=n / 256:=by simp;omega
   have E:(UInt8.ofNat n).toNat=n % 256:=by simp
   have D:n / 256 % 256*256+n % 256=n:=by omega
   simp [h1,h2,lenR,D];omega
theorem NL {s:L} (h:(lenR s).2.2=true):szL (lenR s).1=s.take (lenR s).2.1/\(lenR s).2.1=(szL (lenR s).1).length/\(lenR s).2.1<=s.length/\(lenR s).1<=65535:=by
 have key:∀a:UInt8,UInt8.ofNat a.toNat=a:=fun a=>by simp
 cases s with
 |nil=>simp [lenR] at h
 |cons a r=>
  have ha:=a.toNat_lt
  by_cases h1:a.toNat<128
  ·simp [lenR,h1,szL];omega
  ·by_cases h2:a.toNat=129
   ·cases r with
    |nil=>simp [lenR,h2] at h
    |cons b q=>
     have J:=b.toNat_lt;have D:a=129:=UInt8.toNat_inj.1 h2;subst D;simp [lenR] at h;have E:¬b.toNat<128:=by omega
     have M:b.toNat<=255:=by omega
     simp [lenR,szL,E,M];omega
   ·by_cases E:a.toNat=130
    ·rcases r with _ | ⟨b,_ | ⟨c,q⟩⟩
     ·simp [lenR,E] at h
     ·simp [lenR,E] at h
     ·have J:=b.toNat_lt
      have hc:=c.toNat_lt;have D:a=130:=UInt8.toNat_inj.1 E;subst D;simp [lenR] at h;have F:¬b.toNat*256+c.toNat<128:=by omega
      have N:¬b.toNat*256+c.toNat<=255:=by omega
      have Z:UInt8.ofNat ((b.toNat*256+c.toNat) / 256)=b:=by
       rw[show(b.toNat*256+c.toNat) / 256=b.toNat by omega];simp
      have O:UInt8.ofNat (b.toNat*256+c.toNat)=c:=by
       apply UInt8.toNat_inj.1;simp
      simp only[lenR,szL];simp [F,N,Z,O];omega
    ·simp [lenR,h1,h2,E] at h
theorem Ec (t:UInt8) (p r:L) (h:p.length<=65535):BM t (elem t p++r)=some (p,r):=by
 show BM t (t :: (szL p.length++p++r))=_;rw[List.append_assoc,BM,VK _ h];simp;omega
theorem Jw {t:UInt8} {s b r:L} (h:BM t s=some (b,r)):s=elem t b++r/\b.length<=65535:=by
 cases s with
 |nil=>simp [BM] at h
 |cons a s=>
  simp only[BM] at h
  by_cases hc:a=t/\(lenR s).2.2=true/\(lenR s).1+(lenR s).2.1<=s.length
  ·rw[if_pos hc] at h
   obtain⟨rfl,F,N⟩:=hc;obtain⟨D,J,M,O⟩:=NL F;injection h with h;injection h with hb hr;have E:b.length=(lenR s).1:=by rw[<-hb];simp;omega
   refine⟨?_,by omega⟩;rw[elem,E,D,<-hb,<-hr,List.cons_append,List.append_assoc,List.take_append_drop,List.take_append_drop]
  ·rw[if_neg hc] at h;cases h
theorem VL {t:UInt8} {p q F E:L} (hp:p.length<=65535) (J:q.length<=65535) (h:elem t p++F=elem t q++E):p=q/\F=E:=by
 have D:=Ec t p F hp;rw[h,Ec t q E J] at D;injection D with D;injection D with D h2;exact⟨D.symm,h2.symm⟩
theorem Fi (t:UInt8) (p:L) (hp:p.length<=65535) (k:Nat) (hk:k<(elem t p).length):BM t ((elem t p).take k)=none:=by
 cases h:BM t ((elem t p).take k) with
 |none=>rfl
 |some x=>
  obtain⟨b,r⟩:=x;obtain⟨E,J⟩:=Jw h;have F:elem t p++[]=elem t b++(r++(elem t p).drop k):=by
   rw[<-List.append_assoc,<-E,List.take_append_drop,List.append_nil]
  obtain⟨_,M⟩:=VL hp J F;have D:=congrArg List.length M;simp at D;omega
theorem CE {t:UInt8} {s b r:L} (h:BM t s=some (b,r)):b.length<=s.length/\r.length<=s.length:=by
 have:=congrArg List.length (Jw h).1;simp [Er] at this;omega
theorem Dj (t:UInt8) (c:Option L):((Bp t c).getD []).length<=(c.getD []).length/\((BN t c).getD []).length<=(c.getD []).length:=by
 cases c with
 |none=>simp [Bp,BN]
 |some s=>
  cases h:BM t s with
  |none=>obtain⟨E,D⟩:=Mp h;rw[E,D];simp
  |some x=>
   obtain⟨b,r⟩:=x;obtain⟨E,D⟩:=GM h;rw[E,D];exact CE h
theorem Sn (t:UInt8) (c:Option L) (h:Bp t c=none):BN t c=none:=by
 unfold Bp at h;unfold BN;rw[Option.map_eq_none_iff] at h⊢;exact h
theorem Lk (n:Int):(dig (Ci n)).length<=8:=YY _ (GN n)
theorem Zb (n:Int) (r:L):intC (some (encI n++r))=(Ci n,some r):=by
 have h:=Ec 2 (dig (Ci n)) r (by have:=Lk n;omega);simp only[intC,Bp,BN,encI,Option.bind_some,h,Option.map_some,Za _ (GN n)]
end DerP
namespace DerC
open Go.RowKit Af DerP
attribute [local go_sem] Ea List.getElem_cons_zero List.getElem_cons_succ BZ Ca Dd
def AW (w w':World):Prop:=∃n,w'=w.drewN n
theorem AW.refl (w:World):AW w w:=⟨0,rfl⟩
def Ll:Option L->Array Value
 |none=>#[.string ⟨([]:List UInt8).toArray⟩,.bool true]
 |some s=>#[.string ⟨s.toArray⟩,.bool false]
def Cur (w:World) (g:Nat) (c:Option L):Prop:=Blk w g 282 (Ll c)
theorem NM (s:L) (w:World):Calls Tryz.prog 233 #[.string ⟨s.toArray⟩] w fun e w'=>
  e=.returned (.tuple #[.int .i64 ((lenR s).1:Int),.int .i64 ((lenR s).2.1:Int),.bool (lenR s).2.2])/\AW w w':=by
 cases s with
 |nil=>
  go_enter Tryz.func233,Tryz.ntmps233
  go_wp2
  go_ret3
  exact⟨rfl,AW.refl _⟩
 |cons a r=>
  by_cases h1:a.toNat<128
  ·have N:decide ((a.toNat:Int)<128)=true:=by simp;omega
   have E:Hid (lenR (a :: r)=(a.toNat,1,true)):=Kw h1;have H:=I h1;clear h1;have ha:=Fg a;go_enter Tryz.func233,Tryz.ntmps233
   go_wp2
   go_ret3
   exact⟨by rw[E.o];rfl,AW.refl _⟩
  ·have N:decide ((a.toNat:Int)<128)=false:=by simp;omega
   by_cases h2:a.toNat=129
   ·have Z:((a.toNat:Int)==129)=true:=by simp;omega
    have M:((a.toNat:Int)==130)=false:=by simp;omega
    have H1:=I h1;clear h1;have D:=I h2;clear h2;cases r with
    |nil=>
     have E:Hid (lenR [a]=(0,0,false)):=Iq D.o;go_enter Tryz.func233,Tryz.ntmps233
     go_wp2
     go_ret3
     exact⟨by rw[E.o];rfl,AW.refl _⟩
    |cons b q=>
     have O:=Fg b;have E:Hid (lenR (a :: b :: q)=(b.toNat,2,decide (128<=b.toNat))):=Pn D.o;have F:Hid (decide ((128:Int)<=(b.toNat:Int))=decide (128<=b.toNat)):=by show _=_;simp;omega
     go_enter Tryz.func233,Tryz.ntmps233
     go_wp2
     go_ret3
     exact⟨by rw[E.o,<-F.o];rfl,AW.refl _⟩
   ·have Z:((a.toNat:Int)==129)=false:=by simp;omega
    by_cases h3:a.toNat=130
    ·have M:((a.toNat:Int)==130)=true:=by simp;omega
     have H1:=I h1;clear h1;have D:=I h2;clear h2;have J:=I h3;clear h3;rcases r with _ | ⟨b,_ | ⟨c,q⟩⟩
     ·have E:Hid (lenR [a]=(0,0,false)):=Ir J.o
      go_enter Tryz.func233,Tryz.ntmps233
      go_wp2
      go_ret3
      exact⟨by rw[E.o];rfl,AW.refl _⟩
     ·have E:Hid (lenR [a,b]=(0,0,false)):=Is J.o
      go_enter Tryz.func233,Tryz.ntmps233
      go_wp2
      go_ret3
      exact⟨by rw[E.o];rfl,AW.refl _⟩
     ·have O:=Fg b
      have hc:=Fg c;have E:Hid (lenR (a :: b :: c :: q)=(b.toNat*256+c.toNat,3,decide (255<b.toNat*256+c.toNat))):=Po J.o;go_enter Tryz.func233,Tryz.ntmps233
      go_wp2
      go_quiet (fail)
      go_wp2
      go_ret3
      have F:(decide ((255:Int)<(b.toNat:Int)*256+(c.toNat:Int)))=decide (255<b.toNat*256+c.toNat):=by simp;omega
      have G:=RF b.toNat c.toNat (by omega) (by omega);exact⟨by rw[E.o,<-F,<-G];simp [G],⟨_,rfl⟩⟩
    ·have M:((a.toNat:Int)==130)=false:=by simp;omega
     have E:Hid (lenR (a :: r)=(0,0,false)):=Mr h1 h2 h3;have H1:=I h1;clear h1;have D:=I h2;clear h2;have J:=I h3;clear h3;go_enter Tryz.func233,Tryz.ntmps233
     go_wp2
     go_ret3
     exact⟨by rw[E.o];rfl,AW.refl _⟩
theorem Jx {w:World} {g:Nat} {c:Option L} (h:Cur w g c):w.cell? ⟨g,0,none⟩=some (.string ⟨(c.getD []).toArray⟩)/\w.cell? ⟨g,1,none⟩=some (.bool (!c.isSome)):=by
 have E:=h.cell 0;have D:=h.cell 1;cases c<;>exact⟨E,D⟩
theorem Kx {w:World} {g:Nat} {c:Option L} (h:Cur w g c):w.frozen? ⟨g,0,none⟩=false/\w.frozen? ⟨g,1,none⟩=false:=⟨h.frozen 0,h.frozen 1⟩
theorem Lm (g:Nat) (c:Option L) (w:World) (h:Cur w g c):Calls Tryz.prog 216 #[.pointer (some ⟨g,0,none⟩)] w fun e w'=>e=.returned (.bool c.isSome)/\w=w':=by
 obtain⟨_,D⟩:=Jx h;go_enter Tryz.func216,Tryz.ntmps216
 go_wp2
 go_ret;exact⟨by simp,rfl⟩
theorem Pp (g:Nat) (c:Option L) (w:World) (h:Cur w g c):Calls Tryz.prog 192 #[.pointer (some ⟨g,0,none⟩)] w fun e w'=>e=.returned (.tuple #[])/\Cur w' g none/\w.grownBy w' (some g):=by
 obtain⟨J,E⟩:=Jx h;obtain⟨D,F⟩:=Kx h;go_enter Tryz.func192,Tryz.ntmps192
 go_wp2
 go_end0
 exact⟨rfl,by have:=(h.set 0 (.string ⟨#[]⟩)).set 1 (.bool true);cases c<;>exact this,by repeat (first | exact World.grownBy.refl _ _ | refine AU ?_ (.inl rfl) _)⟩
theorem So (t:UInt8) (w:World):Calls Tryz.prog 217 #[.string ⟨([]:List UInt8).toArray⟩,.int .u8 t.toNat] w fun e w'=>
  e=.returned (.tuple #[.string ⟨([]:List UInt8).toArray⟩,.string ⟨([]:List UInt8).toArray⟩,.bool false])/\AW w w':=by
 go_enter Tryz.func217,Tryz.ntmps217
 go_wp2
 go_ret3
 exact⟨rfl,AW.refl _⟩
theorem NO (a t:UInt8) (r:L) (w:World) (D:a≠t):Calls Tryz.prog 217 #[.string ⟨(a :: r).toArray⟩,.int .u8 t.toNat] w fun e w'=>
  e=.returned (.tuple #[.string ⟨([]:List UInt8).toArray⟩,.string ⟨([]:List UInt8).toArray⟩,.bool false])/\AW w w':=by
 have E:((a.toNat:Int)==(t.toNat:Int))=false:=by simp;exact fun g=>D (UInt8.toNat_inj.1 (by omega))
 have F:((a.toNat:Int) != (t.toNat:Int))=true:=by simp;exact fun g=>D (UInt8.toNat_inj.1 (by omega))
 have H:=I D;clear D;go_enter Tryz.func217,Tryz.ntmps217
 go_wp2
 go_ret3
 exact⟨rfl,AW.refl _⟩
theorem Qy (t:UInt8) (r:L) (w:World) (hs:(r.length:Int)<=100000) (hk:(lenR r).2.2=true) (D:(lenR r).1+(lenR r).2.1<=r.length):Calls Tryz.prog 217 #[.string ⟨(t :: r).toArray⟩,.int .u8 t.toNat] w fun e w'=>
  e=.returned (.tuple #[.string ⟨((r.drop (lenR r).2.1).take (lenR r).1).toArray⟩,.string ⟨((r.drop (lenR r).2.1).drop (lenR r).1).toArray⟩,.bool true])/\AW w w':=by
 have F:=Sl r;generalize hx:lenR r=x at *;obtain⟨n,k,ok⟩:=x;simp only at hk D F⊢;have O:((r.length:Int) - (k:Int)<(n:Int))=False:=by simp;omega
 have M:decide ((r.length:Int) - (k:Int)<(n:Int))=false:=by simp;omega
 have Z:(k:Int)+(n:Int)<=(r.length:Int):=by omega
 have J:(n:Int)<=65535:=by omega
 have aw:(k:Int)<=3:=by omega
 have E:∀W,Calls Tryz.prog 233 #[.string ⟨r.toArray⟩] W fun e w'=>e=.returned (.tuple #[.int .i64 (n:Int),.int .i64 (k:Int),.bool true])/\AW W w':=by
  intro W;have:=NM r W;rw[hx] at this;subst hk;exact this
 have N:=I E;clear E;have HX:=I hx;clear hx;have HK:=I hk;clear hk;clear D F;go_enter Tryz.func217,Tryz.ntmps217
 go_wp2_with (go_at_call 233;refine(N.o _).mono ?_;rintro e w' ⟨rfl,q,rfl⟩)
 go_quiet (fail)
 go_wp2
 go_ret3
 exact⟨by rw[<-Dd r k n,List.drop_drop];rfl,⟨_,World.drewN_drewN _ _ _⟩⟩
theorem Sq (t:UInt8) (r:L) (w:World) (hk:(lenR r).2.2=false):Calls Tryz.prog 217 #[.string ⟨(t :: r).toArray⟩,.int .u8 t.toNat] w fun e w'=>
  e=.returned (.tuple #[.string ⟨([]:List UInt8).toArray⟩,.string ⟨([]:List UInt8).toArray⟩,.bool false])/\AW w w':=by
 have D:∀W,Calls Tryz.prog 233 #[.string ⟨r.toArray⟩] W fun e w'=>e=.returned (.tuple #[.int .i64 ((lenR r).1:Int),.int .i64 ((lenR r).2.1:Int),.bool false])/\AW W w':=by
  intro W;have:=NM r W;rw[hk] at this;exact this
 have E:=I D;clear D;have F:=I hk;clear hk;go_enter Tryz.func217,Tryz.ntmps217
 go_wp2_with (go_at_call 233;refine(E.o _).mono ?_;rintro e w' ⟨rfl,q,rfl⟩)
 go_ret3
 exact⟨rfl,⟨_,rfl⟩⟩
theorem NP (t:UInt8) (r:L) (w:World) (hs:(r.length:Int)<=100000) (hk:(lenR r).2.2=true) (J:¬(lenR r).1+(lenR r).2.1<=r.length):Calls Tryz.prog 217 #[.string ⟨(t :: r).toArray⟩,.int .u8 t.toNat] w fun e w'=>
  e=.returned (.tuple #[.string ⟨([]:List UInt8).toArray⟩,.string ⟨([]:List UInt8).toArray⟩,.bool false])/\AW w w':=by
 have N:=Sl r;have D:∀W,Calls Tryz.prog 233 #[.string ⟨r.toArray⟩] W fun e w'=>e=.returned (.tuple #[.int .i64 ((lenR r).1:Int),.int .i64 ((lenR r).2.1:Int),.bool true])/\AW W w':=by
  intro W;have:=NM r W;rw[hk] at this;exact this
 have M:=I D;clear D;have Z:=I hk;clear hk;generalize (lenR r).1=n at *;generalize (lenR r).2.1=k at *;have F:decide ((r.length:Int) - (k:Int)<(n:Int))=true:=by simp;omega
 have E:(n:Int)<=65535:=by omega
 have O:(k:Int)<=3:=by omega
 clear J N;go_enter Tryz.func217,Tryz.ntmps217
 go_wp2_with (go_at_call 233;refine(M.o _).mono ?_;rintro e w' ⟨rfl,q,rfl⟩)
 go_ret3
 exact⟨rfl,⟨_,rfl⟩⟩
def Pq (o:Option (L×L)):Value:=.tuple #[.string ⟨((o.map (·.1)).getD []).toArray⟩,.string ⟨((o.map (·.2)).getD []).toArray⟩,.bool o.isSome]
theorem GK (t:UInt8) (s:L) (w:World) (hs:(s.length:Int)<=100000):Calls Tryz.prog 217 #[.string ⟨s.toArray⟩,.int .u8 t.toNat] w fun e w'=>
  e=.returned (Pq (BM t s))/\AW w w':=by
 cases s with
 |nil=>exact So t w
 |cons a r=>
  simp only[List.length_cons] at hs
  by_cases h1:a=t
  ·subst h1
   cases hk:(lenR r).2.2 with
   |false=>
    rw[show BM a (a :: r)=none by simp [BM,hk]];exact Sq a r w hk
   |true=>
    by_cases hf:(lenR r).1+(lenR r).2.1<=r.length
    ·rw[show BM a (a :: r)=some ((r.drop (lenR r).2.1).take (lenR r).1,(r.drop (lenR r).2.1).drop (lenR r).1) by rw[BM,if_pos ⟨rfl,hk,hf⟩]]
     exact Qy a r w (by omega) hk hf
    ·rw[show BM a (a :: r)=none by rw[BM,if_neg (fun h=>hf h.2.2)]]
     exact NP a r w (by omega) hk hf
  ·rw[show BM t (a :: r)=none by rw[BM,if_neg (fun h=>h1 h.1)]]
   exact NO a t r w h1
theorem IX (t:UInt8) (g:Nat) (c:Option L) (w:World) (h:Cur w g c) (hs:((c.getD []).length:Int)<=100000):Calls Tryz.prog 189 #[.pointer (some ⟨g,0,none⟩),.int .u8 t.toNat] w fun e w'=>
  e=.returned (.tuple #[.string ⟨((Bp t c).getD []).toArray⟩,.bool (Bp t c).isSome])/\Cur w' g (BN t c)/\w.grownBy w' (some g):=by
 obtain⟨Z,h1⟩:=Jx h;obtain⟨f0,f1⟩:=Kx h;cases c with
 |none=>
  go_enter Tryz.func189,Tryz.ntmps189
  go_wp2_with (go_at_call 216;refine(Lm _ _ _ h).mono ?_;rintro e w' ⟨rfl,rfl⟩)
  go_ret2
  exact⟨rfl,h,World.grownBy.refl _ _⟩
 |some s=>
  have D:∀W,Calls Tryz.prog 217 #[.string ⟨s.toArray⟩,.int .u8 t.toNat] W fun e w'=>e=.returned (Pq (BM t s))/\AW W w':=fun W=>GK t s W hs
  cases hx:BM t s with
  |none=>
   rw[hx] at D;simp only[Pq,Option.map_none,Option.getD_none,Option.isSome_none] at D;have E:=I D;clear D;have O:=I hx;clear hx;go_enter Tryz.func189,Tryz.ntmps189
   go_wp2_with (first
    |(go_at_call 216;refine(Lm _ _ _ h).mono ?_;rintro e w' ⟨rfl,rfl⟩)
    |(go_at_call 217;refine(E.o _).mono ?_;rintro e w' ⟨rfl,q,rfl⟩)
    |(go_at_call 192;refine(Pp _ _ _ (h.drewN q)).mono ?_;rintro e w' ⟨rfl,M,F⟩))
   go_ret2
   obtain⟨J,N⟩:=Mp O.o;rw[J,N];exact⟨rfl,M,(Jk (World.grownBy.refl w _) q).trans F⟩
  |some x=>
   obtain⟨b,r⟩:=x;rw[hx] at D;simp only[Pq,Option.map_some,Option.getD_some,Option.isSome_some] at D;have E:=I D;clear D;have O:=I hx;clear hx;go_enter Tryz.func189,Tryz.ntmps189
   go_wp2_with (first
    |(go_at_call 216;refine(Lm _ _ _ h).mono ?_;rintro e w' ⟨rfl,rfl⟩)
    |(go_at_call 217;refine(E.o _).mono ?_;rintro e w' ⟨rfl,q,rfl⟩))
   go_ret2
   obtain⟨J,N⟩:=GM O.o;rw[J,N];exact⟨rfl,(h.drewN q).set 0 (.string ⟨r.toArray⟩),AU (Jk (World.grownBy.refl w _) q) (.inl rfl) _⟩
end DerC
namespace DerC
open Go.RowKit Af DerP
attribute [local go_sem] Ea List.getElem_cons_zero List.getElem_cons_succ BZ Ca Dd
def numV (p:Nat×Bool):Value:=.tuple #[.int .i64 (p.1:Int),.bool p.2]
theorem Qz (w:World):Calls Tryz.prog 191 #[.string ⟨([]:List UInt8).toArray⟩] w fun e w'=>e=.returned (numV (numR []))/\AW w w':=by
 go_enter Tryz.func191,Tryz.ntmps191
 go_wp2
 go_ret2
 exact⟨rfl,AW.refl _⟩
theorem NQ (a:UInt8) (r:L) (h:7<r.length) (hs:(r.length:Int)<=100000) (w:World):Calls Tryz.prog 191 #[.string ⟨(a :: r).toArray⟩] w fun e w'=>e=.returned (numV (numR (a :: r)))/\AW w w':=by
 have D:decide ((8:Int)<(r.length:Int)+1)=true:=by simp;omega
 have E:=I (Sg (a:=a) h);clear h;go_enter Tryz.func191,Tryz.ntmps191
 go_wp2
 go_ret2
 exact⟨by rw[E.o];rfl,AW.refl _⟩
theorem NR (a:UInt8) (r:L) (h:¬7<r.length) (D:128<=a.toNat) (w:World):Calls Tryz.prog 191 #[.string ⟨(a :: r).toArray⟩] w fun e w'=>e=.returned (numV (numR (a :: r)))/\AW w w':=by
 have F:decide ((8:Int)<(r.length:Int)+1)=false:=by simp;omega
 have J:decide ((128:Int)<=(a.toNat:Int))=true:=by simp;omega
 have E:=I (Sh (r:=r) D);have M:(r.length:Int)<=7:=by omega
 clear h D;go_enter Tryz.func191,Tryz.ntmps191
 go_wp2
 go_ret2
 exact⟨by rw[E.o];rfl,AW.refl _⟩
theorem NS (a b:UInt8) (r:L) (h:¬7<(b :: r).length) (F:a.toNat=0) (D:b.toNat<128) (w:World):Calls Tryz.prog 191 #[.string ⟨(a :: b :: r).toArray⟩] w fun e w'=>e=.returned (numV (numR (a :: b :: r)))/\AW w w':=by
 simp only[List.length_cons] at h;have J:decide ((8:Int)<(r.length:Int)+1+1)=false:=by simp;omega
 have M:decide ((128:Int)<=(a.toNat:Int))=false:=by simp;omega
 have N:((a.toNat:Int)==0)=true:=by simp;omega
 have g4:decide ((b.toNat:Int)<128)=true:=by simp;omega
 have Z:decide ((1:Int)<(r.length:Int)+1+1)=true:=by simp;omega
 have E:=I (Sj (r:=r) F D);have O:(r.length:Int)<=6:=by omega
 clear h F D;go_enter Tryz.func191,Tryz.ntmps191
 go_wp2
 go_ret2
 exact⟨by rw[E.o];rfl,AW.refl _⟩
theorem NT (s : L) (ha : 0 < s.length) (M : s.length <= 8) (ge : s.isEmpty = false)
    (a:UInt8) (r:L) (hs:s=a :: r) (N:a.toNat<128) (O:¬(a.toNat=0/\BI r=true)) (w:World):Calls Tryz.prog 191 #[.string ⟨s.toArray⟩] w fun e w'=>e=.returned (numV (numR s))/\AW w w':=by
  subst hs;have hb:∀i,val ((a :: r).take i)<9223372036854775808:=NK N (by simpa using M);have g2:decide ((128:Int)<=(a.toNat:Int))=false:=by simp;omega
  have hr:(r.length:Int)<=7:=by simp at M;omega
  have H3:=I O;have H2:=I N;have J:=I hb;have g1:decide ((8:Int)<(r.length:Int)+1)=false:=by simp;omega
  clear ge ha M hb N;have key : decide ((1 : Int) < (r.length : Int) + 1) = false \/ (decide ((1 : Int) < (r.length : Int) + 1) = true /\ ((a.toNat : Int) == 0) = false) \/
      (∃h:0<r.length,decide ((1:Int)<(r.length:Int)+1)=true/\((a.toNat:Int)==0)=true/\decide (((r[0]'h).toNat:Int)<128)=false):=by
    cases r with
    |nil=>left;simp
    |cons b q=>
      right
      by_cases h0:a.toNat=0
      · right
        have:¬BI (b :: q)=true:=fun g=>O ⟨h0,g⟩
        simp only[BI,decide_eq_true_eq] at this;refine⟨by simp,by simp;omega,by simp;omega,?_⟩;simp;omega
      · left
        refine⟨by simp;omega,by simp;omega⟩
  clear O
  by_cases hbig:4611686018427387904<val (a :: r)
  · have B1 : decide ((4611686018427387904 : Int) < ((val (a :: r) : Nat) : Int)) = true := by simp; omega
    have E:=I (Qx hbig);clear hbig;rcases key with k1 | ⟨k1,k2⟩ | ⟨k0,k1,k2,k3⟩
    all_goals
      go_enter Tryz.func191,Tryz.ntmps191
      go_wp2
      go_loop [4,33] (fun n i=>∃k:Nat,k<=r.length+1/\i=.int .i64 (k:Int)/\n=.int .i64 ((val ((a :: r).take k):Nat):Int)) (fun _ i=>r.length+1 - (intOf i).toNat)
      case atStart=>exact⟨0,by omega,rfl,rfl⟩
      case round=>
        obtain⟨k,hk,rfl,rfl⟩:=hrel
        by_cases hlt:k<r.length+1
        · have D : k < (a :: r).length := by simpa using hlt
          have V:=I (GP (a :: r) k D);have Z:=J.o k;have F:=J.o (k+1);rw[V.o] at F;have hu:=Fg ((a :: r)[k])
          go_wp2
          refine⟨⟨k+1,by omega,by go_num,?_⟩,by simp [intOf];omega⟩;rw[RF _ _ (by omega) (by omega),V.o]
          go_num
        · obtain rfl : k = r.length + 1 := by omega
          have e:(a :: r).take (r.length+1)=a :: r:=List.take_of_length_le (by simp);rw[e];clear e hk hlt
          go_wp2
          go_ret2
          exact⟨by rw[E.o];rfl,AW.refl _⟩
  · have B1 : decide ((4611686018427387904 : Int) < ((val (a :: r) : Nat) : Int)) = false := by simp; omega
    have E:=I (Sk (by omega) H2.o H3.o (by omega));clear hbig;rcases key with k1 | ⟨k1,k2⟩ | ⟨k0,k1,k2,k3⟩
    all_goals
      go_enter Tryz.func191,Tryz.ntmps191
      go_wp2
      go_loop [4,33] (fun n i=>∃k:Nat,k<=r.length+1/\i=.int .i64 (k:Int)/\n=.int .i64 ((val ((a :: r).take k):Nat):Int)) (fun _ i=>r.length+1 - (intOf i).toNat)
      case atStart=>exact⟨0,by omega,rfl,rfl⟩
      case round=>
        obtain⟨k,hk,rfl,rfl⟩:=hrel
        by_cases hlt:k<r.length+1
        · have D : k < (a :: r).length := by simpa using hlt
          have V:=I (GP (a :: r) k D);have Z:=J.o k;have F:=J.o (k+1);rw[V.o] at F;have hu:=Fg ((a :: r)[k])
          go_wp2
          refine⟨⟨k+1,by omega,by go_num,?_⟩,by simp [intOf];omega⟩;rw[RF _ _ (by omega) (by omega),V.o]
          go_num
        · obtain rfl : k = r.length + 1 := by omega
          have e:(a :: r).take (r.length+1)=a :: r:=List.take_of_length_le (by simp);rw[e];clear e hk hlt
          go_wp2
          go_ret2
          exact⟨by rw[E.o];rfl,AW.refl _⟩
theorem QA (s:L) (hs:(s.length:Int)<=100000) (w:World):Calls Tryz.prog 191 #[.string ⟨s.toArray⟩] w fun e w'=>e=.returned (numV (numR s))/\AW w w':=by
 cases s with
 |nil=>exact Qz w
 |cons a r=>
  simp only[List.length_cons] at hs
  by_cases h1:7<r.length
  ·exact NQ a r h1 (by omega) w
  ·by_cases h2:128<=a.toNat
   ·exact NR a r h1 h2 w
   ·by_cases D:a.toNat=0/\BI r=true
    ·obtain⟨D,E⟩:=D
     cases r with
     |nil=>simp [BI] at E
     |cons b q=>exact NS a b q h1 D (by simpa [BI] using E) w
    ·exact NT (a :: r) (by simp) (by simp;omega) rfl a r rfl (by omega) D w
end DerC
namespace DerC
open Go.RowKit Af DerP
attribute [local go_sem] Ea List.getElem_cons_zero List.getElem_cons_succ BZ Ca Dd
theorem DF (g : Nat) (c : Option L) (w : World) (h : Cur w g c) (hs : ((c.getD []).length : Int) <= 100000) : Calls Tryz.prog 152 #[.pointer (some ⟨g, 0, none⟩)] w fun e w' =>
    e=.returned (.int .i64 ((intC c).1:Int))/\Cur w' g (intC c).2/\w.grownBy w' (some g):=by
  have ht : ∀ W, Cur W g c -> Calls Tryz.prog 189 #[.pointer (some ⟨g, 0, none⟩), .int .u8 2] W fun e w' =>
      e=.returned (.tuple #[.string ⟨((Bp 2 c).getD []).toArray⟩,.bool (Bp 2 c).isSome])/\Cur w' g (BN 2 c)/\W.grownBy w' (some g):=fun W hW=>IX 2 g c W hW hs
  have J:=I ht;clear ht;have D:=(Dj 2 c).1;cases hb:Bp 2 c with
  |none=>
    have E:=I (show intC c=(0,none) by simp only[intC,hb]);have F:=I (Sn 2 c hb);rw[hb] at J;have HB:=I hb;clear hb D;go_enter Tryz.func152,Tryz.ntmps152
    go_wp2_with (go_at_call 189;refine(J.o _ h).mono ?_;rintro e w' ⟨rfl,N,M⟩)
    go_ret;rw[E.o];exact⟨rfl,by rw[<-F.o];exact N,M⟩
  |some b=>
    rw[hb] at J;rw[hb] at D;simp only[Option.getD_some] at D;have F:∀W,Calls Tryz.prog 191 #[.string ⟨b.toArray⟩] W fun e w'=>e=.returned (numV (numR b))/\AW W w':=fun W=>QA b (by omega) W
    cases hx:numL b with
    |none=>
      have E:=I (show intC c=(0,none) by simp only[intC,hb,hx]);rw[Fl hx] at F;simp only[numV] at F;have O:=I F;clear F;have HB:=I hb;clear hb D hx;go_enter Tryz.func152,Tryz.ntmps152
      go_wp2_with (first
        |(go_at_call 189;refine(J.o _ h).mono ?_;rintro e w1 ⟨rfl,N,M⟩)
        |(go_at_call 191;refine(O.o _).mono ?_;rintro e w' ⟨rfl,q,rfl⟩)
        |(go_at_call 192;refine(Pp _ _ _ (N.drewN q)).mono ?_;rintro e w' ⟨rfl,aw,Z⟩))
      go_ret;rw[E.o];exact⟨rfl,aw,(Jk M q).trans Z⟩
    |some n=>
      have E:=I (show intC c=(n,BN 2 c) by simp only[intC,hb,hx]);rw[numR,hx] at F;simp only[numV,Option.getD_some,Option.isSome_some] at F;have O:=I F;clear F;have HB:=I hb;clear hb D hx;go_enter Tryz.func152,Tryz.ntmps152
      go_wp2_with (first
        |(go_at_call 189;refine(J.o _ h).mono ?_;rintro e w1 ⟨rfl,N,M⟩)
        |(go_at_call 191;refine(O.o _).mono ?_;rintro e w' ⟨rfl,q,rfl⟩))
      go_ret;rw[E.o];exact⟨rfl,N.drewN q,Jk M q⟩
theorem Ed (g:Nat) (c:Option L) (w:World) (h:Cur w g c) (hs:((c.getD []).length:Int)<=100000):Calls Tryz.prog 190 #[.pointer (some ⟨g,0,none⟩)] w fun e w'=>
  (∃b cap,e=.returned (.slice (some ⟨b,0,none⟩) ((Bp 4 c).getD []).length cap)/\((Bp 4 c).getD []).length<=cap/\RH w' w.heap.size b ((Bp 4 c).getD []))/\Cur w' g (BN 4 c)/\w.grownBy w' (some g):=by
 have F:=fun(W:World)=>Lib.run_convert_string_bytes (P:=Tryz.prog) W 9 27 5 ⟨((Bp 4 c).getD []).toArray⟩ Tryz.underlying9 Tryz.underlying27 Tryz.underlying5
 go_enter Tryz.func190,Tryz.ntmps190
 go_wp2_with (go_at_call 189;refine(IX 4 g c _ h hs).mono ?_;rintro e w1 ⟨rfl,E,D⟩)
 go_ret;exact⟨⟨_,_,rfl,grownCap_ge _ _ _ _,by have:=Gn w1 5 ((Bp 4 c).getD []);exact⟨Nat.le_trans D.size this.1,this.2⟩⟩,E.below (El _ _ _),RG D (El _ _ _)⟩
theorem Es (g:Nat) (c:Option L) (w:World) (h:Cur w g c) (hs:((c.getD []).length:Int)<=100000):Calls Tryz.prog 151 #[.pointer (some ⟨g,0,none⟩)] w fun e w'=>
  e=.returned (.string ⟨((Bp 27 c).getD []).toArray⟩)/\Cur w' g (BN 27 c)/\w.grownBy w' (some g):=by
 have D:((Bp 27 c).getD []).length<=1000000000:=by
  have:=(Dj 27 c).1;omega
 have F:=I D;clear D;go_enter Tryz.func151,Tryz.ntmps151
 go_wp2_with (first
  |(go_at_call 189;refine(IX 27 g c _ h hs).mono ?_;rintro e w1 ⟨rfl,M,J⟩)
  |(go_at_call 42;refine(Nm.Bm _ _ F.o).mono ?_;rintro e N ⟨rfl,E⟩))
 go_ret;exact⟨rfl,M.below E,RG J E⟩
theorem Ln (t:UInt8) (g:Nat) (c:Option L) (w:World) (h:Cur w g c) (hs:((c.getD []).length:Int)<=100000):Calls Tryz.prog 148 #[.pointer (some ⟨g,0,none⟩),.int .u8 t.toNat] w fun e w'=>
  (∃g',e=.returned (.pointer (some ⟨g',0,none⟩))/\w.heap.size<=g'/\Cur w' g' (Bp t c))/\Cur w' g (BN t c)/\w.grownBy w' (some g):=by
 go_enter Tryz.func148,Tryz.ntmps148
 go_wp2_with (go_at_call 189;refine(IX t g c _ h hs).mono ?_;rintro e w1 ⟨rfl,E,D⟩)
 go_ret;refine⟨⟨_,rfl,D.size,?_⟩,E.alloc _,Jl D _⟩;have:=Blk.new w1 282 (Ll (Bp t c));cases hb:Bp t c<;>(rw[hb] at this;exact this)
theorem Ps (B:Nat) (A:Option Addr) (l:L) (n cap:Nat) (w:World) (h:Rd w B A (bvs l)) (D:n=l.length):Calls Tryz.prog 147 #[.slice A n cap] w fun e w'=>
  ∃g',e=.returned (.pointer (some ⟨g',0,none⟩))/\w.heap.size<=g'/\Cur w' g' (some l)/\Below w.heap.size w w':=by
 have E:=Dt (P:=Tryz.prog) w 27 5 Tryz.underlying27 Tryz.underlying5 h n cap D 9 Tryz.underlying9;have F:=I D;clear D;go_enter Tryz.func147,Tryz.ntmps147
 go_wp2
 go_ret;exact⟨_,rfl,Nat.le_refl _,Blk.new w 282 (Ll (some l)),Ah.alloc Ag _⟩
end DerC
namespace DerLib
open Go.RowKit Af
theorem Iu:(⟨((([0,1,2,2,3,3,3,3,4,4,4,4,4,4,4,4,5,5,5,5,5,5,5,5,5,5,5,5,5,5,5,5,6,6,6,6,6,6,6,6,6,6,6,6,6,6,6,6,6,6,6,6,6,6,6,6,6,6,6,6,6,6,6,6]:List UInt8).append [7,7,7,7,7,7,7,7,7,7,7,7,7,7,7,7,7,7,7,7,7,7,7,7,7,7,7,7,7,7,7,7,7,7,7,7,7,7,7,7,7,7,7,7,7,7,7,7,7,7,7,7,7,7,7,7,7,7,7,7,7,7,7,7]).append (([8,8,8,8,8,8,8,8,8,8,8,8,8,8,8,8,8,8,8,8,8,8,8,8,8,8,8,8,8,8,8,8,8,8,8,8,8,8,8,8,8,8,8,8,8,8,8,8,8,8,8,8,8,8,8,8,8,8,8,8,8,8,8,8]:List UInt8).append [8,8,8,8,8,8,8,8,8,8,8,8,8,8,8,8,8,8,8,8,8,8,8,8,8,8,8,8,8,8,8,8,8,8,8,8,8,8,8,8,8,8,8,8,8,8,8,8,8,8,8,8,8,8,8,8,8,8,8,8,8,8,8,8])).toArray⟩:ByteArray)=Lib.len8tab:=by kernel_rfl
theorem Fm (m k p:Nat) (x:Int) (hp:p=2 ^ k) (E:x=((m / p:Nat):Int)) (hs:m / p<256) (D:p<=m\/k=0) (hm:m<18446744073709551616) :
  Lib.len8 x+(k:Int)=(Lib.bitLen m:Int)/\Lib.len8 x<=8/\0<=Lib.len8 x:=by
 have l:=Lib.bitLen_le8 ⟨m / p,hs⟩;have v:=Lib.len8_eq ⟨m / p,hs⟩;simp only at l v;rw[E,v];have F:Lib.bitLen m=k+Lib.bitLen (m / p):=by
  rcases D with h | h
  ·rw[hp] at h⊢;exact Lib.bitLen_shift k m h hm
  ·subst h;rw[hp];simp
 omega
theorem Sr (m:Nat) (w:World) (hm:m<9223372036854775808):Calls Tryz.prog 241 #[.int .u64 (m:Int)] w fun e w'=>e=.returned (.int .i64 (Lib.bitLen m:Int))/\w=w':=by
 by_cases h1:4294967296<=m
 ·by_cases h2:65536<=m / 4294967296
  ·by_cases h3:256<=m / 4294967296 / 65536
   ·have M:decide ((4294967296:Int)<=(m:Int))=true:=decide_eq_true (by omega)
    have F:decide ((65536:Int)<=(m:Int) / 4294967296)=true:=decide_eq_true (by omega);have J:decide ((256:Int)<=(m:Int) / 4294967296 / 65536)=true:=decide_eq_true (by omega);have D:=Fm m 56 72057594037927936 ((m:Int) / 4294967296 / 65536 / 256 % 256) rfl (by omega) (by omega) (by omega) (by omega);have E:=I D;clear D hm h1 h2 h3;go_enter Tryz.func241,Tryz.ntmps241;rw[Iu]
    go_wp2
    go_ret;have D:=E.o;refine⟨congrArg Ending.returned (congrArg (Value.int IntKind.i64) ?_),rfl⟩
    (first | (unfold wrap64;omega) | omega | skip)
   ·have M:decide ((4294967296:Int)<=(m:Int))=true:=decide_eq_true (by omega)
    have F:decide ((65536:Int)<=(m:Int) / 4294967296)=true:=decide_eq_true (by omega);have J:decide ((256:Int)<=(m:Int) / 4294967296 / 65536)=false:=decide_eq_false (by omega);have D:=Fm m 48 281474976710656 ((m:Int) / 4294967296 / 65536 % 256) rfl (by omega) (by omega) (by omega) (by omega);have E:=I D;clear D hm h1 h2 h3;go_enter Tryz.func241,Tryz.ntmps241;rw[Iu]
    go_wp2
    go_ret;have D:=E.o;refine⟨congrArg Ending.returned (congrArg (Value.int IntKind.i64) ?_),rfl⟩
    (first | (unfold wrap64;omega) | omega | skip)
  ·by_cases h3:256<=m / 4294967296
   ·have M:decide ((4294967296:Int)<=(m:Int))=true:=decide_eq_true (by omega)
    have F:decide ((65536:Int)<=(m:Int) / 4294967296)=false:=decide_eq_false (by omega);have J:decide ((256:Int)<=(m:Int) / 4294967296)=true:=decide_eq_true (by omega);have D:=Fm m 40 1099511627776 ((m:Int) / 4294967296 / 256 % 256) rfl (by omega) (by omega) (by omega) (by omega);have E:=I D;clear D hm h1 h2 h3;go_enter Tryz.func241,Tryz.ntmps241;rw[Iu]
    go_wp2
    go_ret;have D:=E.o;refine⟨congrArg Ending.returned (congrArg (Value.int IntKind.i64) ?_),rfl⟩
    (first | (unfold wrap64;omega) | omega | skip)
   ·have M:decide ((4294967296:Int)<=(m:Int))=true:=decide_eq_true (by omega)
    have F:decide ((65536:Int)<=(m:Int) / 4294967296)=false:=decide_eq_false (by omega);have J:decide ((256:Int)<=(m:Int) / 4294967296)=false:=decide_eq_false (by omega);have D:=Fm m 32 4294967296 ((m:Int) / 4294967296 % 256) rfl (by omega) (by omega) (by omega) (by omega);have E:=I D;clear D hm h1 h2 h3;go_enter Tryz.func241,Tryz.ntmps241;rw[Iu]
    go_wp2
    go_ret;have D:=E.o;refine⟨congrArg Ending.returned (congrArg (Value.int IntKind.i64) ?_),rfl⟩
    (first | (unfold wrap64;omega) | omega | skip)
 ·by_cases h2:65536<=m
  ·by_cases h3:256<=m / 65536
   ·have M:decide ((4294967296:Int)<=(m:Int))=false:=decide_eq_false (by omega)
    have F:decide ((65536:Int)<=(m:Int))=true:=decide_eq_true (by omega);have J:decide ((256:Int)<=(m:Int) / 65536)=true:=decide_eq_true (by omega);have D:=Fm m 24 16777216 ((m:Int) / 65536 / 256 % 256) rfl (by omega) (by omega) (by omega) (by omega);have E:=I D;clear D hm h1 h2 h3;go_enter Tryz.func241,Tryz.ntmps241;rw[Iu]
    go_wp2
    go_ret;have D:=E.o;refine⟨congrArg Ending.returned (congrArg (Value.int IntKind.i64) ?_),rfl⟩
    (first | (unfold wrap64;omega) | omega | skip)
   ·have M:decide ((4294967296:Int)<=(m:Int))=false:=decide_eq_false (by omega)
    have F:decide ((65536:Int)<=(m:Int))=true:=decide_eq_true (by omega);have J:decide ((256:Int)<=(m:Int) / 65536)=false:=decide_eq_false (by omega);have D:=Fm m 16 65536 ((m:Int) / 65536 % 256) rfl (by omega) (by omega) (by omega) (by omega);have E:=I D;clear D hm h1 h2 h3;go_enter Tryz.func241,Tryz.ntmps241;rw[Iu]
    go_wp2
    go_ret;have D:=E.o;refine⟨congrArg Ending.returned (congrArg (Value.int IntKind.i64) ?_),rfl⟩
    (first | (unfold wrap64;omega) | omega | skip)
  ·by_cases h3:256<=m
   ·have M:decide ((4294967296:Int)<=(m:Int))=false:=decide_eq_false (by omega)
    have F:decide ((65536:Int)<=(m:Int))=false:=decide_eq_false (by omega);have J:decide ((256:Int)<=(m:Int))=true:=decide_eq_true (by omega);have D:=Fm m 8 256 ((m:Int) / 256 % 256) rfl (by omega) (by omega) (by omega) (by omega);have E:=I D;clear D hm h1 h2 h3;go_enter Tryz.func241,Tryz.ntmps241;rw[Iu]
    go_wp2
    go_ret;have D:=E.o;refine⟨congrArg Ending.returned (congrArg (Value.int IntKind.i64) ?_),rfl⟩
    (first | (unfold wrap64;omega) | omega | skip)
   ·have M:decide ((4294967296:Int)<=(m:Int))=false:=decide_eq_false (by omega)
    have F:decide ((65536:Int)<=(m:Int))=false:=decide_eq_false (by omega);have J:decide ((256:Int)<=(m:Int))=false:=decide_eq_false (by omega);have D:=Fm m 0 1 ((m:Int) % 256) rfl (by omega) (by omega) (by omega) (by omega);have E:=I D;clear D hm h1 h2 h3;go_enter Tryz.func241,Tryz.ntmps241;rw[Iu]
    go_wp2
    go_ret;have D:=E.o;refine⟨congrArg Ending.returned (congrArg (Value.int IntKind.i64) ?_),rfl⟩
    (first | (unfold wrap64;omega) | omega | skip)
theorem VM (m:Nat) (w:World) (hm:m<9223372036854775808):Calls Tryz.prog 223 #[.int .u64 (m:Int)] w fun e w'=>e=.returned (.int .i64 (Lib.bitLen m:Int))/\w=w':=by
 have c1:=Sr m w hm;clear hm;go_enter Tryz.func223,Tryz.ntmps223
 go_wp2_with (go_at_call 241;refine Aj c1 ?_;rintro w' rfl)
 go_ret;exact⟨rfl,rfl⟩
end DerLib
namespace DerW
open Go.RowKit Af DerP
theorem BY:(Tryz.prog.info? 5).map (fun i=>(i.zero,i.size,i.bytes))=some (some (.int .u8 0),1,1):=by kernel_rfl
def filled (K m j:Nat):Array Value:=(List.replicate j (bv 0)++bvs ((digK K m).drop j)).toArray
theorem Mt (K m:Nat):filled K m K=De K:=by
 rw[filled,List.drop_of_length_le (by rw[Bk];exact Nat.le_refl _)];simp [De,bvs]
theorem QB (K m:Nat):filled K m 0=(bvs (digK K m)).toArray:=by simp [filled]
theorem QC (K m j:Nat) (D:j<K):(filled K m (j+1)).setIfInBounds j (bv (UInt8.ofNat (m / 256 ^ (K - 1 - j))))=filled K m j:=by
 have h:=Sd (digK K m) j _ (Sb K m j D);apply Array.toList_inj.1;simp only[filled,Array.toList_setIfInBounds];rw[h];rw[List.set_append_left _ _ (by simp)];rw[List.replicate_succ',List.set_append_right _ _ (by simp)];simp [bvs]
theorem QD (m:Nat) (hm:m<=4611686018427387904) (w:World):Calls Tryz.prog 203 #[.int .i64 (m:Int)] w fun e w'=>
  ∃g,e=.returned (.slice (some ⟨g,0,none⟩) (dig m).length (dig m).length)/\w.heap.size<=g/\Blk w' g 5 (bvs (dig m)).toArray/\Below w.heap.size w w':=by
 obtain⟨i0,O,J,M,N⟩:=info_parts BY;have Z:=GO m hm;have hL:(dig m).length=Lib.bitLen m / 8+1:=Hv m;have hD:dig m=digK (Lib.bitLen m / 8+1) m:=rfl;rw[hL,hD];have hc:∀W,Calls Tryz.prog 223 #[.int .u64 (m:Int)] W fun e w'=>e=.returned (.int .i64 (Lib.bitLen m:Int))/\W=w':=by
  intro W;exact DerLib.VM m W (by omega)
 clear hL hD;generalize hq:Lib.bitLen m=q at *;have cc:=Gh (P:=Tryz.prog) Tryz.underlying27 O J M N ((q:Int) / 8+1) (q / 8+1) (by omega) (by omega);have HC:=I hc;clear hc;have HQ:=I hq;clear hq;have bB:(m:Int)<=4611686018427387904:=by omega
 have cb:(q:Int)<=63:=by omega
 clear hm Z O J M N;go_enter Tryz.func203,Tryz.ntmps203
 go_wp2_with (go_at_call 223;refine(HC.o _).mono ?_;rintro e w' ⟨rfl,rfl⟩)
 go_loopw [0,4] (fun n i wr=>∃j:Nat,j<=q / 8+1/\i=.int .i64 ((j:Int) - 1)/\n=.int .i64 ((m / 256 ^ (q / 8+1 - j):Nat):Int)/\Blk wr w.heap.size 5 (filled (q / 8+1) m j)/\Below w.heap.size w wr) (fun _ i _=>(intOf i+1).toNat)
 case atStart=>
  refine⟨q / 8+1,Nat.le_refl _,by congr 1;omega,by simp,?_,Ah.alloc Ag _⟩;rw[Mt];exact Blk.new _ _ _
 case round=>
  obtain⟨j,hj,rfl,rfl,hB,E⟩:=hrel;cases j with
  |zero=>
   have e:((0:Nat):Int) - 1 = -1:=rfl;rw[e]
   go_wp2
   go_ret;rw[QB] at hB;exact⟨_,rfl,Nat.le_refl _,hB,E⟩
  |succ j=>
   have e:((j+1:Nat):Int) - 1=(j:Int):=by omega
   rw[e];clear e;have hf:=hB.frozen j;have D:=hB.set j (bv (UInt8.ofNat (m / 256 ^ (q / 8+1 - 1 - j))));rw[QC _ _ _ (by omega)] at D;have F:∃u,(filled (q / 8+1) m (j+1))[j]? = some u:=by
    have:j<(filled (q / 8+1) m (j+1)).size:=by simp [filled,bvs,Bk];omega
    exact⟨_,Array.getElem?_eq_getElem this⟩
   obtain⟨u,hu⟩:=F;have ca:=(hB.cell j).trans hu;have hdiv:m / 256 ^ (q / 8+1 - (j+1))<=m:=Nat.div_le_self _ _;have bx:((m / 256 ^ (q / 8+1 - (j+1)):Nat):Int)<=4611686018427387904:=by omega
   have bz:=I (show m / 256 ^ (q / 8+1 - (j+1)) / 256=m / 256 ^ (q / 8+1 - j) by
    rw[Nat.div_div_eq_div_mul,<-Nat.pow_succ];congr 2;omega)
   have aw:=I (show q / 8+1 - 1 - j=q / 8+1 - (j+1) by omega);rw[aw.o] at D;generalize m / 256 ^ (q / 8+1 - (j+1))=y at *;have HS:=I D;clear D hu
   go_wp2
   refine⟨⟨j,by omega,rfl,?_,?_,E.setCell Ag _⟩,by simp [intOf]⟩
   ·rw[<-bz.o];rfl
   ·have e:bv (UInt8.ofNat y)=.int .u8 ((y:Int) % 256):=by simp [bv]
    rw[<-e];exact HS.o
theorem ml (n:Nat) (h:n<=1000000):n<=maxLen:=by unfold maxLen;omega
theorem Iv (w:World) (t:TypeId) (cs:Array Value) (l:L) (h:cs.toList=bvs l) (N:Nat) (D:w.heap.size=N):Rd (w.alloc (.cells cs t)) (N+1) (some ⟨N,0,none⟩) (bvs l):=by
 subst D;refine .inr ⟨w.heap.size,0,rfl,by omega,fun i u hu=>?_⟩;rw[Nat.zero_add,(Blk.new w t cs).cell i];rw[<-h] at hu
 simpa using hu
theorem GR (n:Nat) (h:n<256):bv (UInt8.ofNat n)=.int .u8 (n:Int):=by simp [bv];omega
theorem QF (t : UInt8) (n : Nat) (h1 : n < 128) (w : World) : Calls Tryz.prog 202 #[.int .u8 t.toNat, .int .i64 (n : Int)] w fun e w' =>
    ∃v,e=.returned v/\w'.ownsRow w.heap.size 5 1 v (1+(szL n).length) (bvs (t :: szL n))/\Below w.heap.size w w':=by
  obtain⟨i0,Z,J,F,N⟩:=info_parts BY;have cd:=Du (P:=Tryz.prog) Tryz.underlying27 Z J F N ((n:Int)+4) (n+4) (by omega) (by omega);have E:=I (show szL n = [UInt8.ofNat n] by simp [szL,h1]);have g1:decide ((n:Int)<128)=true:=by simp;omega
  have hn:(n:Int)<=127:=by omega
  have M:Hid (∀o,(World.alloc (World.alloc w (.cells (De (n+4)) 5)) o).ownsRow w.heap.size 5 1 (.slice (some ⟨w.heap.size,0,none⟩) 0 (n+4)) 0 []):=fun o=>(World.ownsRow_made w (De (n+4)) (n+4) Ag (ml _ (by omega)) (by rw[Dx];omega)).alloc o
  have bB:=I (ml 1 (by omega));have bz:=I (ml 2 (by omega));have ca:=I (GR n (by omega));clear h1;go_enter Tryz.func202,Tryz.ntmps202
  go_wp2_with (first
    | (at_builtin
       refine AA _ rfl (.tmp 8) (.tmp 10) 27 rfl w.heap.size 5 i0 _ 1 Tryz.underlying27 Z J F N rfl (.slice (some ⟨w.heap.size,0,none⟩) 0 (n+4)) 0 [] rfl (M.o _) _ _ 1 1 (bvs [t]) rfl rfl (Iv _ 5 _ [t] rfl _ (by simp)) (Br _) bB.o (by omega) (by simp;omega) ?_;intro v1 w1 D aw cb)
    | (at_builtin
       refine AA _ rfl (.tmp 15) (.tmp 18) 27 rfl w.heap.size 5 i0 _ 1 Tryz.underlying27 Z J F N rfl v1 (0+1) ([]++bvs [t]) rfl (D.alloc _) _ _ 1 1 (bvs [UInt8.ofNat n]) rfl rfl (Iv w1 5 _ [UInt8.ofNat n] (by simp [bvs,ca.o]) _ rfl) (Br _) bz.o (by omega) (by simp;have:=aw.size;simp at this;omega) ?_;intro v2 w2 O bx cc))
  go_ret;have b1:Below w.heap.size w w1:=(((Below.refl w.heap.size w).alloc Ag _).alloc (by simp) _).grown aw (by simp;omega) (by intro k hk;simp [Value.ownBlock] at hk;omega);have b2:=(b1.alloc b1.size _).grown bx (by have:=b1.size;simp;omega) (fun k hk=>(D.lt k hk).1);exact⟨v2,rfl,by rw[E.o];simpa [bvs] using O,b2⟩
theorem VN (t : UInt8) (n : Nat) (h1 : ¬ n < 128) (h2 : n <= 255) (w : World) : Calls Tryz.prog 202 #[.int .u8 t.toNat, .int .i64 (n : Int)] w fun e w' =>
    ∃v,e=.returned v/\w'.ownsRow w.heap.size 5 1 v (1+(szL n).length) (bvs (t :: szL n))/\Below w.heap.size w w':=by
  obtain⟨i0,Z,J,F,N⟩:=info_parts BY;have cd:=Du (P:=Tryz.prog) Tryz.underlying27 Z J F N ((n:Int)+4) (n+4) (by omega) (by omega);have E:=I (show szL n = [129,UInt8.ofNat n] by simp [szL,h1,h2]);have g1:decide ((n:Int)<128)=false:=by simp;omega
  have g2:decide ((n:Int)<=255)=true:=by simp;omega
  have hn:(n:Int)<=255:=by omega
  have M:Hid (∀o,(World.alloc (World.alloc w (.cells (De (n+4)) 5)) o).ownsRow w.heap.size 5 1 (.slice (some ⟨w.heap.size,0,none⟩) 0 (n+4)) 0 []):=fun o=>(World.ownsRow_made w (De (n+4)) (n+4) Ag (ml _ (by omega)) (by rw[Dx];omega)).alloc o
  have bB:=I (ml 1 (by omega));have bz:=I (ml 3 (by omega));have ca:=I (GR n (by omega));clear h1 h2;go_enter Tryz.func202,Tryz.ntmps202
  go_wp2_with (first
    | (at_builtin
       refine AA _ rfl (.tmp 8) (.tmp 10) 27 rfl w.heap.size 5 i0 _ 1 Tryz.underlying27 Z J F N rfl (.slice (some ⟨w.heap.size,0,none⟩) 0 (n+4)) 0 [] rfl (M.o _) _ _ 1 1 (bvs [t]) rfl rfl (Iv _ 5 _ [t] rfl _ (by simp)) (Br _) bB.o (by omega) (by simp;omega) ?_;intro v1 w1 D aw cb)
    | (at_builtin
       refine AA _ rfl (.tmp 23) (.tmp 26) 27 rfl w.heap.size 5 i0 _ 1 Tryz.underlying27 Z J F N rfl v1 (0+1) ([]++bvs [t]) rfl (D.alloc _) _ _ 2 2 (bvs [129,UInt8.ofNat n]) rfl rfl (Iv w1 5 _ [129,UInt8.ofNat n] (by simp [bvs,ca.o];rfl) _ rfl) (Br _) bz.o (by omega) (by simp;have:=aw.size;simp at this;omega) ?_;intro v2 w2 O bx cc))
  go_ret;have b1:Below w.heap.size w w1:=(((Below.refl w.heap.size w).alloc Ag _).alloc (by simp) _).grown aw (by simp;omega) (by intro k hk;simp [Value.ownBlock] at hk;omega);have b2:=(b1.alloc b1.size _).grown bx (by have:=b1.size;simp;omega) (fun k hk=>(D.lt k hk).1);exact⟨v2,rfl,by rw[E.o];simpa [bvs] using O,b2⟩
theorem VO (t : UInt8) (n : Nat) (h1 : ¬ n < 128) (h2 : ¬ n <= 255) (h3 : n <= 65535) (w : World) : Calls Tryz.prog 202 #[.int .u8 t.toNat, .int .i64 (n : Int)] w fun e w' =>
    ∃v,e=.returned v/\w'.ownsRow w.heap.size 5 1 v (1+(szL n).length) (bvs (t :: szL n))/\Below w.heap.size w w':=by
  obtain⟨i0,Z,J,F,N⟩:=info_parts BY;have cd:=Du (P:=Tryz.prog) Tryz.underlying27 Z J F N ((n:Int)+4) (n+4) (by omega) (by omega);have E:=I (show szL n = [130,UInt8.ofNat (n / 256),UInt8.ofNat n] by simp [szL,h1,h2]);have g1:decide ((n:Int)<128)=false:=by simp;omega
  have g2:decide ((n:Int)<=255)=false:=by simp;omega
  have hn:(n:Int)<=65535:=by omega
  have M:Hid (∀o,(World.alloc (World.alloc w (.cells (De (n+4)) 5)) o).ownsRow w.heap.size 5 1 (.slice (some ⟨w.heap.size,0,none⟩) 0 (n+4)) 0 []):=fun o=>(World.ownsRow_made w (De (n+4)) (n+4) Ag (ml _ (by omega)) (by rw[Dx];omega)).alloc o
  have bB:=I (ml 1 (by omega));have bz:=I (ml 4 (by omega));have ca:=I (show bvs [130,UInt8.ofNat (n / 256),UInt8.ofNat n] = [.int .u8 130,.int .u8 ((n:Int) / 256),.int .u8 ((n:Int) % 256)] by simp [bvs,bv];omega);clear h1 h2 h3;go_enter Tryz.func202,Tryz.ntmps202
  go_wp2_with (first
    | (at_builtin
       refine AA _ rfl (.tmp 8) (.tmp 10) 27 rfl w.heap.size 5 i0 _ 1 Tryz.underlying27 Z J F N rfl (.slice (some ⟨w.heap.size,0,none⟩) 0 (n+4)) 0 [] rfl (M.o _) _ _ 1 1 (bvs [t]) rfl rfl (Iv _ 5 _ [t] rfl _ (by simp)) (Br _) bB.o (by omega) (by simp;omega) ?_;intro v1 w1 D aw cb)
    | (at_builtin
       refine AA _ rfl (.tmp 28) (.tmp 34) 27 rfl w.heap.size 5 i0 _ 1 Tryz.underlying27 Z J F N rfl v1 (0+1) ([]++bvs [t]) rfl (D.alloc _) _ _ 3 3 (bvs [130,UInt8.ofNat (n / 256),UInt8.ofNat n]) rfl rfl (Iv w1 5 _ [130,UInt8.ofNat (n / 256),UInt8.ofNat n] (by rw[ca.o]) _ rfl) (Br _) bz.o (by omega) (by simp;have:=aw.size;simp at this;omega) ?_;intro v2 w2 O bx cc))
  go_ret;have b1:Below w.heap.size w w1:=(((Below.refl w.heap.size w).alloc Ag _).alloc (by simp) _).grown aw (by simp;omega) (by intro k hk;simp [Value.ownBlock] at hk;omega);have b2:=(b1.alloc b1.size _).grown bx (by have:=b1.size;simp;omega) (fun k hk=>(D.lt k hk).1);exact⟨v2,rfl,by rw[E.o];simpa [bvs] using O,b2⟩
theorem VP (t:UInt8) (n:Nat) (h:n<=65535) (w:World):Calls Tryz.prog 202 #[.int .u8 t.toNat,.int .i64 (n:Int)] w fun e w'=>
  ∃v,e=.returned v/\w'.ownsRow w.heap.size 5 1 v (1+(szL n).length) (bvs (t :: szL n))/\Below w.heap.size w w':=by
 by_cases h1:n<128
 ·exact QF t n h1 w
 ·by_cases h2:n<=255
  ·exact VN t n h1 h2 w
  ·exact VO t n h1 h2 h w
def Rds (w:World) (B:Nat) (A:Option Addr) (ls:List L):Prop:=
 ls = []\/∃b o,A=some ⟨b,o,none⟩/\b<B/\∀i l,ls[i]? = some l->∃A' c',w.cell? ⟨b,o+i,none⟩=some (.slice A' l.length c')/\Rd w B A' (bvs l)
theorem Rds.at_ {w:World} {B:Nat} {A:Option Addr} {ls:List L} (h:Rds w B A ls) {i:Nat} {l:L} (hi:ls[i]? = some l) :
  ∃b o,A=some ⟨b,o,none⟩/\b<B/\∃A' c',w.cell? ⟨b,o+i,none⟩=some (.slice A' l.length c')/\Rd w B A' (bvs l):=by
 rcases h with h | ⟨b,o,D,E,F⟩
 ·subst h;simp at hi
 ·exact⟨b,o,D,E,F i l hi⟩
theorem Rds.below {w w':World} {B:Nat} {A:Option Addr} {ls:List L} (h:Rds w B A ls) (D:Below B w w'):Rds w' B A ls:=by
 rcases h with h | ⟨b,o,J,E,M⟩
 ·exact .inl h
 ·refine .inr ⟨b,o,J,E,fun i l Z=>?_⟩
  obtain⟨O,c',F,N⟩:=M i l Z;exact⟨O,c',(D.cell (p:=⟨b,o+i,none⟩) E).trans F,N.below D⟩
theorem Jy (ls:List L) (k:Nat) (l:L) (h:ls[k]? = some l):(ls.take (k+1)).flatten=(ls.take k).flatten++l:=by
 obtain⟨hk,e⟩:=List.getElem?_eq_some_iff.1 h;rw[List.take_succ_eq_append_getElem hk,e];simp
theorem Jz (ls:List L) (k:Nat):(ls.take k).flatten.length<=ls.flatten.length:=by
 conv=>rhs;rw[<-List.take_append_drop k ls,List.flatten_append,List.length_append]
 omega
def pre (ls:List L) (k:Nat):Nat:=(ls.take k).flatten.length
def built (t:UInt8) (ls:List L) (k:Nat):L:=t :: szL ls.flatten.length++(ls.take k).flatten
theorem VQ (ls:List L) (k:Nat) (l:L) (h:ls[k]? = some l):pre ls (k+1)=pre ls k+l.length:=by
 rw[pre,Jy ls k l h,List.length_append];rfl
theorem bE (ls:List L) (k:Nat):pre ls k<=ls.flatten.length:=Jz ls k
theorem Zc (ls:List L):pre ls ls.length=ls.flatten.length:=by rw[pre,List.take_of_length_le Ag]
theorem QG (t:UInt8) (ls:List L) (k:Nat) (l:L) (h:ls[k]? = some l):built t ls (k+1)=built t ls k++l:=by
 rw[built,Jy ls k l h,built,List.append_assoc]
theorem Su (t:UInt8) (ls:List L):built t ls ls.length=elem t ls.flatten:=by
 rw[built,List.take_of_length_le Ag];rfl
theorem VR (t:UInt8) (ls:List L) (k:Nat) (h:ls.flatten.length<=65535):(built t ls k).length<=65539:=by
 have E:=Jz ls k;have D:=Hw ls.flatten.length;have F:(szL ls.flatten.length).length<=3:=by rw[D];split<;>(try split)<;>omega
 rw[built,List.length_append,List.length_cons];omega
theorem DQ (t : UInt8) (ls : List L) (A : Option Addr) (m c B : Nat) (w : World) (hr : Rds w B A ls) (hm : m = ls.length) (hB : B <= w.heap.size) (hl : ls.flatten.length <= 65535) (hc : ls.length <= 1000000) :
    Calls Tryz.prog 166 #[.int .u8 t.toNat,.slice A m c] w fun e w'=>
      ∃v,e=.returned v/\w'.ownsRow w.heap.size 5 1 v (elem t ls.flatten).length (bvs (elem t ls.flatten))/\Below w.heap.size w w':=by
  obtain⟨i0,cj,cm,cc,cf⟩:=info_parts BY;have cb:=Zc ls;have hh:∀W,Calls Tryz.prog 202 #[.int .u8 t.toNat,.int .i64 ((pre ls m:Nat):Int)] W fun e w'=>
    ∃v,e=.returned v/\w'.ownsRow W.heap.size 5 1 v (built t ls 0).length (bvs (built t ls 0))/\Below W.heap.size W w':=by
    intro W;have:=VP t _ hl W;have e1:built t ls 0=t :: szL ls.flatten.length:=by simp [built]
    rw[e1,hm,cb,List.length_cons,Nat.add_comm];exact this
  have HH:=I hh;clear hh;have bx:=I (fun k=>Nat.le_trans (bE ls k) hl);have bB:=I (fun k=>VR t ls k hl);have ck:=I (Su t ls);have cg:=I ml;have HR:=I hr;clear hr;have cr:(m:Int)<=1000000:=by omega
  have HM:=I hm;clear hm hc hl cb;go_enter Tryz.func166,Tryz.ntmps166
  go_wp2
  go_loop [5,13] (fun n i=>∃k:Nat,k<=m/\i=.int .i64 (k:Int)/\n=.int .i64 ((pre ls k:Nat):Int)) (fun _ i=>m - (intOf i).toNat)
  case atStart=>exact⟨0,by omega,rfl,rfl⟩
  case round=>
    obtain⟨k,hk,rfl,rfl⟩:=hrel
    by_cases hlt:k<m
    · obtain ⟨l, Z⟩ : ∃ l, ls[k]? = some l := ⟨_, List.getElem?_eq_getElem (by have := HM.o; omega)⟩
      obtain⟨b,o,rfl,hb,A',c',N,F⟩:=HR.o.at_ Z;have M:=bx.o k;have O:=bx.o (k+1);have hs:=VQ ls k l Z;have HS:=I hs;have g1:decide ((65535:Int)<((pre ls k:Nat):Int)+(l.length:Int))=false:=by simp only[decide_eq_false_iff_not];omega
      have ct:(l.length:Int)<=65535:=by omega
      have cn:((pre ls k:Nat):Int)<=65535:=by omega
      clear hs M O Z F
      go_wp2
      exact⟨⟨k+1,by omega,by go_num,by rw[HS.o];go_num⟩,by simp [intOf];omega⟩
    · obtain rfl : k = m := by omega
      clear hk hlt
      go_wp2_with (go_at_call 202;refine(HH.o _).mono ?_;rintro e w1 ⟨v,rfl,J,ca⟩)
      go_loopw [8,29] (fun v i wr=>∃j:Nat,j<=k/\i=.int .i64 (j:Int)/\wr.ownsRow w.heap.size 5 1 v (built t ls j).length (bvs (built t ls j))/\Below w.heap.size w wr) (fun _ i _=>k - (intOf i).toNat)
      case atStart=>exact⟨0,by omega,rfl,J,ca⟩
      case round=>
        obtain⟨j,hj,rfl,E,D⟩:=hrel
        by_cases hlt:j<k
        · obtain ⟨l, Z⟩ : ∃ l, ls[j]? = some l := ⟨_, List.getElem?_eq_getElem (by have := HM.o; omega)⟩
          obtain⟨b,o,rfl,hb,A',c',N,F⟩:=(HR.o.below (D.mono hB)).at_ Z;have hs:=QG t ls j l Z;have M:=bB.o j;have O:=bB.o (j+1);have bz:=congrArg List.length hs;rw[List.length_append] at bz;have HS:=I hs;have cp:(built t ls j).length+l.length<=65539:=by omega
          have HO:=I E;have HQ:=I F;clear hs bz Z M O E F J
          go_wp2_with (at_builtin
                       refine AA _ rfl (.tmp 33) (.tmp 34) 27 rfl w.heap.size 5 i0 _ 1 Tryz.underlying27 cj cm cc cf rfl _ (built t ls j).length (bvs (built t ls j)) rfl HO.o B A' l.length c' (bvs l) rfl (Ay l).symm HQ.o (Br _) (cg.o _ (by omega)) (by omega) D.size ?_;intro v2 w2 aw cd cq)
          refine⟨⟨j+1,by omega,by go_num,?_,D.grown cd D.size (fun i hi=>(HO.o.lt i hi).1)⟩,by simp [intOf];omega⟩;rw[HS.o,Bu,List.length_append];exact aw
        · obtain rfl : j = k := by omega
          clear hj hlt
          go_wp2
          go_ret;have e:built t ls j=elem t ls.flatten:=by rw[HM.o];exact ck.o
          rw[e] at E;exact⟨_,rfl,E,D⟩
theorem NU (w:World) (t:TypeId) (B:Nat) (A:Option Addr) (l:L) (n c:Nat) (E:n=l.length) (h:Rd w B A (bvs l)) (hB:B<=w.heap.size) :
  Rds (w.alloc (.cells #[.slice A n c] t)) (w.heap.size+1) (some ⟨w.heap.size,0,none⟩) [l]:=by
 subst E;refine .inr ⟨w.heap.size,0,rfl,by omega,fun i l' hi=>?_⟩;have D:i=0:=by
  rcases Nat.eq_zero_or_pos i with g | g
  ·exact g
  ·rw[List.getElem?_eq_none (by simp;omega)] at hi;cases hi
 subst D;injection hi with hi;subst hi;exact⟨A,c,(Blk.new w t _).cell 0,(h.alloc hB _).more (by omega)⟩
theorem Ed (l:L) (A:Option Addr) (n c B:Nat) (w:World) (J:Rd w B A (bvs l)) (N:n=l.length) (hB:B<=w.heap.size) (M:l.length<=65535) :
  Calls Tryz.prog 168 #[.slice A n c] w fun e w'=>
   ∃v,e=.returned v/\w'.ownsRow w.heap.size 5 1 v (elem 4 l).length (bvs (elem 4 l))/\Below w.heap.size w w':=by
 have F:=NU w 27 B A l n c N J hB;have hw:=DQ 4 [l] (some ⟨w.heap.size,0,none⟩) 1 1 (w.heap.size+1) (w.alloc (.cells #[.slice A n c] 27)) F rfl (by simp) (by simpa using M) (by simp);have e:[l].flatten=l:=by simp
 rw[e] at hw;have O:=I hw;clear hw F J N M e;go_enter Tryz.func168,Tryz.ntmps168
 go_wp2_with (go_at_call 166;refine O.o.mono ?_;rintro e w1 ⟨v,rfl,E,D⟩)
 go_ret;refine⟨_,rfl,?_,(Below.refl w.heap.size w).alloc Ag _ |>.trans (D.mono (by simp))⟩;exact E.mono (by simp)
theorem DF (n : Int) (w : World) :
    Calls Tryz.prog 170 #[.int .i64 n] w fun e w'=>
      ∃v,e=.returned v/\w'.ownsRow w.heap.size 5 1 v (encI n).length (bvs (encI n))/\Below w.heap.size w w':=by
  have M:=QD (Ci n) (GN n);rw[Kv] at M;have hw : ∀ (W : World) (g : Nat), Blk W g 5 (bvs (dig (Ci n))).toArray -> Calls Tryz.prog 166 #[.int .u8 2, .slice (some ⟨W.heap.size, 0, none⟩) 1 1] (W.alloc (.cells #[.slice (some ⟨g, 0, none⟩) (dig (Ci n)).length (dig (Ci n)).length] 27)) fun e w' =>
      ∃v,e=.returned v/\w'.ownsRow W.heap.size 5 1 v (encI n).length (bvs (encI n))/\Below W.heap.size W w':=by
    intro W g hB;have O:Rd W W.heap.size (some ⟨g,0,none⟩) (bvs (dig (Ci n))):=.inr ⟨g,0,rfl,hB.lt,fun i u hu=>by
      rw[Nat.zero_add,hB.cell i];simpa using hu⟩
    have J:=NU W 27 W.heap.size _ _ _ (dig (Ci n)).length rfl O Ag;have N:=Lk n;have h:=DQ 2 [dig (Ci n)] (some ⟨W.heap.size,0,none⟩) 1 1 (W.heap.size+1) _ J rfl (by simp) (by simp;omega) (by simp);have e:[dig (Ci n)].flatten=dig (Ci n):=by simp
    rw[e] at h;refine h.mono ?_;rintro e w' ⟨v,rfl,E,D⟩;exact⟨v,rfl,E.mono (by simp),(Below.refl W.heap.size W).alloc Ag _ |>.trans (D.mono (by simp))⟩
  have Z:=I M;have HW:=I hw;clear M hw;go_enter Tryz.func170,Tryz.ntmps170
  go_wp2_with (first
    |(go_at_call 203;refine(Z.o _).mono ?_;rintro e w1 ⟨g,rfl,hg,hB,D⟩)
    |(go_at_call 166;refine(HW.o _ _ hB).mono ?_;rintro e w2 ⟨v,rfl,E,F⟩))
  go_ret;exact⟨_,rfl,E.mono D.size,D.trans (F.mono D.size)⟩
theorem Es (l : L) (w : World) (M : l.length <= 65535) :
    Calls Tryz.prog 169 #[.string ⟨l.toArray⟩] w fun e w'=>
      ∃v,e=.returned v/\w'.ownsRow w.heap.size 5 1 v (elem 27 l).length (bvs (elem 27 l))/\Below w.heap.size w w':=by
  have O:=fun(W:World)=>Lib.run_convert_string_bytes (P:=Tryz.prog) W 9 27 5 ⟨l.toArray⟩ Tryz.underlying9 Tryz.underlying27 Tryz.underlying5
  have hw : ∀ (W : World) (c : Nat), Calls Tryz.prog 166 #[.int .u8 27, .slice (some ⟨W.heap.size + 1, 0, none⟩) 1 1] ((Lib.bytesWorld W 5 ⟨l.toArray⟩).alloc (.cells #[.slice (some ⟨W.heap.size, 0, none⟩) l.length c] 27)) fun e w' =>
      ∃v,e=.returned v/\w'.ownsRow W.heap.size 5 1 v (elem 27 l).length (bvs (elem 27 l))/\Below W.heap.size W w':=by
    intro W c;have hs:=Lib.bytesWorld_size W 5 ⟨l.toArray⟩;have N:=(Gn W 5 l).rd;have J:=NU _ 27 _ _ _ l.length c rfl N Ag;rw[hs] at J;have h:=DQ 27 [l] (some ⟨W.heap.size+1,0,none⟩) 1 1 (W.heap.size+1+1) _ J rfl (by simp [hs]) (by simpa using M) (by simp);have e:[l].flatten=l:=by simp
    rw[e] at h;refine h.mono ?_;rintro e w' ⟨v,rfl,D,F⟩;refine⟨v,rfl,D.mono (by simp [hs];omega),?_⟩;exact((El W _ _).alloc (by rw[hs];omega) _).trans (F.mono (by simp [hs];omega))
  have Z:=I hw;clear hw M;have aw:=fun(W:World)=>Lib.bytesWorld_size W 5 ⟨l.toArray⟩
  go_enter Tryz.func169,Tryz.ntmps169
  go_wp2_with (go_at_call 166;refine(Z.o _ _).mono ?_;rintro e w2 ⟨v,rfl,D,E⟩)
  go_ret;exact⟨_,rfl,D,E⟩
end DerW
namespace DerK
open Go.RowKit Af DerP
attribute [local go_sem] Ea List.getElem_cons_zero List.getElem_cons_succ
theorem JA {w:World} {base n:Nat} {t:TypeId} {v:Value} {l:L} (h:w.ownsRow base t 1 v n (bvs l)) (J:0<l.length) :
  ∃g cap,v=.slice (some ⟨g,0,none⟩) l.length cap/\base<=g/\l.length<=cap/\Rd w w.heap.size (some ⟨g,0,none⟩) (bvs l):=by
 have D:n=l.length:=by have:=h.1;rw[Ay] at this;omega
 subst D;rcases h.2 with⟨_,M⟩ | ⟨g,cap,cur,rfl,E,_,F,_⟩
 ·omega
 ·exact⟨g,cap,rfl,E,F,Rd.of_own h⟩
end DerK
namespace DerR
open Go.RowKit Af DerP
def Cc (w:World) (l:L) (e:Ending) (w':World):Prop:=
 (∃g cap,e=.returned (.slice (some ⟨g,0,none⟩) l.length cap)/\w.heap.size<=g/\l.length<=cap/\Rd w' w'.heap.size (some ⟨g,0,none⟩) (bvs l))/\Below w.heap.size w w'
theorem Fo {w w':World} {v:Value} {n:Nat} {t:TypeId} {l:L} (h:w'.ownsRow w.heap.size t 1 v n (bvs l)) (D:0<l.length) (E:Below w.heap.size w w'):Cc w l (.returned v) w':=by
 obtain⟨g,cap,rfl,F,J,M⟩:=DerK.JA h D;exact⟨⟨g,cap,rfl,F,J,M⟩,E⟩
theorem JB (w:World) (t:TypeId) (cs:Array Value) (l:L) (h:cs.toList=bvs l) (n:Nat) (D:n=l.length):Cc w l (.returned (.slice (some ⟨w.heap.size,0,none⟩) n n)) (w.alloc (.cells cs t)):=by
 subst D;refine⟨⟨_,_,rfl,Nat.le_refl _,Nat.le_refl _,?_⟩,Ah.alloc Ag _⟩;have:=DerW.Iv w t cs l h _ rfl
 simpa using this
theorem VS (n:Nat) (h:n<=65535) (w:World):Calls Tryz.prog 123 #[.int .i64 (n:Int)] w (Cc w (szL n)):=by
 by_cases h1:n<128
 ·have M:decide ((n:Int)<128)=true:=by simp;omega
  have E:=I (show szL n = [UInt8.ofNat n] by simp [szL,h1]);have D:=I (DerW.GR n (by omega));have F:(n:Int)<=127:=by omega
  clear h h1;go_enter Tryz.func123,Tryz.ntmps123
  go_wp2
  go_ret;rw[E.o];exact JB w 5 _ _ (by simp [bvs,D.o]) _ rfl
 ·have M:decide ((n:Int)<128)=false:=by simp;omega
  by_cases h2:n<=255
  ·have J:decide ((n:Int)<256)=true:=by simp;omega
   have E:=I (show szL n = [129,UInt8.ofNat n] by simp [szL,h1,h2]);have D:=I (DerW.GR n (by omega));have F:(n:Int)<=255:=by omega
   clear h h1 h2;go_enter Tryz.func123,Tryz.ntmps123
   go_wp2
   go_ret;rw[E.o];exact JB w 5 _ _ (by simp [bvs,D.o];rfl) _ rfl
  ·have J:decide ((n:Int)<256)=false:=by simp;omega
   have E:=I (show szL n = [130,UInt8.ofNat (n / 256),UInt8.ofNat n] by simp [szL,h1,h2]);have D:=I (show bvs [130,UInt8.ofNat (n / 256),UInt8.ofNat n] = [.int .u8 130,.int .u8 ((n:Int) / 256),.int .u8 ((n:Int) % 256)] by simp [bvs,bv];omega);have F:(n:Int)<=65535:=by omega
   clear h h1 h2;go_enter Tryz.func123,Tryz.ntmps123
   go_wp2
   go_ret;rw[E.o];exact JB w 5 _ _ (by rw[D.o]) _ rfl
theorem bF (n:Nat):(szL n).length<=3:=by rw[Hw];split<;>(try split)<;>omega
theorem GS (t : UInt8) (p : L) (A : Option Addr) (n c B : Nat) (w : World) (hr : Rd w B A (bvs p)) (hn : n = p.length) (hB : B <= w.heap.size) (hp : p.length <= 65535) :
    Calls Tryz.prog 88 #[.int .u8 t.toNat,.slice A n c] w (Cc w (elem t p)):=by
  obtain⟨i0,cg,aw,bx,bz⟩:=info_parts DerW.BY;have bB:∀W:World,Calls Tryz.prog 123 #[.int .i64 (n:Int)] W (Cc W (szL n)):=fun W=>VS n (by omega) W
  have HS:=I bB;have HR:=I hr;have HN:=I hn;have HP:=I hp;have h3:=I (bF n);have cb:=I DerW.ml;have N:Hid ((w.alloc (.cells #[.int .u8 (t.toNat:Int)] 5)).ownsRow w.heap.size 5 1 (.slice (some ⟨w.heap.size,0,none⟩) 1 1) 1 (bvs [t])):=World.ownsRow_lit w #[.int .u8 (t.toNat:Int)] 1 Ag (DerW.ml 1 (by omega)) rfl;clear bB hr hn hp;go_enter Tryz.func88,Tryz.ntmps88
  go_wp2_with (first
    | (go_at_call 123; refine (HS.o _).mono ?_; rintro e w1 ⟨⟨g1, c1, rfl, cq, cr, M⟩, cc⟩
       have O:Below w.heap.size w w1:=((Below.refl w.heap.size w).alloc Ag _).trans (cc.mono (by simp));have ca:=I (Ek N.o cc);have cj:=I M;clear M)
    | (at_builtin
       refine AA _ rfl (.tmp 6) (.tmp 9) 27 rfl w.heap.size 5 i0 _ 1 Tryz.underlying27 cg aw bx bz rfl (.slice (some ⟨w.heap.size,0,none⟩) 1 1) 1 (bvs [t]) rfl ca.o w1.heap.size _ (szL n).length c1 (bvs (szL n)) rfl (Ay _).symm cj.o (Br _) (cb.o _ (by have:=h3.o;omega)) (by have:=h3.o;omega) O.size ?_;intro v2 w2 E ck cd;have F:=O.grown ck O.size (fun k hk=>(ca.o.lt k hk).1);have Z:=I E;clear E cd)
    | (at_builtin
       refine AA _ rfl (.tmp 10) (.tmp 11) 27 rfl w.heap.size 5 i0 _ 1 Tryz.underlying27 cg aw bx bz rfl v2 (1+(szL n).length) (bvs [t]++bvs (szL n)) rfl Z.o B A n c (bvs p) rfl (by rw[Ay];exact HN.o) (HR.o.below (F.mono hB)) (Br _) (cb.o _ (by have:=h3.o;have:=HN.o;have:=HP.o;omega)) (by have:=h3.o;have:=HN.o;have:=HP.o;omega) F.size ?_;intro v3 w3 D cp cf;have cm:=F.grown cp F.size (fun k hk=>(Z.o.lt k hk).1);have cn:=I D;clear D cf))
  go_ret;have J:=cn.o;rw[HN.o,<-Bu,<-Bu,show [t]++szL p.length++p=elem t p from rfl] at J;exact Fo J (by rw[Er];omega) cm
theorem Ed (p:L) (A:Option Addr) (n c B:Nat) (w:World) (M:Rd w B A (bvs p)) (N:n=p.length) (hB:B<=w.heap.size) (hp:p.length<=65535) :
  Calls Tryz.prog 50 #[.slice A n c] w (Cc w (elem 4 p)):=by
 have H:=I (GS 4 p A n c B w M N hB hp);clear M N hB hp;go_enter Tryz.func50,Tryz.ntmps50
 go_wp2_with (go_at_call 88;refine(Calls.mono H.o ?_);rintro e w1 ⟨⟨O,c1,rfl,F,J,D⟩,E⟩)
 go_ret;exact⟨⟨O,c1,rfl,F,J,D⟩,E⟩
theorem Es (l:L) (w:World) (N:l.length<=65535) :
  Calls Tryz.prog 51 #[.string ⟨l.toArray⟩] w (Cc w (elem 27 l)):=by
 have Z:=fun(W:World)=>Lib.run_convert_string_bytes (P:=Tryz.prog) W 9 27 5 ⟨l.toArray⟩ Tryz.underlying9 Tryz.underlying27 Tryz.underlying5
 have he:∀(c:Nat),Calls Tryz.prog 88 #[.int .u8 27,.slice (some ⟨w.heap.size,0,none⟩) l.length c] (Lib.bytesWorld w 5 ⟨l.toArray⟩) (Cc (Lib.bytesWorld w 5 ⟨l.toArray⟩) (elem 27 l)):=
  fun c=>GS 27 l _ _ c _ _ (Gn w 5 l).rd rfl Ag N
 have HE:=I he;have M:=I (El w 5 ⟨l.toArray⟩);clear he N;go_enter Tryz.func51,Tryz.ntmps51
 go_wp2_with (go_at_call 88;refine(Calls.mono (HE.o _) ?_);rintro e w1 ⟨⟨O,c1,rfl,F,J,D⟩,E⟩)
 go_ret;exact⟨⟨O,c1,rfl,Nat.le_trans M.o.size F,J,D⟩,bt M.o E⟩
theorem Mu (j m:Nat):digK (j+1) m=UInt8.ofNat (m / 256 ^ j) :: digK j m:=by
 induction j generalizing m with
 |zero=>simp [digK]
 |succ j ih=>
  rw[digK,ih (m / 256)];rw[Nat.div_div_eq_div_mul,Nat.mul_comm,<-Nat.pow_succ]
  rfl
theorem Sv (m j:Nat) (hm:m<=4611686018427387904) (Z:1<=j) (F:j=1\/256 ^ (j - 1)<=m) (J:m / 256 ^ (j - 1)<128):dig m=digK j m:=by
 have hp:0<256 ^ (j - 1):=Nat.pow_pos (by omega);have E:m<128*256 ^ (j - 1):=by rw[Nat.div_lt_iff_lt_mul hp] at J;exact J
 have M:j<=8:=by
  rcases Nat.lt_or_ge 8 j with g | g
  ·exfalso
   rcases F with h | h
   ·omega
   ·have:256 ^ 8<=256 ^ (j - 1):=Nat.pow_le_pow_right (by omega) (by omega)
    have e:(256:Nat) ^ 8=18446744073709551616:=by decide
    omega
  ·exact g
 have D:m<2 ^ (8*(j - 1)+7):=by
  rw[Nat.pow_add,<-Jv,Nat.mul_comm];simpa using E
 have O:=DN m _ (by omega) D;have hk:Lib.bitLen m / 8+1=j:=by
  rcases F with h | h
  ·omega
  ·have N:2 ^ (8*(j - 1))<=m:=by rw[<-Jv];exact h
   have:=Ju m (by omega) _ N;omega
 rw[dig,hk]
theorem QH (m j:Nat) (hm:m<=4611686018427387904) (hj:1<=j) (O:m / 256 ^ j=0) (M:128<=m / 256 ^ (j - 1)):dig m=0 :: digK j m:=by
 have hp:0<256 ^ (j - 1):=Nat.pow_pos (by omega);have E:128*256 ^ (j - 1)<=m:=by rw[Nat.le_div_iff_mul_le hp] at M;exact M
 have J:0<256 ^ j:=Nat.pow_pos (by omega);have F:m<256 ^ j:=by
  rcases Nat.lt_or_ge m (256 ^ j) with g | g
  ·exact g
  ·have:=Nat.div_pos g J;omega
 have D:2 ^ (8*(j - 1)+7)<=m:=by
  rw[Nat.pow_add,<-Jv,Nat.mul_comm];simpa using E
 have Z:=Ju m (by omega) _ D;have N:=GO m hm;have h4:=DN m (8*j) (by omega) (by rw[<-Jv];exact F);have hk:Lib.bitLen m / 8+1=j+1:=by omega
 rw[dig,hk,Mu,O]
 rfl
theorem Gr (m j:Nat) (F:1<=j) (E:m / 256 ^ j=0):m / 256 ^ (j - 1)<256:=by
 have hp:0<256 ^ (j - 1):=Nat.pow_pos (by omega);have D:0<256 ^ j:=Nat.pow_pos (by omega);rw[Nat.div_lt_iff_lt_mul hp,Nat.mul_comm,<-Nat.pow_succ,show(j - 1).succ=j by omega];rcases Nat.lt_or_ge m (256 ^ j) with g | g
 ·exact g
 ·have:=Nat.div_pos g D;omega
theorem QI {w:World} {g j m:Nat} (J:1<=j) (M:m / 256 ^ j=0) (h:Rd w w.heap.size (some ⟨g,0,none⟩) (bvs (digK j m))):w.cell? ⟨g,0,none⟩=some (.int .u8 ((m / 256 ^ (j - 1):Nat):Int)):=by
 have E:=Sb j m 0 (by omega);obtain⟨b,o,e,_,D⟩:=h.at_ (i:=0) (u:=bv (UInt8.ofNat (m / 256 ^ (j - 1)))) (by simp only[bvs,List.getElem?_map,E];rfl);injection e with e;injection e with e1 e2;subst e1 e2;have F:=Gr m j J M;rw[show(0+0:Nat)=0 from rfl] at D;rw[D,DerW.GR _ F]
def Left (m:Nat) (W:World) (n p:Value) (w:World):Prop:=
 ∃j g cap,1<=j/\(j=1\/256 ^ (j - 1)<=m)/\j<=9/\n=.int .i64 ((m / 256 ^ j:Nat):Int)/\p=.slice (some ⟨g,0,none⟩) j cap/\Rd w w.heap.size (some ⟨g,0,none⟩) (bvs (digK j m))/\Below W.heap.size W w
theorem DF (n : Int) (w : World) :
    Calls Tryz.prog 52 #[.int .i64 n] w (Cc w (encI n)):=by
  obtain⟨i0,cu,cx,cq,cr⟩:=info_parts DerW.BY;have cy:=Kv n;have hm:=GN n;have E:Hid (encI n=elem 2 (dig (Ci n))):=rfl;generalize Ci n=m at *;have HM:=I hm;have ea:(m:Int)<=4611686018427387904:=by omega
  have ct:=I DerW.ml;have cc:=I (show [Value.int .u8 ((m:Int) % 256)]=bvs (digK 1 m) by simp [bvs,bv,digK]);have cQ:=cy.symm;clear cy hm;go_enter Tryz.func52,Tryz.ntmps52
  go_wp2
  go_loopw [0,3] (fun nv p wr=>Left m w nv p wr) (fun nv _ _=>(intOf nv).toNat)
  case atStart=>
    refine⟨1,w.heap.size,1,Nat.le_refl _,.inl rfl,by omega,by simp,rfl,?_,Ah.alloc Ag _⟩;have:=DerW.Iv w 5 #[Value.int .u8 ((m:Int) % 256)] (digK 1 m) cc.o _ rfl
    simpa using this
  case round=>
    obtain⟨j,g,cap,F,aw,ef,rfl,rfl,O,J⟩:=hrel
    by_cases h0:m / 256 ^ j=0
    · have cB := QI F h0 O
      have hf:=Gr m j F h0;have ca:=I O;have HJ:=I F;have ec:=I aw;have H0:=I h0;rw[h0];have HN:=I (Gr m j F h0)
      by_cases h128:m / 256 ^ (j - 1)<128
      · have G := I (Sv m j HM.o F aw h128)
        have he:∀W:World,Rd W W.heap.size (some ⟨g,0,none⟩) (bvs (digK j m))->Calls Tryz.prog 88 #[.int .u8 2,.slice (some ⟨g,0,none⟩) j cap] W (Cc W (elem 2 (digK j m))):=
          fun W hW=>GS 2 (digK j m) _ j cap _ W hW (Bk j m).symm Ag (by rw[Bk];omega)
        have ck:=I he;have g5:decide ((128:Int)<=((m / 256 ^ (j - 1):Nat):Int))=false:=by simp only[decide_eq_false_iff_not];omega
        clear he O hf h128 F aw h0;generalize m / 256 ^ (j - 1)=a at *;have cw:(j:Int)<=9:=by omega
        have cA:0<j:=HJ.o
        go_wp2_with (go_at_call 88;refine(Calls.mono (ck.o _ ca.o) ?_);rintro e w1 ⟨⟨g1,c1,rfl,cd,cm,bx⟩,cp⟩)
        go_ret;rw[E.o,G.o];exact⟨⟨g1,c1,rfl,Nat.le_trans J.size cd,cm,bx⟩,bt J cp⟩
      · have G := I (QH m j HM.o F h0 (by omega))
        have he:∀(W:World) (Z c':Nat),Rd W W.heap.size (some ⟨Z,0,none⟩) (bvs (0 :: digK j m))->Calls Tryz.prog 88 #[.int .u8 2,.slice (some ⟨Z,0,none⟩) (0 :: digK j m).length c'] W (Cc W (elem 2 (0 :: digK j m))):=
          fun W Z c' hW=>GS 2 (0 :: digK j m) _ _ c' _ W hW rfl Ag (by simp only[List.length_cons,Bk];omega)
        have ck:=I he;have g5:decide ((128:Int)<=((m / 256 ^ (j - 1):Nat):Int))=true:=by simp only[decide_eq_true_eq];omega
        have M:Hid ((wr.alloc (.cells #[.int .u8 0] 5)).ownsRow wr.heap.size 5 1 (.slice (some ⟨wr.heap.size,0,none⟩) 1 1) 1 (bvs [0])):=World.ownsRow_lit wr #[.int .u8 0] 1 Ag (DerW.ml 1 (by omega)) rfl;clear he O hf h128 F aw h0;generalize m / 256 ^ (j - 1)=a at *;have cw:(j:Int)<=9:=by omega
        have cA:0<j:=HJ.o
        go_wp2_with (first
          | (at_builtin
             refine AA _ rfl (.tmp 25) (.tmp 26) 27 rfl wr.heap.size 5 i0 _ 1 Tryz.underlying27 cu cx cq cr rfl (.slice (some ⟨wr.heap.size,0,none⟩) 1 1) 1 (bvs [0]) rfl M.o wr.heap.size (some ⟨g,0,none⟩) j cap (bvs (digK j m)) rfl (by rw[Ay,Bk]) (ca.o.alloc Ag _) (Br _) (ct.o _ (by omega)) (by omega) (by simp) ?_;intro v2 w2 D cf bB;rw[<-Bu,List.singleton_append] at D;obtain⟨g3,cb,rfl,cL,cj,bz⟩:=DerK.JA D (by simp);have N:Below wr.heap.size wr w2:=((Below.refl wr.heap.size wr).alloc Ag _).grown cf (by simp) (fun k hk=>by simp [Value.ownBlock] at hk;omega);clear D bB)
          |(go_at_call 88;refine(Calls.mono (ck.o _ _ _ bz) ?_);rintro e w1 ⟨⟨g1,c1,rfl,cd,cm,bx⟩,cp⟩))
        go_ret;rw[E.o,G.o];exact⟨⟨g1,c1,rfl,Nat.le_trans (Nat.le_trans J.size N.size) cd,cm,bx⟩,bt (bt J N) cp⟩
    · have hle : 256 ^ j <= m := by
        have eb:0<256 ^ j:=Nat.pow_pos (by omega);rcases Nat.lt_or_ge m (256 ^ j) with Z | Z
        · exact absurd (Nat.div_eq_of_lt Z) h0
        · exact Z
      have ed:j<8:=by
        rcases Nat.lt_or_ge j 8 with Z | Z
        · exact Z
        · exfalso
          have:256 ^ 8<=256 ^ j:=Nat.pow_le_pow_right (by omega) Z;have e:(256:Nat) ^ 8=18446744073709551616:=by decide
          have:=HM.o;omega
      have cn:=I (show m / 256 ^ j / 256=m / 256 ^ (j+1) by rw[Nat.div_div_eq_div_mul,<-Nat.pow_succ]);have cg:=I (Mu j m);have hy:m / 256 ^ j<=m:=Nat.div_le_self _ _;have ca:=I O;have cP:=I hle;clear O hle aw;generalize m / 256 ^ j=y at *;have g6:decide ((0:Int)<(y:Int))=true:=by simp;omega
      have cR:(y:Int)<=4611686018427387904:=by omega
      have M:Hid ((wr.alloc (.cells #[.int .u8 ((y:Int) % 256)] 5)).ownsRow wr.heap.size 5 1 (.slice (some ⟨wr.heap.size,0,none⟩) 1 1) 1 (bvs [UInt8.ofNat y])):=by
        have:=World.ownsRow_lit (base:=wr.heap.size) (e:=5) (size:=1) wr #[.int .u8 ((y:Int) % 256)] 1 Ag (DerW.ml 1 (by omega)) rfl;rw[show(#[Value.int .u8 ((y:Int) % 256)]:Array Value).toList=bvs [UInt8.ofNat y] by simp [bvs,bv]] at this;exact this
      have HY:=I (show 0<y by omega);clear h0 hy
      go_wp2_with (at_builtin
                   refine AA _ rfl (.tmp 18) (.tmp 19) 27 rfl wr.heap.size 5 i0 _ 1 Tryz.underlying27 cu cx cq cr rfl (.slice (some ⟨wr.heap.size,0,none⟩) 1 1) 1 (bvs [UInt8.ofNat y]) rfl M.o wr.heap.size (some ⟨g,0,none⟩) j cap (bvs (digK j m)) rfl (by rw[Ay,Bk]) (ca.o.alloc Ag _) (Br _) (ct.o _ (by omega)) (by omega) (by simp) ?_;intro v2 w2 D cf bB;rw[<-Bu,List.singleton_append,<-cg.o] at D;obtain⟨g3,cb,rfl,cL,cj,bz⟩:=DerK.JA D (by rw[Bk];omega);rw[Bk];have N:Below wr.heap.size wr w2:=((Below.refl wr.heap.size wr).alloc Ag _).grown cf (by simp) (fun k hk=>by simp [Value.ownBlock] at hk;omega);clear D bB)
      refine⟨⟨j+1,g3,cb,by omega,.inr (by simpa using cP.o),by omega,?_,rfl,bz,bt J N⟩,?_⟩
      · rw [<- cn.o]; rfl
      · have := HY.o; simp [intOf]; omega
theorem Zd {w:World} {base n:Nat} {t:TypeId} {v:Value} {l:L} (h:w.ownsRow base t 1 v n (bvs l)) :
  ∃A cap,v=.slice A l.length cap/\Rd w w.heap.size A (bvs l):=by
 have D:n=l.length:=by have:=h.1;rw[Ay] at this;omega
 subst D;rcases h.2 with⟨E,F⟩ | ⟨g,cap,cur,rfl,J,_,M,_⟩
 ·subst E
  have:l = []:=List.eq_nil_of_length_eq_zero F;subst this;exact⟨none,0,rfl,.inl rfl⟩
 ·exact⟨_,cap,rfl,Rd.of_own h⟩
def Fp (ls:List L) (k:Nat):L:=(ls.take k).flatten
theorem NV (ls:List L) (k:Nat) (l:L) (h:ls[k]? = some l):Fp ls (k+1)=Fp ls k++l:=DerW.Jy ls k l h
theorem Sw (ls:List L) (k:Nat):(Fp ls k).length<=ls.flatten.length:=DerW.Jz ls k
theorem QJ (ls:List L):Fp ls ls.length=ls.flatten:=by rw[Fp,List.take_of_length_le Ag]
theorem DQ (t : UInt8) (ls : List L) (A : Option Addr) (m c B : Nat) (w : World) (hr : DerW.Rds w B A ls) (hm : m = ls.length) (hB : B <= w.heap.size) (hl : ls.flatten.length <= 65535) (hc : ls.length <= 1000000) :
    Calls Tryz.prog 48 #[.int .u8 t.toNat,.slice A m c] w (Cc w (elem t ls.flatten)):=by
  obtain⟨i0,ck,bx,bz,cc⟩:=info_parts DerW.BY;have HR:=I hr;have aw:=I (fun k=>Nat.le_trans (Sw ls k) hl);have cm:=I (QJ ls);have cg:=I DerW.ml;have cr:(m:Int)<=1000000:=by omega
  have HM:=I hm;have HL:=I hl;have cn:=I (World.ownsRow_nil w w.heap.size 5 1);clear hr hm hc hl;go_enter Tryz.func48,Tryz.ntmps48
  go_wp2
  go_loopw [5,6] (fun v i wr=>∃k:Nat,k<=m/\i=.int .i64 (k:Int)/\wr.ownsRow w.heap.size 5 1 v (Fp ls k).length (bvs (Fp ls k))/\Below w.heap.size w wr) (fun _ i _=>m - (intOf i).toNat)
  case atStart=>exact⟨0,by omega,rfl,cn.o,Below.refl _ _⟩
  case round=>
    obtain⟨k,hk,rfl,E,D⟩:=hrel
    by_cases hlt:k<m
    · obtain ⟨l, hx⟩ : ∃ l, ls[k]? = some l := ⟨_, List.getElem?_eq_getElem (by have := HM.o; omega)⟩
      obtain⟨b,o,rfl,hb,A',c',cd,Z⟩:=(HR.o.below (D.mono hB)).at_ hx;have hs:=NV ls k l hx;have cf:=aw.o (k+1);have N:=congrArg List.length hs;rw[List.length_append] at N;have HS:=I hs;have cp:(Fp ls k).length+l.length<=65535:=by omega
      have HO:=I E;have HQ:=I Z;clear hs N hx cf E Z
      go_wp2_with (at_builtin
                   refine AA _ rfl (.tmp 13) (.tmp 17) 27 rfl w.heap.size 5 i0 _ 1 Tryz.underlying27 ck bx bz cc rfl _ (Fp ls k).length (bvs (Fp ls k)) rfl HO.o B A' l.length c' (bvs l) rfl (Ay l).symm HQ.o (Br _) (cg.o _ (by omega)) (by omega) D.size ?_;intro v2 w2 J cb cq)
      refine⟨⟨k+1,by omega,by go_num,?_,D.grown cb D.size (fun i hi=>(HO.o.lt i hi).1)⟩,by simp [intOf];omega⟩;rw[HS.o,Bu,List.length_append];exact J
    · obtain rfl : k = m := by omega
      have e:Fp ls k=ls.flatten:=by rw[HM.o];exact cm.o
      rw[e] at E;obtain⟨A2,M,rfl,F⟩:=Zd E;have HQ:=I F;have HE:=I (GS t ls.flatten A2 ls.flatten.length M _ wr F rfl Ag HL.o);clear hk hlt e E F;generalize ls.flatten.length=q at *
      go_wp2_with (go_at_call 88;refine(Calls.mono HE.o ?_);rintro e w1 ⟨⟨g1,c1,rfl,bB,ca,O⟩,cj⟩)
      go_ret;exact⟨⟨g1,c1,rfl,Nat.le_trans D.size bB,ca,O⟩,bt D cj⟩
def RS (w:World) (B:Nat) (A:Option Addr) (n cap:Nat) (e:Bool):Option L->Prop
 |none=>e=true
 |some l=>e=false/\n=l.length/\n<=cap/\Rd w B A (bvs l)
theorem KV {t:UInt8} {s:L} {m k:Nat} (h:lenR s=(m,k,true)) (D:m+k<=s.length):BM t (t :: s)=some (((t :: s).drop (k+1)).take m,(t :: s).drop (k+1+m)):=by
 rw[BM,h,if_pos ⟨rfl,rfl,D⟩]
 congr 2
 rw[List.drop_drop,show k+1+m=(k+m)+1 by omega]
 rfl
end DerR
end Go.Proofs.YthgignaohimadaaGreat
