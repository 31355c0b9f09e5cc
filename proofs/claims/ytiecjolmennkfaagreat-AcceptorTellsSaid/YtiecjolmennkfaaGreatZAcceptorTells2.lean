import Derived.Test.YtiecjolmennkfaaGreatZAcceptorTells1
set_option maxHeartbeats 25600000
set_option maxRecDepth 100000
set_option linter.unusedVariables false
set_option linter.unusedSimpArgs false
namespace Go.Proofs.YtiecjolmennkfaaGreat
namespace Rg
open Nm (Cu L)
abbrev Pr:=L×L
def prB (p:Pr):Bool:=Cu p.1 p.2
structure It where
 p:Pr
 n:Nat
 k:Nat->UInt8
def hit (i:It) (p:Pr) (n:Int):Bool:=decide (i.p=p)&&decide ((i.n:Int)=n)
def CV (l:List It) (p:Pr) (n:Int):Option Nat:=l.findIdx? (fun i=>hit i p n)
def BV (l:List It) (p:Pr):Nat->Option Nat
 |0=>none
 |i+1=>if (l[i]?).map (·.p)=some p then some i else BV l p i
def Gd (l:List It) (p:Pr):Option Nat:=BV l p l.length
def numO (l:List It):Option Nat->Nat
 |none=>0
 |some i=>((l[i]?).map (·.n)).getD 0
def Ci (l:List It) (p:Pr):Nat:=numO l (Gd l p)
def Num (l:List It):Prop:=∀j i,l[j]? = some i->i.n=numO l (BV l i.p j)+1
def addN (l:List It) (p:Pr):Nat:=if prB p=true then (if l.length<40 then Ci l p+1 else 0) else 0
def addE (l:List It) (p:Pr):Nat:=if prB p=true then (if l.length<40 then 0 else 13) else 1
def addL (l:List It) (p:Pr) (k:Nat->UInt8):List It:=if prB p=true then (if l.length<40 then l++[⟨p,Ci l p+1,k⟩] else l) else l
theorem Jg {l:List It} (h:Num l) (p:Pr):∀i,numO l (BV l p i)<=i
 |0=>Nat.le_refl _
 |i+1=>by
  unfold BV
  split
  ·rename_i e
   obtain⟨x,M,O⟩:=Option.map_eq_some_iff.1 e;have Z:=h i x M;have h4:=Jg h p i;rw[O] at Z;simp only[numO,M,Option.map_some,Option.getD_some];omega
  ·have:=Jg h p i;omega
theorem Za {l:List It} (h:Num l) (p:Pr):Ci l p<=l.length:=Jg h p _
theorem KQ {x:It} {p:Pr} {n:Int}:hit x p n=true↔x.p=p/\(x.n:Int)=n:=by simp [hit]
theorem Kh {l:List It} {p:Pr} {n:Int} {i:Nat} (h:CV l p n=some i):∃x,l[i]? = some x/\x.p=p/\(x.n:Int)=n:=by
 obtain⟨M,O,_⟩:=List.findIdx?_eq_some_iff_getElem.1 h;exact⟨l[i],List.getElem?_eq_getElem M,KQ.1 O⟩
theorem IG {l:List It} {p:Pr} {n:Int} {i:Nat} {x:It} (hx:l[i]? = some x) (hp:x.p=p) (hn:(x.n:Int)=n) (O:∀(j:Nat) (y:It),j<i->l[j]? = some y->¬(y.p=p/\(y.n:Int)=n)):CV l p n=some i:=by
 obtain⟨Z,h2⟩:=List.getElem?_eq_some_iff.1 hx;refine List.findIdx?_eq_some_iff_getElem.2 ⟨Z,by rw[h2];exact KQ.2 ⟨hp,hn⟩,fun j M hh=>?_⟩;exact O j _ M (List.getElem?_eq_getElem (by omega)) (KQ.1 hh)
theorem Ki {l:List It} {p:Pr} {n:Int} (Z:∀(j:Nat) (y:It),l[j]? = some y->¬(y.p=p/\(y.n:Int)=n)):CV l p n=none:=by
 refine List.findIdx?_eq_none_iff.2 fun x hx=>?_
 obtain⟨j,M,O⟩:=List.getElem_of_mem hx;have:=Z j x (by rw[<-O];exact List.getElem?_eq_getElem M);rw[<-KQ] at this
 simpa using this
end Rg
namespace DerP
abbrev L:=List UInt8
def szL (n:Nat):L:=if n<128 then [UInt8.ofNat n] else if n<=255 then [129,UInt8.ofNat n] else [130,UInt8.ofNat (n / 256),UInt8.ofNat n]
def elem (t:UInt8) (p:L):L:=t :: (szL p.length++p)
def lenR:L->Nat×Nat×Bool
 | []=>(0,0,false)
 |a :: r=>
  if a.toNat<128 then (a.toNat,1,true)
  else if a.toNat=129 then
   match r with
   | []=>(0,0,false)
   |b :: _=>(b.toNat,2,decide (128<=b.toNat))
  else if a.toNat=130 then
   match r with
   |b :: c :: _=>(b.toNat*256+c.toNat,3,decide (255<b.toNat*256+c.toNat))
   |_=>(0,0,false)
  else (0,0,false)
def BG (t:UInt8):L->Option (L×L)
 | []=>none
 |a :: s=>
  if a=t/\(lenR s).2.2=true/\(lenR s).1+(lenR s).2.1<=s.length
  then some ((s.drop (lenR s).2.1).take (lenR s).1,(s.drop (lenR s).2.1).drop (lenR s).1) else none
def Bc (t:UInt8) (c:Option L):Option L:=(c.bind (BG t)).map (·.2)
def AN (t:UInt8) (c:Option L):Option L:=(c.bind (BG t)).map (·.1)
theorem Mm {t:UInt8} {s:L} (h:BG t s=none):AN t (some s)=none/\Bc t (some s)=none:=by simp [AN,Bc,h]
theorem GH {t:UInt8} {s b r:L} (h:BG t s=some (b,r)):AN t (some s)=some b/\Bc t (some s)=some r:=by simp [AN,Bc,h]
def val (l:L):Nat:=l.foldl (fun a b=>a*256+b.toNat) 0
def Bx:L->Bool
 | []=>false
 |b :: _=>decide (b.toNat<128)
def numL:L->Option Nat
 | []=>none
 |a :: r=>
  if 7<r.length\/128<=a.toNat then none
  else if a.toNat=0/\Bx r=true then none
  else if 4611686018427387904<val (a :: r) then none
  else some (val (a :: r))
def digK:Nat->Nat->L
 |0,_=>[]
 |k+1,n=>digK k (n / 256)++[UInt8.ofNat n]
def dig (n:Nat):L:=digK (Lib.bitLen n / 8+1) n
def Cm (n:Int):Nat:=(min (max n 0) 4611686018427387904).toNat
def encI (n:Int):L:=elem 2 (dig (Cm n))
def intC (c:Option L):Nat×Option L:=
 match AN 2 c with
 |none=>(0,none)
 |some b=>match numL b with
  |none=>(0,none)
  |some n=>(n,Bc 2 c)
theorem GI (n:Int):Cm n<=4611686018427387904:=by unfold Cm;omega
theorem Sf (n:Int) (M:0<=n) (O:n<=4611686018427387904):Cm n=n.toNat:=by unfold Cm;omega
theorem Kj (n:Int):((Cm n:Nat):Int)=min (max n 0) 4611686018427387904:=by unfold Cm;omega
theorem Bj (k n:Nat):(digK k n).length=k:=by
 induction k generalizing n with
 |zero=>rfl
 |succ k ih=>simp [digK,ih]
theorem KR (l:L) (b:UInt8):val (l++[b])=val l*256+b.toNat:=by simp [val]
theorem Pl (k n:Nat):val (digK k n)=n % 256 ^ k:=by
 induction k generalizing n with
 |zero=>simp [digK,val,Nat.mod_one]
 |succ k ih=>
  rw[digK,KR,ih];have M:(UInt8.ofNat n).toNat=n % 256:=by simp
  rw[M,Nat.pow_succ,Nat.mul_comm (256 ^ k) 256,Nat.mod_mul];omega
theorem Qo (l:L) (k:Nat) (h:l.length=k+1):∃m b,l=m++[b]/\m.length=k:=by
 refine⟨l.take k,l[k]'(by omega),?_,by simp;omega⟩;rw[List.take_append_getElem];rw[List.take_of_length_le (by omega)]
theorem VS (k:Nat) (l:L) (h:l.length=k):digK k (val l)=l:=by
 induction k generalizing l with
 |zero=>rw[List.length_eq_zero_iff.1 h];rfl
 |succ k ih=>
  obtain⟨m,b,rfl,hm⟩:=Qo l k h;rw[digK,KR];have M:=b.toNat_lt;have e:(val m*256+b.toNat) / 256=val m:=by omega
  rw[e,ih m hm]
  congr 1
  simp only[List.cons.injEq,and_true];apply UInt8.toNat_inj.1;simp
theorem Sg (k n j:Nat) (h:j<k):(digK k n)[j]? = some (UInt8.ofNat (n / 256 ^ (k - 1 - j))):=by
 induction k generalizing n with
 |zero=>omega
 |succ k ih=>
  rw[digK]
  by_cases hj:j<k
  ·rw[List.getElem?_append_left (by rw[Bj];exact hj),ih _ hj]
   congr 2
   rw[Nat.div_div_eq_div_mul]
   congr 1
   rw[show k+1 - 1 - j=(k - 1 - j)+1 by omega,Nat.pow_succ,Nat.mul_comm]
  ·obtain rfl:j=k:=by omega
   rw[List.getElem?_append_right (by rw[Bj];omega),Bj];simp
theorem Sh (l:L) (j:Nat) (b:UInt8) (h:l[j]? = some b):l.drop j=b :: l.drop (j+1):=by
 obtain⟨M,e⟩:=List.getElem?_eq_some_iff.1 h;rw[List.drop_eq_getElem_cons M,e]
theorem Yg (l:L):val l<256 ^ l.length:=by
 have h:=Pl l.length (val l);rw[VS l.length l rfl] at h;have hp:0<256 ^ l.length:=Nat.pow_pos (by omega);rw[h];exact Nat.mod_lt _ hp
theorem Sj (l:L) (x:Nat):l.foldl (fun a b=>a*256+b.toNat) x=x*256 ^ l.length+val l:=by
 induction l generalizing x with
 |nil=>simp [val]
 |cons a r ih=>
  have e:val (a :: r)=a.toNat*256 ^ r.length+val r:=by
   show List.foldl _ (0*256+a.toNat) r=_;rw[ih];simp
  rw[List.foldl_cons,ih,e,List.length_cons,Nat.pow_succ,Nat.add_mul,Nat.mul_assoc,Nat.mul_comm 256,Nat.add_assoc]
theorem KS (a:UInt8) (r:L):val (a :: r)=a.toNat*256 ^ r.length+val r:=by
 show List.foldl _ (0*256+a.toNat) r=_;rw[Sj];simp
theorem Jh (x:Nat) (Z:x<18446744073709551616) (k:Nat) (h:2 ^ k<=x):k+1<=Lib.bitLen x:=by
 have M:x≠0:=by
  have:=Nat.pow_pos (n:=k) (show 0<2 by omega);omega
 obtain⟨_,_,O⟩:=Lib.bitLenAux_bounds 64 x (by simpa using Z) M;have h4:2 ^ k<2 ^ Lib.bitLen x:=Nat.lt_of_le_of_lt h O;have:=(Nat.pow_lt_pow_iff_right (a:=2) (by omega)).1 h4;omega
theorem Ed (x k:Nat) (hk:k<=64) (h:x<2 ^ k):Lib.bitLen x<=k:=Lib.bitLen_le x k hk h
theorem Mn (x:Nat) (M:x<18446744073709551616):x<2 ^ Lib.bitLen x:=by
 by_cases h0:x=0
 ·subst h0;exact Nat.pow_pos (by omega)
 ·exact(Lib.bitLenAux_bounds 64 x (by simpa using M) h0).2.2
theorem GJ (n:Nat) (h:n<=4611686018427387904):Lib.bitLen n<=63:=Ed n 63 (by omega) (by omega)
theorem Ht (n:Nat):(dig n).length=Lib.bitLen n / 8+1:=Bj _ _
theorem Zb (n:Nat) (h:n<=4611686018427387904):(dig n).length<=8:=by
 rw[Ht];have:=GJ n h;omega
theorem Ji (k:Nat):256 ^ k=2 ^ (8*k):=by rw[Nat.pow_mul]
theorem Zc (n:Nat) (h:n<=4611686018427387904):val (dig n)=n:=by
 rw[dig,Pl];apply Nat.mod_eq_of_lt;rw[Ji];refine Nat.lt_of_lt_of_le (Mn n (by omega)) (Nat.pow_le_pow_right (by omega) (by omega))
theorem Zd (n:Nat) (h:n<=4611686018427387904):numL (dig n)=some n:=by
 have hv:=Zc n h;have M:=Ht n;have aw:=GJ n h;have av:=Mn n (by omega);cases hd:dig n with
 |nil=>rw[hd] at M;simp at M
 |cons a r=>
  rw[hd] at hv M;simp only[List.length_cons] at M;have hr:r.length=Lib.bitLen n / 8:=by omega
  have Z:=KS a r;rw[hv] at Z;have ha:a.toNat<128:=by
   rcases Nat.lt_or_ge a.toNat 128 with g | g
   ·exact g
   ·exfalso
    have O:128*256 ^ r.length<=n:=by
     have:=Nat.mul_le_mul_right (256 ^ r.length) g;omega
    have h2:2 ^ (8*r.length+7)<=n:=by
     rw[Nat.pow_add,<-Ji,Nat.mul_comm];simpa using O
    have h3:=Jh n (by omega) _ h2;omega
  have hs:¬(a.toNat=0/\Bx r=true):=by
   rintro⟨h0,O⟩;cases r with
   |nil=>simp [Bx] at O
   |cons b q=>
    simp only[Bx,decide_eq_true_eq] at O;have hq:=KS b q;have hb:=Yg q;simp only[List.length_cons] at hr Z;rw[h0] at Z;have h4:n<128*256 ^ q.length:=by
     have:(b.toNat+1)*256 ^ q.length<=128*256 ^ q.length:=Nat.mul_le_mul_right _ (by omega);rw[Nat.add_mul] at this;omega
    have h5:n<2 ^ (8*q.length+7):=by
     rw[Nat.pow_add,<-Ji,Nat.mul_comm];simpa using h4
    have h6:=Ed n (8*q.length+7) (by omega) h5;omega
  simp only[numL];rw[if_neg (by omega),if_neg hs,if_neg (by omega),hv]
theorem GK (l:L) (i:Nat) (h:i<l.length):val (l.take (i+1))=val (l.take i)*256+(l[i]).toNat:=by
 rw[List.take_succ_eq_append_getElem h,KR]
theorem NJ {a:UInt8} {r:L} (ha:a.toNat<128) (hr:r.length<=7) (i:Nat):val ((a :: r).take i)<9223372036854775808:=by
 cases i with
 |zero=>simp [val]
 |succ i=>
  rw[List.take_succ_cons,KS];have h1:=Yg (r.take i);have O:(r.take i).length<=7:=by have:=List.length_take_le i r;have:=List.length_take_le' i r;omega
  have M:256 ^ (r.take i).length<=256 ^ 7:=Nat.pow_le_pow_right (by omega) O;have Z:(a.toNat+1)*256 ^ (r.take i).length<=128*256 ^ 7:=Nat.mul_le_mul (by omega) M;rw[Nat.add_mul] at Z;have h5:(128:Nat)*256 ^ 7=9223372036854775808:=by decide
  omega
def numR (s:L):Nat×Bool:=((numL s).getD 0,(numL s).isSome)
theorem GM {a:UInt8} {r:L} (h:(7<r.length\/128<=a.toNat)\/(a.toNat=0/\Bx r=true)\/4611686018427387904<val (a :: r)):numL (a :: r)=none:=by
 rw[numL]
 by_cases h1:7<r.length\/128<=a.toNat
 ·rw[if_pos h1]
 ·rw[if_neg h1]
  by_cases h2:a.toNat=0/\Bx r=true
  ·rw[if_pos h2]
  ·rw[if_neg h2]
   rcases h with h | h | h
   ·exact absurd h h1
   ·exact absurd h h2
   ·rw[if_pos h]
theorem FB {s:L} (h:numL s=none):numR s=(0,false):=by rw[numR,h];rfl
theorem Sk {a:UInt8} {r:L} (h:7<r.length):numR (a :: r)=(0,false):=FB (GM (.inl (.inl h)))
theorem Sl {a:UInt8} {r:L} (h:128<=a.toNat):numR (a :: r)=(0,false):=FB (GM (.inl (.inr h)))
theorem Sn {a b:UInt8} {r:L} (h:a.toNat=0) (M:b.toNat<128):numR (a :: b :: r)=(0,false):=FB (GM (.inr (.inl ⟨h,by simpa [Bx] using M⟩)))
theorem Qp {a:UInt8} {r:L} (h:4611686018427387904<val (a :: r)):numR (a :: r)=(0,false):=FB (GM (.inr (.inr h)))
theorem So {a:UInt8} {r:L} (h1:r.length<=7) (O:a.toNat<128) (M:¬(a.toNat=0/\Bx r=true)) (Z:val (a :: r)<=4611686018427387904):numR (a :: r)=(val (a :: r),true):=by
 simp only[numR,numL];rw[if_neg (by omega),if_neg M,if_neg (by omega)];rfl
theorem Kk {a:UInt8} {r:L} (h:a.toNat<128):lenR (a :: r)=(a.toNat,1,true):=by simp [lenR,h]
theorem Il {a:UInt8} (h:a.toNat=129):lenR [a]=(0,0,false):=by simp [lenR,h]
theorem Pm {a b:UInt8} {r:L} (h:a.toNat=129):lenR (a :: b :: r)=(b.toNat,2,decide (128<=b.toNat)):=by simp [lenR,h]
theorem Im {a:UInt8} (h:a.toNat=130):lenR [a]=(0,0,false):=by simp [lenR,h]
theorem Io {a b:UInt8} (h:a.toNat=130):lenR [a,b]=(0,0,false):=by simp [lenR,h]
theorem Pn {a b c:UInt8} {r:L} (h:a.toNat=130):lenR (a :: b :: c :: r)=(b.toNat*256+c.toNat,3,decide (255<b.toNat*256+c.toNat)):=by simp [lenR,h]
theorem Mo {a:UInt8} {r:L} (Z:¬a.toNat<128) (M:¬a.toNat=129) (O:¬a.toNat=130):lenR (a :: r)=(0,0,false):=by simp [lenR,Z,M,O]
theorem Sq (s:L):(lenR s).1<=65535/\(lenR s).2.1<=3:=by
 cases s with
 |nil=>simp [lenR]
 |cons a r=>
  have M:=a.toNat_lt
  by_cases h1:a.toNat<128
  ·rw[Kk h1];simp;omega
  ·by_cases h2:a.toNat=129
   ·cases r with
    |nil=>rw[Il h2];simp
    |cons b q=>rw[Pm h2];have:=b.toNat_lt;simp;omega
   ·by_cases h3:a.toNat=130
    ·rcases r with _ | ⟨b,_ | ⟨c,q⟩⟩
     ·rw[Im h3];simp
     ·rw[Io h3];simp
     ·rw[Pn h3];have:=b.toNat_lt;have:=c.toNat_lt;simp;omega
    ·rw[Mo h1 h2 h3];simp
theorem Hu (n:Nat):(szL n).length=if n<128 then 1 else if n<=255 then 2 else 3:=by
 unfold szL;split
 ·rfl
 ·split<;>rfl
theorem EE (t:UInt8) (p:L):(elem t p).length=1+(szL p.length).length+p.length:=by
 simp [elem];omega
theorem VT (n:Nat) (h:n<=65535) (r:L):lenR (szL n++r)=(n,(szL n).length,true):=by
 unfold szL
 by_cases h1:n<128
 ·have e:n % 256=n:=by omega
  simp [h1,lenR,e]
 ·by_cases h2:n<=255
  ·have e:(UInt8.ofNat n).toNat=n:=by simp;omega
   simp [h1,h2,lenR];omega
  ·have O:(UInt8.ofNat (n / 256)).toNat=n / 256:=by simp;omega
   have Z:(UInt8.ofNat n).toNat=n % 256:=by simp
   have M:n / 256 % 256*256+n % 256=n:=by omega
   simp [h1,h2,lenR,M];omega
theorem NK {s:L} (h:(lenR s).2.2=true):szL (lenR s).1=s.take (lenR s).2.1/\(lenR s).2.1=(szL (lenR s).1).length/\(lenR s).2.1<=s.length/\(lenR s).1<=65535:=by
 have key:∀a:UInt8,UInt8.ofNat a.toNat=a:=fun a=>by simp
 cases s with
 |nil=>simp [lenR] at h
 |cons a r=>
  have ha:=a.toNat_lt
  by_cases h1:a.toNat<128
  ·simp [lenR,h1,szL];omega
  ·by_cases h2:a.toNat=129
   ·cases r with
    |nil=>simp [lenR,h2] at h
    |cons b q=>
     have hb:=b.toNat_lt;have M:a=129:=UInt8.toNat_inj.1 h2;subst M;simp [lenR] at h;have O:¬b.toNat<128:=by omega
     have h4:b.toNat<=255:=by omega
     simp [lenR,szL,O,h4];omega
   ·by_cases O:a.toNat=130
    ·rcases r with _ | ⟨b,_ | ⟨c,q⟩⟩
     ·simp [lenR,O] at h
     ·simp [lenR,O] at h
     ·have hb:=b.toNat_lt
      have hc:=c.toNat_lt;have M:a=130:=UInt8.toNat_inj.1 O;subst M;simp [lenR] at h;have g1:¬b.toNat*256+c.toNat<128:=by omega
      have g2:¬b.toNat*256+c.toNat<=255:=by omega
      have Z:UInt8.ofNat ((b.toNat*256+c.toNat) / 256)=b:=by
       rw[show(b.toNat*256+c.toNat) / 256=b.toNat by omega];simp
      have e2:UInt8.ofNat (b.toNat*256+c.toNat)=c:=by
       apply UInt8.toNat_inj.1;simp
      simp only[lenR,szL];simp [g1,g2,Z,e2];omega
    ·simp [lenR,h1,h2,O] at h
theorem Ek (t:UInt8) (p r:L) (h:p.length<=65535):BG t (elem t p++r)=some (p,r):=by
 show BG t (t :: (szL p.length++p++r))=_;rw[List.append_assoc,BG,VT _ h];simp;omega
theorem Jj {t:UInt8} {s b r:L} (h:BG t s=some (b,r)):s=elem t b++r/\b.length<=65535:=by
 cases s with
 |nil=>simp [BG] at h
 |cons a s=>
  simp only[BG] at h
  by_cases hc:a=t/\(lenR s).2.2=true/\(lenR s).1+(lenR s).2.1<=s.length
  ·rw[if_pos hc] at h
   obtain⟨rfl,Z,h2⟩:=hc;obtain⟨M,g2,g3,g4⟩:=NK Z;injection h with h;injection h with hb hr;have O:b.length=(lenR s).1:=by rw[<-hb];simp;omega
   refine⟨?_,by omega⟩;rw[elem,O,M,<-hb,<-hr,List.cons_append,List.append_assoc,List.take_append_drop,List.take_append_drop]
  ·rw[if_neg hc] at h;cases h
theorem VU {t:UInt8} {p q O Z:L} (hp:p.length<=65535) (hq:q.length<=65535) (h:elem t p++O=elem t q++Z):p=q/\O=Z:=by
 have M:=Ek t p O hp;rw[h,Ek t q Z hq] at M;injection M with M;injection M with M h2;exact⟨M.symm,h2.symm⟩
theorem Fz (t:UInt8) (p:L) (hp:p.length<=65535) (k:Nat) (hk:k<(elem t p).length):BG t ((elem t p).take k)=none:=by
 cases h:BG t ((elem t p).take k) with
 |none=>rfl
 |some x=>
  obtain⟨b,r⟩:=x;obtain⟨O,Z⟩:=Jj h;have M:elem t p++[]=elem t b++(r++(elem t p).drop k):=by
   rw[<-List.append_assoc,<-O,List.take_append_drop,List.append_nil]
  obtain⟨_,h4⟩:=VU hp Z M;have h5:=congrArg List.length h4;simp at h5;omega
theorem CJ {t:UInt8} {s b r:L} (h:BG t s=some (b,r)):b.length<=s.length/\r.length<=s.length:=by
 have:=congrArg List.length (Jj h).1;simp [EE] at this;omega
theorem Du (t:UInt8) (c:Option L):((AN t c).getD []).length<=(c.getD []).length/\((Bc t c).getD []).length<=(c.getD []).length:=by
 cases c with
 |none=>simp [AN,Bc]
 |some s=>
  cases h:BG t s with
  |none=>obtain⟨M,O⟩:=Mm h;rw[M,O];simp
  |some x=>
   obtain⟨b,r⟩:=x;obtain⟨M,O⟩:=GH h;rw[M,O];exact CJ h
theorem Sr (t:UInt8) (c:Option L) (h:AN t c=none):Bc t c=none:=by
 unfold AN at h;unfold Bc;rw[Option.map_eq_none_iff] at h⊢;exact h
theorem KU (n:Int):(dig (Cm n)).length<=8:=Zb _ (GI n)
theorem Ze (n:Int) (r:L):intC (some (encI n++r))=(Cm n,some r):=by
 have h:=Ek 2 (dig (Cm n)) r (by have:=KU n;omega);simp only[intC,AN,Bc,encI,Option.bind_some,h,Option.map_some,Zd _ (GI n)]
end DerP
namespace DerC
open Go.RowKit Af DerP
attribute [local go_sem] Et List.getElem_cons_zero List.getElem_cons_succ Cg Ch DB
def AV (w w':World):Prop:=∃n,w'=w.drewN n
theorem AV.refl (w:World):AV w w:=⟨0,rfl⟩
def KV:Option L->Array Value
 |none=>#[.string ⟨([]:List UInt8).toArray⟩,.bool true]
 |some s=>#[.string ⟨s.toArray⟩,.bool false]
def Cur (w:World) (g:Nat) (c:Option L):Prop:=Blk w g 257 (KV c)
theorem NL (s:L) (w:World):Calls Tryz.prog 237 #[.string ⟨s.toArray⟩] w fun e w'=>
  e=.returned (.tuple #[.int .i64 ((lenR s).1:Int),.int .i64 ((lenR s).2.1:Int),.bool (lenR s).2.2])/\AV w w':=by
 cases s with
 |nil=>
  go_enter Tryz.func237,Tryz.ntmps237
  go_wp2
  go_ret3
  exact⟨rfl,AV.refl _⟩
 |cons a r=>
  by_cases h1:a.toNat<128
  ·have g1:decide ((a.toNat:Int)<128)=true:=by simp;omega
   have E:Hid (lenR (a :: r)=(a.toNat,1,true)):=Kk h1;have H:=I h1;clear h1;have ha:=Fs a;go_enter Tryz.func237,Tryz.ntmps237
   go_wp2
   go_ret3
   exact⟨by rw[E.o];rfl,AV.refl _⟩
  ·have g1:decide ((a.toNat:Int)<128)=false:=by simp;omega
   by_cases h2:a.toNat=129
   ·have g2:((a.toNat:Int)==129)=true:=by simp;omega
    have Z:((a.toNat:Int)==130)=false:=by simp;omega
    have H1:=I h1;clear h1;have O:=I h2;clear h2;cases r with
    |nil=>
     have E:Hid (lenR [a]=(0,0,false)):=Il O.o;go_enter Tryz.func237,Tryz.ntmps237
     go_wp2
     go_ret3
     exact⟨by rw[E.o];rfl,AV.refl _⟩
    |cons b q=>
     have hb:=Fs b;have E:Hid (lenR (a :: b :: q)=(b.toNat,2,decide (128<=b.toNat))):=Pm O.o;have F:Hid (decide ((128:Int)<=(b.toNat:Int))=decide (128<=b.toNat)):=by show _=_;simp;omega
     go_enter Tryz.func237,Tryz.ntmps237
     go_wp2
     go_ret3
     exact⟨by rw[E.o,<-F.o];rfl,AV.refl _⟩
   ·have g2:((a.toNat:Int)==129)=false:=by simp;omega
    by_cases h3:a.toNat=130
    ·have Z:((a.toNat:Int)==130)=true:=by simp;omega
     have H1:=I h1;clear h1;have O:=I h2;clear h2;have M:=I h3;clear h3;rcases r with _ | ⟨b,_ | ⟨c,q⟩⟩
     ·have E:Hid (lenR [a]=(0,0,false)):=Im M.o
      go_enter Tryz.func237,Tryz.ntmps237
      go_wp2
      go_ret3
      exact⟨by rw[E.o];rfl,AV.refl _⟩
     ·have E:Hid (lenR [a,b]=(0,0,false)):=Io M.o
      go_enter Tryz.func237,Tryz.ntmps237
      go_wp2
      go_ret3
      exact⟨by rw[E.o];rfl,AV.refl _⟩
     ·have hb:=Fs b
      have hc:=Fs c;have E:Hid (lenR (a :: b :: c :: q)=(b.toNat*256+c.toNat,3,decide (255<b.toNat*256+c.toNat))):=Pn M.o;go_enter Tryz.func237,Tryz.ntmps237
      go_wp2
      go_quiet (fail)
      go_wp2
      go_ret3
      have F:(decide ((255:Int)<(b.toNat:Int)*256+(c.toNat:Int)))=decide (255<b.toNat*256+c.toNat):=by simp;omega
      have G:=RE b.toNat c.toNat (by omega) (by omega);exact⟨by rw[E.o,<-F,<-G];simp [G],⟨_,rfl⟩⟩
    ·have Z:((a.toNat:Int)==130)=false:=by simp;omega
     have E:Hid (lenR (a :: r)=(0,0,false)):=Mo h1 h2 h3;have H1:=I h1;clear h1;have O:=I h2;clear h2;have M:=I h3;clear h3;go_enter Tryz.func237,Tryz.ntmps237
     go_wp2
     go_ret3
     exact⟨by rw[E.o];rfl,AV.refl _⟩
theorem Jk {w:World} {g:Nat} {c:Option L} (h:Cur w g c):w.cell? ⟨g,0,none⟩=some (.string ⟨(c.getD []).toArray⟩)/\w.cell? ⟨g,1,none⟩=some (.bool (!c.isSome)):=by
 have M:=h.cell 0;have O:=h.cell 1;cases c<;>exact⟨M,O⟩
theorem Kl {w:World} {g:Nat} {c:Option L} (h:Cur w g c):w.frozen? ⟨g,0,none⟩=false/\w.frozen? ⟨g,1,none⟩=false:=⟨h.frozen 0,h.frozen 1⟩
theorem KW (g:Nat) (c:Option L) (w:World) (h:Cur w g c):Calls Tryz.prog 200 #[.pointer (some ⟨g,0,none⟩)] w fun e w'=>e=.returned (.bool c.isSome)/\w=w':=by
 obtain⟨_,M⟩:=Jk h;go_enter Tryz.func200,Tryz.ntmps200
 go_wp2
 go_ret;exact⟨by simp,rfl⟩
theorem Po (g:Nat) (c:Option L) (w:World) (h:Cur w g c):Calls Tryz.prog 202 #[.pointer (some ⟨g,0,none⟩)] w fun e w'=>e=.returned (.tuple #[])/\Cur w' g none/\w.grownBy w' (some g):=by
 obtain⟨O,Z⟩:=Jk h;obtain⟨M,f1⟩:=Kl h;go_enter Tryz.func202,Tryz.ntmps202
 go_wp2
 go_end0
 exact⟨rfl,by have:=(h.set 0 (.string ⟨#[]⟩)).set 1 (.bool true);cases c<;>exact this,by repeat (first | exact World.grownBy.refl _ _ | refine AM ?_ (.inl rfl) _)⟩
theorem Su (t:UInt8) (w:World):Calls Tryz.prog 201 #[.string ⟨([]:List UInt8).toArray⟩,.int .u8 t.toNat] w fun e w'=>
  e=.returned (.tuple #[.string ⟨([]:List UInt8).toArray⟩,.string ⟨([]:List UInt8).toArray⟩,.bool false])/\AV w w':=by
 go_enter Tryz.func201,Tryz.ntmps201
 go_wp2
 go_ret3
 exact⟨rfl,AV.refl _⟩
theorem NP (a t:UInt8) (r:L) (w:World) (M:a≠t):Calls Tryz.prog 201 #[.string ⟨(a :: r).toArray⟩,.int .u8 t.toNat] w fun e w'=>
  e=.returned (.tuple #[.string ⟨([]:List UInt8).toArray⟩,.string ⟨([]:List UInt8).toArray⟩,.bool false])/\AV w w':=by
 have O:((a.toNat:Int)==(t.toNat:Int))=false:=by simp;exact fun g=>M (UInt8.toNat_inj.1 (by omega))
 have Z:((a.toNat:Int) != (t.toNat:Int))=true:=by simp;exact fun g=>M (UInt8.toNat_inj.1 (by omega))
 have H:=I M;clear M;go_enter Tryz.func201,Tryz.ntmps201
 go_wp2
 go_ret3
 exact⟨rfl,AV.refl _⟩
theorem Qq (t:UInt8) (r:L) (w:World) (hs:(r.length:Int)<=100000) (hk:(lenR r).2.2=true) (O:(lenR r).1+(lenR r).2.1<=r.length):Calls Tryz.prog 201 #[.string ⟨(t :: r).toArray⟩,.int .u8 t.toNat] w fun e w'=>
  e=.returned (.tuple #[.string ⟨((r.drop (lenR r).2.1).take (lenR r).1).toArray⟩,.string ⟨((r.drop (lenR r).2.1).drop (lenR r).1).toArray⟩,.bool true])/\AV w w':=by
 have M:=Sq r;generalize hx:lenR r=x at *;obtain⟨n,k,ok⟩:=x;simp only at hk O M⊢;have av:((r.length:Int) - (k:Int)<(n:Int))=False:=by simp;omega
 have bq:decide ((r.length:Int) - (k:Int)<(n:Int))=false:=by simp;omega
 have bn:(k:Int)+(n:Int)<=(r.length:Int):=by omega
 have aw:(n:Int)<=65535:=by omega
 have bb:(k:Int)<=3:=by omega
 have Z:∀W,Calls Tryz.prog 237 #[.string ⟨r.toArray⟩] W fun e w'=>e=.returned (.tuple #[.int .i64 (n:Int),.int .i64 (k:Int),.bool true])/\AV W w':=by
  intro W;have:=NL r W;rw[hx] at this;subst hk;exact this
 have HC:=I Z;clear Z;have HX:=I hx;clear hx;have HK:=I hk;clear hk;clear O M;go_enter Tryz.func201,Tryz.ntmps201
 go_wp2_with (go_at_call 237;refine(HC.o _).mono ?_;rintro e w' ⟨rfl,q,rfl⟩)
 go_quiet (fail)
 go_wp2
 go_ret3
 exact⟨by rw[<-DB r k n,List.drop_drop];rfl,⟨_,World.drewN_drewN _ _ _⟩⟩
theorem Sw (t:UInt8) (r:L) (w:World) (hk:(lenR r).2.2=false):Calls Tryz.prog 201 #[.string ⟨(t :: r).toArray⟩,.int .u8 t.toNat] w fun e w'=>
  e=.returned (.tuple #[.string ⟨([]:List UInt8).toArray⟩,.string ⟨([]:List UInt8).toArray⟩,.bool false])/\AV w w':=by
 have M:∀W,Calls Tryz.prog 237 #[.string ⟨r.toArray⟩] W fun e w'=>e=.returned (.tuple #[.int .i64 ((lenR r).1:Int),.int .i64 ((lenR r).2.1:Int),.bool false])/\AV W w':=by
  intro W;have:=NL r W;rw[hk] at this;exact this
 have O:=I M;clear M;have Z:=I hk;clear hk;go_enter Tryz.func201,Tryz.ntmps201
 go_wp2_with (go_at_call 237;refine(O.o _).mono ?_;rintro e w' ⟨rfl,q,rfl⟩)
 go_ret3
 exact⟨rfl,⟨_,rfl⟩⟩
theorem NS (t:UInt8) (r:L) (w:World) (hs:(r.length:Int)<=100000) (hk:(lenR r).2.2=true) (hf:¬(lenR r).1+(lenR r).2.1<=r.length):Calls Tryz.prog 201 #[.string ⟨(t :: r).toArray⟩,.int .u8 t.toNat] w fun e w'=>
  e=.returned (.tuple #[.string ⟨([]:List UInt8).toArray⟩,.string ⟨([]:List UInt8).toArray⟩,.bool false])/\AV w w':=by
 have O:=Sq r;have M:∀W,Calls Tryz.prog 237 #[.string ⟨r.toArray⟩] W fun e w'=>e=.returned (.tuple #[.int .i64 ((lenR r).1:Int),.int .i64 ((lenR r).2.1:Int),.bool true])/\AV W w':=by
  intro W;have:=NL r W;rw[hk] at this;exact this
 have Z:=I M;clear M;have HK:=I hk;clear hk;generalize (lenR r).1=n at *;generalize (lenR r).2.1=k at *;have bb:decide ((r.length:Int) - (k:Int)<(n:Int))=true:=by simp;omega
 have av:(n:Int)<=65535:=by omega
 have aw:(k:Int)<=3:=by omega
 clear hf O;go_enter Tryz.func201,Tryz.ntmps201
 go_wp2_with (go_at_call 237;refine(Z.o _).mono ?_;rintro e w' ⟨rfl,q,rfl⟩)
 go_ret3
 exact⟨rfl,⟨_,rfl⟩⟩
def Pp (o:Option (L×L)):Value:=.tuple #[.string ⟨((o.map (·.1)).getD []).toArray⟩,.string ⟨((o.map (·.2)).getD []).toArray⟩,.bool o.isSome]
theorem GG (t:UInt8) (s:L) (w:World) (hs:(s.length:Int)<=100000):Calls Tryz.prog 201 #[.string ⟨s.toArray⟩,.int .u8 t.toNat] w fun e w'=>
  e=.returned (Pp (BG t s))/\AV w w':=by
 cases s with
 |nil=>exact Su t w
 |cons a r=>
  simp only[List.length_cons] at hs
  by_cases h1:a=t
  ·subst h1
   cases hk:(lenR r).2.2 with
   |false=>
    rw[show BG a (a :: r)=none by simp [BG,hk]];exact Sw a r w hk
   |true=>
    by_cases hf:(lenR r).1+(lenR r).2.1<=r.length
    ·rw[show BG a (a :: r)=some ((r.drop (lenR r).2.1).take (lenR r).1,(r.drop (lenR r).2.1).drop (lenR r).1) by rw[BG,if_pos ⟨rfl,hk,hf⟩]]
     exact Qq a r w (by omega) hk hf
    ·rw[show BG a (a :: r)=none by rw[BG,if_neg (fun h=>hf h.2.2)]]
     exact NS a r w (by omega) hk hf
  ·rw[show BG t (a :: r)=none by rw[BG,if_neg (fun h=>h1 h.1)]]
   exact NP a t r w h1
theorem IH (t:UInt8) (g:Nat) (c:Option L) (w:World) (h:Cur w g c) (hs:((c.getD []).length:Int)<=100000):Calls Tryz.prog 152 #[.pointer (some ⟨g,0,none⟩),.int .u8 t.toNat] w fun e w'=>
  e=.returned (.tuple #[.string ⟨((AN t c).getD []).toArray⟩,.bool (AN t c).isSome])/\Cur w' g (Bc t c)/\w.grownBy w' (some g):=by
 obtain⟨h0,h1⟩:=Jk h;obtain⟨f0,f1⟩:=Kl h;cases c with
 |none=>
  go_enter Tryz.func152,Tryz.ntmps152
  go_wp2_with (go_at_call 200;refine(KW _ _ _ h).mono ?_;rintro e w' ⟨rfl,rfl⟩)
  go_ret2
  exact⟨rfl,h,World.grownBy.refl _ _⟩
 |some s=>
  have M:∀W,Calls Tryz.prog 201 #[.string ⟨s.toArray⟩,.int .u8 t.toNat] W fun e w'=>e=.returned (Pp (BG t s))/\AV W w':=fun W=>GG t s W hs
  cases hx:BG t s with
  |none=>
   rw[hx] at M;simp only[Pp,Option.map_none,Option.getD_none,Option.isSome_none] at M;have HC:=I M;clear M;have HX:=I hx;clear hx;go_enter Tryz.func152,Tryz.ntmps152
   go_wp2_with (first
    |(go_at_call 200;refine(KW _ _ _ h).mono ?_;rintro e w' ⟨rfl,rfl⟩)
    |(go_at_call 201;refine(HC.o _).mono ?_;rintro e w' ⟨rfl,q,rfl⟩)
    |(go_at_call 202;refine(Po _ _ _ (h.drewN q)).mono ?_;rintro e w' ⟨rfl,av,O⟩))
   go_ret2
   obtain⟨Z,e2⟩:=Mm HX.o;rw[Z,e2];exact⟨rfl,av,(IX (World.grownBy.refl w _) q).trans O⟩
  |some x=>
   obtain⟨b,r⟩:=x;rw[hx] at M;simp only[Pp,Option.map_some,Option.getD_some,Option.isSome_some] at M;have HC:=I M;clear M;have HX:=I hx;clear hx;go_enter Tryz.func152,Tryz.ntmps152
   go_wp2_with (first
    |(go_at_call 200;refine(KW _ _ _ h).mono ?_;rintro e w' ⟨rfl,rfl⟩)
    |(go_at_call 201;refine(HC.o _).mono ?_;rintro e w' ⟨rfl,q,rfl⟩))
   go_ret2
   obtain⟨Z,e2⟩:=GH HX.o;rw[Z,e2];exact⟨rfl,(h.drewN q).set 0 (.string ⟨r.toArray⟩),AM (IX (World.grownBy.refl w _) q) (.inl rfl) _⟩
end DerC
namespace DerC
open Go.RowKit Af DerP
attribute [local go_sem] Et List.getElem_cons_zero List.getElem_cons_succ Cg Ch DB
def numV (p:Nat×Bool):Value:=.tuple #[.int .i64 (p.1:Int),.bool p.2]
theorem Qr (w:World):Calls Tryz.prog 203 #[.string ⟨([]:List UInt8).toArray⟩] w fun e w'=>e=.returned (numV (numR []))/\AV w w':=by
 go_enter Tryz.func203,Tryz.ntmps203
 go_wp2
 go_ret2
 exact⟨rfl,AV.refl _⟩
theorem NU (a:UInt8) (r:L) (h:7<r.length) (hs:(r.length:Int)<=100000) (w:World):Calls Tryz.prog 203 #[.string ⟨(a :: r).toArray⟩] w fun e w'=>e=.returned (numV (numR (a :: r)))/\AV w w':=by
 have M:decide ((8:Int)<(r.length:Int)+1)=true:=by simp;omega
 have E:=I (Sk (a:=a) h);clear h;go_enter Tryz.func203,Tryz.ntmps203
 go_wp2
 go_ret2
 exact⟨by rw[E.o];rfl,AV.refl _⟩
theorem NV (a:UInt8) (r:L) (h:¬7<r.length) (M:128<=a.toNat) (w:World):Calls Tryz.prog 203 #[.string ⟨(a :: r).toArray⟩] w fun e w'=>e=.returned (numV (numR (a :: r)))/\AV w w':=by
 have g1:decide ((8:Int)<(r.length:Int)+1)=false:=by simp;omega
 have O:decide ((128:Int)<=(a.toNat:Int))=true:=by simp;omega
 have E:=I (Sl (r:=r) M);have Z:(r.length:Int)<=7:=by omega
 clear h M;go_enter Tryz.func203,Tryz.ntmps203
 go_wp2
 go_ret2
 exact⟨by rw[E.o];rfl,AV.refl _⟩
theorem NW (a b:UInt8) (r:L) (h:¬7<(b :: r).length) (O:a.toNat=0) (M:b.toNat<128) (w:World):Calls Tryz.prog 203 #[.string ⟨(a :: b :: r).toArray⟩] w fun e w'=>e=.returned (numV (numR (a :: b :: r)))/\AV w w':=by
 simp only[List.length_cons] at h;have g1:decide ((8:Int)<(r.length:Int)+1+1)=false:=by simp;omega
 have Z:decide ((128:Int)<=(a.toNat:Int))=false:=by simp;omega
 have g3:((a.toNat:Int)==0)=true:=by simp;omega
 have g4:decide ((b.toNat:Int)<128)=true:=by simp;omega
 have g5:decide ((1:Int)<(r.length:Int)+1+1)=true:=by simp;omega
 have E:=I (Sn (r:=r) O M);have hr:(r.length:Int)<=6:=by omega
 clear h O M;go_enter Tryz.func203,Tryz.ntmps203
 go_wp2
 go_ret2
 exact⟨by rw[E.o];rfl,AV.refl _⟩
theorem NY (s : L) (ha : 0 < s.length) (h8 : s.length <= 8) (ge : s.isEmpty = false)
    (a:UInt8) (r:L) (hs:s=a :: r) (h2:a.toNat<128) (h3:¬(a.toNat=0/\Bx r=true)) (w:World):Calls Tryz.prog 203 #[.string ⟨s.toArray⟩] w fun e w'=>e=.returned (numV (numR s))/\AV w w':=by
  subst hs;have hb:∀i,val ((a :: r).take i)<9223372036854775808:=NJ h2 (by simpa using h8);have g2:decide ((128:Int)<=(a.toNat:Int))=false:=by simp;omega
  have hr:(r.length:Int)<=7:=by simp at h8;omega
  have H3:=I h3;have H2:=I h2;have Z:=I hb;have g1:decide ((8:Int)<(r.length:Int)+1)=false:=by simp;omega
  clear ge ha h8 hb h2;have key : decide ((1 : Int) < (r.length : Int) + 1) = false \/ (decide ((1 : Int) < (r.length : Int) + 1) = true /\ ((a.toNat : Int) == 0) = false) \/
      (∃h:0<r.length,decide ((1:Int)<(r.length:Int)+1)=true/\((a.toNat:Int)==0)=true/\decide (((r[0]'h).toNat:Int)<128)=false):=by
    cases r with
    |nil=>left;simp
    |cons b q=>
      right
      by_cases h0:a.toNat=0
      · right
        have:¬Bx (b :: q)=true:=fun g=>h3 ⟨h0,g⟩
        simp only[Bx,decide_eq_true_eq] at this;refine⟨by simp,by simp;omega,by simp;omega,?_⟩;simp;omega
      · left
        refine⟨by simp;omega,by simp;omega⟩
  clear h3
  by_cases hbig:4611686018427387904<val (a :: r)
  · have B1 : decide ((4611686018427387904 : Int) < ((val (a :: r) : Nat) : Int)) = true := by simp; omega
    have E:=I (Qp hbig);clear hbig;rcases key with k1 | ⟨k1,k2⟩ | ⟨k0,k1,k2,k3⟩
    all_goals
      go_enter Tryz.func203,Tryz.ntmps203
      go_wp2
      go_loop [4,33] (fun n i=>∃k:Nat,k<=r.length+1/\i=.int .i64 (k:Int)/\n=.int .i64 ((val ((a :: r).take k):Nat):Int)) (fun _ i=>r.length+1 - (intOf i).toNat)
      case atStart=>exact⟨0,by omega,rfl,rfl⟩
      case round=>
        obtain⟨k,hk,rfl,rfl⟩:=hrel
        by_cases hlt:k<r.length+1
        · have M : k < (a :: r).length := by simpa using hlt
          have V:=I (GK (a :: r) k M);have av:=Z.o k;have O:=Z.o (k+1);rw[V.o] at O;have hu:=Fs ((a :: r)[k])
          go_wp2
          refine⟨⟨k+1,by omega,by go_num,?_⟩,by simp [intOf];omega⟩;rw[RE _ _ (by omega) (by omega),V.o]
          go_num
        · obtain rfl : k = r.length + 1 := by omega
          have e:(a :: r).take (r.length+1)=a :: r:=List.take_of_length_le (by simp);rw[e];clear e hk hlt
          go_wp2
          go_ret2
          exact⟨by rw[E.o];rfl,AV.refl _⟩
  · have B1 : decide ((4611686018427387904 : Int) < ((val (a :: r) : Nat) : Int)) = false := by simp; omega
    have E:=I (So (by omega) H2.o H3.o (by omega));clear hbig;rcases key with k1 | ⟨k1,k2⟩ | ⟨k0,k1,k2,k3⟩
    all_goals
      go_enter Tryz.func203,Tryz.ntmps203
      go_wp2
      go_loop [4,33] (fun n i=>∃k:Nat,k<=r.length+1/\i=.int .i64 (k:Int)/\n=.int .i64 ((val ((a :: r).take k):Nat):Int)) (fun _ i=>r.length+1 - (intOf i).toNat)
      case atStart=>exact⟨0,by omega,rfl,rfl⟩
      case round=>
        obtain⟨k,hk,rfl,rfl⟩:=hrel
        by_cases hlt:k<r.length+1
        · have M : k < (a :: r).length := by simpa using hlt
          have V:=I (GK (a :: r) k M);have av:=Z.o k;have O:=Z.o (k+1);rw[V.o] at O;have hu:=Fs ((a :: r)[k])
          go_wp2
          refine⟨⟨k+1,by omega,by go_num,?_⟩,by simp [intOf];omega⟩;rw[RE _ _ (by omega) (by omega),V.o]
          go_num
        · obtain rfl : k = r.length + 1 := by omega
          have e:(a :: r).take (r.length+1)=a :: r:=List.take_of_length_le (by simp);rw[e];clear e hk hlt
          go_wp2
          go_ret2
          exact⟨by rw[E.o];rfl,AV.refl _⟩
theorem Qs (s:L) (hs:(s.length:Int)<=100000) (w:World):Calls Tryz.prog 203 #[.string ⟨s.toArray⟩] w fun e w'=>e=.returned (numV (numR s))/\AV w w':=by
 cases s with
 |nil=>exact Qr w
 |cons a r=>
  simp only[List.length_cons] at hs
  by_cases h1:7<r.length
  ·exact NU a r h1 (by omega) w
  ·by_cases h2:128<=a.toNat
   ·exact NV a r h1 h2 w
   ·by_cases M:a.toNat=0/\Bx r=true
    ·obtain⟨M,O⟩:=M
     cases r with
     |nil=>simp [Bx] at O
     |cons b q=>exact NW a b q h1 M (by simpa [Bx] using O) w
    ·exact NY (a :: r) (by simp) (by simp;omega) rfl a r rfl (by omega) M w
end DerC
namespace DerC
open Go.RowKit Af DerP
attribute [local go_sem] Et List.getElem_cons_zero List.getElem_cons_succ Cg Ch DB
theorem BP (g : Nat) (c : Option L) (w : World) (h : Cur w g c) (hs : ((c.getD []).length : Int) <= 100000) : Calls Tryz.prog 154 #[.pointer (some ⟨g, 0, none⟩)] w fun e w' =>
    e=.returned (.int .i64 ((intC c).1:Int))/\Cur w' g (intC c).2/\w.grownBy w' (some g):=by
  have ht : ∀ W, Cur W g c -> Calls Tryz.prog 152 #[.pointer (some ⟨g, 0, none⟩), .int .u8 2] W fun e w' =>
      e=.returned (.tuple #[.string ⟨((AN 2 c).getD []).toArray⟩,.bool (AN 2 c).isSome])/\Cur w' g (Bc 2 c)/\W.grownBy w' (some g):=fun W hW=>IH 2 g c W hW hs
  have HT:=I ht;clear ht;have M:=(Du 2 c).1;cases hb:AN 2 c with
  |none=>
    have E:=I (show intC c=(0,none) by simp only[intC,hb]);have O:=I (Sr 2 c hb);rw[hb] at HT;have HB:=I hb;clear hb M;go_enter Tryz.func154,Tryz.ntmps154
    go_wp2_with (go_at_call 152;refine(HT.o _ h).mono ?_;rintro e w' ⟨rfl,hc,Z⟩)
    go_ret;rw[E.o];exact⟨rfl,by rw[<-O.o];exact hc,Z⟩
  |some b=>
    rw[hb] at HT;rw[hb] at M;simp only[Option.getD_some] at M;have O:∀W,Calls Tryz.prog 203 #[.string ⟨b.toArray⟩] W fun e w'=>e=.returned (numV (numR b))/\AV W w':=fun W=>Qs b (by omega) W
    cases hx:numL b with
    |none=>
      have E:=I (show intC c=(0,none) by simp only[intC,hb,hx]);rw[FB hx] at O;simp only[numV] at O;have HN:=I O;clear O;have HB:=I hb;clear hb M hx;go_enter Tryz.func154,Tryz.ntmps154
      go_wp2_with (first
        |(go_at_call 152;refine(HT.o _ h).mono ?_;rintro e w1 ⟨rfl,hc,Z⟩)
        |(go_at_call 203;refine(HN.o _).mono ?_;rintro e w' ⟨rfl,q,rfl⟩)
        |(go_at_call 202;refine(Po _ _ _ (hc.drewN q)).mono ?_;rintro e w' ⟨rfl,aw,av⟩))
      go_ret;rw[E.o];exact⟨rfl,aw,(IX Z q).trans av⟩
    |some n=>
      have E:=I (show intC c=(n,Bc 2 c) by simp only[intC,hb,hx]);rw[numR,hx] at O;simp only[numV,Option.getD_some,Option.isSome_some] at O;have HN:=I O;clear O;have HB:=I hb;clear hb M hx;go_enter Tryz.func154,Tryz.ntmps154
      go_wp2_with (first
        |(go_at_call 152;refine(HT.o _ h).mono ?_;rintro e w1 ⟨rfl,hc,Z⟩)
        |(go_at_call 203;refine(HN.o _).mono ?_;rintro e w' ⟨rfl,q,rfl⟩))
      go_ret;rw[E.o];exact⟨rfl,hc.drewN q,IX Z q⟩
theorem Dl (g:Nat) (c:Option L) (w:World) (h:Cur w g c) (hs:((c.getD []).length:Int)<=100000):Calls Tryz.prog 156 #[.pointer (some ⟨g,0,none⟩)] w fun e w'=>
  (∃b cap,e=.returned (.slice (some ⟨b,0,none⟩) ((AN 4 c).getD []).length cap)/\((AN 4 c).getD []).length<=cap/\RG w' w.heap.size b ((AN 4 c).getD []))/\Cur w' g (Bc 4 c)/\w.grownBy w' (some g):=by
 have O:=fun(W:World)=>Lib.run_convert_string_bytes (P:=Tryz.prog) W 9 22 5 ⟨((AN 4 c).getD []).toArray⟩ Tryz.underlying9 Tryz.underlying22 Tryz.underlying5
 go_enter Tryz.func156,Tryz.ntmps156
 go_wp2_with (go_at_call 152;refine(IH 4 g c _ h hs).mono ?_;rintro e w1 ⟨rfl,Z,M⟩)
 go_ret;exact⟨⟨_,_,rfl,grownCap_ge _ _ _ _,by have:=Gm w1 5 ((AN 4 c).getD []);exact⟨Nat.le_trans M.size this.1,this.2⟩⟩,Z.below (Ew _ _ _),IZ M (Ew _ _ _)⟩
theorem EH (g:Nat) (c:Option L) (w:World) (h:Cur w g c) (hs:((c.getD []).length:Int)<=100000):Calls Tryz.prog 174 #[.pointer (some ⟨g,0,none⟩)] w fun e w'=>
  e=.returned (.string ⟨((AN 27 c).getD []).toArray⟩)/\Cur w' g (Bc 27 c)/\w.grownBy w' (some g):=by
 have M:((AN 27 c).getD []).length<=1000000000:=by
  have:=(Du 27 c).1;omega
 have HL:=I M;clear M;go_enter Tryz.func174,Tryz.ntmps174
 go_wp2_with (first
  |(go_at_call 152;refine(IH 27 g c _ h hs).mono ?_;rintro e w1 ⟨rfl,hc,Z⟩)
  |(go_at_call 63;refine(Nm.BZ _ _ HL.o).mono ?_;rintro e w2 ⟨rfl,O⟩))
 go_ret;exact⟨rfl,hc.below O,IZ Z O⟩
theorem GN (t:UInt8) (g:Nat) (c:Option L) (w:World) (h:Cur w g c) (hs:((c.getD []).length:Int)<=100000):Calls Tryz.prog 114 #[.pointer (some ⟨g,0,none⟩),.int .u8 t.toNat] w fun e w'=>
  (∃g',e=.returned (.pointer (some ⟨g',0,none⟩))/\w.heap.size<=g'/\Cur w' g' (AN t c))/\Cur w' g (Bc t c)/\w.grownBy w' (some g):=by
 go_enter Tryz.func114,Tryz.ntmps114
 go_wp2_with (go_at_call 152;refine(IH t g c _ h hs).mono ?_;rintro e w1 ⟨rfl,O,M⟩)
 go_ret;refine⟨⟨_,rfl,M.size,?_⟩,O.alloc _,DM M _⟩;have:=Blk.new w1 257 (KV (AN t c));cases hb:AN t c<;>(rw[hb] at this;exact this)
theorem KZ (B:Nat) (A:Option Addr) (l:L) (n cap:Nat) (w:World) (h:Rd w B A (bvs l)) (M:n=l.length):Calls Tryz.prog 113 #[.slice A n cap] w fun e w'=>
  ∃g',e=.returned (.pointer (some ⟨g',0,none⟩))/\w.heap.size<=g'/\Cur w' g' (some l)/\Below w.heap.size w w':=by
 have O:=Eu (P:=Tryz.prog) w 22 5 Tryz.underlying22 Tryz.underlying5 h n cap M 9 Tryz.underlying9;have Z:=I M;clear M;go_enter Tryz.func113,Tryz.ntmps113
 go_wp2
 go_ret;exact⟨_,rfl,Nat.le_refl _,Blk.new w 257 (KV (some l)),Ah.alloc Ag _⟩
end DerC
namespace DerLib
open Go.RowKit Af
theorem Ip:(⟨((([0,1,2,2,3,3,3,3,4,4,4,4,4,4,4,4,5,5,5,5,5,5,5,5,5,5,5,5,5,5,5,5,6,6,6,6,6,6,6,6,6,6,6,6,6,6,6,6,6,6,6,6,6,6,6,6,6,6,6,6,6,6,6,6]:List UInt8).append [7,7,7,7,7,7,7,7,7,7,7,7,7,7,7,7,7,7,7,7,7,7,7,7,7,7,7,7,7,7,7,7,7,7,7,7,7,7,7,7,7,7,7,7,7,7,7,7,7,7,7,7,7,7,7,7,7,7,7,7,7,7,7,7]).append (([8,8,8,8,8,8,8,8,8,8,8,8,8,8,8,8,8,8,8,8,8,8,8,8,8,8,8,8,8,8,8,8,8,8,8,8,8,8,8,8,8,8,8,8,8,8,8,8,8,8,8,8,8,8,8,8,8,8,8,8,8,8,8,8]:List UInt8).append [8,8,8,8,8,8,8,8,8,8,8,8,8,8,8,8,8,8,8,8,8,8,8,8,8,8,8,8,8,8,8,8,8,8,8,8,8,8,8,8,8,8,8,8,8,8,8,8,8,8,8,8,8,8,8,8,8,8,8,8,8,8,8,8])).toArray⟩:ByteArray)=Lib.len8tab:=by kernel_rfl
theorem FC (m k p:Nat) (x:Int) (hp:p=2 ^ k) (O:x=((m / p:Nat):Int)) (hs:m / p<256) (M:p<=m\/k=0) (hm:m<18446744073709551616) :
  Lib.len8 x+(k:Int)=(Lib.bitLen m:Int)/\Lib.len8 x<=8/\0<=Lib.len8 x:=by
 have l:=Lib.bitLen_le8 ⟨m / p,hs⟩;have v:=Lib.len8_eq ⟨m / p,hs⟩;simp only at l v;rw[O,v];have Z:Lib.bitLen m=k+Lib.bitLen (m / p):=by
  rcases M with h | h
  ·rw[hp] at h⊢;exact Lib.bitLen_shift k m h hm
  ·subst h;rw[hp];simp
 omega
theorem Sx (m:Nat) (w:World) (hm:m<9223372036854775808):Calls Tryz.prog 268 #[.int .u64 (m:Int)] w fun e w'=>e=.returned (.int .i64 (Lib.bitLen m:Int))/\w=w':=by
 by_cases h1:4294967296<=m
 ·by_cases h2:65536<=m / 4294967296
  ·by_cases h3:256<=m / 4294967296 / 65536
   ·have t1:decide ((4294967296:Int)<=(m:Int))=true:=decide_eq_true (by omega)
    have t2:decide ((65536:Int)<=(m:Int) / 4294967296)=true:=decide_eq_true (by omega);have Z:decide ((256:Int)<=(m:Int) / 4294967296 / 65536)=true:=decide_eq_true (by omega);have M:=FC m 56 72057594037927936 ((m:Int) / 4294967296 / 65536 / 256 % 256) rfl (by omega) (by omega) (by omega) (by omega);have O:=I M;clear M hm h1 h2 h3;go_enter Tryz.func268,Tryz.ntmps268;rw[Ip]
    go_wp2
    go_ret;have M:=O.o;refine⟨congrArg Ending.returned (congrArg (Value.int IntKind.i64) ?_),rfl⟩
    (first | (unfold wrap64;omega) | omega | skip)
   ·have t1:decide ((4294967296:Int)<=(m:Int))=true:=decide_eq_true (by omega)
    have t2:decide ((65536:Int)<=(m:Int) / 4294967296)=true:=decide_eq_true (by omega);have Z:decide ((256:Int)<=(m:Int) / 4294967296 / 65536)=false:=decide_eq_false (by omega);have M:=FC m 48 281474976710656 ((m:Int) / 4294967296 / 65536 % 256) rfl (by omega) (by omega) (by omega) (by omega);have O:=I M;clear M hm h1 h2 h3;go_enter Tryz.func268,Tryz.ntmps268;rw[Ip]
    go_wp2
    go_ret;have M:=O.o;refine⟨congrArg Ending.returned (congrArg (Value.int IntKind.i64) ?_),rfl⟩
    (first | (unfold wrap64;omega) | omega | skip)
  ·by_cases h3:256<=m / 4294967296
   ·have t1:decide ((4294967296:Int)<=(m:Int))=true:=decide_eq_true (by omega)
    have t2:decide ((65536:Int)<=(m:Int) / 4294967296)=false:=decide_eq_false (by omega);have Z:decide ((256:Int)<=(m:Int) / 4294967296)=true:=decide_eq_true (by omega);have M:=FC m 40 1099511627776 ((m:Int) / 4294967296 / 256 % 256) rfl (by omega) (by omega) (by omega) (by omega);have O:=I M;clear M hm h1 h2 h3;go_enter Tryz.func268,Tryz.ntmps268;rw[Ip]
    go_wp2
    go_ret;have M:=O.o;refine⟨congrArg Ending.returned (congrArg (Value.int IntKind.i64) ?_),rfl⟩
    (first | (unfold wrap64;omega) | omega | skip)
   ·have t1:decide ((4294967296:Int)<=(m:Int))=true:=decide_eq_true (by omega)
    have t2:decide ((65536:Int)<=(m:Int) / 4294967296)=false:=decide_eq_false (by omega);have Z:decide ((256:Int)<=(m:Int) / 4294967296)=false:=decide_eq_false (by omega);have M:=FC m 32 4294967296 ((m:Int) / 4294967296 % 256) rfl (by omega) (by omega) (by omega) (by omega);have O:=I M;clear M hm h1 h2 h3;go_enter Tryz.func268,Tryz.ntmps268;rw[Ip]
    go_wp2
    go_ret;have M:=O.o;refine⟨congrArg Ending.returned (congrArg (Value.int IntKind.i64) ?_),rfl⟩
    (first | (unfold wrap64;omega) | omega | skip)
 ·by_cases h2:65536<=m
  ·by_cases h3:256<=m / 65536
   ·have t1:decide ((4294967296:Int)<=(m:Int))=false:=decide_eq_false (by omega)
    have t2:decide ((65536:Int)<=(m:Int))=true:=decide_eq_true (by omega);have Z:decide ((256:Int)<=(m:Int) / 65536)=true:=decide_eq_true (by omega);have M:=FC m 24 16777216 ((m:Int) / 65536 / 256 % 256) rfl (by omega) (by omega) (by omega) (by omega);have O:=I M;clear M hm h1 h2 h3;go_enter Tryz.func268,Tryz.ntmps268;rw[Ip]
    go_wp2
    go_ret;have M:=O.o;refine⟨congrArg Ending.returned (congrArg (Value.int IntKind.i64) ?_),rfl⟩
    (first | (unfold wrap64;omega) | omega | skip)
   ·have t1:decide ((4294967296:Int)<=(m:Int))=false:=decide_eq_false (by omega)
    have t2:decide ((65536:Int)<=(m:Int))=true:=decide_eq_true (by omega);have Z:decide ((256:Int)<=(m:Int) / 65536)=false:=decide_eq_false (by omega);have M:=FC m 16 65536 ((m:Int) / 65536 % 256) rfl (by omega) (by omega) (by omega) (by omega);have O:=I M;clear M hm h1 h2 h3;go_enter Tryz.func268,Tryz.ntmps268;rw[Ip]
    go_wp2
    go_ret;have M:=O.o;refine⟨congrArg Ending.returned (congrArg (Value.int IntKind.i64) ?_),rfl⟩
    (first | (unfold wrap64;omega) | omega | skip)
  ·by_cases h3:256<=m
   ·have t1:decide ((4294967296:Int)<=(m:Int))=false:=decide_eq_false (by omega)
    have t2:decide ((65536:Int)<=(m:Int))=false:=decide_eq_false (by omega);have Z:decide ((256:Int)<=(m:Int))=true:=decide_eq_true (by omega);have M:=FC m 8 256 ((m:Int) / 256 % 256) rfl (by omega) (by omega) (by omega) (by omega);have O:=I M;clear M hm h1 h2 h3;go_enter Tryz.func268,Tryz.ntmps268;rw[Ip]
    go_wp2
    go_ret;have M:=O.o;refine⟨congrArg Ending.returned (congrArg (Value.int IntKind.i64) ?_),rfl⟩
    (first | (unfold wrap64;omega) | omega | skip)
   ·have t1:decide ((4294967296:Int)<=(m:Int))=false:=decide_eq_false (by omega)
    have t2:decide ((65536:Int)<=(m:Int))=false:=decide_eq_false (by omega);have Z:decide ((256:Int)<=(m:Int))=false:=decide_eq_false (by omega);have M:=FC m 0 1 ((m:Int) % 256) rfl (by omega) (by omega) (by omega) (by omega);have O:=I M;clear M hm h1 h2 h3;go_enter Tryz.func268,Tryz.ntmps268;rw[Ip]
    go_wp2
    go_ret;have M:=O.o;refine⟨congrArg Ending.returned (congrArg (Value.int IntKind.i64) ?_),rfl⟩
    (first | (unfold wrap64;omega) | omega | skip)
theorem VV (m:Nat) (w:World) (hm:m<9223372036854775808):Calls Tryz.prog 256 #[.int .u64 (m:Int)] w fun e w'=>e=.returned (.int .i64 (Lib.bitLen m:Int))/\w=w':=by
 have c1:=Sx m w hm;clear hm;go_enter Tryz.func256,Tryz.ntmps256
 go_wp2_with (go_at_call 268;refine Aj c1 ?_;rintro w' rfl)
 go_ret;exact⟨rfl,rfl⟩
end DerLib
namespace DerW
open Go.RowKit Af DerP
theorem Cp:(Tryz.prog.info? 5).map (fun i=>(i.zero,i.size,i.bytes))=some (some (.int .u8 0),1,1):=by kernel_rfl
def filled (K m j:Nat):Array Value:=(List.replicate j (bv 0)++bvs ((digK K m).drop j)).toArray
theorem Mp (K m:Nat):filled K m K=Dg K:=by
 rw[filled,List.drop_of_length_le (by rw[Bj];exact Nat.le_refl _)];simp [Dg,bvs]
theorem Qt (K m:Nat):filled K m 0=(bvs (digK K m)).toArray:=by simp [filled]
theorem Qu (K m j:Nat) (M:j<K):(filled K m (j+1)).setIfInBounds j (bv (UInt8.ofNat (m / 256 ^ (K - 1 - j))))=filled K m j:=by
 have h:=Sh (digK K m) j _ (Sg K m j M);apply Array.toList_inj.1;simp only[filled,Array.toList_setIfInBounds];rw[h];rw[List.set_append_left _ _ (by simp)];rw[List.replicate_succ',List.set_append_right _ _ (by simp)];simp [bvs]
theorem Qv (m:Nat) (hm:m<=4611686018427387904) (w:World):Calls Tryz.prog 240 #[.int .i64 (m:Int)] w fun e w'=>
  ∃g,e=.returned (.slice (some ⟨g,0,none⟩) (dig m).length (dig m).length)/\w.heap.size<=g/\Blk w' g 5 (bvs (dig m)).toArray/\Below w.heap.size w w':=by
 obtain⟨i0,bn,bb,aw,av⟩:=info_parts Cp;have bx:=GJ m hm;have hL:(dig m).length=Lib.bitLen m / 8+1:=Ht m;have hD:dig m=digK (Lib.bitLen m / 8+1) m:=rfl;rw[hL,hD];have hc:∀W,Calls Tryz.prog 256 #[.int .u64 (m:Int)] W fun e w'=>e=.returned (.int .i64 (Lib.bitLen m:Int))/\W=w':=by
  intro W;exact DerLib.VV m W (by omega)
 clear hL hD;generalize hq:Lib.bitLen m=q at *;have ca:=Gh (P:=Tryz.prog) Tryz.underlying22 bn bb aw av ((q:Int) / 8+1) (q / 8+1) (by omega) (by omega);have HC:=I hc;clear hc;have HQ:=I hq;clear hq;have bB:(m:Int)<=4611686018427387904:=by omega
 have cb:(q:Int)<=63:=by omega
 clear hm bx bn bb aw av;go_enter Tryz.func240,Tryz.ntmps240
 go_wp2_with (go_at_call 256;refine(HC.o _).mono ?_;rintro e w' ⟨rfl,rfl⟩)
 go_loopw [0,4] (fun n i wr=>∃j:Nat,j<=q / 8+1/\i=.int .i64 ((j:Int) - 1)/\n=.int .i64 ((m / 256 ^ (q / 8+1 - j):Nat):Int)/\Blk wr w.heap.size 5 (filled (q / 8+1) m j)/\Below w.heap.size w wr) (fun _ i _=>(intOf i+1).toNat)
 case atStart=>
  refine⟨q / 8+1,Nat.le_refl _,by congr 1;omega,by simp,?_,Ah.alloc Ag _⟩;rw[Mp];exact Blk.new _ _ _
 case round=>
  obtain⟨j,hj,rfl,rfl,hB,O⟩:=hrel;cases j with
  |zero=>
   have e:((0:Nat):Int) - 1 = -1:=rfl;rw[e]
   go_wp2
   go_ret;rw[Qt] at hB;exact⟨_,rfl,Nat.le_refl _,hB,O⟩
  |succ j=>
   have e:((j+1:Nat):Int) - 1=(j:Int):=by omega
   rw[e];clear e;have hf:=hB.frozen j;have M:=hB.set j (bv (UInt8.ofNat (m / 256 ^ (q / 8+1 - 1 - j))));rw[Qu _ _ _ (by omega)] at M;have Z:∃u,(filled (q / 8+1) m (j+1))[j]? = some u:=by
    have:j<(filled (q / 8+1) m (j+1)).size:=by simp [filled,bvs,Bj];omega
    exact⟨_,Array.getElem?_eq_getElem this⟩
   obtain⟨u,hu⟩:=Z;have cc:=(hB.cell j).trans hu;have hdiv:m / 256 ^ (q / 8+1 - (j+1))<=m:=Nat.div_le_self _ _;have bq:((m / 256 ^ (q / 8+1 - (j+1)):Nat):Int)<=4611686018427387904:=by omega
   have bz:=I (show m / 256 ^ (q / 8+1 - (j+1)) / 256=m / 256 ^ (q / 8+1 - j) by
    rw[Nat.div_div_eq_div_mul,<-Nat.pow_succ];congr 2;omega)
   have bs:=I (show q / 8+1 - 1 - j=q / 8+1 - (j+1) by omega);rw[bs.o] at M;generalize m / 256 ^ (q / 8+1 - (j+1))=y at *;have HS:=I M;clear M hu
   go_wp2
   refine⟨⟨j,by omega,rfl,?_,?_,O.setCell Ag _⟩,by simp [intOf]⟩
   ·rw[<-bz.o];rfl
   ·have e:bv (UInt8.ofNat y)=.int .u8 ((y:Int) % 256):=by simp [bv]
    rw[<-e];exact HS.o
theorem ml (n:Nat) (h:n<=1000000):n<=maxLen:=by unfold maxLen;omega
theorem Iq (w:World) (t:TypeId) (cs:Array Value) (l:L) (h:cs.toList=bvs l) (N:Nat) (M:w.heap.size=N):Rd (w.alloc (.cells cs t)) (N+1) (some ⟨N,0,none⟩) (bvs l):=by
 subst M;refine .inr ⟨w.heap.size,0,rfl,by omega,fun i u hu=>?_⟩;rw[Nat.zero_add,(Blk.new w t cs).cell i];rw[<-h] at hu
 simpa using hu
theorem GO (n:Nat) (h:n<256):bv (UInt8.ofNat n)=.int .u8 (n:Int):=by simp [bv];omega
theorem Qw (t : UInt8) (n : Nat) (h1 : n < 128) (w : World) : Calls Tryz.prog 239 #[.int .u8 t.toNat, .int .i64 (n : Int)] w fun e w' =>
    ∃v,e=.returned v/\w'.ownsRow w.heap.size 5 1 v (1+(szL n).length) (bvs (t :: szL n))/\Below w.heap.size w w':=by
  obtain⟨i0,bn,bb,Z,O⟩:=info_parts Cp;have cc:=Ev (P:=Tryz.prog) Tryz.underlying22 bn bb Z O ((n:Int)+4) (n+4) (by omega) (by omega);have E:=I (show szL n = [UInt8.ofNat n] by simp [szL,h1]);have g1:decide ((n:Int)<128)=true:=by simp;omega
  have hn:(n:Int)<=127:=by omega
  have av:Hid (∀o,(World.alloc (World.alloc w (.cells (Dg (n+4)) 5)) o).ownsRow w.heap.size 5 1 (.slice (some ⟨w.heap.size,0,none⟩) 0 (n+4)) 0 []):=fun o=>(World.ownsRow_made w (Dg (n+4)) (n+4) Ag (ml _ (by omega)) (by rw[Ej];omega)).alloc o
  have bB:=I (ml 1 (by omega));have bx:=I (ml 2 (by omega));have bz:=I (GO n (by omega));clear h1;go_enter Tryz.func239,Tryz.ntmps239
  go_wp2_with (first
    | (at_builtin
       refine AI _ rfl (.tmp 8) (.tmp 10) 22 rfl w.heap.size 5 i0 _ 1 Tryz.underlying22 bn bb Z O rfl (.slice (some ⟨w.heap.size,0,none⟩) 0 (n+4)) 0 [] rfl (av.o _) _ _ 1 1 (bvs [t]) rfl rfl (Iq _ 5 _ [t] rfl _ (by simp)) (BD _) bB.o (by omega) (by simp;omega) ?_;intro v1 w1 M bq cb)
    | (at_builtin
       refine AI _ rfl (.tmp 15) (.tmp 18) 22 rfl w.heap.size 5 i0 _ 1 Tryz.underlying22 bn bb Z O rfl v1 (0+1) ([]++bvs [t]) rfl (M.alloc _) _ _ 1 1 (bvs [UInt8.ofNat n]) rfl rfl (Iq w1 5 _ [UInt8.ofNat n] (by simp [bvs,bz.o]) _ rfl) (BD _) bx.o (by omega) (by simp;have:=bq.size;simp at this;omega) ?_;intro v2 w2 aw bs ca))
  go_ret;have b1:Below w.heap.size w w1:=(((Below.refl w.heap.size w).alloc Ag _).alloc (by simp) _).grown bq (by simp;omega) (by intro k hk;simp [Value.ownBlock] at hk;omega);have b2:=(b1.alloc b1.size _).grown bs (by have:=b1.size;simp;omega) (fun k hk=>(M.lt k hk).1);exact⟨v2,rfl,by rw[E.o];simpa [bvs] using aw,b2⟩
theorem VW (t : UInt8) (n : Nat) (h1 : ¬ n < 128) (h2 : n <= 255) (w : World) : Calls Tryz.prog 239 #[.int .u8 t.toNat, .int .i64 (n : Int)] w fun e w' =>
    ∃v,e=.returned v/\w'.ownsRow w.heap.size 5 1 v (1+(szL n).length) (bvs (t :: szL n))/\Below w.heap.size w w':=by
  obtain⟨i0,bn,bb,Z,O⟩:=info_parts Cp;have cc:=Ev (P:=Tryz.prog) Tryz.underlying22 bn bb Z O ((n:Int)+4) (n+4) (by omega) (by omega);have E:=I (show szL n = [129,UInt8.ofNat n] by simp [szL,h1,h2]);have g1:decide ((n:Int)<128)=false:=by simp;omega
  have g2:decide ((n:Int)<=255)=true:=by simp;omega
  have hn:(n:Int)<=255:=by omega
  have av:Hid (∀o,(World.alloc (World.alloc w (.cells (Dg (n+4)) 5)) o).ownsRow w.heap.size 5 1 (.slice (some ⟨w.heap.size,0,none⟩) 0 (n+4)) 0 []):=fun o=>(World.ownsRow_made w (Dg (n+4)) (n+4) Ag (ml _ (by omega)) (by rw[Ej];omega)).alloc o
  have bB:=I (ml 1 (by omega));have bx:=I (ml 3 (by omega));have bz:=I (GO n (by omega));clear h1 h2;go_enter Tryz.func239,Tryz.ntmps239
  go_wp2_with (first
    | (at_builtin
       refine AI _ rfl (.tmp 8) (.tmp 10) 22 rfl w.heap.size 5 i0 _ 1 Tryz.underlying22 bn bb Z O rfl (.slice (some ⟨w.heap.size,0,none⟩) 0 (n+4)) 0 [] rfl (av.o _) _ _ 1 1 (bvs [t]) rfl rfl (Iq _ 5 _ [t] rfl _ (by simp)) (BD _) bB.o (by omega) (by simp;omega) ?_;intro v1 w1 M bq cb)
    | (at_builtin
       refine AI _ rfl (.tmp 23) (.tmp 26) 22 rfl w.heap.size 5 i0 _ 1 Tryz.underlying22 bn bb Z O rfl v1 (0+1) ([]++bvs [t]) rfl (M.alloc _) _ _ 2 2 (bvs [129,UInt8.ofNat n]) rfl rfl (Iq w1 5 _ [129,UInt8.ofNat n] (by simp [bvs,bz.o];rfl) _ rfl) (BD _) bx.o (by omega) (by simp;have:=bq.size;simp at this;omega) ?_;intro v2 w2 aw bs ca))
  go_ret;have b1:Below w.heap.size w w1:=(((Below.refl w.heap.size w).alloc Ag _).alloc (by simp) _).grown bq (by simp;omega) (by intro k hk;simp [Value.ownBlock] at hk;omega);have b2:=(b1.alloc b1.size _).grown bs (by have:=b1.size;simp;omega) (fun k hk=>(M.lt k hk).1);exact⟨v2,rfl,by rw[E.o];simpa [bvs] using aw,b2⟩
theorem VX (t : UInt8) (n : Nat) (h1 : ¬ n < 128) (h2 : ¬ n <= 255) (h3 : n <= 65535) (w : World) : Calls Tryz.prog 239 #[.int .u8 t.toNat, .int .i64 (n : Int)] w fun e w' =>
    ∃v,e=.returned v/\w'.ownsRow w.heap.size 5 1 v (1+(szL n).length) (bvs (t :: szL n))/\Below w.heap.size w w':=by
  obtain⟨i0,bn,bb,Z,O⟩:=info_parts Cp;have cc:=Ev (P:=Tryz.prog) Tryz.underlying22 bn bb Z O ((n:Int)+4) (n+4) (by omega) (by omega);have E:=I (show szL n = [130,UInt8.ofNat (n / 256),UInt8.ofNat n] by simp [szL,h1,h2]);have g1:decide ((n:Int)<128)=false:=by simp;omega
  have g2:decide ((n:Int)<=255)=false:=by simp;omega
  have hn:(n:Int)<=65535:=by omega
  have av:Hid (∀o,(World.alloc (World.alloc w (.cells (Dg (n+4)) 5)) o).ownsRow w.heap.size 5 1 (.slice (some ⟨w.heap.size,0,none⟩) 0 (n+4)) 0 []):=fun o=>(World.ownsRow_made w (Dg (n+4)) (n+4) Ag (ml _ (by omega)) (by rw[Ej];omega)).alloc o
  have bB:=I (ml 1 (by omega));have bx:=I (ml 4 (by omega));have bz:=I (show bvs [130,UInt8.ofNat (n / 256),UInt8.ofNat n] = [.int .u8 130,.int .u8 ((n:Int) / 256),.int .u8 ((n:Int) % 256)] by simp [bvs,bv];omega);clear h1 h2 h3;go_enter Tryz.func239,Tryz.ntmps239
  go_wp2_with (first
    | (at_builtin
       refine AI _ rfl (.tmp 8) (.tmp 10) 22 rfl w.heap.size 5 i0 _ 1 Tryz.underlying22 bn bb Z O rfl (.slice (some ⟨w.heap.size,0,none⟩) 0 (n+4)) 0 [] rfl (av.o _) _ _ 1 1 (bvs [t]) rfl rfl (Iq _ 5 _ [t] rfl _ (by simp)) (BD _) bB.o (by omega) (by simp;omega) ?_;intro v1 w1 M bq cb)
    | (at_builtin
       refine AI _ rfl (.tmp 28) (.tmp 34) 22 rfl w.heap.size 5 i0 _ 1 Tryz.underlying22 bn bb Z O rfl v1 (0+1) ([]++bvs [t]) rfl (M.alloc _) _ _ 3 3 (bvs [130,UInt8.ofNat (n / 256),UInt8.ofNat n]) rfl rfl (Iq w1 5 _ [130,UInt8.ofNat (n / 256),UInt8.ofNat n] (by rw[bz.o]) _ rfl) (BD _) bx.o (by omega) (by simp;have:=bq.size;simp at this;omega) ?_;intro v2 w2 aw bs ca))
  go_ret;have b1:Below w.heap.size w w1:=(((Below.refl w.heap.size w).alloc Ag _).alloc (by simp) _).grown bq (by simp;omega) (by intro k hk;simp [Value.ownBlock] at hk;omega);have b2:=(b1.alloc b1.size _).grown bs (by have:=b1.size;simp;omega) (fun k hk=>(M.lt k hk).1);exact⟨v2,rfl,by rw[E.o];simpa [bvs] using aw,b2⟩
theorem VY (t:UInt8) (n:Nat) (h:n<=65535) (w:World):Calls Tryz.prog 239 #[.int .u8 t.toNat,.int .i64 (n:Int)] w fun e w'=>
  ∃v,e=.returned v/\w'.ownsRow w.heap.size 5 1 v (1+(szL n).length) (bvs (t :: szL n))/\Below w.heap.size w w':=by
 by_cases h1:n<128
 ·exact Qw t n h1 w
 ·by_cases h2:n<=255
  ·exact VW t n h1 h2 w
  ·exact VX t n h1 h2 h w
def Rds (w:World) (B:Nat) (A:Option Addr) (ls:List L):Prop:=
 ls = []\/∃b o,A=some ⟨b,o,none⟩/\b<B/\∀i l,ls[i]? = some l->∃A' c',w.cell? ⟨b,o+i,none⟩=some (.slice A' l.length c')/\Rd w B A' (bvs l)
theorem Rds.at_ {w:World} {B:Nat} {A:Option Addr} {ls:List L} (h:Rds w B A ls) {i:Nat} {l:L} (hi:ls[i]? = some l) :
  ∃b o,A=some ⟨b,o,none⟩/\b<B/\∃A' c',w.cell? ⟨b,o+i,none⟩=some (.slice A' l.length c')/\Rd w B A' (bvs l):=by
 rcases h with h | ⟨b,o,O,Z,M⟩
 ·subst h;simp at hi
 ·exact⟨b,o,O,Z,M i l hi⟩
theorem Rds.below {w w':World} {B:Nat} {A:Option Addr} {ls:List L} (h:Rds w B A ls) (O:Below B w w'):Rds w' B A ls:=by
 rcases h with h | ⟨b,o,h1,M,Z⟩
 ·exact .inl h
 ·refine .inr ⟨b,o,h1,M,fun i l hl=>?_⟩
  obtain⟨A',c',g1,g2⟩:=Z i l hl;exact⟨A',c',(O.cell (p:=⟨b,o+i,none⟩) M).trans g1,g2.below O⟩
theorem Jl (ls:List L) (k:Nat) (l:L) (h:ls[k]? = some l):(ls.take (k+1)).flatten=(ls.take k).flatten++l:=by
 obtain⟨hk,e⟩:=List.getElem?_eq_some_iff.1 h;rw[List.take_succ_eq_append_getElem hk,e];simp
theorem Jm (ls:List L) (k:Nat):(ls.take k).flatten.length<=ls.flatten.length:=by
 conv=>rhs;rw[<-List.take_append_drop k ls,List.flatten_append,List.length_append]
 omega
def pre (ls:List L) (k:Nat):Nat:=(ls.take k).flatten.length
def built (t:UInt8) (ls:List L) (k:Nat):L:=t :: szL ls.flatten.length++(ls.take k).flatten
theorem VZ (ls:List L) (k:Nat) (l:L) (h:ls[k]? = some l):pre ls (k+1)=pre ls k+l.length:=by
 rw[pre,Jl ls k l h,List.length_append];rfl
theorem bS (ls:List L) (k:Nat):pre ls k<=ls.flatten.length:=Jm ls k
theorem Zf (ls:List L):pre ls ls.length=ls.flatten.length:=by rw[pre,List.take_of_length_le Ag]
theorem Qx (t:UInt8) (ls:List L) (k:Nat) (l:L) (h:ls[k]? = some l):built t ls (k+1)=built t ls k++l:=by
 rw[built,Jl ls k l h,built,List.append_assoc]
theorem Sy (t:UInt8) (ls:List L):built t ls ls.length=elem t ls.flatten:=by
 rw[built,List.take_of_length_le Ag];rfl
theorem Wa (t:UInt8) (ls:List L) (k:Nat) (h:ls.flatten.length<=65535):(built t ls k).length<=65539:=by
 have Z:=Jm ls k;have M:=Hu ls.flatten.length;have O:(szL ls.flatten.length).length<=3:=by rw[M];split<;>(try split)<;>omega
 rw[built,List.length_append,List.length_cons];omega
theorem Dv (t : UInt8) (ls : List L) (A : Option Addr) (m c B : Nat) (w : World) (hr : Rds w B A ls) (hm : m = ls.length) (hB : B <= w.heap.size) (hl : ls.flatten.length <= 65535) (hc : ls.length <= 1000000) :
    Calls Tryz.prog 212 #[.int .u8 t.toNat,.slice A m c] w fun e w'=>
      ∃v,e=.returned v/\w'.ownsRow w.heap.size 5 1 v (elem t ls.flatten).length (bvs (elem t ls.flatten))/\Below w.heap.size w w':=by
  obtain⟨i0,cd,ck,cb,cg⟩:=info_parts Cp;have ca:=Zf ls;have hh:∀W,Calls Tryz.prog 239 #[.int .u8 t.toNat,.int .i64 ((pre ls m:Nat):Int)] W fun e w'=>
    ∃v,e=.returned v/\w'.ownsRow W.heap.size 5 1 v (built t ls 0).length (bvs (built t ls 0))/\Below W.heap.size W w':=by
    intro W;have:=VY t _ hl W;have e1:built t ls 0=t :: szL ls.flatten.length:=by simp [built]
    rw[e1,hm,ca,List.length_cons,Nat.add_comm];exact this
  have HH:=I hh;clear hh;have bz:=I (fun k=>Nat.le_trans (bS ls k) hl);have bB:=I (fun k=>Wa t ls k hl);have cc:=I (Sy t ls);have cf:=I ml;have HR:=I hr;clear hr;have cr:(m:Int)<=1000000:=by omega
  have HM:=I hm;clear hm hc hl ca;go_enter Tryz.func212,Tryz.ntmps212
  go_wp2
  go_loop [5,13] (fun n i=>∃k:Nat,k<=m/\i=.int .i64 (k:Int)/\n=.int .i64 ((pre ls k:Nat):Int)) (fun _ i=>m - (intOf i).toNat)
  case atStart=>exact⟨0,by omega,rfl,rfl⟩
  case round=>
    obtain⟨k,hk,rfl,rfl⟩:=hrel
    by_cases hlt:k<m
    · obtain ⟨l, hx⟩ : ∃ l, ls[k]? = some l := ⟨_, List.getElem?_eq_getElem (by have := HM.o; omega)⟩
      obtain⟨b,o,rfl,hb,A',c',aw,Z⟩:=HR.o.at_ hx;have bq:=bz.o k;have bn:=bz.o (k+1);have hs:=VZ ls k l hx;have HS:=I hs;have g1:decide ((65535:Int)<((pre ls k:Nat):Int)+(l.length:Int))=false:=by simp only[decide_eq_false_iff_not];omega
      have cq:(l.length:Int)<=65535:=by omega
      have cp:((pre ls k:Nat):Int)<=65535:=by omega
      clear hs bq bn hx Z
      go_wp2
      exact⟨⟨k+1,by omega,by go_num,by rw[HS.o];go_num⟩,by simp [intOf];omega⟩
    · obtain rfl : k = m := by omega
      clear hk hlt
      go_wp2_with (go_at_call 239;refine(HH.o _).mono ?_;rintro e w1 ⟨v,rfl,av,bs⟩)
      go_loopw [8,29] (fun v i wr=>∃j:Nat,j<=k/\i=.int .i64 (j:Int)/\wr.ownsRow w.heap.size 5 1 v (built t ls j).length (bvs (built t ls j))/\Below w.heap.size w wr) (fun _ i _=>k - (intOf i).toNat)
      case atStart=>exact⟨0,by omega,rfl,av,bs⟩
      case round=>
        obtain⟨j,hj,rfl,O,M⟩:=hrel
        by_cases hlt:j<k
        · obtain ⟨l, hx⟩ : ∃ l, ls[j]? = some l := ⟨_, List.getElem?_eq_getElem (by have := HM.o; omega)⟩
          obtain⟨b,o,rfl,hb,A',c',aw,Z⟩:=(HR.o.below (M.mono hB)).at_ hx;have hs:=Qx t ls j l hx;have bq:=bB.o j;have bn:=bB.o (j+1);have bx:=congrArg List.length hs;rw[List.length_append] at bx;have HS:=I hs;have cm:(built t ls j).length+l.length<=65539:=by omega
          have HO:=I O;have HQ:=I Z;clear hs bx hx bq bn O Z av
          go_wp2_with (at_builtin
                       refine AI _ rfl (.tmp 33) (.tmp 34) 22 rfl w.heap.size 5 i0 _ 1 Tryz.underlying22 cd ck cb cg rfl _ (built t ls j).length (bvs (built t ls j)) rfl HO.o B A' l.length c' (bvs l) rfl (AG l).symm HQ.o (BD _) (cf.o _ (by omega)) (by omega) M.size ?_;intro v2 w2 bb cj cn)
          refine⟨⟨j+1,by omega,by go_num,?_,M.grown cj M.size (fun i hi=>(HO.o.lt i hi).1)⟩,by simp [intOf];omega⟩;rw[HS.o,BC,List.length_append];exact bb
        · obtain rfl : j = k := by omega
          clear hj hlt
          go_wp2
          go_ret;have e:built t ls j=elem t ls.flatten:=by rw[HM.o];exact cc.o
          rw[e] at O;exact⟨_,rfl,O,M⟩
theorem NZ (w:World) (t:TypeId) (B:Nat) (A:Option Addr) (l:L) (n c:Nat) (O:n=l.length) (h:Rd w B A (bvs l)) (hB:B<=w.heap.size) :
  Rds (w.alloc (.cells #[.slice A n c] t)) (w.heap.size+1) (some ⟨w.heap.size,0,none⟩) [l]:=by
 subst O;refine .inr ⟨w.heap.size,0,rfl,by omega,fun i l' hi=>?_⟩;have M:i=0:=by
  rcases Nat.eq_zero_or_pos i with g | g
  ·exact g
  ·rw[List.getElem?_eq_none (by simp;omega)] at hi;cases hi
 subst M;injection hi with hi;subst hi;exact⟨A,c,(Blk.new w t _).cell 0,(h.alloc hB _).more (by omega)⟩
theorem Dl (l:L) (A:Option Addr) (n c B:Nat) (w:World) (hr:Rd w B A (bvs l)) (hn:n=l.length) (hB:B<=w.heap.size) (hl:l.length<=65535) :
  Calls Tryz.prog 216 #[.slice A n c] w fun e w'=>
   ∃v,e=.returned v/\w'.ownsRow w.heap.size 5 1 v (elem 4 l).length (bvs (elem 4 l))/\Below w.heap.size w w':=by
 have Z:=NZ w 22 B A l n c hn hr hB;have hw:=Dv 4 [l] (some ⟨w.heap.size,0,none⟩) 1 1 (w.heap.size+1) (w.alloc (.cells #[.slice A n c] 22)) Z rfl (by simp) (by simpa using hl) (by simp);have e:[l].flatten=l:=by simp
 rw[e] at hw;have HW:=I hw;clear hw Z hr hn hl e;go_enter Tryz.func216,Tryz.ntmps216
 go_wp2_with (go_at_call 212;refine HW.o.mono ?_;rintro e w1 ⟨v,rfl,M,O⟩)
 go_ret;refine⟨_,rfl,?_,(Below.refl w.heap.size w).alloc Ag _ |>.trans (O.mono (by simp))⟩;exact M.mono (by simp)
theorem BP (n : Int) (w : World) :
    Calls Tryz.prog 214 #[.int .i64 n] w fun e w'=>
      ∃v,e=.returned v/\w'.ownsRow w.heap.size 5 1 v (encI n).length (bvs (encI n))/\Below w.heap.size w w':=by
  have hd:=Qv (Cm n) (GI n);rw[Kj] at hd;have hw : ∀ (W : World) (g : Nat), Blk W g 5 (bvs (dig (Cm n))).toArray -> Calls Tryz.prog 212 #[.int .u8 2, .slice (some ⟨W.heap.size, 0, none⟩) 1 1] (W.alloc (.cells #[.slice (some ⟨g, 0, none⟩) (dig (Cm n)).length (dig (Cm n)).length] 22)) fun e w' =>
      ∃v,e=.returned v/\w'.ownsRow W.heap.size 5 1 v (encI n).length (bvs (encI n))/\Below W.heap.size W w':=by
    intro W g hB;have hr:Rd W W.heap.size (some ⟨g,0,none⟩) (bvs (dig (Cm n))):=.inr ⟨g,0,rfl,hB.lt,fun i u hu=>by
      rw[Nat.zero_add,hB.cell i];simpa using hu⟩
    have av:=NZ W 22 W.heap.size _ _ _ (dig (Cm n)).length rfl hr Ag;have aw:=KU n;have h:=Dv 2 [dig (Cm n)] (some ⟨W.heap.size,0,none⟩) 1 1 (W.heap.size+1) _ av rfl (by simp) (by simp;omega) (by simp);have e:[dig (Cm n)].flatten=dig (Cm n):=by simp
    rw[e] at h;refine h.mono ?_;rintro e w' ⟨v,rfl,O,M⟩;exact⟨v,rfl,O.mono (by simp),(Below.refl W.heap.size W).alloc Ag _ |>.trans (M.mono (by simp))⟩
  have HD:=I hd;have HW:=I hw;clear hd hw;go_enter Tryz.func214,Tryz.ntmps214
  go_wp2_with (first
    |(go_at_call 240;refine(HD.o _).mono ?_;rintro e w1 ⟨g,rfl,hg,hB,M⟩)
    |(go_at_call 212;refine(HW.o _ _ hB).mono ?_;rintro e w2 ⟨v,rfl,O,Z⟩))
  go_ret;exact⟨_,rfl,O.mono M.size,M.trans (Z.mono M.size)⟩
theorem EH (l : L) (w : World) (hl : l.length <= 65535) :
    Calls Tryz.prog 224 #[.string ⟨l.toArray⟩] w fun e w'=>
      ∃v,e=.returned v/\w'.ownsRow w.heap.size 5 1 v (elem 27 l).length (bvs (elem 27 l))/\Below w.heap.size w w':=by
  have aw:=fun(W:World)=>Lib.run_convert_string_bytes (P:=Tryz.prog) W 9 22 5 ⟨l.toArray⟩ Tryz.underlying9 Tryz.underlying22 Tryz.underlying5
  have hw : ∀ (W : World) (c : Nat), Calls Tryz.prog 212 #[.int .u8 27, .slice (some ⟨W.heap.size + 1, 0, none⟩) 1 1] ((Lib.bytesWorld W 5 ⟨l.toArray⟩).alloc (.cells #[.slice (some ⟨W.heap.size, 0, none⟩) l.length c] 22)) fun e w' =>
      ∃v,e=.returned v/\w'.ownsRow W.heap.size 5 1 v (elem 27 l).length (bvs (elem 27 l))/\Below W.heap.size W w':=by
    intro W c;have hs:=Lib.bytesWorld_size W 5 ⟨l.toArray⟩;have hr:=(Gm W 5 l).rd;have Z:=NZ _ 22 _ _ _ l.length c rfl hr Ag;rw[hs] at Z;have h:=Dv 27 [l] (some ⟨W.heap.size+1,0,none⟩) 1 1 (W.heap.size+1+1) _ Z rfl (by simp [hs]) (by simpa using hl) (by simp);have e:[l].flatten=l:=by simp
    rw[e] at h;refine h.mono ?_;rintro e w' ⟨v,rfl,M,av⟩;refine⟨v,rfl,M.mono (by simp [hs];omega),?_⟩;exact((Ew W _ _).alloc (by rw[hs];omega) _).trans (av.mono (by simp [hs];omega))
  have HW:=I hw;clear hw hl;have bb:=fun(W:World)=>Lib.bytesWorld_size W 5 ⟨l.toArray⟩
  go_enter Tryz.func224,Tryz.ntmps224
  go_wp2_with (go_at_call 212;refine(HW.o _ _).mono ?_;rintro e w2 ⟨v,rfl,M,O⟩)
  go_ret;exact⟨_,rfl,M,O⟩
end DerW
namespace DerK
open Go.RowKit Af DerP
attribute [local go_sem] Et List.getElem_cons_zero List.getElem_cons_succ
theorem Jn {w:World} {base n:Nat} {t:TypeId} {v:Value} {l:L} (h:w.ownsRow base t 1 v n (bvs l)) (hl:0<l.length) :
  ∃g cap,v=.slice (some ⟨g,0,none⟩) l.length cap/\base<=g/\l.length<=cap/\Rd w w.heap.size (some ⟨g,0,none⟩) (bvs l):=by
 have Z:n=l.length:=by have:=h.1;rw[AG] at this;omega
 subst Z;rcases h.2 with⟨_,h2⟩ | ⟨g,cap,cur,rfl,M,_,O,_⟩
 ·omega
 ·exact⟨g,cap,rfl,M,O,Rd.of_own h⟩
end DerK
namespace DerR
open Go.RowKit Af DerP
def BY (w:World) (l:L) (e:Ending) (w':World):Prop:=
 (∃g cap,e=.returned (.slice (some ⟨g,0,none⟩) l.length cap)/\w.heap.size<=g/\l.length<=cap/\Rd w' w'.heap.size (some ⟨g,0,none⟩) (bvs l))/\Below w.heap.size w w'
theorem FD {w w':World} {v:Value} {n:Nat} {t:TypeId} {l:L} (h:w'.ownsRow w.heap.size t 1 v n (bvs l)) (O:0<l.length) (hb:Below w.heap.size w w'):BY w l (.returned v) w':=by
 obtain⟨g,cap,rfl,Z,h2,M⟩:=DerK.Jn h O;exact⟨⟨g,cap,rfl,Z,h2,M⟩,hb⟩
theorem Jo (w:World) (t:TypeId) (cs:Array Value) (l:L) (h:cs.toList=bvs l) (n:Nat) (M:n=l.length):BY w l (.returned (.slice (some ⟨w.heap.size,0,none⟩) n n)) (w.alloc (.cells cs t)):=by
 subst M;refine⟨⟨_,_,rfl,Nat.le_refl _,Nat.le_refl _,?_⟩,Ah.alloc Ag _⟩;have:=DerW.Iq w t cs l h _ rfl
 simpa using this
theorem Wb (n:Nat) (h:n<=65535) (w:World):Calls Tryz.prog 105 #[.int .i64 (n:Int)] w (BY w (szL n)):=by
 by_cases h1:n<128
 ·have g1:decide ((n:Int)<128)=true:=by simp;omega
  have E:=I (show szL n = [UInt8.ofNat n] by simp [szL,h1]);have M:=I (DerW.GO n (by omega));have O:(n:Int)<=127:=by omega
  clear h h1;go_enter Tryz.func105,Tryz.ntmps105
  go_wp2
  go_ret;rw[E.o];exact Jo w 5 _ _ (by simp [bvs,M.o]) _ rfl
 ·have g1:decide ((n:Int)<128)=false:=by simp;omega
  by_cases h2:n<=255
  ·have Z:decide ((n:Int)<256)=true:=by simp;omega
   have E:=I (show szL n = [129,UInt8.ofNat n] by simp [szL,h1,h2]);have M:=I (DerW.GO n (by omega));have O:(n:Int)<=255:=by omega
   clear h h1 h2;go_enter Tryz.func105,Tryz.ntmps105
   go_wp2
   go_ret;rw[E.o];exact Jo w 5 _ _ (by simp [bvs,M.o];rfl) _ rfl
  ·have Z:decide ((n:Int)<256)=false:=by simp;omega
   have E:=I (show szL n = [130,UInt8.ofNat (n / 256),UInt8.ofNat n] by simp [szL,h1,h2]);have M:=I (show bvs [130,UInt8.ofNat (n / 256),UInt8.ofNat n] = [.int .u8 130,.int .u8 ((n:Int) / 256),.int .u8 ((n:Int) % 256)] by simp [bvs,bv];omega);have O:(n:Int)<=65535:=by omega
   clear h h1 h2;go_enter Tryz.func105,Tryz.ntmps105
   go_wp2
   go_ret;rw[E.o];exact Jo w 5 _ _ (by rw[M.o]) _ rfl
theorem bT (n:Nat):(szL n).length<=3:=by rw[Hu];split<;>(try split)<;>omega
theorem GP (t : UInt8) (p : L) (A : Option Addr) (n c B : Nat) (w : World) (hr : Rd w B A (bvs p)) (hn : n = p.length) (hB : B <= w.heap.size) (hp : p.length <= 65535) :
    Calls Tryz.prog 74 #[.int .u8 t.toNat,.slice A n c] w (BY w (elem t p)):=by
  obtain⟨i0,cg,cd,ca,bz⟩:=info_parts DerW.Cp;have cc:∀W:World,Calls Tryz.prog 105 #[.int .i64 (n:Int)] W (BY W (szL n)):=fun W=>Wb n (by omega) W
  have HS:=I cc;have HR:=I hr;have HN:=I hn;have HP:=I hp;have h3:=I (bT n);have bs:=I DerW.ml;have bb:Hid ((w.alloc (.cells #[.int .u8 (t.toNat:Int)] 5)).ownsRow w.heap.size 5 1 (.slice (some ⟨w.heap.size,0,none⟩) 1 1) 1 (bvs [t])):=World.ownsRow_lit w #[.int .u8 (t.toNat:Int)] 1 Ag (DerW.ml 1 (by omega)) rfl;clear cc hr hn hp;go_enter Tryz.func74,Tryz.ntmps74
  go_wp2_with (first
    | (go_at_call 105; refine (HS.o _).mono ?_; rintro e w1 ⟨⟨g1, c1, rfl, cq, cr, av⟩, cb⟩
       have bn:Below w.heap.size w w1:=((Below.refl w.heap.size w).alloc Ag _).trans (cb.mono (by simp));have cf:=I (BU bb.o cb);have cn:=I av;clear av)
    | (at_builtin
       refine AI _ rfl (.tmp 6) (.tmp 9) 22 rfl w.heap.size 5 i0 _ 1 Tryz.underlying22 cg cd ca bz rfl (.slice (some ⟨w.heap.size,0,none⟩) 1 1) 1 (bvs [t]) rfl cf.o w1.heap.size _ (szL n).length c1 (bvs (szL n)) rfl (AG _).symm cn.o (BD _) (bs.o _ (by have:=h3.o;omega)) (by have:=h3.o;omega) bn.size ?_;intro v2 w2 M cm bq;have Z:=bn.grown cm bn.size (fun k hk=>(cf.o.lt k hk).1);have bx:=I M;clear M bq)
    | (at_builtin
       refine AI _ rfl (.tmp 10) (.tmp 11) 22 rfl w.heap.size 5 i0 _ 1 Tryz.underlying22 cg cd ca bz rfl v2 (1+(szL n).length) (bvs [t]++bvs (szL n)) rfl bx.o B A n c (bvs p) rfl (by rw[AG];exact HN.o) (HR.o.below (Z.mono hB)) (BD _) (bs.o _ (by have:=h3.o;have:=HN.o;have:=HP.o;omega)) (by have:=h3.o;have:=HN.o;have:=HP.o;omega) Z.size ?_;intro v3 w3 O cp bB;have ck:=Z.grown cp Z.size (fun k hk=>(bx.o.lt k hk).1);have cj:=I O;clear O bB))
  go_ret;have aw:=cj.o;rw[HN.o,<-BC,<-BC,show [t]++szL p.length++p=elem t p from rfl] at aw;exact FD aw (by rw[EE];omega) ck
theorem Dl (p:L) (A:Option Addr) (n c B:Nat) (w:World) (hr:Rd w B A (bvs p)) (hn:n=p.length) (hB:B<=w.heap.size) (hp:p.length<=65535) :
  Calls Tryz.prog 42 #[.slice A n c] w (BY w (elem 4 p)):=by
 have H:=I (GP 4 p A n c B w hr hn hB hp);clear hr hn hB hp;go_enter Tryz.func42,Tryz.ntmps42
 go_wp2_with (go_at_call 74;refine(Calls.mono H.o ?_);rintro e w1 ⟨⟨g1,c1,rfl,O,Z,M⟩,av⟩)
 go_ret;exact⟨⟨g1,c1,rfl,O,Z,M⟩,av⟩
theorem EH (l:L) (w:World) (hl:l.length<=65535) :
  Calls Tryz.prog 43 #[.string ⟨l.toArray⟩] w (BY w (elem 27 l)):=by
 have aw:=fun(W:World)=>Lib.run_convert_string_bytes (P:=Tryz.prog) W 9 22 5 ⟨l.toArray⟩ Tryz.underlying9 Tryz.underlying22 Tryz.underlying5
 have he:∀(c:Nat),Calls Tryz.prog 74 #[.int .u8 27,.slice (some ⟨w.heap.size,0,none⟩) l.length c] (Lib.bytesWorld w 5 ⟨l.toArray⟩) (BY (Lib.bytesWorld w 5 ⟨l.toArray⟩) (elem 27 l)):=
  fun c=>GP 27 l _ _ c _ _ (Gm w 5 l).rd rfl Ag hl
 have HE:=I he;have HB:=I (Ew w 5 ⟨l.toArray⟩);clear he hl;go_enter Tryz.func43,Tryz.ntmps43
 go_wp2_with (go_at_call 74;refine(Calls.mono (HE.o _) ?_);rintro e w1 ⟨⟨g1,c1,rfl,O,Z,M⟩,av⟩)
 go_ret;exact⟨⟨g1,c1,rfl,Nat.le_trans HB.o.size O,Z,M⟩,bt HB.o av⟩
theorem Mq (j m:Nat):digK (j+1) m=UInt8.ofNat (m / 256 ^ j) :: digK j m:=by
 induction j generalizing m with
 |zero=>simp [digK]
 |succ j ih=>
  rw[digK,ih (m / 256)];rw[Nat.div_div_eq_div_mul,Nat.mul_comm,<-Nat.pow_succ]
  rfl
theorem Sz (m j:Nat) (hm:m<=4611686018427387904) (hj:1<=j) (Z:j=1\/256 ^ (j - 1)<=m) (h2:m / 256 ^ (j - 1)<128):dig m=digK j m:=by
 have hp:0<256 ^ (j - 1):=Nat.pow_pos (by omega);have O:m<128*256 ^ (j - 1):=by rw[Nat.div_lt_iff_lt_mul hp] at h2;exact h2
 have av:j<=8:=by
  rcases Nat.lt_or_ge 8 j with g | g
  ·exfalso
   rcases Z with h | h
   ·omega
   ·have:256 ^ 8<=256 ^ (j - 1):=Nat.pow_le_pow_right (by omega) (by omega)
    have e:(256:Nat) ^ 8=18446744073709551616:=by decide
    omega
  ·exact g
 have M:m<2 ^ (8*(j - 1)+7):=by
  rw[Nat.pow_add,<-Ji,Nat.mul_comm];simpa using O
 have hb:=Ed m _ (by omega) M;have hk:Lib.bitLen m / 8+1=j:=by
  rcases Z with h | h
  ·omega
  ·have h3:2 ^ (8*(j - 1))<=m:=by rw[<-Ji];exact h
   have:=Jh m (by omega) _ h3;omega
 rw[dig,hk]
theorem Qy (m j:Nat) (hm:m<=4611686018427387904) (hj:1<=j) (h0:m / 256 ^ j=0) (h2:128<=m / 256 ^ (j - 1)):dig m=0 :: digK j m:=by
 have hp:0<256 ^ (j - 1):=Nat.pow_pos (by omega);have av:128*256 ^ (j - 1)<=m:=by rw[Nat.le_div_iff_mul_le hp] at h2;exact h2
 have Z:0<256 ^ j:=Nat.pow_pos (by omega);have O:m<256 ^ j:=by
  rcases Nat.lt_or_ge m (256 ^ j) with g | g
  ·exact g
  ·have:=Nat.div_pos g Z;omega
 have M:2 ^ (8*(j - 1)+7)<=m:=by
  rw[Nat.pow_add,<-Ji,Nat.mul_comm];simpa using av
 have h3:=Jh m (by omega) _ M;have aw:=GJ m hm;have h4:=Ed m (8*j) (by omega) (by rw[<-Ji];exact O);have hk:Lib.bitLen m / 8+1=j+1:=by omega
 rw[dig,hk,Mq,h0]
 rfl
theorem Gq (m j:Nat) (Z:1<=j) (O:m / 256 ^ j=0):m / 256 ^ (j - 1)<256:=by
 have hp:0<256 ^ (j - 1):=Nat.pow_pos (by omega);have M:0<256 ^ j:=Nat.pow_pos (by omega);rw[Nat.div_lt_iff_lt_mul hp,Nat.mul_comm,<-Nat.pow_succ,show(j - 1).succ=j by omega];rcases Nat.lt_or_ge m (256 ^ j) with g | g
 ·exact g
 ·have:=Nat.div_pos g M;omega
theorem Qz {w:World} {g j m:Nat} (hj:1<=j) (Z:m / 256 ^ j=0) (h:Rd w w.heap.size (some ⟨g,0,none⟩) (bvs (digK j m))):w.cell? ⟨g,0,none⟩=some (.int .u8 ((m / 256 ^ (j - 1):Nat):Int)):=by
 have ha:=Sg j m 0 (by omega);obtain⟨b,o,e,_,M⟩:=h.at_ (i:=0) (u:=bv (UInt8.ofNat (m / 256 ^ (j - 1)))) (by simp only[bvs,List.getElem?_map,ha];rfl);injection e with e;injection e with e1 e2;subst e1 e2;have O:=Gq m j hj Z;rw[show(0+0:Nat)=0 from rfl] at M;rw[M,DerW.GO _ O]
def Left (m:Nat) (W:World) (n p:Value) (w:World):Prop:=
 ∃j g cap,1<=j/\(j=1\/256 ^ (j - 1)<=m)/\j<=9/\n=.int .i64 ((m / 256 ^ j:Nat):Int)/\p=.slice (some ⟨g,0,none⟩) j cap/\Rd w w.heap.size (some ⟨g,0,none⟩) (bvs (digK j m))/\Below W.heap.size W w
theorem BP (n : Int) (w : World) :
    Calls Tryz.prog 44 #[.int .i64 n] w (BY w (encI n)):=by
  obtain⟨i0,cp,cx,cn,ct⟩:=info_parts DerW.Cp;have cw:=Kj n;have hm:=GI n;have E:Hid (encI n=elem 2 (dig (Cm n))):=rfl;generalize Cm n=m at *;have HM:=I hm;have cP:(m:Int)<=4611686018427387904:=by omega
  have cr:=I DerW.ml;have ca:=I (show [Value.int .u8 ((m:Int) % 256)]=bvs (digK 1 m) by simp [bvs,bv,digK]);have cL:=cw.symm;clear cw hm;go_enter Tryz.func44,Tryz.ntmps44
  go_wp2
  go_loopw [0,3] (fun nv p wr=>Left m w nv p wr) (fun nv _ _=>(intOf nv).toNat)
  case atStart=>
    refine⟨1,w.heap.size,1,Nat.le_refl _,.inl rfl,by omega,by simp,rfl,?_,Ah.alloc Ag _⟩;have:=DerW.Iq w 5 #[Value.int .u8 ((m:Int) % 256)] (digK 1 m) ca.o _ rfl
    simpa using this
  case round=>
    obtain⟨j,g,cap,Z,bx,cX,rfl,rfl,bb,O⟩:=hrel
    by_cases h0:m / 256 ^ j=0
    · have cy := Qz Z h0 bb
      have hf:=Gq m j Z h0;have bz:=I bb;have HJ:=I Z;have cT:=I bx;have H0:=I h0;rw[h0];have HN:=I (Gq m j Z h0)
      by_cases h128:m / 256 ^ (j - 1)<128
      · have G := I (Sz m j HM.o Z bx h128)
        have he:∀W:World,Rd W W.heap.size (some ⟨g,0,none⟩) (bvs (digK j m))->Calls Tryz.prog 74 #[.int .u8 2,.slice (some ⟨g,0,none⟩) j cap] W (BY W (elem 2 (digK j m))):=
          fun W hW=>GP 2 (digK j m) _ j cap _ W hW (Bj j m).symm Ag (by rw[Bj];omega)
        have cg:=I he;have g5:decide ((128:Int)<=((m / 256 ^ (j - 1):Nat):Int))=false:=by simp only[decide_eq_false_iff_not];omega
        clear he bb hf h128 Z bx h0;generalize m / 256 ^ (j - 1)=a at *;have cq:(j:Int)<=9:=by omega
        have cu:0<j:=HJ.o
        go_wp2_with (go_at_call 74;refine(Calls.mono (cg.o _ bz.o) ?_);rintro e w1 ⟨⟨g1,c1,rfl,cb,cf,bs⟩,cj⟩)
        go_ret;rw[E.o,G.o];exact⟨⟨g1,c1,rfl,Nat.le_trans O.size cb,cf,bs⟩,bt O cj⟩
      · have G := I (Qy m j HM.o Z h0 (by omega))
        have he:∀(W:World) (g' c':Nat),Rd W W.heap.size (some ⟨g',0,none⟩) (bvs (0 :: digK j m))->Calls Tryz.prog 74 #[.int .u8 2,.slice (some ⟨g',0,none⟩) (0 :: digK j m).length c'] W (BY W (elem 2 (0 :: digK j m))):=
          fun W g' c' hW=>GP 2 (0 :: digK j m) _ _ c' _ W hW rfl Ag (by simp only[List.length_cons,Bj];omega)
        have cg:=I he;have g5:decide ((128:Int)<=((m / 256 ^ (j - 1):Nat):Int))=true:=by simp only[decide_eq_true_eq];omega
        have av:Hid ((wr.alloc (.cells #[.int .u8 0] 5)).ownsRow wr.heap.size 5 1 (.slice (some ⟨wr.heap.size,0,none⟩) 1 1) 1 (bvs [0])):=World.ownsRow_lit wr #[.int .u8 0] 1 Ag (DerW.ml 1 (by omega)) rfl;clear he bb hf h128 Z bx h0;generalize m / 256 ^ (j - 1)=a at *;have cq:(j:Int)<=9:=by omega
        have cu:0<j:=HJ.o
        go_wp2_with (first
          | (at_builtin
             refine AI _ rfl (.tmp 25) (.tmp 26) 22 rfl wr.heap.size 5 i0 _ 1 Tryz.underlying22 cp cx cn ct rfl (.slice (some ⟨wr.heap.size,0,none⟩) 1 1) 1 (bvs [0]) rfl av.o wr.heap.size (some ⟨g,0,none⟩) j cap (bvs (digK j m)) rfl (by rw[AG,Bj]) (bz.o.alloc Ag _) (BD _) (cr.o _ (by omega)) (by omega) (by simp) ?_;intro v2 w2 M cd bq;rw[<-BC,List.singleton_append] at M;obtain⟨g3,bB,rfl,cB,cc,bn⟩:=DerK.Jn M (by simp);have aw:Below wr.heap.size wr w2:=((Below.refl wr.heap.size wr).alloc Ag _).grown cd (by simp) (fun k hk=>by simp [Value.ownBlock] at hk;omega);clear M bq)
          |(go_at_call 74;refine(Calls.mono (cg.o _ _ _ bn) ?_);rintro e w1 ⟨⟨g1,c1,rfl,cb,cf,bs⟩,cj⟩))
        go_ret;rw[E.o,G.o];exact⟨⟨g1,c1,rfl,Nat.le_trans (Nat.le_trans O.size aw.size) cb,cf,bs⟩,bt (bt O aw) cj⟩
    · have hle : 256 ^ j <= m := by
        have cM:0<256 ^ j:=Nat.pow_pos (by omega);rcases Nat.lt_or_ge m (256 ^ j) with g' | g'
        · exact absurd (Nat.div_eq_of_lt g') h0
        · exact g'
      have cR:j<8:=by
        rcases Nat.lt_or_ge j 8 with g' | g'
        · exact g'
        · exfalso
          have:256 ^ 8<=256 ^ j:=Nat.pow_le_pow_right (by omega) g';have e:(256:Nat) ^ 8=18446744073709551616:=by decide
          have:=HM.o;omega
      have cm:=I (show m / 256 ^ j / 256=m / 256 ^ (j+1) by rw[Nat.div_div_eq_div_mul,<-Nat.pow_succ]);have ck:=I (Mq j m);have hy:m / 256 ^ j<=m:=Nat.div_le_self _ _;have bz:=I bb;have cA:=I hle;clear bb hle bx;generalize m / 256 ^ j=y at *;have g6:decide ((0:Int)<(y:Int))=true:=by simp;omega
      have cQ:(y:Int)<=4611686018427387904:=by omega
      have av:Hid ((wr.alloc (.cells #[.int .u8 ((y:Int) % 256)] 5)).ownsRow wr.heap.size 5 1 (.slice (some ⟨wr.heap.size,0,none⟩) 1 1) 1 (bvs [UInt8.ofNat y])):=by
        have:=World.ownsRow_lit (base:=wr.heap.size) (e:=5) (size:=1) wr #[.int .u8 ((y:Int) % 256)] 1 Ag (DerW.ml 1 (by omega)) rfl;rw[show(#[Value.int .u8 ((y:Int) % 256)]:Array Value).toList=bvs [UInt8.ofNat y] by simp [bvs,bv]] at this;exact this
      have HY:=I (show 0<y by omega);clear h0 hy
      go_wp2_with (at_builtin
                   refine AI _ rfl (.tmp 18) (.tmp 19) 22 rfl wr.heap.size 5 i0 _ 1 Tryz.underlying22 cp cx cn ct rfl (.slice (some ⟨wr.heap.size,0,none⟩) 1 1) 1 (bvs [UInt8.ofNat y]) rfl av.o wr.heap.size (some ⟨g,0,none⟩) j cap (bvs (digK j m)) rfl (by rw[AG,Bj]) (bz.o.alloc Ag _) (BD _) (cr.o _ (by omega)) (by omega) (by simp) ?_;intro v2 w2 M cd bq;rw[<-BC,List.singleton_append,<-ck.o] at M;obtain⟨g3,bB,rfl,cB,cc,bn⟩:=DerK.Jn M (by rw[Bj];omega);rw[Bj];have aw:Below wr.heap.size wr w2:=((Below.refl wr.heap.size wr).alloc Ag _).grown cd (by simp) (fun k hk=>by simp [Value.ownBlock] at hk;omega);clear M bq)
      refine⟨⟨j+1,g3,bB,by omega,.inr (by simpa using cA.o),by omega,?_,rfl,bn,bt O aw⟩,?_⟩
      · rw [<- cm.o]; rfl
      · have := HY.o; simp [intOf]; omega
theorem Zg {w:World} {base n:Nat} {t:TypeId} {v:Value} {l:L} (h:w.ownsRow base t 1 v n (bvs l)) :
  ∃A cap,v=.slice A l.length cap/\Rd w w.heap.size A (bvs l):=by
 have O:n=l.length:=by have:=h.1;rw[AG] at this;omega
 subst O;rcases h.2 with⟨M,Z⟩ | ⟨g,cap,cur,rfl,hg,_,hc,_⟩
 ·subst M
  have:l = []:=List.eq_nil_of_length_eq_zero Z;subst this;exact⟨none,0,rfl,.inl rfl⟩
 ·exact⟨_,cap,rfl,Rd.of_own h⟩
def FE (ls:List L) (k:Nat):L:=(ls.take k).flatten
theorem Oa (ls:List L) (k:Nat) (l:L) (h:ls[k]? = some l):FE ls (k+1)=FE ls k++l:=DerW.Jl ls k l h
theorem SC (ls:List L) (k:Nat):(FE ls k).length<=ls.flatten.length:=DerW.Jm ls k
theorem QA (ls:List L):FE ls ls.length=ls.flatten:=by rw[FE,List.take_of_length_le Ag]
theorem Dv (t : UInt8) (ls : List L) (A : Option Addr) (m c B : Nat) (w : World) (hr : DerW.Rds w B A ls) (hm : m = ls.length) (hB : B <= w.heap.size) (hl : ls.flatten.length <= 65535) (hc : ls.length <= 1000000) :
    Calls Tryz.prog 40 #[.int .u8 t.toNat,.slice A m c] w (BY w (elem t ls.flatten)):=by
  obtain⟨i0,cn,ck,cf,bB⟩:=info_parts DerW.Cp;have HR:=I hr;have cm:=I (fun k=>Nat.le_trans (SC ls k) hl);have cd:=I (QA ls);have bz:=I DerW.ml;have cr:(m:Int)<=1000000:=by omega
  have HM:=I hm;have HL:=I hl;have bx:=I (World.ownsRow_nil w w.heap.size 5 1);clear hr hm hc hl;go_enter Tryz.func40,Tryz.ntmps40
  go_wp2
  go_loopw [5,6] (fun v i wr=>∃k:Nat,k<=m/\i=.int .i64 (k:Int)/\wr.ownsRow w.heap.size 5 1 v (FE ls k).length (bvs (FE ls k))/\Below w.heap.size w wr) (fun _ i _=>m - (intOf i).toNat)
  case atStart=>exact⟨0,by omega,rfl,bx.o,Below.refl _ _⟩
  case round=>
    obtain⟨k,hk,rfl,O,M⟩:=hrel
    by_cases hlt:k<m
    · obtain ⟨l, hx⟩ : ∃ l, ls[k]? = some l := ⟨_, List.getElem?_eq_getElem (by have := HM.o; omega)⟩
      obtain⟨b,o,rfl,hb,A',c',cb,bb⟩:=(HR.o.below (M.mono hB)).at_ hx;have hs:=Oa ls k l hx;have cj:=cm.o (k+1);have bn:=congrArg List.length hs;rw[List.length_append] at bn;have HS:=I hs;have cq:(FE ls k).length+l.length<=65535:=by omega
      have HO:=I O;have HQ:=I bb;clear hs bn hx cj O bb
      go_wp2_with (at_builtin
                   refine AI _ rfl (.tmp 13) (.tmp 17) 22 rfl w.heap.size 5 i0 _ 1 Tryz.underlying22 cn ck cf bB rfl _ (FE ls k).length (bvs (FE ls k)) rfl HO.o B A' l.length c' (bvs l) rfl (AG l).symm HQ.o (BD _) (bz.o _ (by omega)) (by omega) M.size ?_;intro v2 w2 av ca cp)
      refine⟨⟨k+1,by omega,by go_num,?_,M.grown ca M.size (fun i hi=>(HO.o.lt i hi).1)⟩,by simp [intOf];omega⟩;rw[HS.o,BC,List.length_append];exact av
    · obtain rfl : k = m := by omega
      have e:FE ls k=ls.flatten:=by rw[HM.o];exact cd.o
      rw[e] at O;obtain⟨A2,bq,rfl,Z⟩:=Zg O;have HQ:=I Z;have HE:=I (GP t ls.flatten A2 ls.flatten.length bq _ wr Z rfl Ag HL.o);clear hk hlt e O Z;generalize ls.flatten.length=q at *
      go_wp2_with (go_at_call 74;refine(Calls.mono HE.o ?_);rintro e w1 ⟨⟨g1,c1,rfl,bs,cc,aw⟩,cg⟩)
      go_ret;exact⟨⟨g1,c1,rfl,Nat.le_trans M.size bs,cc,aw⟩,bt M cg⟩
def RS (w:World) (B:Nat) (A:Option Addr) (n cap:Nat) (e:Bool):Option L->Prop
 |none=>e=true
 |some l=>e=false/\n=l.length/\n<=cap/\Rd w B A (bvs l)
theorem Ky {t:UInt8} {s:L} {m k:Nat} (h:lenR s=(m,k,true)) (M:m+k<=s.length):BG t (t :: s)=some (((t :: s).drop (k+1)).take m,(t :: s).drop (k+1+m)):=by
 rw[BG,h,if_pos ⟨rfl,rfl,M⟩]
 congr 2
 rw[List.drop_drop,show k+1+m=(k+m)+1 by omega]
 rfl
end DerR
end Go.Proofs.YtiecjolmennkfaaGreat
