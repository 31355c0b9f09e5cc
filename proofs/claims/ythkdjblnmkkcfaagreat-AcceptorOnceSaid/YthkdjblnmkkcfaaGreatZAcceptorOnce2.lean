import Derived.Test.YthkdjblnmkkcfaaGreatZAcceptorOnce1
set_option maxHeartbeats 25600000
set_option maxRecDepth 100000
set_option linter.unusedVariables false
set_option linter.unusedSimpArgs false
namespace Go.Proofs.YthkdjblnmkkcfaaGreat
namespace Rg
open Nm (Ct L)
abbrev Pr:=L×L
def prB (p:Pr):Bool:=Ct p.1 p.2
structure It where
 p:Pr
 n:Nat
 k:Nat->UInt8
def hit (i:It) (p:Pr) (n:Int):Bool:=decide (i.p=p)&&decide ((i.n:Int)=n)
def De (l:List It) (p:Pr) (n:Int):Option Nat:=l.findIdx? (fun i=>hit i p n)
def BU (l:List It) (p:Pr):Nat->Option Nat
 |0=>none
 |i+1=>if (l[i]?).map (·.p)=some p then some i else BU l p i
def Gb (l:List It) (p:Pr):Option Nat:=BU l p l.length
def numO (l:List It):Option Nat->Nat
 |none=>0
 |some i=>((l[i]?).map (·.n)).getD 0
def Ci (l:List It) (p:Pr):Nat:=numO l (Gb l p)
def Num (l:List It):Prop:=∀j i,l[j]? = some i->i.n=numO l (BU l i.p j)+1
def addN (l:List It) (p:Pr):Nat:=if prB p=true then (if l.length<40 then Ci l p+1 else 0) else 0
def addE (l:List It) (p:Pr):Nat:=if prB p=true then (if l.length<40 then 0 else 13) else 1
def addL (l:List It) (p:Pr) (k:Nat->UInt8):List It:=if prB p=true then (if l.length<40 then l++[⟨p,Ci l p+1,k⟩] else l) else l
theorem Je {l:List It} (h:Num l) (p:Pr):∀i,numO l (BU l p i)<=i
 |0=>Nat.le_refl _
 |i+1=>by
  unfold BU
  split
  ·rename_i e
   obtain⟨x,M,O⟩:=Option.map_eq_some_iff.1 e;have Z:=h i x M;have h4:=Je h p i;rw[O] at Z;simp only[numO,M,Option.map_some,Option.getD_some];omega
  ·have:=Je h p i;omega
theorem YR {l:List It} (h:Num l) (p:Pr):Ci l p<=l.length:=Je h p _
theorem KS {x:It} {p:Pr} {n:Int}:hit x p n=true↔x.p=p/\(x.n:Int)=n:=by simp [hit]
theorem Ki {l:List It} {p:Pr} {n:Int} {i:Nat} (h:De l p n=some i):∃x,l[i]? = some x/\x.p=p/\(x.n:Int)=n:=by
 obtain⟨O,M,_⟩:=List.findIdx?_eq_some_iff_getElem.1 h;exact⟨l[i],List.getElem?_eq_getElem O,KS.1 M⟩
theorem KU {l:List It} {p:Pr} {n:Int} {i:Nat} {x:It} (hx:l[i]? = some x) (hp:x.p=p) (Z:(x.n:Int)=n) (O:∀(j:Nat) (y:It),j<i->l[j]? = some y->¬(y.p=p/\(y.n:Int)=n)):De l p n=some i:=by
 obtain⟨h1,h2⟩:=List.getElem?_eq_some_iff.1 hx;refine List.findIdx?_eq_some_iff_getElem.2 ⟨h1,by rw[h2];exact KS.2 ⟨hp,Z⟩,fun j M hh=>?_⟩;exact O j _ M (List.getElem?_eq_getElem (by omega)) (KS.1 hh)
theorem Kj {l:List It} {p:Pr} {n:Int} (hj:∀(j:Nat) (y:It),l[j]? = some y->¬(y.p=p/\(y.n:Int)=n)):De l p n=none:=by
 refine List.findIdx?_eq_none_iff.2 fun x Z=>?_
 obtain⟨j,M,O⟩:=List.getElem_of_mem Z;have:=hj j x (by rw[<-O];exact List.getElem?_eq_getElem M);rw[<-KS] at this
 simpa using this
end Rg
namespace DerP
abbrev L:=List UInt8
def szL (n:Nat):L:=if n<128 then [UInt8.ofNat n] else if n<=255 then [129,UInt8.ofNat n] else [130,UInt8.ofNat (n / 256),UInt8.ofNat n]
def elem (t:UInt8) (p:L):L:=t :: (szL p.length++p)
def lenR:L->Nat×Nat×Bool
 | []=>(0,0,false)
 |a :: r=>
  if a.toNat<128 then (a.toNat,1,true)
  else if a.toNat=129 then
   match r with
   | []=>(0,0,false)
   |b :: _=>(b.toNat,2,decide (128<=b.toNat))
  else if a.toNat=130 then
   match r with
   |b :: c :: _=>(b.toNat*256+c.toNat,3,decide (255<b.toNat*256+c.toNat))
   |_=>(0,0,false)
  else (0,0,false)
def BB (t:UInt8):L->Option (L×L)
 | []=>none
 |a :: s=>
  if a=t/\(lenR s).2.2=true/\(lenR s).1+(lenR s).2.1<=s.length
  then some ((s.drop (lenR s).2.1).take (lenR s).1,(s.drop (lenR s).2.1).drop (lenR s).1) else none
def Bc (t:UInt8) (c:Option L):Option L:=(c.bind (BB t)).map (·.2)
def AN (t:UInt8) (c:Option L):Option L:=(c.bind (BB t)).map (·.1)
theorem Mn {t:UInt8} {s:L} (h:BB t s=none):AN t (some s)=none/\Bc t (some s)=none:=by simp [AN,Bc,h]
theorem GF {t:UInt8} {s b r:L} (h:BB t s=some (b,r)):AN t (some s)=some b/\Bc t (some s)=some r:=by simp [AN,Bc,h]
def val (l:L):Nat:=l.foldl (fun a b=>a*256+b.toNat) 0
def Bu:L->Bool
 | []=>false
 |b :: _=>decide (b.toNat<128)
def numL:L->Option Nat
 | []=>none
 |a :: r=>
  if 7<r.length\/128<=a.toNat then none
  else if a.toNat=0/\Bu r=true then none
  else if 4611686018427387904<val (a :: r) then none
  else some (val (a :: r))
def digK:Nat->Nat->L
 |0,_=>[]
 |k+1,n=>digK k (n / 256)++[UInt8.ofNat n]
def dig (n:Nat):L:=digK (Lib.bitLen n / 8+1) n
def Cl (n:Int):Nat:=(min (max n 0) 4611686018427387904).toNat
def encI (n:Int):L:=elem 2 (dig (Cl n))
def intC (c:Option L):Nat×Option L:=
 match AN 2 c with
 |none=>(0,none)
 |some b=>match numL b with
  |none=>(0,none)
  |some n=>(n,Bc 2 c)
theorem GG (n:Int):Cl n<=4611686018427387904:=by unfold Cl;omega
theorem RY (n:Int) (M:0<=n) (O:n<=4611686018427387904):Cl n=n.toNat:=by unfold Cl;omega
theorem Kk (n:Int):((Cl n:Nat):Int)=min (max n 0) 4611686018427387904:=by unfold Cl;omega
theorem Bi (k n:Nat):(digK k n).length=k:=by
 induction k generalizing n with
 |zero=>rfl
 |succ k ih=>simp [digK,ih]
theorem KV (l:L) (b:UInt8):val (l++[b])=val l*256+b.toNat:=by simp [val]
theorem Pm (k n:Nat):val (digK k n)=n % 256 ^ k:=by
 induction k generalizing n with
 |zero=>simp [digK,val,Nat.mod_one]
 |succ k ih=>
  rw[digK,KV,ih];have M:(UInt8.ofNat n).toNat=n % 256:=by simp
  rw[M,Nat.pow_succ,Nat.mul_comm (256 ^ k) 256,Nat.mod_mul];omega
theorem Qm (l:L) (k:Nat) (h:l.length=k+1):∃m b,l=m++[b]/\m.length=k:=by
 refine⟨l.take k,l[k]'(by omega),?_,by simp;omega⟩;rw[List.take_append_getElem];rw[List.take_of_length_le (by omega)]
theorem VJ (k:Nat) (l:L) (h:l.length=k):digK k (val l)=l:=by
 induction k generalizing l with
 |zero=>rw[List.length_eq_zero_iff.1 h];rfl
 |succ k ih=>
  obtain⟨m,b,rfl,hm⟩:=Qm l k h;rw[digK,KV];have M:=b.toNat_lt;have e:(val m*256+b.toNat) / 256=val m:=by omega
  rw[e,ih m hm]
  congr 1
  simp only[List.cons.injEq,and_true];apply UInt8.toNat_inj.1;simp
theorem RZ (k n j:Nat) (h:j<k):(digK k n)[j]? = some (UInt8.ofNat (n / 256 ^ (k - 1 - j))):=by
 induction k generalizing n with
 |zero=>omega
 |succ k ih=>
  rw[digK]
  by_cases hj:j<k
  ·rw[List.getElem?_append_left (by rw[Bi];exact hj),ih _ hj]
   congr 2
   rw[Nat.div_div_eq_div_mul]
   congr 1
   rw[show k+1 - 1 - j=(k - 1 - j)+1 by omega,Nat.pow_succ,Nat.mul_comm]
  ·obtain rfl:j=k:=by omega
   rw[List.getElem?_append_right (by rw[Bi];omega),Bi];simp
theorem Sb (l:L) (j:Nat) (b:UInt8) (h:l[j]? = some b):l.drop j=b :: l.drop (j+1):=by
 obtain⟨M,e⟩:=List.getElem?_eq_some_iff.1 h;rw[List.drop_eq_getElem_cons M,e]
theorem XS (l:L):val l<256 ^ l.length:=by
 have h:=Pm l.length (val l);rw[VJ l.length l rfl] at h;have hp:0<256 ^ l.length:=Nat.pow_pos (by omega);rw[h];exact Nat.mod_lt _ hp
theorem Sc (l:L) (x:Nat):l.foldl (fun a b=>a*256+b.toNat) x=x*256 ^ l.length+val l:=by
 induction l generalizing x with
 |nil=>simp [val]
 |cons a r ih=>
  have e:val (a :: r)=a.toNat*256 ^ r.length+val r:=by
   show List.foldl _ (0*256+a.toNat) r=_;rw[ih];simp
  rw[List.foldl_cons,ih,e,List.length_cons,Nat.pow_succ,Nat.add_mul,Nat.mul_assoc,Nat.mul_comm 256,Nat.add_assoc]
theorem KW (a:UInt8) (r:L):val (a :: r)=a.toNat*256 ^ r.length+val r:=by
 show List.foldl _ (0*256+a.toNat) r=_;rw[Sc];simp
theorem Jf (x:Nat) (Z:x<18446744073709551616) (k:Nat) (h:2 ^ k<=x):k+1<=Lib.bitLen x:=by
 have M:x≠0:=by
  have:=Nat.pow_pos (n:=k) (show 0<2 by omega);omega
 obtain⟨_,_,O⟩:=Lib.bitLenAux_bounds 64 x (by simpa using Z) M;have h4:2 ^ k<2 ^ Lib.bitLen x:=Nat.lt_of_le_of_lt h O;have:=(Nat.pow_lt_pow_iff_right (a:=2) (by omega)).1 h4;omega
theorem DZ (x k:Nat) (hk:k<=64) (h:x<2 ^ k):Lib.bitLen x<=k:=Lib.bitLen_le x k hk h
theorem Mo (x:Nat) (M:x<18446744073709551616):x<2 ^ Lib.bitLen x:=by
 by_cases h0:x=0
 ·subst h0;exact Nat.pow_pos (by omega)
 ·exact(Lib.bitLenAux_bounds 64 x (by simpa using M) h0).2.2
theorem GH (n:Nat) (h:n<=4611686018427387904):Lib.bitLen n<=63:=DZ n 63 (by omega) (by omega)
theorem Hr (n:Nat):(dig n).length=Lib.bitLen n / 8+1:=Bi _ _
theorem YS (n:Nat) (h:n<=4611686018427387904):(dig n).length<=8:=by
 rw[Hr];have:=GH n h;omega
theorem Jg (k:Nat):256 ^ k=2 ^ (8*k):=by rw[Nat.pow_mul]
theorem YT (n:Nat) (h:n<=4611686018427387904):val (dig n)=n:=by
 rw[dig,Pm];apply Nat.mod_eq_of_lt;rw[Jg];refine Nat.lt_of_lt_of_le (Mo n (by omega)) (Nat.pow_le_pow_right (by omega) (by omega))
theorem YU (n:Nat) (h:n<=4611686018427387904):numL (dig n)=some n:=by
 have hv:=YT n h;have M:=Hr n;have aw:=GH n h;have av:=Mo n (by omega);cases hd:dig n with
 |nil=>rw[hd] at M;simp at M
 |cons a r=>
  rw[hd] at hv M;simp only[List.length_cons] at M;have hr:r.length=Lib.bitLen n / 8:=by omega
  have Z:=KW a r;rw[hv] at Z;have ha:a.toNat<128:=by
   rcases Nat.lt_or_ge a.toNat 128 with g | g
   ·exact g
   ·exfalso
    have O:128*256 ^ r.length<=n:=by
     have:=Nat.mul_le_mul_right (256 ^ r.length) g;omega
    have h2:2 ^ (8*r.length+7)<=n:=by
     rw[Nat.pow_add,<-Jg,Nat.mul_comm];simpa using O
    have h3:=Jf n (by omega) _ h2;omega
  have hs:¬(a.toNat=0/\Bu r=true):=by
   rintro⟨h0,O⟩;cases r with
   |nil=>simp [Bu] at O
   |cons b q=>
    simp only[Bu,decide_eq_true_eq] at O;have hq:=KW b q;have hb:=XS q;simp only[List.length_cons] at hr Z;rw[h0] at Z;have h4:n<128*256 ^ q.length:=by
     have:(b.toNat+1)*256 ^ q.length<=128*256 ^ q.length:=Nat.mul_le_mul_right _ (by omega);rw[Nat.add_mul] at this;omega
    have h5:n<2 ^ (8*q.length+7):=by
     rw[Nat.pow_add,<-Jg,Nat.mul_comm];simpa using h4
    have h6:=DZ n (8*q.length+7) (by omega) h5;omega
  simp only[numL];rw[if_neg (by omega),if_neg hs,if_neg (by omega),hv]
theorem GI (l:L) (i:Nat) (h:i<l.length):val (l.take (i+1))=val (l.take i)*256+(l[i]).toNat:=by
 rw[List.take_succ_eq_append_getElem h,KV]
theorem NJ {a:UInt8} {r:L} (ha:a.toNat<128) (hr:r.length<=7) (i:Nat):val ((a :: r).take i)<9223372036854775808:=by
 cases i with
 |zero=>simp [val]
 |succ i=>
  rw[List.take_succ_cons,KW];have h1:=XS (r.take i);have M:(r.take i).length<=7:=by have:=List.length_take_le i r;have:=List.length_take_le' i r;omega
  have O:256 ^ (r.take i).length<=256 ^ 7:=Nat.pow_le_pow_right (by omega) M;have Z:(a.toNat+1)*256 ^ (r.take i).length<=128*256 ^ 7:=Nat.mul_le_mul (by omega) O;rw[Nat.add_mul] at Z;have h5:(128:Nat)*256 ^ 7=9223372036854775808:=by decide
  omega
def numR (s:L):Nat×Bool:=((numL s).getD 0,(numL s).isSome)
theorem GJ {a:UInt8} {r:L} (h:(7<r.length\/128<=a.toNat)\/(a.toNat=0/\Bu r=true)\/4611686018427387904<val (a :: r)):numL (a :: r)=none:=by
 rw[numL]
 by_cases h1:7<r.length\/128<=a.toNat
 ·rw[if_pos h1]
 ·rw[if_neg h1]
  by_cases h2:a.toNat=0/\Bu r=true
  ·rw[if_pos h2]
  ·rw[if_neg h2]
   rcases h with h | h | h
   ·exact absurd h h1
   ·exact absurd h h2
   ·rw[if_pos h]
theorem Fx {s:L} (h:numL s=none):numR s=(0,false):=by rw[numR,h];rfl
theorem Sd {a:UInt8} {r:L} (h:7<r.length):numR (a :: r)=(0,false):=Fx (GJ (.inl (.inl h)))
theorem Sf {a:UInt8} {r:L} (h:128<=a.toNat):numR (a :: r)=(0,false):=Fx (GJ (.inl (.inr h)))
theorem Sg {a b:UInt8} {r:L} (h:a.toNat=0) (M:b.toNat<128):numR (a :: b :: r)=(0,false):=Fx (GJ (.inr (.inl ⟨h,by simpa [Bu] using M⟩)))
theorem Qn {a:UInt8} {r:L} (h:4611686018427387904<val (a :: r)):numR (a :: r)=(0,false):=Fx (GJ (.inr (.inr h)))
theorem Sh {a:UInt8} {r:L} (h1:r.length<=7) (O:a.toNat<128) (M:¬(a.toNat=0/\Bu r=true)) (Z:val (a :: r)<=4611686018427387904):numR (a :: r)=(val (a :: r),true):=by
 simp only[numR,numL];rw[if_neg (by omega),if_neg M,if_neg (by omega)];rfl
theorem Kl {a:UInt8} {r:L} (h:a.toNat<128):lenR (a :: r)=(a.toNat,1,true):=by simp [lenR,h]
theorem Ik {a:UInt8} (h:a.toNat=129):lenR [a]=(0,0,false):=by simp [lenR,h]
theorem Pn {a b:UInt8} {r:L} (h:a.toNat=129):lenR (a :: b :: r)=(b.toNat,2,decide (128<=b.toNat)):=by simp [lenR,h]
theorem Il {a:UInt8} (h:a.toNat=130):lenR [a]=(0,0,false):=by simp [lenR,h]
theorem Im {a b:UInt8} (h:a.toNat=130):lenR [a,b]=(0,0,false):=by simp [lenR,h]
theorem Po {a b c:UInt8} {r:L} (h:a.toNat=130):lenR (a :: b :: c :: r)=(b.toNat*256+c.toNat,3,decide (255<b.toNat*256+c.toNat)):=by simp [lenR,h]
theorem Mp {a:UInt8} {r:L} (Z:¬a.toNat<128) (M:¬a.toNat=129) (O:¬a.toNat=130):lenR (a :: r)=(0,0,false):=by simp [lenR,Z,M,O]
theorem Sj (s:L):(lenR s).1<=65535/\(lenR s).2.1<=3:=by
 cases s with
 |nil=>simp [lenR]
 |cons a r=>
  have M:=a.toNat_lt
  by_cases h1:a.toNat<128
  ·rw[Kl h1];simp;omega
  ·by_cases h2:a.toNat=129
   ·cases r with
    |nil=>rw[Ik h2];simp
    |cons b q=>rw[Pn h2];have:=b.toNat_lt;simp;omega
   ·by_cases h3:a.toNat=130
    ·rcases r with _ | ⟨b,_ | ⟨c,q⟩⟩
     ·rw[Il h3];simp
     ·rw[Im h3];simp
     ·rw[Po h3];have:=b.toNat_lt;have:=c.toNat_lt;simp;omega
    ·rw[Mp h1 h2 h3];simp
theorem Hs (n:Nat):(szL n).length=if n<128 then 1 else if n<=255 then 2 else 3:=by
 unfold szL;split
 ·rfl
 ·split<;>rfl
theorem Ex (t:UInt8) (p:L):(elem t p).length=1+(szL p.length).length+p.length:=by
 simp [elem];omega
theorem VK (n:Nat) (h:n<=65535) (r:L):lenR (szL n++r)=(n,(szL n).length,true):=by
 unfold szL
 by_cases h1:n<128
 ·have e:n % 256=n:=by omega
  simp [h1,lenR,e]
 ·by_cases h2:n<=255
  ·have e:(UInt8.ofNat n).toNat=n:=by simp;omega
   simp [h1,h2,lenR];omega
  ·have Z:(UInt8.ofNat (n / 256)).toNat=n / 256:=by simp;omega
   have O:(UInt8.ofNat n).toNat=n % 256:=by simp
   have M:n / 256 % 256*256+n % 256=n:=by omega
   simp [h1,h2,lenR,M];omega
theorem NK {s:L} (h:(lenR s).2.2=true):szL (lenR s).1=s.take (lenR s).2.1/\(lenR s).2.1=(szL (lenR s).1).length/\(lenR s).2.1<=s.length/\(lenR s).1<=65535:=by
 have key:∀a:UInt8,UInt8.ofNat a.toNat=a:=fun a=>by simp
 cases s with
 |nil=>simp [lenR] at h
 |cons a r=>
  have ha:=a.toNat_lt
  by_cases h1:a.toNat<128
  ·simp [lenR,h1,szL];omega
  ·by_cases h2:a.toNat=129
   ·cases r with
    |nil=>simp [lenR,h2] at h
    |cons b q=>
     have hb:=b.toNat_lt;have M:a=129:=UInt8.toNat_inj.1 h2;subst M;simp [lenR] at h;have O:¬b.toNat<128:=by omega
     have Z:b.toNat<=255:=by omega
     simp [lenR,szL,O,Z];omega
   ·by_cases O:a.toNat=130
    ·rcases r with _ | ⟨b,_ | ⟨c,q⟩⟩
     ·simp [lenR,O] at h
     ·simp [lenR,O] at h
     ·have hb:=b.toNat_lt
      have hc:=c.toNat_lt;have M:a=130:=UInt8.toNat_inj.1 O;subst M;simp [lenR] at h;have g1:¬b.toNat*256+c.toNat<128:=by omega
      have g2:¬b.toNat*256+c.toNat<=255:=by omega
      have e1:UInt8.ofNat ((b.toNat*256+c.toNat) / 256)=b:=by
       rw[show(b.toNat*256+c.toNat) / 256=b.toNat by omega];simp
      have e2:UInt8.ofNat (b.toNat*256+c.toNat)=c:=by
       apply UInt8.toNat_inj.1;simp
      simp only[lenR,szL];simp [g1,g2,e1,e2];omega
    ·simp [lenR,h1,h2,O] at h
theorem Eh (t:UInt8) (p r:L) (h:p.length<=65535):BB t (elem t p++r)=some (p,r):=by
 show BB t (t :: (szL p.length++p++r))=_;rw[List.append_assoc,BB,VK _ h];simp;omega
theorem Jh {t:UInt8} {s b r:L} (h:BB t s=some (b,r)):s=elem t b++r/\b.length<=65535:=by
 cases s with
 |nil=>simp [BB] at h
 |cons a s=>
  simp only[BB] at h
  by_cases hc:a=t/\(lenR s).2.2=true/\(lenR s).1+(lenR s).2.1<=s.length
  ·rw[if_pos hc] at h
   obtain⟨rfl,O,h2⟩:=hc;obtain⟨M,g2,g3,g4⟩:=NK O;injection h with h;injection h with hb hr;have Z:b.length=(lenR s).1:=by rw[<-hb];simp;omega
   refine⟨?_,by omega⟩;rw[elem,Z,M,<-hb,<-hr,List.cons_append,List.append_assoc,List.take_append_drop,List.take_append_drop]
  ·rw[if_neg hc] at h;cases h
theorem VL {t:UInt8} {p q Z O:L} (hp:p.length<=65535) (hq:q.length<=65535) (h:elem t p++Z=elem t q++O):p=q/\Z=O:=by
 have M:=Eh t p Z hp;rw[h,Eh t q O hq] at M;injection M with M;injection M with M h2;exact⟨M.symm,h2.symm⟩
theorem Fv (t:UInt8) (p:L) (hp:p.length<=65535) (k:Nat) (hk:k<(elem t p).length):BB t ((elem t p).take k)=none:=by
 cases h:BB t ((elem t p).take k) with
 |none=>rfl
 |some x=>
  obtain⟨b,r⟩:=x;obtain⟨h1,M⟩:=Jh h;have O:elem t p++[]=elem t b++(r++(elem t p).drop k):=by
   rw[<-List.append_assoc,<-h1,List.take_append_drop,List.append_nil]
  obtain⟨_,h4⟩:=VL hp M O;have Z:=congrArg List.length h4;simp at Z;omega
theorem CH {t:UInt8} {s b r:L} (h:BB t s=some (b,r)):b.length<=s.length/\r.length<=s.length:=by
 have:=congrArg List.length (Jh h).1;simp [Ex] at this;omega
theorem Dr (t:UInt8) (c:Option L):((AN t c).getD []).length<=(c.getD []).length/\((Bc t c).getD []).length<=(c.getD []).length:=by
 cases c with
 |none=>simp [AN,Bc]
 |some s=>
  cases h:BB t s with
  |none=>obtain⟨O,M⟩:=Mn h;rw[O,M];simp
  |some x=>
   obtain⟨b,r⟩:=x;obtain⟨O,M⟩:=GF h;rw[O,M];exact CH h
theorem Sk (t:UInt8) (c:Option L) (h:AN t c=none):Bc t c=none:=by
 unfold AN at h;unfold Bc;rw[Option.map_eq_none_iff] at h⊢;exact h
theorem KX (n:Int):(dig (Cl n)).length<=8:=YS _ (GG n)
theorem YV (n:Int) (r:L):intC (some (encI n++r))=(Cl n,some r):=by
 have h:=Eh 2 (dig (Cl n)) r (by have:=KX n;omega);simp only[intC,AN,Bc,encI,Option.bind_some,h,Option.map_some,YU _ (GG n)]
end DerP
namespace DerC
open Go.RowKit Af DerP
attribute [local go_sem] Ep List.getElem_cons_zero List.getElem_cons_succ Cg Ch Dy
def AU (w w':World):Prop:=∃n,w'=w.drewN n
theorem AU.refl (w:World):AU w w:=⟨0,rfl⟩
def KY:Option L->Array Value
 |none=>#[.string ⟨([]:List UInt8).toArray⟩,.bool true]
 |some s=>#[.string ⟨s.toArray⟩,.bool false]
def Cur (w:World) (g:Nat) (c:Option L):Prop:=Blk w g 269 (KY c)
theorem NL (s:L) (w:World):Calls Tryz.prog 238 #[.string ⟨s.toArray⟩] w fun e w'=>
  e=.returned (.tuple #[.int .i64 ((lenR s).1:Int),.int .i64 ((lenR s).2.1:Int),.bool (lenR s).2.2])/\AU w w':=by
 cases s with
 |nil=>
  go_enter Tryz.func238,Tryz.ntmps238
  go_wp2
  go_ret3
  exact⟨rfl,AU.refl _⟩
 |cons a r=>
  by_cases h1:a.toNat<128
  ·have g1:decide ((a.toNat:Int)<128)=true:=by simp;omega
   have E:Hid (lenR (a :: r)=(a.toNat,1,true)):=Kl h1;have H:=I h1;clear h1;have ha:=Fo a;go_enter Tryz.func238,Tryz.ntmps238
   go_wp2
   go_ret3
   exact⟨by rw[E.o];rfl,AU.refl _⟩
  ·have g1:decide ((a.toNat:Int)<128)=false:=by simp;omega
   by_cases h2:a.toNat=129
   ·have g2:((a.toNat:Int)==129)=true:=by simp;omega
    have Z:((a.toNat:Int)==130)=false:=by simp;omega
    have H1:=I h1;clear h1;have M:=I h2;clear h2;cases r with
    |nil=>
     have E:Hid (lenR [a]=(0,0,false)):=Ik M.o;go_enter Tryz.func238,Tryz.ntmps238
     go_wp2
     go_ret3
     exact⟨by rw[E.o];rfl,AU.refl _⟩
    |cons b q=>
     have hb:=Fo b;have E:Hid (lenR (a :: b :: q)=(b.toNat,2,decide (128<=b.toNat))):=Pn M.o;have F:Hid (decide ((128:Int)<=(b.toNat:Int))=decide (128<=b.toNat)):=by show _=_;simp;omega
     go_enter Tryz.func238,Tryz.ntmps238
     go_wp2
     go_ret3
     exact⟨by rw[E.o,<-F.o];rfl,AU.refl _⟩
   ·have g2:((a.toNat:Int)==129)=false:=by simp;omega
    by_cases h3:a.toNat=130
    ·have Z:((a.toNat:Int)==130)=true:=by simp;omega
     have H1:=I h1;clear h1;have M:=I h2;clear h2;have O:=I h3;clear h3;rcases r with _ | ⟨b,_ | ⟨c,q⟩⟩
     ·have E:Hid (lenR [a]=(0,0,false)):=Il O.o
      go_enter Tryz.func238,Tryz.ntmps238
      go_wp2
      go_ret3
      exact⟨by rw[E.o];rfl,AU.refl _⟩
     ·have E:Hid (lenR [a,b]=(0,0,false)):=Im O.o
      go_enter Tryz.func238,Tryz.ntmps238
      go_wp2
      go_ret3
      exact⟨by rw[E.o];rfl,AU.refl _⟩
     ·have hb:=Fo b
      have hc:=Fo c;have E:Hid (lenR (a :: b :: c :: q)=(b.toNat*256+c.toNat,3,decide (255<b.toNat*256+c.toNat))):=Po O.o;go_enter Tryz.func238,Tryz.ntmps238
      go_wp2
      go_quiet (fail)
      go_wp2
      go_ret3
      have F:(decide ((255:Int)<(b.toNat:Int)*256+(c.toNat:Int)))=decide (255<b.toNat*256+c.toNat):=by simp;omega
      have G:=Ry b.toNat c.toNat (by omega) (by omega);exact⟨by rw[E.o,<-F,<-G];simp [G],⟨_,rfl⟩⟩
    ·have Z:((a.toNat:Int)==130)=false:=by simp;omega
     have E:Hid (lenR (a :: r)=(0,0,false)):=Mp h1 h2 h3;have H1:=I h1;clear h1;have M:=I h2;clear h2;have O:=I h3;clear h3;go_enter Tryz.func238,Tryz.ntmps238
     go_wp2
     go_ret3
     exact⟨by rw[E.o];rfl,AU.refl _⟩
theorem Ji {w:World} {g:Nat} {c:Option L} (h:Cur w g c):w.cell? ⟨g,0,none⟩=some (.string ⟨(c.getD []).toArray⟩)/\w.cell? ⟨g,1,none⟩=some (.bool (!c.isSome)):=by
 have M:=h.cell 0;have O:=h.cell 1;cases c<;>exact⟨M,O⟩
theorem Km {w:World} {g:Nat} {c:Option L} (h:Cur w g c):w.frozen? ⟨g,0,none⟩=false/\w.frozen? ⟨g,1,none⟩=false:=⟨h.frozen 0,h.frozen 1⟩
theorem KZ (g:Nat) (c:Option L) (w:World) (h:Cur w g c):Calls Tryz.prog 208 #[.pointer (some ⟨g,0,none⟩)] w fun e w'=>e=.returned (.bool c.isSome)/\w=w':=by
 obtain⟨_,M⟩:=Ji h;go_enter Tryz.func208,Tryz.ntmps208
 go_wp2
 go_ret;exact⟨by simp,rfl⟩
theorem Pp (g:Nat) (c:Option L) (w:World) (h:Cur w g c):Calls Tryz.prog 210 #[.pointer (some ⟨g,0,none⟩)] w fun e w'=>e=.returned (.tuple #[])/\Cur w' g none/\w.grownBy w' (some g):=by
 obtain⟨M,h1⟩:=Ji h;obtain⟨Z,O⟩:=Km h;go_enter Tryz.func210,Tryz.ntmps210
 go_wp2
 go_end0
 exact⟨rfl,by have:=(h.set 0 (.string ⟨#[]⟩)).set 1 (.bool true);cases c<;>exact this,by repeat (first | exact World.grownBy.refl _ _ | refine AM ?_ (.inl rfl) _)⟩
theorem Sl (t:UInt8) (w:World):Calls Tryz.prog 209 #[.string ⟨([]:List UInt8).toArray⟩,.int .u8 t.toNat] w fun e w'=>
  e=.returned (.tuple #[.string ⟨([]:List UInt8).toArray⟩,.string ⟨([]:List UInt8).toArray⟩,.bool false])/\AU w w':=by
 go_enter Tryz.func209,Tryz.ntmps209
 go_wp2
 go_ret3
 exact⟨rfl,AU.refl _⟩
theorem NP (a t:UInt8) (r:L) (w:World) (M:a≠t):Calls Tryz.prog 209 #[.string ⟨(a :: r).toArray⟩,.int .u8 t.toNat] w fun e w'=>
  e=.returned (.tuple #[.string ⟨([]:List UInt8).toArray⟩,.string ⟨([]:List UInt8).toArray⟩,.bool false])/\AU w w':=by
 have Z:((a.toNat:Int)==(t.toNat:Int))=false:=by simp;exact fun g=>M (UInt8.toNat_inj.1 (by omega))
 have O:((a.toNat:Int) != (t.toNat:Int))=true:=by simp;exact fun g=>M (UInt8.toNat_inj.1 (by omega))
 have H:=I M;clear M;go_enter Tryz.func209,Tryz.ntmps209
 go_wp2
 go_ret3
 exact⟨rfl,AU.refl _⟩
theorem Qo (t:UInt8) (r:L) (w:World) (hs:(r.length:Int)<=100000) (hk:(lenR r).2.2=true) (M:(lenR r).1+(lenR r).2.1<=r.length):Calls Tryz.prog 209 #[.string ⟨(t :: r).toArray⟩,.int .u8 t.toNat] w fun e w'=>
  e=.returned (.tuple #[.string ⟨((r.drop (lenR r).2.1).take (lenR r).1).toArray⟩,.string ⟨((r.drop (lenR r).2.1).drop (lenR r).1).toArray⟩,.bool true])/\AU w w':=by
 have Z:=Sj r;generalize hx:lenR r=x at *;obtain⟨n,k,ok⟩:=x;simp only at hk M Z⊢;have bb:((r.length:Int) - (k:Int)<(n:Int))=False:=by simp;omega
 have bq:decide ((r.length:Int) - (k:Int)<(n:Int))=false:=by simp;omega
 have av:(k:Int)+(n:Int)<=(r.length:Int):=by omega
 have aw:(n:Int)<=65535:=by omega
 have bn:(k:Int)<=3:=by omega
 have O:∀W,Calls Tryz.prog 238 #[.string ⟨r.toArray⟩] W fun e w'=>e=.returned (.tuple #[.int .i64 (n:Int),.int .i64 (k:Int),.bool true])/\AU W w':=by
  intro W;have:=NL r W;rw[hx] at this;subst hk;exact this
 have HC:=I O;clear O;have HX:=I hx;clear hx;have HK:=I hk;clear hk;clear M Z;go_enter Tryz.func209,Tryz.ntmps209
 go_wp2_with (go_at_call 238;refine(HC.o _).mono ?_;rintro e w' ⟨rfl,q,rfl⟩)
 go_quiet (fail)
 go_wp2
 go_ret3
 exact⟨by rw[<-Dy r k n,List.drop_drop];rfl,⟨_,World.drewN_drewN _ _ _⟩⟩
theorem Sn (t:UInt8) (r:L) (w:World) (hk:(lenR r).2.2=false):Calls Tryz.prog 209 #[.string ⟨(t :: r).toArray⟩,.int .u8 t.toNat] w fun e w'=>
  e=.returned (.tuple #[.string ⟨([]:List UInt8).toArray⟩,.string ⟨([]:List UInt8).toArray⟩,.bool false])/\AU w w':=by
 have M:∀W,Calls Tryz.prog 238 #[.string ⟨r.toArray⟩] W fun e w'=>e=.returned (.tuple #[.int .i64 ((lenR r).1:Int),.int .i64 ((lenR r).2.1:Int),.bool false])/\AU W w':=by
  intro W;have:=NL r W;rw[hk] at this;exact this
 have O:=I M;clear M;have Z:=I hk;clear hk;go_enter Tryz.func209,Tryz.ntmps209
 go_wp2_with (go_at_call 238;refine(O.o _).mono ?_;rintro e w' ⟨rfl,q,rfl⟩)
 go_ret3
 exact⟨rfl,⟨_,rfl⟩⟩
theorem NS (t:UInt8) (r:L) (w:World) (hs:(r.length:Int)<=100000) (hk:(lenR r).2.2=true) (Z:¬(lenR r).1+(lenR r).2.1<=r.length):Calls Tryz.prog 209 #[.string ⟨(t :: r).toArray⟩,.int .u8 t.toNat] w fun e w'=>
  e=.returned (.tuple #[.string ⟨([]:List UInt8).toArray⟩,.string ⟨([]:List UInt8).toArray⟩,.bool false])/\AU w w':=by
 have hl:=Sj r;have M:∀W,Calls Tryz.prog 238 #[.string ⟨r.toArray⟩] W fun e w'=>e=.returned (.tuple #[.int .i64 ((lenR r).1:Int),.int .i64 ((lenR r).2.1:Int),.bool true])/\AU W w':=by
  intro W;have:=NL r W;rw[hk] at this;exact this
 have O:=I M;clear M;have HK:=I hk;clear hk;generalize (lenR r).1=n at *;generalize (lenR r).2.1=k at *;have bb:decide ((r.length:Int) - (k:Int)<(n:Int))=true:=by simp;omega
 have av:(n:Int)<=65535:=by omega
 have aw:(k:Int)<=3:=by omega
 clear Z hl;go_enter Tryz.func209,Tryz.ntmps209
 go_wp2_with (go_at_call 238;refine(O.o _).mono ?_;rintro e w' ⟨rfl,q,rfl⟩)
 go_ret3
 exact⟨rfl,⟨_,rfl⟩⟩
def Pq (o:Option (L×L)):Value:=.tuple #[.string ⟨((o.map (·.1)).getD []).toArray⟩,.string ⟨((o.map (·.2)).getD []).toArray⟩,.bool o.isSome]
theorem GD (t:UInt8) (s:L) (w:World) (hs:(s.length:Int)<=100000):Calls Tryz.prog 209 #[.string ⟨s.toArray⟩,.int .u8 t.toNat] w fun e w'=>
  e=.returned (Pq (BB t s))/\AU w w':=by
 cases s with
 |nil=>exact Sl t w
 |cons a r=>
  simp only[List.length_cons] at hs
  by_cases h1:a=t
  ·subst h1
   cases hk:(lenR r).2.2 with
   |false=>
    rw[show BB a (a :: r)=none by simp [BB,hk]];exact Sn a r w hk
   |true=>
    by_cases hf:(lenR r).1+(lenR r).2.1<=r.length
    ·rw[show BB a (a :: r)=some ((r.drop (lenR r).2.1).take (lenR r).1,(r.drop (lenR r).2.1).drop (lenR r).1) by rw[BB,if_pos ⟨rfl,hk,hf⟩]]
     exact Qo a r w (by omega) hk hf
    ·rw[show BB a (a :: r)=none by rw[BB,if_neg (fun h=>hf h.2.2)]]
     exact NS a r w (by omega) hk hf
  ·rw[show BB t (a :: r)=none by rw[BB,if_neg (fun h=>h1 h.1)]]
   exact NP a t r w h1
theorem IB (t:UInt8) (g:Nat) (c:Option L) (w:World) (h:Cur w g c) (hs:((c.getD []).length:Int)<=100000):Calls Tryz.prog 167 #[.pointer (some ⟨g,0,none⟩),.int .u8 t.toNat] w fun e w'=>
  e=.returned (.tuple #[.string ⟨((AN t c).getD []).toArray⟩,.bool (AN t c).isSome])/\Cur w' g (Bc t c)/\w.grownBy w' (some g):=by
 obtain⟨h0,h1⟩:=Ji h;obtain⟨f0,f1⟩:=Km h;cases c with
 |none=>
  go_enter Tryz.func167,Tryz.ntmps167
  go_wp2_with (go_at_call 208;refine(KZ _ _ _ h).mono ?_;rintro e w' ⟨rfl,rfl⟩)
  go_ret2
  exact⟨rfl,h,World.grownBy.refl _ _⟩
 |some s=>
  have M:∀W,Calls Tryz.prog 209 #[.string ⟨s.toArray⟩,.int .u8 t.toNat] W fun e w'=>e=.returned (Pq (BB t s))/\AU W w':=fun W=>GD t s W hs
  cases hx:BB t s with
  |none=>
   rw[hx] at M;simp only[Pq,Option.map_none,Option.getD_none,Option.isSome_none] at M;have O:=I M;clear M;have HX:=I hx;clear hx;go_enter Tryz.func167,Tryz.ntmps167
   go_wp2_with (first
    |(go_at_call 208;refine(KZ _ _ _ h).mono ?_;rintro e w' ⟨rfl,rfl⟩)
    |(go_at_call 209;refine(O.o _).mono ?_;rintro e w' ⟨rfl,q,rfl⟩)
    |(go_at_call 210;refine(Pp _ _ _ (h.drewN q)).mono ?_;rintro e w' ⟨rfl,av,Z⟩))
   go_ret2
   obtain⟨e1,e2⟩:=Mn HX.o;rw[e1,e2];exact⟨rfl,av,(IV (World.grownBy.refl w _) q).trans Z⟩
  |some x=>
   obtain⟨b,r⟩:=x;rw[hx] at M;simp only[Pq,Option.map_some,Option.getD_some,Option.isSome_some] at M;have O:=I M;clear M;have HX:=I hx;clear hx;go_enter Tryz.func167,Tryz.ntmps167
   go_wp2_with (first
    |(go_at_call 208;refine(KZ _ _ _ h).mono ?_;rintro e w' ⟨rfl,rfl⟩)
    |(go_at_call 209;refine(O.o _).mono ?_;rintro e w' ⟨rfl,q,rfl⟩))
   go_ret2
   obtain⟨e1,e2⟩:=GF HX.o;rw[e1,e2];exact⟨rfl,(h.drewN q).set 0 (.string ⟨r.toArray⟩),AM (IV (World.grownBy.refl w _) q) (.inl rfl) _⟩
end DerC
namespace DerC
open Go.RowKit Af DerP
attribute [local go_sem] Ep List.getElem_cons_zero List.getElem_cons_succ Cg Ch Dy
def numV (p:Nat×Bool):Value:=.tuple #[.int .i64 (p.1:Int),.bool p.2]
theorem Qp (w:World):Calls Tryz.prog 211 #[.string ⟨([]:List UInt8).toArray⟩] w fun e w'=>e=.returned (numV (numR []))/\AU w w':=by
 go_enter Tryz.func211,Tryz.ntmps211
 go_wp2
 go_ret2
 exact⟨rfl,AU.refl _⟩
theorem NU (a:UInt8) (r:L) (h:7<r.length) (hs:(r.length:Int)<=100000) (w:World):Calls Tryz.prog 211 #[.string ⟨(a :: r).toArray⟩] w fun e w'=>e=.returned (numV (numR (a :: r)))/\AU w w':=by
 have M:decide ((8:Int)<(r.length:Int)+1)=true:=by simp;omega
 have E:=I (Sd (a:=a) h);clear h;go_enter Tryz.func211,Tryz.ntmps211
 go_wp2
 go_ret2
 exact⟨by rw[E.o];rfl,AU.refl _⟩
theorem NV (a:UInt8) (r:L) (h:¬7<r.length) (M:128<=a.toNat) (w:World):Calls Tryz.prog 211 #[.string ⟨(a :: r).toArray⟩] w fun e w'=>e=.returned (numV (numR (a :: r)))/\AU w w':=by
 have Z:decide ((8:Int)<(r.length:Int)+1)=false:=by simp;omega
 have g2:decide ((128:Int)<=(a.toNat:Int))=true:=by simp;omega
 have E:=I (Sf (r:=r) M);have O:(r.length:Int)<=7:=by omega
 clear h M;go_enter Tryz.func211,Tryz.ntmps211
 go_wp2
 go_ret2
 exact⟨by rw[E.o];rfl,AU.refl _⟩
theorem NW (a b:UInt8) (r:L) (h:¬7<(b :: r).length) (M:a.toNat=0) (O:b.toNat<128) (w:World):Calls Tryz.prog 211 #[.string ⟨(a :: b :: r).toArray⟩] w fun e w'=>e=.returned (numV (numR (a :: b :: r)))/\AU w w':=by
 simp only[List.length_cons] at h;have g1:decide ((8:Int)<(r.length:Int)+1+1)=false:=by simp;omega
 have g2:decide ((128:Int)<=(a.toNat:Int))=false:=by simp;omega
 have Z:((a.toNat:Int)==0)=true:=by simp;omega
 have g4:decide ((b.toNat:Int)<128)=true:=by simp;omega
 have g5:decide ((1:Int)<(r.length:Int)+1+1)=true:=by simp;omega
 have E:=I (Sg (r:=r) M O);have hr:(r.length:Int)<=6:=by omega
 clear h M O;go_enter Tryz.func211,Tryz.ntmps211
 go_wp2
 go_ret2
 exact⟨by rw[E.o];rfl,AU.refl _⟩
theorem NY (s : L) (ha : 0 < s.length) (h8 : s.length <= 8) (ge : s.isEmpty = false)
    (a:UInt8) (r:L) (hs:s=a :: r) (h2:a.toNat<128) (h3:¬(a.toNat=0/\Bu r=true)) (w:World):Calls Tryz.prog 211 #[.string ⟨s.toArray⟩] w fun e w'=>e=.returned (numV (numR s))/\AU w w':=by
  subst hs;have hb:∀i,val ((a :: r).take i)<9223372036854775808:=NJ h2 (by simpa using h8);have g2:decide ((128:Int)<=(a.toNat:Int))=false:=by simp;omega
  have hr:(r.length:Int)<=7:=by simp at h8;omega
  have H3:=I h3;have H2:=I h2;have Z:=I hb;have g1:decide ((8:Int)<(r.length:Int)+1)=false:=by simp;omega
  clear ge ha h8 hb h2;have key : decide ((1 : Int) < (r.length : Int) + 1) = false \/ (decide ((1 : Int) < (r.length : Int) + 1) = true /\ ((a.toNat : Int) == 0) = false) \/
      (∃h:0<r.length,decide ((1:Int)<(r.length:Int)+1)=true/\((a.toNat:Int)==0)=true/\decide (((r[0]'h).toNat:Int)<128)=false):=by
    cases r with
    |nil=>left;simp
    |cons b q=>
      right
      by_cases h0:a.toNat=0
      · right
        have:¬Bu (b :: q)=true:=fun g=>h3 ⟨h0,g⟩
        simp only[Bu,decide_eq_true_eq] at this;refine⟨by simp,by simp;omega,by simp;omega,?_⟩;simp;omega
      · left
        refine⟨by simp;omega,by simp;omega⟩
  clear h3
  by_cases hbig:4611686018427387904<val (a :: r)
  · have B1 : decide ((4611686018427387904 : Int) < ((val (a :: r) : Nat) : Int)) = true := by simp; omega
    have E:=I (Qn hbig);clear hbig;rcases key with k1 | ⟨k1,k2⟩ | ⟨k0,k1,k2,k3⟩
    all_goals
      go_enter Tryz.func211,Tryz.ntmps211
      go_wp2
      go_loop [4,33] (fun n i=>∃k:Nat,k<=r.length+1/\i=.int .i64 (k:Int)/\n=.int .i64 ((val ((a :: r).take k):Nat):Int)) (fun _ i=>r.length+1 - (intOf i).toNat)
      case atStart=>exact⟨0,by omega,rfl,rfl⟩
      case round=>
        obtain⟨k,hk,rfl,rfl⟩:=hrel
        by_cases hlt:k<r.length+1
        · have M : k < (a :: r).length := by simpa using hlt
          have V:=I (GI (a :: r) k M);have av:=Z.o k;have O:=Z.o (k+1);rw[V.o] at O;have hu:=Fo ((a :: r)[k])
          go_wp2
          refine⟨⟨k+1,by omega,by go_num,?_⟩,by simp [intOf];omega⟩;rw[Ry _ _ (by omega) (by omega),V.o]
          go_num
        · obtain rfl : k = r.length + 1 := by omega
          have e:(a :: r).take (r.length+1)=a :: r:=List.take_of_length_le (by simp);rw[e];clear e hk hlt
          go_wp2
          go_ret2
          exact⟨by rw[E.o];rfl,AU.refl _⟩
  · have B1 : decide ((4611686018427387904 : Int) < ((val (a :: r) : Nat) : Int)) = false := by simp; omega
    have E:=I (Sh (by omega) H2.o H3.o (by omega));clear hbig;rcases key with k1 | ⟨k1,k2⟩ | ⟨k0,k1,k2,k3⟩
    all_goals
      go_enter Tryz.func211,Tryz.ntmps211
      go_wp2
      go_loop [4,33] (fun n i=>∃k:Nat,k<=r.length+1/\i=.int .i64 (k:Int)/\n=.int .i64 ((val ((a :: r).take k):Nat):Int)) (fun _ i=>r.length+1 - (intOf i).toNat)
      case atStart=>exact⟨0,by omega,rfl,rfl⟩
      case round=>
        obtain⟨k,hk,rfl,rfl⟩:=hrel
        by_cases hlt:k<r.length+1
        · have M : k < (a :: r).length := by simpa using hlt
          have V:=I (GI (a :: r) k M);have av:=Z.o k;have O:=Z.o (k+1);rw[V.o] at O;have hu:=Fo ((a :: r)[k])
          go_wp2
          refine⟨⟨k+1,by omega,by go_num,?_⟩,by simp [intOf];omega⟩;rw[Ry _ _ (by omega) (by omega),V.o]
          go_num
        · obtain rfl : k = r.length + 1 := by omega
          have e:(a :: r).take (r.length+1)=a :: r:=List.take_of_length_le (by simp);rw[e];clear e hk hlt
          go_wp2
          go_ret2
          exact⟨by rw[E.o];rfl,AU.refl _⟩
theorem Qq (s:L) (hs:(s.length:Int)<=100000) (w:World):Calls Tryz.prog 211 #[.string ⟨s.toArray⟩] w fun e w'=>e=.returned (numV (numR s))/\AU w w':=by
 cases s with
 |nil=>exact Qp w
 |cons a r=>
  simp only[List.length_cons] at hs
  by_cases h1:7<r.length
  ·exact NU a r h1 (by omega) w
  ·by_cases h2:128<=a.toNat
   ·exact NV a r h1 h2 w
   ·by_cases M:a.toNat=0/\Bu r=true
    ·obtain⟨M,O⟩:=M
     cases r with
     |nil=>simp [Bu] at O
     |cons b q=>exact NW a b q h1 M (by simpa [Bu] using O) w
    ·exact NY (a :: r) (by simp) (by simp;omega) rfl a r rfl (by omega) M w
end DerC
namespace DerC
open Go.RowKit Af DerP
attribute [local go_sem] Ep List.getElem_cons_zero List.getElem_cons_succ Cg Ch Dy
theorem BN (g : Nat) (c : Option L) (w : World) (h : Cur w g c) (hs : ((c.getD []).length : Int) <= 100000) : Calls Tryz.prog 169 #[.pointer (some ⟨g, 0, none⟩)] w fun e w' =>
    e=.returned (.int .i64 ((intC c).1:Int))/\Cur w' g (intC c).2/\w.grownBy w' (some g):=by
  have ht : ∀ W, Cur W g c -> Calls Tryz.prog 167 #[.pointer (some ⟨g, 0, none⟩), .int .u8 2] W fun e w' =>
      e=.returned (.tuple #[.string ⟨((AN 2 c).getD []).toArray⟩,.bool (AN 2 c).isSome])/\Cur w' g (Bc 2 c)/\W.grownBy w' (some g):=fun W hW=>IB 2 g c W hW hs
  have HT:=I ht;clear ht;have M:=(Dr 2 c).1;cases hb:AN 2 c with
  |none=>
    have E:=I (show intC c=(0,none) by simp only[intC,hb]);have O:=I (Sk 2 c hb);rw[hb] at HT;have HB:=I hb;clear hb M;go_enter Tryz.func169,Tryz.ntmps169
    go_wp2_with (go_at_call 167;refine(HT.o _ h).mono ?_;rintro e w' ⟨rfl,hc,Z⟩)
    go_ret;rw[E.o];exact⟨rfl,by rw[<-O.o];exact hc,Z⟩
  |some b=>
    rw[hb] at HT;rw[hb] at M;simp only[Option.getD_some] at M;have O:∀W,Calls Tryz.prog 211 #[.string ⟨b.toArray⟩] W fun e w'=>e=.returned (numV (numR b))/\AU W w':=fun W=>Qq b (by omega) W
    cases hx:numL b with
    |none=>
      have E:=I (show intC c=(0,none) by simp only[intC,hb,hx]);rw[Fx hx] at O;simp only[numV] at O;have HN:=I O;clear O;have HB:=I hb;clear hb M hx;go_enter Tryz.func169,Tryz.ntmps169
      go_wp2_with (first
        |(go_at_call 167;refine(HT.o _ h).mono ?_;rintro e w1 ⟨rfl,hc,Z⟩)
        |(go_at_call 211;refine(HN.o _).mono ?_;rintro e w' ⟨rfl,q,rfl⟩)
        |(go_at_call 210;refine(Pp _ _ _ (hc.drewN q)).mono ?_;rintro e w' ⟨rfl,aw,av⟩))
      go_ret;rw[E.o];exact⟨rfl,aw,(IV Z q).trans av⟩
    |some n=>
      have E:=I (show intC c=(n,Bc 2 c) by simp only[intC,hb,hx]);rw[numR,hx] at O;simp only[numV,Option.getD_some,Option.isSome_some] at O;have HN:=I O;clear O;have HB:=I hb;clear hb M hx;go_enter Tryz.func169,Tryz.ntmps169
      go_wp2_with (first
        |(go_at_call 167;refine(HT.o _ h).mono ?_;rintro e w1 ⟨rfl,hc,Z⟩)
        |(go_at_call 211;refine(HN.o _).mono ?_;rintro e w' ⟨rfl,q,rfl⟩))
      go_ret;rw[E.o];exact⟨rfl,hc.drewN q,IV Z q⟩
theorem Di (g:Nat) (c:Option L) (w:World) (h:Cur w g c) (hs:((c.getD []).length:Int)<=100000):Calls Tryz.prog 171 #[.pointer (some ⟨g,0,none⟩)] w fun e w'=>
  (∃b cap,e=.returned (.slice (some ⟨b,0,none⟩) ((AN 4 c).getD []).length cap)/\((AN 4 c).getD []).length<=cap/\Rz w' w.heap.size b ((AN 4 c).getD []))/\Cur w' g (Bc 4 c)/\w.grownBy w' (some g):=by
 have O:=fun(W:World)=>Lib.run_convert_string_bytes (P:=Tryz.prog) W 9 33 5 ⟨((AN 4 c).getD []).toArray⟩ Tryz.underlying9 Tryz.underlying33 Tryz.underlying5
 go_enter Tryz.func171,Tryz.ntmps171
 go_wp2_with (go_at_call 167;refine(IB 4 g c _ h hs).mono ?_;rintro e w1 ⟨rfl,Z,M⟩)
 go_ret;exact⟨⟨_,_,rfl,grownCap_ge _ _ _ _,by have:=Gl w1 5 ((AN 4 c).getD []);exact⟨Nat.le_trans M.size this.1,this.2⟩⟩,Z.below (Et _ _ _),IW M (Et _ _ _)⟩
theorem Ey (g:Nat) (c:Option L) (w:World) (h:Cur w g c) (hs:((c.getD []).length:Int)<=100000):Calls Tryz.prog 189 #[.pointer (some ⟨g,0,none⟩)] w fun e w'=>
  e=.returned (.string ⟨((AN 27 c).getD []).toArray⟩)/\Cur w' g (Bc 27 c)/\w.grownBy w' (some g):=by
 have O:((AN 27 c).getD []).length<=1000000000:=by
  have:=(Dr 27 c).1;omega
 have Z:=I O;clear O;go_enter Tryz.func189,Tryz.ntmps189
 go_wp2_with (first
  |(go_at_call 167;refine(IB 27 g c _ h hs).mono ?_;rintro e w1 ⟨rfl,hc,hg⟩)
  |(go_at_call 55;refine(Nm.BZ _ _ Z.o).mono ?_;rintro e w2 ⟨rfl,M⟩))
 go_ret;exact⟨rfl,hc.below M,IW hg M⟩
theorem GK (t:UInt8) (g:Nat) (c:Option L) (w:World) (h:Cur w g c) (hs:((c.getD []).length:Int)<=100000):Calls Tryz.prog 125 #[.pointer (some ⟨g,0,none⟩),.int .u8 t.toNat] w fun e w'=>
  (∃g',e=.returned (.pointer (some ⟨g',0,none⟩))/\w.heap.size<=g'/\Cur w' g' (AN t c))/\Cur w' g (Bc t c)/\w.grownBy w' (some g):=by
 go_enter Tryz.func125,Tryz.ntmps125
 go_wp2_with (go_at_call 167;refine(IB t g c _ h hs).mono ?_;rintro e w1 ⟨rfl,O,M⟩)
 go_ret;refine⟨⟨_,rfl,M.size,?_⟩,O.alloc _,DJ M _⟩;have:=Blk.new w1 269 (KY (AN t c));cases hb:AN t c<;>(rw[hb] at this;exact this)
theorem La (B:Nat) (A:Option Addr) (l:L) (n cap:Nat) (w:World) (h:Rd w B A (bvs l)) (M:n=l.length):Calls Tryz.prog 124 #[.slice A n cap] w fun e w'=>
  ∃g',e=.returned (.pointer (some ⟨g',0,none⟩))/\w.heap.size<=g'/\Cur w' g' (some l)/\Below w.heap.size w w':=by
 have O:=Er (P:=Tryz.prog) w 33 5 Tryz.underlying33 Tryz.underlying5 h n cap M 9 Tryz.underlying9;have Z:=I M;clear M;go_enter Tryz.func124,Tryz.ntmps124
 go_wp2
 go_ret;exact⟨_,rfl,Nat.le_refl _,Blk.new w 269 (KY (some l)),Ah.alloc Ag _⟩
end DerC
namespace DerLib
open Go.RowKit Af
theorem Io:(⟨((([0,1,2,2,3,3,3,3,4,4,4,4,4,4,4,4,5,5,5,5,5,5,5,5,5,5,5,5,5,5,5,5,6,6,6,6,6,6,6,6,6,6,6,6,6,6,6,6,6,6,6,6,6,6,6,6,6,6,6,6,6,6,6,6]:List UInt8).append [7,7,7,7,7,7,7,7,7,7,7,7,7,7,7,7,7,7,7,7,7,7,7,7,7,7,7,7,7,7,7,7,7,7,7,7,7,7,7,7,7,7,7,7,7,7,7,7,7,7,7,7,7,7,7,7,7,7,7,7,7,7,7,7]).append (([8,8,8,8,8,8,8,8,8,8,8,8,8,8,8,8,8,8,8,8,8,8,8,8,8,8,8,8,8,8,8,8,8,8,8,8,8,8,8,8,8,8,8,8,8,8,8,8,8,8,8,8,8,8,8,8,8,8,8,8,8,8,8,8]:List UInt8).append [8,8,8,8,8,8,8,8,8,8,8,8,8,8,8,8,8,8,8,8,8,8,8,8,8,8,8,8,8,8,8,8,8,8,8,8,8,8,8,8,8,8,8,8,8,8,8,8,8,8,8,8,8,8,8,8,8,8,8,8,8,8,8,8])).toArray⟩:ByteArray)=Lib.len8tab:=by kernel_rfl
theorem Fy (m k p:Nat) (x:Int) (hp:p=2 ^ k) (O:x=((m / p:Nat):Int)) (hs:m / p<256) (M:p<=m\/k=0) (hm:m<18446744073709551616) :
  Lib.len8 x+(k:Int)=(Lib.bitLen m:Int)/\Lib.len8 x<=8/\0<=Lib.len8 x:=by
 have l:=Lib.bitLen_le8 ⟨m / p,hs⟩;have v:=Lib.len8_eq ⟨m / p,hs⟩;simp only at l v;rw[O,v];have Z:Lib.bitLen m=k+Lib.bitLen (m / p):=by
  rcases M with h | h
  ·rw[hp] at h⊢;exact Lib.bitLen_shift k m h hm
  ·subst h;rw[hp];simp
 omega
theorem So (m:Nat) (w:World) (hm:m<9223372036854775808):Calls Tryz.prog 269 #[.int .u64 (m:Int)] w fun e w'=>e=.returned (.int .i64 (Lib.bitLen m:Int))/\w=w':=by
 by_cases h1:4294967296<=m
 ·by_cases h2:65536<=m / 4294967296
  ·by_cases h3:256<=m / 4294967296 / 65536
   ·have t1:decide ((4294967296:Int)<=(m:Int))=true:=decide_eq_true (by omega)
    have t2:decide ((65536:Int)<=(m:Int) / 4294967296)=true:=decide_eq_true (by omega);have Z:decide ((256:Int)<=(m:Int) / 4294967296 / 65536)=true:=decide_eq_true (by omega);have M:=Fy m 56 72057594037927936 ((m:Int) / 4294967296 / 65536 / 256 % 256) rfl (by omega) (by omega) (by omega) (by omega);have O:=I M;clear M hm h1 h2 h3;go_enter Tryz.func269,Tryz.ntmps269;rw[Io]
    go_wp2
    go_ret;have M:=O.o;refine⟨congrArg Ending.returned (congrArg (Value.int IntKind.i64) ?_),rfl⟩
    (first | (unfold wrap64;omega) | omega | skip)
   ·have t1:decide ((4294967296:Int)<=(m:Int))=true:=decide_eq_true (by omega)
    have t2:decide ((65536:Int)<=(m:Int) / 4294967296)=true:=decide_eq_true (by omega);have Z:decide ((256:Int)<=(m:Int) / 4294967296 / 65536)=false:=decide_eq_false (by omega);have M:=Fy m 48 281474976710656 ((m:Int) / 4294967296 / 65536 % 256) rfl (by omega) (by omega) (by omega) (by omega);have O:=I M;clear M hm h1 h2 h3;go_enter Tryz.func269,Tryz.ntmps269;rw[Io]
    go_wp2
    go_ret;have M:=O.o;refine⟨congrArg Ending.returned (congrArg (Value.int IntKind.i64) ?_),rfl⟩
    (first | (unfold wrap64;omega) | omega | skip)
  ·by_cases h3:256<=m / 4294967296
   ·have t1:decide ((4294967296:Int)<=(m:Int))=true:=decide_eq_true (by omega)
    have t2:decide ((65536:Int)<=(m:Int) / 4294967296)=false:=decide_eq_false (by omega);have Z:decide ((256:Int)<=(m:Int) / 4294967296)=true:=decide_eq_true (by omega);have M:=Fy m 40 1099511627776 ((m:Int) / 4294967296 / 256 % 256) rfl (by omega) (by omega) (by omega) (by omega);have O:=I M;clear M hm h1 h2 h3;go_enter Tryz.func269,Tryz.ntmps269;rw[Io]
    go_wp2
    go_ret;have M:=O.o;refine⟨congrArg Ending.returned (congrArg (Value.int IntKind.i64) ?_),rfl⟩
    (first | (unfold wrap64;omega) | omega | skip)
   ·have t1:decide ((4294967296:Int)<=(m:Int))=true:=decide_eq_true (by omega)
    have t2:decide ((65536:Int)<=(m:Int) / 4294967296)=false:=decide_eq_false (by omega);have Z:decide ((256:Int)<=(m:Int) / 4294967296)=false:=decide_eq_false (by omega);have M:=Fy m 32 4294967296 ((m:Int) / 4294967296 % 256) rfl (by omega) (by omega) (by omega) (by omega);have O:=I M;clear M hm h1 h2 h3;go_enter Tryz.func269,Tryz.ntmps269;rw[Io]
    go_wp2
    go_ret;have M:=O.o;refine⟨congrArg Ending.returned (congrArg (Value.int IntKind.i64) ?_),rfl⟩
    (first | (unfold wrap64;omega) | omega | skip)
 ·by_cases h2:65536<=m
  ·by_cases h3:256<=m / 65536
   ·have t1:decide ((4294967296:Int)<=(m:Int))=false:=decide_eq_false (by omega)
    have t2:decide ((65536:Int)<=(m:Int))=true:=decide_eq_true (by omega);have Z:decide ((256:Int)<=(m:Int) / 65536)=true:=decide_eq_true (by omega);have M:=Fy m 24 16777216 ((m:Int) / 65536 / 256 % 256) rfl (by omega) (by omega) (by omega) (by omega);have O:=I M;clear M hm h1 h2 h3;go_enter Tryz.func269,Tryz.ntmps269;rw[Io]
    go_wp2
    go_ret;have M:=O.o;refine⟨congrArg Ending.returned (congrArg (Value.int IntKind.i64) ?_),rfl⟩
    (first | (unfold wrap64;omega) | omega | skip)
   ·have t1:decide ((4294967296:Int)<=(m:Int))=false:=decide_eq_false (by omega)
    have t2:decide ((65536:Int)<=(m:Int))=true:=decide_eq_true (by omega);have Z:decide ((256:Int)<=(m:Int) / 65536)=false:=decide_eq_false (by omega);have M:=Fy m 16 65536 ((m:Int) / 65536 % 256) rfl (by omega) (by omega) (by omega) (by omega);have O:=I M;clear M hm h1 h2 h3;go_enter Tryz.func269,Tryz.ntmps269;rw[Io]
    go_wp2
    go_ret;have M:=O.o;refine⟨congrArg Ending.returned (congrArg (Value.int IntKind.i64) ?_),rfl⟩
    (first | (unfold wrap64;omega) | omega | skip)
  ·by_cases h3:256<=m
   ·have t1:decide ((4294967296:Int)<=(m:Int))=false:=decide_eq_false (by omega)
    have t2:decide ((65536:Int)<=(m:Int))=false:=decide_eq_false (by omega);have Z:decide ((256:Int)<=(m:Int))=true:=decide_eq_true (by omega);have M:=Fy m 8 256 ((m:Int) / 256 % 256) rfl (by omega) (by omega) (by omega) (by omega);have O:=I M;clear M hm h1 h2 h3;go_enter Tryz.func269,Tryz.ntmps269;rw[Io]
    go_wp2
    go_ret;have M:=O.o;refine⟨congrArg Ending.returned (congrArg (Value.int IntKind.i64) ?_),rfl⟩
    (first | (unfold wrap64;omega) | omega | skip)
   ·have t1:decide ((4294967296:Int)<=(m:Int))=false:=decide_eq_false (by omega)
    have t2:decide ((65536:Int)<=(m:Int))=false:=decide_eq_false (by omega);have Z:decide ((256:Int)<=(m:Int))=false:=decide_eq_false (by omega);have M:=Fy m 0 1 ((m:Int) % 256) rfl (by omega) (by omega) (by omega) (by omega);have O:=I M;clear M hm h1 h2 h3;go_enter Tryz.func269,Tryz.ntmps269;rw[Io]
    go_wp2
    go_ret;have M:=O.o;refine⟨congrArg Ending.returned (congrArg (Value.int IntKind.i64) ?_),rfl⟩
    (first | (unfold wrap64;omega) | omega | skip)
theorem VM (m:Nat) (w:World) (hm:m<9223372036854775808):Calls Tryz.prog 257 #[.int .u64 (m:Int)] w fun e w'=>e=.returned (.int .i64 (Lib.bitLen m:Int))/\w=w':=by
 have c1:=So m w hm;clear hm;go_enter Tryz.func257,Tryz.ntmps257
 go_wp2_with (go_at_call 269;refine Aj c1 ?_;rintro w' rfl)
 go_ret;exact⟨rfl,rfl⟩
end DerLib
namespace DerW
open Go.RowKit Af DerP
theorem Co:(Tryz.prog.info? 5).map (fun i=>(i.zero,i.size,i.bytes))=some (some (.int .u8 0),1,1):=by kernel_rfl
def filled (K m j:Nat):Array Value:=(List.replicate j (bv 0)++bvs ((digK K m).drop j)).toArray
theorem Mq (K m:Nat):filled K m K=Dc K:=by
 rw[filled,List.drop_of_length_le (by rw[Bi];exact Nat.le_refl _)];simp [Dc,bvs]
theorem Qr (K m:Nat):filled K m 0=(bvs (digK K m)).toArray:=by simp [filled]
theorem Qs (K m j:Nat) (M:j<K):(filled K m (j+1)).setIfInBounds j (bv (UInt8.ofNat (m / 256 ^ (K - 1 - j))))=filled K m j:=by
 have h:=Sb (digK K m) j _ (RZ K m j M);apply Array.toList_inj.1;simp only[filled,Array.toList_setIfInBounds];rw[h];rw[List.set_append_left _ _ (by simp)];rw[List.replicate_succ',List.set_append_right _ _ (by simp)];simp [bvs]
theorem Qt (m:Nat) (hm:m<=4611686018427387904) (w:World):Calls Tryz.prog 241 #[.int .i64 (m:Int)] w fun e w'=>
  ∃g,e=.returned (.slice (some ⟨g,0,none⟩) (dig m).length (dig m).length)/\w.heap.size<=g/\Blk w' g 5 (bvs (dig m)).toArray/\Below w.heap.size w w':=by
 obtain⟨i0,aw,bn,av,bb⟩:=info_parts Co;have bq:=GH m hm;have hL:(dig m).length=Lib.bitLen m / 8+1:=Hr m;have hD:dig m=digK (Lib.bitLen m / 8+1) m:=rfl;rw[hL,hD];have hc:∀W,Calls Tryz.prog 257 #[.int .u64 (m:Int)] W fun e w'=>e=.returned (.int .i64 (Lib.bitLen m:Int))/\W=w':=by
  intro W;exact DerLib.VM m W (by omega)
 clear hL hD;generalize hq:Lib.bitLen m=q at *;have ca:=Gg (P:=Tryz.prog) Tryz.underlying33 aw bn av bb ((q:Int) / 8+1) (q / 8+1) (by omega) (by omega);have HC:=I hc;clear hc;have HQ:=I hq;clear hq;have bB:(m:Int)<=4611686018427387904:=by omega
 have cc:(q:Int)<=63:=by omega
 clear hm bq aw bn av bb;go_enter Tryz.func241,Tryz.ntmps241
 go_wp2_with (go_at_call 257;refine(HC.o _).mono ?_;rintro e w' ⟨rfl,rfl⟩)
 go_loopw [0,4] (fun n i wr=>∃j:Nat,j<=q / 8+1/\i=.int .i64 ((j:Int) - 1)/\n=.int .i64 ((m / 256 ^ (q / 8+1 - j):Nat):Int)/\Blk wr w.heap.size 5 (filled (q / 8+1) m j)/\Below w.heap.size w wr) (fun _ i _=>(intOf i+1).toNat)
 case atStart=>
  refine⟨q / 8+1,Nat.le_refl _,by congr 1;omega,by simp,?_,Ah.alloc Ag _⟩;rw[Mq];exact Blk.new _ _ _
 case round=>
  obtain⟨j,hj,rfl,rfl,hB,O⟩:=hrel;cases j with
  |zero=>
   have e:((0:Nat):Int) - 1 = -1:=rfl;rw[e]
   go_wp2
   go_ret;rw[Qr] at hB;exact⟨_,rfl,Nat.le_refl _,hB,O⟩
  |succ j=>
   have e:((j+1:Nat):Int) - 1=(j:Int):=by omega
   rw[e];clear e;have hf:=hB.frozen j;have M:=hB.set j (bv (UInt8.ofNat (m / 256 ^ (q / 8+1 - 1 - j))));rw[Qs _ _ _ (by omega)] at M;have Z:∃u,(filled (q / 8+1) m (j+1))[j]? = some u:=by
    have:j<(filled (q / 8+1) m (j+1)).size:=by simp [filled,bvs,Bi];omega
    exact⟨_,Array.getElem?_eq_getElem this⟩
   obtain⟨u,hu⟩:=Z;have cb:=(hB.cell j).trans hu;have hdiv:m / 256 ^ (q / 8+1 - (j+1))<=m:=Nat.div_le_self _ _;have bz:((m / 256 ^ (q / 8+1 - (j+1)):Nat):Int)<=4611686018427387904:=by omega
   have bs:=I (show m / 256 ^ (q / 8+1 - (j+1)) / 256=m / 256 ^ (q / 8+1 - j) by
    rw[Nat.div_div_eq_div_mul,<-Nat.pow_succ];congr 2;omega)
   have bx:=I (show q / 8+1 - 1 - j=q / 8+1 - (j+1) by omega);rw[bx.o] at M;generalize m / 256 ^ (q / 8+1 - (j+1))=y at *;have HS:=I M;clear M hu
   go_wp2
   refine⟨⟨j,by omega,rfl,?_,?_,O.setCell Ag _⟩,by simp [intOf]⟩
   ·rw[<-bs.o];rfl
   ·have e:bv (UInt8.ofNat y)=.int .u8 ((y:Int) % 256):=by simp [bv]
    rw[<-e];exact HS.o
theorem ml (n:Nat) (h:n<=1000000):n<=maxLen:=by unfold maxLen;omega
theorem Ip (w:World) (t:TypeId) (cs:Array Value) (l:L) (h:cs.toList=bvs l) (N:Nat) (M:w.heap.size=N):Rd (w.alloc (.cells cs t)) (N+1) (some ⟨N,0,none⟩) (bvs l):=by
 subst M;refine .inr ⟨w.heap.size,0,rfl,by omega,fun i u hu=>?_⟩;rw[Nat.zero_add,(Blk.new w t cs).cell i];rw[<-h] at hu
 simpa using hu
theorem GM (n:Nat) (h:n<256):bv (UInt8.ofNat n)=.int .u8 (n:Int):=by simp [bv];omega
theorem Qu (t : UInt8) (n : Nat) (h1 : n < 128) (w : World) : Calls Tryz.prog 240 #[.int .u8 t.toNat, .int .i64 (n : Int)] w fun e w' =>
    ∃v,e=.returned v/\w'.ownsRow w.heap.size 5 1 v (1+(szL n).length) (bvs (t :: szL n))/\Below w.heap.size w w':=by
  obtain⟨i0,Z,bn,O,bb⟩:=info_parts Co;have cc:=Es (P:=Tryz.prog) Tryz.underlying33 Z bn O bb ((n:Int)+4) (n+4) (by omega) (by omega);have E:=I (show szL n = [UInt8.ofNat n] by simp [szL,h1]);have g1:decide ((n:Int)<128)=true:=by simp;omega
  have hn:(n:Int)<=127:=by omega
  have aw:Hid (∀o,(World.alloc (World.alloc w (.cells (Dc (n+4)) 5)) o).ownsRow w.heap.size 5 1 (.slice (some ⟨w.heap.size,0,none⟩) 0 (n+4)) 0 []):=fun o=>(World.ownsRow_made w (Dc (n+4)) (n+4) Ag (ml _ (by omega)) (by rw[Eg];omega)).alloc o
  have bs:=I (ml 1 (by omega));have bB:=I (ml 2 (by omega));have bx:=I (GM n (by omega));clear h1;go_enter Tryz.func240,Tryz.ntmps240
  go_wp2_with (first
    | (at_builtin
       refine AI _ rfl (.tmp 8) (.tmp 10) 33 rfl w.heap.size 5 i0 _ 1 Tryz.underlying33 Z bn O bb rfl (.slice (some ⟨w.heap.size,0,none⟩) 0 (n+4)) 0 [] rfl (aw.o _) _ _ 1 1 (bvs [t]) rfl rfl (Ip _ 5 _ [t] rfl _ (by simp)) (BA _) bs.o (by omega) (by simp;omega) ?_;intro v1 w1 M bq cb)
    | (at_builtin
       refine AI _ rfl (.tmp 15) (.tmp 18) 33 rfl w.heap.size 5 i0 _ 1 Tryz.underlying33 Z bn O bb rfl v1 (0+1) ([]++bvs [t]) rfl (M.alloc _) _ _ 1 1 (bvs [UInt8.ofNat n]) rfl rfl (Ip w1 5 _ [UInt8.ofNat n] (by simp [bvs,bx.o]) _ rfl) (BA _) bB.o (by omega) (by simp;have:=bq.size;simp at this;omega) ?_;intro v2 w2 av bz ca))
  go_ret;have b1:Below w.heap.size w w1:=(((Below.refl w.heap.size w).alloc Ag _).alloc (by simp) _).grown bq (by simp;omega) (by intro k hk;simp [Value.ownBlock] at hk;omega);have b2:=(b1.alloc b1.size _).grown bz (by have:=b1.size;simp;omega) (fun k hk=>(M.lt k hk).1);exact⟨v2,rfl,by rw[E.o];simpa [bvs] using av,b2⟩
theorem VN (t : UInt8) (n : Nat) (h1 : ¬ n < 128) (h2 : n <= 255) (w : World) : Calls Tryz.prog 240 #[.int .u8 t.toNat, .int .i64 (n : Int)] w fun e w' =>
    ∃v,e=.returned v/\w'.ownsRow w.heap.size 5 1 v (1+(szL n).length) (bvs (t :: szL n))/\Below w.heap.size w w':=by
  obtain⟨i0,Z,bn,O,bb⟩:=info_parts Co;have cc:=Es (P:=Tryz.prog) Tryz.underlying33 Z bn O bb ((n:Int)+4) (n+4) (by omega) (by omega);have E:=I (show szL n = [129,UInt8.ofNat n] by simp [szL,h1,h2]);have g1:decide ((n:Int)<128)=false:=by simp;omega
  have g2:decide ((n:Int)<=255)=true:=by simp;omega
  have hn:(n:Int)<=255:=by omega
  have aw:Hid (∀o,(World.alloc (World.alloc w (.cells (Dc (n+4)) 5)) o).ownsRow w.heap.size 5 1 (.slice (some ⟨w.heap.size,0,none⟩) 0 (n+4)) 0 []):=fun o=>(World.ownsRow_made w (Dc (n+4)) (n+4) Ag (ml _ (by omega)) (by rw[Eg];omega)).alloc o
  have bs:=I (ml 1 (by omega));have bB:=I (ml 3 (by omega));have bx:=I (GM n (by omega));clear h1 h2;go_enter Tryz.func240,Tryz.ntmps240
  go_wp2_with (first
    | (at_builtin
       refine AI _ rfl (.tmp 8) (.tmp 10) 33 rfl w.heap.size 5 i0 _ 1 Tryz.underlying33 Z bn O bb rfl (.slice (some ⟨w.heap.size,0,none⟩) 0 (n+4)) 0 [] rfl (aw.o _) _ _ 1 1 (bvs [t]) rfl rfl (Ip _ 5 _ [t] rfl _ (by simp)) (BA _) bs.o (by omega) (by simp;omega) ?_;intro v1 w1 M bq cb)
    | (at_builtin
       refine AI _ rfl (.tmp 23) (.tmp 26) 33 rfl w.heap.size 5 i0 _ 1 Tryz.underlying33 Z bn O bb rfl v1 (0+1) ([]++bvs [t]) rfl (M.alloc _) _ _ 2 2 (bvs [129,UInt8.ofNat n]) rfl rfl (Ip w1 5 _ [129,UInt8.ofNat n] (by simp [bvs,bx.o];rfl) _ rfl) (BA _) bB.o (by omega) (by simp;have:=bq.size;simp at this;omega) ?_;intro v2 w2 av bz ca))
  go_ret;have b1:Below w.heap.size w w1:=(((Below.refl w.heap.size w).alloc Ag _).alloc (by simp) _).grown bq (by simp;omega) (by intro k hk;simp [Value.ownBlock] at hk;omega);have b2:=(b1.alloc b1.size _).grown bz (by have:=b1.size;simp;omega) (fun k hk=>(M.lt k hk).1);exact⟨v2,rfl,by rw[E.o];simpa [bvs] using av,b2⟩
theorem VO (t : UInt8) (n : Nat) (h1 : ¬ n < 128) (h2 : ¬ n <= 255) (h3 : n <= 65535) (w : World) : Calls Tryz.prog 240 #[.int .u8 t.toNat, .int .i64 (n : Int)] w fun e w' =>
    ∃v,e=.returned v/\w'.ownsRow w.heap.size 5 1 v (1+(szL n).length) (bvs (t :: szL n))/\Below w.heap.size w w':=by
  obtain⟨i0,Z,bn,O,bb⟩:=info_parts Co;have cc:=Es (P:=Tryz.prog) Tryz.underlying33 Z bn O bb ((n:Int)+4) (n+4) (by omega) (by omega);have E:=I (show szL n = [130,UInt8.ofNat (n / 256),UInt8.ofNat n] by simp [szL,h1,h2]);have g1:decide ((n:Int)<128)=false:=by simp;omega
  have g2:decide ((n:Int)<=255)=false:=by simp;omega
  have hn:(n:Int)<=65535:=by omega
  have aw:Hid (∀o,(World.alloc (World.alloc w (.cells (Dc (n+4)) 5)) o).ownsRow w.heap.size 5 1 (.slice (some ⟨w.heap.size,0,none⟩) 0 (n+4)) 0 []):=fun o=>(World.ownsRow_made w (Dc (n+4)) (n+4) Ag (ml _ (by omega)) (by rw[Eg];omega)).alloc o
  have bs:=I (ml 1 (by omega));have bB:=I (ml 4 (by omega));have bx:=I (show bvs [130,UInt8.ofNat (n / 256),UInt8.ofNat n] = [.int .u8 130,.int .u8 ((n:Int) / 256),.int .u8 ((n:Int) % 256)] by simp [bvs,bv];omega);clear h1 h2 h3;go_enter Tryz.func240,Tryz.ntmps240
  go_wp2_with (first
    | (at_builtin
       refine AI _ rfl (.tmp 8) (.tmp 10) 33 rfl w.heap.size 5 i0 _ 1 Tryz.underlying33 Z bn O bb rfl (.slice (some ⟨w.heap.size,0,none⟩) 0 (n+4)) 0 [] rfl (aw.o _) _ _ 1 1 (bvs [t]) rfl rfl (Ip _ 5 _ [t] rfl _ (by simp)) (BA _) bs.o (by omega) (by simp;omega) ?_;intro v1 w1 M bq cb)
    | (at_builtin
       refine AI _ rfl (.tmp 28) (.tmp 34) 33 rfl w.heap.size 5 i0 _ 1 Tryz.underlying33 Z bn O bb rfl v1 (0+1) ([]++bvs [t]) rfl (M.alloc _) _ _ 3 3 (bvs [130,UInt8.ofNat (n / 256),UInt8.ofNat n]) rfl rfl (Ip w1 5 _ [130,UInt8.ofNat (n / 256),UInt8.ofNat n] (by rw[bx.o]) _ rfl) (BA _) bB.o (by omega) (by simp;have:=bq.size;simp at this;omega) ?_;intro v2 w2 av bz ca))
  go_ret;have b1:Below w.heap.size w w1:=(((Below.refl w.heap.size w).alloc Ag _).alloc (by simp) _).grown bq (by simp;omega) (by intro k hk;simp [Value.ownBlock] at hk;omega);have b2:=(b1.alloc b1.size _).grown bz (by have:=b1.size;simp;omega) (fun k hk=>(M.lt k hk).1);exact⟨v2,rfl,by rw[E.o];simpa [bvs] using av,b2⟩
theorem VP (t:UInt8) (n:Nat) (h:n<=65535) (w:World):Calls Tryz.prog 240 #[.int .u8 t.toNat,.int .i64 (n:Int)] w fun e w'=>
  ∃v,e=.returned v/\w'.ownsRow w.heap.size 5 1 v (1+(szL n).length) (bvs (t :: szL n))/\Below w.heap.size w w':=by
 by_cases h1:n<128
 ·exact Qu t n h1 w
 ·by_cases h2:n<=255
  ·exact VN t n h1 h2 w
  ·exact VO t n h1 h2 h w
def Rds (w:World) (B:Nat) (A:Option Addr) (ls:List L):Prop:=
 ls = []\/∃b o,A=some ⟨b,o,none⟩/\b<B/\∀i l,ls[i]? = some l->∃A' c',w.cell? ⟨b,o+i,none⟩=some (.slice A' l.length c')/\Rd w B A' (bvs l)
theorem Rds.at_ {w:World} {B:Nat} {A:Option Addr} {ls:List L} (h:Rds w B A ls) {i:Nat} {l:L} (hi:ls[i]? = some l) :
  ∃b o,A=some ⟨b,o,none⟩/\b<B/\∃A' c',w.cell? ⟨b,o+i,none⟩=some (.slice A' l.length c')/\Rd w B A' (bvs l):=by
 rcases h with h | ⟨b,o,Z,M,O⟩
 ·subst h;simp at hi
 ·exact⟨b,o,Z,M,O i l hi⟩
theorem Rds.below {w w':World} {B:Nat} {A:Option Addr} {ls:List L} (h:Rds w B A ls) (O:Below B w w'):Rds w' B A ls:=by
 rcases h with h | ⟨b,o,h1,M,Z⟩
 ·exact .inl h
 ·refine .inr ⟨b,o,h1,M,fun i l hl=>?_⟩
  obtain⟨A',c',g1,g2⟩:=Z i l hl;exact⟨A',c',(O.cell (p:=⟨b,o+i,none⟩) M).trans g1,g2.below O⟩
theorem Jj (ls:List L) (k:Nat) (l:L) (h:ls[k]? = some l):(ls.take (k+1)).flatten=(ls.take k).flatten++l:=by
 obtain⟨hk,e⟩:=List.getElem?_eq_some_iff.1 h;rw[List.take_succ_eq_append_getElem hk,e];simp
theorem Jk (ls:List L) (k:Nat):(ls.take k).flatten.length<=ls.flatten.length:=by
 conv=>rhs;rw[<-List.take_append_drop k ls,List.flatten_append,List.length_append]
 omega
def pre (ls:List L) (k:Nat):Nat:=(ls.take k).flatten.length
def built (t:UInt8) (ls:List L) (k:Nat):L:=t :: szL ls.flatten.length++(ls.take k).flatten
theorem VQ (ls:List L) (k:Nat) (l:L) (h:ls[k]? = some l):pre ls (k+1)=pre ls k+l.length:=by
 rw[pre,Jj ls k l h,List.length_append];rfl
theorem bH (ls:List L) (k:Nat):pre ls k<=ls.flatten.length:=Jk ls k
theorem YW (ls:List L):pre ls ls.length=ls.flatten.length:=by rw[pre,List.take_of_length_le Ag]
theorem Qv (t:UInt8) (ls:List L) (k:Nat) (l:L) (h:ls[k]? = some l):built t ls (k+1)=built t ls k++l:=by
 rw[built,Jj ls k l h,built,List.append_assoc]
theorem Sq (t:UInt8) (ls:List L):built t ls ls.length=elem t ls.flatten:=by
 rw[built,List.take_of_length_le Ag];rfl
theorem VR (t:UInt8) (ls:List L) (k:Nat) (h:ls.flatten.length<=65535):(built t ls k).length<=65539:=by
 have Z:=Jk ls k;have M:=Hs ls.flatten.length;have O:(szL ls.flatten.length).length<=3:=by rw[M];split<;>(try split)<;>omega
 rw[built,List.length_append,List.length_cons];omega
theorem Ds (t : UInt8) (ls : List L) (A : Option Addr) (m c B : Nat) (w : World) (hr : Rds w B A ls) (hm : m = ls.length) (hB : B <= w.heap.size) (hl : ls.flatten.length <= 65535) (hc : ls.length <= 1000000) :
    Calls Tryz.prog 220 #[.int .u8 t.toNat,.slice A m c] w fun e w'=>
      ∃v,e=.returned v/\w'.ownsRow w.heap.size 5 1 v (elem t ls.flatten).length (bvs (elem t ls.flatten))/\Below w.heap.size w w':=by
  obtain⟨i0,cj,cf,cg,cd⟩:=info_parts Co;have ca:=YW ls;have hh:∀W,Calls Tryz.prog 240 #[.int .u8 t.toNat,.int .i64 ((pre ls m:Nat):Int)] W fun e w'=>
    ∃v,e=.returned v/\w'.ownsRow W.heap.size 5 1 v (built t ls 0).length (bvs (built t ls 0))/\Below W.heap.size W w':=by
    intro W;have:=VP t _ hl W;have e1:built t ls 0=t :: szL ls.flatten.length:=by simp [built]
    rw[e1,hm,ca,List.length_cons,Nat.add_comm];exact this
  have HH:=I hh;clear hh;have bB:=I (fun k=>Nat.le_trans (bH ls k) hl);have bx:=I (fun k=>VR t ls k hl);have ck:=I (Sq t ls);have cb:=I ml;have HR:=I hr;clear hr;have cq:(m:Int)<=1000000:=by omega
  have HM:=I hm;clear hm hc hl ca;go_enter Tryz.func220,Tryz.ntmps220
  go_wp2
  go_loop [5,13] (fun n i=>∃k:Nat,k<=m/\i=.int .i64 (k:Int)/\n=.int .i64 ((pre ls k:Nat):Int)) (fun _ i=>m - (intOf i).toNat)
  case atStart=>exact⟨0,by omega,rfl,rfl⟩
  case round=>
    obtain⟨k,hk,rfl,rfl⟩:=hrel
    by_cases hlt:k<m
    · obtain ⟨l, hx⟩ : ∃ l, ls[k]? = some l := ⟨_, List.getElem?_eq_getElem (by have := HM.o; omega)⟩
      obtain⟨b,o,rfl,hb,A',c',bb,Z⟩:=HR.o.at_ hx;have bn:=bB.o k;have bq:=bB.o (k+1);have hs:=VQ ls k l hx;have HS:=I hs;have g1:decide ((65535:Int)<((pre ls k:Nat):Int)+(l.length:Int))=false:=by simp only[decide_eq_false_iff_not];omega
      have cr:(l.length:Int)<=65535:=by omega
      have cp:((pre ls k:Nat):Int)<=65535:=by omega
      clear hs bn bq hx Z
      go_wp2
      exact⟨⟨k+1,by omega,by go_num,by rw[HS.o];go_num⟩,by simp [intOf];omega⟩
    · obtain rfl : k = m := by omega
      clear hk hlt
      go_wp2_with (go_at_call 240;refine(HH.o _).mono ?_;rintro e w1 ⟨v,rfl,av,bs⟩)
      go_loopw [8,29] (fun v i wr=>∃j:Nat,j<=k/\i=.int .i64 (j:Int)/\wr.ownsRow w.heap.size 5 1 v (built t ls j).length (bvs (built t ls j))/\Below w.heap.size w wr) (fun _ i _=>k - (intOf i).toNat)
      case atStart=>exact⟨0,by omega,rfl,av,bs⟩
      case round=>
        obtain⟨j,hj,rfl,O,M⟩:=hrel
        by_cases hlt:j<k
        · obtain ⟨l, hx⟩ : ∃ l, ls[j]? = some l := ⟨_, List.getElem?_eq_getElem (by have := HM.o; omega)⟩
          obtain⟨b,o,rfl,hb,A',c',bb,Z⟩:=(HR.o.below (M.mono hB)).at_ hx;have hs:=Qv t ls j l hx;have bn:=bx.o j;have bq:=bx.o (j+1);have bz:=congrArg List.length hs;rw[List.length_append] at bz;have HS:=I hs;have cn:(built t ls j).length+l.length<=65539:=by omega
          have HO:=I O;have HQ:=I Z;clear hs bz hx bn bq O Z av
          go_wp2_with (at_builtin
                       refine AI _ rfl (.tmp 33) (.tmp 34) 33 rfl w.heap.size 5 i0 _ 1 Tryz.underlying33 cj cf cg cd rfl _ (built t ls j).length (bvs (built t ls j)) rfl HO.o B A' l.length c' (bvs l) rfl (AG l).symm HQ.o (BA _) (cb.o _ (by omega)) (by omega) M.size ?_;intro v2 w2 aw cc cm)
          refine⟨⟨j+1,by omega,by go_num,?_,M.grown cc M.size (fun i hi=>(HO.o.lt i hi).1)⟩,by simp [intOf];omega⟩;rw[HS.o,Bz,List.length_append];exact aw
        · obtain rfl : j = k := by omega
          clear hj hlt
          go_wp2
          go_ret;have e:built t ls j=elem t ls.flatten:=by rw[HM.o];exact ck.o
          rw[e] at O;exact⟨_,rfl,O,M⟩
theorem NZ (w:World) (t:TypeId) (B:Nat) (A:Option Addr) (l:L) (n c:Nat) (O:n=l.length) (h:Rd w B A (bvs l)) (hB:B<=w.heap.size) :
  Rds (w.alloc (.cells #[.slice A n c] t)) (w.heap.size+1) (some ⟨w.heap.size,0,none⟩) [l]:=by
 subst O;refine .inr ⟨w.heap.size,0,rfl,by omega,fun i l' hi=>?_⟩;have M:i=0:=by
  rcases Nat.eq_zero_or_pos i with g | g
  ·exact g
  ·rw[List.getElem?_eq_none (by simp;omega)] at hi;cases hi
 subst M;injection hi with hi;subst hi;exact⟨A,c,(Blk.new w t _).cell 0,(h.alloc hB _).more (by omega)⟩
theorem Di (l:L) (A:Option Addr) (n c B:Nat) (w:World) (hr:Rd w B A (bvs l)) (hn:n=l.length) (hB:B<=w.heap.size) (hl:l.length<=65535) :
  Calls Tryz.prog 224 #[.slice A n c] w fun e w'=>
   ∃v,e=.returned v/\w'.ownsRow w.heap.size 5 1 v (elem 4 l).length (bvs (elem 4 l))/\Below w.heap.size w w':=by
 have O:=NZ w 33 B A l n c hn hr hB;have hw:=Ds 4 [l] (some ⟨w.heap.size,0,none⟩) 1 1 (w.heap.size+1) (w.alloc (.cells #[.slice A n c] 33)) O rfl (by simp) (by simpa using hl) (by simp);have e:[l].flatten=l:=by simp
 rw[e] at hw;have HW:=I hw;clear hw O hr hn hl e;go_enter Tryz.func224,Tryz.ntmps224
 go_wp2_with (go_at_call 220;refine HW.o.mono ?_;rintro e w1 ⟨v,rfl,Z,M⟩)
 go_ret;refine⟨_,rfl,?_,(Below.refl w.heap.size w).alloc Ag _ |>.trans (M.mono (by simp))⟩;exact Z.mono (by simp)
theorem BN (n : Int) (w : World) :
    Calls Tryz.prog 222 #[.int .i64 n] w fun e w'=>
      ∃v,e=.returned v/\w'.ownsRow w.heap.size 5 1 v (encI n).length (bvs (encI n))/\Below w.heap.size w w':=by
  have hd:=Qt (Cl n) (GG n);rw[Kk] at hd;have hw : ∀ (W : World) (g : Nat), Blk W g 5 (bvs (dig (Cl n))).toArray -> Calls Tryz.prog 220 #[.int .u8 2, .slice (some ⟨W.heap.size, 0, none⟩) 1 1] (W.alloc (.cells #[.slice (some ⟨g, 0, none⟩) (dig (Cl n)).length (dig (Cl n)).length] 33)) fun e w' =>
      ∃v,e=.returned v/\w'.ownsRow W.heap.size 5 1 v (encI n).length (bvs (encI n))/\Below W.heap.size W w':=by
    intro W g hB;have hr:Rd W W.heap.size (some ⟨g,0,none⟩) (bvs (dig (Cl n))):=.inr ⟨g,0,rfl,hB.lt,fun i u hu=>by
      rw[Nat.zero_add,hB.cell i];simpa using hu⟩
    have av:=NZ W 33 W.heap.size _ _ _ (dig (Cl n)).length rfl hr Ag;have aw:=KX n;have h:=Ds 2 [dig (Cl n)] (some ⟨W.heap.size,0,none⟩) 1 1 (W.heap.size+1) _ av rfl (by simp) (by simp;omega) (by simp);have e:[dig (Cl n)].flatten=dig (Cl n):=by simp
    rw[e] at h;refine h.mono ?_;rintro e w' ⟨v,rfl,O,M⟩;exact⟨v,rfl,O.mono (by simp),(Below.refl W.heap.size W).alloc Ag _ |>.trans (M.mono (by simp))⟩
  have HD:=I hd;have HW:=I hw;clear hd hw;go_enter Tryz.func222,Tryz.ntmps222
  go_wp2_with (first
    |(go_at_call 241;refine(HD.o _).mono ?_;rintro e w1 ⟨g,rfl,hg,hB,M⟩)
    |(go_at_call 220;refine(HW.o _ _ hB).mono ?_;rintro e w2 ⟨v,rfl,O,Z⟩))
  go_ret;exact⟨_,rfl,O.mono M.size,M.trans (Z.mono M.size)⟩
theorem Ey (l : L) (w : World) (hl : l.length <= 65535) :
    Calls Tryz.prog 232 #[.string ⟨l.toArray⟩] w fun e w'=>
      ∃v,e=.returned v/\w'.ownsRow w.heap.size 5 1 v (elem 27 l).length (bvs (elem 27 l))/\Below w.heap.size w w':=by
  have aw:=fun(W:World)=>Lib.run_convert_string_bytes (P:=Tryz.prog) W 9 33 5 ⟨l.toArray⟩ Tryz.underlying9 Tryz.underlying33 Tryz.underlying5
  have hw : ∀ (W : World) (c : Nat), Calls Tryz.prog 220 #[.int .u8 27, .slice (some ⟨W.heap.size + 1, 0, none⟩) 1 1] ((Lib.bytesWorld W 5 ⟨l.toArray⟩).alloc (.cells #[.slice (some ⟨W.heap.size, 0, none⟩) l.length c] 33)) fun e w' =>
      ∃v,e=.returned v/\w'.ownsRow W.heap.size 5 1 v (elem 27 l).length (bvs (elem 27 l))/\Below W.heap.size W w':=by
    intro W c;have hs:=Lib.bytesWorld_size W 5 ⟨l.toArray⟩;have hr:=(Gl W 5 l).rd;have av:=NZ _ 33 _ _ _ l.length c rfl hr Ag;rw[hs] at av;have h:=Ds 27 [l] (some ⟨W.heap.size+1,0,none⟩) 1 1 (W.heap.size+1+1) _ av rfl (by simp [hs]) (by simpa using hl) (by simp);have e:[l].flatten=l:=by simp
    rw[e] at h;refine h.mono ?_;rintro e w' ⟨v,rfl,M,Z⟩;refine⟨v,rfl,M.mono (by simp [hs];omega),?_⟩;exact((Et W _ _).alloc (by rw[hs];omega) _).trans (Z.mono (by simp [hs];omega))
  have HW:=I hw;clear hw hl;have bb:=fun(W:World)=>Lib.bytesWorld_size W 5 ⟨l.toArray⟩
  go_enter Tryz.func232,Tryz.ntmps232
  go_wp2_with (go_at_call 220;refine(HW.o _ _).mono ?_;rintro e w2 ⟨v,rfl,M,O⟩)
  go_ret;exact⟨_,rfl,M,O⟩
end DerW
namespace DerK
open Go.RowKit Af DerP
attribute [local go_sem] Ep List.getElem_cons_zero List.getElem_cons_succ
theorem Jl {w:World} {base n:Nat} {t:TypeId} {v:Value} {l:L} (h:w.ownsRow base t 1 v n (bvs l)) (hl:0<l.length) :
  ∃g cap,v=.slice (some ⟨g,0,none⟩) l.length cap/\base<=g/\l.length<=cap/\Rd w w.heap.size (some ⟨g,0,none⟩) (bvs l):=by
 have Z:n=l.length:=by have:=h.1;rw[AG] at this;omega
 subst Z;rcases h.2 with⟨_,h2⟩ | ⟨g,cap,cur,rfl,M,_,O,_⟩
 ·omega
 ·exact⟨g,cap,rfl,M,O,Rd.of_own h⟩
end DerK
namespace DerR
open Go.RowKit Af DerP
def BX (w:World) (l:L) (e:Ending) (w':World):Prop:=
 (∃g cap,e=.returned (.slice (some ⟨g,0,none⟩) l.length cap)/\w.heap.size<=g/\l.length<=cap/\Rd w' w'.heap.size (some ⟨g,0,none⟩) (bvs l))/\Below w.heap.size w w'
theorem Fz {w w':World} {v:Value} {n:Nat} {t:TypeId} {l:L} (h:w'.ownsRow w.heap.size t 1 v n (bvs l)) (hl:0<l.length) (Z:Below w.heap.size w w'):BX w l (.returned v) w':=by
 obtain⟨g,cap,rfl,h1,M,O⟩:=DerK.Jl h hl;exact⟨⟨g,cap,rfl,h1,M,O⟩,Z⟩
theorem Jm (w:World) (t:TypeId) (cs:Array Value) (l:L) (h:cs.toList=bvs l) (n:Nat) (M:n=l.length):BX w l (.returned (.slice (some ⟨w.heap.size,0,none⟩) n n)) (w.alloc (.cells cs t)):=by
 subst M;refine⟨⟨_,_,rfl,Nat.le_refl _,Nat.le_refl _,?_⟩,Ah.alloc Ag _⟩;have:=DerW.Ip w t cs l h _ rfl
 simpa using this
theorem VS (n:Nat) (h:n<=65535) (w:World):Calls Tryz.prog 160 #[.int .i64 (n:Int)] w (BX w (szL n)):=by
 by_cases h1:n<128
 ·have Z:decide ((n:Int)<128)=true:=by simp;omega
  have E:=I (show szL n = [UInt8.ofNat n] by simp [szL,h1]);have M:=I (DerW.GM n (by omega));have O:(n:Int)<=127:=by omega
  clear h h1;go_enter Tryz.func160,Tryz.ntmps160
  go_wp2
  go_ret;rw[E.o];exact Jm w 5 _ _ (by simp [bvs,M.o]) _ rfl
 ·have Z:decide ((n:Int)<128)=false:=by simp;omega
  by_cases h2:n<=255
  ·have g2:decide ((n:Int)<256)=true:=by simp;omega
   have E:=I (show szL n = [129,UInt8.ofNat n] by simp [szL,h1,h2]);have M:=I (DerW.GM n (by omega));have O:(n:Int)<=255:=by omega
   clear h h1 h2;go_enter Tryz.func160,Tryz.ntmps160
   go_wp2
   go_ret;rw[E.o];exact Jm w 5 _ _ (by simp [bvs,M.o];rfl) _ rfl
  ·have g2:decide ((n:Int)<256)=false:=by simp;omega
   have E:=I (show szL n = [130,UInt8.ofNat (n / 256),UInt8.ofNat n] by simp [szL,h1,h2]);have M:=I (show bvs [130,UInt8.ofNat (n / 256),UInt8.ofNat n] = [.int .u8 130,.int .u8 ((n:Int) / 256),.int .u8 ((n:Int) % 256)] by simp [bvs,bv];omega);have O:(n:Int)<=65535:=by omega
   clear h h1 h2;go_enter Tryz.func160,Tryz.ntmps160
   go_wp2
   go_ret;rw[E.o];exact Jm w 5 _ _ (by rw[M.o]) _ rfl
theorem bI (n:Nat):(szL n).length<=3:=by rw[Hs];split<;>(try split)<;>omega
theorem GN (t : UInt8) (p : L) (A : Option Addr) (n c B : Nat) (w : World) (hr : Rd w B A (bvs p)) (hn : n = p.length) (hB : B <= w.heap.size) (hp : p.length <= 65535) :
    Calls Tryz.prog 113 #[.int .u8 t.toNat,.slice A n c] w (BX w (elem t p)):=by
  obtain⟨i0,cd,cg,cb,cf⟩:=info_parts DerW.Co;have bz:∀W:World,Calls Tryz.prog 160 #[.int .i64 (n:Int)] W (BX W (szL n)):=fun W=>VS n (by omega) W
  have HS:=I bz;have HR:=I hr;have HN:=I hn;have HP:=I hp;have h3:=I (bI n);have bx:=I DerW.ml;have bb:Hid ((w.alloc (.cells #[.int .u8 (t.toNat:Int)] 5)).ownsRow w.heap.size 5 1 (.slice (some ⟨w.heap.size,0,none⟩) 1 1) 1 (bvs [t])):=World.ownsRow_lit w #[.int .u8 (t.toNat:Int)] 1 Ag (DerW.ml 1 (by omega)) rfl;clear bz hr hn hp;go_enter Tryz.func113,Tryz.ntmps113
  go_wp2_with (first
    | (go_at_call 160; refine (HS.o _).mono ?_; rintro e w1 ⟨⟨g1, c1, rfl, cq, cr, av⟩, bB⟩
       have bn:Below w.heap.size w w1:=((Below.refl w.heap.size w).alloc Ag _).trans (bB.mono (by simp));have ca:=I (BS bb.o bB);have cp:=I av;clear av)
    | (at_builtin
       refine AI _ rfl (.tmp 6) (.tmp 9) 33 rfl w.heap.size 5 i0 _ 1 Tryz.underlying33 cd cg cb cf rfl (.slice (some ⟨w.heap.size,0,none⟩) 1 1) 1 (bvs [t]) rfl ca.o w1.heap.size _ (szL n).length c1 (bvs (szL n)) rfl (AG _).symm cp.o (BA _) (bx.o _ (by have:=h3.o;omega)) (by have:=h3.o;omega) bn.size ?_;intro v2 w2 O cn bs;have Z:=bn.grown cn bn.size (fun k hk=>(ca.o.lt k hk).1);have bq:=I O;clear O bs)
    | (at_builtin
       refine AI _ rfl (.tmp 10) (.tmp 11) 33 rfl w.heap.size 5 i0 _ 1 Tryz.underlying33 cd cg cb cf rfl v2 (1+(szL n).length) (bvs [t]++bvs (szL n)) rfl bq.o B A n c (bvs p) rfl (by rw[AG];exact HN.o) (HR.o.below (Z.mono hB)) (BA _) (bx.o _ (by have:=h3.o;have:=HN.o;have:=HP.o;omega)) (by have:=h3.o;have:=HN.o;have:=HP.o;omega) Z.size ?_;intro v3 w3 M cj cc;have cm:=Z.grown cj Z.size (fun k hk=>(bq.o.lt k hk).1);have ck:=I M;clear M cc))
  go_ret;have aw:=ck.o;rw[HN.o,<-Bz,<-Bz,show [t]++szL p.length++p=elem t p from rfl] at aw;exact Fz aw (by rw[Ex];omega) cm
theorem Di (p:L) (A:Option Addr) (n c B:Nat) (w:World) (hr:Rd w B A (bvs p)) (hn:n=p.length) (hB:B<=w.heap.size) (hp:p.length<=65535) :
  Calls Tryz.prog 77 #[.slice A n c] w (BX w (elem 4 p)):=by
 have H:=I (GN 4 p A n c B w hr hn hB hp);clear hr hn hB hp;go_enter Tryz.func77,Tryz.ntmps77
 go_wp2_with (go_at_call 113;refine(Calls.mono H.o ?_);rintro e w1 ⟨⟨g1,c1,rfl,O,Z,M⟩,av⟩)
 go_ret;exact⟨⟨g1,c1,rfl,O,Z,M⟩,av⟩
theorem Ey (l:L) (w:World) (hl:l.length<=65535) :
  Calls Tryz.prog 78 #[.string ⟨l.toArray⟩] w (BX w (elem 27 l)):=by
 have aw:=fun(W:World)=>Lib.run_convert_string_bytes (P:=Tryz.prog) W 9 33 5 ⟨l.toArray⟩ Tryz.underlying9 Tryz.underlying33 Tryz.underlying5
 have he:∀(c:Nat),Calls Tryz.prog 113 #[.int .u8 27,.slice (some ⟨w.heap.size,0,none⟩) l.length c] (Lib.bytesWorld w 5 ⟨l.toArray⟩) (BX (Lib.bytesWorld w 5 ⟨l.toArray⟩) (elem 27 l)):=
  fun c=>GN 27 l _ _ c _ _ (Gl w 5 l).rd rfl Ag hl
 have HE:=I he;have HB:=I (Et w 5 ⟨l.toArray⟩);clear he hl;go_enter Tryz.func78,Tryz.ntmps78
 go_wp2_with (go_at_call 113;refine(Calls.mono (HE.o _) ?_);rintro e w1 ⟨⟨g1,c1,rfl,O,Z,M⟩,av⟩)
 go_ret;exact⟨⟨g1,c1,rfl,Nat.le_trans HB.o.size O,Z,M⟩,bt HB.o av⟩
theorem Mr (j m:Nat):digK (j+1) m=UInt8.ofNat (m / 256 ^ j) :: digK j m:=by
 induction j generalizing m with
 |zero=>simp [digK]
 |succ j ih=>
  rw[digK,ih (m / 256)];rw[Nat.div_div_eq_div_mul,Nat.mul_comm,<-Nat.pow_succ]
  rfl
theorem Sr (m j:Nat) (hm:m<=4611686018427387904) (hj:1<=j) (h1:j=1\/256 ^ (j - 1)<=m) (Z:m / 256 ^ (j - 1)<128):dig m=digK j m:=by
 have hp:0<256 ^ (j - 1):=Nat.pow_pos (by omega);have O:m<128*256 ^ (j - 1):=by rw[Nat.div_lt_iff_lt_mul hp] at Z;exact Z
 have av:j<=8:=by
  rcases Nat.lt_or_ge 8 j with g | g
  ·exfalso
   rcases h1 with h | h
   ·omega
   ·have:256 ^ 8<=256 ^ (j - 1):=Nat.pow_le_pow_right (by omega) (by omega)
    have e:(256:Nat) ^ 8=18446744073709551616:=by decide
    omega
  ·exact g
 have M:m<2 ^ (8*(j - 1)+7):=by
  rw[Nat.pow_add,<-Jg,Nat.mul_comm];simpa using O
 have hb:=DZ m _ (by omega) M;have hk:Lib.bitLen m / 8+1=j:=by
  rcases h1 with h | h
  ·omega
  ·have h3:2 ^ (8*(j - 1))<=m:=by rw[<-Jg];exact h
   have:=Jf m (by omega) _ h3;omega
 rw[dig,hk]
theorem Qw (m j:Nat) (hm:m<=4611686018427387904) (hj:1<=j) (h0:m / 256 ^ j=0) (h2:128<=m / 256 ^ (j - 1)):dig m=0 :: digK j m:=by
 have hp:0<256 ^ (j - 1):=Nat.pow_pos (by omega);have Z:128*256 ^ (j - 1)<=m:=by rw[Nat.le_div_iff_mul_le hp] at h2;exact h2
 have O:0<256 ^ j:=Nat.pow_pos (by omega);have av:m<256 ^ j:=by
  rcases Nat.lt_or_ge m (256 ^ j) with g | g
  ·exact g
  ·have:=Nat.div_pos g O;omega
 have M:2 ^ (8*(j - 1)+7)<=m:=by
  rw[Nat.pow_add,<-Jg,Nat.mul_comm];simpa using Z
 have h3:=Jf m (by omega) _ M;have aw:=GH m hm;have h4:=DZ m (8*j) (by omega) (by rw[<-Jg];exact av);have hk:Lib.bitLen m / 8+1=j+1:=by omega
 rw[dig,hk,Mr,h0]
 rfl
theorem Gp (m j:Nat) (Z:1<=j) (O:m / 256 ^ j=0):m / 256 ^ (j - 1)<256:=by
 have hp:0<256 ^ (j - 1):=Nat.pow_pos (by omega);have M:0<256 ^ j:=Nat.pow_pos (by omega);rw[Nat.div_lt_iff_lt_mul hp,Nat.mul_comm,<-Nat.pow_succ,show(j - 1).succ=j by omega];rcases Nat.lt_or_ge m (256 ^ j) with g | g
 ·exact g
 ·have:=Nat.div_pos g M;omega
theorem Qx {w:World} {g j m:Nat} (Z:1<=j) (O:m / 256 ^ j=0) (h:Rd w w.heap.size (some ⟨g,0,none⟩) (bvs (digK j m))):w.cell? ⟨g,0,none⟩=some (.int .u8 ((m / 256 ^ (j - 1):Nat):Int)):=by
 have ha:=RZ j m 0 (by omega);obtain⟨b,o,e,_,M⟩:=h.at_ (i:=0) (u:=bv (UInt8.ofNat (m / 256 ^ (j - 1)))) (by simp only[bvs,List.getElem?_map,ha];rfl);injection e with e;injection e with e1 e2;subst e1 e2;have hf:=Gp m j Z O;rw[show(0+0:Nat)=0 from rfl] at M;rw[M,DerW.GM _ hf]
def Left (m:Nat) (W:World) (n p:Value) (w:World):Prop:=
 ∃j g cap,1<=j/\(j=1\/256 ^ (j - 1)<=m)/\j<=9/\n=.int .i64 ((m / 256 ^ j:Nat):Int)/\p=.slice (some ⟨g,0,none⟩) j cap/\Rd w w.heap.size (some ⟨g,0,none⟩) (bvs (digK j m))/\Below W.heap.size W w
theorem BN (n : Int) (w : World) :
    Calls Tryz.prog 79 #[.int .i64 n] w (BX w (encI n)):=by
  obtain⟨i0,cx,ct,cw,cr⟩:=info_parts DerW.Co;have cq:=Kk n;have hm:=GG n;have E:Hid (encI n=elem 2 (dig (Cl n))):=rfl;generalize Cl n=m at *;have HM:=I hm;have cP:(m:Int)<=4611686018427387904:=by omega
  have cp:=I DerW.ml;have cj:=I (show [Value.int .u8 ((m:Int) % 256)]=bvs (digK 1 m) by simp [bvs,bv,digK]);have cL:=cq.symm;clear cq hm;go_enter Tryz.func79,Tryz.ntmps79
  go_wp2
  go_loopw [0,3] (fun nv p wr=>Left m w nv p wr) (fun nv _ _=>(intOf nv).toNat)
  case atStart=>
    refine⟨1,w.heap.size,1,Nat.le_refl _,.inl rfl,by omega,by simp,rfl,?_,Ah.alloc Ag _⟩;have:=DerW.Ip w 5 #[Value.int .u8 ((m:Int) % 256)] (digK 1 m) cj.o _ rfl
    simpa using this
  case round=>
    obtain⟨j,g,cap,Z,bx,cR,rfl,rfl,bb,O⟩:=hrel
    by_cases h0:m / 256 ^ j=0
    · have cB := Qx Z h0 bb
      have hf:=Gp m j Z h0;have bz:=I bb;have HJ:=I Z;have cT:=I bx;have H0:=I h0;rw[h0];have HN:=I (Gp m j Z h0)
      by_cases h128:m / 256 ^ (j - 1)<128
      · have G := I (Sr m j HM.o Z bx h128)
        have he:∀W:World,Rd W W.heap.size (some ⟨g,0,none⟩) (bvs (digK j m))->Calls Tryz.prog 113 #[.int .u8 2,.slice (some ⟨g,0,none⟩) j cap] W (BX W (elem 2 (digK j m))):=
          fun W hW=>GN 2 (digK j m) _ j cap _ W hW (Bi j m).symm Ag (by rw[Bi];omega)
        have cg:=I he;have g5:decide ((128:Int)<=((m / 256 ^ (j - 1):Nat):Int))=false:=by simp only[decide_eq_false_iff_not];omega
        clear he bb hf h128 Z bx h0;generalize m / 256 ^ (j - 1)=a at *;have cn:(j:Int)<=9:=by omega
        have cu:0<j:=HJ.o
        go_wp2_with (go_at_call 113;refine(Calls.mono (cg.o _ bz.o) ?_);rintro e w1 ⟨⟨g1,c1,rfl,cb,ck,bq⟩,ca⟩)
        go_ret;rw[E.o,G.o];exact⟨⟨g1,c1,rfl,Nat.le_trans O.size cb,ck,bq⟩,bt O ca⟩
      · have G := I (Qw m j HM.o Z h0 (by omega))
        have he:∀(W:World) (g' c':Nat),Rd W W.heap.size (some ⟨g',0,none⟩) (bvs (0 :: digK j m))->Calls Tryz.prog 113 #[.int .u8 2,.slice (some ⟨g',0,none⟩) (0 :: digK j m).length c'] W (BX W (elem 2 (0 :: digK j m))):=
          fun W g' c' hW=>GN 2 (0 :: digK j m) _ _ c' _ W hW rfl Ag (by simp only[List.length_cons,Bi];omega)
        have cg:=I he;have g5:decide ((128:Int)<=((m / 256 ^ (j - 1):Nat):Int))=true:=by simp only[decide_eq_true_eq];omega
        have av:Hid ((wr.alloc (.cells #[.int .u8 0] 5)).ownsRow wr.heap.size 5 1 (.slice (some ⟨wr.heap.size,0,none⟩) 1 1) 1 (bvs [0])):=World.ownsRow_lit wr #[.int .u8 0] 1 Ag (DerW.ml 1 (by omega)) rfl;clear he bb hf h128 Z bx h0;generalize m / 256 ^ (j - 1)=a at *;have cn:(j:Int)<=9:=by omega
        have cu:0<j:=HJ.o
        go_wp2_with (first
          | (at_builtin
             refine AI _ rfl (.tmp 25) (.tmp 26) 33 rfl wr.heap.size 5 i0 _ 1 Tryz.underlying33 cx ct cw cr rfl (.slice (some ⟨wr.heap.size,0,none⟩) 1 1) 1 (bvs [0]) rfl av.o wr.heap.size (some ⟨g,0,none⟩) j cap (bvs (digK j m)) rfl (by rw[AG,Bi]) (bz.o.alloc Ag _) (BA _) (cp.o _ (by omega)) (by omega) (by simp) ?_;intro v2 w2 M cc bn;rw[<-Bz,List.singleton_append] at M;obtain⟨g3,bB,rfl,cy,cd,bs⟩:=DerK.Jl M (by simp);have aw:Below wr.heap.size wr w2:=((Below.refl wr.heap.size wr).alloc Ag _).grown cc (by simp) (fun k hk=>by simp [Value.ownBlock] at hk;omega);clear M bn)
          |(go_at_call 113;refine(Calls.mono (cg.o _ _ _ bs) ?_);rintro e w1 ⟨⟨g1,c1,rfl,cb,ck,bq⟩,ca⟩))
        go_ret;rw[E.o,G.o];exact⟨⟨g1,c1,rfl,Nat.le_trans (Nat.le_trans O.size aw.size) cb,ck,bq⟩,bt (bt O aw) ca⟩
    · have hle : 256 ^ j <= m := by
        have cM:0<256 ^ j:=Nat.pow_pos (by omega);rcases Nat.lt_or_ge m (256 ^ j) with g' | g'
        · exact absurd (Nat.div_eq_of_lt g') h0
        · exact g'
      have cX:j<8:=by
        rcases Nat.lt_or_ge j 8 with g' | g'
        · exact g'
        · exfalso
          have:256 ^ 8<=256 ^ j:=Nat.pow_le_pow_right (by omega) g';have e:(256:Nat) ^ 8=18446744073709551616:=by decide
          have:=HM.o;omega
      have cm:=I (show m / 256 ^ j / 256=m / 256 ^ (j+1) by rw[Nat.div_div_eq_div_mul,<-Nat.pow_succ]);have cf:=I (Mr j m);have hy:m / 256 ^ j<=m:=Nat.div_le_self _ _;have bz:=I bb;have cA:=I hle;clear bb hle bx;generalize m / 256 ^ j=y at *;have g6:decide ((0:Int)<(y:Int))=true:=by simp;omega
      have cQ:(y:Int)<=4611686018427387904:=by omega
      have av:Hid ((wr.alloc (.cells #[.int .u8 ((y:Int) % 256)] 5)).ownsRow wr.heap.size 5 1 (.slice (some ⟨wr.heap.size,0,none⟩) 1 1) 1 (bvs [UInt8.ofNat y])):=by
        have:=World.ownsRow_lit (base:=wr.heap.size) (e:=5) (size:=1) wr #[.int .u8 ((y:Int) % 256)] 1 Ag (DerW.ml 1 (by omega)) rfl;rw[show(#[Value.int .u8 ((y:Int) % 256)]:Array Value).toList=bvs [UInt8.ofNat y] by simp [bvs,bv]] at this;exact this
      have HY:=I (show 0<y by omega);clear h0 hy
      go_wp2_with (at_builtin
                   refine AI _ rfl (.tmp 18) (.tmp 19) 33 rfl wr.heap.size 5 i0 _ 1 Tryz.underlying33 cx ct cw cr rfl (.slice (some ⟨wr.heap.size,0,none⟩) 1 1) 1 (bvs [UInt8.ofNat y]) rfl av.o wr.heap.size (some ⟨g,0,none⟩) j cap (bvs (digK j m)) rfl (by rw[AG,Bi]) (bz.o.alloc Ag _) (BA _) (cp.o _ (by omega)) (by omega) (by simp) ?_;intro v2 w2 M cc bn;rw[<-Bz,List.singleton_append,<-cf.o] at M;obtain⟨g3,bB,rfl,cy,cd,bs⟩:=DerK.Jl M (by rw[Bi];omega);rw[Bi];have aw:Below wr.heap.size wr w2:=((Below.refl wr.heap.size wr).alloc Ag _).grown cc (by simp) (fun k hk=>by simp [Value.ownBlock] at hk;omega);clear M bn)
      refine⟨⟨j+1,g3,bB,by omega,.inr (by simpa using cA.o),by omega,?_,rfl,bs,bt O aw⟩,?_⟩
      · rw [<- cm.o]; rfl
      · have := HY.o; simp [intOf]; omega
theorem YX {w:World} {base n:Nat} {t:TypeId} {v:Value} {l:L} (h:w.ownsRow base t 1 v n (bvs l)) :
  ∃A cap,v=.slice A l.length cap/\Rd w w.heap.size A (bvs l):=by
 have Z:n=l.length:=by have:=h.1;rw[AG] at this;omega
 subst Z;rcases h.2 with⟨O,M⟩ | ⟨g,cap,cur,rfl,hg,_,hc,_⟩
 ·subst O
  have:l = []:=List.eq_nil_of_length_eq_zero M;subst this;exact⟨none,0,rfl,.inl rfl⟩
 ·exact⟨_,cap,rfl,Rd.of_own h⟩
def FA (ls:List L) (k:Nat):L:=(ls.take k).flatten
theorem Oa (ls:List L) (k:Nat) (l:L) (h:ls[k]? = some l):FA ls (k+1)=FA ls k++l:=DerW.Jj ls k l h
theorem Su (ls:List L) (k:Nat):(FA ls k).length<=ls.flatten.length:=DerW.Jk ls k
theorem Qy (ls:List L):FA ls ls.length=ls.flatten:=by rw[FA,List.take_of_length_le Ag]
theorem Ds (t : UInt8) (ls : List L) (A : Option Addr) (m c B : Nat) (w : World) (hr : DerW.Rds w B A ls) (hm : m = ls.length) (hB : B <= w.heap.size) (hl : ls.flatten.length <= 65535) (hc : ls.length <= 1000000) :
    Calls Tryz.prog 75 #[.int .u8 t.toNat,.slice A m c] w (BX w (elem t ls.flatten)):=by
  obtain⟨i0,ck,cn,cb,cm⟩:=info_parts DerW.Co;have HR:=I hr;have bx:=I (fun k=>Nat.le_trans (Su ls k) hl);have cd:=I (Qy ls);have bs:=I DerW.ml;have cr:(m:Int)<=1000000:=by omega
  have HM:=I hm;have HL:=I hl;have cc:=I (World.ownsRow_nil w w.heap.size 5 1);clear hr hm hc hl;go_enter Tryz.func75,Tryz.ntmps75
  go_wp2
  go_loopw [5,6] (fun v i wr=>∃k:Nat,k<=m/\i=.int .i64 (k:Int)/\wr.ownsRow w.heap.size 5 1 v (FA ls k).length (bvs (FA ls k))/\Below w.heap.size w wr) (fun _ i _=>m - (intOf i).toNat)
  case atStart=>exact⟨0,by omega,rfl,cc.o,Below.refl _ _⟩
  case round=>
    obtain⟨k,hk,rfl,O,M⟩:=hrel
    by_cases hlt:k<m
    · obtain ⟨l, hx⟩ : ∃ l, ls[k]? = some l := ⟨_, List.getElem?_eq_getElem (by have := HM.o; omega)⟩
      obtain⟨b,o,rfl,hb,A',c',bz,aw⟩:=(HR.o.below (M.mono hB)).at_ hx;have hs:=Oa ls k l hx;have ca:=bx.o (k+1);have bb:=congrArg List.length hs;rw[List.length_append] at bb;have HS:=I hs;have cq:(FA ls k).length+l.length<=65535:=by omega
      have HO:=I O;have HQ:=I aw;clear hs bb hx ca O aw
      go_wp2_with (at_builtin
                   refine AI _ rfl (.tmp 13) (.tmp 17) 33 rfl w.heap.size 5 i0 _ 1 Tryz.underlying33 ck cn cb cm rfl _ (FA ls k).length (bvs (FA ls k)) rfl HO.o B A' l.length c' (bvs l) rfl (AG l).symm HQ.o (BA _) (bs.o _ (by omega)) (by omega) M.size ?_;intro v2 w2 av cf cp)
      refine⟨⟨k+1,by omega,by go_num,?_,M.grown cf M.size (fun i hi=>(HO.o.lt i hi).1)⟩,by simp [intOf];omega⟩;rw[HS.o,Bz,List.length_append];exact av
    · obtain rfl : k = m := by omega
      have e:FA ls k=ls.flatten:=by rw[HM.o];exact cd.o
      rw[e] at O;obtain⟨A2,bn,rfl,Z⟩:=YX O;have HQ:=I Z;have HE:=I (GN t ls.flatten A2 ls.flatten.length bn _ wr Z rfl Ag HL.o);clear hk hlt e O Z;generalize ls.flatten.length=q at *
      go_wp2_with (go_at_call 113;refine(Calls.mono HE.o ?_);rintro e w1 ⟨⟨g1,c1,rfl,cg,cj,bq⟩,bB⟩)
      go_ret;exact⟨⟨g1,c1,rfl,Nat.le_trans M.size cg,cj,bq⟩,bt M bB⟩
def RS (w:World) (B:Nat) (A:Option Addr) (n cap:Nat) (e:Bool):Option L->Prop
 |none=>e=true
 |some l=>e=false/\n=l.length/\n<=cap/\Rd w B A (bvs l)
theorem KD {t:UInt8} {s:L} {m k:Nat} (h:lenR s=(m,k,true)) (M:m+k<=s.length):BB t (t :: s)=some (((t :: s).drop (k+1)).take m,(t :: s).drop (k+1+m)):=by
 rw[BB,h,if_pos ⟨rfl,rfl,M⟩]
 congr 2
 rw[List.drop_drop,show k+1+m=(k+m)+1 by omega]
 rfl
end DerR
end Go.Proofs.YthkdjblnmkkcfaaGreat
