import Derived.Test.YtlchkbpffaclmaaGreatZKdcTills1
set_option maxHeartbeats 25600000
set_option maxRecDepth 100000
set_option linter.unusedVariables false
set_option linter.unusedSimpArgs false
namespace Go.Proofs.YtlchkbpffaclmaaGreat
namespace Rg
open Nm (De L)
abbrev Pr:=L×L
def prB (p:Pr):Bool:=De p.1 p.2
structure It where
 p:Pr
 n:Nat
 k:Nat->UInt8
def hit (i:It) (p:Pr) (n:Int):Bool:=decide (i.p=p)&&decide ((i.n:Int)=n)
def Cp (l:List It) (p:Pr) (n:Int):Option Nat:=l.findIdx? (fun i=>hit i p n)
def Bo (l:List It) (p:Pr):Nat->Option Nat
 |0=>none
 |i+1=>if (l[i]?).map (·.p)=some p then some i else Bo l p i
def Bz (l:List It) (p:Pr):Option Nat:=Bo l p l.length
def numO (l:List It):Option Nat->Nat
 |none=>0
 |some i=>((l[i]?).map (·.n)).getD 0
def Bw (l:List It) (p:Pr):Nat:=numO l (Bz l p)
def Num (l:List It):Prop:=∀j i,l[j]? = some i->i.n=numO l (Bo l i.p j)+1
def addN (l:List It) (p:Pr):Nat:=if prB p=true then (if l.length<40 then Bw l p+1 else 0) else 0
def addE (l:List It) (p:Pr):Nat:=if prB p=true then (if l.length<40 then 0 else 13) else 1
def addL (l:List It) (p:Pr) (k:Nat->UInt8):List It:=if prB p=true then (if l.length<40 then l++[⟨p,Bw l p+1,k⟩] else l) else l
theorem Gj {l:List It} {p:Pr}:∀{i j:Nat},Bo l p i=some j->j<i/\∃x,l[j]? = some x/\x.p=p
 |0,j,h=>by cases h
 |i+1,j,h=>by
  unfold Bo at h
  split at h
  ·rename_i e
   injection h with h;subst h;obtain⟨x,h1,h2⟩:=Option.map_eq_some_iff.1 e;exact⟨Nat.lt_succ_self _,x,h1,h2⟩
  ·obtain⟨h1,h2⟩:=Gj h
   exact⟨Nat.lt_succ_of_lt h1,h2⟩
theorem JQ {l m:List It} {p:Pr}:∀{i:Nat},i<=l.length->Bo (l++m) p i=Bo l p i
 |0,_=>rfl
 |i+1,h=>by unfold Bo;rw[List.getElem?_append_left (by omega),JQ (by omega)]
theorem IJ {l:List It} (h:Num l) (p:Pr):∀i,numO l (Bo l p i)<=i
 |0=>Nat.le_refl _
 |i+1=>by
  unfold Bo
  split
  ·rename_i e
   obtain⟨x,h1,h2⟩:=Option.map_eq_some_iff.1 e;have h3:=h i x h1;have h4:=IJ h p i;rw[h2] at h3;simp only[numO,h1,Option.map_some,Option.getD_some];omega
  ·have:=IJ h p i;omega
theorem WB {l:List It} (h:Num l) (p:Pr):Bw l p<=l.length:=IJ h p _
theorem Kt {x:It} {p:Pr} {n:Int}:hit x p n=true↔x.p=p/\(x.n:Int)=n:=by simp [hit]
theorem Hh {l:List It} {p:Pr} {n:Int} {i:Nat} (h:Cp l p n=some i):∃x,l[i]? = some x/\x.p=p/\(x.n:Int)=n:=by
 obtain⟨h1,h2,_⟩:=List.findIdx?_eq_some_iff_getElem.1 h;exact⟨l[i],List.getElem?_eq_getElem h1,Kt.1 h2⟩
theorem Ud {l:List It} {p:Pr} {n:Int} {i:Nat} {x:It} (hx:l[i]? = some x) (hp:x.p=p) (hn:(x.n:Int)=n) (hj:∀(j:Nat) (y:It),j<i->l[j]? = some y->¬(y.p=p/\(y.n:Int)=n)):Cp l p n=some i:=by
 obtain⟨h1,h2⟩:=List.getElem?_eq_some_iff.1 hx;refine List.findIdx?_eq_some_iff_getElem.2 ⟨h1,by rw[h2];exact Kt.2 ⟨hp,hn⟩,fun j hji hh=>?_⟩;exact hj j _ hji (List.getElem?_eq_getElem (by omega)) (Kt.1 hh)
theorem OY {l:List It} {p:Pr} {n:Int} (hj:∀(j:Nat) (y:It),l[j]? = some y->¬(y.p=p/\(y.n:Int)=n)):Cp l p n=none:=by
 refine List.findIdx?_eq_none_iff.2 fun x hx=>?_
 obtain⟨j,hj1,hj2⟩:=List.getElem_of_mem hx;have:=hj j x (by rw[<-hj2];exact List.getElem?_eq_getElem hj1);rw[<-Kt] at this
 simpa using this
end Rg
namespace DerP
abbrev L:=List UInt8
def szL (n:Nat):L:=if n<128 then [UInt8.ofNat n] else if n<=255 then [129,UInt8.ofNat n] else [130,UInt8.ofNat (n / 256),UInt8.ofNat n]
def elem (t:UInt8) (p:L):L:=t :: (szL p.length++p)
def lenR:L->Nat×Nat×Bool
 | []=>(0,0,false)
 |a :: r=>
  if a.toNat<128 then (a.toNat,1,true)
  else if a.toNat=129 then
   match r with
   | []=>(0,0,false)
   |b :: _=>(b.toNat,2,decide (128<=b.toNat))
  else if a.toNat=130 then
   match r with
   |b :: c :: _=>(b.toNat*256+c.toNat,3,decide (255<b.toNat*256+c.toNat))
   |_=>(0,0,false)
  else (0,0,false)
def Be (t:UInt8):L->Option (L×L)
 | []=>none
 |a :: s=>
  if a=t/\(lenR s).2.2=true/\(lenR s).1+(lenR s).2.1<=s.length
  then some ((s.drop (lenR s).2.1).take (lenR s).1,(s.drop (lenR s).2.1).drop (lenR s).1) else none
def AQ (t:UInt8) (c:Option L):Option L:=(c.bind (Be t)).map (·.2)
def AJ (t:UInt8) (c:Option L):Option L:=(c.bind (Be t)).map (·.1)
theorem Bj {t:UInt8} {s:L} (h:Be t s=none):AJ t (some s)=none/\AQ t (some s)=none:=by simp [AJ,AQ,h]
theorem Dr {t:UInt8} {s b r:L} (h:Be t s=some (b,r)):AJ t (some s)=some b/\AQ t (some s)=some r:=by simp [AJ,AQ,h]
def val (l:L):Nat:=l.foldl (fun a b=>a*256+b.toNat) 0
def Bf:L->Bool
 | []=>false
 |b :: _=>decide (b.toNat<128)
def numL:L->Option Nat
 | []=>none
 |a :: r=>
  if 7<r.length\/128<=a.toNat then none
  else if a.toNat=0/\Bf r=true then none
  else if 4611686018427387904<val (a :: r) then none
  else some (val (a :: r))
def digK:Nat->Nat->L
 |0,_=>[]
 |k+1,n=>digK k (n / 256)++[UInt8.ofNat n]
def dig (n:Nat):L:=digK (Lib.bitLen n / 8+1) n
def BV (n:Int):Nat:=(min (max n 0) 4611686018427387904).toNat
def encI (n:Int):L:=elem 2 (dig (BV n))
def intC (c:Option L):Nat×Option L:=
 match AJ 2 c with
 |none=>(0,none)
 |some b=>match numL b with
  |none=>(0,none)
  |some n=>(n,AQ 2 c)
theorem EW (n:Int):BV n<=4611686018427387904:=by unfold BV;omega
theorem IL (n:Int) (h0:0<=n) (h1:n<=4611686018427387904):BV n=n.toNat:=by unfold BV;omega
theorem JR (n:Int):((BV n:Nat):Int)=min (max n 0) 4611686018427387904:=by unfold BV;omega
theorem Ba (k n:Nat):(digK k n).length=k:=by
 induction k generalizing n with
 |zero=>rfl
 |succ k ih=>simp [digK,ih]
theorem Ku (l:L) (b:UInt8):val (l++[b])=val l*256+b.toNat:=by simp [val]
theorem NP (k n:Nat):val (digK k n)=n % 256 ^ k:=by
 induction k generalizing n with
 |zero=>simp [digK,val,Nat.mod_one]
 |succ k ih=>
  rw[digK,Ku,ih];have h1:(UInt8.ofNat n).toNat=n % 256:=by simp
  rw[h1,Nat.pow_succ,Nat.mul_comm (256 ^ k) 256,Nat.mod_mul];omega
theorem OZ (l:L) (k:Nat) (h:l.length=k+1):∃m b,l=m++[b]/\m.length=k:=by
 refine⟨l.take k,l[k]'(by omega),?_,by simp;omega⟩;rw[List.take_append_getElem];rw[List.take_of_length_le (by omega)]
theorem NQ (k:Nat) (l:L) (h:l.length=k):digK k (val l)=l:=by
 induction k generalizing l with
 |zero=>rw[List.length_eq_zero_iff.1 h];rfl
 |succ k ih=>
  obtain⟨m,b,rfl,hm⟩:=OZ l k h;rw[digK,Ku];have hb:=b.toNat_lt;have e:(val m*256+b.toNat) / 256=val m:=by omega
  rw[e,ih m hm]
  congr 1
  simp only[List.cons.injEq,and_true];apply UInt8.toNat_inj.1;simp
theorem QD (k n j:Nat) (h:j<k):(digK k n)[j]? = some (UInt8.ofNat (n / 256 ^ (k - 1 - j))):=by
 induction k generalizing n with
 |zero=>omega
 |succ k ih=>
  rw[digK]
  by_cases hj:j<k
  ·rw[List.getElem?_append_left (by rw[Ba];exact hj),ih _ hj]
   congr 2
   rw[Nat.div_div_eq_div_mul]
   congr 1
   rw[show k+1 - 1 - j=(k - 1 - j)+1 by omega,Nat.pow_succ,Nat.mul_comm]
  ·obtain rfl:j=k:=by omega
   rw[List.getElem?_append_right (by rw[Ba];omega),Ba];simp
theorem QE (l:L) (j:Nat) (b:UInt8) (h:l[j]? = some b):l.drop j=b :: l.drop (j+1):=by
 obtain⟨hj,e⟩:=List.getElem?_eq_some_iff.1 h;rw[List.drop_eq_getElem_cons hj,e]
theorem QF (l:L):val l<256 ^ l.length:=by
 have h:=NP l.length (val l);rw[NQ l.length l rfl] at h;have hp:0<256 ^ l.length:=Nat.pow_pos (by omega);rw[h];exact Nat.mod_lt _ hp
theorem QG (l:L) (x:Nat):l.foldl (fun a b=>a*256+b.toNat) x=x*256 ^ l.length+val l:=by
 induction l generalizing x with
 |nil=>simp [val]
 |cons a r ih=>
  have e:val (a :: r)=a.toNat*256 ^ r.length+val r:=by
   show List.foldl _ (0*256+a.toNat) r=_;rw[ih];simp
  rw[List.foldl_cons,ih,e,List.length_cons,Nat.pow_succ,Nat.add_mul,Nat.mul_assoc,Nat.mul_comm 256,Nat.add_assoc]
theorem GD (a:UInt8) (r:L):val (a :: r)=a.toNat*256 ^ r.length+val r:=by
 show List.foldl _ (0*256+a.toNat) r=_;rw[QG];simp
theorem Fb (x:Nat) (hx:x<18446744073709551616) (k:Nat) (h:2 ^ k<=x):k+1<=Lib.bitLen x:=by
 have h0:x≠0:=by
  have:=Nat.pow_pos (n:=k) (show 0<2 by omega);omega
 obtain⟨_,_,h3⟩:=Lib.bitLenAux_bounds 64 x (by simpa using hx) h0;have h4:2 ^ k<2 ^ Lib.bitLen x:=Nat.lt_of_le_of_lt h h3;have:=(Nat.pow_lt_pow_iff_right (a:=2) (by omega)).1 h4;omega
theorem CZ (x k:Nat) (hk:k<=64) (h:x<2 ^ k):Lib.bitLen x<=k:=Lib.bitLen_le x k hk h
theorem Lo (x:Nat) (hx:x<18446744073709551616):x<2 ^ Lib.bitLen x:=by
 by_cases h0:x=0
 ·subst h0;exact Nat.pow_pos (by omega)
 ·exact(Lib.bitLenAux_bounds 64 x (by simpa using hx) h0).2.2
theorem GF (n:Nat) (h:n<=4611686018427387904):Lib.bitLen n<=63:=CZ n 63 (by omega) (by omega)
theorem Hi (n:Nat):(dig n).length=Lib.bitLen n / 8+1:=Ba _ _
theorem WC (n:Nat) (h:n<=4611686018427387904):(dig n).length<=8:=by
 rw[Hi];have:=GF n h;omega
theorem Ge (k:Nat):256 ^ k=2 ^ (8*k):=by rw[Nat.pow_mul]
theorem WD (n:Nat) (h:n<=4611686018427387904):val (dig n)=n:=by
 rw[dig,NP];apply Nat.mod_eq_of_lt;rw[Ge];refine Nat.lt_of_lt_of_le (Lo n (by omega)) (Nat.pow_le_pow_right (by omega) (by omega))
theorem QH (n:Nat) (h:n<=4611686018427387904):numL (dig n)=some n:=by
 have hv:=WD n h;have hl:=Hi n;have h62:=GF n h;have hlt:=Lo n (by omega);cases hd:dig n with
 |nil=>rw[hd] at hl;simp at hl
 |cons a r=>
  rw[hd] at hv hl;simp only[List.length_cons] at hl;have hr:r.length=Lib.bitLen n / 8:=by omega
  have hc:=GD a r;rw[hv] at hc;have ha:a.toNat<128:=by
   rcases Nat.lt_or_ge a.toNat 128 with g | g
   ·exact g
   ·exfalso
    have h1:128*256 ^ r.length<=n:=by
     have:=Nat.mul_le_mul_right (256 ^ r.length) g;omega
    have h2:2 ^ (8*r.length+7)<=n:=by
     rw[Nat.pow_add,<-Ge,Nat.mul_comm];simpa using h1
    have h3:=Fb n (by omega) _ h2;omega
  have hs:¬(a.toNat=0/\Bf r=true):=by
   rintro⟨h0,h1⟩;cases r with
   |nil=>simp [Bf] at h1
   |cons b q=>
    simp only[Bf,decide_eq_true_eq] at h1;have hq:=GD b q;have hb:=QF q;simp only[List.length_cons] at hr hc;rw[h0] at hc;have h4:n<128*256 ^ q.length:=by
     have:(b.toNat+1)*256 ^ q.length<=128*256 ^ q.length:=Nat.mul_le_mul_right _ (by omega);rw[Nat.add_mul] at this;omega
    have h5:n<2 ^ (8*q.length+7):=by
     rw[Nat.pow_add,<-Ge,Nat.mul_comm];simpa using h4
    have h6:=CZ n (8*q.length+7) (by omega) h5;omega
  simp only[numL];rw[if_neg (by omega),if_neg hs,if_neg (by omega),hv]
theorem Ef (l:L) (i:Nat) (h:i<l.length):val (l.take (i+1))=val (l.take i)*256+(l[i]).toNat:=by
 rw[List.take_succ_eq_append_getElem h,Ku]
theorem IM {a:UInt8} {r:L} (ha:a.toNat<128) (hr:r.length<=7) (i:Nat):val ((a :: r).take i)<9223372036854775808:=by
 cases i with
 |zero=>simp [val]
 |succ i=>
  rw[List.take_succ_cons,GD];have h1:=QF (r.take i);have h2:(r.take i).length<=7:=by have:=List.length_take_le i r;have:=List.length_take_le' i r;omega
  have h3:256 ^ (r.take i).length<=256 ^ 7:=Nat.pow_le_pow_right (by omega) h2;have h4:(a.toNat+1)*256 ^ (r.take i).length<=128*256 ^ 7:=Nat.mul_le_mul (by omega) h3;rw[Nat.add_mul] at h4;have h5:(128:Nat)*256 ^ 7=9223372036854775808:=by decide
  omega
def numR (s:L):Nat×Bool:=((numL s).getD 0,(numL s).isSome)
theorem Fc {a:UInt8} {r:L} (h:(7<r.length\/128<=a.toNat)\/(a.toNat=0/\Bf r=true)\/4611686018427387904<val (a :: r)):numL (a :: r)=none:=by
 rw[numL]
 by_cases h1:7<r.length\/128<=a.toNat
 ·rw[if_pos h1]
 ·rw[if_neg h1]
  by_cases h2:a.toNat=0/\Bf r=true
  ·rw[if_pos h2]
  ·rw[if_neg h2]
   rcases h with h | h | h
   ·exact absurd h h1
   ·exact absurd h h2
   ·rw[if_pos h]
theorem Fe {s:L} (h:numL s=none):numR s=(0,false):=by rw[numR,h];rfl
theorem QI {a:UInt8} {r:L} (h:7<r.length):numR (a :: r)=(0,false):=Fe (Fc (.inl (.inl h)))
theorem QJ {a:UInt8} {r:L} (h:128<=a.toNat):numR (a :: r)=(0,false):=Fe (Fc (.inl (.inr h)))
theorem QK {a b:UInt8} {r:L} (h:a.toNat=0) (hb:b.toNat<128):numR (a :: b :: r)=(0,false):=Fe (Fc (.inr (.inl ⟨h,by simpa [Bf] using hb⟩)))
theorem Pb {a:UInt8} {r:L} (h:4611686018427387904<val (a :: r)):numR (a :: r)=(0,false):=Fe (Fc (.inr (.inr h)))
theorem QL {a:UInt8} {r:L} (h1:r.length<=7) (h2:a.toNat<128) (h3:¬(a.toNat=0/\Bf r=true)) (h4:val (a :: r)<=4611686018427387904):numR (a :: r)=(val (a :: r),true):=by
 simp only[numR,numL];rw[if_neg (by omega),if_neg h3,if_neg (by omega)];rfl
theorem Ff {p:L} {n:Nat} (h:numL p=some n):n=val p/\n<=4611686018427387904/\1<=p.length/\p.length<=8/\Lib.bitLen n / 8+1=p.length:=by
 cases p with
 |nil=>simp [numL] at h
 |cons a r=>
  simp only[numL] at h
  by_cases c1:7<r.length\/128<=a.toNat
  ·rw[if_pos c1] at h;cases h
  ·rw[if_neg c1] at h
   by_cases c2:a.toNat=0/\Bf r=true
   ·rw[if_pos c2] at h;cases h
   ·rw[if_neg c2] at h
    by_cases c3:4611686018427387904<val (a :: r)
    ·rw[if_pos c3] at h;cases h
    ·rw[if_neg c3] at h
     injection h with h;subst h;have hc:=GD a r;have hr:=QF r;have hup:val (a :: r)<2 ^ (8*r.length+7):=by
      have:(a.toNat+1)*256 ^ r.length<=128*256 ^ r.length:=Nat.mul_le_mul_right _ (by omega);rw[Nat.add_mul] at this;rw[Nat.pow_add,<-Ge,Nat.mul_comm];have e:(2:Nat) ^ 7=128:=by decide
      rw[e];omega
     have hu:=CZ _ _ (by omega) hup;have hlow:r.length=0\/8*r.length<=Lib.bitLen (val (a :: r)):=by
      cases r with
      |nil=>left;rfl
      |cons b q=>
       right
       have hq:=GD b q;simp only[List.length_cons] at *
       by_cases ha:a.toNat=0
       ·have hb:128<=b.toNat:=by
         have:¬Bf (b :: q)=true:=fun g=>c2 ⟨ha,g⟩
         simp only[Bf,decide_eq_true_eq] at this;omega
        have h1:128*256 ^ q.length<=val (a :: b :: q):=by
         have:=Nat.mul_le_mul_right (256 ^ q.length) hb;omega
        have h2:2 ^ (8*q.length+7)<=val (a :: b :: q):=by
         rw[Nat.pow_add,<-Ge,Nat.mul_comm];simpa using h1
        have:=Fb _ (by omega) _ h2;omega
       ·have h1:1*256 ^ (q.length+1)<=val (a :: b :: q):=by
         have:=Nat.mul_le_mul_right (256 ^ (q.length+1)) (show 1<=a.toNat by omega);omega
        have h2:2 ^ (8*(q.length+1))<=val (a :: b :: q):=by
         rw[<-Ge];simpa using h1
        have:=Fb _ (by omega) _ h2;omega
     simp only[List.length_cons];refine⟨trivial,by omega,by omega,by omega,?_⟩;rcases hlow with h0 | h0
     ·omega
     ·omega
theorem WE {p:L} {n:Nat} (h:numL p=some n):dig n=p:=by
 obtain⟨h1,_,_,_,h5⟩:=Ff h;rw[dig,h5,h1];exact NQ _ _ rfl
theorem FJ {a:UInt8} {r:L} (h:a.toNat<128):lenR (a :: r)=(a.toNat,1,true):=by simp [lenR,h]
theorem Fg {a:UInt8} (h:a.toNat=129):lenR [a]=(0,0,false):=by simp [lenR,h]
theorem GG {a b:UInt8} {r:L} (h:a.toNat=129):lenR (a :: b :: r)=(b.toNat,2,decide (128<=b.toNat)):=by simp [lenR,h]
theorem Fh {a:UInt8} (h:a.toNat=130):lenR [a]=(0,0,false):=by simp [lenR,h]
theorem Fi {a b:UInt8} (h:a.toNat=130):lenR [a,b]=(0,0,false):=by simp [lenR,h]
theorem FK {a b c:UInt8} {r:L} (h:a.toNat=130):lenR (a :: b :: c :: r)=(b.toNat*256+c.toNat,3,decide (255<b.toNat*256+c.toNat)):=by simp [lenR,h]
theorem IN {a:UInt8} {r:L} (h1:¬a.toNat<128) (h2:¬a.toNat=129) (h3:¬a.toNat=130):lenR (a :: r)=(0,0,false):=by simp [lenR,h1,h2,h3]
theorem QM (s:L):(lenR s).1<=65535/\(lenR s).2.1<=3:=by
 cases s with
 |nil=>simp [lenR]
 |cons a r=>
  have ha:=a.toNat_lt
  by_cases h1:a.toNat<128
  ·rw[FJ h1];simp;omega
  ·by_cases h2:a.toNat=129
   ·cases r with
    |nil=>rw[Fg h2];simp
    |cons b q=>rw[GG h2];have:=b.toNat_lt;simp;omega
   ·by_cases h3:a.toNat=130
    ·rcases r with _ | ⟨b,_ | ⟨c,q⟩⟩
     ·rw[Fh h3];simp
     ·rw[Fi h3];simp
     ·rw[FK h3];have:=b.toNat_lt;have:=c.toNat_lt;simp;omega
    ·rw[IN h1 h2 h3];simp
theorem BZ (n:Nat):(szL n).length=if n<128 then 1 else if n<=255 then 2 else 3:=by
 unfold szL;split
 ·rfl
 ·split<;>rfl
theorem Eg (t:UInt8) (p:L):(elem t p).length=1+(szL p.length).length+p.length:=by
 simp [elem];omega
theorem Ue (n:Nat) (h:n<=65535) (r:L):lenR (szL n++r)=(n,(szL n).length,true):=by
 unfold szL
 by_cases h1:n<128
 ·have e:n % 256=n:=by omega
  simp [h1,lenR,e]
 ·by_cases h2:n<=255
  ·have e:(UInt8.ofNat n).toNat=n:=by simp;omega
   simp [h1,h2,lenR];omega
  ·have e1:(UInt8.ofNat (n / 256)).toNat=n / 256:=by simp;omega
   have e2:(UInt8.ofNat n).toNat=n % 256:=by simp
   have e3:n / 256 % 256*256+n % 256=n:=by omega
   simp [h1,h2,lenR,e3];omega
theorem MC {s:L} (h:(lenR s).2.2=true):szL (lenR s).1=s.take (lenR s).2.1/\(lenR s).2.1=(szL (lenR s).1).length/\(lenR s).2.1<=s.length/\(lenR s).1<=65535:=by
 have key:∀a:UInt8,UInt8.ofNat a.toNat=a:=fun a=>by simp
 cases s with
 |nil=>simp [lenR] at h
 |cons a r=>
  have ha:=a.toNat_lt
  by_cases h1:a.toNat<128
  ·simp [lenR,h1,szL];omega
  ·by_cases h2:a.toNat=129
   ·cases r with
    |nil=>simp [lenR,h2] at h
    |cons b q=>
     have hb:=b.toNat_lt;have hae:a=129:=UInt8.toNat_inj.1 h2;subst hae;simp [lenR] at h;have h3:¬b.toNat<128:=by omega
     have h4:b.toNat<=255:=by omega
     simp [lenR,szL,h3,h4];omega
   ·by_cases h3:a.toNat=130
    ·rcases r with _ | ⟨b,_ | ⟨c,q⟩⟩
     ·simp [lenR,h3] at h
     ·simp [lenR,h3] at h
     ·have hb:=b.toNat_lt
      have hc:=c.toNat_lt;have hae:a=130:=UInt8.toNat_inj.1 h3;subst hae;simp [lenR] at h;have g1:¬b.toNat*256+c.toNat<128:=by omega
      have g2:¬b.toNat*256+c.toNat<=255:=by omega
      have e1:UInt8.ofNat ((b.toNat*256+c.toNat) / 256)=b:=by
       rw[show(b.toNat*256+c.toNat) / 256=b.toNat by omega];simp
      have e2:UInt8.ofNat (b.toNat*256+c.toNat)=c:=by
       apply UInt8.toNat_inj.1;simp
      simp only[lenR,szL];simp [g1,g2,e1,e2];omega
    ·simp [lenR,h1,h2,h3] at h
theorem DV (t:UInt8) (p r:L) (h:p.length<=65535):Be t (elem t p++r)=some (p,r):=by
 show Be t (t :: (szL p.length++p++r))=_;rw[List.append_assoc,Be,Ue _ h];simp;omega
theorem IQ {t:UInt8} {s b r:L} (h:Be t s=some (b,r)):s=elem t b++r/\b.length<=65535:=by
 cases s with
 |nil=>simp [Be] at h
 |cons a s=>
  simp only[Be] at h
  by_cases hc:a=t/\(lenR s).2.2=true/\(lenR s).1+(lenR s).2.1<=s.length
  ·rw[if_pos hc] at h
   obtain⟨rfl,h1,h2⟩:=hc;obtain⟨g1,g2,g3,g4⟩:=MC h1;injection h with h;injection h with hb hr;have hl:b.length=(lenR s).1:=by rw[<-hb];simp;omega
   refine⟨?_,by omega⟩;rw[elem,hl,g1,<-hb,<-hr,List.cons_append,List.append_assoc,List.take_append_drop,List.take_append_drop]
  ·rw[if_neg hc] at h;cases h
theorem NR {t:UInt8} {p q r1 r2:L} (hp:p.length<=65535) (hq:q.length<=65535) (h:elem t p++r1=elem t q++r2):p=q/\r1=r2:=by
 have h1:=DV t p r1 hp;rw[h,DV t q r2 hq] at h1;injection h1 with h1;injection h1 with h1 h2;exact⟨h1.symm,h2.symm⟩
theorem IF (t:UInt8) (p:L) (hp:p.length<=65535) (k:Nat) (hk:k<(elem t p).length):Be t ((elem t p).take k)=none:=by
 cases h:Be t ((elem t p).take k) with
 |none=>rfl
 |some x=>
  obtain⟨b,r⟩:=x;obtain⟨h1,h2⟩:=IQ h;have h3:elem t p++[]=elem t b++(r++(elem t p).drop k):=by
   rw[<-List.append_assoc,<-h1,List.take_append_drop,List.append_nil]
  obtain⟨_,h4⟩:=NR hp h2 h3;have h5:=congrArg List.length h4;simp at h5;omega
theorem EH {t:UInt8} {s b r:L} (h:Be t s=some (b,r)):b.length<=s.length/\r.length<=s.length:=by
 have:=congrArg List.length (IQ h).1;simp [Eg] at this;omega
theorem Ca (t:UInt8) (c:Option L):((AJ t c).getD []).length<=(c.getD []).length/\((AQ t c).getD []).length<=(c.getD []).length:=by
 cases c with
 |none=>simp [AJ,AQ]
 |some s=>
  cases h:Be t s with
  |none=>obtain⟨e1,e2⟩:=Bj h;rw[e1,e2];simp
  |some x=>
   obtain⟨b,r⟩:=x;obtain⟨e1,e2⟩:=Dr h;rw[e1,e2];exact EH h
theorem GH (t:UInt8) (c:Option L) (h:AJ t c=none):AQ t c=none:=by
 unfold AJ at h;unfold AQ;rw[Option.map_eq_none_iff] at h⊢;exact h
theorem QN {t u:UInt8} {s:L} (h:t≠u):Be u (t :: s)=none:=by
 simp [Be,h]
theorem Im (n:Int):(dig (BV n)).length<=8:=WC _ (EW n)
theorem WG (n:Int) (r:L):intC (some (encI n++r))=(BV n,some r):=by
 have h:=DV 2 (dig (BV n)) r (by have:=Im n;omega);simp only[intC,AJ,AQ,encI,Option.bind_some,h,Option.map_some,QH _ (EW n)]
end DerP
namespace DerC
open Go.RowKit Af DerP
attribute [local go_sem] Ex List.getElem_cons_zero List.getElem_cons_succ Cr Cs DM
def AS (w w':World):Prop:=∃n,w'=w.drewN n
theorem AS.refl (w:World):AS w w:=⟨0,rfl⟩
def Kv:Option L->Array Value
 |none=>#[.string ⟨([]:List UInt8).toArray⟩,.bool true]
 |some s=>#[.string ⟨s.toArray⟩,.bool false]
def NS:Option L->Bool
 |some []=>true
 |_=>false
def Cur (w:World) (g:Nat) (c:Option L):Prop:=Blk w g 294 (Kv c)
theorem MD (s:L) (w:World):Calls Tryz.prog 244 #[.string ⟨s.toArray⟩] w fun e w'=>
  e=.returned (.tuple #[.int .i64 ((lenR s).1:Int),.int .i64 ((lenR s).2.1:Int),.bool (lenR s).2.2])/\AS w w':=by
 cases s with
 |nil=>
  go_enter Tryz.func244,Tryz.ntmps244
  go_wp2
  go_ret3
  exact⟨rfl,AS.refl _⟩
 |cons a r=>
  by_cases h1:a.toNat<128
  ·have g1:decide ((a.toNat:Int)<128)=true:=by simp;omega
   have E:Hid (lenR (a :: r)=(a.toNat,1,true)):=FJ h1;have H:=I h1;clear h1;have ha:=BC a;go_enter Tryz.func244,Tryz.ntmps244
   go_wp2
   go_ret3
   exact⟨by rw[E.o];rfl,AS.refl _⟩
  ·have g1:decide ((a.toNat:Int)<128)=false:=by simp;omega
   by_cases h2:a.toNat=129
   ·have g2:((a.toNat:Int)==129)=true:=by simp;omega
    have g3:((a.toNat:Int)==130)=false:=by simp;omega
    have H1:=I h1;clear h1;have H2:=I h2;clear h2;cases r with
    |nil=>
     have E:Hid (lenR [a]=(0,0,false)):=Fg H2.o;go_enter Tryz.func244,Tryz.ntmps244
     go_wp2
     go_ret3
     exact⟨by rw[E.o];rfl,AS.refl _⟩
    |cons b q=>
     have hb:=BC b;have E:Hid (lenR (a :: b :: q)=(b.toNat,2,decide (128<=b.toNat))):=GG H2.o;have F:Hid (decide ((128:Int)<=(b.toNat:Int))=decide (128<=b.toNat)):=by show _=_;simp;omega
     go_enter Tryz.func244,Tryz.ntmps244
     go_wp2
     go_ret3
     exact⟨by rw[E.o,<-F.o];rfl,AS.refl _⟩
   ·have g2:((a.toNat:Int)==129)=false:=by simp;omega
    by_cases h3:a.toNat=130
    ·have g3:((a.toNat:Int)==130)=true:=by simp;omega
     have H1:=I h1;clear h1;have H2:=I h2;clear h2;have H3:=I h3;clear h3;rcases r with _ | ⟨b,_ | ⟨c,q⟩⟩
     ·have E:Hid (lenR [a]=(0,0,false)):=Fh H3.o
      go_enter Tryz.func244,Tryz.ntmps244
      go_wp2
      go_ret3
      exact⟨by rw[E.o];rfl,AS.refl _⟩
     ·have E:Hid (lenR [a,b]=(0,0,false)):=Fi H3.o
      go_enter Tryz.func244,Tryz.ntmps244
      go_wp2
      go_ret3
      exact⟨by rw[E.o];rfl,AS.refl _⟩
     ·have hb:=BC b
      have hc:=BC c;have E:Hid (lenR (a :: b :: c :: q)=(b.toNat*256+c.toNat,3,decide (255<b.toNat*256+c.toNat))):=FK H3.o;go_enter Tryz.func244,Tryz.ntmps244
      go_wp2
      go_quiet (fail)
      go_wp2
      go_ret3
      have F:(decide ((255:Int)<(b.toNat:Int)*256+(c.toNat:Int)))=decide (255<b.toNat*256+c.toNat):=by simp;omega
      have G:=Hx b.toNat c.toNat (by omega) (by omega);exact⟨by rw[E.o,<-F,<-G];simp [G],⟨_,rfl⟩⟩
    ·have g3:((a.toNat:Int)==130)=false:=by simp;omega
     have E:Hid (lenR (a :: r)=(0,0,false)):=IN h1 h2 h3;have H1:=I h1;clear h1;have H2:=I h2;clear h2;have H3:=I h3;clear h3;go_enter Tryz.func244,Tryz.ntmps244
     go_wp2
     go_ret3
     exact⟨by rw[E.o];rfl,AS.refl _⟩
theorem IT {w:World} {g:Nat} {c:Option L} (h:Cur w g c):w.cell? ⟨g,0,none⟩=some (.string ⟨(c.getD []).toArray⟩)/\w.cell? ⟨g,1,none⟩=some (.bool (!c.isSome)):=by
 have h0:=h.cell 0;have h1:=h.cell 1;cases c<;>exact⟨h0,h1⟩
theorem JS {w:World} {g:Nat} {c:Option L} (h:Cur w g c):w.frozen? ⟨g,0,none⟩=false/\w.frozen? ⟨g,1,none⟩=false:=⟨h.frozen 0,h.frozen 1⟩
theorem Kw (g:Nat) (c:Option L) (w:World) (h:Cur w g c):Calls Tryz.prog 227 #[.pointer (some ⟨g,0,none⟩)] w fun e w'=>e=.returned (.bool c.isSome)/\w=w':=by
 obtain⟨_,h1⟩:=IT h;go_enter Tryz.func227,Tryz.ntmps227
 go_wp2
 go_ret;exact⟨by simp,rfl⟩
theorem NT (g:Nat) (c:Option L) (w:World) (h:Cur w g c):Calls Tryz.prog 203 #[.pointer (some ⟨g,0,none⟩)] w fun e w'=>e=.returned (.tuple #[])/\Cur w' g none/\w.grownBy w' (some g):=by
 obtain⟨h0,h1⟩:=IT h;obtain⟨f0,f1⟩:=JS h;go_enter Tryz.func203,Tryz.ntmps203
 go_wp2
 go_end0
 exact⟨rfl,by have:=(h.set 0 (.string ⟨#[]⟩)).set 1 (.bool true);cases c<;>exact this,by repeat (first | exact World.grownBy.refl _ _ | refine AE ?_ (.inl rfl) _)⟩
theorem QO (t:UInt8) (w:World):Calls Tryz.prog 228 #[.string ⟨([]:List UInt8).toArray⟩,.int .u8 t.toNat] w fun e w'=>
  e=.returned (.tuple #[.string ⟨([]:List UInt8).toArray⟩,.string ⟨([]:List UInt8).toArray⟩,.bool false])/\AS w w':=by
 go_enter Tryz.func228,Tryz.ntmps228
 go_wp2
 go_ret3
 exact⟨rfl,AS.refl _⟩
theorem MF (a t:UInt8) (r:L) (w:World) (hne:a≠t):Calls Tryz.prog 228 #[.string ⟨(a :: r).toArray⟩,.int .u8 t.toNat] w fun e w'=>
  e=.returned (.tuple #[.string ⟨([]:List UInt8).toArray⟩,.string ⟨([]:List UInt8).toArray⟩,.bool false])/\AS w w':=by
 have h1:((a.toNat:Int)==(t.toNat:Int))=false:=by simp;exact fun g=>hne (UInt8.toNat_inj.1 (by omega))
 have h2:((a.toNat:Int) != (t.toNat:Int))=true:=by simp;exact fun g=>hne (UInt8.toNat_inj.1 (by omega))
 have H:=I hne;clear hne;go_enter Tryz.func228,Tryz.ntmps228
 go_wp2
 go_ret3
 exact⟨rfl,AS.refl _⟩
theorem Pc (t:UInt8) (r:L) (w:World) (hs:(r.length:Int)<=100000) (hk:(lenR r).2.2=true) (hf:(lenR r).1+(lenR r).2.1<=r.length):Calls Tryz.prog 228 #[.string ⟨(t :: r).toArray⟩,.int .u8 t.toNat] w fun e w'=>
  e=.returned (.tuple #[.string ⟨((r.drop (lenR r).2.1).take (lenR r).1).toArray⟩,.string ⟨((r.drop (lenR r).2.1).drop (lenR r).1).toArray⟩,.bool true])/\AS w w':=by
 have hl:=QM r;generalize hx:lenR r=x at *;obtain⟨n,k,ok⟩:=x;simp only at hk hf hl⊢;have hf1:((r.length:Int) - (k:Int)<(n:Int))=False:=by simp;omega
 have hf2:decide ((r.length:Int) - (k:Int)<(n:Int))=false:=by simp;omega
 have hf3:(k:Int)+(n:Int)<=(r.length:Int):=by omega
 have hl1:(n:Int)<=65535:=by omega
 have hl2:(k:Int)<=3:=by omega
 have hc:∀W,Calls Tryz.prog 244 #[.string ⟨r.toArray⟩] W fun e w'=>e=.returned (.tuple #[.int .i64 (n:Int),.int .i64 (k:Int),.bool true])/\AS W w':=by
  intro W;have:=MD r W;rw[hx] at this;subst hk;exact this
 have HC:=I hc;clear hc;have HX:=I hx;clear hx;have HK:=I hk;clear hk;clear hf hl;go_enter Tryz.func228,Tryz.ntmps228
 go_wp2_with (go_at_call 244;refine(HC.o _).mono ?_;rintro e w' ⟨rfl,q,rfl⟩)
 go_quiet (fail)
 go_wp2
 go_ret3
 exact⟨by rw[<-DM r k n,List.drop_drop];rfl,⟨_,World.drewN_drewN _ _ _⟩⟩
theorem QP (t:UInt8) (r:L) (w:World) (hk:(lenR r).2.2=false):Calls Tryz.prog 228 #[.string ⟨(t :: r).toArray⟩,.int .u8 t.toNat] w fun e w'=>
  e=.returned (.tuple #[.string ⟨([]:List UInt8).toArray⟩,.string ⟨([]:List UInt8).toArray⟩,.bool false])/\AS w w':=by
 have hc:∀W,Calls Tryz.prog 244 #[.string ⟨r.toArray⟩] W fun e w'=>e=.returned (.tuple #[.int .i64 ((lenR r).1:Int),.int .i64 ((lenR r).2.1:Int),.bool false])/\AS W w':=by
  intro W;have:=MD r W;rw[hk] at this;exact this
 have HC:=I hc;clear hc;have HK:=I hk;clear hk;go_enter Tryz.func228,Tryz.ntmps228
 go_wp2_with (go_at_call 244;refine(HC.o _).mono ?_;rintro e w' ⟨rfl,q,rfl⟩)
 go_ret3
 exact⟨rfl,⟨_,rfl⟩⟩
theorem MG (t:UInt8) (r:L) (w:World) (hs:(r.length:Int)<=100000) (hk:(lenR r).2.2=true) (hf:¬(lenR r).1+(lenR r).2.1<=r.length):Calls Tryz.prog 228 #[.string ⟨(t :: r).toArray⟩,.int .u8 t.toNat] w fun e w'=>
  e=.returned (.tuple #[.string ⟨([]:List UInt8).toArray⟩,.string ⟨([]:List UInt8).toArray⟩,.bool false])/\AS w w':=by
 have hl:=QM r;have hc:∀W,Calls Tryz.prog 244 #[.string ⟨r.toArray⟩] W fun e w'=>e=.returned (.tuple #[.int .i64 ((lenR r).1:Int),.int .i64 ((lenR r).2.1:Int),.bool true])/\AS W w':=by
  intro W;have:=MD r W;rw[hk] at this;exact this
 have HC:=I hc;clear hc;have HK:=I hk;clear hk;generalize (lenR r).1=n at *;generalize (lenR r).2.1=k at *;have hf2:decide ((r.length:Int) - (k:Int)<(n:Int))=true:=by simp;omega
 have hl1:(n:Int)<=65535:=by omega
 have hl2:(k:Int)<=3:=by omega
 clear hf hl;go_enter Tryz.func228,Tryz.ntmps228
 go_wp2_with (go_at_call 244;refine(HC.o _).mono ?_;rintro e w' ⟨rfl,q,rfl⟩)
 go_ret3
 exact⟨rfl,⟨_,rfl⟩⟩
def NU (o:Option (L×L)):Value:=.tuple #[.string ⟨((o.map (·.1)).getD []).toArray⟩,.string ⟨((o.map (·.2)).getD []).toArray⟩,.bool o.isSome]
theorem GC (t:UInt8) (s:L) (w:World) (hs:(s.length:Int)<=100000):Calls Tryz.prog 228 #[.string ⟨s.toArray⟩,.int .u8 t.toNat] w fun e w'=>
  e=.returned (NU (Be t s))/\AS w w':=by
 cases s with
 |nil=>exact QO t w
 |cons a r=>
  simp only[List.length_cons] at hs
  by_cases h1:a=t
  ·subst h1
   cases hk:(lenR r).2.2 with
   |false=>
    rw[show Be a (a :: r)=none by simp [Be,hk]];exact QP a r w hk
   |true=>
    by_cases hf:(lenR r).1+(lenR r).2.1<=r.length
    ·rw[show Be a (a :: r)=some ((r.drop (lenR r).2.1).take (lenR r).1,(r.drop (lenR r).2.1).drop (lenR r).1) by rw[Be,if_pos ⟨rfl,hk,hf⟩]]
     exact Pc a r w (by omega) hk hf
    ·rw[show Be a (a :: r)=none by rw[Be,if_neg (fun h=>hf h.2.2)]]
     exact MG a r w (by omega) hk hf
  ·rw[show Be t (a :: r)=none by rw[Be,if_neg (fun h=>h1 h.1)]]
   exact MF a t r w h1
theorem Io (t:UInt8) (g:Nat) (c:Option L) (w:World) (h:Cur w g c) (hs:((c.getD []).length:Int)<=100000):Calls Tryz.prog 200 #[.pointer (some ⟨g,0,none⟩),.int .u8 t.toNat] w fun e w'=>
  e=.returned (.tuple #[.string ⟨((AJ t c).getD []).toArray⟩,.bool (AJ t c).isSome])/\Cur w' g (AQ t c)/\w.grownBy w' (some g):=by
 obtain⟨h0,h1⟩:=IT h;obtain⟨f0,f1⟩:=JS h;cases c with
 |none=>
  go_enter Tryz.func200,Tryz.ntmps200
  go_wp2_with (go_at_call 227;refine(Kw _ _ _ h).mono ?_;rintro e w' ⟨rfl,rfl⟩)
  go_ret2
  exact⟨rfl,h,World.grownBy.refl _ _⟩
 |some s=>
  have hc:∀W,Calls Tryz.prog 228 #[.string ⟨s.toArray⟩,.int .u8 t.toNat] W fun e w'=>e=.returned (NU (Be t s))/\AS W w':=fun W=>GC t s W hs
  cases hx:Be t s with
  |none=>
   rw[hx] at hc;simp only[NU,Option.map_none,Option.getD_none,Option.isSome_none] at hc;have HC:=I hc;clear hc;have HX:=I hx;clear hx;go_enter Tryz.func200,Tryz.ntmps200
   go_wp2_with (first
    |(go_at_call 227;refine(Kw _ _ _ h).mono ?_;rintro e w' ⟨rfl,rfl⟩)
    |(go_at_call 228;refine(HC.o _).mono ?_;rintro e w' ⟨rfl,q,rfl⟩)
    |(go_at_call 203;refine(NT _ _ _ (h.drewN q)).mono ?_;rintro e w' ⟨rfl,hc1,hg1⟩))
   go_ret2
   obtain⟨e1,e2⟩:=Bj HX.o;rw[e1,e2];exact⟨rfl,hc1,(Ey (World.grownBy.refl w _) q).trans hg1⟩
  |some x=>
   obtain⟨b,r⟩:=x;rw[hx] at hc;simp only[NU,Option.map_some,Option.getD_some,Option.isSome_some] at hc;have HC:=I hc;clear hc;have HX:=I hx;clear hx;go_enter Tryz.func200,Tryz.ntmps200
   go_wp2_with (first
    |(go_at_call 227;refine(Kw _ _ _ h).mono ?_;rintro e w' ⟨rfl,rfl⟩)
    |(go_at_call 228;refine(HC.o _).mono ?_;rintro e w' ⟨rfl,q,rfl⟩))
   go_ret2
   obtain⟨e1,e2⟩:=Dr HX.o;rw[e1,e2];exact⟨rfl,(h.drewN q).set 0 (.string ⟨r.toArray⟩),AE (Ey (World.grownBy.refl w _) q) (.inl rfl) _⟩
end DerC
namespace DerC
open Go.RowKit Af DerP
attribute [local go_sem] Ex List.getElem_cons_zero List.getElem_cons_succ Cr Cs DM
def numV (p:Nat×Bool):Value:=.tuple #[.int .i64 (p.1:Int),.bool p.2]
theorem Pd (w:World):Calls Tryz.prog 202 #[.string ⟨([]:List UInt8).toArray⟩] w fun e w'=>e=.returned (numV (numR []))/\AS w w':=by
 go_enter Tryz.func202,Tryz.ntmps202
 go_wp2
 go_ret2
 exact⟨rfl,AS.refl _⟩
theorem MH (a:UInt8) (r:L) (h:7<r.length) (hs:(r.length:Int)<=100000) (w:World):Calls Tryz.prog 202 #[.string ⟨(a :: r).toArray⟩] w fun e w'=>e=.returned (numV (numR (a :: r)))/\AS w w':=by
 have g1:decide ((8:Int)<(r.length:Int)+1)=true:=by simp;omega
 have E:=I (QI (a:=a) h);clear h;go_enter Tryz.func202,Tryz.ntmps202
 go_wp2
 go_ret2
 exact⟨by rw[E.o];rfl,AS.refl _⟩
theorem MI (a:UInt8) (r:L) (h:¬7<r.length) (h2:128<=a.toNat) (w:World):Calls Tryz.prog 202 #[.string ⟨(a :: r).toArray⟩] w fun e w'=>e=.returned (numV (numR (a :: r)))/\AS w w':=by
 have g1:decide ((8:Int)<(r.length:Int)+1)=false:=by simp;omega
 have g2:decide ((128:Int)<=(a.toNat:Int))=true:=by simp;omega
 have E:=I (QJ (r:=r) h2);have hr:(r.length:Int)<=7:=by omega
 clear h h2;go_enter Tryz.func202,Tryz.ntmps202
 go_wp2
 go_ret2
 exact⟨by rw[E.o];rfl,AS.refl _⟩
theorem MJ (a b:UInt8) (r:L) (h:¬7<(b :: r).length) (h2:a.toNat=0) (hb:b.toNat<128) (w:World):Calls Tryz.prog 202 #[.string ⟨(a :: b :: r).toArray⟩] w fun e w'=>e=.returned (numV (numR (a :: b :: r)))/\AS w w':=by
 simp only[List.length_cons] at h;have g1:decide ((8:Int)<(r.length:Int)+1+1)=false:=by simp;omega
 have g2:decide ((128:Int)<=(a.toNat:Int))=false:=by simp;omega
 have g3:((a.toNat:Int)==0)=true:=by simp;omega
 have g4:decide ((b.toNat:Int)<128)=true:=by simp;omega
 have g5:decide ((1:Int)<(r.length:Int)+1+1)=true:=by simp;omega
 have E:=I (QK (r:=r) h2 hb);have hr:(r.length:Int)<=6:=by omega
 clear h h2 hb;go_enter Tryz.func202,Tryz.ntmps202
 go_wp2
 go_ret2
 exact⟨by rw[E.o];rfl,AS.refl _⟩
theorem ML (s : L) (ha : 0 < s.length) (h8 : s.length <= 8) (ge : s.isEmpty = false)
    (a:UInt8) (r:L) (hs:s=a :: r) (h2:a.toNat<128) (h3:¬(a.toNat=0/\Bf r=true)) (w:World):Calls Tryz.prog 202 #[.string ⟨s.toArray⟩] w fun e w'=>e=.returned (numV (numR s))/\AS w w':=by
  subst hs;have hb:∀i,val ((a :: r).take i)<9223372036854775808:=IM h2 (by simpa using h8);have g2:decide ((128:Int)<=(a.toNat:Int))=false:=by simp;omega
  have hr:(r.length:Int)<=7:=by simp at h8;omega
  have H3:=I h3;have H2:=I h2;have HB:=I hb;have g1:decide ((8:Int)<(r.length:Int)+1)=false:=by simp;omega
  clear ge ha h8 hb h2;have key : decide ((1 : Int) < (r.length : Int) + 1) = false \/ (decide ((1 : Int) < (r.length : Int) + 1) = true /\ ((a.toNat : Int) == 0) = false) \/
      (∃h:0<r.length,decide ((1:Int)<(r.length:Int)+1)=true/\((a.toNat:Int)==0)=true/\decide (((r[0]'h).toNat:Int)<128)=false):=by
    cases r with
    |nil=>left;simp
    |cons b q=>
      right
      by_cases h0:a.toNat=0
      · right
        have:¬Bf (b :: q)=true:=fun g=>h3 ⟨h0,g⟩
        simp only[Bf,decide_eq_true_eq] at this;refine⟨by simp,by simp;omega,by simp;omega,?_⟩;simp;omega
      · left
        refine⟨by simp;omega,by simp;omega⟩
  clear h3
  by_cases hbig:4611686018427387904<val (a :: r)
  · have B1 : decide ((4611686018427387904 : Int) < ((val (a :: r) : Nat) : Int)) = true := by simp; omega
    have E:=I (Pb hbig);clear hbig;rcases key with k1 | ⟨k1,k2⟩ | ⟨k0,k1,k2,k3⟩
    all_goals
      go_enter Tryz.func202,Tryz.ntmps202
      go_wp2
      go_loop [4,33] (fun n i=>∃k:Nat,k<=r.length+1/\i=.int .i64 (k:Int)/\n=.int .i64 ((val ((a :: r).take k):Nat):Int)) (fun _ i=>r.length+1 - (intOf i).toNat)
      case atStart=>exact⟨0,by omega,rfl,rfl⟩
      case round=>
        obtain⟨k,hk,rfl,rfl⟩:=hrel
        by_cases hlt:k<r.length+1
        · have hlt' : k < (a :: r).length := by simpa using hlt
          have V:=I (Ef (a :: r) k hlt');have hx1:=HB.o k;have hx2:=HB.o (k+1);rw[V.o] at hx2;have hu:=BC ((a :: r)[k])
          go_wp2
          refine⟨⟨k+1,by omega,by go_num,?_⟩,by simp [intOf];omega⟩;rw[Hx _ _ (by omega) (by omega),V.o]
          go_num
        · obtain rfl : k = r.length + 1 := by omega
          have e:(a :: r).take (r.length+1)=a :: r:=List.take_of_length_le (by simp);rw[e];clear e hk hlt
          go_wp2
          go_ret2
          exact⟨by rw[E.o];rfl,AS.refl _⟩
  · have B1 : decide ((4611686018427387904 : Int) < ((val (a :: r) : Nat) : Int)) = false := by simp; omega
    have E:=I (QL (by omega) H2.o H3.o (by omega));clear hbig;rcases key with k1 | ⟨k1,k2⟩ | ⟨k0,k1,k2,k3⟩
    all_goals
      go_enter Tryz.func202,Tryz.ntmps202
      go_wp2
      go_loop [4,33] (fun n i=>∃k:Nat,k<=r.length+1/\i=.int .i64 (k:Int)/\n=.int .i64 ((val ((a :: r).take k):Nat):Int)) (fun _ i=>r.length+1 - (intOf i).toNat)
      case atStart=>exact⟨0,by omega,rfl,rfl⟩
      case round=>
        obtain⟨k,hk,rfl,rfl⟩:=hrel
        by_cases hlt:k<r.length+1
        · have hlt' : k < (a :: r).length := by simpa using hlt
          have V:=I (Ef (a :: r) k hlt');have hx1:=HB.o k;have hx2:=HB.o (k+1);rw[V.o] at hx2;have hu:=BC ((a :: r)[k])
          go_wp2
          refine⟨⟨k+1,by omega,by go_num,?_⟩,by simp [intOf];omega⟩;rw[Hx _ _ (by omega) (by omega),V.o]
          go_num
        · obtain rfl : k = r.length + 1 := by omega
          have e:(a :: r).take (r.length+1)=a :: r:=List.take_of_length_le (by simp);rw[e];clear e hk hlt
          go_wp2
          go_ret2
          exact⟨by rw[E.o];rfl,AS.refl _⟩
theorem Pe (s:L) (hs:(s.length:Int)<=100000) (w:World):Calls Tryz.prog 202 #[.string ⟨s.toArray⟩] w fun e w'=>e=.returned (numV (numR s))/\AS w w':=by
 cases s with
 |nil=>exact Pd w
 |cons a r=>
  simp only[List.length_cons] at hs
  by_cases h1:7<r.length
  ·exact MH a r h1 (by omega) w
  ·by_cases h2:128<=a.toNat
   ·exact MI a r h1 h2 w
   ·by_cases h3:a.toNat=0/\Bf r=true
    ·obtain⟨h3,h4⟩:=h3
     cases r with
     |nil=>simp [Bf] at h4
     |cons b q=>exact MJ a b q h1 h3 (by simpa [Bf] using h4) w
    ·exact ML (a :: r) (by simp) (by simp;omega) rfl a r rfl (by omega) h3 w
end DerC
namespace DerC
open Go.RowKit Af DerP
attribute [local go_sem] Ex List.getElem_cons_zero List.getElem_cons_succ Cr Cs DM
theorem CR (g : Nat) (c : Option L) (w : World) (h : Cur w g c) (hs : ((c.getD []).length : Int) <= 100000) : Calls Tryz.prog 161 #[.pointer (some ⟨g, 0, none⟩)] w fun e w' =>
    e=.returned (.int .i64 ((intC c).1:Int))/\Cur w' g (intC c).2/\w.grownBy w' (some g):=by
  have ht : ∀ W, Cur W g c -> Calls Tryz.prog 200 #[.pointer (some ⟨g, 0, none⟩), .int .u8 2] W fun e w' =>
      e=.returned (.tuple #[.string ⟨((AJ 2 c).getD []).toArray⟩,.bool (AJ 2 c).isSome])/\Cur w' g (AQ 2 c)/\W.grownBy w' (some g):=fun W hW=>Io 2 g c W hW hs
  have HT:=I ht;clear ht;have hbl:=(Ca 2 c).1;cases hb:AJ 2 c with
  |none=>
    have E:=I (show intC c=(0,none) by simp only[intC,hb]);have hn:=I (GH 2 c hb);rw[hb] at HT;have HB:=I hb;clear hb hbl;go_enter Tryz.func161,Tryz.ntmps161
    go_wp2_with (go_at_call 200;refine(HT.o _ h).mono ?_;rintro e w' ⟨rfl,hc,hg⟩)
    go_ret;rw[E.o];exact⟨rfl,by rw[<-hn.o];exact hc,hg⟩
  |some b=>
    rw[hb] at HT;rw[hb] at hbl;simp only[Option.getD_some] at hbl;have hn:∀W,Calls Tryz.prog 202 #[.string ⟨b.toArray⟩] W fun e w'=>e=.returned (numV (numR b))/\AS W w':=fun W=>Pe b (by omega) W
    cases hx:numL b with
    |none=>
      have E:=I (show intC c=(0,none) by simp only[intC,hb,hx]);rw[Fe hx] at hn;simp only[numV] at hn;have HN:=I hn;clear hn;have HB:=I hb;clear hb hbl hx;go_enter Tryz.func161,Tryz.ntmps161
      go_wp2_with (first
        |(go_at_call 200;refine(HT.o _ h).mono ?_;rintro e w1 ⟨rfl,hc,hg⟩)
        |(go_at_call 202;refine(HN.o _).mono ?_;rintro e w' ⟨rfl,q,rfl⟩)
        |(go_at_call 203;refine(NT _ _ _ (hc.drewN q)).mono ?_;rintro e w' ⟨rfl,hc1,hg1⟩))
      go_ret;rw[E.o];exact⟨rfl,hc1,(Ey hg q).trans hg1⟩
    |some n=>
      have E:=I (show intC c=(n,AQ 2 c) by simp only[intC,hb,hx]);rw[numR,hx] at hn;simp only[numV,Option.getD_some,Option.isSome_some] at hn;have HN:=I hn;clear hn;have HB:=I hb;clear hb hbl hx;go_enter Tryz.func161,Tryz.ntmps161
      go_wp2_with (first
        |(go_at_call 200;refine(HT.o _ h).mono ?_;rintro e w1 ⟨rfl,hc,hg⟩)
        |(go_at_call 202;refine(HN.o _).mono ?_;rintro e w' ⟨rfl,q,rfl⟩))
      go_ret;rw[E.o];exact⟨rfl,hc.drewN q,Ey hg q⟩
theorem DW (g:Nat) (c:Option L) (w:World) (h:Cur w g c) (hs:((c.getD []).length:Int)<=100000):Calls Tryz.prog 201 #[.pointer (some ⟨g,0,none⟩)] w fun e w'=>
  (∃b cap,e=.returned (.slice (some ⟨b,0,none⟩) ((AJ 4 c).getD []).length cap)/\((AJ 4 c).getD []).length<=cap/\Qt w' w.heap.size b ((AJ 4 c).getD []))/\Cur w' g (AQ 4 c)/\w.grownBy w' (some g):=by
 have hcv:=fun(W:World)=>Lib.run_convert_string_bytes (P:=Tryz.prog) W 9 26 5 ⟨((AJ 4 c).getD []).toArray⟩ Tryz.underlying9 Tryz.underlying26 Tryz.underlying5
 go_enter Tryz.func201,Tryz.ntmps201
 go_wp2_with (go_at_call 200;refine(Io 4 g c _ h hs).mono ?_;rintro e w1 ⟨rfl,hc,hg⟩)
 go_ret;exact⟨⟨_,_,rfl,grownCap_ge _ _ _ _,by have:=Gi w1 5 ((AJ 4 c).getD []);exact⟨Nat.le_trans hg.size this.1,this.2⟩⟩,hc.below (Ee _ _ _),IB hg (Ee _ _ _)⟩
theorem Eh (g:Nat) (c:Option L) (w:World) (h:Cur w g c) (hs:((c.getD []).length:Int)<=100000):Calls Tryz.prog 160 #[.pointer (some ⟨g,0,none⟩)] w fun e w'=>
  e=.returned (.string ⟨((AJ 27 c).getD []).toArray⟩)/\Cur w' g (AQ 27 c)/\w.grownBy w' (some g):=by
 have hl:((AJ 27 c).getD []).length<=1000000000:=by
  have:=(Ca 27 c).1;omega
 have HL:=I hl;clear hl;go_enter Tryz.func160,Tryz.ntmps160
 go_wp2_with (first
  |(go_at_call 200;refine(Io 27 g c _ h hs).mono ?_;rintro e w1 ⟨rfl,hc,hg⟩)
  |(go_at_call 49;refine(Nm.BO _ _ HL.o).mono ?_;rintro e w2 ⟨rfl,hb⟩))
 go_ret;exact⟨rfl,hc.below hb,IB hg hb⟩
theorem Kx (t:UInt8) (g:Nat) (c:Option L) (w:World) (h:Cur w g c) (hs:((c.getD []).length:Int)<=100000):Calls Tryz.prog 157 #[.pointer (some ⟨g,0,none⟩),.int .u8 t.toNat] w fun e w'=>
  (∃g',e=.returned (.pointer (some ⟨g',0,none⟩))/\w.heap.size<=g'/\Cur w' g' (AJ t c))/\Cur w' g (AQ t c)/\w.grownBy w' (some g):=by
 go_enter Tryz.func157,Tryz.ntmps157
 go_wp2_with (go_at_call 200;refine(Io t g c _ h hs).mono ?_;rintro e w1 ⟨rfl,hc,hg⟩)
 go_ret;refine⟨⟨_,rfl,hg.size,?_⟩,hc.alloc _,Dp hg _⟩;have:=Blk.new w1 294 (Kv (AJ t c));cases hb:AJ t c<;>(rw[hb] at this;exact this)
theorem NV (B:Nat) (A:Option Addr) (l:L) (n cap:Nat) (w:World) (h:Rd w B A (bvs l)) (hn:n=l.length):Calls Tryz.prog 156 #[.slice A n cap] w fun e w'=>
  ∃g',e=.returned (.pointer (some ⟨g',0,none⟩))/\w.heap.size<=g'/\Cur w' g' (some l)/\Below w.heap.size w w':=by
 have hcv:=AW (P:=Tryz.prog) w 26 5 Tryz.underlying26 Tryz.underlying5 h n cap hn 9 Tryz.underlying9;have HN:=I hn;clear hn;go_enter Tryz.func156,Tryz.ntmps156
 go_wp2
 go_ret;exact⟨_,rfl,Nat.le_refl _,Blk.new w 294 (Kv (some l)),Ah.alloc Ag _⟩
end DerC
namespace DerLib
open Go.RowKit Af
theorem Ia:(⟨((([0,1,2,2,3,3,3,3,4,4,4,4,4,4,4,4,5,5,5,5,5,5,5,5,5,5,5,5,5,5,5,5,6,6,6,6,6,6,6,6,6,6,6,6,6,6,6,6,6,6,6,6,6,6,6,6,6,6,6,6,6,6,6,6]:List UInt8).append [7,7,7,7,7,7,7,7,7,7,7,7,7,7,7,7,7,7,7,7,7,7,7,7,7,7,7,7,7,7,7,7,7,7,7,7,7,7,7,7,7,7,7,7,7,7,7,7,7,7,7,7,7,7,7,7,7,7,7,7,7,7,7,7]).append (([8,8,8,8,8,8,8,8,8,8,8,8,8,8,8,8,8,8,8,8,8,8,8,8,8,8,8,8,8,8,8,8,8,8,8,8,8,8,8,8,8,8,8,8,8,8,8,8,8,8,8,8,8,8,8,8,8,8,8,8,8,8,8,8]:List UInt8).append [8,8,8,8,8,8,8,8,8,8,8,8,8,8,8,8,8,8,8,8,8,8,8,8,8,8,8,8,8,8,8,8,8,8,8,8,8,8,8,8,8,8,8,8,8,8,8,8,8,8,8,8,8,8,8,8,8,8,8,8,8,8,8,8])).toArray⟩:ByteArray)=Lib.len8tab:=by kernel_rfl
theorem Fj (m k p:Nat) (x:Int) (hp:p=2 ^ k) (hx:x=((m / p:Nat):Int)) (hs:m / p<256) (hlo:p<=m\/k=0) (hm:m<18446744073709551616) :
  Lib.len8 x+(k:Int)=(Lib.bitLen m:Int)/\Lib.len8 x<=8/\0<=Lib.len8 x:=by
 have l:=Lib.bitLen_le8 ⟨m / p,hs⟩;have v:=Lib.len8_eq ⟨m / p,hs⟩;simp only at l v;rw[hx,v];have hb:Lib.bitLen m=k+Lib.bitLen (m / p):=by
  rcases hlo with h | h
  ·rw[hp] at h⊢;exact Lib.bitLen_shift k m h hm
  ·subst h;rw[hp];simp
 omega
theorem QQ (m:Nat) (w:World) (hm:m<9223372036854775808):Calls Tryz.prog 252 #[.int .u64 (m:Int)] w fun e w'=>e=.returned (.int .i64 (Lib.bitLen m:Int))/\w=w':=by
 by_cases h1:4294967296<=m
 ·by_cases h2:65536<=m / 4294967296
  ·by_cases h3:256<=m / 4294967296 / 65536
   ·have t1:decide ((4294967296:Int)<=(m:Int))=true:=decide_eq_true (by omega)
    have t2:decide ((65536:Int)<=(m:Int) / 4294967296)=true:=decide_eq_true (by omega);have t3:decide ((256:Int)<=(m:Int) / 4294967296 / 65536)=true:=decide_eq_true (by omega);have AL:=Fj m 56 72057594037927936 ((m:Int) / 4294967296 / 65536 / 256 % 256) rfl (by omega) (by omega) (by omega) (by omega);have AH:=I AL;clear AL hm h1 h2 h3;go_enter Tryz.func252,Tryz.ntmps252;rw[Ia]
    go_wp2
    go_ret;have AL:=AH.o;refine⟨congrArg Ending.returned (congrArg (Value.int IntKind.i64) ?_),rfl⟩
    (first | (unfold wrap64;omega) | omega | skip)
   ·have t1:decide ((4294967296:Int)<=(m:Int))=true:=decide_eq_true (by omega)
    have t2:decide ((65536:Int)<=(m:Int) / 4294967296)=true:=decide_eq_true (by omega);have t3:decide ((256:Int)<=(m:Int) / 4294967296 / 65536)=false:=decide_eq_false (by omega);have AL:=Fj m 48 281474976710656 ((m:Int) / 4294967296 / 65536 % 256) rfl (by omega) (by omega) (by omega) (by omega);have AH:=I AL;clear AL hm h1 h2 h3;go_enter Tryz.func252,Tryz.ntmps252;rw[Ia]
    go_wp2
    go_ret;have AL:=AH.o;refine⟨congrArg Ending.returned (congrArg (Value.int IntKind.i64) ?_),rfl⟩
    (first | (unfold wrap64;omega) | omega | skip)
  ·by_cases h3:256<=m / 4294967296
   ·have t1:decide ((4294967296:Int)<=(m:Int))=true:=decide_eq_true (by omega)
    have t2:decide ((65536:Int)<=(m:Int) / 4294967296)=false:=decide_eq_false (by omega);have t3:decide ((256:Int)<=(m:Int) / 4294967296)=true:=decide_eq_true (by omega);have AL:=Fj m 40 1099511627776 ((m:Int) / 4294967296 / 256 % 256) rfl (by omega) (by omega) (by omega) (by omega);have AH:=I AL;clear AL hm h1 h2 h3;go_enter Tryz.func252,Tryz.ntmps252;rw[Ia]
    go_wp2
    go_ret;have AL:=AH.o;refine⟨congrArg Ending.returned (congrArg (Value.int IntKind.i64) ?_),rfl⟩
    (first | (unfold wrap64;omega) | omega | skip)
   ·have t1:decide ((4294967296:Int)<=(m:Int))=true:=decide_eq_true (by omega)
    have t2:decide ((65536:Int)<=(m:Int) / 4294967296)=false:=decide_eq_false (by omega);have t3:decide ((256:Int)<=(m:Int) / 4294967296)=false:=decide_eq_false (by omega);have AL:=Fj m 32 4294967296 ((m:Int) / 4294967296 % 256) rfl (by omega) (by omega) (by omega) (by omega);have AH:=I AL;clear AL hm h1 h2 h3;go_enter Tryz.func252,Tryz.ntmps252;rw[Ia]
    go_wp2
    go_ret;have AL:=AH.o;refine⟨congrArg Ending.returned (congrArg (Value.int IntKind.i64) ?_),rfl⟩
    (first | (unfold wrap64;omega) | omega | skip)
 ·by_cases h2:65536<=m
  ·by_cases h3:256<=m / 65536
   ·have t1:decide ((4294967296:Int)<=(m:Int))=false:=decide_eq_false (by omega)
    have t2:decide ((65536:Int)<=(m:Int))=true:=decide_eq_true (by omega);have t3:decide ((256:Int)<=(m:Int) / 65536)=true:=decide_eq_true (by omega);have AL:=Fj m 24 16777216 ((m:Int) / 65536 / 256 % 256) rfl (by omega) (by omega) (by omega) (by omega);have AH:=I AL;clear AL hm h1 h2 h3;go_enter Tryz.func252,Tryz.ntmps252;rw[Ia]
    go_wp2
    go_ret;have AL:=AH.o;refine⟨congrArg Ending.returned (congrArg (Value.int IntKind.i64) ?_),rfl⟩
    (first | (unfold wrap64;omega) | omega | skip)
   ·have t1:decide ((4294967296:Int)<=(m:Int))=false:=decide_eq_false (by omega)
    have t2:decide ((65536:Int)<=(m:Int))=true:=decide_eq_true (by omega);have t3:decide ((256:Int)<=(m:Int) / 65536)=false:=decide_eq_false (by omega);have AL:=Fj m 16 65536 ((m:Int) / 65536 % 256) rfl (by omega) (by omega) (by omega) (by omega);have AH:=I AL;clear AL hm h1 h2 h3;go_enter Tryz.func252,Tryz.ntmps252;rw[Ia]
    go_wp2
    go_ret;have AL:=AH.o;refine⟨congrArg Ending.returned (congrArg (Value.int IntKind.i64) ?_),rfl⟩
    (first | (unfold wrap64;omega) | omega | skip)
  ·by_cases h3:256<=m
   ·have t1:decide ((4294967296:Int)<=(m:Int))=false:=decide_eq_false (by omega)
    have t2:decide ((65536:Int)<=(m:Int))=false:=decide_eq_false (by omega);have t3:decide ((256:Int)<=(m:Int))=true:=decide_eq_true (by omega);have AL:=Fj m 8 256 ((m:Int) / 256 % 256) rfl (by omega) (by omega) (by omega) (by omega);have AH:=I AL;clear AL hm h1 h2 h3;go_enter Tryz.func252,Tryz.ntmps252;rw[Ia]
    go_wp2
    go_ret;have AL:=AH.o;refine⟨congrArg Ending.returned (congrArg (Value.int IntKind.i64) ?_),rfl⟩
    (first | (unfold wrap64;omega) | omega | skip)
   ·have t1:decide ((4294967296:Int)<=(m:Int))=false:=decide_eq_false (by omega)
    have t2:decide ((65536:Int)<=(m:Int))=false:=decide_eq_false (by omega);have t3:decide ((256:Int)<=(m:Int))=false:=decide_eq_false (by omega);have AL:=Fj m 0 1 ((m:Int) % 256) rfl (by omega) (by omega) (by omega) (by omega);have AH:=I AL;clear AL hm h1 h2 h3;go_enter Tryz.func252,Tryz.ntmps252;rw[Ia]
    go_wp2
    go_ret;have AL:=AH.o;refine⟨congrArg Ending.returned (congrArg (Value.int IntKind.i64) ?_),rfl⟩
    (first | (unfold wrap64;omega) | omega | skip)
theorem Uf (m:Nat) (w:World) (hm:m<9223372036854775808):Calls Tryz.prog 234 #[.int .u64 (m:Int)] w fun e w'=>e=.returned (.int .i64 (Lib.bitLen m:Int))/\w=w':=by
 have c1:=QQ m w hm;clear hm;go_enter Tryz.func234,Tryz.ntmps234
 go_wp2_with (go_at_call 252;refine Aj c1 ?_;rintro w' rfl)
 go_ret;exact⟨rfl,rfl⟩
end DerLib
namespace DerW
open Go.RowKit Af DerP
theorem BP:(Tryz.prog.info? 5).map (fun i=>(i.zero,i.size,i.bytes))=some (some (.int .u8 0),1,1):=by kernel_rfl
def filled (K m j:Nat):Array Value:=(List.replicate j (bv 0)++bvs ((digK K m).drop j)).toArray
theorem Lp (K m:Nat):filled K m K=CQ K:=by
 rw[filled,List.drop_of_length_le (by rw[Ba];exact Nat.le_refl _)];simp [CQ,bvs]
theorem Pf (K m:Nat):filled K m 0=(bvs (digK K m)).toArray:=by simp [filled]
theorem Pg (K m j:Nat) (hj:j<K):(filled K m (j+1)).setIfInBounds j (bv (UInt8.ofNat (m / 256 ^ (K - 1 - j))))=filled K m j:=by
 have h:=QE (digK K m) j _ (QD K m j hj);apply Array.toList_inj.1;simp only[filled,Array.toList_setIfInBounds];rw[h];rw[List.set_append_left _ _ (by simp)];rw[List.replicate_succ',List.set_append_right _ _ (by simp)];simp [bvs]
theorem Ph (m:Nat) (hm:m<=4611686018427387904) (w:World):Calls Tryz.prog 214 #[.int .i64 (m:Int)] w fun e w'=>
  ∃g,e=.returned (.slice (some ⟨g,0,none⟩) (dig m).length (dig m).length)/\w.heap.size<=g/\Blk w' g 5 (bvs (dig m)).toArray/\Below w.heap.size w w':=by
 obtain⟨i0,hi0,hz0,hs0,hb0⟩:=info_parts BP;have hbl:=GF m hm;have hL:(dig m).length=Lib.bitLen m / 8+1:=Hi m;have hD:dig m=digK (Lib.bitLen m / 8+1) m:=rfl;rw[hL,hD];have hc:∀W,Calls Tryz.prog 234 #[.int .u64 (m:Int)] W fun e w'=>e=.returned (.int .i64 (Lib.bitLen m:Int))/\W=w':=by
  intro W;exact DerLib.Uf m W (by omega)
 clear hL hD;generalize hq:Lib.bitLen m=q at *;have hmk:=Gd (P:=Tryz.prog) Tryz.underlying26 hi0 hz0 hs0 hb0 ((q:Int) / 8+1) (q / 8+1) (by omega) (by omega);have HC:=I hc;clear hc;have HQ:=I hq;clear hq;have hm':(m:Int)<=4611686018427387904:=by omega
 have hq':(q:Int)<=63:=by omega
 clear hm hbl hi0 hz0 hs0 hb0;go_enter Tryz.func214,Tryz.ntmps214
 go_wp2_with (go_at_call 234;refine(HC.o _).mono ?_;rintro e w' ⟨rfl,rfl⟩)
 go_loopw [0,4] (fun n i wr=>∃j:Nat,j<=q / 8+1/\i=.int .i64 ((j:Int) - 1)/\n=.int .i64 ((m / 256 ^ (q / 8+1 - j):Nat):Int)/\Blk wr w.heap.size 5 (filled (q / 8+1) m j)/\Below w.heap.size w wr) (fun _ i _=>(intOf i+1).toNat)
 case atStart=>
  refine⟨q / 8+1,Nat.le_refl _,by congr 1;omega,by simp,?_,Ah.alloc Ag _⟩;rw[Lp];exact Blk.new _ _ _
 case round=>
  obtain⟨j,hj,rfl,rfl,hB,hbel⟩:=hrel;cases j with
  |zero=>
   have e:((0:Nat):Int) - 1 = -1:=rfl;rw[e]
   go_wp2
   go_ret;rw[Pf] at hB;exact⟨_,rfl,Nat.le_refl _,hB,hbel⟩
  |succ j=>
   have e:((j+1:Nat):Int) - 1=(j:Int):=by omega
   rw[e];clear e;have hf:=hB.frozen j;have hset:=hB.set j (bv (UInt8.ofNat (m / 256 ^ (q / 8+1 - 1 - j))));rw[Pg _ _ _ (by omega)] at hset;have hcell:∃u,(filled (q / 8+1) m (j+1))[j]? = some u:=by
    have:j<(filled (q / 8+1) m (j+1)).size:=by simp [filled,bvs,Ba];omega
    exact⟨_,Array.getElem?_eq_getElem this⟩
   obtain⟨u,hu⟩:=hcell;have hcu:=(hB.cell j).trans hu;have hdiv:m / 256 ^ (q / 8+1 - (j+1))<=m:=Nat.div_le_self _ _;have hdiv':((m / 256 ^ (q / 8+1 - (j+1)):Nat):Int)<=4611686018427387904:=by omega
   have hnx:=I (show m / 256 ^ (q / 8+1 - (j+1)) / 256=m / 256 ^ (q / 8+1 - j) by
    rw[Nat.div_div_eq_div_mul,<-Nat.pow_succ];congr 2;omega)
   have hpw:=I (show q / 8+1 - 1 - j=q / 8+1 - (j+1) by omega);rw[hpw.o] at hset;generalize m / 256 ^ (q / 8+1 - (j+1))=y at *;have HS:=I hset;clear hset hu
   go_wp2
   refine⟨⟨j,by omega,rfl,?_,?_,hbel.setCell Ag _⟩,by simp [intOf]⟩
   ·rw[<-hnx.o];rfl
   ·have e:bv (UInt8.ofNat y)=.int .u8 ((y:Int) % 256):=by simp [bv]
    rw[<-e];exact HS.o
theorem ml (n:Nat) (h:n<=1000000):n<=maxLen:=by unfold maxLen;omega
theorem Ib (w:World) (t:TypeId) (cs:Array Value) (l:L) (h:cs.toList=bvs l) (N:Nat) (hN:w.heap.size=N):Rd (w.alloc (.cells cs t)) (N+1) (some ⟨N,0,none⟩) (bvs l):=by
 subst hN;refine .inr ⟨w.heap.size,0,rfl,by omega,fun i u hu=>?_⟩;rw[Nat.zero_add,(Blk.new w t cs).cell i];rw[<-h] at hu
 simpa using hu
theorem GI (n:Nat) (h:n<256):bv (UInt8.ofNat n)=.int .u8 (n:Int):=by simp [bv];omega
theorem Pj (t : UInt8) (n : Nat) (h1 : n < 128) (w : World) : Calls Tryz.prog 213 #[.int .u8 t.toNat, .int .i64 (n : Int)] w fun e w' =>
    ∃v,e=.returned v/\w'.ownsRow w.heap.size 5 1 v (1+(szL n).length) (bvs (t :: szL n))/\Below w.heap.size w w':=by
  obtain⟨i0,hi0,hz0,hs0,hb0⟩:=info_parts BP;have hmk:=Df (P:=Tryz.prog) Tryz.underlying26 hi0 hz0 hs0 hb0 ((n:Int)+4) (n+4) (by omega) (by omega);have E:=I (show szL n = [UInt8.ofNat n] by simp [szL,h1]);have g1:decide ((n:Int)<128)=true:=by simp;omega
  have hn:(n:Int)<=127:=by omega
  have hown0:Hid (∀o,(World.alloc (World.alloc w (.cells (CQ (n+4)) 5)) o).ownsRow w.heap.size 5 1 (.slice (some ⟨w.heap.size,0,none⟩) 0 (n+4)) 0 []):=fun o=>(World.ownsRow_made w (CQ (n+4)) (n+4) Ag (ml _ (by omega)) (by rw[Dj];omega)).alloc o
  have hm1:=I (ml 1 (by omega));have hm2:=I (ml 2 (by omega));have hbn:=I (GI n (by omega));clear h1;go_enter Tryz.func213,Tryz.ntmps213
  go_wp2_with (first
    | (at_builtin
       refine Az _ rfl (.tmp 8) (.tmp 10) 26 rfl w.heap.size 5 i0 _ 1 Tryz.underlying26 hi0 hz0 hs0 hb0 rfl (.slice (some ⟨w.heap.size,0,none⟩) 0 (n+4)) 0 [] rfl (hown0.o _) _ _ 1 1 (bvs [t]) rfl rfl (Ib _ 5 _ [t] rfl _ (by simp)) (Bl _) hm1.o (by omega) (by simp;omega) ?_;intro v1 w1 hown1 hg1 hat1)
    | (at_builtin
       refine Az _ rfl (.tmp 15) (.tmp 18) 26 rfl w.heap.size 5 i0 _ 1 Tryz.underlying26 hi0 hz0 hs0 hb0 rfl v1 (0+1) ([]++bvs [t]) rfl (hown1.alloc _) _ _ 1 1 (bvs [UInt8.ofNat n]) rfl rfl (Ib w1 5 _ [UInt8.ofNat n] (by simp [bvs,hbn.o]) _ rfl) (Bl _) hm2.o (by omega) (by simp;have:=hg1.size;simp at this;omega) ?_;intro v2 w2 hown2 hg2 hat2))
  go_ret;have b1:Below w.heap.size w w1:=(((Below.refl w.heap.size w).alloc Ag _).alloc (by simp) _).grown hg1 (by simp;omega) (by intro k hk;simp [Value.ownBlock] at hk;omega);have b2:=(b1.alloc b1.size _).grown hg2 (by have:=b1.size;simp;omega) (fun k hk=>(hown1.lt k hk).1);exact⟨v2,rfl,by rw[E.o];simpa [bvs] using hown2,b2⟩
theorem Ug (t : UInt8) (n : Nat) (h1 : ¬ n < 128) (h2 : n <= 255) (w : World) : Calls Tryz.prog 213 #[.int .u8 t.toNat, .int .i64 (n : Int)] w fun e w' =>
    ∃v,e=.returned v/\w'.ownsRow w.heap.size 5 1 v (1+(szL n).length) (bvs (t :: szL n))/\Below w.heap.size w w':=by
  obtain⟨i0,hi0,hz0,hs0,hb0⟩:=info_parts BP;have hmk:=Df (P:=Tryz.prog) Tryz.underlying26 hi0 hz0 hs0 hb0 ((n:Int)+4) (n+4) (by omega) (by omega);have E:=I (show szL n = [129,UInt8.ofNat n] by simp [szL,h1,h2]);have g1:decide ((n:Int)<128)=false:=by simp;omega
  have g2:decide ((n:Int)<=255)=true:=by simp;omega
  have hn:(n:Int)<=255:=by omega
  have hown0:Hid (∀o,(World.alloc (World.alloc w (.cells (CQ (n+4)) 5)) o).ownsRow w.heap.size 5 1 (.slice (some ⟨w.heap.size,0,none⟩) 0 (n+4)) 0 []):=fun o=>(World.ownsRow_made w (CQ (n+4)) (n+4) Ag (ml _ (by omega)) (by rw[Dj];omega)).alloc o
  have hm1:=I (ml 1 (by omega));have hm2:=I (ml 3 (by omega));have hbn:=I (GI n (by omega));clear h1 h2;go_enter Tryz.func213,Tryz.ntmps213
  go_wp2_with (first
    | (at_builtin
       refine Az _ rfl (.tmp 8) (.tmp 10) 26 rfl w.heap.size 5 i0 _ 1 Tryz.underlying26 hi0 hz0 hs0 hb0 rfl (.slice (some ⟨w.heap.size,0,none⟩) 0 (n+4)) 0 [] rfl (hown0.o _) _ _ 1 1 (bvs [t]) rfl rfl (Ib _ 5 _ [t] rfl _ (by simp)) (Bl _) hm1.o (by omega) (by simp;omega) ?_;intro v1 w1 hown1 hg1 hat1)
    | (at_builtin
       refine Az _ rfl (.tmp 23) (.tmp 26) 26 rfl w.heap.size 5 i0 _ 1 Tryz.underlying26 hi0 hz0 hs0 hb0 rfl v1 (0+1) ([]++bvs [t]) rfl (hown1.alloc _) _ _ 2 2 (bvs [129,UInt8.ofNat n]) rfl rfl (Ib w1 5 _ [129,UInt8.ofNat n] (by simp [bvs,hbn.o];rfl) _ rfl) (Bl _) hm2.o (by omega) (by simp;have:=hg1.size;simp at this;omega) ?_;intro v2 w2 hown2 hg2 hat2))
  go_ret;have b1:Below w.heap.size w w1:=(((Below.refl w.heap.size w).alloc Ag _).alloc (by simp) _).grown hg1 (by simp;omega) (by intro k hk;simp [Value.ownBlock] at hk;omega);have b2:=(b1.alloc b1.size _).grown hg2 (by have:=b1.size;simp;omega) (fun k hk=>(hown1.lt k hk).1);exact⟨v2,rfl,by rw[E.o];simpa [bvs] using hown2,b2⟩
theorem Uh (t : UInt8) (n : Nat) (h1 : ¬ n < 128) (h2 : ¬ n <= 255) (h3 : n <= 65535) (w : World) : Calls Tryz.prog 213 #[.int .u8 t.toNat, .int .i64 (n : Int)] w fun e w' =>
    ∃v,e=.returned v/\w'.ownsRow w.heap.size 5 1 v (1+(szL n).length) (bvs (t :: szL n))/\Below w.heap.size w w':=by
  obtain⟨i0,hi0,hz0,hs0,hb0⟩:=info_parts BP;have hmk:=Df (P:=Tryz.prog) Tryz.underlying26 hi0 hz0 hs0 hb0 ((n:Int)+4) (n+4) (by omega) (by omega);have E:=I (show szL n = [130,UInt8.ofNat (n / 256),UInt8.ofNat n] by simp [szL,h1,h2]);have g1:decide ((n:Int)<128)=false:=by simp;omega
  have g2:decide ((n:Int)<=255)=false:=by simp;omega
  have hn:(n:Int)<=65535:=by omega
  have hown0:Hid (∀o,(World.alloc (World.alloc w (.cells (CQ (n+4)) 5)) o).ownsRow w.heap.size 5 1 (.slice (some ⟨w.heap.size,0,none⟩) 0 (n+4)) 0 []):=fun o=>(World.ownsRow_made w (CQ (n+4)) (n+4) Ag (ml _ (by omega)) (by rw[Dj];omega)).alloc o
  have hm1:=I (ml 1 (by omega));have hm2:=I (ml 4 (by omega));have hbn:=I (show bvs [130,UInt8.ofNat (n / 256),UInt8.ofNat n] = [.int .u8 130,.int .u8 ((n:Int) / 256),.int .u8 ((n:Int) % 256)] by simp [bvs,bv];omega);clear h1 h2 h3;go_enter Tryz.func213,Tryz.ntmps213
  go_wp2_with (first
    | (at_builtin
       refine Az _ rfl (.tmp 8) (.tmp 10) 26 rfl w.heap.size 5 i0 _ 1 Tryz.underlying26 hi0 hz0 hs0 hb0 rfl (.slice (some ⟨w.heap.size,0,none⟩) 0 (n+4)) 0 [] rfl (hown0.o _) _ _ 1 1 (bvs [t]) rfl rfl (Ib _ 5 _ [t] rfl _ (by simp)) (Bl _) hm1.o (by omega) (by simp;omega) ?_;intro v1 w1 hown1 hg1 hat1)
    | (at_builtin
       refine Az _ rfl (.tmp 28) (.tmp 34) 26 rfl w.heap.size 5 i0 _ 1 Tryz.underlying26 hi0 hz0 hs0 hb0 rfl v1 (0+1) ([]++bvs [t]) rfl (hown1.alloc _) _ _ 3 3 (bvs [130,UInt8.ofNat (n / 256),UInt8.ofNat n]) rfl rfl (Ib w1 5 _ [130,UInt8.ofNat (n / 256),UInt8.ofNat n] (by rw[hbn.o]) _ rfl) (Bl _) hm2.o (by omega) (by simp;have:=hg1.size;simp at this;omega) ?_;intro v2 w2 hown2 hg2 hat2))
  go_ret;have b1:Below w.heap.size w w1:=(((Below.refl w.heap.size w).alloc Ag _).alloc (by simp) _).grown hg1 (by simp;omega) (by intro k hk;simp [Value.ownBlock] at hk;omega);have b2:=(b1.alloc b1.size _).grown hg2 (by have:=b1.size;simp;omega) (fun k hk=>(hown1.lt k hk).1);exact⟨v2,rfl,by rw[E.o];simpa [bvs] using hown2,b2⟩
theorem Ui (t:UInt8) (n:Nat) (h:n<=65535) (w:World):Calls Tryz.prog 213 #[.int .u8 t.toNat,.int .i64 (n:Int)] w fun e w'=>
  ∃v,e=.returned v/\w'.ownsRow w.heap.size 5 1 v (1+(szL n).length) (bvs (t :: szL n))/\Below w.heap.size w w':=by
 by_cases h1:n<128
 ·exact Pj t n h1 w
 ·by_cases h2:n<=255
  ·exact Ug t n h1 h2 w
  ·exact Uh t n h1 h2 h w
def Rds (w:World) (B:Nat) (A:Option Addr) (ls:List L):Prop:=
 ls = []\/∃b o,A=some ⟨b,o,none⟩/\b<B/\∀i l,ls[i]? = some l->∃A' c',w.cell? ⟨b,o+i,none⟩=some (.slice A' l.length c')/\Rd w B A' (bvs l)
theorem Rds.at_ {w:World} {B:Nat} {A:Option Addr} {ls:List L} (h:Rds w B A ls) {i:Nat} {l:L} (hi:ls[i]? = some l) :
  ∃b o,A=some ⟨b,o,none⟩/\b<B/\∃A' c',w.cell? ⟨b,o+i,none⟩=some (.slice A' l.length c')/\Rd w B A' (bvs l):=by
 rcases h with h | ⟨b,o,h1,h2,h3⟩
 ·subst h;simp at hi
 ·exact⟨b,o,h1,h2,h3 i l hi⟩
theorem Rds.below {w w':World} {B:Nat} {A:Option Addr} {ls:List L} (h:Rds w B A ls) (hb:Below B w w'):Rds w' B A ls:=by
 rcases h with h | ⟨b,o,h1,h2,h3⟩
 ·exact .inl h
 ·refine .inr ⟨b,o,h1,h2,fun i l hl=>?_⟩
  obtain⟨A',c',g1,g2⟩:=h3 i l hl;exact⟨A',c',(hb.cell (p:=⟨b,o+i,none⟩) h2).trans g1,g2.below hb⟩
theorem IU (ls:List L) (k:Nat) (l:L) (h:ls[k]? = some l):(ls.take (k+1)).flatten=(ls.take k).flatten++l:=by
 obtain⟨hk,e⟩:=List.getElem?_eq_some_iff.1 h;rw[List.take_succ_eq_append_getElem hk,e];simp
theorem IV (ls:List L) (k:Nat):(ls.take k).flatten.length<=ls.flatten.length:=by
 conv=>rhs;rw[<-List.take_append_drop k ls,List.flatten_append,List.length_append]
 omega
def pre (ls:List L) (k:Nat):Nat:=(ls.take k).flatten.length
def built (t:UInt8) (ls:List L) (k:Nat):L:=t :: szL ls.flatten.length++(ls.take k).flatten
theorem Uj (ls:List L) (k:Nat) (l:L) (h:ls[k]? = some l):pre ls (k+1)=pre ls k+l.length:=by
 rw[pre,IU ls k l h,List.length_append];rfl
theorem Yy (ls:List L) (k:Nat):pre ls k<=ls.flatten.length:=IV ls k
theorem WI (ls:List L):pre ls ls.length=ls.flatten.length:=by rw[pre,List.take_of_length_le Ag]
theorem Pk (t:UInt8) (ls:List L) (k:Nat) (l:L) (h:ls[k]? = some l):built t ls (k+1)=built t ls k++l:=by
 rw[built,IU ls k l h,built,List.append_assoc]
theorem QR (t:UInt8) (ls:List L):built t ls ls.length=elem t ls.flatten:=by
 rw[built,List.take_of_length_le Ag];rfl
theorem Uk (t:UInt8) (ls:List L) (k:Nat) (h:ls.flatten.length<=65535):(built t ls k).length<=65539:=by
 have h1:=IV ls k;have h2:=BZ ls.flatten.length;have h3:(szL ls.flatten.length).length<=3:=by rw[h2];split<;>(try split)<;>omega
 rw[built,List.length_append,List.length_cons];omega
theorem DB (t : UInt8) (ls : List L) (A : Option Addr) (m c B : Nat) (w : World) (hr : Rds w B A ls) (hm : m = ls.length) (hB : B <= w.heap.size) (hl : ls.flatten.length <= 65535) (hc : ls.length <= 1000000) :
    Calls Tryz.prog 175 #[.int .u8 t.toNat,.slice A m c] w fun e w'=>
      ∃v,e=.returned v/\w'.ownsRow w.heap.size 5 1 v (elem t ls.flatten).length (bvs (elem t ls.flatten))/\Below w.heap.size w w':=by
  obtain⟨i0,hi0,hz0,hs0,hb0⟩:=info_parts BP;have hpa:=WI ls;have hh:∀W,Calls Tryz.prog 213 #[.int .u8 t.toNat,.int .i64 ((pre ls m:Nat):Int)] W fun e w'=>
    ∃v,e=.returned v/\w'.ownsRow W.heap.size 5 1 v (built t ls 0).length (bvs (built t ls 0))/\Below W.heap.size W w':=by
    intro W;have:=Ui t _ hl W;have e1:built t ls 0=t :: szL ls.flatten.length:=by simp [built]
    rw[e1,hm,hpa,List.length_cons,Nat.add_comm];exact this
  have HH:=I hh;clear hh;have hpl:=I (fun k=>Nat.le_trans (Yy ls k) hl);have hbl:=I (fun k=>Uk t ls k hl);have hba:=I (QR t ls);have hml:=I ml;have HR:=I hr;clear hr;have hc':(m:Int)<=1000000:=by omega
  have HM:=I hm;clear hm hc hl hpa;go_enter Tryz.func175,Tryz.ntmps175
  go_wp2
  go_loop [5,13] (fun n i=>∃k:Nat,k<=m/\i=.int .i64 (k:Int)/\n=.int .i64 ((pre ls k:Nat):Int)) (fun _ i=>m - (intOf i).toNat)
  case atStart=>exact⟨0,by omega,rfl,rfl⟩
  case round=>
    obtain⟨k,hk,rfl,rfl⟩:=hrel
    by_cases hlt:k<m
    · obtain ⟨l, hx⟩ : ∃ l, ls[k]? = some l := ⟨_, List.getElem?_eq_getElem (by have := HM.o; omega)⟩
      obtain⟨b,o,rfl,hb,A',c',hcell,hrd⟩:=HR.o.at_ hx;have hf1:=hpl.o k;have hf2:=hpl.o (k+1);have hs:=Uj ls k l hx;have HS:=I hs;have g1:decide ((65535:Int)<((pre ls k:Nat):Int)+(l.length:Int))=false:=by simp only[decide_eq_false_iff_not];omega
      have hll:(l.length:Int)<=65535:=by omega
      have hf1':((pre ls k:Nat):Int)<=65535:=by omega
      clear hs hf1 hf2 hx hrd
      go_wp2
      exact⟨⟨k+1,by omega,by go_num,by rw[HS.o];go_num⟩,by simp [intOf];omega⟩
    · obtain rfl : k = m := by omega
      clear hk hlt
      go_wp2_with (go_at_call 213;refine(HH.o _).mono ?_;rintro e w1 ⟨v,rfl,hown,hbel⟩)
      go_loopw [8,29] (fun v i wr=>∃j:Nat,j<=k/\i=.int .i64 (j:Int)/\wr.ownsRow w.heap.size 5 1 v (built t ls j).length (bvs (built t ls j))/\Below w.heap.size w wr) (fun _ i _=>k - (intOf i).toNat)
      case atStart=>exact⟨0,by omega,rfl,hown,hbel⟩
      case round=>
        obtain⟨j,hj,rfl,hown1,hbel1⟩:=hrel
        by_cases hlt:j<k
        · obtain ⟨l, hx⟩ : ∃ l, ls[j]? = some l := ⟨_, List.getElem?_eq_getElem (by have := HM.o; omega)⟩
          obtain⟨b,o,rfl,hb,A',c',hcell,hrd⟩:=(HR.o.below (hbel1.mono hB)).at_ hx;have hs:=Pk t ls j l hx;have hf1:=hbl.o j;have hf2:=hbl.o (j+1);have hs1:=congrArg List.length hs;rw[List.length_append] at hs1;have HS:=I hs;have hsum:(built t ls j).length+l.length<=65539:=by omega
          have HO:=I hown1;have HQ:=I hrd;clear hs hs1 hx hf1 hf2 hown1 hrd hown
          go_wp2_with (at_builtin
                       refine Az _ rfl (.tmp 33) (.tmp 34) 26 rfl w.heap.size 5 i0 _ 1 Tryz.underlying26 hi0 hz0 hs0 hb0 rfl _ (built t ls j).length (bvs (built t ls j)) rfl HO.o B A' l.length c' (bvs l) rfl (Ao l).symm HQ.o (Bl _) (hml.o _ (by omega)) (by omega) hbel1.size ?_;intro v2 w2 hown2 hg2 hat2)
          refine⟨⟨j+1,by omega,by go_num,?_,hbel1.grown hg2 hbel1.size (fun i hi=>(HO.o.lt i hi).1)⟩,by simp [intOf];omega⟩;rw[HS.o,Bt,List.length_append];exact hown2
        · obtain rfl : j = k := by omega
          clear hj hlt
          go_wp2
          go_ret;have e:built t ls j=elem t ls.flatten:=by rw[HM.o];exact hba.o
          rw[e] at hown1;exact⟨_,rfl,hown1,hbel1⟩
theorem MM (w:World) (t:TypeId) (B:Nat) (A:Option Addr) (l:L) (n c:Nat) (hn:n=l.length) (h:Rd w B A (bvs l)) (hB:B<=w.heap.size) :
  Rds (w.alloc (.cells #[.slice A n c] t)) (w.heap.size+1) (some ⟨w.heap.size,0,none⟩) [l]:=by
 subst hn;refine .inr ⟨w.heap.size,0,rfl,by omega,fun i l' hi=>?_⟩;have hi0:i=0:=by
  rcases Nat.eq_zero_or_pos i with g | g
  ·exact g
  ·rw[List.getElem?_eq_none (by simp;omega)] at hi;cases hi
 subst hi0;injection hi with hi;subst hi;exact⟨A,c,(Blk.new w t _).cell 0,(h.alloc hB _).more (by omega)⟩
theorem DW (l:L) (A:Option Addr) (n c B:Nat) (w:World) (hr:Rd w B A (bvs l)) (hn:n=l.length) (hB:B<=w.heap.size) (hl:l.length<=65535) :
  Calls Tryz.prog 177 #[.slice A n c] w fun e w'=>
   ∃v,e=.returned v/\w'.ownsRow w.heap.size 5 1 v (elem 4 l).length (bvs (elem 4 l))/\Below w.heap.size w w':=by
 have hrs:=MM w 26 B A l n c hn hr hB;have hw:=DB 4 [l] (some ⟨w.heap.size,0,none⟩) 1 1 (w.heap.size+1) (w.alloc (.cells #[.slice A n c] 26)) hrs rfl (by simp) (by simpa using hl) (by simp);have e:[l].flatten=l:=by simp
 rw[e] at hw;have HW:=I hw;clear hw hrs hr hn hl e;go_enter Tryz.func177,Tryz.ntmps177
 go_wp2_with (go_at_call 175;refine HW.o.mono ?_;rintro e w1 ⟨v,rfl,hown,hbel⟩)
 go_ret;refine⟨_,rfl,?_,(Below.refl w.heap.size w).alloc Ag _ |>.trans (hbel.mono (by simp))⟩;exact hown.mono (by simp)
theorem CR (n : Int) (w : World) :
    Calls Tryz.prog 179 #[.int .i64 n] w fun e w'=>
      ∃v,e=.returned v/\w'.ownsRow w.heap.size 5 1 v (encI n).length (bvs (encI n))/\Below w.heap.size w w':=by
  have hd:=Ph (BV n) (EW n);rw[JR] at hd;have hw : ∀ (W : World) (g : Nat), Blk W g 5 (bvs (dig (BV n))).toArray -> Calls Tryz.prog 175 #[.int .u8 2, .slice (some ⟨W.heap.size, 0, none⟩) 1 1] (W.alloc (.cells #[.slice (some ⟨g, 0, none⟩) (dig (BV n)).length (dig (BV n)).length] 26)) fun e w' =>
      ∃v,e=.returned v/\w'.ownsRow W.heap.size 5 1 v (encI n).length (bvs (encI n))/\Below W.heap.size W w':=by
    intro W g hB;have hr:Rd W W.heap.size (some ⟨g,0,none⟩) (bvs (dig (BV n))):=.inr ⟨g,0,rfl,hB.lt,fun i u hu=>by
      rw[Nat.zero_add,hB.cell i];simpa using hu⟩
    have hrs:=MM W 26 W.heap.size _ _ _ (dig (BV n)).length rfl hr Ag;have hd8:=Im n;have h:=DB 2 [dig (BV n)] (some ⟨W.heap.size,0,none⟩) 1 1 (W.heap.size+1) _ hrs rfl (by simp) (by simp;omega) (by simp);have e:[dig (BV n)].flatten=dig (BV n):=by simp
    rw[e] at h;refine h.mono ?_;rintro e w' ⟨v,rfl,hown,hbel⟩;exact⟨v,rfl,hown.mono (by simp),(Below.refl W.heap.size W).alloc Ag _ |>.trans (hbel.mono (by simp))⟩
  have HD:=I hd;have HW:=I hw;clear hd hw;go_enter Tryz.func179,Tryz.ntmps179
  go_wp2_with (first
    |(go_at_call 214;refine(HD.o _).mono ?_;rintro e w1 ⟨g,rfl,hg,hB,hbel⟩)
    |(go_at_call 175;refine(HW.o _ _ hB).mono ?_;rintro e w2 ⟨v,rfl,hown,hbel2⟩))
  go_ret;exact⟨_,rfl,hown.mono hbel.size,hbel.trans (hbel2.mono hbel.size)⟩
theorem Eh (l : L) (w : World) (hl : l.length <= 65535) :
    Calls Tryz.prog 178 #[.string ⟨l.toArray⟩] w fun e w'=>
      ∃v,e=.returned v/\w'.ownsRow w.heap.size 5 1 v (elem 27 l).length (bvs (elem 27 l))/\Below w.heap.size w w':=by
  have hcv:=fun(W:World)=>Lib.run_convert_string_bytes (P:=Tryz.prog) W 9 26 5 ⟨l.toArray⟩ Tryz.underlying9 Tryz.underlying26 Tryz.underlying5
  have hw : ∀ (W : World) (c : Nat), Calls Tryz.prog 175 #[.int .u8 27, .slice (some ⟨W.heap.size + 1, 0, none⟩) 1 1] ((Lib.bytesWorld W 5 ⟨l.toArray⟩).alloc (.cells #[.slice (some ⟨W.heap.size, 0, none⟩) l.length c] 26)) fun e w' =>
      ∃v,e=.returned v/\w'.ownsRow W.heap.size 5 1 v (elem 27 l).length (bvs (elem 27 l))/\Below W.heap.size W w':=by
    intro W c;have hs:=Lib.bytesWorld_size W 5 ⟨l.toArray⟩;have hr:=(Gi W 5 l).rd;have hrs:=MM _ 26 _ _ _ l.length c rfl hr Ag;rw[hs] at hrs;have h:=DB 27 [l] (some ⟨W.heap.size+1,0,none⟩) 1 1 (W.heap.size+1+1) _ hrs rfl (by simp [hs]) (by simpa using hl) (by simp);have e:[l].flatten=l:=by simp
    rw[e] at h;refine h.mono ?_;rintro e w' ⟨v,rfl,hown,hbel⟩;refine⟨v,rfl,hown.mono (by simp [hs];omega),?_⟩;exact((Ee W _ _).alloc (by rw[hs];omega) _).trans (hbel.mono (by simp [hs];omega))
  have HW:=I hw;clear hw hl;have hsz:=fun(W:World)=>Lib.bytesWorld_size W 5 ⟨l.toArray⟩
  go_enter Tryz.func178,Tryz.ntmps178
  go_wp2_with (go_at_call 175;refine(HW.o _ _).mono ?_;rintro e w2 ⟨v,rfl,hown,hbel2⟩)
  go_ret;exact⟨_,rfl,hown,hbel2⟩
end DerW
namespace DerK
open Go.RowKit Af DerP
attribute [local go_sem] Ex List.getElem_cons_zero List.getElem_cons_succ
theorem IW {w:World} {base n:Nat} {t:TypeId} {v:Value} {l:L} (h:w.ownsRow base t 1 v n (bvs l)) (hl:0<l.length) :
  ∃g cap,v=.slice (some ⟨g,0,none⟩) l.length cap/\base<=g/\l.length<=cap/\Rd w w.heap.size (some ⟨g,0,none⟩) (bvs l):=by
 have hn:n=l.length:=by have:=h.1;rw[Ao] at this;omega
 subst hn;rcases h.2 with⟨_,h2⟩ | ⟨g,cap,cur,rfl,hg,_,hc,_⟩
 ·omega
 ·exact⟨g,cap,rfl,hg,hc,Rd.of_own h⟩
end DerK
namespace DerR
open Go.RowKit Af DerP
def BS (w:World) (l:L) (e:Ending) (w':World):Prop:=
 (∃g cap,e=.returned (.slice (some ⟨g,0,none⟩) l.length cap)/\w.heap.size<=g/\l.length<=cap/\Rd w' w'.heap.size (some ⟨g,0,none⟩) (bvs l))/\Below w.heap.size w w'
theorem Fk {w w':World} {v:Value} {n:Nat} {t:TypeId} {l:L} (h:w'.ownsRow w.heap.size t 1 v n (bvs l)) (hl:0<l.length) (hb:Below w.heap.size w w'):BS w l (.returned v) w':=by
 obtain⟨g,cap,rfl,h1,h2,h3⟩:=DerK.IW h hl;exact⟨⟨g,cap,rfl,h1,h2,h3⟩,hb⟩
theorem IX (w:World) (t:TypeId) (cs:Array Value) (l:L) (h:cs.toList=bvs l) (n:Nat) (hn:n=l.length):BS w l (.returned (.slice (some ⟨w.heap.size,0,none⟩) n n)) (w.alloc (.cells cs t)):=by
 subst hn;refine⟨⟨_,_,rfl,Nat.le_refl _,Nat.le_refl _,?_⟩,Ah.alloc Ag _⟩;have:=DerW.Ib w t cs l h _ rfl
 simpa using this
theorem NW (n:Nat) (h:n<=65535) (w:World):Calls Tryz.prog 131 #[.int .i64 (n:Int)] w (BS w (szL n)):=by
 by_cases h1:n<128
 ·have g1:decide ((n:Int)<128)=true:=by simp;omega
  have E:=I (show szL n = [UInt8.ofNat n] by simp [szL,h1]);have hb:=I (DerW.GI n (by omega));have hn:(n:Int)<=127:=by omega
  clear h h1;go_enter Tryz.func131,Tryz.ntmps131
  go_wp2
  go_ret;rw[E.o];exact IX w 5 _ _ (by simp [bvs,hb.o]) _ rfl
 ·have g1:decide ((n:Int)<128)=false:=by simp;omega
  by_cases h2:n<=255
  ·have g2:decide ((n:Int)<256)=true:=by simp;omega
   have E:=I (show szL n = [129,UInt8.ofNat n] by simp [szL,h1,h2]);have hb:=I (DerW.GI n (by omega));have hn:(n:Int)<=255:=by omega
   clear h h1 h2;go_enter Tryz.func131,Tryz.ntmps131
   go_wp2
   go_ret;rw[E.o];exact IX w 5 _ _ (by simp [bvs,hb.o];rfl) _ rfl
  ·have g2:decide ((n:Int)<256)=false:=by simp;omega
   have E:=I (show szL n = [130,UInt8.ofNat (n / 256),UInt8.ofNat n] by simp [szL,h1,h2]);have hb:=I (show bvs [130,UInt8.ofNat (n / 256),UInt8.ofNat n] = [.int .u8 130,.int .u8 ((n:Int) / 256),.int .u8 ((n:Int) % 256)] by simp [bvs,bv];omega);have hn:(n:Int)<=65535:=by omega
   clear h h1 h2;go_enter Tryz.func131,Tryz.ntmps131
   go_wp2
   go_ret;rw[E.o];exact IX w 5 _ _ (by rw[hb.o]) _ rfl
theorem Yz (n:Nat):(szL n).length<=3:=by rw[BZ];split<;>(try split)<;>omega
theorem Ei (t : UInt8) (p : L) (A : Option Addr) (n c B : Nat) (w : World) (hr : Rd w B A (bvs p)) (hn : n = p.length) (hB : B <= w.heap.size) (hp : p.length <= 65535) :
    Calls Tryz.prog 85 #[.int .u8 t.toNat,.slice A n c] w (BS w (elem t p)):=by
  obtain⟨i0,hi0,hz0,hs0,hb0⟩:=info_parts DerW.BP;have hsz:∀W:World,Calls Tryz.prog 131 #[.int .i64 (n:Int)] W (BS W (szL n)):=fun W=>NW n (by omega) W
  have HS:=I hsz;have HR:=I hr;have HN:=I hn;have HP:=I hp;have h3:=I (Yz n);have hml:=I DerW.ml;have hown0:Hid ((w.alloc (.cells #[.int .u8 (t.toNat:Int)] 5)).ownsRow w.heap.size 5 1 (.slice (some ⟨w.heap.size,0,none⟩) 1 1) 1 (bvs [t])):=World.ownsRow_lit w #[.int .u8 (t.toNat:Int)] 1 Ag (DerW.ml 1 (by omega)) rfl;clear hsz hr hn hp;go_enter Tryz.func85,Tryz.ntmps85
  go_wp2_with (first
    | (go_at_call 131; refine (HS.o _).mono ?_; rintro e w1 ⟨⟨g1, c1, rfl, hg1, hc1, hrd1⟩, hb1⟩
       have hB1:Below w.heap.size w w1:=((Below.refl w.heap.size w).alloc Ag _).trans (hb1.mono (by simp));have HO1:=I (FI hown0.o hb1);have HQ1:=I hrd1;clear hrd1)
    | (at_builtin
       refine Az _ rfl (.tmp 6) (.tmp 9) 26 rfl w.heap.size 5 i0 _ 1 Tryz.underlying26 hi0 hz0 hs0 hb0 rfl (.slice (some ⟨w.heap.size,0,none⟩) 1 1) 1 (bvs [t]) rfl HO1.o w1.heap.size _ (szL n).length c1 (bvs (szL n)) rfl (Ao _).symm HQ1.o (Bl _) (hml.o _ (by have:=h3.o;omega)) (by have:=h3.o;omega) hB1.size ?_;intro v2 w2 hown2 hg2 hat2;have hB2:=hB1.grown hg2 hB1.size (fun k hk=>(HO1.o.lt k hk).1);have HO2:=I hown2;clear hown2 hat2)
    | (at_builtin
       refine Az _ rfl (.tmp 10) (.tmp 11) 26 rfl w.heap.size 5 i0 _ 1 Tryz.underlying26 hi0 hz0 hs0 hb0 rfl v2 (1+(szL n).length) (bvs [t]++bvs (szL n)) rfl HO2.o B A n c (bvs p) rfl (by rw[Ao];exact HN.o) (HR.o.below (hB2.mono hB)) (Bl _) (hml.o _ (by have:=h3.o;have:=HN.o;have:=HP.o;omega)) (by have:=h3.o;have:=HN.o;have:=HP.o;omega) hB2.size ?_;intro v3 w3 hown3 hg3 hat3;have hB3:=hB2.grown hg3 hB2.size (fun k hk=>(HO2.o.lt k hk).1);have HO3:=I hown3;clear hown3 hat3))
  go_ret;have hown:=HO3.o;rw[HN.o,<-Bt,<-Bt,show [t]++szL p.length++p=elem t p from rfl] at hown;exact Fk hown (by rw[Eg];omega) hB3
theorem DW (p:L) (A:Option Addr) (n c B:Nat) (w:World) (hr:Rd w B A (bvs p)) (hn:n=p.length) (hB:B<=w.heap.size) (hp:p.length<=65535) :
  Calls Tryz.prog 57 #[.slice A n c] w (BS w (elem 4 p)):=by
 have H:=I (Ei 4 p A n c B w hr hn hB hp);clear hr hn hB hp;go_enter Tryz.func57,Tryz.ntmps57
 go_wp2_with (go_at_call 85;refine(Calls.mono H.o ?_);rintro e w1 ⟨⟨g1,c1,rfl,hg1,hc1,hrd1⟩,hb1⟩)
 go_ret;exact⟨⟨g1,c1,rfl,hg1,hc1,hrd1⟩,hb1⟩
theorem Eh (l:L) (w:World) (hl:l.length<=65535) :
  Calls Tryz.prog 58 #[.string ⟨l.toArray⟩] w (BS w (elem 27 l)):=by
 have hcv:=fun(W:World)=>Lib.run_convert_string_bytes (P:=Tryz.prog) W 9 26 5 ⟨l.toArray⟩ Tryz.underlying9 Tryz.underlying26 Tryz.underlying5
 have he:∀(c:Nat),Calls Tryz.prog 85 #[.int .u8 27,.slice (some ⟨w.heap.size,0,none⟩) l.length c] (Lib.bytesWorld w 5 ⟨l.toArray⟩) (BS (Lib.bytesWorld w 5 ⟨l.toArray⟩) (elem 27 l)):=
  fun c=>Ei 27 l _ _ c _ _ (Gi w 5 l).rd rfl Ag hl
 have HE:=I he;have HB:=I (Ee w 5 ⟨l.toArray⟩);clear he hl;go_enter Tryz.func58,Tryz.ntmps58
 go_wp2_with (go_at_call 85;refine(Calls.mono (HE.o _) ?_);rintro e w1 ⟨⟨g1,c1,rfl,hg1,hc1,hrd1⟩,hb1⟩)
 go_ret;exact⟨⟨g1,c1,rfl,Nat.le_trans HB.o.size hg1,hc1,hrd1⟩,bt HB.o hb1⟩
theorem Lq (j m:Nat):digK (j+1) m=UInt8.ofNat (m / 256 ^ j) :: digK j m:=by
 induction j generalizing m with
 |zero=>simp [digK]
 |succ j ih=>
  rw[digK,ih (m / 256)];rw[Nat.div_div_eq_div_mul,Nat.mul_comm,<-Nat.pow_succ]
  rfl
theorem QS (m j:Nat) (hm:m<=4611686018427387904) (hj:1<=j) (h1:j=1\/256 ^ (j - 1)<=m) (h2:m / 256 ^ (j - 1)<128):dig m=digK j m:=by
 have hp:0<256 ^ (j - 1):=Nat.pow_pos (by omega);have hup:m<128*256 ^ (j - 1):=by rw[Nat.div_lt_iff_lt_mul hp] at h2;exact h2
 have hj8:j<=8:=by
  rcases Nat.lt_or_ge 8 j with g | g
  ·exfalso
   rcases h1 with h | h
   ·omega
   ·have:256 ^ 8<=256 ^ (j - 1):=Nat.pow_le_pow_right (by omega) (by omega)
    have e:(256:Nat) ^ 8=18446744073709551616:=by decide
    omega
  ·exact g
 have hup':m<2 ^ (8*(j - 1)+7):=by
  rw[Nat.pow_add,<-Ge,Nat.mul_comm];simpa using hup
 have hb:=CZ m _ (by omega) hup';have hk:Lib.bitLen m / 8+1=j:=by
  rcases h1 with h | h
  ·omega
  ·have h3:2 ^ (8*(j - 1))<=m:=by rw[<-Ge];exact h
   have:=Fb m (by omega) _ h3;omega
 rw[dig,hk]
theorem Pl (m j:Nat) (hm:m<=4611686018427387904) (hj:1<=j) (h0:m / 256 ^ j=0) (h2:128<=m / 256 ^ (j - 1)):dig m=0 :: digK j m:=by
 have hp:0<256 ^ (j - 1):=Nat.pow_pos (by omega);have hlo:128*256 ^ (j - 1)<=m:=by rw[Nat.le_div_iff_mul_le hp] at h2;exact h2
 have hpj:0<256 ^ j:=Nat.pow_pos (by omega);have hup:m<256 ^ j:=by
  rcases Nat.lt_or_ge m (256 ^ j) with g | g
  ·exact g
  ·have:=Nat.div_pos g hpj;omega
 have hlo':2 ^ (8*(j - 1)+7)<=m:=by
  rw[Nat.pow_add,<-Ge,Nat.mul_comm];simpa using hlo
 have h3:=Fb m (by omega) _ hlo';have h62:=GF m hm;have h4:=CZ m (8*j) (by omega) (by rw[<-Ge];exact hup);have hk:Lib.bitLen m / 8+1=j+1:=by omega
 rw[dig,hk,Lq,h0]
 rfl
theorem Gk (m j:Nat) (hj:1<=j) (h0:m / 256 ^ j=0):m / 256 ^ (j - 1)<256:=by
 have hp:0<256 ^ (j - 1):=Nat.pow_pos (by omega);have hpj:0<256 ^ j:=Nat.pow_pos (by omega);rw[Nat.div_lt_iff_lt_mul hp,Nat.mul_comm,<-Nat.pow_succ,show(j - 1).succ=j by omega];rcases Nat.lt_or_ge m (256 ^ j) with g | g
 ·exact g
 ·have:=Nat.div_pos g hpj;omega
theorem Pm {w:World} {g j m:Nat} (hj:1<=j) (h0:m / 256 ^ j=0) (h:Rd w w.heap.size (some ⟨g,0,none⟩) (bvs (digK j m))):w.cell? ⟨g,0,none⟩=some (.int .u8 ((m / 256 ^ (j - 1):Nat):Int)):=by
 have ha:=QD j m 0 (by omega);obtain⟨b,o,e,_,hc⟩:=h.at_ (i:=0) (u:=bv (UInt8.ofNat (m / 256 ^ (j - 1)))) (by simp only[bvs,List.getElem?_map,ha];rfl);injection e with e;injection e with e1 e2;subst e1 e2;have hf:=Gk m j hj h0;rw[show(0+0:Nat)=0 from rfl] at hc;rw[hc,DerW.GI _ hf]
def Left (m:Nat) (W:World) (n p:Value) (w:World):Prop:=
 ∃j g cap,1<=j/\(j=1\/256 ^ (j - 1)<=m)/\j<=9/\n=.int .i64 ((m / 256 ^ j:Nat):Int)/\p=.slice (some ⟨g,0,none⟩) j cap/\Rd w w.heap.size (some ⟨g,0,none⟩) (bvs (digK j m))/\Below W.heap.size W w
theorem CR (n : Int) (w : World) :
    Calls Tryz.prog 59 #[.int .i64 n] w (BS w (encI n)):=by
  obtain⟨i0,hi0,hz0,hs0,hb0⟩:=info_parts DerW.BP;have hcl:=JR n;have hm:=EW n;have E:Hid (encI n=elem 2 (dig (BV n))):=rfl;generalize BV n=m at *;have HM:=I hm;have hm':(m:Int)<=4611686018427387904:=by omega
  have hml:=I DerW.ml;have hlast:=I (show [Value.int .u8 ((m:Int) % 256)]=bvs (digK 1 m) by simp [bvs,bv,digK]);have hcl':=hcl.symm;clear hcl hm;go_enter Tryz.func59,Tryz.ntmps59
  go_wp2
  go_loopw [0,3] (fun nv p wr=>Left m w nv p wr) (fun nv _ _=>(intOf nv).toNat)
  case atStart=>
    refine⟨1,w.heap.size,1,Nat.le_refl _,.inl rfl,by omega,by simp,rfl,?_,Ah.alloc Ag _⟩;have:=DerW.Ib w 5 #[Value.int .u8 ((m:Int) % 256)] (digK 1 m) hlast.o _ rfl
    simpa using this
  case round=>
    obtain⟨j,g,cap,hj1,hjm,hj9,rfl,rfl,hrd,hbel⟩:=hrel
    by_cases h0:m / 256 ^ j=0
    · have hcell := Pm hj1 h0 hrd
      have hf:=Gk m j hj1 h0;have HRD:=I hrd;have HJ:=I hj1;have HJM:=I hjm;have H0:=I h0;rw[h0];have HN:=I (Gk m j hj1 h0)
      by_cases h128:m / 256 ^ (j - 1)<128
      · have G := I (QS m j HM.o hj1 hjm h128)
        have he:∀W:World,Rd W W.heap.size (some ⟨g,0,none⟩) (bvs (digK j m))->Calls Tryz.prog 85 #[.int .u8 2,.slice (some ⟨g,0,none⟩) j cap] W (BS W (elem 2 (digK j m))):=
          fun W hW=>Ei 2 (digK j m) _ j cap _ W hW (Ba j m).symm Ag (by rw[Ba];omega)
        have HEL:=I he;have g5:decide ((128:Int)<=((m / 256 ^ (j - 1):Nat):Int))=false:=by simp only[decide_eq_false_iff_not];omega
        clear he hrd hf h128 hj1 hjm h0;generalize m / 256 ^ (j - 1)=a at *;have hj9':(j:Int)<=9:=by omega
        have hj1':0<j:=HJ.o
        go_wp2_with (go_at_call 85;refine(Calls.mono (HEL.o _ HRD.o) ?_);rintro e w1 ⟨⟨g1,c1,rfl,hg1,hc1,hrd1⟩,hb1⟩)
        go_ret;rw[E.o,G.o];exact⟨⟨g1,c1,rfl,Nat.le_trans hbel.size hg1,hc1,hrd1⟩,bt hbel hb1⟩
      · have G := I (Pl m j HM.o hj1 h0 (by omega))
        have he:∀(W:World) (g' c':Nat),Rd W W.heap.size (some ⟨g',0,none⟩) (bvs (0 :: digK j m))->Calls Tryz.prog 85 #[.int .u8 2,.slice (some ⟨g',0,none⟩) (0 :: digK j m).length c'] W (BS W (elem 2 (0 :: digK j m))):=
          fun W g' c' hW=>Ei 2 (0 :: digK j m) _ _ c' _ W hW rfl Ag (by simp only[List.length_cons,Ba];omega)
        have HEL:=I he;have g5:decide ((128:Int)<=((m / 256 ^ (j - 1):Nat):Int))=true:=by simp only[decide_eq_true_eq];omega
        have hown0:Hid ((wr.alloc (.cells #[.int .u8 0] 5)).ownsRow wr.heap.size 5 1 (.slice (some ⟨wr.heap.size,0,none⟩) 1 1) 1 (bvs [0])):=World.ownsRow_lit wr #[.int .u8 0] 1 Ag (DerW.ml 1 (by omega)) rfl;clear he hrd hf h128 hj1 hjm h0;generalize m / 256 ^ (j - 1)=a at *;have hj9':(j:Int)<=9:=by omega
        have hj1':0<j:=HJ.o
        go_wp2_with (first
          | (at_builtin
             refine Az _ rfl (.tmp 25) (.tmp 26) 26 rfl wr.heap.size 5 i0 _ 1 Tryz.underlying26 hi0 hz0 hs0 hb0 rfl (.slice (some ⟨wr.heap.size,0,none⟩) 1 1) 1 (bvs [0]) rfl hown0.o wr.heap.size (some ⟨g,0,none⟩) j cap (bvs (digK j m)) rfl (by rw[Ao,Ba]) (HRD.o.alloc Ag _) (Bl _) (hml.o _ (by omega)) (by omega) (by simp) ?_;intro v2 w2 hown2 hg2 hat2;rw[<-Bt,List.singleton_append] at hown2;obtain⟨g3,cap3,rfl,hg3,hcap3,hrd3⟩:=DerK.IW hown2 (by simp);have hbe2:Below wr.heap.size wr w2:=((Below.refl wr.heap.size wr).alloc Ag _).grown hg2 (by simp) (fun k hk=>by simp [Value.ownBlock] at hk;omega);clear hown2 hat2)
          |(go_at_call 85;refine(Calls.mono (HEL.o _ _ _ hrd3) ?_);rintro e w1 ⟨⟨g1,c1,rfl,hg1,hc1,hrd1⟩,hb1⟩))
        go_ret;rw[E.o,G.o];exact⟨⟨g1,c1,rfl,Nat.le_trans (Nat.le_trans hbel.size hbe2.size) hg1,hc1,hrd1⟩,bt (bt hbel hbe2) hb1⟩
    · have hle : 256 ^ j <= m := by
        have hpj:0<256 ^ j:=Nat.pow_pos (by omega);rcases Nat.lt_or_ge m (256 ^ j) with g' | g'
        · exact absurd (Nat.div_eq_of_lt g') h0
        · exact g'
      have hj8:j<8:=by
        rcases Nat.lt_or_ge j 8 with g' | g'
        · exact g'
        · exfalso
          have:256 ^ 8<=256 ^ j:=Nat.pow_le_pow_right (by omega) g';have e:(256:Nat) ^ 8=18446744073709551616:=by decide
          have:=HM.o;omega
      have hnext:=I (show m / 256 ^ j / 256=m / 256 ^ (j+1) by rw[Nat.div_div_eq_div_mul,<-Nat.pow_succ]);have hcons:=I (Lq j m);have hy:m / 256 ^ j<=m:=Nat.div_le_self _ _;have HRD:=I hrd;have HLE:=I hle;clear hrd hle hjm;generalize m / 256 ^ j=y at *;have g6:decide ((0:Int)<(y:Int))=true:=by simp;omega
      have hy':(y:Int)<=4611686018427387904:=by omega
      have hown0:Hid ((wr.alloc (.cells #[.int .u8 ((y:Int) % 256)] 5)).ownsRow wr.heap.size 5 1 (.slice (some ⟨wr.heap.size,0,none⟩) 1 1) 1 (bvs [UInt8.ofNat y])):=by
        have:=World.ownsRow_lit (base:=wr.heap.size) (e:=5) (size:=1) wr #[.int .u8 ((y:Int) % 256)] 1 Ag (DerW.ml 1 (by omega)) rfl;rw[show(#[Value.int .u8 ((y:Int) % 256)]:Array Value).toList=bvs [UInt8.ofNat y] by simp [bvs,bv]] at this;exact this
      have HY:=I (show 0<y by omega);clear h0 hy
      go_wp2_with (at_builtin
                   refine Az _ rfl (.tmp 18) (.tmp 19) 26 rfl wr.heap.size 5 i0 _ 1 Tryz.underlying26 hi0 hz0 hs0 hb0 rfl (.slice (some ⟨wr.heap.size,0,none⟩) 1 1) 1 (bvs [UInt8.ofNat y]) rfl hown0.o wr.heap.size (some ⟨g,0,none⟩) j cap (bvs (digK j m)) rfl (by rw[Ao,Ba]) (HRD.o.alloc Ag _) (Bl _) (hml.o _ (by omega)) (by omega) (by simp) ?_;intro v2 w2 hown2 hg2 hat2;rw[<-Bt,List.singleton_append,<-hcons.o] at hown2;obtain⟨g3,cap3,rfl,hg3,hcap3,hrd3⟩:=DerK.IW hown2 (by rw[Ba];omega);rw[Ba];have hbe2:Below wr.heap.size wr w2:=((Below.refl wr.heap.size wr).alloc Ag _).grown hg2 (by simp) (fun k hk=>by simp [Value.ownBlock] at hk;omega);clear hown2 hat2)
      refine⟨⟨j+1,g3,cap3,by omega,.inr (by simpa using HLE.o),by omega,?_,rfl,hrd3,bt hbel hbe2⟩,?_⟩
      · rw [<- hnext.o]; rfl
      · have := HY.o; simp [intOf]; omega
theorem WJ {w:World} {base n:Nat} {t:TypeId} {v:Value} {l:L} (h:w.ownsRow base t 1 v n (bvs l)) :
  ∃A cap,v=.slice A l.length cap/\Rd w w.heap.size A (bvs l):=by
 have hn:n=l.length:=by have:=h.1;rw[Ao] at this;omega
 subst hn;rcases h.2 with⟨h1,h2⟩ | ⟨g,cap,cur,rfl,hg,_,hc,_⟩
 ·subst h1
  have:l = []:=List.eq_nil_of_length_eq_zero h2;subst this;exact⟨none,0,rfl,.inl rfl⟩
 ·exact⟨_,cap,rfl,Rd.of_own h⟩
def Fl (ls:List L) (k:Nat):L:=(ls.take k).flatten
theorem MN (ls:List L) (k:Nat) (l:L) (h:ls[k]? = some l):Fl ls (k+1)=Fl ls k++l:=DerW.IU ls k l h
theorem QT (ls:List L) (k:Nat):(Fl ls k).length<=ls.flatten.length:=DerW.IV ls k
theorem Pn (ls:List L):Fl ls ls.length=ls.flatten:=by rw[Fl,List.take_of_length_le Ag]
theorem DB (t : UInt8) (ls : List L) (A : Option Addr) (m c B : Nat) (w : World) (hr : DerW.Rds w B A ls) (hm : m = ls.length) (hB : B <= w.heap.size) (hl : ls.flatten.length <= 65535) (hc : ls.length <= 1000000) :
    Calls Tryz.prog 55 #[.int .u8 t.toNat,.slice A m c] w (BS w (elem t ls.flatten)):=by
  obtain⟨i0,hi0,hz0,hs0,hb0⟩:=info_parts DerW.BP;have HR:=I hr;have hfl:=I (fun k=>Nat.le_trans (QT ls k) hl);have hfa:=I (Pn ls);have hml:=I DerW.ml;have hc':(m:Int)<=1000000:=by omega
  have HM:=I hm;have HL:=I hl;have h00:=I (World.ownsRow_nil w w.heap.size 5 1);clear hr hm hc hl;go_enter Tryz.func55,Tryz.ntmps55
  go_wp2
  go_loopw [5,6] (fun v i wr=>∃k:Nat,k<=m/\i=.int .i64 (k:Int)/\wr.ownsRow w.heap.size 5 1 v (Fl ls k).length (bvs (Fl ls k))/\Below w.heap.size w wr) (fun _ i _=>m - (intOf i).toNat)
  case atStart=>exact⟨0,by omega,rfl,h00.o,Below.refl _ _⟩
  case round=>
    obtain⟨k,hk,rfl,hown,hbel⟩:=hrel
    by_cases hlt:k<m
    · obtain ⟨l, hx⟩ : ∃ l, ls[k]? = some l := ⟨_, List.getElem?_eq_getElem (by have := HM.o; omega)⟩
      obtain⟨b,o,rfl,hb,A',c',hcell,hrd⟩:=(HR.o.below (hbel.mono hB)).at_ hx;have hs:=MN ls k l hx;have hf2:=hfl.o (k+1);have hs1:=congrArg List.length hs;rw[List.length_append] at hs1;have HS:=I hs;have hsum:(Fl ls k).length+l.length<=65535:=by omega
      have HO:=I hown;have HQ:=I hrd;clear hs hs1 hx hf2 hown hrd
      go_wp2_with (at_builtin
                   refine Az _ rfl (.tmp 13) (.tmp 17) 26 rfl w.heap.size 5 i0 _ 1 Tryz.underlying26 hi0 hz0 hs0 hb0 rfl _ (Fl ls k).length (bvs (Fl ls k)) rfl HO.o B A' l.length c' (bvs l) rfl (Ao l).symm HQ.o (Bl _) (hml.o _ (by omega)) (by omega) hbel.size ?_;intro v2 w2 hown2 hg2 hat2)
      refine⟨⟨k+1,by omega,by go_num,?_,hbel.grown hg2 hbel.size (fun i hi=>(HO.o.lt i hi).1)⟩,by simp [intOf];omega⟩;rw[HS.o,Bt,List.length_append];exact hown2
    · obtain rfl : k = m := by omega
      have e:Fl ls k=ls.flatten:=by rw[HM.o];exact hfa.o
      rw[e] at hown;obtain⟨A2,cap2,rfl,hrd2⟩:=WJ hown;have HQ:=I hrd2;have HE:=I (Ei t ls.flatten A2 ls.flatten.length cap2 _ wr hrd2 rfl Ag HL.o);clear hk hlt e hown hrd2;generalize ls.flatten.length=q at *
      go_wp2_with (go_at_call 85;refine(Calls.mono HE.o ?_);rintro e w1 ⟨⟨g1,c1,rfl,hg1,hc1,hrd1⟩,hb1⟩)
      go_ret;exact⟨⟨g1,c1,rfl,Nat.le_trans hbel.size hg1,hc1,hrd1⟩,bt hbel hb1⟩
def cutA (A:Option Addr) (c k:Nat):Option Addr:=if c=k then A else A.map (·.add k)
theorem Fm {P:Program} {t e:TypeId} (ht:P.underlying t=some (.slice e)) (hz:∀w:World,(sizeOf e).run P w=.ok 1 w) (A:Option Addr) (n c k:Nat) (K:Int) (hK:K=(k:Int)) (hk:k<=n) (w:World) :
  (Instr.slice t (.slice A n c) (some (.int .i64 K)) none none).run P w=.ok (.slice (cutA A c k) (n - k) (c - k)) w:=by
 subst hK;simp [Instr.slice,run_underlying ht,Instr.sliceBounds,run_sliceBound,hz,cutA,Result.andThen,(by omega:(k:Int)<=(n:Int))]
theorem Gl {P:Program} {t e:TypeId} (ht:P.underlying t=some (.slice e)) (hz:∀w:World,(sizeOf e).run P w=.ok 1 w) (A:Option Addr) (n c k m:Nat) (K M:Int) (hK:K=(k:Int)) (hM:M=(k:Int)+(m:Int)) (hm:k+m<=c) (w:World) :
  (Instr.slice t (.slice A n c) (some (.int .i64 K)) (some (.int .i64 M)) none).run P w=.ok (.slice (cutA A c k) m (c - k)) w:=by
 subst hK hM;have he:P.elem t=e:=by simp [Program.elem,ht]
 have ht':P.underlying t=some (.slice (P.elem t)):=by rw[he];exact ht
 rw[run_slice_lh w t A n c ht' .i64 .i64 (k:Int) ((k:Int)+(m:Int)) (by omega) (by omega) (by omega),he,hz];simp only[Result.andThen,sliced,Nat.mul_one,cutA,Int.toNat_natCast];have e2:((k:Int)+(m:Int)).toNat - k=m:=by omega
 rw[e2]
theorem VF {w:World} {B:Nat} {A:Option Addr} {l:L} {c:Nat} (h:Rd w B A (bvs l)) (k:Nat) (hl:l.length<=c):Rd w B (cutA A c k) (bvs (l.drop k)):=by
 unfold cutA
 by_cases hc:c=k
 ·rw[if_pos hc,List.drop_of_length_le (by omega)]
  exact .inl rfl
 ·rw[if_neg hc]
  rcases h with h | ⟨b,o,h1,h2,h3⟩
  ·have:l = []:=List.map_eq_nil_iff.1 h
   subst this;exact .inl (by simp [bvs])
  ·subst h1
   refine .inr ⟨b,o+k,by simp [addr_add],h2,fun i u hu=>?_⟩;rw[Nat.add_assoc];refine h3 (k+i) u ?_;rw[<-hu];simp [bvs,List.getElem?_map,List.getElem?_drop]
theorem IZ {w:World} {B:Nat} {A:Option Addr} {l:L} (h:Rd w B A (bvs l)) (m:Nat):Rd w B A (bvs (l.take m)):=by
 rcases h with h | ⟨b,o,h1,h2,h3⟩
 ·have:l = []:=List.map_eq_nil_iff.1 h
  subst this;exact .inl (by simp [bvs])
 ·refine .inr ⟨b,o,h1,h2,fun i u hu=>h3 i u ?_⟩
  by_cases hi:i<m
  ·rw[<-hu];simp only[bvs,List.getElem?_map,List.getElem?_take,if_pos hi]
  ·rw[List.getElem?_eq_none (by rw[Ao,List.length_take];omega)] at hu;cases hu
def RS (w:World) (B:Nat) (A:Option Addr) (n cap:Nat) (e:Bool):Option L->Prop
 |none=>e=true
 |some l=>e=false/\n=l.length/\n<=cap/\Rd w B A (bvs l)
def RC (w:World) (B g:Nat) (c:Option L):Prop:=∃A n cap e,Blk w g 112 #[.slice A n cap,.bool e]/\RS w B A n cap e c
theorem RC.keep {w w':World} {B g:Nat} {c:Option L} (h:RC w B g c) {row:Option Nat} (hg:w.grownBy w' row) (hne:row≠some g) (hB:B<=w.heap.size) (hr:∀k,row=some k->B<=k):RC w' B g c:=by
 obtain⟨A,n,cap,e,h1,h2⟩:=h;refine⟨A,n,cap,e,h1.grown hg hne,?_⟩;cases c with
 |none=>exact h2
 |some l=>exact⟨h2.1,h2.2.1,h2.2.2.1,h2.2.2.2.grown hg hB hr⟩
def Took (w:World) (B g:Nat) (t:UInt8) (c:Option L) (e:Ending) (w':World):Prop:=
 (∃A' cap',e=.returned (.slice A' ((AJ t c).getD []).length cap')/\((AJ t c).getD []).length<=cap'/\Rd w' B A' (bvs ((AJ t c).getD [])))/\RC w' B g (AQ t c)/\w.grownBy w' (some g)
theorem Cb {w:World} {B g:Nat} {t:UInt8} {c:Option L} {A:Option Addr} {n cap:Nat} {e:Bool} (hb:Blk w g 112 #[.slice A n cap,.bool e]) (h:AJ t c=none) {w0:World} (hg:w0.grownBy w (some g)) :
  Took w0 B g t c (.returned (.slice none 0 0)) (w.setCell ⟨g,1,none⟩ (.bool true)):=by
 have hn:=GH t c h;unfold Took;rw[h,hn];exact⟨⟨none,0,rfl,Nat.le_refl _,.inl rfl⟩,⟨A,n,cap,true,hb.set 1 (.bool true),rfl⟩,AE hg (.inl rfl) _⟩
theorem Po (t:UInt8) (B g:Nat) (w:World) (h:RC w B g none) :
  Calls Tryz.prog 82 #[.pointer (some ⟨g,0,none⟩),.int .u8 t.toNat] w (Took w B g t none):=by
 obtain⟨A,n,cap,e,hb,he⟩:=h;obtain rfl:e=true:=he;have h0:w.cell? ⟨g,0,none⟩=some (.slice A n cap):=hb.cell 0;have h1:w.cell? ⟨g,1,none⟩=some (.bool true):=hb.cell 1;have f1:=hb.frozen 1;have HB:=I hb;clear hb;go_enter Tryz.func82,Tryz.ntmps82
 go_wp2
 go_ret;exact Cb HB.o rfl (World.grownBy.refl _ _)
theorem Ja (t:UInt8) (B g:Nat) (A:Option Addr) (cap:Nat) (l:L) (w:World) (hb:Blk w g 112 #[.slice A l.length cap,.bool false]) (hl:l.length<2) :
  Calls Tryz.prog 82 #[.pointer (some ⟨g,0,none⟩),.int .u8 t.toNat] w (Took w B g t (some l)):=by
 have h0:w.cell? ⟨g,0,none⟩=some (.slice A l.length cap):=hb.cell 0;have h1:w.cell? ⟨g,1,none⟩=some (.bool false):=hb.cell 1;have f1:=hb.frozen 1;have HB:=I hb;have g1:decide ((l.length:Int)<2)=true:=by simp only[decide_eq_true_eq];omega
 have E:=I (show AJ t (some l)=none by
  refine(Bj ?_).1;rcases l with _ | ⟨a,_ | ⟨b,r⟩⟩
  ·rfl
  ·simp [Be,lenR]
  ·simp at hl;omega)
 clear hb hl;go_enter Tryz.func82,Tryz.ntmps82
 go_wp2
 go_ret;exact Cb HB.o E.o (World.grownBy.refl _ _)
end DerR
end Go.Proofs.YtlchkbpffaclmaaGreat
