import Derived.Test.YtfcjeebnkigeaaaGreatZKdcFirst1
set_option maxHeartbeats 25600000
set_option maxRecDepth 100000
set_option linter.unusedVariables false
set_option linter.unusedSimpArgs false
namespace Go.Proofs.YtfcjeebnkigeaaaGreat
section
namespace Nm
open Go.RowKit Af
attribute [local go_sem] Eg List.getElem_cons_zero List.getElem_cons_succ Cg Ch De
theorem SZ {n:L} (h:n.length<8):tgL n=false:=by
 cases q:preL krb n with
 |false=>rw[tgL,q];rfl
 |true=>
  have h1:n.drop 7 = []:=List.drop_of_length_le (by omega);have h2:cpL krb n = []:=by rw[cpL,q,if_pos rfl];exact h1
  rw[tgL,h2,show isL []=false from by decide,Bool.and_false]
theorem tg_eq (n:L):tgL n=((n.take 7==krb)&&isL (n.drop 7)):=by
 have e:=MV krb n;rw[show krb.length=7 from rfl] at e;rw[tgL,e];cases q:preL krb n with
 |false=>rfl
 |true=>rw[cpL,q];rfl
theorem LH (n:L) (w:World) (hs:n.length≤1000000000):Calls Tryz.prog 82 #[.string ⟨n.toArray⟩] w fun e w'=>e = .returned (.tuple #[.string ⟨(tgR n).toArray⟩,.bool (tgL n)])∧Below w.heap.size w w':=by
 have c2:=LG (n.drop 7) w (by simp;omega);have HB0:=I (Below.refl w.heap.size w)
 by_cases h8:n.length<8
 ·have E1:=I (SZ h8)
  have E2:=I (show tgR n = [] by rw[tgR,E1.o];rfl);have t1:decide ((n.length:Int)<8)=true:=by simp;omega
  clear h8 hs;go_enter Tryz.func82,Tryz.ntmps82
  go_wp2_with fail
  go_ret2
  exact⟨by rw[E1.o,E2.o];rfl,HB0.o⟩
 ·have t1:decide ((n.length:Int)<8)=false:=by simp;omega
  have e7:(7:Int)≤(n.length:Int):=by omega
  have eq:=tg_eq n;clear h8;cases h1:(n.take 7==krb) with
  |false=>
   rw[h1] at eq;have t2:(n.take 7 == [107,114,98,116,103,116,47])=false:=h1;have E1:=I (show tgL n=false from eq);have E2:=I (show tgR n = [] by rw[tgR,E1.o];rfl);clear eq h1 hs;go_enter Tryz.func82,Tryz.ntmps82
   go_wp2_with fail
   go_ret2
   exact⟨by rw[E1.o,E2.o];rfl,HB0.o⟩
  |true=>
   rw[h1,Bool.true_and] at eq;have t2:(n.take 7 == [107,114,98,116,103,116,47])=true:=h1;clear h1 hs;cases h2:isL (n.drop 7) with
   |false=>
    rw[h2] at c2 eq;have E1:=I eq;have E2:=I (show tgR n = [] by rw[tgR,E1.o];rfl);clear eq h2;go_enter Tryz.func82,Tryz.ntmps82
    go_wp2_with (go_at_call 81;refine Calls.mono c2 ?_;rintro e w2 ⟨rfl,hd⟩;clear c2;have H2:=I hd;clear hd)
    go_ret2
    exact⟨by rw[E1.o,E2.o];rfl,H2.o⟩
   |true=>
    rw[h2] at c2 eq;have E1:=I eq;have E2:=I (show tgR n=n.drop 7 by rw[tgR,E1.o];rfl);clear eq h2;go_enter Tryz.func82,Tryz.ntmps82
    go_wp2_with (go_at_call 81;refine Calls.mono c2 ?_;rintro e w2 ⟨rfl,hd⟩;clear c2;have H2:=I hd;clear hd)
    go_ret2
    exact⟨by rw[E1.o,E2.o];rfl,H2.o⟩
theorem Ta {p:UInt8→Bool} {l:L} (h:∀i (h:i<l.length),p l[i]=true):BQ p l=(decide (1≤l.length)&&decide (l.length≤8)):=by
 have ha:l.all p=true:=by
  rw[List.all_eq_true];intro x hx;obtain⟨i,hi,rfl⟩:=List.getElem_of_mem hx;exact h i hi
 rw[BQ,ha,Bool.and_true]
theorem Hb (r n:L) (w:World) (hs:r.length≤1000000000) (hs2:n.length≤1000000000):Calls Tryz.prog 33 #[.agg #[.string ⟨r.toArray⟩,.string ⟨n.toArray⟩]] w fun e w'=>e = .returned (.bool (CD r n))∧Below w.heap.size w w':=by
 have c1:=LG r (w.alloc (.cells #[.string ⟨r.toArray⟩,.string ⟨n.toArray⟩] 27)) hs;have hk:=Blk.new w 27 #[.string ⟨r.toArray⟩,.string ⟨n.toArray⟩];have hb0:=(Below.refl w.heap.size w).alloc (Nat.le_refl _) (.cells #[.string ⟨r.toArray⟩,.string ⟨n.toArray⟩] 27);have hsz:w.heap.size<(w.alloc (.cells #[.string ⟨r.toArray⟩,.string ⟨n.toArray⟩] 27)).heap.size:=by simp
 obtain⟨N,eN⟩:∃N,N=w.heap.size:=⟨_,rfl⟩;have C2:=I (fun w1=>LH n w1 hs2);have E1:=I (show CD r n=(isL r&&(tgL n||BQ BS n)) from rfl);rw[←eN] at hk hb0 hsz⊢;have EN:=I eN;clear eN;have HK:=I hk;clear hk;have HB0:=I hb0;clear hb0;have HSZ:=I hsz;clear hsz hs;cases h1:isL r with
 |false=>
  rw[h1] at c1;have E:=I (show CD r n=false by rw[E1.o,h1];rfl);clear h1;go_enter Tryz.func33,Tryz.ntmps33
  go_wp2_with (go_at_call 81;refine Calls.mono c1 ?_;rintro e w1 ⟨rfl,hd⟩;clear c1;have H1:=I (HB0.o.trans (hd.mono (Nat.le_of_lt HSZ.o)));clear hd)
  go_ret;exact⟨by rw[E.o];rfl,H1.o⟩
 |true=>
  rw[h1] at c1;cases h2:tgL n with
  |true=>
   have E:=I (show CD r n=true by rw[E1.o,h1,h2];rfl);have HT:=I h2;clear h1 h2;go_enter Tryz.func33,Tryz.ntmps33
   go_wp2_with (first
    |(go_at_call 81;refine Calls.mono c1 ?_;rintro e w1 ⟨rfl,hd⟩;clear c1;have H1:=I (HB0.o.trans (hd.mono (Nat.le_of_lt HSZ.o)));have hkk:=HK.o.below hd;have HKK:=I hkk;have hk1:=hkk.cell 1;have hs1:N<w1.heap.size:=(by have:=hd.size;have:=HSZ.o;omega);have HS1:=I hs1;rw[EN.o] at hk1;clear hd hs1 hkk;have c2:=C2.o w1;rw[HT.o] at c2)
    |(go_at_call 82;refine Calls.mono c2 ?_;rintro e w2 ⟨rfl,hb⟩;clear c2 hk1;have H2:=I (H1.o.trans (hb.mono (Nat.le_of_lt HS1.o)));have hk2:=(HKK.o.below hb).cell 1;rw[EN.o] at hk2;clear hb))
   go_ret;exact⟨by rw[E.o];rfl,H2.o⟩
  |false=>
   have E:=I (show CD r n=BQ BS n by rw[E1.o,h1,h2];rfl);have HT:=I h2;clear h1 h2;go_enter Tryz.func33,Tryz.ntmps33
   go_wp2_with (first
    |(go_at_call 81;refine Calls.mono c1 ?_;rintro e w1 ⟨rfl,hd⟩;clear c1;have H1:=I (HB0.o.trans (hd.mono (Nat.le_of_lt HSZ.o)));have hkk:=HK.o.below hd;have HKK:=I hkk;have hk1:=hkk.cell 1;have hs1:N<w1.heap.size:=(by have:=hd.size;have:=HSZ.o;omega);have HS1:=I hs1;rw[EN.o] at hk1;clear hd hs1 hkk;have c2:=C2.o w1;rw[HT.o] at c2)
    |(go_at_call 82;refine Calls.mono c2 ?_;rintro e w2 ⟨rfl,hb⟩;clear c2 hk1;have H2:=I (H1.o.trans (hb.mono (Nat.le_of_lt HS1.o)));have hk2:=(HKK.o.below hb).cell 1;rw[EN.o] at hk2;clear hb))
   go_loop [5] (fun iv=>∃k:Nat,k≤n.length∧iv = .int .i64 (k:Int)∧Fit BS n k) (fun iv=>n.length - (intOf iv).toNat)
   case atStart=>exact⟨0,Nat.zero_le _,rfl,fun i _ h=>by omega⟩
   case round=>
    obtain⟨k,hk,rfl,hf⟩:=hrel;have HF:=I hf;clear hf
    by_cases hlt:k<n.length
    ·have e1:(k:Int)<(n.length:Int):=by omega
     have hb:=Br n[k];have hbad:BS n[k]=false→Hid (CD r n=false):=fun h=>I (by rw[E.o];exact FT hlt h)
     have HBAD:=I hbad;clear hbad;have hgood:BS n[k]=true→Hid (Fit BS n (k+1)):=fun h=>I (fun i hi hik=>by
      by_cases q:i=k
      ·subst q;exact h
      ·exact HF.o i hi (by omega))
     have HGOOD:=I hgood;clear hgood
     by_cases q1:n[k].toNat<97
     ·have s1:decide ((n[k].toNat:Int)<97)=true:=by simp;omega
      by_cases q2:n[k].toNat<48
      ·have s2:decide ((n[k].toNat:Int)<48)=true:=by simp;omega
       have E2:=HBAD.o (by simp [BS,CW];omega);clear q1 q2
       go_wp2
       go_ret;exact⟨by rw[E2.o];rfl,H2.o⟩
      ·have s2:decide ((n[k].toNat:Int)<48)=false:=by simp;omega
       by_cases q3:57<n[k].toNat
       ·have s3:decide (57<(n[k].toNat:Int))=true:=by simp;omega
        have E2:=HBAD.o (by simp [BS,CW];omega);clear q1 q2 q3
        go_wp2
        go_ret;exact⟨by rw[E2.o];rfl,H2.o⟩
       ·have s3:decide (57<(n[k].toNat:Int))=false:=by simp;omega
        have E2:=HGOOD.o (by simp [BS,CW];omega);clear q1 q2 q3
        go_wp2
        go_round
        case rel=>exact⟨k+1,by omega,by go_num,E2.o⟩
        case measure=>simp [intOf];omega
     ·have s1:decide ((n[k].toNat:Int)<97)=false:=by simp;omega
      by_cases q2:122<n[k].toNat
      ·have s2:decide (122<(n[k].toNat:Int))=true:=by simp;omega
       have s3:decide ((n[k].toNat:Int)<48)=false:=by simp;omega
       have s4:decide (57<(n[k].toNat:Int))=true:=by simp;omega
       have E2:=HBAD.o (by simp [BS,CW];omega);clear q1 q2
       go_wp2
       go_ret;exact⟨by rw[E2.o];rfl,H2.o⟩
      ·have s2:decide (122<(n[k].toNat:Int))=false:=by simp;omega
       have E2:=HGOOD.o (by simp [BS,CW];omega);clear q1 q2
       go_wp2
       go_round
       case rel=>exact⟨k+1,by omega,by go_num,E2.o⟩
       case measure=>simp [intOf];omega
    ·obtain rfl:k=n.length:=by omega
     have e1:¬(n.length:Int)<(n.length:Int):=by omega
     have E2:=I (E.o.trans (Ta (fun i hi=>HF.o i hi hi)))
     by_cases g1:1≤n.length
     ·have t1:decide ((1:Int)≤(n.length:Int))=true:=by simp;omega
      by_cases g2:n.length≤8
      ·have t2:decide ((n.length:Int)≤8)=true:=by simp;omega
       have E3:=I (E2.o.trans (show(decide (1≤n.length)&&decide (n.length≤8))=true by simp;omega));clear g1 g2
       go_wp2
       go_ret;exact⟨by rw[E3.o];rfl,H2.o⟩
      ·have t2:decide ((n.length:Int)≤8)=false:=by simp;omega
       have E3:=I (E2.o.trans (show(decide (1≤n.length)&&decide (n.length≤8))=false by simp;omega));clear g1 g2
       go_wp2
       go_ret;exact⟨by rw[E3.o];rfl,H2.o⟩
     ·have t1:decide ((1:Int)≤(n.length:Int))=false:=by simp;omega
      have E3:=I (E2.o.trans (show(decide (1≤n.length)&&decide (n.length≤8))=false by simp;omega));clear g1
      go_wp2
      go_ret;exact⟨by rw[E3.o];rfl,H2.o⟩
end Nm
end
section
namespace Rg
open Nm (CD L)
abbrev Pr:=L×L
def prB (p:Pr):Bool:=CD p.1 p.2
structure It where
 p:Pr
 n:Nat
 k:Nat→UInt8
def Bi (l:List It) (p:Pr):Nat→Option Nat
 |0=>none
 |i+1=>if (l[i]?).map (·.p)=some p then some i else Bi l p i
def Cc (l:List It) (p:Pr):Option Nat:=Bi l p l.length
def numO (l:List It):Option Nat→Nat
 |none=>0
 |some i=>((l[i]?).map (·.n)).getD 0
def BB (l:List It) (p:Pr):Nat:=numO l (Cc l p)
def Num (l:List It):Prop:=∀j i,l[j]? = some i→i.n=numO l (Bi l i.p j)+1
def addN (l:List It) (p:Pr):Nat:=if prB p=true then (if l.length<40 then BB l p+1 else 0) else 0
def addE (l:List It) (p:Pr):Nat:=if prB p=true then (if l.length<40 then 0 else 13) else 1
def addL (l:List It) (p:Pr) (k:Nat→UInt8):List It:=if prB p=true then (if l.length<40 then l++[⟨p,BB l p+1,k⟩] else l) else l
theorem FH {l:List It} {p:Pr}:∀{i j:Nat},Bi l p i=some j→j<i∧∃x,l[j]? = some x∧x.p=p
 |0,j,h=>by cases h
 |i+1,j,h=>by
  unfold Bi at h
  split at h
  ·rename_i e
   injection h with h;subst h;obtain⟨x,h1,h2⟩:=Option.map_eq_some_iff.1 e;exact⟨Nat.lt_succ_self _,x,h1,h2⟩
  ·obtain⟨h1,h2⟩:=FH h
   exact⟨Nat.lt_succ_of_lt h1,h2⟩
theorem Jo {l m:List It} {p:Pr}:∀{i:Nat},i≤l.length→Bi (l++m) p i=Bi l p i
 |0,_=>rfl
 |i+1,h=>by unfold Bi;rw[List.getElem?_append_left (by omega),Jo (by omega)]
theorem Ia {l:List It} (h:Num l) (p:Pr):∀i,numO l (Bi l p i)≤i
 |0=>Nat.le_refl _
 |i+1=>by
  unfold Bi
  split
  ·rename_i e
   obtain⟨x,h1,h2⟩:=Option.map_eq_some_iff.1 e;have h3:=h i x h1;have h4:=Ia h p i;rw[h2] at h3;simp only[numO,h1,Option.map_some,Option.getD_some];omega
  ·have:=Ia h p i;omega
theorem Vr {l:List It} (h:Num l) (p:Pr):BB l p≤l.length:=Ia h p _
end Rg
end
section
namespace DerP
abbrev L:=List UInt8
def szL (n:Nat):L:=if n<128 then [UInt8.ofNat n] else if n≤255 then [129,UInt8.ofNat n] else [130,UInt8.ofNat (n / 256),UInt8.ofNat n]
def elem (t:UInt8) (p:L):L:=t :: (szL p.length++p)
def lenR:L→Nat×Nat×Bool
 | []=>(0,0,false)
 |a :: r=>
  if a.toNat<128 then (a.toNat,1,true)
  else if a.toNat=129 then
   match r with
   | []=>(0,0,false)
   |b :: _=>(b.toNat,2,decide (128≤b.toNat))
  else if a.toNat=130 then
   match r with
   |b :: c :: _=>(b.toNat*256+c.toNat,3,decide (255<b.toNat*256+c.toNat))
   |_=>(0,0,false)
  else (0,0,false)
def Ba (t:UInt8):L→Option (L×L)
 | []=>none
 |a :: s=>
  if a=t∧(lenR s).2.2=true∧(lenR s).1+(lenR s).2.1≤s.length
  then some ((s.drop (lenR s).2.1).take (lenR s).1,(s.drop (lenR s).2.1).drop (lenR s).1) else none
def AZ (t:UInt8) (c:Option L):Option L:=(c.bind (Ba t)).map (·.2)
def AF (t:UInt8) (c:Option L):Option L:=(c.bind (Ba t)).map (·.1)
theorem Bd {t:UInt8} {s:L} (h:Ba t s=none):AF t (some s)=none∧AZ t (some s)=none:=by simp [AF,AZ,h]
theorem CX {t:UInt8} {s b r:L} (h:Ba t s=some (b,r)):AF t (some s)=some b∧AZ t (some s)=some r:=by simp [AF,AZ,h]
def val (l:L):Nat:=l.foldl (fun a b=>a*256+b.toNat) 0
def Bb:L→Bool
 | []=>false
 |b :: _=>decide (b.toNat<128)
def numL:L→Option Nat
 | []=>none
 |a :: r=>
  if 7<r.length∨128≤a.toNat then none
  else if a.toNat=0∧Bb r=true then none
  else if 4611686018427387904<val (a :: r) then none
  else some (val (a :: r))
def digK:Nat→Nat→L
 |0,_=>[]
 |k+1,n=>digK k (n / 256)++[UInt8.ofNat n]
def dig (n:Nat):L:=digK (Lib.bitLen n / 8+1) n
def BC (n:Int):Nat:=(min (max n 0) 4611686018427387904).toNat
def encI (n:Int):L:=elem 2 (dig (BC n))
def intC (c:Option L):Nat×Option L:=
 match AF 2 c with
 |none=>(0,none)
 |some b=>match numL b with
  |none=>(0,none)
  |some n=>(n,AZ 2 c)
theorem El (n:Int):BC n≤4611686018427387904:=by unfold BC;omega
theorem Ib (n:Int) (h0:0≤n) (h1:n≤4611686018427387904):BC n=n.toNat:=by unfold BC;omega
theorem Jp (n:Int):((BC n:Nat):Int)=min (max n 0) 4611686018427387904:=by unfold BC;omega
theorem AY (k n:Nat):(digK k n).length=k:=by
 induction k generalizing n with
 |zero=>rfl
 |succ k ih=>simp [digK,ih]
theorem JM (l:L) (b:UInt8):val (l++[b])=val l*256+b.toNat:=by simp [val]
theorem Nb (k n:Nat):val (digK k n)=n % 256 ^ k:=by
 induction k generalizing n with
 |zero=>simp [digK,val,Nat.mod_one]
 |succ k ih=>
  rw[digK,JM,ih];have h1:(UInt8.ofNat n).toNat=n % 256:=by simp
  rw[h1,Nat.pow_succ,Nat.mul_comm (256 ^ k) 256,Nat.mod_mul];omega
theorem Oq (l:L) (k:Nat) (h:l.length=k+1):∃m b,l=m++[b]∧m.length=k:=by
 refine⟨l.take k,l[k]'(by omega),?_,by simp;omega⟩;rw[List.take_append_getElem];rw[List.take_of_length_le (by omega)]
theorem Nc (k:Nat) (l:L) (h:l.length=k):digK k (val l)=l:=by
 induction k generalizing l with
 |zero=>rw[List.length_eq_zero_iff.1 h];rfl
 |succ k ih=>
  obtain⟨m,b,rfl,hm⟩:=Oq l k h;rw[digK,JM];have hb:=b.toNat_lt;have e:(val m*256+b.toNat) / 256=val m:=by omega
  rw[e,ih m hm]
  congr 1
  simp only[List.cons.injEq,and_true];apply UInt8.toNat_inj.1;simp
theorem PJ (k n j:Nat) (h:j<k):(digK k n)[j]? = some (UInt8.ofNat (n / 256 ^ (k - 1 - j))):=by
 induction k generalizing n with
 |zero=>omega
 |succ k ih=>
  rw[digK]
  by_cases hj:j<k
  ·rw[List.getElem?_append_left (by rw[AY];exact hj),ih _ hj]
   congr 2
   rw[Nat.div_div_eq_div_mul]
   congr 1
   rw[show k+1 - 1 - j=(k - 1 - j)+1 by omega,Nat.pow_succ,Nat.mul_comm]
  ·obtain rfl:j=k:=by omega
   rw[List.getElem?_append_right (by rw[AY];omega),AY];simp
theorem PM (l:L) (j:Nat) (b:UInt8) (h:l[j]? = some b):l.drop j=b :: l.drop (j+1):=by
 obtain⟨hj,e⟩:=List.getElem?_eq_some_iff.1 h;rw[List.drop_eq_getElem_cons hj,e]
theorem PN (l:L):val l<256 ^ l.length:=by
 have h:=Nb l.length (val l);rw[Nc l.length l rfl] at h;have hp:0<256 ^ l.length:=Nat.pow_pos (by omega);rw[h];exact Nat.mod_lt _ hp
theorem PO (l:L) (x:Nat):l.foldl (fun a b=>a*256+b.toNat) x=x*256 ^ l.length+val l:=by
 induction l generalizing x with
 |nil=>simp [val]
 |cons a r ih=>
  have e:val (a :: r)=a.toNat*256 ^ r.length+val r:=by
   show List.foldl _ (0*256+a.toNat) r=_;rw[ih];simp
  rw[List.foldl_cons,ih,e,List.length_cons,Nat.pow_succ,Nat.add_mul,Nat.mul_assoc,Nat.mul_comm 256,Nat.add_assoc]
theorem FZ (a:UInt8) (r:L):val (a :: r)=a.toNat*256 ^ r.length+val r:=by
 show List.foldl _ (0*256+a.toNat) r=_;rw[PO];simp
theorem Em (x:Nat) (hx:x<18446744073709551616) (k:Nat) (h:2 ^ k≤x):k+1≤Lib.bitLen x:=by
 have h0:x≠0:=by
  have:=Nat.pow_pos (n:=k) (show 0<2 by omega);omega
 obtain⟨_,_,h3⟩:=Lib.bitLenAux_bounds 64 x (by simpa using hx) h0;have h4:2 ^ k<2 ^ Lib.bitLen x:=Nat.lt_of_le_of_lt h h3;have:=(Nat.pow_lt_pow_iff_right (a:=2) (by omega)).1 h4;omega
theorem Cs (x k:Nat) (hk:k≤64) (h:x<2 ^ k):Lib.bitLen x≤k:=Lib.bitLen_le x k hk h
theorem Kx (x:Nat) (hx:x<18446744073709551616):x<2 ^ Lib.bitLen x:=by
 by_cases h0:x=0
 ·subst h0;exact Nat.pow_pos (by omega)
 ·exact(Lib.bitLenAux_bounds 64 x (by simpa using hx) h0).2.2
theorem Ga (n:Nat) (h:n≤4611686018427387904):Lib.bitLen n≤63:=Cs n 63 (by omega) (by omega)
theorem GH (n:Nat):(dig n).length=Lib.bitLen n / 8+1:=AY _ _
theorem Vs (n:Nat) (h:n≤4611686018427387904):(dig n).length≤8:=by
 rw[GH];have:=Ga n h;omega
theorem Fx (k:Nat):256 ^ k=2 ^ (8*k):=by rw[Nat.pow_mul]
theorem Vt (n:Nat) (h:n≤4611686018427387904):val (dig n)=n:=by
 rw[dig,Nb];apply Nat.mod_eq_of_lt;rw[Fx];refine Nat.lt_of_lt_of_le (Kx n (by omega)) (Nat.pow_le_pow_right (by omega) (by omega))
theorem PQ (n:Nat) (h:n≤4611686018427387904):numL (dig n)=some n:=by
 have hv:=Vt n h;have hl:=GH n;have h62:=Ga n h;have hlt:=Kx n (by omega);cases hd:dig n with
 |nil=>rw[hd] at hl;simp at hl
 |cons a r=>
  rw[hd] at hv hl;simp only[List.length_cons] at hl;have hr:r.length=Lib.bitLen n / 8:=by omega
  have hc:=FZ a r;rw[hv] at hc;have ha:a.toNat<128:=by
   rcases Nat.lt_or_ge a.toNat 128 with g | g
   ·exact g
   ·exfalso
    have h1:128*256 ^ r.length≤n:=by
     have:=Nat.mul_le_mul_right (256 ^ r.length) g;omega
    have h2:2 ^ (8*r.length+7)≤n:=by
     rw[Nat.pow_add,←Fx,Nat.mul_comm];simpa using h1
    have h3:=Em n (by omega) _ h2;omega
  have hs:¬(a.toNat=0∧Bb r=true):=by
   rintro⟨h0,h1⟩;cases r with
   |nil=>simp [Bb] at h1
   |cons b q=>
    simp only[Bb,decide_eq_true_eq] at h1;have hq:=FZ b q;have hb:=PN q;simp only[List.length_cons] at hr hc;rw[h0] at hc;have h4:n<128*256 ^ q.length:=by
     have:(b.toNat+1)*256 ^ q.length≤128*256 ^ q.length:=Nat.mul_le_mul_right _ (by omega);rw[Nat.add_mul] at this;omega
    have h5:n<2 ^ (8*q.length+7):=by
     rw[Nat.pow_add,←Fx,Nat.mul_comm];simpa using h4
    have h6:=Cs n (8*q.length+7) (by omega) h5;omega
  simp only[numL];rw[if_neg (by omega),if_neg hs,if_neg (by omega),hv]
theorem DN (l:L) (i:Nat) (h:i<l.length):val (l.take (i+1))=val (l.take i)*256+(l[i]).toNat:=by
 rw[List.take_succ_eq_append_getElem h,JM]
theorem Ic {a:UInt8} {r:L} (ha:a.toNat<128) (hr:r.length≤7) (i:Nat):val ((a :: r).take i)<9223372036854775808:=by
 cases i with
 |zero=>simp [val]
 |succ i=>
  rw[List.take_succ_cons,FZ];have h1:=PN (r.take i);have h2:(r.take i).length≤7:=by have:=List.length_take_le i r;have:=List.length_take_le' i r;omega
  have h3:256 ^ (r.take i).length≤256 ^ 7:=Nat.pow_le_pow_right (by omega) h2;have h4:(a.toNat+1)*256 ^ (r.take i).length≤128*256 ^ 7:=Nat.mul_le_mul (by omega) h3;rw[Nat.add_mul] at h4;have h5:(128:Nat)*256 ^ 7=9223372036854775808:=by decide
  omega
def numR (s:L):Nat×Bool:=((numL s).getD 0,(numL s).isSome)
theorem En {a:UInt8} {r:L} (h:(7<r.length∨128≤a.toNat)∨(a.toNat=0∧Bb r=true)∨4611686018427387904<val (a :: r)):numL (a :: r)=none:=by
 rw[numL]
 by_cases h1:7<r.length∨128≤a.toNat
 ·rw[if_pos h1]
 ·rw[if_neg h1]
  by_cases h2:a.toNat=0∧Bb r=true
  ·rw[if_pos h2]
  ·rw[if_neg h2]
   rcases h with h | h | h
   ·exact absurd h h1
   ·exact absurd h h2
   ·rw[if_pos h]
theorem Eo {s:L} (h:numL s=none):numR s=(0,false):=by rw[numR,h];rfl
theorem PS {a:UInt8} {r:L} (h:7<r.length):numR (a :: r)=(0,false):=Eo (En (.inl (.inl h)))
theorem PU {a:UInt8} {r:L} (h:128≤a.toNat):numR (a :: r)=(0,false):=Eo (En (.inl (.inr h)))
theorem PW {a b:UInt8} {r:L} (h:a.toNat=0) (hb:b.toNat<128):numR (a :: b :: r)=(0,false):=Eo (En (.inr (.inl ⟨h,by simpa [Bb] using hb⟩)))
theorem Ot {a:UInt8} {r:L} (h:4611686018427387904<val (a :: r)):numR (a :: r)=(0,false):=Eo (En (.inr (.inr h)))
theorem PX {a:UInt8} {r:L} (h1:r.length≤7) (h2:a.toNat<128) (h3:¬(a.toNat=0∧Bb r=true)) (h4:val (a :: r)≤4611686018427387904):numR (a :: r)=(val (a :: r),true):=by
 simp only[numR,numL];rw[if_neg (by omega),if_neg h3,if_neg (by omega)];rfl
theorem Ep {p:L} {n:Nat} (h:numL p=some n):n=val p∧n≤4611686018427387904∧1≤p.length∧p.length≤8∧Lib.bitLen n / 8+1=p.length:=by
 cases p with
 |nil=>simp [numL] at h
 |cons a r=>
  simp only[numL] at h
  by_cases c1:7<r.length∨128≤a.toNat
  ·rw[if_pos c1] at h;cases h
  ·rw[if_neg c1] at h
   by_cases c2:a.toNat=0∧Bb r=true
   ·rw[if_pos c2] at h;cases h
   ·rw[if_neg c2] at h
    by_cases c3:4611686018427387904<val (a :: r)
    ·rw[if_pos c3] at h;cases h
    ·rw[if_neg c3] at h
     injection h with h;subst h;have hc:=FZ a r;have hr:=PN r;have hup:val (a :: r)<2 ^ (8*r.length+7):=by
      have:(a.toNat+1)*256 ^ r.length≤128*256 ^ r.length:=Nat.mul_le_mul_right _ (by omega);rw[Nat.add_mul] at this;rw[Nat.pow_add,←Fx,Nat.mul_comm];have e:(2:Nat) ^ 7=128:=by decide
      rw[e];omega
     have hu:=Cs _ _ (by omega) hup;have hlow:r.length=0∨8*r.length≤Lib.bitLen (val (a :: r)):=by
      cases r with
      |nil=>left;rfl
      |cons b q=>
       right
       have hq:=FZ b q;simp only[List.length_cons] at *
       by_cases ha:a.toNat=0
       ·have hb:128≤b.toNat:=by
         have:¬Bb (b :: q)=true:=fun g=>c2 ⟨ha,g⟩
         simp only[Bb,decide_eq_true_eq] at this;omega
        have h1:128*256 ^ q.length≤val (a :: b :: q):=by
         have:=Nat.mul_le_mul_right (256 ^ q.length) hb;omega
        have h2:2 ^ (8*q.length+7)≤val (a :: b :: q):=by
         rw[Nat.pow_add,←Fx,Nat.mul_comm];simpa using h1
        have:=Em _ (by omega) _ h2;omega
       ·have h1:1*256 ^ (q.length+1)≤val (a :: b :: q):=by
         have:=Nat.mul_le_mul_right (256 ^ (q.length+1)) (show 1≤a.toNat by omega);omega
        have h2:2 ^ (8*(q.length+1))≤val (a :: b :: q):=by
         rw[←Fx];simpa using h1
        have:=Em _ (by omega) _ h2;omega
     simp only[List.length_cons];refine⟨trivial,by omega,by omega,by omega,?_⟩;rcases hlow with h0 | h0
     ·omega
     ·omega
theorem Vu {p:L} {n:Nat} (h:numL p=some n):dig n=p:=by
 obtain⟨h1,_,_,_,h5⟩:=Ep h;rw[dig,h5,h1];exact Nc _ _ rfl
theorem Fg {a:UInt8} {r:L} (h:a.toNat<128):lenR (a :: r)=(a.toNat,1,true):=by simp [lenR,h]
theorem Er {a:UInt8} (h:a.toNat=129):lenR [a]=(0,0,false):=by simp [lenR,h]
theorem Gb {a b:UInt8} {r:L} (h:a.toNat=129):lenR (a :: b :: r)=(b.toNat,2,decide (128≤b.toNat)):=by simp [lenR,h]
theorem Es {a:UInt8} (h:a.toNat=130):lenR [a]=(0,0,false):=by simp [lenR,h]
theorem Et {a b:UInt8} (h:a.toNat=130):lenR [a,b]=(0,0,false):=by simp [lenR,h]
theorem Fh {a b c:UInt8} {r:L} (h:a.toNat=130):lenR (a :: b :: c :: r)=(b.toNat*256+c.toNat,3,decide (255<b.toNat*256+c.toNat)):=by simp [lenR,h]
theorem Ie {a:UInt8} {r:L} (h1:¬a.toNat<128) (h2:¬a.toNat=129) (h3:¬a.toNat=130):lenR (a :: r)=(0,0,false):=by simp [lenR,h1,h2,h3]
theorem PY (s:L):(lenR s).1≤65535∧(lenR s).2.1≤3:=by
 cases s with
 |nil=>simp [lenR]
 |cons a r=>
  have ha:=a.toNat_lt
  by_cases h1:a.toNat<128
  ·rw[Fg h1];simp;omega
  ·by_cases h2:a.toNat=129
   ·cases r with
    |nil=>rw[Er h2];simp
    |cons b q=>rw[Gb h2];have:=b.toNat_lt;simp;omega
   ·by_cases h3:a.toNat=130
    ·rcases r with _ | ⟨b,_ | ⟨c,q⟩⟩
     ·rw[Es h3];simp
     ·rw[Et h3];simp
     ·rw[Fh h3];have:=b.toNat_lt;have:=c.toNat_lt;simp;omega
    ·rw[Ie h1 h2 h3];simp
theorem BI (n:Nat):(szL n).length=if n<128 then 1 else if n≤255 then 2 else 3:=by
 unfold szL;split
 ·rfl
 ·split<;>rfl
theorem DQ (t:UInt8) (p:L):(elem t p).length=1+(szL p.length).length+p.length:=by
 simp [elem];omega
theorem Tb (n:Nat) (h:n≤65535) (r:L):lenR (szL n++r)=(n,(szL n).length,true):=by
 unfold szL
 by_cases h1:n<128
 ·have e:n % 256=n:=by omega
  simp [h1,lenR,e]
 ·by_cases h2:n≤255
  ·have e:(UInt8.ofNat n).toNat=n:=by simp;omega
   simp [h1,h2,lenR];omega
  ·have e1:(UInt8.ofNat (n / 256)).toNat=n / 256:=by simp;omega
   have e2:(UInt8.ofNat n).toNat=n % 256:=by simp
   have e3:n / 256 % 256*256+n % 256=n:=by omega
   simp [h1,h2,lenR,e3];omega
theorem LI {s:L} (h:(lenR s).2.2=true):szL (lenR s).1=s.take (lenR s).2.1∧(lenR s).2.1=(szL (lenR s).1).length∧(lenR s).2.1≤s.length∧(lenR s).1≤65535:=by
 have key:∀a:UInt8,UInt8.ofNat a.toNat=a:=fun a=>by simp
 cases s with
 |nil=>simp [lenR] at h
 |cons a r=>
  have ha:=a.toNat_lt
  by_cases h1:a.toNat<128
  ·simp [lenR,h1,szL];omega
  ·by_cases h2:a.toNat=129
   ·cases r with
    |nil=>simp [lenR,h2] at h
    |cons b q=>
     have hb:=b.toNat_lt;have hae:a=129:=UInt8.toNat_inj.1 h2;subst hae;simp [lenR] at h;have h3:¬b.toNat<128:=by omega
     have h4:b.toNat≤255:=by omega
     simp [lenR,szL,h3,h4];omega
   ·by_cases h3:a.toNat=130
    ·rcases r with _ | ⟨b,_ | ⟨c,q⟩⟩
     ·simp [lenR,h3] at h
     ·simp [lenR,h3] at h
     ·have hb:=b.toNat_lt
      have hc:=c.toNat_lt;have hae:a=130:=UInt8.toNat_inj.1 h3;subst hae;simp [lenR] at h;have g1:¬b.toNat*256+c.toNat<128:=by omega
      have g2:¬b.toNat*256+c.toNat≤255:=by omega
      have e1:UInt8.ofNat ((b.toNat*256+c.toNat) / 256)=b:=by
       rw[show(b.toNat*256+c.toNat) / 256=b.toNat by omega];simp
      have e2:UInt8.ofNat (b.toNat*256+c.toNat)=c:=by
       apply UInt8.toNat_inj.1;simp
      simp only[lenR,szL];simp [g1,g2,e1,e2];omega
    ·simp [lenR,h1,h2,h3] at h
theorem Dx (t:UInt8) (p r:L) (h:p.length≤65535):Ba t (elem t p++r)=some (p,r):=by
 show Ba t (t :: (szL p.length++p++r))=_;rw[List.append_assoc,Ba,Tb _ h];simp;omega
theorem Ig {t:UInt8} {s b r:L} (h:Ba t s=some (b,r)):s=elem t b++r∧b.length≤65535:=by
 cases s with
 |nil=>simp [Ba] at h
 |cons a s=>
  simp only[Ba] at h
  by_cases hc:a=t∧(lenR s).2.2=true∧(lenR s).1+(lenR s).2.1≤s.length
  ·rw[if_pos hc] at h
   obtain⟨rfl,h1,h2⟩:=hc;obtain⟨g1,g2,g3,g4⟩:=LI h1;injection h with h;injection h with hb hr;have hl:b.length=(lenR s).1:=by rw[←hb];simp;omega
   refine⟨?_,by omega⟩;rw[elem,hl,g1,←hb,←hr,List.cons_append,List.append_assoc,List.take_append_drop,List.take_append_drop]
  ·rw[if_neg hc] at h;cases h
theorem Nd {t:UInt8} {p q r1 r2:L} (hp:p.length≤65535) (hq:q.length≤65535) (h:elem t p++r1=elem t q++r2):p=q∧r1=r2:=by
 have h1:=Dx t p r1 hp;rw[h,Dx t q r2 hq] at h1;injection h1 with h1;injection h1 with h1 h2;exact⟨h1.symm,h2.symm⟩
theorem Hw (t:UInt8) (p:L) (hp:p.length≤65535) (k:Nat) (hk:k<(elem t p).length):Ba t ((elem t p).take k)=none:=by
 cases h:Ba t ((elem t p).take k) with
 |none=>rfl
 |some x=>
  obtain⟨b,r⟩:=x;obtain⟨h1,h2⟩:=Ig h;have h3:elem t p++[]=elem t b++(r++(elem t p).drop k):=by
   rw[←List.append_assoc,←h1,List.take_append_drop,List.append_nil]
  obtain⟨_,h4⟩:=Nd hp h2 h3;have h5:=congrArg List.length h4;simp at h5;omega
theorem Ei {t:UInt8} {s b r:L} (h:Ba t s=some (b,r)):b.length≤s.length∧r.length≤s.length:=by
 have:=congrArg List.length (Ig h).1;simp [DQ] at this;omega
theorem BJ (t:UInt8) (c:Option L):((AF t c).getD []).length≤(c.getD []).length∧((AZ t c).getD []).length≤(c.getD []).length:=by
 cases c with
 |none=>simp [AF,AZ]
 |some s=>
  cases h:Ba t s with
  |none=>obtain⟨e1,e2⟩:=Bd h;rw[e1,e2];simp
  |some x=>
   obtain⟨b,r⟩:=x;obtain⟨e1,e2⟩:=CX h;rw[e1,e2];exact Ei h
theorem Gc (t:UInt8) (c:Option L) (h:AF t c=none):AZ t c=none:=by
 unfold AF at h;unfold AZ;rw[Option.map_eq_none_iff] at h⊢;exact h
theorem PZ {t u:UInt8} {s:L} (h:t≠u):Ba u (t :: s)=none:=by
 simp [Ba,h]
theorem Hl (n:Int):(dig (BC n)).length≤8:=Vs _ (El n)
theorem Vv (n:Int) (r:L):intC (some (encI n++r))=(BC n,some r):=by
 have h:=Dx 2 (dig (BC n)) r (by have:=Hl n;omega);simp only[intC,AF,AZ,encI,Option.bind_some,h,Option.map_some,PQ _ (El n)]
end DerP
end
section
namespace DerC
open Go.RowKit Af DerP
attribute [local go_sem] Eg List.getElem_cons_zero List.getElem_cons_succ Cg Ch Dp
def AM (w w':World):Prop:=∃n,w'=w.drewN n
theorem AM.refl (w:World):AM w w:=⟨0,rfl⟩
def Tc:Option L→Array Value
 |none=>#[.string ⟨([]:List UInt8).toArray⟩,.bool true]
 |some s=>#[.string ⟨s.toArray⟩,.bool false]
def Nf:Option L→Bool
 |some []=>true
 |_=>false
def Cur (w:World) (g:Nat) (c:Option L):Prop:=Blk w g 344 (Tc c)
theorem LJ (s:L) (w:World):Calls Tryz.prog 296 #[.string ⟨s.toArray⟩] w fun e w'=>
  e = .returned (.tuple #[.int .i64 ((lenR s).1:Int),.int .i64 ((lenR s).2.1:Int),.bool (lenR s).2.2])∧AM w w':=by
 cases s with
 |nil=>
  go_enter Tryz.func296,Tryz.ntmps296
  go_wp2
  go_ret3
  exact⟨rfl,AM.refl _⟩
 |cons a r=>
  by_cases h1:a.toNat<128
  ·have g1:decide ((a.toNat:Int)<128)=true:=by simp;omega
   have E:Hid (lenR (a :: r)=(a.toNat,1,true)):=Fg h1;have H:=I h1;clear h1;have ha:=Br a;go_enter Tryz.func296,Tryz.ntmps296
   go_wp2
   go_ret3
   exact⟨by rw[E.o];rfl,AM.refl _⟩
  ·have g1:decide ((a.toNat:Int)<128)=false:=by simp;omega
   by_cases h2:a.toNat=129
   ·have g2:((a.toNat:Int)==129)=true:=by simp;omega
    have g3:((a.toNat:Int)==130)=false:=by simp;omega
    have H1:=I h1;clear h1;have H2:=I h2;clear h2;cases r with
    |nil=>
     have E:Hid (lenR [a]=(0,0,false)):=Er H2.o;go_enter Tryz.func296,Tryz.ntmps296
     go_wp2
     go_ret3
     exact⟨by rw[E.o];rfl,AM.refl _⟩
    |cons b q=>
     have hb:=Br b;have E:Hid (lenR (a :: b :: q)=(b.toNat,2,decide (128≤b.toNat))):=Gb H2.o;have F:Hid (decide ((128:Int)≤(b.toNat:Int))=decide (128≤b.toNat)):=by show _=_;simp;omega
     go_enter Tryz.func296,Tryz.ntmps296
     go_wp2
     go_ret3
     exact⟨by rw[E.o,←F.o];rfl,AM.refl _⟩
   ·have g2:((a.toNat:Int)==129)=false:=by simp;omega
    by_cases h3:a.toNat=130
    ·have g3:((a.toNat:Int)==130)=true:=by simp;omega
     have H1:=I h1;clear h1;have H2:=I h2;clear h2;have H3:=I h3;clear h3;rcases r with _ | ⟨b,_ | ⟨c,q⟩⟩
     ·have E:Hid (lenR [a]=(0,0,false)):=Es H3.o
      go_enter Tryz.func296,Tryz.ntmps296
      go_wp2
      go_ret3
      exact⟨by rw[E.o];rfl,AM.refl _⟩
     ·have E:Hid (lenR [a,b]=(0,0,false)):=Et H3.o
      go_enter Tryz.func296,Tryz.ntmps296
      go_wp2
      go_ret3
      exact⟨by rw[E.o];rfl,AM.refl _⟩
     ·have hb:=Br b
      have hc:=Br c;have E:Hid (lenR (a :: b :: c :: q)=(b.toNat*256+c.toNat,3,decide (255<b.toNat*256+c.toNat))):=Fh H3.o;go_enter Tryz.func296,Tryz.ntmps296
      go_wp2
      go_quiet (fail)
      go_wp2
      go_ret3
      have F:(decide ((255:Int)<(b.toNat:Int)*256+(c.toNat:Int)))=decide (255<b.toNat*256+c.toNat):=by simp;omega
      have G:=GY b.toNat c.toNat (by omega) (by omega);exact⟨by rw[E.o,←F,←G];simp [G],⟨_,rfl⟩⟩
    ·have g3:((a.toNat:Int)==130)=false:=by simp;omega
     have E:Hid (lenR (a :: r)=(0,0,false)):=Ie h1 h2 h3;have H1:=I h1;clear h1;have H2:=I h2;clear h2;have H3:=I h3;clear h3;go_enter Tryz.func296,Tryz.ntmps296
     go_wp2
     go_ret3
     exact⟨by rw[E.o];rfl,AM.refl _⟩
theorem Td (w:World):Calls Tryz.prog 276 #[.pointer none] w fun e w'=>e = .returned (.bool false)∧w=w':=by
 go_enter Tryz.func276,Tryz.ntmps276
 go_wp2
 go_ret;exact⟨rfl,rfl⟩
theorem Ih {w:World} {g:Nat} {c:Option L} (h:Cur w g c):w.cell? ⟨g,0,none⟩=some (.string ⟨(c.getD []).toArray⟩)∧w.cell? ⟨g,1,none⟩=some (.bool (!c.isSome)):=by
 have h0:=h.cell 0;have h1:=h.cell 1;cases c<;>exact⟨h0,h1⟩
theorem Jq {w:World} {g:Nat} {c:Option L} (h:Cur w g c):w.frozen? ⟨g,0,none⟩=false∧w.frozen? ⟨g,1,none⟩=false:=⟨h.frozen 0,h.frozen 1⟩
theorem JN (g:Nat) (c:Option L) (w:World) (h:Cur w g c):Calls Tryz.prog 276 #[.pointer (some ⟨g,0,none⟩)] w fun e w'=>e = .returned (.bool c.isSome)∧w=w':=by
 obtain⟨_,h1⟩:=Ih h;go_enter Tryz.func276,Tryz.ntmps276
 go_wp2
 go_ret;exact⟨by simp,rfl⟩
theorem Ng (g:Nat) (c:Option L) (w:World) (h:Cur w g c):Calls Tryz.prog 266 #[.pointer (some ⟨g,0,none⟩)] w fun e w'=>e = .returned (.tuple #[])∧Cur w' g none∧w.grownBy w' (some g):=by
 obtain⟨h0,h1⟩:=Ih h;obtain⟨f0,f1⟩:=Jq h;go_enter Tryz.func266,Tryz.ntmps266
 go_wp2
 go_end0
 exact⟨rfl,by have:=(h.set 0 (.string ⟨#[]⟩)).set 1 (.bool true);cases c<;>exact this,by repeat (first | exact World.grownBy.refl _ _ | refine Ay ?_ (.inl rfl) _)⟩
theorem Qa (t:UInt8) (w:World):Calls Tryz.prog 277 #[.string ⟨([]:List UInt8).toArray⟩,.int .u8 t.toNat] w fun e w'=>
  e = .returned (.tuple #[.string ⟨([]:List UInt8).toArray⟩,.string ⟨([]:List UInt8).toArray⟩,.bool false])∧AM w w':=by
 go_enter Tryz.func277,Tryz.ntmps277
 go_wp2
 go_ret3
 exact⟨rfl,AM.refl _⟩
theorem LK (a t:UInt8) (r:L) (w:World) (hne:a≠t):Calls Tryz.prog 277 #[.string ⟨(a :: r).toArray⟩,.int .u8 t.toNat] w fun e w'=>
  e = .returned (.tuple #[.string ⟨([]:List UInt8).toArray⟩,.string ⟨([]:List UInt8).toArray⟩,.bool false])∧AM w w':=by
 have h1:((a.toNat:Int)==(t.toNat:Int))=false:=by simp;exact fun g=>hne (UInt8.toNat_inj.1 (by omega))
 have h2:((a.toNat:Int) != (t.toNat:Int))=true:=by simp;exact fun g=>hne (UInt8.toNat_inj.1 (by omega))
 have H:=I hne;clear hne;go_enter Tryz.func277,Tryz.ntmps277
 go_wp2
 go_ret3
 exact⟨rfl,AM.refl _⟩
theorem Ou (t:UInt8) (r:L) (w:World) (hs:(r.length:Int)≤100000) (hk:(lenR r).2.2=true) (hf:(lenR r).1+(lenR r).2.1≤r.length):Calls Tryz.prog 277 #[.string ⟨(t :: r).toArray⟩,.int .u8 t.toNat] w fun e w'=>
  e = .returned (.tuple #[.string ⟨((r.drop (lenR r).2.1).take (lenR r).1).toArray⟩,.string ⟨((r.drop (lenR r).2.1).drop (lenR r).1).toArray⟩,.bool true])∧AM w w':=by
 have hl:=PY r;generalize hx:lenR r=x at *;obtain⟨n,k,ok⟩:=x;simp only at hk hf hl⊢;have hf1:((r.length:Int) - (k:Int)<(n:Int))=False:=by simp;omega
 have hf2:decide ((r.length:Int) - (k:Int)<(n:Int))=false:=by simp;omega
 have hf3:(k:Int)+(n:Int)≤(r.length:Int):=by omega
 have hl1:(n:Int)≤65535:=by omega
 have hl2:(k:Int)≤3:=by omega
 have hc:∀W,Calls Tryz.prog 296 #[.string ⟨r.toArray⟩] W fun e w'=>e = .returned (.tuple #[.int .i64 (n:Int),.int .i64 (k:Int),.bool true])∧AM W w':=by
  intro W;have:=LJ r W;rw[hx] at this;subst hk;exact this
 have HC:=I hc;clear hc;have HX:=I hx;clear hx;have HK:=I hk;clear hk;clear hf hl;go_enter Tryz.func277,Tryz.ntmps277
 go_wp2_with (go_at_call 296;refine(HC.o _).mono ?_;rintro e w' ⟨rfl,q,rfl⟩)
 go_quiet (fail)
 go_wp2
 go_ret3
 exact⟨by rw[←Dp r k n,List.drop_drop];rfl,⟨_,World.drewN_drewN _ _ _⟩⟩
theorem Qb (t:UInt8) (r:L) (w:World) (hk:(lenR r).2.2=false):Calls Tryz.prog 277 #[.string ⟨(t :: r).toArray⟩,.int .u8 t.toNat] w fun e w'=>
  e = .returned (.tuple #[.string ⟨([]:List UInt8).toArray⟩,.string ⟨([]:List UInt8).toArray⟩,.bool false])∧AM w w':=by
 have hc:∀W,Calls Tryz.prog 296 #[.string ⟨r.toArray⟩] W fun e w'=>e = .returned (.tuple #[.int .i64 ((lenR r).1:Int),.int .i64 ((lenR r).2.1:Int),.bool false])∧AM W w':=by
  intro W;have:=LJ r W;rw[hk] at this;exact this
 have HC:=I hc;clear hc;have HK:=I hk;clear hk;go_enter Tryz.func277,Tryz.ntmps277
 go_wp2_with (go_at_call 296;refine(HC.o _).mono ?_;rintro e w' ⟨rfl,q,rfl⟩)
 go_ret3
 exact⟨rfl,⟨_,rfl⟩⟩
theorem LN (t:UInt8) (r:L) (w:World) (hs:(r.length:Int)≤100000) (hk:(lenR r).2.2=true) (hf:¬(lenR r).1+(lenR r).2.1≤r.length):Calls Tryz.prog 277 #[.string ⟨(t :: r).toArray⟩,.int .u8 t.toNat] w fun e w'=>
  e = .returned (.tuple #[.string ⟨([]:List UInt8).toArray⟩,.string ⟨([]:List UInt8).toArray⟩,.bool false])∧AM w w':=by
 have hl:=PY r;have hc:∀W,Calls Tryz.prog 296 #[.string ⟨r.toArray⟩] W fun e w'=>e = .returned (.tuple #[.int .i64 ((lenR r).1:Int),.int .i64 ((lenR r).2.1:Int),.bool true])∧AM W w':=by
  intro W;have:=LJ r W;rw[hk] at this;exact this
 have HC:=I hc;clear hc;have HK:=I hk;clear hk;generalize (lenR r).1=n at *;generalize (lenR r).2.1=k at *;have hf2:decide ((r.length:Int) - (k:Int)<(n:Int))=true:=by simp;omega
 have hl1:(n:Int)≤65535:=by omega
 have hl2:(k:Int)≤3:=by omega
 clear hf hl;go_enter Tryz.func277,Tryz.ntmps277
 go_wp2_with (go_at_call 296;refine(HC.o _).mono ?_;rintro e w' ⟨rfl,q,rfl⟩)
 go_ret3
 exact⟨rfl,⟨_,rfl⟩⟩
def Nh (o:Option (L×L)):Value:=.tuple #[.string ⟨((o.map (·.1)).getD []).toArray⟩,.string ⟨((o.map (·.2)).getD []).toArray⟩,.bool o.isSome]
theorem FY (t:UInt8) (s:L) (w:World) (hs:(s.length:Int)≤100000):Calls Tryz.prog 277 #[.string ⟨s.toArray⟩,.int .u8 t.toNat] w fun e w'=>
  e = .returned (Nh (Ba t s))∧AM w w':=by
 cases s with
 |nil=>exact Qa t w
 |cons a r=>
  simp only[List.length_cons] at hs
  by_cases h1:a=t
  ·subst h1
   cases hk:(lenR r).2.2 with
   |false=>
    rw[show Ba a (a :: r)=none by simp [Ba,hk]];exact Qb a r w hk
   |true=>
    by_cases hf:(lenR r).1+(lenR r).2.1≤r.length
    ·rw[show Ba a (a :: r)=some ((r.drop (lenR r).2.1).take (lenR r).1,(r.drop (lenR r).2.1).drop (lenR r).1) by rw[Ba,if_pos ⟨rfl,hk,hf⟩]]
     exact Ou a r w (by omega) hk hf
    ·rw[show Ba a (a :: r)=none by rw[Ba,if_neg (fun h=>hf h.2.2)]]
     exact LN a r w (by omega) hk hf
  ·rw[show Ba t (a :: r)=none by rw[Ba,if_neg (fun h=>h1 h.1)]]
   exact LK a t r w h1
theorem take_nil (t:UInt8) (w:World):Calls Tryz.prog 244 #[.pointer none,.int .u8 t.toNat] w fun e w'=>
  e = .returned (.tuple #[.string ⟨([]:List UInt8).toArray⟩,.bool false])∧w=w':=by
 go_enter Tryz.func244,Tryz.ntmps244
 go_wp2_with (go_at_call 276;refine(Td _).mono ?_;rintro e w' ⟨rfl,rfl⟩)
 go_ret2
 exact⟨rfl,rfl⟩
theorem JO (t:UInt8) (g:Nat) (c:Option L) (w:World) (h:Cur w g c) (hs:((c.getD []).length:Int)≤100000):Calls Tryz.prog 244 #[.pointer (some ⟨g,0,none⟩),.int .u8 t.toNat] w fun e w'=>
  e = .returned (.tuple #[.string ⟨((AF t c).getD []).toArray⟩,.bool (AF t c).isSome])∧Cur w' g (AZ t c)∧w.grownBy w' (some g):=by
 obtain⟨h0,h1⟩:=Ih h;obtain⟨f0,f1⟩:=Jq h;cases c with
 |none=>
  go_enter Tryz.func244,Tryz.ntmps244
  go_wp2_with (go_at_call 276;refine(JN _ _ _ h).mono ?_;rintro e w' ⟨rfl,rfl⟩)
  go_ret2
  exact⟨rfl,h,World.grownBy.refl _ _⟩
 |some s=>
  have hc:∀W,Calls Tryz.prog 277 #[.string ⟨s.toArray⟩,.int .u8 t.toNat] W fun e w'=>e = .returned (Nh (Ba t s))∧AM W w':=fun W=>FY t s W hs
  cases hx:Ba t s with
  |none=>
   rw[hx] at hc;simp only[Nh,Option.map_none,Option.getD_none,Option.isSome_none] at hc;have HC:=I hc;clear hc;have HX:=I hx;clear hx;go_enter Tryz.func244,Tryz.ntmps244
   go_wp2_with (first
    |(go_at_call 276;refine(JN _ _ _ h).mono ?_;rintro e w' ⟨rfl,rfl⟩)
    |(go_at_call 277;refine(HC.o _).mono ?_;rintro e w' ⟨rfl,q,rfl⟩)
    |(go_at_call 266;refine(Ng _ _ _ (h.drewN q)).mono ?_;rintro e w' ⟨rfl,hc1,hg1⟩))
   go_ret2
   obtain⟨e1,e2⟩:=Bd HX.o;rw[e1,e2];exact⟨rfl,hc1,(FE (World.grownBy.refl w _) q).trans hg1⟩
  |some x=>
   obtain⟨b,r⟩:=x;rw[hx] at hc;simp only[Nh,Option.map_some,Option.getD_some,Option.isSome_some] at hc;have HC:=I hc;clear hc;have HX:=I hx;clear hx;go_enter Tryz.func244,Tryz.ntmps244
   go_wp2_with (first
    |(go_at_call 276;refine(JN _ _ _ h).mono ?_;rintro e w' ⟨rfl,rfl⟩)
    |(go_at_call 277;refine(HC.o _).mono ?_;rintro e w' ⟨rfl,q,rfl⟩))
   go_ret2
   obtain⟨e1,e2⟩:=CX HX.o;rw[e1,e2];exact⟨rfl,(h.drewN q).set 0 (.string ⟨r.toArray⟩),Ay (FE (World.grownBy.refl w _) q) (.inl rfl) _⟩
end DerC
end
section
namespace DerC
open Go.RowKit Af DerP
attribute [local go_sem] Eg List.getElem_cons_zero List.getElem_cons_succ Cg Ch Dp
def numV (p:Nat×Bool):Value:=.tuple #[.int .i64 (p.1:Int),.bool p.2]
theorem Ov (w:World):Calls Tryz.prog 265 #[.string ⟨([]:List UInt8).toArray⟩] w fun e w'=>e = .returned (numV (numR []))∧AM w w':=by
 go_enter Tryz.func265,Tryz.ntmps265
 go_wp2
 go_ret2
 exact⟨rfl,AM.refl _⟩
theorem LO (a:UInt8) (r:L) (h:7<r.length) (hs:(r.length:Int)≤100000) (w:World):Calls Tryz.prog 265 #[.string ⟨(a :: r).toArray⟩] w fun e w'=>e = .returned (numV (numR (a :: r)))∧AM w w':=by
 have g1:decide ((8:Int)<(r.length:Int)+1)=true:=by simp;omega
 have E:=I (PS (a:=a) h);clear h;go_enter Tryz.func265,Tryz.ntmps265
 go_wp2
 go_ret2
 exact⟨by rw[E.o];rfl,AM.refl _⟩
theorem LP (a:UInt8) (r:L) (h:¬7<r.length) (h2:128≤a.toNat) (w:World):Calls Tryz.prog 265 #[.string ⟨(a :: r).toArray⟩] w fun e w'=>e = .returned (numV (numR (a :: r)))∧AM w w':=by
 have g1:decide ((8:Int)<(r.length:Int)+1)=false:=by simp;omega
 have g2:decide ((128:Int)≤(a.toNat:Int))=true:=by simp;omega
 have E:=I (PU (r:=r) h2);have hr:(r.length:Int)≤7:=by omega
 clear h h2;go_enter Tryz.func265,Tryz.ntmps265
 go_wp2
 go_ret2
 exact⟨by rw[E.o];rfl,AM.refl _⟩
theorem LQ (a b:UInt8) (r:L) (h:¬7<(b :: r).length) (h2:a.toNat=0) (hb:b.toNat<128) (w:World):Calls Tryz.prog 265 #[.string ⟨(a :: b :: r).toArray⟩] w fun e w'=>e = .returned (numV (numR (a :: b :: r)))∧AM w w':=by
 simp only[List.length_cons] at h;have g1:decide ((8:Int)<(r.length:Int)+1+1)=false:=by simp;omega
 have g2:decide ((128:Int)≤(a.toNat:Int))=false:=by simp;omega
 have g3:((a.toNat:Int)==0)=true:=by simp;omega
 have g4:decide ((b.toNat:Int)<128)=true:=by simp;omega
 have g5:decide ((1:Int)<(r.length:Int)+1+1)=true:=by simp;omega
 have E:=I (PW (r:=r) h2 hb);have hr:(r.length:Int)≤6:=by omega
 clear h h2 hb;go_enter Tryz.func265,Tryz.ntmps265
 go_wp2
 go_ret2
 exact⟨by rw[E.o];rfl,AM.refl _⟩
theorem LR (s : L) (ha : 0 < s.length) (h8 : s.length ≤ 8) (ge : s.isEmpty = false)
    (a:UInt8) (r:L) (hs:s=a :: r) (h2:a.toNat<128) (h3:¬(a.toNat=0∧Bb r=true)) (w:World):Calls Tryz.prog 265 #[.string ⟨s.toArray⟩] w fun e w'=>e = .returned (numV (numR s))∧AM w w':=by
  subst hs;have hb:∀i,val ((a :: r).take i)<9223372036854775808:=Ic h2 (by simpa using h8);have g2:decide ((128:Int)≤(a.toNat:Int))=false:=by simp;omega
  have hr:(r.length:Int)≤7:=by simp at h8;omega
  have H3:=I h3;have H2:=I h2;have HB:=I hb;have g1:decide ((8:Int)<(r.length:Int)+1)=false:=by simp;omega
  clear ge ha h8 hb h2;have key : decide ((1 : Int) < (r.length : Int) + 1) = false ∨ (decide ((1 : Int) < (r.length : Int) + 1) = true ∧ ((a.toNat : Int) == 0) = false) ∨
      (∃h:0<r.length,decide ((1:Int)<(r.length:Int)+1)=true∧((a.toNat:Int)==0)=true∧decide (((r[0]'h).toNat:Int)<128)=false):=by
    cases r with
    |nil=>left;simp
    |cons b q=>
      right
      by_cases h0:a.toNat=0
      · right
        have:¬Bb (b :: q)=true:=fun g=>h3 ⟨h0,g⟩
        simp only[Bb,decide_eq_true_eq] at this;refine⟨by simp,by simp;omega,by simp;omega,?_⟩;simp;omega
      · left
        refine⟨by simp;omega,by simp;omega⟩
  clear h3
  by_cases hbig:4611686018427387904<val (a :: r)
  · have B1 : decide ((4611686018427387904 : Int) < ((val (a :: r) : Nat) : Int)) = true := by simp; omega
    have E:=I (Ot hbig);clear hbig;rcases key with k1 | ⟨k1,k2⟩ | ⟨k0,k1,k2,k3⟩
    all_goals
      go_enter Tryz.func265,Tryz.ntmps265
      go_wp2
      go_loop [4,33] (fun n i=>∃k:Nat,k≤r.length+1∧i = .int .i64 (k:Int)∧n = .int .i64 ((val ((a :: r).take k):Nat):Int)) (fun _ i=>r.length+1 - (intOf i).toNat)
      case atStart=>exact⟨0,by omega,rfl,rfl⟩
      case round=>
        obtain⟨k,hk,rfl,rfl⟩:=hrel
        by_cases hlt:k<r.length+1
        · have hlt' : k < (a :: r).length := by simpa using hlt
          have V:=I (DN (a :: r) k hlt');have hx1:=HB.o k;have hx2:=HB.o (k+1);rw[V.o] at hx2;have hu:=Br ((a :: r)[k])
          go_wp2
          refine⟨⟨k+1,by omega,by go_num,?_⟩,by simp [intOf];omega⟩;rw[GY _ _ (by omega) (by omega),V.o]
          go_num
        · obtain rfl : k = r.length + 1 := by omega
          have e:(a :: r).take (r.length+1)=a :: r:=List.take_of_length_le (by simp);rw[e];clear e hk hlt
          go_wp2
          go_ret2
          exact⟨by rw[E.o];rfl,AM.refl _⟩
  · have B1 : decide ((4611686018427387904 : Int) < ((val (a :: r) : Nat) : Int)) = false := by simp; omega
    have E:=I (PX (by omega) H2.o H3.o (by omega));clear hbig;rcases key with k1 | ⟨k1,k2⟩ | ⟨k0,k1,k2,k3⟩
    all_goals
      go_enter Tryz.func265,Tryz.ntmps265
      go_wp2
      go_loop [4,33] (fun n i=>∃k:Nat,k≤r.length+1∧i = .int .i64 (k:Int)∧n = .int .i64 ((val ((a :: r).take k):Nat):Int)) (fun _ i=>r.length+1 - (intOf i).toNat)
      case atStart=>exact⟨0,by omega,rfl,rfl⟩
      case round=>
        obtain⟨k,hk,rfl,rfl⟩:=hrel
        by_cases hlt:k<r.length+1
        · have hlt' : k < (a :: r).length := by simpa using hlt
          have V:=I (DN (a :: r) k hlt');have hx1:=HB.o k;have hx2:=HB.o (k+1);rw[V.o] at hx2;have hu:=Br ((a :: r)[k])
          go_wp2
          refine⟨⟨k+1,by omega,by go_num,?_⟩,by simp [intOf];omega⟩;rw[GY _ _ (by omega) (by omega),V.o]
          go_num
        · obtain rfl : k = r.length + 1 := by omega
          have e:(a :: r).take (r.length+1)=a :: r:=List.take_of_length_le (by simp);rw[e];clear e hk hlt
          go_wp2
          go_ret2
          exact⟨by rw[E.o];rfl,AM.refl _⟩
theorem Ox (s:L) (hs:(s.length:Int)≤100000) (w:World):Calls Tryz.prog 265 #[.string ⟨s.toArray⟩] w fun e w'=>e = .returned (numV (numR s))∧AM w w':=by
 cases s with
 |nil=>exact Ov w
 |cons a r=>
  simp only[List.length_cons] at hs
  by_cases h1:7<r.length
  ·exact LO a r h1 (by omega) w
  ·by_cases h2:128≤a.toNat
   ·exact LP a r h1 h2 w
   ·by_cases h3:a.toNat=0∧Bb r=true
    ·obtain⟨h3,h4⟩:=h3
     cases r with
     |nil=>simp [Bb] at h4
     |cons b q=>exact LQ a b q h1 h3 (by simpa [Bb] using h4) w
    ·exact LR (a :: r) (by simp) (by simp;omega) rfl a r rfl (by omega) h3 w
end DerC
end
section
namespace DerC
open Go.RowKit Af DerP
attribute [local go_sem] Eg List.getElem_cons_zero List.getElem_cons_succ Cg Ch Dp
theorem Dq (g : Nat) (c : Option L) (w : World) (h : Cur w g c) (hs : ((c.getD []).length : Int) ≤ 100000) : Calls Tryz.prog 231 #[.pointer (some ⟨g, 0, none⟩)] w fun e w' =>
    e = .returned (.int .i64 ((intC c).1:Int))∧Cur w' g (intC c).2∧w.grownBy w' (some g):=by
  have ht : ∀ W, Cur W g c → Calls Tryz.prog 244 #[.pointer (some ⟨g, 0, none⟩), .int .u8 2] W fun e w' =>
      e = .returned (.tuple #[.string ⟨((AF 2 c).getD []).toArray⟩,.bool (AF 2 c).isSome])∧Cur w' g (AZ 2 c)∧W.grownBy w' (some g):=fun W hW=>JO 2 g c W hW hs
  have HT:=I ht;clear ht;have hbl:=(BJ 2 c).1;cases hb:AF 2 c with
  |none=>
    have E:=I (show intC c=(0,none) by simp only[intC,hb]);have hn:=I (Gc 2 c hb);rw[hb] at HT;have HB:=I hb;clear hb hbl;go_enter Tryz.func231,Tryz.ntmps231
    go_wp2_with (go_at_call 244;refine(HT.o _ h).mono ?_;rintro e w' ⟨rfl,hc,hg⟩)
    go_ret;rw[E.o];exact⟨rfl,by rw[←hn.o];exact hc,hg⟩
  |some b=>
    rw[hb] at HT;rw[hb] at hbl;simp only[Option.getD_some] at hbl;have hn:∀W,Calls Tryz.prog 265 #[.string ⟨b.toArray⟩] W fun e w'=>e = .returned (numV (numR b))∧AM W w':=fun W=>Ox b (by omega) W
    cases hx:numL b with
    |none=>
      have E:=I (show intC c=(0,none) by simp only[intC,hb,hx]);rw[Eo hx] at hn;simp only[numV] at hn;have HN:=I hn;clear hn;have HB:=I hb;clear hb hbl hx;go_enter Tryz.func231,Tryz.ntmps231
      go_wp2_with (first
        |(go_at_call 244;refine(HT.o _ h).mono ?_;rintro e w1 ⟨rfl,hc,hg⟩)
        |(go_at_call 265;refine(HN.o _).mono ?_;rintro e w' ⟨rfl,q,rfl⟩)
        |(go_at_call 266;refine(Ng _ _ _ (hc.drewN q)).mono ?_;rintro e w' ⟨rfl,hc1,hg1⟩))
      go_ret;rw[E.o];exact⟨rfl,hc1,(FE hg q).trans hg1⟩
    |some n=>
      have E:=I (show intC c=(n,AZ 2 c) by simp only[intC,hb,hx]);rw[numR,hx] at hn;simp only[numV,Option.getD_some,Option.isSome_some] at hn;have HN:=I hn;clear hn;have HB:=I hb;clear hb hbl hx;go_enter Tryz.func231,Tryz.ntmps231
      go_wp2_with (first
        |(go_at_call 244;refine(HT.o _ h).mono ?_;rintro e w1 ⟨rfl,hc,hg⟩)
        |(go_at_call 265;refine(HN.o _).mono ?_;rintro e w' ⟨rfl,q,rfl⟩))
      go_ret;rw[E.o];exact⟨rfl,hc.drewN q,FE hg q⟩
theorem Dy (g:Nat) (c:Option L) (w:World) (h:Cur w g c) (hs:((c.getD []).length:Int)≤100000):Calls Tryz.prog 246 #[.pointer (some ⟨g,0,none⟩)] w fun e w'=>
  (∃b cap,e = .returned (.slice (some ⟨b,0,none⟩) ((AF 4 c).getD []).length cap)∧((AF 4 c).getD []).length≤cap∧SK w' w.heap.size b ((AF 4 c).getD []))∧Cur w' g (AZ 4 c)∧w.grownBy w' (some g):=by
 have hcv:=fun(W:World)=>Lib.run_convert_string_bytes (P:=Tryz.prog) W 9 30 5 ⟨((AF 4 c).getD []).toArray⟩ Tryz.underlying9 Tryz.underlying30 Tryz.underlying5
 go_enter Tryz.func246,Tryz.ntmps246
 go_wp2_with (go_at_call 244;refine(JO 4 g c _ h hs).mono ?_;rintro e w1 ⟨rfl,hc,hg⟩)
 go_ret;exact⟨⟨_,_,rfl,grownCap_ge _ _ _ _,by have:=FG w1 5 ((AF 4 c).getD []);exact⟨Nat.le_trans hg.size this.1,this.2⟩⟩,hc.below (DL _ _ _),Hv hg (DL _ _ _)⟩
theorem Fi (g:Nat) (c:Option L) (w:World) (h:Cur w g c) (hs:((c.getD []).length:Int)≤100000):Calls Tryz.prog 230 #[.pointer (some ⟨g,0,none⟩)] w fun e w'=>
  e = .returned (.string ⟨((AF 27 c).getD []).toArray⟩)∧Cur w' g (AZ 27 c)∧w.grownBy w' (some g):=by
 have hl:((AF 27 c).getD []).length≤1000000000:=by
  have:=(BJ 27 c).1;omega
 have HL:=I hl;clear hl;go_enter Tryz.func230,Tryz.ntmps230
 go_wp2_with (first
  |(go_at_call 244;refine(JO 27 g c _ h hs).mono ?_;rintro e w1 ⟨rfl,hc,hg⟩)
  |(go_at_call 94;refine(Nm.Bv _ _ HL.o).mono ?_;rintro e w2 ⟨rfl,hb⟩))
 go_ret;exact⟨rfl,hc.below hb,Hv hg hb⟩
end DerC
end
section
namespace DerLib
open Go.RowKit Af
theorem Hc:(⟨((([0,1,2,2,3,3,3,3,4,4,4,4,4,4,4,4,5,5,5,5,5,5,5,5,5,5,5,5,5,5,5,5,6,6,6,6,6,6,6,6,6,6,6,6,6,6,6,6,6,6,6,6,6,6,6,6,6,6,6,6,6,6,6,6]:List UInt8).append [7,7,7,7,7,7,7,7,7,7,7,7,7,7,7,7,7,7,7,7,7,7,7,7,7,7,7,7,7,7,7,7,7,7,7,7,7,7,7,7,7,7,7,7,7,7,7,7,7,7,7,7,7,7,7,7,7,7,7,7,7,7,7,7]).append (([8,8,8,8,8,8,8,8,8,8,8,8,8,8,8,8,8,8,8,8,8,8,8,8,8,8,8,8,8,8,8,8,8,8,8,8,8,8,8,8,8,8,8,8,8,8,8,8,8,8,8,8,8,8,8,8,8,8,8,8,8,8,8,8]:List UInt8).append [8,8,8,8,8,8,8,8,8,8,8,8,8,8,8,8,8,8,8,8,8,8,8,8,8,8,8,8,8,8,8,8,8,8,8,8,8,8,8,8,8,8,8,8,8,8,8,8,8,8,8,8,8,8,8,8,8,8,8,8,8,8,8,8])).toArray⟩:ByteArray)=Lib.len8tab:=by kernel_rfl
theorem Eu (m k p:Nat) (x:Int) (hp:p=2 ^ k) (hx:x=((m / p:Nat):Int)) (hs:m / p<256) (hlo:p≤m∨k=0) (hm:m<18446744073709551616) :
  Lib.len8 x+(k:Int)=(Lib.bitLen m:Int)∧Lib.len8 x≤8∧0≤Lib.len8 x:=by
 have l:=Lib.bitLen_le8 ⟨m / p,hs⟩;have v:=Lib.len8_eq ⟨m / p,hs⟩;simp only at l v;rw[hx,v];have hb:Lib.bitLen m=k+Lib.bitLen (m / p):=by
  rcases hlo with h | h
  ·rw[hp] at h⊢;exact Lib.bitLen_shift k m h hm
  ·subst h;rw[hp];simp
 omega
theorem Qc (m:Nat) (w:World) (hm:m<9223372036854775808):Calls Tryz.prog 298 #[.int .u64 (m:Int)] w fun e w'=>e = .returned (.int .i64 (Lib.bitLen m:Int))∧w=w':=by
 by_cases h1:4294967296≤m
 ·by_cases h2:65536≤m / 4294967296
  ·by_cases h3:256≤m / 4294967296 / 65536
   ·have t1:decide ((4294967296:Int)≤(m:Int))=true:=decide_eq_true (by omega)
    have t2:decide ((65536:Int)≤(m:Int) / 4294967296)=true:=decide_eq_true (by omega);have t3:decide ((256:Int)≤(m:Int) / 4294967296 / 65536)=true:=decide_eq_true (by omega);have AL:=Eu m 56 72057594037927936 ((m:Int) / 4294967296 / 65536 / 256 % 256) rfl (by omega) (by omega) (by omega) (by omega);have AH:=I AL;clear AL hm h1 h2 h3;go_enter Tryz.func298,Tryz.ntmps298;rw[Hc]
    go_wp2
    go_ret;have AL:=AH.o;refine⟨congrArg Ending.returned (congrArg (Value.int IntKind.i64) ?_),rfl⟩
    (first | (unfold wrap64;omega) | omega | skip)
   ·have t1:decide ((4294967296:Int)≤(m:Int))=true:=decide_eq_true (by omega)
    have t2:decide ((65536:Int)≤(m:Int) / 4294967296)=true:=decide_eq_true (by omega);have t3:decide ((256:Int)≤(m:Int) / 4294967296 / 65536)=false:=decide_eq_false (by omega);have AL:=Eu m 48 281474976710656 ((m:Int) / 4294967296 / 65536 % 256) rfl (by omega) (by omega) (by omega) (by omega);have AH:=I AL;clear AL hm h1 h2 h3;go_enter Tryz.func298,Tryz.ntmps298;rw[Hc]
    go_wp2
    go_ret;have AL:=AH.o;refine⟨congrArg Ending.returned (congrArg (Value.int IntKind.i64) ?_),rfl⟩
    (first | (unfold wrap64;omega) | omega | skip)
  ·by_cases h3:256≤m / 4294967296
   ·have t1:decide ((4294967296:Int)≤(m:Int))=true:=decide_eq_true (by omega)
    have t2:decide ((65536:Int)≤(m:Int) / 4294967296)=false:=decide_eq_false (by omega);have t3:decide ((256:Int)≤(m:Int) / 4294967296)=true:=decide_eq_true (by omega);have AL:=Eu m 40 1099511627776 ((m:Int) / 4294967296 / 256 % 256) rfl (by omega) (by omega) (by omega) (by omega);have AH:=I AL;clear AL hm h1 h2 h3;go_enter Tryz.func298,Tryz.ntmps298;rw[Hc]
    go_wp2
    go_ret;have AL:=AH.o;refine⟨congrArg Ending.returned (congrArg (Value.int IntKind.i64) ?_),rfl⟩
    (first | (unfold wrap64;omega) | omega | skip)
   ·have t1:decide ((4294967296:Int)≤(m:Int))=true:=decide_eq_true (by omega)
    have t2:decide ((65536:Int)≤(m:Int) / 4294967296)=false:=decide_eq_false (by omega);have t3:decide ((256:Int)≤(m:Int) / 4294967296)=false:=decide_eq_false (by omega);have AL:=Eu m 32 4294967296 ((m:Int) / 4294967296 % 256) rfl (by omega) (by omega) (by omega) (by omega);have AH:=I AL;clear AL hm h1 h2 h3;go_enter Tryz.func298,Tryz.ntmps298;rw[Hc]
    go_wp2
    go_ret;have AL:=AH.o;refine⟨congrArg Ending.returned (congrArg (Value.int IntKind.i64) ?_),rfl⟩
    (first | (unfold wrap64;omega) | omega | skip)
 ·by_cases h2:65536≤m
  ·by_cases h3:256≤m / 65536
   ·have t1:decide ((4294967296:Int)≤(m:Int))=false:=decide_eq_false (by omega)
    have t2:decide ((65536:Int)≤(m:Int))=true:=decide_eq_true (by omega);have t3:decide ((256:Int)≤(m:Int) / 65536)=true:=decide_eq_true (by omega);have AL:=Eu m 24 16777216 ((m:Int) / 65536 / 256 % 256) rfl (by omega) (by omega) (by omega) (by omega);have AH:=I AL;clear AL hm h1 h2 h3;go_enter Tryz.func298,Tryz.ntmps298;rw[Hc]
    go_wp2
    go_ret;have AL:=AH.o;refine⟨congrArg Ending.returned (congrArg (Value.int IntKind.i64) ?_),rfl⟩
    (first | (unfold wrap64;omega) | omega | skip)
   ·have t1:decide ((4294967296:Int)≤(m:Int))=false:=decide_eq_false (by omega)
    have t2:decide ((65536:Int)≤(m:Int))=true:=decide_eq_true (by omega);have t3:decide ((256:Int)≤(m:Int) / 65536)=false:=decide_eq_false (by omega);have AL:=Eu m 16 65536 ((m:Int) / 65536 % 256) rfl (by omega) (by omega) (by omega) (by omega);have AH:=I AL;clear AL hm h1 h2 h3;go_enter Tryz.func298,Tryz.ntmps298;rw[Hc]
    go_wp2
    go_ret;have AL:=AH.o;refine⟨congrArg Ending.returned (congrArg (Value.int IntKind.i64) ?_),rfl⟩
    (first | (unfold wrap64;omega) | omega | skip)
  ·by_cases h3:256≤m
   ·have t1:decide ((4294967296:Int)≤(m:Int))=false:=decide_eq_false (by omega)
    have t2:decide ((65536:Int)≤(m:Int))=false:=decide_eq_false (by omega);have t3:decide ((256:Int)≤(m:Int))=true:=decide_eq_true (by omega);have AL:=Eu m 8 256 ((m:Int) / 256 % 256) rfl (by omega) (by omega) (by omega) (by omega);have AH:=I AL;clear AL hm h1 h2 h3;go_enter Tryz.func298,Tryz.ntmps298;rw[Hc]
    go_wp2
    go_ret;have AL:=AH.o;refine⟨congrArg Ending.returned (congrArg (Value.int IntKind.i64) ?_),rfl⟩
    (first | (unfold wrap64;omega) | omega | skip)
   ·have t1:decide ((4294967296:Int)≤(m:Int))=false:=decide_eq_false (by omega)
    have t2:decide ((65536:Int)≤(m:Int))=false:=decide_eq_false (by omega);have t3:decide ((256:Int)≤(m:Int))=false:=decide_eq_false (by omega);have AL:=Eu m 0 1 ((m:Int) % 256) rfl (by omega) (by omega) (by omega) (by omega);have AH:=I AL;clear AL hm h1 h2 h3;go_enter Tryz.func298,Tryz.ntmps298;rw[Hc]
    go_wp2
    go_ret;have AL:=AH.o;refine⟨congrArg Ending.returned (congrArg (Value.int IntKind.i64) ?_),rfl⟩
    (first | (unfold wrap64;omega) | omega | skip)
theorem Te (m:Nat) (w:World) (hm:m<9223372036854775808):Calls Tryz.prog 281 #[.int .u64 (m:Int)] w fun e w'=>e = .returned (.int .i64 (Lib.bitLen m:Int))∧w=w':=by
 have c1:=Qc m w hm;clear hm;go_enter Tryz.func281,Tryz.ntmps281
 go_wp2_with (go_at_call 298;refine Calls.mono c1 ?_;rintro e w' ⟨rfl,rfl⟩)
 go_ret;exact⟨rfl,rfl⟩
end DerLib
end
section
namespace DerW
open Go.RowKit Af DerP
theorem BD:(Tryz.prog.info? 5).map (fun i=>(i.zero,i.size,i.bytes))=some (some (.int .u8 0),1,1):=by kernel_rfl
def filled (K m j:Nat):Array Value:=(List.replicate j (bv 0)++bvs ((digK K m).drop j)).toArray
theorem Ky (K m:Nat):filled K m K=Cn K:=by
 rw[filled,List.drop_of_length_le (by rw[AY];exact Nat.le_refl _)];simp [Cn,bvs]
theorem Oy (K m:Nat):filled K m 0=(bvs (digK K m)).toArray:=by simp [filled]
theorem Oz (K m j:Nat) (hj:j<K):(filled K m (j+1)).setIfInBounds j (bv (UInt8.ofNat (m / 256 ^ (K - 1 - j))))=filled K m j:=by
 have h:=PM (digK K m) j _ (PJ K m j hj);apply Array.toList_inj.1;simp only[filled,Array.toList_setIfInBounds];rw[h];rw[List.set_append_left _ _ (by simp)];rw[List.replicate_succ',List.set_append_right _ _ (by simp)];simp [bvs]
theorem OA (m:Nat) (hm:m≤4611686018427387904) (w:World):Calls Tryz.prog 258 #[.int .i64 (m:Int)] w fun e w'=>
  ∃g,e = .returned (.slice (some ⟨g,0,none⟩) (dig m).length (dig m).length)∧w.heap.size≤g∧Blk w' g 5 (bvs (dig m)).toArray∧Below w.heap.size w w':=by
 obtain⟨i0,hi0,hz0,hs0,hb0⟩:=info_parts BD;have hbl:=Ga m hm;have hL:(dig m).length=Lib.bitLen m / 8+1:=GH m;have hD:dig m=digK (Lib.bitLen m / 8+1) m:=rfl;rw[hL,hD];have hc:∀W,Calls Tryz.prog 281 #[.int .u64 (m:Int)] W fun e w'=>e = .returned (.int .i64 (Lib.bitLen m:Int))∧W=w':=by
  intro W;exact DerLib.Te m W (by omega)
 clear hL hD;generalize hq:Lib.bitLen m=q at *;have hmk:=Fw (P:=Tryz.prog) Tryz.underlying30 hi0 hz0 hs0 hb0 ((q:Int) / 8+1) (q / 8+1) (by omega) (by omega);have HC:=I hc;clear hc;have HQ:=I hq;clear hq;have hm':(m:Int)≤4611686018427387904:=by omega
 have hq':(q:Int)≤63:=by omega
 clear hm hbl hi0 hz0 hs0 hb0;go_enter Tryz.func258,Tryz.ntmps258
 go_wp2_with (go_at_call 281;refine(HC.o _).mono ?_;rintro e w' ⟨rfl,rfl⟩)
 go_loopw [0,4] (fun n i wr=>∃j:Nat,j≤q / 8+1∧i = .int .i64 ((j:Int) - 1)∧n = .int .i64 ((m / 256 ^ (q / 8+1 - j):Nat):Int)∧Blk wr w.heap.size 5 (filled (q / 8+1) m j)∧Below w.heap.size w wr) (fun _ i _=>(intOf i+1).toNat)
 case atStart=>
  refine⟨q / 8+1,Nat.le_refl _,by congr 1;omega,by simp,?_,(Below.refl _ _).alloc (Nat.le_refl _) _⟩;rw[Ky];exact Blk.new _ _ _
 case round=>
  obtain⟨j,hj,rfl,rfl,hB,hbel⟩:=hrel;cases j with
  |zero=>
   have e:((0:Nat):Int) - 1 = -1:=rfl;rw[e]
   go_wp2
   go_ret;rw[Oy] at hB;exact⟨_,rfl,Nat.le_refl _,hB,hbel⟩
  |succ j=>
   have e:((j+1:Nat):Int) - 1=(j:Int):=by omega
   rw[e];clear e;have hf:=hB.frozen j;have hset:=hB.set j (bv (UInt8.ofNat (m / 256 ^ (q / 8+1 - 1 - j))));rw[Oz _ _ _ (by omega)] at hset;have hcell:∃u,(filled (q / 8+1) m (j+1))[j]? = some u:=by
    have:j<(filled (q / 8+1) m (j+1)).size:=by simp [filled,bvs,AY];omega
    exact⟨_,Array.getElem?_eq_getElem this⟩
   obtain⟨u,hu⟩:=hcell;have hcu:=(hB.cell j).trans hu;have hdiv:m / 256 ^ (q / 8+1 - (j+1))≤m:=Nat.div_le_self _ _;have hdiv':((m / 256 ^ (q / 8+1 - (j+1)):Nat):Int)≤4611686018427387904:=by omega
   have hnx:=I (show m / 256 ^ (q / 8+1 - (j+1)) / 256=m / 256 ^ (q / 8+1 - j) by
    rw[Nat.div_div_eq_div_mul,←Nat.pow_succ];congr 2;omega)
   have hpw:=I (show q / 8+1 - 1 - j=q / 8+1 - (j+1) by omega);rw[hpw.o] at hset;generalize m / 256 ^ (q / 8+1 - (j+1))=y at *;have HS:=I hset;clear hset hu
   go_wp2
   refine⟨⟨j,by omega,rfl,?_,?_,hbel.setCell (Nat.le_refl _) _⟩,by simp [intOf]⟩
   ·rw[←hnx.o];rfl
   ·have e:bv (UInt8.ofNat y) = .int .u8 ((y:Int) % 256):=by simp [bv]
    rw[←e];exact HS.o
theorem ml (n:Nat) (h:n≤1000000):n≤maxLen:=by unfold maxLen;omega
theorem Hd (w:World) (t:TypeId) (cs:Array Value) (l:L) (h:cs.toList=bvs l) (N:Nat) (hN:w.heap.size=N):Rd (w.alloc (.cells cs t)) (N+1) (some ⟨N,0,none⟩) (bvs l):=by
 subst hN;refine .inr ⟨w.heap.size,0,rfl,by omega,fun i u hu=>?_⟩;rw[Nat.zero_add,(Blk.new w t cs).cell i];rw[←h] at hu
 simpa using hu
theorem Gd (n:Nat) (h:n<256):bv (UInt8.ofNat n) = .int .u8 (n:Int):=by simp [bv];omega
theorem OB (t : UInt8) (n : Nat) (h1 : n < 128) (w : World) : Calls Tryz.prog 257 #[.int .u8 t.toNat, .int .i64 (n : Int)] w fun e w' =>
    ∃v,e = .returned v∧w'.ownsRow w.heap.size 5 1 v (1+(szL n).length) (bvs (t :: szL n))∧Below w.heap.size w w':=by
  obtain⟨i0,hi0,hz0,hs0,hb0⟩:=info_parts BD;have hmk:=CE (P:=Tryz.prog) Tryz.underlying30 hi0 hz0 hs0 hb0 ((n:Int)+4) (n+4) (by omega) (by omega);have E:=I (show szL n = [UInt8.ofNat n] by simp [szL,h1]);have g1:decide ((n:Int)<128)=true:=by simp;omega
  have hn:(n:Int)≤127:=by omega
  have hown0:Hid (∀o,(World.alloc (World.alloc w (.cells (Cn (n+4)) 5)) o).ownsRow w.heap.size 5 1 (.slice (some ⟨w.heap.size,0,none⟩) 0 (n+4)) 0 []):=fun o=>(World.ownsRow_made w (Cn (n+4)) (n+4) (Nat.le_refl _) (ml _ (by omega)) (by rw[CO];omega)).alloc o
  have hm1:=I (ml 1 (by omega));have hm2:=I (ml 2 (by omega));have hbn:=I (Gd n (by omega));clear h1;go_enter Tryz.func257,Tryz.ntmps257
  go_wp2_with (first
    | (at_builtin
       refine Au _ rfl (.tmp 8) (.tmp 10) 30 rfl w.heap.size 5 i0 _ 1 Tryz.underlying30 hi0 hz0 hs0 hb0 rfl (.slice (some ⟨w.heap.size,0,none⟩) 0 (n+4)) 0 [] rfl (hown0.o _) _ _ 1 1 (bvs [t]) rfl rfl (Hd _ 5 _ [t] rfl _ (by simp)) (Bf _) hm1.o (by omega) (by simp;omega) ?_;intro v1 w1 hown1 hg1 hat1)
    | (at_builtin
       refine Au _ rfl (.tmp 15) (.tmp 18) 30 rfl w.heap.size 5 i0 _ 1 Tryz.underlying30 hi0 hz0 hs0 hb0 rfl v1 (0+1) ([]++bvs [t]) rfl (hown1.alloc _) _ _ 1 1 (bvs [UInt8.ofNat n]) rfl rfl (Hd w1 5 _ [UInt8.ofNat n] (by simp [bvs,hbn.o]) _ rfl) (Bf _) hm2.o (by omega) (by simp;have:=hg1.size;simp at this;omega) ?_;intro v2 w2 hown2 hg2 hat2))
  go_ret;have b1:Below w.heap.size w w1:=(((Below.refl w.heap.size w).alloc (Nat.le_refl _) _).alloc (by simp) _).grown hg1 (by simp;omega) (by intro k hk;simp [Value.ownBlock] at hk;omega);have b2:=(b1.alloc b1.size _).grown hg2 (by have:=b1.size;simp;omega) (fun k hk=>(hown1.lt k hk).1);exact⟨v2,rfl,by rw[E.o];simpa [bvs] using hown2,b2⟩
theorem Tf (t : UInt8) (n : Nat) (h1 : ¬ n < 128) (h2 : n ≤ 255) (w : World) : Calls Tryz.prog 257 #[.int .u8 t.toNat, .int .i64 (n : Int)] w fun e w' =>
    ∃v,e = .returned v∧w'.ownsRow w.heap.size 5 1 v (1+(szL n).length) (bvs (t :: szL n))∧Below w.heap.size w w':=by
  obtain⟨i0,hi0,hz0,hs0,hb0⟩:=info_parts BD;have hmk:=CE (P:=Tryz.prog) Tryz.underlying30 hi0 hz0 hs0 hb0 ((n:Int)+4) (n+4) (by omega) (by omega);have E:=I (show szL n = [129,UInt8.ofNat n] by simp [szL,h1,h2]);have g1:decide ((n:Int)<128)=false:=by simp;omega
  have g2:decide ((n:Int)≤255)=true:=by simp;omega
  have hn:(n:Int)≤255:=by omega
  have hown0:Hid (∀o,(World.alloc (World.alloc w (.cells (Cn (n+4)) 5)) o).ownsRow w.heap.size 5 1 (.slice (some ⟨w.heap.size,0,none⟩) 0 (n+4)) 0 []):=fun o=>(World.ownsRow_made w (Cn (n+4)) (n+4) (Nat.le_refl _) (ml _ (by omega)) (by rw[CO];omega)).alloc o
  have hm1:=I (ml 1 (by omega));have hm2:=I (ml 3 (by omega));have hbn:=I (Gd n (by omega));clear h1 h2;go_enter Tryz.func257,Tryz.ntmps257
  go_wp2_with (first
    | (at_builtin
       refine Au _ rfl (.tmp 8) (.tmp 10) 30 rfl w.heap.size 5 i0 _ 1 Tryz.underlying30 hi0 hz0 hs0 hb0 rfl (.slice (some ⟨w.heap.size,0,none⟩) 0 (n+4)) 0 [] rfl (hown0.o _) _ _ 1 1 (bvs [t]) rfl rfl (Hd _ 5 _ [t] rfl _ (by simp)) (Bf _) hm1.o (by omega) (by simp;omega) ?_;intro v1 w1 hown1 hg1 hat1)
    | (at_builtin
       refine Au _ rfl (.tmp 23) (.tmp 26) 30 rfl w.heap.size 5 i0 _ 1 Tryz.underlying30 hi0 hz0 hs0 hb0 rfl v1 (0+1) ([]++bvs [t]) rfl (hown1.alloc _) _ _ 2 2 (bvs [129,UInt8.ofNat n]) rfl rfl (Hd w1 5 _ [129,UInt8.ofNat n] (by simp [bvs,hbn.o];rfl) _ rfl) (Bf _) hm2.o (by omega) (by simp;have:=hg1.size;simp at this;omega) ?_;intro v2 w2 hown2 hg2 hat2))
  go_ret;have b1:Below w.heap.size w w1:=(((Below.refl w.heap.size w).alloc (Nat.le_refl _) _).alloc (by simp) _).grown hg1 (by simp;omega) (by intro k hk;simp [Value.ownBlock] at hk;omega);have b2:=(b1.alloc b1.size _).grown hg2 (by have:=b1.size;simp;omega) (fun k hk=>(hown1.lt k hk).1);exact⟨v2,rfl,by rw[E.o];simpa [bvs] using hown2,b2⟩
theorem Th (t : UInt8) (n : Nat) (h1 : ¬ n < 128) (h2 : ¬ n ≤ 255) (h3 : n ≤ 65535) (w : World) : Calls Tryz.prog 257 #[.int .u8 t.toNat, .int .i64 (n : Int)] w fun e w' =>
    ∃v,e = .returned v∧w'.ownsRow w.heap.size 5 1 v (1+(szL n).length) (bvs (t :: szL n))∧Below w.heap.size w w':=by
  obtain⟨i0,hi0,hz0,hs0,hb0⟩:=info_parts BD;have hmk:=CE (P:=Tryz.prog) Tryz.underlying30 hi0 hz0 hs0 hb0 ((n:Int)+4) (n+4) (by omega) (by omega);have E:=I (show szL n = [130,UInt8.ofNat (n / 256),UInt8.ofNat n] by simp [szL,h1,h2]);have g1:decide ((n:Int)<128)=false:=by simp;omega
  have g2:decide ((n:Int)≤255)=false:=by simp;omega
  have hn:(n:Int)≤65535:=by omega
  have hown0:Hid (∀o,(World.alloc (World.alloc w (.cells (Cn (n+4)) 5)) o).ownsRow w.heap.size 5 1 (.slice (some ⟨w.heap.size,0,none⟩) 0 (n+4)) 0 []):=fun o=>(World.ownsRow_made w (Cn (n+4)) (n+4) (Nat.le_refl _) (ml _ (by omega)) (by rw[CO];omega)).alloc o
  have hm1:=I (ml 1 (by omega));have hm2:=I (ml 4 (by omega));have hbn:=I (show bvs [130,UInt8.ofNat (n / 256),UInt8.ofNat n] = [.int .u8 130,.int .u8 ((n:Int) / 256),.int .u8 ((n:Int) % 256)] by simp [bvs,bv];omega);clear h1 h2 h3;go_enter Tryz.func257,Tryz.ntmps257
  go_wp2_with (first
    | (at_builtin
       refine Au _ rfl (.tmp 8) (.tmp 10) 30 rfl w.heap.size 5 i0 _ 1 Tryz.underlying30 hi0 hz0 hs0 hb0 rfl (.slice (some ⟨w.heap.size,0,none⟩) 0 (n+4)) 0 [] rfl (hown0.o _) _ _ 1 1 (bvs [t]) rfl rfl (Hd _ 5 _ [t] rfl _ (by simp)) (Bf _) hm1.o (by omega) (by simp;omega) ?_;intro v1 w1 hown1 hg1 hat1)
    | (at_builtin
       refine Au _ rfl (.tmp 28) (.tmp 34) 30 rfl w.heap.size 5 i0 _ 1 Tryz.underlying30 hi0 hz0 hs0 hb0 rfl v1 (0+1) ([]++bvs [t]) rfl (hown1.alloc _) _ _ 3 3 (bvs [130,UInt8.ofNat (n / 256),UInt8.ofNat n]) rfl rfl (Hd w1 5 _ [130,UInt8.ofNat (n / 256),UInt8.ofNat n] (by rw[hbn.o]) _ rfl) (Bf _) hm2.o (by omega) (by simp;have:=hg1.size;simp at this;omega) ?_;intro v2 w2 hown2 hg2 hat2))
  go_ret;have b1:Below w.heap.size w w1:=(((Below.refl w.heap.size w).alloc (Nat.le_refl _) _).alloc (by simp) _).grown hg1 (by simp;omega) (by intro k hk;simp [Value.ownBlock] at hk;omega);have b2:=(b1.alloc b1.size _).grown hg2 (by have:=b1.size;simp;omega) (fun k hk=>(hown1.lt k hk).1);exact⟨v2,rfl,by rw[E.o];simpa [bvs] using hown2,b2⟩
theorem Ti (t:UInt8) (n:Nat) (h:n≤65535) (w:World):Calls Tryz.prog 257 #[.int .u8 t.toNat,.int .i64 (n:Int)] w fun e w'=>
  ∃v,e = .returned v∧w'.ownsRow w.heap.size 5 1 v (1+(szL n).length) (bvs (t :: szL n))∧Below w.heap.size w w':=by
 by_cases h1:n<128
 ·exact OB t n h1 w
 ·by_cases h2:n≤255
  ·exact Tf t n h1 h2 w
  ·exact Th t n h1 h2 h w
end DerW
end
section
namespace DerW
open Go.RowKit Af DerP
def Rds (w:World) (B:Nat) (A:Option Addr) (ls:List L):Prop:=
 ls = []∨∃b o,A=some ⟨b,o,none⟩∧b<B∧∀i l,ls[i]? = some l→∃A' c',w.cell? ⟨b,o+i,none⟩=some (.slice A' l.length c')∧Rd w B A' (bvs l)
theorem Rds.at_ {w:World} {B:Nat} {A:Option Addr} {ls:List L} (h:Rds w B A ls) {i:Nat} {l:L} (hi:ls[i]? = some l) :
  ∃b o,A=some ⟨b,o,none⟩∧b<B∧∃A' c',w.cell? ⟨b,o+i,none⟩=some (.slice A' l.length c')∧Rd w B A' (bvs l):=by
 rcases h with h | ⟨b,o,h1,h2,h3⟩
 ·subst h;simp at hi
 ·exact⟨b,o,h1,h2,h3 i l hi⟩
theorem Rds.below {w w':World} {B:Nat} {A:Option Addr} {ls:List L} (h:Rds w B A ls) (hb:Below B w w'):Rds w' B A ls:=by
 rcases h with h | ⟨b,o,h1,h2,h3⟩
 ·exact .inl h
 ·refine .inr ⟨b,o,h1,h2,fun i l hl=>?_⟩
  obtain⟨A',c',g1,g2⟩:=h3 i l hl;exact⟨A',c',(hb.cell (p:=⟨b,o+i,none⟩) h2).trans g1,g2.below hb⟩
theorem Ii (ls:List L) (k:Nat) (l:L) (h:ls[k]? = some l):(ls.take (k+1)).flatten=(ls.take k).flatten++l:=by
 obtain⟨hk,e⟩:=List.getElem?_eq_some_iff.1 h;rw[List.take_succ_eq_append_getElem hk,e];simp
theorem Ij (ls:List L) (k:Nat):(ls.take k).flatten.length≤ls.flatten.length:=by
 conv=>rhs;rw[←List.take_append_drop k ls,List.flatten_append,List.length_append]
 omega
def pre (ls:List L) (k:Nat):Nat:=(ls.take k).flatten.length
def built (t:UInt8) (ls:List L) (k:Nat):L:=t :: szL ls.flatten.length++(ls.take k).flatten
theorem Tj (ls:List L) (k:Nat) (l:L) (h:ls[k]? = some l):pre ls (k+1)=pre ls k+l.length:=by
 rw[pre,Ii ls k l h,List.length_append];rfl
theorem Xe (ls:List L) (k:Nat):pre ls k≤ls.flatten.length:=Ij ls k
theorem Vw (ls:List L):pre ls ls.length=ls.flatten.length:=by rw[pre,List.take_of_length_le (Nat.le_refl _)]
theorem OC (t:UInt8) (ls:List L) (k:Nat) (l:L) (h:ls[k]? = some l):built t ls (k+1)=built t ls k++l:=by
 rw[built,Ii ls k l h,built,List.append_assoc]
theorem Qd (t:UInt8) (ls:List L):built t ls ls.length=elem t ls.flatten:=by
 rw[built,List.take_of_length_le (Nat.le_refl _)];rfl
theorem Tl (t:UInt8) (ls:List L) (k:Nat) (h:ls.flatten.length≤65535):(built t ls k).length≤65539:=by
 have h1:=Ij ls k;have h2:=BI ls.flatten.length;have h3:(szL ls.flatten.length).length≤3:=by rw[h2];split<;>(try split)<;>omega
 rw[built,List.length_append,List.length_cons];omega
theorem Df (t : UInt8) (ls : List L) (A : Option Addr) (m c B : Nat) (w : World) (hr : Rds w B A ls) (hm : m = ls.length) (hB : B ≤ w.heap.size) (hl : ls.flatten.length ≤ 65535) (hc : ls.length ≤ 1000000) :
    Calls Tryz.prog 217 #[.int .u8 t.toNat,.slice A m c] w fun e w'=>
      ∃v,e = .returned v∧w'.ownsRow w.heap.size 5 1 v (elem t ls.flatten).length (bvs (elem t ls.flatten))∧Below w.heap.size w w':=by
  obtain⟨i0,hi0,hz0,hs0,hb0⟩:=info_parts BD;have hpa:=Vw ls;have hh:∀W,Calls Tryz.prog 257 #[.int .u8 t.toNat,.int .i64 ((pre ls m:Nat):Int)] W fun e w'=>
    ∃v,e = .returned v∧w'.ownsRow W.heap.size 5 1 v (built t ls 0).length (bvs (built t ls 0))∧Below W.heap.size W w':=by
    intro W;have:=Ti t _ hl W;have e1:built t ls 0=t :: szL ls.flatten.length:=by simp [built]
    rw[e1,hm,hpa,List.length_cons,Nat.add_comm];exact this
  have HH:=I hh;clear hh;have hpl:=I (fun k=>Nat.le_trans (Xe ls k) hl);have hbl:=I (fun k=>Tl t ls k hl);have hba:=I (Qd t ls);have hml:=I ml;have HR:=I hr;clear hr;have hc':(m:Int)≤1000000:=by omega
  have HM:=I hm;clear hm hc hl hpa;go_enter Tryz.func217,Tryz.ntmps217
  go_wp2
  go_loop [5,13] (fun n i=>∃k:Nat,k≤m∧i = .int .i64 (k:Int)∧n = .int .i64 ((pre ls k:Nat):Int)) (fun _ i=>m - (intOf i).toNat)
  case atStart=>exact⟨0,by omega,rfl,rfl⟩
  case round=>
    obtain⟨k,hk,rfl,rfl⟩:=hrel
    by_cases hlt:k<m
    · obtain ⟨l, hx⟩ : ∃ l, ls[k]? = some l := ⟨_, List.getElem?_eq_getElem (by have := HM.o; omega)⟩
      obtain⟨b,o,rfl,hb,A',c',hcell,hrd⟩:=HR.o.at_ hx;have hf1:=hpl.o k;have hf2:=hpl.o (k+1);have hs:=Tj ls k l hx;have HS:=I hs;have g1:decide ((65535:Int)<((pre ls k:Nat):Int)+(l.length:Int))=false:=by simp only[decide_eq_false_iff_not];omega
      have hll:(l.length:Int)≤65535:=by omega
      have hf1':((pre ls k:Nat):Int)≤65535:=by omega
      clear hs hf1 hf2 hx hrd
      go_wp2
      exact⟨⟨k+1,by omega,by go_num,by rw[HS.o];go_num⟩,by simp [intOf];omega⟩
    · obtain rfl : k = m := by omega
      clear hk hlt
      go_wp2_with (go_at_call 257;refine(HH.o _).mono ?_;rintro e w1 ⟨v,rfl,hown,hbel⟩)
      go_loopw [8,29] (fun v i wr=>∃j:Nat,j≤k∧i = .int .i64 (j:Int)∧wr.ownsRow w.heap.size 5 1 v (built t ls j).length (bvs (built t ls j))∧Below w.heap.size w wr) (fun _ i _=>k - (intOf i).toNat)
      case atStart=>exact⟨0,by omega,rfl,hown,hbel⟩
      case round=>
        obtain⟨j,hj,rfl,hown1,hbel1⟩:=hrel
        by_cases hlt:j<k
        · obtain ⟨l, hx⟩ : ∃ l, ls[j]? = some l := ⟨_, List.getElem?_eq_getElem (by have := HM.o; omega)⟩
          obtain⟨b,o,rfl,hb,A',c',hcell,hrd⟩:=(HR.o.below (hbel1.mono hB)).at_ hx;have hs:=OC t ls j l hx;have hf1:=hbl.o j;have hf2:=hbl.o (j+1);have hs1:=congrArg List.length hs;rw[List.length_append] at hs1;have HS:=I hs;have hsum:(built t ls j).length+l.length≤65539:=by omega
          have HO:=I hown1;have HQ:=I hrd;clear hs hs1 hx hf1 hf2 hown1 hrd hown
          go_wp2_with (at_builtin
                       refine Au _ rfl (.tmp 33) (.tmp 34) 30 rfl w.heap.size 5 i0 _ 1 Tryz.underlying30 hi0 hz0 hs0 hb0 rfl _ (built t ls j).length (bvs (built t ls j)) rfl HO.o B A' l.length c' (bvs l) rfl (Aj l).symm HQ.o (Bf _) (hml.o _ (by omega)) (by omega) hbel1.size ?_;intro v2 w2 hown2 hg2 hat2)
          refine⟨⟨j+1,by omega,by go_num,?_,hbel1.grown hg2 hbel1.size (fun i hi=>(HO.o.lt i hi).1)⟩,by simp [intOf];omega⟩;rw[HS.o,Bx,List.length_append];exact hown2
        · obtain rfl : j = k := by omega
          clear hj hlt
          go_wp2
          go_ret;have e:built t ls j=elem t ls.flatten:=by rw[HM.o];exact hba.o
          rw[e] at hown1;exact⟨_,rfl,hown1,hbel1⟩
end DerW
end
end Go.Proofs.YtfcjeebnkigeaaaGreat
