import Derived.Lib.ItoaNum
import Derived.WalkKit
import Derived.WalkSpells
import Derived.WalkLawsBesides
import Derived.LaidEqlPtr
import Derived.Maps.AppendAt
import Derived.Maps.Range
import Derived.Maps.RangeWalk
import Derived.Deep.AppendLies
import Derived.Deep.Draws
import Derived.Deep.Onto
import Derived.Lib.ConvBytes
import Derived.Lib.Hide
import Derived.RegionTactic
import Derived.Deep.QuietTactic
import Derived.BigQuiet
import Derived.Laws.BitsAllLaws
import Derived.Laws.BitsLemmas
import Derived.Test.YtcpccikongbopaaGreatProg
import Derived.Lib.Strings
import Derived.Lib.Walk
import Derived.Lib.Bytealg
import Derived.Lib.BufferWrite
import Derived.Lib.UnsafeStr
import Derived.Laws.MakeOwn
import Derived.Laws.OwnMore
import Derived.Deep.WholeRow
import Derived.Deep.LoopGhost
import Derived.IntWalk
import Derived.Deep.RegionHeld3
import Derived.Deep.Cut
import Derived.Deep.CutRange
import Derived.Deep.CutBlock
import Derived.Deep.MidRow
import Derived.StillTailTactics
import Derived.Laws.Bits64
import Derived.Deep.RegionLaw
import Derived.Laws.Bits64b
import Derived.ProofKit
import Derived.OpenShut
import Derived.ShutString
import Derived.ChangeOld
import Derived.Deep.Matrix
import Derived.Deep.Slices
import Derived.Lib.SlBytesConst
import Derived.BigFrame
import Derived.Great.BuildSlice
import Derived.Laws.StructEq
import Derived.Lib.SliceRun
import Derived.Lib.BitFns
import Derived.Lib.Tables
import Derived.Lib.MinMax
import Derived.Laws.IdiomCopy
import Derived.Laws.Tables
import Derived.SizedLaws
import Derived.Test.YtcpccikongbopaaGreatRows
import Derived.Below
set_option maxHeartbeats 25600000
set_option maxRecDepth 100000
set_option linter.unusedVariables false
set_option linter.unusedSimpArgs false
theorem Go.RowKit.Hid.o {p : Prop} (h : Go.RowKit.Hid p) : p := h
theorem Go.Aside.o {p : Prop} (h : Go.Aside p) : p := h
theorem Go.Shut.o {p : Prop} (h : Go.Shut p) : p := h
namespace Go.Proofs.YtcpccikongbopaaGreat
theorem I {p : Prop} (h : p) : Go.RowKit.Hid p := h
theorem Ag {P:Program} {f:FuncId} {args:Array Value} {w:World} {r:Ending} {K:World->Prop} {Q:Ending->World->Prop} (h:Calls P f args w fun e w'=>e=r/\K w') (k:∀w',K w'->Q r w'):Calls P f args w Q:=h.mono fun e w' x=>x.1.symm▸k w' x.2
theorem Ah {α:Sort _} (a:α):∃x,x=a:=⟨a,rfl⟩
theorem Ae {n : Nat} : n <= n := Nat.le_refl n
theorem Af {n : Nat} {w : World} : Go.RowKit.Below n w w := Go.RowKit.Below.refl n w
theorem J {α : Type} (l : List α) (i : Nat) (a : α) : l.toArray.setIfInBounds i a = (l.set i a).toArray := List.setIfInBounds_toArray ..
theorem U {α : Type} {x : α} {xs : List α} {a : α} : (x :: xs).set 0 a = a :: xs := rfl
theorem Aa {α : Type} {x : α} {xs : List α} {n : Nat} {a : α} : (x :: xs).set (n + 1) a = x :: xs.set n a := rfl
end Go.Proofs.YtcpccikongbopaaGreat
theorem Go.RowKit.Hid.t {a w w' : Go.World} (h : Go.RowKit.Hid (Go.RowKit.Below a.heap.size a w)) (k : Go.RowKit.Below w.heap.size w w') : Go.RowKit.Hid (Go.RowKit.Below a.heap.size a w') := Go.Proofs.YtcpccikongbopaaGreat.I (h.o.trans (k.mono h.o.size))
namespace Go.Proofs.YtcpccikongbopaaGreat
namespace DerP
abbrev L:=List UInt8
def szL (n:Nat):L:=if n<128 then [UInt8.ofNat n] else if n<=255 then [129,UInt8.ofNat n] else [130,UInt8.ofNat (n / 256),UInt8.ofNat n]
def elem (t:UInt8) (p:L):L:=t :: (szL p.length++p)
def lenR:L->Nat×Nat×Bool
 | []=>(0,0,false)
 |a :: r=>
  if a.toNat<128 then (a.toNat,1,true)
  else if a.toNat=129 then
   match r with
   | []=>(0,0,false)
   |b :: _=>(b.toNat,2,decide (128<=b.toNat))
  else if a.toNat=130 then
   match r with
   |b :: c :: _=>(b.toNat*256+c.toNat,3,decide (255<b.toNat*256+c.toNat))
   |_=>(0,0,false)
  else (0,0,false)
def Be (t:UInt8):L->Option (L×L)
 | []=>none
 |a :: s=>
  if a=t/\(lenR s).2.2=true/\(lenR s).1+(lenR s).2.1<=s.length
  then some ((s.drop (lenR s).2.1).take (lenR s).1,(s.drop (lenR s).2.1).drop (lenR s).1) else none
def AK (t:UInt8) (c:Option L):Option L:=(c.bind (Be t)).map (·.2)
def Ar (t:UInt8) (c:Option L):Option L:=(c.bind (Be t)).map (·.1)
theorem Bk {t:UInt8} {s:L} (h:Be t s=none):Ar t (some s)=none/\AK t (some s)=none:=by simp [Ar,AK,h]
theorem Dr {t:UInt8} {s b r:L} (h:Be t s=some (b,r)):Ar t (some s)=some b/\AK t (some s)=some r:=by simp [Ar,AK,h]
def val (l:L):Nat:=l.foldl (fun a b=>a*256+b.toNat) 0
def Bf:L->Bool
 | []=>false
 |b :: _=>decide (b.toNat<128)
def numL:L->Option Nat
 | []=>none
 |a :: r=>
  if 7<r.length\/128<=a.toNat then none
  else if a.toNat=0/\Bf r=true then none
  else if 4611686018427387904<val (a :: r) then none
  else some (val (a :: r))
def digK:Nat->Nat->L
 |0,_=>[]
 |k+1,n=>digK k (n / 256)++[UInt8.ofNat n]
def dig (n:Nat):L:=digK (Lib.bitLen n / 8+1) n
def BT (n:Int):Nat:=(min (max n 0) 4611686018427387904).toNat
def encI (n:Int):L:=elem 2 (dig (BT n))
def intC (c:Option L):Nat×Option L:=
 match Ar 2 c with
 |none=>(0,none)
 |some b=>match numL b with
  |none=>(0,none)
  |some n=>(n,AK 2 c)
theorem Eh (n:Int):BT n<=4611686018427387904:=by unfold BT;omega
theorem Hr (n:Int) (E:0<=n) (D:n<=4611686018427387904):BT n=n.toNat:=by unfold BT;omega
theorem IM (n:Int):((BT n:Nat):Int)=min (max n 0) 4611686018427387904:=by unfold BT;omega
theorem Bb (k n:Nat):(digK k n).length=k:=by
 induction k generalizing n with
 |zero=>rfl
 |succ k ih=>simp [digK,ih]
theorem Jf (l:L) (b:UInt8):val (l++[b])=val l*256+b.toNat:=by simp [val]
theorem LZ (k n:Nat):val (digK k n)=n % 256 ^ k:=by
 induction k generalizing n with
 |zero=>simp [digK,val,Nat.mod_one]
 |succ k ih=>
  rw[digK,Jf,ih];have D:(UInt8.ofNat n).toNat=n % 256:=by simp
  rw[D,Nat.pow_succ,Nat.mul_comm (256 ^ k) 256,Nat.mod_mul];omega
theorem MY (l:L) (k:Nat) (h:l.length=k+1):∃m b,l=m++[b]/\m.length=k:=by
 refine⟨l.take k,l[k]'(by omega),?_,by simp;omega⟩;rw[List.take_append_getElem];rw[List.take_of_length_le (by omega)]
theorem Ma (k:Nat) (l:L) (h:l.length=k):digK k (val l)=l:=by
 induction k generalizing l with
 |zero=>rw[List.length_eq_zero_iff.1 h];rfl
 |succ k ih=>
  obtain⟨m,b,rfl,hm⟩:=MY l k h;rw[digK,Jf];have D:=b.toNat_lt;have e:(val m*256+b.toNat) / 256=val m:=by omega
  rw[e,ih m hm]
  congr 1
  simp only[List.cons.injEq,and_true];apply UInt8.toNat_inj.1;simp
theorem Ox (k n j:Nat) (h:j<k):(digK k n)[j]? = some (UInt8.ofNat (n / 256 ^ (k - 1 - j))):=by
 induction k generalizing n with
 |zero=>omega
 |succ k ih=>
  rw[digK]
  by_cases hj:j<k
  ·rw[List.getElem?_append_left (by rw[Bb];exact hj),ih _ hj]
   congr 2
   rw[Nat.div_div_eq_div_mul]
   congr 1
   rw[show k+1 - 1 - j=(k - 1 - j)+1 by omega,Nat.pow_succ,Nat.mul_comm]
  ·obtain rfl:j=k:=by omega
   rw[List.getElem?_append_right (by rw[Bb];omega),Bb];simp
theorem Oy (l:L) (j:Nat) (b:UInt8) (h:l[j]? = some b):l.drop j=b :: l.drop (j+1):=by
 obtain⟨D,e⟩:=List.getElem?_eq_some_iff.1 h;rw[List.drop_eq_getElem_cons D,e]
theorem Oz (l:L):val l<256 ^ l.length:=by
 have h:=LZ l.length (val l);rw[Ma l.length l rfl] at h;have D:0<256 ^ l.length:=Nat.pow_pos (by omega);rw[h];exact Nat.mod_lt _ D
theorem OA (l:L) (x:Nat):l.foldl (fun a b=>a*256+b.toNat) x=x*256 ^ l.length+val l:=by
 induction l generalizing x with
 |nil=>simp [val]
 |cons a r ih=>
  have e:val (a :: r)=a.toNat*256 ^ r.length+val r:=by
   show List.foldl _ (0*256+a.toNat) r=_;rw[ih];simp
  rw[List.foldl_cons,ih,e,List.length_cons,Nat.pow_succ,Nat.add_mul,Nat.mul_assoc,Nat.mul_comm 256,Nat.add_assoc]
theorem FN (a:UInt8) (r:L):val (a :: r)=a.toNat*256 ^ r.length+val r:=by
 show List.foldl _ (0*256+a.toNat) r=_;rw[OA];simp
theorem Ei (x:Nat) (M:x<18446744073709551616) (k:Nat) (h:2 ^ k<=x):k+1<=Lib.bitLen x:=by
 have D:x≠0:=by
  have:=Nat.pow_pos (n:=k) (show 0<2 by omega);omega
 obtain⟨_,_,F⟩:=Lib.bitLenAux_bounds 64 x (by simpa using M) D;have E:2 ^ k<2 ^ Lib.bitLen x:=Nat.lt_of_le_of_lt h F;have:=(Nat.pow_lt_pow_iff_right (a:=2) (by omega)).1 E;omega
theorem Da (x k:Nat) (hk:k<=64) (h:x<2 ^ k):Lib.bitLen x<=k:=Lib.bitLen_le x k hk h
theorem JQ (x:Nat) (D:x<18446744073709551616):x<2 ^ Lib.bitLen x:=by
 by_cases h0:x=0
 ·subst h0;exact Nat.pow_pos (by omega)
 ·exact(Lib.bitLenAux_bounds 64 x (by simpa using D) h0).2.2
theorem FO (n:Nat) (h:n<=4611686018427387904):Lib.bitLen n<=63:=Da n 63 (by omega) (by omega)
theorem Gr (n:Nat):(dig n).length=Lib.bitLen n / 8+1:=Bb _ _
theorem Uv (n:Nat) (h:n<=4611686018427387904):(dig n).length<=8:=by
 rw[Gr];have:=FO n h;omega
theorem Fz (k:Nat):256 ^ k=2 ^ (8*k):=by rw[Nat.pow_mul]
theorem Uw (n:Nat) (h:n<=4611686018427387904):val (dig n)=n:=by
 rw[dig,LZ];apply Nat.mod_eq_of_lt;rw[Fz];refine Nat.lt_of_lt_of_le (JQ n (by omega)) (Nat.pow_le_pow_right (by omega) (by omega))
theorem OB (n:Nat) (h:n<=4611686018427387904):numL (dig n)=some n:=by
 have F:=Uw n h;have D:=Gr n;have Z:=FO n h;have X:=JQ n (by omega);cases hd:dig n with
 |nil=>rw[hd] at D;simp at D
 |cons a r=>
  rw[hd] at F D;simp only[List.length_cons] at D;have hr:r.length=Lib.bitLen n / 8:=by omega
  have M:=FN a r;rw[F] at M;have ha:a.toNat<128:=by
   rcases Nat.lt_or_ge a.toNat 128 with g | g
   ·exact g
   ·exfalso
    have E:128*256 ^ r.length<=n:=by
     have:=Nat.mul_le_mul_right (256 ^ r.length) g;omega
    have O:2 ^ (8*r.length+7)<=n:=by
     rw[Nat.pow_add,<-Fz,Nat.mul_comm];simpa using E
    have h3:=Ei n (by omega) _ O;omega
  have hs:¬(a.toNat=0/\Bf r=true):=by
   rintro⟨h0,E⟩;cases r with
   |nil=>simp [Bf] at E
   |cons b q=>
    simp only[Bf,decide_eq_true_eq] at E;have hq:=FN b q;have hb:=Oz q;simp only[List.length_cons] at hr M;rw[h0] at M;have h4:n<128*256 ^ q.length:=by
     have:(b.toNat+1)*256 ^ q.length<=128*256 ^ q.length:=Nat.mul_le_mul_right _ (by omega);rw[Nat.add_mul] at this;omega
    have Y:n<2 ^ (8*q.length+7):=by
     rw[Nat.pow_add,<-Fz,Nat.mul_comm];simpa using h4
    have h6:=Da n (8*q.length+7) (by omega) Y;omega
  simp only[numL];rw[if_neg (by omega),if_neg hs,if_neg (by omega),F]
theorem DR (l:L) (i:Nat) (h:i<l.length):val (l.take (i+1))=val (l.take i)*256+(l[i]).toNat:=by
 rw[List.take_succ_eq_append_getElem h,Jf]
theorem Hs {a:UInt8} {r:L} (M:a.toNat<128) (Y:r.length<=7) (i:Nat):val ((a :: r).take i)<9223372036854775808:=by
 cases i with
 |zero=>simp [val]
 |succ i=>
  rw[List.take_succ_cons,FN];have O:=Oz (r.take i);have D:(r.take i).length<=7:=by have:=List.length_take_le i r;have:=List.length_take_le' i r;omega
  have E:256 ^ (r.take i).length<=256 ^ 7:=Nat.pow_le_pow_right (by omega) D;have F:(a.toNat+1)*256 ^ (r.take i).length<=128*256 ^ 7:=Nat.mul_le_mul (by omega) E;rw[Nat.add_mul] at F;have X:(128:Nat)*256 ^ 7=9223372036854775808:=by decide
  omega
def numR (s:L):Nat×Bool:=((numL s).getD 0,(numL s).isSome)
theorem Ej {a:UInt8} {r:L} (h:(7<r.length\/128<=a.toNat)\/(a.toNat=0/\Bf r=true)\/4611686018427387904<val (a :: r)):numL (a :: r)=none:=by
 rw[numL]
 by_cases h1:7<r.length\/128<=a.toNat
 ·rw[if_pos h1]
 ·rw[if_neg h1]
  by_cases h2:a.toNat=0/\Bf r=true
  ·rw[if_pos h2]
  ·rw[if_neg h2]
   rcases h with h | h | h
   ·exact absurd h h1
   ·exact absurd h h2
   ·rw[if_pos h]
theorem Ek {s:L} (h:numL s=none):numR s=(0,false):=by rw[numR,h];rfl
theorem OC {a:UInt8} {r:L} (h:7<r.length):numR (a :: r)=(0,false):=Ek (Ej (.inl (.inl h)))
theorem OD {a:UInt8} {r:L} (h:128<=a.toNat):numR (a :: r)=(0,false):=Ek (Ej (.inl (.inr h)))
theorem OE {a b:UInt8} {r:L} (h:a.toNat=0) (D:b.toNat<128):numR (a :: b :: r)=(0,false):=Ek (Ej (.inr (.inl ⟨h,by simpa [Bf] using D⟩)))
theorem MZ {a:UInt8} {r:L} (h:4611686018427387904<val (a :: r)):numR (a :: r)=(0,false):=Ek (Ej (.inr (.inr h)))
theorem OF {a:UInt8} {r:L} (E:r.length<=7) (F:a.toNat<128) (D:¬(a.toNat=0/\Bf r=true)) (M:val (a :: r)<=4611686018427387904):numR (a :: r)=(val (a :: r),true):=by
 simp only[numR,numL];rw[if_neg (by omega),if_neg D,if_neg (by omega)];rfl
theorem El {p:L} {n:Nat} (h:numL p=some n):n=val p/\n<=4611686018427387904/\1<=p.length/\p.length<=8/\Lib.bitLen n / 8+1=p.length:=by
 cases p with
 |nil=>simp [numL] at h
 |cons a r=>
  simp only[numL] at h
  by_cases c1:7<r.length\/128<=a.toNat
  ·rw[if_pos c1] at h;cases h
  ·rw[if_neg c1] at h
   by_cases c2:a.toNat=0/\Bf r=true
   ·rw[if_pos c2] at h;cases h
   ·rw[if_neg c2] at h
    by_cases c3:4611686018427387904<val (a :: r)
    ·rw[if_pos c3] at h;cases h
    ·rw[if_neg c3] at h
     injection h with h;subst h;have hc:=FN a r;have Y:=Oz r;have M:val (a :: r)<2 ^ (8*r.length+7):=by
      have:(a.toNat+1)*256 ^ r.length<=128*256 ^ r.length:=Nat.mul_le_mul_right _ (by omega);rw[Nat.add_mul] at this;rw[Nat.pow_add,<-Fz,Nat.mul_comm];have e:(2:Nat) ^ 7=128:=by decide
      rw[e];omega
     have hu:=Da _ _ (by omega) M;have D:r.length=0\/8*r.length<=Lib.bitLen (val (a :: r)):=by
      cases r with
      |nil=>left;rfl
      |cons b q=>
       right
       have Z:=FN b q;simp only[List.length_cons] at *
       by_cases ha:a.toNat=0
       ·have X:128<=b.toNat:=by
         have:¬Bf (b :: q)=true:=fun g=>c2 ⟨ha,g⟩
         simp only[Bf,decide_eq_true_eq] at this;omega
        have F:128*256 ^ q.length<=val (a :: b :: q):=by
         have:=Nat.mul_le_mul_right (256 ^ q.length) X;omega
        have E:2 ^ (8*q.length+7)<=val (a :: b :: q):=by
         rw[Nat.pow_add,<-Fz,Nat.mul_comm];simpa using F
        have:=Ei _ (by omega) _ E;omega
       ·have F:1*256 ^ (q.length+1)<=val (a :: b :: q):=by
         have:=Nat.mul_le_mul_right (256 ^ (q.length+1)) (show 1<=a.toNat by omega);omega
        have E:2 ^ (8*(q.length+1))<=val (a :: b :: q):=by
         rw[<-Fz];simpa using F
        have:=Ei _ (by omega) _ E;omega
     simp only[List.length_cons];refine⟨trivial,by omega,by omega,by omega,?_⟩;rcases D with O | O
     ·omega
     ·omega
theorem Ux {p:L} {n:Nat} (h:numL p=some n):dig n=p:=by
 obtain⟨D,_,_,_,E⟩:=El h;rw[dig,E,D];exact Ma _ _ rfl
theorem Fg {a:UInt8} {r:L} (h:a.toNat<128):lenR (a :: r)=(a.toNat,1,true):=by simp [lenR,h]
theorem Em {a:UInt8} (h:a.toNat=129):lenR [a]=(0,0,false):=by simp [lenR,h]
theorem FP {a b:UInt8} {r:L} (h:a.toNat=129):lenR (a :: b :: r)=(b.toNat,2,decide (128<=b.toNat)):=by simp [lenR,h]
theorem Eo {a:UInt8} (h:a.toNat=130):lenR [a]=(0,0,false):=by simp [lenR,h]
theorem Ep {a b:UInt8} (h:a.toNat=130):lenR [a,b]=(0,0,false):=by simp [lenR,h]
theorem Fh {a b c:UInt8} {r:L} (h:a.toNat=130):lenR (a :: b :: c :: r)=(b.toNat*256+c.toNat,3,decide (255<b.toNat*256+c.toNat)):=by simp [lenR,h]
theorem Ht {a:UInt8} {r:L} (D:¬a.toNat<128) (E:¬a.toNat=129) (F:¬a.toNat=130):lenR (a :: r)=(0,0,false):=by simp [lenR,D,E,F]
theorem OG (s:L):(lenR s).1<=65535/\(lenR s).2.1<=3:=by
 cases s with
 |nil=>simp [lenR]
 |cons a r=>
  have D:=a.toNat_lt
  by_cases h1:a.toNat<128
  ·rw[Fg h1];simp;omega
  ·by_cases h2:a.toNat=129
   ·cases r with
    |nil=>rw[Em h2];simp
    |cons b q=>rw[FP h2];have:=b.toNat_lt;simp;omega
   ·by_cases h3:a.toNat=130
    ·rcases r with _ | ⟨b,_ | ⟨c,q⟩⟩
     ·rw[Eo h3];simp
     ·rw[Ep h3];simp
     ·rw[Fh h3];have:=b.toNat_lt;have:=c.toNat_lt;simp;omega
    ·rw[Ht h1 h2 h3];simp
theorem BZ (n:Nat):(szL n).length=if n<128 then 1 else if n<=255 then 2 else 3:=by
 unfold szL;split
 ·rfl
 ·split<;>rfl
theorem CN (t:UInt8) (p:L):(elem t p).length=1+(szL p.length).length+p.length:=by
 simp [elem];omega
theorem Rr (n:Nat) (h:n<=65535) (r:L):lenR (szL n++r)=(n,(szL n).length,true):=by
 unfold szL
 by_cases h1:n<128
 ·have e:n % 256=n:=by omega
  simp [h1,lenR,e]
 ·by_cases h2:n<=255
  ·have e:(UInt8.ofNat n).toNat=n:=by simp;omega
   simp [h1,h2,lenR];omega
  ·have E:(UInt8.ofNat (n / 256)).toNat=n / 256:=by simp;omega
   have F:(UInt8.ofNat n).toNat=n % 256:=by simp
   have D:n / 256 % 256*256+n % 256=n:=by omega
   simp [h1,h2,lenR,D];omega
theorem KS {s:L} (h:(lenR s).2.2=true):szL (lenR s).1=s.take (lenR s).2.1/\(lenR s).2.1=(szL (lenR s).1).length/\(lenR s).2.1<=s.length/\(lenR s).1<=65535:=by
 have key:∀a:UInt8,UInt8.ofNat a.toNat=a:=fun a=>by simp
 cases s with
 |nil=>simp [lenR] at h
 |cons a r=>
  have ha:=a.toNat_lt
  by_cases h1:a.toNat<128
  ·simp [lenR,h1,szL];omega
  ·by_cases h2:a.toNat=129
   ·cases r with
    |nil=>simp [lenR,h2] at h
    |cons b q=>
     have Y:=b.toNat_lt;have D:a=129:=UInt8.toNat_inj.1 h2;subst D;simp [lenR] at h;have E:¬b.toNat<128:=by omega
     have O:b.toNat<=255:=by omega
     simp [lenR,szL,E,O];omega
   ·by_cases E:a.toNat=130
    ·rcases r with _ | ⟨b,_ | ⟨c,q⟩⟩
     ·simp [lenR,E] at h
     ·simp [lenR,E] at h
     ·have Y:=b.toNat_lt
      have hc:=c.toNat_lt;have D:a=130:=UInt8.toNat_inj.1 E;subst D;simp [lenR] at h;have X:¬b.toNat*256+c.toNat<128:=by omega
      have Z:¬b.toNat*256+c.toNat<=255:=by omega
      have F:UInt8.ofNat ((b.toNat*256+c.toNat) / 256)=b:=by
       rw[show(b.toNat*256+c.toNat) / 256=b.toNat by omega];simp
      have M:UInt8.ofNat (b.toNat*256+c.toNat)=c:=by
       apply UInt8.toNat_inj.1;simp
      simp only[lenR,szL];simp [X,Z,F,M];omega
    ·simp [lenR,h1,h2,E] at h
theorem DG (t:UInt8) (p r:L) (h:p.length<=65535):Be t (elem t p++r)=some (p,r):=by
 show Be t (t :: (szL p.length++p++r))=_;rw[List.append_assoc,Be,Rr _ h];simp;omega
theorem Hu {t:UInt8} {s b r:L} (h:Be t s=some (b,r)):s=elem t b++r/\b.length<=65535:=by
 cases s with
 |nil=>simp [Be] at h
 |cons a s=>
  simp only[Be] at h
  by_cases hc:a=t/\(lenR s).2.2=true/\(lenR s).1+(lenR s).2.1<=s.length
  ·rw[if_pos hc] at h
   obtain⟨rfl,F,M⟩:=hc;obtain⟨D,Y,X,O⟩:=KS F;injection h with h;injection h with hb hr;have E:b.length=(lenR s).1:=by rw[<-hb];simp;omega
   refine⟨?_,by omega⟩;rw[elem,E,D,<-hb,<-hr,List.cons_append,List.append_assoc,List.take_append_drop,List.take_append_drop]
  ·rw[if_neg hc] at h;cases h
theorem Mb {t:UInt8} {p q r1 r2:L} (E:p.length<=65535) (F:q.length<=65535) (h:elem t p++r1=elem t q++r2):p=q/\r1=r2:=by
 have D:=DG t p r1 E;rw[h,DG t q r2 F] at D;injection D with D;injection D with D h2;exact⟨D.symm,h2.symm⟩
theorem Hv (t:UInt8) (p:L) (E:p.length<=65535) (k:Nat) (hk:k<(elem t p).length):Be t ((elem t p).take k)=none:=by
 cases h:Be t ((elem t p).take k) with
 |none=>rfl
 |some x=>
  obtain⟨b,r⟩:=x;obtain⟨F,D⟩:=Hu h;have X:elem t p++[]=elem t b++(r++(elem t p).drop k):=by
   rw[<-List.append_assoc,<-F,List.take_append_drop,List.append_nil]
  obtain⟨_,M⟩:=Mb E D X;have O:=congrArg List.length M;simp at O;omega
theorem Er {t:UInt8} {s b r:L} (h:Be t s=some (b,r)):b.length<=s.length/\r.length<=s.length:=by
 have:=congrArg List.length (Hu h).1;simp [CN] at this;omega
theorem Cq (t:UInt8) (c:Option L):((Ar t c).getD []).length<=(c.getD []).length/\((AK t c).getD []).length<=(c.getD []).length:=by
 cases c with
 |none=>simp [Ar,AK]
 |some s=>
  cases h:Be t s with
  |none=>obtain⟨D,E⟩:=Bk h;rw[D,E];simp
  |some x=>
   obtain⟨b,r⟩:=x;obtain⟨D,E⟩:=Dr h;rw[D,E];exact Er h
theorem FR (t:UInt8) (c:Option L) (h:Ar t c=none):AK t c=none:=by
 unfold Ar at h;unfold AK;rw[Option.map_eq_none_iff] at h⊢;exact h
theorem OH {t u:UInt8} {s:L} (h:t≠u):Be u (t :: s)=none:=by
 simp [Be,h]
theorem Hg (n:Int):(dig (BT n)).length<=8:=Uv _ (Eh n)
theorem Uy (n:Int) (r:L):intC (some (encI n++r))=(BT n,some r):=by
 have h:=DG 2 (dig (BT n)) r (by have:=Hg n;omega);simp only[intC,Ar,AK,encI,Option.bind_some,h,Option.map_some,OB _ (Eh n)]
end DerP
namespace Ad
open Go.RowKit
theorem FT (l:List UInt8) (i:Nat) (h:i<(ByteArray.mk l.toArray).size):(ByteArray.mk l.toArray)[i]'h=l[i]'(by simpa [ByteArray.size] using h):=rfl
theorem Di (a:UInt8) (r:List UInt8):(ByteArray.mk (a :: r).toArray).extract 1 (r.length+1)=ByteArray.mk r.toArray:=by
 rw[ByteArray.extract_mk];simp
theorem Dj (l:List UInt8) (k:Nat):(ByteArray.mk l.toArray).extract k l.length=ByteArray.mk (l.drop k).toArray:=by
 rw[ByteArray.extract_mk,List.take_of_length_le (by simp)]
theorem Es (l:List UInt8) (k n:Nat):(ByteArray.mk l.toArray).extract k (k+n)=ByteArray.mk ((l.drop k).take n).toArray:=by
 rw[ByteArray.extract_mk,Nat.add_sub_cancel_left]
theorem By (a:UInt8):(a.toNat:Int)<=255:=by have:=a.toNat_lt;omega
theorem JR (s:ByteArray):s=⟨s.data.toList.toArray⟩:=by cases s;simp
theorem OI (a:Nat) (D:a<9223372036854775808):(BitVec.ofInt 64 (a:Int)).toNat=a:=by
 rw[BitVec.ofInt_natCast,BitVec.toNat_ofNat];exact Nat.mod_eq_of_lt (by omega)
theorem GW (x y:Nat) (O:y<256) (D:x*256+y<9223372036854775808):bits .or .i64 ((x:Int)*256) (y:Int)=(x:Int)*256+y:=by
 have E:=OI (x*256) (Nat.lt_of_le_of_lt (Nat.le_add_right _ _) D);have M:=OI y (Nat.lt_of_le_of_lt (Nat.le_add_left _ _) D);have e:((x:Int)*256)=((x*256:Nat):Int):=by omega
 have F:x*256 ||| y=x*256+y:=by
  have h:=Nat.shiftLeft_add_eq_or_of_lt (show y<2 ^ 8 by omega) x;rw[Nat.shiftLeft_eq] at h
  simpa using h.symm
 rw[e];show IntKind.i64.wrap ((BitVec.ofInt 64 ((x*256:Nat):Int) ||| BitVec.ofInt 64 (y:Int)).toNat:Int)=_;rw[BitVec.toNat_or,E,M,F,IntKind.wrap_i64];omega
def bv (b:UInt8):Value:=.int .u8 (b.toNat:Int)
def bvs (l:List UInt8):List Value:=l.map bv
theorem Ao (l:List UInt8):(bvs l).length=l.length:=by simp [bvs]
theorem Bw (l m:List UInt8):bvs (l++m)=bvs l++bvs m:=by simp [bvs]
theorem Bz (l:List UInt8):∀u∈bvs l,u.oneCell'=true:=by
 intro u hu;obtain⟨b,_,rfl⟩:=List.mem_map.1 hu
 rfl
theorem DH {l:List UInt8} {i:Nat} (h:i<l.length):(bvs l)[i]? = some (bv l[i]):=by simp [bvs,h]
def Rd (w:World) (B:Nat) (A:Option Addr) (xs:List Value):Prop:=
 xs = []\/∃b o,A=some ⟨b,o,none⟩/\b<B/\∀i u,xs[i]? = some u->w.cell? ⟨b,o+i,none⟩=some u
def Blk (w:World) (g:Nat) (t:TypeId) (cs:Array Value):Prop:=w.heap[g]? = some (.cells cs t (0,0))
theorem addr_add (b o j:Nat):(⟨b,o,none⟩:Addr).add j=⟨b,o+j,none⟩:=by unfold Addr.add;split<;>simp_all
section
variable {w w' a c:World} {B B' g:Nat} {A:Option Addr} {xs:List Value} {t:TypeId} {cs:Array Value}
theorem Et {row:Option Nat} (h:a.grownBy w row) (n:Nat):a.grownBy (w.drewN n) row:=⟨h.os,h.tape,h.output,h.size,h.block⟩
theorem AX {row:Option Nat} (h:a.grownBy w row):a.grownBy w.drew row:=⟨h.os,h.tape,h.output,h.size,h.block⟩
theorem Ce {row:Option Nat} (h:a.grownBy w row) (o:Obj):a.grownBy (w.alloc o) row:=
 ⟨h.os,h.tape,h.output,Nat.le_trans h.size (by simp),fun i E D=>(Below.heap_alloc w o i (Nat.lt_of_lt_of_le E h.size)).trans (h.block i E D)⟩
theorem Ay {row:Option Nat} (h:a.grownBy w row) {p:Addr} (E:row=some p.block\/a.heap.size<=p.block) (u:Value):a.grownBy (w.setCell p u) row:=
 ⟨h.os,h.tape,h.output,by simpa [World.setCell] using h.size,fun i F D=>(Below.heap_setCell w p u i (by
  rintro rfl;rcases E with E | E
  ·exact D E.symm
  ·omega)).trans (h.block i F D)⟩
theorem Bo (h:Below a.heap.size a w) (row:Option Nat):a.grownBy w row:=⟨h.os,h.tape,h.output,h.size,fun i D _=>h.block i D⟩
theorem FU {row:Option Nat} (h:a.grownBy w row) (k:Below w.heap.size w c):a.grownBy c row:=
 ⟨k.os.trans h.os,k.tape.trans h.tape,k.output.trans h.output,Nat.le_trans h.size k.size,fun i D E=>(k.block i (Nat.lt_of_lt_of_le D h.size)).trans (h.block i D E)⟩
theorem IN (h:Below B a w) (hB:B<=w.heap.size) (k:Below w.heap.size w c):Below B a c:=h.trans (k.mono hB)
theorem Al (h:Below B a w) (k:w.grownBy c (some g)) (hB:B<=w.heap.size) (E:B<=g):Below B a c:=
 h.grown k hB (fun j D=>by injection D with D;omega)
theorem bt (h:Below a.heap.size a w) (k:Below w.heap.size w c):Below a.heap.size a c:=h.trans (k.mono h.size)
theorem btg (h:Below a.heap.size a w) (k:w.grownBy c (some g)) (D:a.heap.size<=g):Below a.heap.size a c:=Al h k h.size D
theorem Blk.lt (h:Blk w g t cs):g<w.heap.size:=by
 rcases Nat.lt_or_ge g w.heap.size with D | D
 ·exact D
 ·unfold Blk at h;rw[Array.getElem?_eq_none D] at h;cases h
theorem Blk.cell (h:Blk w g t cs) (i:Nat):w.cell? ⟨g,i,none⟩=cs[i]?:=cell_of_row w g i cs t (0,0) h
theorem Blk.frozen (h:Blk w g t cs) (i:Nat):w.frozen? ⟨g,i,none⟩=false:=by
 unfold Blk at h;simp [World.frozen?,h]
theorem Blk.new (w:World) (t:TypeId) (cs:Array Value):Blk (w.alloc (.cells cs t)) w.heap.size t cs:=heap_alloc_new w _
theorem Blk.drewN (h:Blk w g t cs) (n:Nat):Blk (w.drewN n) g t cs:=h
theorem Blk.alloc (h:Blk w g t cs) (o:Obj):Blk (w.alloc o) g t cs:=(Below.heap_alloc w o g h.lt).trans h
theorem Blk.set (h:Blk w g t cs) (i:Nat) (u:Value):Blk (w.setCell ⟨g,i,none⟩ u) g t (cs.setIfInBounds i u):=by
 unfold Blk at h⊢;simp [World.setCell,Array.getElem?_modify,h]
theorem Blk.below (h:Blk w g t cs) (D:Below w.heap.size w w'):Blk w' g t cs:=(D.block g h.lt).trans h
theorem Blk.grown {row:Option Nat} (h:Blk w g t cs) (E:w.grownBy w' row) (D:row≠some g):Blk w' g t cs:=(E.block g h.lt (fun e=>D e.symm)).trans h
theorem Rd.keep (h:Rd w B A xs) (hk:∀b o,b<B->w'.cell? ⟨b,o,none⟩=w.cell? ⟨b,o,none⟩):Rd w' B A xs:=by
 rcases h with h | ⟨b,o,E,D,F⟩
 ·exact .inl h
 ·exact .inr ⟨b,o,E,D,fun i u hu=>(hk _ _ D).trans (F i u hu)⟩
theorem Rd.more (h:Rd w B A xs) (hB:B<=B'):Rd w B' A xs:=by
 rcases h with h | ⟨b,o,D,F,E⟩
 ·exact .inl h
 ·exact .inr ⟨b,o,D,by omega,E⟩
theorem Rd.below (h:Rd w B A xs) (E:Below B w w'):Rd w' B A xs:=h.keep fun _ _ D=>E.cell D
theorem Rd.drewN (h:Rd w B A xs) (n:Nat):Rd (w.drewN n) B A xs:=h.keep fun _ _ _=>rfl
theorem Rd.alloc (h:Rd w B A xs) (hB:B<=w.heap.size) (o:Obj):Rd (w.alloc o) B A xs:=
 h.below ((Below.refl B w).alloc hB o)
theorem Rd.grown {row:Option Nat} (h:Rd w B A xs) (E:w.grownBy w' row) (hB:B<=w.heap.size) (D:∀k,row=some k->B<=k):Rd w' B A xs:=
 h.below ((Below.refl B w).grown E hB D)
theorem Rd.of_own {base n cap:Nat} (h:w.ownsRow base t 1 (.slice A n cap) n xs):Rd w w.heap.size A xs:=by
 rcases h.2 with⟨_,F⟩ | ⟨g,D,cur,M,_,O,_⟩
 ·left
  have E:=h.1;rw[F] at E;exact List.eq_nil_of_length_eq_zero (by simpa using E)
 ·right
  injection M with hA _ _;subst hA;exact⟨g,0,rfl,(Array.getElem?_eq_some_iff.1 O).1,fun i u hu=>by
   have:=h.cells (g:=g) rfl i u hu
   rwa [addr_add] at this⟩
theorem Cs {base n size:Nat} {v:Value} (h:w.ownsRow base t size v n xs) (D:Below w.heap.size w w'):w'.ownsRow base t size v n xs:=
 h.kept (Bo D none) (by cases v.ownBlock<;>simp)
theorem Rd.at_ {i:Nat} {u:Value} (h:Rd w B A xs) (D:xs[i]? = some u):∃b o,A=some ⟨b,o,none⟩/\b<B/\w.cell? ⟨b,o+i,none⟩=some u:=by
 rcases h with h | ⟨b,o,F,E,M⟩
 ·subst h;simp at D
 ·exact⟨b,o,F,E,M i u D⟩
end
section
variable {P:Program} (w:World)
theorem Bl {B:Nat} {A:Option Addr} {l:List UInt8} (src e:TypeId) (hs:P.underlying src=some (.slice e)) (he:P.underlying e=some (.int .u8)) (h:Rd w B A (bvs l)) (n c:Nat) (X:n=l.length)
  (dst:TypeId) (F:P.underlying dst=some .string):(convert src dst (.slice A n c)).run P w=.ok (.string ⟨l.toArray⟩) w:=by
 subst X;have key:∀a:Addr,A=some a->(∀i u,(bvs l)[i]? = some u->w.cell? (a.add i)=some u)->(convert src dst (.slice A l.length c)).run P w=.ok (.string ⟨l.toArray⟩) w:=by
  intro a Y hc;subst Y;have M:(l.map fun b=>(b.toNat:Int)).map (Value.int .u8)=bvs l:=by simp [bvs,bv,Function.comp_def]
  have E:(loadCells a l.length).run P w=.ok ((l.map fun b=>(b.toNat:Int)).map (Value.int .u8)).toArray w:=by
   have:=run_loadCells_list (P:=P) w a (bvs l) hc;rw[Ao] at this;rw[M];exact this
  rw[run_convert_bytes_string w src dst e _ _ c hs he F,run_bytesToString w a l.length c _ E,foldl_push_bytes];have O:((l.map fun b=>(b.toNat:Int)).map fun n=>UInt8.ofNat n.toNat)=l:=by
   rw[List.map_map]
   conv=>rhs;rw[<-List.map_id l]
   apply List.map_congr_left;intro b _;simp
  rw[O];simp [ByteArray.empty,ByteArray.emptyWithCapacity]
  rfl
 cases hA:A with
 |some a=>
  rw[<-hA];refine key a hA ?_;rcases h with h | ⟨b,o,D,_,Z⟩
  ·rw[h];intro i u hu;simp at hu
  ·rw[hA] at D
   injection D with D;subst D;intro i u hu;rw[addr_add];exact Z i u hu
 |none=>
  have E:l = []:=by
   rcases h with h | ⟨b,o,D,_,_⟩
   ·exact List.map_eq_nil_iff.1 h
   ·rw[hA] at D;cases D
  subst E;rw[run_convert_bytes_nil w src e hs he _ c dst F]
  rfl
theorem FW (base:Nat) (t ty e:TypeId) (i:TypeInfo) (z:Value) (bytes:Nat) (ht:P.underlying t=some (.slice e)) (hi:P.info? e=some i) (hz:i.zero=some z)
  (O:i.size=1) (Z:i.bytes=bytes) (ab:z.cells.size=1)
  (v:Value) (n:Nat) (xs:List Value) (D:w.ownsRow base e 1 v n xs)
  (B:Nat) (A:Option Addr) (m c:Nat) (news:List Value) (hm:m=news.length) (hr:Rd w B A news) (E:∀u∈news,u.oneCell'=true)
  (Y:n+m<=maxLen) (F:(n+m)*bytes<=140737488355328) (M:base<=w.heap.size) :
  ∃v' w',(Builtin.append_ #[t,t] ty #[v,.slice A m c]).run P w=.ok v' w'/\w'.ownsRow base e 1 v' (n+m) (xs++news)/\w.grownBy w' v.ownBlock/\
   (v'.ownBlock=v.ownBlock\/v'.ownBlock=some w.heap.size):=by
 subst hm;cases hA:A with
 |some a=>
  have hc:∀j u,news[j]? = some u->w.cell? (a.add j)=some u:=by
   rcases hr with h | ⟨b,o,E,_,h3⟩
   ·rw[h];intro i u hu;simp at hu
   ·rw[hA] at E
    injection E with E;subst E;intro i u hu;rw[addr_add];exact h3 i u hu
  obtain⟨v',w',X,h2,h3,_,h5⟩:=run_append_own_at (P:=P) w base t ty e i z 1 bytes ht hi hz O Z ab (by omega) v n xs D a news.length c news (by omega) hc E Y F M;exact⟨v',w',X,h2,h3,h5⟩
 |none=>
  have hn:news = []:=by
   rcases hr with h | ⟨b,o,E,_,_⟩
   ·exact h
   ·rw[hA] at E;cases E
  subst hn;refine⟨v,w,?_,by simpa using D,World.grownBy.refl w _,.inl rfl⟩;rcases D.2 with⟨rfl,rfl⟩ | ⟨g,cap,cur,rfl,_,_,aa,_⟩
  ·simp [Builtin.append_,run_underlying ht,sizeOf,typeInfo,hi,Builtin.lenOf,Builtin.firstCells]
  ·simp [Builtin.append_,run_underlying ht,sizeOf,typeInfo,hi,Builtin.lenOf,Builtin.firstCells,aa,storeCells]
theorem Eu {o:Oper} {a:Act} {K:Act->World->Prop} {Q:Exit->Act->World->Prop} (s x:Operand) (t:TypeId)
  (ho:o.op=.call {callee:=.builtin .append,args:=#[s,x],argTypes:=#[t,t]})
  (base:Nat) (e:TypeId) (i:TypeInfo) (z:Value) (bytes:Nat) (ht:P.underlying t=some (.slice e)) (hi:P.info? e=some i) (hz:i.zero=some z)
  (F:i.size=1) (Y:i.bytes=bytes) (Z:z.cells.size=1)
  (v:Value) (n:Nat) (xs:List Value) (hs:a.eval s=v) (M:w.ownsRow base e 1 v n xs)
  (B:Nat) (A:Option Addr) (m c:Nat) (news:List Value) (hx:a.eval x=.slice A m c) (hm:m=news.length) (hr:Rd w B A news) (h1:∀u∈news,u.oneCell'=true)
  (X:n+m<=maxLen) (D:(n+m)*bytes<=140737488355328) (E:base<=w.heap.size)
  (h:∀v' w',w'.ownsRow base e 1 v' (n+m) (xs++news)->w.grownBy w' v.ownBlock->(v'.ownBlock=v.ownBlock\/v'.ownBlock=some w.heap.size)->K (a.put o.dst v') w'):o.wp P a w K Q:=by
 obtain⟨v',w',O,h2,h3,h4⟩:=FW (P:=P) w base t o.type e i z bytes ht hi hz F Y Z v n xs M B A m c news hm hr h1 X D E;unfold Oper.wp execOp;simp only[ho,resolve,invoke,builtin,Sem.run_bind,Sem.run_pure,Result.andThen_ok,List.map_toArray,List.map_cons,List.map_nil,hs,hx,O];exact h v' w' h2 h3 h4
theorem Av {ops:Array Oper} {rest:List Oper} {o:Oper} {a:Act} {Q:Exit->Act->World->Prop} (D:o.guard=none) (s x:Operand) (t:TypeId)
  (O:o.op=.call {callee:=.builtin .append,args:=#[s,x],argTypes:=#[t,t]})
  (base:Nat) (e:TypeId) (i:TypeInfo) (z:Value) (bytes:Nat) (ht:P.underlying t=some (.slice e)) (hi:P.info? e=some i) (hz:i.zero=some z)
  (hsize:i.size=1) (hby:i.bytes=bytes) (hzs:z.cells.size=1)
  (v:Value) (n:Nat) (xs:List Value) (hs:a.eval s=v) (hown:w.ownsRow base e 1 v n xs)
  (B:Nat) (A:Option Addr) (m c:Nat) (news:List Value) (hx:a.eval x=.slice A m c) (hm:m=news.length) (hr:Rd w B A news) (h1:∀u∈news,u.oneCell'=true)
  (h63:n+m<=maxLen) (hbytes:(n+m)*bytes<=140737488355328) (hbase:base<=w.heap.size)
  (h:∀v' w',w'.ownsRow base e 1 v' (n+m) (xs++news)->w.grownBy w' v.ownBlock->(v'.ownBlock=v.ownBlock\/v'.ownBlock=some w.heap.size)->wpList P ops Q rest (a.put o.dst v') w'):wpList P ops Q (o :: rest) a w:=
 wpList_plain D fun _ F=>Eu w s x t O base e i z bytes ht hi hz hsize hby hzs v n xs hs hown B A m c news hx hm hr h1 h63 hbytes hbase fun v' w' E X M=>F _ _ (h v' w' E X M)
end
def Cx (n:Nat):Array Value:=(List.replicate n (bv 0)).toArray
theorem Dm (n:Nat):(Cx n).size=n:=by simp [Cx]
theorem FA {P:Program} {t e:TypeId} {i:TypeInfo} (F:P.underlying t=some (.slice e)) (O:P.info? e=some i) (E:i.zero=some (.int .u8 0)) (hs:i.size=1) (M:i.bytes=1)
  (C:Int) (n:Nat) (X:C=(n:Int)) (Y:n<=1000000) (w:World) :
  (Instr.makeSlice t (.int .i64 C) (.int .i64 C)).run P w=.ok (.slice (some ⟨w.heap.size,0,none⟩) n n) (w.alloc (.cells (Cx n) e)):=by
 subst X;have h:=run_make (P:=P) w t e i _ F O E .i64 .i64 (n:Int) (n:Int) (by omega) (by omega) (by rw[M];omega) (by omega);rw[Int.toNat_natCast,hs,Nat.mul_one] at h;rw[h];have D:madeCells (Value.int .u8 0).cells n=Cx n:=by
  apply Array.toList_inj.1;rw[show(Value.int .u8 0).cells=#[Value.int .u8 0] from rfl,toList_madeCells_one];simp [Cx,bv]
 rw[D]
theorem Dk {P:Program} {t e:TypeId} {i:TypeInfo} (F:P.underlying t=some (.slice e)) (O:P.info? e=some i) (E:i.zero=some (.int .u8 0)) (hs:i.size=1) (M:i.bytes=1)
  (C:Int) (n:Nat) (X:C=(n:Int)) (Y:n<=1000000) (w:World) :
  (Instr.makeSlice t (.int .i64 0) (.int .i64 C)).run P w=.ok (.slice (some ⟨w.heap.size,0,none⟩) 0 n) (w.alloc (.cells (Cx n) e)):=by
 subst X;have h:=run_make (P:=P) w t e i _ F O E .i64 .i64 0 (n:Int) (by omega) (by omega) (by rw[M];omega) (by omega);rw[Int.toNat_natCast,hs,Nat.mul_one] at h;rw[h];have D:madeCells (Value.int .u8 0).cells n=Cx n:=by
  apply Array.toList_inj.1;rw[show(Value.int .u8 0).cells=#[Value.int .u8 0] from rfl,toList_madeCells_one];simp [Cx,bv]
 rw[D]
 rfl
theorem DS (w:World) (e:TypeId) (s:ByteArray):Below w.heap.size w (Lib.bytesWorld w e s):=
 ⟨rfl,rfl,rfl,by rw[Lib.bytesWorld_size];omega,fun k hk=>Lib.bytesWorld_at_old w e s k hk⟩
def OJ (w:World) (base b:Nat) (l:List UInt8):Prop:=
 base<=b/\b<w.heap.size/\∀i (h:i<l.length),w.cell? ⟨b,i,none⟩=some (bv l[i])/\w.frozen? ⟨b,i,none⟩=false
theorem FE (w:World) (e:TypeId) (l:List UInt8):OJ (Lib.bytesWorld w e ⟨l.toArray⟩) w.heap.size w.heap.size l:=by
 refine⟨Nat.le_refl _,by rw[Lib.bytesWorld_size];omega,fun i h=>⟨?_,?_⟩⟩
 ·rw[Lib.bytesWorld_cell w e ⟨l.toArray⟩ i (by simpa [ByteArray.size] using h)]
  simp [bv,List.getD,h]
 ·have D:i<(Lib.bytesCells w e ⟨l.toArray⟩).size:=by
   simp only[Lib.bytesCells,Array.size_append,Array.size_map,Array.size_replicate];simp;omega
  simp only[World.frozen?,Lib.bytesWorld_at_new];simp;omega
theorem OJ.rd {w:World} {base b:Nat} {l:List UInt8} (h:OJ w base b l):Rd w w.heap.size (some ⟨b,0,none⟩) (bvs l):=by
 refine .inr ⟨b,0,rfl,h.2.1,fun i u hu=>?_⟩;have D:i<l.length:=by
  rcases Nat.lt_or_ge i l.length with g | g
  ·exact g
  ·rw[List.getElem?_eq_none (by rw[Ao];exact g)] at hu;cases hu
 rw[DH D] at hu;injection hu with hu;subst hu;rw[Nat.zero_add];exact(h.2.2 i D).1
end Ad
end Go.Proofs.YtcpccikongbopaaGreat
