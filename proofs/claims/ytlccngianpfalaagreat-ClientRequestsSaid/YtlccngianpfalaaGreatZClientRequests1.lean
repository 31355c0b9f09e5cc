import Derived.Lib.ItoaNum
import Derived.WalkKit
import Derived.WalkSpells
import Derived.WalkLawsBesides
import Derived.LaidEqlPtr
import Derived.Maps.AppendAt
import Derived.Maps.Range
import Derived.Maps.RangeWalk
import Derived.Deep.AppendLies
import Derived.Deep.Draws
import Derived.Deep.Onto
import Derived.Lib.ConvBytes
import Derived.Lib.Hide
import Derived.RegionTactic
import Derived.Deep.QuietTactic
import Derived.BigQuiet
import Derived.Laws.BitsAllLaws
import Derived.Laws.BitsLemmas
import Derived.Test.YtlccngianpfalaaGreatProg
import Derived.Lib.Strings
import Derived.Lib.Walk
import Derived.Lib.Bytealg
import Derived.Lib.BufferWrite
import Derived.Lib.UnsafeStr
import Derived.Laws.MakeOwn
import Derived.Laws.OwnMore
import Derived.Deep.WholeRow
import Derived.Deep.LoopGhost
import Derived.IntWalk
import Derived.Deep.RegionHeld3
import Derived.Deep.Cut
import Derived.Deep.CutRange
import Derived.Deep.CutBlock
import Derived.Deep.MidRow
import Derived.StillTailTactics
import Derived.Laws.Bits64
import Derived.Deep.RegionLaw
import Derived.Laws.Bits64b
import Derived.ProofKit
import Derived.OpenShut
import Derived.ShutString
import Derived.ChangeOld
import Derived.Deep.Matrix
import Derived.Deep.Slices
import Derived.Lib.SlBytesConst
import Derived.BigFrame
import Derived.Great.BuildSlice
import Derived.Laws.StructEq
import Derived.Lib.SliceRun
import Derived.Lib.BitFns
import Derived.Lib.Tables
import Derived.Lib.MinMax
import Derived.Laws.IdiomCopy
import Derived.Laws.Tables
import Derived.SizedLaws
import Derived.Test.YtlccngianpfalaaGreatRows
import Derived.Below
set_option maxHeartbeats 25600000
set_option maxRecDepth 100000
set_option linter.unusedVariables false
set_option linter.unusedSimpArgs false
theorem Go.RowKit.Hid.o {p : Prop} (h : Go.RowKit.Hid p) : p := h
theorem Go.Aside.o {p : Prop} (h : Go.Aside p) : p := h
theorem Go.Shut.o {p : Prop} (h : Go.Shut p) : p := h
namespace Go.Proofs.YtlccngianpfalaaGreat
theorem I {p : Prop} (h : p) : Go.RowKit.Hid p := h
theorem Ah {P:Program} {f:FuncId} {args:Array Value} {w:World} {r:Ending} {K:World->Prop} {Q:Ending->World->Prop} (h:Calls P f args w fun e w'=>e=r/\K w') (k:∀w',K w'->Q r w'):Calls P f args w Q:=h.mono fun e w' x=>x.1.symm▸k w' x.2
theorem Aj {α:Sort _} (a:α):∃x,x=a:=⟨a,rfl⟩
theorem Af {n : Nat} : n <= n := Nat.le_refl n
theorem Ag {n : Nat} {w : World} : Go.RowKit.Below n w w := Go.RowKit.Below.refl n w
theorem J {α : Type} (l : List α) (i : Nat) (a : α) : l.toArray.setIfInBounds i a = (l.set i a).toArray := List.setIfInBounds_toArray ..
theorem U {α : Type} {x : α} {xs : List α} {a : α} : (x :: xs).set 0 a = a :: xs := rfl
theorem Aa {α : Type} {x : α} {xs : List α} {n : Nat} {a : α} : (x :: xs).set (n + 1) a = x :: xs.set n a := rfl
abbrev Au : Array Go.Value := #[.int .u8 0,.int .u8 0,.int .u8 0,.int .u8 0,.int .u8 0,.int .u8 0,.int .u8 0,.int .u8 0,.int .u8 0,.int .u8 0,.int .u8 0,.int .u8 0,.int .u8 0,.int .u8 0,.int .u8 0,.int .u8 0,.int .u8 0,.int .u8 0,.int .u8 0,.int .u8 0,.int .u8 0,.int .u8 0,.int .u8 0,.int .u8 0,.int .u8 0,.int .u8 0,.int .u8 0,.int .u8 0,.int .u8 0,.int .u8 0,.int .u8 0,.int .u8 0,.string ⟨#[]⟩,.string ⟨#[]⟩,.int .i64 0,.int .i64 0,.int .i64 0]
abbrev Av : Array Go.Value := #[.int .i64 0,.string ⟨#[]⟩,.string ⟨#[]⟩,.string ⟨#[]⟩,.string ⟨#[]⟩,.int .i64 0,.int .i64 0,.string ⟨#[]⟩,.string ⟨#[]⟩,.int .i64 0,.slice none 0 0,.slice none 0 0,.string ⟨#[]⟩,.string ⟨#[]⟩,.int .i64 0,.int .i64 0,.string ⟨#[]⟩,.string ⟨#[]⟩,.string ⟨#[]⟩,.string ⟨#[]⟩,.int .i64 0,.slice none 0 0,.slice none 0 0,.string ⟨#[]⟩,.string ⟨#[]⟩,.int .i64 0,.slice none 0 0,.slice none 0 0,.int .i64 0,.int .i64 0]
end Go.Proofs.YtlccngianpfalaaGreat
theorem Go.RowKit.Hid.t {a w w' : Go.World} (h : Go.RowKit.Hid (Go.RowKit.Below a.heap.size a w)) (k : Go.RowKit.Below w.heap.size w w') : Go.RowKit.Hid (Go.RowKit.Below a.heap.size a w') := Go.Proofs.YtlccngianpfalaaGreat.I (h.o.trans (k.mono h.o.size))
namespace Go.Proofs.YtlccngianpfalaaGreat
namespace DerP
abbrev L:=List UInt8
def szL (n:Nat):L:=if n<128 then [UInt8.ofNat n] else if n<=255 then [129,UInt8.ofNat n] else [130,UInt8.ofNat (n / 256),UInt8.ofNat n]
def elem (t:UInt8) (p:L):L:=t :: (szL p.length++p)
def lenR:L->Nat×Nat×Bool
 | []=>(0,0,false)
 |a :: r=>
  if a.toNat<128 then (a.toNat,1,true)
  else if a.toNat=129 then
   match r with
   | []=>(0,0,false)
   |b :: _=>(b.toNat,2,decide (128<=b.toNat))
  else if a.toNat=130 then
   match r with
   |b :: c :: _=>(b.toNat*256+c.toNat,3,decide (255<b.toNat*256+c.toNat))
   |_=>(0,0,false)
  else (0,0,false)
def Bm (t:UInt8):L->Option (L×L)
 | []=>none
 |a :: s=>
  if a=t/\(lenR s).2.2=true/\(lenR s).1+(lenR s).2.1<=s.length
  then some ((s.drop (lenR s).2.1).take (lenR s).1,(s.drop (lenR s).2.1).drop (lenR s).1) else none
def AQ (t:UInt8) (c:Option L):Option L:=(c.bind (Bm t)).map (·.2)
def Ax (t:UInt8) (c:Option L):Option L:=(c.bind (Bm t)).map (·.1)
theorem Bu {t:UInt8} {s:L} (h:Bm t s=none):Ax t (some s)=none/\AQ t (some s)=none:=by simp [Ax,AQ,h]
theorem DG {t:UInt8} {s b r:L} (h:Bm t s=some (b,r)):Ax t (some s)=some b/\AQ t (some s)=some r:=by simp [Ax,AQ,h]
def val (l:L):Nat:=l.foldl (fun a b=>a*256+b.toNat) 0
def Bn:L->Bool
 | []=>false
 |b :: _=>decide (b.toNat<128)
def numL:L->Option Nat
 | []=>none
 |a :: r=>
  if 7<r.length\/128<=a.toNat then none
  else if a.toNat=0/\Bn r=true then none
  else if 4611686018427387904<val (a :: r) then none
  else some (val (a :: r))
def digK:Nat->Nat->L
 |0,_=>[]
 |k+1,n=>digK k (n / 256)++[UInt8.ofNat n]
def dig (n:Nat):L:=digK (Lib.bitLen n / 8+1) n
def Cj (n:Int):Nat:=(min (max n 0) 4611686018427387904).toNat
def encI (n:Int):L:=elem 2 (dig (Cj n))
def intC (c:Option L):Nat×Option L:=
 match Ax 2 c with
 |none=>(0,none)
 |some b=>match numL b with
  |none=>(0,none)
  |some n=>(n,AQ 2 c)
theorem Fc (n:Int):Cj n<=4611686018427387904:=by unfold Cj;omega
theorem Io (n:Int) (M:0<=n) (O:n<=4611686018427387904):Cj n=n.toNat:=by unfold Cj;omega
theorem Jk (n:Int):((Cj n:Nat):Int)=min (max n 0) 4611686018427387904:=by unfold Cj;omega
theorem Bj (k n:Nat):(digK k n).length=k:=by
 induction k generalizing n with
 |zero=>rfl
 |succ k ih=>simp [digK,ih]
theorem JF (l:L) (b:UInt8):val (l++[b])=val l*256+b.toNat:=by simp [val]
theorem MG (k n:Nat):val (digK k n)=n % 256 ^ k:=by
 induction k generalizing n with
 |zero=>simp [digK,val,Nat.mod_one]
 |succ k ih=>
  rw[digK,JF,ih];have M:(UInt8.ofNat n).toNat=n % 256:=by simp
  rw[M,Nat.pow_succ,Nat.mul_comm (256 ^ k) 256,Nat.mod_mul];omega
theorem NH (l:L) (k:Nat) (h:l.length=k+1):∃m b,l=m++[b]/\m.length=k:=by
 refine⟨l.take k,l[k]'(by omega),?_,by simp;omega⟩;rw[List.take_append_getElem];rw[List.take_of_length_le (by omega)]
theorem MH (k:Nat) (l:L) (h:l.length=k):digK k (val l)=l:=by
 induction k generalizing l with
 |zero=>rw[List.length_eq_zero_iff.1 h];rfl
 |succ k ih=>
  obtain⟨m,b,rfl,hm⟩:=NH l k h;rw[digK,JF];have M:=b.toNat_lt;have e:(val m*256+b.toNat) / 256=val m:=by omega
  rw[e,ih m hm]
  congr 1
  simp only[List.cons.injEq,and_true];apply UInt8.toNat_inj.1;simp
theorem Pf (k n j:Nat) (h:j<k):(digK k n)[j]? = some (UInt8.ofNat (n / 256 ^ (k - 1 - j))):=by
 induction k generalizing n with
 |zero=>omega
 |succ k ih=>
  rw[digK]
  by_cases hj:j<k
  ·rw[List.getElem?_append_left (by rw[Bj];exact hj),ih _ hj]
   congr 2
   rw[Nat.div_div_eq_div_mul]
   congr 1
   rw[show k+1 - 1 - j=(k - 1 - j)+1 by omega,Nat.pow_succ,Nat.mul_comm]
  ·obtain rfl:j=k:=by omega
   rw[List.getElem?_append_right (by rw[Bj];omega),Bj];simp
theorem Pg (l:L) (j:Nat) (b:UInt8) (h:l[j]? = some b):l.drop j=b :: l.drop (j+1):=by
 obtain⟨M,e⟩:=List.getElem?_eq_some_iff.1 h;rw[List.drop_eq_getElem_cons M,e]
theorem Ph (l:L):val l<256 ^ l.length:=by
 have h:=MG l.length (val l);rw[MH l.length l rfl] at h;have M:0<256 ^ l.length:=Nat.pow_pos (by omega);rw[h];exact Nat.mod_lt _ M
theorem Pj (l:L) (x:Nat):l.foldl (fun a b=>a*256+b.toNat) x=x*256 ^ l.length+val l:=by
 induction l generalizing x with
 |nil=>simp [val]
 |cons a r ih=>
  have e:val (a :: r)=a.toNat*256 ^ r.length+val r:=by
   show List.foldl _ (0*256+a.toNat) r=_;rw[ih];simp
  rw[List.foldl_cons,ih,e,List.length_cons,Nat.pow_succ,Nat.add_mul,Nat.mul_assoc,Nat.mul_comm 256,Nat.add_assoc]
theorem Gp (a:UInt8) (r:L):val (a :: r)=a.toNat*256 ^ r.length+val r:=by
 show List.foldl _ (0*256+a.toNat) r=_;rw[Pj];simp
theorem Fe (x:Nat) (M:x<18446744073709551616) (k:Nat) (h:2 ^ k<=x):k+1<=Lib.bitLen x:=by
 have Y:x≠0:=by
  have:=Nat.pow_pos (n:=k) (show 0<2 by omega);omega
 obtain⟨_,_,O⟩:=Lib.bitLenAux_bounds 64 x (by simpa using M) Y;have X:2 ^ k<2 ^ Lib.bitLen x:=Nat.lt_of_le_of_lt h O;have:=(Nat.pow_lt_pow_iff_right (a:=2) (by omega)).1 X;omega
theorem Dm (x k:Nat) (hk:k<=64) (h:x<2 ^ k):Lib.bitLen x<=k:=Lib.bitLen_le x k hk h
theorem Ku (x:Nat) (M:x<18446744073709551616):x<2 ^ Lib.bitLen x:=by
 by_cases h0:x=0
 ·subst h0;exact Nat.pow_pos (by omega)
 ·exact(Lib.bitLenAux_bounds 64 x (by simpa using M) h0).2.2
theorem Gq (n:Nat) (h:n<=4611686018427387904):Lib.bitLen n<=63:=Dm n 63 (by omega) (by omega)
theorem GS (n:Nat):(dig n).length=Lib.bitLen n / 8+1:=Bj _ _
theorem Vg (n:Nat) (h:n<=4611686018427387904):(dig n).length<=8:=by
 rw[GS];have:=Gq n h;omega
theorem Gb (k:Nat):256 ^ k=2 ^ (8*k):=by rw[Nat.pow_mul]
theorem Vh (n:Nat) (h:n<=4611686018427387904):val (dig n)=n:=by
 rw[dig,MG];apply Nat.mod_eq_of_lt;rw[Gb];refine Nat.lt_of_lt_of_le (Ku n (by omega)) (Nat.pow_le_pow_right (by omega) (by omega))
theorem Pk (n:Nat) (h:n<=4611686018427387904):numL (dig n)=some n:=by
 have Y:=Vh n h;have O:=GS n;have Z:=Gq n h;have aa:=Ku n (by omega);cases hd:dig n with
 |nil=>rw[hd] at O;simp at O
 |cons a r=>
  rw[hd] at Y O;simp only[List.length_cons] at O;have hr:r.length=Lib.bitLen n / 8:=by omega
  have X:=Gp a r;rw[Y] at X;have ha:a.toNat<128:=by
   rcases Nat.lt_or_ge a.toNat 128 with g | g
   ·exact g
   ·exfalso
    have M:128*256 ^ r.length<=n:=by
     have:=Nat.mul_le_mul_right (256 ^ r.length) g;omega
    have h2:2 ^ (8*r.length+7)<=n:=by
     rw[Nat.pow_add,<-Gb,Nat.mul_comm];simpa using M
    have h3:=Fe n (by omega) _ h2;omega
  have hs:¬(a.toNat=0/\Bn r=true):=by
   rintro⟨h0,M⟩;cases r with
   |nil=>simp [Bn] at M
   |cons b q=>
    simp only[Bn,decide_eq_true_eq] at M;have hq:=Gp b q;have hb:=Ph q;simp only[List.length_cons] at hr X;rw[h0] at X;have h4:n<128*256 ^ q.length:=by
     have:(b.toNat+1)*256 ^ q.length<=128*256 ^ q.length:=Nat.mul_le_mul_right _ (by omega);rw[Nat.add_mul] at this;omega
    have h5:n<2 ^ (8*q.length+7):=by
     rw[Nat.pow_add,<-Gb,Nat.mul_comm];simpa using h4
    have h6:=Dm n (8*q.length+7) (by omega) h5;omega
  simp only[numL];rw[if_neg (by omega),if_neg hs,if_neg (by omega),Y]
theorem El (l:L) (i:Nat) (h:i<l.length):val (l.take (i+1))=val (l.take i)*256+(l[i]).toNat:=by
 rw[List.take_succ_eq_append_getElem h,JF]
theorem Ip {a:UInt8} {r:L} (ha:a.toNat<128) (Z:r.length<=7) (i:Nat):val ((a :: r).take i)<9223372036854775808:=by
 cases i with
 |zero=>simp [val]
 |succ i=>
  rw[List.take_succ_cons,Gp];have Y:=Ph (r.take i);have O:(r.take i).length<=7:=by have:=List.length_take_le i r;have:=List.length_take_le' i r;omega
  have M:256 ^ (r.take i).length<=256 ^ 7:=Nat.pow_le_pow_right (by omega) O;have X:(a.toNat+1)*256 ^ (r.take i).length<=128*256 ^ 7:=Nat.mul_le_mul (by omega) M;rw[Nat.add_mul] at X;have h5:(128:Nat)*256 ^ 7=9223372036854775808:=by decide
  omega
def numR (s:L):Nat×Bool:=((numL s).getD 0,(numL s).isSome)
theorem Ff {a:UInt8} {r:L} (h:(7<r.length\/128<=a.toNat)\/(a.toNat=0/\Bn r=true)\/4611686018427387904<val (a :: r)):numL (a :: r)=none:=by
 rw[numL]
 by_cases h1:7<r.length\/128<=a.toNat
 ·rw[if_pos h1]
 ·rw[if_neg h1]
  by_cases h2:a.toNat=0/\Bn r=true
  ·rw[if_pos h2]
  ·rw[if_neg h2]
   rcases h with h | h | h
   ·exact absurd h h1
   ·exact absurd h h2
   ·rw[if_pos h]
theorem Fg {s:L} (h:numL s=none):numR s=(0,false):=by rw[numR,h];rfl
theorem Pl {a:UInt8} {r:L} (h:7<r.length):numR (a :: r)=(0,false):=Fg (Ff (.inl (.inl h)))
theorem Pm {a:UInt8} {r:L} (h:128<=a.toNat):numR (a :: r)=(0,false):=Fg (Ff (.inl (.inr h)))
theorem Pn {a b:UInt8} {r:L} (h:a.toNat=0) (M:b.toNat<128):numR (a :: b :: r)=(0,false):=Fg (Ff (.inr (.inl ⟨h,by simpa [Bn] using M⟩)))
theorem NI {a:UInt8} {r:L} (h:4611686018427387904<val (a :: r)):numR (a :: r)=(0,false):=Fg (Ff (.inr (.inr h)))
theorem Po {a:UInt8} {r:L} (O:r.length<=7) (X:a.toNat<128) (M:¬(a.toNat=0/\Bn r=true)) (Y:val (a :: r)<=4611686018427387904):numR (a :: r)=(val (a :: r),true):=by
 simp only[numR,numL];rw[if_neg (by omega),if_neg M,if_neg (by omega)];rfl
theorem Fh {p:L} {n:Nat} (h:numL p=some n):n=val p/\n<=4611686018427387904/\1<=p.length/\p.length<=8/\Lib.bitLen n / 8+1=p.length:=by
 cases p with
 |nil=>simp [numL] at h
 |cons a r=>
  simp only[numL] at h
  by_cases c1:7<r.length\/128<=a.toNat
  ·rw[if_pos c1] at h;cases h
  ·rw[if_neg c1] at h
   by_cases c2:a.toNat=0/\Bn r=true
   ·rw[if_pos c2] at h;cases h
   ·rw[if_neg c2] at h
    by_cases c3:4611686018427387904<val (a :: r)
    ·rw[if_pos c3] at h;cases h
    ·rw[if_neg c3] at h
     injection h with h;subst h;have hc:=Gp a r;have hr:=Ph r;have Y:val (a :: r)<2 ^ (8*r.length+7):=by
      have:(a.toNat+1)*256 ^ r.length<=128*256 ^ r.length:=Nat.mul_le_mul_right _ (by omega);rw[Nat.add_mul] at this;rw[Nat.pow_add,<-Gb,Nat.mul_comm];have e:(2:Nat) ^ 7=128:=by decide
      rw[e];omega
     have hu:=Dm _ _ (by omega) Y;have M:r.length=0\/8*r.length<=Lib.bitLen (val (a :: r)):=by
      cases r with
      |nil=>left;rfl
      |cons b q=>
       right
       have hq:=Gp b q;simp only[List.length_cons] at *
       by_cases ha:a.toNat=0
       ·have hb:128<=b.toNat:=by
         have:¬Bn (b :: q)=true:=fun g=>c2 ⟨ha,g⟩
         simp only[Bn,decide_eq_true_eq] at this;omega
        have O:128*256 ^ q.length<=val (a :: b :: q):=by
         have:=Nat.mul_le_mul_right (256 ^ q.length) hb;omega
        have X:2 ^ (8*q.length+7)<=val (a :: b :: q):=by
         rw[Nat.pow_add,<-Gb,Nat.mul_comm];simpa using O
        have:=Fe _ (by omega) _ X;omega
       ·have O:1*256 ^ (q.length+1)<=val (a :: b :: q):=by
         have:=Nat.mul_le_mul_right (256 ^ (q.length+1)) (show 1<=a.toNat by omega);omega
        have X:2 ^ (8*(q.length+1))<=val (a :: b :: q):=by
         rw[<-Gb];simpa using O
        have:=Fe _ (by omega) _ X;omega
     simp only[List.length_cons];refine⟨trivial,by omega,by omega,by omega,?_⟩;rcases M with Z | Z
     ·omega
     ·omega
theorem Vi {p:L} {n:Nat} (h:numL p=some n):dig n=p:=by
 obtain⟨M,_,_,_,O⟩:=Fh h;rw[dig,O,M];exact MH _ _ rfl
theorem FJ {a:UInt8} {r:L} (h:a.toNat<128):lenR (a :: r)=(a.toNat,1,true):=by simp [lenR,h]
theorem Fi {a:UInt8} (h:a.toNat=129):lenR [a]=(0,0,false):=by simp [lenR,h]
theorem Gr {a b:UInt8} {r:L} (h:a.toNat=129):lenR (a :: b :: r)=(b.toNat,2,decide (128<=b.toNat)):=by simp [lenR,h]
theorem Fj {a:UInt8} (h:a.toNat=130):lenR [a]=(0,0,false):=by simp [lenR,h]
theorem Fk {a b:UInt8} (h:a.toNat=130):lenR [a,b]=(0,0,false):=by simp [lenR,h]
theorem FK {a b c:UInt8} {r:L} (h:a.toNat=130):lenR (a :: b :: c :: r)=(b.toNat*256+c.toNat,3,decide (255<b.toNat*256+c.toNat)):=by simp [lenR,h]
theorem Iq {a:UInt8} {r:L} (M:¬a.toNat<128) (X:¬a.toNat=129) (O:¬a.toNat=130):lenR (a :: r)=(0,0,false):=by simp [lenR,M,X,O]
theorem Pp (s:L):(lenR s).1<=65535/\(lenR s).2.1<=3:=by
 cases s with
 |nil=>simp [lenR]
 |cons a r=>
  have M:=a.toNat_lt
  by_cases h1:a.toNat<128
  ·rw[FJ h1];simp;omega
  ·by_cases h2:a.toNat=129
   ·cases r with
    |nil=>rw[Fi h2];simp
    |cons b q=>rw[Gr h2];have:=b.toNat_lt;simp;omega
   ·by_cases h3:a.toNat=130
    ·rcases r with _ | ⟨b,_ | ⟨c,q⟩⟩
     ·rw[Fj h3];simp
     ·rw[Fk h3];simp
     ·rw[FK h3];have:=b.toNat_lt;have:=c.toNat_lt;simp;omega
    ·rw[Iq h1 h2 h3];simp
theorem Cp (n:Nat):(szL n).length=if n<128 then 1 else if n<=255 then 2 else 3:=by
 unfold szL;split
 ·rfl
 ·split<;>rfl
theorem DH (t:UInt8) (p:L):(elem t p).length=1+(szL p.length).length+p.length:=by
 simp [elem];omega
theorem Sm (n:Nat) (h:n<=65535) (r:L):lenR (szL n++r)=(n,(szL n).length,true):=by
 unfold szL
 by_cases h1:n<128
 ·have e:n % 256=n:=by omega
  simp [h1,lenR,e]
 ·by_cases h2:n<=255
  ·have e:(UInt8.ofNat n).toNat=n:=by simp;omega
   simp [h1,h2,lenR];omega
  ·have O:(UInt8.ofNat (n / 256)).toNat=n / 256:=by simp;omega
   have X:(UInt8.ofNat n).toNat=n % 256:=by simp
   have M:n / 256 % 256*256+n % 256=n:=by omega
   simp [h1,h2,lenR,M];omega
theorem Lu {s:L} (h:(lenR s).2.2=true):szL (lenR s).1=s.take (lenR s).2.1/\(lenR s).2.1=(szL (lenR s).1).length/\(lenR s).2.1<=s.length/\(lenR s).1<=65535:=by
 have key:∀a:UInt8,UInt8.ofNat a.toNat=a:=fun a=>by simp
 cases s with
 |nil=>simp [lenR] at h
 |cons a r=>
  have ha:=a.toNat_lt
  by_cases h1:a.toNat<128
  ·simp [lenR,h1,szL];omega
  ·by_cases h2:a.toNat=129
   ·cases r with
    |nil=>simp [lenR,h2] at h
    |cons b q=>
     have hb:=b.toNat_lt;have M:a=129:=UInt8.toNat_inj.1 h2;subst M;simp [lenR] at h;have O:¬b.toNat<128:=by omega
     have X:b.toNat<=255:=by omega
     simp [lenR,szL,O,X];omega
   ·by_cases O:a.toNat=130
    ·rcases r with _ | ⟨b,_ | ⟨c,q⟩⟩
     ·simp [lenR,O] at h
     ·simp [lenR,O] at h
     ·have hb:=b.toNat_lt
      have hc:=c.toNat_lt;have M:a=130:=UInt8.toNat_inj.1 O;subst M;simp [lenR] at h;have g1:¬b.toNat*256+c.toNat<128:=by omega
      have Y:¬b.toNat*256+c.toNat<=255:=by omega
      have Z:UInt8.ofNat ((b.toNat*256+c.toNat) / 256)=b:=by
       rw[show(b.toNat*256+c.toNat) / 256=b.toNat by omega];simp
      have e2:UInt8.ofNat (b.toNat*256+c.toNat)=c:=by
       apply UInt8.toNat_inj.1;simp
      simp only[lenR,szL];simp [g1,Y,Z,e2];omega
    ·simp [lenR,h1,h2,O] at h
theorem Eb (t:UInt8) (p r:L) (h:p.length<=65535):Bm t (elem t p++r)=some (p,r):=by
 show Bm t (t :: (szL p.length++p++r))=_;rw[List.append_assoc,Bm,Sm _ h];simp;omega
theorem Ir {t:UInt8} {s b r:L} (h:Bm t s=some (b,r)):s=elem t b++r/\b.length<=65535:=by
 cases s with
 |nil=>simp [Bm] at h
 |cons a s=>
  simp only[Bm] at h
  by_cases hc:a=t/\(lenR s).2.2=true/\(lenR s).1+(lenR s).2.1<=s.length
  ·rw[if_pos hc] at h
   obtain⟨rfl,M,Z⟩:=hc;obtain⟨O,g2,g3,Y⟩:=Lu M;injection h with h;injection h with hb hr;have X:b.length=(lenR s).1:=by rw[<-hb];simp;omega
   refine⟨?_,by omega⟩;rw[elem,X,O,<-hb,<-hr,List.cons_append,List.append_assoc,List.take_append_drop,List.take_append_drop]
  ·rw[if_neg hc] at h;cases h
theorem MI {t:UInt8} {p q r1 r2:L} (X:p.length<=65535) (O:q.length<=65535) (h:elem t p++r1=elem t q++r2):p=q/\r1=r2:=by
 have M:=Eb t p r1 X;rw[h,Eb t q r2 O] at M;injection M with M;injection M with M h2;exact⟨M.symm,h2.symm⟩
theorem Is (t:UInt8) (p:L) (Z:p.length<=65535) (k:Nat) (hk:k<(elem t p).length):Bm t ((elem t p).take k)=none:=by
 cases h:Bm t ((elem t p).take k) with
 |none=>rfl
 |some x=>
  obtain⟨b,r⟩:=x;obtain⟨M,X⟩:=Ir h;have O:elem t p++[]=elem t b++(r++(elem t p).drop k):=by
   rw[<-List.append_assoc,<-M,List.take_append_drop,List.append_nil]
  obtain⟨_,Y⟩:=MI Z X O;have h5:=congrArg List.length Y;simp at h5;omega
theorem Fl {t:UInt8} {s b r:L} (h:Bm t s=some (b,r)):b.length<=s.length/\r.length<=s.length:=by
 have:=congrArg List.length (Ir h).1;simp [DH] at this;omega
theorem BB (t:UInt8) (c:Option L):((Ax t c).getD []).length<=(c.getD []).length/\((AQ t c).getD []).length<=(c.getD []).length:=by
 cases c with
 |none=>simp [Ax,AQ]
 |some s=>
  cases h:Bm t s with
  |none=>obtain⟨M,O⟩:=Bu h;rw[M,O];simp
  |some x=>
   obtain⟨b,r⟩:=x;obtain⟨M,O⟩:=DG h;rw[M,O];exact Fl h
theorem Gs (t:UInt8) (c:Option L) (h:Ax t c=none):AQ t c=none:=by
 unfold Ax at h;unfold AQ;rw[Option.map_eq_none_iff] at h⊢;exact h
theorem Ps {t u:UInt8} {s:L} (h:t≠u):Bm u (t :: s)=none:=by
 simp [Bm,h]
theorem Hy (n:Int):(dig (Cj n)).length<=8:=Vg _ (Fc n)
theorem Vj (n:Int) (r:L):intC (some (encI n++r))=(Cj n,some r):=by
 have h:=Eb 2 (dig (Cj n)) r (by have:=Hy n;omega);simp only[intC,Ax,AQ,encI,Option.bind_some,h,Option.map_some,Pk _ (Fc n)]
end DerP
namespace Ae
open Go.RowKit
theorem Gt (l:List UInt8) (i:Nat) (h:i<(ByteArray.mk l.toArray).size):(ByteArray.mk l.toArray)[i]'h=l[i]'(by simpa [ByteArray.size] using h):=rfl
theorem Dw (a:UInt8) (r:List UInt8):(ByteArray.mk (a :: r).toArray).extract 1 (r.length+1)=ByteArray.mk r.toArray:=by
 rw[ByteArray.extract_mk];simp
theorem Dx (l:List UInt8) (k:Nat):(ByteArray.mk l.toArray).extract k l.length=ByteArray.mk (l.drop k).toArray:=by
 rw[ByteArray.extract_mk,List.take_of_length_le (by simp)]
theorem Fm (l:List UInt8) (k n:Nat):(ByteArray.mk l.toArray).extract k (k+n)=ByteArray.mk ((l.drop k).take n).toArray:=by
 rw[ByteArray.extract_mk,Nat.add_sub_cancel_left]
theorem BG (a:UInt8):(a.toNat:Int)<=255:=by have:=a.toNat_lt;omega
theorem Pu (a:Nat) (M:a<9223372036854775808):(BitVec.ofInt 64 (a:Int)).toNat=a:=by
 rw[BitVec.ofInt_natCast,BitVec.toNat_ofNat];exact Nat.mod_eq_of_lt (by omega)
theorem Hq (x y:Nat) (Z:y<256) (M:x*256+y<9223372036854775808):bits .or .i64 ((x:Int)*256) (y:Int)=(x:Int)*256+y:=by
 have X:=Pu (x*256) (Nat.lt_of_le_of_lt (Nat.le_add_right _ _) M);have Y:=Pu y (Nat.lt_of_le_of_lt (Nat.le_add_left _ _) M);have e:((x:Int)*256)=((x*256:Nat):Int):=by omega
 have O:x*256 ||| y=x*256+y:=by
  have h:=Nat.shiftLeft_add_eq_or_of_lt (show y<2 ^ 8 by omega) x;rw[Nat.shiftLeft_eq] at h
  simpa using h.symm
 rw[e];show IntKind.i64.wrap ((BitVec.ofInt 64 ((x*256:Nat):Int) ||| BitVec.ofInt 64 (y:Int)).toNat:Int)=_;rw[BitVec.toNat_or,X,Y,O,IntKind.wrap_i64];omega
def bv (b:UInt8):Value:=.int .u8 (b.toNat:Int)
def bvs (l:List UInt8):List Value:=l.map bv
theorem AB (l:List UInt8):(bvs l).length=l.length:=by simp [bvs]
theorem BH (l m:List UInt8):bvs (l++m)=bvs l++bvs m:=by simp [bvs]
theorem BM (l:List UInt8):∀u∈bvs l,u.oneCell'=true:=by
 intro u hu;obtain⟨b,_,rfl⟩:=List.mem_map.1 hu
 rfl
theorem DR {l:List UInt8} {i:Nat} (h:i<l.length):(bvs l)[i]? = some (bv l[i]):=by simp [bvs,h]
def Rd (w:World) (B:Nat) (A:Option Addr) (xs:List Value):Prop:=
 xs = []\/∃b o,A=some ⟨b,o,none⟩/\b<B/\∀i u,xs[i]? = some u->w.cell? ⟨b,o+i,none⟩=some u
def Blk (w:World) (g:Nat) (t:TypeId) (cs:Array Value):Prop:=w.heap[g]? = some (.cells cs t (0,0))
theorem addr_add (b o j:Nat):(⟨b,o,none⟩:Addr).add j=⟨b,o+j,none⟩:=by unfold Addr.add;split<;>simp_all
section
variable {w w' a c:World} {B B' g:Nat} {A:Option Addr} {xs:List Value} {t:TypeId} {cs:Array Value}
theorem Fo {row:Option Nat} (h:a.grownBy w row) (n:Nat):a.grownBy (w.drewN n) row:=⟨h.os,h.tape,h.output,h.size,h.block⟩
theorem Bg {row:Option Nat} (h:a.grownBy w row):a.grownBy w.drew row:=⟨h.os,h.tape,h.output,h.size,h.block⟩
theorem Cc {row:Option Nat} (h:a.grownBy w row) (o:Obj):a.grownBy (w.alloc o) row:=
 ⟨h.os,h.tape,h.output,Nat.le_trans h.size (by simp),fun i O M=>(Below.heap_alloc w o i (Nat.lt_of_lt_of_le O h.size)).trans (h.block i O M)⟩
theorem Ar {row:Option Nat} (h:a.grownBy w row) {p:Addr} (O:row=some p.block\/a.heap.size<=p.block) (u:Value):a.grownBy (w.setCell p u) row:=
 ⟨h.os,h.tape,h.output,by simpa [World.setCell] using h.size,fun i X M=>(Below.heap_setCell w p u i (by
  rintro rfl;rcases O with O | O
  ·exact M O.symm
  ·omega)).trans (h.block i X M)⟩
theorem By (h:Below a.heap.size a w) (row:Option Nat):a.grownBy w row:=⟨h.os,h.tape,h.output,h.size,fun i M _=>h.block i M⟩
theorem Gu {row:Option Nat} (h:a.grownBy w row) (k:Below w.heap.size w c):a.grownBy c row:=
 ⟨k.os.trans h.os,k.tape.trans h.tape,k.output.trans h.output,Nat.le_trans h.size k.size,fun i M O=>(k.block i (Nat.lt_of_lt_of_le M h.size)).trans (h.block i M O)⟩
theorem Jl (h:Below B a w) (hB:B<=w.heap.size) (k:Below w.heap.size w c):Below B a c:=h.trans (k.mono hB)
theorem Ak (h:Below B a w) (k:w.grownBy c (some g)) (hB:B<=w.heap.size) (O:B<=g):Below B a c:=
 h.grown k hB (fun j M=>by injection M with M;omega)
theorem bt (h:Below a.heap.size a w) (k:Below w.heap.size w c):Below a.heap.size a c:=h.trans (k.mono h.size)
theorem btg (h:Below a.heap.size a w) (k:w.grownBy c (some g)) (M:a.heap.size<=g):Below a.heap.size a c:=Ak h k h.size M
theorem Blk.lt (h:Blk w g t cs):g<w.heap.size:=by
 rcases Nat.lt_or_ge g w.heap.size with M | M
 ·exact M
 ·unfold Blk at h;rw[Array.getElem?_eq_none M] at h;cases h
theorem Blk.cell (h:Blk w g t cs) (i:Nat):w.cell? ⟨g,i,none⟩=cs[i]?:=cell_of_row w g i cs t (0,0) h
theorem Blk.frozen (h:Blk w g t cs) (i:Nat):w.frozen? ⟨g,i,none⟩=false:=by
 unfold Blk at h;simp [World.frozen?,h]
theorem Blk.new (w:World) (t:TypeId) (cs:Array Value):Blk (w.alloc (.cells cs t)) w.heap.size t cs:=heap_alloc_new w _
theorem Blk.drewN (h:Blk w g t cs) (n:Nat):Blk (w.drewN n) g t cs:=h
theorem Blk.alloc (h:Blk w g t cs) (o:Obj):Blk (w.alloc o) g t cs:=(Below.heap_alloc w o g h.lt).trans h
theorem Blk.set (h:Blk w g t cs) (i:Nat) (u:Value):Blk (w.setCell ⟨g,i,none⟩ u) g t (cs.setIfInBounds i u):=by
 unfold Blk at h⊢;simp [World.setCell,Array.getElem?_modify,h]
section
variable {w:World} {g:Nat} {t:TypeId} {a b c d e f i j k m n o p q r u v y z A B C D E F G H J K x:Value} {l:List Value}
theorem Blk.c0 (h:Blk w g t (x::l).toArray):w.cell? ⟨g,0,none⟩=some x:=by simpa using h.cell 0
theorem Blk.c1 (h:Blk w g t (a::x::l).toArray):w.cell? ⟨g,1,none⟩=some x:=by simpa using h.cell 1
theorem Blk.c2 (h:Blk w g t (a::b::x::l).toArray):w.cell? ⟨g,2,none⟩=some x:=by simpa using h.cell 2
theorem Blk.c3 (h:Blk w g t (a::b::c::x::l).toArray):w.cell? ⟨g,3,none⟩=some x:=by simpa using h.cell 3
theorem Blk.c4 (h:Blk w g t (a::b::c::d::x::l).toArray):w.cell? ⟨g,4,none⟩=some x:=by simpa using h.cell 4
theorem Blk.c5 (h:Blk w g t (a::b::c::d::e::x::l).toArray):w.cell? ⟨g,5,none⟩=some x:=by simpa using h.cell 5
theorem Blk.c6 (h:Blk w g t (a::b::c::d::e::f::x::l).toArray):w.cell? ⟨g,6,none⟩=some x:=by simpa using h.cell 6
theorem Blk.c7 (h:Blk w g t (a::b::c::d::e::f::i::x::l).toArray):w.cell? ⟨g,7,none⟩=some x:=by simpa using h.cell 7
theorem Blk.c8 (h:Blk w g t (a::b::c::d::e::f::i::j::x::l).toArray):w.cell? ⟨g,8,none⟩=some x:=by simpa using h.cell 8
theorem Blk.c9 (h:Blk w g t (a::b::c::d::e::f::i::j::k::x::l).toArray):w.cell? ⟨g,9,none⟩=some x:=by simpa using h.cell 9
theorem Blk.c10 (h:Blk w g t (a::b::c::d::e::f::i::j::k::m::x::l).toArray):w.cell? ⟨g,10,none⟩=some x:=by simpa using h.cell 10
theorem Blk.c11 (h:Blk w g t (a::b::c::d::e::f::i::j::k::m::n::x::l).toArray):w.cell? ⟨g,11,none⟩=some x:=by simpa using h.cell 11
theorem Blk.c12 (h:Blk w g t (a::b::c::d::e::f::i::j::k::m::n::o::x::l).toArray):w.cell? ⟨g,12,none⟩=some x:=by simpa using h.cell 12
theorem Blk.c13 (h:Blk w g t (a::b::c::d::e::f::i::j::k::m::n::o::p::x::l).toArray):w.cell? ⟨g,13,none⟩=some x:=by simpa using h.cell 13
theorem Blk.c14 (h:Blk w g t (a::b::c::d::e::f::i::j::k::m::n::o::p::q::x::l).toArray):w.cell? ⟨g,14,none⟩=some x:=by simpa using h.cell 14
theorem Blk.c15 (h:Blk w g t (a::b::c::d::e::f::i::j::k::m::n::o::p::q::r::x::l).toArray):w.cell? ⟨g,15,none⟩=some x:=by simpa using h.cell 15
theorem Blk.c16 (h:Blk w g t (a::b::c::d::e::f::i::j::k::m::n::o::p::q::r::u::x::l).toArray):w.cell? ⟨g,16,none⟩=some x:=by simpa using h.cell 16
theorem Blk.c17 (h:Blk w g t (a::b::c::d::e::f::i::j::k::m::n::o::p::q::r::u::v::x::l).toArray):w.cell? ⟨g,17,none⟩=some x:=by simpa using h.cell 17
theorem Blk.c18 (h:Blk w g t (a::b::c::d::e::f::i::j::k::m::n::o::p::q::r::u::v::y::x::l).toArray):w.cell? ⟨g,18,none⟩=some x:=by simpa using h.cell 18
theorem Blk.c19 (h:Blk w g t (a::b::c::d::e::f::i::j::k::m::n::o::p::q::r::u::v::y::z::x::l).toArray):w.cell? ⟨g,19,none⟩=some x:=by simpa using h.cell 19
theorem Blk.c20 (h:Blk w g t (a::b::c::d::e::f::i::j::k::m::n::o::p::q::r::u::v::y::z::A::x::l).toArray):w.cell? ⟨g,20,none⟩=some x:=by simpa using h.cell 20
theorem Blk.c21 (h:Blk w g t (a::b::c::d::e::f::i::j::k::m::n::o::p::q::r::u::v::y::z::A::B::x::l).toArray):w.cell? ⟨g,21,none⟩=some x:=by simpa using h.cell 21
theorem Blk.c22 (h:Blk w g t (a::b::c::d::e::f::i::j::k::m::n::o::p::q::r::u::v::y::z::A::B::C::x::l).toArray):w.cell? ⟨g,22,none⟩=some x:=by simpa using h.cell 22
theorem Blk.c23 (h:Blk w g t (a::b::c::d::e::f::i::j::k::m::n::o::p::q::r::u::v::y::z::A::B::C::D::x::l).toArray):w.cell? ⟨g,23,none⟩=some x:=by simpa using h.cell 23
theorem Blk.c24 (h:Blk w g t (a::b::c::d::e::f::i::j::k::m::n::o::p::q::r::u::v::y::z::A::B::C::D::E::x::l).toArray):w.cell? ⟨g,24,none⟩=some x:=by simpa using h.cell 24
theorem Blk.c25 (h:Blk w g t (a::b::c::d::e::f::i::j::k::m::n::o::p::q::r::u::v::y::z::A::B::C::D::E::F::x::l).toArray):w.cell? ⟨g,25,none⟩=some x:=by simpa using h.cell 25
theorem Blk.c26 (h:Blk w g t (a::b::c::d::e::f::i::j::k::m::n::o::p::q::r::u::v::y::z::A::B::C::D::E::F::G::x::l).toArray):w.cell? ⟨g,26,none⟩=some x:=by simpa using h.cell 26
theorem Blk.c27 (h:Blk w g t (a::b::c::d::e::f::i::j::k::m::n::o::p::q::r::u::v::y::z::A::B::C::D::E::F::G::H::x::l).toArray):w.cell? ⟨g,27,none⟩=some x:=by simpa using h.cell 27
theorem Blk.c28 (h:Blk w g t (a::b::c::d::e::f::i::j::k::m::n::o::p::q::r::u::v::y::z::A::B::C::D::E::F::G::H::J::x::l).toArray):w.cell? ⟨g,28,none⟩=some x:=by simpa using h.cell 28
theorem Blk.c29 (h:Blk w g t (a::b::c::d::e::f::i::j::k::m::n::o::p::q::r::u::v::y::z::A::B::C::D::E::F::G::H::J::K::x::l).toArray):w.cell? ⟨g,29,none⟩=some x:=by simpa using h.cell 29
theorem _root_.Go.RowKit.Hid.c0 (h:Go.RowKit.Hid (Blk w g t (x::l).toArray)):w.cell? ⟨g,0,none⟩=some x:=h.o.c0
theorem _root_.Go.RowKit.Hid.c1 (h:Go.RowKit.Hid (Blk w g t (a::x::l).toArray)):w.cell? ⟨g,1,none⟩=some x:=h.o.c1
theorem _root_.Go.RowKit.Hid.c2 (h:Go.RowKit.Hid (Blk w g t (a::b::x::l).toArray)):w.cell? ⟨g,2,none⟩=some x:=h.o.c2
theorem _root_.Go.RowKit.Hid.c3 (h:Go.RowKit.Hid (Blk w g t (a::b::c::x::l).toArray)):w.cell? ⟨g,3,none⟩=some x:=h.o.c3
theorem _root_.Go.RowKit.Hid.c4 (h:Go.RowKit.Hid (Blk w g t (a::b::c::d::x::l).toArray)):w.cell? ⟨g,4,none⟩=some x:=h.o.c4
theorem _root_.Go.RowKit.Hid.c5 (h:Go.RowKit.Hid (Blk w g t (a::b::c::d::e::x::l).toArray)):w.cell? ⟨g,5,none⟩=some x:=h.o.c5
theorem _root_.Go.RowKit.Hid.c6 (h:Go.RowKit.Hid (Blk w g t (a::b::c::d::e::f::x::l).toArray)):w.cell? ⟨g,6,none⟩=some x:=h.o.c6
theorem _root_.Go.RowKit.Hid.c7 (h:Go.RowKit.Hid (Blk w g t (a::b::c::d::e::f::i::x::l).toArray)):w.cell? ⟨g,7,none⟩=some x:=h.o.c7
theorem _root_.Go.RowKit.Hid.c8 (h:Go.RowKit.Hid (Blk w g t (a::b::c::d::e::f::i::j::x::l).toArray)):w.cell? ⟨g,8,none⟩=some x:=h.o.c8
theorem _root_.Go.RowKit.Hid.c9 (h:Go.RowKit.Hid (Blk w g t (a::b::c::d::e::f::i::j::k::x::l).toArray)):w.cell? ⟨g,9,none⟩=some x:=h.o.c9
theorem _root_.Go.RowKit.Hid.c10 (h:Go.RowKit.Hid (Blk w g t (a::b::c::d::e::f::i::j::k::m::x::l).toArray)):w.cell? ⟨g,10,none⟩=some x:=h.o.c10
theorem _root_.Go.RowKit.Hid.c11 (h:Go.RowKit.Hid (Blk w g t (a::b::c::d::e::f::i::j::k::m::n::x::l).toArray)):w.cell? ⟨g,11,none⟩=some x:=h.o.c11
theorem _root_.Go.RowKit.Hid.c12 (h:Go.RowKit.Hid (Blk w g t (a::b::c::d::e::f::i::j::k::m::n::o::x::l).toArray)):w.cell? ⟨g,12,none⟩=some x:=h.o.c12
theorem _root_.Go.RowKit.Hid.c13 (h:Go.RowKit.Hid (Blk w g t (a::b::c::d::e::f::i::j::k::m::n::o::p::x::l).toArray)):w.cell? ⟨g,13,none⟩=some x:=h.o.c13
theorem _root_.Go.RowKit.Hid.c14 (h:Go.RowKit.Hid (Blk w g t (a::b::c::d::e::f::i::j::k::m::n::o::p::q::x::l).toArray)):w.cell? ⟨g,14,none⟩=some x:=h.o.c14
theorem _root_.Go.RowKit.Hid.c15 (h:Go.RowKit.Hid (Blk w g t (a::b::c::d::e::f::i::j::k::m::n::o::p::q::r::x::l).toArray)):w.cell? ⟨g,15,none⟩=some x:=h.o.c15
theorem _root_.Go.RowKit.Hid.c16 (h:Go.RowKit.Hid (Blk w g t (a::b::c::d::e::f::i::j::k::m::n::o::p::q::r::u::x::l).toArray)):w.cell? ⟨g,16,none⟩=some x:=h.o.c16
theorem _root_.Go.RowKit.Hid.c17 (h:Go.RowKit.Hid (Blk w g t (a::b::c::d::e::f::i::j::k::m::n::o::p::q::r::u::v::x::l).toArray)):w.cell? ⟨g,17,none⟩=some x:=h.o.c17
theorem _root_.Go.RowKit.Hid.c18 (h:Go.RowKit.Hid (Blk w g t (a::b::c::d::e::f::i::j::k::m::n::o::p::q::r::u::v::y::x::l).toArray)):w.cell? ⟨g,18,none⟩=some x:=h.o.c18
theorem _root_.Go.RowKit.Hid.c19 (h:Go.RowKit.Hid (Blk w g t (a::b::c::d::e::f::i::j::k::m::n::o::p::q::r::u::v::y::z::x::l).toArray)):w.cell? ⟨g,19,none⟩=some x:=h.o.c19
theorem _root_.Go.RowKit.Hid.c20 (h:Go.RowKit.Hid (Blk w g t (a::b::c::d::e::f::i::j::k::m::n::o::p::q::r::u::v::y::z::A::x::l).toArray)):w.cell? ⟨g,20,none⟩=some x:=h.o.c20
theorem _root_.Go.RowKit.Hid.c21 (h:Go.RowKit.Hid (Blk w g t (a::b::c::d::e::f::i::j::k::m::n::o::p::q::r::u::v::y::z::A::B::x::l).toArray)):w.cell? ⟨g,21,none⟩=some x:=h.o.c21
theorem _root_.Go.RowKit.Hid.c22 (h:Go.RowKit.Hid (Blk w g t (a::b::c::d::e::f::i::j::k::m::n::o::p::q::r::u::v::y::z::A::B::C::x::l).toArray)):w.cell? ⟨g,22,none⟩=some x:=h.o.c22
theorem _root_.Go.RowKit.Hid.c23 (h:Go.RowKit.Hid (Blk w g t (a::b::c::d::e::f::i::j::k::m::n::o::p::q::r::u::v::y::z::A::B::C::D::x::l).toArray)):w.cell? ⟨g,23,none⟩=some x:=h.o.c23
theorem _root_.Go.RowKit.Hid.c24 (h:Go.RowKit.Hid (Blk w g t (a::b::c::d::e::f::i::j::k::m::n::o::p::q::r::u::v::y::z::A::B::C::D::E::x::l).toArray)):w.cell? ⟨g,24,none⟩=some x:=h.o.c24
theorem _root_.Go.RowKit.Hid.c25 (h:Go.RowKit.Hid (Blk w g t (a::b::c::d::e::f::i::j::k::m::n::o::p::q::r::u::v::y::z::A::B::C::D::E::F::x::l).toArray)):w.cell? ⟨g,25,none⟩=some x:=h.o.c25
theorem _root_.Go.RowKit.Hid.c26 (h:Go.RowKit.Hid (Blk w g t (a::b::c::d::e::f::i::j::k::m::n::o::p::q::r::u::v::y::z::A::B::C::D::E::F::G::x::l).toArray)):w.cell? ⟨g,26,none⟩=some x:=h.o.c26
theorem _root_.Go.RowKit.Hid.c27 (h:Go.RowKit.Hid (Blk w g t (a::b::c::d::e::f::i::j::k::m::n::o::p::q::r::u::v::y::z::A::B::C::D::E::F::G::H::x::l).toArray)):w.cell? ⟨g,27,none⟩=some x:=h.o.c27
theorem _root_.Go.RowKit.Hid.c28 (h:Go.RowKit.Hid (Blk w g t (a::b::c::d::e::f::i::j::k::m::n::o::p::q::r::u::v::y::z::A::B::C::D::E::F::G::H::J::x::l).toArray)):w.cell? ⟨g,28,none⟩=some x:=h.o.c28
theorem _root_.Go.RowKit.Hid.c29 (h:Go.RowKit.Hid (Blk w g t (a::b::c::d::e::f::i::j::k::m::n::o::p::q::r::u::v::y::z::A::B::C::D::E::F::G::H::J::K::x::l).toArray)):w.cell? ⟨g,29,none⟩=some x:=h.o.c29
theorem _root_.Go.RowKit.Hid.s0 (h:Go.RowKit.Hid (Blk w g t (x::l).toArray)) (v:Value):Go.RowKit.Hid (Blk (w.setCell ⟨g,0,none⟩ v) g t (v::l).toArray):=I (by simpa using h.o.set 0 v)
theorem _root_.Go.RowKit.Hid.s1 (h:Go.RowKit.Hid (Blk w g t (a::x::l).toArray)) (v:Value):Go.RowKit.Hid (Blk (w.setCell ⟨g,1,none⟩ v) g t (a::v::l).toArray):=I (by simpa using h.o.set 1 v)
theorem _root_.Go.RowKit.Hid.s2 (h:Go.RowKit.Hid (Blk w g t (a::b::x::l).toArray)) (v:Value):Go.RowKit.Hid (Blk (w.setCell ⟨g,2,none⟩ v) g t (a::b::v::l).toArray):=I (by simpa using h.o.set 2 v)
theorem _root_.Go.RowKit.Hid.s3 (h:Go.RowKit.Hid (Blk w g t (a::b::c::x::l).toArray)) (v:Value):Go.RowKit.Hid (Blk (w.setCell ⟨g,3,none⟩ v) g t (a::b::c::v::l).toArray):=I (by simpa using h.o.set 3 v)
theorem _root_.Go.RowKit.Hid.s4 (h:Go.RowKit.Hid (Blk w g t (a::b::c::d::x::l).toArray)) (v:Value):Go.RowKit.Hid (Blk (w.setCell ⟨g,4,none⟩ v) g t (a::b::c::d::v::l).toArray):=I (by simpa using h.o.set 4 v)
theorem _root_.Go.RowKit.Hid.s5 (h:Go.RowKit.Hid (Blk w g t (a::b::c::d::e::x::l).toArray)) (v:Value):Go.RowKit.Hid (Blk (w.setCell ⟨g,5,none⟩ v) g t (a::b::c::d::e::v::l).toArray):=I (by simpa using h.o.set 5 v)
theorem _root_.Go.RowKit.Hid.s6 (h:Go.RowKit.Hid (Blk w g t (a::b::c::d::e::f::x::l).toArray)) (v:Value):Go.RowKit.Hid (Blk (w.setCell ⟨g,6,none⟩ v) g t (a::b::c::d::e::f::v::l).toArray):=I (by simpa using h.o.set 6 v)
theorem _root_.Go.RowKit.Hid.s7 (h:Go.RowKit.Hid (Blk w g t (a::b::c::d::e::f::i::x::l).toArray)) (v:Value):Go.RowKit.Hid (Blk (w.setCell ⟨g,7,none⟩ v) g t (a::b::c::d::e::f::i::v::l).toArray):=I (by simpa using h.o.set 7 v)
theorem _root_.Go.RowKit.Hid.s8 (h:Go.RowKit.Hid (Blk w g t (a::b::c::d::e::f::i::j::x::l).toArray)) (v:Value):Go.RowKit.Hid (Blk (w.setCell ⟨g,8,none⟩ v) g t (a::b::c::d::e::f::i::j::v::l).toArray):=I (by simpa using h.o.set 8 v)
theorem _root_.Go.RowKit.Hid.s9 (h:Go.RowKit.Hid (Blk w g t (a::b::c::d::e::f::i::j::k::x::l).toArray)) (v:Value):Go.RowKit.Hid (Blk (w.setCell ⟨g,9,none⟩ v) g t (a::b::c::d::e::f::i::j::k::v::l).toArray):=I (by simpa using h.o.set 9 v)
theorem _root_.Go.RowKit.Hid.s10 (h:Go.RowKit.Hid (Blk w g t (a::b::c::d::e::f::i::j::k::m::x::l).toArray)) (v:Value):Go.RowKit.Hid (Blk (w.setCell ⟨g,10,none⟩ v) g t (a::b::c::d::e::f::i::j::k::m::v::l).toArray):=I (by simpa using h.o.set 10 v)
theorem _root_.Go.RowKit.Hid.s11 (h:Go.RowKit.Hid (Blk w g t (a::b::c::d::e::f::i::j::k::m::n::x::l).toArray)) (v:Value):Go.RowKit.Hid (Blk (w.setCell ⟨g,11,none⟩ v) g t (a::b::c::d::e::f::i::j::k::m::n::v::l).toArray):=I (by simpa using h.o.set 11 v)
theorem _root_.Go.RowKit.Hid.s12 (h:Go.RowKit.Hid (Blk w g t (a::b::c::d::e::f::i::j::k::m::n::o::x::l).toArray)) (v:Value):Go.RowKit.Hid (Blk (w.setCell ⟨g,12,none⟩ v) g t (a::b::c::d::e::f::i::j::k::m::n::o::v::l).toArray):=I (by simpa using h.o.set 12 v)
theorem _root_.Go.RowKit.Hid.s13 (h:Go.RowKit.Hid (Blk w g t (a::b::c::d::e::f::i::j::k::m::n::o::p::x::l).toArray)) (v:Value):Go.RowKit.Hid (Blk (w.setCell ⟨g,13,none⟩ v) g t (a::b::c::d::e::f::i::j::k::m::n::o::p::v::l).toArray):=I (by simpa using h.o.set 13 v)
theorem _root_.Go.RowKit.Hid.s14 (h:Go.RowKit.Hid (Blk w g t (a::b::c::d::e::f::i::j::k::m::n::o::p::q::x::l).toArray)) (v:Value):Go.RowKit.Hid (Blk (w.setCell ⟨g,14,none⟩ v) g t (a::b::c::d::e::f::i::j::k::m::n::o::p::q::v::l).toArray):=I (by simpa using h.o.set 14 v)
theorem _root_.Go.RowKit.Hid.s15 (h:Go.RowKit.Hid (Blk w g t (a::b::c::d::e::f::i::j::k::m::n::o::p::q::r::x::l).toArray)) (v:Value):Go.RowKit.Hid (Blk (w.setCell ⟨g,15,none⟩ v) g t (a::b::c::d::e::f::i::j::k::m::n::o::p::q::r::v::l).toArray):=I (by simpa using h.o.set 15 v)
end
theorem Blk.below (h:Blk w g t cs) (M:Below w.heap.size w w'):Blk w' g t cs:=(M.block g h.lt).trans h
theorem Blk.grown {row:Option Nat} (h:Blk w g t cs) (O:w.grownBy w' row) (M:row≠some g):Blk w' g t cs:=(O.block g h.lt (fun e=>M e.symm)).trans h
theorem Rd.keep (h:Rd w B A xs) (hk:∀b o,b<B->w'.cell? ⟨b,o,none⟩=w.cell? ⟨b,o,none⟩):Rd w' B A xs:=by
 rcases h with h | ⟨b,o,O,M,X⟩
 ·exact .inl h
 ·exact .inr ⟨b,o,O,M,fun i u hu=>(hk _ _ M).trans (X i u hu)⟩
theorem Rd.more (h:Rd w B A xs) (hB:B<=B'):Rd w B' A xs:=by
 rcases h with h | ⟨b,o,M,X,O⟩
 ·exact .inl h
 ·exact .inr ⟨b,o,M,by omega,O⟩
theorem Rd.below (h:Rd w B A xs) (O:Below B w w'):Rd w' B A xs:=h.keep fun _ _ M=>O.cell M
theorem Rd.drewN (h:Rd w B A xs) (n:Nat):Rd (w.drewN n) B A xs:=h.keep fun _ _ _=>rfl
theorem Rd.alloc (h:Rd w B A xs) (hB:B<=w.heap.size) (o:Obj):Rd (w.alloc o) B A xs:=
 h.below ((Below.refl B w).alloc hB o)
theorem Rd.grown {row:Option Nat} (h:Rd w B A xs) (M:w.grownBy w' row) (hB:B<=w.heap.size) (O:∀k,row=some k->B<=k):Rd w' B A xs:=
 h.below ((Below.refl B w).grown M hB O)
theorem Rd.of_own {base n cap:Nat} (h:w.ownsRow base t 1 (.slice A n cap) n xs):Rd w w.heap.size A xs:=by
 rcases h.2 with⟨_,X⟩ | ⟨g,O,cur,Z,_,Y,_⟩
 ·left
  have M:=h.1;rw[X] at M;exact List.eq_nil_of_length_eq_zero (by simpa using M)
 ·right
  injection Z with hA _ _;subst hA;exact⟨g,0,rfl,(Array.getElem?_eq_some_iff.1 Y).1,fun i u hu=>by
   have:=h.cells (g:=g) rfl i u hu
   rwa [addr_add] at this⟩
theorem CQ {base n size:Nat} {v:Value} (h:w.ownsRow base t size v n xs) (M:Below w.heap.size w w'):w'.ownsRow base t size v n xs:=
 h.kept (By M none) (by cases v.ownBlock<;>simp)
theorem Rd.at_ {i:Nat} {u:Value} (h:Rd w B A xs) (M:xs[i]? = some u):∃b o,A=some ⟨b,o,none⟩/\b<B/\w.cell? ⟨b,o+i,none⟩=some u:=by
 rcases h with h | ⟨b,o,O,Y,X⟩
 ·subst h;simp at M
 ·exact⟨b,o,O,Y,X i u M⟩
end
section
variable {P:Program} (w:World)
theorem AJ {B:Nat} {A:Option Addr} {l:List UInt8} (src e:TypeId) (hs:P.underlying src=some (.slice e)) (he:P.underlying e=some (.int .u8)) (h:Rd w B A (bvs l)) (n c:Nat) (hn:n=l.length)
  (dst:TypeId) (X:P.underlying dst=some .string):(convert src dst (.slice A n c)).run P w=.ok (.string ⟨l.toArray⟩) w:=by
 subst hn;have key:∀a:Addr,A=some a->(∀i u,(bvs l)[i]? = some u->w.cell? (a.add i)=some u)->(convert src dst (.slice A l.length c)).run P w=.ok (.string ⟨l.toArray⟩) w:=by
  intro a Y hc;subst Y;have Z:(l.map fun b=>(b.toNat:Int)).map (Value.int .u8)=bvs l:=by simp [bvs,bv,Function.comp_def]
  have O:(loadCells a l.length).run P w=.ok ((l.map fun b=>(b.toNat:Int)).map (Value.int .u8)).toArray w:=by
   have:=run_loadCells_list (P:=P) w a (bvs l) hc;rw[AB] at this;rw[Z];exact this
  rw[run_convert_bytes_string w src dst e _ _ c hs he X,run_bytesToString w a l.length c _ O,foldl_push_bytes];have e2:((l.map fun b=>(b.toNat:Int)).map fun n=>UInt8.ofNat n.toNat)=l:=by
   rw[List.map_map]
   conv=>rhs;rw[<-List.map_id l]
   apply List.map_congr_left;intro b _;simp
  rw[e2];simp [ByteArray.empty,ByteArray.emptyWithCapacity]
  rfl
 cases hA:A with
 |some a=>
  rw[<-hA];refine key a hA ?_;rcases h with h | ⟨b,o,M,_,h3⟩
  ·rw[h];intro i u hu;simp at hu
  ·rw[hA] at M
   injection M with M;subst M;intro i u hu;rw[addr_add];exact h3 i u hu
 |none=>
  have O:l = []:=by
   rcases h with h | ⟨b,o,M,_,_⟩
   ·exact List.map_eq_nil_iff.1 h
   ·rw[hA] at M;cases M
  subst O;rw[run_convert_bytes_nil w src e hs he _ c dst X]
  rfl
theorem Gv (base:Nat) (t ty e:TypeId) (i:TypeInfo) (z:Value) (bytes:Nat) (ht:P.underlying t=some (.slice e)) (hi:P.info? e=some i) (hz:i.zero=some z)
  (Y:i.size=1) (ae:i.bytes=bytes) (ab:z.cells.size=1)
  (v:Value) (n:Nat) (xs:List Value) (M:w.ownsRow base e 1 v n xs)
  (B:Nat) (A:Option Addr) (m c:Nat) (news:List Value) (hm:m=news.length) (hr:Rd w B A news) (O:∀u∈news,u.oneCell'=true)
  (ad:n+m<=maxLen) (X:(n+m)*bytes<=140737488355328) (Z:base<=w.heap.size) :
  ∃v' w',(Builtin.append_ #[t,t] ty #[v,.slice A m c]).run P w=.ok v' w'/\w'.ownsRow base e 1 v' (n+m) (xs++news)/\w.grownBy w' v.ownBlock/\
   (v'.ownBlock=v.ownBlock\/v'.ownBlock=some w.heap.size):=by
 subst hm;cases hA:A with
 |some a=>
  have hc:∀j u,news[j]? = some u->w.cell? (a.add j)=some u:=by
   rcases hr with h | ⟨b,o,O,_,h3⟩
   ·rw[h];intro i u hu;simp at hu
   ·rw[hA] at O
    injection O with O;subst O;intro i u hu;rw[addr_add];exact h3 i u hu
  obtain⟨v',w',aa,h2,h3,_,h5⟩:=run_append_own_at (P:=P) w base t ty e i z 1 bytes ht hi hz Y ae ab (by omega) v n xs M a news.length c news (by omega) hc O ad X Z;exact⟨v',w',aa,h2,h3,h5⟩
 |none=>
  have hn:news = []:=by
   rcases hr with h | ⟨b,o,O,_,_⟩
   ·exact h
   ·rw[hA] at O;cases O
  subst hn;refine⟨v,w,?_,by simpa using M,World.grownBy.refl w _,.inl rfl⟩;rcases M.2 with⟨rfl,rfl⟩ | ⟨g,cap,cur,rfl,_,_,af,_⟩
  ·simp [Builtin.append_,run_underlying ht,sizeOf,typeInfo,hi,Builtin.lenOf,Builtin.firstCells]
  ·simp [Builtin.append_,run_underlying ht,sizeOf,typeInfo,hi,Builtin.lenOf,Builtin.firstCells,af,storeCells]
theorem Fp {o:Oper} {a:Act} {K:Act->World->Prop} {Q:Exit->Act->World->Prop} (s x:Operand) (t:TypeId)
  (ho:o.op=.call {callee:=.builtin .append,args:=#[s,x],argTypes:=#[t,t]})
  (base:Nat) (e:TypeId) (i:TypeInfo) (z:Value) (bytes:Nat) (ht:P.underlying t=some (.slice e)) (hi:P.info? e=some i) (hz:i.zero=some z)
  (O:i.size=1) (ad:i.bytes=bytes) (aa:z.cells.size=1)
  (v:Value) (n:Nat) (xs:List Value) (hs:a.eval s=v) (Y:w.ownsRow base e 1 v n xs)
  (B:Nat) (A:Option Addr) (m c:Nat) (news:List Value) (hx:a.eval x=.slice A m c) (hm:m=news.length) (hr:Rd w B A news) (h1:∀u∈news,u.oneCell'=true)
  (ab:n+m<=maxLen) (M:(n+m)*bytes<=140737488355328) (X:base<=w.heap.size)
  (h:∀v' w',w'.ownsRow base e 1 v' (n+m) (xs++news)->w.grownBy w' v.ownBlock->(v'.ownBlock=v.ownBlock\/v'.ownBlock=some w.heap.size)->K (a.put o.dst v') w'):o.wp P a w K Q:=by
 obtain⟨v',w',Z,h2,h3,h4⟩:=Gv (P:=P) w base t o.type e i z bytes ht hi hz O ad aa v n xs Y B A m c news hm hr h1 ab M X;unfold Oper.wp execOp;simp only[ho,resolve,invoke,builtin,Sem.run_bind,Sem.run_pure,Result.andThen_ok,List.map_toArray,List.map_cons,List.map_nil,hs,hx,Z];exact h v' w' h2 h3 h4
theorem AF {ops:Array Oper} {rest:List Oper} {o:Oper} {a:Act} {Q:Exit->Act->World->Prop} (M:o.guard=none) (s x:Operand) (t:TypeId)
  (Y:o.op=.call {callee:=.builtin .append,args:=#[s,x],argTypes:=#[t,t]})
  (base:Nat) (e:TypeId) (i:TypeInfo) (z:Value) (bytes:Nat) (ht:P.underlying t=some (.slice e)) (hi:P.info? e=some i) (hz:i.zero=some z)
  (hsize:i.size=1) (hby:i.bytes=bytes) (hzs:z.cells.size=1)
  (v:Value) (n:Nat) (xs:List Value) (hs:a.eval s=v) (hown:w.ownsRow base e 1 v n xs)
  (B:Nat) (A:Option Addr) (m c:Nat) (news:List Value) (hx:a.eval x=.slice A m c) (hm:m=news.length) (hr:Rd w B A news) (h1:∀u∈news,u.oneCell'=true)
  (h63:n+m<=maxLen) (hbytes:(n+m)*bytes<=140737488355328) (hbase:base<=w.heap.size)
  (h:∀v' w',w'.ownsRow base e 1 v' (n+m) (xs++news)->w.grownBy w' v.ownBlock->(v'.ownBlock=v.ownBlock\/v'.ownBlock=some w.heap.size)->wpList P ops Q rest (a.put o.dst v') w'):wpList P ops Q (o :: rest) a w:=
 wpList_plain M fun _ X=>Fp w s x t Y base e i z bytes ht hi hz hsize hby hzs v n xs hs hown B A m c news hx hm hr h1 h63 hbytes hbase fun v' w' h2 Z O=>X _ _ (h v' w' h2 Z O)
end
def Da (n:Nat):Array Value:=(List.replicate n (bv 0)).toArray
theorem DC (n:Nat):(Da n).size=n:=by simp [Da]
theorem Gc {P:Program} {t e:TypeId} {i:TypeInfo} (M:P.underlying t=some (.slice e)) (hi:P.info? e=some i) (O:i.zero=some (.int .u8 0)) (hs:i.size=1) (Y:i.bytes=1)
  (C:Int) (n:Nat) (Z:C=(n:Int)) (hn:n<=1000000) (w:World) :
  (Instr.makeSlice t (.int .i64 C) (.int .i64 C)).run P w=.ok (.slice (some ⟨w.heap.size,0,none⟩) n n) (w.alloc (.cells (Da n) e)):=by
 subst Z;have h:=run_make (P:=P) w t e i _ M hi O .i64 .i64 (n:Int) (n:Int) (by omega) (by omega) (by rw[Y];omega) (by omega);rw[Int.toNat_natCast,hs,Nat.mul_one] at h;rw[h];have X:madeCells (Value.int .u8 0).cells n=Da n:=by
  apply Array.toList_inj.1;rw[show(Value.int .u8 0).cells=#[Value.int .u8 0] from rfl,toList_madeCells_one];simp [Da,bv]
 rw[X]
theorem Dy {P:Program} {t e:TypeId} {i:TypeInfo} (M:P.underlying t=some (.slice e)) (hi:P.info? e=some i) (O:i.zero=some (.int .u8 0)) (hs:i.size=1) (Y:i.bytes=1)
  (C:Int) (n:Nat) (Z:C=(n:Int)) (hn:n<=1000000) (w:World) :
  (Instr.makeSlice t (.int .i64 0) (.int .i64 C)).run P w=.ok (.slice (some ⟨w.heap.size,0,none⟩) 0 n) (w.alloc (.cells (Da n) e)):=by
 subst Z;have h:=run_make (P:=P) w t e i _ M hi O .i64 .i64 0 (n:Int) (by omega) (by omega) (by rw[Y];omega) (by omega);rw[Int.toNat_natCast,hs,Nat.mul_one] at h;rw[h];have X:madeCells (Value.int .u8 0).cells n=Da n:=by
  apply Array.toList_inj.1;rw[show(Value.int .u8 0).cells=#[Value.int .u8 0] from rfl,toList_madeCells_one];simp [Da,bv]
 rw[X]
 rfl
theorem Em (w:World) (e:TypeId) (s:ByteArray):Below w.heap.size w (Lib.bytesWorld w e s):=
 ⟨rfl,rfl,rfl,by rw[Lib.bytesWorld_size];omega,fun k hk=>Lib.bytesWorld_at_old w e s k hk⟩
def Pv (w:World) (base b:Nat) (l:List UInt8):Prop:=
 base<=b/\b<w.heap.size/\∀i (h:i<l.length),w.cell? ⟨b,i,none⟩=some (bv l[i])/\w.frozen? ⟨b,i,none⟩=false
theorem Ge (w:World) (e:TypeId) (l:List UInt8):Pv (Lib.bytesWorld w e ⟨l.toArray⟩) w.heap.size w.heap.size l:=by
 refine⟨Nat.le_refl _,by rw[Lib.bytesWorld_size];omega,fun i h=>⟨?_,?_⟩⟩
 ·rw[Lib.bytesWorld_cell w e ⟨l.toArray⟩ i (by simpa [ByteArray.size] using h)]
  simp [bv,List.getD,h]
 ·have M:i<(Lib.bytesCells w e ⟨l.toArray⟩).size:=by
   simp only[Lib.bytesCells,Array.size_append,Array.size_map,Array.size_replicate];simp;omega
  simp only[World.frozen?,Lib.bytesWorld_at_new];simp;omega
theorem Pv.rd {w:World} {base b:Nat} {l:List UInt8} (h:Pv w base b l):Rd w w.heap.size (some ⟨b,0,none⟩) (bvs l):=by
 refine .inr ⟨b,0,rfl,h.2.1,fun i u hu=>?_⟩;have M:i<l.length:=by
  rcases Nat.lt_or_ge i l.length with g | g
  ·exact g
  ·rw[List.getElem?_eq_none (by rw[AB];exact g)] at hu;cases hu
 rw[DR M] at hu;injection hu with hu;subst hu;rw[Nat.zero_add];exact(h.2.2 i M).1
end Ae
end Go.Proofs.YtlccngianpfalaaGreat
