import Derived.Lib.ItoaNum
import Derived.WalkKit
import Derived.WalkSpells
import Derived.WalkLawsBesides
import Derived.LaidEqlPtr
import Derived.Maps.AppendAt
import Derived.Maps.Range
import Derived.Maps.RangeWalk
import Derived.Deep.AppendLies
import Derived.Deep.Draws
import Derived.Deep.Onto
import Derived.Lib.ConvBytes
import Derived.Lib.Hide
import Derived.RegionTactic
import Derived.Deep.QuietTactic
import Derived.BigQuiet
import Derived.Laws.BitsAllLaws
import Derived.Laws.BitsLemmas
import Derived.Test.YtlfmicidppccnaaGreatProg
import Derived.Lib.Strings
import Derived.Lib.Walk
import Derived.Lib.Bytealg
import Derived.Lib.BufferWrite
import Derived.Lib.UnsafeStr
import Derived.Laws.MakeOwn
import Derived.Laws.OwnMore
import Derived.Deep.WholeRow
import Derived.Deep.LoopGhost
import Derived.Deep.RegionHeld3
import Derived.Deep.Cut
import Derived.Deep.CutRange
import Derived.Deep.CutBlock
import Derived.Deep.MidRow
import Derived.StillTailTactics
import Derived.Laws.Bits64
import Derived.Deep.RegionLaw
import Derived.Laws.Bits64b
import Derived.SizedLaws
import Derived.Test.YtlfmicidppccnaaGreatRows
import Derived.Lib.SmallJoins
import Derived.Deep.Strs
import Derived.ChangeSame
import Derived.ProofKit
import Derived.OpenShut
import Derived.ShutString
import Derived.ChangeOld
import Derived.Deep.Matrix
import Derived.Deep.Slices
import Derived.Lib.SlBytesConst
import Derived.BigFrame
import Derived.Great.BuildSlice
import Derived.Laws.StructEq
import Derived.Lib.SliceRun
import Derived.Lib.BitFns
import Derived.Lib.Tables
import Derived.Lib.MinMax
import Derived.Laws.Tables
import Derived.Laws.IdiomCopy
import Derived.IntWalk
import Derived.Below
set_option maxHeartbeats 25600000
set_option maxRecDepth 100000
set_option linter.unusedVariables false
set_option linter.unusedSimpArgs false
theorem Go.RowKit.Hid.o {p : Prop} (h : Go.RowKit.Hid p) : p := h
theorem Go.Aside.o {p : Prop} (h : Go.Aside p) : p := h
theorem Go.Shut.o {p : Prop} (h : Go.Shut p) : p := h
namespace Go.Proofs.YtlfmicidppccnaaGreat
theorem I {p : Prop} (h : p) : Go.RowKit.Hid p := h
theorem Ae {n : Nat} : n ≤ n := Nat.le_refl n
theorem Af {n : Nat} {w : World} : Go.RowKit.Below n w w := Go.RowKit.Below.refl n w
theorem J {α : Type} (l : List α) (i : Nat) (a : α) : l.toArray.setIfInBounds i a = (l.set i a).toArray := List.setIfInBounds_toArray ..
theorem U {α : Type} {x : α} {xs : List α} {a : α} : (x :: xs).set 0 a = a :: xs := rfl
theorem Aa {α : Type} {x : α} {xs : List α} {n : Nat} {a : α} : (x :: xs).set (n + 1) a = x :: xs.set n a := rfl
end Go.Proofs.YtlfmicidppccnaaGreat
theorem Go.RowKit.Hid.t {a w w' : Go.World} (h : Go.RowKit.Hid (Go.RowKit.Below a.heap.size a w)) (k : Go.RowKit.Below w.heap.size w w') : Go.RowKit.Hid (Go.RowKit.Below a.heap.size a w') := Go.Proofs.YtlfmicidppccnaaGreat.I (h.o.trans (k.mono h.o.size))
namespace Go.Proofs.YtlfmicidppccnaaGreat
namespace DerP
abbrev L:=List UInt8
def szL (n:Nat):L:=if n<128 then [UInt8.ofNat n] else if n≤255 then [129,UInt8.ofNat n] else [130,UInt8.ofNat (n / 256),UInt8.ofNat n]
def elem (t:UInt8) (p:L):L:=t :: (szL p.length++p)
def lenR:L→Nat×Nat×Bool
 | []=>(0,0,false)
 |a :: r=>
  if a.toNat<128 then (a.toNat,1,true)
  else if a.toNat=129 then
   match r with
   | []=>(0,0,false)
   |b :: _=>(b.toNat,2,decide (128≤b.toNat))
  else if a.toNat=130 then
   match r with
   |b :: c :: _=>(b.toNat*256+c.toNat,3,decide (255<b.toNat*256+c.toNat))
   |_=>(0,0,false)
  else (0,0,false)
def BC (t:UInt8):L→Option (L×L)
 | []=>none
 |a :: s=>
  if a=t∧(lenR s).2.2=true∧(lenR s).1+(lenR s).2.1≤s.length
  then some ((s.drop (lenR s).2.1).take (lenR s).1,(s.drop (lenR s).2.1).drop (lenR s).1) else none
def Cd (t:UInt8) (c:Option L):Option L:=(c.bind (BC t)).map (·.2)
def Bb (t:UInt8) (c:Option L):Option L:=(c.bind (BC t)).map (·.1)
theorem DR {t:UInt8} {s b r:L} (h:BC t s=some (b,r)):Bb t (some s)=some b∧Cd t (some s)=some r:=by simp [Bb,Cd,h]
def val (l:L):Nat:=l.foldl (fun a b=>a*256+b.toNat) 0
def Cg:L→Bool
 | []=>false
 |b :: _=>decide (b.toNat<128)
def numL:L→Option Nat
 | []=>none
 |a :: r=>
  if 7<r.length∨128≤a.toNat then none
  else if a.toNat=0∧Cg r=true then none
  else if 4611686018427387904<val (a :: r) then none
  else some (val (a :: r))
def digK:Nat→Nat→L
 |0,_=>[]
 |k+1,n=>digK k (n / 256)++[UInt8.ofNat n]
def dig (n:Nat):L:=digK (Lib.bitLen n / 8+1) n
def AY (n:Int):Nat:=(min (max n 0) 4611686018427387904).toNat
def encI (n:Int):L:=elem 2 (dig (AY n))
def intC (c:Option L):Nat×Option L:=
 match Bb 2 c with
 |none=>(0,none)
 |some b=>match numL b with
  |none=>(0,none)
  |some n=>(n,Cd 2 c)
theorem Dd (n:Int):AY n≤4611686018427387904:=by unfold AY;omega
theorem FG (n:Int) (h0:0≤n) (h1:n≤4611686018427387904):AY n=n.toNat:=by unfold AY;omega
theorem Fh (n:Int):((AY n:Nat):Int)=min (max n 0) 4611686018427387904:=by unfold AY;omega
theorem Bc (k n:Nat):(digK k n).length=k:=by
 induction k generalizing n with
 |zero=>rfl
 |succ k ih=>simp [digK,ih]
theorem EJ (l:L) (b:UInt8):val (l++[b])=val l*256+b.toNat:=by simp [val]
theorem EM (k n:Nat):val (digK k n)=n % 256 ^ k:=by
 induction k generalizing n with
 |zero=>simp [digK,val,Nat.mod_one]
 |succ k ih=>
  rw[digK,EJ,ih];have h1:(UInt8.ofNat n).toNat=n % 256:=by simp
  rw[h1,Nat.pow_succ,Nat.mul_comm (256 ^ k) 256,Nat.mod_mul];omega
theorem Fi (l:L) (k:Nat) (h:l.length=k+1):∃m b,l=m++[b]∧m.length=k:=by
 refine⟨l.take k,l[k]'(by omega),?_,by simp;omega⟩;rw[List.take_append_getElem];rw[List.take_of_length_le (by omega)]
theorem GL (k:Nat) (l:L) (h:l.length=k):digK k (val l)=l:=by
 induction k generalizing l with
 |zero=>rw[List.length_eq_zero_iff.1 h];rfl
 |succ k ih=>
  obtain⟨m,b,rfl,hm⟩:=Fi l k h;rw[digK,EJ];have hb:=b.toNat_lt;have e:(val m*256+b.toNat) / 256=val m:=by omega
  rw[e,ih m hm]
  congr 1
  simp only[List.cons.injEq,and_true];apply UInt8.toNat_inj.1;simp
theorem IC (k n j:Nat) (h:j<k):(digK k n)[j]? = some (UInt8.ofNat (n / 256 ^ (k - 1 - j))):=by
 induction k generalizing n with
 |zero=>omega
 |succ k ih=>
  rw[digK]
  by_cases hj:j<k
  ·rw[List.getElem?_append_left (by rw[Bc];exact hj),ih _ hj]
   congr 2
   rw[Nat.div_div_eq_div_mul]
   congr 1
   rw[show k+1 - 1 - j=(k - 1 - j)+1 by omega,Nat.pow_succ,Nat.mul_comm]
  ·obtain rfl:j=k:=by omega
   rw[List.getElem?_append_right (by rw[Bc];omega),Bc];simp
theorem FH (l:L) (j:Nat) (b:UInt8) (h:l[j]? = some b):l.drop j=b :: l.drop (j+1):=by
 obtain⟨hj,e⟩:=List.getElem?_eq_some_iff.1 h;rw[List.drop_eq_getElem_cons hj,e]
theorem JN (l:L):val l<256 ^ l.length:=by
 have h:=EM l.length (val l);rw[GL l.length l rfl] at h;have hp:0<256 ^ l.length:=Nat.pow_pos (by omega);rw[h];exact Nat.mod_lt _ hp
theorem FI (l:L) (x:Nat):l.foldl (fun a b=>a*256+b.toNat) x=x*256 ^ l.length+val l:=by
 induction l generalizing x with
 |nil=>simp [val]
 |cons a r ih=>
  have e:val (a :: r)=a.toNat*256 ^ r.length+val r:=by
   show List.foldl _ (0*256+a.toNat) r=_;rw[ih];simp
  rw[List.foldl_cons,ih,e,List.length_cons,Nat.pow_succ,Nat.add_mul,Nat.mul_assoc,Nat.mul_comm 256,Nat.add_assoc]
theorem EP (a:UInt8) (r:L):val (a :: r)=a.toNat*256 ^ r.length+val r:=by
 show List.foldl _ (0*256+a.toNat) r=_;rw[FI];simp
theorem FJ (x:Nat) (hx:x<18446744073709551616) (k:Nat) (h:2 ^ k≤x):k+1≤Lib.bitLen x:=by
 have h0:x≠0:=by
  have:=Nat.pow_pos (n:=k) (show 0<2 by omega);omega
 obtain⟨_,_,h3⟩:=Lib.bitLenAux_bounds 64 x (by simpa using hx) h0;have h4:2 ^ k<2 ^ Lib.bitLen x:=Nat.lt_of_le_of_lt h h3;have:=(Nat.pow_lt_pow_iff_right (a:=2) (by omega)).1 h4;omega
theorem CR (x k:Nat) (hk:k≤64) (h:x<2 ^ k):Lib.bitLen x≤k:=Lib.bitLen_le x k hk h
theorem DS (x:Nat) (hx:x<18446744073709551616):x<2 ^ Lib.bitLen x:=by
 by_cases h0:x=0
 ·subst h0;exact Nat.pow_pos (by omega)
 ·exact(Lib.bitLenAux_bounds 64 x (by simpa using hx) h0).2.2
theorem De (n:Nat) (h:n≤4611686018427387904):Lib.bitLen n≤63:=CR n 63 (by omega) (by omega)
theorem Cu (n:Nat):(dig n).length=Lib.bitLen n / 8+1:=Bc _ _
theorem ID (n:Nat) (h:n≤4611686018427387904):(dig n).length≤8:=by
 rw[Cu];have:=De n h;omega
theorem FK (k:Nat):256 ^ k=2 ^ (8*k):=by rw[Nat.pow_mul]
theorem IE (n:Nat) (h:n≤4611686018427387904):val (dig n)=n:=by
 rw[dig,EM];apply Nat.mod_eq_of_lt;rw[FK];refine Nat.lt_of_lt_of_le (DS n (by omega)) (Nat.pow_le_pow_right (by omega) (by omega))
theorem IF (n:Nat) (h:n≤4611686018427387904):numL (dig n)=some n:=by
 have hv:=IE n h;have hl:=Cu n;have h62:=De n h;have hlt:=DS n (by omega);cases hd:dig n with
 |nil=>rw[hd] at hl;simp at hl
 |cons a r=>
  rw[hd] at hv hl;simp only[List.length_cons] at hl;have hr:r.length=Lib.bitLen n / 8:=by omega
  have hc:=EP a r;rw[hv] at hc;have ha:a.toNat<128:=by
   rcases Nat.lt_or_ge a.toNat 128 with g | g
   ·exact g
   ·exfalso
    have h1:128*256 ^ r.length≤n:=by
     have:=Nat.mul_le_mul_right (256 ^ r.length) g;omega
    have h2:2 ^ (8*r.length+7)≤n:=by
     rw[Nat.pow_add,←FK,Nat.mul_comm];simpa using h1
    have h3:=FJ n (by omega) _ h2;omega
  have hs:¬(a.toNat=0∧Cg r=true):=by
   rintro⟨h0,h1⟩;cases r with
   |nil=>simp [Cg] at h1
   |cons b q=>
    simp only[Cg,decide_eq_true_eq] at h1;have hq:=EP b q;have hb:=JN q;simp only[List.length_cons] at hr hc;rw[h0] at hc;have h4:n<128*256 ^ q.length:=by
     have:(b.toNat+1)*256 ^ q.length≤128*256 ^ q.length:=Nat.mul_le_mul_right _ (by omega);rw[Nat.add_mul] at this;omega
    have h5:n<2 ^ (8*q.length+7):=by
     rw[Nat.pow_add,←FK,Nat.mul_comm];simpa using h4
    have h6:=CR n (8*q.length+7) (by omega) h5;omega
  simp only[numL];rw[if_neg (by omega),if_neg hs,if_neg (by omega),hv]
def numR (s:L):Nat×Bool:=((numL s).getD 0,(numL s).isSome)
theorem Dr (n:Nat):(szL n).length=if n<128 then 1 else if n≤255 then 2 else 3:=by
 unfold szL;split
 ·rfl
 ·split<;>rfl
theorem Ce (t:UInt8) (p:L):(elem t p).length=1+(szL p.length).length+p.length:=by
 simp [elem];omega
theorem GM (n:Nat) (h:n≤65535) (r:L):lenR (szL n++r)=(n,(szL n).length,true):=by
 unfold szL
 by_cases h1:n<128
 ·have e:n % 256=n:=by omega
  simp [h1,lenR,e]
 ·by_cases h2:n≤255
  ·have e:(UInt8.ofNat n).toNat=n:=by simp;omega
   simp [h1,h2,lenR];omega
  ·have e1:(UInt8.ofNat (n / 256)).toNat=n / 256:=by simp;omega
   have e2:(UInt8.ofNat n).toNat=n % 256:=by simp
   have e3:n / 256 % 256*256+n % 256=n:=by omega
   simp [h1,h2,lenR,e3];omega
theorem Ej {s:L} (h:(lenR s).2.2=true):szL (lenR s).1=s.take (lenR s).2.1∧(lenR s).2.1=(szL (lenR s).1).length∧(lenR s).2.1≤s.length∧(lenR s).1≤65535:=by
 have key:∀a:UInt8,UInt8.ofNat a.toNat=a:=fun a=>by simp
 cases s with
 |nil=>simp [lenR] at h
 |cons a r=>
  have ha:=a.toNat_lt
  by_cases h1:a.toNat<128
  ·simp [lenR,h1,szL];omega
  ·by_cases h2:a.toNat=129
   ·cases r with
    |nil=>simp [lenR,h2] at h
    |cons b q=>
     have hb:=b.toNat_lt;have hae:a=129:=UInt8.toNat_inj.1 h2;subst hae;simp [lenR] at h;have h3:¬b.toNat<128:=by omega
     have h4:b.toNat≤255:=by omega
     simp [lenR,szL,h3,h4];omega
   ·by_cases h3:a.toNat=130
    ·rcases r with _ | ⟨b,_ | ⟨c,q⟩⟩
     ·simp [lenR,h3] at h
     ·simp [lenR,h3] at h
     ·have hb:=b.toNat_lt
      have hc:=c.toNat_lt;have hae:a=130:=UInt8.toNat_inj.1 h3;subst hae;simp [lenR] at h;have g1:¬b.toNat*256+c.toNat<128:=by omega
      have g2:¬b.toNat*256+c.toNat≤255:=by omega
      have e1:UInt8.ofNat ((b.toNat*256+c.toNat) / 256)=b:=by
       rw[show(b.toNat*256+c.toNat) / 256=b.toNat by omega];simp
      have e2:UInt8.ofNat (b.toNat*256+c.toNat)=c:=by
       apply UInt8.toNat_inj.1;simp
      simp only[lenR,szL];simp [g1,g2,e1,e2];omega
    ·simp [lenR,h1,h2,h3] at h
theorem BD (t:UInt8) (p r:L) (h:p.length≤65535):BC t (elem t p++r)=some (p,r):=by
 show BC t (t :: (szL p.length++p++r))=_;rw[List.append_assoc,BC,GM _ h];simp;omega
theorem Ek {t:UInt8} {s b r:L} (h:BC t s=some (b,r)):s=elem t b++r∧b.length≤65535:=by
 cases s with
 |nil=>simp [BC] at h
 |cons a s=>
  simp only[BC] at h
  by_cases hc:a=t∧(lenR s).2.2=true∧(lenR s).1+(lenR s).2.1≤s.length
  ·rw[if_pos hc] at h
   obtain⟨rfl,h1,h2⟩:=hc;obtain⟨g1,g2,g3,g4⟩:=Ej h1;injection h with h;injection h with hb hr;have hl:b.length=(lenR s).1:=by rw[←hb];simp;omega
   refine⟨?_,by omega⟩;rw[elem,hl,g1,←hb,←hr,List.cons_append,List.append_assoc,List.take_append_drop,List.take_append_drop]
  ·rw[if_neg hc] at h;cases h
theorem GN {t:UInt8} {p q r1 r2:L} (hp:p.length≤65535) (hq:q.length≤65535) (h:elem t p++r1=elem t q++r2):p=q∧r1=r2:=by
 have h1:=BD t p r1 hp;rw[h,BD t q r2 hq] at h1;injection h1 with h1;injection h1 with h1 h2;exact⟨h1.symm,h2.symm⟩
theorem Df (t:UInt8) (p:L) (hp:p.length≤65535) (k:Nat) (hk:k<(elem t p).length):BC t ((elem t p).take k)=none:=by
 cases h:BC t ((elem t p).take k) with
 |none=>rfl
 |some x=>
  obtain⟨b,r⟩:=x;obtain⟨h1,h2⟩:=Ek h;have h3:elem t p++[]=elem t b++(r++(elem t p).drop k):=by
   rw[←List.append_assoc,←h1,List.take_append_drop,List.append_nil]
  obtain⟨_,h4⟩:=GN hp h2 h3;have h5:=congrArg List.length h4;simp at h5;omega
theorem DB (n:Int):(dig (AY n)).length≤8:=ID _ (Dd n)
theorem IG (n:Int) (r:L):intC (some (encI n++r))=(AY n,some r):=by
 have h:=BD 2 (dig (AY n)) r (by have:=DB n;omega);simp only[intC,Bb,Cd,encI,Option.bind_some,h,Option.map_some,IF _ (Dd n)]
end DerP
namespace Ad
open Go.RowKit
theorem CW (l:List UInt8) (i:Nat) (h:i<(ByteArray.mk l.toArray).size):(ByteArray.mk l.toArray)[i]'h=l[i]'(by simpa [ByteArray.size] using h):=rfl
theorem Bu (a:UInt8) (r:List UInt8):(ByteArray.mk (a :: r).toArray).extract 1 (r.length+1)=ByteArray.mk r.toArray:=by
 rw[ByteArray.extract_mk];simp
theorem Bv (l:List UInt8) (k:Nat):(ByteArray.mk l.toArray).extract k l.length=ByteArray.mk (l.drop k).toArray:=by
 rw[ByteArray.extract_mk,List.take_of_length_le (by simp)]
theorem Cv (l:List UInt8) (k n:Nat):(ByteArray.mk l.toArray).extract k (k+n)=ByteArray.mk ((l.drop k).take n).toArray:=by
 rw[ByteArray.extract_mk,Nat.add_sub_cancel_left]
theorem FL (a:UInt8):(a.toNat:Int)≤255:=by have:=a.toNat_lt;omega
theorem FM (s:ByteArray):s=⟨s.data.toList.toArray⟩:=by cases s;simp
def bv (b:UInt8):Value:=.int .u8 (b.toNat:Int)
def bvs (l:List UInt8):List Value:=l.map bv
theorem AZ (l:List UInt8):(bvs l).length=l.length:=by simp [bvs]
theorem Fj (l m:List UInt8):bvs (l++m)=bvs l++bvs m:=by simp [bvs]
theorem BT (l:List UInt8):∀u∈bvs l,u.oneCell'=true:=by
 intro u hu;obtain⟨b,_,rfl⟩:=List.mem_map.1 hu
 rfl
theorem FN {l:List UInt8} {i:Nat} (h:i<l.length):(bvs l)[i]? = some (bv l[i]):=by simp [bvs,h]
def Rd (w:World) (B:Nat) (A:Option Addr) (xs:List Value):Prop:=
 xs = []∨∃b o,A=some ⟨b,o,none⟩∧b<B∧∀i u,xs[i]? = some u→w.cell? ⟨b,o+i,none⟩=some u
def Blk (w:World) (g:Nat) (t:TypeId) (cs:Array Value):Prop:=w.heap[g]? = some (.cells cs t (0,0))
theorem addr_add (b o j:Nat):(⟨b,o,none⟩:Addr).add j=⟨b,o+j,none⟩:=by unfold Addr.add;split<;>simp_all
section
variable {w w' a c:World} {B B' g:Nat} {A:Option Addr} {xs:List Value} {t:TypeId} {cs:Array Value}
theorem IH {row:Option Nat} (h:a.grownBy w row) {p:Addr} (hp:row=some p.block∨a.heap.size≤p.block) (u:Value):a.grownBy (w.setCell p u) row:=
 ⟨h.os,h.tape,h.output,by simpa [World.setCell] using h.size,fun i hi hne=>(Below.heap_setCell w p u i (by
  rintro rfl;rcases hp with hp | hp
  ·exact hne hp.symm
  ·omega)).trans (h.block i hi hne)⟩
theorem Fk (h:Below a.heap.size a w) (row:Option Nat):a.grownBy w row:=⟨h.os,h.tape,h.output,h.size,fun i hi _=>h.block i hi⟩
theorem AV (h:Below B a w) (k:w.grownBy c (some g)) (hB:B≤w.heap.size) (hg:B≤g):Below B a c:=
 h.grown k hB (fun j hj=>by injection hj with hj;omega)
theorem bt (h:Below a.heap.size a w) (k:Below w.heap.size w c):Below a.heap.size a c:=h.trans (k.mono h.size)
theorem btg (h:Below a.heap.size a w) (k:w.grownBy c (some g)) (hg:a.heap.size≤g):Below a.heap.size a c:=AV h k h.size hg
theorem Blk.lt (h:Blk w g t cs):g<w.heap.size:=by
 rcases Nat.lt_or_ge g w.heap.size with h1 | h1
 ·exact h1
 ·unfold Blk at h;rw[Array.getElem?_eq_none h1] at h;cases h
theorem Blk.cell (h:Blk w g t cs) (i:Nat):w.cell? ⟨g,i,none⟩=cs[i]?:=cell_of_row w g i cs t (0,0) h
theorem Blk.frozen (h:Blk w g t cs) (i:Nat):w.frozen? ⟨g,i,none⟩=false:=by
 unfold Blk at h;simp [World.frozen?,h]
theorem Blk.new (w:World) (t:TypeId) (cs:Array Value):Blk (w.alloc (.cells cs t)) w.heap.size t cs:=heap_alloc_new w _
theorem Blk.drewN (h:Blk w g t cs) (n:Nat):Blk (w.drewN n) g t cs:=h
theorem Blk.alloc (h:Blk w g t cs) (o:Obj):Blk (w.alloc o) g t cs:=(Below.heap_alloc w o g h.lt).trans h
theorem Blk.set (h:Blk w g t cs) (i:Nat) (u:Value):Blk (w.setCell ⟨g,i,none⟩ u) g t (cs.setIfInBounds i u):=by
 unfold Blk at h⊢;simp [World.setCell,Array.getElem?_modify,h]
theorem Blk.below (h:Blk w g t cs) (hb:Below w.heap.size w w'):Blk w' g t cs:=(hb.block g h.lt).trans h
theorem Blk.grown {row:Option Nat} (h:Blk w g t cs) (hb:w.grownBy w' row) (hg:row≠some g):Blk w' g t cs:=(hb.block g h.lt (fun e=>hg e.symm)).trans h
theorem Rd.nil:Rd w B A []:=.inl rfl
theorem Rd.keep (h:Rd w B A xs) (hk:∀b o,b<B→w'.cell? ⟨b,o,none⟩=w.cell? ⟨b,o,none⟩):Rd w' B A xs:=by
 rcases h with h | ⟨b,o,h1,h2,h3⟩
 ·exact .inl h
 ·exact .inr ⟨b,o,h1,h2,fun i u hu=>(hk _ _ h2).trans (h3 i u hu)⟩
theorem Rd.more (h:Rd w B A xs) (hB:B≤B'):Rd w B' A xs:=by
 rcases h with h | ⟨b,o,h1,h2,h3⟩
 ·exact .inl h
 ·exact .inr ⟨b,o,h1,by omega,h3⟩
theorem Rd.below (h:Rd w B A xs) (hb:Below B w w'):Rd w' B A xs:=h.keep fun _ _ hp=>hb.cell hp
theorem Rd.drewN (h:Rd w B A xs) (n:Nat):Rd (w.drewN n) B A xs:=h.keep fun _ _ _=>rfl
theorem Rd.alloc (h:Rd w B A xs) (hB:B≤w.heap.size) (o:Obj):Rd (w.alloc o) B A xs:=
 h.below ((Below.refl B w).alloc hB o)
theorem Rd.grown {row:Option Nat} (h:Rd w B A xs) (hg:w.grownBy w' row) (hB:B≤w.heap.size) (hr:∀k,row=some k→B≤k):Rd w' B A xs:=
 h.below ((Below.refl B w).grown hg hB hr)
theorem Rd.of_own {base n cap:Nat} (h:w.ownsRow base t 1 (.slice A n cap) n xs):Rd w w.heap.size A xs:=by
 rcases h.2 with⟨_,h2⟩ | ⟨g,cap',cur,hv,_,hh,_⟩
 ·left
  have h1:=h.1;rw[h2] at h1;exact List.eq_nil_of_length_eq_zero (by simpa using h1)
 ·right
  injection hv with hA _ _;subst hA;exact⟨g,0,rfl,(Array.getElem?_eq_some_iff.1 hh).1,fun i u hu=>by
   have:=h.cells (g:=g) rfl i u hu
   rwa [addr_add] at this⟩
theorem GO {base n size:Nat} {v:Value} (h:w.ownsRow base t size v n xs) (hb:Below w.heap.size w w'):w'.ownsRow base t size v n xs:=
 h.kept (Fk hb none) (by cases v.ownBlock<;>simp)
theorem Rd.at_ {i:Nat} {u:Value} (h:Rd w B A xs) (hi:xs[i]? = some u):∃b o,A=some ⟨b,o,none⟩∧b<B∧w.cell? ⟨b,o+i,none⟩=some u:=by
 rcases h with h | ⟨b,o,h1,h2,h3⟩
 ·subst h;simp at hi
 ·exact⟨b,o,h1,h2,h3 i u hi⟩
end
section
variable {P:Program} (w:World)
theorem Ch {B:Nat} {A:Option Addr} {l:List UInt8} (src e:TypeId) (hs:P.underlying src=some (.slice e)) (he:P.underlying e=some (.int .u8)) (h:Rd w B A (bvs l)) (n c:Nat) (hn:n=l.length)
  (dst:TypeId) (hd:P.underlying dst=some .string):(convert src dst (.slice A n c)).run P w = .ok (.string ⟨l.toArray⟩) w:=by
 subst hn;have key:∀a:Addr,A=some a→(∀i u,(bvs l)[i]? = some u→w.cell? (a.add i)=some u)→(convert src dst (.slice A l.length c)).run P w = .ok (.string ⟨l.toArray⟩) w:=by
  intro a ha hc;subst ha;have e1:(l.map fun b=>(b.toNat:Int)).map (Value.int .u8)=bvs l:=by simp [bvs,bv,Function.comp_def]
  have hl:(loadCells a l.length).run P w = .ok ((l.map fun b=>(b.toNat:Int)).map (Value.int .u8)).toArray w:=by
   have:=run_loadCells_list (P:=P) w a (bvs l) hc;rw[AZ] at this;rw[e1];exact this
  rw[run_convert_bytes_string w src dst e _ _ c hs he hd,run_bytesToString w a l.length c _ hl,foldl_push_bytes];have e2:((l.map fun b=>(b.toNat:Int)).map fun n=>UInt8.ofNat n.toNat)=l:=by
   rw[List.map_map]
   conv=>rhs;rw[←List.map_id l]
   apply List.map_congr_left;intro b _;simp
  rw[e2];simp [ByteArray.empty,ByteArray.emptyWithCapacity]
  rfl
 cases hA:A with
 |some a=>
  rw[←hA];refine key a hA ?_;rcases h with h | ⟨b,o,h1,_,h3⟩
  ·rw[h];intro i u hu;simp at hu
  ·rw[hA] at h1
   injection h1 with h1;subst h1;intro i u hu;rw[addr_add];exact h3 i u hu
 |none=>
  have hl:l = []:=by
   rcases h with h | ⟨b,o,h1,_,_⟩
   ·exact List.map_eq_nil_iff.1 h
   ·rw[hA] at h1;cases h1
  subst hl;rw[run_convert_bytes_nil w src e hs he _ c dst hd]
  rfl
theorem DC (base:Nat) (t ty e:TypeId) (i:TypeInfo) (z:Value) (bytes:Nat) (ht:P.underlying t=some (.slice e)) (hi:P.info? e=some i) (hz:i.zero=some z)
  (hsize:i.size=1) (hby:i.bytes=bytes) (hzs:z.cells.size=1)
  (v:Value) (n:Nat) (xs:List Value) (hown:w.ownsRow base e 1 v n xs)
  (B:Nat) (A:Option Addr) (m c:Nat) (news:List Value) (hm:m=news.length) (hr:Rd w B A news) (h1:∀u∈news,u.oneCell'=true)
  (h63:n+m≤maxLen) (hbytes:(n+m)*bytes≤140737488355328) (hbase:base≤w.heap.size) :
  ∃v' w',(Builtin.append_ #[t,t] ty #[v,.slice A m c]).run P w = .ok v' w'∧w'.ownsRow base e 1 v' (n+m) (xs++news)∧w.grownBy w' v.ownBlock∧
   (v'.ownBlock=v.ownBlock∨v'.ownBlock=some w.heap.size):=by
 subst hm;cases hA:A with
 |some a=>
  have hc:∀j u,news[j]? = some u→w.cell? (a.add j)=some u:=by
   rcases hr with h | ⟨b,o,h1,_,h3⟩
   ·rw[h];intro i u hu;simp at hu
   ·rw[hA] at h1
    injection h1 with h1;subst h1;intro i u hu;rw[addr_add];exact h3 i u hu
  obtain⟨v',w',hrun,h2,h3,_,h5⟩:=run_append_own_at (P:=P) w base t ty e i z 1 bytes ht hi hz hsize hby hzs (by omega) v n xs hown a news.length c news (by omega) hc h1 h63 hbytes hbase;exact⟨v',w',hrun,h2,h3,h5⟩
 |none=>
  have hn:news = []:=by
   rcases hr with h | ⟨b,o,h1,_,_⟩
   ·exact h
   ·rw[hA] at h1;cases h1
  subst hn;refine⟨v,w,?_,by simpa using hown,World.grownBy.refl w _,.inl rfl⟩;rcases hown.2 with⟨rfl,rfl⟩ | ⟨g,cap,cur,rfl,_,_,hnc,_⟩
  ·simp [Builtin.append_,run_underlying ht,sizeOf,typeInfo,hi,Builtin.lenOf,Builtin.firstCells]
  ·simp [Builtin.append_,run_underlying ht,sizeOf,typeInfo,hi,Builtin.lenOf,Builtin.firstCells,hnc,storeCells]
theorem DT {o:Oper} {a:Act} {K:Act→World→Prop} {Q:Exit→Act→World→Prop} (s x:Operand) (t:TypeId)
  (ho:o.op = .call {callee:=.builtin .append,args:=#[s,x],argTypes:=#[t,t]})
  (base:Nat) (e:TypeId) (i:TypeInfo) (z:Value) (bytes:Nat) (ht:P.underlying t=some (.slice e)) (hi:P.info? e=some i) (hz:i.zero=some z)
  (hsize:i.size=1) (hby:i.bytes=bytes) (hzs:z.cells.size=1)
  (v:Value) (n:Nat) (xs:List Value) (hs:a.eval s=v) (hown:w.ownsRow base e 1 v n xs)
  (B:Nat) (A:Option Addr) (m c:Nat) (news:List Value) (hx:a.eval x = .slice A m c) (hm:m=news.length) (hr:Rd w B A news) (h1:∀u∈news,u.oneCell'=true)
  (h63:n+m≤maxLen) (hbytes:(n+m)*bytes≤140737488355328) (hbase:base≤w.heap.size)
  (h:∀v' w',w'.ownsRow base e 1 v' (n+m) (xs++news)→w.grownBy w' v.ownBlock→(v'.ownBlock=v.ownBlock∨v'.ownBlock=some w.heap.size)→K (a.put o.dst v') w'):o.wp P a w K Q:=by
 obtain⟨v',w',hrun,h2,h3,h4⟩:=DC (P:=P) w base t o.type e i z bytes ht hi hz hsize hby hzs v n xs hown B A m c news hm hr h1 h63 hbytes hbase;unfold Oper.wp execOp;simp only[ho,resolve,invoke,builtin,Sem.run_bind,Sem.run_pure,Result.andThen_ok,List.map_toArray,List.map_cons,List.map_nil,hs,hx,hrun];exact h v' w' h2 h3 h4
theorem Al {ops:Array Oper} {rest:List Oper} {o:Oper} {a:Act} {Q:Exit→Act→World→Prop} (hgd:o.guard=none) (s x:Operand) (t:TypeId)
  (ho:o.op = .call {callee:=.builtin .append,args:=#[s,x],argTypes:=#[t,t]})
  (base:Nat) (e:TypeId) (i:TypeInfo) (z:Value) (bytes:Nat) (ht:P.underlying t=some (.slice e)) (hi:P.info? e=some i) (hz:i.zero=some z)
  (hsize:i.size=1) (hby:i.bytes=bytes) (hzs:z.cells.size=1)
  (v:Value) (n:Nat) (xs:List Value) (hs:a.eval s=v) (hown:w.ownsRow base e 1 v n xs)
  (B:Nat) (A:Option Addr) (m c:Nat) (news:List Value) (hx:a.eval x = .slice A m c) (hm:m=news.length) (hr:Rd w B A news) (h1:∀u∈news,u.oneCell'=true)
  (h63:n+m≤maxLen) (hbytes:(n+m)*bytes≤140737488355328) (hbase:base≤w.heap.size)
  (h:∀v' w',w'.ownsRow base e 1 v' (n+m) (xs++news)→w.grownBy w' v.ownBlock→(v'.ownBlock=v.ownBlock∨v'.ownBlock=some w.heap.size)→wpList P ops Q rest (a.put o.dst v') w'):wpList P ops Q (o :: rest) a w:=
 wpList_plain hgd fun _ hK=>DT w s x t ho base e i z bytes ht hi hz hsize hby hzs v n xs hs hown B A m c news hx hm hr h1 h63 hbytes hbase fun v' w' h2 h3 h4=>hK _ _ (h v' w' h2 h3 h4)
end
def Be (n:Nat):Array Value:=(List.replicate n (bv 0)).toArray
theorem BE (n:Nat):(Be n).size=n:=by simp [Be]
theorem Dp {P:Program} {t e:TypeId} {i:TypeInfo} (ht:P.underlying t=some (.slice e)) (hi:P.info? e=some i) (hz:i.zero=some (.int .u8 0)) (hs:i.size=1) (hb:i.bytes=1)
  (C:Int) (n:Nat) (hC:C=(n:Int)) (hn:n≤1000000) (w:World) :
  (Instr.makeSlice t (.int .i64 C) (.int .i64 C)).run P w = .ok (.slice (some ⟨w.heap.size,0,none⟩) n n) (w.alloc (.cells (Be n) e)):=by
 subst hC;have h:=run_make (P:=P) w t e i _ ht hi hz .i64 .i64 (n:Int) (n:Int) (by omega) (by omega) (by rw[hb];omega) (by omega);rw[Int.toNat_natCast,hs,Nat.mul_one] at h;rw[h];have e1:madeCells (Value.int .u8 0).cells n=Be n:=by
  apply Array.toList_inj.1;rw[show(Value.int .u8 0).cells=#[Value.int .u8 0] from rfl,toList_madeCells_one];simp [Be,bv]
 rw[e1]
theorem BI {P:Program} {t e:TypeId} {i:TypeInfo} (ht:P.underlying t=some (.slice e)) (hi:P.info? e=some i) (hz:i.zero=some (.int .u8 0)) (hs:i.size=1) (hb:i.bytes=1)
  (C:Int) (n:Nat) (hC:C=(n:Int)) (hn:n≤1000000) (w:World) :
  (Instr.makeSlice t (.int .i64 0) (.int .i64 C)).run P w = .ok (.slice (some ⟨w.heap.size,0,none⟩) 0 n) (w.alloc (.cells (Be n) e)):=by
 subst hC;have h:=run_make (P:=P) w t e i _ ht hi hz .i64 .i64 0 (n:Int) (by omega) (by omega) (by rw[hb];omega) (by omega);rw[Int.toNat_natCast,hs,Nat.mul_one] at h;rw[h];have e1:madeCells (Value.int .u8 0).cells n=Be n:=by
  apply Array.toList_inj.1;rw[show(Value.int .u8 0).cells=#[Value.int .u8 0] from rfl,toList_madeCells_one];simp [Be,bv]
 rw[e1]
 rfl
theorem El (w:World) (e:TypeId) (s:ByteArray):Below w.heap.size w (Lib.bytesWorld w e s):=
 ⟨rfl,rfl,rfl,by rw[Lib.bytesWorld_size];omega,fun k hk=>Lib.bytesWorld_at_old w e s k hk⟩
def II (w:World) (base b:Nat) (l:List UInt8):Prop:=
 base≤b∧b<w.heap.size∧∀i (h:i<l.length),w.cell? ⟨b,i,none⟩=some (bv l[i])∧w.frozen? ⟨b,i,none⟩=false
theorem Em (w:World) (e:TypeId) (l:List UInt8):II (Lib.bytesWorld w e ⟨l.toArray⟩) w.heap.size w.heap.size l:=by
 refine⟨Nat.le_refl _,by rw[Lib.bytesWorld_size];omega,fun i h=>⟨?_,?_⟩⟩
 ·rw[Lib.bytesWorld_cell w e ⟨l.toArray⟩ i (by simpa [ByteArray.size] using h)]
  simp [bv,List.getD,h]
 ·have hsz:i<(Lib.bytesCells w e ⟨l.toArray⟩).size:=by
   simp only[Lib.bytesCells,Array.size_append,Array.size_map,Array.size_replicate];simp;omega
  simp only[World.frozen?,Lib.bytesWorld_at_new];simp;omega
theorem II.rd {w:World} {base b:Nat} {l:List UInt8} (h:II w base b l):Rd w w.heap.size (some ⟨b,0,none⟩) (bvs l):=by
 refine .inr ⟨b,0,rfl,h.2.1,fun i u hu=>?_⟩;have hi:i<l.length:=by
  rcases Nat.lt_or_ge i l.length with g | g
  ·exact g
  ·rw[List.getElem?_eq_none (by rw[AZ];exact g)] at hu;cases hu
 rw[FN hi] at hu;injection hu with hu;subst hu;rw[Nat.zero_add];exact(h.2.2 i hi).1
end Ad
end Go.Proofs.YtlfmicidppccnaaGreat
