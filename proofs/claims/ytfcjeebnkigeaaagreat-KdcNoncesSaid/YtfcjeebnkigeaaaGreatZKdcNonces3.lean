import Derived.Laws.Bits64
import Derived.Laws.Bits64b
import Derived.Test.YtfcjeebnkigeaaaGreatProg
import Derived.Deep.RegionHeld3
import Derived.Deep.Cut
import Derived.Deep.CutRange
import Derived.Deep.CutBlock
import Derived.Deep.MidRow
import Derived.StillTailTactics
import Derived.Test.YtfcjeebnkigeaaaGreatZKdcNonces1
import Derived.Test.YtfcjeebnkigeaaaGreatZKdcNonces2
section
namespace Go.Proofs.YtfcjeebnkigeaaaGreat.Si
open Go.RowKit Go.Proofs.YtfcjeebnkigeaaaGreat.Mem
abbrev Wd:=BitVec 64
def rot (v:Wd) (s:Nat):Wd:=(v <<< s) ||| (v >>> (64 - s))
abbrev wv (v:Wd):Value:=.int .u64 (v.toNat:Int)
def wd (n:Nat):Wd:=BitVec.ofNat 64 n
theorem wd_lt (v:Wd):v.toNat<18446744073709551616:=v.isLt
theorem wd_nat (n:Nat) (h:n<18446744073709551616):(wd n).toNat=n:=by
 rw[wd,BitVec.toNat_ofNat];exact Nat.mod_eq_of_lt h
theorem xor_w (x y:Wd):bits .xor .u64 (x.toNat:Int) (y.toNat:Int)=((x ^^^ y).toNat:Int):=by
 rw[u64_xor_nat _ _ x.isLt y.isLt,BitVec.toNat_xor]
theorem add_w (x y:Wd):((x.toNat:Int)+(y.toNat:Int)) % 18446744073709551616=((x+y).toNat:Int):=by
 rw[BitVec.toNat_add];omega
theorem add_ww (x y:Wd):IntKind.u64.wrap ((x.toNat:Int)+(y.toNat:Int))=((x+y).toNat:Int):=by
 rw[IntKind.wrap_u64,add_w]
theorem rot_nat (v:Wd) (s:Nat):(rot v s).toNat=(v.toNat*2 ^ s % 18446744073709551616) ||| (v.toNat / 2 ^ (64 - s)):=by
 simp [rot,BitVec.toNat_or,BitVec.toNat_shiftLeft,BitVec.toNat_ushiftRight,Nat.shiftLeft_eq,Nat.shiftRight_eq_div_pow]
theorem or_rot (v:Wd) (a b:Nat) (s:Nat) (ha:a=v.toNat*2 ^ s % 18446744073709551616) (hb:b=v.toNat / 2 ^ (64 - s)):bits .or .u64 (a:Int) (b:Int)=((rot v s).toNat:Int):=by
 rw[u64_or_nat a b (by omega) (by have:=wd_lt v;have:=Nat.div_le_self v.toNat (2 ^ (64 - s));omega),rot_nat,ha,hb]
theorem or13 (v:Wd):bits .or .u64 ((v.toNat:Int)*8192 % 18446744073709551616) ((v.toNat:Int) / 2251799813685248)=((rot v 13).toNat:Int):=or_rot v _ _ 13 rfl rfl
theorem or32 (v:Wd):bits .or .u64 ((v.toNat:Int)*4294967296 % 18446744073709551616) ((v.toNat:Int) / 4294967296)=((rot v 32).toNat:Int):=or_rot v _ _ 32 rfl rfl
theorem or16 (v:Wd):bits .or .u64 ((v.toNat:Int)*65536 % 18446744073709551616) ((v.toNat:Int) / 281474976710656)=((rot v 16).toNat:Int):=or_rot v _ _ 16 rfl rfl
theorem or21 (v:Wd):bits .or .u64 ((v.toNat:Int)*2097152 % 18446744073709551616) ((v.toNat:Int) / 8796093022208)=((rot v 21).toNat:Int):=or_rot v _ _ 21 rfl rfl
theorem or17 (v:Wd):bits .or .u64 ((v.toNat:Int)*131072 % 18446744073709551616) ((v.toNat:Int) / 140737488355328)=((rot v 17).toNat:Int):=or_rot v _ _ 17 rfl rfl
def wordN:List UInt8→Nat
 | []=>0
 |b :: l=>b.toNat+256*wordN l
theorem wordN_lt:∀l,wordN l<256 ^ l.length
 | []=>by simp [wordN]
 |b :: l=>by
  have h:=wordN_lt l
  have hb:=b.toNat_lt
  rw[wordN,List.length_cons,Nat.pow_succ]
  omega
theorem wordN_snoc (b:UInt8):∀l,wordN (l++[b])=wordN l+b.toNat*256 ^ l.length
 | []=>by simp [wordN]
 |c :: l=>by
  rw[List.cons_append,wordN,wordN_snoc b l,wordN,List.length_cons,Nat.pow_succ,Nat.mul_add,Nat.add_assoc]
  congr 2
  rw[Nat.mul_comm,Nat.mul_assoc]
theorem wordN_8 {l:List UInt8} (h:l.length≤8):wordN l<18446744073709551616:=
 Nat.lt_of_lt_of_le (wordN_lt l) (Nat.pow_le_pow_right (by decide) h:256 ^ l.length≤256 ^ 8)
structure V where
 a:Wd
 b:Wd
 c:Wd
 d:Wd
def rnd (s:V):V:=
 let a1:=s.a+s.b
 let b1:=rot s.b 13 ^^^ a1
 let a2:=rot a1 32
 let c1:=s.c+s.d
 let d1:=rot s.d 16 ^^^ c1
 let a3:=a2+d1
 let d2:=rot d1 21 ^^^ a3
 let c2:=c1+b1
 let b2:=rot b1 17 ^^^ c2
 let c3:=rot c2 32
 ⟨a3,b2,c3,d2⟩
def rnds:Nat→V→V
 |0,s=>s
 |n+1,s=>rnd (rnds n s)
def addM (s:V) (m:Wd):V:=⟨(rnds 2 ⟨s.a,s.b,s.c,s.d ^^^ m⟩).a ^^^ m,(rnds 2 ⟨s.a,s.b,s.c,s.d ^^^ m⟩).b,(rnds 2 ⟨s.a,s.b,s.c,s.d ^^^ m⟩).c,(rnds 2 ⟨s.a,s.b,s.c,s.d ^^^ m⟩).d⟩
def allX (s:V):Wd:=s.a ^^^ s.b ^^^ s.c ^^^ s.d
def fin (s:V):Wd:=allX (rnds 4 ⟨s.a,s.b,s.c ^^^ 255#64,s.d⟩)
def kA (ks:Nat→UInt8):Wd:=wd (wordN ((List.range 8).map ks))
def kB (ks:Nat→UInt8):Wd:=wd (wordN ((List.range 8).map fun i=>ks (8+i)))
def start (ks:Nat→UInt8):V:=⟨0x736f6d6570736575#64 ^^^ kA ks,0x646f72616e646f6d#64 ^^^ kB ks,0x6c7967656e657261#64 ^^^ kA ks,0x7465646279746573#64 ^^^ kB ks⟩
structure St where
 v:V
 r:Nat
 n:Nat
def addB (s:St) (b:UInt8):St:=
 if (s.n+1) % 8=0 then ⟨addM s.v (wd (s.r+b.toNat*256 ^ (s.n % 8))),0,s.n+1⟩ else ⟨s.v,s.r+b.toNat*256 ^ (s.n % 8),s.n+1⟩
theorem addB_end (s:St) (b:UInt8) (h:(s.n+1) % 8=0):addB s b=⟨addM s.v (wd (s.r+b.toNat*256 ^ (s.n % 8))),0,s.n+1⟩:=if_pos h
theorem addB_in (s:St) (b:UInt8) (h:¬(s.n+1) % 8=0):addB s b=⟨s.v,s.r+b.toNat*256 ^ (s.n % 8),s.n+1⟩:=if_neg h
def stOf (ks:Nat→UInt8) (l:List UInt8):St:=l.foldl addB ⟨start ks,0,0⟩
def lastW (s:St):Wd:=wd (s.r+s.n % 256*72057594037927936)
def finS (s:St):Wd:=fin (addM s.v (lastW s))
def sumOf (ks:Nat→UInt8) (l:List UInt8):Wd:=finS (stOf ks l)
theorem stOf_snoc (ks:Nat→UInt8) (l:List UInt8) (b:UInt8):stOf ks (l++[b])=addB (stOf ks l) b:=by simp [stOf]
def full (ks:Nat→UInt8) (p:List UInt8):Nat→V
 |0=>start ks
 |j+1=>addM (full ks p j) (wd (wordN ((p.drop (8*j)).take 8)))
theorem stOf_full (ks:Nat→UInt8) (p:List UInt8):∀n,n≤p.length→stOf ks (p.take n)=⟨full ks p (n / 8),wordN ((p.take n).drop (8*(n / 8))),n⟩
 |0,_=>by simp [stOf,full,wordN]
 |n+1,h=>by
  have ih:=stOf_full ks p n (by omega)
  have hlt:n<p.length:=by omega
  have et:p.take (n+1)=p.take n++[p[n]]:=by rw[List.take_succ_eq_append_getElem hlt]
  have el:((p.take n).drop (8*(n / 8))).length=n % 8:=by rw[List.length_drop,List.length_take];omega
  have ew:(p.take (n+1)).drop (8*(n / 8))=(p.take n).drop (8*(n / 8))++[p[n]]:=by
   rw[et,List.drop_append_of_le_length (by rw[List.length_take];omega)]
  have eN:wordN ((p.take (n+1)).drop (8*(n / 8)))=wordN ((p.take n).drop (8*(n / 8)))+p[n].toNat*256 ^ (n % 8):=by rw[ew,wordN_snoc,el]
  have e0:stOf ks (p.take (n+1))=addB (stOf ks (p.take n)) p[n]:=by rw[et,stOf_snoc]
  have ez:(p.take (n+1)).drop (n+1) = []:=List.drop_of_length_le (by rw[List.length_take];omega)
  rw[e0,ih]
  by_cases h8:(n+1) % 8=0
  ·have hd:(n+1) / 8=n / 8+1:=by omega
   have hm:8*((n+1) / 8)=n+1:=by omega
   have ed:(p.take (n+1)).drop (8*(n / 8))=(p.drop (8*(n / 8))).take 8:=by rw[List.drop_take,show n+1 - 8*(n / 8)=8 by omega]
   rw[addB_end _ _ h8,←eN,hm,ez,hd,full,ed]
   simp only[wordN]
  ·have hd:(n+1) / 8=n / 8:=by omega
   rw[addB_in _ _ h8,hd,eN]
theorem stOf_all (ks:Nat→UInt8) (p:List UInt8):stOf ks p=⟨full ks p (p.length / 8),wordN (p.drop (8*(p.length / 8))),p.length⟩:=by
 have h:=stOf_full ks p p.length (Nat.le_refl _)
 rwa [List.take_length] at h
theorem stOf_n (ks:Nat→UInt8) (p:List UInt8):(stOf ks p).n=p.length:=by rw[stOf_all]
theorem stOf_r (ks:Nat→UInt8) (p:List UInt8):(stOf ks p).r<256 ^ ((stOf ks p).n % 8):=by
 rw[stOf_all]
 have h:=wordN_lt (p.drop (8*(p.length / 8)))
 rw[List.length_drop] at h
 rwa [show p.length - 8*(p.length / 8)=p.length % 8 by omega] at h
theorem pow_8 (k:Nat) (h:k≤7):256 ^ k≤72057594037927936:=(Nat.pow_le_pow_right (by decide) h:256 ^ k≤256 ^ 7)
theorem nat_or_place (r b k:Nat) (hr:r<256 ^ k):r ||| b*256 ^ k=r+b*256 ^ k:=by
 have e:(256:Nat) ^ k=2 ^ (8*k):=by rw[Nat.pow_mul]
 rw[e] at hr⊢
 have h:=Nat.shiftLeft_add_eq_or_of_lt hr b
 rw[Nat.shiftLeft_eq] at h
 rw[Nat.or_comm,←h,Nat.add_comm]
theorem place_lt (r:Nat) (b:UInt8) (k:Nat) (hr:r<256 ^ k):r+b.toNat*256 ^ k<256 ^ (k+1):=by
 have hb:=b.toNat_lt
 rw[Nat.pow_succ]
 have:b.toNat*256 ^ k≤255*256 ^ k:=Nat.mul_le_mul_right _ (by omega)
 omega
theorem or_place (r:Nat) (b:UInt8) (k:Nat) (hk:k≤7) (hr:r<256 ^ k) (X:Int) (hX:X=((b.toNat*256 ^ k:Nat):Int)):bits .or .u64 (r:Int) X=((r+b.toNat*256 ^ k:Nat):Int):=by
 have hp:=pow_8 k hk
 have hl:=place_lt r b k hr
 have h8:(256:Nat) ^ (k+1)≤256 ^ 8:=Nat.pow_le_pow_right (by decide) (by omega)
 have h8':(256:Nat) ^ 8=18446744073709551616:=by decide
 rw[hX,u64_or_nat _ _ (by omega) (by omega),nat_or_place r _ k hr]
theorem or_count (r n:Nat) (hr:r<72057594037927936):bits .or .u64 (r:Int) ((n:Int)*72057594037927936 % 18446744073709551616)=((r+n % 256*72057594037927936:Nat):Int):=by
 have e:(n:Int)*72057594037927936 % 18446744073709551616=((n % 256*256 ^ 7:Nat):Int):=by
  have:(256:Nat) ^ 7=72057594037927936:=by decide
  rw[this];omega
 have eb:(UInt8.ofNat (n % 256)).toNat=n % 256:=by simp
 have h:=or_place r (UInt8.ofNat (n % 256)) 7 (by decide) hr ((n:Int)*72057594037927936 % 18446744073709551616) (by rw[e,eb])
 rw[h,eb]
end Go.Proofs.YtfcjeebnkigeaaaGreat.Si
end

section
namespace Go.Proofs.YtfcjeebnkigeaaaGreat.Se
open Go.RowKit Go.Proofs.YtfcjeebnkigeaaaGreat.Mem
def w8 (n:Nat):List UInt8:=(List.range 8).map fun j=>UInt8.ofNat (n / 2 ^ (56 - 8*j))
theorem w8_length (n:Nat):(w8 n).length=8:=by simp [w8]
def big:Nat→List UInt8→Nat
 |a,[]=>a
 |a,b :: l=>big (a*256+b.toNat) l
theorem big_snoc (b:UInt8):∀(l:List UInt8) (a:Nat),big a (l++[b])=big a l*256+b.toNat
 | [],_=>rfl
 |c :: l,a=>big_snoc b l (a*256+c.toNat)
theorem big_lt:∀(l:List UInt8) (a:Nat),big a l<(a+1)*256 ^ l.length
 | [],a=>by simp [big]
 |b :: l,a=>by
  have h:=big_lt l (a*256+b.toNat)
  have hb:=b.toNat_lt
  refine Nat.lt_of_lt_of_le h ?_
  rw[List.length_cons,Nat.pow_succ,Nat.mul_comm (256 ^ l.length),←Nat.mul_assoc]
  exact Nat.mul_le_mul_right _ (by omega)
def n8 (l:List UInt8):Nat:=big 0 (l.take 8)
theorem w8_explicit (n:Nat):w8 n = [UInt8.ofNat (n / 2 ^ 56),UInt8.ofNat (n / 2 ^ 48),UInt8.ofNat (n / 2 ^ 40),UInt8.ofNat (n / 2 ^ 32),UInt8.ofNat (n / 2 ^ 24),UInt8.ofNat (n / 2 ^ 16),UInt8.ofNat (n / 2 ^ 8),UInt8.ofNat (n / 2 ^ 0)]:=rfl
theorem w8_at (n j:Nat) (h:j<8):(w8 n)[j]? = some (UInt8.ofNat (n / 2 ^ (56 - 8*j))):=by
 simp [w8,h]
theorem w8_take (n j:Nat) (h:j<8):(w8 n).take (j+1)=(w8 n).take j++[UInt8.ofNat (n / 2 ^ (56 - 8*j))]:=by
 rw[List.take_add_one,w8_at n j h];rfl
theorem big_take (l:List UInt8) (j:Nat) (h:j<l.length):big 0 (l.take (j+1))=big 0 (l.take j)*256+(l[j]).toNat:=by
 rw[List.take_succ_eq_append_getElem h,big_snoc]
theorem big_take_lt (l:List UInt8) (j:Nat):big 0 (l.take j)<256 ^ j:=by
 have h:=big_lt (l.take j) 0
 rw[Nat.zero_add,Nat.one_mul] at h
 exact Nat.lt_of_lt_of_le h (Nat.pow_le_pow_right (by decide) (by rw[List.length_take];omega))
def sn (u n:Nat):Nat:=(n*256+u) % 18446744073709551616
def strmL (ks:Nat→UInt8) (u n m:Nat):List UInt8:=Sp.strm (Sp.kw ks) (BitVec.ofNat 32 (sn u n / 4294967296)) (BitVec.ofNat 32 (sn u n)) m
theorem strmL_length (ks:Nat→UInt8) (u n m:Nat):(strmL ks u n m).length=m:=Sp.strm_length _ _ _ _
def xorL (p s:List UInt8):List UInt8:=List.zipWith (· ^^^ ·) p s
def mixL (ks:Nat→UInt8) (u n:Nat) (p:List UInt8):List UInt8:=xorL p (strmL ks u n p.length)
theorem mixL_length (ks:Nat→UInt8) (u n:Nat) (p:List UInt8):(mixL ks u n p).length=p.length:=by
 simp [mixL,xorL,strmL_length]
theorem mixL_at (ks:Nat→UInt8) (u n:Nat) (p:List UInt8) (i:Nat) (h:i<p.length) (h2:i<(strmL ks u n p.length).length):(mixL ks u n p)[i]? = some (p[i] ^^^ (strmL ks u n p.length)[i]):=by
 unfold mixL xorL
 rw[List.getElem?_zipWith,List.getElem?_eq_getElem h,List.getElem?_eq_getElem h2]
def k2 (ks:Nat→UInt8) (i:Nat):UInt8:=ks (16+i)
def tagL (ks:Nat→UInt8) (u:Nat) (l:List UInt8):Nat:=(Si.sumOf (k2 ks) (UInt8.ofNat u :: l)).toNat
theorem tagL_lt (ks:Nat→UInt8) (u:Nat) (l:List UInt8):tagL ks u l<18446744073709551616:=(Si.sumOf (k2 ks) (UInt8.ofNat u :: l)).isLt
def aheadL (ks:Nat→UInt8) (u n:Nat) (p:List UInt8):List UInt8:=w8 n++mixL ks u n p
theorem aheadL_length (ks:Nat→UInt8) (u n:Nat) (p:List UInt8):(aheadL ks u n p).length=8+p.length:=by
 rw[aheadL,List.length_append,w8_length,mixL_length]
def sealL (ks:Nat→UInt8) (u n:Nat) (p:List UInt8):List UInt8:=aheadL ks u n p++w8 (tagL ks u (aheadL ks u n p))
theorem sealL_length (ks:Nat→UInt8) (u n:Nat) (p:List UInt8):(sealL ks u n p).length=p.length+16:=by
 rw[sealL,List.length_append,aheadL_length,w8_length];omega
def headL (l:List UInt8):List UInt8:=l.take (l.length - 8)
def lastL (l:List UInt8):List UInt8:=l.drop (l.length - 8)
def isL (ks:Nat→UInt8) (u:Nat) (l:List UInt8):Bool:=decide (16≤l.length)&&decide (l.length≤800)&&decide (n8 l≤1099511627776)&&decide (tagL ks u (headL l)=n8 (lastL l))
end Go.Proofs.YtfcjeebnkigeaaaGreat.Se
end

section
set_option linter.unusedVariables false
namespace Go.Proofs.YtfcjeebnkigeaaaGreat.Sp
open Go.RowKit Go.Proofs.YtfcjeebnkigeaaaGreat.Mem
theorem rotL3 (v:Wd) (w:World):Calls Tryz.prog 307 #[wv v,.int .i64 3] w fun e w'=>e = .returned (wv (rot v 3))∧w'=w:=by
 have hand:bits .and .u64 3 31=3:=by kernel_rfl
 have hr:=or3 v
 go_enter Tryz.func307,Tryz.ntmps307
 go_wp2
 go_ret
 exact⟨rfl,rfl⟩
theorem rotR8 (v:Wd) (w:World):Calls Tryz.prog 307 #[wv v,.int .i64 (-8)] w fun e w'=>e = .returned (wv (rot v 24))∧w'=w:=by
 have hwr:IntKind.u64.wrap (-8)=18446744073709551608:=by kernel_rfl
 have hand:bits .and .u64 18446744073709551608 31=24:=by kernel_rfl
 have hr:=or24 v
 go_enter Tryz.func307,Tryz.ntmps307
 go_wp2
 go_ret
 exact⟨rfl,rfl⟩
theorem left3 (v:Wd) (w:World):Calls Tryz.prog 290 #[wv v,.int .i64 3] w fun e w'=>e = .returned (wv (rot v 3))∧w'=w:=by
 go_enter Tryz.func290,Tryz.ntmps290
 go_wp2_with (go_at_call 307;refine(rotL3 _ _).mono ?_;rintro e w' ⟨rfl,rfl⟩)
 go_ret
 exact⟨rfl,rfl⟩
theorem right8 (v:Wd) (w:World):Calls Tryz.prog 289 #[wv v,.int .i64 8] w fun e w'=>e = .returned (wv (rot v 24))∧w'=w:=by
 go_enter Tryz.func289,Tryz.ntmps289
 go_wp2_with (go_at_call 307;refine(rotR8 _ _).mono ?_;rintro e w' ⟨rfl,rfl⟩)
 go_ret
 exact⟨rfl,rfl⟩
end Go.Proofs.YtfcjeebnkigeaaaGreat.Sp
end

section
set_option linter.unusedVariables false
namespace Go.Proofs.YtfcjeebnkigeaaaGreat.Sp
open Go.RowKit Go.Proofs.YtfcjeebnkigeaaaGreat.Mem
def kcells (ks:Nat→UInt8) (d s m:Int) (W:Nat→Wd):Array Value:=
 ((List.range 16).map (fun i=>bv (ks i))++(([.int .u32 d,.int .i32 s,.int .u32 0,.int .u32 m]:List Value)++(List.range 27).map (fun j=>wv (W j)))).toArray
def KB (w:World) (b:Nat) (ks:Nat→UInt8) (d s m:Int) (W:Nat→Wd):Prop:=Blk w b 368 (kcells ks d s m W)
theorem kcells_key (ks:Nat→UInt8) (d s m:Int) (W:Nat→Wd) (i:Nat) (h:i<16):(kcells ks d s m W)[i]? = some (bv (ks i)):=by
 rw[kcells,List.getElem?_toArray,List.getElem?_append_left (by simpa using h)]
 simp [h]
theorem kcells_mid (ks:Nat→UInt8) (d s m:Int) (W:Nat→Wd) (i:Nat) (h:i<4):(kcells ks d s m W)[16+i]? = ([.int .u32 d,.int .i32 s,.int .u32 0,.int .u32 m]:List Value)[i]?:=by
 rw[kcells,List.getElem?_toArray,List.getElem?_append_right (by simp),List.getElem?_append_left (by simpa using h)]
 simp
theorem kcells_word (ks:Nat→UInt8) (d s m:Int) (W:Nat→Wd) (i:Nat) (h:i<27):(kcells ks d s m W)[20+i]? = some (wv (W i)):=by
 rw[kcells,List.getElem?_toArray,List.getElem?_append_right (by simp;omega),List.getElem?_append_right (by simp;omega)]
 have:20+i - (List.map (fun i=>bv (ks i)) (List.range 16)).length - ([.int .u32 d,.int .i32 s,.int .u32 0,.int .u32 m]:List Value).length=i:=by simp;omega
 rw[this]
 simp [h]
theorem kcells_set_d (ks:Nat→UInt8) (d s m d':Int) (W:Nat→Wd):(kcells ks d s m W).setIfInBounds 16 (.int .u32 d')=kcells ks d' s m W:=by
 simp [kcells]
theorem kcells_set_s (ks:Nat→UInt8) (d s m s':Int) (W:Nat→Wd):(kcells ks d s m W).setIfInBounds 17 (.int .i32 s')=kcells ks d s' m W:=by
 simp [kcells]
theorem kcells_set_m (ks:Nat→UInt8) (d s m m':Int) (W:Nat→Wd):(kcells ks d s m W).setIfInBounds 19 (.int .u32 m')=kcells ks d s m' W:=by
 simp [kcells]
def upd (W:Nat→Wd) (i:Nat) (v:Wd) (j:Nat):Wd:=if j=i then v else W j
theorem kcells_set_word (ks:Nat→UInt8) (d s m:Int) (W:Nat→Wd) (i:Nat) (v:Wd):(kcells ks d s m W).setIfInBounds (20+i) (wv v)=kcells ks d s m (upd W i v):=by
 have e:((List.range 27).map fun j=>wv (W j)).set i (wv v)=(List.range 27).map fun j=>wv (upd W i v j):=by
  apply List.ext_getElem?
  intro j
  rw[List.getElem?_set,List.getElem?_map,List.getElem?_map]
  by_cases hj:i=j
  ·subst hj
   by_cases h27:i<27
   ·simp [h27,upd]
   ·simp [h27]
  ·have hji:¬j=i:=fun h=>hj h.symm
   rw[if_neg hj]
   rcases Nat.lt_or_ge j 27 with h | h
   ·simp [h,upd,hji]
   ·rw[List.getElem?_eq_none (by simpa using h)];rfl
 unfold kcells
 rw[List.setIfInBounds_toArray,List.set_append_right _ _ (by simp;omega),List.set_append_right _ _ (by simp;omega)]
 have:20+i - (List.map (fun i=>bv (ks i)) (List.range 16)).length - ([.int .u32 d,.int .i32 s,.int .u32 0,.int .u32 m]:List Value).length=i:=by simp;omega
 rw[this,e]
section
variable {w w':World} {b:Nat} {ks:Nat→UInt8} {d s m:Int} {W:Nat→Wd}
theorem KB.cell (h:KB w b ks d s m W) (i:Nat):w.cell? ⟨b,i,none⟩=(kcells ks d s m W)[i]?:=Blk.cell h i
theorem KB.cd (h:KB w b ks d s m W):w.cell? ⟨b,16,none⟩=some (.int .u32 d):=(h.cell 16).trans (kcells_mid ks d s m W 0 (by decide))
theorem KB.cs (h:KB w b ks d s m W):w.cell? ⟨b,17,none⟩=some (.int .i32 s):=(h.cell 17).trans (kcells_mid ks d s m W 1 (by decide))
theorem KB.cm (h:KB w b ks d s m W):w.cell? ⟨b,19,none⟩=some (.int .u32 m):=(h.cell 19).trans (kcells_mid ks d s m W 3 (by decide))
theorem KB.cw (h:KB w b ks d s m W) (i:Nat) (hi:i<27):w.cell? ⟨b,20+i,none⟩=some (wv (W i)):=(h.cell _).trans (kcells_word ks d s m W i hi)
theorem KB.ck (h:KB w b ks d s m W) (i:Nat) (hi:i<16):w.cell? ⟨b,i,none⟩=some (bv (ks i)):=(h.cell _).trans (kcells_key ks d s m W i hi)
theorem KB.fz (h:KB w b ks d s m W) (i:Nat):w.frozen? ⟨b,i,none⟩=false:=Blk.frozen h i
theorem KB.set_d (h:KB w b ks d s m W) (d':Int):KB (w.setCell ⟨b,16,none⟩ (.int .u32 d')) b ks d' s m W:=by
 have:=Blk.set h 16 (.int .u32 d');rwa [kcells_set_d] at this
theorem KB.set_s (h:KB w b ks d s m W) (s':Int):KB (w.setCell ⟨b,17,none⟩ (.int .i32 s')) b ks d s' m W:=by
 have:=Blk.set h 17 (.int .i32 s');rwa [kcells_set_s] at this
theorem KB.set_m (h:KB w b ks d s m W) (m':Int):KB (w.setCell ⟨b,19,none⟩ (.int .u32 m')) b ks d s m' W:=by
 have:=Blk.set h 19 (.int .u32 m');rwa [kcells_set_m] at this
theorem KB.set_word (h:KB w b ks d s m W) (i:Nat) (v:Wd):KB (w.setCell ⟨b,20+i,none⟩ (wv v)) b ks d s m (upd W i v):=by
 have:=Blk.set h (20+i) (wv v);rwa [kcells_set_word] at this
theorem KB.lt (h:KB w b ks d s m W):b<w.heap.size:=Blk.lt h
theorem KB.drewN (h:KB w b ks d s m W) (n:Nat):KB (w.drewN n) b ks d s m W:=h
theorem KB.drew (h:KB w b ks d s m W):KB w.drew b ks d s m W:=h
theorem KB.below (h:KB w b ks d s m W) (hb:Below w.heap.size w w'):KB w' b ks d s m W:=Blk.below h hb
theorem KB.grown {row:Option Nat} (h:KB w b ks d s m W) (hb:w.grownBy w' row) (hg:row≠some b):KB w' b ks d s m W:=Blk.grown h hb hg
end
theorem disable (w:World):(callFunc 322 #[]).run Tryz.prog w = .ok (.value (.tuple #[])) w:=run_call_mark0 Tryz.func322 (by kernel_rfl) (by kernel_rfl) (by kernel_rfl) .disable (by kernel_rfl) w
theorem enable (w:World):(callFunc 324 #[]).run Tryz.prog w = .ok (.value (.tuple #[])) w:=run_call_mark0 Tryz.func324 (by kernel_rfl) (by kernel_rfl) (by kernel_rfl) .enable (by kernel_rfl) w
theorem acquire (a:Addr) (w:World):(callFunc 325 #[.pointer (some a)]).run Tryz.prog w = .ok (.value (.tuple #[])) w:=run_call_marked Tryz.func325 (by kernel_rfl) (by kernel_rfl) (by kernel_rfl) .acquire (by kernel_rfl) a w
theorem releaseMerge (a:Addr) (w:World):(callFunc 327 #[.pointer (some a)]).run Tryz.prog w = .ok (.value (.tuple #[])) w:=run_call_marked Tryz.func327 (by kernel_rfl) (by kernel_rfl) (by kernel_rfl) .releaseMerge (by kernel_rfl) a w
theorem store_true (a:Addr) (x:Value) (w:World) (hc:w.cell? a=some x) (hz:w.frozen? a=false) :
  Calls Tryz.prog 305 #[.pointer (some a),.bool true] w fun e w'=>e = .returned (.tuple #[])∧w'=w.drew.setCell a (.int .u32 1):=by
 have hc':w.drew.cell? a=some x:=by go_simp
 have hz':w.drew.frozen? a=false:=by go_simp
 have hst:=run_call_store (P:=Tryz.prog) Tryz.func317 (by kernel_rfl) (by kernel_rfl) (by kernel_rfl) (by kernel_rfl) (k:=.u32) (y:=1) hc' hz'
 go_enter Tryz.func305,Tryz.ntmps305
 go_wp2
 go_region_calls
 all_goals (go_end0;exact⟨rfl,rfl⟩)
theorem store_deferred (a:Addr) (x:Value) (u:FrameMode) (w:World) (hc:w.cell? a=some x) (hz:w.frozen? a=false) :
  CallsD Tryz.prog 305 #[.pointer (some a),.bool true] u w fun e u' w'=>u'=u∧(e = .returned (.tuple #[])∧w'=w.drew.setCell a (.int .u32 1)):=by
 have hc':w.drew.cell? a=some x:=by go_simp
 have hz':w.drew.frozen? a=false:=by go_simp
 have hst:=run_call_store (P:=Tryz.prog) Tryz.func317 (by kernel_rfl) (by kernel_rfl) (by kernel_rfl) (by kernel_rfl) (k:=.u32) (y:=1) hc' hz'
 go_enter_d Tryz.func305,Tryz.ntmps305
 go_wp2
 go_region_calls
 all_goals (go_end0;exact⟨rfl,rfl⟩)
theorem load_flag (a:Addr) (d:Int) (w:World) (hc:w.cell? a=some (.int .u32 d)) (x:Bool) (hx:(d != 0)=x) :
  Calls Tryz.prog 285 #[.pointer (some a)] w fun e w'=>e = .returned (.bool x)∧w'=w:=by
 have hl:=run_call_load (P:=Tryz.prog) Tryz.func302 (by kernel_rfl) (by kernel_rfl) (by kernel_rfl) .u32 (by kernel_rfl) hc
 go_enter Tryz.func285,Tryz.ntmps285
 go_wp2
 go_ret
 exact⟨rfl,rfl⟩
set_option maxRecDepth 100000 in
theorem unlock_deferred (a:Addr) (u:FrameMode) (w:World) (hc:w.cell? a=some (.int .i32 1)) (hz:w.frozen? a=false) :
  CallsD Tryz.prog 304 #[.pointer (some a)] u w fun e u' w'=>u'=u∧(e = .returned (.tuple #[])∧w'=w.setCell a (.int .i32 0)):=by
 have hd:=disable
 have he:=enable
 have hr:=releaseMerge
 have hadd:=run_call_add (P:=Tryz.prog) Tryz.func328 (by kernel_rfl) (by kernel_rfl) (by kernel_rfl) .i32 (by kernel_rfl) (y:=-1) (s:=0) hc hz (by simp [go_sem];rfl)
 have hcv:=run_convert_to_unsafe (P:=Tryz.prog) (src:=393) (dst:=397) Tryz.underlying393 Tryz.underlying397 (by kernel_rfl) hc
 go_enter_d Tryz.func304,Tryz.ntmps304
 go_wp2
 go_end0
 go_wp2
 go_end0
 exact⟨rfl,rfl⟩
set_option maxRecDepth 100000 in
theorem lock_free (a:Addr) (w:World) (hc:w.cell? a=some (.int .i32 0)) (hz:w.frozen? a=false) :
  Calls Tryz.prog 303 #[.pointer (some a)] w fun e w'=>e = .returned (.tuple #[])∧w'=w.setCell a (.int .i32 1):=by
 have hd:=disable
 have he:=enable
 have ha:=acquire
 have hcas:=run_call_cas_hit (P:=Tryz.prog) Tryz.func323 (by kernel_rfl) (by kernel_rfl) (by kernel_rfl) .i32 (by kernel_rfl) (y:=1) hc hz
 have hc':(w.setCell a (.int .i32 1)).cell? a=some (.int .i32 1):=World.cell?_setCell_same w a _ hc
 have hcv:=run_convert_to_unsafe (P:=Tryz.prog) (src:=393) (dst:=397) Tryz.underlying393 Tryz.underlying397 (by kernel_rfl) hc'
 go_enter Tryz.func303,Tryz.ntmps303
 go_wp2
 first | go_end0 | (simp only[Exit.inBlock,Exit.then];refine bodyPost_ret (results_none rfl _ _ _) rfl ?_) | refine bodyPost_ret (results_none rfl _ _ _) rfl ?_
 go_wp2
 go_end0
 exact⟨rfl,rfl⟩
end Go.Proofs.YtfcjeebnkigeaaaGreat.Sp
end

section
set_option linter.unusedVariables false
namespace Go.Proofs.YtfcjeebnkigeaaaGreat.Sp
open Go.RowKit Go.Proofs.YtfcjeebnkigeaaaGreat.Mem
def Drawn (w w':World):Prop:=∃n,w'=w.drewN n
theorem Drawn.refl (w:World):Drawn w w:=⟨0,rfl⟩
theorem word_any (b o:Nat) (n c:Nat) (b0 b1 b2 b3:UInt8) (w:World) (hn:4≤n)
  (h0:w.cell? ⟨b,o,none⟩=some (bv b0)) (h1:w.cell? ⟨b,o+1,none⟩=some (bv b1)) (h2:w.cell? ⟨b,o+2,none⟩=some (bv b2)) (h3:w.cell? ⟨b,o+3,none⟩=some (bv b3)) :
  Calls Tryz.prog 306 #[.slice (some ⟨b,o,none⟩) n c] w fun e w'=>e = .returned (wv (le4 b0 b1 b2 b3))∧w'=w.drew:=by
 have k0:(0:Int)<n:=by omega
 have k1:(1:Int)<n:=by omega
 have k2:(2:Int)<n:=by omega
 have k3:(3:Int)<n:=by omega
 have k4:0<n:=by omega
 have k5:1<n:=by omega
 have k6:2<n:=by omega
 have k7:3<n:=by omega
 have hn':=Lib.hid hn;clear hn
 simp only[bv] at h0 h1 h2 h3
 have hle:=le4_or b0 b1 b2 b3
 have hwr:=IntKind.wrap_u32
 have m0:(b0.toNat:Int) % 4294967296=b0.toNat:=by have:=u8_le b0;omega
 have m1:(b1.toNat:Int) % 4294967296=b1.toNat:=by have:=u8_le b1;omega
 have m2:(b2.toNat:Int) % 4294967296=b2.toNat:=by have:=u8_le b2;omega
 have m3:(b3.toNat:Int) % 4294967296=b3.toNat:=by have:=u8_le b3;omega
 go_enter Tryz.func306,Tryz.ntmps306
 go_wp2_with fail
 go_region_held3 (fun w'=>w'.cell? ⟨b,o,none⟩=some (.int .u8 b0.toNat)∧w'.cell? ⟨b,o+1,none⟩=some (.int .u8 b1.toNat)∧w'.cell? ⟨b,o+2,none⟩=some (.int .u8 b2.toNat)∧w'.cell? ⟨b,o+3,none⟩=some (.int .u8 b3.toNat)) (go_keep) (fail)
 all_goals (go_wp2;go_ret;exact⟨rfl,rfl⟩)
end Go.Proofs.YtfcjeebnkigeaaaGreat.Sp
end

section
set_option linter.unusedVariables false
namespace Go.Proofs.YtfcjeebnkigeaaaGreat.Sp
open Go.RowKit Go.Proofs.YtfcjeebnkigeaaaGreat.Mem
def wordsTo (ks:Nat→UInt8) (i j:Nat):Wd:=if j≤i then kw ks j else 0
theorem word_k {w:World} {b:Nat} {ks:Nat→UInt8} {d s m:Int} {W:Nat→Wd} (hK:KB w b ks d s m W) (i n c:Nat) (hi:i<4) (hn:4≤n) :
  Calls Tryz.prog 306 #[.slice (some ⟨b,4*i,none⟩) n c] w fun e w'=>e = .returned (wv (kword ks i))∧w'=w.drew:=
 word_any b (4*i) n c _ _ _ _ w hn (hK.ck _ (by omega)) (hK.ck _ (by omega)) (hK.ck _ (by omega)) (hK.ck _ (by omega))
theorem word_k0 {w:World} {b:Nat} {ks:Nat→UInt8} {d s m:Int} {W:Nat→Wd} (hK:KB w b ks d s m W) :
  Calls Tryz.prog 306 #[.slice (some ⟨b,0,none⟩) 16 16] w fun e w'=>e = .returned (wv (kword ks 0))∧w'=w.drew:=
 word_k hK 0 16 16 (by decide) (by decide)
theorem word_k1 {w:World} {b:Nat} {ks:Nat→UInt8} {d s m:Int} {W:Nat→Wd} (hK:KB w b ks d s m W) :
  Calls Tryz.prog 306 #[.slice (some ⟨b,4,none⟩) 12 12] w fun e w'=>e = .returned (wv (kword ks 1))∧w'=w.drew:=
 word_k hK 1 12 12 (by decide) (by decide)
theorem word_k2 {w:World} {b:Nat} {ks:Nat→UInt8} {d s m:Int} {W:Nat→Wd} (hK:KB w b ks d s m W) :
  Calls Tryz.prog 306 #[.slice (some ⟨b,8,none⟩) 8 8] w fun e w'=>e = .returned (wv (kword ks 2))∧w'=w.drew:=
 word_k hK 2 8 8 (by decide) (by decide)
theorem word_k3 {w:World} {b:Nat} {ks:Nat→UInt8} {d s m:Int} {W:Nat→Wd} (hK:KB w b ks d s m W) :
  Calls Tryz.prog 306 #[.slice (some ⟨b,12,none⟩) 4 4] w fun e w'=>e = .returned (wv (kword ks 3))∧w'=w.drew:=
 word_k hK 3 4 4 (by decide) (by decide)
theorem KB.heap {w w':World} {b:Nat} {ks:Nat→UInt8} {d s m:Int} {W:Nat→Wd} (h:KB w b ks d s m W) (e:w'.heap=w.heap):KB w' b ks d s m W:=by
 unfold KB Blk at *;rw[e];exact h
theorem KB.push {w w':World} {b:Nat} {ks:Nat→UInt8} {d s m:Int} {W:Nat→Wd} {o:Obj} (h:KB w b ks d s m W) (e:w'.heap=w.heap.push o):KB w' b ks d s m W:=by
 have hl:=h.lt
 unfold KB Blk at *
 rw[e,Array.getElem?_push_lt hl,←Array.getElem?_eq_getElem hl]
 exact h
def lc (ks:Nat→UInt8) (i j:Nat):Wd:=lw ks (i+(j+2*i) % 3)
def lcells (ks:Nat→UInt8) (i:Nat):Array Value:=#[wv (lc ks i 0),wv (lc ks i 1),wv (lc ks i 2)]
theorem lcells_at (ks:Nat→UInt8) (i:Nat):(lcells ks i)[i % 3]? = some (wv (lw ks i)):=by
 have h:i % 3=0∨i % 3=1∨i % 3=2:=by omega
 rcases h with h | h | h<;>rw[h]
 ·show some (wv (lc ks i 0))=_
  rw[lc,show i+(0+2*i) % 3=i by omega]
 ·show some (wv (lc ks i 1))=_
  rw[lc,show i+(1+2*i) % 3=i by omega]
 ·show some (wv (lc ks i 2))=_
  rw[lc,show i+(2+2*i) % 3=i by omega]
theorem lcells_set (ks:Nat→UInt8) (i:Nat):(lcells ks i).setIfInBounds (i % 3) (wv (lw ks (i+3)))=lcells ks (i+1):=by
 have h:i % 3=0∨i % 3=1∨i % 3=2:=by omega
 rcases h with h | h | h<;>rw[h]
 ·show #[wv (lw ks (i+3)),wv (lc ks i 1),wv (lc ks i 2)]=#[wv (lc ks (i+1) 0),wv (lc ks (i+1) 1),wv (lc ks (i+1) 2)]
  unfold lc
  rw[show i+1+(0+2*(i+1)) % 3=i+3 by omega,show i+1+(1+2*(i+1)) % 3=i+(1+2*i) % 3 by omega,show i+1+(2+2*(i+1)) % 3=i+(2+2*i) % 3 by omega]
 ·show #[wv (lc ks i 0),wv (lw ks (i+3)),wv (lc ks i 2)]=#[wv (lc ks (i+1) 0),wv (lc ks (i+1) 1),wv (lc ks (i+1) 2)]
  unfold lc
  rw[show i+1+(0+2*(i+1)) % 3=i+(0+2*i) % 3 by omega,show i+1+(1+2*(i+1)) % 3=i+3 by omega,show i+1+(2+2*(i+1)) % 3=i+(2+2*i) % 3 by omega]
 ·show #[wv (lc ks i 0),wv (lc ks i 1),wv (lw ks (i+3))]=#[wv (lc ks (i+1) 0),wv (lc ks (i+1) 1),wv (lc ks (i+1) 2)]
  unfold lc
  rw[show i+1+(0+2*(i+1)) % 3=i+(0+2*i) % 3 by omega,show i+1+(1+2*(i+1)) % 3=i+(1+2*i) % 3 by omega,show i+1+(2+2*(i+1)) % 3=i+3 by omega]
theorem wordsTo_upd (ks:Nat→UInt8) (i:Nat):upd (wordsTo ks i) (i+1) (kw ks (i+1))=wordsTo ks (i+1):=by
 funext j
 unfold upd wordsTo
 by_cases h:j=i+1
 ·subst h;simp
 ·by_cases h2:j≤i
  ·rw[if_neg h,if_pos h2,if_pos (by omega)]
  ·rw[if_neg h,if_neg h2,if_neg (by omega)]
theorem wordsTo_zero (ks:Nat→UInt8):upd (fun _=>0) 0 (kw ks 0)=wordsTo ks 0:=by
 funext j
 unfold upd wordsTo
 by_cases h:j=0
 ·subst h;simp
 ·rw[if_neg h,if_neg (by omega)]
theorem Blk.far {w:World} {g:Nat} {t:TypeId} {cs:Array Value} (h:Blk w g t cs) (p:Addr) (u:Value) (hp:p.block≠g):Blk (w.setCell p u) g t cs:=
 (Below.heap_setCell w p u g (fun e=>hp e.symm)).trans h
set_option maxRecDepth 100000 in
set_option maxHeartbeats 1600000 in
theorem make_words (b:Nat) (ks:Nat→UInt8) (w:World) (hK:KB w b ks 0 1 0 (fun _=>0)) :
  Calls Tryz.prog 288 #[.pointer (some ⟨b,0,none⟩)] w fun e w'=>e = .returned (.tuple #[])∧KB w' b ks 0 1 1 (wordsTo ks 26)∧w.grownBy w' (some b):=by
 have hc20:=hK.cw 0 (by decide)
 have cw0:=word_k0 (w:=w.drew) hK.drew
 have hf20:=hK.fz 20
 go_enter Tryz.func288,Tryz.ntmps288
 go_upto_region 0 with fail
 go_cut [] from 5 to 13 (fun wx=>KB wx b ks 0 1 0 (wordsTo ks 0)∧w.grownBy wx (some b))
 case first=>
  go_region_held3 (fun w'=>True) (trivial) (first | (go_at_call 306;refine Calls.mono cw0 ?_;rintro e w' ⟨rfl,rfl⟩))
  all_goals go_wp2_with fail
  all_goals go_meet
  all_goals
   have h1:=KB.set_word hK 0 (kw ks 0)
   rw[wordsTo_zero] at h1
   exact⟨h1,g_drew (g_drew (g_set (World.grownBy.refl _ _) (.inl rfl) _))⟩
 case rest=>
  obtain⟨hK1,hg1⟩:=hcut
  have cw1:∀w':World,KB w' b ks 0 1 0 (wordsTo ks 0)→_:=fun w' h=>word_k1 h
  have cw2:∀w':World,KB w' b ks 0 1 0 (wordsTo ks 0)→_:=fun w' h=>word_k2 h
  have cw3:∀w':World,KB w' b ks 0 1 0 (wordsTo ks 0)→_:=fun w' h=>word_k3 h
  go_upto_region 1 with fail
  go_cut [2] from 14 to 29 (fun p wx=>∃L,p = .pointer (some ⟨L,0,none⟩)∧w.heap.size≤L∧Blk wx L 385 (lcells ks 0)∧KB wx b ks 0 1 0 (wordsTo ks 0)∧w.grownBy wx (some b))
  case first=>
   go_region_held3 (fun w'=>True) (trivial) (first | (go_at_call_of 306 (Value.slice (some (Addr.mk b 4 none)) 12 12);refine Calls.mono (cw1 _ (by first | exact KB.heap hK1 rfl | exact KB.push hK1 rfl)) ?_;rintro e w' ⟨rfl,rfl⟩) | (go_at_call_of 306 (Value.slice (some (Addr.mk b 8 none)) 8 8);refine Calls.mono (cw2 _ (by first | exact KB.heap hK1 rfl | exact KB.push hK1 rfl)) ?_;rintro e w' ⟨rfl,rfl⟩) | (go_at_call_of 306 (Value.slice (some (Addr.mk b 12 none)) 4 4);refine Calls.mono (cw3 _ (by first | exact KB.heap hK1 rfl | exact KB.push hK1 rfl)) ?_;rintro e w' ⟨rfl,rfl⟩))
   all_goals go_wp2_with fail
   all_goals go_meet
   all_goals exact⟨_,rfl,hg1.size,Blk.new wc _ _,Blk.alloc hK1 _,g_drew (g_drew (g_drew (g_drew (g_alloc hg1 _))))⟩
  case rest=>
   obtain⟨L,rfl,hL,hB2,hK2,hg2⟩:=hcut
   have hLb:L≠b:=by have:=hK.lt;omega
   have hwa:=add_w
   have hwx:=xor_w
   have hL':=Lib.hid hL;clear hL
   have hB':=Lib.hid hB2;clear hB2
   have hK':=Lib.hid hK2;clear hK2
   have hg':=Lib.hid hg2;clear hg2
   have H1:=Lib.hid hK1;clear hK1
   have H0:=Lib.hid hK;clear hK
   have G1:=Lib.hid hg1;clear hg1
   clear cw0 cw1 cw2 cw3 hc20 hf20
   go_wp2_with fail
   go_loopw [30] (fun iv wr=>∃i:Nat,i≤26∧iv = .int .i64 (i:Int)∧Blk wr L 385 (lcells ks i)∧KB wr b ks 0 1 0 (wordsTo ks i)∧w.grownBy wr (some b)) (fun iv _=>26 - (intOf iv).toNat)
   case atStart=>exact⟨0,by decide,rfl,hB'.out,hK'.out,hg'.out⟩
   case round=>
    obtain⟨i,hi,rfl,hB3,hK3,hg3⟩:=hrel
    by_cases h26:i=26
    ·subst h26
     have hKe:=Lib.hid hK3;clear hK3
     have hge:=Lib.hid hg3;clear hg3
     have hBe:=Lib.hid hB3;clear hB3
     go_wp2_with (go_at_call 305;refine Calls.mono (store_true _ _ _ (KB.cm hKe.out) (KB.fz hKe.out 19)) ?_;rintro e w' ⟨rfl,rfl⟩)
     go_end0
     have e1:=KB.set_m (KB.drew hKe.out) 1
     exact⟨rfl,e1,g_set (g_drew hge.out) (.inl rfl) _⟩
    ·have hlt:i<26:=by omega
     have hi0:(0:Int)≤(i:Int):=by omega
     have hi1:(i:Int)<27:=by omega
     have hi2:i<27:=by omega
     have hi3:(i:Int)+1<27:=by omega
     have hi4:i+1<27:=by omega
     have hi5:(i:Int)<26:=by omega
     obtain⟨r,hr⟩:∃r,r=i % 3:=⟨_,rfl⟩
     have hmod:(i:Int).tmod 3=(r:Int):=by rw[Int.tmod_eq_emod_of_nonneg hi0];omega
     have hr3:(r:Int)<3:=by omega
     have hr4:r<3:=by omega
     obtain⟨k0,ek⟩:∃k0,k0=kw ks i:=⟨_,rfl⟩
     obtain⟨a0,ea⟩:∃a0,a0=lw ks i:=⟨_,rfl⟩
     obtain⟨v,ev⟩:∃v,v=lw ks (i+3):=⟨_,rfl⟩
     obtain⟨u,eu⟩:∃u,u=kw ks (i+1):=⟨_,rfl⟩
     have ck:wr.cell? ⟨b,20+i,none⟩=some (wv k0):=by
      have:=hK3.cw i hi2
      rw[wordsTo,if_pos (Nat.le_refl _),←ek] at this
      exact this
     have ca:wr.cell? ⟨L,r,none⟩=some (wv a0):=by rw[hB3.cell,hr,lcells_at,ea]
     have fb:=hK3.fz
     have fL:=hB3.frozen
     obtain⟨ci,ec⟩:∃ci,ci=BitVec.ofNat 32 i:=⟨_,rfl⟩
     obtain⟨ra,era⟩:∃ra,ra=rot a0 24:=⟨_,rfl⟩
     obtain⟨rk,erk⟩:∃rk,rk=rot k0 3:=⟨_,rfl⟩
     obtain⟨sm,es⟩:∃sm,sm=k0+ra:=⟨_,rfl⟩
     have hwc:IntKind.u32.wrap (i:Int)=(ci.toNat:Int):=by rw[ec];exact u32_word i
     have hwd:(i:Int) % 4294967296=(ci.toNat:Int):=by rw[←IntKind.wrap_u32];exact hwc
     have hx0:((k0.toNat:Int)+(ra.toNat:Int)) % 4294967296=(sm.toNat:Int):=by rw[es];exact add_w _ _
     have hx1:IntKind.u32.wrap ((k0.toNat:Int)+(ra.toNat:Int))=(sm.toNat:Int):=by rw[IntKind.wrap_u32];exact hx0
     have hx2:bits .xor .u32 (sm.toNat:Int) (ci.toNat:Int)=(v.toNat:Int):=by rw[xor_w,ev,lw_3,es,era,ek,ea,ec]
     have hx3:bits .xor .u32 (rk.toNat:Int) (v.toNat:Int)=(u.toNat:Int):=by rw[xor_w,ev,eu,kw_next,erk,ek]
     have cr8:=right8 a0
     rw[←era] at cr8
     have cl3:=left3 k0
     rw[←erk] at cl3
     have ck6:(wr.setCell ⟨L,r,none⟩ (wv v)).cell? ⟨b,20+i,none⟩=some (wv k0):=(World.cell?_setCell_other _ ⟨L,r,none⟩ ⟨b,20+i,none⟩ _ (by simp)).trans ck
     have ca6:(wr.setCell ⟨L,r,none⟩ (wv v)).cell? ⟨L,r,none⟩=some (wv v):=World.cell?_setCell_same _ _ _ ca
     have fb6:∀j,(wr.setCell ⟨L,r,none⟩ (wv v)).frozen? ⟨b,j,none⟩=false:=fun j=>by simp [fb j]
     have cw6:∃y,(wr.setCell ⟨L,r,none⟩ (wv v)).cell? ⟨b,20+(i+1),none⟩=some y:=⟨_,(World.cell?_setCell_other _ ⟨L,r,none⟩ ⟨b,20+(i+1),none⟩ _ (by simp)).trans (hK3.cw (i+1) hi4)⟩
     obtain⟨y,cw6⟩:=cw6
     have hh:=Lib.hid hlt;clear hlt
     have hh2:=Lib.hid h26;clear h26
     have hh3:=Lib.hid hi;clear hi
     have he1:=Lib.hid ek;clear ek
     have he2:=Lib.hid ea;clear ea
     have he3:=Lib.hid ev;clear ev
     have he4:=Lib.hid eu;clear eu
     have he5:=Lib.hid hr;clear hr
     clear ec era erk es
     have hKe:=Lib.hid hK3;clear hK3
     have hge:=Lib.hid hg3;clear hg3
     have hBe:=Lib.hid hB3;clear hB3
     clear hwa hwx
     go_wp2_with fail
     refine wp_region_still_tail 15 (by kernel_rfl) (by kernel_rfl) ?_
     simp only[List.take_succ_cons,List.take_zero,List.drop_succ_cons,List.drop_zero]
     change wpStill _ _ wr.drew _ _ _
     repeat still_step
     still_call (cr8 wr.drew)
     repeat still_step
     refine wpStill_nil ?_
     change wpList _ _ _ _ _ wr.drew
     go_wp2_with fail
     refine wp_region_still_tail 16 (by kernel_rfl) (by kernel_rfl) ?_
     simp only[List.take_succ_cons,List.take_zero,List.drop_succ_cons,List.drop_zero]
     change wpStill _ _ (wr.setCell ⟨L,r,none⟩ (.int .u32 v.toNat)).drew.drew _ _ _
     clear ck ca fb
     repeat still_step
     still_call (cl3 _)
     repeat still_step
     refine wpStill_nil ?_
     change wpList _ _ _ _ _ (wr.setCell ⟨L,r,none⟩ (.int .u32 v.toNat)).drew.drew
     go_wp2_with fail
     go_roundw
     case rel=>
      refine⟨i+1,by have:=hh.out;omega,by go_num,?_,?_,?_⟩
      ·have e1:=hBe.out.set r (wv v)
       rw[he5.out,he3.out,lcells_set] at e1
       have e2:=Blk.far e1 ⟨b,20+(i+1),none⟩ (wv u) (by simpa using Ne.symm hLb)
       rw[←he5.out,←he3.out] at e2
       exact e2
      ·have e1:KB (wr.setCell ⟨L,r,none⟩ (wv v)) b ks 0 1 0 (wordsTo ks i):=Blk.far hKe.out ⟨L,r,none⟩ (wv v) (by simpa using hLb)
       have e2:=KB.set_word e1 (i+1) u
       rw[he4.out,wordsTo_upd,←he4.out] at e2
       exact e2
      ·exact g_drew (g_drew (g_set (g_set hge.out (.inr hL'.out) _) (.inl rfl) _))
     case measure=>have:=hh.out;simp [intOf];omega
end Go.Proofs.YtfcjeebnkigeaaaGreat.Sp
end

section
set_option linter.unusedVariables false
namespace Go.Proofs.YtfcjeebnkigeaaaGreat.Sp
open Go.RowKit Go.Proofs.YtfcjeebnkigeaaaGreat.Mem
abbrev zeroW:Nat→Wd:=fun _=>0
def Key (w:World) (b:Nat) (ks:Nat→UInt8):Bool→Prop
 |false=>KB w b ks 0 0 0 zeroW
 |true=>KB w b ks 1 0 1 (wordsTo ks 26)
theorem grown_trans {a w c:World} {row:Option Nat} (h:a.grownBy w row) (k:w.grownBy c row):a.grownBy c row:=
 ⟨k.os.trans h.os,k.tape.trans h.tape,k.output.trans h.output,Nat.le_trans h.size k.size,fun i hi hn=>(k.block i (Nat.lt_of_lt_of_le hi h.size) hn).trans (h.block i hi hn)⟩
set_option maxRecDepth 100000 in
set_option maxHeartbeats 1600000 in
theorem slow (b:Nat) (ks:Nat→UInt8) (w:World) (hK:KB w b ks 0 0 0 zeroW) :
  Calls Tryz.prog 286 #[.pointer (some ⟨b,16,none⟩),.func (.func 288) #[.pointer (some ⟨b,0,none⟩)] #[]] w fun e w'=>e = .returned (.tuple #[])∧KB w' b ks 1 0 1 (wordsTo ks 26)∧w.grownBy w' (some b):=by
 have hK1:KB (w.setCell ⟨b,17,none⟩ (.int .i32 1)) b ks 0 1 0 zeroW:=hK.set_s 1
 have g1:w.grownBy (w.setCell ⟨b,17,none⟩ (.int .i32 1)) (some b):=g_set (World.grownBy.refl _ _) (.inl rfl) _
 have cl:=lock_free ⟨b,17,none⟩ w hK.cs (hK.fz 17)
 have cd:=load_flag ⟨b,16,none⟩ 0 _ hK1.cd false rfl
 have cm:=make_words b ks _ hK1
 have hnot:∀(x:Bool) (w:World),(Op.unary .not (.bool x)).run Tryz.prog w = .ok (.bool (!x)) w:=fun _ _=>rfl
 have H:=Lib.hid hK;clear hK
 have H1:=Lib.hid hK1;clear hK1
 have G1:=Lib.hid g1;clear g1
 go_enter_defers Tryz.func286,Tryz.ntmps286
 go_wp2_with (first | (go_at_call 303;refine Calls.mono cl ?_;rintro e w' ⟨rfl,rfl⟩) | (go_at_call 285;refine Calls.mono cd ?_;rintro e w' ⟨rfl,rfl⟩) | (go_at_call 288;refine Calls.mono cm ?_;rintro e w2 ⟨rfl,hK2,hg2⟩))
 refine leaves_cons (f:=305) (args:=#[.pointer (some ⟨b,16,none⟩),.bool true]) (by simp) (by simp [go_sem]) ?_
 refine(store_deferred ⟨b,16,none⟩ _ .returning w2 hK2.cd (hK2.fz 16)).mono ?_
 rintro e u' w'' ⟨rfl,rfl,rfl⟩
 have hK3:=KB.set_d hK2.drew 1
 refine leaves_cons (f:=304) (args:=#[.pointer (some ⟨b,17,none⟩)]) (by simp [settle]) (by simp [go_sem]) ?_
 refine(unlock_deferred ⟨b,17,none⟩ _ _ hK3.cs (hK3.fz 17)).mono ?_
 rintro e u' w'' ⟨rfl,rfl,rfl⟩
 have hK4:=KB.set_s hK3 0
 have hg4:=g_set (row:=some b) (g_set (row:=some b) (g_drew (World.grownBy.refl w2 (some b))) (p:=⟨b,16,none⟩) (.inl rfl) (.int .u32 1)) (p:=⟨b,17,none⟩) (.inl rfl) (.int .i32 0)
 have hg5:=grown_trans (grown_trans G1.out hg2) hg4
 simp [Leaves,settle,results,Tryz.results286]
 exact⟨hK4,hg5⟩
theorem do_first (b:Nat) (ks:Nat→UInt8) (w:World) (hK:KB w b ks 0 0 0 zeroW) :
  Calls Tryz.prog 260 #[.pointer (some ⟨b,16,none⟩),.func (.func 288) #[.pointer (some ⟨b,0,none⟩)] #[]] w fun e w'=>e = .returned (.tuple #[])∧KB w' b ks 1 0 1 (wordsTo ks 26)∧w.grownBy w' (some b):=by
 have cd:=load_flag ⟨b,16,none⟩ 0 w hK.cd false rfl
 have cs:=slow b ks w hK
 have hnot:∀(x:Bool) (w:World),(Op.unary .not (.bool x)).run Tryz.prog w = .ok (.bool (!x)) w:=fun _ _=>rfl
 clear hK
 go_enter Tryz.func260,Tryz.ntmps260
 go_wp2_with (first | (go_at_call 285;refine Calls.mono cd ?_;rintro e w' ⟨rfl,rfl⟩) | (go_at_call 286;refine Calls.mono cs ?_;rintro e w2 ⟨rfl,hK2,hg2⟩))
 go_end0
 exact⟨rfl,hK2,hg2⟩
theorem do_done (b:Nat) (fv:Value) (w:World) (hd:w.cell? ⟨b,16,none⟩=some (.int .u32 1)) :
  Calls Tryz.prog 260 #[.pointer (some ⟨b,16,none⟩),fv] w fun e w'=>e = .returned (.tuple #[])∧w'=w:=by
 have cd:=load_flag ⟨b,16,none⟩ 1 w hd true rfl
 have hnot:∀(x:Bool) (w:World),(Op.unary .not (.bool x)).run Tryz.prog w = .ok (.bool (!x)) w:=fun _ _=>rfl
 clear hd
 go_enter Tryz.func260,Tryz.ntmps260
 go_wp2_with (first | (go_at_call 285;refine Calls.mono cd ?_;rintro e w' ⟨rfl,rfl⟩))
 go_end0
 exact⟨rfl,rfl⟩
theorem need_any (b:Nat) (ks:Nat→UInt8) (m:Bool) (w:World) (hK:Key w b ks m) :
  Calls Tryz.prog 262 #[.pointer (some ⟨b,0,none⟩)] w fun e w'=>e = .returned (.tuple #[])∧Key w' b ks true∧w.grownBy w' (some b)∧(m=true→w'=w):=by
 have hmf:∀(fn:Fn) (first cap:Array Value) (w:World),(Instr.makeFunc fn first cap).run Tryz.prog w = .ok (.func fn first cap) w:=fun _ _ _ _=>rfl
 cases m with
 |false=>
  have cf:=do_first b ks w hK
  clear hK
  go_enter Tryz.func262,Tryz.ntmps262
  go_wp2_with (first | (go_at_call 260;refine Calls.mono cf ?_;rintro e w' ⟨rfl,hK2,hg2⟩))
  go_end0
  exact⟨rfl,hK2,hg2,fun h=>by cases h⟩
 |true=>
  have cf:=fun fv=>do_done b fv w (KB.cd hK)
  have H:=Lib.hid hK;clear hK
  go_enter Tryz.func262,Tryz.ntmps262
  go_wp2_with (first | (go_at_call 260;refine Calls.mono (cf _) ?_;rintro e w' ⟨rfl,rfl⟩))
  go_end0
  exact⟨rfl,H.out,World.grownBy.refl _ _,fun _=>rfl⟩
theorem Key.word {w:World} {b:Nat} {ks:Nat→UInt8} (h:Key w b ks true) (i:Nat) (hi:i<27):w.cell? ⟨b,20+i,none⟩=some (wv (kw ks i)):=by
 have:=KB.cw h i hi
 rwa [wordsTo,if_pos (by omega)] at this
theorem Key.grown {w w':World} {b:Nat} {ks:Nat→UInt8} {m:Bool} {row:Option Nat} (h:Key w b ks m) (hb:w.grownBy w' row) (hg:row≠some b):Key w' b ks m:=by
 cases m with
 |false=>exact KB.grown h hb hg
 |true=>exact KB.grown h hb hg
theorem Key.lt {w:World} {b:Nat} {ks:Nat→UInt8} {m:Bool} (h:Key w b ks m):b<w.heap.size:=by
 cases m with
 |false=>exact KB.lt h
 |true=>exact KB.lt h
theorem Key.below {w w':World} {b:Nat} {ks:Nat→UInt8} {m:Bool} (h:Key w b ks m) (hb:Below w.heap.size w w'):Key w' b ks m:=
 h.grown (g_of_below hb none) (by simp)
set_option maxRecDepth 100000 in
set_option maxHeartbeats 1600000 in
theorem turn_any (b:Nat) (ks:Nat→UInt8) (x y:Wd) (w:World) (hK:Key w b ks true) :
  Calls Tryz.prog 263 #[.pointer (some ⟨b,0,none⟩),wv x,wv y] w fun e w'=>e = .returned (.tuple #[wv (blockK (kw ks) (x,y)).1,wv (blockK (kw ks) (x,y)).2])∧w'=w:=by
 have hw:=fun i hi=>Key.word hK i hi
 clear hK
 have HW:=Lib.hid hw;clear hw
 go_enter Tryz.func263,Tryz.ntmps263
 go_wp2_with fail
 go_loop [1,2,13] (fun xv yv iv=>∃i:Nat,i≤27∧iv = .int .i64 (i:Int)∧xv=wv (turnN (kw ks) i (x,y)).1∧yv=wv (turnN (kw ks) i (x,y)).2) (fun _ _ iv=>27 - (intOf iv).toNat)
 case atStart=>exact⟨0,by decide,rfl,rfl,rfl⟩
 case round=>
  obtain⟨i,hi,rfl,rfl,rfl⟩:=hrel
  by_cases h27:i=27
  ·subst h27
   go_wp2_with fail
   go_ret2
   exact⟨rfl,rfl⟩
  ·have hi0:(0:Int)≤(i:Int):=by omega
   have hi1:(i:Int)<27:=by omega
   have hi2:i<27:=by omega
   obtain⟨p,ep⟩:∃p,p=turnN (kw ks) i (x,y):=⟨_,rfl⟩
   obtain⟨k0,ek⟩:∃k0,k0=kw ks i:=⟨_,rfl⟩
   obtain⟨x0,ex⟩:∃x0,x0=p.1:=⟨_,rfl⟩
   obtain⟨y0,ey⟩:∃y0,y0=p.2:=⟨_,rfl⟩
   obtain⟨rx,erx⟩:∃rx,rx=rot x0 24:=⟨_,rfl⟩
   obtain⟨ry,ery⟩:∃ry,ry=rot y0 3:=⟨_,rfl⟩
   obtain⟨sm,es⟩:∃sm,sm=rx+y0:=⟨_,rfl⟩
   obtain⟨x1,ex1⟩:∃x1,x1=sm ^^^ k0:=⟨_,rfl⟩
   obtain⟨y1,ey1⟩:∃y1,y1=ry ^^^ x1:=⟨_,rfl⟩
   have ck:w.cell? ⟨b,20+i,none⟩=some (wv k0):=by rw[ek];exact HW.out i hi2
   have hx0:((rx.toNat:Int)+(y0.toNat:Int)) % 4294967296=(sm.toNat:Int):=by rw[es];exact add_w _ _
   have hx2:bits .xor .u32 (sm.toNat:Int) (k0.toNat:Int)=(x1.toNat:Int):=by rw[ex1];exact xor_w _ _
   have hx3:bits .xor .u32 (ry.toNat:Int) (x1.toNat:Int)=(y1.toNat:Int):=by rw[ey1];exact xor_w _ _
   have cr8:=right8 x0
   rw[←erx] at cr8
   have cl3:=left3 y0
   rw[←ery] at cl3
   have hn:turnN (kw ks) (i+1) (x,y)=(x1,y1):=by rw[turnN,←ep,step,←ex,←ey,←ek,←erx,←ery,←es,←ex1,←ey1]
   rw[←ep,←ex,←ey]
   have hn':=Lib.hid hn;clear hn
   have hh:=Lib.hid hi2
   clear ep ek ex ey erx ery es ex1 ey1 hi h27
   go_wp2_with (first | (go_at_call 289;refine Calls.mono (cr8 _) ?_;rintro e w' ⟨rfl,rfl⟩) | (go_at_call 290;refine Calls.mono (cl3 _) ?_;rintro e w' ⟨rfl,rfl⟩))
   go_round
   case rel=>exact⟨i+1,by have:=hh.out;omega,by go_num,by rw[hn'.out],by rw[hn'.out]⟩
   case measure=>have:=hh.out;simp [intOf];omega
end Go.Proofs.YtfcjeebnkigeaaaGreat.Sp
end

section
set_option linter.unusedVariables false
namespace Go.Proofs.YtfcjeebnkigeaaaGreat.Sp
open Go.RowKit Go.Proofs.YtfcjeebnkigeaaaGreat.Mem
theorem Blk.new_of (w:World) (g:Nat) (t:TypeId) (cs cs':Array Value) (e:cs=cs') (hg:w.heap.size=g):Blk (w.alloc (.cells cs t)) g t cs':=hg▸e▸Blk.new w t cs
theorem below_set {B:Nat} {a w:World} (h:Below B a w) {p:Addr} (hp:B≤p.block) (u:Value):Below B a (w.setCell p u):=
 ⟨h.os,h.tape,h.output,by simpa [World.setCell] using h.size,fun i hi=>(Below.heap_setCell w p u i (by omega)).trans (h.block i hi)⟩
theorem results_cell {P:Program} {fn:Func} {tmps:Array Value} {w:World} {v:Value} (t:Nat) (ty:TypeId) (a:Addr) (hres:fn.results=#[.cell t ty]) (ht:tmps.getD t undef = .pointer (some a)) (hl:(loadVar ty a).run P w = .ok v w) :
  (results fn tmps).run P w = .ok v w:=by
 have ht':tmps[t]?.getD undef = .pointer (some a):=by simpa using ht
 simp [results,hres,ht',asAddr,hl]
theorem load_blk {P:Program} {w:World} {g:Nat} {t ty:TypeId} {cs:Array Value} {d:TypeDesc} (h:Blk w g t cs) (hu:P.underlying ty=some d) (hd:d.isRow=true) (hi:(P.info? ty).map (·.size)=some cs.size) :
  (loadVar ty ⟨g,0,none⟩).run P w = .ok (.agg cs) w:=by
 have hc:w.rangeAt g 0 cs.toList:=fun j v hv=>by rw[Nat.zero_add,h.cell];simpa using hv
 have:=run_loadVar_mid (P:=P) w g 0 ty cs.toList d hc hu hd (by simpa using hi)
 simpa using this
def key16 (ks:Nat→UInt8):Array Value:=((List.range 16).map (fun i=>bv (ks i))).toArray
set_option maxRecDepth 100000 in
set_option maxHeartbeats 1600000 in
theorem new_any (ks:Nat→UInt8) (w:World):Calls Tryz.prog 287 #[.agg (key16 ks)] w fun e w'=>∃b,e = .returned (.pointer (some ⟨b,0,none⟩))∧w.heap.size≤b∧Key w' b ks false∧Below w.heap.size w w':=by
 have hk:key16 ks=#[bv (ks 0),bv (ks 1),bv (ks 2),bv (ks 3),bv (ks 4),bv (ks 5),bv (ks 6),bv (ks 7),bv (ks 8),bv (ks 9),bv (ks 10),bv (ks 11),bv (ks 12),bv (ks 13),bv (ks 14),bv (ks 15)]:=rfl
 rw[hk]
 simp only[bv]
 clear hk
 go_enter Tryz.func287,Tryz.ntmps287
 go_wp2
 go_ret
 exact⟨w.heap.size+1,rfl,Nat.le_succ _,Blk.new_of (w.alloc _) _ 368 _ (kcells ks 0 0 0 zeroW) (by kernel_rfl) (by simp),((Below.refl w.heap.size w).alloc (Nat.le_refl _) _).alloc (by simp) _⟩
end Go.Proofs.YtfcjeebnkigeaaaGreat.Sp
end
