import Derived.Test.YtlchkbpffaclmaaGreatZKdcTills5
import Derived.Test.YtlchkbpffaclmaaGreatZKdcTills7
set_option maxHeartbeats 25600000
set_option maxRecDepth 100000
set_option linter.unusedVariables false
set_option linter.unusedSimpArgs false
namespace Go.Proofs.YtlchkbpffaclmaaGreat
namespace Se
open Go.RowKit Af
def w8 (n:Nat):List UInt8:=(List.range 8).map fun j=>UInt8.ofNat (n / 2 ^ (56 - 8*j))
theorem Cv (n:Nat):(w8 n).length=8:=by simp [w8]
def big:Nat->List UInt8->Nat
 |a,[]=>a
 |a,b :: l=>big (a*256+b.toNat) l
theorem Ol (b:UInt8):∀(l:List UInt8) (a:Nat),big a (l++[b])=big a l*256+b.toNat
 | [],_=>rfl
 |c :: l,a=>Ol b l (a*256+c.toNat)
theorem RH:∀(l:List UInt8) (a:Nat),big a l<(a+1)*256 ^ l.length
 | [],a=>by simp [big]
 |b :: l,a=>by
  have h:=RH l (a*256+b.toNat);have hb:=b.toNat_lt;refine Nat.lt_of_lt_of_le h ?_;rw[List.length_cons,Nat.pow_succ,Nat.mul_comm (256 ^ l.length),<-Nat.mul_assoc];exact Nat.mul_le_mul_right _ (by omega)
def n8 (l:List UInt8):Nat:=big 0 (l.take 8)
theorem n8_lt (l:List UInt8):n8 l<18446744073709551616:=by
 have h:=RH (l.take 8) 0;rw[Nat.zero_add,Nat.one_mul] at h;exact Nat.lt_of_lt_of_le h (Nat.pow_le_pow_right (by decide) (by rw[List.length_take];omega):256 ^ (l.take 8).length<=256 ^ 8)
theorem Jj (n:Nat):w8 n = [UInt8.ofNat (n / 2 ^ 56),UInt8.ofNat (n / 2 ^ 48),UInt8.ofNat (n / 2 ^ 40),UInt8.ofNat (n / 2 ^ 32),UInt8.ofNat (n / 2 ^ 24),UInt8.ofNat (n / 2 ^ 16),UInt8.ofNat (n / 2 ^ 8),UInt8.ofNat (n / 2 ^ 0)]:=rfl
theorem YX (n:Nat) (h:n<18446744073709551616) (l:List UInt8):n8 (w8 n++l)=n:=by
 unfold n8;rw[List.take_append_of_le_length (by rw[Cv];exact Nat.le_refl _),List.take_of_length_le (by rw[Cv];exact Nat.le_refl _),Jj];simp only[big,UInt8.toNat_ofNat'];omega
theorem n8_w8' (n:Nat) (h:n<18446744073709551616):n8 (w8 n)=n:=by
 have:=YX n h []
 rwa [List.append_nil] at this
theorem w8_n8 (l:List UInt8) (h:l.length=8):w8 (n8 l)=l:=by
 match l,h with
 | [a,b,c,d,e,f,g,i],_=>
  have:=a.toNat_lt;have:=b.toNat_lt;have:=c.toNat_lt;have:=d.toNat_lt;have:=e.toNat_lt;have:=f.toNat_lt;have:=g.toNat_lt;have:=i.toNat_lt;have key:∀(x:Nat) (u:UInt8),x % 256=u.toNat->UInt8.ofNat x=u:=fun x u hx=>UInt8.toNat_inj.1 (by rw[UInt8.toNat_ofNat'];exact hx)
  rw[Jj];simp only[n8,List.take_succ_cons,List.take_zero,big];rw[key _ a (by omega),key _ b (by omega),key _ c (by omega),key _ d (by omega),key _ e (by omega),key _ f (by omega),key _ g (by omega),key _ i (by omega)]
theorem YY {m n:Nat} (hm:m<18446744073709551616) (hn:n<18446744073709551616) (h:w8 m=w8 n):m=n:=by
 rw[<-n8_w8' m hm,h,n8_w8' n hn]
theorem w8_at (n j:Nat) (h:j<8):(w8 n)[j]? = some (UInt8.ofNat (n / 2 ^ (56 - 8*j))):=by
 simp [w8,h]
theorem Xj (n j:Nat) (h:j<8):(w8 n).take (j+1)=(w8 n).take j++[UInt8.ofNat (n / 2 ^ (56 - 8*j))]:=by
 rw[List.take_add_one,w8_at n j h];rfl
theorem Om (l:List UInt8) (j:Nat) (h:j<l.length):big 0 (l.take (j+1))=big 0 (l.take j)*256+(l[j]).toNat:=by
 rw[List.take_succ_eq_append_getElem h,Ol]
theorem Jk (l:List UInt8) (j:Nat):big 0 (l.take j)<256 ^ j:=by
 have h:=RH (l.take j) 0;rw[Nat.zero_add,Nat.one_mul] at h;exact Nat.lt_of_lt_of_le h (Nat.pow_le_pow_right (by decide) (by rw[List.length_take];omega))
def sn (u n:Nat):Nat:=(n*256+u) % 18446744073709551616
def Db (ks:Nat->UInt8) (u n m:Nat):List UInt8:=Sp.strm (Sp.kw ks) (BitVec.ofNat 32 (sn u n / 4294967296)) (BitVec.ofNat 32 (sn u n)) m
theorem BI (ks:Nat->UInt8) (u n m:Nat):(Db ks u n m).length=m:=Sp.MR _ _ _ _
def xorL (p s:List UInt8):List UInt8:=List.zipWith (· ^^^ ·) p s
def mixL (ks:Nat->UInt8) (u n:Nat) (p:List UInt8):List UInt8:=xorL p (Db ks u n p.length)
theorem Bi (ks:Nat->UInt8) (u n:Nat) (p:List UInt8):(mixL ks u n p).length=p.length:=by
 simp [mixL,xorL,BI]
theorem On:∀p s:List UInt8,p.length<=s.length->xorL (xorL p s) s=p
 | [],_,_=>by simp [xorL]
 |a :: p,[],h=>by simp at h
 |a :: p,b :: s,h=>by
  have ih:=On p s (by simpa using h);unfold xorL at ih⊢;rw[List.zipWith_cons_cons,List.zipWith_cons_cons,ih]
  congr 1
  apply UInt8.toNat_inj.1;rw[UInt8.toNat_xor,UInt8.toNat_xor,Nat.xor_assoc,Nat.xor_self,Nat.xor_zero]
theorem RI (ks:Nat->UInt8) (u n:Nat) (p:List UInt8):mixL ks u n (mixL ks u n p)=p:=by
 have e:mixL ks u n (mixL ks u n p)=xorL (xorL p (Db ks u n p.length)) (Db ks u n p.length):=by
  rw[mixL,Bi];rfl
 rw[e,On _ _ (by rw[BI];exact Nat.le_refl _)]
theorem RJ (ks:Nat->UInt8) (u n:Nat) (p:List UInt8) (i:Nat) (h:i<p.length) (h2:i<(Db ks u n p.length).length):(mixL ks u n p)[i]? = some (p[i] ^^^ (Db ks u n p.length)[i]):=by
 unfold mixL xorL;rw[List.getElem?_zipWith,List.getElem?_eq_getElem h,List.getElem?_eq_getElem h2]
def k2 (ks:Nat->UInt8) (i:Nat):UInt8:=ks (16+i)
def tagL (ks:Nat->UInt8) (u:Nat) (l:List UInt8):Nat:=(Si.Ho (k2 ks) (UInt8.ofNat u :: l)).toNat
theorem KQ (ks:Nat->UInt8) (u:Nat) (l:List UInt8):tagL ks u l<18446744073709551616:=(Si.Ho (k2 ks) (UInt8.ofNat u :: l)).isLt
def Eu (ks:Nat->UInt8) (u n:Nat) (p:List UInt8):List UInt8:=w8 n++mixL ks u n p
theorem BM (ks:Nat->UInt8) (u n:Nat) (p:List UInt8):(Eu ks u n p).length=8+p.length:=by
 rw[Eu,List.length_append,Cv,Bi]
def Dt (ks:Nat->UInt8) (u n:Nat) (p:List UInt8):List UInt8:=Eu ks u n p++w8 (tagL ks u (Eu ks u n p))
theorem BJ (ks:Nat->UInt8) (u n:Nat) (p:List UInt8):(Dt ks u n p).length=p.length+16:=by
 rw[Dt,List.length_append,BM,Cv];omega
def El (l:List UInt8):List UInt8:=l.take (l.length - 8)
def Dx (l:List UInt8):List UInt8:=l.drop (l.length - 8)
def midL (l:List UInt8):List UInt8:=(El l).drop 8
def isL (ks:Nat->UInt8) (u:Nat) (l:List UInt8):Bool:=decide (16<=l.length)&&decide (l.length<=800)&&decide (n8 l<=1099511627776)&&decide (tagL ks u (El l)=n8 (Dx l))
def Xk (ks:Nat->UInt8) (u:Nat) (l:List UInt8):Option (List UInt8):=if isL ks u l=true then some (mixL ks u (n8 l) (midL l)) else none
theorem LR (ks:Nat->UInt8) (u n:Nat) (p:List UInt8):El (Dt ks u n p)=Eu ks u n p:=by
 unfold El;rw[BJ];unfold Dt;rw[List.take_append_of_le_length (by rw[BM];omega),List.take_of_length_le (by rw[BM];omega)]
theorem RK (ks:Nat->UInt8) (u n:Nat) (p:List UInt8):Dx (Dt ks u n p)=w8 (tagL ks u (Eu ks u n p)):=by
 unfold Dx;rw[BJ];unfold Dt;rw[List.drop_append_of_le_length (by rw[BM];omega),List.drop_of_length_le (by rw[BM];omega),List.nil_append]
theorem Oo (ks:Nat->UInt8) (u n:Nat) (p:List UInt8):midL (Dt ks u n p)=mixL ks u n p:=by
 unfold midL;rw[LR,Eu,List.drop_append_of_le_length (by rw[Cv];exact Nat.le_refl _),List.drop_of_length_le (by rw[Cv];exact Nat.le_refl _),List.nil_append]
theorem Na (ks:Nat->UInt8) (u n:Nat) (p:List UInt8) (hn:n<18446744073709551616):n8 (Dt ks u n p)=n:=by
 unfold Dt Eu;rw[List.append_assoc,YX n hn]
theorem Fu (ks:Nat->UInt8) (u n:Nat) (p:List UInt8) (hn:n<=1099511627776) (hp:p.length<=784):Xk ks u (Dt ks u n p)=some p:=by
 have h:isL ks u (Dt ks u n p)=true:=by
  unfold isL;rw[BJ,Na ks u n p (by omega),LR,RK,n8_w8' _ (KQ _ _ _)];simp;omega
 rw[Xk,if_pos h,Oo,Na ks u n p (by omega),RI]
structure Chg (S:Nat->Prop) (w w':World):Prop where
 os:w'.os=w.os
 tape:w'.tape=w.tape
 output:w'.output=w.output
 size:w.heap.size<=w'.heap.size
 block:∀k,k<w.heap.size->¬S k->w'.heap[k]? = w.heap[k]?
section
variable {S T S':Nat->Prop} {a w w' c:World} {A:Option Addr} {xs:List Value} {g b:Nat} {t:TypeId} {cs:Array Value}
theorem Chg.refl (S:Nat->Prop) (w:World):Chg S w w:=⟨rfl,rfl,rfl,Nat.le_refl _,fun _ _ _=>rfl⟩
theorem Chg.trans (h:Chg S a w) (k:Chg T w c) (hs:∀i,i<a.heap.size->T i->S i):Chg S a c:=
 ⟨k.os.trans h.os,k.tape.trans h.tape,k.output.trans h.output,Nat.le_trans h.size k.size,fun i hi hn=>(k.block i (Nat.lt_of_lt_of_le hi h.size) (fun ht=>hn (hs i hi ht))).trans (h.block i hi hn)⟩
theorem Chg.mono (h:Chg S a w) (hs:∀i,i<a.heap.size->S i->T i):Chg T a w:=⟨h.os,h.tape,h.output,h.size,fun i hi hn=>h.block i hi (fun x=>hn (hs i hi x))⟩
theorem Chg.of_below (h:Below w.heap.size w w'):Chg S w w':=⟨h.os,h.tape,h.output,h.size,fun i hi _=>h.block i hi⟩
theorem Chg.of_grown (h:w.grownBy w' (some g)) (hs:S g):Chg S w w':=⟨h.os,h.tape,h.output,h.size,fun i hi hn=>h.block i hi (fun e=>by injection e with e;subst e;exact hn hs)⟩
theorem Chg.below (h:Chg S a w) {B:Nat} (hB:B<=a.heap.size) (hs:∀i,i<a.heap.size->S i->B<=i):Below B a w:=
 ⟨h.os,h.tape,h.output,h.size,fun i hi=>h.block i (by omega) (fun x=>by have:=hs i (by omega) x;omega)⟩
theorem Chg.blk (h:Chg S w w') (hb:Blk w g t cs) (hs:¬S g):Blk w' g t cs:=(h.block g hb.lt hs).trans hb
theorem Chg.own (h:Chg S w w') {base n:Nat} {v:Value} (ho:w.ownsRow base t 1 v n xs) (hs:∀k,v.ownBlock=some k->¬S k):w'.ownsRow base t 1 v n xs:=by
 refine⟨ho.1,?_⟩;rcases ho.2 with hn | ⟨g,cap,cur,rfl,hb,hgg,rest⟩
 ·exact .inl hn
 ·exact .inr ⟨g,cap,cur,rfl,hb,(h.block g (Array.getElem?_eq_some_iff.1 hgg).1 (hs g rfl)).trans hgg,rest⟩
theorem Chg.set (h:Chg S a w) {p:Addr} (hp:S p.block\/a.heap.size<=p.block) (u:Value):Chg S a (w.setCell p u):=
 ⟨h.os,h.tape,h.output,by simpa [World.setCell] using h.size,fun i hi hn=>(Below.heap_setCell w p u i (by
  rintro rfl;rcases hp with hp | hp
  ·exact hn hp
  ·omega)).trans (h.block i hi hn)⟩
theorem Chg.alloc (h:Chg S a w) (o:Obj):Chg S a (w.alloc o):=
 ⟨h.os,h.tape,h.output,Nat.le_trans h.size (by simp),fun i hi hn=>(Below.heap_alloc w o i (Nat.lt_of_lt_of_le hi h.size)).trans (h.block i hi hn)⟩
theorem Chg.drew (h:Chg S a w):Chg S a w.drew:=⟨h.os,h.tape,h.output,h.size,h.block⟩
def RdA (S:Nat->Prop) (w:World) (A:Option Addr) (xs:List Value):Prop:=
 xs = []\/∃b o,A=some ⟨b,o,none⟩/\b<w.heap.size/\¬S b/\∀i u,xs[i]? = some u->w.cell? ⟨b,o+i,none⟩=some u
theorem RdA.rd (h:RdA S w A xs):Rd w w.heap.size A xs:=by
 rcases h with h | ⟨b,o,h1,h2,_,h3⟩
 ·exact .inl h
 ·exact .inr ⟨b,o,h1,h2,h3⟩
theorem RdA.keep (h:RdA S w A xs) (hc:Chg T w w') (ht:∀i,i<w.heap.size->T i->S i) (hs:∀i,i<w.heap.size->S' i->S i):RdA S' w' A xs:=by
 rcases h with h | ⟨b,o,h1,h2,h4,h3⟩
 ·exact .inl h
 ·exact .inr ⟨b,o,h1,Nat.lt_of_lt_of_le h2 hc.size,fun x=>h4 (hs b h2 x),fun i u hu=>(World.cell?_of_block (a:=⟨b,o+i,none⟩) (hc.block b h2 (fun x=>h4 (ht b h2 x)))).trans (h3 i u hu)⟩
theorem RdA.of_rd {B:Nat} (h:Rd w B A xs) (hB:B<=w.heap.size) (hs:∀i,S i->B<=i):RdA S w A xs:=by
 rcases h with h | ⟨b,o,h1,h2,h3⟩
 ·exact .inl h
 ·exact .inr ⟨b,o,h1,by omega,fun x=>by have:=hs b x;omega,h3⟩
theorem RdA.mono (h:RdA S w A xs) (hs:∀i,i<w.heap.size->S' i->S i):RdA S' w A xs:=h.keep (Chg.refl (fun _=>False) w) (fun _ _ x=>x.elim) hs
end
def Bp (ks:Nat->UInt8) (d s:Int) (p:Option Addr) (dg:Nat->UInt8) (a o r:Nat):Array Value:=
 ((List.range 32).map (fun i=>bv (ks i))++(([.int .u32 d,.int .i32 s,.int .u32 0,.pointer p]:List Value)++((List.range 16).map (fun j=>bv (dg j))++([.int .i64 (a:Int),.int .i64 (o:Int),.int .i64 (r:Int)]:List Value)))).toArray
def XB (w:World) (b:Nat) (ks:Nat->UInt8) (d s:Int) (p:Option Addr) (dg:Nat->UInt8) (a o r:Nat):Prop:=Blk w b 170 (Bp ks d s p dg a o r)
section
variable {w w':World} {b:Nat} {ks dg:Nat->UInt8} {d s:Int} {p:Option Addr} {a o r:Nat}
theorem PS (i:Nat) (h:i<32):(Bp ks d s p dg a o r)[i]? = some (bv (ks i)):=by
 rw[Bp,List.getElem?_toArray,List.getElem?_append_left (by simpa using h)];simp [h]
theorem Hq (i:Nat) (h:i<4):(Bp ks d s p dg a o r)[32+i]? = ([.int .u32 d,.int .i32 s,.int .u32 0,.pointer p]:List Value)[i]?:=by
 rw[Bp,List.getElem?_toArray,List.getElem?_append_right (by simp),List.getElem?_append_left (by simpa using h)];simp
theorem RL (i:Nat) (h:i<16):(Bp ks d s p dg a o r)[36+i]? = some (bv (dg i)):=by
 rw[Bp,List.getElem?_toArray,List.getElem?_append_right (by simp;omega),List.getElem?_append_right (by simp;omega),List.getElem?_append_left (by simp;omega)];have e:36+i - (List.map (fun i=>bv (ks i)) (List.range 32)).length - ([.int .u32 d,.int .i32 s,.int .u32 0,.pointer p]:List Value).length=i:=by simp;omega
 rw[e];simp [h]
theorem Jl (i:Nat) (h:i<3):(Bp ks d s p dg a o r)[52+i]? = ([.int .i64 (a:Int),.int .i64 (o:Int),.int .i64 (r:Int)]:List Value)[i]?:=by
 rw[Bp,List.getElem?_toArray,List.getElem?_append_right (by simp;omega),List.getElem?_append_right (by simp;omega),List.getElem?_append_right (by simp;omega)];have e:52+i - (List.map (fun i=>bv (ks i)) (List.range 32)).length - ([.int .u32 d,.int .i32 s,.int .u32 0,.pointer p]:List Value).length - (List.map (fun j=>bv (dg j)) (List.range 16)).length=i:=by simp;omega
 rw[e]
theorem XB.cell (h:XB w b ks d s p dg a o r) (i:Nat):w.cell? ⟨b,i,none⟩=(Bp ks d s p dg a o r)[i]?:=Blk.cell h i
theorem XB.ck (h:XB w b ks d s p dg a o r) (i:Nat) (hi:i<32):w.cell? ⟨b,i,none⟩=some (bv (ks i)):=(h.cell i).trans (PS i hi)
theorem XB.cd (h:XB w b ks d s p dg a o r):w.cell? ⟨b,32,none⟩=some (.int .u32 d):=(h.cell 32).trans (Hq 0 (by decide))
theorem XB.cs (h:XB w b ks d s p dg a o r):w.cell? ⟨b,33,none⟩=some (.int .i32 s):=(h.cell 33).trans (Hq 1 (by decide))
theorem XB.cp (h:XB w b ks d s p dg a o r):w.cell? ⟨b,35,none⟩=some (.pointer p):=(h.cell 35).trans (Hq 3 (by decide))
theorem XB.cg (h:XB w b ks d s p dg a o r) (i:Nat) (hi:i<16):w.cell? ⟨b,36+i,none⟩=some (bv (dg i)):=(h.cell _).trans (RL i hi)
theorem XB.ca (h:XB w b ks d s p dg a o r):w.cell? ⟨b,52,none⟩=some (.int .i64 (a:Int)):=(h.cell 52).trans (Jl 0 (by decide))
theorem XB.co (h:XB w b ks d s p dg a o r):w.cell? ⟨b,53,none⟩=some (.int .i64 (o:Int)):=(h.cell 53).trans (Jl 1 (by decide))
theorem XB.cr (h:XB w b ks d s p dg a o r):w.cell? ⟨b,54,none⟩=some (.int .i64 (r:Int)):=(h.cell 54).trans (Jl 2 (by decide))
theorem XB.fz (h:XB w b ks d s p dg a o r) (i:Nat):w.frozen? ⟨b,i,none⟩=false:=Blk.frozen h i
theorem XB.lt (h:XB w b ks d s p dg a o r):b<w.heap.size:=Blk.lt h
theorem YZ (d':Int):(Bp ks d s p dg a o r).setIfInBounds 32 (.int .u32 d')=Bp ks d' s p dg a o r:=by simp [Bp]
theorem Za (s':Int):(Bp ks d s p dg a o r).setIfInBounds 33 (.int .i32 s')=Bp ks d s' p dg a o r:=by simp [Bp]
theorem Zb (p':Option Addr):(Bp ks d s p dg a o r).setIfInBounds 35 (.pointer p')=Bp ks d s p' dg a o r:=by simp [Bp]
theorem Zc (a':Nat):(Bp ks d s p dg a o r).setIfInBounds 52 (.int .i64 (a':Int))=Bp ks d s p dg a' o r:=by simp [Bp]
theorem Zd (o':Nat):(Bp ks d s p dg a o r).setIfInBounds 53 (.int .i64 (o':Int))=Bp ks d s p dg a o' r:=by simp [Bp]
theorem Ze (r':Nat):(Bp ks d s p dg a o r).setIfInBounds 54 (.int .i64 (r':Int))=Bp ks d s p dg a o r':=by simp [Bp]
theorem XB.set_d (h:XB w b ks d s p dg a o r) (d':Int):XB (w.setCell ⟨b,32,none⟩ (.int .u32 d')) b ks d' s p dg a o r:=by
 have:=Blk.set h 32 (.int .u32 d');rwa [YZ] at this
theorem XB.set_s (h:XB w b ks d s p dg a o r) (s':Int):XB (w.setCell ⟨b,33,none⟩ (.int .i32 s')) b ks d s' p dg a o r:=by
 have:=Blk.set h 33 (.int .i32 s');rwa [Za] at this
theorem XB.set_p (h:XB w b ks d s p dg a o r) (p':Option Addr):XB (w.setCell ⟨b,35,none⟩ (.pointer p')) b ks d s p' dg a o r:=by
 have:=Blk.set h 35 (.pointer p');rwa [Zb] at this
theorem XB.set_a (h:XB w b ks d s p dg a o r) (a':Nat):XB (w.setCell ⟨b,52,none⟩ (.int .i64 (a':Int))) b ks d s p dg a' o r:=by
 have:=Blk.set h 52 (.int .i64 (a':Int));rwa [Zc] at this
theorem XB.set_o (h:XB w b ks d s p dg a o r) (o':Nat):XB (w.setCell ⟨b,53,none⟩ (.int .i64 (o':Int))) b ks d s p dg a o' r:=by
 have:=Blk.set h 53 (.int .i64 (o':Int));rwa [Zd] at this
theorem XB.set_r (h:XB w b ks d s p dg a o r) (r':Nat):XB (w.setCell ⟨b,54,none⟩ (.int .i64 (r':Int))) b ks d s p dg a o r':=by
 have:=Blk.set h 54 (.int .i64 (r':Int));rwa [Ze] at this
theorem XB.drew (h:XB w b ks d s p dg a o r):XB w.drew b ks d s p dg a o r:=h
theorem XB.chg {S:Nat->Prop} (h:XB w b ks d s p dg a o r) (hc:Chg S w w') (hs:¬S b):XB w' b ks d s p dg a o r:=hc.blk h hs
end
def RM (cs:Array Value):Nat->List Value->Array Value
 |_,[]=>cs
 |o,v :: l=>RM (cs.setIfInBounds o v) (o+1) l
theorem Blk.setCells {g:Nat} {t:TypeId}:∀(vs:List Value) (o:Nat) (w:World) (cs:Array Value),Blk w g t cs->Blk (w.setCells g o vs) g t (RM cs o vs)
 | [],_,_,_,h=>h
 |v :: l,o,w,cs,h=>Blk.setCells l (o+1) _ _ (h.set o v)
theorem Xl (ks:Nat->UInt8) (d s:Int) (p:Option Addr) (dg dg':Nat->UInt8) (a o r:Nat):RM (Bp ks d s p dg a o r) 36 (Si.AI dg').toList=Bp ks d s p dg' a o r:=by kernel_rfl
theorem XB.set_dg {w:World} {b:Nat} {ks dg:Nat->UInt8} {d s:Int} {p:Option Addr} {a o r:Nat} (h:XB w b ks d s p dg a o r) (dg':Nat->UInt8):XB (w.setCells b 36 (Si.AI dg').toList) b ks d s p dg' a o r:=by
 have:=Blk.setCells (Si.AI dg').toList 36 _ _ h
 rwa [Xl] at this
abbrev LU:Nat->UInt8:=fun _=>0
def Box (w:World) (b:Nat) (ks:Nat->UInt8) (h:Option Nat) (a o r:Nat):Prop:=
 match h with
 |none=>XB w b ks 0 0 none LU a o r
 |some g=>XB w b ks 1 0 (some ⟨g,0,none⟩) (k2 ks) a o r/\g≠b/\∃m,Sp.Key w g ks m
def Ow (b:Nat) (h:Option Nat) (i:Nat):Prop:=i=b\/h=some i
theorem Box.lt {w:World} {b:Nat} {ks:Nat->UInt8} {h:Option Nat} {a o r:Nat} (hx:Box w b ks h a o r):b<w.heap.size:=by
 cases h with
 |none=>exact XB.lt hx
 |some g=>exact XB.lt hx.1
theorem Box.lt_g {w:World} {b g:Nat} {ks:Nat->UInt8} {a o r:Nat} (hx:Box w b ks (some g) a o r):g<w.heap.size:=by
 obtain⟨_,_,m,hk⟩:=hx;exact hk.lt
theorem Box.own_lt {w:World} {b:Nat} {ks:Nat->UInt8} {h:Option Nat} {a o r:Nat} (hx:Box w b ks h a o r) (i:Nat) (hi:Ow b h i):i<w.heap.size:=by
 rcases hi with hi | hi
 ·subst hi;exact hx.lt
 ·subst hi;exact hx.lt_g
theorem RN {S:Nat->Prop} {w w':World} {g:Nat} {ks:Nat->UInt8} {m:Bool} (h:Sp.Key w g ks m) (hc:Chg S w w') (hs:¬S g):Sp.Key w' g ks m:=by
 cases m with
 |false=>exact hc.blk h hs
 |true=>exact hc.blk h hs
theorem Box.chg {S:Nat->Prop} {w w':World} {b:Nat} {ks:Nat->UInt8} {h:Option Nat} {a o r:Nat} (hx:Box w b ks h a o r) (hc:Chg S w w') (hs:∀i,Ow b h i->¬S i):Box w' b ks h a o r:=by
 cases h with
 |none=>exact XB.chg hx hc (hs b (.inl rfl))
 |some g=>
  obtain⟨h1,h2,m,h3⟩:=hx;exact⟨h1.chg hc (hs b (.inl rfl)),h2,m,RN h3 hc (hs g (.inr rfl))⟩
theorem Box.below {w w':World} {b:Nat} {ks:Nat->UInt8} {h:Option Nat} {a o r:Nat} (hx:Box w b ks h a o r) (hc:Below w.heap.size w w'):Box w' b ks h a o r:=
 hx.chg (S:=fun _=>False) (Chg.of_below hc) (fun _ _ x=>x)
def Step (w w':World) (b:Nat) (h:Option Nat) (g:Nat):Prop:=Chg (Ow b h) w w'/\(h=some g\/(h=none/\w.heap.size<=g))
theorem Step.own {w w':World} {b g:Nat} {h:Option Nat} (hs:Step w w' b h g):∀i,i<w.heap.size->Ow b (some g) i->Ow b h i:=by
 intro i hi hx;rcases hx with hx | hx
 ·exact .inl hx
 ·injection hx with hx
  subst hx;rcases hs.2 with h1 | ⟨_,h1⟩
  ·exact .inr h1
  ·omega
theorem Step.trans {a w c:World} {b g g':Nat} {h:Option Nat} (h1:Step a w b h g) (h2:Step w c b (some g) g'):g'=g/\Step a c b h g:=by
 have e:g'=g:=by
  rcases h2.2 with h3 | ⟨h3,_⟩
  ·injection h3 with h3;exact h3.symm
  ·cases h3
 exact⟨e,h1.1.trans h2.1 h1.own,h1.2⟩
theorem Step.then {a w c:World} {b g:Nat} {h:Option Nat} {S:Nat->Prop} (h1:Step a w b h g) (h2:Chg S w c) (hs:∀i,i<a.heap.size->S i->Ow b h i):Step a c b h g:=⟨h1.1.trans h2 hs,h1.2⟩
def AO (ks:Nat->UInt8):Array Value:=((List.range 32).map (fun i=>bv (ks i))).toArray
theorem Am {P:Program} {ops:Array Oper} {rest:List Oper} {op:Oper} {a:Act} {w:World} {Q:Exit->Act->World->Prop} (hgd:op.guard=none) (ty:TypeId) (x:Operand) (ho:op.op=.load ty x)
  (g o:Nat) (hx:a.eval x=.pointer (some ⟨g,o,none⟩)) (cs:Array Value) (d:TypeDesc) (hc:w.rangeAt g o cs.toList)
  (hu:P.underlying ty=some d) (hd:d.isRow=true) (hi:(P.info? ty).map (·.size)=some cs.size)
  (h:wpList P ops Q rest (a.put op.dst (.agg cs)) w):wpList P ops Q (op :: rest) a w:=
 wpList_load_mid hgd ty x ho g o hx cs.toList d hc hu hd (by rw[Array.length_toList];exact hi) (by simpa using h)
theorem Dm (ks:Nat->UInt8):(AO ks).size=32:=by simp [AO]
theorem Fv (ks:Nat->UInt8):(Tryz.prog.info? 35).map (·.size)=some (AO ks).size:=by rw[Dm];kernel_rfl
theorem one32 (ks:Nat->UInt8):(AO ks).all (·.oneCell')=true:=by simp [AO,bv,Value.oneCell']
theorem KJ (ks:Nat->UInt8) (w:World):Calls Tryz.prog 27 #[.agg (AO ks)] w fun e w'=>∃b,e=.returned (.pointer (some ⟨b,0,none⟩))/\w.heap.size<=b/\Box w' b ks none 0 0 0/\Below w.heap.size w w':=by
 have hi:=Fv ks;obtain⟨cs,ecs⟩:=Ak (AO ks);rw[<-ecs] at hi⊢;have hz:cs.size=32:=by rw[ecs];exact Dm ks
 have HI:=I hi;clear hi;have EC:=I ecs;clear ecs;go_enter Tryz.func27,Tryz.ntmps27
 go_wp2_with (first
  |(refine Am (by rfl) 35 (.tmp 1) (by rfl) w.heap.size 0 (by rfl) cs _ (Si.Ae (Blk.new w 35 cs)) Tryz.underlying35 (by rfl) HI.o ?_)
  |fail)
 go_ret;refine⟨w.heap.size+1,rfl,Nat.le_succ _,?_,((Below.refl w.heap.size w).alloc Ag _).alloc (by simp) _⟩;exact Sp.Blk.new_of (w.alloc _) _ 170 _ (Bp ks 0 0 none LU 0 0 0) (by rw[EC.o];kernel_rfl) (by simp)
theorem XB.range1 {w:World} {b:Nat} {ks dg:Nat->UInt8} {d s:Int} {p:Option Addr} {a o r:Nat} (h:XB w b ks d s p dg a o r):w.rangeAt b 0 (Sp.AI ks).toList:=fun j v hv=>by
 rw[Sp.AI,List.toList_toArray,List.getElem?_map] at hv;rcases Nat.lt_or_ge j 16 with g | g
 ·rw[Nat.zero_add,h.ck j (by omega)];simpa [g] using hv
 ·rw[List.getElem?_eq_none (by simpa using g)] at hv;cases hv
theorem XB.range2 {w:World} {b:Nat} {ks dg:Nat->UInt8} {d s:Int} {p:Option Addr} {a o r:Nat} (h:XB w b ks d s p dg a o r):w.rangeAt b 16 (Sp.AI (k2 ks)).toList:=fun j v hv=>by
 rw[Sp.AI,List.toList_toArray,List.getElem?_map] at hv;rcases Nat.lt_or_ge j 16 with g | g
 ·rw[h.ck (16+j) (by omega)];simpa [g,k2] using hv
 ·rw[List.getElem?_eq_none (by simpa using g)] at hv;cases hv
theorem XB.rangeD {w:World} {b:Nat} {ks dg:Nat->UInt8} {d s:Int} {p:Option Addr} {a o r:Nat} (h:XB w b ks d s p dg a o r):w.rangeAt b 36 (Sp.AI dg).toList:=fun j v hv=>by
 rw[Sp.AI,List.toList_toArray,List.getElem?_map] at hv;rcases Nat.lt_or_ge j 16 with g | g
 ·rw[h.cg j (by omega)];simpa [g] using hv
 ·rw[List.getElem?_eq_none (by simpa using g)] at hv;cases hv
theorem XB.thereD {w:World} {b:Nat} {ks dg:Nat->UInt8} {d s:Int} {p:Option Addr} {a o r:Nat} (h:XB w b ks d s p dg a o r):w.there b 36 16:=fun j hj=>⟨by rw[h.cg j hj];rfl,h.fz _⟩
theorem AY (f:Nat->UInt8):(Sp.AI f).size=16:=by simp [Sp.AI]
theorem Jm (f:Nat->UInt8):(Tryz.prog.info? 168).map (·.size)=some (Sp.AI f).size:=by rw[AY];kernel_rfl
theorem RQ (f:Nat->UInt8):(Sp.AI f).all (·.oneCell')=true:=by simp [Sp.AI,bv,Value.oneCell']
theorem JW {a w:World} {b:Nat}:∀(vs:List Value) (o:Nat) (w:World),a.grownBy w (some b)->a.grownBy (w.setCells b o vs) (some b)
 | [],_,_,h=>h
 |v :: r,o,w,h=>JW (w:=w) r (o+1) _ (AE h (.inl rfl) v)
theorem Key.far {w:World} {g:Nat} {ks:Nat->UInt8} {m:Bool} (h:Sp.Key w g ks m) (p:Addr) (u:Value) (hp:p.block≠g):Sp.Key (w.setCell p u) g ks m:=by
 cases m with
 |false=>exact Si.Blk.far h p u hp
 |true=>exact Si.Blk.far h p u hp
theorem Key.fars {g b:Nat} {ks:Nat->UInt8} {m:Bool} (hb:b≠g):∀(vs:List Value) (o:Nat) (w:World),Sp.Key w g ks m->Sp.Key (w.setCells b o vs) g ks m
 | [],_,_,h=>h
 |v :: r,o,w,h=>Key.fars hb r (o+1) _ (Key.far h _ v hb)
theorem Nb (b:Nat) (ks:Nat->UInt8) (a o r:Nat) (d s:Int) (w:World) (hK:XB w b ks d s none LU a o r) :
  Calls Tryz.prog 196 #[.pointer (some ⟨b,0,none⟩)] w fun e w'=>e=.returned (.tuple #[])/\∃g,XB w' b ks d s (some ⟨g,0,none⟩) (k2 ks) a o r/\w.heap.size<=g/\Sp.Key w' g ks false/\w.grownBy w' (some b):=by
 have hs1:∀w:World,(Instr.arrayAt 168 (.slice (some ⟨b,0,none⟩) 16 32)).run Tryz.prog w=.ok (.pointer (some ⟨b,0,none⟩)) w:=fun _=>by kernel_rfl
 have hs2:∀w:World,(Instr.arrayAt 168 (.slice (some ⟨b,16,none⟩) 16 16)).run Tryz.prog w=.ok (.pointer (some ⟨b,16,none⟩)) w:=fun _=>by kernel_rfl
 have cn:=fun w=>Sp.KJ ks w
 have r1:=hK.range1;have hk0:∀w1:World,Below w.heap.size w w1->XB w1 b ks d s none LU a o r:=fun w1 h=>Blk.below hK h
 have hlt:=hK.lt;have R2:Hid (∀(w1:World) p,XB w1 b ks d s p LU a o r->w1.rangeAt b 16 (Sp.AI (k2 ks)).toList):=fun w1 p h=>XB.range2 h
 have i1:=Jm ks;have i2:=Jm (k2 ks);have o2:=RQ (k2 ks);have z2:=AY (k2 ks);obtain⟨cs,ecs⟩:=Ak (Sp.AI ks);obtain⟨ds,eds⟩:=Ak (Sp.AI (k2 ks));rw[<-ecs] at r1 i1 cn;rw[<-eds] at R2 i2 o2 z2;have R1:=I r1;clear r1;have K0:=I hk0;clear hk0;have LT:=I hlt;clear hlt;have I1:=I i1;clear i1;have I2:=I i2;clear i2;have O2:=I o2;clear o2;have Z2:=I z2;clear z2;have ED:=I eds;clear eds;clear ecs hK;go_enter Tryz.func196,Tryz.ntmps196
 go_upto_region 2 with(first
  |(refine Am (by rfl) 168 (.tmp 9) (by rfl) b 0 (by rfl) cs _ R1.o Tryz.underlying168 (by rfl) I1.o ?_)
  |(go_at_call 223;refine Calls.mono (cn _) ?_;rintro e w1 ⟨g,rfl,hg,hk1,hb1⟩;have X1:=K0.o w1 hb1;have c35:=X1.cp;have fz:=X1.fz;have X2:=I (X1.set_p (some ⟨g,0,none⟩));have HG:=I hg;have HK1:=I hk1;have HB1:=I hb1;clear hg hk1 hb1 X1)
  |fail)
 clear c35 fz;have hR:=R2.o _ _ X2.o;have hT:=XB.thereD X2.o;rw[<-Z2.o] at hT;have HR:=I hR;clear hR;have HT:=I hT;clear hT
 go_wp2_with (first
  |(refine Am (by rfl) 168 (.tmp 20) (by rfl) b 16 (by rfl) ds _ HR.o Tryz.underlying168 (by rfl) I2.o ?_)
  |(refine wpList_store_mid (by rfl) 168 (.tmp 23) (.tmp 21) (by rfl) b 36 ds (by rfl) (by rfl) HT.o I2.o O2.o ?_)
  |fail)
 go_end0
 have hgb:b≠g:=by have:=HG.o;have:=LT.o;omega
 refine⟨rfl,g,?_,HG.o,Key.fars hgb _ _ _ (Key.far HK1.o _ _ hgb),JW (w:=w) _ _ _ (AE (BD HB1.o _) (.inl rfl) _)⟩;rw[ED.o];exact X2.o.set_dg (k2 ks)
theorem slow (b:Nat) (ks:Nat->UInt8) (a o r:Nat) (w:World) (hK:XB w b ks 0 0 none LU a o r) :
  Calls Tryz.prog 222 #[.pointer (some ⟨b,32,none⟩),.func (.func 196) #[.pointer (some ⟨b,0,none⟩)] #[]] w fun e w'=>e=.returned (.tuple #[])/\∃g,XB w' b ks 1 0 (some ⟨g,0,none⟩) (k2 ks) a o r/\w.heap.size<=g/\Sp.Key w' g ks false/\w.grownBy w' (some b):=by
 have hK1:XB (w.setCell ⟨b,33,none⟩ (.int .i32 1)) b ks 0 1 none LU a o r:=hK.set_s 1;have g1:w.grownBy (w.setCell ⟨b,33,none⟩ (.int .i32 1)) (some b):=AE (World.grownBy.refl _ _) (.inl rfl) _;have hsz:(w.setCell ⟨b,33,none⟩ (.int .i32 1)).heap.size=w.heap.size:=by simp [World.setCell]
 have cl:=Sp.LG ⟨b,33,none⟩ w hK.cs (hK.fz 33);have cd:=Sp.DZ ⟨b,32,none⟩ 0 _ hK1.cd false rfl;have cm:=Nb b ks a o r 0 1 _ hK1;rw[hsz] at cm;have hnot:∀(x:Bool) (w:World),(Op.unary .not (.bool x)).run Tryz.prog w=.ok (.bool (!x)) w:=fun _ _=>rfl
 have hlt:=hK.lt;have H:=I hK;clear hK;have H1:=I hK1;clear hK1;have G1:=I g1;clear g1;have LT:=I hlt;clear hlt;clear hsz
 go_enter_defers Tryz.func222,Tryz.ntmps222
 go_wp2_with (first | (go_at_call 239;refine Aj cl ?_;rintro w' rfl) | (go_at_call 221;refine Aj cd ?_;rintro w' rfl) | (go_at_call 196;refine Aj cm ?_;rintro w2 ⟨g,hK2,hgs,hkey,hg2⟩))
 refine leaves_cons (f:=241) (args:=#[.pointer (some ⟨b,32,none⟩),.bool true]) (by simp) (by simp [go_sem]) ?_;refine(Sp.Gg ⟨b,32,none⟩ _ .returning w2 hK2.cd (hK2.fz 32)).mono ?_;rintro e u' w'' ⟨rfl,rfl,rfl⟩;have hgb:b≠g:=by have:=LT.o;omega
 have hK3:=XB.set_d hK2.drew 1;refine leaves_cons (f:=240) (args:=#[.pointer (some ⟨b,33,none⟩)]) (by simp [settle]) (by simp [go_sem]) ?_;refine(Sp.Fs ⟨b,33,none⟩ _ _ hK3.cs (hK3.fz 33)).mono ?_;rintro e u' w'' ⟨rfl,rfl,rfl⟩;have hK4:=XB.set_s hK3 0;have hkey4:=Key.far (Key.far (w:=w2.drew) (m:=false) hkey ⟨b,32,none⟩ (.int .u32 1) hgb) ⟨b,33,none⟩ (.int .i32 0) hgb;have hg4:=AE (row:=some b) (AE (row:=some b) (AU (World.grownBy.refl w2 (some b))) (p:=⟨b,32,none⟩) (.inl rfl) (.int .u32 1)) (p:=⟨b,33,none⟩) (.inl rfl) (.int .i32 0);have hg5:=Sp.Ek (Sp.Ek G1.o hg2) hg4;simp [Leaves,settle,results,Tryz.results222];exact⟨g,hK4,hgs,hkey4,hg5⟩
theorem KI (b:Nat) (ks:Nat->UInt8) (a o r:Nat) (w:World) (hK:XB w b ks 0 0 none LU a o r) :
  Calls Tryz.prog 195 #[.pointer (some ⟨b,32,none⟩),.func (.func 196) #[.pointer (some ⟨b,0,none⟩)] #[]] w fun e w'=>e=.returned (.tuple #[])/\∃g,XB w' b ks 1 0 (some ⟨g,0,none⟩) (k2 ks) a o r/\w.heap.size<=g/\Sp.Key w' g ks false/\w.grownBy w' (some b):=by
 have cd:=Sp.DZ ⟨b,32,none⟩ 0 w hK.cd false rfl;have cs:=slow b ks a o r w hK;have hnot:∀(x:Bool) (w:World),(Op.unary .not (.bool x)).run Tryz.prog w=.ok (.bool (!x)) w:=fun _ _=>rfl
 clear hK;go_enter Tryz.func195,Tryz.ntmps195
 go_wp2_with (first | (go_at_call 221;refine Aj cd ?_;rintro w' rfl) | (go_at_call 222;refine Aj cs ?_;rintro w2 h2;have H2:=I h2;clear h2))
 go_end0
 exact⟨rfl,H2.o⟩
theorem MT (b:Nat) (fv:Value) (w:World) (hd:w.cell? ⟨b,32,none⟩=some (.int .u32 1)) :
  Calls Tryz.prog 195 #[.pointer (some ⟨b,32,none⟩),fv] w fun e w'=>e=.returned (.tuple #[])/\w'=w:=by
 have cd:=Sp.DZ ⟨b,32,none⟩ 1 w hd true rfl;have hnot:∀(x:Bool) (w:World),(Op.unary .not (.bool x)).run Tryz.prog w=.ok (.bool (!x)) w:=fun _ _=>rfl
 clear hd;go_enter Tryz.func195,Tryz.ntmps195
 go_wp2_with (first | (go_at_call 221;refine Aj cd ?_;rintro w' rfl))
 go_end0
 exact⟨rfl,rfl⟩
theorem GJ (b:Nat) (ks:Nat->UInt8) (h:Option Nat) (a o r:Nat) (w:World) (hK:Box w b ks h a o r) :
  Calls Tryz.prog 153 #[.pointer (some ⟨b,0,none⟩)] w fun e w'=>e=.returned (.tuple #[])/\∃g,Box w' b ks (some g) a o r/\Step w w' b h g:=by
 have hmf:∀(fn:Fn) (first cap:Array Value) (w:World),(Instr.makeFunc fn first cap).run Tryz.prog w=.ok (.func fn first cap) w:=fun _ _ _ _=>rfl
 cases h with
 |none=>
  have cf:=KI b ks a o r w hK;have hlt:=XB.lt hK;have LT:=I hlt;clear hlt;clear hK;go_enter Tryz.func153,Tryz.ntmps153
  go_wp2_with (first | (go_at_call 195;refine Aj cf ?_;rintro w' h2;have H2:=I h2;clear h2))
  go_end0
  obtain⟨g,h1,h2,h3,h4⟩:=H2.o;exact⟨rfl,g,⟨h1,by have:=LT.o;omega,false,h3⟩,Chg.of_grown h4 (.inl rfl),.inr ⟨rfl,h2⟩⟩
 |some g=>
  have cf:=fun fv=>MT b fv w (XB.cd hK.1)
  have H:=I hK;clear hK;go_enter Tryz.func153,Tryz.ntmps153
  go_wp2_with (first | (go_at_call 195;refine Aj (cf _) ?_;rintro w' rfl))
  go_end0
  exact⟨rfl,g,H.o,Chg.refl _ _,.inl rfl⟩
theorem add_one (p:Addr) (a:Nat) (w:World) (ha:a<1000000) (hc:w.cell? p=some (.int .i64 (a:Int))) (hz:w.frozen? p=false) :
  Calls Tryz.prog 76 #[.pointer (some p),.int .i64 1] w fun e w'=>e=.returned (.int .i64 ((a+1:Nat):Int))/\w'=w.setCell p (.int .i64 ((a+1:Nat):Int)):=by
 have hadd:=run_call_add (P:=Tryz.prog) Tryz.func123 (by kernel_rfl) (by kernel_rfl) (by kernel_rfl) .i64 (by kernel_rfl) (y:=1) (s:=((a+1:Nat):Int)) hc hz (by
  have h:IntKind.i64.wrap ((a:Int)+1)=((a+1:Nat):Int):=by rw[IntKind.wrap_i64];omega
  simp [go_sem,h])
 clear hc hz ha;go_enter Tryz.func76,Tryz.ntmps76
 go_wp2
 go_ret;exact⟨rfl,rfl⟩
theorem PU (p:Addr) (a:Nat) (w:World) (hc:w.cell? p=some (.int .i64 (a:Int))) :
  Calls Tryz.prog 77 #[.pointer (some p)] w fun e w'=>e=.returned (.int .i64 (a:Int))/\w'=w:=by
 have hl:=run_call_load (P:=Tryz.prog) Tryz.func124 (by kernel_rfl) (by kernel_rfl) (by kernel_rfl) .i64 (by kernel_rfl) hc;clear hc;go_enter Tryz.func77,Tryz.ntmps77
 go_wp2
 go_ret;exact⟨rfl,rfl⟩
theorem Ea (u:Int) (x:Bool) (hx:x=(decide (0<=u)&&decide (u<=255))) (w:World):Calls Tryz.prog 104 #[.int .i64 u] w fun e w'=>e=.returned (.bool x)/\w'=w:=by
 subst hx
 by_cases h:0<=u
 ·go_enter Tryz.func104,Tryz.ntmps104
  go_wp2
  go_ret;exact⟨by simp [h],rfl⟩
 ·have h2:decide (0<=u)=false:=by simpa using h
  go_enter Tryz.func104,Tryz.ntmps104
  go_wp2
  go_ret;exact⟨by simp,rfl⟩
theorem Fw (n:Nat) (x:Bool) (hx:x=decide (n<=1099511627776)) (w:World):Calls Tryz.prog 151 #[.int .u64 (n:Int)] w fun e w'=>e=.returned (.bool x)/\w'=w:=by
 subst hx;have e:decide ((n:Int)<=1099511627776)=decide (n<=1099511627776):=by congr 1;exact propext ⟨by omega,by omega⟩
 have E:=I e;clear e;go_enter Tryz.func151,Tryz.ntmps151
 go_wp2
 go_ret;exact⟨by rw[<-E.o];rfl,rfl⟩
theorem RR (x y:Nat) (hy:y<256) (hx:x<72057594037927936):bits .or .u64 ((x:Int)*256) (y:Int)=((x*256+y:Nat):Int):=by
 have e:(x:Int)*256=((x*256:Nat):Int):=by omega
 have h:x*256 ||| y=x*256+y:=by
  have h:=Nat.shiftLeft_add_eq_or_of_lt (show y<2 ^ 8 by omega) x;rw[Nat.shiftLeft_eq] at h
  simpa using h.symm
 rw[e,u64_or_nat _ _ (by omega) (by omega),h]
theorem Dh (B:Nat) (A:Option Addr) (n c:Nat) (l:List UInt8) (w:World) (hn:n=l.length) (h8:8<=n) (hc:n<=c) (hr:Rd w B A (bvs l)) :
  Calls Tryz.prog 107 #[.slice A n c] w fun e w'=>e=.returned (.int .u64 (n8 l:Int))/\w'=w:=by
 obtain⟨b,o,rfl,hb,hcell⟩:∃b o,A=some ⟨b,o,none⟩/\b<B/\∀i (h:i<l.length),w.cell? ⟨b,o+i,none⟩=some (bv l[i]):=by
  rcases hr with h | ⟨b,o,h1,h2,h3⟩
  ·have:=Ao l;rw[h] at this;simp at this;omega
  ·exact⟨b,o,h1,h2,fun i hi=>h3 i _ (Dy hi)⟩
 have hc8:(8:Int)<=(c:Int):=by omega
 have hc8':8<=c:=by omega
 have HC:=I hcell;clear hcell;have HN:=I hn;clear hn;have H8:=I h8;clear h8;clear hr hc hb;go_enter Tryz.func107,Tryz.ntmps107
 go_wp2_with fail
 go_loop [3,9] (fun wv_ iv=>∃i:Nat,i<=8/\iv=.int .i64 (i:Int)/\wv_=.int .u64 (big 0 (l.take i):Nat)) (fun _ iv=>8 - (intOf iv).toNat)
 case atStart=>exact⟨0,by decide,rfl,rfl⟩
 case round=>
  obtain⟨i,hi,rfl,rfl⟩:=hrel
  by_cases hx:i=8
  ·subst hx
   go_wp2_with fail
   go_ret;exact⟨rfl,rfl⟩
  ·have e1:(i:Int)<8:=by omega
   have e2:(0:Int)<=(i:Int):=by omega
   have e3:i<8:=by omega
   have hl:i<l.length:=by have:=HN.o;have:=H8.o;omega
   obtain⟨y,ey⟩:=Ak (l[i]);have hcc:=HC.o i hl;rw[<-ey] at hcc;simp only[bv] at hcc;have hy:=y.toNat_lt;obtain⟨v,ev⟩:=Ak (big 0 (l.take i));obtain⟨u,eu⟩:=Ak (v*256+y.toNat);rw[<-ev];have hv:v<72057594037927936:=by
    have:=Jk l i;rw[<-ev] at this;exact Nat.lt_of_lt_of_le this (Nat.pow_le_pow_right (by decide) (by omega):256 ^ i<=256 ^ 7)
   have hw1:(v:Int)*256 % 18446744073709551616=(v:Int)*256:=by omega
   have hw2:(y.toNat:Int) % 18446744073709551616=(y.toNat:Int):=by omega
   have hw3:IntKind.u64.wrap (y.toNat:Int)=(y.toNat:Int):=by rw[IntKind.wrap_u64];exact hw2
   have hw4:IntKind.u64.wrap ((v:Int)*256)=(v:Int)*256:=by rw[IntKind.wrap_u64];exact hw1
   have hor:bits .or .u64 ((v:Int)*256) (y.toNat:Int)=(u:Int):=by rw[eu];exact RR v y.toNat hy hv
   have hnx:u=big 0 (l.take (i+1)):=by rw[Om l i hl,<-ey,<-ev,eu]
   have NX:=I hnx;clear hnx;have HI:=I hi;clear hi;have HX:=I hx;clear hx;have HV:=I hv;clear hv;clear eu ev ey
   go_wp2_with fail
   go_round
   case rel=>exact⟨i+1,by omega,by go_num,by rw[<-NX.o]⟩
   case measure=>simp [intOf];omega
theorem DF {w w':World} {base:Nat} {t:TypeId} {v:Value} {n:Nat} {xs:List Value} {o:Obj} (h:w.ownsRow base t 1 v n xs) (e:w'.heap=w.heap.push o):w'.ownsRow base t 1 v n xs:=Si.DF h e
def laid (xs:List UInt8) (N j:Nat):List Value:=bvs (xs++(w8 N).take j)
theorem LV (xs:List UInt8) (N j:Nat) (h:j<8):laid xs N j++[bv (UInt8.ofNat (N / 2 ^ (56 - 8*j)))]=laid xs N (j+1):=by
 unfold laid;rw[Xj N j h,<-List.append_assoc,Bt (xs++(w8 N).take j)];rfl
theorem VT (xs:List UInt8) (N:Nat):laid xs N 8=bvs (xs++w8 N):=by
 unfold laid;rw[List.take_of_length_le (by rw[Cv];exact Nat.le_refl _)]
theorem Oq (base:Nat) (v:Value) (n N:Nat) (xs:List UInt8) (w:World) (hN:N<18446744073709551616) (hn:n<=100000) (hb:base<=w.heap.size) (hown:w.ownsRow base 5 1 v n (bvs xs)) :
  Calls Tryz.prog 181 #[v,.int .u64 (N:Int)] w fun e w'=>∃v',e=.returned v'/\w'.ownsRow base 5 1 v' (n+8) (bvs (xs++w8 N))/\Chg (fun i=>v.ownBlock=some i) w w'/\(∀k,v'.ownBlock=some k->v.ownBlock=some k\/w.heap.size<=k):=by
 obtain⟨ib,hi0,hz0,hs0,hb0⟩:=info_parts Si.BP;have HO:=I hown;clear hown;have HB:=I hb;clear hb;have HN:=I hN;clear hN;have HL:=I hn;clear hn;go_enter Tryz.func181,Tryz.ntmps181
 go_wp2_with fail
 go_loopw [0,5] (fun bv_ iv wr=>∃j:Nat,j<=8/\iv=.int .i64 (56 - 8*(j:Int))/\wr.ownsRow base 5 1 bv_ (n+j) (laid xs N j)/\Chg (fun i=>v.ownBlock=some i) w wr/\(∀k,bv_.ownBlock=some k->v.ownBlock=some k\/w.heap.size<=k)) (fun _ iv _=>(intOf iv+8).toNat)
 case atStart=>exact⟨0,by decide,rfl,by unfold laid;rw[List.take_zero,List.append_nil];exact HO.o,Chg.refl _ _,fun k hk=>.inl hk⟩
 case round=>
  obtain⟨j,hj,rfl,hown,hbl,hnew⟩:=hrel;have HNEW:=I hnew;clear hnew;have HR:=I hown;clear hown;have HW:=I hbl;clear hbl
  by_cases hx:j=8
  ·subst hx
   go_wp2_with fail
   go_ret;exact⟨_,rfl,by rw[<-VT];exact HR.o,HW.o,HNEW.o⟩
  ·obtain⟨m,em⟩:∃m:Nat,m=56 - 8*j:=⟨_,rfl⟩
   have hm:(56:Int) - 8*(j:Int)=(m:Int):=by omega
   rw[hm];have hx3:j<8:=by omega
   have hx4:m<64:=by omega
   have hx5:(m:Int)<64:=by omega
   have hx6:(0:Int)<=(m:Int):=by omega
   have hx7:min m 64=m:=by omega
   obtain⟨k,ek⟩:=Ak (n+j);have hk:k<=100010:=by have:=HL.o;omega
   rw[<-ek] at HR;have hnx:=LV xs N j hx3;have hv:bv (UInt8.ofNat (N / 2 ^ (56 - 8*j)))=.int .u8 ((N:Int) / 2 ^ m % 256):=by
    unfold bv;rw[UInt8.toNat_ofNat',<-em];congr 1
   rw[hv] at hnx;have NX:=I hnx;clear hnx;have EM:=I em;clear em;have EK:=I ek;clear ek;have HX:=I hx;clear hx;have HJ:=I hj;clear hj;have HX3:=I hx3;clear hx3;clear hm hv
   go_wp2_with (first | (at_builtin;refine Az _ (by rfl) (.tmp 10) (.tmp 15) 26 (by rfl) base 5 ib _ 1 Tryz.underlying26 hi0 hz0 hs0 hb0 (by rfl) _ k (laid xs N j) (by rfl) (DF HR.o (by rfl)) (wr.heap.size+1) (some ⟨wr.heap.size,0,none⟩) 1 1 [.int .u8 ((N:Int) / 2 ^ m % 256)] (by rfl) (by rfl) (Si.FO wr 5 _ [.int .u8 ((N:Int) / 2 ^ m % 256)] (by rfl) _ rfl) (by simp [Value.oneCell']) (by unfold maxLen;omega) (by omega) (by have:=HB.o;have:=HW.o.size;simp;omega) ?_;intro v6 w6 hown6 hgrow6 hat6;have O6:=I hown6;have G6:=I hgrow6;have T6:=I hat6;clear hown6 hgrow6 hat6) | fail)
   go_roundw
   case rel=>
    refine⟨j+1,by have:=HX3.o;omega,?_,by rw[<-NX.o,<-Nat.add_assoc,<-EK.o];exact O6.o,?_,?_⟩
    ·exact congrArg (Value.int .i64) (by have:=EM.o;have:=HX3.o;omega)
    ·refine(HW.o.alloc _).trans (T:=fun i=>Value.ownBlock _=some i) ⟨G6.o.os,G6.o.tape,G6.o.output,G6.o.size,fun k hk hne=>G6.o.block k hk (fun e=>hne e.symm)⟩ (fun i hi hx=>?_)
     rcases HNEW.o i hx with h1 | h1
     ·exact h1
     ·omega
    ·intro k hk
     rcases T6.o with h1 | h1
     ·exact HNEW.o k (h1▸hk)
     ·have:=HW.o.size
      rw[hk] at h1;injection h1 with h1;exact .inr (by simp at h1;omega)
   case measure=>simp [intOf];omega
def Aw (b:Nat) (h:Option Nat) (n i:Nat):Prop:=Ow b h i\/n<=i
section
variable {w w' a c:World} {b g n:Nat} {h:Option Nat} {A:Option Addr} {xs:List Value} {S:Nat->Prop}
theorem RdA.aw (hr:RdA (Ow b h) w A xs) (hn:w.heap.size<=n):RdA (Aw b h n) w A xs:=hr.mono fun i hi hx=>by
 rcases hx with hx | hx
 ·exact hx
 ·omega
theorem Step.aw (hs:Step w w' b h g):Chg (Aw b h n) w w':=hs.1.mono fun i _ hx=>.inl hx
theorem Step.aw_g (hs:Step w w' b h g) (hn:n<=w.heap.size):Aw b h n g:=by
 rcases hs.2 with h1 | ⟨_,h1⟩
 ·exact .inl (.inr h1)
 ·exact .inr (by omega)
theorem Chg.then (h:Chg S a w) (k:Chg S w c):Chg S a c:=h.trans k fun _ _ x=>x
theorem RdA.go (h:RdA S w A xs) (hc:Chg S w w'):RdA S w' A xs:=h.keep hc (fun _ _ x=>x) (fun _ _ x=>x)
theorem Chg.step (hc:Chg (Aw b h w.heap.size) w w') (hg:h=some g\/(h=none/\w.heap.size<=g)):Step w w' b h g:=
 ⟨hc.mono fun i hi hx=>by
  rcases hx with hx | hx
  ·exact hx
  ·omega,hg⟩
end
def tl (ks:Nat->UInt8) (u n:Nat) (p:List UInt8) (i:Nat):List UInt8:=(mixL ks u n p).take i++(Db ks u n p.length).drop i
theorem tl_at (ks:Nat->UInt8) (u n:Nat) (p:List UInt8) (i:Nat) (h:i<p.length) (h2:i<(Db ks u n p.length).length):(bvs (tl ks u n p i)).toArray[i]? = some (bv (Db ks u n p.length)[i]):=by
 rw[List.getElem?_toArray];unfold bvs tl;rw[List.getElem?_map,List.getElem?_append_right (by rw[List.length_take,Bi];omega),List.length_take,Bi,show i - min i p.length=0 by omega,List.getElem?_drop,Nat.add_zero,List.getElem?_eq_getElem h2];rfl
theorem Zf (ks:Nat->UInt8) (u n:Nat) (p:List UInt8) (i:Nat) (h:i<p.length) (h2:i<(Db ks u n p.length).length):(bvs (tl ks u n p i)).toArray.setIfInBounds i (bv (p[i] ^^^ (Db ks u n p.length)[i]))=(bvs (tl ks u n p (i+1))).toArray:=by
 rw[List.setIfInBounds_toArray]
 congr 1
 unfold bvs;rw[<-List.map_set]
 congr 1
 have e:(mixL ks u n p).take (i+1)=(mixL ks u n p).take i++[p[i] ^^^ (Db ks u n p.length)[i]]:=by
  rw[List.take_add_one,RJ ks u n p i h h2];rfl
 have hl:((mixL ks u n p).take i).length=i:=by rw[List.length_take,Bi];omega
 unfold tl;rw[e,List.set_append_right _ _ (by omega),hl,Nat.sub_self,List.append_assoc,List.drop_eq_getElem_cons h2]
 rfl
theorem Zg (ks:Nat->UInt8) (u n:Nat) (p:List UInt8):tl ks u n p p.length=mixL ks u n p:=by
 rw[tl,List.take_of_length_le (by rw[Bi];exact Nat.le_refl _),List.drop_of_length_le (by rw[BI];exact Nat.le_refl _),List.append_nil]
theorem Xm (ks:Nat->UInt8) (u n:Nat) (p:List UInt8):tl ks u n p 0=Db ks u n p.length:=by
 rw[tl,List.take_zero,List.drop_zero,List.nil_append]
theorem xor_b (x y:UInt8):bits .xor .u8 (y.toNat:Int) (x.toNat:Int)=((x ^^^ y).toNat:Int):=by
 rw[u8_xor_nat _ _ y.toNat_lt x.toNat_lt,UInt8.toNat_xor,Nat.xor_comm]
theorem Zh (u n:Nat) (hu:u<=255):((n:Int)*256 % 18446744073709551616+(u:Int)) % 18446744073709551616=((sn u n:Nat):Int):=by unfold sn;omega
theorem RU (b:Nat) (ks:Nat->UInt8) (h:Option Nat) (a o r u n:Nat) (A:Option Addr) (c:Nat) (w:World) (hu:u<=255) (hn:n<18446744073709551616) (hK:Box w b ks h a o r) :
  Calls Tryz.prog 106 #[.pointer (some ⟨b,0,none⟩),.int .i64 (u:Int),.int .u64 (n:Int),.slice A 0 c] w fun e w'=>∃g,e=.returned (.slice none 0 0)/\Box w' b ks (some g) a o r/\Step w w' b h g:=by
 have cn:=GJ b ks h a o r w hK;have hu0:(0:Int)<=(u:Int):=by omega
 clear hK;have HU:=I hu;clear hu;have HN:=I hn;clear hn;go_enter Tryz.func106,Tryz.ntmps106
 go_wp2_with (first
  |(go_at_call 153;refine Aj cn ?_;rintro w1 ⟨g,hb1,hs1⟩;clear cn;have c35:=hb1.1.cp;have cst:=(fun N=>Sp.PE (some ⟨g,0,none⟩) N 0 w1 (.inr (by decide)));have HB1:=I hb1;have HS1:=I hs1;clear hb1 hs1)
  |(go_at_call 154;refine Aj (cst _) ?_;rintro w2 hw;have hw:=hw.symm;subst hw;clear cst c35))
 go_loopw [27] (fun iv wr=>iv=.int .i64 0/\wr=w1) (fun iv _=>0)
 case atStart=>exact⟨rfl,rfl⟩
 case round=>
  obtain⟨rfl,rfl⟩:=hrel
  go_wp2_with fail
  go_ret;exact⟨g,rfl,HB1.o,HS1.o⟩
theorem RV (u n:Nat) (hu:u<=255):IntKind.u64.wrap (IntKind.u64.wrap ((n:Int)*256)+IntKind.u64.wrap (u:Int))=((sn u n:Nat):Int):=by
 rw[IntKind.wrap_u64,IntKind.wrap_u64,IntKind.wrap_u64];unfold sn;omega
theorem Zi (u n:Nat):sn u n<18446744073709551616:=Nat.mod_lt _ (by decide)
theorem RW (b:Nat) (ks:Nat->UInt8) (h:Option Nat) (a o r u n:Nat) (A:Option Addr) (m c:Nat) (p:List UInt8) (w:World) (hu:u<=255) (hn:n<18446744073709551616) (hm:m=p.length) (hm1:1<=m) (hm2:m<=1000) (hr:RdA (Ow b h) w A (bvs p)) (hK:Box w b ks h a o r) :
  Calls Tryz.prog 106 #[.pointer (some ⟨b,0,none⟩),.int .i64 (u:Int),.int .u64 (n:Int),.slice A m c] w fun e w'=>∃g q,e=.returned (.slice (some ⟨q,0,none⟩) m m)/\w.heap.size<=q/\q≠g/\Blk w' q 5 (bvs (mixL ks u n p)).toArray/\Box w' b ks (some g) a o r/\Step w w' b h g:=by
 have cn:=GJ b ks h a o r w hK;obtain⟨N,eN⟩:=Ak (sn u n);have hsn:=RV u n hu;have hsnlt:=Zi u n;rw[<-eN] at hsn hsnlt;have hstr:Sp.strm (Sp.kw ks) (Sp.upW N) (Sp.loW N) m=Db ks u n m:=by rw[eN];rfl
 have hblt:=hK.lt;clear hK;have HR:=I (hr.aw Ag);clear hr;have HU:=I hu;clear hu;have HN:=I hn;clear hn;have HM:=I hm;clear hm;have HM1:=I hm1;clear hm1;have HM2:=I hm2;clear hm2;have HSL:=I hsnlt;clear hsnlt;have HST:=I hstr;clear hstr;have HSN:=I hsn;clear hsn;have BL:=I hblt;clear hblt;clear eN;go_enter Tryz.func106,Tryz.ntmps106
 go_wp2_with (first
  |(go_at_call 153;refine Aj cn ?_;rintro w1 ⟨g,hb1,hs1⟩;clear cn;have c35:=hb1.1.cp;obtain⟨h11,h12,md,h13⟩:=hb1;have cst:=Sp.PF g ks md N m (m:Int) w1 rfl HM1.o (by have:=HM2.o;omega) HSL.o h13;rw[HST.o] at cst;have X1:=I h11;have NE:=I h12;have GL:=I h13.lt;have HS1:=I hs1;clear hs1 h11 h12 h13)
  |(go_at_call 154;rw[HSN.o];refine Calls.mono cst ?_;rintro e w2 ⟨q,rfl,hq,hB,hk2,hg2,_⟩;clear cst c35;have HQ:=I hq;have HB:=I hB;have HK2:=I hk2;have HG2:=I hg2;clear hq hB hk2 hg2))
 have hsm:(Db ks u n m).length=m:=BI ks u n m
 go_loopw [27] (fun iv wr=>∃i:Nat,i<=m/\iv=.int .i64 (i:Int)/\Chg (fun k=>w1.heap.size<=k) w2 wr/\Blk wr q 5 (bvs (tl ks u n p i)).toArray) (fun iv _=>m - (intOf iv).toNat)
 case atStart=>exact⟨0,Nat.zero_le _,rfl,Chg.refl _ _,by rw[Xm,<-HM.o];exact HB.o⟩
 case round=>
  obtain⟨i,hi,rfl,hc,hB2⟩:=hrel;have HC:=I hc;clear hc;have HB2:=I hB2;clear hB2;have HSM:=I hsm;clear hsm;have hall:Chg (Aw b h w.heap.size) w w1/\Chg (Aw b h w.heap.size) w1 w2/\Chg (Aw b h w.heap.size) w2 wr:=
   ⟨HS1.o.aw,Chg.of_grown HG2.o (HS1.o.aw_g Ag),HC.o.mono fun k _ hx=>.inr (Nat.le_trans HS1.o.1.size hx)⟩
  by_cases hx:i=m
  ·subst hx
   have HA:=I hall;clear hall
   go_wp2_with fail
   go_ret;have hbl:b<w1.heap.size:=X1.o.lt;have hX2:XB w2 b ks 1 0 (some ⟨g,0,none⟩) (k2 ks) a o r:=Blk.grown X1.o HG2.o (fun e=>by injection e with e;exact NE.o e);have hgq:q≠g:=by have:=GL.o;have:=HQ.o;omega
   refine⟨g,q,rfl,Nat.le_trans HS1.o.1.size HQ.o,hgq,?_,⟨hX2.chg HC.o (by omega),NE.o,true,RN HK2.o HC.o (by have:=GL.o;omega)⟩,?_⟩
   ·rw[<-Zg,<-HM.o];exact HB2.o
   ·exact((HA.o.1.then HA.o.2.1).then HA.o.2.2).step HS1.o.2
  ·have hlt:i<m:=by omega
   have hlp:i<p.length:=by have:=HM.o;omega
   have e1:(i:Int)<(m:Int):=by omega
   have e2:(0:Int)<=(i:Int):=by omega
   have e3:(i:Int)<1000:=by have:=HM2.o;omega
   have hls:i<(Db ks u n p.length).length:=by rw[BI];exact hlp
   obtain⟨y,ey⟩:=Ak (p[i]);obtain⟨x,ex⟩:=Ak ((Db ks u n p.length)[i]);obtain⟨z,ez⟩:=Ak (y ^^^ x);have hrw:=((HR.o.go hall.1).go hall.2.1).go hall.2.2;obtain⟨b2,o2,rfl,hb2,_,hcell⟩:=hrw.resolve_left (by intro e;have:=Ao p;rw[e] at this;simp at this;omega);have hcp:=hcell i _ (Dy hlp);have hcq:wr.cell? ⟨q,i,none⟩=some (bv (Db ks u n p.length)[i]):=by rw[HB2.o.cell];exact tl_at ks u n p i hlp hls
   have hset:=Zf ks u n p i hlp hls;rw[<-ey] at hcp hset;rw[<-ex] at hcq hset;rw[<-ez] at hset;simp only[bv] at hcp hcq;have hxo:bits .xor .u8 (x.toNat:Int) (y.toNat:Int)=(z.toNat:Int):=by rw[ez];exact xor_b y x
   have fz:=HB2.o.frozen;have HSET:=I hset;clear hset;have HX:=I hx;clear hx;have HI:=I hi;clear hi;clear ey ex ez hall hrw hcell hb2 hls
   go_wp2_with fail
   refine wp_region_still_tail 10 (by kernel_rfl) (by kernel_rfl) ?_;simp only[List.take_succ_cons,List.take_zero,List.drop_succ_cons,List.drop_zero];change wpStill _ _ wr.drew _ _ _
   repeat still_step
   refine wpStill_nil ?_;change wpList _ _ _ _ _ wr.drew
   go_wp2_with fail
   go_roundw
   case rel=>
    refine⟨i+1,by omega,by go_num,HC.o.drew.set (.inl HQ.o) _,?_⟩;have e:Blk wr.drew q 5 (bvs (tl ks u n p i)).toArray:=HB2.o;have:=e.set i (bv z);rw[HSET.o] at this;exact this
   case measure=>simp [intOf];omega
def Nw (n g i:Nat):Prop:=i<n\/i=g
theorem Ir (b:Nat) (ks:Nat->UInt8) (h:Option Nat) (a o r u n:Nat) (A:Option Addr) (m c:Nat) (p:List UInt8) (w:World) (hu:u<=255) (hn:n<18446744073709551616) (hm:m=p.length) (hm2:m<=1000) (hr:RdA (Ow b h) w A (bvs p)) (hK:Box w b ks h a o r) :
  Calls Tryz.prog 106 #[.pointer (some ⟨b,0,none⟩),.int .i64 (u:Int),.int .u64 (n:Int),.slice A m c] w fun e w'=>∃g Aq cq,e=.returned (.slice Aq m cq)/\m<=cq/\cq<=1000/\RdA (Nw w.heap.size g) w' Aq (bvs (mixL ks u n p))/\Box w' b ks (some g) a o r/\Step w w' b h g:=by
 rcases Nat.eq_zero_or_pos m with h0 | h0
 ·subst h0
  have hp:mixL ks u n p = []:=List.eq_nil_of_length_eq_zero (by rw[Bi];omega);refine(RU b ks h a o r u n A c w hu hn hK).mono ?_;rintro e w' ⟨g,rfl,h1,h2⟩;exact⟨g,none,0,rfl,Nat.le_refl _,by decide,by rw[hp];exact .inl rfl,h1,h2⟩
 ·refine(RW b ks h a o r u n A m c p w hu hn hm h0 hm2 hr hK).mono ?_
  rintro e w' ⟨g,q,rfl,h1,h2,h3,h4,h5⟩;refine⟨g,_,m,rfl,Nat.le_refl _,hm2,.inr ⟨q,0,rfl,h3.lt,?_,fun i v hv=>?_⟩,h4,h5⟩
  ·rintro(hx | hx)
   ·omega
   ·exact h2 hx
  ·rw[Nat.zero_add,h3.cell,List.getElem?_toArray];exact hv
theorem VU (u:Nat) (hu:u<=255):bv (UInt8.ofNat u)=.int .u8 (u:Int):=by
 unfold bv;rw[UInt8.toNat_ofNat',Nat.mod_eq_of_lt (by omega)]
theorem Uy {w:World} (u:Nat) (hu:u<=255) (A:Option Addr) (m c:Nat) (l:List UInt8) (t t2:TypeId) (hm:m=l.length) (hr:Rd w w.heap.size A (bvs l)) :
  Si.Rows ((w.alloc (.cells #[.int .u8 (u:Int)] t)).alloc (.cells #[.slice (some ⟨w.heap.size,0,none⟩) 1 1,.slice A m c] t2)) ((w.alloc (.cells #[.int .u8 (u:Int)] t)).alloc (.cells #[.slice (some ⟨w.heap.size,0,none⟩) 1 1,.slice A m c] t2)).heap.size (some ⟨w.heap.size+1,0,none⟩) [[UInt8.ofNat u],l]:=by
 have h:=Si.PO (w:=w.alloc (.cells #[.int .u8 (u:Int)] t)) t2 [.slice (some ⟨w.heap.size,0,none⟩) 1 1,.slice A m c] [[UInt8.ofNat u],l] #[.slice (some ⟨w.heap.size,0,none⟩) 1 1,.slice A m c] rfl rfl (fun i hi=>by
  match i,hi with
  |0,_=>
   refine⟨some ⟨w.heap.size,0,none⟩,1,rfl,?_⟩;have:=Si.FO w t #[.int .u8 (u:Int)] [.int .u8 (u:Int)] rfl w.heap.size rfl;rw[show bvs [[UInt8.ofNat u],l][0] = [.int .u8 (u:Int)] from by show [bv (UInt8.ofNat u)]=_;rw[VU u hu]];exact this.more (by simp)
  |1,_=>exact⟨A,c,by rw[hm];rfl,(hr.alloc Ag _).more (by simp)⟩)
 have e:(w.alloc (.cells #[.int .u8 (u:Int)] t)).heap.size=w.heap.size+1:=by simp
 rw[e] at h;exact h
theorem RX (b:Nat) (ks:Nat->UInt8) (h:Option Nat) (a o r u:Nat) (A:Option Addr) (m c:Nat) (l:List UInt8) (w:World) (hu:u<=255) (hm:m=l.length) (hm2:m<=1000) (hr:RdA (Ow b h) w A (bvs l)) (hK:Box w b ks h a o r) :
  Calls Tryz.prog 152 #[.pointer (some ⟨b,0,none⟩),.int .i64 (u:Int),.slice A m c] w fun e w'=>∃g,e=.returned (.int .u64 (tagL ks u l:Nat))/\Box w' b ks (some g) a o r/\Step w w' b h g:=by
 have cn:=GJ b ks h a o r w hK;have hsum:∀w1,Rd w1 w1.heap.size A (bvs l)->_:=fun w1 h1=>Si.Xi (k2 ks) (some ⟨w1.heap.size+1,0,none⟩) 2 2 [[UInt8.ofNat u],l] _ rfl (by decide) (by simp [Si.flat];omega) (Uy u hu A m c l 5 26 hm h1)
 have hfl:Si.flat [[UInt8.ofNat u],l]=UInt8.ofNat u :: l:=by simp [Si.flat]
 rw[hfl] at hsum;have i2:=Jm (k2 ks);have hk16:Si.AI (k2 ks)=Sp.AI (k2 ks):=rfl;rw[hk16] at hsum;obtain⟨T,eT⟩:=Ak (tagL ks u l);have hT:∀e,e=Ending.returned (Si.wv (Si.Ho (k2 ks) (UInt8.ofNat u :: l)))->e=.returned (.int .u64 (T:Int)):=fun e h=>by rw[h,eT];rfl
 rw[<-eT];have HR:=I (hr.aw Ag);clear hr;have hu1:(u:Int)<=255:=by omega
 have hu2:(0:Int)<=(u:Int):=by omega
 have hu3:(u:Int) % 256=(u:Int):=by omega
 have hu4:IntKind.u8.wrap (u:Int)=(u:Int):=by rw[IntKind.wrap_u8'];exact hu3
 obtain⟨ds,eds⟩:=Ak (Sp.AI (k2 ks));have hrd:∀w1 g,Box w1 b ks (some g) a o r->w1.rangeAt b 36 ds.toList:=fun w1 g hb=>by rw[eds];exact XB.rangeD hb.1
 rw[<-eds] at i2 hsum;have RD:=I hrd;clear hrd;have I2:=I i2;clear i2;have HT:=I hT;clear hT;clear hK hm hm2 hu eds eT hfl hk16;go_enter Tryz.func152,Tryz.ntmps152
 go_wp2_with (first
  |(go_at_call 153;refine Aj cn ?_;rintro w1 ⟨g,hb1,hs1⟩;clear cn;have hs:=hsum w1 (HR.o.go hs1.aw).rd;clear hsum;have hrr:=RD.o w1 g hb1;have HRR:=I hrr;have HB1:=I hb1;have HS1:=I hs1;clear hb1 hs1 hrr)
  |(refine Am (by rfl) 168 (.tmp 11) (by rfl) b 36 (by rfl) ds _ HRR.o Tryz.underlying168 (by rfl) I2.o ?_)
  |(go_at_call 194;refine Calls.mono hs ?_;rintro e w2 ⟨he,hb2⟩;have he:=HT.o e he;subst he;have HB2:=I hb2;clear hb2 hs)
  |fail)
 go_ret;have hb:=((Below.refl w1.heap.size w1).alloc Ag (Obj.cells #[.int .u8 (u:Int)] 5)).alloc (by simp) (Obj.cells #[.slice (some ⟨w1.heap.size,0,none⟩) 1 1,.slice A m c] 26);have hb3:=hb.trans (HB2.o.mono (by simp;omega));exact⟨g,rfl,HB1.o.below hb3,HS1.o.then (Chg.of_below (S:=fun _=>False) hb3) (fun _ _ x=>x.elim)⟩
theorem Em {S:Nat->Prop} {w:World} {base n:Nat} {v:Value} {xs:List Value} {t:TypeId} (h:w.ownsRow base t 1 v n xs) (hs:∀k,v.ownBlock=some k->¬S k):∃A c,v=.slice A n c/\n<=c/\c<=maxLen/\RdA S w A xs:=by
 have h0:=h;obtain⟨hl,⟨rfl,hn⟩ | ⟨g,cap,cur,rfl,_,hh,hcap,hml,_⟩⟩:=h
 ·subst hn
  exact⟨none,0,rfl,Nat.le_refl _,Nat.zero_le _,.inl (List.eq_nil_of_length_eq_zero (by simpa using hl))⟩
 ·refine⟨_,cap,rfl,hcap,hml,.inr ⟨g,0,rfl,(Array.getElem?_eq_some_iff.1 hh).1,hs g rfl,fun i u hu=>?_⟩⟩
  have:=h0.cells (g:=g) rfl i u hu
  rwa [addr_add] at this
theorem Box.seals {w:World} {b:Nat} {ks:Nat->UInt8} {g a o r:Nat} (h:Box w b ks (some g) a o r) (a':Nat):Box (w.setCell ⟨b,52,none⟩ (.int .i64 (a':Int))) b ks (some g) a' o r:=by
 obtain⟨h1,h2,m,h3⟩:=h;exact⟨h1.set_a a',h2,m,Key.far h3 _ _ (fun e=>h2 e.symm)⟩
theorem Box.opens {w:World} {b:Nat} {ks:Nat->UInt8} {g a o r:Nat} (h:Box w b ks (some g) a o r) (a':Nat):Box (w.setCell ⟨b,53,none⟩ (.int .i64 (a':Int))) b ks (some g) a a' r:=by
 obtain⟨h1,h2,m,h3⟩:=h;exact⟨h1.set_o a',h2,m,Key.far h3 _ _ (fun e=>h2 e.symm)⟩
theorem Box.refuses {w:World} {b:Nat} {ks:Nat->UInt8} {h:Option Nat} {a o r:Nat} (hx:Box w b ks h a o r) (a':Nat):Box (w.setCell ⟨b,54,none⟩ (.int .i64 (a':Int))) b ks h a o a':=by
 cases h with
 |none=>exact XB.set_r hx a'
 |some g=>
  obtain⟨h1,h2,m,h3⟩:=hx;exact⟨h1.set_r a',h2,m,Key.far h3 _ _ (fun e=>h2 e.symm)⟩
theorem RY {w w':World} {v:Value} (h:w.grownBy w' v.ownBlock):Chg (fun i=>v.ownBlock=some i) w w':=
 ⟨h.os,h.tape,h.output,h.size,fun k hk hne=>h.block k hk (fun e=>hne e.symm)⟩
theorem Step.same {w w':World} {b g g2:Nat} (h:Step w w' b (some g) g2):g=g2:=by
 rcases h.2 with h1 | ⟨h1,_⟩
 ·injection h1
 ·cases h1
def VV (B:Nat) (v:Value):Prop:=∀k,v.ownBlock=some k->B<=k
theorem Fx {w:World} {B n:Nat} {v:Value} {xs:List Value} {t:TypeId} (h:w.ownsRow B t 1 v n xs):VV B v:=fun k hk=>(h.lt k hk).1
theorem Zj {B b:Nat} {ks:Nat->UInt8} {h:Option Nat} {a o r:Nat} {A:Option Addr} {xs:List Value} {w W w2:World} {v0:Value} (eB:B=w.heap.size) (hK:Box w b ks h a o r) (hR:RdA (Ow b h) w A xs) (hal:Below B w W) (hv:VV B v0) (hc:Chg (fun i=>v0.ownBlock=some i) W w2) :
  Box w2 b ks h a o r/\RdA (Ow b h) w2 A xs/\Chg (Aw b h B) w w2:=by
 subst eB;have h1:Chg (fun i=>w.heap.size<=i) w w2:=(Chg.of_below hal).trans hc fun i _ hx=>hv i hx
 exact⟨hK.chg h1 (fun i hi hx=>by have:=hK.own_lt i hi;omega),hR.keep h1 (fun i hi hx=>by omega) (fun i _ hx=>hx),h1.mono fun i _ hx=>.inr hx⟩
theorem Zk {B b g n:Nat} {h:Option Nat} {w2 w3:World} {v1:Value} {xs:List Value} {t:TypeId} (hOL:∀i,Ow b h i->i<B) (hB:B<=w2.heap.size) (ho:w2.ownsRow B t 1 v1 n xs) (hs:Step w2 w3 b h g) :
  w3.ownsRow B t 1 v1 n xs/\(∀i,Ow b (some g) i->¬v1.ownBlock=some i)/\Aw b h B g:=by
 refine⟨hs.1.own ho (fun k hk hx=>by have:=hOL k hx;have:=(ho.lt k hk).1;omega),fun i hi hk=>?_,hs.aw_g hB⟩;have h1:=ho.lt i hk;rcases hi with hi | hi
 ·have:=hOL i (.inl hi);omega
 ·injection hi with hi
  rcases hs.2 with h2 | ⟨_,h2⟩
  ·have:=hOL i (.inr (hi▸h2));omega
  ·omega
theorem Zl {b g:Nat} {ks:Nat->UInt8} {a o r:Nat} {w3 w4:World} {v1 v4:Value} (hK:Box w3 b ks (some g) a o r) (hn:∀i,Ow b (some g) i->¬v1.ownBlock=some i) (hg:w3.grownBy w4 v1.ownBlock) (hat:v4.ownBlock=v1.ownBlock\/v4.ownBlock=some w3.heap.size) :
  Box w4 b ks (some g) a o r/\(∀i,v4.ownBlock=some i->¬Ow b (some g) i):=by
 refine⟨hK.chg (RY hg) hn,fun i hk hi=>?_⟩;rcases hat with h | h
 ·exact hn i hi (h▸hk)
 ·rw[h] at hk
  injection hk with hk;have:=hK.own_lt i hi;omega
theorem Xn (b:Nat) (ks:Nat->UInt8) (h:Option Nat) (a o r u n:Nat) (A:Option Addr) (m c:Nat) (p:List UInt8) (w:World) (ha:a<1000000) (hu:u<=255) (hn:n<=1099511627776) (hm:m=p.length) (hm2:m<=784) (hr:RdA (Ow b h) w A (bvs p)) (hK:Box w b ks h a o r) :
  Calls Tryz.prog 122 #[.pointer (some ⟨b,0,none⟩),.int .i64 (u:Int),.int .i64 (n:Int),.slice A m c] w fun e w'=>∃g Aq cq,e=.returned (.tuple #[.slice Aq (m+16) cq,.int .i64 0])/\m+16<=cq/\cq<=maxLen/\RdA (Nw w.heap.size g) w' Aq (bvs (Dt ks u n p))/\Box w' b ks (some g) (a+1) o r/\Step w w' b h g:=by
 obtain⟨ib,hi0,hz0,hs0,hb0⟩:=info_parts Si.BP;have hmk:=fun W=>Df (P:=Tryz.prog) (t:=26) (e:=5) Tryz.underlying26 hi0 hz0 hs0 hb0 ((m:Int)+16) (m+16) (by omega) (by omega) W
 have f1:=Ea (u:Int) true (by simp;omega);have f2:=Fw n true (by simp;omega);obtain⟨B,eB⟩:=Ak (w.heap.size);have hown:=World.ownsRow_made (e:=5) (base:=B) (size:=1) w (CQ (m+16)) (m+16) (by omega) (by unfold maxLen;omega) (by rw[Dj,Nat.mul_one]);have c1:=Oq B _ 0 n [] _ (by omega) (by decide) (by simp;omega) hown;rw[Nat.zero_add,List.nil_append] at c1;have hal:Below B w (w.alloc (.cells (CQ (m+16)) 5)):=eB▸Ah.alloc Ag _;have hol:∀i,Ow b h i->i<B:=fun i hi=>eB▸hK.own_lt i hi
 have hnr:=Fx hown;have HNR:=I hnr;clear hnr;have HK:=I hK;clear hK;have HR:=I hr;clear hr;have AL:=I hal;clear hal;have OL:=I hol;clear hol;have EB:=I eB;have q1:(n:Int)<=1099511627776:=by omega
 have q2:(0:Int)<=(n:Int):=by omega
 have q3:(m:Int)<=784:=by omega
 have q4:IntKind.u64.wrap (n:Int)=(n:Int):=by rw[IntKind.wrap_u64];omega
 have q5:IntKind.i64.wrap ((m:Int)+16)=(m:Int)+16:=by rw[IntKind.wrap_i64];omega
 have q6:decide ((n:Int)<0)=false:=by simp
 have q7:decide (784<(m:Int))=false:=by simp;omega
 obtain⟨L,eL⟩:=Ak (Eu ks u n p);have hEL:bvs (w8 n)++bvs (mixL ks u n p)=bvs L:=by rw[eL,Eu,Bt]
 have hLL:8+m=L.length:=by rw[eL,BM,<-hm]
 obtain⟨T,eT⟩:=Ak (tagL ks u L);have hTL:T<18446744073709551616:=by rw[eT];exact KQ _ _ _
 have hFin:bvs (L++w8 T)=bvs (Dt ks u n p):=by rw[eT,eL];rfl
 have EL:=I hEL;clear hEL;have LL:=I hLL;clear hLL;have TL:=I hTL;clear hTL;have FIN:=I hFin;clear hFin;have ET:=I eT;clear eT;clear eL;have HA:=I ha;clear ha;have HU:=I hu;clear hu;have HN:=I hn;clear hn;have HM:=I hm;clear hm;have HM2:=I hm2;clear hm2;have C1:=I c1;clear c1;clear hown eB;go_enter Tryz.func122,Tryz.ntmps122
 go_wp2_with (first
  |(go_at_call 104;refine Aj (f1 _) ?_;rintro wq hw;have hw:=hw.symm;subst hw;clear f1)
  |(go_at_call 151;refine Aj (f2 _) ?_;rintro wq hw;have hw:=hw.symm;subst hw;clear f2)
  |(go_at_call 181;refine Calls.mono C1.o ?_;rintro e w2 ⟨v1,rfl,hown1,hch1,hnew1⟩;clear C1 hmk;obtain⟨hb2,hr2,hc2⟩:=Zj EB.o HK.o HR.o AL.o HNR.o hch1;have ct:=Ir b ks h a o r u n A m c p w2 HU.o (by have:=HN.o;omega) HM.o (by have:=HM2.o;omega) hr2 hb2;have O1:=I hown1;have C2:=I hc2;have W2:=I hc2.size;clear hown1 hch1 hnew1 hb2 hr2 hc2)
  |(go_at_call 106;refine Calls.mono ct ?_;rintro e w3 ⟨g,Aq,cq,rfl,hcq1,hcq2,hrq,hb3,hs3⟩;clear ct;obtain⟨ho3,hn3,hg3⟩:=Zk OL.o (by have:=W2.o;have:=EB.o;omega) O1.o hs3;have O3:=I ho3;have N3:=I hn3;have G3:=I hg3;have Q3:=I hrq;have B3:=I hb3;have S3:=I hs3;have W3:=I hs3.1.size;clear hcq1 hcq2 hrq hb3 hs3 ho3 hn3 hg3)
  |(at_builtin;refine Az _ (by rfl) (.tmp 41) (.tmp 47) 26 (by rfl) B 5 ib _ 1 Tryz.underlying26 hi0 hz0 hs0 hb0 (by rfl) v1 8 (bvs (w8 n)) (by rfl) O3.o w3.heap.size Aq m cq (bvs (mixL ks u n p)) (by rfl) (by rw[Ao,Bi];exact HM.o) Q3.o.rd (Bl _) (by have:=HM2.o;unfold maxLen;omega) (by have:=HM2.o;omega) (by have:=W2.o;have:=W3.o;have:=EB.o;omega) ?_;intro v4 w4 hown4 hgrow4 hat4;obtain⟨hb4,hn4⟩:=Zl B3.o N3.o hgrow4 hat4;rw[EL.o] at hown4;obtain⟨A4,c4,hv4,hc4,_,hr4⟩:=Em hown4 hn4;subst hv4;have ctg:=RX b ks (some g) a o r u A4 (8+m) c4 L w4 HU.o LL.o (by have:=HM2.o;omega) hr4 hb4;rw[<-ET.o] at ctg;have O4:=I hown4;have N4:=I hn4;have G4:=I hgrow4;have NR4:=I (Fx hown4);have W4:=I hgrow4.size;clear hown4 hgrow4 hat4 hb4 hn4 hr4 hc4)
  |(go_at_call 152;refine Calls.mono ctg ?_;rintro e w5 ⟨g2,rfl,hb5,hs5⟩;clear ctg;have hgg:=hs5.same;subst hgg;have ho5:=hs5.1.own O4.o N4.o;have c6:=Oq B _ (8+m) T L w5 TL.o (by have:=HM2.o;omega) (by have:=W2.o;have:=W3.o;have:=W4.o;have:=hs5.1.size;have:=EB.o;omega) ho5;have B5:=I hb5;have S5:=I hs5;clear ho5 hb5 hs5)
  |(go_at_call 181;refine Calls.mono c6 ?_;rintro e w6 ⟨v6,rfl,hown6,hch6,hnew6⟩;clear c6;have hb6:=B5.o.chg hch6 (fun i hi hk=>N4.o i hk hi);have cadd:=add_one ⟨b,52,none⟩ a w6 HA.o hb6.1.ca (hb6.1.fz 52);have O6:=I hown6;have C6:=I hch6;have N6:=I hnew6;have B6:=I hb6;clear hown6 hch6 hnew6 hb6)
  |(go_at_call 76;refine Aj cadd ?_;rintro w7 hw7;clear cadd;have HW7:=I hw7;clear hw7)
  |fail)
 have hnb:∀k,v6.ownBlock=some k->B<=k/\k≠g/\k≠b:=fun k hk=>by
  have h1:=Fx O6.o k hk;have h2:=OL.o b (.inl rfl);refine⟨h1,fun e=>?_,by omega⟩;rcases N6.o k hk with h3 | h3
  ·exact N4.o k h3 (.inr (by rw[e]))
  ·have:=B5.o.lt_g;omega
 have hsz:w.heap.size<=w7.heap.size:=by
  have e:w7.heap.size=w6.heap.size:=by rw[HW7.o];simp [World.setCell]
  have:=W2.o;have:=W3.o;have:=W4.o;have:=S5.o.1.size;have:=C6.o.size;omega
 have ho7:w7.ownsRow B 5 1 v6 (8+m+8) (bvs (L++w8 T)):=by
  rw[HW7.o];exact((Chg.refl (fun i=>i=b) w6).set (.inl rfl) _).own O6.o (fun k hk=>(hnb k hk).2.2)
 rw[FIN.o] at ho7;obtain⟨A7,c7,hv7,hc7,hm7,hr7⟩:=Em (S:=Nw w.heap.size g) ho7 (fun k hk hx=>by
  have h1:=hnb k hk;have:=EB.o;rcases hx with hx | hx
  ·omega
  ·exact h1.2.1 hx)
 have hch:Chg (Aw b h w.heap.size) w w7:=by
  rw[<-EB.o];have hawn:∀i,Ow b (some g) i->Aw b h B i:=fun i hi=>by
   rcases hi with hi | hi
   ·exact .inl (.inl hi)
   ·injection hi with hi;exact hi▸G3.o
  have h4:Chg (Aw b h B) w3 w4:=(RY G4.o).mono fun i _ hx=>.inr ((Fx O3.o) i hx)
  have h5:Chg (Aw b h B) w4 w5:=S5.o.1.mono fun i _ hx=>hawn i hx
  have h6:Chg (Aw b h B) w5 w6:=C6.o.mono fun i _ hx=>.inr (NR4.o i hx)
  have h7:Chg (Aw b h B) w6 w7:=by rw[HW7.o];exact(Chg.refl _ w6).set (.inl (.inl (.inl rfl))) _
  exact((((C2.o.then S3.o.aw).then h4).then h5).then h6).then h7
 have B7:Box w7 b ks (some g) (a+1) o r:=by rw[HW7.o];exact B6.o.seals (a+1)
 clear HW7;subst hv7
 go_wp2_with fail
 go_ret2
 rw[show 8+m+8=m+16 by omega] at hc7;exact⟨g,A7,c7,by show Ending.returned (.tuple #[.slice A7 (8+m+8) c7,.int .i64 0])=_;rw[show 8+m+8=m+16 by omega],hc7,hm7,hr7,B7,hch.step (S3.o.2.imp id (fun hx=>⟨hx.1,by have:=W2.o;omega⟩))⟩
end Se
end Go.Proofs.YtlchkbpffaclmaaGreat
