import Derived.Test.YtlccngianpfalaaGreatZClientRequests3
import Derived.Test.YtlccngianpfalaaGreatZClientRequests5
set_option maxHeartbeats 25600000
set_option maxRecDepth 100000
set_option linter.unusedVariables false
set_option linter.unusedSimpArgs false
namespace Go.Proofs.YtlccngianpfalaaGreat
namespace Se
open Go.RowKit Ae
def w8 (n:Nat):List UInt8:=(List.range 8).map fun j=>UInt8.ofNat (n / 2 ^ (56 - 8*j))
theorem Dd (n:Nat):(w8 n).length=8:=by simp [w8]
def big:Nat->List UInt8->Nat
 |a,[]=>a
 |a,b :: l=>big (a*256+b.toNat) l
theorem MY (b:UInt8):∀(l:List UInt8) (a:Nat),big a (l++[b])=big a l*256+b.toNat
 | [],_=>rfl
 |c :: l,a=>MY b l (a*256+c.toNat)
theorem Qh:∀(l:List UInt8) (a:Nat),big a l<(a+1)*256 ^ l.length
 | [],a=>by simp [big]
 |b :: l,a=>by
  have h:=Qh l (a*256+b.toNat);have M:=b.toNat_lt;refine Nat.lt_of_lt_of_le h ?_;rw[List.length_cons,Nat.pow_succ,Nat.mul_comm (256 ^ l.length),<-Nat.mul_assoc];exact Nat.mul_le_mul_right _ (by omega)
def n8 (l:List UInt8):Nat:=big 0 (l.take 8)
theorem n8_lt (l:List UInt8):n8 l<18446744073709551616:=by
 have h:=Qh (l.take 8) 0;rw[Nat.zero_add,Nat.one_mul] at h;exact Nat.lt_of_lt_of_le h (Nat.pow_le_pow_right (by decide) (by rw[List.length_take];omega):256 ^ (l.take 8).length<=256 ^ 8)
theorem IH (n:Nat):w8 n = [UInt8.ofNat (n / 2 ^ 56),UInt8.ofNat (n / 2 ^ 48),UInt8.ofNat (n / 2 ^ 40),UInt8.ofNat (n / 2 ^ 32),UInt8.ofNat (n / 2 ^ 24),UInt8.ofNat (n / 2 ^ 16),UInt8.ofNat (n / 2 ^ 8),UInt8.ofNat (n / 2 ^ 0)]:=rfl
theorem Xy (n:Nat) (h:n<18446744073709551616) (l:List UInt8):n8 (w8 n++l)=n:=by
 unfold n8;rw[List.take_append_of_le_length (by rw[Dd];exact Nat.le_refl _),List.take_of_length_le (by rw[Dd];exact Nat.le_refl _),IH];simp only[big,UInt8.toNat_ofNat'];omega
theorem n8_w8' (n:Nat) (h:n<18446744073709551616):n8 (w8 n)=n:=by
 have:=Xy n h []
 rwa [List.append_nil] at this
theorem w8_n8 (l:List UInt8) (h:l.length=8):w8 (n8 l)=l:=by
 match l,h with
 | [a,b,c,d,e,f,g,i],_=>
  have:=a.toNat_lt;have:=b.toNat_lt;have:=c.toNat_lt;have:=d.toNat_lt;have:=e.toNat_lt;have:=f.toNat_lt;have:=g.toNat_lt;have:=i.toNat_lt;have key:∀(x:Nat) (u:UInt8),x % 256=u.toNat->UInt8.ofNat x=u:=fun x u M=>UInt8.toNat_inj.1 (by rw[UInt8.toNat_ofNat'];exact M)
  rw[IH];simp only[n8,List.take_succ_cons,List.take_zero,big];rw[key _ a (by omega),key _ b (by omega),key _ c (by omega),key _ d (by omega),key _ e (by omega),key _ f (by omega),key _ g (by omega),key _ i (by omega)]
theorem Xz {m n:Nat} (hm:m<18446744073709551616) (M:n<18446744073709551616) (h:w8 m=w8 n):m=n:=by
 rw[<-n8_w8' m hm,h,n8_w8' n M]
theorem w8_at (n j:Nat) (h:j<8):(w8 n)[j]? = some (UInt8.ofNat (n / 2 ^ (56 - 8*j))):=by
 simp [w8,h]
theorem VR (n j:Nat) (h:j<8):(w8 n).take (j+1)=(w8 n).take j++[UInt8.ofNat (n / 2 ^ (56 - 8*j))]:=by
 rw[List.take_add_one,w8_at n j h];rfl
theorem MZ (l:List UInt8) (j:Nat) (h:j<l.length):big 0 (l.take (j+1))=big 0 (l.take j)*256+(l[j]).toNat:=by
 rw[List.take_succ_eq_append_getElem h,MY]
theorem II (l:List UInt8) (j:Nat):big 0 (l.take j)<256 ^ j:=by
 have h:=Qh (l.take j) 0;rw[Nat.zero_add,Nat.one_mul] at h;exact Nat.lt_of_lt_of_le h (Nat.pow_le_pow_right (by decide) (by rw[List.length_take];omega))
def sn (u n:Nat):Nat:=(n*256+u) % 18446744073709551616
def Dp (ks:Nat->UInt8) (u n m:Nat):List UInt8:=Sp.strm (Sp.kw ks) (BitVec.ofNat 32 (sn u n / 4294967296)) (BitVec.ofNat 32 (sn u n)) m
theorem BR (ks:Nat->UInt8) (u n m:Nat):(Dp ks u n m).length=m:=Sp.LD _ _ _ _
def xorL (p s:List UInt8):List UInt8:=List.zipWith (· ^^^ ·) p s
def mixL (ks:Nat->UInt8) (u n:Nat) (p:List UInt8):List UInt8:=xorL p (Dp ks u n p.length)
theorem Bs (ks:Nat->UInt8) (u n:Nat) (p:List UInt8):(mixL ks u n p).length=p.length:=by
 simp [mixL,xorL,BR]
theorem Na:∀p s:List UInt8,p.length<=s.length->xorL (xorL p s) s=p
 | [],_,_=>by simp [xorL]
 |a :: p,[],h=>by simp at h
 |a :: p,b :: s,h=>by
  have M:=Na p s (by simpa using h);unfold xorL at M⊢;rw[List.zipWith_cons_cons,List.zipWith_cons_cons,M]
  congr 1
  apply UInt8.toNat_inj.1;rw[UInt8.toNat_xor,UInt8.toNat_xor,Nat.xor_assoc,Nat.xor_self,Nat.xor_zero]
theorem Qi (ks:Nat->UInt8) (u n:Nat) (p:List UInt8):mixL ks u n (mixL ks u n p)=p:=by
 have e:mixL ks u n (mixL ks u n p)=xorL (xorL p (Dp ks u n p.length)) (Dp ks u n p.length):=by
  rw[mixL,Bs];rfl
 rw[e,Na _ _ (by rw[BR];exact Nat.le_refl _)]
theorem Qj (ks:Nat->UInt8) (u n:Nat) (p:List UInt8) (i:Nat) (h:i<p.length) (M:i<(Dp ks u n p.length).length):(mixL ks u n p)[i]? = some (p[i] ^^^ (Dp ks u n p.length)[i]):=by
 unfold mixL xorL;rw[List.getElem?_zipWith,List.getElem?_eq_getElem h,List.getElem?_eq_getElem M]
def k2 (ks:Nat->UInt8) (i:Nat):UInt8:=ks (16+i)
def tagL (ks:Nat->UInt8) (u:Nat) (l:List UInt8):Nat:=(Si.Hc (k2 ks) (UInt8.ofNat u :: l)).toNat
theorem JT (ks:Nat->UInt8) (u:Nat) (l:List UInt8):tagL ks u l<18446744073709551616:=(Si.Hc (k2 ks) (UInt8.ofNat u :: l)).isLt
def EI (ks:Nat->UInt8) (u n:Nat) (p:List UInt8):List UInt8:=w8 n++mixL ks u n p
theorem BV (ks:Nat->UInt8) (u n:Nat) (p:List UInt8):(EI ks u n p).length=8+p.length:=by
 rw[EI,List.length_append,Dd,Bs]
def Du (ks:Nat->UInt8) (u n:Nat) (p:List UInt8):List UInt8:=EI ks u n p++w8 (tagL ks u (EI ks u n p))
theorem BS (ks:Nat->UInt8) (u n:Nat) (p:List UInt8):(Du ks u n p).length=p.length+16:=by
 rw[Du,List.length_append,BV,Dd];omega
def Fb (l:List UInt8):List UInt8:=l.take (l.length - 8)
def DX (l:List UInt8):List UInt8:=l.drop (l.length - 8)
def midL (l:List UInt8):List UInt8:=(Fb l).drop 8
def isL (ks:Nat->UInt8) (u:Nat) (l:List UInt8):Bool:=decide (16<=l.length)&&decide (l.length<=800)&&decide (n8 l<=1099511627776)&&decide (tagL ks u (Fb l)=n8 (DX l))
def VS (ks:Nat->UInt8) (u:Nat) (l:List UInt8):Option (List UInt8):=if isL ks u l=true then some (mixL ks u (n8 l) (midL l)) else none
theorem KQ (ks:Nat->UInt8) (u n:Nat) (p:List UInt8):Fb (Du ks u n p)=EI ks u n p:=by
 unfold Fb;rw[BS];unfold Du;rw[List.take_append_of_le_length (by rw[BV];omega),List.take_of_length_le (by rw[BV];omega)]
theorem Qk (ks:Nat->UInt8) (u n:Nat) (p:List UInt8):DX (Du ks u n p)=w8 (tagL ks u (EI ks u n p)):=by
 unfold DX;rw[BS];unfold Du;rw[List.drop_append_of_le_length (by rw[BV];omega),List.drop_of_length_le (by rw[BV];omega),List.nil_append]
theorem Nb (ks:Nat->UInt8) (u n:Nat) (p:List UInt8):midL (Du ks u n p)=mixL ks u n p:=by
 unfold midL;rw[KQ,EI,List.drop_append_of_le_length (by rw[Dd];exact Nat.le_refl _),List.drop_of_length_le (by rw[Dd];exact Nat.le_refl _),List.nil_append]
theorem LQ (ks:Nat->UInt8) (u n:Nat) (p:List UInt8) (M:n<18446744073709551616):n8 (Du ks u n p)=n:=by
 unfold Du EI;rw[List.append_assoc,Xy n M]
theorem GH (ks:Nat->UInt8) (u n:Nat) (p:List UInt8) (M:n<=1099511627776) (O:p.length<=784):VS ks u (Du ks u n p)=some p:=by
 have h:isL ks u (Du ks u n p)=true:=by
  unfold isL;rw[BS,LQ ks u n p (by omega),KQ,Qk,n8_w8' _ (JT _ _ _)];simp;omega
 rw[VS,if_pos h,Nb,LQ ks u n p (by omega),Qi]
structure Chg (S:Nat->Prop) (w w':World):Prop where
 os:w'.os=w.os
 tape:w'.tape=w.tape
 output:w'.output=w.output
 size:w.heap.size<=w'.heap.size
 block:∀k,k<w.heap.size->¬S k->w'.heap[k]? = w.heap[k]?
section
variable {S T S':Nat->Prop} {a w w' c:World} {A:Option Addr} {xs:List Value} {g b:Nat} {t:TypeId} {cs:Array Value}
theorem Chg.refl (S:Nat->Prop) (w:World):Chg S w w:=⟨rfl,rfl,rfl,Nat.le_refl _,fun _ _ _=>rfl⟩
theorem Chg.trans (h:Chg S a w) (k:Chg T w c) (hs:∀i,i<a.heap.size->T i->S i):Chg S a c:=
 ⟨k.os.trans h.os,k.tape.trans h.tape,k.output.trans h.output,Nat.le_trans h.size k.size,fun i M O=>(k.block i (Nat.lt_of_lt_of_le M h.size) (fun X=>O (hs i M X))).trans (h.block i M O)⟩
theorem Chg.mono (h:Chg S a w) (hs:∀i,i<a.heap.size->S i->T i):Chg T a w:=⟨h.os,h.tape,h.output,h.size,fun i M O=>h.block i M (fun x=>O (hs i M x))⟩
theorem Chg.of_below (h:Below w.heap.size w w'):Chg S w w':=⟨h.os,h.tape,h.output,h.size,fun i M _=>h.block i M⟩
theorem Chg.of_grown (h:w.grownBy w' (some g)) (hs:S g):Chg S w w':=⟨h.os,h.tape,h.output,h.size,fun i O M=>h.block i O (fun e=>by injection e with e;subst e;exact M hs)⟩
theorem Chg.below (h:Chg S a w) {B:Nat} (hB:B<=a.heap.size) (hs:∀i,i<a.heap.size->S i->B<=i):Below B a w:=
 ⟨h.os,h.tape,h.output,h.size,fun i M=>h.block i (by omega) (fun x=>by have:=hs i (by omega) x;omega)⟩
theorem Chg.blk (h:Chg S w w') (M:Blk w g t cs) (hs:¬S g):Blk w' g t cs:=(h.block g M.lt hs).trans M
theorem Chg.own (h:Chg S w w') {base n:Nat} {v:Value} (O:w.ownsRow base t 1 v n xs) (hs:∀k,v.ownBlock=some k->¬S k):w'.ownsRow base t 1 v n xs:=by
 refine⟨O.1,?_⟩;rcases O.2 with X | ⟨g,cap,cur,rfl,Y,M,rest⟩
 ·exact .inl X
 ·exact .inr ⟨g,cap,cur,rfl,Y,(h.block g (Array.getElem?_eq_some_iff.1 M).1 (hs g rfl)).trans M,rest⟩
theorem Chg.set (h:Chg S a w) {p:Addr} (M:S p.block\/a.heap.size<=p.block) (u:Value):Chg S a (w.setCell p u):=
 ⟨h.os,h.tape,h.output,by simpa [World.setCell] using h.size,fun i X O=>(Below.heap_setCell w p u i (by
  rintro rfl;rcases M with M | M
  ·exact O M
  ·omega)).trans (h.block i X O)⟩
theorem Chg.alloc (h:Chg S a w) (o:Obj):Chg S a (w.alloc o):=
 ⟨h.os,h.tape,h.output,Nat.le_trans h.size (by simp),fun i M O=>(Below.heap_alloc w o i (Nat.lt_of_lt_of_le M h.size)).trans (h.block i M O)⟩
theorem Chg.drew (h:Chg S a w):Chg S a w.drew:=⟨h.os,h.tape,h.output,h.size,h.block⟩
def RdA (S:Nat->Prop) (w:World) (A:Option Addr) (xs:List Value):Prop:=
 xs = []\/∃b o,A=some ⟨b,o,none⟩/\b<w.heap.size/\¬S b/\∀i u,xs[i]? = some u->w.cell? ⟨b,o+i,none⟩=some u
theorem RdA.rd (h:RdA S w A xs):Rd w w.heap.size A xs:=by
 rcases h with h | ⟨b,o,M,X,_,O⟩
 ·exact .inl h
 ·exact .inr ⟨b,o,M,X,O⟩
theorem RdA.keep (h:RdA S w A xs) (O:Chg T w w') (Y:∀i,i<w.heap.size->T i->S i) (hs:∀i,i<w.heap.size->S' i->S i):RdA S' w' A xs:=by
 rcases h with h | ⟨b,o,Z,M,X,h3⟩
 ·exact .inl h
 ·exact .inr ⟨b,o,Z,Nat.lt_of_lt_of_le M O.size,fun x=>X (hs b M x),fun i u hu=>(World.cell?_of_block (a:=⟨b,o+i,none⟩) (O.block b M (fun x=>X (Y b M x)))).trans (h3 i u hu)⟩
theorem RdA.of_rd {B:Nat} (h:Rd w B A xs) (hB:B<=w.heap.size) (hs:∀i,S i->B<=i):RdA S w A xs:=by
 rcases h with h | ⟨b,o,M,X,O⟩
 ·exact .inl h
 ·exact .inr ⟨b,o,M,by omega,fun x=>by have:=hs b x;omega,O⟩
theorem RdA.mono (h:RdA S w A xs) (hs:∀i,i<w.heap.size->S' i->S i):RdA S' w A xs:=h.keep (Chg.refl (fun _=>False) w) (fun _ _ x=>x.elim) hs
end
def Bz (ks:Nat->UInt8) (d s:Int) (p:Option Addr) (dg:Nat->UInt8) (a o r:Nat):Array Value:=
 ((List.range 32).map (fun i=>bv (ks i))++(([.int .u32 d,.int .i32 s,.int .u32 0,.pointer p]:List Value)++((List.range 16).map (fun j=>bv (dg j))++([.int .i64 (a:Int),.int .i64 (o:Int),.int .i64 (r:Int)]:List Value)))).toArray
def XB (w:World) (b:Nat) (ks:Nat->UInt8) (d s:Int) (p:Option Addr) (dg:Nat->UInt8) (a o r:Nat):Prop:=Blk w b 177 (Bz ks d s p dg a o r)
section
variable {w w':World} {b:Nat} {ks dg:Nat->UInt8} {d s:Int} {p:Option Addr} {a o r:Nat}
theorem Ol (i:Nat) (h:i<32):(Bz ks d s p dg a o r)[i]? = some (bv (ks i)):=by
 rw[Bz,List.getElem?_toArray,List.getElem?_append_left (by simpa using h)];simp [h]
theorem He (i:Nat) (h:i<4):(Bz ks d s p dg a o r)[32+i]? = ([.int .u32 d,.int .i32 s,.int .u32 0,.pointer p]:List Value)[i]?:=by
 rw[Bz,List.getElem?_toArray,List.getElem?_append_right (by simp),List.getElem?_append_left (by simpa using h)];simp
theorem Ql (i:Nat) (h:i<16):(Bz ks d s p dg a o r)[36+i]? = some (bv (dg i)):=by
 rw[Bz,List.getElem?_toArray,List.getElem?_append_right (by simp;omega),List.getElem?_append_right (by simp;omega),List.getElem?_append_left (by simp;omega)];have e:36+i - (List.map (fun i=>bv (ks i)) (List.range 32)).length - ([.int .u32 d,.int .i32 s,.int .u32 0,.pointer p]:List Value).length=i:=by simp;omega
 rw[e];simp [h]
theorem IJ (i:Nat) (h:i<3):(Bz ks d s p dg a o r)[52+i]? = ([.int .i64 (a:Int),.int .i64 (o:Int),.int .i64 (r:Int)]:List Value)[i]?:=by
 rw[Bz,List.getElem?_toArray,List.getElem?_append_right (by simp;omega),List.getElem?_append_right (by simp;omega),List.getElem?_append_right (by simp;omega)];have e:52+i - (List.map (fun i=>bv (ks i)) (List.range 32)).length - ([.int .u32 d,.int .i32 s,.int .u32 0,.pointer p]:List Value).length - (List.map (fun j=>bv (dg j)) (List.range 16)).length=i:=by simp;omega
 rw[e]
theorem XB.cell (h:XB w b ks d s p dg a o r) (i:Nat):w.cell? ⟨b,i,none⟩=(Bz ks d s p dg a o r)[i]?:=Blk.cell h i
theorem XB.ck (h:XB w b ks d s p dg a o r) (i:Nat) (M:i<32):w.cell? ⟨b,i,none⟩=some (bv (ks i)):=(h.cell i).trans (Ol i M)
theorem XB.cd (h:XB w b ks d s p dg a o r):w.cell? ⟨b,32,none⟩=some (.int .u32 d):=(h.cell 32).trans (He 0 (by decide))
theorem XB.cs (h:XB w b ks d s p dg a o r):w.cell? ⟨b,33,none⟩=some (.int .i32 s):=(h.cell 33).trans (He 1 (by decide))
theorem XB.cp (h:XB w b ks d s p dg a o r):w.cell? ⟨b,35,none⟩=some (.pointer p):=(h.cell 35).trans (He 3 (by decide))
theorem XB.cg (h:XB w b ks d s p dg a o r) (i:Nat) (M:i<16):w.cell? ⟨b,36+i,none⟩=some (bv (dg i)):=(h.cell _).trans (Ql i M)
theorem XB.ca (h:XB w b ks d s p dg a o r):w.cell? ⟨b,52,none⟩=some (.int .i64 (a:Int)):=(h.cell 52).trans (IJ 0 (by decide))
theorem XB.co (h:XB w b ks d s p dg a o r):w.cell? ⟨b,53,none⟩=some (.int .i64 (o:Int)):=(h.cell 53).trans (IJ 1 (by decide))
theorem XB.cr (h:XB w b ks d s p dg a o r):w.cell? ⟨b,54,none⟩=some (.int .i64 (r:Int)):=(h.cell 54).trans (IJ 2 (by decide))
theorem XB.fz (h:XB w b ks d s p dg a o r) (i:Nat):w.frozen? ⟨b,i,none⟩=false:=Blk.frozen h i
theorem XB.lt (h:XB w b ks d s p dg a o r):b<w.heap.size:=Blk.lt h
theorem XA (M:Int):(Bz ks d s p dg a o r).setIfInBounds 32 (.int .u32 M)=Bz ks M s p dg a o r:=by simp [Bz]
theorem XC (s':Int):(Bz ks d s p dg a o r).setIfInBounds 33 (.int .i32 s')=Bz ks d s' p dg a o r:=by simp [Bz]
theorem XD (M:Option Addr):(Bz ks d s p dg a o r).setIfInBounds 35 (.pointer M)=Bz ks d s M dg a o r:=by simp [Bz]
theorem XE (M:Nat):(Bz ks d s p dg a o r).setIfInBounds 52 (.int .i64 (M:Int))=Bz ks d s p dg M o r:=by simp [Bz]
theorem XF (M:Nat):(Bz ks d s p dg a o r).setIfInBounds 53 (.int .i64 (M:Int))=Bz ks d s p dg a M r:=by simp [Bz]
theorem XG (M:Nat):(Bz ks d s p dg a o r).setIfInBounds 54 (.int .i64 (M:Int))=Bz ks d s p dg a o M:=by simp [Bz]
theorem XB.set_d (h:XB w b ks d s p dg a o r) (M:Int):XB (w.setCell ⟨b,32,none⟩ (.int .u32 M)) b ks M s p dg a o r:=by
 have:=Blk.set h 32 (.int .u32 M);rwa [XA] at this
theorem XB.set_s (h:XB w b ks d s p dg a o r) (s':Int):XB (w.setCell ⟨b,33,none⟩ (.int .i32 s')) b ks d s' p dg a o r:=by
 have:=Blk.set h 33 (.int .i32 s');rwa [XC] at this
theorem XB.set_p (h:XB w b ks d s p dg a o r) (M:Option Addr):XB (w.setCell ⟨b,35,none⟩ (.pointer M)) b ks d s M dg a o r:=by
 have:=Blk.set h 35 (.pointer M);rwa [XD] at this
theorem XB.set_a (h:XB w b ks d s p dg a o r) (M:Nat):XB (w.setCell ⟨b,52,none⟩ (.int .i64 (M:Int))) b ks d s p dg M o r:=by
 have:=Blk.set h 52 (.int .i64 (M:Int));rwa [XE] at this
theorem XB.set_o (h:XB w b ks d s p dg a o r) (M:Nat):XB (w.setCell ⟨b,53,none⟩ (.int .i64 (M:Int))) b ks d s p dg a M r:=by
 have:=Blk.set h 53 (.int .i64 (M:Int));rwa [XF] at this
theorem XB.set_r (h:XB w b ks d s p dg a o r) (M:Nat):XB (w.setCell ⟨b,54,none⟩ (.int .i64 (M:Int))) b ks d s p dg a o M:=by
 have:=Blk.set h 54 (.int .i64 (M:Int));rwa [XG] at this
theorem XB.drew (h:XB w b ks d s p dg a o r):XB w.drew b ks d s p dg a o r:=h
theorem XB.chg {S:Nat->Prop} (h:XB w b ks d s p dg a o r) (M:Chg S w w') (hs:¬S b):XB w' b ks d s p dg a o r:=M.blk h hs
end
def Nc (cs:Array Value):Nat->List Value->Array Value
 |_,[]=>cs
 |o,v :: l=>Nc (cs.setIfInBounds o v) (o+1) l
theorem Blk.setCells {g:Nat} {t:TypeId}:∀(vs:List Value) (o:Nat) (w:World) (cs:Array Value),Blk w g t cs->Blk (w.setCells g o vs) g t (Nc cs o vs)
 | [],_,_,_,h=>h
 |v :: l,o,w,cs,h=>Blk.setCells l (o+1) _ _ (h.set o v)
theorem VT (ks:Nat->UInt8) (d s:Int) (p:Option Addr) (dg M:Nat->UInt8) (a o r:Nat):Nc (Bz ks d s p dg a o r) 36 (Si.AM M).toList=Bz ks d s p M a o r:=by kernel_rfl
theorem XB.set_dg {w:World} {b:Nat} {ks dg:Nat->UInt8} {d s:Int} {p:Option Addr} {a o r:Nat} (h:XB w b ks d s p dg a o r) (M:Nat->UInt8):XB (w.setCells b 36 (Si.AM M).toList) b ks d s p M a o r:=by
 have:=Blk.setCells (Si.AM M).toList 36 _ _ h
 rwa [VT] at this
abbrev Jc:Nat->UInt8:=fun _=>0
def Box (w:World) (b:Nat) (ks:Nat->UInt8) (h:Option Nat) (a o r:Nat):Prop:=
 match h with
 |none=>XB w b ks 0 0 none Jc a o r
 |some g=>XB w b ks 1 0 (some ⟨g,0,none⟩) (k2 ks) a o r/\g≠b/\∃m,Sp.Key w g ks m
def Ow (b:Nat) (h:Option Nat) (i:Nat):Prop:=i=b\/h=some i
theorem Box.lt {w:World} {b:Nat} {ks:Nat->UInt8} {h:Option Nat} {a o r:Nat} (M:Box w b ks h a o r):b<w.heap.size:=by
 cases h with
 |none=>exact XB.lt M
 |some g=>exact XB.lt M.1
theorem Box.lt_g {w:World} {b g:Nat} {ks:Nat->UInt8} {a o r:Nat} (M:Box w b ks (some g) a o r):g<w.heap.size:=by
 obtain⟨_,_,m,hk⟩:=M;exact hk.lt
theorem Box.own_lt {w:World} {b:Nat} {ks:Nat->UInt8} {h:Option Nat} {a o r:Nat} (O:Box w b ks h a o r) (i:Nat) (M:Ow b h i):i<w.heap.size:=by
 rcases M with M | M
 ·subst M;exact O.lt
 ·subst M;exact O.lt_g
theorem Qm {S:Nat->Prop} {w w':World} {g:Nat} {ks:Nat->UInt8} {m:Bool} (h:Sp.Key w g ks m) (M:Chg S w w') (hs:¬S g):Sp.Key w' g ks m:=by
 cases m with
 |false=>exact M.blk h hs
 |true=>exact M.blk h hs
theorem Box.chg {S:Nat->Prop} {w w':World} {b:Nat} {ks:Nat->UInt8} {h:Option Nat} {a o r:Nat} (O:Box w b ks h a o r) (M:Chg S w w') (hs:∀i,Ow b h i->¬S i):Box w' b ks h a o r:=by
 cases h with
 |none=>exact XB.chg O M (hs b (.inl rfl))
 |some g=>
  obtain⟨X,Z,m,Y⟩:=O;exact⟨X.chg M (hs b (.inl rfl)),Z,m,Qm Y M (hs g (.inr rfl))⟩
theorem Box.below {w w':World} {b:Nat} {ks:Nat->UInt8} {h:Option Nat} {a o r:Nat} (M:Box w b ks h a o r) (O:Below w.heap.size w w'):Box w' b ks h a o r:=
 M.chg (S:=fun _=>False) (Chg.of_below O) (fun _ _ x=>x)
def Step (w w':World) (b:Nat) (h:Option Nat) (g:Nat):Prop:=Chg (Ow b h) w w'/\(h=some g\/(h=none/\w.heap.size<=g))
theorem Step.own {w w':World} {b g:Nat} {h:Option Nat} (hs:Step w w' b h g):∀i,i<w.heap.size->Ow b (some g) i->Ow b h i:=by
 intro i X M;rcases M with M | M
 ·exact .inl M
 ·injection M with M
  subst M;rcases hs.2 with O | ⟨_,O⟩
  ·exact .inr O
  ·omega
theorem Step.trans {a w c:World} {b g X:Nat} {h:Option Nat} (O:Step a w b h g) (Y:Step w c b (some g) X):X=g/\Step a c b h g:=by
 have e:X=g:=by
  rcases Y.2 with M | ⟨M,_⟩
  ·injection M with M;exact M.symm
  ·cases M
 exact⟨e,O.1.trans Y.1 O.own,O.2⟩
theorem Step.then {a w c:World} {b g:Nat} {h:Option Nat} {S:Nat->Prop} (M:Step a w b h g) (O:Chg S w c) (hs:∀i,i<a.heap.size->S i->Ow b h i):Step a c b h g:=⟨M.1.trans O hs,M.2⟩
def AX (ks:Nat->UInt8):Array Value:=((List.range 32).map (fun i=>bv (ks i))).toArray
theorem Ad {P:Program} {ops:Array Oper} {rest:List Oper} {op:Oper} {a:Act} {w:World} {Q:Exit->Act->World->Prop} (M:op.guard=none) (ty:TypeId) (x:Operand) (X:op.op=.load ty x)
  (g o:Nat) (Y:a.eval x=.pointer (some ⟨g,o,none⟩)) (cs:Array Value) (d:TypeDesc) (O:w.rangeAt g o cs.toList)
  (hu:P.underlying ty=some d) (Z:d.isRow=true) (hi:(P.info? ty).map (·.size)=some cs.size)
  (h:wpList P ops Q rest (a.put op.dst (.agg cs)) w):wpList P ops Q (op :: rest) a w:=
 wpList_load_mid M ty x X g o Y cs.toList d O hu Z (by rw[Array.length_toList];exact hi) (by simpa using h)
theorem AU (ks:Nat->UInt8):(AX ks).size=32:=by simp [AX]
theorem KR (ks:Nat->UInt8):(Tryz.prog.info? 30).map (·.size)=some (AX ks).size:=by rw[AU];kernel_rfl
theorem VU (ks:Nat->UInt8):(AX ks).all (·.oneCell')=true:=by simp [AX,bv,Value.oneCell']
theorem JP (ks:Nat->UInt8) (w:World):Calls Tryz.prog 41 #[.agg (AX ks)] w fun e w'=>∃b,e=.returned (.pointer (some ⟨b,0,none⟩))/\w.heap.size<=b/\Box w' b ks none 0 0 0/\Below w.heap.size w w':=by
 have O:=KR ks;obtain⟨cs,M⟩:=Aj (AX ks);rw[<-M] at O⊢;have Z:cs.size=32:=by rw[M];exact AU ks
 have X:=I O;clear O;have Y:=I M;clear M;go_enter Tryz.func41,Tryz.ntmps41
 go_wp2_with (first
  |(refine Ad (by rfl) 30 (.tmp 1) (by rfl) w.heap.size 0 (by rfl) cs _ (Si.Ac (Blk.new w 30 cs)) Tryz.underlying30 (by rfl) X.o ?_)
  |fail)
 go_ret;refine⟨w.heap.size+1,rfl,Nat.le_succ _,?_,((Below.refl w.heap.size w).alloc Af _).alloc (by simp) _⟩;exact Sp.Blk.new_of (w.alloc _) _ 177 _ (Bz ks 0 0 none Jc 0 0 0) (by rw[Y.o];kernel_rfl) (by simp)
theorem XB.range1 {w:World} {b:Nat} {ks dg:Nat->UInt8} {d s:Int} {p:Option Addr} {a o r:Nat} (h:XB w b ks d s p dg a o r):w.rangeAt b 0 (Sp.AM ks).toList:=fun j v M=>by
 rw[Sp.AM,List.toList_toArray,List.getElem?_map] at M;rcases Nat.lt_or_ge j 16 with g | g
 ·rw[Nat.zero_add,h.ck j (by omega)];simpa [g] using M
 ·rw[List.getElem?_eq_none (by simpa using g)] at M;cases M
theorem XB.range2 {w:World} {b:Nat} {ks dg:Nat->UInt8} {d s:Int} {p:Option Addr} {a o r:Nat} (h:XB w b ks d s p dg a o r):w.rangeAt b 16 (Sp.AM (k2 ks)).toList:=fun j v M=>by
 rw[Sp.AM,List.toList_toArray,List.getElem?_map] at M;rcases Nat.lt_or_ge j 16 with g | g
 ·rw[h.ck (16+j) (by omega)];simpa [g,k2] using M
 ·rw[List.getElem?_eq_none (by simpa using g)] at M;cases M
theorem XB.rangeD {w:World} {b:Nat} {ks dg:Nat->UInt8} {d s:Int} {p:Option Addr} {a o r:Nat} (h:XB w b ks d s p dg a o r):w.rangeAt b 36 (Sp.AM dg).toList:=fun j v M=>by
 rw[Sp.AM,List.toList_toArray,List.getElem?_map] at M;rcases Nat.lt_or_ge j 16 with g | g
 ·rw[h.cg j (by omega)];simpa [g] using M
 ·rw[List.getElem?_eq_none (by simpa using g)] at M;cases M
theorem XB.thereD {w:World} {b:Nat} {ks dg:Nat->UInt8} {d s:Int} {p:Option Addr} {a o r:Nat} (h:XB w b ks d s p dg a o r):w.there b 36 16:=fun j M=>⟨by rw[h.cg j M];rfl,h.fz _⟩
theorem Bi (f:Nat->UInt8):(Sp.AM f).size=16:=by simp [Sp.AM]
theorem IK (f:Nat->UInt8):(Tryz.prog.info? 157).map (·.size)=some (Sp.AM f).size:=by rw[Bi];kernel_rfl
theorem Qn (f:Nat->UInt8):(Sp.AM f).all (·.oneCell')=true:=by simp [Sp.AM,bv,Value.oneCell']
theorem Js {a w:World} {b:Nat}:∀(vs:List Value) (o:Nat) (w:World),a.grownBy w (some b)->a.grownBy (w.setCells b o vs) (some b)
 | [],_,_,h=>h
 |v :: r,o,w,h=>Js (w:=w) r (o+1) _ (Ar h (.inl rfl) v)
theorem Key.far {w:World} {g:Nat} {ks:Nat->UInt8} {m:Bool} (h:Sp.Key w g ks m) (p:Addr) (u:Value) (M:p.block≠g):Sp.Key (w.setCell p u) g ks m:=by
 cases m with
 |false=>exact Si.Blk.far h p u M
 |true=>exact Si.Blk.far h p u M
theorem Key.fars {g b:Nat} {ks:Nat->UInt8} {m:Bool} (M:b≠g):∀(vs:List Value) (o:Nat) (w:World),Sp.Key w g ks m->Sp.Key (w.setCells b o vs) g ks m
 | [],_,_,h=>h
 |v :: r,o,w,h=>Key.fars M r (o+1) _ (Key.far h _ v M)
theorem LR (b:Nat) (ks:Nat->UInt8) (a o r:Nat) (d s:Int) (w:World) (hK:XB w b ks d s none Jc a o r) :
  Calls Tryz.prog 187 #[.pointer (some ⟨b,0,none⟩)] w fun e w'=>e=.returned (.tuple #[])/\∃g,XB w' b ks d s (some ⟨g,0,none⟩) (k2 ks) a o r/\w.heap.size<=g/\Sp.Key w' g ks false/\w.grownBy w' (some b):=by
 have ai:∀w:World,(Instr.arrayAt 157 (.slice (some ⟨b,0,none⟩) 16 32)).run Tryz.prog w=.ok (.pointer (some ⟨b,0,none⟩)) w:=fun _=>by kernel_rfl
 have ah:∀w:World,(Instr.arrayAt 157 (.slice (some ⟨b,16,none⟩) 16 16)).run Tryz.prog w=.ok (.pointer (some ⟨b,16,none⟩)) w:=fun _=>by kernel_rfl
 have cn:=fun w=>Sp.JP ks w
 have r1:=hK.range1;have Y:∀M:World,Below w.heap.size w M->XB M b ks d s none Jc a o r:=fun M h=>Blk.below hK h
 have aa:=hK.lt;have R2:Hid (∀(M:World) p,XB M b ks d s p Jc a o r->M.rangeAt b 16 (Sp.AM (k2 ks)).toList):=fun M p h=>XB.range2 h
 have i1:=IK ks;have i2:=IK (k2 ks);have o2:=Qn (k2 ks);have z2:=Bi (k2 ks);obtain⟨cs,ab⟩:=Aj (Sp.AM ks);obtain⟨ds,X⟩:=Aj (Sp.AM (k2 ks));rw[<-ab] at r1 i1 cn;rw[<-X] at R2 i2 o2 z2;have R1:=I r1;clear r1;have K0:=I Y;clear Y;have LT:=I aa;clear aa;have I1:=I i1;clear i1;have I2:=I i2;clear i2;have O2:=I o2;clear o2;have Z2:=I z2;clear z2;have ED:=I X;clear X;clear ab hK;go_enter Tryz.func187,Tryz.ntmps187
 go_upto_region 2 with(first
  |(refine Ad (by rfl) 157 (.tmp 9) (by rfl) b 0 (by rfl) cs _ R1.o Tryz.underlying157 (by rfl) I1.o ?_)
  |(go_at_call 203;refine Calls.mono (cn _) ?_;rintro e M ⟨g,rfl,hg,Z,O⟩;have X1:=K0.o M O;have ag:=X1.cp;have fz:=X1.fz;have X2:=I (X1.set_p (some ⟨g,0,none⟩));have HG:=I hg;have ae:=I Z;have af:=I O;clear hg Z O X1)
  |fail)
 clear ag fz;have hR:=R2.o _ _ X2.o;have hT:=XB.thereD X2.o;rw[<-Z2.o] at hT;have HR:=I hR;clear hR;have HT:=I hT;clear hT
 go_wp2_with (first
  |(refine Ad (by rfl) 157 (.tmp 20) (by rfl) b 16 (by rfl) ds _ HR.o Tryz.underlying157 (by rfl) I2.o ?_)
  |(refine wpList_store_mid (by rfl) 157 (.tmp 23) (.tmp 21) (by rfl) b 36 ds (by rfl) (by rfl) HT.o I2.o O2.o ?_)
  |fail)
 go_end0
 have ad:b≠g:=by have:=HG.o;have:=LT.o;omega
 refine⟨rfl,g,?_,HG.o,Key.fars ad _ _ _ (Key.far ae.o _ _ ad),Js (w:=w) _ _ _ (Ar (By af.o _) (.inl rfl) _)⟩;rw[ED.o];exact X2.o.set_dg (k2 ks)
theorem slow (b:Nat) (ks:Nat->UInt8) (a o r:Nat) (w:World) (Z:XB w b ks 0 0 none Jc a o r) :
  Calls Tryz.prog 202 #[.pointer (some ⟨b,32,none⟩),.func (.func 187) #[.pointer (some ⟨b,0,none⟩)] #[]] w fun e w'=>e=.returned (.tuple #[])/\∃g,XB w' b ks 1 0 (some ⟨g,0,none⟩) (k2 ks) a o r/\w.heap.size<=g/\Sp.Key w' g ks false/\w.grownBy w' (some b):=by
 have M:XB (w.setCell ⟨b,33,none⟩ (.int .i32 1)) b ks 0 1 none Jc a o r:=Z.set_s 1;have g1:w.grownBy (w.setCell ⟨b,33,none⟩ (.int .i32 1)) (some b):=Ar (World.grownBy.refl _ _) (.inl rfl) _;have ad:(w.setCell ⟨b,33,none⟩ (.int .i32 1)).heap.size=w.heap.size:=by simp [World.setCell]
 have cl:=Sp.KG ⟨b,33,none⟩ w Z.cs (Z.fz 33);have cd:=Sp.Ed ⟨b,32,none⟩ 0 _ M.cd false rfl;have cm:=LR b ks a o r 0 1 _ M;rw[ad] at cm;have al:∀(x:Bool) (w:World),(Op.unary .not (.bool x)).run Tryz.prog w=.ok (.bool (!x)) w:=fun _ _=>rfl
 have aa:=Z.lt;have H:=I Z;clear Z;have H1:=I M;clear M;have G1:=I g1;clear g1;have LT:=I aa;clear aa;clear ad
 go_enter_defers Tryz.func202,Tryz.ntmps202
 go_wp2_with (first | (go_at_call 213;refine Ah cl ?_;rintro w' rfl) | (go_at_call 201;refine Ah cd ?_;rintro w' rfl) | (go_at_call 187;refine Ah cm ?_;rintro w2 ⟨g,O,ai,ae,ak⟩))
 refine leaves_cons (f:=215) (args:=#[.pointer (some ⟨b,32,none⟩),.bool true]) (by simp) (by simp [go_sem]) ?_;refine(Sp.Gd ⟨b,32,none⟩ _ .returning w2 O.cd (O.fz 32)).mono ?_;rintro e u' ag ⟨rfl,rfl,rfl⟩;have ab:b≠g:=by have:=LT.o;omega
 have X:=XB.set_d O.drew 1;refine leaves_cons (f:=214) (args:=#[.pointer (some ⟨b,33,none⟩)]) (by simp [settle]) (by simp [go_sem]) ?_;refine(Sp.Ft ⟨b,33,none⟩ _ _ X.cs (X.fz 33)).mono ?_;rintro e u' ag ⟨rfl,rfl,rfl⟩;have aj:=XB.set_s X 0;have Y:=Key.far (Key.far (w:=w2.drew) (m:=false) ae ⟨b,32,none⟩ (.int .u32 1) ab) ⟨b,33,none⟩ (.int .i32 0) ab;have af:=Ar (row:=some b) (Ar (row:=some b) (Bg (World.grownBy.refl w2 (some b))) (p:=⟨b,32,none⟩) (.inl rfl) (.int .u32 1)) (p:=⟨b,33,none⟩) (.inl rfl) (.int .i32 0);have ah:=Sp.Er (Sp.Er G1.o ak) af;simp [Leaves,settle,results,Tryz.results202];exact⟨g,aj,ai,Y,ah⟩
theorem JO (b:Nat) (ks:Nat->UInt8) (a o r:Nat) (w:World) (M:XB w b ks 0 0 none Jc a o r) :
  Calls Tryz.prog 186 #[.pointer (some ⟨b,32,none⟩),.func (.func 187) #[.pointer (some ⟨b,0,none⟩)] #[]] w fun e w'=>e=.returned (.tuple #[])/\∃g,XB w' b ks 1 0 (some ⟨g,0,none⟩) (k2 ks) a o r/\w.heap.size<=g/\Sp.Key w' g ks false/\w.grownBy w' (some b):=by
 have Z:=Sp.Ed ⟨b,32,none⟩ 0 w M.cd false rfl;have cs:=slow b ks a o r w M;have X:∀(x:Bool) (w:World),(Op.unary .not (.bool x)).run Tryz.prog w=.ok (.bool (!x)) w:=fun _ _=>rfl
 clear M;go_enter Tryz.func186,Tryz.ntmps186
 go_wp2_with (first | (go_at_call 201;refine Ah Z ?_;rintro w' rfl) | (go_at_call 202;refine Ah cs ?_;rintro w2 O;have Y:=I O;clear O))
 go_end0
 exact⟨rfl,Y.o⟩
theorem LG (b:Nat) (Y:Value) (w:World) (M:w.cell? ⟨b,32,none⟩=some (.int .u32 1)) :
  Calls Tryz.prog 186 #[.pointer (some ⟨b,32,none⟩),Y] w fun e w'=>e=.returned (.tuple #[])/\w'=w:=by
 have X:=Sp.Ed ⟨b,32,none⟩ 1 w M true rfl;have O:∀(x:Bool) (w:World),(Op.unary .not (.bool x)).run Tryz.prog w=.ok (.bool (!x)) w:=fun _ _=>rfl
 clear M;go_enter Tryz.func186,Tryz.ntmps186
 go_wp2_with (first | (go_at_call 201;refine Ah X ?_;rintro w' rfl))
 go_end0
 exact⟨rfl,rfl⟩
theorem GD (b:Nat) (ks:Nat->UInt8) (h:Option Nat) (a o r:Nat) (w:World) (M:Box w b ks h a o r) :
  Calls Tryz.prog 152 #[.pointer (some ⟨b,0,none⟩)] w fun e w'=>e=.returned (.tuple #[])/\∃g,Box w' b ks (some g) a o r/\Step w w' b h g:=by
 have aa:∀(fn:Fn) (first cap:Array Value) (w:World),(Instr.makeFunc fn first cap).run Tryz.prog w=.ok (.func fn first cap) w:=fun _ _ _ _=>rfl
 cases h with
 |none=>
  have Y:=JO b ks a o r w M;have O:=XB.lt M;have LT:=I O;clear O;clear M;go_enter Tryz.func152,Tryz.ntmps152
  go_wp2_with (first | (go_at_call 186;refine Ah Y ?_;rintro w' X;have H2:=I X;clear X))
  go_end0
  obtain⟨g,h1,X,h3,h4⟩:=H2.o;exact⟨rfl,g,⟨h1,by have:=LT.o;omega,false,h3⟩,Chg.of_grown h4 (.inl rfl),.inr ⟨rfl,X⟩⟩
 |some g=>
  have Y:=fun Z=>LG b Z w (XB.cd M.1)
  have H:=I M;clear M;go_enter Tryz.func152,Tryz.ntmps152
  go_wp2_with (first | (go_at_call 186;refine Ah (Y _) ?_;rintro w' rfl))
  go_end0
  exact⟨rfl,g,H.o,Chg.refl _ _,.inl rfl⟩
theorem add_one (p:Addr) (a:Nat) (w:World) (Y:a<1000000) (X:w.cell? p=some (.int .i64 (a:Int))) (M:w.frozen? p=false) :
  Calls Tryz.prog 88 #[.pointer (some p),.int .i64 1] w fun e w'=>e=.returned (.int .i64 ((a+1:Nat):Int))/\w'=w.setCell p (.int .i64 ((a+1:Nat):Int)):=by
 have O:=run_call_add (P:=Tryz.prog) Tryz.func132 (by kernel_rfl) (by kernel_rfl) (by kernel_rfl) .i64 (by kernel_rfl) (y:=1) (s:=((a+1:Nat):Int)) X M (by
  have h:IntKind.i64.wrap ((a:Int)+1)=((a+1:Nat):Int):=by rw[IntKind.wrap_i64];omega
  simp [go_sem,h])
 clear X M Y;go_enter Tryz.func88,Tryz.ntmps88
 go_wp2
 go_ret;exact⟨rfl,rfl⟩
theorem Ee (u:Int) (x:Bool) (M:x=(decide (0<=u)&&decide (u<=255))) (w:World):Calls Tryz.prog 101 #[.int .i64 u] w fun e w'=>e=.returned (.bool x)/\w'=w:=by
 subst M
 by_cases h:0<=u
 ·go_enter Tryz.func101,Tryz.ntmps101
  go_wp2
  go_ret;exact⟨by simp [h],rfl⟩
 ·have O:decide (0<=u)=false:=by simpa using h
  go_enter Tryz.func101,Tryz.ntmps101
  go_wp2
  go_ret;exact⟨by simp,rfl⟩
theorem Fv (n:Nat) (x:Bool) (M:x=decide (n<=1099511627776)) (w:World):Calls Tryz.prog 150 #[.int .u64 (n:Int)] w fun e w'=>e=.returned (.bool x)/\w'=w:=by
 subst M;have e:decide ((n:Int)<=1099511627776)=decide (n<=1099511627776):=by congr 1;exact propext ⟨by omega,by omega⟩
 have E:=I e;clear e;go_enter Tryz.func150,Tryz.ntmps150
 go_wp2
 go_ret;exact⟨by rw[<-E.o];rfl,rfl⟩
theorem Qo (x y:Nat) (O:y<256) (M:x<72057594037927936):bits .or .u64 ((x:Int)*256) (y:Int)=((x*256+y:Nat):Int):=by
 have e:(x:Int)*256=((x*256:Nat):Int):=by omega
 have h:x*256 ||| y=x*256+y:=by
  have h:=Nat.shiftLeft_add_eq_or_of_lt (show y<2 ^ 8 by omega) x;rw[Nat.shiftLeft_eq] at h
  simpa using h.symm
 rw[e,u64_or_nat _ _ (by omega) (by omega),h]
theorem DA (B:Nat) (A:Option Addr) (n c:Nat) (l:List UInt8) (w:World) (hn:n=l.length) (h8:8<=n) (hc:n<=c) (hr:Rd w B A (bvs l)) :
  Calls Tryz.prog 104 #[.slice A n c] w fun e w'=>e=.returned (.int .u64 (n8 l:Int))/\w'=w:=by
 obtain⟨b,o,rfl,hb,M⟩:∃b o,A=some ⟨b,o,none⟩/\b<B/\∀i (h:i<l.length),w.cell? ⟨b,o+i,none⟩=some (bv l[i]):=by
  rcases hr with h | ⟨b,o,h1,h2,h3⟩
  ·have:=AB l;rw[h] at this;simp at this;omega
  ·exact⟨b,o,h1,h2,fun i Y=>h3 i _ (DR Y)⟩
 have af:(8:Int)<=(c:Int):=by omega
 have ae:8<=c:=by omega
 have HC:=I M;clear M;have HN:=I hn;clear hn;have H8:=I h8;clear h8;clear hr hc hb;go_enter Tryz.func104,Tryz.ntmps104
 go_wp2_with fail
 go_loop [3,9] (fun ad iv=>∃i:Nat,i<=8/\iv=.int .i64 (i:Int)/\ad=.int .u64 (big 0 (l.take i):Nat)) (fun _ iv=>8 - (intOf iv).toNat)
 case atStart=>exact⟨0,by decide,rfl,rfl⟩
 case round=>
  obtain⟨i,Y,rfl,rfl⟩:=hrel
  by_cases hx:i=8
  ·subst hx
   go_wp2_with fail
   go_ret;exact⟨rfl,rfl⟩
  ·have e1:(i:Int)<8:=by omega
   have e2:(0:Int)<=(i:Int):=by omega
   have e3:i<8:=by omega
   have hl:i<l.length:=by have:=HN.o;have:=H8.o;omega
   obtain⟨y,ey⟩:=Aj (l[i]);have O:=HC.o i hl;rw[<-ey] at O;simp only[bv] at O;have hy:=y.toNat_lt;obtain⟨v,Z⟩:=Aj (big 0 (l.take i));obtain⟨u,eu⟩:=Aj (v*256+y.toNat);rw[<-Z];have hv:v<72057594037927936:=by
    have:=II l i;rw[<-Z] at this;exact Nat.lt_of_lt_of_le this (Nat.pow_le_pow_right (by decide) (by omega):256 ^ i<=256 ^ 7)
   have aa:(v:Int)*256 % 18446744073709551616=(v:Int)*256:=by omega
   have ab:(y.toNat:Int) % 18446744073709551616=(y.toNat:Int):=by omega
   have ai:IntKind.u64.wrap (y.toNat:Int)=(y.toNat:Int):=by rw[IntKind.wrap_u64];exact ab
   have ag:IntKind.u64.wrap ((v:Int)*256)=(v:Int)*256:=by rw[IntKind.wrap_u64];exact aa
   have ah:bits .or .u64 ((v:Int)*256) (y.toNat:Int)=(u:Int):=by rw[eu];exact Qo v y.toNat hy hv
   have X:u=big 0 (l.take (i+1)):=by rw[MZ l i hl,<-ey,<-Z,eu]
   have NX:=I X;clear X;have HI:=I Y;clear Y;have HX:=I hx;clear hx;have HV:=I hv;clear hv;clear eu Z ey
   go_wp2_with fail
   go_round
   case rel=>exact⟨i+1,by omega,by go_num,by rw[<-NX.o]⟩
   case measure=>simp [intOf];omega
theorem DU {w w':World} {base:Nat} {t:TypeId} {v:Value} {n:Nat} {xs:List Value} {o:Obj} (h:w.ownsRow base t 1 v n xs) (e:w'.heap=w.heap.push o):w'.ownsRow base t 1 v n xs:=Si.DU h e
def laid (xs:List UInt8) (N j:Nat):List Value:=bvs (xs++(w8 N).take j)
theorem KS (xs:List UInt8) (N j:Nat) (h:j<8):laid xs N j++[bv (UInt8.ofNat (N / 2 ^ (56 - 8*j)))]=laid xs N (j+1):=by
 unfold laid;rw[VR N j h,<-List.append_assoc,BH (xs++(w8 N).take j)];rfl
theorem UN (xs:List UInt8) (N:Nat):laid xs N 8=bvs (xs++w8 N):=by
 unfold laid;rw[List.take_of_length_le (by rw[Dd];exact Nat.le_refl _)]
theorem Nd (base:Nat) (v:Value) (n N:Nat) (xs:List UInt8) (w:World) (hN:N<18446744073709551616) (hn:n<=100000) (hb:base<=w.heap.size) (M:w.ownsRow base 5 1 v n (bvs xs)) :
  Calls Tryz.prog 166 #[v,.int .u64 (N:Int)] w fun e w'=>∃v',e=.returned v'/\w'.ownsRow base 5 1 v' (n+8) (bvs (xs++w8 N))/\Chg (fun i=>v.ownBlock=some i) w w'/\(∀k,v'.ownBlock=some k->v.ownBlock=some k\/w.heap.size<=k):=by
 obtain⟨ib,al,aj,ai,an⟩:=info_parts Si.Cd;have HO:=I M;clear M;have HB:=I hb;clear hb;have HN:=I hN;clear hN;have HL:=I hn;clear hn;go_enter Tryz.func166,Tryz.ntmps166
 go_wp2_with fail
 go_loopw [0,5] (fun ah iv wr=>∃j:Nat,j<=8/\iv=.int .i64 (56 - 8*(j:Int))/\wr.ownsRow base 5 1 ah (n+j) (laid xs N j)/\Chg (fun i=>v.ownBlock=some i) w wr/\(∀k,ah.ownBlock=some k->v.ownBlock=some k\/w.heap.size<=k)) (fun _ iv _=>(intOf iv+8).toNat)
 case atStart=>exact⟨0,by decide,rfl,by unfold laid;rw[List.take_zero,List.append_nil];exact HO.o,Chg.refl _ _,fun k hk=>.inl hk⟩
 case round=>
  obtain⟨j,hj,rfl,M,ag,ab⟩:=hrel;have X:=I ab;clear ab;have HR:=I M;clear M;have HW:=I ag;clear ag
  by_cases hx:j=8
  ·subst hx
   go_wp2_with fail
   go_ret;exact⟨_,rfl,by rw[<-UN];exact HR.o,HW.o,X.o⟩
  ·obtain⟨m,em⟩:∃m:Nat,m=56 - 8*j:=⟨_,rfl⟩
   have hm:(56:Int) - 8*(j:Int)=(m:Int):=by omega
   rw[hm];have ae:j<8:=by omega
   have ar:m<64:=by omega
   have av:(m:Int)<64:=by omega
   have ao:(0:Int)<=(m:Int):=by omega
   have au:min m 64=m:=by omega
   obtain⟨k,ek⟩:=Aj (n+j);have hk:k<=100010:=by have:=HL.o;omega
   rw[<-ek] at HR;have ad:=KS xs N j ae;have hv:bv (UInt8.ofNat (N / 2 ^ (56 - 8*j)))=.int .u8 ((N:Int) / 2 ^ m % 256):=by
    unfold bv;rw[UInt8.toNat_ofNat',<-em];congr 1
   rw[hv] at ad;have NX:=I ad;clear ad;have EM:=I em;clear em;have EK:=I ek;clear ek;have HX:=I hx;clear hx;have HJ:=I hj;clear hj;have af:=I ae;clear ae;clear hm hv
   go_wp2_with (first | (at_builtin;refine AF _ (by rfl) (.tmp 10) (.tmp 15) 24 (by rfl) base 5 ib _ 1 Tryz.underlying24 al aj ai an (by rfl) _ k (laid xs N j) (by rfl) (DU HR.o (by rfl)) (wr.heap.size+1) (some ⟨wr.heap.size,0,none⟩) 1 1 [.int .u8 ((N:Int) / 2 ^ m % 256)] (by rfl) (by rfl) (Si.FO wr 5 _ [.int .u8 ((N:Int) / 2 ^ m % 256)] (by rfl) _ rfl) (by simp [Value.oneCell']) (by unfold maxLen;omega) (by omega) (by have:=HB.o;have:=HW.o.size;simp;omega) ?_;intro v6 w6 Y O aa;have O6:=I Y;have G6:=I O;have T6:=I aa;clear Y O aa) | fail)
   go_roundw
   case rel=>
    refine⟨j+1,by have:=af.o;omega,?_,by rw[<-NX.o,<-Nat.add_assoc,<-EK.o];exact O6.o,?_,?_⟩
    ·exact congrArg (Value.int .i64) (by have:=EM.o;have:=af.o;omega)
    ·refine(HW.o.alloc _).trans (T:=fun i=>Value.ownBlock _=some i) ⟨G6.o.os,G6.o.tape,G6.o.output,G6.o.size,fun k hk ak=>G6.o.block k hk (fun e=>ak e.symm)⟩ (fun i hi hx=>?_)
     rcases X.o i hx with Z | Z
     ·exact Z
     ·omega
    ·intro k hk
     rcases T6.o with Z | Z
     ·exact X.o k (Z▸hk)
     ·have:=HW.o.size
      rw[hk] at Z;injection Z with Z;exact .inr (by simp at Z;omega)
   case measure=>simp [intOf];omega
def Aw (b:Nat) (h:Option Nat) (n i:Nat):Prop:=Ow b h i\/n<=i
section
variable {w w' a c:World} {b g n:Nat} {h:Option Nat} {A:Option Addr} {xs:List Value} {S:Nat->Prop}
theorem RdA.aw (O:RdA (Ow b h) w A xs) (X:w.heap.size<=n):RdA (Aw b h n) w A xs:=O.mono fun i Y M=>by
 rcases M with M | M
 ·exact M
 ·omega
theorem Step.aw (hs:Step w w' b h g):Chg (Aw b h n) w w':=hs.1.mono fun i _ M=>.inl M
theorem Step.aw_g (hs:Step w w' b h g) (O:n<=w.heap.size):Aw b h n g:=by
 rcases hs.2 with M | ⟨_,M⟩
 ·exact .inl (.inr M)
 ·exact .inr (by omega)
theorem Chg.then (h:Chg S a w) (k:Chg S w c):Chg S a c:=h.trans k fun _ _ x=>x
theorem RdA.go (h:RdA S w A xs) (M:Chg S w w'):RdA S w' A xs:=h.keep M (fun _ _ x=>x) (fun _ _ x=>x)
theorem Chg.step (X:Chg (Aw b h w.heap.size) w w') (O:h=some g\/(h=none/\w.heap.size<=g)):Step w w' b h g:=
 ⟨X.mono fun i Y M=>by
  rcases M with M | M
  ·exact M
  ·omega,O⟩
end
def tl (ks:Nat->UInt8) (u n:Nat) (p:List UInt8) (i:Nat):List UInt8:=(mixL ks u n p).take i++(Dp ks u n p.length).drop i
theorem tl_at (ks:Nat->UInt8) (u n:Nat) (p:List UInt8) (i:Nat) (h:i<p.length) (M:i<(Dp ks u n p.length).length):(bvs (tl ks u n p i)).toArray[i]? = some (bv (Dp ks u n p.length)[i]):=by
 rw[List.getElem?_toArray];unfold bvs tl;rw[List.getElem?_map,List.getElem?_append_right (by rw[List.length_take,Bs];omega),List.length_take,Bs,show i - min i p.length=0 by omega,List.getElem?_drop,Nat.add_zero,List.getElem?_eq_getElem M];rfl
theorem XH (ks:Nat->UInt8) (u n:Nat) (p:List UInt8) (i:Nat) (h:i<p.length) (M:i<(Dp ks u n p.length).length):(bvs (tl ks u n p i)).toArray.setIfInBounds i (bv (p[i] ^^^ (Dp ks u n p.length)[i]))=(bvs (tl ks u n p (i+1))).toArray:=by
 rw[List.setIfInBounds_toArray]
 congr 1
 unfold bvs;rw[<-List.map_set]
 congr 1
 have e:(mixL ks u n p).take (i+1)=(mixL ks u n p).take i++[p[i] ^^^ (Dp ks u n p.length)[i]]:=by
  rw[List.take_add_one,Qj ks u n p i h M];rfl
 have O:((mixL ks u n p).take i).length=i:=by rw[List.length_take,Bs];omega
 unfold tl;rw[e,List.set_append_right _ _ (by omega),O,Nat.sub_self,List.append_assoc,List.drop_eq_getElem_cons M]
 rfl
theorem XI (ks:Nat->UInt8) (u n:Nat) (p:List UInt8):tl ks u n p p.length=mixL ks u n p:=by
 rw[tl,List.take_of_length_le (by rw[Bs];exact Nat.le_refl _),List.drop_of_length_le (by rw[BR];exact Nat.le_refl _),List.append_nil]
theorem VV (ks:Nat->UInt8) (u n:Nat) (p:List UInt8):tl ks u n p 0=Dp ks u n p.length:=by
 rw[tl,List.take_zero,List.drop_zero,List.nil_append]
theorem xor_b (x y:UInt8):bits .xor .u8 (y.toNat:Int) (x.toNat:Int)=((x ^^^ y).toNat:Int):=by
 rw[u8_xor_nat _ _ y.toNat_lt x.toNat_lt,UInt8.toNat_xor,Nat.xor_comm]
theorem XJ (u n:Nat) (hu:u<=255):((n:Int)*256 % 18446744073709551616+(u:Int)) % 18446744073709551616=((sn u n:Nat):Int):=by unfold sn;omega
theorem Qp (b:Nat) (ks:Nat->UInt8) (h:Option Nat) (a o r u n:Nat) (A:Option Addr) (c:Nat) (w:World) (hu:u<=255) (hn:n<18446744073709551616) (hK:Box w b ks h a o r) :
  Calls Tryz.prog 103 #[.pointer (some ⟨b,0,none⟩),.int .i64 (u:Int),.int .u64 (n:Int),.slice A 0 c] w fun e w'=>∃g,e=.returned (.slice none 0 0)/\Box w' b ks (some g) a o r/\Step w w' b h g:=by
 have cn:=GD b ks h a o r w hK;have ab:(0:Int)<=(u:Int):=by omega
 clear hK;have HU:=I hu;clear hu;have HN:=I hn;clear hn;go_enter Tryz.func103,Tryz.ntmps103
 go_wp2_with (first
  |(go_at_call 152;refine Ah cn ?_;rintro w1 ⟨g,M,X⟩;clear cn;have aa:=M.1.cp;have O:=(fun N=>Sp.Od (some ⟨g,0,none⟩) N 0 w1 (.inr (by decide)));have Y:=I M;have Z:=I X;clear M X)
  |(go_at_call 153;refine Ah (O _) ?_;rintro w2 hw;have hw:=hw.symm;subst hw;clear O aa))
 go_loopw [27] (fun iv wr=>iv=.int .i64 0/\wr=w1) (fun iv _=>0)
 case atStart=>exact⟨rfl,rfl⟩
 case round=>
  obtain⟨rfl,rfl⟩:=hrel
  go_wp2_with fail
  go_ret;exact⟨g,rfl,Y.o,Z.o⟩
theorem Qq (u n:Nat) (hu:u<=255):IntKind.u64.wrap (IntKind.u64.wrap ((n:Int)*256)+IntKind.u64.wrap (u:Int))=((sn u n:Nat):Int):=by
 rw[IntKind.wrap_u64,IntKind.wrap_u64,IntKind.wrap_u64];unfold sn;omega
theorem XK (u n:Nat):sn u n<18446744073709551616:=Nat.mod_lt _ (by decide)
theorem Qr (b:Nat) (ks:Nat->UInt8) (h:Option Nat) (a o r u n:Nat) (A:Option Addr) (m c:Nat) (p:List UInt8) (w:World) (hu:u<=255) (hn:n<18446744073709551616) (hm:m=p.length) (az:1<=m) (ay:m<=1000) (hr:RdA (Ow b h) w A (bvs p)) (hK:Box w b ks h a o r) :
  Calls Tryz.prog 103 #[.pointer (some ⟨b,0,none⟩),.int .i64 (u:Int),.int .u64 (n:Int),.slice A m c] w fun e w'=>∃g q,e=.returned (.slice (some ⟨q,0,none⟩) m m)/\w.heap.size<=q/\q≠g/\Blk w' q 5 (bvs (mixL ks u n p)).toArray/\Box w' b ks (some g) a o r/\Step w w' b h g:=by
 have cn:=GD b ks h a o r w hK;obtain⟨N,eN⟩:=Aj (sn u n);have ah:=Qq u n hu;have X:=XK u n;rw[<-eN] at ah X;have ae:Sp.strm (Sp.kw ks) (Sp.upW N) (Sp.loW N) m=Dp ks u n m:=by rw[eN];rfl
 have ad:=hK.lt;clear hK;have HR:=I (hr.aw Af);clear hr;have HU:=I hu;clear hu;have HN:=I hn;clear hn;have HM:=I hm;clear hm;have aK:=I az;clear az;have au:=I ay;clear ay;have aG:=I X;clear X;have aL:=I ae;clear ae;have aH:=I ah;clear ah;have BL:=I ad;clear ad;clear eN;go_enter Tryz.func103,Tryz.ntmps103
 go_wp2_with (first
  |(go_at_call 152;refine Ah cn ?_;rintro w1 ⟨g,ak,aB⟩;clear cn;have aM:=ak.1.cp;obtain⟨al,ax,md,af⟩:=ak;have ai:=Sp.Oe g ks md N m (m:Int) w1 rfl aK.o (by have:=au.o;omega) aG.o af;rw[aL.o] at ai;have X1:=I al;have NE:=I ax;have GL:=I af.lt;have Y:=I aB;clear aB al ax af)
  |(go_at_call 153;rw[aH.o];refine Calls.mono ai ?_;rintro e w2 ⟨q,rfl,hq,hB,an,aw,_⟩;clear ai aM;have HQ:=I hq;have HB:=I hB;have aJ:=I an;have av:=I aw;clear hq hB an aw))
 have ar:(Dp ks u n m).length=m:=BR ks u n m
 go_loopw [27] (fun iv wr=>∃i:Nat,i<=m/\iv=.int .i64 (i:Int)/\Chg (fun k=>w1.heap.size<=k) w2 wr/\Blk wr q 5 (bvs (tl ks u n p i)).toArray) (fun iv _=>m - (intOf iv).toNat)
 case atStart=>exact⟨0,Nat.zero_le _,rfl,Chg.refl _ _,by rw[VV,<-HM.o];exact HB.o⟩
 case round=>
  obtain⟨i,hi,rfl,hc,aD⟩:=hrel;have HC:=I hc;clear hc;have ab:=I aD;clear aD;have aQ:=I ar;clear ar;have M:Chg (Aw b h w.heap.size) w w1/\Chg (Aw b h w.heap.size) w1 w2/\Chg (Aw b h w.heap.size) w2 wr:=
   ⟨Y.o.aw,Chg.of_grown av.o (Y.o.aw_g Af),HC.o.mono fun k _ hx=>.inr (Nat.le_trans Y.o.1.size hx)⟩
  by_cases hx:i=m
  ·subst hx
   have HA:=I M;clear M
   go_wp2_with fail
   go_ret;have aP:b<w1.heap.size:=X1.o.lt;have aE:XB w2 b ks 1 0 (some ⟨g,0,none⟩) (k2 ks) a o r:=Blk.grown X1.o av.o (fun e=>by injection e with e;exact NE.o e);have aF:q≠g:=by have:=GL.o;have:=HQ.o;omega
   refine⟨g,q,rfl,Nat.le_trans Y.o.1.size HQ.o,aF,?_,⟨aE.chg HC.o (by omega),NE.o,true,Qm aJ.o HC.o (by have:=GL.o;omega)⟩,?_⟩
   ·rw[<-XI,<-HM.o];exact ab.o
   ·exact((HA.o.1.then HA.o.2.1).then HA.o.2.2).step Y.o.2
  ·have aN:i<m:=by omega
   have aa:i<p.length:=by have:=HM.o;omega
   have e1:(i:Int)<(m:Int):=by omega
   have e2:(0:Int)<=(i:Int):=by omega
   have e3:(i:Int)<1000:=by have:=au.o;omega
   have ag:i<(Dp ks u n p.length).length:=by rw[BR];exact aa
   obtain⟨y,ey⟩:=Aj (p[i]);obtain⟨x,ex⟩:=Aj ((Dp ks u n p.length)[i]);obtain⟨z,ez⟩:=Aj (y ^^^ x);have aA:=((HR.o.go M.1).go M.2.1).go M.2.2;obtain⟨b2,o2,rfl,aI,_,Z⟩:=aA.resolve_left (by intro e;have:=AB p;rw[e] at this;simp at this;omega);have ao:=Z i _ (DR aa);have aC:wr.cell? ⟨q,i,none⟩=some (bv (Dp ks u n p.length)[i]):=by rw[ab.o.cell];exact tl_at ks u n p i aa ag
   have O:=XH ks u n p i aa ag;rw[<-ey] at ao O;rw[<-ex] at aC O;rw[<-ez] at O;simp only[bv] at ao aC;have aO:bits .xor .u8 (x.toNat:Int) (y.toNat:Int)=(z.toNat:Int):=by rw[ez];exact xor_b y x
   have fz:=ab.o.frozen;have aj:=I O;clear O;have HX:=I hx;clear hx;have HI:=I hi;clear hi;clear ey ex ez M aA Z aI ag
   go_wp2_with fail
   refine wp_region_still_tail 10 (by kernel_rfl) (by kernel_rfl) ?_;simp only[List.take_succ_cons,List.take_zero,List.drop_succ_cons,List.drop_zero];change wpStill _ _ wr.drew _ _ _
   repeat still_step
   refine wpStill_nil ?_;change wpList _ _ _ _ _ wr.drew
   go_wp2_with fail
   go_roundw
   case rel=>
    refine⟨i+1,by omega,by go_num,HC.o.drew.set (.inl HQ.o) _,?_⟩;have e:Blk wr.drew q 5 (bvs (tl ks u n p i)).toArray:=ab.o;have:=e.set i (bv z);rw[aj.o] at this;exact this
   case measure=>simp [intOf];omega
def Nw (n g i:Nat):Prop:=i<n\/i=g
theorem Ia (b:Nat) (ks:Nat->UInt8) (h:Option Nat) (a o r u n:Nat) (A:Option Addr) (m c:Nat) (p:List UInt8) (w:World) (hu:u<=255) (Y:n<18446744073709551616) (hm:m=p.length) (M:m<=1000) (hr:RdA (Ow b h) w A (bvs p)) (Z:Box w b ks h a o r) :
  Calls Tryz.prog 103 #[.pointer (some ⟨b,0,none⟩),.int .i64 (u:Int),.int .u64 (n:Int),.slice A m c] w fun e w'=>∃g Aq cq,e=.returned (.slice Aq m cq)/\m<=cq/\cq<=1000/\RdA (Nw w.heap.size g) w' Aq (bvs (mixL ks u n p))/\Box w' b ks (some g) a o r/\Step w w' b h g:=by
 rcases Nat.eq_zero_or_pos m with O | O
 ·subst O
  have hp:mixL ks u n p = []:=List.eq_nil_of_length_eq_zero (by rw[Bs];omega);refine(Qp b ks h a o r u n A c w hu Y Z).mono ?_;rintro e w' ⟨g,rfl,h1,X⟩;exact⟨g,none,0,rfl,Nat.le_refl _,by decide,by rw[hp];exact .inl rfl,h1,X⟩
 ·refine(Qr b ks h a o r u n A m c p w hu Y hm O M hr Z).mono ?_
  rintro e w' ⟨g,q,rfl,h1,X,h3,h4,h5⟩;refine⟨g,_,m,rfl,Nat.le_refl _,M,.inr ⟨q,0,rfl,h3.lt,?_,fun i v hv=>?_⟩,h4,h5⟩
  ·rintro(hx | hx)
   ·omega
   ·exact X hx
  ·rw[Nat.zero_add,h3.cell,List.getElem?_toArray];exact hv
theorem UO (u:Nat) (hu:u<=255):bv (UInt8.ofNat u)=.int .u8 (u:Int):=by
 unfold bv;rw[UInt8.toNat_ofNat',Nat.mod_eq_of_lt (by omega)]
theorem SW {w:World} (u:Nat) (hu:u<=255) (A:Option Addr) (m c:Nat) (l:List UInt8) (t M:TypeId) (hm:m=l.length) (O:Rd w w.heap.size A (bvs l)) :
  Si.Rows ((w.alloc (.cells #[.int .u8 (u:Int)] t)).alloc (.cells #[.slice (some ⟨w.heap.size,0,none⟩) 1 1,.slice A m c] M)) ((w.alloc (.cells #[.int .u8 (u:Int)] t)).alloc (.cells #[.slice (some ⟨w.heap.size,0,none⟩) 1 1,.slice A m c] M)).heap.size (some ⟨w.heap.size+1,0,none⟩) [[UInt8.ofNat u],l]:=by
 have h:=Si.Ok (w:=w.alloc (.cells #[.int .u8 (u:Int)] t)) M [.slice (some ⟨w.heap.size,0,none⟩) 1 1,.slice A m c] [[UInt8.ofNat u],l] #[.slice (some ⟨w.heap.size,0,none⟩) 1 1,.slice A m c] rfl rfl (fun i X=>by
  match i,X with
  |0,_=>
   refine⟨some ⟨w.heap.size,0,none⟩,1,rfl,?_⟩;have:=Si.FO w t #[.int .u8 (u:Int)] [.int .u8 (u:Int)] rfl w.heap.size rfl;rw[show bvs [[UInt8.ofNat u],l][0] = [.int .u8 (u:Int)] from by show [bv (UInt8.ofNat u)]=_;rw[UO u hu]];exact this.more (by simp)
  |1,_=>exact⟨A,c,by rw[hm];rfl,(O.alloc Af _).more (by simp)⟩)
 have e:(w.alloc (.cells #[.int .u8 (u:Int)] t)).heap.size=w.heap.size+1:=by simp
 rw[e] at h;exact h
theorem Qs (b:Nat) (ks:Nat->UInt8) (h:Option Nat) (a o r u:Nat) (A:Option Addr) (m c:Nat) (l:List UInt8) (w:World) (hu:u<=255) (hm:m=l.length) (ah:m<=1000) (hr:RdA (Ow b h) w A (bvs l)) (hK:Box w b ks h a o r) :
  Calls Tryz.prog 151 #[.pointer (some ⟨b,0,none⟩),.int .i64 (u:Int),.slice A m c] w fun e w'=>∃g,e=.returned (.int .u64 (tagL ks u l:Nat))/\Box w' b ks (some g) a o r/\Step w w' b h g:=by
 have cn:=GD b ks h a o r w hK;have M:∀O,Rd O O.heap.size A (bvs l)->_:=fun O h1=>Si.VQ (k2 ks) (some ⟨O.heap.size+1,0,none⟩) 2 2 [[UInt8.ofNat u],l] _ rfl (by decide) (by simp [Si.flat];omega) (SW u hu A m c l 5 24 hm h1)
 have af:Si.flat [[UInt8.ofNat u],l]=UInt8.ofNat u :: l:=by simp [Si.flat]
 rw[af] at M;have i2:=IK (k2 ks);have X:Si.AM (k2 ks)=Sp.AM (k2 ks):=rfl;rw[X] at M;obtain⟨T,eT⟩:=Aj (tagL ks u l);have hT:∀e,e=Ending.returned (Si.wv (Si.Hc (k2 ks) (UInt8.ofNat u :: l)))->e=.returned (.int .u64 (T:Int)):=fun e h=>by rw[h,eT];rfl
 rw[<-eT];have HR:=I (hr.aw Af);clear hr;have au:(u:Int)<=255:=by omega
 have ar:(0:Int)<=(u:Int):=by omega
 have al:(u:Int) % 256=(u:Int):=by omega
 have ao:IntKind.u8.wrap (u:Int)=(u:Int):=by rw[IntKind.wrap_u8'];exact al
 obtain⟨ds,Z⟩:=Aj (Sp.AM (k2 ks));have ab:∀O g,Box O b ks (some g) a o r->O.rangeAt b 36 ds.toList:=fun O g hb=>by rw[Z];exact XB.rangeD hb.1
 rw[<-Z] at i2 M;have RD:=I ab;clear ab;have I2:=I i2;clear i2;have HT:=I hT;clear hT;clear hK hm ah hu Z eT af X;go_enter Tryz.func151,Tryz.ntmps151
 go_wp2_with (first
  |(go_at_call 152;refine Ah cn ?_;rintro O ⟨g,Y,aa⟩;clear cn;have hs:=M O (HR.o.go aa.aw).rd;clear M;have ad:=RD.o O g Y;have aj:=I ad;have ai:=I Y;have ak:=I aa;clear Y aa ad)
  |(refine Ad (by rfl) 157 (.tmp 11) (by rfl) b 36 (by rfl) ds _ aj.o Tryz.underlying157 (by rfl) I2.o ?_)
  |(go_at_call 185;refine Calls.mono hs ?_;rintro e w2 ⟨he,ae⟩;have he:=HT.o e he;subst he;have an:=I ae;clear ae hs)
  |fail)
 go_ret;have hb:=((Below.refl O.heap.size O).alloc Af (Obj.cells #[.int .u8 (u:Int)] 5)).alloc (by simp) (Obj.cells #[.slice (some ⟨O.heap.size,0,none⟩) 1 1,.slice A m c] 24);have ag:=hb.trans (an.o.mono (by simp;omega));exact⟨g,rfl,ai.o.below ag,ak.o.then (Chg.of_below (S:=fun _=>False) ag) (fun _ _ x=>x.elim)⟩
theorem Es {S:Nat->Prop} {w:World} {base n:Nat} {v:Value} {xs:List Value} {t:TypeId} (h:w.ownsRow base t 1 v n xs) (hs:∀k,v.ownBlock=some k->¬S k):∃A c,v=.slice A n c/\n<=c/\c<=maxLen/\RdA S w A xs:=by
 have Z:=h;obtain⟨hl,⟨rfl,X⟩ | ⟨g,cap,cur,rfl,_,Y,M,O,_⟩⟩:=h
 ·subst X
  exact⟨none,0,rfl,Nat.le_refl _,Nat.zero_le _,.inl (List.eq_nil_of_length_eq_zero (by simpa using hl))⟩
 ·refine⟨_,cap,rfl,M,O,.inr ⟨g,0,rfl,(Array.getElem?_eq_some_iff.1 Y).1,hs g rfl,fun i u hu=>?_⟩⟩
  have:=Z.cells (g:=g) rfl i u hu
  rwa [addr_add] at this
theorem Box.seals {w:World} {b:Nat} {ks:Nat->UInt8} {g a o r:Nat} (h:Box w b ks (some g) a o r) (M:Nat):Box (w.setCell ⟨b,52,none⟩ (.int .i64 (M:Int))) b ks (some g) M o r:=by
 obtain⟨X,O,m,Y⟩:=h;exact⟨X.set_a M,O,m,Key.far Y _ _ (fun e=>O e.symm)⟩
theorem Box.opens {w:World} {b:Nat} {ks:Nat->UInt8} {g a o r:Nat} (h:Box w b ks (some g) a o r) (M:Nat):Box (w.setCell ⟨b,53,none⟩ (.int .i64 (M:Int))) b ks (some g) a M r:=by
 obtain⟨X,O,m,Y⟩:=h;exact⟨X.set_o M,O,m,Key.far Y _ _ (fun e=>O e.symm)⟩
theorem Box.refuses {w:World} {b:Nat} {ks:Nat->UInt8} {h:Option Nat} {a o r:Nat} (O:Box w b ks h a o r) (M:Nat):Box (w.setCell ⟨b,54,none⟩ (.int .i64 (M:Int))) b ks h a o M:=by
 cases h with
 |none=>exact XB.set_r O M
 |some g=>
  obtain⟨Y,X,m,Z⟩:=O;exact⟨Y.set_r M,X,m,Key.far Z _ _ (fun e=>X e.symm)⟩
theorem Qt {w w':World} {v:Value} (h:w.grownBy w' v.ownBlock):Chg (fun i=>v.ownBlock=some i) w w':=
 ⟨h.os,h.tape,h.output,h.size,fun k hk M=>h.block k hk (fun e=>M e.symm)⟩
theorem Step.same {w w':World} {b g O:Nat} (h:Step w w' b (some g) O):g=O:=by
 rcases h.2 with M | ⟨M,_⟩
 ·injection M
 ·cases M
def UP (B:Nat) (v:Value):Prop:=∀k,v.ownBlock=some k->B<=k
theorem Fw {w:World} {B n:Nat} {v:Value} {xs:List Value} {t:TypeId} (h:w.ownsRow B t 1 v n xs):UP B v:=fun k hk=>(h.lt k hk).1
theorem XL {B b:Nat} {ks:Nat->UInt8} {h:Option Nat} {a o r:Nat} {A:Option Addr} {xs:List Value} {w W w2:World} {v0:Value} (eB:B=w.heap.size) (Y:Box w b ks h a o r) (hR:RdA (Ow b h) w A xs) (O:Below B w W) (hv:UP B v0) (hc:Chg (fun i=>v0.ownBlock=some i) W w2) :
  Box w2 b ks h a o r/\RdA (Ow b h) w2 A xs/\Chg (Aw b h B) w w2:=by
 subst eB;have X:Chg (fun i=>w.heap.size<=i) w w2:=(Chg.of_below O).trans hc fun i _ M=>hv i M
 exact⟨Y.chg X (fun i Z M=>by have:=Y.own_lt i Z;omega),hR.keep X (fun i Z M=>by omega) (fun i _ M=>M),X.mono fun i _ M=>.inr M⟩
theorem XM {B b g n:Nat} {h:Option Nat} {w2 Y:World} {v1:Value} {xs:List Value} {t:TypeId} (M:∀i,Ow b h i->i<B) (hB:B<=w2.heap.size) (X:w2.ownsRow B t 1 v1 n xs) (hs:Step w2 Y b h g) :
  Y.ownsRow B t 1 v1 n xs/\(∀i,Ow b (some g) i->¬v1.ownBlock=some i)/\Aw b h B g:=by
 refine⟨hs.1.own X (fun k hk hx=>by have:=M k hx;have:=(X.lt k hk).1;omega),fun i O hk=>?_,hs.aw_g hB⟩;have h1:=X.lt i hk;rcases O with O | O
 ·have:=M i (.inl O);omega
 ·injection O with O
  rcases hs.2 with Z | ⟨_,Z⟩
  ·have:=M i (.inr (O▸Z));omega
  ·omega
theorem XN {b g:Nat} {ks:Nat->UInt8} {a o r:Nat} {O X:World} {v1 v4:Value} (Z:Box O b ks (some g) a o r) (Y:∀i,Ow b (some g) i->¬v1.ownBlock=some i) (hg:O.grownBy X v1.ownBlock) (M:v4.ownBlock=v1.ownBlock\/v4.ownBlock=some O.heap.size) :
  Box X b ks (some g) a o r/\(∀i,v4.ownBlock=some i->¬Ow b (some g) i):=by
 refine⟨Z.chg (Qt hg) Y,fun i hk hi=>?_⟩;rcases M with h | h
 ·exact Y i hi (h▸hk)
 ·rw[h] at hk
  injection hk with hk;have:=Z.own_lt i hi;omega
theorem VW (b:Nat) (ks:Nat->UInt8) (h:Option Nat) (a o r u n:Nat) (A:Option Addr) (m c:Nat) (p:List UInt8) (w:World) (ha:a<1000000) (hu:u<=255) (hn:n<=1099511627776) (hm:m=p.length) (aF:m<=784) (hr:RdA (Ow b h) w A (bvs p)) (hK:Box w b ks h a o r) :
  Calls Tryz.prog 131 #[.pointer (some ⟨b,0,none⟩),.int .i64 (u:Int),.int .i64 (n:Int),.slice A m c] w fun e w'=>∃g Aq cq,e=.returned (.tuple #[.slice Aq (m+16) cq,.int .i64 0])/\m+16<=cq/\cq<=maxLen/\RdA (Nw w.heap.size g) w' Aq (bvs (Du ks u n p))/\Box w' b ks (some g) (a+1) o r/\Step w w' b h g:=by
 obtain⟨ib,aK,aG,ax,aS⟩:=info_parts Si.Cd;have bg:=fun W=>Dy (P:=Tryz.prog) (t:=24) (e:=5) Tryz.underlying24 aK aG ax aS ((m:Int)+16) (m+16) (by omega) (by omega) W
 have f1:=Ee (u:Int) true (by simp;omega);have f2:=Fv n true (by simp;omega);obtain⟨B,eB⟩:=Aj (w.heap.size);have ae:=World.ownsRow_made (e:=5) (base:=B) (size:=1) w (Da (m+16)) (m+16) (by omega) (by unfold maxLen;omega) (by rw[DC,Nat.mul_one]);have c1:=Nd B _ 0 n [] _ (by omega) (by decide) (by simp;omega) ae;rw[Nat.zero_add,List.nil_append] at c1;have aU:Below B w (w.alloc (.cells (Da (m+16)) 5)):=eB▸Ag.alloc Af _;have aW:∀i,Ow b h i->i<B:=fun i hi=>eB▸hK.own_lt i hi
 have aJ:=Fw ae;have ba:=I aJ;clear aJ;have HK:=I hK;clear hK;have HR:=I hr;clear hr;have AL:=I aU;clear aU;have OL:=I aW;clear aW;have EB:=I eB;have q1:(n:Int)<=1099511627776:=by omega
 have q2:(0:Int)<=(n:Int):=by omega
 have q3:(m:Int)<=784:=by omega
 have q4:IntKind.u64.wrap (n:Int)=(n:Int):=by rw[IntKind.wrap_u64];omega
 have q5:IntKind.i64.wrap ((m:Int)+16)=(m:Int)+16:=by rw[IntKind.wrap_i64];omega
 have q6:decide ((n:Int)<0)=false:=by simp
 have q7:decide (784<(m:Int))=false:=by simp;omega
 obtain⟨L,eL⟩:=Aj (EI ks u n p);have ay:bvs (w8 n)++bvs (mixL ks u n p)=bvs L:=by rw[eL,EI,BH]
 have aP:8+m=L.length:=by rw[eL,BV,<-hm]
 obtain⟨T,eT⟩:=Aj (tagL ks u L);have aM:T<18446744073709551616:=by rw[eT];exact JT _ _ _
 have ak:bvs (L++w8 T)=bvs (Du ks u n p):=by rw[eT,eL];rfl
 have EL:=I ay;clear ay;have LL:=I aP;clear aP;have TL:=I aM;clear aM;have aZ:=I ak;clear ak;have ET:=I eT;clear eT;clear eL;have HA:=I ha;clear ha;have HU:=I hu;clear hu;have HN:=I hn;clear hn;have HM:=I hm;clear hm;have ad:=I aF;clear aF;have C1:=I c1;clear c1;clear ae eB;go_enter Tryz.func131,Tryz.ntmps131
 go_wp2_with (first
  |(go_at_call 101;refine Ah (f1 _) ?_;rintro wq hw;have hw:=hw.symm;subst hw;clear f1)
  |(go_at_call 150;refine Ah (f2 _) ?_;rintro wq hw;have hw:=hw.symm;subst hw;clear f2)
  |(go_at_call 166;refine Calls.mono C1.o ?_;rintro e w2 ⟨v1,rfl,Y,aj,ao⟩;clear C1 bg;obtain⟨aH,aD,au⟩:=XL EB.o HK.o HR.o AL.o ba.o aj;have ct:=Ia b ks h a o r u n A m c p w2 HU.o (by have:=HN.o;omega) HM.o (by have:=ad.o;omega) aD aH;have O1:=I Y;have C2:=I au;have W2:=I au.size;clear Y aj ao aH aD au)
  |(go_at_call 103;refine Calls.mono ct ?_;rintro e w3 ⟨g,Aq,cq,rfl,aI,az,aL,aY,ai⟩;clear ct;obtain⟨aX,aN,aA⟩:=XM OL.o (by have:=W2.o;have:=EB.o;omega) O1.o ai;have O3:=I aX;have N3:=I aN;have G3:=I aA;have Q3:=I aL;have B3:=I aY;have S3:=I ai;have W3:=I ai.1.size;clear aI az aL aY ai aX aN aA)
  |(at_builtin;refine AF _ (by rfl) (.tmp 41) (.tmp 47) 24 (by rfl) B 5 ib _ 1 Tryz.underlying24 aK aG ax aS (by rfl) v1 8 (bvs (w8 n)) (by rfl) O3.o w3.heap.size Aq m cq (bvs (mixL ks u n p)) (by rfl) (by rw[AB,Bs];exact HM.o) Q3.o.rd (BM _) (by have:=ad.o;unfold maxLen;omega) (by have:=ad.o;omega) (by have:=W2.o;have:=W3.o;have:=EB.o;omega) ?_;intro v4 w4 O M al;obtain⟨aB,ar⟩:=XN B3.o N3.o M al;rw[EL.o] at O;obtain⟨A4,c4,bj,bl,_,aR⟩:=Es O ar;subst bj;have av:=Qs b ks (some g) a o r u A4 (8+m) c4 L w4 HU.o LL.o (by have:=ad.o;omega) aR aB;rw[<-ET.o] at av;have O4:=I O;have N4:=I ar;have G4:=I M;have bh:=I (Fw O);have W4:=I M.size;clear O M al aB ar aR bl)
  |(go_at_call 151;refine Calls.mono av ?_;rintro e w5 ⟨g2,rfl,aT,ab⟩;clear av;have bm:=ab.same;subst bm;have aC:=ab.1.own O4.o N4.o;have c6:=Nd B _ (8+m) T L w5 TL.o (by have:=ad.o;omega) (by have:=W2.o;have:=W3.o;have:=W4.o;have:=ab.1.size;have:=EB.o;omega) aC;have B5:=I aT;have S5:=I ab;clear aC aT ab)
  |(go_at_call 166;refine Calls.mono c6 ?_;rintro e w6 ⟨v6,rfl,ag,af,aa⟩;clear c6;have ah:=B5.o.chg af (fun i hi hk=>N4.o i hk hi);have an:=add_one ⟨b,52,none⟩ a w6 HA.o ah.1.ca (ah.1.fz 52);have O6:=I ag;have C6:=I af;have N6:=I aa;have B6:=I ah;clear ag af aa ah)
  |(go_at_call 88;refine Ah an ?_;rintro w7 aw;clear an;have Z:=I aw;clear aw)
  |fail)
 have aV:∀k,v6.ownBlock=some k->B<=k/\k≠g/\k≠b:=fun k hk=>by
  have h1:=Fw O6.o k hk;have h2:=OL.o b (.inl rfl);refine⟨h1,fun e=>?_,by omega⟩;rcases N6.o k hk with h3 | h3
  ·exact N4.o k h3 (.inr (by rw[e]))
  ·have:=B5.o.lt_g;omega
 have bo:w.heap.size<=w7.heap.size:=by
  have e:w7.heap.size=w6.heap.size:=by rw[Z.o];simp [World.setCell]
  have:=W2.o;have:=W3.o;have:=W4.o;have:=S5.o.1.size;have:=C6.o.size;omega
 have aQ:w7.ownsRow B 5 1 v6 (8+m+8) (bvs (L++w8 T)):=by
  rw[Z.o];exact((Chg.refl (fun i=>i=b) w6).set (.inl rfl) _).own O6.o (fun k hk=>(aV k hk).2.2)
 rw[aZ.o] at aQ;obtain⟨A7,c7,bf,aE,bn,bb⟩:=Es (S:=Nw w.heap.size g) aQ (fun k hk X=>by
  have h1:=aV k hk;have:=EB.o;rcases X with X | X
  ·omega
  ·exact h1.2.1 X)
 have bd:Chg (Aw b h w.heap.size) w w7:=by
  rw[<-EB.o];have aO:∀i,Ow b (some g) i->Aw b h B i:=fun i hi=>by
   rcases hi with hi | hi
   ·exact .inl (.inl hi)
   ·injection hi with hi;exact hi▸G3.o
  have h4:Chg (Aw b h B) w3 w4:=(Qt G4.o).mono fun i _ X=>.inr ((Fw O3.o) i X)
  have h5:Chg (Aw b h B) w4 w5:=S5.o.1.mono fun i _ X=>aO i X
  have h6:Chg (Aw b h B) w5 w6:=C6.o.mono fun i _ X=>.inr (bh.o i X)
  have h7:Chg (Aw b h B) w6 w7:=by rw[Z.o];exact(Chg.refl _ w6).set (.inl (.inl (.inl rfl))) _
  exact((((C2.o.then S3.o.aw).then h4).then h5).then h6).then h7
 have B7:Box w7 b ks (some g) (a+1) o r:=by rw[Z.o];exact B6.o.seals (a+1)
 clear Z;subst bf
 go_wp2_with fail
 go_ret2
 rw[show 8+m+8=m+16 by omega] at aE;exact⟨g,A7,c7,by show Ending.returned (.tuple #[.slice A7 (8+m+8) c7,.int .i64 0])=_;rw[show 8+m+8=m+16 by omega],aE,bn,bb,B7,bd.step (S3.o.2.imp id (fun X=>⟨X.1,by have:=W2.o;omega⟩))⟩
end Se
end Go.Proofs.YtlccngianpfalaaGreat
