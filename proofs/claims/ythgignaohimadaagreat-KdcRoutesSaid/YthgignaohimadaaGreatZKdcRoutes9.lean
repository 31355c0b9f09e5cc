import Derived.Test.YthgignaohimadaaGreatZKdcRoutes6
import Derived.Test.YthgignaohimadaaGreatZKdcRoutes8
set_option maxHeartbeats 25600000
set_option maxRecDepth 100000
set_option linter.unusedVariables false
set_option linter.unusedSimpArgs false
namespace Go.Proofs.YthgignaohimadaaGreat
namespace Se
open Go.RowKit Af
def w8 (n:Nat):List UInt8:=(List.range 8).map fun j=>UInt8.ofNat (n / 2 ^ (56 - 8*j))
theorem Dn (n:Nat):(w8 n).length=8:=by simp [w8]
def big:Nat->List UInt8->Nat
 |a,[]=>a
 |a,b :: l=>big (a*256+b.toNat) l
theorem PM (b:UInt8):∀(l:List UInt8) (a:Nat),big a (l++[b])=big a l*256+b.toNat
 | [],_=>rfl
 |c :: l,a=>PM b l (a*256+c.toNat)
theorem Ym:∀(l:List UInt8) (a:Nat),big a l<(a+1)*256 ^ l.length
 | [],a=>by simp [big]
 |b :: l,a=>by
  have h:=Ym l (a*256+b.toNat);have D:=b.toNat_lt;refine Nat.lt_of_lt_of_le h ?_;rw[List.length_cons,Nat.pow_succ,Nat.mul_comm (256 ^ l.length),<-Nat.mul_assoc];exact Nat.mul_le_mul_right _ (by omega)
def n8 (l:List UInt8):Nat:=big 0 (l.take 8)
theorem Ov (n:Nat):w8 n = [UInt8.ofNat (n / 2 ^ 56),UInt8.ofNat (n / 2 ^ 48),UInt8.ofNat (n / 2 ^ 40),UInt8.ofNat (n / 2 ^ 32),UInt8.ofNat (n / 2 ^ 24),UInt8.ofNat (n / 2 ^ 16),UInt8.ofNat (n / 2 ^ 8),UInt8.ofNat (n / 2 ^ 0)]:=rfl
theorem cG (n:Nat) (h:n<18446744073709551616) (l:List UInt8):n8 (w8 n++l)=n:=by
 unfold n8;rw[List.take_append_of_le_length (by rw[Dn];exact Nat.le_refl _),List.take_of_length_le (by rw[Dn];exact Nat.le_refl _),Ov];simp only[big,UInt8.toNat_ofNat'];omega
theorem n8_w8' (n:Nat) (h:n<18446744073709551616):n8 (w8 n)=n:=by
 have:=cG n h []
 rwa [List.append_nil] at this
theorem w8_at (n j:Nat) (h:j<8):(w8 n)[j]? = some (UInt8.ofNat (n / 2 ^ (56 - 8*j))):=by
 simp [w8,h]
theorem ZV (n j:Nat) (h:j<8):(w8 n).take (j+1)=(w8 n).take j++[UInt8.ofNat (n / 2 ^ (56 - 8*j))]:=by
 rw[List.take_add_one,w8_at n j h];rfl
theorem WL (l:List UInt8) (j:Nat) (h:j<l.length):big 0 (l.take (j+1))=big 0 (l.take j)*256+(l[j]).toNat:=by
 rw[List.take_succ_eq_append_getElem h,PM]
theorem Ox (l:List UInt8) (j:Nat):big 0 (l.take j)<256 ^ j:=by
 have h:=Ym (l.take j) 0;rw[Nat.zero_add,Nat.one_mul] at h;exact Nat.lt_of_lt_of_le h (Nat.pow_le_pow_right (by decide) (by rw[List.length_take];omega))
def sn (u n:Nat):Nat:=(n*256+u) % 18446744073709551616
def Dp (ks:Nat->UInt8) (u n m:Nat):List UInt8:=Sp.strm (Sp.kw ks) (BitVec.ofNat 32 (sn u n / 4294967296)) (BitVec.ofNat 32 (sn u n)) m
theorem BQ (ks:Nat->UInt8) (u n m:Nat):(Dp ks u n m).length=m:=Sp.Oj _ _ _ _
def xorL (p s:List UInt8):List UInt8:=List.zipWith (· ^^^ ·) p s
def mixL (ks:Nat->UInt8) (u n:Nat) (p:List UInt8):List UInt8:=xorL p (Dp ks u n p.length)
theorem Bw (ks:Nat->UInt8) (u n:Nat) (p:List UInt8):(mixL ks u n p).length=p.length:=by
 simp [mixL,xorL,BQ]
theorem PO:∀p s:List UInt8,p.length<=s.length->xorL (xorL p s) s=p
 | [],_,_=>by simp [xorL]
 |a :: p,[],h=>by simp at h
 |a :: p,b :: s,h=>by
  have D:=PO p s (by simpa using h);unfold xorL at D⊢;rw[List.zipWith_cons_cons,List.zipWith_cons_cons,D]
  congr 1
  apply UInt8.toNat_inj.1;rw[UInt8.toNat_xor,UInt8.toNat_xor,Nat.xor_assoc,Nat.xor_self,Nat.xor_zero]
theorem TP (ks:Nat->UInt8) (u n:Nat) (p:List UInt8):mixL ks u n (mixL ks u n p)=p:=by
 have e:mixL ks u n (mixL ks u n p)=xorL (xorL p (Dp ks u n p.length)) (Dp ks u n p.length):=by
  rw[mixL,Bw];rfl
 rw[e,PO _ _ (by rw[BQ];exact Nat.le_refl _)]
theorem TQ (ks:Nat->UInt8) (u n:Nat) (p:List UInt8) (i:Nat) (h:i<p.length) (D:i<(Dp ks u n p.length).length):(mixL ks u n p)[i]? = some (p[i] ^^^ (Dp ks u n p.length)[i]):=by
 unfold mixL xorL;rw[List.getElem?_zipWith,List.getElem?_eq_getElem h,List.getElem?_eq_getElem D]
def k2 (ks:Nat->UInt8) (i:Nat):UInt8:=ks (16+i)
def tagL (ks:Nat->UInt8) (u:Nat) (l:List UInt8):Nat:=(Si.Ic (k2 ks) (UInt8.ofNat u :: l)).toNat
theorem Oy (ks:Nat->UInt8) (u:Nat) (l:List UInt8):tagL ks u l<18446744073709551616:=(Si.Ic (k2 ks) (UInt8.ofNat u :: l)).isLt
def Fb (ks:Nat->UInt8) (u n:Nat) (p:List UInt8):List UInt8:=w8 n++mixL ks u n p
theorem BU (ks:Nat->UInt8) (u n:Nat) (p:List UInt8):(Fb ks u n p).length=8+p.length:=by
 rw[Fb,List.length_append,Dn,Bw]
def DI (ks:Nat->UInt8) (u n:Nat) (p:List UInt8):List UInt8:=Fb ks u n p++w8 (tagL ks u (Fb ks u n p))
theorem BR (ks:Nat->UInt8) (u n:Nat) (p:List UInt8):(DI ks u n p).length=p.length+16:=by
 rw[DI,List.length_append,BU,Dn];omega
def Ig (l:List UInt8):List UInt8:=l.take (l.length - 8)
def Fq (l:List UInt8):List UInt8:=l.drop (l.length - 8)
def midL (l:List UInt8):List UInt8:=(Ig l).drop 8
def isL (ks:Nat->UInt8) (u:Nat) (l:List UInt8):Bool:=decide (16<=l.length)&&decide (l.length<=800)&&decide (n8 l<=1099511627776)&&decide (tagL ks u (Ig l)=n8 (Fq l))
def ZW (ks:Nat->UInt8) (u:Nat) (l:List UInt8):Option (List UInt8):=if isL ks u l=true then some (mixL ks u (n8 l) (midL l)) else none
theorem MV (ks:Nat->UInt8) (u n:Nat) (p:List UInt8):Ig (DI ks u n p)=Fb ks u n p:=by
 unfold Ig;rw[BR];unfold DI;rw[List.take_append_of_le_length (by rw[BU];omega),List.take_of_length_le (by rw[BU];omega)]
theorem TS (ks:Nat->UInt8) (u n:Nat) (p:List UInt8):Fq (DI ks u n p)=w8 (tagL ks u (Fb ks u n p)):=by
 unfold Fq;rw[BR];unfold DI;rw[List.drop_append_of_le_length (by rw[BU];omega),List.drop_of_length_le (by rw[BU];omega),List.nil_append]
theorem PS (ks:Nat->UInt8) (u n:Nat) (p:List UInt8):midL (DI ks u n p)=mixL ks u n p:=by
 unfold midL;rw[MV,Fb,List.drop_append_of_le_length (by rw[Dn];exact Nat.le_refl _),List.drop_of_length_le (by rw[Dn];exact Nat.le_refl _),List.nil_append]
theorem Oz (ks:Nat->UInt8) (u n:Nat) (p:List UInt8) (D:n<18446744073709551616):n8 (DI ks u n p)=n:=by
 unfold DI Fb;rw[List.append_assoc,cG n D]
theorem Hc (ks:Nat->UInt8) (u n:Nat) (p:List UInt8) (D:n<=1099511627776) (hp:p.length<=784):ZW ks u (DI ks u n p)=some p:=by
 have h:isL ks u (DI ks u n p)=true:=by
  unfold isL;rw[BR,Oz ks u n p (by omega),MV,TS,n8_w8' _ (Oy _ _ _)];simp;omega
 rw[ZW,if_pos h,PS,Oz ks u n p (by omega),TP]
structure Chg (S:Nat->Prop) (w w':World):Prop where
 os:w'.os=w.os
 tape:w'.tape=w.tape
 output:w'.output=w.output
 size:w.heap.size<=w'.heap.size
 block:∀k,k<w.heap.size->¬S k->w'.heap[k]? = w.heap[k]?
section
variable {S T S':Nat->Prop} {a w w' c:World} {A:Option Addr} {xs:List Value} {g b:Nat} {t:TypeId} {cs:Array Value}
theorem Chg.refl (S:Nat->Prop) (w:World):Chg S w w:=⟨rfl,rfl,rfl,Nat.le_refl _,fun _ _ _=>rfl⟩
theorem Chg.trans (h:Chg S a w) (k:Chg T w c) (hs:∀i,i<a.heap.size->T i->S i):Chg S a c:=
 ⟨k.os.trans h.os,k.tape.trans h.tape,k.output.trans h.output,Nat.le_trans h.size k.size,fun i hi D=>(k.block i (Nat.lt_of_lt_of_le hi h.size) (fun E=>D (hs i hi E))).trans (h.block i hi D)⟩
theorem Chg.mono (h:Chg S a w) (hs:∀i,i<a.heap.size->S i->T i):Chg T a w:=⟨h.os,h.tape,h.output,h.size,fun i hi D=>h.block i hi (fun x=>D (hs i hi x))⟩
theorem Chg.of_below (h:Below w.heap.size w w'):Chg S w w':=⟨h.os,h.tape,h.output,h.size,fun i hi _=>h.block i hi⟩
theorem Chg.of_grown (h:w.grownBy w' (some g)) (hs:S g):Chg S w w':=⟨h.os,h.tape,h.output,h.size,fun i hi D=>h.block i hi (fun e=>by injection e with e;subst e;exact D hs)⟩
theorem Chg.below (h:Chg S a w) {B:Nat} (hB:B<=a.heap.size) (hs:∀i,i<a.heap.size->S i->B<=i):Below B a w:=
 ⟨h.os,h.tape,h.output,h.size,fun i hi=>h.block i (by omega) (fun x=>by have:=hs i (by omega) x;omega)⟩
theorem Chg.blk (h:Chg S w w') (D:Blk w g t cs) (hs:¬S g):Blk w' g t cs:=(h.block g D.lt hs).trans D
theorem Chg.own (h:Chg S w w') {base n:Nat} {v:Value} (E:w.ownsRow base t 1 v n xs) (hs:∀k,v.ownBlock=some k->¬S k):w'.ownsRow base t 1 v n xs:=by
 refine⟨E.1,?_⟩;rcases E.2 with J | ⟨g,cap,cur,rfl,F,D,rest⟩
 ·exact .inl J
 ·exact .inr ⟨g,cap,cur,rfl,F,(h.block g (Array.getElem?_eq_some_iff.1 D).1 (hs g rfl)).trans D,rest⟩
theorem Chg.set (h:Chg S a w) {p:Addr} (hp:S p.block\/a.heap.size<=p.block) (u:Value):Chg S a (w.setCell p u):=
 ⟨h.os,h.tape,h.output,by simpa [World.setCell] using h.size,fun i hi D=>(Below.heap_setCell w p u i (by
  rintro rfl;rcases hp with hp | hp
  ·exact D hp
  ·omega)).trans (h.block i hi D)⟩
theorem Chg.alloc (h:Chg S a w) (o:Obj):Chg S a (w.alloc o):=
 ⟨h.os,h.tape,h.output,Nat.le_trans h.size (by simp),fun i hi D=>(Below.heap_alloc w o i (Nat.lt_of_lt_of_le hi h.size)).trans (h.block i hi D)⟩
theorem Chg.drew (h:Chg S a w):Chg S a w.drew:=⟨h.os,h.tape,h.output,h.size,h.block⟩
def RdA (S:Nat->Prop) (w:World) (A:Option Addr) (xs:List Value):Prop:=
 xs = []\/∃b o,A=some ⟨b,o,none⟩/\b<w.heap.size/\¬S b/\∀i u,xs[i]? = some u->w.cell? ⟨b,o+i,none⟩=some u
theorem RdA.rd (h:RdA S w A xs):Rd w w.heap.size A xs:=by
 rcases h with h | ⟨b,o,D,E,_,F⟩
 ·exact .inl h
 ·exact .inr ⟨b,o,D,E,F⟩
theorem RdA.keep (h:RdA S w A xs) (E:Chg T w w') (J:∀i,i<w.heap.size->T i->S i) (hs:∀i,i<w.heap.size->S' i->S i):RdA S' w' A xs:=by
 rcases h with h | ⟨b,o,M,D,F,N⟩
 ·exact .inl h
 ·exact .inr ⟨b,o,M,Nat.lt_of_lt_of_le D E.size,fun x=>F (hs b D x),fun i u hu=>(World.cell?_of_block (a:=⟨b,o+i,none⟩) (E.block b D (fun x=>F (J b D x)))).trans (N i u hu)⟩
theorem RdA.mono (h:RdA S w A xs) (hs:∀i,i<w.heap.size->S' i->S i):RdA S' w A xs:=h.keep (Chg.refl (fun _=>False) w) (fun _ _ x=>x.elim) hs
end
def Bx (ks:Nat->UInt8) (d s:Int) (p:Option Addr) (dg:Nat->UInt8) (a o r:Nat):Array Value:=
 ((List.range 32).map (fun i=>bv (ks i))++(([.int .u32 d,.int .i32 s,.int .u32 0,.pointer p]:List Value)++((List.range 16).map (fun j=>bv (dg j))++([.int .i64 (a:Int),.int .i64 (o:Int),.int .i64 (r:Int)]:List Value)))).toArray
def XB (w:World) (b:Nat) (ks:Nat->UInt8) (d s:Int) (p:Option Addr) (dg:Nat->UInt8) (a o r:Nat):Prop:=Blk w b 163 (Bx ks d s p dg a o r)
section
variable {w w':World} {b:Nat} {ks dg:Nat->UInt8} {d s:Int} {p:Option Addr} {a o r:Nat}
theorem Rj (i:Nat) (h:i<32):(Bx ks d s p dg a o r)[i]? = some (bv (ks i)):=by
 rw[Bx,List.getElem?_toArray,List.getElem?_append_left (by simpa using h)];simp [h]
theorem Ih (i:Nat) (h:i<4):(Bx ks d s p dg a o r)[32+i]? = ([.int .u32 d,.int .i32 s,.int .u32 0,.pointer p]:List Value)[i]?:=by
 rw[Bx,List.getElem?_toArray,List.getElem?_append_right (by simp),List.getElem?_append_left (by simpa using h)];simp
theorem TT (i:Nat) (h:i<16):(Bx ks d s p dg a o r)[36+i]? = some (bv (dg i)):=by
 rw[Bx,List.getElem?_toArray,List.getElem?_append_right (by simp;omega),List.getElem?_append_right (by simp;omega),List.getElem?_append_left (by simp;omega)];have e:36+i - (List.map (fun i=>bv (ks i)) (List.range 32)).length - ([.int .u32 d,.int .i32 s,.int .u32 0,.pointer p]:List Value).length=i:=by simp;omega
 rw[e];simp [h]
theorem JN (i:Nat) (h:i<3):(Bx ks d s p dg a o r)[52+i]? = ([.int .i64 (a:Int),.int .i64 (o:Int),.int .i64 (r:Int)]:List Value)[i]?:=by
 rw[Bx,List.getElem?_toArray,List.getElem?_append_right (by simp;omega),List.getElem?_append_right (by simp;omega),List.getElem?_append_right (by simp;omega)];have e:52+i - (List.map (fun i=>bv (ks i)) (List.range 32)).length - ([.int .u32 d,.int .i32 s,.int .u32 0,.pointer p]:List Value).length - (List.map (fun j=>bv (dg j)) (List.range 16)).length=i:=by simp;omega
 rw[e]
theorem XB.cell (h:XB w b ks d s p dg a o r) (i:Nat):w.cell? ⟨b,i,none⟩=(Bx ks d s p dg a o r)[i]?:=Blk.cell h i
theorem XB.ck (h:XB w b ks d s p dg a o r) (i:Nat) (hi:i<32):w.cell? ⟨b,i,none⟩=some (bv (ks i)):=(h.cell i).trans (Rj i hi)
theorem XB.cd (h:XB w b ks d s p dg a o r):w.cell? ⟨b,32,none⟩=some (.int .u32 d):=(h.cell 32).trans (Ih 0 (by decide))
theorem XB.cs (h:XB w b ks d s p dg a o r):w.cell? ⟨b,33,none⟩=some (.int .i32 s):=(h.cell 33).trans (Ih 1 (by decide))
theorem XB.cp (h:XB w b ks d s p dg a o r):w.cell? ⟨b,35,none⟩=some (.pointer p):=(h.cell 35).trans (Ih 3 (by decide))
theorem XB.cg (h:XB w b ks d s p dg a o r) (i:Nat) (hi:i<16):w.cell? ⟨b,36+i,none⟩=some (bv (dg i)):=(h.cell _).trans (TT i hi)
theorem XB.ca (h:XB w b ks d s p dg a o r):w.cell? ⟨b,52,none⟩=some (.int .i64 (a:Int)):=(h.cell 52).trans (JN 0 (by decide))
theorem XB.co (h:XB w b ks d s p dg a o r):w.cell? ⟨b,53,none⟩=some (.int .i64 (o:Int)):=(h.cell 53).trans (JN 1 (by decide))
theorem XB.cr (h:XB w b ks d s p dg a o r):w.cell? ⟨b,54,none⟩=some (.int .i64 (r:Int)):=(h.cell 54).trans (JN 2 (by decide))
theorem XB.fz (h:XB w b ks d s p dg a o r) (i:Nat):w.frozen? ⟨b,i,none⟩=false:=Blk.frozen h i
theorem XB.lt (h:XB w b ks d s p dg a o r):b<w.heap.size:=Blk.lt h
theorem cH (D:Int):(Bx ks d s p dg a o r).setIfInBounds 32 (.int .u32 D)=Bx ks D s p dg a o r:=by simp [Bx]
theorem cI (s':Int):(Bx ks d s p dg a o r).setIfInBounds 33 (.int .i32 s')=Bx ks d s' p dg a o r:=by simp [Bx]
theorem cJ (D:Option Addr):(Bx ks d s p dg a o r).setIfInBounds 35 (.pointer D)=Bx ks d s D dg a o r:=by simp [Bx]
theorem cM (D:Nat):(Bx ks d s p dg a o r).setIfInBounds 52 (.int .i64 (D:Int))=Bx ks d s p dg D o r:=by simp [Bx]
theorem cN (D:Nat):(Bx ks d s p dg a o r).setIfInBounds 53 (.int .i64 (D:Int))=Bx ks d s p dg a D r:=by simp [Bx]
theorem cO (D:Nat):(Bx ks d s p dg a o r).setIfInBounds 54 (.int .i64 (D:Int))=Bx ks d s p dg a o D:=by simp [Bx]
theorem XB.set_d (h:XB w b ks d s p dg a o r) (D:Int):XB (w.setCell ⟨b,32,none⟩ (.int .u32 D)) b ks D s p dg a o r:=by
 have:=Blk.set h 32 (.int .u32 D);rwa [cH] at this
theorem XB.set_s (h:XB w b ks d s p dg a o r) (s':Int):XB (w.setCell ⟨b,33,none⟩ (.int .i32 s')) b ks d s' p dg a o r:=by
 have:=Blk.set h 33 (.int .i32 s');rwa [cI] at this
theorem XB.set_p (h:XB w b ks d s p dg a o r) (D:Option Addr):XB (w.setCell ⟨b,35,none⟩ (.pointer D)) b ks d s D dg a o r:=by
 have:=Blk.set h 35 (.pointer D);rwa [cJ] at this
theorem XB.set_a (h:XB w b ks d s p dg a o r) (D:Nat):XB (w.setCell ⟨b,52,none⟩ (.int .i64 (D:Int))) b ks d s p dg D o r:=by
 have:=Blk.set h 52 (.int .i64 (D:Int));rwa [cM] at this
theorem XB.set_o (h:XB w b ks d s p dg a o r) (D:Nat):XB (w.setCell ⟨b,53,none⟩ (.int .i64 (D:Int))) b ks d s p dg a D r:=by
 have:=Blk.set h 53 (.int .i64 (D:Int));rwa [cN] at this
theorem XB.set_r (h:XB w b ks d s p dg a o r) (D:Nat):XB (w.setCell ⟨b,54,none⟩ (.int .i64 (D:Int))) b ks d s p dg a o D:=by
 have:=Blk.set h 54 (.int .i64 (D:Int));rwa [cO] at this
theorem XB.drew (h:XB w b ks d s p dg a o r):XB w.drew b ks d s p dg a o r:=h
theorem XB.chg {S:Nat->Prop} (h:XB w b ks d s p dg a o r) (D:Chg S w w') (hs:¬S b):XB w' b ks d s p dg a o r:=D.blk h hs
end
def TU (cs:Array Value):Nat->List Value->Array Value
 |_,[]=>cs
 |o,v :: l=>TU (cs.setIfInBounds o v) (o+1) l
theorem Blk.setCells {g:Nat} {t:TypeId}:∀(D:List Value) (o:Nat) (w:World) (cs:Array Value),Blk w g t cs->Blk (w.setCells g o D) g t (TU cs o D)
 | [],_,_,_,h=>h
 |v :: l,o,w,cs,h=>Blk.setCells l (o+1) _ _ (h.set o v)
theorem ZX (ks:Nat->UInt8) (d s:Int) (p:Option Addr) (dg D:Nat->UInt8) (a o r:Nat):TU (Bx ks d s p dg a o r) 36 (Si.AK D).toList=Bx ks d s p D a o r:=by kernel_rfl
theorem XB.set_dg {w:World} {b:Nat} {ks dg:Nat->UInt8} {d s:Int} {p:Option Addr} {a o r:Nat} (h:XB w b ks d s p dg a o r) (D:Nat->UInt8):XB (w.setCells b 36 (Si.AK D).toList) b ks d s p D a o r:=by
 have:=Blk.setCells (Si.AK D).toList 36 _ _ h
 rwa [ZX] at this
abbrev MW:Nat->UInt8:=fun _=>0
def Box (w:World) (b:Nat) (ks:Nat->UInt8) (h:Option Nat) (a o r:Nat):Prop:=
 match h with
 |none=>XB w b ks 0 0 none MW a o r
 |some g=>XB w b ks 1 0 (some ⟨g,0,none⟩) (k2 ks) a o r/\g≠b/\∃m,Sp.Key w g ks m
def Ow (b:Nat) (h:Option Nat) (i:Nat):Prop:=i=b\/h=some i
theorem Box.lt {w:World} {b:Nat} {ks:Nat->UInt8} {h:Option Nat} {a o r:Nat} (D:Box w b ks h a o r):b<w.heap.size:=by
 cases h with
 |none=>exact XB.lt D
 |some g=>exact XB.lt D.1
theorem Box.lt_g {w:World} {b g:Nat} {ks:Nat->UInt8} {a o r:Nat} (D:Box w b ks (some g) a o r):g<w.heap.size:=by
 obtain⟨_,_,m,hk⟩:=D;exact hk.lt
theorem Box.own_lt {w:World} {b:Nat} {ks:Nat->UInt8} {h:Option Nat} {a o r:Nat} (D:Box w b ks h a o r) (i:Nat) (hi:Ow b h i):i<w.heap.size:=by
 rcases hi with hi | hi
 ·subst hi;exact D.lt
 ·subst hi;exact D.lt_g
theorem TV {S:Nat->Prop} {w w':World} {g:Nat} {ks:Nat->UInt8} {m:Bool} (h:Sp.Key w g ks m) (D:Chg S w w') (hs:¬S g):Sp.Key w' g ks m:=by
 cases m with
 |false=>exact D.blk h hs
 |true=>exact D.blk h hs
theorem Box.chg {S:Nat->Prop} {w w':World} {b:Nat} {ks:Nat->UInt8} {h:Option Nat} {a o r:Nat} (E:Box w b ks h a o r) (D:Chg S w w') (hs:∀i,Ow b h i->¬S i):Box w' b ks h a o r:=by
 cases h with
 |none=>exact XB.chg E D (hs b (.inl rfl))
 |some g=>
  obtain⟨F,M,m,J⟩:=E;exact⟨F.chg D (hs b (.inl rfl)),M,m,TV J D (hs g (.inr rfl))⟩
theorem Box.below {w w':World} {b:Nat} {ks:Nat->UInt8} {h:Option Nat} {a o r:Nat} (D:Box w b ks h a o r) (E:Below w.heap.size w w'):Box w' b ks h a o r:=
 D.chg (S:=fun _=>False) (Chg.of_below E) (fun _ _ x=>x)
def Step (w w':World) (b:Nat) (h:Option Nat) (g:Nat):Prop:=Chg (Ow b h) w w'/\(h=some g\/(h=none/\w.heap.size<=g))
theorem Step.own {w w':World} {b g:Nat} {h:Option Nat} (hs:Step w w' b h g):∀i,i<w.heap.size->Ow b (some g) i->Ow b h i:=by
 intro i hi D;rcases D with D | D
 ·exact .inl D
 ·injection D with D
  subst D;rcases hs.2 with E | ⟨_,E⟩
  ·exact .inr E
  ·omega
theorem Step.trans {a w c:World} {b g F:Nat} {h:Option Nat} (E:Step a w b h g) (J:Step w c b (some g) F):F=g/\Step a c b h g:=by
 have e:F=g:=by
  rcases J.2 with D | ⟨D,_⟩
  ·injection D with D;exact D.symm
  ·cases D
 exact⟨e,E.1.trans J.1 E.own,E.2⟩
theorem Step.then {a w c:World} {b g:Nat} {h:Option Nat} {S:Nat->Prop} (D:Step a w b h g) (E:Chg S w c) (hs:∀i,i<a.heap.size->S i->Ow b h i):Step a c b h g:=⟨D.1.trans E hs,D.2⟩
def AY (ks:Nat->UInt8):Array Value:=((List.range 32).map (fun i=>bv (ks i))).toArray
theorem Am {P:Program} {ops:Array Oper} {rest:List Oper} {op:Oper} {a:Act} {w:World} {Q:Exit->Act->World->Prop} (D:op.guard=none) (ty:TypeId) (x:Operand) (F:op.op=.load ty x)
  (g o:Nat) (E:a.eval x=.pointer (some ⟨g,o,none⟩)) (cs:Array Value) (d:TypeDesc) (M:w.rangeAt g o cs.toList)
  (hu:P.underlying ty=some d) (J:d.isRow=true) (hi:(P.info? ty).map (·.size)=some cs.size)
  (h:wpList P ops Q rest (a.put op.dst (.agg cs)) w):wpList P ops Q (op :: rest) a w:=
 wpList_load_mid D ty x F g o E cs.toList d M hu J (by rw[Array.length_toList];exact hi) (by simpa using h)
theorem DB (ks:Nat->UInt8):(AY ks).size=32:=by simp [AY]
theorem Gm (ks:Nat->UInt8):(Tryz.prog.info? 36).map (·.size)=some (AY ks).size:=by rw[DB];kernel_rfl
theorem one32 (ks:Nat->UInt8):(AY ks).all (·.oneCell')=true:=by simp [AY,bv,Value.oneCell']
theorem Lw (ks:Nat->UInt8) (w:World):Calls Tryz.prog 28 #[.agg (AY ks)] w fun e w'=>∃b,e=.returned (.pointer (some ⟨b,0,none⟩))/\w.heap.size<=b/\Box w' b ks none 0 0 0/\Below w.heap.size w w':=by
 have hi:=Gm ks;obtain⟨cs,D⟩:=Ak (AY ks);rw[<-D] at hi⊢;have J:cs.size=32:=by rw[D];exact DB ks
 have F:=I hi;clear hi;have E:=I D;clear D;go_enter Tryz.func28,Tryz.ntmps28
 go_wp2_with (first
  |(refine Am (by rfl) 36 (.tmp 1) (by rfl) w.heap.size 0 (by rfl) cs _ (Si.Ae (Blk.new w 36 cs)) Tryz.underlying36 (by rfl) F.o ?_)
  |fail)
 go_ret;refine⟨w.heap.size+1,rfl,Nat.le_succ _,?_,((Below.refl w.heap.size w).alloc Ag _).alloc (by simp) _⟩;exact Sp.Blk.new_of (w.alloc _) _ 163 _ (Bx ks 0 0 none MW 0 0 0) (by rw[E.o];kernel_rfl) (by simp)
theorem XB.range1 {w:World} {b:Nat} {ks dg:Nat->UInt8} {d s:Int} {p:Option Addr} {a o r:Nat} (h:XB w b ks d s p dg a o r):w.rangeAt b 0 (Sp.AK ks).toList:=fun j v D=>by
 rw[Sp.AK,List.toList_toArray,List.getElem?_map] at D;rcases Nat.lt_or_ge j 16 with g | g
 ·rw[Nat.zero_add,h.ck j (by omega)];simpa [g] using D
 ·rw[List.getElem?_eq_none (by simpa using g)] at D;cases D
theorem XB.range2 {w:World} {b:Nat} {ks dg:Nat->UInt8} {d s:Int} {p:Option Addr} {a o r:Nat} (h:XB w b ks d s p dg a o r):w.rangeAt b 16 (Sp.AK (k2 ks)).toList:=fun j v D=>by
 rw[Sp.AK,List.toList_toArray,List.getElem?_map] at D;rcases Nat.lt_or_ge j 16 with g | g
 ·rw[h.ck (16+j) (by omega)];simpa [g,k2] using D
 ·rw[List.getElem?_eq_none (by simpa using g)] at D;cases D
theorem XB.rangeD {w:World} {b:Nat} {ks dg:Nat->UInt8} {d s:Int} {p:Option Addr} {a o r:Nat} (h:XB w b ks d s p dg a o r):w.rangeAt b 36 (Sp.AK dg).toList:=fun j v D=>by
 rw[Sp.AK,List.toList_toArray,List.getElem?_map] at D;rcases Nat.lt_or_ge j 16 with g | g
 ·rw[h.cg j (by omega)];simpa [g] using D
 ·rw[List.getElem?_eq_none (by simpa using g)] at D;cases D
theorem XB.thereD {w:World} {b:Nat} {ks dg:Nat->UInt8} {d s:Int} {p:Option Addr} {a o r:Nat} (h:XB w b ks d s p dg a o r):w.there b 36 16:=fun j D=>⟨by rw[h.cg j D];rfl,h.fz _⟩
theorem Bg (f:Nat->UInt8):(Sp.AK f).size=16:=by simp [Sp.AK]
theorem JO (f:Nat->UInt8):(Tryz.prog.info? 161).map (·.size)=some (Sp.AK f).size:=by rw[Bg];kernel_rfl
theorem TW (f:Nat->UInt8):(Sp.AK f).all (·.oneCell')=true:=by simp [Sp.AK,bv,Value.oneCell']
theorem KH {a w:World} {b:Nat}:∀(D:List Value) (o:Nat) (w:World),a.grownBy w (some b)->a.grownBy (w.setCells b o D) (some b)
 | [],_,_,h=>h
 |v :: r,o,w,h=>KH (w:=w) r (o+1) _ (AU h (.inl rfl) v)
theorem Key.far {w:World} {g:Nat} {ks:Nat->UInt8} {m:Bool} (h:Sp.Key w g ks m) (p:Addr) (u:Value) (hp:p.block≠g):Sp.Key (w.setCell p u) g ks m:=by
 cases m with
 |false=>exact Si.Blk.far h p u hp
 |true=>exact Si.Blk.far h p u hp
theorem Key.fars {g b:Nat} {ks:Nat->UInt8} {m:Bool} (D:b≠g):∀(E:List Value) (o:Nat) (w:World),Sp.Key w g ks m->Sp.Key (w.setCells b o E) g ks m
 | [],_,_,h=>h
 |v :: r,o,w,h=>Key.fars D r (o+1) _ (Key.far h _ v D)
theorem OA (b:Nat) (ks:Nat->UInt8) (a o r:Nat) (d s:Int) (w:World) (Z:XB w b ks d s none MW a o r) :
  Calls Tryz.prog 185 #[.pointer (some ⟨b,0,none⟩)] w fun e w'=>e=.returned (.tuple #[])/\∃g,XB w' b ks d s (some ⟨g,0,none⟩) (k2 ks) a o r/\w.heap.size<=g/\Sp.Key w' g ks false/\w.grownBy w' (some b):=by
 have ca:∀w:World,(Instr.arrayAt 161 (.slice (some ⟨b,0,none⟩) 16 32)).run Tryz.prog w=.ok (.pointer (some ⟨b,0,none⟩)) w:=fun _=>by kernel_rfl
 have bB:∀w:World,(Instr.arrayAt 161 (.slice (some ⟨b,16,none⟩) 16 16)).run Tryz.prog w=.ok (.pointer (some ⟨b,16,none⟩)) w:=fun _=>by kernel_rfl
 have cn:=fun w=>Sp.Lw ks w
 have r1:=Z.range1;have O:∀w1:World,Below w.heap.size w w1->XB w1 b ks d s none MW a o r:=fun w1 h=>Blk.below Z h
 have M:=Z.lt;have R2:Hid (∀(w1:World) p,XB w1 b ks d s p MW a o r->w1.rangeAt b 16 (Sp.AK (k2 ks)).toList):=fun w1 p h=>XB.range2 h
 have i1:=JO ks;have i2:=JO (k2 ks);have o2:=TW (k2 ks);have z2:=Bg (k2 ks);obtain⟨cs,F⟩:=Ak (Sp.AK ks);obtain⟨ds,E⟩:=Ak (Sp.AK (k2 ks));rw[<-F] at r1 i1 cn;rw[<-E] at R2 i2 o2 z2;have R1:=I r1;clear r1;have K0:=I O;clear O;have LT:=I M;clear M;have I1:=I i1;clear i1;have I2:=I i2;clear i2;have O2:=I o2;clear o2;have Z2:=I z2;clear z2;have ED:=I E;clear E;clear F Z;go_enter Tryz.func185,Tryz.ntmps185
 go_upto_region 2 with(first
  |(refine Am (by rfl) 161 (.tmp 9) (by rfl) b 0 (by rfl) cs _ R1.o Tryz.underlying161 (by rfl) I1.o ?_)
  |(go_at_call 212;refine Calls.mono (cn _) ?_;rintro e w1 ⟨g,rfl,hg,J,D⟩;have X1:=K0.o w1 D;have bz:=X1.cp;have fz:=X1.fz;have X2:=I (X1.set_p (some ⟨g,0,none⟩));have HG:=I hg;have bx:=I J;have aw:=I D;clear hg J D X1)
  |fail)
 clear bz fz;have hR:=R2.o _ _ X2.o;have hT:=XB.thereD X2.o;rw[<-Z2.o] at hT;have HR:=I hR;clear hR;have HT:=I hT;clear hT
 go_wp2_with (first
  |(refine Am (by rfl) 161 (.tmp 20) (by rfl) b 16 (by rfl) ds _ HR.o Tryz.underlying161 (by rfl) I2.o ?_)
  |(refine wpList_store_mid (by rfl) 161 (.tmp 23) (.tmp 21) (by rfl) b 36 ds (by rfl) (by rfl) HT.o I2.o O2.o ?_)
  |fail)
 go_end0
 have N:b≠g:=by have:=HG.o;have:=LT.o;omega
 refine⟨rfl,g,?_,HG.o,Key.fars N _ _ _ (Key.far bx.o _ _ N),KH (w:=w) _ _ _ (AU (FJ aw.o _) (.inl rfl) _)⟩;rw[ED.o];exact X2.o.set_dg (k2 ks)
theorem slow (b:Nat) (ks:Nat->UInt8) (a o r:Nat) (w:World) (M:XB w b ks 0 0 none MW a o r) :
  Calls Tryz.prog 211 #[.pointer (some ⟨b,32,none⟩),.func (.func 185) #[.pointer (some ⟨b,0,none⟩)] #[]] w fun e w'=>e=.returned (.tuple #[])/\∃g,XB w' b ks 1 0 (some ⟨g,0,none⟩) (k2 ks) a o r/\w.heap.size<=g/\Sp.Key w' g ks false/\w.grownBy w' (some b):=by
 have D:XB (w.setCell ⟨b,33,none⟩ (.int .i32 1)) b ks 0 1 none MW a o r:=M.set_s 1;have g1:w.grownBy (w.setCell ⟨b,33,none⟩ (.int .i32 1)) (some b):=AU (World.grownBy.refl _ _) (.inl rfl) _;have O:(w.setCell ⟨b,33,none⟩ (.int .i32 1)).heap.size=w.heap.size:=by simp [World.setCell]
 have cl:=Sp.MM ⟨b,33,none⟩ w M.cs (M.fz 33);have cd:=Sp.Ef ⟨b,32,none⟩ 0 _ D.cd false rfl;have cm:=OA b ks a o r 0 1 _ D;rw[O] at cm;have cf:∀(x:Bool) (w:World),(Op.unary .not (.bool x)).run Tryz.prog w=.ok (.bool (!x)) w:=fun _ _=>rfl
 have Z:=M.lt;have H:=I M;clear M;have H1:=I D;clear D;have G1:=I g1;clear g1;have LT:=I Z;clear Z;clear O
 go_enter_defers Tryz.func211,Tryz.ntmps211
 go_wp2_with (first | (go_at_call 228;refine Aj cl ?_;rintro w' rfl) | (go_at_call 210;refine Aj cd ?_;rintro w' rfl) | (go_at_call 185;refine Aj cm ?_;rintro w2 ⟨g,E,cb,N,bz⟩))
 refine leaves_cons (f:=230) (args:=#[.pointer (some ⟨b,32,none⟩),.bool true]) (by simp) (by simp [go_sem]) ?_;refine(Sp.Gl ⟨b,32,none⟩ _ .returning w2 E.cd (E.fz 32)).mono ?_;rintro e u' cc ⟨rfl,rfl,rfl⟩;have aw:b≠g:=by have:=LT.o;omega
 have J:=XB.set_d E.drew 1;refine leaves_cons (f:=229) (args:=#[.pointer (some ⟨b,33,none⟩)]) (by simp [settle]) (by simp [go_sem]) ?_;refine(Sp.Fv ⟨b,33,none⟩ _ _ J.cs (J.fz 33)).mono ?_;rintro e u' cc ⟨rfl,rfl,rfl⟩;have bB:=XB.set_s J 0;have F:=Key.far (Key.far (w:=w2.drew) (m:=false) N ⟨b,32,none⟩ (.int .u32 1) aw) ⟨b,33,none⟩ (.int .i32 0) aw;have ca:=AU (row:=some b) (AU (row:=some b) (AZ (World.grownBy.refl w2 (some b))) (p:=⟨b,32,none⟩) (.inl rfl) (.int .u32 1)) (p:=⟨b,33,none⟩) (.inl rfl) (.int .i32 0);have bx:=Sp.Ew (Sp.Ew G1.o bz) ca;simp [Leaves,settle,results,Tryz.results211];exact⟨g,bB,cb,F,bx⟩
theorem Lv (b:Nat) (ks:Nat->UInt8) (a o r:Nat) (w:World) (D:XB w b ks 0 0 none MW a o r) :
  Calls Tryz.prog 184 #[.pointer (some ⟨b,32,none⟩),.func (.func 185) #[.pointer (some ⟨b,0,none⟩)] #[]] w fun e w'=>e=.returned (.tuple #[])/\∃g,XB w' b ks 1 0 (some ⟨g,0,none⟩) (k2 ks) a o r/\w.heap.size<=g/\Sp.Key w' g ks false/\w.grownBy w' (some b):=by
 have M:=Sp.Ef ⟨b,32,none⟩ 0 w D.cd false rfl;have cs:=slow b ks a o r w D;have E:∀(x:Bool) (w:World),(Op.unary .not (.bool x)).run Tryz.prog w=.ok (.bool (!x)) w:=fun _ _=>rfl
 clear D;go_enter Tryz.func184,Tryz.ntmps184
 go_wp2_with (first | (go_at_call 210;refine Aj M ?_;rintro w' rfl) | (go_at_call 211;refine Aj cs ?_;rintro N F;have J:=I F;clear F))
 go_end0
 exact⟨rfl,J.o⟩
theorem Ol (b:Nat) (F:Value) (w:World) (E:w.cell? ⟨b,32,none⟩=some (.int .u32 1)) :
  Calls Tryz.prog 184 #[.pointer (some ⟨b,32,none⟩),F] w fun e w'=>e=.returned (.tuple #[])/\w'=w:=by
 have J:=Sp.Ef ⟨b,32,none⟩ 1 w E true rfl;have D:∀(x:Bool) (w:World),(Op.unary .not (.bool x)).run Tryz.prog w=.ok (.bool (!x)) w:=fun _ _=>rfl
 clear E;go_enter Tryz.func184,Tryz.ntmps184
 go_wp2_with (first | (go_at_call 210;refine Aj J ?_;rintro w' rfl))
 go_end0
 exact⟨rfl,rfl⟩
theorem GZ (b:Nat) (ks:Nat->UInt8) (h:Option Nat) (a o r:Nat) (w:World) (D:Box w b ks h a o r) :
  Calls Tryz.prog 144 #[.pointer (some ⟨b,0,none⟩)] w fun e w'=>e=.returned (.tuple #[])/\∃g,Box w' b ks (some g) a o r/\Step w w' b h g:=by
 have aw:∀(fn:Fn) (first cap:Array Value) (w:World),(Instr.makeFunc fn first cap).run Tryz.prog w=.ok (.func fn first cap) w:=fun _ _ _ _=>rfl
 cases h with
 |none=>
  have J:=Lv b ks a o r w D;have E:=XB.lt D;have LT:=I E;clear E;clear D;go_enter Tryz.func144,Tryz.ntmps144
  go_wp2_with (first | (go_at_call 184;refine Aj J ?_;rintro w' F;have M:=I F;clear F))
  go_end0
  obtain⟨g,N,F,O,Z⟩:=M.o;exact⟨rfl,g,⟨N,by have:=LT.o;omega,false,O⟩,Chg.of_grown Z (.inl rfl),.inr ⟨rfl,F⟩⟩
 |some g=>
  have J:=fun fv=>Ol b fv w (XB.cd D.1)
  have H:=I D;clear D;go_enter Tryz.func144,Tryz.ntmps144
  go_wp2_with (first | (go_at_call 184;refine Aj (J _) ?_;rintro w' rfl))
  go_end0
  exact⟨rfl,g,H.o,Chg.refl _ _,.inl rfl⟩
theorem add_one (p:Addr) (a:Nat) (w:World) (J:a<1000000) (D:w.cell? p=some (.int .i64 (a:Int))) (F:w.frozen? p=false) :
  Calls Tryz.prog 71 #[.pointer (some p),.int .i64 1] w fun e w'=>e=.returned (.int .i64 ((a+1:Nat):Int))/\w'=w.setCell p (.int .i64 ((a+1:Nat):Int)):=by
 have E:=run_call_add (P:=Tryz.prog) Tryz.func115 (by kernel_rfl) (by kernel_rfl) (by kernel_rfl) .i64 (by kernel_rfl) (y:=1) (s:=((a+1:Nat):Int)) D F (by
  have h:IntKind.i64.wrap ((a:Int)+1)=((a+1:Nat):Int):=by rw[IntKind.wrap_i64];omega
  simp [go_sem,h])
 clear D F J;go_enter Tryz.func71,Tryz.ntmps71
 go_wp2
 go_ret;exact⟨rfl,rfl⟩
theorem Rk (p:Addr) (a:Nat) (w:World) (D:w.cell? p=some (.int .i64 (a:Int))) :
  Calls Tryz.prog 72 #[.pointer (some p)] w fun e w'=>e=.returned (.int .i64 (a:Int))/\w'=w:=by
 have E:=run_call_load (P:=Tryz.prog) Tryz.func116 (by kernel_rfl) (by kernel_rfl) (by kernel_rfl) .i64 (by kernel_rfl) D;clear D;go_enter Tryz.func72,Tryz.ntmps72
 go_wp2
 go_ret;exact⟨rfl,rfl⟩
theorem Eg (u:Int) (x:Bool) (D:x=(decide (0<=u)&&decide (u<=255))) (w:World):Calls Tryz.prog 96 #[.int .i64 u] w fun e w'=>e=.returned (.bool x)/\w'=w:=by
 subst D
 by_cases h:0<=u
 ·go_enter Tryz.func96,Tryz.ntmps96
  go_wp2
  go_ret;exact⟨by simp [h],rfl⟩
 ·have E:decide (0<=u)=false:=by simpa using h
  go_enter Tryz.func96,Tryz.ntmps96
  go_wp2
  go_ret;exact⟨by simp,rfl⟩
theorem Fx (n:Nat) (x:Bool) (D:x=decide (n<=1099511627776)) (w:World):Calls Tryz.prog 142 #[.int .u64 (n:Int)] w fun e w'=>e=.returned (.bool x)/\w'=w:=by
 subst D;have e:decide ((n:Int)<=1099511627776)=decide (n<=1099511627776):=by congr 1;exact propext ⟨by omega,by omega⟩
 have E:=I e;clear e;go_enter Tryz.func142,Tryz.ntmps142
 go_wp2
 go_ret;exact⟨by rw[<-E.o];rfl,rfl⟩
theorem ZY (x y:Nat) (E:y<256) (D:x<72057594037927936):bits .or .u64 ((x:Int)*256) (y:Int)=((x*256+y:Nat):Int):=by
 have e:(x:Int)*256=((x*256:Nat):Int):=by omega
 have h:x*256 ||| y=x*256+y:=by
  have h:=Nat.shiftLeft_add_eq_or_of_lt (show y<2 ^ 8 by omega) x;rw[Nat.shiftLeft_eq] at h
  simpa using h.symm
 rw[e,u64_or_nat _ _ (by omega) (by omega),h]
theorem Dv (B:Nat) (A:Option Addr) (n c:Nat) (l:List UInt8) (w:World) (hn:n=l.length) (h8:8<=n) (hc:n<=c) (hr:Rd w B A (bvs l)) :
  Calls Tryz.prog 99 #[.slice A n c] w fun e w'=>e=.returned (.int .u64 (n8 l:Int))/\w'=w:=by
 obtain⟨b,o,rfl,hb,D⟩:∃b o,A=some ⟨b,o,none⟩/\b<B/\∀i (h:i<l.length),w.cell? ⟨b,o+i,none⟩=some (bv l[i]):=by
  rcases hr with h | ⟨b,o,h1,h2,h3⟩
  ·have:=Ay l;rw[h] at this;simp at this;omega
  ·exact⟨b,o,h1,h2,fun i hi=>h3 i _ (GC hi)⟩
 have bz:(8:Int)<=(c:Int):=by omega
 have bx:8<=c:=by omega
 have HC:=I D;clear D;have HN:=I hn;clear hn;have H8:=I h8;clear h8;clear hr hc hb;go_enter Tryz.func99,Tryz.ntmps99
 go_wp2_with fail
 go_loop [3,9] (fun aw iv=>∃i:Nat,i<=8/\iv=.int .i64 (i:Int)/\aw=.int .u64 (big 0 (l.take i):Nat)) (fun _ iv=>8 - (intOf iv).toNat)
 case atStart=>exact⟨0,by decide,rfl,rfl⟩
 case round=>
  obtain⟨i,hi,rfl,rfl⟩:=hrel
  by_cases hx:i=8
  ·subst hx
   go_wp2_with fail
   go_ret;exact⟨rfl,rfl⟩
  ·have e1:(i:Int)<8:=by omega
   have e2:(0:Int)<=(i:Int):=by omega
   have e3:i<8:=by omega
   have hl:i<l.length:=by have:=HN.o;have:=H8.o;omega
   obtain⟨y,M⟩:=Ak (l[i]);have E:=HC.o i hl;rw[<-M] at E;simp only[bv] at E;have hy:=y.toNat_lt;obtain⟨v,J⟩:=Ak (big 0 (l.take i));obtain⟨u,N⟩:=Ak (v*256+y.toNat);rw[<-J];have hv:v<72057594037927936:=by
    have:=Ox l i;rw[<-J] at this;exact Nat.lt_of_lt_of_le this (Nat.pow_le_pow_right (by decide) (by omega):256 ^ i<=256 ^ 7)
   have Z:(v:Int)*256 % 18446744073709551616=(v:Int)*256:=by omega
   have O:(y.toNat:Int) % 18446744073709551616=(y.toNat:Int):=by omega
   have bB:IntKind.u64.wrap (y.toNat:Int)=(y.toNat:Int):=by rw[IntKind.wrap_u64];exact O
   have cb:IntKind.u64.wrap ((v:Int)*256)=(v:Int)*256:=by rw[IntKind.wrap_u64];exact Z
   have ca:bits .or .u64 ((v:Int)*256) (y.toNat:Int)=(u:Int):=by rw[N];exact ZY v y.toNat hy hv
   have F:u=big 0 (l.take (i+1)):=by rw[WL l i hl,<-M,<-J,N]
   have NX:=I F;clear F;have HI:=I hi;clear hi;have HX:=I hx;clear hx;have HV:=I hv;clear hv;clear N J M
   go_wp2_with fail
   go_round
   case rel=>exact⟨i+1,by omega,by go_num,by rw[<-NX.o]⟩
   case measure=>simp [intOf];omega
theorem DU {w w':World} {base:Nat} {t:TypeId} {v:Value} {n:Nat} {xs:List Value} {o:Obj} (h:w.ownsRow base t 1 v n xs) (e:w'.heap=w.heap.push o):w'.ownsRow base t 1 v n xs:=Si.DU h e
def laid (xs:List UInt8) (N j:Nat):List Value:=bvs (xs++(w8 N).take j)
theorem MX (xs:List UInt8) (N j:Nat) (h:j<8):laid xs N j++[bv (UInt8.ofNat (N / 2 ^ (56 - 8*j)))]=laid xs N (j+1):=by
 unfold laid;rw[ZV N j h,<-List.append_assoc,Bu (xs++(w8 N).take j)];rfl
theorem Yn (xs:List UInt8) (N:Nat):laid xs N 8=bvs (xs++w8 N):=by
 unfold laid;rw[List.take_of_length_le (by rw[Dn];exact Nat.le_refl _)]
theorem PU (base:Nat) (v:Value) (n N:Nat) (xs:List UInt8) (w:World) (hN:N<18446744073709551616) (hn:n<=100000) (hb:base<=w.heap.size) (D:w.ownsRow base 5 1 v n (bvs xs)) :
  Calls Tryz.prog 172 #[v,.int .u64 (N:Int)] w fun e w'=>∃v',e=.returned v'/\w'.ownsRow base 5 1 v' (n+8) (bvs (xs++w8 N))/\Chg (fun i=>v.ownBlock=some i) w w'/\(∀k,v'.ownBlock=some k->v.ownBlock=some k\/w.heap.size<=k):=by
 obtain⟨ib,cg,cb,cc,cf⟩:=info_parts Si.BY;have HO:=I D;clear D;have HB:=I hb;clear hb;have HN:=I hN;clear hN;have HL:=I hn;clear hn;go_enter Tryz.func172,Tryz.ntmps172
 go_wp2_with fail
 go_loopw [0,5] (fun bz iv wr=>∃j:Nat,j<=8/\iv=.int .i64 (56 - 8*(j:Int))/\wr.ownsRow base 5 1 bz (n+j) (laid xs N j)/\Chg (fun i=>v.ownBlock=some i) w wr/\(∀k,bz.ownBlock=some k->v.ownBlock=some k\/w.heap.size<=k)) (fun _ iv _=>(intOf iv+8).toNat)
 case atStart=>exact⟨0,by decide,rfl,by unfold laid;rw[List.take_zero,List.append_nil];exact HO.o,Chg.refl _ _,fun k hk=>.inl hk⟩
 case round=>
  obtain⟨j,hj,rfl,D,bB,Z⟩:=hrel;have F:=I Z;clear Z;have HR:=I D;clear D;have HW:=I bB;clear bB
  by_cases hx:j=8
  ·subst hx
   go_wp2_with fail
   go_ret;exact⟨_,rfl,by rw[<-Yn];exact HR.o,HW.o,F.o⟩
  ·obtain⟨m,em⟩:∃m:Nat,m=56 - 8*j:=⟨_,rfl⟩
   have hm:(56:Int) - 8*(j:Int)=(m:Int):=by omega
   rw[hm];have bx:j<8:=by omega
   have cn:m<64:=by omega
   have cj:(m:Int)<64:=by omega
   have cm:(0:Int)<=(m:Int):=by omega
   have ck:min m 64=m:=by omega
   obtain⟨k,ek⟩:=Ak (n+j);have hk:k<=100010:=by have:=HL.o;omega
   rw[<-ek] at HR;have aw:=MX xs N j bx;have hv:bv (UInt8.ofNat (N / 2 ^ (56 - 8*j)))=.int .u8 ((N:Int) / 2 ^ m % 256):=by
    unfold bv;rw[UInt8.toNat_ofNat',<-em];congr 1
   rw[hv] at aw;have NX:=I aw;clear aw;have EM:=I em;clear em;have EK:=I ek;clear ek;have HX:=I hx;clear hx;have HJ:=I hj;clear hj;have ca:=I bx;clear bx;clear hm hv
   go_wp2_with (first | (at_builtin;refine AA _ (by rfl) (.tmp 10) (.tmp 15) 27 (by rfl) base 5 ib _ 1 Tryz.underlying27 cg cb cc cf (by rfl) _ k (laid xs N j) (by rfl) (DU HR.o (by rfl)) (wr.heap.size+1) (some ⟨wr.heap.size,0,none⟩) 1 1 [.int .u8 ((N:Int) / 2 ^ m % 256)] (by rfl) (by rfl) (Si.FR wr 5 _ [.int .u8 ((N:Int) / 2 ^ m % 256)] (by rfl) _ rfl) (by simp [Value.oneCell']) (by unfold maxLen;omega) (by omega) (by have:=HB.o;have:=HW.o.size;simp;omega) ?_;intro v6 w6 J E O;have O6:=I J;have G6:=I E;have T6:=I O;clear J E O) | fail)
   go_roundw
   case rel=>
    refine⟨j+1,by have:=ca.o;omega,?_,by rw[<-NX.o,<-Nat.add_assoc,<-EK.o];exact O6.o,?_,?_⟩
    ·exact congrArg (Value.int .i64) (by have:=EM.o;have:=ca.o;omega)
    ·refine(HW.o.alloc _).trans (T:=fun i=>Value.ownBlock _=some i) ⟨G6.o.os,G6.o.tape,G6.o.output,G6.o.size,fun k hk cd=>G6.o.block k hk (fun e=>cd e.symm)⟩ (fun i hi hx=>?_)
     rcases F.o i hx with M | M
     ·exact M
     ·omega
    ·intro k hk
     rcases T6.o with M | M
     ·exact F.o k (M▸hk)
     ·have:=HW.o.size
      rw[hk] at M;injection M with M;exact .inr (by simp at M;omega)
   case measure=>simp [intOf];omega
def Aw (b:Nat) (h:Option Nat) (n i:Nat):Prop:=Ow b h i\/n<=i
section
variable {w w' a c:World} {b g n:Nat} {h:Option Nat} {A:Option Addr} {xs:List Value} {S:Nat->Prop}
theorem RdA.aw (E:RdA (Ow b h) w A xs) (F:w.heap.size<=n):RdA (Aw b h n) w A xs:=E.mono fun i hi D=>by
 rcases D with D | D
 ·exact D
 ·omega
theorem Step.aw (hs:Step w w' b h g):Chg (Aw b h n) w w':=hs.1.mono fun i _ D=>.inl D
theorem Step.aw_g (hs:Step w w' b h g) (E:n<=w.heap.size):Aw b h n g:=by
 rcases hs.2 with D | ⟨_,D⟩
 ·exact .inl (.inr D)
 ·exact .inr (by omega)
theorem Chg.then (h:Chg S a w) (k:Chg S w c):Chg S a c:=h.trans k fun _ _ x=>x
theorem RdA.go (h:RdA S w A xs) (D:Chg S w w'):RdA S w' A xs:=h.keep D (fun _ _ x=>x) (fun _ _ x=>x)
theorem Chg.step (F:Chg (Aw b h w.heap.size) w w') (E:h=some g\/(h=none/\w.heap.size<=g)):Step w w' b h g:=
 ⟨F.mono fun i hi D=>by
  rcases D with D | D
  ·exact D
  ·omega,E⟩
end
def tl (ks:Nat->UInt8) (u n:Nat) (p:List UInt8) (i:Nat):List UInt8:=(mixL ks u n p).take i++(Dp ks u n p.length).drop i
theorem tl_at (ks:Nat->UInt8) (u n:Nat) (p:List UInt8) (i:Nat) (h:i<p.length) (D:i<(Dp ks u n p.length).length):(bvs (tl ks u n p i)).toArray[i]? = some (bv (Dp ks u n p.length)[i]):=by
 rw[List.getElem?_toArray];unfold bvs tl;rw[List.getElem?_map,List.getElem?_append_right (by rw[List.length_take,Bw];omega),List.length_take,Bw,show i - min i p.length=0 by omega,List.getElem?_drop,Nat.add_zero,List.getElem?_eq_getElem D];rfl
theorem cS (ks:Nat->UInt8) (u n:Nat) (p:List UInt8) (i:Nat) (h:i<p.length) (D:i<(Dp ks u n p.length).length):(bvs (tl ks u n p i)).toArray.setIfInBounds i (bv (p[i] ^^^ (Dp ks u n p.length)[i]))=(bvs (tl ks u n p (i+1))).toArray:=by
 rw[List.setIfInBounds_toArray]
 congr 1
 unfold bvs;rw[<-List.map_set]
 congr 1
 have e:(mixL ks u n p).take (i+1)=(mixL ks u n p).take i++[p[i] ^^^ (Dp ks u n p.length)[i]]:=by
  rw[List.take_add_one,TQ ks u n p i h D];rfl
 have E:((mixL ks u n p).take i).length=i:=by rw[List.length_take,Bw];omega
 unfold tl;rw[e,List.set_append_right _ _ (by omega),E,Nat.sub_self,List.append_assoc,List.drop_eq_getElem_cons D]
 rfl
theorem cT (ks:Nat->UInt8) (u n:Nat) (p:List UInt8):tl ks u n p p.length=mixL ks u n p:=by
 rw[tl,List.take_of_length_le (by rw[Bw];exact Nat.le_refl _),List.drop_of_length_le (by rw[BQ];exact Nat.le_refl _),List.append_nil]
theorem ZZ (ks:Nat->UInt8) (u n:Nat) (p:List UInt8):tl ks u n p 0=Dp ks u n p.length:=by
 rw[tl,List.take_zero,List.drop_zero,List.nil_append]
theorem xor_b (x y:UInt8):bits .xor .u8 (y.toNat:Int) (x.toNat:Int)=((x ^^^ y).toNat:Int):=by
 rw[u8_xor_nat _ _ y.toNat_lt x.toNat_lt,UInt8.toNat_xor,Nat.xor_comm]
theorem cU (u n:Nat) (hu:u<=255):((n:Int)*256 % 18446744073709551616+(u:Int)) % 18446744073709551616=((sn u n:Nat):Int):=by unfold sn;omega
theorem TX (b:Nat) (ks:Nat->UInt8) (h:Option Nat) (a o r u n:Nat) (A:Option Addr) (c:Nat) (w:World) (hu:u<=255) (hn:n<18446744073709551616) (Z:Box w b ks h a o r) :
  Calls Tryz.prog 98 #[.pointer (some ⟨b,0,none⟩),.int .i64 (u:Int),.int .u64 (n:Int),.slice A 0 c] w fun e w'=>∃g,e=.returned (.slice none 0 0)/\Box w' b ks (some g) a o r/\Step w w' b h g:=by
 have cn:=GZ b ks h a o r w Z;have aw:(0:Int)<=(u:Int):=by omega
 clear Z;have HU:=I hu;clear hu;have HN:=I hn;clear hn;go_enter Tryz.func98,Tryz.ntmps98
 go_wp2_with (first
  |(go_at_call 144;refine Aj cn ?_;rintro w1 ⟨g,D,F⟩;clear cn;have J:=D.1.cp;have E:=(fun N=>Sp.QY (some ⟨g,0,none⟩) N 0 w1 (.inr (by decide)));have M:=I D;have O:=I F;clear D F)
  |(go_at_call 145;refine Aj (E _) ?_;rintro w2 hw;have hw:=hw.symm;subst hw;clear E J))
 go_loopw [27] (fun iv wr=>iv=.int .i64 0/\wr=w1) (fun iv _=>0)
 case atStart=>exact⟨rfl,rfl⟩
 case round=>
  obtain⟨rfl,rfl⟩:=hrel
  go_wp2_with fail
  go_ret;exact⟨g,rfl,M.o,O.o⟩
theorem TY (u n:Nat) (hu:u<=255):IntKind.u64.wrap (IntKind.u64.wrap ((n:Int)*256)+IntKind.u64.wrap (u:Int))=((sn u n:Nat):Int):=by
 rw[IntKind.wrap_u64,IntKind.wrap_u64,IntKind.wrap_u64];unfold sn;omega
theorem cV (u n:Nat):sn u n<18446744073709551616:=Nat.mod_lt _ (by decide)
theorem TZ (b:Nat) (ks:Nat->UInt8) (h:Option Nat) (a o r u n:Nat) (A:Option Addr) (m c:Nat) (p:List UInt8) (w:World) (hu:u<=255) (hn:n<18446744073709551616) (hm:m=p.length) (cr:1<=m) (cp:m<=1000) (hr:RdA (Ow b h) w A (bvs p)) (hK:Box w b ks h a o r) :
  Calls Tryz.prog 98 #[.pointer (some ⟨b,0,none⟩),.int .i64 (u:Int),.int .u64 (n:Int),.slice A m c] w fun e w'=>∃g q,e=.returned (.slice (some ⟨q,0,none⟩) m m)/\w.heap.size<=q/\q≠g/\Blk w' q 5 (bvs (mixL ks u n p)).toArray/\Box w' b ks (some g) a o r/\Step w w' b h g:=by
 have cn:=GZ b ks h a o r w hK;obtain⟨N,eN⟩:=Ak (sn u n);have bB:=TY u n hu;have F:=cV u n;rw[<-eN] at bB F;have aw:Sp.strm (Sp.kw ks) (Sp.upW N) (Sp.loW N) m=Dp ks u n m:=by rw[eN];rfl
 have bx:=hK.lt;clear hK;have HR:=I (hr.aw Ag);clear hr;have HU:=I hu;clear hu;have HN:=I hn;clear hn;have HM:=I hm;clear hm;have cR:=I cr;clear cr;have cw:=I cp;clear cp;have cP:=I F;clear F;have ec:=I aw;clear aw;have cB:=I bB;clear bB;have BL:=I bx;clear bx;clear eN;go_enter Tryz.func98,Tryz.ntmps98
 go_wp2_with (first
  |(go_at_call 144;refine Aj cn ?_;rintro w1 ⟨g,cx,ct⟩;clear cn;have cQ:=cx.1.cp;obtain⟨cf,cj,md,cb⟩:=cx;have bz:=Sp.QZ g ks md N m (m:Int) w1 rfl cR.o (by have:=cw.o;omega) cP.o cb;rw[ec.o] at bz;have X1:=I cf;have NE:=I cj;have GL:=I cb.lt;have M:=I ct;clear ct cf cj cb)
  |(go_at_call 145;rw[cB.o];refine Calls.mono bz ?_;rintro e w2 ⟨q,rfl,hq,hB,ck,cg,_⟩;clear bz cQ;have HQ:=I hq;have HB:=I hB;have cL:=I ck;have cm:=I cg;clear hq hB ck cg))
 have cc:(Dp ks u n m).length=m:=BQ ks u n m
 go_loopw [27] (fun iv wr=>∃i:Nat,i<=m/\iv=.int .i64 (i:Int)/\Chg (fun k=>w1.heap.size<=k) w2 wr/\Blk wr q 5 (bvs (tl ks u n p i)).toArray) (fun iv _=>m - (intOf iv).toNat)
 case atStart=>exact⟨0,Nat.zero_le _,rfl,Chg.refl _ _,by rw[ZZ,<-HM.o];exact HB.o⟩
 case round=>
  obtain⟨i,hi,rfl,hc,cu⟩:=hrel;have HC:=I hc;clear hc;have O:=I cu;clear cu;have ef:=I cc;clear cc;have D:Chg (Aw b h w.heap.size) w w1/\Chg (Aw b h w.heap.size) w1 w2/\Chg (Aw b h w.heap.size) w2 wr:=
   ⟨M.o.aw,Chg.of_grown cm.o (M.o.aw_g Ag),HC.o.mono fun k _ hx=>.inr (Nat.le_trans M.o.1.size hx)⟩
  by_cases hx:i=m
  ·subst hx
   have HA:=I D;clear D
   go_wp2_with fail
   go_ret;have ei:b<w1.heap.size:=X1.o.lt;have ed:XB w2 b ks 1 0 (some ⟨g,0,none⟩) (k2 ks) a o r:=Blk.grown X1.o cm.o (fun e=>by injection e with e;exact NE.o e);have ea:q≠g:=by have:=GL.o;have:=HQ.o;omega
   refine⟨g,q,rfl,Nat.le_trans M.o.1.size HQ.o,ea,?_,⟨ed.chg HC.o (by omega),NE.o,true,TV cL.o HC.o (by have:=GL.o;omega)⟩,?_⟩
   ·rw[<-cT,<-HM.o];exact O.o
   ·exact((HA.o.1.then HA.o.2.1).then HA.o.2.2).step M.o.2
  ·have ej:i<m:=by omega
   have Z:i<p.length:=by have:=HM.o;omega
   have e1:(i:Int)<(m:Int):=by omega
   have e2:(0:Int)<=(i:Int):=by omega
   have e3:(i:Int)<1000:=by have:=cw.o;omega
   have ca:i<(Dp ks u n p.length).length:=by rw[BQ];exact Z
   obtain⟨y,ey⟩:=Ak (p[i]);obtain⟨x,ex⟩:=Ak ((Dp ks u n p.length)[i]);obtain⟨z,ez⟩:=Ak (y ^^^ x);have cq:=((HR.o.go D.1).go D.2.1).go D.2.2;obtain⟨b2,o2,rfl,eb,_,J⟩:=cq.resolve_left (by intro e;have:=Ay p;rw[e] at this;simp at this;omega);have cd:=J i _ (GC Z);have cy:wr.cell? ⟨q,i,none⟩=some (bv (Dp ks u n p.length)[i]):=by rw[O.o.cell];exact tl_at ks u n p i Z ca
   have E:=cS ks u n p i Z ca;rw[<-ey] at cd E;rw[<-ex] at cy E;rw[<-ez] at E;simp only[bv] at cd cy;have eg:bits .xor .u8 (x.toNat:Int) (y.toNat:Int)=(z.toNat:Int):=by rw[ez];exact xor_b y x
   have fz:=O.o.frozen;have cA:=I E;clear E;have HX:=I hx;clear hx;have HI:=I hi;clear hi;clear ey ex ez D cq J eb ca
   go_wp2_with fail
   refine wp_region_still_tail 10 (by kernel_rfl) (by kernel_rfl) ?_;simp only[List.take_succ_cons,List.take_zero,List.drop_succ_cons,List.drop_zero];change wpStill _ _ wr.drew _ _ _
   repeat still_step
   refine wpStill_nil ?_;change wpList _ _ _ _ _ wr.drew
   go_wp2_with fail
   go_roundw
   case rel=>
    refine⟨i+1,by omega,by go_num,HC.o.drew.set (.inl HQ.o) _,?_⟩;have e:Blk wr.drew q 5 (bvs (tl ks u n p i)).toArray:=O.o;have:=e.set i (bv z);rw[cA.o] at this;exact this
   case measure=>simp [intOf];omega
def Nw (n g i:Nat):Prop:=i<n\/i=g
theorem Jb (b:Nat) (ks:Nat->UInt8) (h:Option Nat) (a o r u n:Nat) (A:Option Addr) (m c:Nat) (p:List UInt8) (w:World) (hu:u<=255) (Z:n<18446744073709551616) (hm:m=p.length) (D:m<=1000) (hr:RdA (Ow b h) w A (bvs p)) (M:Box w b ks h a o r) :
  Calls Tryz.prog 98 #[.pointer (some ⟨b,0,none⟩),.int .i64 (u:Int),.int .u64 (n:Int),.slice A m c] w fun e w'=>∃g Aq cq,e=.returned (.slice Aq m cq)/\m<=cq/\cq<=1000/\RdA (Nw w.heap.size g) w' Aq (bvs (mixL ks u n p))/\Box w' b ks (some g) a o r/\Step w w' b h g:=by
 rcases Nat.eq_zero_or_pos m with F | F
 ·subst F
  have hp:mixL ks u n p = []:=List.eq_nil_of_length_eq_zero (by rw[Bw];omega);refine(TX b ks h a o r u n A c w hu Z M).mono ?_;rintro e w' ⟨g,rfl,N,E⟩;exact⟨g,none,0,rfl,Nat.le_refl _,by decide,by rw[hp];exact .inl rfl,N,E⟩
 ·refine(TZ b ks h a o r u n A m c p w hu Z hm F D hr M).mono ?_
  rintro e w' ⟨g,q,rfl,N,E,O,h4,h5⟩;refine⟨g,_,m,rfl,Nat.le_refl _,D,.inr ⟨q,0,rfl,O.lt,?_,fun i v hv=>?_⟩,h4,h5⟩
  ·rintro(J | J)
   ·omega
   ·exact E J
  ·rw[Nat.zero_add,O.cell,List.getElem?_toArray];exact hv
theorem Yo (u:Nat) (hu:u<=255):bv (UInt8.ofNat u)=.int .u8 (u:Int):=by
 unfold bv;rw[UInt8.toNat_ofNat',Nat.mod_eq_of_lt (by omega)]
theorem WM {w:World} (u:Nat) (hu:u<=255) (A:Option Addr) (m c:Nat) (l:List UInt8) (t D:TypeId) (hm:m=l.length) (E:Rd w w.heap.size A (bvs l)) :
  Si.Rows ((w.alloc (.cells #[.int .u8 (u:Int)] t)).alloc (.cells #[.slice (some ⟨w.heap.size,0,none⟩) 1 1,.slice A m c] D)) ((w.alloc (.cells #[.int .u8 (u:Int)] t)).alloc (.cells #[.slice (some ⟨w.heap.size,0,none⟩) 1 1,.slice A m c] D)).heap.size (some ⟨w.heap.size+1,0,none⟩) [[UInt8.ofNat u],l]:=by
 have h:=Si.Ri (w:=w.alloc (.cells #[.int .u8 (u:Int)] t)) D [.slice (some ⟨w.heap.size,0,none⟩) 1 1,.slice A m c] [[UInt8.ofNat u],l] #[.slice (some ⟨w.heap.size,0,none⟩) 1 1,.slice A m c] rfl rfl (fun i hi=>by
  match i,hi with
  |0,_=>
   refine⟨some ⟨w.heap.size,0,none⟩,1,rfl,?_⟩;have:=Si.FR w t #[.int .u8 (u:Int)] [.int .u8 (u:Int)] rfl w.heap.size rfl;rw[show bvs [[UInt8.ofNat u],l][0] = [.int .u8 (u:Int)] from by show [bv (UInt8.ofNat u)]=_;rw[Yo u hu]];exact this.more (by simp)
  |1,_=>exact⟨A,c,by rw[hm];rfl,(E.alloc Ag _).more (by simp)⟩)
 have e:(w.alloc (.cells #[.int .u8 (u:Int)] t)).heap.size=w.heap.size+1:=by simp
 rw[e] at h;exact h
theorem Ua (b:Nat) (ks:Nat->UInt8) (h:Option Nat) (a o r u:Nat) (A:Option Addr) (m c:Nat) (l:List UInt8) (w:World) (hu:u<=255) (hm:m=l.length) (cc:m<=1000) (hr:RdA (Ow b h) w A (bvs l)) (hK:Box w b ks h a o r) :
  Calls Tryz.prog 143 #[.pointer (some ⟨b,0,none⟩),.int .i64 (u:Int),.slice A m c] w fun e w'=>∃g,e=.returned (.int .u64 (tagL ks u l:Nat))/\Box w' b ks (some g) a o r/\Step w w' b h g:=by
 have cn:=GZ b ks h a o r w hK;have D:∀w1,Rd w1 w1.heap.size A (bvs l)->_:=fun w1 h1=>Si.ZU (k2 ks) (some ⟨w1.heap.size+1,0,none⟩) 2 2 [[UInt8.ofNat u],l] _ rfl (by decide) (by simp [Si.flat];omega) (WM u hu A m c l 5 27 hm h1)
 have N:Si.flat [[UInt8.ofNat u],l]=UInt8.ofNat u :: l:=by simp [Si.flat]
 rw[N] at D;have i2:=JO (k2 ks);have E:Si.AK (k2 ks)=Sp.AK (k2 ks):=rfl;rw[E] at D;obtain⟨T,eT⟩:=Ak (tagL ks u l);have hT:∀e,e=Ending.returned (Si.wv (Si.Ic (k2 ks) (UInt8.ofNat u :: l)))->e=.returned (.int .u64 (T:Int)):=fun e h=>by rw[h,eT];rfl
 rw[<-eT];have HR:=I (hr.aw Ag);clear hr;have cj:(u:Int)<=255:=by omega
 have cg:(0:Int)<=(u:Int):=by omega
 have cb:(u:Int) % 256=(u:Int):=by omega
 have cf:IntKind.u8.wrap (u:Int)=(u:Int):=by rw[IntKind.wrap_u8'];exact cb
 obtain⟨ds,M⟩:=Ak (Sp.AK (k2 ks));have bx:∀w1 g,Box w1 b ks (some g) a o r->w1.rangeAt b 36 ds.toList:=fun w1 g hb=>by rw[M];exact XB.rangeD hb.1
 rw[<-M] at i2 D;have RD:=I bx;clear bx;have I2:=I i2;clear i2;have HT:=I hT;clear hT;clear hK hm cc hu M eT N E;go_enter Tryz.func143,Tryz.ntmps143
 go_wp2_with (first
  |(go_at_call 144;refine Aj cn ?_;rintro w1 ⟨g,J,F⟩;clear cn;have hs:=D w1 (HR.o.go F.aw).rd;clear D;have aw:=RD.o w1 g J;have bB:=I aw;have ca:=I J;have cd:=I F;clear J F aw)
  |(refine Am (by rfl) 161 (.tmp 11) (by rfl) b 36 (by rfl) ds _ bB.o Tryz.underlying161 (by rfl) I2.o ?_)
  |(go_at_call 183;refine Calls.mono hs ?_;rintro e w2 ⟨he,O⟩;have he:=HT.o e he;subst he;have bz:=I O;clear O hs)
  |fail)
 go_ret;have hb:=((Below.refl w1.heap.size w1).alloc Ag (Obj.cells #[.int .u8 (u:Int)] 5)).alloc (by simp) (Obj.cells #[.slice (some ⟨w1.heap.size,0,none⟩) 1 1,.slice A m c] 27);have Z:=hb.trans (bz.o.mono (by simp;omega));exact⟨g,rfl,ca.o.below Z,cd.o.then (Chg.of_below (S:=fun _=>False) Z) (fun _ _ x=>x.elim)⟩
theorem Gv {S:Nat->Prop} {w:World} {base n:Nat} {v:Value} {xs:List Value} {t:TypeId} (h:w.ownsRow base t 1 v n xs) (hs:∀k,v.ownBlock=some k->¬S k):∃A c,v=.slice A n c/\n<=c/\c<=maxLen/\RdA S w A xs:=by
 have N:=h;obtain⟨J,⟨rfl,M⟩ | ⟨g,cap,cur,rfl,_,F,D,E,_⟩⟩:=h
 ·subst M
  exact⟨none,0,rfl,Nat.le_refl _,Nat.zero_le _,.inl (List.eq_nil_of_length_eq_zero (by simpa using J))⟩
 ·refine⟨_,cap,rfl,D,E,.inr ⟨g,0,rfl,(Array.getElem?_eq_some_iff.1 F).1,hs g rfl,fun i u hu=>?_⟩⟩
  have:=N.cells (g:=g) rfl i u hu
  rwa [addr_add] at this
theorem Box.seals {w:World} {b:Nat} {ks:Nat->UInt8} {g a o r:Nat} (h:Box w b ks (some g) a o r) (D:Nat):Box (w.setCell ⟨b,52,none⟩ (.int .i64 (D:Int))) b ks (some g) D o r:=by
 obtain⟨F,E,m,J⟩:=h;exact⟨F.set_a D,E,m,Key.far J _ _ (fun e=>E e.symm)⟩
theorem Box.opens {w:World} {b:Nat} {ks:Nat->UInt8} {g a o r:Nat} (h:Box w b ks (some g) a o r) (D:Nat):Box (w.setCell ⟨b,53,none⟩ (.int .i64 (D:Int))) b ks (some g) a D r:=by
 obtain⟨F,E,m,J⟩:=h;exact⟨F.set_o D,E,m,Key.far J _ _ (fun e=>E e.symm)⟩
theorem Box.refuses {w:World} {b:Nat} {ks:Nat->UInt8} {h:Option Nat} {a o r:Nat} (E:Box w b ks h a o r) (D:Nat):Box (w.setCell ⟨b,54,none⟩ (.int .i64 (D:Int))) b ks h a o D:=by
 cases h with
 |none=>exact XB.set_r E D
 |some g=>
  obtain⟨J,F,m,M⟩:=E;exact⟨J.set_r D,F,m,Key.far M _ _ (fun e=>F e.symm)⟩
theorem Ub {w w':World} {v:Value} (h:w.grownBy w' v.ownBlock):Chg (fun i=>v.ownBlock=some i) w w':=
 ⟨h.os,h.tape,h.output,h.size,fun k hk D=>h.block k hk (fun e=>D e.symm)⟩
theorem Step.same {w w':World} {b g E:Nat} (h:Step w w' b (some g) E):g=E:=by
 rcases h.2 with D | ⟨D,_⟩
 ·injection D
 ·cases D
def Yp (B:Nat) (v:Value):Prop:=∀k,v.ownBlock=some k->B<=k
theorem Fy {w:World} {B n:Nat} {v:Value} {xs:List Value} {t:TypeId} (h:w.ownsRow B t 1 v n xs):Yp B v:=fun k hk=>(h.lt k hk).1
theorem cW {B b:Nat} {ks:Nat->UInt8} {h:Option Nat} {a o r:Nat} {A:Option Addr} {xs:List Value} {w W E:World} {v0:Value} (O:B=w.heap.size) (M:Box w b ks h a o r) (N:RdA (Ow b h) w A xs) (J:Below B w W) (Z:Yp B v0) (hc:Chg (fun i=>v0.ownBlock=some i) W E) :
  Box E b ks h a o r/\RdA (Ow b h) E A xs/\Chg (Aw b h B) w E:=by
 subst O;have F:Chg (fun i=>w.heap.size<=i) w E:=(Chg.of_below J).trans hc fun i _ D=>Z i D
 exact⟨M.chg F (fun i hi D=>by have:=M.own_lt i hi;omega),N.keep F (fun i hi D=>by omega) (fun i _ D=>D),F.mono fun i _ D=>.inr D⟩
theorem cX {B b g n:Nat} {h:Option Nat} {E J:World} {v1:Value} {xs:List Value} {t:TypeId} (D:∀i,Ow b h i->i<B) (hB:B<=E.heap.size) (F:E.ownsRow B t 1 v1 n xs) (hs:Step E J b h g) :
  J.ownsRow B t 1 v1 n xs/\(∀i,Ow b (some g) i->¬v1.ownBlock=some i)/\Aw b h B g:=by
 refine⟨hs.1.own F (fun k hk N=>by have:=D k N;have:=(F.lt k hk).1;omega),fun i hi hk=>?_,hs.aw_g hB⟩;have O:=F.lt i hk;rcases hi with hi | hi
 ·have:=D i (.inl hi);omega
 ·injection hi with hi
  rcases hs.2 with M | ⟨_,M⟩
  ·have:=D i (.inr (hi▸M));omega
  ·omega
theorem cY {b g:Nat} {ks:Nat->UInt8} {a o r:Nat} {E F:World} {v1 v4:Value} (J:Box E b ks (some g) a o r) (M:∀i,Ow b (some g) i->¬v1.ownBlock=some i) (N:E.grownBy F v1.ownBlock) (D:v4.ownBlock=v1.ownBlock\/v4.ownBlock=some E.heap.size) :
  Box F b ks (some g) a o r/\(∀i,v4.ownBlock=some i->¬Ow b (some g) i):=by
 refine⟨J.chg (Ub N) M,fun i hk hi=>?_⟩;rcases D with h | h
 ·exact M i hi (h▸hk)
 ·rw[h] at hk
  injection hk with hk;have:=J.own_lt i hi;omega
theorem aa (b:Nat) (ks:Nat->UInt8) (h:Option Nat) (a o r u n:Nat) (A:Option Addr) (m c:Nat) (p:List UInt8) (w:World) (ha:a<1000000) (hu:u<=255) (hn:n<=1099511627776) (hm:m=p.length) (ek:m<=784) (hr:RdA (Ow b h) w A (bvs p)) (hK:Box w b ks h a o r) :
  Calls Tryz.prog 114 #[.pointer (some ⟨b,0,none⟩),.int .i64 (u:Int),.int .i64 (n:Int),.slice A m c] w fun e w'=>∃g Aq cq,e=.returned (.tuple #[.slice Aq (m+16) cq,.int .i64 0])/\m+16<=cq/\cq<=maxLen/\RdA (Nw w.heap.size g) w' Aq (bvs (DI ks u n p))/\Box w' b ks (some g) (a+1) o r/\Step w w' b h g:=by
 obtain⟨ib,eo,cy,eb,eg⟩:=info_parts Si.BY;have eD:=fun W=>Du (P:=Tryz.prog) (t:=27) (e:=5) Tryz.underlying27 eo cy eb eg ((m:Int)+16) (m+16) (by omega) (by omega) W
 have f1:=Eg (u:Int) true (by simp;omega);have f2:=Fx n true (by simp;omega);obtain⟨B,eB⟩:=Ak (w.heap.size);have aw:=World.ownsRow_made (e:=5) (base:=B) (size:=1) w (De (m+16)) (m+16) (by omega) (by unfold maxLen;omega) (by rw[Dx,Nat.mul_one]);have c1:=PU B _ 0 n [] _ (by omega) (by decide) (by simp;omega) aw;rw[Nat.zero_add,List.nil_append] at c1;have cr:Below B w (w.alloc (.cells (De (m+16)) 5)):=eB▸Ah.alloc Ag _;have ec:∀i,Ow b h i->i<B:=fun i hi=>eB▸hK.own_lt i hi
 have cP:=Fy aw;have eH:=I cP;clear cP;have HK:=I hK;clear hK;have HR:=I hr;clear hr;have AL:=I cr;clear cr;have OL:=I ec;clear ec;have EB:=I eB;have q1:(n:Int)<=1099511627776:=by omega
 have q2:(0:Int)<=(n:Int):=by omega
 have q3:(m:Int)<=784:=by omega
 have q4:IntKind.u64.wrap (n:Int)=(n:Int):=by rw[IntKind.wrap_u64];omega
 have q5:IntKind.i64.wrap ((m:Int)+16)=(m:Int)+16:=by rw[IntKind.wrap_i64];omega
 have q6:decide ((n:Int)<0)=false:=by simp
 have q7:decide (784<(m:Int))=false:=by simp;omega
 obtain⟨L,eL⟩:=Ak (Fb ks u n p);have cB:bvs (w8 n)++bvs (mixL ks u n p)=bvs L:=by rw[eL,Fb,Bu]
 have cL:8+m=L.length:=by rw[eL,BU,<-hm]
 obtain⟨T,eT⟩:=Ak (tagL ks u L);have ea:T<18446744073709551616:=by rw[eT];exact Oy _ _ _
 have cb:bvs (L++w8 T)=bvs (DI ks u n p):=by rw[eT,eL];rfl
 have EL:=I cB;clear cB;have LL:=I cL;clear cL;have TL:=I ea;clear ea;have eQ:=I cb;clear cb;have ET:=I eT;clear eT;clear eL;have HA:=I ha;clear ha;have HU:=I hu;clear hu;have HN:=I hn;clear hn;have HM:=I hm;clear hm;have bx:=I ek;clear ek;have C1:=I c1;clear c1;clear aw eB;go_enter Tryz.func114,Tryz.ntmps114
 go_wp2_with (first
  |(go_at_call 96;refine Aj (f1 _) ?_;rintro wq hw;have hw:=hw.symm;subst hw;clear f1)
  |(go_at_call 142;refine Aj (f2 _) ?_;rintro wq hw;have hw:=hw.symm;subst hw;clear f2)
  |(go_at_call 172;refine Calls.mono C1.o ?_;rintro e w2 ⟨v1,rfl,N,cf,cg⟩;clear C1 eD;obtain⟨cA,cR,ck⟩:=cW EB.o HK.o HR.o AL.o eH.o cf;have ct:=Jb b ks h a o r u n A m c p w2 HU.o (by have:=HN.o;omega) HM.o (by have:=bx.o;omega) cR cA;have O1:=I N;have C2:=I ck;have W2:=I ck.size;clear N cf cg cA cR ck)
  |(go_at_call 98;refine Calls.mono ct ?_;rintro e w3 ⟨g,Aq,cq,rfl,cw,cu,eu,ev,bB⟩;clear ct;obtain⟨ep,et,ej⟩:=cX OL.o (by have:=W2.o;have:=EB.o;omega) O1.o bB;have O3:=I ep;have N3:=I et;have G3:=I ej;have Q3:=I eu;have B3:=I ev;have S3:=I bB;have W3:=I bB.1.size;clear cw cu eu ev bB ep et ej)
  |(at_builtin;refine AA _ (by rfl) (.tmp 41) (.tmp 47) 27 (by rfl) B 5 ib _ 1 Tryz.underlying27 eo cy eb eg (by rfl) v1 8 (bvs (w8 n)) (by rfl) O3.o w3.heap.size Aq m cq (bvs (mixL ks u n p)) (by rfl) (by rw[Ay,Bw];exact HM.o) Q3.o.rd (Br _) (by have:=bx.o;unfold maxLen;omega) (by have:=bx.o;omega) (by have:=W2.o;have:=W3.o;have:=EB.o;omega) ?_;intro v4 w4 E D cc;obtain⟨er,cm⟩:=cY B3.o N3.o D cc;rw[EL.o] at E;obtain⟨A4,c4,eF,eM,_,cx⟩:=Gv E cm;subst eF;have cj:=Ua b ks (some g) a o r u A4 (8+m) c4 L w4 HU.o LL.o (by have:=bx.o;omega) cx er;rw[<-ET.o] at cj;have O4:=I E;have N4:=I cm;have G4:=I D;have eN:=I (Fy E);have W4:=I D.size;clear E D cc er cm cx eM)
  |(go_at_call 143;refine Calls.mono cj ?_;rintro e w5 ⟨g2,rfl,ef,bz⟩;clear cj;have eK:=bz.same;subst eK;have ed:=bz.1.own O4.o N4.o;have c6:=PU B _ (8+m) T L w5 TL.o (by have:=bx.o;omega) (by have:=W2.o;have:=W3.o;have:=W4.o;have:=bz.1.size;have:=EB.o;omega) ed;have B5:=I ef;have S5:=I bz;clear ed ef bz)
  |(go_at_call 172;refine Calls.mono c6 ?_;rintro e w6 ⟨v6,rfl,M,J,O⟩;clear c6;have ca:=B5.o.chg J (fun i hi hk=>N4.o i hk hi);have cd:=add_one ⟨b,52,none⟩ a w6 HA.o ca.1.ca (ca.1.fz 52);have O6:=I M;have C6:=I J;have N6:=I O;have B6:=I ca;clear M J O ca)
  |(go_at_call 71;refine Aj cd ?_;rintro w7 cn;clear cd;have Z:=I cn;clear cn)
  |fail)
 have ei:∀k,v6.ownBlock=some k->B<=k/\k≠g/\k≠b:=fun k hk=>by
  have h1:=Fy O6.o k hk;have h2:=OL.o b (.inl rfl);refine⟨h1,fun e=>?_,by omega⟩;rcases N6.o k hk with h3 | h3
  ·exact N4.o k h3 (.inr (by rw[e]))
  ·have:=B5.o.lt_g;omega
 have eR:w.heap.size<=w7.heap.size:=by
  have e:w7.heap.size=w6.heap.size:=by rw[Z.o];simp [World.setCell]
  have:=W2.o;have:=W3.o;have:=W4.o;have:=S5.o.1.size;have:=C6.o.size;omega
 have cp:w7.ownsRow B 5 1 v6 (8+m+8) (bvs (L++w8 T)):=by
  rw[Z.o];exact((Chg.refl (fun i=>i=b) w6).set (.inl rfl) _).own O6.o (fun k hk=>(ei k hk).2.2)
 rw[eQ.o] at cp;obtain⟨A7,c7,eP,cQ,ey,ez⟩:=Gv (S:=Nw w.heap.size g) cp (fun k hk F=>by
  have h1:=ei k hk;have:=EB.o;rcases F with F | F
  ·omega
  ·exact h1.2.1 F)
 have eJ:Chg (Aw b h w.heap.size) w w7:=by
  rw[<-EB.o];have ew:∀i,Ow b (some g) i->Aw b h B i:=fun i hi=>by
   rcases hi with hi | hi
   ·exact .inl (.inl hi)
   ·injection hi with hi;exact hi▸G3.o
  have h4:Chg (Aw b h B) w3 w4:=(Ub G4.o).mono fun i _ F=>.inr ((Fy O3.o) i F)
  have h5:Chg (Aw b h B) w4 w5:=S5.o.1.mono fun i _ F=>ew i F
  have h6:Chg (Aw b h B) w5 w6:=C6.o.mono fun i _ F=>.inr (eN.o i F)
  have h7:Chg (Aw b h B) w6 w7:=by rw[Z.o];exact(Chg.refl _ w6).set (.inl (.inl (.inl rfl))) _
  exact((((C2.o.then S3.o.aw).then h4).then h5).then h6).then h7
 have B7:Box w7 b ks (some g) (a+1) o r:=by rw[Z.o];exact B6.o.seals (a+1)
 clear Z;subst eP
 go_wp2_with fail
 go_ret2
 rw[show 8+m+8=m+16 by omega] at cQ;exact⟨g,A7,c7,by show Ending.returned (.tuple #[.slice A7 (8+m+8) c7,.int .i64 0])=_;rw[show 8+m+8=m+16 by omega],cQ,ey,ez,B7,eJ.step (S3.o.2.imp id (fun F=>⟨F.1,by have:=W2.o;omega⟩))⟩
end Se
end Go.Proofs.YthgignaohimadaaGreat
