import Derived.Test.YtcpccikongbopaaGreatZClientFirst3
import Derived.Test.YtcpccikongbopaaGreatZClientFirst5
set_option maxHeartbeats 25600000
set_option maxRecDepth 100000
set_option linter.unusedVariables false
set_option linter.unusedSimpArgs false
namespace Go.Proofs.YtcpccikongbopaaGreat
namespace Se
open Go.RowKit Ad
def w8 (n:Nat):List UInt8:=(List.range 8).map fun j=>UInt8.ofNat (n / 2 ^ (56 - 8*j))
theorem Db (n:Nat):(w8 n).length=8:=by simp [w8]
def big:Nat->List UInt8->Nat
 |a,[]=>a
 |a,b :: l=>big (a*256+b.toNat) l
theorem Mu (b:UInt8):∀(l:List UInt8) (a:Nat),big a (l++[b])=big a l*256+b.toNat
 | [],_=>rfl
 |c :: l,a=>Mu b l (a*256+c.toNat)
theorem TW:∀(l:List UInt8) (a:Nat),big a l<(a+1)*256 ^ l.length
 | [],a=>by simp [big]
 |b :: l,a=>by
  have h:=TW l (a*256+b.toNat);have D:=b.toNat_lt;refine Nat.lt_of_lt_of_le h ?_;rw[List.length_cons,Nat.pow_succ,Nat.mul_comm (256 ^ l.length),<-Nat.mul_assoc];exact Nat.mul_le_mul_right _ (by omega)
def n8 (l:List UInt8):Nat:=big 0 (l.take 8)
theorem Lk (n:Nat):w8 n = [UInt8.ofNat (n / 2 ^ 56),UInt8.ofNat (n / 2 ^ 48),UInt8.ofNat (n / 2 ^ 40),UInt8.ofNat (n / 2 ^ 32),UInt8.ofNat (n / 2 ^ 24),UInt8.ofNat (n / 2 ^ 16),UInt8.ofNat (n / 2 ^ 8),UInt8.ofNat (n / 2 ^ 0)]:=rfl
theorem WV (n:Nat) (h:n<18446744073709551616) (l:List UInt8):n8 (w8 n++l)=n:=by
 unfold n8;rw[List.take_append_of_le_length (by rw[Db];exact Nat.le_refl _),List.take_of_length_le (by rw[Db];exact Nat.le_refl _),Lk];simp only[big,UInt8.toNat_ofNat'];omega
theorem n8_w8' (n:Nat) (h:n<18446744073709551616):n8 (w8 n)=n:=by
 have:=WV n h []
 rwa [List.append_nil] at this
theorem w8_at (n j:Nat) (h:j<8):(w8 n)[j]? = some (UInt8.ofNat (n / 2 ^ (56 - 8*j))):=by
 simp [w8,h]
theorem Vg (n j:Nat) (h:j<8):(w8 n).take (j+1)=(w8 n).take j++[UInt8.ofNat (n / 2 ^ (56 - 8*j))]:=by
 rw[List.take_add_one,w8_at n j h];rfl
theorem RX (l:List UInt8) (j:Nat) (h:j<l.length):big 0 (l.take (j+1))=big 0 (l.take j)*256+(l[j]).toNat:=by
 rw[List.take_succ_eq_append_getElem h,Mu]
theorem Ll (l:List UInt8) (j:Nat):big 0 (l.take j)<256 ^ j:=by
 have h:=TW (l.take j) 0;rw[Nat.zero_add,Nat.one_mul] at h;exact Nat.lt_of_lt_of_le h (Nat.pow_le_pow_right (by decide) (by rw[List.length_take];omega))
def sn (u n:Nat):Nat:=(n*256+u) % 18446744073709551616
def Dc (ks:Nat->UInt8) (u n m:Nat):List UInt8:=Sp.strm (Sp.kw ks) (BitVec.ofNat 32 (sn u n / 4294967296)) (BitVec.ofNat 32 (sn u n)) m
theorem BI (ks:Nat->UInt8) (u n m:Nat):(Dc ks u n m).length=m:=Sp.La _ _ _ _
def xorL (p s:List UInt8):List UInt8:=List.zipWith (· ^^^ ·) p s
def mixL (ks:Nat->UInt8) (u n:Nat) (p:List UInt8):List UInt8:=xorL p (Dc ks u n p.length)
theorem Bq (ks:Nat->UInt8) (u n:Nat) (p:List UInt8):(mixL ks u n p).length=p.length:=by
 simp [mixL,xorL,BI]
theorem Mv:∀p s:List UInt8,p.length<=s.length->xorL (xorL p s) s=p
 | [],_,_=>by simp [xorL]
 |a :: p,[],h=>by simp at h
 |a :: p,b :: s,h=>by
  have D:=Mv p s (by simpa using h);unfold xorL at D⊢;rw[List.zipWith_cons_cons,List.zipWith_cons_cons,D]
  congr 1
  apply UInt8.toNat_inj.1;rw[UInt8.toNat_xor,UInt8.toNat_xor,Nat.xor_assoc,Nat.xor_self,Nat.xor_zero]
theorem Pw (ks:Nat->UInt8) (u n:Nat) (p:List UInt8):mixL ks u n (mixL ks u n p)=p:=by
 have e:mixL ks u n (mixL ks u n p)=xorL (xorL p (Dc ks u n p.length)) (Dc ks u n p.length):=by
  rw[mixL,Bq];rfl
 rw[e,Mv _ _ (by rw[BI];exact Nat.le_refl _)]
theorem Px (ks:Nat->UInt8) (u n:Nat) (p:List UInt8) (i:Nat) (h:i<p.length) (D:i<(Dc ks u n p.length).length):(mixL ks u n p)[i]? = some (p[i] ^^^ (Dc ks u n p.length)[i]):=by
 unfold mixL xorL;rw[List.getElem?_zipWith,List.getElem?_eq_getElem h,List.getElem?_eq_getElem D]
def k2 (ks:Nat->UInt8) (i:Nat):UInt8:=ks (16+i)
def tagL (ks:Nat->UInt8) (u:Nat) (l:List UInt8):Nat:=(Si.GC (k2 ks) (UInt8.ofNat u :: l)).toNat
theorem Lm (ks:Nat->UInt8) (u:Nat) (l:List UInt8):tagL ks u l<18446744073709551616:=(Si.GC (k2 ks) (UInt8.ofNat u :: l)).isLt
def Ee (ks:Nat->UInt8) (u n:Nat) (p:List UInt8):List UInt8:=w8 n++mixL ks u n p
theorem BK (ks:Nat->UInt8) (u n:Nat) (p:List UInt8):(Ee ks u n p).length=8+p.length:=by
 rw[Ee,List.length_append,Db,Bq]
def Dg (ks:Nat->UInt8) (u n:Nat) (p:List UInt8):List UInt8:=Ee ks u n p++w8 (tagL ks u (Ee ks u n p))
theorem BJ (ks:Nat->UInt8) (u n:Nat) (p:List UInt8):(Dg ks u n p).length=p.length+16:=by
 rw[Dg,List.length_append,BK,Db];omega
def GF (l:List UInt8):List UInt8:=l.take (l.length - 8)
def Gx (l:List UInt8):List UInt8:=l.drop (l.length - 8)
def midL (l:List UInt8):List UInt8:=(GF l).drop 8
def isL (ks:Nat->UInt8) (u:Nat) (l:List UInt8):Bool:=decide (16<=l.length)&&decide (l.length<=800)&&decide (n8 l<=1099511627776)&&decide (tagL ks u (GF l)=n8 (Gx l))
def Vh (ks:Nat->UInt8) (u:Nat) (l:List UInt8):Option (List UInt8):=if isL ks u l=true then some (mixL ks u (n8 l) (midL l)) else none
theorem Km (ks:Nat->UInt8) (u n:Nat) (p:List UInt8):GF (Dg ks u n p)=Ee ks u n p:=by
 unfold GF;rw[BJ];unfold Dg;rw[List.take_append_of_le_length (by rw[BK];omega),List.take_of_length_le (by rw[BK];omega)]
theorem Py (ks:Nat->UInt8) (u n:Nat) (p:List UInt8):Gx (Dg ks u n p)=w8 (tagL ks u (Ee ks u n p)):=by
 unfold Gx;rw[BJ];unfold Dg;rw[List.drop_append_of_le_length (by rw[BK];omega),List.drop_of_length_le (by rw[BK];omega),List.nil_append]
theorem Mw (ks:Nat->UInt8) (u n:Nat) (p:List UInt8):midL (Dg ks u n p)=mixL ks u n p:=by
 unfold midL;rw[Km,Ee,List.drop_append_of_le_length (by rw[Db];exact Nat.le_refl _),List.drop_of_length_le (by rw[Db];exact Nat.le_refl _),List.nil_append]
theorem Ln (ks:Nat->UInt8) (u n:Nat) (p:List UInt8) (D:n<18446744073709551616):n8 (Dg ks u n p)=n:=by
 unfold Dg Ee;rw[List.append_assoc,WV n D]
theorem Ik (ks:Nat->UInt8) (u n:Nat) (p:List UInt8) (E:n<=1099511627776) (D:p.length<=784):Vh ks u (Dg ks u n p)=some p:=by
 have h:isL ks u (Dg ks u n p)=true:=by
  unfold isL;rw[BJ,Ln ks u n p (by omega),Km,Py,n8_w8' _ (Lm _ _ _)];simp;omega
 rw[Vh,if_pos h,Mw,Ln ks u n p (by omega),Pw]
structure Chg (S:Nat->Prop) (w w':World):Prop where
 os:w'.os=w.os
 tape:w'.tape=w.tape
 output:w'.output=w.output
 size:w.heap.size<=w'.heap.size
 block:∀k,k<w.heap.size->¬S k->w'.heap[k]? = w.heap[k]?
section
variable {S T S':Nat->Prop} {a w w' c:World} {A:Option Addr} {xs:List Value} {g b:Nat} {t:TypeId} {cs:Array Value}
theorem Chg.refl (S:Nat->Prop) (w:World):Chg S w w:=⟨rfl,rfl,rfl,Nat.le_refl _,fun _ _ _=>rfl⟩
theorem Chg.trans (h:Chg S a w) (k:Chg T w c) (hs:∀i,i<a.heap.size->T i->S i):Chg S a c:=
 ⟨k.os.trans h.os,k.tape.trans h.tape,k.output.trans h.output,Nat.le_trans h.size k.size,fun i D E=>(k.block i (Nat.lt_of_lt_of_le D h.size) (fun F=>E (hs i D F))).trans (h.block i D E)⟩
theorem Chg.mono (h:Chg S a w) (hs:∀i,i<a.heap.size->S i->T i):Chg T a w:=⟨h.os,h.tape,h.output,h.size,fun i D E=>h.block i D (fun x=>E (hs i D x))⟩
theorem Chg.of_below (h:Below w.heap.size w w'):Chg S w w':=⟨h.os,h.tape,h.output,h.size,fun i D _=>h.block i D⟩
theorem Chg.of_grown (h:w.grownBy w' (some g)) (hs:S g):Chg S w w':=⟨h.os,h.tape,h.output,h.size,fun i D E=>h.block i D (fun e=>by injection e with e;subst e;exact E hs)⟩
theorem Chg.below (h:Chg S a w) {B:Nat} (hB:B<=a.heap.size) (hs:∀i,i<a.heap.size->S i->B<=i):Below B a w:=
 ⟨h.os,h.tape,h.output,h.size,fun i D=>h.block i (by omega) (fun x=>by have:=hs i (by omega) x;omega)⟩
theorem Chg.blk (h:Chg S w w') (D:Blk w g t cs) (hs:¬S g):Blk w' g t cs:=(h.block g D.lt hs).trans D
theorem Chg.own (h:Chg S w w') {base n:Nat} {v:Value} (E:w.ownsRow base t 1 v n xs) (hs:∀k,v.ownBlock=some k->¬S k):w'.ownsRow base t 1 v n xs:=by
 refine⟨E.1,?_⟩;rcases E.2 with F | ⟨g,cap,cur,rfl,M,D,rest⟩
 ·exact .inl F
 ·exact .inr ⟨g,cap,cur,rfl,M,(h.block g (Array.getElem?_eq_some_iff.1 D).1 (hs g rfl)).trans D,rest⟩
theorem Chg.set (h:Chg S a w) {p:Addr} (D:S p.block\/a.heap.size<=p.block) (u:Value):Chg S a (w.setCell p u):=
 ⟨h.os,h.tape,h.output,by simpa [World.setCell] using h.size,fun i F E=>(Below.heap_setCell w p u i (by
  rintro rfl;rcases D with D | D
  ·exact E D
  ·omega)).trans (h.block i F E)⟩
theorem Chg.alloc (h:Chg S a w) (o:Obj):Chg S a (w.alloc o):=
 ⟨h.os,h.tape,h.output,Nat.le_trans h.size (by simp),fun i D E=>(Below.heap_alloc w o i (Nat.lt_of_lt_of_le D h.size)).trans (h.block i D E)⟩
theorem Chg.drew (h:Chg S a w):Chg S a w.drew:=⟨h.os,h.tape,h.output,h.size,h.block⟩
def RdA (S:Nat->Prop) (w:World) (A:Option Addr) (xs:List Value):Prop:=
 xs = []\/∃b o,A=some ⟨b,o,none⟩/\b<w.heap.size/\¬S b/\∀i u,xs[i]? = some u->w.cell? ⟨b,o+i,none⟩=some u
theorem RdA.rd (h:RdA S w A xs):Rd w w.heap.size A xs:=by
 rcases h with h | ⟨b,o,E,D,_,F⟩
 ·exact .inl h
 ·exact .inr ⟨b,o,E,D,F⟩
theorem RdA.keep (h:RdA S w A xs) (E:Chg T w w') (M:∀i,i<w.heap.size->T i->S i) (hs:∀i,i<w.heap.size->S' i->S i):RdA S' w' A xs:=by
 rcases h with h | ⟨b,o,O,D,F,X⟩
 ·exact .inl h
 ·exact .inr ⟨b,o,O,Nat.lt_of_lt_of_le D E.size,fun x=>F (hs b D x),fun i u hu=>(World.cell?_of_block (a:=⟨b,o+i,none⟩) (E.block b D (fun x=>F (M b D x)))).trans (X i u hu)⟩
theorem RdA.mono (h:RdA S w A xs) (hs:∀i,i<w.heap.size->S' i->S i):RdA S' w A xs:=h.keep (Chg.refl (fun _=>False) w) (fun _ _ x=>x.elim) hs
end
def Br (ks:Nat->UInt8) (d s:Int) (p:Option Addr) (dg:Nat->UInt8) (a o r:Nat):Array Value:=
 ((List.range 32).map (fun i=>bv (ks i))++(([.int .u32 d,.int .i32 s,.int .u32 0,.pointer p]:List Value)++((List.range 16).map (fun j=>bv (dg j))++([.int .i64 (a:Int),.int .i64 (o:Int),.int .i64 (r:Int)]:List Value)))).toArray
def XB (w:World) (b:Nat) (ks:Nat->UInt8) (d s:Int) (p:Option Addr) (dg:Nat->UInt8) (a o r:Nat):Prop:=Blk w b 194 (Br ks d s p dg a o r)
section
variable {w w':World} {b:Nat} {ks dg:Nat->UInt8} {d s:Int} {p:Option Addr} {a o r:Nat}
theorem Ny (i:Nat) (h:i<32):(Br ks d s p dg a o r)[i]? = some (bv (ks i)):=by
 rw[Br,List.getElem?_toArray,List.getElem?_append_left (by simpa using h)];simp [h]
theorem GG (i:Nat) (h:i<4):(Br ks d s p dg a o r)[32+i]? = ([.int .u32 d,.int .i32 s,.int .u32 0,.pointer p]:List Value)[i]?:=by
 rw[Br,List.getElem?_toArray,List.getElem?_append_right (by simp),List.getElem?_append_left (by simpa using h)];simp
theorem Pz (i:Nat) (h:i<16):(Br ks d s p dg a o r)[36+i]? = some (bv (dg i)):=by
 rw[Br,List.getElem?_toArray,List.getElem?_append_right (by simp;omega),List.getElem?_append_right (by simp;omega),List.getElem?_append_left (by simp;omega)];have e:36+i - (List.map (fun i=>bv (ks i)) (List.range 32)).length - ([.int .u32 d,.int .i32 s,.int .u32 0,.pointer p]:List Value).length=i:=by simp;omega
 rw[e];simp [h]
theorem Il (i:Nat) (h:i<3):(Br ks d s p dg a o r)[52+i]? = ([.int .i64 (a:Int),.int .i64 (o:Int),.int .i64 (r:Int)]:List Value)[i]?:=by
 rw[Br,List.getElem?_toArray,List.getElem?_append_right (by simp;omega),List.getElem?_append_right (by simp;omega),List.getElem?_append_right (by simp;omega)];have e:52+i - (List.map (fun i=>bv (ks i)) (List.range 32)).length - ([.int .u32 d,.int .i32 s,.int .u32 0,.pointer p]:List Value).length - (List.map (fun j=>bv (dg j)) (List.range 16)).length=i:=by simp;omega
 rw[e]
theorem XB.cell (h:XB w b ks d s p dg a o r) (i:Nat):w.cell? ⟨b,i,none⟩=(Br ks d s p dg a o r)[i]?:=Blk.cell h i
theorem XB.ck (h:XB w b ks d s p dg a o r) (i:Nat) (D:i<32):w.cell? ⟨b,i,none⟩=some (bv (ks i)):=(h.cell i).trans (Ny i D)
theorem XB.cd (h:XB w b ks d s p dg a o r):w.cell? ⟨b,32,none⟩=some (.int .u32 d):=(h.cell 32).trans (GG 0 (by decide))
theorem XB.cs (h:XB w b ks d s p dg a o r):w.cell? ⟨b,33,none⟩=some (.int .i32 s):=(h.cell 33).trans (GG 1 (by decide))
theorem XB.cp (h:XB w b ks d s p dg a o r):w.cell? ⟨b,35,none⟩=some (.pointer p):=(h.cell 35).trans (GG 3 (by decide))
theorem XB.cg (h:XB w b ks d s p dg a o r) (i:Nat) (D:i<16):w.cell? ⟨b,36+i,none⟩=some (bv (dg i)):=(h.cell _).trans (Pz i D)
theorem XB.ca (h:XB w b ks d s p dg a o r):w.cell? ⟨b,52,none⟩=some (.int .i64 (a:Int)):=(h.cell 52).trans (Il 0 (by decide))
theorem XB.co (h:XB w b ks d s p dg a o r):w.cell? ⟨b,53,none⟩=some (.int .i64 (o:Int)):=(h.cell 53).trans (Il 1 (by decide))
theorem XB.cr (h:XB w b ks d s p dg a o r):w.cell? ⟨b,54,none⟩=some (.int .i64 (r:Int)):=(h.cell 54).trans (Il 2 (by decide))
theorem XB.fz (h:XB w b ks d s p dg a o r) (i:Nat):w.frozen? ⟨b,i,none⟩=false:=Blk.frozen h i
theorem XB.lt (h:XB w b ks d s p dg a o r):b<w.heap.size:=Blk.lt h
theorem WW (D:Int):(Br ks d s p dg a o r).setIfInBounds 32 (.int .u32 D)=Br ks D s p dg a o r:=by simp [Br]
theorem WX (s':Int):(Br ks d s p dg a o r).setIfInBounds 33 (.int .i32 s')=Br ks d s' p dg a o r:=by simp [Br]
theorem WY (D:Option Addr):(Br ks d s p dg a o r).setIfInBounds 35 (.pointer D)=Br ks d s D dg a o r:=by simp [Br]
theorem WZ (D:Nat):(Br ks d s p dg a o r).setIfInBounds 52 (.int .i64 (D:Int))=Br ks d s p dg D o r:=by simp [Br]
theorem Xa (D:Nat):(Br ks d s p dg a o r).setIfInBounds 53 (.int .i64 (D:Int))=Br ks d s p dg a D r:=by simp [Br]
theorem Xb (D:Nat):(Br ks d s p dg a o r).setIfInBounds 54 (.int .i64 (D:Int))=Br ks d s p dg a o D:=by simp [Br]
theorem XB.set_d (h:XB w b ks d s p dg a o r) (D:Int):XB (w.setCell ⟨b,32,none⟩ (.int .u32 D)) b ks D s p dg a o r:=by
 have:=Blk.set h 32 (.int .u32 D);rwa [WW] at this
theorem XB.set_s (h:XB w b ks d s p dg a o r) (s':Int):XB (w.setCell ⟨b,33,none⟩ (.int .i32 s')) b ks d s' p dg a o r:=by
 have:=Blk.set h 33 (.int .i32 s');rwa [WX] at this
theorem XB.set_p (h:XB w b ks d s p dg a o r) (D:Option Addr):XB (w.setCell ⟨b,35,none⟩ (.pointer D)) b ks d s D dg a o r:=by
 have:=Blk.set h 35 (.pointer D);rwa [WY] at this
theorem XB.set_a (h:XB w b ks d s p dg a o r) (D:Nat):XB (w.setCell ⟨b,52,none⟩ (.int .i64 (D:Int))) b ks d s p dg D o r:=by
 have:=Blk.set h 52 (.int .i64 (D:Int));rwa [WZ] at this
theorem XB.set_o (h:XB w b ks d s p dg a o r) (D:Nat):XB (w.setCell ⟨b,53,none⟩ (.int .i64 (D:Int))) b ks d s p dg a D r:=by
 have:=Blk.set h 53 (.int .i64 (D:Int));rwa [Xa] at this
theorem XB.set_r (h:XB w b ks d s p dg a o r) (D:Nat):XB (w.setCell ⟨b,54,none⟩ (.int .i64 (D:Int))) b ks d s p dg a o D:=by
 have:=Blk.set h 54 (.int .i64 (D:Int));rwa [Xb] at this
theorem XB.drew (h:XB w b ks d s p dg a o r):XB w.drew b ks d s p dg a o r:=h
theorem XB.chg {S:Nat->Prop} (h:XB w b ks d s p dg a o r) (D:Chg S w w') (hs:¬S b):XB w' b ks d s p dg a o r:=D.blk h hs
end
def Mx (cs:Array Value):Nat->List Value->Array Value
 |_,[]=>cs
 |o,v :: l=>Mx (cs.setIfInBounds o v) (o+1) l
theorem Blk.setCells {g:Nat} {t:TypeId}:∀(vs:List Value) (o:Nat) (w:World) (cs:Array Value),Blk w g t cs->Blk (w.setCells g o vs) g t (Mx cs o vs)
 | [],_,_,_,h=>h
 |v :: l,o,w,cs,h=>Blk.setCells l (o+1) _ _ (h.set o v)
theorem Vi (ks:Nat->UInt8) (d s:Int) (p:Option Addr) (dg D:Nat->UInt8) (a o r:Nat):Mx (Br ks d s p dg a o r) 36 (Si.AF D).toList=Br ks d s p D a o r:=by kernel_rfl
theorem XB.set_dg {w:World} {b:Nat} {ks dg:Nat->UInt8} {d s:Int} {p:Option Addr} {a o r:Nat} (h:XB w b ks d s p dg a o r) (D:Nat->UInt8):XB (w.setCells b 36 (Si.AF D).toList) b ks d s p D a o r:=by
 have:=Blk.setCells (Si.AF D).toList 36 _ _ h
 rwa [Vi] at this
abbrev IF:Nat->UInt8:=fun _=>0
def Box (w:World) (b:Nat) (ks:Nat->UInt8) (h:Option Nat) (a o r:Nat):Prop:=
 match h with
 |none=>XB w b ks 0 0 none IF a o r
 |some g=>XB w b ks 1 0 (some ⟨g,0,none⟩) (k2 ks) a o r/\g≠b/\∃m,Sp.Key w g ks m
def Ow (b:Nat) (h:Option Nat) (i:Nat):Prop:=i=b\/h=some i
theorem Box.lt {w:World} {b:Nat} {ks:Nat->UInt8} {h:Option Nat} {a o r:Nat} (D:Box w b ks h a o r):b<w.heap.size:=by
 cases h with
 |none=>exact XB.lt D
 |some g=>exact XB.lt D.1
theorem Box.lt_g {w:World} {b g:Nat} {ks:Nat->UInt8} {a o r:Nat} (D:Box w b ks (some g) a o r):g<w.heap.size:=by
 obtain⟨_,_,m,hk⟩:=D;exact hk.lt
theorem Box.own_lt {w:World} {b:Nat} {ks:Nat->UInt8} {h:Option Nat} {a o r:Nat} (E:Box w b ks h a o r) (i:Nat) (D:Ow b h i):i<w.heap.size:=by
 rcases D with D | D
 ·subst D;exact E.lt
 ·subst D;exact E.lt_g
theorem PA {S:Nat->Prop} {w w':World} {g:Nat} {ks:Nat->UInt8} {m:Bool} (h:Sp.Key w g ks m) (D:Chg S w w') (hs:¬S g):Sp.Key w' g ks m:=by
 cases m with
 |false=>exact D.blk h hs
 |true=>exact D.blk h hs
theorem Box.chg {S:Nat->Prop} {w w':World} {b:Nat} {ks:Nat->UInt8} {h:Option Nat} {a o r:Nat} (E:Box w b ks h a o r) (D:Chg S w w') (hs:∀i,Ow b h i->¬S i):Box w' b ks h a o r:=by
 cases h with
 |none=>exact XB.chg E D (hs b (.inl rfl))
 |some g=>
  obtain⟨M,F,m,O⟩:=E;exact⟨M.chg D (hs b (.inl rfl)),F,m,PA O D (hs g (.inr rfl))⟩
theorem Box.below {w w':World} {b:Nat} {ks:Nat->UInt8} {h:Option Nat} {a o r:Nat} (E:Box w b ks h a o r) (D:Below w.heap.size w w'):Box w' b ks h a o r:=
 E.chg (S:=fun _=>False) (Chg.of_below D) (fun _ _ x=>x)
def Step (w w':World) (b:Nat) (h:Option Nat) (g:Nat):Prop:=Chg (Ow b h) w w'/\(h=some g\/(h=none/\w.heap.size<=g))
theorem Step.own {w w':World} {b g:Nat} {h:Option Nat} (hs:Step w w' b h g):∀i,i<w.heap.size->Ow b (some g) i->Ow b h i:=by
 intro i F D;rcases D with D | D
 ·exact .inl D
 ·injection D with D
  subst D;rcases hs.2 with E | ⟨_,E⟩
  ·exact .inr E
  ·omega
theorem Step.trans {a w c:World} {b g F:Nat} {h:Option Nat} (E:Step a w b h g) (M:Step w c b (some g) F):F=g/\Step a c b h g:=by
 have e:F=g:=by
  rcases M.2 with D | ⟨D,_⟩
  ·injection D with D;exact D.symm
  ·cases D
 exact⟨e,E.1.trans M.1 E.own,E.2⟩
theorem Step.then {a w c:World} {b g:Nat} {h:Option Nat} {S:Nat->Prop} (D:Step a w b h g) (E:Chg S w c) (hs:∀i,i<a.heap.size->S i->Ow b h i):Step a c b h g:=⟨D.1.trans E hs,D.2⟩
def AT (ks:Nat->UInt8):Array Value:=((List.range 32).map (fun i=>bv (ks i))).toArray
theorem Ac {P:Program} {ops:Array Oper} {rest:List Oper} {op:Oper} {a:Act} {w:World} {Q:Exit->Act->World->Prop} (D:op.guard=none) (ty:TypeId) (x:Operand) (F:op.op=.load ty x)
  (g o:Nat) (E:a.eval x=.pointer (some ⟨g,o,none⟩)) (cs:Array Value) (d:TypeDesc) (M:w.rangeAt g o cs.toList)
  (hu:P.underlying ty=some d) (X:d.isRow=true) (O:(P.info? ty).map (·.size)=some cs.size)
  (h:wpList P ops Q rest (a.put op.dst (.agg cs)) w):wpList P ops Q (op :: rest) a w:=
 wpList_load_mid D ty x F g o E cs.toList d M hu X (by rw[Array.length_toList];exact O) (by simpa using h)
theorem AR (ks:Nat->UInt8):(AT ks).size=32:=by simp [AT]
theorem My (ks:Nat->UInt8):(Tryz.prog.info? 31).map (·.size)=some (AT ks).size:=by rw[AR];kernel_rfl
theorem Vj (ks:Nat->UInt8):(AT ks).all (·.oneCell')=true:=by simp [AT,bv,Value.oneCell']
theorem Jp (ks:Nat->UInt8) (w:World):Calls Tryz.prog 51 #[.agg (AT ks)] w fun e w'=>∃b,e=.returned (.pointer (some ⟨b,0,none⟩))/\w.heap.size<=b/\Box w' b ks none 0 0 0/\Below w.heap.size w w':=by
 have E:=My ks;obtain⟨cs,D⟩:=Ah (AT ks);rw[<-D] at E⊢;have O:cs.size=32:=by rw[D];exact AR ks
 have F:=I E;clear E;have M:=I D;clear D;go_enter Tryz.func51,Tryz.ntmps51
 go_wp2_with (first
  |(refine Ac (by rfl) 31 (.tmp 1) (by rfl) w.heap.size 0 (by rfl) cs _ (Si.Ab (Blk.new w 31 cs)) Tryz.underlying31 (by rfl) F.o ?_)
  |fail)
 go_ret;refine⟨w.heap.size+1,rfl,Nat.le_succ _,?_,((Below.refl w.heap.size w).alloc Ae _).alloc (by simp) _⟩;exact Sp.Blk.new_of (w.alloc _) _ 194 _ (Br ks 0 0 none IF 0 0 0) (by rw[M.o];kernel_rfl) (by simp)
theorem XB.range1 {w:World} {b:Nat} {ks dg:Nat->UInt8} {d s:Int} {p:Option Addr} {a o r:Nat} (h:XB w b ks d s p dg a o r):w.rangeAt b 0 (Sp.AF ks).toList:=fun j v D=>by
 rw[Sp.AF,List.toList_toArray,List.getElem?_map] at D;rcases Nat.lt_or_ge j 16 with g | g
 ·rw[Nat.zero_add,h.ck j (by omega)];simpa [g] using D
 ·rw[List.getElem?_eq_none (by simpa using g)] at D;cases D
theorem XB.range2 {w:World} {b:Nat} {ks dg:Nat->UInt8} {d s:Int} {p:Option Addr} {a o r:Nat} (h:XB w b ks d s p dg a o r):w.rangeAt b 16 (Sp.AF (k2 ks)).toList:=fun j v D=>by
 rw[Sp.AF,List.toList_toArray,List.getElem?_map] at D;rcases Nat.lt_or_ge j 16 with g | g
 ·rw[h.ck (16+j) (by omega)];simpa [g,k2] using D
 ·rw[List.getElem?_eq_none (by simpa using g)] at D;cases D
theorem XB.rangeD {w:World} {b:Nat} {ks dg:Nat->UInt8} {d s:Int} {p:Option Addr} {a o r:Nat} (h:XB w b ks d s p dg a o r):w.rangeAt b 36 (Sp.AF dg).toList:=fun j v D=>by
 rw[Sp.AF,List.toList_toArray,List.getElem?_map] at D;rcases Nat.lt_or_ge j 16 with g | g
 ·rw[h.cg j (by omega)];simpa [g] using D
 ·rw[List.getElem?_eq_none (by simpa using g)] at D;cases D
theorem XB.thereD {w:World} {b:Nat} {ks dg:Nat->UInt8} {d s:Int} {p:Option Addr} {a o r:Nat} (h:XB w b ks d s p dg a o r):w.there b 36 16:=fun j D=>⟨by rw[h.cg j D];rfl,h.fz _⟩
theorem AZ (f:Nat->UInt8):(Sp.AF f).size=16:=by simp [Sp.AF]
theorem Im (f:Nat->UInt8):(Tryz.prog.info? 166).map (·.size)=some (Sp.AF f).size:=by rw[AZ];kernel_rfl
theorem PB (f:Nat->UInt8):(Sp.AF f).all (·.oneCell')=true:=by simp [Sp.AF,bv,Value.oneCell']
theorem IW {a w:World} {b:Nat}:∀(vs:List Value) (o:Nat) (w:World),a.grownBy w (some b)->a.grownBy (w.setCells b o vs) (some b)
 | [],_,_,h=>h
 |v :: r,o,w,h=>IW (w:=w) r (o+1) _ (Ay h (.inl rfl) v)
theorem Key.far {w:World} {g:Nat} {ks:Nat->UInt8} {m:Bool} (h:Sp.Key w g ks m) (p:Addr) (u:Value) (D:p.block≠g):Sp.Key (w.setCell p u) g ks m:=by
 cases m with
 |false=>exact Si.Blk.far h p u D
 |true=>exact Si.Blk.far h p u D
theorem Key.fars {g b:Nat} {ks:Nat->UInt8} {m:Bool} (D:b≠g):∀(vs:List Value) (o:Nat) (w:World),Sp.Key w g ks m->Sp.Key (w.setCells b o vs) g ks m
 | [],_,_,h=>h
 |v :: r,o,w,h=>Key.fars D r (o+1) _ (Key.far h _ v D)
theorem Lo (b:Nat) (ks:Nat->UInt8) (a o r:Nat) (d s:Int) (w:World) (hK:XB w b ks d s none IF a o r) :
  Calls Tryz.prog 194 #[.pointer (some ⟨b,0,none⟩)] w fun e w'=>e=.returned (.tuple #[])/\∃g,XB w' b ks d s (some ⟨g,0,none⟩) (k2 ks) a o r/\w.heap.size<=g/\Sp.Key w' g ks false/\w.grownBy w' (some b):=by
 have ae:∀w:World,(Instr.arrayAt 166 (.slice (some ⟨b,0,none⟩) 16 32)).run Tryz.prog w=.ok (.pointer (some ⟨b,0,none⟩)) w:=fun _=>by kernel_rfl
 have af:∀w:World,(Instr.arrayAt 166 (.slice (some ⟨b,16,none⟩) 16 16)).run Tryz.prog w=.ok (.pointer (some ⟨b,16,none⟩)) w:=fun _=>by kernel_rfl
 have cn:=fun w=>Sp.Jp ks w
 have r1:=hK.range1;have O:∀D:World,Below w.heap.size w D->XB D b ks d s none IF a o r:=fun D h=>Blk.below hK h
 have M:=hK.lt;have R2:Hid (∀(D:World) p,XB D b ks d s p IF a o r->D.rangeAt b 16 (Sp.AF (k2 ks)).toList):=fun D p h=>XB.range2 h
 have i1:=Im ks;have i2:=Im (k2 ks);have o2:=PB (k2 ks);have z2:=AZ (k2 ks);obtain⟨cs,Y⟩:=Ah (Sp.AF ks);obtain⟨ds,F⟩:=Ah (Sp.AF (k2 ks));rw[<-Y] at r1 i1 cn;rw[<-F] at R2 i2 o2 z2;have R1:=I r1;clear r1;have K0:=I O;clear O;have LT:=I M;clear M;have I1:=I i1;clear i1;have I2:=I i2;clear i2;have O2:=I o2;clear o2;have Z2:=I z2;clear z2;have ED:=I F;clear F;clear Y hK;go_enter Tryz.func194,Tryz.ntmps194
 go_upto_region 2 with(first
  |(refine Ac (by rfl) 166 (.tmp 9) (by rfl) b 0 (by rfl) cs _ R1.o Tryz.underlying166 (by rfl) I1.o ?_)
  |(go_at_call 210;refine Calls.mono (cn _) ?_;rintro e D ⟨g,rfl,hg,X,E⟩;have X1:=K0.o D E;have ab:=X1.cp;have fz:=X1.fz;have X2:=I (X1.set_p (some ⟨g,0,none⟩));have HG:=I hg;have ad:=I X;have aa:=I E;clear hg X E X1)
  |fail)
 clear ab fz;have hR:=R2.o _ _ X2.o;have hT:=XB.thereD X2.o;rw[<-Z2.o] at hT;have HR:=I hR;clear hR;have HT:=I hT;clear hT
 go_wp2_with (first
  |(refine Ac (by rfl) 166 (.tmp 20) (by rfl) b 16 (by rfl) ds _ HR.o Tryz.underlying166 (by rfl) I2.o ?_)
  |(refine wpList_store_mid (by rfl) 166 (.tmp 23) (.tmp 21) (by rfl) b 36 ds (by rfl) (by rfl) HT.o I2.o O2.o ?_)
  |fail)
 go_end0
 have Z:b≠g:=by have:=HG.o;have:=LT.o;omega
 refine⟨rfl,g,?_,HG.o,Key.fars Z _ _ _ (Key.far ad.o _ _ Z),IW (w:=w) _ _ _ (Ay (Bo aa.o _) (.inl rfl) _)⟩;rw[ED.o];exact X2.o.set_dg (k2 ks)
theorem slow (b:Nat) (ks:Nat->UInt8) (a o r:Nat) (w:World) (O:XB w b ks 0 0 none IF a o r) :
  Calls Tryz.prog 209 #[.pointer (some ⟨b,32,none⟩),.func (.func 194) #[.pointer (some ⟨b,0,none⟩)] #[]] w fun e w'=>e=.returned (.tuple #[])/\∃g,XB w' b ks 1 0 (some ⟨g,0,none⟩) (k2 ks) a o r/\w.heap.size<=g/\Sp.Key w' g ks false/\w.grownBy w' (some b):=by
 have D:XB (w.setCell ⟨b,33,none⟩ (.int .i32 1)) b ks 0 1 none IF a o r:=O.set_s 1;have g1:w.grownBy (w.setCell ⟨b,33,none⟩ (.int .i32 1)) (some b):=Ay (World.grownBy.refl _ _) (.inl rfl) _;have X:(w.setCell ⟨b,33,none⟩ (.int .i32 1)).heap.size=w.heap.size:=by simp [World.setCell]
 have cl:=Sp.Kc ⟨b,33,none⟩ w O.cs (O.fz 33);have cd:=Sp.DJ ⟨b,32,none⟩ 0 _ D.cd false rfl;have cm:=Lo b ks a o r 0 1 _ D;rw[X] at cm;have ai:∀(x:Bool) (w:World),(Op.unary .not (.bool x)).run Tryz.prog w=.ok (.bool (!x)) w:=fun _ _=>rfl
 have Y:=O.lt;have H:=I O;clear O;have H1:=I D;clear D;have G1:=I g1;clear g1;have LT:=I Y;clear Y;clear X
 go_enter_defers Tryz.func209,Tryz.ntmps209
 go_wp2_with (first | (go_at_call 220;refine Ag cl ?_;rintro w' rfl) | (go_at_call 208;refine Ag cd ?_;rintro w' rfl) | (go_at_call 194;refine Ag cm ?_;rintro w2 ⟨g,F,af,Z,ah⟩))
 refine leaves_cons (f:=222) (args:=#[.pointer (some ⟨b,32,none⟩),.bool true]) (by simp) (by simp [go_sem]) ?_;refine(Sp.FB ⟨b,32,none⟩ _ .returning w2 F.cd (F.fz 32)).mono ?_;rintro e u' ad ⟨rfl,rfl,rfl⟩;have aa:b≠g:=by have:=LT.o;omega
 have M:=XB.set_d F.drew 1;refine leaves_cons (f:=221) (args:=#[.pointer (some ⟨b,33,none⟩)]) (by simp [settle]) (by simp [go_sem]) ?_;refine(Sp.Ew ⟨b,33,none⟩ _ _ M.cs (M.fz 33)).mono ?_;rintro e u' ad ⟨rfl,rfl,rfl⟩;have ae:=XB.set_s M 0;have E:=Key.far (Key.far (w:=w2.drew) (m:=false) Z ⟨b,32,none⟩ (.int .u32 1) aa) ⟨b,33,none⟩ (.int .i32 0) aa;have ag:=Ay (row:=some b) (Ay (row:=some b) (AX (World.grownBy.refl w2 (some b))) (p:=⟨b,32,none⟩) (.inl rfl) (.int .u32 1)) (p:=⟨b,33,none⟩) (.inl rfl) (.int .i32 0);have ab:=Sp.DU (Sp.DU G1.o ah) ag;simp [Leaves,settle,results,Tryz.results209];exact⟨g,ae,af,E,ab⟩
theorem Jo (b:Nat) (ks:Nat->UInt8) (a o r:Nat) (w:World) (D:XB w b ks 0 0 none IF a o r) :
  Calls Tryz.prog 193 #[.pointer (some ⟨b,32,none⟩),.func (.func 194) #[.pointer (some ⟨b,0,none⟩)] #[]] w fun e w'=>e=.returned (.tuple #[])/\∃g,XB w' b ks 1 0 (some ⟨g,0,none⟩) (k2 ks) a o r/\w.heap.size<=g/\Sp.Key w' g ks false/\w.grownBy w' (some b):=by
 have M:=Sp.DJ ⟨b,32,none⟩ 0 w D.cd false rfl;have cs:=slow b ks a o r w D;have F:∀(x:Bool) (w:World),(Op.unary .not (.bool x)).run Tryz.prog w=.ok (.bool (!x)) w:=fun _ _=>rfl
 clear D;go_enter Tryz.func193,Tryz.ntmps193
 go_wp2_with (first | (go_at_call 208;refine Ag M ?_;rintro w' rfl) | (go_at_call 209;refine Ag cs ?_;rintro w2 E;have O:=I E;clear E))
 go_end0
 exact⟨rfl,O.o⟩
theorem Lc (b:Nat) (M:Value) (w:World) (E:w.cell? ⟨b,32,none⟩=some (.int .u32 1)) :
  Calls Tryz.prog 193 #[.pointer (some ⟨b,32,none⟩),M] w fun e w'=>e=.returned (.tuple #[])/\w'=w:=by
 have F:=Sp.DJ ⟨b,32,none⟩ 1 w E true rfl;have D:∀(x:Bool) (w:World),(Op.unary .not (.bool x)).run Tryz.prog w=.ok (.bool (!x)) w:=fun _ _=>rfl
 clear E;go_enter Tryz.func193,Tryz.ntmps193
 go_wp2_with (first | (go_at_call 208;refine Ag F ?_;rintro w' rfl))
 go_end0
 exact⟨rfl,rfl⟩
theorem Gf (b:Nat) (ks:Nat->UInt8) (h:Option Nat) (a o r:Nat) (w:World) (D:Box w b ks h a o r) :
  Calls Tryz.prog 164 #[.pointer (some ⟨b,0,none⟩)] w fun e w'=>e=.returned (.tuple #[])/\∃g,Box w' b ks (some g) a o r/\Step w w' b h g:=by
 have O:∀(fn:Fn) (first cap:Array Value) (w:World),(Instr.makeFunc fn first cap).run Tryz.prog w=.ok (.func fn first cap) w:=fun _ _ _ _=>rfl
 cases h with
 |none=>
  have M:=Jo b ks a o r w D;have E:=XB.lt D;have LT:=I E;clear E;clear D;go_enter Tryz.func164,Tryz.ntmps164
  go_wp2_with (first | (go_at_call 193;refine Ag M ?_;rintro w' F;have Z:=I F;clear F))
  go_end0
  obtain⟨g,X,F,h3,Y⟩:=Z.o;exact⟨rfl,g,⟨X,by have:=LT.o;omega,false,h3⟩,Chg.of_grown Y (.inl rfl),.inr ⟨rfl,F⟩⟩
 |some g=>
  have M:=fun fv=>Lc b fv w (XB.cd D.1)
  have H:=I D;clear D;go_enter Tryz.func164,Tryz.ntmps164
  go_wp2_with (first | (go_at_call 193;refine Ag (M _) ?_;rintro w' rfl))
  go_end0
  exact⟨rfl,g,H.o,Chg.refl _ _,.inl rfl⟩
theorem add_one (p:Addr) (a:Nat) (w:World) (M:a<1000000) (E:w.cell? p=some (.int .i64 (a:Int))) (F:w.frozen? p=false) :
  Calls Tryz.prog 91 #[.pointer (some p),.int .i64 1] w fun e w'=>e=.returned (.int .i64 ((a+1:Nat):Int))/\w'=w.setCell p (.int .i64 ((a+1:Nat):Int)):=by
 have D:=run_call_add (P:=Tryz.prog) Tryz.func138 (by kernel_rfl) (by kernel_rfl) (by kernel_rfl) .i64 (by kernel_rfl) (y:=1) (s:=((a+1:Nat):Int)) E F (by
  have h:IntKind.i64.wrap ((a:Int)+1)=((a+1:Nat):Int):=by rw[IntKind.wrap_i64];omega
  simp [go_sem,h])
 clear E F M;go_enter Tryz.func91,Tryz.ntmps91
 go_wp2
 go_ret;exact⟨rfl,rfl⟩
theorem DK (u:Int) (x:Bool) (D:x=(decide (0<=u)&&decide (u<=255))) (w:World):Calls Tryz.prog 112 #[.int .i64 u] w fun e w'=>e=.returned (.bool x)/\w'=w:=by
 subst D
 by_cases h:0<=u
 ·go_enter Tryz.func112,Tryz.ntmps112
  go_wp2
  go_ret;exact⟨by simp [h],rfl⟩
 ·have E:decide (0<=u)=false:=by simpa using h
  go_enter Tryz.func112,Tryz.ntmps112
  go_wp2
  go_ret;exact⟨by simp,rfl⟩
theorem Ey (n:Nat) (x:Bool) (D:x=decide (n<=1099511627776)) (w:World):Calls Tryz.prog 141 #[.int .u64 (n:Int)] w fun e w'=>e=.returned (.bool x)/\w'=w:=by
 subst D;have e:decide ((n:Int)<=1099511627776)=decide (n<=1099511627776):=by congr 1;exact propext ⟨by omega,by omega⟩
 have E:=I e;clear e;go_enter Tryz.func141,Tryz.ntmps141
 go_wp2
 go_ret;exact⟨by rw[<-E.o];rfl,rfl⟩
theorem Vk (x y:Nat) (D:y<256) (E:x<72057594037927936):bits .or .u64 ((x:Int)*256) (y:Int)=((x*256+y:Nat):Int):=by
 have e:(x:Int)*256=((x*256:Nat):Int):=by omega
 have h:x*256 ||| y=x*256+y:=by
  have h:=Nat.shiftLeft_add_eq_or_of_lt (show y<2 ^ 8 by omega) x;rw[Nat.shiftLeft_eq] at h
  simpa using h.symm
 rw[e,u64_or_nat _ _ (by omega) (by omega),h]
theorem Dl (B:Nat) (A:Option Addr) (n c:Nat) (l:List UInt8) (w:World) (hn:n=l.length) (h8:8<=n) (hc:n<=c) (hr:Rd w B A (bvs l)) :
  Calls Tryz.prog 115 #[.slice A n c] w fun e w'=>e=.returned (.int .u64 (n8 l:Int))/\w'=w:=by
 obtain⟨b,o,rfl,hb,D⟩:∃b o,A=some ⟨b,o,none⟩/\b<B/\∀i (h:i<l.length),w.cell? ⟨b,o+i,none⟩=some (bv l[i]):=by
  rcases hr with h | ⟨b,o,h1,h2,h3⟩
  ·have:=Ao l;rw[h] at this;simp at this;omega
  ·exact⟨b,o,h1,h2,fun i M=>h3 i _ (DH M)⟩
 have ah:(8:Int)<=(c:Int):=by omega
 have ad:8<=c:=by omega
 have HC:=I D;clear D;have HN:=I hn;clear hn;have H8:=I h8;clear h8;clear hr hc hb;go_enter Tryz.func115,Tryz.ntmps115
 go_wp2_with fail
 go_loop [3,9] (fun X iv=>∃i:Nat,i<=8/\iv=.int .i64 (i:Int)/\X=.int .u64 (big 0 (l.take i):Nat)) (fun _ iv=>8 - (intOf iv).toNat)
 case atStart=>exact⟨0,by decide,rfl,rfl⟩
 case round=>
  obtain⟨i,M,rfl,rfl⟩:=hrel
  by_cases hx:i=8
  ·subst hx
   go_wp2_with fail
   go_ret;exact⟨rfl,rfl⟩
  ·have e1:(i:Int)<8:=by omega
   have e2:(0:Int)<=(i:Int):=by omega
   have e3:i<8:=by omega
   have hl:i<l.length:=by have:=HN.o;have:=H8.o;omega
   obtain⟨y,ey⟩:=Ah (l[i]);have E:=HC.o i hl;rw[<-ey] at E;simp only[bv] at E;have hy:=y.toNat_lt;obtain⟨v,O⟩:=Ah (big 0 (l.take i));obtain⟨u,Z⟩:=Ah (v*256+y.toNat);rw[<-O];have Y:v<72057594037927936:=by
    have:=Ll l i;rw[<-O] at this;exact Nat.lt_of_lt_of_le this (Nat.pow_le_pow_right (by decide) (by omega):256 ^ i<=256 ^ 7)
   have aa:(v:Int)*256 % 18446744073709551616=(v:Int)*256:=by omega
   have ab:(y.toNat:Int) % 18446744073709551616=(y.toNat:Int):=by omega
   have af:IntKind.u64.wrap (y.toNat:Int)=(y.toNat:Int):=by rw[IntKind.wrap_u64];exact ab
   have ag:IntKind.u64.wrap ((v:Int)*256)=(v:Int)*256:=by rw[IntKind.wrap_u64];exact aa
   have ae:bits .or .u64 ((v:Int)*256) (y.toNat:Int)=(u:Int):=by rw[Z];exact Vk v y.toNat hy Y
   have F:u=big 0 (l.take (i+1)):=by rw[RX l i hl,<-ey,<-O,Z]
   have NX:=I F;clear F;have HI:=I M;clear M;have HX:=I hx;clear hx;have HV:=I Y;clear Y;clear Z O ey
   go_wp2_with fail
   go_round
   case rel=>exact⟨i+1,by omega,by go_num,by rw[<-NX.o]⟩
   case measure=>simp [intOf];omega
theorem DC {w w':World} {base:Nat} {t:TypeId} {v:Value} {n:Nat} {xs:List Value} {o:Obj} (h:w.ownsRow base t 1 v n xs) (e:w'.heap=w.heap.push o):w'.ownsRow base t 1 v n xs:=Si.DC h e
def laid (xs:List UInt8) (N j:Nat):List Value:=bvs (xs++(w8 N).take j)
theorem Kn (xs:List UInt8) (N j:Nat) (h:j<8):laid xs N j++[bv (UInt8.ofNat (N / 2 ^ (56 - 8*j)))]=laid xs N (j+1):=by
 unfold laid;rw[Vg N j h,<-List.append_assoc,Bw (xs++(w8 N).take j)];rfl
theorem TX (xs:List UInt8) (N:Nat):laid xs N 8=bvs (xs++w8 N):=by
 unfold laid;rw[List.take_of_length_le (by rw[Db];exact Nat.le_refl _)]
theorem Mz (base:Nat) (v:Value) (n N:Nat) (xs:List UInt8) (w:World) (hN:N<18446744073709551616) (hn:n<=100000) (hb:base<=w.heap.size) (D:w.ownsRow base 5 1 v n (bvs xs)) :
  Calls Tryz.prog 142 #[v,.int .u64 (N:Int)] w fun e w'=>∃v',e=.returned v'/\w'.ownsRow base 5 1 v' (n+8) (bvs (xs++w8 N))/\Chg (fun i=>v.ownBlock=some i) w w'/\(∀k,v'.ownBlock=some k->v.ownBlock=some k\/w.heap.size<=k):=by
 obtain⟨ib,ag,ai,aj,ah⟩:=info_parts Si.BP;have HO:=I D;clear D;have HB:=I hb;clear hb;have HN:=I hN;clear hN;have HL:=I hn;clear hn;go_enter Tryz.func142,Tryz.ntmps142
 go_wp2_with fail
 go_loopw [0,5] (fun ad iv wr=>∃j:Nat,j<=8/\iv=.int .i64 (56 - 8*(j:Int))/\wr.ownsRow base 5 1 ad (n+j) (laid xs N j)/\Chg (fun i=>v.ownBlock=some i) w wr/\(∀k,ad.ownBlock=some k->v.ownBlock=some k\/w.heap.size<=k)) (fun _ iv _=>(intOf iv+8).toNat)
 case atStart=>exact⟨0,by decide,rfl,by unfold laid;rw[List.take_zero,List.append_nil];exact HO.o,Chg.refl _ _,fun k hk=>.inl hk⟩
 case round=>
  obtain⟨j,hj,rfl,D,ab,X⟩:=hrel;have M:=I X;clear X;have HR:=I D;clear D;have HW:=I ab;clear ab
  by_cases hx:j=8
  ·subst hx
   go_wp2_with fail
   go_ret;exact⟨_,rfl,by rw[<-TX];exact HR.o,HW.o,M.o⟩
  ·obtain⟨m,em⟩:∃m:Nat,m=56 - 8*j:=⟨_,rfl⟩
   have hm:(56:Int) - 8*(j:Int)=(m:Int):=by omega
   rw[hm];have Z:j<8:=by omega
   have al:m<64:=by omega
   have an:(m:Int)<64:=by omega
   have ak:(0:Int)<=(m:Int):=by omega
   have ao:min m 64=m:=by omega
   obtain⟨k,ek⟩:=Ah (n+j);have hk:k<=100010:=by have:=HL.o;omega
   rw[<-ek] at HR;have aa:=Kn xs N j Z;have hv:bv (UInt8.ofNat (N / 2 ^ (56 - 8*j)))=.int .u8 ((N:Int) / 2 ^ m % 256):=by
    unfold bv;rw[UInt8.toNat_ofNat',<-em];congr 1
   rw[hv] at aa;have NX:=I aa;clear aa;have EM:=I em;clear em;have EK:=I ek;clear ek;have HX:=I hx;clear hx;have HJ:=I hj;clear hj;have ae:=I Z;clear Z;clear hm hv
   go_wp2_with (first | (at_builtin;refine Av _ (by rfl) (.tmp 10) (.tmp 15) 25 (by rfl) base 5 ib _ 1 Tryz.underlying25 ag ai aj ah (by rfl) _ k (laid xs N j) (by rfl) (DC HR.o (by rfl)) (wr.heap.size+1) (some ⟨wr.heap.size,0,none⟩) 1 1 [.int .u8 ((N:Int) / 2 ^ m % 256)] (by rfl) (by rfl) (Si.Fm wr 5 _ [.int .u8 ((N:Int) / 2 ^ m % 256)] (by rfl) _ rfl) (by simp [Value.oneCell']) (by unfold maxLen;omega) (by omega) (by have:=HB.o;have:=HW.o.size;simp;omega) ?_;intro v6 w6 F E Y;have O6:=I F;have G6:=I E;have T6:=I Y;clear F E Y) | fail)
   go_roundw
   case rel=>
    refine⟨j+1,by have:=ae.o;omega,?_,by rw[<-NX.o,<-Nat.add_assoc,<-EK.o];exact O6.o,?_,?_⟩
    ·exact congrArg (Value.int .i64) (by have:=EM.o;have:=ae.o;omega)
    ·refine(HW.o.alloc _).trans (T:=fun i=>Value.ownBlock _=some i) ⟨G6.o.os,G6.o.tape,G6.o.output,G6.o.size,fun k hk af=>G6.o.block k hk (fun e=>af e.symm)⟩ (fun i hi hx=>?_)
     rcases M.o i hx with O | O
     ·exact O
     ·omega
    ·intro k hk
     rcases T6.o with O | O
     ·exact M.o k (O▸hk)
     ·have:=HW.o.size
      rw[hk] at O;injection O with O;exact .inr (by simp at O;omega)
   case measure=>simp [intOf];omega
def Aw (b:Nat) (h:Option Nat) (n i:Nat):Prop:=Ow b h i\/n<=i
section
variable {w w' a c:World} {b g n:Nat} {h:Option Nat} {A:Option Addr} {xs:List Value} {S:Nat->Prop}
theorem RdA.aw (E:RdA (Ow b h) w A xs) (F:w.heap.size<=n):RdA (Aw b h n) w A xs:=E.mono fun i M D=>by
 rcases D with D | D
 ·exact D
 ·omega
theorem Step.aw (hs:Step w w' b h g):Chg (Aw b h n) w w':=hs.1.mono fun i _ D=>.inl D
theorem Step.aw_g (hs:Step w w' b h g) (E:n<=w.heap.size):Aw b h n g:=by
 rcases hs.2 with D | ⟨_,D⟩
 ·exact .inl (.inr D)
 ·exact .inr (by omega)
theorem Chg.then (h:Chg S a w) (k:Chg S w c):Chg S a c:=h.trans k fun _ _ x=>x
theorem RdA.go (h:RdA S w A xs) (D:Chg S w w'):RdA S w' A xs:=h.keep D (fun _ _ x=>x) (fun _ _ x=>x)
theorem Chg.step (F:Chg (Aw b h w.heap.size) w w') (E:h=some g\/(h=none/\w.heap.size<=g)):Step w w' b h g:=
 ⟨F.mono fun i M D=>by
  rcases D with D | D
  ·exact D
  ·omega,E⟩
end
def tl (ks:Nat->UInt8) (u n:Nat) (p:List UInt8) (i:Nat):List UInt8:=(mixL ks u n p).take i++(Dc ks u n p.length).drop i
theorem tl_at (ks:Nat->UInt8) (u n:Nat) (p:List UInt8) (i:Nat) (h:i<p.length) (D:i<(Dc ks u n p.length).length):(bvs (tl ks u n p i)).toArray[i]? = some (bv (Dc ks u n p.length)[i]):=by
 rw[List.getElem?_toArray];unfold bvs tl;rw[List.getElem?_map,List.getElem?_append_right (by rw[List.length_take,Bq];omega),List.length_take,Bq,show i - min i p.length=0 by omega,List.getElem?_drop,Nat.add_zero,List.getElem?_eq_getElem D];rfl
theorem Xc (ks:Nat->UInt8) (u n:Nat) (p:List UInt8) (i:Nat) (h:i<p.length) (D:i<(Dc ks u n p.length).length):(bvs (tl ks u n p i)).toArray.setIfInBounds i (bv (p[i] ^^^ (Dc ks u n p.length)[i]))=(bvs (tl ks u n p (i+1))).toArray:=by
 rw[List.setIfInBounds_toArray]
 congr 1
 unfold bvs;rw[<-List.map_set]
 congr 1
 have e:(mixL ks u n p).take (i+1)=(mixL ks u n p).take i++[p[i] ^^^ (Dc ks u n p.length)[i]]:=by
  rw[List.take_add_one,Px ks u n p i h D];rfl
 have E:((mixL ks u n p).take i).length=i:=by rw[List.length_take,Bq];omega
 unfold tl;rw[e,List.set_append_right _ _ (by omega),E,Nat.sub_self,List.append_assoc,List.drop_eq_getElem_cons D]
 rfl
theorem Xd (ks:Nat->UInt8) (u n:Nat) (p:List UInt8):tl ks u n p p.length=mixL ks u n p:=by
 rw[tl,List.take_of_length_le (by rw[Bq];exact Nat.le_refl _),List.drop_of_length_le (by rw[BI];exact Nat.le_refl _),List.append_nil]
theorem Vl (ks:Nat->UInt8) (u n:Nat) (p:List UInt8):tl ks u n p 0=Dc ks u n p.length:=by
 rw[tl,List.take_zero,List.drop_zero,List.nil_append]
theorem xor_b (x y:UInt8):bits .xor .u8 (y.toNat:Int) (x.toNat:Int)=((x ^^^ y).toNat:Int):=by
 rw[u8_xor_nat _ _ y.toNat_lt x.toNat_lt,UInt8.toNat_xor,Nat.xor_comm]
theorem Xe (u n:Nat) (hu:u<=255):((n:Int)*256 % 18446744073709551616+(u:Int)) % 18446744073709551616=((sn u n:Nat):Int):=by unfold sn;omega
theorem PD (b:Nat) (ks:Nat->UInt8) (h:Option Nat) (a o r u n:Nat) (A:Option Addr) (c:Nat) (w:World) (hu:u<=255) (hn:n<18446744073709551616) (hK:Box w b ks h a o r) :
  Calls Tryz.prog 114 #[.pointer (some ⟨b,0,none⟩),.int .i64 (u:Int),.int .u64 (n:Int),.slice A 0 c] w fun e w'=>∃g,e=.returned (.slice none 0 0)/\Box w' b ks (some g) a o r/\Step w w' b h g:=by
 have Z:=Gf b ks h a o r w hK;have aa:(0:Int)<=(u:Int):=by omega
 clear hK;have HU:=I hu;clear hu;have HN:=I hn;clear hn;go_enter Tryz.func114,Tryz.ntmps114
 go_wp2_with (first
  |(go_at_call 164;refine Ag Z ?_;rintro Y ⟨g,D,E⟩;clear Z;have X:=D.1.cp;have F:=(fun N=>Sp.No (some ⟨g,0,none⟩) N 0 Y (.inr (by decide)));have M:=I D;have O:=I E;clear D E)
  |(go_at_call 165;refine Ag (F _) ?_;rintro w2 hw;have hw:=hw.symm;subst hw;clear F X))
 go_loopw [27] (fun iv wr=>iv=.int .i64 0/\wr=Y) (fun iv _=>0)
 case atStart=>exact⟨rfl,rfl⟩
 case round=>
  obtain⟨rfl,rfl⟩:=hrel
  go_wp2_with fail
  go_ret;exact⟨g,rfl,M.o,O.o⟩
theorem PE (u n:Nat) (hu:u<=255):IntKind.u64.wrap (IntKind.u64.wrap ((n:Int)*256)+IntKind.u64.wrap (u:Int))=((sn u n:Nat):Int):=by
 rw[IntKind.wrap_u64,IntKind.wrap_u64,IntKind.wrap_u64];unfold sn;omega
theorem Xf (u n:Nat):sn u n<18446744073709551616:=Nat.mod_lt _ (by decide)
theorem PG (b:Nat) (ks:Nat->UInt8) (h:Option Nat) (a o r u n:Nat) (A:Option Addr) (m c:Nat) (p:List UInt8) (w:World) (hu:u<=255) (hn:n<18446744073709551616) (hm:m=p.length) (aj:1<=m) (ay:m<=1000) (hr:RdA (Ow b h) w A (bvs p)) (hK:Box w b ks h a o r) :
  Calls Tryz.prog 114 #[.pointer (some ⟨b,0,none⟩),.int .i64 (u:Int),.int .u64 (n:Int),.slice A m c] w fun e w'=>∃g q,e=.returned (.slice (some ⟨q,0,none⟩) m m)/\w.heap.size<=q/\q≠g/\Blk w' q 5 (bvs (mixL ks u n p)).toArray/\Box w' b ks (some g) a o r/\Step w w' b h g:=by
 have cn:=Gf b ks h a o r w hK;obtain⟨N,eN⟩:=Ah (sn u n);have af:=PE u n hu;have F:=Xf u n;rw[<-eN] at af F;have Z:Sp.strm (Sp.kw ks) (Sp.upW N) (Sp.loW N) m=Dc ks u n m:=by rw[eN];rfl
 have aa:=hK.lt;clear hK;have HR:=I (hr.aw Ae);clear hr;have HU:=I hu;clear hu;have HN:=I hn;clear hn;have HM:=I hm;clear hm;have aC:=I aj;clear aj;have an:=I ay;clear ay;have aI:=I F;clear F;have aG:=I Z;clear Z;have aE:=I af;clear af;have BL:=I aa;clear aa;clear eN;go_enter Tryz.func114,Tryz.ntmps114
 go_wp2_with (first
  |(go_at_call 164;refine Ag cn ?_;rintro w1 ⟨g,ar,av⟩;clear cn;have aD:=ar.1.cp;obtain⟨ao,ag,md,ae⟩:=ar;have ab:=Sp.Np g ks md N m (m:Int) w1 rfl aC.o (by have:=an.o;omega) aI.o ae;rw[aG.o] at ab;have X1:=I ao;have NE:=I ag;have GL:=I ae.lt;have O:=I av;clear av ao ag ae)
  |(go_at_call 165;rw[aE.o];refine Calls.mono ab ?_;rintro e w2 ⟨q,rfl,hq,hB,aA,az,_⟩;clear ab aD;have HQ:=I hq;have HB:=I hB;have aF:=I aA;have aw:=I az;clear hq hB aA az))
 have ax:(Dc ks u n m).length=m:=BI ks u n m
 go_loopw [27] (fun iv wr=>∃i:Nat,i<=m/\iv=.int .i64 (i:Int)/\Chg (fun k=>w1.heap.size<=k) w2 wr/\Blk wr q 5 (bvs (tl ks u n p i)).toArray) (fun iv _=>m - (intOf iv).toNat)
 case atStart=>exact⟨0,Nat.zero_le _,rfl,Chg.refl _ _,by rw[Vl,<-HM.o];exact HB.o⟩
 case round=>
  obtain⟨i,hi,rfl,hc,al⟩:=hrel;have HC:=I hc;clear hc;have X:=I al;clear al;have aN:=I ax;clear ax;have D:Chg (Aw b h w.heap.size) w w1/\Chg (Aw b h w.heap.size) w1 w2/\Chg (Aw b h w.heap.size) w2 wr:=
   ⟨O.o.aw,Chg.of_grown aw.o (O.o.aw_g Ae),HC.o.mono fun k _ hx=>.inr (Nat.le_trans O.o.1.size hx)⟩
  by_cases hx:i=m
  ·subst hx
   have HA:=I D;clear D
   go_wp2_with fail
   go_ret;have aL:b<w1.heap.size:=X1.o.lt;have aJ:XB w2 b ks 1 0 (some ⟨g,0,none⟩) (k2 ks) a o r:=Blk.grown X1.o aw.o (fun e=>by injection e with e;exact NE.o e);have aB:q≠g:=by have:=GL.o;have:=HQ.o;omega
   refine⟨g,q,rfl,Nat.le_trans O.o.1.size HQ.o,aB,?_,⟨aJ.chg HC.o (by omega),NE.o,true,PA aF.o HC.o (by have:=GL.o;omega)⟩,?_⟩
   ·rw[<-Xd,<-HM.o];exact X.o
   ·exact((HA.o.1.then HA.o.2.1).then HA.o.2.2).step O.o.2
  ·have aK:i<m:=by omega
   have Y:i<p.length:=by have:=HM.o;omega
   have e1:(i:Int)<(m:Int):=by omega
   have e2:(0:Int)<=(i:Int):=by omega
   have e3:(i:Int)<1000:=by have:=an.o;omega
   have ad:i<(Dc ks u n p.length).length:=by rw[BI];exact Y
   obtain⟨y,ey⟩:=Ah (p[i]);obtain⟨x,ex⟩:=Ah ((Dc ks u n p.length)[i]);obtain⟨z,ez⟩:=Ah (y ^^^ x);have ah:=((HR.o.go D.1).go D.2.1).go D.2.2;obtain⟨b2,o2,rfl,aH,_,M⟩:=ah.resolve_left (by intro e;have:=Ao p;rw[e] at this;simp at this;omega);have ai:=M i _ (DH Y);have ak:wr.cell? ⟨q,i,none⟩=some (bv (Dc ks u n p.length)[i]):=by rw[X.o.cell];exact tl_at ks u n p i Y ad
   have E:=Xc ks u n p i Y ad;rw[<-ey] at ai E;rw[<-ex] at ak E;rw[<-ez] at E;simp only[bv] at ai ak;have aM:bits .xor .u8 (x.toNat:Int) (y.toNat:Int)=(z.toNat:Int):=by rw[ez];exact xor_b y x
   have fz:=X.o.frozen;have au:=I E;clear E;have HX:=I hx;clear hx;have HI:=I hi;clear hi;clear ey ex ez D ah M aH ad
   go_wp2_with fail
   refine wp_region_still_tail 10 (by kernel_rfl) (by kernel_rfl) ?_;simp only[List.take_succ_cons,List.take_zero,List.drop_succ_cons,List.drop_zero];change wpStill _ _ wr.drew _ _ _
   repeat still_step
   refine wpStill_nil ?_;change wpList _ _ _ _ _ wr.drew
   go_wp2_with fail
   go_roundw
   case rel=>
    refine⟨i+1,by omega,by go_num,HC.o.drew.set (.inl HQ.o) _,?_⟩;have e:Blk wr.drew q 5 (bvs (tl ks u n p i)).toArray:=X.o;have:=e.set i (bv z);rw[au.o] at this;exact this
   case measure=>simp [intOf];omega
def Nw (n g i:Nat):Prop:=i<n\/i=g
theorem Hi (b:Nat) (ks:Nat->UInt8) (h:Option Nat) (a o r u n:Nat) (A:Option Addr) (m c:Nat) (p:List UInt8) (w:World) (hu:u<=255) (X:n<18446744073709551616) (hm:m=p.length) (D:m<=1000) (hr:RdA (Ow b h) w A (bvs p)) (M:Box w b ks h a o r) :
  Calls Tryz.prog 114 #[.pointer (some ⟨b,0,none⟩),.int .i64 (u:Int),.int .u64 (n:Int),.slice A m c] w fun e w'=>∃g Aq cq,e=.returned (.slice Aq m cq)/\m<=cq/\cq<=1000/\RdA (Nw w.heap.size g) w' Aq (bvs (mixL ks u n p))/\Box w' b ks (some g) a o r/\Step w w' b h g:=by
 rcases Nat.eq_zero_or_pos m with F | F
 ·subst F
  have hp:mixL ks u n p = []:=List.eq_nil_of_length_eq_zero (by rw[Bq];omega);refine(PD b ks h a o r u n A c w hu X M).mono ?_;rintro e w' ⟨g,rfl,O,E⟩;exact⟨g,none,0,rfl,Nat.le_refl _,by decide,by rw[hp];exact .inl rfl,O,E⟩
 ·refine(PG b ks h a o r u n A m c p w hu X hm F D hr M).mono ?_
  rintro e w' ⟨g,q,rfl,O,E,Z,h4,h5⟩;refine⟨g,_,m,rfl,Nat.le_refl _,D,.inr ⟨q,0,rfl,Z.lt,?_,fun i v hv=>?_⟩,h4,h5⟩
  ·rintro(Y | Y)
   ·omega
   ·exact E Y
  ·rw[Nat.zero_add,Z.cell,List.getElem?_toArray];exact hv
theorem TY (u:Nat) (hu:u<=255):bv (UInt8.ofNat u)=.int .u8 (u:Int):=by
 unfold bv;rw[UInt8.toNat_ofNat',Nat.mod_eq_of_lt (by omega)]
theorem RY {w:World} (u:Nat) (hu:u<=255) (A:Option Addr) (m c:Nat) (l:List UInt8) (t D:TypeId) (hm:m=l.length) (E:Rd w w.heap.size A (bvs l)) :
  Si.Rows ((w.alloc (.cells #[.int .u8 (u:Int)] t)).alloc (.cells #[.slice (some ⟨w.heap.size,0,none⟩) 1 1,.slice A m c] D)) ((w.alloc (.cells #[.int .u8 (u:Int)] t)).alloc (.cells #[.slice (some ⟨w.heap.size,0,none⟩) 1 1,.slice A m c] D)).heap.size (some ⟨w.heap.size+1,0,none⟩) [[UInt8.ofNat u],l]:=by
 have h:=Si.Nx (w:=w.alloc (.cells #[.int .u8 (u:Int)] t)) D [.slice (some ⟨w.heap.size,0,none⟩) 1 1,.slice A m c] [[UInt8.ofNat u],l] #[.slice (some ⟨w.heap.size,0,none⟩) 1 1,.slice A m c] rfl rfl (fun i F=>by
  match i,F with
  |0,_=>
   refine⟨some ⟨w.heap.size,0,none⟩,1,rfl,?_⟩;have:=Si.Fm w t #[.int .u8 (u:Int)] [.int .u8 (u:Int)] rfl w.heap.size rfl;rw[show bvs [[UInt8.ofNat u],l][0] = [.int .u8 (u:Int)] from by show [bv (UInt8.ofNat u)]=_;rw[TY u hu]];exact this.more (by simp)
  |1,_=>exact⟨A,c,by rw[hm];rfl,(E.alloc Ae _).more (by simp)⟩)
 have e:(w.alloc (.cells #[.int .u8 (u:Int)] t)).heap.size=w.heap.size+1:=by simp
 rw[e] at h;exact h
theorem PH (b:Nat) (ks:Nat->UInt8) (h:Option Nat) (a o r u:Nat) (A:Option Addr) (m c:Nat) (l:List UInt8) (w:World) (hu:u<=255) (hm:m=l.length) (ah:m<=1000) (hr:RdA (Ow b h) w A (bvs l)) (hK:Box w b ks h a o r) :
  Calls Tryz.prog 143 #[.pointer (some ⟨b,0,none⟩),.int .i64 (u:Int),.slice A m c] w fun e w'=>∃g,e=.returned (.int .u64 (tagL ks u l:Nat))/\Box w' b ks (some g) a o r/\Step w w' b h g:=by
 have cn:=Gf b ks h a o r w hK;have D:∀E,Rd E E.heap.size A (bvs l)->_:=fun E h1=>Si.Vf (k2 ks) (some ⟨E.heap.size+1,0,none⟩) 2 2 [[UInt8.ofNat u],l] _ rfl (by decide) (by simp [Si.flat];omega) (RY u hu A m c l 5 25 hm h1)
 have Z:Si.flat [[UInt8.ofNat u],l]=UInt8.ofNat u :: l:=by simp [Si.flat]
 rw[Z] at D;have i2:=Im (k2 ks);have F:Si.AF (k2 ks)=Sp.AF (k2 ks):=rfl;rw[F] at D;obtain⟨T,eT⟩:=Ah (tagL ks u l);have hT:∀e,e=Ending.returned (Si.wv (Si.GC (k2 ks) (UInt8.ofNat u :: l)))->e=.returned (.int .u64 (T:Int)):=fun e h=>by rw[h,eT];rfl
 rw[<-eT];have HR:=I (hr.aw Ae);clear hr;have al:(u:Int)<=255:=by omega
 have an:(0:Int)<=(u:Int):=by omega
 have aj:(u:Int) % 256=(u:Int):=by omega
 have ak:IntKind.u8.wrap (u:Int)=(u:Int):=by rw[IntKind.wrap_u8'];exact aj
 obtain⟨ds,X⟩:=Ah (Sp.AF (k2 ks));have ab:∀E g,Box E b ks (some g) a o r->E.rangeAt b 36 ds.toList:=fun E g hb=>by rw[X];exact XB.rangeD hb.1
 rw[<-X] at i2 D;have RD:=I ab;clear ab;have I2:=I i2;clear i2;have HT:=I hT;clear hT;clear hK hm ah hu X eT Z F;go_enter Tryz.func143,Tryz.ntmps143
 go_wp2_with (first
  |(go_at_call 164;refine Ag cn ?_;rintro E ⟨g,M,O⟩;clear cn;have hs:=D E (HR.o.go O.aw).rd;clear D;have Y:=RD.o E g M;have ae:=I Y;have af:=I M;have ag:=I O;clear M O Y)
  |(refine Ac (by rfl) 166 (.tmp 11) (by rfl) b 36 (by rfl) ds _ ae.o Tryz.underlying166 (by rfl) I2.o ?_)
  |(go_at_call 177;refine Calls.mono hs ?_;rintro e w2 ⟨he,aa⟩;have he:=HT.o e he;subst he;have ai:=I aa;clear aa hs)
  |fail)
 go_ret;have hb:=((Below.refl E.heap.size E).alloc Ae (Obj.cells #[.int .u8 (u:Int)] 5)).alloc (by simp) (Obj.cells #[.slice (some ⟨E.heap.size,0,none⟩) 1 1,.slice A m c] 25);have ad:=hb.trans (ai.o.mono (by simp;omega));exact⟨g,rfl,af.o.below ad,ag.o.then (Chg.of_below (S:=fun _=>False) ad) (fun _ _ x=>x.elim)⟩
theorem FI {S:Nat->Prop} {w:World} {base n:Nat} {v:Value} {xs:List Value} {t:TypeId} (h:w.ownsRow base t 1 v n xs) (hs:∀k,v.ownBlock=some k->¬S k):∃A c,v=.slice A n c/\n<=c/\c<=maxLen/\RdA S w A xs:=by
 have X:=h;obtain⟨F,⟨rfl,M⟩ | ⟨g,cap,cur,rfl,_,O,D,E,_⟩⟩:=h
 ·subst M
  exact⟨none,0,rfl,Nat.le_refl _,Nat.zero_le _,.inl (List.eq_nil_of_length_eq_zero (by simpa using F))⟩
 ·refine⟨_,cap,rfl,D,E,.inr ⟨g,0,rfl,(Array.getElem?_eq_some_iff.1 O).1,hs g rfl,fun i u hu=>?_⟩⟩
  have:=X.cells (g:=g) rfl i u hu
  rwa [addr_add] at this
theorem Box.seals {w:World} {b:Nat} {ks:Nat->UInt8} {g a o r:Nat} (h:Box w b ks (some g) a o r) (D:Nat):Box (w.setCell ⟨b,52,none⟩ (.int .i64 (D:Int))) b ks (some g) D o r:=by
 obtain⟨F,E,m,M⟩:=h;exact⟨F.set_a D,E,m,Key.far M _ _ (fun e=>E e.symm)⟩
theorem Box.opens {w:World} {b:Nat} {ks:Nat->UInt8} {g a o r:Nat} (h:Box w b ks (some g) a o r) (D:Nat):Box (w.setCell ⟨b,53,none⟩ (.int .i64 (D:Int))) b ks (some g) a D r:=by
 obtain⟨F,E,m,M⟩:=h;exact⟨F.set_o D,E,m,Key.far M _ _ (fun e=>E e.symm)⟩
theorem Box.refuses {w:World} {b:Nat} {ks:Nat->UInt8} {h:Option Nat} {a o r:Nat} (F:Box w b ks h a o r) (D:Nat):Box (w.setCell ⟨b,54,none⟩ (.int .i64 (D:Int))) b ks h a o D:=by
 cases h with
 |none=>exact XB.set_r F D
 |some g=>
  obtain⟨M,E,m,O⟩:=F;exact⟨M.set_r D,E,m,Key.far O _ _ (fun e=>E e.symm)⟩
theorem PI {w w':World} {v:Value} (h:w.grownBy w' v.ownBlock):Chg (fun i=>v.ownBlock=some i) w w':=
 ⟨h.os,h.tape,h.output,h.size,fun k hk D=>h.block k hk (fun e=>D e.symm)⟩
theorem Step.same {w w':World} {b g E:Nat} (h:Step w w' b (some g) E):g=E:=by
 rcases h.2 with D | ⟨D,_⟩
 ·injection D
 ·cases D
def TZ (B:Nat) (v:Value):Prop:=∀k,v.ownBlock=some k->B<=k
theorem Ez {w:World} {B n:Nat} {v:Value} {xs:List Value} {t:TypeId} (h:w.ownsRow B t 1 v n xs):TZ B v:=fun k hk=>(h.lt k hk).1
theorem Xg {B b:Nat} {ks:Nat->UInt8} {h:Option Nat} {a o r:Nat} {A:Option Addr} {xs:List Value} {w W w2:World} {v0:Value} (Z:B=w.heap.size) (M:Box w b ks h a o r) (Y:RdA (Ow b h) w A xs) (E:Below B w W) (X:TZ B v0) (hc:Chg (fun i=>v0.ownBlock=some i) W w2) :
  Box w2 b ks h a o r/\RdA (Ow b h) w2 A xs/\Chg (Aw b h B) w w2:=by
 subst Z;have F:Chg (fun i=>w.heap.size<=i) w w2:=(Chg.of_below E).trans hc fun i _ D=>X i D
 exact⟨M.chg F (fun i O D=>by have:=M.own_lt i O;omega),Y.keep F (fun i O D=>by omega) (fun i _ D=>D),F.mono fun i _ D=>.inr D⟩
theorem Xh {B b g n:Nat} {h:Option Nat} {w2 O:World} {v1:Value} {xs:List Value} {t:TypeId} (D:∀i,Ow b h i->i<B) (hB:B<=w2.heap.size) (F:w2.ownsRow B t 1 v1 n xs) (hs:Step w2 O b h g) :
  O.ownsRow B t 1 v1 n xs/\(∀i,Ow b (some g) i->¬v1.ownBlock=some i)/\Aw b h B g:=by
 refine⟨hs.1.own F (fun k hk X=>by have:=D k X;have:=(F.lt k hk).1;omega),fun i E hk=>?_,hs.aw_g hB⟩;have Y:=F.lt i hk;rcases E with E | E
 ·have:=D i (.inl E);omega
 ·injection E with E
  rcases hs.2 with M | ⟨_,M⟩
  ·have:=D i (.inr (E▸M));omega
  ·omega
theorem Xi {b g:Nat} {ks:Nat->UInt8} {a o r:Nat} {D O:World} {v1 v4:Value} (F:Box D b ks (some g) a o r) (M:∀i,Ow b (some g) i->¬v1.ownBlock=some i) (Y:D.grownBy O v1.ownBlock) (E:v4.ownBlock=v1.ownBlock\/v4.ownBlock=some D.heap.size) :
  Box O b ks (some g) a o r/\(∀i,v4.ownBlock=some i->¬Ow b (some g) i):=by
 refine⟨F.chg (PI Y) M,fun i hk X=>?_⟩;rcases E with h | h
 ·exact M i X (h▸hk)
 ·rw[h] at hk
  injection hk with hk;have:=F.own_lt i X;omega
theorem Vm (b:Nat) (ks:Nat->UInt8) (h:Option Nat) (a o r u n:Nat) (A:Option Addr) (m c:Nat) (p:List UInt8) (w:World) (ha:a<1000000) (hu:u<=255) (hn:n<=1099511627776) (hm:m=p.length) (aE:m<=784) (hr:RdA (Ow b h) w A (bvs p)) (hK:Box w b ks h a o r) :
  Calls Tryz.prog 93 #[.pointer (some ⟨b,0,none⟩),.int .i64 (u:Int),.int .i64 (n:Int),.slice A m c] w fun e w'=>∃g Aq cq,e=.returned (.tuple #[.slice Aq (m+16) cq,.int .i64 0])/\m+16<=cq/\cq<=maxLen/\RdA (Nw w.heap.size g) w' Aq (bvs (Dg ks u n p))/\Box w' b ks (some g) (a+1) o r/\Step w w' b h g:=by
 obtain⟨ib,aw,aG,aQ,ax⟩:=info_parts Si.BP;have bf:=fun W=>Dk (P:=Tryz.prog) (t:=25) (e:=5) Tryz.underlying25 aw aG aQ ax ((m:Int)+16) (m+16) (by omega) (by omega) W
 have f1:=DK (u:Int) true (by simp;omega);have f2:=Ey n true (by simp;omega);obtain⟨B,eB⟩:=Ah (w.heap.size);have X:=World.ownsRow_made (e:=5) (base:=B) (size:=1) w (Cx (m+16)) (m+16) (by omega) (by unfold maxLen;omega) (by rw[Dm,Nat.mul_one]);have c1:=Mz B _ 0 n [] _ (by omega) (by decide) (by simp;omega) X;rw[Nat.zero_add,List.nil_append] at c1;have ar:Below B w (w.alloc (.cells (Cx (m+16)) 5)):=eB▸Af.alloc Ae _;have aA:∀i,Ow b h i->i<B:=fun i hi=>eB▸hK.own_lt i hi
 have aI:=Ez X;have bb:=I aI;clear aI;have HK:=I hK;clear hK;have HR:=I hr;clear hr;have AL:=I ar;clear ar;have OL:=I aA;clear aA;have EB:=I eB;have q1:(n:Int)<=1099511627776:=by omega
 have q2:(0:Int)<=(n:Int):=by omega
 have q3:(m:Int)<=784:=by omega
 have q4:IntKind.u64.wrap (n:Int)=(n:Int):=by rw[IntKind.wrap_u64];omega
 have q5:IntKind.i64.wrap ((m:Int)+16)=(m:Int)+16:=by rw[IntKind.wrap_i64];omega
 have q6:decide ((n:Int)<0)=false:=by simp
 have q7:decide (784<(m:Int))=false:=by simp;omega
 obtain⟨L,eL⟩:=Ah (Ee ks u n p);have aS:bvs (w8 n)++bvs (mixL ks u n p)=bvs L:=by rw[eL,Ee,Bw]
 have az:8+m=L.length:=by rw[eL,BK,<-hm]
 obtain⟨T,eT⟩:=Ah (tagL ks u L);have aB:T<18446744073709551616:=by rw[eT];exact Lm _ _ _
 have aj:bvs (L++w8 T)=bvs (Dg ks u n p):=by rw[eT,eL];rfl
 have EL:=I aS;clear aS;have LL:=I az;clear az;have TL:=I aB;clear aB;have bj:=I aj;clear aj;have ET:=I eT;clear eT;clear eL;have HA:=I ha;clear ha;have HU:=I hu;clear hu;have HN:=I hn;clear hn;have HM:=I hm;clear hm;have Z:=I aE;clear aE;have C1:=I c1;clear c1;clear X eB;go_enter Tryz.func93,Tryz.ntmps93
 go_wp2_with (first
  |(go_at_call 112;refine Ag (f1 _) ?_;rintro wq hw;have hw:=hw.symm;subst hw;clear f1)
  |(go_at_call 141;refine Ag (f2 _) ?_;rintro wq hw;have hw:=hw.symm;subst hw;clear f2)
  |(go_at_call 142;refine Calls.mono C1.o ?_;rintro e w2 ⟨v1,rfl,ad,ag,an⟩;clear C1 bf;obtain⟨aT,aK,ak⟩:=Xg EB.o HK.o HR.o AL.o bb.o ag;have ct:=Hi b ks h a o r u n A m c p w2 HU.o (by have:=HN.o;omega) HM.o (by have:=Z.o;omega) aK aT;have O1:=I ad;have C2:=I ak;have W2:=I ak.size;clear ad ag an aT aK ak)
  |(go_at_call 114;refine Calls.mono ct ?_;rintro e w3 ⟨g,Aq,cq,rfl,aM,aJ,av,aO,af⟩;clear ct;obtain⟨aP,aD,aH⟩:=Xh OL.o (by have:=W2.o;have:=EB.o;omega) O1.o af;have O3:=I aP;have N3:=I aD;have G3:=I aH;have Q3:=I av;have B3:=I aO;have S3:=I af;have W3:=I af.1.size;clear aM aJ av aO af aP aD aH)
  |(at_builtin;refine Av _ (by rfl) (.tmp 41) (.tmp 47) 25 (by rfl) B 5 ib _ 1 Tryz.underlying25 aw aG aQ ax (by rfl) v1 8 (bvs (w8 n)) (by rfl) O3.o w3.heap.size Aq m cq (bvs (mixL ks u n p)) (by rfl) (by rw[Ao,Bq];exact HM.o) Q3.o.rd (Bz _) (by have:=Z.o;unfold maxLen;omega) (by have:=Z.o;omega) (by have:=W2.o;have:=W3.o;have:=EB.o;omega) ?_;intro v4 w4 E D ai;obtain⟨aN,al⟩:=Xi B3.o N3.o D ai;rw[EL.o] at E;obtain⟨A4,c4,aX,bg,_,aU⟩:=FI E al;subst aX;have ao:=PH b ks (some g) a o r u A4 (8+m) c4 L w4 HU.o LL.o (by have:=Z.o;omega) aU aN;rw[<-ET.o] at ao;have O4:=I E;have N4:=I al;have G4:=I D;have aZ:=I (Ez E);have W4:=I D.size;clear E D ai aN al aU bg)
  |(go_at_call 143;refine Calls.mono ao ?_;rintro e w5 ⟨g2,rfl,ay,O⟩;clear ao;have bh:=O.same;subst bh;have aC:=O.1.own O4.o N4.o;have c6:=Mz B _ (8+m) T L w5 TL.o (by have:=Z.o;omega) (by have:=W2.o;have:=W3.o;have:=W4.o;have:=O.1.size;have:=EB.o;omega) aC;have B5:=I ay;have S5:=I O;clear aC ay O)
  |(go_at_call 142;refine Calls.mono c6 ?_;rintro e w6 ⟨v6,rfl,aa,ab,M⟩;clear c6;have ae:=B5.o.chg ab (fun i hi hk=>N4.o i hk hi);have ah:=add_one ⟨b,52,none⟩ a w6 HA.o ae.1.ca (ae.1.fz 52);have O6:=I aa;have C6:=I ab;have N6:=I M;have B6:=I ae;clear aa ab M ae)
  |(go_at_call 91;refine Ag ah ?_;rintro w7 aF;clear ah;have Y:=I aF;clear aF)
  |fail)
 have au:∀k,v6.ownBlock=some k->B<=k/\k≠g/\k≠b:=fun k hk=>by
  have h1:=Ez O6.o k hk;have h2:=OL.o b (.inl rfl);refine⟨h1,fun e=>?_,by omega⟩;rcases N6.o k hk with h3 | h3
  ·exact N4.o k h3 (.inr (by rw[e]))
  ·have:=B5.o.lt_g;omega
 have bl:w.heap.size<=w7.heap.size:=by
  have e:w7.heap.size=w6.heap.size:=by rw[Y.o];simp [World.setCell]
  have:=W2.o;have:=W3.o;have:=W4.o;have:=S5.o.1.size;have:=C6.o.size;omega
 have aV:w7.ownsRow B 5 1 v6 (8+m+8) (bvs (L++w8 T)):=by
  rw[Y.o];exact((Chg.refl (fun i=>i=b) w6).set (.inl rfl) _).own O6.o (fun k hk=>(au k hk).2.2)
 rw[bj.o] at aV;obtain⟨A7,c7,aW,aR,aY,ba⟩:=FI (S:=Nw w.heap.size g) aV (fun k hk F=>by
  have h1:=au k hk;have:=EB.o;rcases F with F | F
  ·omega
  ·exact h1.2.1 F)
 have bd:Chg (Aw b h w.heap.size) w w7:=by
  rw[<-EB.o];have aL:∀i,Ow b (some g) i->Aw b h B i:=fun i hi=>by
   rcases hi with hi | hi
   ·exact .inl (.inl hi)
   ·injection hi with hi;exact hi▸G3.o
  have h4:Chg (Aw b h B) w3 w4:=(PI G4.o).mono fun i _ F=>.inr ((Ez O3.o) i F)
  have h5:Chg (Aw b h B) w4 w5:=S5.o.1.mono fun i _ F=>aL i F
  have h6:Chg (Aw b h B) w5 w6:=C6.o.mono fun i _ F=>.inr (aZ.o i F)
  have h7:Chg (Aw b h B) w6 w7:=by rw[Y.o];exact(Chg.refl _ w6).set (.inl (.inl (.inl rfl))) _
  exact((((C2.o.then S3.o.aw).then h4).then h5).then h6).then h7
 have B7:Box w7 b ks (some g) (a+1) o r:=by rw[Y.o];exact B6.o.seals (a+1)
 clear Y;subst aW
 go_wp2_with fail
 go_ret2
 rw[show 8+m+8=m+16 by omega] at aR;exact⟨g,A7,c7,by show Ending.returned (.tuple #[.slice A7 (8+m+8) c7,.int .i64 0])=_;rw[show 8+m+8=m+16 by omega],aR,aY,ba,B7,bd.step (S3.o.2.imp id (fun F=>⟨F.1,by have:=W2.o;omega⟩))⟩
end Se
end Go.Proofs.YtcpccikongbopaaGreat
