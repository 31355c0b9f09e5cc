import Derived.Test.YtlccngianpfalaaGreatZClientLoops3
import Derived.Test.YtlccngianpfalaaGreatZClientLoops5
set_option maxHeartbeats 25600000
set_option maxRecDepth 100000
set_option linter.unusedVariables false
set_option linter.unusedSimpArgs false
namespace Go.Proofs.YtlccngianpfalaaGreat
namespace Se
open Go.RowKit Ae
def w8 (n:Nat):List UInt8:=(List.range 8).map fun j=>UInt8.ofNat (n / 2 ^ (56 - 8*j))
theorem Dh (n:Nat):(w8 n).length=8:=by simp [w8]
def big:Nat->List UInt8->Nat
 |a,[]=>a
 |a,b :: l=>big (a*256+b.toNat) l
theorem MO (b:UInt8):∀(l:List UInt8) (a:Nat),big a (l++[b])=big a l*256+b.toNat
 | [],_=>rfl
 |c :: l,a=>MO b l (a*256+c.toNat)
theorem Uw:∀(l:List UInt8) (a:Nat),big a l<(a+1)*256 ^ l.length
 | [],a=>by simp [big]
 |b :: l,a=>by
  have h:=Uw l (a*256+b.toNat);have M:=b.toNat_lt;refine Nat.lt_of_lt_of_le h ?_;rw[List.length_cons,Nat.pow_succ,Nat.mul_comm (256 ^ l.length),<-Nat.mul_assoc];exact Nat.mul_le_mul_right _ (by omega)
def n8 (l:List UInt8):Nat:=big 0 (l.take 8)
theorem LG (n:Nat):w8 n = [UInt8.ofNat (n / 2 ^ 56),UInt8.ofNat (n / 2 ^ 48),UInt8.ofNat (n / 2 ^ 40),UInt8.ofNat (n / 2 ^ 32),UInt8.ofNat (n / 2 ^ 24),UInt8.ofNat (n / 2 ^ 16),UInt8.ofNat (n / 2 ^ 8),UInt8.ofNat (n / 2 ^ 0)]:=rfl
theorem Xo (n:Nat) (h:n<18446744073709551616) (l:List UInt8):n8 (w8 n++l)=n:=by
 unfold n8;rw[List.take_append_of_le_length (by rw[Dh];exact Nat.le_refl _),List.take_of_length_le (by rw[Dh];exact Nat.le_refl _),LG];simp only[big,UInt8.toNat_ofNat'];omega
theorem n8_w8' (n:Nat) (h:n<18446744073709551616):n8 (w8 n)=n:=by
 have:=Xo n h []
 rwa [List.append_nil] at this
theorem w8_at (n j:Nat) (h:j<8):(w8 n)[j]? = some (UInt8.ofNat (n / 2 ^ (56 - 8*j))):=by
 simp [w8,h]
theorem VG (n j:Nat) (h:j<8):(w8 n).take (j+1)=(w8 n).take j++[UInt8.ofNat (n / 2 ^ (56 - 8*j))]:=by
 rw[List.take_add_one,w8_at n j h];rfl
theorem SG (l:List UInt8) (j:Nat) (h:j<l.length):big 0 (l.take (j+1))=big 0 (l.take j)*256+(l[j]).toNat:=by
 rw[List.take_succ_eq_append_getElem h,MO]
theorem LH (l:List UInt8) (j:Nat):big 0 (l.take j)<256 ^ j:=by
 have h:=Uw (l.take j) 0;rw[Nat.zero_add,Nat.one_mul] at h;exact Nat.lt_of_lt_of_le h (Nat.pow_le_pow_right (by decide) (by rw[List.length_take];omega))
def sn (u n:Nat):Nat:=(n*256+u) % 18446744073709551616
def Di (ks:Nat->UInt8) (u n m:Nat):List UInt8:=Sp.strm (Sp.kw ks) (BitVec.ofNat 32 (sn u n / 4294967296)) (BitVec.ofNat 32 (sn u n)) m
theorem BS (ks:Nat->UInt8) (u n m:Nat):(Di ks u n m).length=m:=Sp.Lv _ _ _ _
def xorL (p s:List UInt8):List UInt8:=List.zipWith (· ^^^ ·) p s
def mixL (ks:Nat->UInt8) (u n:Nat) (p:List UInt8):List UInt8:=xorL p (Di ks u n p.length)
theorem BA (ks:Nat->UInt8) (u n:Nat) (p:List UInt8):(mixL ks u n p).length=p.length:=by
 simp [mixL,xorL,BS]
theorem MP:∀p s:List UInt8,p.length<=s.length->xorL (xorL p s) s=p
 | [],_,_=>by simp [xorL]
 |a :: p,[],h=>by simp at h
 |a :: p,b :: s,h=>by
  have M:=MP p s (by simpa using h);unfold xorL at M⊢;rw[List.zipWith_cons_cons,List.zipWith_cons_cons,M]
  congr 1
  apply UInt8.toNat_inj.1;rw[UInt8.toNat_xor,UInt8.toNat_xor,Nat.xor_assoc,Nat.xor_self,Nat.xor_zero]
theorem PY (ks:Nat->UInt8) (u n:Nat) (p:List UInt8):mixL ks u n (mixL ks u n p)=p:=by
 have e:mixL ks u n (mixL ks u n p)=xorL (xorL p (Di ks u n p.length)) (Di ks u n p.length):=by
  rw[mixL,BA];rfl
 rw[e,MP _ _ (by rw[BS];exact Nat.le_refl _)]
theorem PZ (ks:Nat->UInt8) (u n:Nat) (p:List UInt8) (i:Nat) (h:i<p.length) (M:i<(Di ks u n p.length).length):(mixL ks u n p)[i]? = some (p[i] ^^^ (Di ks u n p.length)[i]):=by
 unfold mixL xorL;rw[List.getElem?_zipWith,List.getElem?_eq_getElem h,List.getElem?_eq_getElem M]
def k2 (ks:Nat->UInt8) (i:Nat):UInt8:=ks (16+i)
def tagL (ks:Nat->UInt8) (u:Nat) (l:List UInt8):Nat:=(Si.GY (k2 ks) (UInt8.ofNat u :: l)).toNat
theorem LI (ks:Nat->UInt8) (u:Nat) (l:List UInt8):tagL ks u l<18446744073709551616:=(Si.GY (k2 ks) (UInt8.ofNat u :: l)).isLt
def Et (ks:Nat->UInt8) (u n:Nat) (p:List UInt8):List UInt8:=w8 n++mixL ks u n p
theorem BX (ks:Nat->UInt8) (u n:Nat) (p:List UInt8):(Et ks u n p).length=8+p.length:=by
 rw[Et,List.length_append,Dh,BA]
def Dm (ks:Nat->UInt8) (u n:Nat) (p:List UInt8):List UInt8:=Et ks u n p++w8 (tagL ks u (Et ks u n p))
theorem BT (ks:Nat->UInt8) (u n:Nat) (p:List UInt8):(Dm ks u n p).length=p.length+16:=by
 rw[Dm,List.length_append,BX,Dh];omega
def Ha (l:List UInt8):List UInt8:=l.take (l.length - 8)
def GS (l:List UInt8):List UInt8:=l.drop (l.length - 8)
def midL (l:List UInt8):List UInt8:=(Ha l).drop 8
def isL (ks:Nat->UInt8) (u:Nat) (l:List UInt8):Bool:=decide (16<=l.length)&&decide (l.length<=800)&&decide (n8 l<=1099511627776)&&decide (tagL ks u (Ha l)=n8 (GS l))
def VH (ks:Nat->UInt8) (u:Nat) (l:List UInt8):Option (List UInt8):=if isL ks u l=true then some (mixL ks u (n8 l) (midL l)) else none
theorem KF (ks:Nat->UInt8) (u n:Nat) (p:List UInt8):Ha (Dm ks u n p)=Et ks u n p:=by
 unfold Ha;rw[BT];unfold Dm;rw[List.take_append_of_le_length (by rw[BX];omega),List.take_of_length_le (by rw[BX];omega)]
theorem Qa (ks:Nat->UInt8) (u n:Nat) (p:List UInt8):GS (Dm ks u n p)=w8 (tagL ks u (Et ks u n p)):=by
 unfold GS;rw[BT];unfold Dm;rw[List.drop_append_of_le_length (by rw[BX];omega),List.drop_of_length_le (by rw[BX];omega),List.nil_append]
theorem MQ (ks:Nat->UInt8) (u n:Nat) (p:List UInt8):midL (Dm ks u n p)=mixL ks u n p:=by
 unfold midL;rw[KF,Et,List.drop_append_of_le_length (by rw[Dh];exact Nat.le_refl _),List.drop_of_length_le (by rw[Dh];exact Nat.le_refl _),List.nil_append]
theorem LJ (ks:Nat->UInt8) (u n:Nat) (p:List UInt8) (M:n<18446744073709551616):n8 (Dm ks u n p)=n:=by
 unfold Dm Et;rw[List.append_assoc,Xo n M]
theorem IF (ks:Nat->UInt8) (u n:Nat) (p:List UInt8) (M:n<=1099511627776) (O:p.length<=784):VH ks u (Dm ks u n p)=some p:=by
 have h:isL ks u (Dm ks u n p)=true:=by
  unfold isL;rw[BT,LJ ks u n p (by omega),KF,Qa,n8_w8' _ (LI _ _ _)];simp;omega
 rw[VH,if_pos h,MQ,LJ ks u n p (by omega),PY]
structure Chg (S:Nat->Prop) (w w':World):Prop where
 os:w'.os=w.os
 tape:w'.tape=w.tape
 output:w'.output=w.output
 size:w.heap.size<=w'.heap.size
 block:∀k,k<w.heap.size->¬S k->w'.heap[k]? = w.heap[k]?
section
variable {S T S':Nat->Prop} {a w w' c:World} {A:Option Addr} {xs:List Value} {g b:Nat} {t:TypeId} {cs:Array Value}
theorem Chg.refl (S:Nat->Prop) (w:World):Chg S w w:=⟨rfl,rfl,rfl,Nat.le_refl _,fun _ _ _=>rfl⟩
theorem Chg.trans (h:Chg S a w) (k:Chg T w c) (hs:∀i,i<a.heap.size->T i->S i):Chg S a c:=
 ⟨k.os.trans h.os,k.tape.trans h.tape,k.output.trans h.output,Nat.le_trans h.size k.size,fun i M O=>(k.block i (Nat.lt_of_lt_of_le M h.size) (fun X=>O (hs i M X))).trans (h.block i M O)⟩
theorem Chg.mono (h:Chg S a w) (hs:∀i,i<a.heap.size->S i->T i):Chg T a w:=⟨h.os,h.tape,h.output,h.size,fun i M O=>h.block i M (fun x=>O (hs i M x))⟩
theorem Chg.of_below (h:Below w.heap.size w w'):Chg S w w':=⟨h.os,h.tape,h.output,h.size,fun i M _=>h.block i M⟩
theorem Chg.of_grown (h:w.grownBy w' (some g)) (hs:S g):Chg S w w':=⟨h.os,h.tape,h.output,h.size,fun i O M=>h.block i O (fun e=>by injection e with e;subst e;exact M hs)⟩
theorem Chg.below (h:Chg S a w) {B:Nat} (hB:B<=a.heap.size) (hs:∀i,i<a.heap.size->S i->B<=i):Below B a w:=
 ⟨h.os,h.tape,h.output,h.size,fun i M=>h.block i (by omega) (fun x=>by have:=hs i (by omega) x;omega)⟩
theorem Chg.blk (h:Chg S w w') (M:Blk w g t cs) (hs:¬S g):Blk w' g t cs:=(h.block g M.lt hs).trans M
theorem Chg.own (h:Chg S w w') {base n:Nat} {v:Value} (O:w.ownsRow base t 1 v n xs) (hs:∀k,v.ownBlock=some k->¬S k):w'.ownsRow base t 1 v n xs:=by
 refine⟨O.1,?_⟩;rcases O.2 with X | ⟨g,cap,cur,rfl,Y,M,rest⟩
 ·exact .inl X
 ·exact .inr ⟨g,cap,cur,rfl,Y,(h.block g (Array.getElem?_eq_some_iff.1 M).1 (hs g rfl)).trans M,rest⟩
theorem Chg.set (h:Chg S a w) {p:Addr} (M:S p.block\/a.heap.size<=p.block) (u:Value):Chg S a (w.setCell p u):=
 ⟨h.os,h.tape,h.output,by simpa [World.setCell] using h.size,fun i X O=>(Below.heap_setCell w p u i (by
  rintro rfl;rcases M with M | M
  ·exact O M
  ·omega)).trans (h.block i X O)⟩
theorem Chg.alloc (h:Chg S a w) (o:Obj):Chg S a (w.alloc o):=
 ⟨h.os,h.tape,h.output,Nat.le_trans h.size (by simp),fun i M O=>(Below.heap_alloc w o i (Nat.lt_of_lt_of_le M h.size)).trans (h.block i M O)⟩
theorem Chg.drew (h:Chg S a w):Chg S a w.drew:=⟨h.os,h.tape,h.output,h.size,h.block⟩
def RdA (S:Nat->Prop) (w:World) (A:Option Addr) (xs:List Value):Prop:=
 xs = []\/∃b o,A=some ⟨b,o,none⟩/\b<w.heap.size/\¬S b/\∀i u,xs[i]? = some u->w.cell? ⟨b,o+i,none⟩=some u
theorem RdA.rd (h:RdA S w A xs):Rd w w.heap.size A xs:=by
 rcases h with h | ⟨b,o,O,M,_,X⟩
 ·exact .inl h
 ·exact .inr ⟨b,o,O,M,X⟩
theorem RdA.keep (h:RdA S w A xs) (X:Chg T w w') (ht:∀i,i<w.heap.size->T i->S i) (hs:∀i,i<w.heap.size->S' i->S i):RdA S' w' A xs:=by
 rcases h with h | ⟨b,o,Y,M,O,Z⟩
 ·exact .inl h
 ·exact .inr ⟨b,o,Y,Nat.lt_of_lt_of_le M X.size,fun x=>O (hs b M x),fun i u hu=>(World.cell?_of_block (a:=⟨b,o+i,none⟩) (X.block b M (fun x=>O (ht b M x)))).trans (Z i u hu)⟩
theorem RdA.mono (h:RdA S w A xs) (hs:∀i,i<w.heap.size->S' i->S i):RdA S' w A xs:=h.keep (Chg.refl (fun _=>False) w) (fun _ _ x=>x.elim) hs
end
def BB (ks:Nat->UInt8) (d s:Int) (p:Option Addr) (dg:Nat->UInt8) (a o r:Nat):Array Value:=
 ((List.range 32).map (fun i=>bv (ks i))++(([.int .u32 d,.int .i32 s,.int .u32 0,.pointer p]:List Value)++((List.range 16).map (fun j=>bv (dg j))++([.int .i64 (a:Int),.int .i64 (o:Int),.int .i64 (r:Int)]:List Value)))).toArray
def XB (w:World) (b:Nat) (ks:Nat->UInt8) (d s:Int) (p:Option Addr) (dg:Nat->UInt8) (a o r:Nat):Prop:=Blk w b 177 (BB ks d s p dg a o r)
section
variable {w w':World} {b:Nat} {ks dg:Nat->UInt8} {d s:Int} {p:Option Addr} {a o r:Nat}
theorem Od (i:Nat) (h:i<32):(BB ks d s p dg a o r)[i]? = some (bv (ks i)):=by
 rw[BB,List.getElem?_toArray,List.getElem?_append_left (by simpa using h)];simp [h]
theorem Hb (i:Nat) (h:i<4):(BB ks d s p dg a o r)[32+i]? = ([.int .u32 d,.int .i32 s,.int .u32 0,.pointer p]:List Value)[i]?:=by
 rw[BB,List.getElem?_toArray,List.getElem?_append_right (by simp),List.getElem?_append_left (by simpa using h)];simp
theorem Qb (i:Nat) (h:i<16):(BB ks d s p dg a o r)[36+i]? = some (bv (dg i)):=by
 rw[BB,List.getElem?_toArray,List.getElem?_append_right (by simp;omega),List.getElem?_append_right (by simp;omega),List.getElem?_append_left (by simp;omega)];have e:36+i - (List.map (fun i=>bv (ks i)) (List.range 32)).length - ([.int .u32 d,.int .i32 s,.int .u32 0,.pointer p]:List Value).length=i:=by simp;omega
 rw[e];simp [h]
theorem IG (i:Nat) (h:i<3):(BB ks d s p dg a o r)[52+i]? = ([.int .i64 (a:Int),.int .i64 (o:Int),.int .i64 (r:Int)]:List Value)[i]?:=by
 rw[BB,List.getElem?_toArray,List.getElem?_append_right (by simp;omega),List.getElem?_append_right (by simp;omega),List.getElem?_append_right (by simp;omega)];have e:52+i - (List.map (fun i=>bv (ks i)) (List.range 32)).length - ([.int .u32 d,.int .i32 s,.int .u32 0,.pointer p]:List Value).length - (List.map (fun j=>bv (dg j)) (List.range 16)).length=i:=by simp;omega
 rw[e]
theorem XB.cell (h:XB w b ks d s p dg a o r) (i:Nat):w.cell? ⟨b,i,none⟩=(BB ks d s p dg a o r)[i]?:=Blk.cell h i
theorem XB.ck (h:XB w b ks d s p dg a o r) (i:Nat) (M:i<32):w.cell? ⟨b,i,none⟩=some (bv (ks i)):=(h.cell i).trans (Od i M)
theorem XB.cd (h:XB w b ks d s p dg a o r):w.cell? ⟨b,32,none⟩=some (.int .u32 d):=(h.cell 32).trans (Hb 0 (by decide))
theorem XB.cs (h:XB w b ks d s p dg a o r):w.cell? ⟨b,33,none⟩=some (.int .i32 s):=(h.cell 33).trans (Hb 1 (by decide))
theorem XB.cp (h:XB w b ks d s p dg a o r):w.cell? ⟨b,35,none⟩=some (.pointer p):=(h.cell 35).trans (Hb 3 (by decide))
theorem XB.cg (h:XB w b ks d s p dg a o r) (i:Nat) (M:i<16):w.cell? ⟨b,36+i,none⟩=some (bv (dg i)):=(h.cell _).trans (Qb i M)
theorem XB.ca (h:XB w b ks d s p dg a o r):w.cell? ⟨b,52,none⟩=some (.int .i64 (a:Int)):=(h.cell 52).trans (IG 0 (by decide))
theorem XB.co (h:XB w b ks d s p dg a o r):w.cell? ⟨b,53,none⟩=some (.int .i64 (o:Int)):=(h.cell 53).trans (IG 1 (by decide))
theorem XB.cr (h:XB w b ks d s p dg a o r):w.cell? ⟨b,54,none⟩=some (.int .i64 (r:Int)):=(h.cell 54).trans (IG 2 (by decide))
theorem XB.fz (h:XB w b ks d s p dg a o r) (i:Nat):w.frozen? ⟨b,i,none⟩=false:=Blk.frozen h i
theorem XB.lt (h:XB w b ks d s p dg a o r):b<w.heap.size:=Blk.lt h
theorem Xp (M:Int):(BB ks d s p dg a o r).setIfInBounds 32 (.int .u32 M)=BB ks M s p dg a o r:=by simp [BB]
theorem Xq (s':Int):(BB ks d s p dg a o r).setIfInBounds 33 (.int .i32 s')=BB ks d s' p dg a o r:=by simp [BB]
theorem Xr (M:Option Addr):(BB ks d s p dg a o r).setIfInBounds 35 (.pointer M)=BB ks d s M dg a o r:=by simp [BB]
theorem Xs (M:Nat):(BB ks d s p dg a o r).setIfInBounds 52 (.int .i64 (M:Int))=BB ks d s p dg M o r:=by simp [BB]
theorem Xt (M:Nat):(BB ks d s p dg a o r).setIfInBounds 53 (.int .i64 (M:Int))=BB ks d s p dg a M r:=by simp [BB]
theorem Xu (M:Nat):(BB ks d s p dg a o r).setIfInBounds 54 (.int .i64 (M:Int))=BB ks d s p dg a o M:=by simp [BB]
theorem XB.set_d (h:XB w b ks d s p dg a o r) (M:Int):XB (w.setCell ⟨b,32,none⟩ (.int .u32 M)) b ks M s p dg a o r:=by
 have:=Blk.set h 32 (.int .u32 M);rwa [Xp] at this
theorem XB.set_s (h:XB w b ks d s p dg a o r) (s':Int):XB (w.setCell ⟨b,33,none⟩ (.int .i32 s')) b ks d s' p dg a o r:=by
 have:=Blk.set h 33 (.int .i32 s');rwa [Xq] at this
theorem XB.set_p (h:XB w b ks d s p dg a o r) (M:Option Addr):XB (w.setCell ⟨b,35,none⟩ (.pointer M)) b ks d s M dg a o r:=by
 have:=Blk.set h 35 (.pointer M);rwa [Xr] at this
theorem XB.set_a (h:XB w b ks d s p dg a o r) (M:Nat):XB (w.setCell ⟨b,52,none⟩ (.int .i64 (M:Int))) b ks d s p dg M o r:=by
 have:=Blk.set h 52 (.int .i64 (M:Int));rwa [Xs] at this
theorem XB.set_o (h:XB w b ks d s p dg a o r) (M:Nat):XB (w.setCell ⟨b,53,none⟩ (.int .i64 (M:Int))) b ks d s p dg a M r:=by
 have:=Blk.set h 53 (.int .i64 (M:Int));rwa [Xt] at this
theorem XB.set_r (h:XB w b ks d s p dg a o r) (M:Nat):XB (w.setCell ⟨b,54,none⟩ (.int .i64 (M:Int))) b ks d s p dg a o M:=by
 have:=Blk.set h 54 (.int .i64 (M:Int));rwa [Xu] at this
theorem XB.drew (h:XB w b ks d s p dg a o r):XB w.drew b ks d s p dg a o r:=h
theorem XB.chg {S:Nat->Prop} (h:XB w b ks d s p dg a o r) (M:Chg S w w') (hs:¬S b):XB w' b ks d s p dg a o r:=M.blk h hs
end
def MR (cs:Array Value):Nat->List Value->Array Value
 |_,[]=>cs
 |o,v :: l=>MR (cs.setIfInBounds o v) (o+1) l
theorem Blk.setCells {g:Nat} {t:TypeId}:∀(vs:List Value) (o:Nat) (w:World) (cs:Array Value),Blk w g t cs->Blk (w.setCells g o vs) g t (MR cs o vs)
 | [],_,_,_,h=>h
 |v :: l,o,w,cs,h=>Blk.setCells l (o+1) _ _ (h.set o v)
theorem VI (ks:Nat->UInt8) (d s:Int) (p:Option Addr) (dg M:Nat->UInt8) (a o r:Nat):MR (BB ks d s p dg a o r) 36 (Si.AN M).toList=BB ks d s p M a o r:=by kernel_rfl
theorem XB.set_dg {w:World} {b:Nat} {ks dg:Nat->UInt8} {d s:Int} {p:Option Addr} {a o r:Nat} (h:XB w b ks d s p dg a o r) (M:Nat->UInt8):XB (w.setCells b 36 (Si.AN M).toList) b ks d s p M a o r:=by
 have:=Blk.setCells (Si.AN M).toList 36 _ _ h
 rwa [VI] at this
abbrev IY:Nat->UInt8:=fun _=>0
def Box (w:World) (b:Nat) (ks:Nat->UInt8) (h:Option Nat) (a o r:Nat):Prop:=
 match h with
 |none=>XB w b ks 0 0 none IY a o r
 |some g=>XB w b ks 1 0 (some ⟨g,0,none⟩) (k2 ks) a o r/\g≠b/\∃m,Sp.Key w g ks m
def Ow (b:Nat) (h:Option Nat) (i:Nat):Prop:=i=b\/h=some i
theorem Box.lt {w:World} {b:Nat} {ks:Nat->UInt8} {h:Option Nat} {a o r:Nat} (M:Box w b ks h a o r):b<w.heap.size:=by
 cases h with
 |none=>exact XB.lt M
 |some g=>exact XB.lt M.1
theorem Box.lt_g {w:World} {b g:Nat} {ks:Nat->UInt8} {a o r:Nat} (M:Box w b ks (some g) a o r):g<w.heap.size:=by
 obtain⟨_,_,m,hk⟩:=M;exact hk.lt
theorem Box.own_lt {w:World} {b:Nat} {ks:Nat->UInt8} {h:Option Nat} {a o r:Nat} (O:Box w b ks h a o r) (i:Nat) (M:Ow b h i):i<w.heap.size:=by
 rcases M with M | M
 ·subst M;exact O.lt
 ·subst M;exact O.lt_g
theorem Qc {S:Nat->Prop} {w w':World} {g:Nat} {ks:Nat->UInt8} {m:Bool} (h:Sp.Key w g ks m) (M:Chg S w w') (hs:¬S g):Sp.Key w' g ks m:=by
 cases m with
 |false=>exact M.blk h hs
 |true=>exact M.blk h hs
theorem Box.chg {S:Nat->Prop} {w w':World} {b:Nat} {ks:Nat->UInt8} {h:Option Nat} {a o r:Nat} (O:Box w b ks h a o r) (M:Chg S w w') (hs:∀i,Ow b h i->¬S i):Box w' b ks h a o r:=by
 cases h with
 |none=>exact XB.chg O M (hs b (.inl rfl))
 |some g=>
  obtain⟨X,Y,m,Z⟩:=O;exact⟨X.chg M (hs b (.inl rfl)),Y,m,Qc Z M (hs g (.inr rfl))⟩
theorem Box.below {w w':World} {b:Nat} {ks:Nat->UInt8} {h:Option Nat} {a o r:Nat} (O:Box w b ks h a o r) (M:Below w.heap.size w w'):Box w' b ks h a o r:=
 O.chg (S:=fun _=>False) (Chg.of_below M) (fun _ _ x=>x)
def Step (w w':World) (b:Nat) (h:Option Nat) (g:Nat):Prop:=Chg (Ow b h) w w'/\(h=some g\/(h=none/\w.heap.size<=g))
theorem Step.own {w w':World} {b g:Nat} {h:Option Nat} (hs:Step w w' b h g):∀i,i<w.heap.size->Ow b (some g) i->Ow b h i:=by
 intro i X M;rcases M with M | M
 ·exact .inl M
 ·injection M with M
  subst M;rcases hs.2 with O | ⟨_,O⟩
  ·exact .inr O
  ·omega
theorem Step.trans {a w c:World} {b g X:Nat} {h:Option Nat} (O:Step a w b h g) (Y:Step w c b (some g) X):X=g/\Step a c b h g:=by
 have e:X=g:=by
  rcases Y.2 with M | ⟨M,_⟩
  ·injection M with M;exact M.symm
  ·cases M
 exact⟨e,O.1.trans Y.1 O.own,O.2⟩
theorem Step.then {a w c:World} {b g:Nat} {h:Option Nat} {S:Nat->Prop} (M:Step a w b h g) (O:Chg S w c) (hs:∀i,i<a.heap.size->S i->Ow b h i):Step a c b h g:=⟨M.1.trans O hs,M.2⟩
def AW (ks:Nat->UInt8):Array Value:=((List.range 32).map (fun i=>bv (ks i))).toArray
theorem Ad {P:Program} {ops:Array Oper} {rest:List Oper} {op:Oper} {a:Act} {w:World} {Q:Exit->Act->World->Prop} (M:op.guard=none) (ty:TypeId) (x:Operand) (O:op.op=.load ty x)
  (g o:Nat) (X:a.eval x=.pointer (some ⟨g,o,none⟩)) (cs:Array Value) (d:TypeDesc) (hc:w.rangeAt g o cs.toList)
  (hu:P.underlying ty=some d) (Z:d.isRow=true) (Y:(P.info? ty).map (·.size)=some cs.size)
  (h:wpList P ops Q rest (a.put op.dst (.agg cs)) w):wpList P ops Q (op :: rest) a w:=
 wpList_load_mid M ty x O g o X cs.toList d hc hu Z (by rw[Array.length_toList];exact Y) (by simpa using h)
theorem AQ (ks:Nat->UInt8):(AW ks).size=32:=by simp [AW]
theorem MS (ks:Nat->UInt8):(Tryz.prog.info? 30).map (·.size)=some (AW ks).size:=by rw[AQ];kernel_rfl
theorem VJ (ks:Nat->UInt8):(AW ks).all (·.oneCell')=true:=by simp [AW,bv,Value.oneCell']
theorem JJ (ks:Nat->UInt8) (w:World):Calls Tryz.prog 41 #[.agg (AW ks)] w fun e w'=>∃b,e=.returned (.pointer (some ⟨b,0,none⟩))/\w.heap.size<=b/\Box w' b ks none 0 0 0/\Below w.heap.size w w':=by
 have O:=MS ks;obtain⟨cs,M⟩:=Aj (AW ks);rw[<-M] at O⊢;have Z:cs.size=32:=by rw[M];exact AQ ks
 have Y:=I O;clear O;have X:=I M;clear M;go_enter Tryz.func41,Tryz.ntmps41
 go_wp2_with (first
  |(refine Ad (by rfl) 30 (.tmp 1) (by rfl) w.heap.size 0 (by rfl) cs _ (Si.Ac (Blk.new w 30 cs)) Tryz.underlying30 (by rfl) Y.o ?_)
  |fail)
 go_ret;refine⟨w.heap.size+1,rfl,Nat.le_succ _,?_,((Below.refl w.heap.size w).alloc Af _).alloc (by simp) _⟩;exact Sp.Blk.new_of (w.alloc _) _ 177 _ (BB ks 0 0 none IY 0 0 0) (by rw[X.o];kernel_rfl) (by simp)
theorem XB.range1 {w:World} {b:Nat} {ks dg:Nat->UInt8} {d s:Int} {p:Option Addr} {a o r:Nat} (h:XB w b ks d s p dg a o r):w.rangeAt b 0 (Sp.AN ks).toList:=fun j v M=>by
 rw[Sp.AN,List.toList_toArray,List.getElem?_map] at M;rcases Nat.lt_or_ge j 16 with g | g
 ·rw[Nat.zero_add,h.ck j (by omega)];simpa [g] using M
 ·rw[List.getElem?_eq_none (by simpa using g)] at M;cases M
theorem XB.range2 {w:World} {b:Nat} {ks dg:Nat->UInt8} {d s:Int} {p:Option Addr} {a o r:Nat} (h:XB w b ks d s p dg a o r):w.rangeAt b 16 (Sp.AN (k2 ks)).toList:=fun j v M=>by
 rw[Sp.AN,List.toList_toArray,List.getElem?_map] at M;rcases Nat.lt_or_ge j 16 with g | g
 ·rw[h.ck (16+j) (by omega)];simpa [g,k2] using M
 ·rw[List.getElem?_eq_none (by simpa using g)] at M;cases M
theorem XB.rangeD {w:World} {b:Nat} {ks dg:Nat->UInt8} {d s:Int} {p:Option Addr} {a o r:Nat} (h:XB w b ks d s p dg a o r):w.rangeAt b 36 (Sp.AN dg).toList:=fun j v M=>by
 rw[Sp.AN,List.toList_toArray,List.getElem?_map] at M;rcases Nat.lt_or_ge j 16 with g | g
 ·rw[h.cg j (by omega)];simpa [g] using M
 ·rw[List.getElem?_eq_none (by simpa using g)] at M;cases M
theorem XB.thereD {w:World} {b:Nat} {ks dg:Nat->UInt8} {d s:Int} {p:Option Addr} {a o r:Nat} (h:XB w b ks d s p dg a o r):w.there b 36 16:=fun j M=>⟨by rw[h.cg j M];rfl,h.fz _⟩
theorem Bh (f:Nat->UInt8):(Sp.AN f).size=16:=by simp [Sp.AN]
theorem IH (f:Nat->UInt8):(Tryz.prog.info? 157).map (·.size)=some (Sp.AN f).size:=by rw[Bh];kernel_rfl
theorem Qd (f:Nat->UInt8):(Sp.AN f).all (·.oneCell')=true:=by simp [Sp.AN,bv,Value.oneCell']
theorem Jn {a w:World} {b:Nat}:∀(vs:List Value) (o:Nat) (w:World),a.grownBy w (some b)->a.grownBy (w.setCells b o vs) (some b)
 | [],_,_,h=>h
 |v :: r,o,w,h=>Jn (w:=w) r (o+1) _ (Ar h (.inl rfl) v)
theorem Key.far {w:World} {g:Nat} {ks:Nat->UInt8} {m:Bool} (h:Sp.Key w g ks m) (p:Addr) (u:Value) (M:p.block≠g):Sp.Key (w.setCell p u) g ks m:=by
 cases m with
 |false=>exact Si.Blk.far h p u M
 |true=>exact Si.Blk.far h p u M
theorem Key.fars {g b:Nat} {ks:Nat->UInt8} {m:Bool} (M:b≠g):∀(vs:List Value) (o:Nat) (w:World),Sp.Key w g ks m->Sp.Key (w.setCells b o vs) g ks m
 | [],_,_,h=>h
 |v :: r,o,w,h=>Key.fars M r (o+1) _ (Key.far h _ v M)
theorem LK (b:Nat) (ks:Nat->UInt8) (a o r:Nat) (d s:Int) (w:World) (hK:XB w b ks d s none IY a o r) :
  Calls Tryz.prog 187 #[.pointer (some ⟨b,0,none⟩)] w fun e w'=>e=.returned (.tuple #[])/\∃g,XB w' b ks d s (some ⟨g,0,none⟩) (k2 ks) a o r/\w.heap.size<=g/\Sp.Key w' g ks false/\w.grownBy w' (some b):=by
 have ai:∀w:World,(Instr.arrayAt 157 (.slice (some ⟨b,0,none⟩) 16 32)).run Tryz.prog w=.ok (.pointer (some ⟨b,0,none⟩)) w:=fun _=>by kernel_rfl
 have ah:∀w:World,(Instr.arrayAt 157 (.slice (some ⟨b,16,none⟩) 16 16)).run Tryz.prog w=.ok (.pointer (some ⟨b,16,none⟩)) w:=fun _=>by kernel_rfl
 have cn:=fun w=>Sp.JJ ks w
 have r1:=hK.range1;have aa:∀M:World,Below w.heap.size w M->XB M b ks d s none IY a o r:=fun M h=>Blk.below hK h
 have Y:=hK.lt;have R2:Hid (∀(M:World) p,XB M b ks d s p IY a o r->M.rangeAt b 16 (Sp.AN (k2 ks)).toList):=fun M p h=>XB.range2 h
 have i1:=IH ks;have i2:=IH (k2 ks);have o2:=Qd (k2 ks);have z2:=Bh (k2 ks);obtain⟨cs,ad⟩:=Aj (Sp.AN ks);obtain⟨ds,X⟩:=Aj (Sp.AN (k2 ks));rw[<-ad] at r1 i1 cn;rw[<-X] at R2 i2 o2 z2;have R1:=I r1;clear r1;have K0:=I aa;clear aa;have LT:=I Y;clear Y;have I1:=I i1;clear i1;have I2:=I i2;clear i2;have O2:=I o2;clear o2;have Z2:=I z2;clear z2;have ED:=I X;clear X;clear ad hK;go_enter Tryz.func187,Tryz.ntmps187
 go_upto_region 2 with(first
  |(refine Ad (by rfl) 157 (.tmp 9) (by rfl) b 0 (by rfl) cs _ R1.o Tryz.underlying157 (by rfl) I1.o ?_)
  |(go_at_call 203;refine Calls.mono (cn _) ?_;rintro e M ⟨g,rfl,hg,Z,O⟩;have X1:=K0.o M O;have af:=X1.cp;have fz:=X1.fz;have X2:=I (X1.set_p (some ⟨g,0,none⟩));have HG:=I hg;have ag:=I Z;have ae:=I O;clear hg Z O X1)
  |fail)
 clear af fz;have hR:=R2.o _ _ X2.o;have hT:=XB.thereD X2.o;rw[<-Z2.o] at hT;have HR:=I hR;clear hR;have HT:=I hT;clear hT
 go_wp2_with (first
  |(refine Ad (by rfl) 157 (.tmp 20) (by rfl) b 16 (by rfl) ds _ HR.o Tryz.underlying157 (by rfl) I2.o ?_)
  |(refine wpList_store_mid (by rfl) 157 (.tmp 23) (.tmp 21) (by rfl) b 36 ds (by rfl) (by rfl) HT.o I2.o O2.o ?_)
  |fail)
 go_end0
 have ab:b≠g:=by have:=HG.o;have:=LT.o;omega
 refine⟨rfl,g,?_,HG.o,Key.fars ab _ _ _ (Key.far ag.o _ _ ab),Jn (w:=w) _ _ _ (Ar (Bz ae.o _) (.inl rfl) _)⟩;rw[ED.o];exact X2.o.set_dg (k2 ks)
theorem slow (b:Nat) (ks:Nat->UInt8) (a o r:Nat) (w:World) (Z:XB w b ks 0 0 none IY a o r) :
  Calls Tryz.prog 202 #[.pointer (some ⟨b,32,none⟩),.func (.func 187) #[.pointer (some ⟨b,0,none⟩)] #[]] w fun e w'=>e=.returned (.tuple #[])/\∃g,XB w' b ks 1 0 (some ⟨g,0,none⟩) (k2 ks) a o r/\w.heap.size<=g/\Sp.Key w' g ks false/\w.grownBy w' (some b):=by
 have M:XB (w.setCell ⟨b,33,none⟩ (.int .i32 1)) b ks 0 1 none IY a o r:=Z.set_s 1;have g1:w.grownBy (w.setCell ⟨b,33,none⟩ (.int .i32 1)) (some b):=Ar (World.grownBy.refl _ _) (.inl rfl) _;have ad:(w.setCell ⟨b,33,none⟩ (.int .i32 1)).heap.size=w.heap.size:=by simp [World.setCell]
 have cl:=Sp.Kv ⟨b,33,none⟩ w Z.cs (Z.fz 33);have cd:=Sp.DW ⟨b,32,none⟩ 0 _ M.cd false rfl;have cm:=LK b ks a o r 0 1 _ M;rw[ad] at cm;have an:∀(x:Bool) (w:World),(Op.unary .not (.bool x)).run Tryz.prog w=.ok (.bool (!x)) w:=fun _ _=>rfl
 have ab:=Z.lt;have H:=I Z;clear Z;have H1:=I M;clear M;have G1:=I g1;clear g1;have LT:=I ab;clear ab;clear ad
 go_enter_defers Tryz.func202,Tryz.ntmps202
 go_wp2_with (first | (go_at_call 213;refine Ah cl ?_;rintro w' rfl) | (go_at_call 201;refine Ah cd ?_;rintro w' rfl) | (go_at_call 187;refine Ah cm ?_;rintro w2 ⟨g,X,ah,aa,ak⟩))
 refine leaves_cons (f:=215) (args:=#[.pointer (some ⟨b,32,none⟩),.bool true]) (by simp) (by simp [go_sem]) ?_;refine(Sp.FU ⟨b,32,none⟩ _ .returning w2 X.cd (X.fz 32)).mono ?_;rintro e u' ag ⟨rfl,rfl,rfl⟩;have ae:b≠g:=by have:=LT.o;omega
 have Y:=XB.set_d X.drew 1;refine leaves_cons (f:=214) (args:=#[.pointer (some ⟨b,33,none⟩)]) (by simp [settle]) (by simp [go_sem]) ?_;refine(Sp.Fh ⟨b,33,none⟩ _ _ Y.cs (Y.fz 33)).mono ?_;rintro e u' ag ⟨rfl,rfl,rfl⟩;have af:=XB.set_s Y 0;have O:=Key.far (Key.far (w:=w2.drew) (m:=false) aa ⟨b,32,none⟩ (.int .u32 1) ae) ⟨b,33,none⟩ (.int .i32 0) ae;have ai:=Ar (row:=some b) (Ar (row:=some b) (Bg (World.grownBy.refl w2 (some b))) (p:=⟨b,32,none⟩) (.inl rfl) (.int .u32 1)) (p:=⟨b,33,none⟩) (.inl rfl) (.int .i32 0);have aj:=Sp.Eh (Sp.Eh G1.o ak) ai;simp [Leaves,settle,results,Tryz.results202];exact⟨g,af,ah,O,aj⟩
theorem JI (b:Nat) (ks:Nat->UInt8) (a o r:Nat) (w:World) (M:XB w b ks 0 0 none IY a o r) :
  Calls Tryz.prog 186 #[.pointer (some ⟨b,32,none⟩),.func (.func 187) #[.pointer (some ⟨b,0,none⟩)] #[]] w fun e w'=>e=.returned (.tuple #[])/\∃g,XB w' b ks 1 0 (some ⟨g,0,none⟩) (k2 ks) a o r/\w.heap.size<=g/\Sp.Key w' g ks false/\w.grownBy w' (some b):=by
 have Z:=Sp.DW ⟨b,32,none⟩ 0 w M.cd false rfl;have cs:=slow b ks a o r w M;have O:∀(x:Bool) (w:World),(Op.unary .not (.bool x)).run Tryz.prog w=.ok (.bool (!x)) w:=fun _ _=>rfl
 clear M;go_enter Tryz.func186,Tryz.ntmps186
 go_wp2_with (first | (go_at_call 201;refine Ah Z ?_;rintro w' rfl) | (go_at_call 202;refine Ah cs ?_;rintro w2 X;have Y:=I X;clear X))
 go_end0
 exact⟨rfl,Y.o⟩
theorem Lx (b:Nat) (X:Value) (w:World) (O:w.cell? ⟨b,32,none⟩=some (.int .u32 1)) :
  Calls Tryz.prog 186 #[.pointer (some ⟨b,32,none⟩),X] w fun e w'=>e=.returned (.tuple #[])/\w'=w:=by
 have Y:=Sp.DW ⟨b,32,none⟩ 1 w O true rfl;have M:∀(x:Bool) (w:World),(Op.unary .not (.bool x)).run Tryz.prog w=.ok (.bool (!x)) w:=fun _ _=>rfl
 clear O;go_enter Tryz.func186,Tryz.ntmps186
 go_wp2_with (first | (go_at_call 201;refine Ah Y ?_;rintro w' rfl))
 go_end0
 exact⟨rfl,rfl⟩
theorem Gv (b:Nat) (ks:Nat->UInt8) (h:Option Nat) (a o r:Nat) (w:World) (M:Box w b ks h a o r) :
  Calls Tryz.prog 152 #[.pointer (some ⟨b,0,none⟩)] w fun e w'=>e=.returned (.tuple #[])/\∃g,Box w' b ks (some g) a o r/\Step w w' b h g:=by
 have aa:∀(fn:Fn) (first cap:Array Value) (w:World),(Instr.makeFunc fn first cap).run Tryz.prog w=.ok (.func fn first cap) w:=fun _ _ _ _=>rfl
 cases h with
 |none=>
  have Y:=JI b ks a o r w M;have O:=XB.lt M;have LT:=I O;clear O;clear M;go_enter Tryz.func152,Tryz.ntmps152
  go_wp2_with (first | (go_at_call 186;refine Ah Y ?_;rintro w' X;have Z:=I X;clear X))
  go_end0
  obtain⟨g,h1,X,h3,h4⟩:=Z.o;exact⟨rfl,g,⟨h1,by have:=LT.o;omega,false,h3⟩,Chg.of_grown h4 (.inl rfl),.inr ⟨rfl,X⟩⟩
 |some g=>
  have Y:=fun fv=>Lx b fv w (XB.cd M.1)
  have H:=I M;clear M;go_enter Tryz.func152,Tryz.ntmps152
  go_wp2_with (first | (go_at_call 186;refine Ah (Y _) ?_;rintro w' rfl))
  go_end0
  exact⟨rfl,g,H.o,Chg.refl _ _,.inl rfl⟩
theorem add_one (p:Addr) (a:Nat) (w:World) (Y:a<1000000) (X:w.cell? p=some (.int .i64 (a:Int))) (M:w.frozen? p=false) :
  Calls Tryz.prog 88 #[.pointer (some p),.int .i64 1] w fun e w'=>e=.returned (.int .i64 ((a+1:Nat):Int))/\w'=w.setCell p (.int .i64 ((a+1:Nat):Int)):=by
 have O:=run_call_add (P:=Tryz.prog) Tryz.func132 (by kernel_rfl) (by kernel_rfl) (by kernel_rfl) .i64 (by kernel_rfl) (y:=1) (s:=((a+1:Nat):Int)) X M (by
  have h:IntKind.i64.wrap ((a:Int)+1)=((a+1:Nat):Int):=by rw[IntKind.wrap_i64];omega
  simp [go_sem,h])
 clear X M Y;go_enter Tryz.func88,Tryz.ntmps88
 go_wp2
 go_ret;exact⟨rfl,rfl⟩
theorem DX (u:Int) (x:Bool) (M:x=(decide (0<=u)&&decide (u<=255))) (w:World):Calls Tryz.prog 101 #[.int .i64 u] w fun e w'=>e=.returned (.bool x)/\w'=w:=by
 subst M
 by_cases h:0<=u
 ·go_enter Tryz.func101,Tryz.ntmps101
  go_wp2
  go_ret;exact⟨by simp [h],rfl⟩
 ·have O:decide (0<=u)=false:=by simpa using h
  go_enter Tryz.func101,Tryz.ntmps101
  go_wp2
  go_ret;exact⟨by simp,rfl⟩
theorem Fj (n:Nat) (x:Bool) (M:x=decide (n<=1099511627776)) (w:World):Calls Tryz.prog 150 #[.int .u64 (n:Int)] w fun e w'=>e=.returned (.bool x)/\w'=w:=by
 subst M;have e:decide ((n:Int)<=1099511627776)=decide (n<=1099511627776):=by congr 1;exact propext ⟨by omega,by omega⟩
 have E:=I e;clear e;go_enter Tryz.func150,Tryz.ntmps150
 go_wp2
 go_ret;exact⟨by rw[<-E.o];rfl,rfl⟩
theorem VK (x y:Nat) (M:y<256) (O:x<72057594037927936):bits .or .u64 ((x:Int)*256) (y:Int)=((x*256+y:Nat):Int):=by
 have e:(x:Int)*256=((x*256:Nat):Int):=by omega
 have h:x*256 ||| y=x*256+y:=by
  have h:=Nat.shiftLeft_add_eq_or_of_lt (show y<2 ^ 8 by omega) x;rw[Nat.shiftLeft_eq] at h
  simpa using h.symm
 rw[e,u64_or_nat _ _ (by omega) (by omega),h]
theorem Du (B:Nat) (A:Option Addr) (n c:Nat) (l:List UInt8) (w:World) (hn:n=l.length) (h8:8<=n) (hc:n<=c) (hr:Rd w B A (bvs l)) :
  Calls Tryz.prog 104 #[.slice A n c] w fun e w'=>e=.returned (.int .u64 (n8 l:Int))/\w'=w:=by
 obtain⟨b,o,rfl,hb,M⟩:∃b o,A=some ⟨b,o,none⟩/\b<B/\∀i (h:i<l.length),w.cell? ⟨b,o+i,none⟩=some (bv l[i]):=by
  rcases hr with h | ⟨b,o,h1,h2,h3⟩
  ·have:=AB l;rw[h] at this;simp at this;omega
  ·exact⟨b,o,h1,h2,fun i Z=>h3 i _ (DT Z)⟩
 have af:(8:Int)<=(c:Int):=by omega
 have ae:8<=c:=by omega
 have HC:=I M;clear M;have HN:=I hn;clear hn;have H8:=I h8;clear h8;clear hr hc hb;go_enter Tryz.func104,Tryz.ntmps104
 go_wp2_with fail
 go_loop [3,9] (fun ab iv=>∃i:Nat,i<=8/\iv=.int .i64 (i:Int)/\ab=.int .u64 (big 0 (l.take i):Nat)) (fun _ iv=>8 - (intOf iv).toNat)
 case atStart=>exact⟨0,by decide,rfl,rfl⟩
 case round=>
  obtain⟨i,Z,rfl,rfl⟩:=hrel
  by_cases hx:i=8
  ·subst hx
   go_wp2_with fail
   go_ret;exact⟨rfl,rfl⟩
  ·have e1:(i:Int)<8:=by omega
   have e2:(0:Int)<=(i:Int):=by omega
   have e3:i<8:=by omega
   have hl:i<l.length:=by have:=HN.o;have:=H8.o;omega
   obtain⟨y,ey⟩:=Aj (l[i]);have X:=HC.o i hl;rw[<-ey] at X;simp only[bv] at X;have hy:=y.toNat_lt;obtain⟨v,Y⟩:=Aj (big 0 (l.take i));obtain⟨u,eu⟩:=Aj (v*256+y.toNat);rw[<-Y];have hv:v<72057594037927936:=by
    have:=LH l i;rw[<-Y] at this;exact Nat.lt_of_lt_of_le this (Nat.pow_le_pow_right (by decide) (by omega):256 ^ i<=256 ^ 7)
   have aa:(v:Int)*256 % 18446744073709551616=(v:Int)*256:=by omega
   have ad:(y.toNat:Int) % 18446744073709551616=(y.toNat:Int):=by omega
   have ag:IntKind.u64.wrap (y.toNat:Int)=(y.toNat:Int):=by rw[IntKind.wrap_u64];exact ad
   have ah:IntKind.u64.wrap ((v:Int)*256)=(v:Int)*256:=by rw[IntKind.wrap_u64];exact aa
   have ai:bits .or .u64 ((v:Int)*256) (y.toNat:Int)=(u:Int):=by rw[eu];exact VK v y.toNat hy hv
   have O:u=big 0 (l.take (i+1)):=by rw[SG l i hl,<-ey,<-Y,eu]
   have NX:=I O;clear O;have HI:=I Z;clear Z;have HX:=I hx;clear hx;have HV:=I hv;clear hv;clear eu Y ey
   go_wp2_with fail
   go_round
   case rel=>exact⟨i+1,by omega,by go_num,by rw[<-NX.o]⟩
   case measure=>simp [intOf];omega
theorem DN {w w':World} {base:Nat} {t:TypeId} {v:Value} {n:Nat} {xs:List Value} {o:Obj} (h:w.ownsRow base t 1 v n xs) (e:w'.heap=w.heap.push o):w'.ownsRow base t 1 v n xs:=Si.DN h e
def laid (xs:List UInt8) (N j:Nat):List Value:=bvs (xs++(w8 N).take j)
theorem KG (xs:List UInt8) (N j:Nat) (h:j<8):laid xs N j++[bv (UInt8.ofNat (N / 2 ^ (56 - 8*j)))]=laid xs N (j+1):=by
 unfold laid;rw[VG N j h,<-List.append_assoc,BI (xs++(w8 N).take j)];rfl
theorem Ux (xs:List UInt8) (N:Nat):laid xs N 8=bvs (xs++w8 N):=by
 unfold laid;rw[List.take_of_length_le (by rw[Dh];exact Nat.le_refl _)]
theorem MT (base:Nat) (v:Value) (n N:Nat) (xs:List UInt8) (w:World) (hN:N<18446744073709551616) (hn:n<=100000) (hb:base<=w.heap.size) (M:w.ownsRow base 5 1 v n (bvs xs)) :
  Calls Tryz.prog 166 #[v,.int .u64 (N:Int)] w fun e w'=>∃v',e=.returned v'/\w'.ownsRow base 5 1 v' (n+8) (bvs (xs++w8 N))/\Chg (fun i=>v.ownBlock=some i) w w'/\(∀k,v'.ownBlock=some k->v.ownBlock=some k\/w.heap.size<=k):=by
 obtain⟨ib,ai,aj,ao,ak⟩:=info_parts Si.Cc;have HO:=I M;clear M;have HB:=I hb;clear hb;have HN:=I hN;clear hN;have HL:=I hn;clear hn;go_enter Tryz.func166,Tryz.ntmps166
 go_wp2_with fail
 go_loopw [0,5] (fun ag iv wr=>∃j:Nat,j<=8/\iv=.int .i64 (56 - 8*(j:Int))/\wr.ownsRow base 5 1 ag (n+j) (laid xs N j)/\Chg (fun i=>v.ownBlock=some i) w wr/\(∀k,ag.ownBlock=some k->v.ownBlock=some k\/w.heap.size<=k)) (fun _ iv _=>(intOf iv+8).toNat)
 case atStart=>exact⟨0,by decide,rfl,by unfold laid;rw[List.take_zero,List.append_nil];exact HO.o,Chg.refl _ _,fun k hk=>.inl hk⟩
 case round=>
  obtain⟨j,hj,rfl,M,ah,ab⟩:=hrel;have Y:=I ab;clear ab;have HR:=I M;clear M;have HW:=I ah;clear ah
  by_cases hx:j=8
  ·subst hx
   go_wp2_with fail
   go_ret;exact⟨_,rfl,by rw[<-Ux];exact HR.o,HW.o,Y.o⟩
  ·obtain⟨m,em⟩:∃m:Nat,m=56 - 8*j:=⟨_,rfl⟩
   have hm:(56:Int) - 8*(j:Int)=(m:Int):=by omega
   rw[hm];have ae:j<8:=by omega
   have av:m<64:=by omega
   have ar:(m:Int)<64:=by omega
   have au:(0:Int)<=(m:Int):=by omega
   have aw:min m 64=m:=by omega
   obtain⟨k,ek⟩:=Aj (n+j);have hk:k<=100010:=by have:=HL.o;omega
   rw[<-ek] at HR;have ad:=KG xs N j ae;have hv:bv (UInt8.ofNat (N / 2 ^ (56 - 8*j)))=.int .u8 ((N:Int) / 2 ^ m % 256):=by
    unfold bv;rw[UInt8.toNat_ofNat',<-em];congr 1
   rw[hv] at ad;have NX:=I ad;clear ad;have EM:=I em;clear em;have EK:=I ek;clear ek;have HX:=I hx;clear hx;have HJ:=I hj;clear hj;have af:=I ae;clear ae;clear hm hv
   go_wp2_with (first | (at_builtin;refine AD _ (by rfl) (.tmp 10) (.tmp 15) 24 (by rfl) base 5 ib _ 1 Tryz.underlying24 ai aj ao ak (by rfl) _ k (laid xs N j) (by rfl) (DN HR.o (by rfl)) (wr.heap.size+1) (some ⟨wr.heap.size,0,none⟩) 1 1 [.int .u8 ((N:Int) / 2 ^ m % 256)] (by rfl) (by rfl) (Si.FE wr 5 _ [.int .u8 ((N:Int) / 2 ^ m % 256)] (by rfl) _ rfl) (by simp [Value.oneCell']) (by unfold maxLen;omega) (by omega) (by have:=HB.o;have:=HW.o.size;simp;omega) ?_;intro v6 w6 X O aa;have O6:=I X;have G6:=I O;have T6:=I aa;clear X O aa) | fail)
   go_roundw
   case rel=>
    refine⟨j+1,by have:=af.o;omega,?_,by rw[<-NX.o,<-Nat.add_assoc,<-EK.o];exact O6.o,?_,?_⟩
    ·exact congrArg (Value.int .i64) (by have:=EM.o;have:=af.o;omega)
    ·refine(HW.o.alloc _).trans (T:=fun i=>Value.ownBlock _=some i) ⟨G6.o.os,G6.o.tape,G6.o.output,G6.o.size,fun k hk an=>G6.o.block k hk (fun e=>an e.symm)⟩ (fun i hi hx=>?_)
     rcases Y.o i hx with Z | Z
     ·exact Z
     ·omega
    ·intro k hk
     rcases T6.o with Z | Z
     ·exact Y.o k (Z▸hk)
     ·have:=HW.o.size
      rw[hk] at Z;injection Z with Z;exact .inr (by simp at Z;omega)
   case measure=>simp [intOf];omega
def Aw (b:Nat) (h:Option Nat) (n i:Nat):Prop:=Ow b h i\/n<=i
section
variable {w w' a c:World} {b g n:Nat} {h:Option Nat} {A:Option Addr} {xs:List Value} {S:Nat->Prop}
theorem RdA.aw (O:RdA (Ow b h) w A xs) (X:w.heap.size<=n):RdA (Aw b h n) w A xs:=O.mono fun i Y M=>by
 rcases M with M | M
 ·exact M
 ·omega
theorem Step.aw (hs:Step w w' b h g):Chg (Aw b h n) w w':=hs.1.mono fun i _ M=>.inl M
theorem Step.aw_g (hs:Step w w' b h g) (O:n<=w.heap.size):Aw b h n g:=by
 rcases hs.2 with M | ⟨_,M⟩
 ·exact .inl (.inr M)
 ·exact .inr (by omega)
theorem Chg.then (h:Chg S a w) (k:Chg S w c):Chg S a c:=h.trans k fun _ _ x=>x
theorem RdA.go (h:RdA S w A xs) (M:Chg S w w'):RdA S w' A xs:=h.keep M (fun _ _ x=>x) (fun _ _ x=>x)
theorem Chg.step (X:Chg (Aw b h w.heap.size) w w') (O:h=some g\/(h=none/\w.heap.size<=g)):Step w w' b h g:=
 ⟨X.mono fun i Y M=>by
  rcases M with M | M
  ·exact M
  ·omega,O⟩
end
def tl (ks:Nat->UInt8) (u n:Nat) (p:List UInt8) (i:Nat):List UInt8:=(mixL ks u n p).take i++(Di ks u n p.length).drop i
theorem tl_at (ks:Nat->UInt8) (u n:Nat) (p:List UInt8) (i:Nat) (h:i<p.length) (M:i<(Di ks u n p.length).length):(bvs (tl ks u n p i)).toArray[i]? = some (bv (Di ks u n p.length)[i]):=by
 rw[List.getElem?_toArray];unfold bvs tl;rw[List.getElem?_map,List.getElem?_append_right (by rw[List.length_take,BA];omega),List.length_take,BA,show i - min i p.length=0 by omega,List.getElem?_drop,Nat.add_zero,List.getElem?_eq_getElem M];rfl
theorem Xv (ks:Nat->UInt8) (u n:Nat) (p:List UInt8) (i:Nat) (h:i<p.length) (M:i<(Di ks u n p.length).length):(bvs (tl ks u n p i)).toArray.setIfInBounds i (bv (p[i] ^^^ (Di ks u n p.length)[i]))=(bvs (tl ks u n p (i+1))).toArray:=by
 rw[List.setIfInBounds_toArray]
 congr 1
 unfold bvs;rw[<-List.map_set]
 congr 1
 have e:(mixL ks u n p).take (i+1)=(mixL ks u n p).take i++[p[i] ^^^ (Di ks u n p.length)[i]]:=by
  rw[List.take_add_one,PZ ks u n p i h M];rfl
 have O:((mixL ks u n p).take i).length=i:=by rw[List.length_take,BA];omega
 unfold tl;rw[e,List.set_append_right _ _ (by omega),O,Nat.sub_self,List.append_assoc,List.drop_eq_getElem_cons M]
 rfl
theorem Xw (ks:Nat->UInt8) (u n:Nat) (p:List UInt8):tl ks u n p p.length=mixL ks u n p:=by
 rw[tl,List.take_of_length_le (by rw[BA];exact Nat.le_refl _),List.drop_of_length_le (by rw[BS];exact Nat.le_refl _),List.append_nil]
theorem VL (ks:Nat->UInt8) (u n:Nat) (p:List UInt8):tl ks u n p 0=Di ks u n p.length:=by
 rw[tl,List.take_zero,List.drop_zero,List.nil_append]
theorem xor_b (x y:UInt8):bits .xor .u8 (y.toNat:Int) (x.toNat:Int)=((x ^^^ y).toNat:Int):=by
 rw[u8_xor_nat _ _ y.toNat_lt x.toNat_lt,UInt8.toNat_xor,Nat.xor_comm]
theorem Xx (u n:Nat) (hu:u<=255):((n:Int)*256 % 18446744073709551616+(u:Int)) % 18446744073709551616=((sn u n:Nat):Int):=by unfold sn;omega
theorem Qe (b:Nat) (ks:Nat->UInt8) (h:Option Nat) (a o r u n:Nat) (A:Option Addr) (c:Nat) (w:World) (hu:u<=255) (hn:n<18446744073709551616) (hK:Box w b ks h a o r) :
  Calls Tryz.prog 103 #[.pointer (some ⟨b,0,none⟩),.int .i64 (u:Int),.int .u64 (n:Int),.slice A 0 c] w fun e w'=>∃g,e=.returned (.slice none 0 0)/\Box w' b ks (some g) a o r/\Step w w' b h g:=by
 have cn:=Gv b ks h a o r w hK;have ab:(0:Int)<=(u:Int):=by omega
 clear hK;have HU:=I hu;clear hu;have HN:=I hn;clear hn;go_enter Tryz.func103,Tryz.ntmps103
 go_wp2_with (first
  |(go_at_call 152;refine Ah cn ?_;rintro w1 ⟨g,M,X⟩;clear cn;have Y:=M.1.cp;have O:=(fun N=>Sp.NS (some ⟨g,0,none⟩) N 0 w1 (.inr (by decide)));have aa:=I M;have Z:=I X;clear M X)
  |(go_at_call 153;refine Ah (O _) ?_;rintro w2 hw;have hw:=hw.symm;subst hw;clear O Y))
 go_loopw [27] (fun iv wr=>iv=.int .i64 0/\wr=w1) (fun iv _=>0)
 case atStart=>exact⟨rfl,rfl⟩
 case round=>
  obtain⟨rfl,rfl⟩:=hrel
  go_wp2_with fail
  go_ret;exact⟨g,rfl,aa.o,Z.o⟩
theorem Qf (u n:Nat) (hu:u<=255):IntKind.u64.wrap (IntKind.u64.wrap ((n:Int)*256)+IntKind.u64.wrap (u:Int))=((sn u n:Nat):Int):=by
 rw[IntKind.wrap_u64,IntKind.wrap_u64,IntKind.wrap_u64];unfold sn;omega
theorem Xy (u n:Nat):sn u n<18446744073709551616:=Nat.mod_lt _ (by decide)
theorem Qg (b:Nat) (ks:Nat->UInt8) (h:Option Nat) (a o r u n:Nat) (A:Option Addr) (m c:Nat) (p:List UInt8) (w:World) (hu:u<=255) (hn:n<18446744073709551616) (hm:m=p.length) (aA:1<=m) (av:m<=1000) (hr:RdA (Ow b h) w A (bvs p)) (hK:Box w b ks h a o r) :
  Calls Tryz.prog 103 #[.pointer (some ⟨b,0,none⟩),.int .i64 (u:Int),.int .u64 (n:Int),.slice A m c] w fun e w'=>∃g q,e=.returned (.slice (some ⟨q,0,none⟩) m m)/\w.heap.size<=q/\q≠g/\Blk w' q 5 (bvs (mixL ks u n p)).toArray/\Box w' b ks (some g) a o r/\Step w w' b h g:=by
 have cn:=Gv b ks h a o r w hK;obtain⟨N,eN⟩:=Aj (sn u n);have ah:=Qf u n hu;have X:=Xy u n;rw[<-eN] at ah X;have ae:Sp.strm (Sp.kw ks) (Sp.upW N) (Sp.loW N) m=Di ks u n m:=by rw[eN];rfl
 have ad:=hK.lt;clear hK;have HR:=I (hr.aw Af);clear hr;have HU:=I hu;clear hu;have HN:=I hn;clear hn;have HM:=I hm;clear hm;have aH:=I aA;clear aA;have ar:=I av;clear av;have aF:=I X;clear X;have aK:=I ae;clear ae;have aL:=I ah;clear ah;have BL:=I ad;clear ad;clear eN;go_enter Tryz.func103,Tryz.ntmps103
 go_wp2_with (first
  |(go_at_call 152;refine Ah cn ?_;rintro w1 ⟨g,ay,aE⟩;clear cn;have aM:=ay.1.cp;obtain⟨aD,az,md,ag⟩:=ay;have af:=Sp.NU g ks md N m (m:Int) w1 rfl aH.o (by have:=ar.o;omega) aF.o ag;rw[aK.o] at af;have X1:=I aD;have NE:=I az;have GL:=I ag.lt;have Z:=I aE;clear aE aD az ag)
  |(go_at_call 153;rw[aL.o];refine Calls.mono af ?_;rintro e w2 ⟨q,rfl,hq,hB,ax,aC,_⟩;clear af aM;have HQ:=I hq;have HB:=I hB;have aN:=I ax;have ao:=I aC;clear hq hB ax aC))
 have aw:(Di ks u n m).length=m:=BS ks u n m
 go_loopw [27] (fun iv wr=>∃i:Nat,i<=m/\iv=.int .i64 (i:Int)/\Chg (fun k=>w1.heap.size<=k) w2 wr/\Blk wr q 5 (bvs (tl ks u n p i)).toArray) (fun iv _=>m - (intOf iv).toNat)
 case atStart=>exact⟨0,Nat.zero_le _,rfl,Chg.refl _ _,by rw[VL,<-HM.o];exact HB.o⟩
 case round=>
  obtain⟨i,hi,rfl,hc,an⟩:=hrel;have HC:=I hc;clear hc;have aa:=I an;clear an;have aR:=I aw;clear aw;have M:Chg (Aw b h w.heap.size) w w1/\Chg (Aw b h w.heap.size) w1 w2/\Chg (Aw b h w.heap.size) w2 wr:=
   ⟨Z.o.aw,Chg.of_grown ao.o (Z.o.aw_g Af),HC.o.mono fun k _ hx=>.inr (Nat.le_trans Z.o.1.size hx)⟩
  by_cases hx:i=m
  ·subst hx
   have HA:=I M;clear M
   go_wp2_with fail
   go_ret;have aP:b<w1.heap.size:=X1.o.lt;have aI:XB w2 b ks 1 0 (some ⟨g,0,none⟩) (k2 ks) a o r:=Blk.grown X1.o ao.o (fun e=>by injection e with e;exact NE.o e);have aJ:q≠g:=by have:=GL.o;have:=HQ.o;omega
   refine⟨g,q,rfl,Nat.le_trans Z.o.1.size HQ.o,aJ,?_,⟨aI.chg HC.o (by omega),NE.o,true,Qc aN.o HC.o (by have:=GL.o;omega)⟩,?_⟩
   ·rw[<-Xw,<-HM.o];exact aa.o
   ·exact((HA.o.1.then HA.o.2.1).then HA.o.2.2).step Z.o.2
  ·have aO:i<m:=by omega
   have ab:i<p.length:=by have:=HM.o;omega
   have e1:(i:Int)<(m:Int):=by omega
   have e2:(0:Int)<=(i:Int):=by omega
   have e3:(i:Int)<1000:=by have:=ar.o;omega
   have ai:i<(Di ks u n p.length).length:=by rw[BS];exact ab
   obtain⟨y,ey⟩:=Aj (p[i]);obtain⟨x,ex⟩:=Aj ((Di ks u n p.length)[i]);obtain⟨z,ez⟩:=Aj (y ^^^ x);have au:=((HR.o.go M.1).go M.2.1).go M.2.2;obtain⟨b2,o2,rfl,aG,_,Y⟩:=au.resolve_left (by intro e;have:=AB p;rw[e] at this;simp at this;omega);have aj:=Y i _ (DT ab);have ak:wr.cell? ⟨q,i,none⟩=some (bv (Di ks u n p.length)[i]):=by rw[aa.o.cell];exact tl_at ks u n p i ab ai
   have O:=Xv ks u n p i ab ai;rw[<-ey] at aj O;rw[<-ex] at ak O;rw[<-ez] at O;simp only[bv] at aj ak;have aQ:bits .xor .u8 (x.toNat:Int) (y.toNat:Int)=(z.toNat:Int):=by rw[ez];exact xor_b y x
   have fz:=aa.o.frozen;have aB:=I O;clear O;have HX:=I hx;clear hx;have HI:=I hi;clear hi;clear ey ex ez M au Y aG ai
   go_wp2_with fail
   refine wp_region_still_tail 10 (by kernel_rfl) (by kernel_rfl) ?_;simp only[List.take_succ_cons,List.take_zero,List.drop_succ_cons,List.drop_zero];change wpStill _ _ wr.drew _ _ _
   repeat still_step
   refine wpStill_nil ?_;change wpList _ _ _ _ _ wr.drew
   go_wp2_with fail
   go_roundw
   case rel=>
    refine⟨i+1,by omega,by go_num,HC.o.drew.set (.inl HQ.o) _,?_⟩;have e:Blk wr.drew q 5 (bvs (tl ks u n p i)).toArray:=aa.o;have:=e.set i (bv z);rw[aB.o] at this;exact this
   case measure=>simp [intOf];omega
def Nw (n g i:Nat):Prop:=i<n\/i=g
theorem Ia (b:Nat) (ks:Nat->UInt8) (h:Option Nat) (a o r u n:Nat) (A:Option Addr) (m c:Nat) (p:List UInt8) (w:World) (hu:u<=255) (hn:n<18446744073709551616) (hm:m=p.length) (M:m<=1000) (hr:RdA (Ow b h) w A (bvs p)) (Z:Box w b ks h a o r) :
  Calls Tryz.prog 103 #[.pointer (some ⟨b,0,none⟩),.int .i64 (u:Int),.int .u64 (n:Int),.slice A m c] w fun e w'=>∃g Aq cq,e=.returned (.slice Aq m cq)/\m<=cq/\cq<=1000/\RdA (Nw w.heap.size g) w' Aq (bvs (mixL ks u n p))/\Box w' b ks (some g) a o r/\Step w w' b h g:=by
 rcases Nat.eq_zero_or_pos m with O | O
 ·subst O
  have hp:mixL ks u n p = []:=List.eq_nil_of_length_eq_zero (by rw[BA];omega);refine(Qe b ks h a o r u n A c w hu hn Z).mono ?_;rintro e w' ⟨g,rfl,Y,X⟩;exact⟨g,none,0,rfl,Nat.le_refl _,by decide,by rw[hp];exact .inl rfl,Y,X⟩
 ·refine(Qg b ks h a o r u n A m c p w hu hn hm O M hr Z).mono ?_
  rintro e w' ⟨g,q,rfl,Y,X,h3,h4,h5⟩;refine⟨g,_,m,rfl,Nat.le_refl _,M,.inr ⟨q,0,rfl,h3.lt,?_,fun i v hv=>?_⟩,h4,h5⟩
  ·rintro(hx | hx)
   ·omega
   ·exact X hx
  ·rw[Nat.zero_add,h3.cell,List.getElem?_toArray];exact hv
theorem Uy (u:Nat) (hu:u<=255):bv (UInt8.ofNat u)=.int .u8 (u:Int):=by
 unfold bv;rw[UInt8.toNat_ofNat',Nat.mod_eq_of_lt (by omega)]
theorem SH {w:World} (u:Nat) (hu:u<=255) (A:Option Addr) (m c:Nat) (l:List UInt8) (t M:TypeId) (hm:m=l.length) (O:Rd w w.heap.size A (bvs l)) :
  Si.Rows ((w.alloc (.cells #[.int .u8 (u:Int)] t)).alloc (.cells #[.slice (some ⟨w.heap.size,0,none⟩) 1 1,.slice A m c] M)) ((w.alloc (.cells #[.int .u8 (u:Int)] t)).alloc (.cells #[.slice (some ⟨w.heap.size,0,none⟩) 1 1,.slice A m c] M)).heap.size (some ⟨w.heap.size+1,0,none⟩) [[UInt8.ofNat u],l]:=by
 have h:=Si.Oc (w:=w.alloc (.cells #[.int .u8 (u:Int)] t)) M [.slice (some ⟨w.heap.size,0,none⟩) 1 1,.slice A m c] [[UInt8.ofNat u],l] #[.slice (some ⟨w.heap.size,0,none⟩) 1 1,.slice A m c] rfl rfl (fun i X=>by
  match i,X with
  |0,_=>
   refine⟨some ⟨w.heap.size,0,none⟩,1,rfl,?_⟩;have:=Si.FE w t #[.int .u8 (u:Int)] [.int .u8 (u:Int)] rfl w.heap.size rfl;rw[show bvs [[UInt8.ofNat u],l][0] = [.int .u8 (u:Int)] from by show [bv (UInt8.ofNat u)]=_;rw[Uy u hu]];exact this.more (by simp)
  |1,_=>exact⟨A,c,by rw[hm];rfl,(O.alloc Af _).more (by simp)⟩)
 have e:(w.alloc (.cells #[.int .u8 (u:Int)] t)).heap.size=w.heap.size+1:=by simp
 rw[e] at h;exact h
theorem Qh (b:Nat) (ks:Nat->UInt8) (h:Option Nat) (a o r u:Nat) (A:Option Addr) (m c:Nat) (l:List UInt8) (w:World) (hu:u<=255) (hm:m=l.length) (aj:m<=1000) (hr:RdA (Ow b h) w A (bvs l)) (hK:Box w b ks h a o r) :
  Calls Tryz.prog 151 #[.pointer (some ⟨b,0,none⟩),.int .i64 (u:Int),.slice A m c] w fun e w'=>∃g,e=.returned (.int .u64 (tagL ks u l:Nat))/\Box w' b ks (some g) a o r/\Step w w' b h g:=by
 have cn:=Gv b ks h a o r w hK;have M:∀O,Rd O O.heap.size A (bvs l)->_:=fun O h1=>Si.VF (k2 ks) (some ⟨O.heap.size+1,0,none⟩) 2 2 [[UInt8.ofNat u],l] _ rfl (by decide) (by simp [Si.flat];omega) (SH u hu A m c l 5 24 hm h1)
 have ab:Si.flat [[UInt8.ofNat u],l]=UInt8.ofNat u :: l:=by simp [Si.flat]
 rw[ab] at M;have i2:=IH (k2 ks);have X:Si.AN (k2 ks)=Sp.AN (k2 ks):=rfl;rw[X] at M;obtain⟨T,eT⟩:=Aj (tagL ks u l);have hT:∀e,e=Ending.returned (Si.wv (Si.GY (k2 ks) (UInt8.ofNat u :: l)))->e=.returned (.int .u64 (T:Int)):=fun e h=>by rw[h,eT];rfl
 rw[<-eT];have HR:=I (hr.aw Af);clear hr;have ar:(u:Int)<=255:=by omega
 have av:(0:Int)<=(u:Int):=by omega
 have ao:(u:Int) % 256=(u:Int):=by omega
 have au:IntKind.u8.wrap (u:Int)=(u:Int):=by rw[IntKind.wrap_u8'];exact ao
 obtain⟨ds,Z⟩:=Aj (Sp.AN (k2 ks));have ag:∀O g,Box O b ks (some g) a o r->O.rangeAt b 36 ds.toList:=fun O g hb=>by rw[Z];exact XB.rangeD hb.1
 rw[<-Z] at i2 M;have RD:=I ag;clear ag;have I2:=I i2;clear i2;have HT:=I hT;clear hT;clear hK hm aj hu Z eT ab X;go_enter Tryz.func151,Tryz.ntmps151
 go_wp2_with (first
  |(go_at_call 152;refine Ah cn ?_;rintro O ⟨g,Y,aa⟩;clear cn;have hs:=M O (HR.o.go aa.aw).rd;clear M;have ae:=RD.o O g Y;have ah:=I ae;have ai:=I Y;have an:=I aa;clear Y aa ae)
  |(refine Ad (by rfl) 157 (.tmp 11) (by rfl) b 36 (by rfl) ds _ ah.o Tryz.underlying157 (by rfl) I2.o ?_)
  |(go_at_call 185;refine Calls.mono hs ?_;rintro e w2 ⟨he,af⟩;have he:=HT.o e he;subst he;have ak:=I af;clear af hs)
  |fail)
 go_ret;have hb:=((Below.refl O.heap.size O).alloc Af (Obj.cells #[.int .u8 (u:Int)] 5)).alloc (by simp) (Obj.cells #[.slice (some ⟨O.heap.size,0,none⟩) 1 1,.slice A m c] 24);have ad:=hb.trans (ak.o.mono (by simp;omega));exact⟨g,rfl,ai.o.below ad,an.o.then (Chg.of_below (S:=fun _=>False) ad) (fun _ _ x=>x.elim)⟩
theorem Ga {S:Nat->Prop} {w:World} {base n:Nat} {v:Value} {xs:List Value} {t:TypeId} (h:w.ownsRow base t 1 v n xs) (hs:∀k,v.ownBlock=some k->¬S k):∃A c,v=.slice A n c/\n<=c/\c<=maxLen/\RdA S w A xs:=by
 have X:=h;obtain⟨Y,⟨rfl,hn⟩ | ⟨g,cap,cur,rfl,_,Z,M,O,_⟩⟩:=h
 ·subst hn
  exact⟨none,0,rfl,Nat.le_refl _,Nat.zero_le _,.inl (List.eq_nil_of_length_eq_zero (by simpa using Y))⟩
 ·refine⟨_,cap,rfl,M,O,.inr ⟨g,0,rfl,(Array.getElem?_eq_some_iff.1 Z).1,hs g rfl,fun i u hu=>?_⟩⟩
  have:=X.cells (g:=g) rfl i u hu
  rwa [addr_add] at this
theorem Box.seals {w:World} {b:Nat} {ks:Nat->UInt8} {g a o r:Nat} (h:Box w b ks (some g) a o r) (M:Nat):Box (w.setCell ⟨b,52,none⟩ (.int .i64 (M:Int))) b ks (some g) M o r:=by
 obtain⟨X,O,m,Y⟩:=h;exact⟨X.set_a M,O,m,Key.far Y _ _ (fun e=>O e.symm)⟩
theorem Box.opens {w:World} {b:Nat} {ks:Nat->UInt8} {g a o r:Nat} (h:Box w b ks (some g) a o r) (M:Nat):Box (w.setCell ⟨b,53,none⟩ (.int .i64 (M:Int))) b ks (some g) a M r:=by
 obtain⟨X,O,m,Y⟩:=h;exact⟨X.set_o M,O,m,Key.far Y _ _ (fun e=>O e.symm)⟩
theorem Box.refuses {w:World} {b:Nat} {ks:Nat->UInt8} {h:Option Nat} {a o r:Nat} (X:Box w b ks h a o r) (M:Nat):Box (w.setCell ⟨b,54,none⟩ (.int .i64 (M:Int))) b ks h a o M:=by
 cases h with
 |none=>exact XB.set_r X M
 |some g=>
  obtain⟨Y,O,m,Z⟩:=X;exact⟨Y.set_r M,O,m,Key.far Z _ _ (fun e=>O e.symm)⟩
theorem Qi {w w':World} {v:Value} (h:w.grownBy w' v.ownBlock):Chg (fun i=>v.ownBlock=some i) w w':=
 ⟨h.os,h.tape,h.output,h.size,fun k hk M=>h.block k hk (fun e=>M e.symm)⟩
theorem Step.same {w w':World} {b g O:Nat} (h:Step w w' b (some g) O):g=O:=by
 rcases h.2 with M | ⟨M,_⟩
 ·injection M
 ·cases M
def Uz (B:Nat) (v:Value):Prop:=∀k,v.ownBlock=some k->B<=k
theorem Fk {w:World} {B n:Nat} {v:Value} {xs:List Value} {t:TypeId} (h:w.ownsRow B t 1 v n xs):Uz B v:=fun k hk=>(h.lt k hk).1
theorem Xz {B b:Nat} {ks:Nat->UInt8} {h:Option Nat} {a o r:Nat} {A:Option Addr} {xs:List Value} {w W w2:World} {v0:Value} (eB:B=w.heap.size) (Z:Box w b ks h a o r) (hR:RdA (Ow b h) w A xs) (X:Below B w W) (hv:Uz B v0) (hc:Chg (fun i=>v0.ownBlock=some i) W w2) :
  Box w2 b ks h a o r/\RdA (Ow b h) w2 A xs/\Chg (Aw b h B) w w2:=by
 subst eB;have O:Chg (fun i=>w.heap.size<=i) w w2:=(Chg.of_below X).trans hc fun i _ M=>hv i M
 exact⟨Z.chg O (fun i Y M=>by have:=Z.own_lt i Y;omega),hR.keep O (fun i Y M=>by omega) (fun i _ M=>M),O.mono fun i _ M=>.inr M⟩
theorem XA {B b g n:Nat} {h:Option Nat} {w2 Y:World} {v1:Value} {xs:List Value} {t:TypeId} (M:∀i,Ow b h i->i<B) (hB:B<=w2.heap.size) (X:w2.ownsRow B t 1 v1 n xs) (hs:Step w2 Y b h g) :
  Y.ownsRow B t 1 v1 n xs/\(∀i,Ow b (some g) i->¬v1.ownBlock=some i)/\Aw b h B g:=by
 refine⟨hs.1.own X (fun k hk hx=>by have:=M k hx;have:=(X.lt k hk).1;omega),fun i O hk=>?_,hs.aw_g hB⟩;have h1:=X.lt i hk;rcases O with O | O
 ·have:=M i (.inl O);omega
 ·injection O with O
  rcases hs.2 with Z | ⟨_,Z⟩
  ·have:=M i (.inr (O▸Z));omega
  ·omega
theorem XC {b g:Nat} {ks:Nat->UInt8} {a o r:Nat} {O w4:World} {v1 v4:Value} (Z:Box O b ks (some g) a o r) (Y:∀i,Ow b (some g) i->¬v1.ownBlock=some i) (hg:O.grownBy w4 v1.ownBlock) (M:v4.ownBlock=v1.ownBlock\/v4.ownBlock=some O.heap.size) :
  Box w4 b ks (some g) a o r/\(∀i,v4.ownBlock=some i->¬Ow b (some g) i):=by
 refine⟨Z.chg (Qi hg) Y,fun i hk X=>?_⟩;rcases M with h | h
 ·exact Y i X (h▸hk)
 ·rw[h] at hk
  injection hk with hk;have:=Z.own_lt i X;omega
theorem VM (b:Nat) (ks:Nat->UInt8) (h:Option Nat) (a o r u n:Nat) (A:Option Addr) (m c:Nat) (p:List UInt8) (w:World) (ha:a<1000000) (hu:u<=255) (hn:n<=1099511627776) (hm:m=p.length) (aB:m<=784) (hr:RdA (Ow b h) w A (bvs p)) (hK:Box w b ks h a o r) :
  Calls Tryz.prog 131 #[.pointer (some ⟨b,0,none⟩),.int .i64 (u:Int),.int .i64 (n:Int),.slice A m c] w fun e w'=>∃g Aq cq,e=.returned (.tuple #[.slice Aq (m+16) cq,.int .i64 0])/\m+16<=cq/\cq<=maxLen/\RdA (Nw w.heap.size g) w' Aq (bvs (Dm ks u n p))/\Box w' b ks (some g) (a+1) o r/\Step w w' b h g:=by
 obtain⟨ib,ay,aI,aL,aK⟩:=info_parts Si.Cc;have bh:=fun W=>Dt (P:=Tryz.prog) (t:=24) (e:=5) Tryz.underlying24 ay aI aL aK ((m:Int)+16) (m+16) (by omega) (by omega) W
 have f1:=DX (u:Int) true (by simp;omega);have f2:=Fj n true (by simp;omega);obtain⟨B,eB⟩:=Aj (w.heap.size);have af:=World.ownsRow_made (e:=5) (base:=B) (size:=1) w (CU (m+16)) (m+16) (by omega) (by unfold maxLen;omega) (by rw[Dw,Nat.mul_one]);have c1:=MT B _ 0 n [] _ (by omega) (by decide) (by simp;omega) af;rw[Nat.zero_add,List.nil_append] at c1;have aU:Below B w (w.alloc (.cells (CU (m+16)) 5)):=eB▸Ag.alloc Af _;have aJ:∀i,Ow b h i->i<B:=fun i hi=>eB▸hK.own_lt i hi
 have aP:=Fk af;have bn:=I aP;clear aP;have HK:=I hK;clear hK;have HR:=I hr;clear hr;have AL:=I aU;clear aU;have OL:=I aJ;clear aJ;have EB:=I eB;have q1:(n:Int)<=1099511627776:=by omega
 have q2:(0:Int)<=(n:Int):=by omega
 have q3:(m:Int)<=784:=by omega
 have q4:IntKind.u64.wrap (n:Int)=(n:Int):=by rw[IntKind.wrap_u64];omega
 have q5:IntKind.i64.wrap ((m:Int)+16)=(m:Int)+16:=by rw[IntKind.wrap_i64];omega
 have q6:decide ((n:Int)<0)=false:=by simp
 have q7:decide (784<(m:Int))=false:=by simp;omega
 obtain⟨L,eL⟩:=Aj (Et ks u n p);have aC:bvs (w8 n)++bvs (mixL ks u n p)=bvs L:=by rw[eL,Et,BI]
 have aZ:8+m=L.length:=by rw[eL,BX,<-hm]
 obtain⟨T,eT⟩:=Aj (tagL ks u L);have aQ:T<18446744073709551616:=by rw[eT];exact LI _ _ _
 have ao:bvs (L++w8 T)=bvs (Dm ks u n p):=by rw[eT,eL];rfl
 have EL:=I aC;clear aC;have LL:=I aZ;clear aZ;have TL:=I aQ;clear aQ;have ba:=I ao;clear ao;have ET:=I eT;clear eT;clear eL;have HA:=I ha;clear ha;have HU:=I hu;clear hu;have HN:=I hn;clear hn;have HM:=I hm;clear hm;have Z:=I aB;clear aB;have C1:=I c1;clear c1;clear af eB;go_enter Tryz.func131,Tryz.ntmps131
 go_wp2_with (first
  |(go_at_call 101;refine Ah (f1 _) ?_;rintro wq hw;have hw:=hw.symm;subst hw;clear f1)
  |(go_at_call 150;refine Ah (f2 _) ?_;rintro wq hw;have hw:=hw.symm;subst hw;clear f2)
  |(go_at_call 166;refine Calls.mono C1.o ?_;rintro e w2 ⟨v1,rfl,ad,aj,ar⟩;clear C1 bh;obtain⟨aR,aE,aw⟩:=Xz EB.o HK.o HR.o AL.o bn.o aj;have ct:=Ia b ks h a o r u n A m c p w2 HU.o (by have:=HN.o;omega) HM.o (by have:=Z.o;omega) aE aR;have O1:=I ad;have C2:=I aw;have W2:=I aw.size;clear ad aj ar aR aE aw)
  |(go_at_call 103;refine Calls.mono ct ?_;rintro e w3 ⟨g,Aq,cq,rfl,aO,aD,aV,aG,ah⟩;clear ct;obtain⟨aH,aW,aF⟩:=XA OL.o (by have:=W2.o;have:=EB.o;omega) O1.o ah;have O3:=I aH;have N3:=I aW;have G3:=I aF;have Q3:=I aV;have B3:=I aG;have S3:=I ah;have W3:=I ah.1.size;clear aO aD aV aG ah aH aW aF)
  |(at_builtin;refine AD _ (by rfl) (.tmp 41) (.tmp 47) 24 (by rfl) B 5 ib _ 1 Tryz.underlying24 ay aI aL aK (by rfl) v1 8 (bvs (w8 n)) (by rfl) O3.o w3.heap.size Aq m cq (bvs (mixL ks u n p)) (by rfl) (by rw[AB,BA];exact HM.o) Q3.o.rd (BK _) (by have:=Z.o;unfold maxLen;omega) (by have:=Z.o;omega) (by have:=W2.o;have:=W3.o;have:=EB.o;omega) ?_;intro v4 w4 O M ak;obtain⟨aM,av⟩:=XC B3.o N3.o M ak;rw[EL.o] at O;obtain⟨A4,c4,bd,bb,_,aS⟩:=Ga O av;subst bd;have au:=Qh b ks (some g) a o r u A4 (8+m) c4 L w4 HU.o LL.o (by have:=Z.o;omega) aS aM;rw[<-ET.o] at au;have O4:=I O;have N4:=I av;have G4:=I M;have bg:=I (Fk O);have W4:=I M.size;clear O M ak aM av aS bb)
  |(go_at_call 151;refine Calls.mono au ?_;rintro e w5 ⟨g2,rfl,aT,ag⟩;clear au;have bm:=ag.same;subst bm;have aX:=ag.1.own O4.o N4.o;have c6:=MT B _ (8+m) T L w5 TL.o (by have:=Z.o;omega) (by have:=W2.o;have:=W3.o;have:=W4.o;have:=ag.1.size;have:=EB.o;omega) aX;have B5:=I aT;have S5:=I ag;clear aX aT ag)
  |(go_at_call 166;refine Calls.mono c6 ?_;rintro e w6 ⟨v6,rfl,Y,ab,ae⟩;clear c6;have ai:=B5.o.chg ab (fun i hi hk=>N4.o i hk hi);have an:=add_one ⟨b,52,none⟩ a w6 HA.o ai.1.ca (ai.1.fz 52);have O6:=I Y;have C6:=I ab;have N6:=I ae;have B6:=I ai;clear Y ab ae ai)
  |(go_at_call 88;refine Ah an ?_;rintro w7 az;clear an;have aa:=I az;clear az)
  |fail)
 have ax:∀k,v6.ownBlock=some k->B<=k/\k≠g/\k≠b:=fun k hk=>by
  have h1:=Fk O6.o k hk;have h2:=OL.o b (.inl rfl);refine⟨h1,fun e=>?_,by omega⟩;rcases N6.o k hk with h3 | h3
  ·exact N4.o k h3 (.inr (by rw[e]))
  ·have:=B5.o.lt_g;omega
 have bp:w.heap.size<=w7.heap.size:=by
  have e:w7.heap.size=w6.heap.size:=by rw[aa.o];simp [World.setCell]
  have:=W2.o;have:=W3.o;have:=W4.o;have:=S5.o.1.size;have:=C6.o.size;omega
 have aN:w7.ownsRow B 5 1 v6 (8+m+8) (bvs (L++w8 T)):=by
  rw[aa.o];exact((Chg.refl (fun i=>i=b) w6).set (.inl rfl) _).own O6.o (fun k hk=>(ax k hk).2.2)
 rw[ba.o] at aN;obtain⟨A7,c7,bf,aY,bj,bl⟩:=Ga (S:=Nw w.heap.size g) aN (fun k hk X=>by
  have h1:=ax k hk;have:=EB.o;rcases X with X | X
  ·omega
  ·exact h1.2.1 X)
 have bo:Chg (Aw b h w.heap.size) w w7:=by
  rw[<-EB.o];have aA:∀i,Ow b (some g) i->Aw b h B i:=fun i hi=>by
   rcases hi with hi | hi
   ·exact .inl (.inl hi)
   ·injection hi with hi;exact hi▸G3.o
  have h4:Chg (Aw b h B) w3 w4:=(Qi G4.o).mono fun i _ X=>.inr ((Fk O3.o) i X)
  have h5:Chg (Aw b h B) w4 w5:=S5.o.1.mono fun i _ X=>aA i X
  have h6:Chg (Aw b h B) w5 w6:=C6.o.mono fun i _ X=>.inr (bg.o i X)
  have h7:Chg (Aw b h B) w6 w7:=by rw[aa.o];exact(Chg.refl _ w6).set (.inl (.inl (.inl rfl))) _
  exact((((C2.o.then S3.o.aw).then h4).then h5).then h6).then h7
 have B7:Box w7 b ks (some g) (a+1) o r:=by rw[aa.o];exact B6.o.seals (a+1)
 clear aa;subst bf
 go_wp2_with fail
 go_ret2
 rw[show 8+m+8=m+16 by omega] at aY;exact⟨g,A7,c7,by show Ending.returned (.tuple #[.slice A7 (8+m+8) c7,.int .i64 0])=_;rw[show 8+m+8=m+16 by omega],aY,bj,bl,B7,bo.step (S3.o.2.imp id (fun X=>⟨X.1,by have:=W2.o;omega⟩))⟩
end Se
end Go.Proofs.YtlccngianpfalaaGreat
