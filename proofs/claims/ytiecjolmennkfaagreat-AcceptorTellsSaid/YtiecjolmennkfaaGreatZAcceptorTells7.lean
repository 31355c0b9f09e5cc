import Derived.Test.YtiecjolmennkfaaGreatZAcceptorTells5
import Derived.Test.YtiecjolmennkfaaGreatZAcceptorTells6
set_option maxHeartbeats 25600000
set_option maxRecDepth 100000
set_option linter.unusedVariables false
set_option linter.unusedSimpArgs false
namespace Go.Proofs.YtiecjolmennkfaaGreat
namespace Se
open Go.RowKit Af
def w8 (n:Nat):List UInt8:=(List.range 8).map fun j=>UInt8.ofNat (n / 2 ^ (56 - 8*j))
theorem Dz (n:Nat):(w8 n).length=8:=by simp [w8]
def big:Nat->List UInt8->Nat
 |a,[]=>a
 |a,b :: l=>big (a*256+b.toNat) l
theorem PJ (b:UInt8):∀(l:List UInt8) (a:Nat),big a (l++[b])=big a l*256+b.toNat
 | [],_=>rfl
 |c :: l,a=>PJ b l (a*256+c.toNat)
theorem Yv:∀(l:List UInt8) (a:Nat),big a l<(a+1)*256 ^ l.length
 | [],a=>by simp [big]
 |b :: l,a=>by
  have h:=Yv l (a*256+b.toNat);have M:=b.toNat_lt;refine Nat.lt_of_lt_of_le h ?_;rw[List.length_cons,Nat.pow_succ,Nat.mul_comm (256 ^ l.length),<-Nat.mul_assoc];exact Nat.mul_le_mul_right _ (by omega)
def n8 (l:List UInt8):Nat:=big 0 (l.take 8)
theorem Oq (n:Nat):w8 n = [UInt8.ofNat (n / 2 ^ 56),UInt8.ofNat (n / 2 ^ 48),UInt8.ofNat (n / 2 ^ 40),UInt8.ofNat (n / 2 ^ 32),UInt8.ofNat (n / 2 ^ 24),UInt8.ofNat (n / 2 ^ 16),UInt8.ofNat (n / 2 ^ 8),UInt8.ofNat (n / 2 ^ 0)]:=rfl
theorem dc (n:Nat) (h:n<18446744073709551616) (l:List UInt8):n8 (w8 n++l)=n:=by
 unfold n8;rw[List.take_append_of_le_length (by rw[Dz];exact Nat.le_refl _),List.take_of_length_le (by rw[Dz];exact Nat.le_refl _),Oq];simp only[big,UInt8.toNat_ofNat'];omega
theorem n8_w8' (n:Nat) (h:n<18446744073709551616):n8 (w8 n)=n:=by
 have:=dc n h []
 rwa [List.append_nil] at this
theorem w8_at (n j:Nat) (h:j<8):(w8 n)[j]? = some (UInt8.ofNat (n / 2 ^ (56 - 8*j))):=by
 simp [w8,h]
theorem ZV (n j:Nat) (h:j<8):(w8 n).take (j+1)=(w8 n).take j++[UInt8.ofNat (n / 2 ^ (56 - 8*j))]:=by
 rw[List.take_add_one,w8_at n j h];rfl
theorem WI (l:List UInt8) (j:Nat) (h:j<l.length):big 0 (l.take (j+1))=big 0 (l.take j)*256+(l[j]).toNat:=by
 rw[List.take_succ_eq_append_getElem h,PJ]
theorem Ot (l:List UInt8) (j:Nat):big 0 (l.take j)<256 ^ j:=by
 have h:=Yv (l.take j) 0;rw[Nat.zero_add,Nat.one_mul] at h;exact Nat.lt_of_lt_of_le h (Nat.pow_le_pow_right (by decide) (by rw[List.length_take];omega))
def sn (u n:Nat):Nat:=(n*256+u) % 18446744073709551616
def DA (ks:Nat->UInt8) (u n m:Nat):List UInt8:=Sp.strm (Sp.kw ks) (BitVec.ofNat 32 (sn u n / 4294967296)) (BitVec.ofNat 32 (sn u n)) m
theorem BO (ks:Nat->UInt8) (u n m:Nat):(DA ks u n m).length=m:=Sp.Og _ _ _ _
def xorL (p s:List UInt8):List UInt8:=List.zipWith (· ^^^ ·) p s
def mixL (ks:Nat->UInt8) (u n:Nat) (p:List UInt8):List UInt8:=xorL p (DA ks u n p.length)
theorem BA (ks:Nat->UInt8) (u n:Nat) (p:List UInt8):(mixL ks u n p).length=p.length:=by
 simp [mixL,xorL,BO]
theorem PM:∀p s:List UInt8,p.length<=s.length->xorL (xorL p s) s=p
 | [],_,_=>by simp [xorL]
 |a :: p,[],h=>by simp at h
 |a :: p,b :: s,h=>by
  have M:=PM p s (by simpa using h);unfold xorL at M⊢;rw[List.zipWith_cons_cons,List.zipWith_cons_cons,M]
  congr 1
  apply UInt8.toNat_inj.1;rw[UInt8.toNat_xor,UInt8.toNat_xor,Nat.xor_assoc,Nat.xor_self,Nat.xor_zero]
theorem TG (ks:Nat->UInt8) (u n:Nat) (p:List UInt8):mixL ks u n (mixL ks u n p)=p:=by
 have e:mixL ks u n (mixL ks u n p)=xorL (xorL p (DA ks u n p.length)) (DA ks u n p.length):=by
  rw[mixL,BA];rfl
 rw[e,PM _ _ (by rw[BO];exact Nat.le_refl _)]
theorem TH (ks:Nat->UInt8) (u n:Nat) (p:List UInt8) (i:Nat) (h:i<p.length) (M:i<(DA ks u n p.length).length):(mixL ks u n p)[i]? = some (p[i] ^^^ (DA ks u n p.length)[i]):=by
 unfold mixL xorL;rw[List.getElem?_zipWith,List.getElem?_eq_getElem h,List.getElem?_eq_getElem M]
def k2 (ks:Nat->UInt8) (i:Nat):UInt8:=ks (16+i)
def tagL (ks:Nat->UInt8) (u:Nat) (l:List UInt8):Nat:=(Si.Ia (k2 ks) (UInt8.ofNat u :: l)).toNat
theorem TI (ks:Nat->UInt8) (u:Nat) (l:List UInt8):tagL ks u l<18446744073709551616:=(Si.Ia (k2 ks) (UInt8.ofNat u :: l)).isLt
def Gl (ks:Nat->UInt8) (u n:Nat) (p:List UInt8):List UInt8:=w8 n++mixL ks u n p
theorem Cj (ks:Nat->UInt8) (u n:Nat) (p:List UInt8):(Gl ks u n p).length=8+p.length:=by
 rw[Gl,List.length_append,Dz,BA]
def Eo (ks:Nat->UInt8) (u n:Nat) (p:List UInt8):List UInt8:=Gl ks u n p++w8 (tagL ks u (Gl ks u n p))
theorem CG (ks:Nat->UInt8) (u n:Nat) (p:List UInt8):(Eo ks u n p).length=p.length+16:=by
 rw[Eo,List.length_append,Cj,Dz];omega
def Ic (l:List UInt8):List UInt8:=l.take (l.length - 8)
def Hv (l:List UInt8):List UInt8:=l.drop (l.length - 8)
def midL (l:List UInt8):List UInt8:=(Ic l).drop 8
def isL (ks:Nat->UInt8) (u:Nat) (l:List UInt8):Bool:=decide (16<=l.length)&&decide (l.length<=800)&&decide (n8 l<=1099511627776)&&decide (tagL ks u (Ic l)=n8 (Hv l))
def ZW (ks:Nat->UInt8) (u:Nat) (l:List UInt8):Option (List UInt8):=if isL ks u l=true then some (mixL ks u (n8 l) (midL l)) else none
theorem MJ (ks:Nat->UInt8) (u n:Nat) (p:List UInt8):Ic (Eo ks u n p)=Gl ks u n p:=by
 unfold Ic;rw[CG];unfold Eo;rw[List.take_append_of_le_length (by rw[Cj];omega),List.take_of_length_le (by rw[Cj];omega)]
theorem TJ (ks:Nat->UInt8) (u n:Nat) (p:List UInt8):Hv (Eo ks u n p)=w8 (tagL ks u (Gl ks u n p)):=by
 unfold Hv;rw[CG];unfold Eo;rw[List.drop_append_of_le_length (by rw[Cj];omega),List.drop_of_length_le (by rw[Cj];omega),List.nil_append]
theorem PN (ks:Nat->UInt8) (u n:Nat) (p:List UInt8):midL (Eo ks u n p)=mixL ks u n p:=by
 unfold midL;rw[MJ,Gl,List.drop_append_of_le_length (by rw[Dz];exact Nat.le_refl _),List.drop_of_length_le (by rw[Dz];exact Nat.le_refl _),List.nil_append]
theorem Ou (ks:Nat->UInt8) (u n:Nat) (p:List UInt8) (M:n<18446744073709551616):n8 (Eo ks u n p)=n:=by
 unfold Eo Gl;rw[List.append_assoc,dc n M]
theorem Hf (ks:Nat->UInt8) (u n:Nat) (p:List UInt8) (M:n<=1099511627776) (hp:p.length<=784):ZW ks u (Eo ks u n p)=some p:=by
 have h:isL ks u (Eo ks u n p)=true:=by
  unfold isL;rw[CG,Ou ks u n p (by omega),MJ,TJ,n8_w8' _ (TI _ _ _)];simp;omega
 rw[ZW,if_pos h,PN,Ou ks u n p (by omega),TG]
structure Chg (S:Nat->Prop) (w w':World):Prop where
 os:w'.os=w.os
 tape:w'.tape=w.tape
 output:w'.output=w.output
 size:w.heap.size<=w'.heap.size
 block:∀k,k<w.heap.size->¬S k->w'.heap[k]? = w.heap[k]?
section
variable {S T S':Nat->Prop} {a w w' c:World} {A:Option Addr} {xs:List Value} {g b:Nat} {t:TypeId} {cs:Array Value}
theorem Chg.refl (S:Nat->Prop) (w:World):Chg S w w:=⟨rfl,rfl,rfl,Nat.le_refl _,fun _ _ _=>rfl⟩
theorem Chg.trans (h:Chg S a w) (k:Chg T w c) (hs:∀i,i<a.heap.size->T i->S i):Chg S a c:=
 ⟨k.os.trans h.os,k.tape.trans h.tape,k.output.trans h.output,Nat.le_trans h.size k.size,fun i hi M=>(k.block i (Nat.lt_of_lt_of_le hi h.size) (fun O=>M (hs i hi O))).trans (h.block i hi M)⟩
theorem Chg.mono (h:Chg S a w) (hs:∀i,i<a.heap.size->S i->T i):Chg T a w:=⟨h.os,h.tape,h.output,h.size,fun i hi M=>h.block i hi (fun x=>M (hs i hi x))⟩
theorem Chg.of_below (h:Below w.heap.size w w'):Chg S w w':=⟨h.os,h.tape,h.output,h.size,fun i hi _=>h.block i hi⟩
theorem Chg.of_grown (h:w.grownBy w' (some g)) (hs:S g):Chg S w w':=⟨h.os,h.tape,h.output,h.size,fun i hi M=>h.block i hi (fun e=>by injection e with e;subst e;exact M hs)⟩
theorem Chg.below (h:Chg S a w) {B:Nat} (hB:B<=a.heap.size) (hs:∀i,i<a.heap.size->S i->B<=i):Below B a w:=
 ⟨h.os,h.tape,h.output,h.size,fun i hi=>h.block i (by omega) (fun x=>by have:=hs i (by omega) x;omega)⟩
theorem Chg.blk (h:Chg S w w') (M:Blk w g t cs) (hs:¬S g):Blk w' g t cs:=(h.block g M.lt hs).trans M
theorem Chg.own (h:Chg S w w') {base n:Nat} {v:Value} (O:w.ownsRow base t 1 v n xs) (hs:∀k,v.ownBlock=some k->¬S k):w'.ownsRow base t 1 v n xs:=by
 refine⟨O.1,?_⟩;rcases O.2 with Z | ⟨g,cap,cur,rfl,hb,M,rest⟩
 ·exact .inl Z
 ·exact .inr ⟨g,cap,cur,rfl,hb,(h.block g (Array.getElem?_eq_some_iff.1 M).1 (hs g rfl)).trans M,rest⟩
theorem Chg.set (h:Chg S a w) {p:Addr} (hp:S p.block\/a.heap.size<=p.block) (u:Value):Chg S a (w.setCell p u):=
 ⟨h.os,h.tape,h.output,by simpa [World.setCell] using h.size,fun i hi M=>(Below.heap_setCell w p u i (by
  rintro rfl;rcases hp with hp | hp
  ·exact M hp
  ·omega)).trans (h.block i hi M)⟩
theorem Chg.drew (h:Chg S a w):Chg S a w.drew:=⟨h.os,h.tape,h.output,h.size,h.block⟩
def RdA (S:Nat->Prop) (w:World) (A:Option Addr) (xs:List Value):Prop:=
 xs = []\/∃b o,A=some ⟨b,o,none⟩/\b<w.heap.size/\¬S b/\∀i u,xs[i]? = some u->w.cell? ⟨b,o+i,none⟩=some u
theorem RdA.rd (h:RdA S w A xs):Rd w w.heap.size A xs:=by
 rcases h with h | ⟨b,o,Z,M,_,O⟩
 ·exact .inl h
 ·exact .inr ⟨b,o,Z,M,O⟩
theorem RdA.keep (h:RdA S w A xs) (O:Chg T w w') (ht:∀i,i<w.heap.size->T i->S i) (hs:∀i,i<w.heap.size->S' i->S i):RdA S' w' A xs:=by
 rcases h with h | ⟨b,o,h1,M,Z,h3⟩
 ·exact .inl h
 ·exact .inr ⟨b,o,h1,Nat.lt_of_lt_of_le M O.size,fun x=>Z (hs b M x),fun i u hu=>(World.cell?_of_block (a:=⟨b,o+i,none⟩) (O.block b M (fun x=>Z (ht b M x)))).trans (h3 i u hu)⟩
theorem RdA.mono (h:RdA S w A xs) (hs:∀i,i<w.heap.size->S' i->S i):RdA S' w A xs:=h.keep (Chg.refl (fun _=>False) w) (fun _ _ x=>x.elim) hs
end
def BB (ks:Nat->UInt8) (d s:Int) (p:Option Addr) (dg:Nat->UInt8) (a o r:Nat):Array Value:=
 ((List.range 32).map (fun i=>bv (ks i))++(([.int .u32 d,.int .i32 s,.int .u32 0,.pointer p]:List Value)++((List.range 16).map (fun j=>bv (dg j))++([.int .i64 (a:Int),.int .i64 (o:Int),.int .i64 (r:Int)]:List Value)))).toArray
def XB (w:World) (b:Nat) (ks:Nat->UInt8) (d s:Int) (p:Option Addr) (dg:Nat->UInt8) (a o r:Nat):Prop:=Blk w b 168 (BB ks d s p dg a o r)
section
variable {w w':World} {b:Nat} {ks dg:Nat->UInt8} {d s:Int} {p:Option Addr} {a o r:Nat}
theorem QV (i:Nat) (h:i<32):(BB ks d s p dg a o r)[i]? = some (bv (ks i)):=by
 rw[BB,List.getElem?_toArray,List.getElem?_append_left (by simpa using h)];simp [h]
theorem Ie (i:Nat) (h:i<4):(BB ks d s p dg a o r)[32+i]? = ([.int .u32 d,.int .i32 s,.int .u32 0,.pointer p]:List Value)[i]?:=by
 rw[BB,List.getElem?_toArray,List.getElem?_append_right (by simp),List.getElem?_append_left (by simpa using h)];simp
theorem TK (i:Nat) (h:i<16):(BB ks d s p dg a o r)[36+i]? = some (bv (dg i)):=by
 rw[BB,List.getElem?_toArray,List.getElem?_append_right (by simp;omega),List.getElem?_append_right (by simp;omega),List.getElem?_append_left (by simp;omega)];have e:36+i - (List.map (fun i=>bv (ks i)) (List.range 32)).length - ([.int .u32 d,.int .i32 s,.int .u32 0,.pointer p]:List Value).length=i:=by simp;omega
 rw[e];simp [h]
theorem ML (i:Nat) (h:i<3):(BB ks d s p dg a o r)[52+i]? = ([.int .i64 (a:Int),.int .i64 (o:Int),.int .i64 (r:Int)]:List Value)[i]?:=by
 rw[BB,List.getElem?_toArray,List.getElem?_append_right (by simp;omega),List.getElem?_append_right (by simp;omega),List.getElem?_append_right (by simp;omega)];have e:52+i - (List.map (fun i=>bv (ks i)) (List.range 32)).length - ([.int .u32 d,.int .i32 s,.int .u32 0,.pointer p]:List Value).length - (List.map (fun j=>bv (dg j)) (List.range 16)).length=i:=by simp;omega
 rw[e]
theorem XB.cell (h:XB w b ks d s p dg a o r) (i:Nat):w.cell? ⟨b,i,none⟩=(BB ks d s p dg a o r)[i]?:=Blk.cell h i
theorem XB.ck (h:XB w b ks d s p dg a o r) (i:Nat) (hi:i<32):w.cell? ⟨b,i,none⟩=some (bv (ks i)):=(h.cell i).trans (QV i hi)
theorem XB.cd (h:XB w b ks d s p dg a o r):w.cell? ⟨b,32,none⟩=some (.int .u32 d):=(h.cell 32).trans (Ie 0 (by decide))
theorem XB.cs (h:XB w b ks d s p dg a o r):w.cell? ⟨b,33,none⟩=some (.int .i32 s):=(h.cell 33).trans (Ie 1 (by decide))
theorem XB.cp (h:XB w b ks d s p dg a o r):w.cell? ⟨b,35,none⟩=some (.pointer p):=(h.cell 35).trans (Ie 3 (by decide))
theorem XB.cg (h:XB w b ks d s p dg a o r) (i:Nat) (hi:i<16):w.cell? ⟨b,36+i,none⟩=some (bv (dg i)):=(h.cell _).trans (TK i hi)
theorem XB.co (h:XB w b ks d s p dg a o r):w.cell? ⟨b,53,none⟩=some (.int .i64 (o:Int)):=(h.cell 53).trans (ML 1 (by decide))
theorem XB.cr (h:XB w b ks d s p dg a o r):w.cell? ⟨b,54,none⟩=some (.int .i64 (r:Int)):=(h.cell 54).trans (ML 2 (by decide))
theorem XB.fz (h:XB w b ks d s p dg a o r) (i:Nat):w.frozen? ⟨b,i,none⟩=false:=Blk.frozen h i
theorem XB.lt (h:XB w b ks d s p dg a o r):b<w.heap.size:=Blk.lt h
theorem dd (M:Int):(BB ks d s p dg a o r).setIfInBounds 32 (.int .u32 M)=BB ks M s p dg a o r:=by simp [BB]
theorem de (s':Int):(BB ks d s p dg a o r).setIfInBounds 33 (.int .i32 s')=BB ks d s' p dg a o r:=by simp [BB]
theorem df (M:Option Addr):(BB ks d s p dg a o r).setIfInBounds 35 (.pointer M)=BB ks d s M dg a o r:=by simp [BB]
theorem dh (M:Nat):(BB ks d s p dg a o r).setIfInBounds 53 (.int .i64 (M:Int))=BB ks d s p dg a M r:=by simp [BB]
theorem di (M:Nat):(BB ks d s p dg a o r).setIfInBounds 54 (.int .i64 (M:Int))=BB ks d s p dg a o M:=by simp [BB]
theorem XB.set_d (h:XB w b ks d s p dg a o r) (M:Int):XB (w.setCell ⟨b,32,none⟩ (.int .u32 M)) b ks M s p dg a o r:=by
 have:=Blk.set h 32 (.int .u32 M);rwa [dd] at this
theorem XB.set_s (h:XB w b ks d s p dg a o r) (s':Int):XB (w.setCell ⟨b,33,none⟩ (.int .i32 s')) b ks d s' p dg a o r:=by
 have:=Blk.set h 33 (.int .i32 s');rwa [de] at this
theorem XB.set_p (h:XB w b ks d s p dg a o r) (M:Option Addr):XB (w.setCell ⟨b,35,none⟩ (.pointer M)) b ks d s M dg a o r:=by
 have:=Blk.set h 35 (.pointer M);rwa [df] at this
theorem XB.set_o (h:XB w b ks d s p dg a o r) (M:Nat):XB (w.setCell ⟨b,53,none⟩ (.int .i64 (M:Int))) b ks d s p dg a M r:=by
 have:=Blk.set h 53 (.int .i64 (M:Int));rwa [dh] at this
theorem XB.set_r (h:XB w b ks d s p dg a o r) (M:Nat):XB (w.setCell ⟨b,54,none⟩ (.int .i64 (M:Int))) b ks d s p dg a o M:=by
 have:=Blk.set h 54 (.int .i64 (M:Int));rwa [di] at this
theorem XB.drew (h:XB w b ks d s p dg a o r):XB w.drew b ks d s p dg a o r:=h
theorem XB.chg {S:Nat->Prop} (h:XB w b ks d s p dg a o r) (M:Chg S w w') (hs:¬S b):XB w' b ks d s p dg a o r:=M.blk h hs
end
def TM (cs:Array Value):Nat->List Value->Array Value
 |_,[]=>cs
 |o,v :: l=>TM (cs.setIfInBounds o v) (o+1) l
theorem Blk.setCells {g:Nat} {t:TypeId}:∀(M:List Value) (o:Nat) (w:World) (cs:Array Value),Blk w g t cs->Blk (w.setCells g o M) g t (TM cs o M)
 | [],_,_,_,h=>h
 |v :: l,o,w,cs,h=>Blk.setCells l (o+1) _ _ (h.set o v)
theorem ZX (ks:Nat->UInt8) (d s:Int) (p:Option Addr) (dg M:Nat->UInt8) (a o r:Nat):TM (BB ks d s p dg a o r) 36 (Si.AR M).toList=BB ks d s p M a o r:=by kernel_rfl
theorem XB.set_dg {w:World} {b:Nat} {ks dg:Nat->UInt8} {d s:Int} {p:Option Addr} {a o r:Nat} (h:XB w b ks d s p dg a o r) (M:Nat->UInt8):XB (w.setCells b 36 (Si.AR M).toList) b ks d s p M a o r:=by
 have:=Blk.setCells (Si.AR M).toList 36 _ _ h
 rwa [ZX] at this
abbrev Ln:Nat->UInt8:=fun _=>0
def Box (w:World) (b:Nat) (ks:Nat->UInt8) (h:Option Nat) (a o r:Nat):Prop:=
 match h with
 |none=>XB w b ks 0 0 none Ln a o r
 |some g=>XB w b ks 1 0 (some ⟨g,0,none⟩) (k2 ks) a o r/\g≠b/\∃m,Sp.Key w g ks m
def Ow (b:Nat) (h:Option Nat) (i:Nat):Prop:=i=b\/h=some i
theorem Box.lt {w:World} {b:Nat} {ks:Nat->UInt8} {h:Option Nat} {a o r:Nat} (M:Box w b ks h a o r):b<w.heap.size:=by
 cases h with
 |none=>exact XB.lt M
 |some g=>exact XB.lt M.1
theorem Box.lt_g {w:World} {b g:Nat} {ks:Nat->UInt8} {a o r:Nat} (M:Box w b ks (some g) a o r):g<w.heap.size:=by
 obtain⟨_,_,m,hk⟩:=M;exact hk.lt
theorem Box.own_lt {w:World} {b:Nat} {ks:Nat->UInt8} {h:Option Nat} {a o r:Nat} (M:Box w b ks h a o r) (i:Nat) (hi:Ow b h i):i<w.heap.size:=by
 rcases hi with hi | hi
 ·subst hi;exact M.lt
 ·subst hi;exact M.lt_g
theorem TO {S:Nat->Prop} {w w':World} {g:Nat} {ks:Nat->UInt8} {m:Bool} (h:Sp.Key w g ks m) (M:Chg S w w') (hs:¬S g):Sp.Key w' g ks m:=by
 cases m with
 |false=>exact M.blk h hs
 |true=>exact M.blk h hs
theorem Box.chg {S:Nat->Prop} {w w':World} {b:Nat} {ks:Nat->UInt8} {h:Option Nat} {a o r:Nat} (O:Box w b ks h a o r) (M:Chg S w w') (hs:∀i,Ow b h i->¬S i):Box w' b ks h a o r:=by
 cases h with
 |none=>exact XB.chg O M (hs b (.inl rfl))
 |some g=>
  obtain⟨h1,h2,m,Z⟩:=O;exact⟨h1.chg M (hs b (.inl rfl)),h2,m,TO Z M (hs g (.inr rfl))⟩
theorem Box.below {w w':World} {b:Nat} {ks:Nat->UInt8} {h:Option Nat} {a o r:Nat} (O:Box w b ks h a o r) (M:Below w.heap.size w w'):Box w' b ks h a o r:=
 O.chg (S:=fun _=>False) (Chg.of_below M) (fun _ _ x=>x)
def Step (w w':World) (b:Nat) (h:Option Nat) (g:Nat):Prop:=Chg (Ow b h) w w'/\(h=some g\/(h=none/\w.heap.size<=g))
theorem Step.own {w w':World} {b g:Nat} {h:Option Nat} (hs:Step w w' b h g):∀i,i<w.heap.size->Ow b (some g) i->Ow b h i:=by
 intro i hi M;rcases M with M | M
 ·exact .inl M
 ·injection M with M
  subst M;rcases hs.2 with O | ⟨_,O⟩
  ·exact .inr O
  ·omega
theorem Step.trans {a w c:World} {b g O:Nat} {h:Option Nat} (Z:Step a w b h g) (h2:Step w c b (some g) O):O=g/\Step a c b h g:=by
 have e:O=g:=by
  rcases h2.2 with M | ⟨M,_⟩
  ·injection M with M;exact M.symm
  ·cases M
 exact⟨e,Z.1.trans h2.1 Z.own,Z.2⟩
theorem Step.then {a w c:World} {b g:Nat} {h:Option Nat} {S:Nat->Prop} (M:Step a w b h g) (O:Chg S w c) (hs:∀i,i<a.heap.size->S i->Ow b h i):Step a c b h g:=⟨M.1.trans O hs,M.2⟩
def AQ (ks:Nat->UInt8):Array Value:=((List.range 32).map (fun i=>bv (ks i))).toArray
theorem Al {P:Program} {ops:Array Oper} {rest:List Oper} {op:Oper} {a:Act} {w:World} {Q:Exit->Act->World->Prop} (M:op.guard=none) (ty:TypeId) (x:Operand) (O:op.op=.load ty x)
  (g o:Nat) (Z:a.eval x=.pointer (some ⟨g,o,none⟩)) (cs:Array Value) (d:TypeDesc) (hc:w.rangeAt g o cs.toList)
  (hu:P.underlying ty=some d) (hd:d.isRow=true) (hi:(P.info? ty).map (·.size)=some cs.size)
  (h:wpList P ops Q rest (a.put op.dst (.agg cs)) w):wpList P ops Q (op :: rest) a w:=
 wpList_load_mid M ty x O g o Z cs.toList d hc hu hd (by rw[Array.length_toList];exact hi) (by simpa using h)
theorem DK (ks:Nat->UInt8):(AQ ks).size=32:=by simp [AQ]
theorem Hg (ks:Nat->UInt8):(Tryz.prog.info? 24).map (·.size)=some (AQ ks).size:=by rw[DK];kernel_rfl
theorem dj (ks:Nat->UInt8):(AQ ks).all (·.oneCell')=true:=by simp [AQ,bv,Value.oneCell']
theorem Hy (ks:Nat->UInt8) (w:World):Calls Tryz.prog 28 #[.agg (AQ ks)] w fun e w'=>∃b,e=.returned (.pointer (some ⟨b,0,none⟩))/\w.heap.size<=b/\Box w' b ks none 0 0 0/\Below w.heap.size w w':=by
 have hi:=Hg ks;obtain⟨cs,M⟩:=Ak (AQ ks);rw[<-M] at hi⊢;have hz:cs.size=32:=by rw[M];exact DK ks
 have O:=I hi;clear hi;have Z:=I M;clear M;go_enter Tryz.func28,Tryz.ntmps28
 go_wp2_with (first
  |(refine Al (by rfl) 24 (.tmp 1) (by rfl) w.heap.size 0 (by rfl) cs _ (Si.Ad (Blk.new w 24 cs)) Tryz.underlying24 (by rfl) O.o ?_)
  |fail)
 go_ret;refine⟨w.heap.size+1,rfl,Nat.le_succ _,?_,((Below.refl w.heap.size w).alloc Ag _).alloc (by simp) _⟩;exact Sp.Blk.new_of (w.alloc _) _ 168 _ (BB ks 0 0 none Ln 0 0 0) (by rw[Z.o];kernel_rfl) (by simp)
theorem XB.range1 {w:World} {b:Nat} {ks dg:Nat->UInt8} {d s:Int} {p:Option Addr} {a o r:Nat} (h:XB w b ks d s p dg a o r):w.rangeAt b 0 (Sp.AR ks).toList:=fun j v M=>by
 rw[Sp.AR,List.toList_toArray,List.getElem?_map] at M;rcases Nat.lt_or_ge j 16 with g | g
 ·rw[Nat.zero_add,h.ck j (by omega)];simpa [g] using M
 ·rw[List.getElem?_eq_none (by simpa using g)] at M;cases M
theorem XB.range2 {w:World} {b:Nat} {ks dg:Nat->UInt8} {d s:Int} {p:Option Addr} {a o r:Nat} (h:XB w b ks d s p dg a o r):w.rangeAt b 16 (Sp.AR (k2 ks)).toList:=fun j v M=>by
 rw[Sp.AR,List.toList_toArray,List.getElem?_map] at M;rcases Nat.lt_or_ge j 16 with g | g
 ·rw[h.ck (16+j) (by omega)];simpa [g,k2] using M
 ·rw[List.getElem?_eq_none (by simpa using g)] at M;cases M
theorem XB.rangeD {w:World} {b:Nat} {ks dg:Nat->UInt8} {d s:Int} {p:Option Addr} {a o r:Nat} (h:XB w b ks d s p dg a o r):w.rangeAt b 36 (Sp.AR dg).toList:=fun j v M=>by
 rw[Sp.AR,List.toList_toArray,List.getElem?_map] at M;rcases Nat.lt_or_ge j 16 with g | g
 ·rw[h.cg j (by omega)];simpa [g] using M
 ·rw[List.getElem?_eq_none (by simpa using g)] at M;cases M
theorem XB.thereD {w:World} {b:Nat} {ks dg:Nat->UInt8} {d s:Int} {p:Option Addr} {a o r:Nat} (h:XB w b ks d s p dg a o r):w.there b 36 16:=fun j M=>⟨by rw[h.cg j M];rfl,h.fz _⟩
theorem Be (f:Nat->UInt8):(Sp.AR f).size=16:=by simp [Sp.AR]
theorem Jz (f:Nat->UInt8):(Tryz.prog.info? 166).map (·.size)=some (Sp.AR f).size:=by rw[Be];kernel_rfl
theorem TP (f:Nat->UInt8):(Sp.AR f).all (·.oneCell')=true:=by simp [Sp.AR,bv,Value.oneCell']
theorem Kq {a w:World} {b:Nat}:∀(M:List Value) (o:Nat) (w:World),a.grownBy w (some b)->a.grownBy (w.setCells b o M) (some b)
 | [],_,_,h=>h
 |v :: r,o,w,h=>Kq (w:=w) r (o+1) _ (AM h (.inl rfl) v)
theorem Key.far {w:World} {g:Nat} {ks:Nat->UInt8} {m:Bool} (h:Sp.Key w g ks m) (p:Addr) (u:Value) (hp:p.block≠g):Sp.Key (w.setCell p u) g ks m:=by
 cases m with
 |false=>exact Si.Blk.far h p u hp
 |true=>exact Si.Blk.far h p u hp
theorem Key.fars {g b:Nat} {ks:Nat->UInt8} {m:Bool} (M:b≠g):∀(O:List Value) (o:Nat) (w:World),Sp.Key w g ks m->Sp.Key (w.setCells b o O) g ks m
 | [],_,_,h=>h
 |v :: r,o,w,h=>Key.fars M r (o+1) _ (Key.far h _ v M)
theorem Ov (b:Nat) (ks:Nat->UInt8) (a o r:Nat) (d s:Int) (w:World) (hK:XB w b ks d s none Ln a o r) :
  Calls Tryz.prog 219 #[.pointer (some ⟨b,0,none⟩)] w fun e w'=>e=.returned (.tuple #[])/\∃g,XB w' b ks d s (some ⟨g,0,none⟩) (k2 ks) a o r/\w.heap.size<=g/\Sp.Key w' g ks false/\w.grownBy w' (some b):=by
 have bz:∀w:World,(Instr.arrayAt 166 (.slice (some ⟨b,0,none⟩) 16 32)).run Tryz.prog w=.ok (.pointer (some ⟨b,0,none⟩)) w:=fun _=>by kernel_rfl
 have bB:∀w:World,(Instr.arrayAt 166 (.slice (some ⟨b,16,none⟩) 16 16)).run Tryz.prog w=.ok (.pointer (some ⟨b,16,none⟩)) w:=fun _=>by kernel_rfl
 have cn:=fun w=>Sp.Hy ks w
 have r1:=hK.range1;have bn:∀w1:World,Below w.heap.size w w1->XB w1 b ks d s none Ln a o r:=fun w1 h=>Blk.below hK h
 have av:=hK.lt;have R2:Hid (∀(w1:World) p,XB w1 b ks d s p Ln a o r->w1.rangeAt b 16 (Sp.AR (k2 ks)).toList):=fun w1 p h=>XB.range2 h
 have i1:=Jz ks;have i2:=Jz (k2 ks);have o2:=TP (k2 ks);have z2:=Be (k2 ks);obtain⟨cs,Z⟩:=Ak (Sp.AR ks);obtain⟨ds,O⟩:=Ak (Sp.AR (k2 ks));rw[<-Z] at r1 i1 cn;rw[<-O] at R2 i2 o2 z2;have R1:=I r1;clear r1;have K0:=I bn;clear bn;have LT:=I av;clear av;have I1:=I i1;clear i1;have I2:=I i2;clear i2;have O2:=I o2;clear o2;have Z2:=I z2;clear z2;have ED:=I O;clear O;clear Z hK;go_enter Tryz.func219,Tryz.ntmps219
 go_upto_region 2 with(first
  |(refine Al (by rfl) 166 (.tmp 9) (by rfl) b 0 (by rfl) cs _ R1.o Tryz.underlying166 (by rfl) I1.o ?_)
  |(go_at_call 246;refine Calls.mono (cn _) ?_;rintro e w1 ⟨g,rfl,hg,aw,M⟩;have X1:=K0.o w1 M;have bs:=X1.cp;have fz:=X1.fz;have X2:=I (X1.set_p (some ⟨g,0,none⟩));have HG:=I hg;have bq:=I aw;have bx:=I M;clear hg aw M X1)
  |fail)
 clear bs fz;have hR:=R2.o _ _ X2.o;have hT:=XB.thereD X2.o;rw[<-Z2.o] at hT;have HR:=I hR;clear hR;have HT:=I hT;clear hT
 go_wp2_with (first
  |(refine Al (by rfl) 166 (.tmp 20) (by rfl) b 16 (by rfl) ds _ HR.o Tryz.underlying166 (by rfl) I2.o ?_)
  |(refine wpList_store_mid (by rfl) 166 (.tmp 23) (.tmp 21) (by rfl) b 36 ds (by rfl) (by rfl) HT.o I2.o O2.o ?_)
  |fail)
 go_end0
 have bb:b≠g:=by have:=HG.o;have:=LT.o;omega
 refine⟨rfl,g,?_,HG.o,Key.fars bb _ _ _ (Key.far bq.o _ _ bb),Kq (w:=w) _ _ _ (AM (Dj bx.o _) (.inl rfl) _)⟩;rw[ED.o];exact X2.o.set_dg (k2 ks)
theorem slow (b:Nat) (ks:Nat->UInt8) (a o r:Nat) (w:World) (hK:XB w b ks 0 0 none Ln a o r) :
  Calls Tryz.prog 245 #[.pointer (some ⟨b,32,none⟩),.func (.func 219) #[.pointer (some ⟨b,0,none⟩)] #[]] w fun e w'=>e=.returned (.tuple #[])/\∃g,XB w' b ks 1 0 (some ⟨g,0,none⟩) (k2 ks) a o r/\w.heap.size<=g/\Sp.Key w' g ks false/\w.grownBy w' (some b):=by
 have M:XB (w.setCell ⟨b,33,none⟩ (.int .i32 1)) b ks 0 1 none Ln a o r:=hK.set_s 1;have g1:w.grownBy (w.setCell ⟨b,33,none⟩ (.int .i32 1)) (some b):=AM (World.grownBy.refl _ _) (.inl rfl) _;have bn:(w.setCell ⟨b,33,none⟩ (.int .i32 1)).heap.size=w.heap.size:=by simp [World.setCell]
 have cl:=Sp.Js ⟨b,33,none⟩ w hK.cs (hK.fz 33);have cd:=Sp.Em ⟨b,32,none⟩ 0 _ M.cd false rfl;have cm:=Ov b ks a o r 0 1 _ M;rw[bn] at cm;have cc:∀(x:Bool) (w:World),(Op.unary .not (.bool x)).run Tryz.prog w=.ok (.bool (!x)) w:=fun _ _=>rfl
 have bb:=hK.lt;have H:=I hK;clear hK;have H1:=I M;clear M;have G1:=I g1;clear g1;have LT:=I bb;clear bb;clear bn
 go_enter_defers Tryz.func245,Tryz.ntmps245
 go_wp2_with (first | (go_at_call 93;refine Aj cl ?_;rintro w' rfl) | (go_at_call 244;refine Aj cd ?_;rintro w' rfl) | (go_at_call 219;refine Aj cm ?_;rintro w2 ⟨g,Z,cb,aw,bs⟩))
 refine leaves_cons (f:=261) (args:=#[.pointer (some ⟨b,32,none⟩),.bool true]) (by simp) (by simp [go_sem]) ?_;refine(Sp.Gk ⟨b,32,none⟩ _ .returning w2 Z.cd (Z.fz 32)).mono ?_;rintro e u' bB ⟨rfl,rfl,rfl⟩;have bq:b≠g:=by have:=LT.o;omega
 have av:=XB.set_d Z.drew 1;refine leaves_cons (f:=94) (args:=#[.pointer (some ⟨b,33,none⟩)]) (by simp [settle]) (by simp [go_sem]) ?_;refine(Sp.DT ⟨b,33,none⟩ _ _ av.cs (av.fz 33)).mono ?_;rintro e u' bB ⟨rfl,rfl,rfl⟩;have ca:=XB.set_s av 0;have O:=Key.far (Key.far (w:=w2.drew) (m:=false) aw ⟨b,32,none⟩ (.int .u32 1) bq) ⟨b,33,none⟩ (.int .i32 0) bq;have bz:=AM (row:=some b) (AM (row:=some b) (Bb (World.grownBy.refl w2 (some b))) (p:=⟨b,32,none⟩) (.inl rfl) (.int .u32 1)) (p:=⟨b,33,none⟩) (.inl rfl) (.int .i32 0);have bx:=Sp.Fc (Sp.Fc G1.o bs) bz;simp [Leaves,settle,results,Tryz.results245];exact⟨g,ca,cb,O,bx⟩
theorem Lh (b:Nat) (ks:Nat->UInt8) (a o r:Nat) (w:World) (M:XB w b ks 0 0 none Ln a o r) :
  Calls Tryz.prog 218 #[.pointer (some ⟨b,32,none⟩),.func (.func 219) #[.pointer (some ⟨b,0,none⟩)] #[]] w fun e w'=>e=.returned (.tuple #[])/\∃g,XB w' b ks 1 0 (some ⟨g,0,none⟩) (k2 ks) a o r/\w.heap.size<=g/\Sp.Key w' g ks false/\w.grownBy w' (some b):=by
 have cd:=Sp.Em ⟨b,32,none⟩ 0 w M.cd false rfl;have cs:=slow b ks a o r w M;have O:∀(x:Bool) (w:World),(Op.unary .not (.bool x)).run Tryz.prog w=.ok (.bool (!x)) w:=fun _ _=>rfl
 clear M;go_enter Tryz.func218,Tryz.ntmps218
 go_wp2_with (first | (go_at_call 244;refine Aj cd ?_;rintro w' rfl) | (go_at_call 245;refine Aj cs ?_;rintro w2 Z;have H2:=I Z;clear Z))
 go_end0
 exact⟨rfl,H2.o⟩
theorem Oi (b:Nat) (fv:Value) (w:World) (O:w.cell? ⟨b,32,none⟩=some (.int .u32 1)) :
  Calls Tryz.prog 218 #[.pointer (some ⟨b,32,none⟩),fv] w fun e w'=>e=.returned (.tuple #[])/\w'=w:=by
 have Z:=Sp.Em ⟨b,32,none⟩ 1 w O true rfl;have M:∀(x:Bool) (w:World),(Op.unary .not (.bool x)).run Tryz.prog w=.ok (.bool (!x)) w:=fun _ _=>rfl
 clear O;go_enter Tryz.func218,Tryz.ntmps218
 go_wp2_with (first | (go_at_call 244;refine Aj Z ?_;rintro w' rfl))
 go_end0
 exact⟨rfl,rfl⟩
theorem Ha (b:Nat) (ks:Nat->UInt8) (h:Option Nat) (a o r:Nat) (w:World) (M:Box w b ks h a o r) :
  Calls Tryz.prog 171 #[.pointer (some ⟨b,0,none⟩)] w fun e w'=>e=.returned (.tuple #[])/\∃g,Box w' b ks (some g) a o r/\Step w w' b h g:=by
 have av:∀(fn:Fn) (first cap:Array Value) (w:World),(Instr.makeFunc fn first cap).run Tryz.prog w=.ok (.func fn first cap) w:=fun _ _ _ _=>rfl
 cases h with
 |none=>
  have cf:=Lh b ks a o r w M;have O:=XB.lt M;have LT:=I O;clear O;clear M;go_enter Tryz.func171,Tryz.ntmps171
  go_wp2_with (first | (go_at_call 218;refine Aj cf ?_;rintro w' Z;have H2:=I Z;clear Z))
  go_end0
  obtain⟨g,h1,Z,h3,h4⟩:=H2.o;exact⟨rfl,g,⟨h1,by have:=LT.o;omega,false,h3⟩,Chg.of_grown h4 (.inl rfl),.inr ⟨rfl,Z⟩⟩
 |some g=>
  have cf:=fun fv=>Oi b fv w (XB.cd M.1)
  have H:=I M;clear M;go_enter Tryz.func171,Tryz.ntmps171
  go_wp2_with (first | (go_at_call 218;refine Aj (cf _) ?_;rintro w' rfl))
  go_end0
  exact⟨rfl,g,H.o,Chg.refl _ _,.inl rfl⟩
theorem add_one (p:Addr) (a:Nat) (w:World) (ha:a<1000000) (M:w.cell? p=some (.int .i64 (a:Int))) (Z:w.frozen? p=false) :
  Calls Tryz.prog 22 #[.pointer (some p),.int .i64 1] w fun e w'=>e=.returned (.int .i64 ((a+1:Nat):Int))/\w'=w.setCell p (.int .i64 ((a+1:Nat):Int)):=by
 have O:=run_call_add (P:=Tryz.prog) Tryz.func57 (by kernel_rfl) (by kernel_rfl) (by kernel_rfl) .i64 (by kernel_rfl) (y:=1) (s:=((a+1:Nat):Int)) M Z (by
  have h:IntKind.i64.wrap ((a:Int)+1)=((a+1:Nat):Int):=by rw[IntKind.wrap_i64];omega
  simp [go_sem,h])
 clear M Z ha;go_enter Tryz.func22,Tryz.ntmps22
 go_wp2
 go_ret;exact⟨rfl,rfl⟩
theorem Kr (p:Addr) (a:Nat) (w:World) (M:w.cell? p=some (.int .i64 (a:Int))) :
  Calls Tryz.prog 58 #[.pointer (some p)] w fun e w'=>e=.returned (.int .i64 (a:Int))/\w'=w:=by
 have O:=run_call_load (P:=Tryz.prog) Tryz.func96 (by kernel_rfl) (by kernel_rfl) (by kernel_rfl) .i64 (by kernel_rfl) M;clear M;go_enter Tryz.func58,Tryz.ntmps58
 go_wp2
 go_ret;exact⟨rfl,rfl⟩
theorem JA (u:Int) (x:Bool) (M:x=(decide (0<=u)&&decide (u<=255))) (w:World):Calls Tryz.prog 123 #[.int .i64 u] w fun e w'=>e=.returned (.bool x)/\w'=w:=by
 subst M
 by_cases h:0<=u
 ·go_enter Tryz.func123,Tryz.ntmps123
  go_wp2
  go_ret;exact⟨by simp [h],rfl⟩
 ·have O:decide (0<=u)=false:=by simpa using h
  go_enter Tryz.func123,Tryz.ntmps123
  go_wp2
  go_ret;exact⟨by simp,rfl⟩
theorem MM (n:Nat) (x:Bool) (M:x=decide (n<=1099511627776)) (w:World):Calls Tryz.prog 169 #[.int .u64 (n:Int)] w fun e w'=>e=.returned (.bool x)/\w'=w:=by
 subst M;have e:decide ((n:Int)<=1099511627776)=decide (n<=1099511627776):=by congr 1;exact propext ⟨by omega,by omega⟩
 have E:=I e;clear e;go_enter Tryz.func169,Tryz.ntmps169
 go_wp2
 go_ret;exact⟨by rw[<-E.o];rfl,rfl⟩
theorem ZY (x y:Nat) (O:y<256) (M:x<72057594037927936):bits .or .u64 ((x:Int)*256) (y:Int)=((x*256+y:Nat):Int):=by
 have e:(x:Int)*256=((x*256:Nat):Int):=by omega
 have h:x*256 ||| y=x*256+y:=by
  have h:=Nat.shiftLeft_add_eq_or_of_lt (show y<2 ^ 8 by omega) x;rw[Nat.shiftLeft_eq] at h
  simpa using h.symm
 rw[e,u64_or_nat _ _ (by omega) (by omega),h]
theorem DG (B:Nat) (A:Option Addr) (n c:Nat) (l:List UInt8) (w:World) (hn:n=l.length) (h8:8<=n) (hc:n<=c) (hr:Rd w B A (bvs l)) :
  Calls Tryz.prog 126 #[.slice A n c] w fun e w'=>e=.returned (.int .u64 (n8 l:Int))/\w'=w:=by
 obtain⟨b,o,rfl,hb,M⟩:∃b o,A=some ⟨b,o,none⟩/\b<B/\∀i (h:i<l.length),w.cell? ⟨b,o+i,none⟩=some (bv l[i]):=by
  rcases hr with h | ⟨b,o,h1,h2,h3⟩
  ·have:=AG l;rw[h] at this;simp at this;omega
  ·exact⟨b,o,h1,h2,fun i hi=>h3 i _ (Fw hi)⟩
 have bz:(8:Int)<=(c:Int):=by omega
 have bn:8<=c:=by omega
 have HC:=I M;clear M;have HN:=I hn;clear hn;have H8:=I h8;clear h8;clear hr hc hb;go_enter Tryz.func126,Tryz.ntmps126
 go_wp2_with fail
 go_loop [3,9] (fun av iv=>∃i:Nat,i<=8/\iv=.int .i64 (i:Int)/\av=.int .u64 (big 0 (l.take i):Nat)) (fun _ iv=>8 - (intOf iv).toNat)
 case atStart=>exact⟨0,by decide,rfl,rfl⟩
 case round=>
  obtain⟨i,hi,rfl,rfl⟩:=hrel
  by_cases hx:i=8
  ·subst hx
   go_wp2_with fail
   go_ret;exact⟨rfl,rfl⟩
  ·have e1:(i:Int)<8:=by omega
   have e2:(0:Int)<=(i:Int):=by omega
   have e3:i<8:=by omega
   have hl:i<l.length:=by have:=HN.o;have:=H8.o;omega
   obtain⟨y,ey⟩:=Ak (l[i]);have O:=HC.o i hl;rw[<-ey] at O;simp only[bv] at O;have hy:=y.toNat_lt;obtain⟨v,ev⟩:=Ak (big 0 (l.take i));obtain⟨u,eu⟩:=Ak (v*256+y.toNat);rw[<-ev];have hv:v<72057594037927936:=by
    have:=Ot l i;rw[<-ev] at this;exact Nat.lt_of_lt_of_le this (Nat.pow_le_pow_right (by decide) (by omega):256 ^ i<=256 ^ 7)
   have bb:(v:Int)*256 % 18446744073709551616=(v:Int)*256:=by omega
   have aw:(y.toNat:Int) % 18446744073709551616=(y.toNat:Int):=by omega
   have bs:IntKind.u64.wrap (y.toNat:Int)=(y.toNat:Int):=by rw[IntKind.wrap_u64];exact aw
   have bq:IntKind.u64.wrap ((v:Int)*256)=(v:Int)*256:=by rw[IntKind.wrap_u64];exact bb
   have bx:bits .or .u64 ((v:Int)*256) (y.toNat:Int)=(u:Int):=by rw[eu];exact ZY v y.toNat hy hv
   have Z:u=big 0 (l.take (i+1)):=by rw[WI l i hl,<-ey,<-ev,eu]
   have NX:=I Z;clear Z;have HI:=I hi;clear hi;have HX:=I hx;clear hx;have HV:=I hv;clear hv;clear eu ev ey
   go_wp2_with fail
   go_round
   case rel=>exact⟨i+1,by omega,by go_num,by rw[<-NX.o]⟩
   case measure=>simp [intOf];omega
theorem Fe {w w':World} {base:Nat} {t:TypeId} {v:Value} {n:Nat} {xs:List Value} {o:Obj} (h:w.ownsRow base t 1 v n xs) (e:w'.heap=w.heap.push o):w'.ownsRow base t 1 v n xs:=Si.Fe h e
def laid (xs:List UInt8) (N j:Nat):List Value:=bvs (xs++(w8 N).take j)
theorem TQ (xs:List UInt8) (N j:Nat) (h:j<8):laid xs N j++[bv (UInt8.ofNat (N / 2 ^ (56 - 8*j)))]=laid xs N (j+1):=by
 unfold laid;rw[ZV N j h,<-List.append_assoc,BC (xs++(w8 N).take j)];rfl
theorem dk (xs:List UInt8) (N:Nat):laid xs N 8=bvs (xs++w8 N):=by
 unfold laid;rw[List.take_of_length_le (by rw[Dz];exact Nat.le_refl _)]
def Aw (b:Nat) (h:Option Nat) (n i:Nat):Prop:=Ow b h i\/n<=i
section
variable {w w' a c:World} {b g n:Nat} {h:Option Nat} {A:Option Addr} {xs:List Value} {S:Nat->Prop}
theorem RdA.aw (O:RdA (Ow b h) w A xs) (Z:w.heap.size<=n):RdA (Aw b h n) w A xs:=O.mono fun i hi M=>by
 rcases M with M | M
 ·exact M
 ·omega
theorem Step.aw (hs:Step w w' b h g):Chg (Aw b h n) w w':=hs.1.mono fun i _ M=>.inl M
theorem Step.aw_g (hs:Step w w' b h g) (O:n<=w.heap.size):Aw b h n g:=by
 rcases hs.2 with M | ⟨_,M⟩
 ·exact .inl (.inr M)
 ·exact .inr (by omega)
theorem Chg.then (h:Chg S a w) (k:Chg S w c):Chg S a c:=h.trans k fun _ _ x=>x
theorem RdA.go (h:RdA S w A xs) (M:Chg S w w'):RdA S w' A xs:=h.keep M (fun _ _ x=>x) (fun _ _ x=>x)
theorem Chg.step (Z:Chg (Aw b h w.heap.size) w w') (O:h=some g\/(h=none/\w.heap.size<=g)):Step w w' b h g:=
 ⟨Z.mono fun i hi M=>by
  rcases M with M | M
  ·exact M
  ·omega,O⟩
end
def tl (ks:Nat->UInt8) (u n:Nat) (p:List UInt8) (i:Nat):List UInt8:=(mixL ks u n p).take i++(DA ks u n p.length).drop i
theorem tl_at (ks:Nat->UInt8) (u n:Nat) (p:List UInt8) (i:Nat) (h:i<p.length) (M:i<(DA ks u n p.length).length):(bvs (tl ks u n p i)).toArray[i]? = some (bv (DA ks u n p.length)[i]):=by
 rw[List.getElem?_toArray];unfold bvs tl;rw[List.getElem?_map,List.getElem?_append_right (by rw[List.length_take,BA];omega),List.length_take,BA,show i - min i p.length=0 by omega,List.getElem?_drop,Nat.add_zero,List.getElem?_eq_getElem M];rfl
theorem dm (ks:Nat->UInt8) (u n:Nat) (p:List UInt8) (i:Nat) (h:i<p.length) (M:i<(DA ks u n p.length).length):(bvs (tl ks u n p i)).toArray.setIfInBounds i (bv (p[i] ^^^ (DA ks u n p.length)[i]))=(bvs (tl ks u n p (i+1))).toArray:=by
 rw[List.setIfInBounds_toArray]
 congr 1
 unfold bvs;rw[<-List.map_set]
 congr 1
 have e:(mixL ks u n p).take (i+1)=(mixL ks u n p).take i++[p[i] ^^^ (DA ks u n p.length)[i]]:=by
  rw[List.take_add_one,TH ks u n p i h M];rfl
 have O:((mixL ks u n p).take i).length=i:=by rw[List.length_take,BA];omega
 unfold tl;rw[e,List.set_append_right _ _ (by omega),O,Nat.sub_self,List.append_assoc,List.drop_eq_getElem_cons M]
 rfl
theorem dn (ks:Nat->UInt8) (u n:Nat) (p:List UInt8):tl ks u n p p.length=mixL ks u n p:=by
 rw[tl,List.take_of_length_le (by rw[BA];exact Nat.le_refl _),List.drop_of_length_le (by rw[BO];exact Nat.le_refl _),List.append_nil]
theorem ZZ (ks:Nat->UInt8) (u n:Nat) (p:List UInt8):tl ks u n p 0=DA ks u n p.length:=by
 rw[tl,List.take_zero,List.drop_zero,List.nil_append]
theorem xor_b (x y:UInt8):bits .xor .u8 (y.toNat:Int) (x.toNat:Int)=((x ^^^ y).toNat:Int):=by
 rw[u8_xor_nat _ _ y.toNat_lt x.toNat_lt,UInt8.toNat_xor,Nat.xor_comm]
theorem dp (u n:Nat) (hu:u<=255):((n:Int)*256 % 18446744073709551616+(u:Int)) % 18446744073709551616=((sn u n:Nat):Int):=by unfold sn;omega
theorem TR (b:Nat) (ks:Nat->UInt8) (h:Option Nat) (a o r u n:Nat) (A:Option Addr) (c:Nat) (w:World) (hu:u<=255) (hn:n<18446744073709551616) (hK:Box w b ks h a o r) :
  Calls Tryz.prog 125 #[.pointer (some ⟨b,0,none⟩),.int .i64 (u:Int),.int .u64 (n:Int),.slice A 0 c] w fun e w'=>∃g,e=.returned (.slice none 0 0)/\Box w' b ks (some g) a o r/\Step w w' b h g:=by
 have cn:=Ha b ks h a o r w hK;have bn:(0:Int)<=(u:Int):=by omega
 clear hK;have HU:=I hu;clear hu;have HN:=I hn;clear hn;go_enter Tryz.func125,Tryz.ntmps125
 go_wp2_with (first
  |(go_at_call 171;refine Aj cn ?_;rintro w1 ⟨g,M,O⟩;clear cn;have bb:=M.1.cp;have Z:=(fun N=>Sp.QN (some ⟨g,0,none⟩) N 0 w1 (.inr (by decide)));have av:=I M;have aw:=I O;clear M O)
  |(go_at_call 172;refine Aj (Z _) ?_;rintro w2 hw;have hw:=hw.symm;subst hw;clear Z bb))
 go_loopw [27] (fun iv wr=>iv=.int .i64 0/\wr=w1) (fun iv _=>0)
 case atStart=>exact⟨rfl,rfl⟩
 case round=>
  obtain⟨rfl,rfl⟩:=hrel
  go_wp2_with fail
  go_ret;exact⟨g,rfl,av.o,aw.o⟩
theorem TS (u n:Nat) (hu:u<=255):IntKind.u64.wrap (IntKind.u64.wrap ((n:Int)*256)+IntKind.u64.wrap (u:Int))=((sn u n:Nat):Int):=by
 rw[IntKind.wrap_u64,IntKind.wrap_u64,IntKind.wrap_u64];unfold sn;omega
theorem dq (u n:Nat):sn u n<18446744073709551616:=Nat.mod_lt _ (by decide)
theorem TT (b:Nat) (ks:Nat->UInt8) (h:Option Nat) (a o r u n:Nat) (A:Option Addr) (m c:Nat) (p:List UInt8) (w:World) (hu:u<=255) (hn:n<18446744073709551616) (hm:m=p.length) (cy:1<=m) (cj:m<=1000) (hr:RdA (Ow b h) w A (bvs p)) (hK:Box w b ks h a o r) :
  Calls Tryz.prog 125 #[.pointer (some ⟨b,0,none⟩),.int .i64 (u:Int),.int .u64 (n:Int),.slice A m c] w fun e w'=>∃g q,e=.returned (.slice (some ⟨q,0,none⟩) m m)/\w.heap.size<=q/\q≠g/\Blk w' q 5 (bvs (mixL ks u n p)).toArray/\Box w' b ks (some g) a o r/\Step w w' b h g:=by
 have cn:=Ha b ks h a o r w hK;obtain⟨N,eN⟩:=Ak (sn u n);have bz:=TS u n hu;have Z:=dq u n;rw[<-eN] at bz Z;have bs:Sp.strm (Sp.kw ks) (Sp.upW N) (Sp.loW N) m=DA ks u n m:=by rw[eN];rfl
 have bq:=hK.lt;clear hK;have HR:=I (hr.aw Ag);clear hr;have HU:=I hu;clear hu;have HN:=I hn;clear hn;have HM:=I hm;clear hm;have cA:=I cy;clear cy;have cf:=I cj;clear cj;have cB:=I Z;clear Z;have cT:=I bs;clear bs;have cQ:=I bz;clear bz;have BL:=I bq;clear bq;clear eN;go_enter Tryz.func125,Tryz.ntmps125
 go_wp2_with (first
  |(go_at_call 171;refine Aj cn ?_;rintro w1 ⟨g,cu,ck⟩;clear cn;have cM:=cu.1.cp;obtain⟨cb,ct,md,bx⟩:=cu;have ca:=Sp.QO g ks md N m (m:Int) w1 rfl cA.o (by have:=cf.o;omega) cB.o bx;rw[cT.o] at ca;have X1:=I cb;have NE:=I ct;have GL:=I bx.lt;have aw:=I ck;clear ck cb ct bx)
  |(go_at_call 172;rw[cQ.o];refine Calls.mono ca ?_;rintro e w2 ⟨q,rfl,hq,hB,cw,cr,_⟩;clear ca cM;have HQ:=I hq;have HB:=I hB;have cP:=I cw;have cq:=I cr;clear hq hB cw cr))
 have cd:(DA ks u n m).length=m:=BO ks u n m
 go_loopw [27] (fun iv wr=>∃i:Nat,i<=m/\iv=.int .i64 (i:Int)/\Chg (fun k=>w1.heap.size<=k) w2 wr/\Blk wr q 5 (bvs (tl ks u n p i)).toArray) (fun iv _=>m - (intOf iv).toNat)
 case atStart=>exact⟨0,Nat.zero_le _,rfl,Chg.refl _ _,by rw[ZZ,<-HM.o];exact HB.o⟩
 case round=>
  obtain⟨i,hi,rfl,hc,cp⟩:=hrel;have HC:=I hc;clear hc;have bb:=I cp;clear cp;have ea:=I cd;clear cd;have M:Chg (Aw b h w.heap.size) w w1/\Chg (Aw b h w.heap.size) w1 w2/\Chg (Aw b h w.heap.size) w2 wr:=
   ⟨aw.o.aw,Chg.of_grown cq.o (aw.o.aw_g Ag),HC.o.mono fun k _ hx=>.inr (Nat.le_trans aw.o.1.size hx)⟩
  by_cases hx:i=m
  ·subst hx
   have HA:=I M;clear M
   go_wp2_with fail
   go_ret;have eb:b<w1.heap.size:=X1.o.lt;have cL:XB w2 b ks 1 0 (some ⟨g,0,none⟩) (k2 ks) a o r:=Blk.grown X1.o cq.o (fun e=>by injection e with e;exact NE.o e);have cX:q≠g:=by have:=GL.o;have:=HQ.o;omega
   refine⟨g,q,rfl,Nat.le_trans aw.o.1.size HQ.o,cX,?_,⟨cL.chg HC.o (by omega),NE.o,true,TO cP.o HC.o (by have:=GL.o;omega)⟩,?_⟩
   ·rw[<-dn,<-HM.o];exact bb.o
   ·exact((HA.o.1.then HA.o.2.1).then HA.o.2.2).step aw.o.2
  ·have cY:i<m:=by omega
   have bn:i<p.length:=by have:=HM.o;omega
   have e1:(i:Int)<(m:Int):=by omega
   have e2:(0:Int)<=(i:Int):=by omega
   have e3:(i:Int)<1000:=by have:=cf.o;omega
   have bB:i<(DA ks u n p.length).length:=by rw[BO];exact bn
   obtain⟨y,ey⟩:=Ak (p[i]);obtain⟨x,ex⟩:=Ak ((DA ks u n p.length)[i]);obtain⟨z,ez⟩:=Ak (y ^^^ x);have cm:=((HR.o.go M.1).go M.2.1).go M.2.2;obtain⟨b2,o2,rfl,cR,_,av⟩:=cm.resolve_left (by intro e;have:=AG p;rw[e] at this;simp at this;omega);have cg:=av i _ (Fw bn);have cc:wr.cell? ⟨q,i,none⟩=some (bv (DA ks u n p.length)[i]):=by rw[bb.o.cell];exact tl_at ks u n p i bn bB
   have O:=dm ks u n p i bn bB;rw[<-ey] at cg O;rw[<-ex] at cc O;rw[<-ez] at O;simp only[bv] at cg cc;have cZ:bits .xor .u8 (x.toNat:Int) (y.toNat:Int)=(z.toNat:Int):=by rw[ez];exact xor_b y x
   have fz:=bb.o.frozen;have cx:=I O;clear O;have HX:=I hx;clear hx;have HI:=I hi;clear hi;clear ey ex ez M cm av cR bB
   go_wp2_with fail
   refine wp_region_still_tail 10 (by kernel_rfl) (by kernel_rfl) ?_;simp only[List.take_succ_cons,List.take_zero,List.drop_succ_cons,List.drop_zero];change wpStill _ _ wr.drew _ _ _
   repeat still_step
   refine wpStill_nil ?_;change wpList _ _ _ _ _ wr.drew
   go_wp2_with fail
   go_roundw
   case rel=>
    refine⟨i+1,by omega,by go_num,HC.o.drew.set (.inl HQ.o) _,?_⟩;have e:Blk wr.drew q 5 (bvs (tl ks u n p i)).toArray:=bb.o;have:=e.set i (bv z);rw[cx.o] at this;exact this
   case measure=>simp [intOf];omega
def Nw (n g i:Nat):Prop:=i<n\/i=g
theorem Li (b:Nat) (ks:Nat->UInt8) (h:Option Nat) (a o r u n:Nat) (A:Option Addr) (m c:Nat) (p:List UInt8) (w:World) (hu:u<=255) (hn:n<18446744073709551616) (hm:m=p.length) (M:m<=1000) (hr:RdA (Ow b h) w A (bvs p)) (hK:Box w b ks h a o r) :
  Calls Tryz.prog 125 #[.pointer (some ⟨b,0,none⟩),.int .i64 (u:Int),.int .u64 (n:Int),.slice A m c] w fun e w'=>∃g Aq cq,e=.returned (.slice Aq m cq)/\m<=cq/\cq<=1000/\RdA (Nw w.heap.size g) w' Aq (bvs (mixL ks u n p))/\Box w' b ks (some g) a o r/\Step w w' b h g:=by
 rcases Nat.eq_zero_or_pos m with Z | Z
 ·subst Z
  have hp:mixL ks u n p = []:=List.eq_nil_of_length_eq_zero (by rw[BA];omega);refine(TR b ks h a o r u n A c w hu hn hK).mono ?_;rintro e w' ⟨g,rfl,h1,O⟩;exact⟨g,none,0,rfl,Nat.le_refl _,by decide,by rw[hp];exact .inl rfl,h1,O⟩
 ·refine(TT b ks h a o r u n A m c p w hu hn hm Z M hr hK).mono ?_
  rintro e w' ⟨g,q,rfl,h1,O,h3,h4,h5⟩;refine⟨g,_,m,rfl,Nat.le_refl _,M,.inr ⟨q,0,rfl,h3.lt,?_,fun i v hv=>?_⟩,h4,h5⟩
  ·rintro(hx | hx)
   ·omega
   ·exact O hx
  ·rw[Nat.zero_add,h3.cell,List.getElem?_toArray];exact hv
theorem Yw (u:Nat) (hu:u<=255):bv (UInt8.ofNat u)=.int .u8 (u:Int):=by
 unfold bv;rw[UInt8.toNat_ofNat',Nat.mod_eq_of_lt (by omega)]
theorem WJ {w:World} (u:Nat) (hu:u<=255) (A:Option Addr) (m c:Nat) (l:List UInt8) (t M:TypeId) (hm:m=l.length) (O:Rd w w.heap.size A (bvs l)) :
  Si.Rows ((w.alloc (.cells #[.int .u8 (u:Int)] t)).alloc (.cells #[.slice (some ⟨w.heap.size,0,none⟩) 1 1,.slice A m c] M)) ((w.alloc (.cells #[.int .u8 (u:Int)] t)).alloc (.cells #[.slice (some ⟨w.heap.size,0,none⟩) 1 1,.slice A m c] M)).heap.size (some ⟨w.heap.size+1,0,none⟩) [[UInt8.ofNat u],l]:=by
 have h:=Si.QU (w:=w.alloc (.cells #[.int .u8 (u:Int)] t)) M [.slice (some ⟨w.heap.size,0,none⟩) 1 1,.slice A m c] [[UInt8.ofNat u],l] #[.slice (some ⟨w.heap.size,0,none⟩) 1 1,.slice A m c] rfl rfl (fun i hi=>by
  match i,hi with
  |0,_=>
   refine⟨some ⟨w.heap.size,0,none⟩,1,rfl,?_⟩;have:=Si.Hc w t #[.int .u8 (u:Int)] [.int .u8 (u:Int)] rfl w.heap.size rfl;rw[show bvs [[UInt8.ofNat u],l][0] = [.int .u8 (u:Int)] from by show [bv (UInt8.ofNat u)]=_;rw[Yw u hu]];exact this.more (by simp)
  |1,_=>exact⟨A,c,by rw[hm];rfl,(O.alloc Ag _).more (by simp)⟩)
 have e:(w.alloc (.cells #[.int .u8 (u:Int)] t)).heap.size=w.heap.size+1:=by simp
 rw[e] at h;exact h
theorem aa (b:Nat) (ks:Nat->UInt8) (h:Option Nat) (a o r u:Nat) (A:Option Addr) (m c:Nat) (l:List UInt8) (w:World) (hu:u<=255) (hm:m=l.length) (cc:m<=1000) (hr:RdA (Ow b h) w A (bvs l)) (hK:Box w b ks h a o r) :
  Calls Tryz.prog 170 #[.pointer (some ⟨b,0,none⟩),.int .i64 (u:Int),.slice A m c] w fun e w'=>∃g,e=.returned (.int .u64 (tagL ks u l:Nat))/\Box w' b ks (some g) a o r/\Step w w' b h g:=by
 have cn:=Ha b ks h a o r w hK;have M:∀w1,Rd w1 w1.heap.size A (bvs l)->_:=fun w1 h1=>Si.ZU (k2 ks) (some ⟨w1.heap.size+1,0,none⟩) 2 2 [[UInt8.ofNat u],l] _ rfl (by decide) (by simp [Si.flat];omega) (WJ u hu A m c l 5 22 hm h1)
 have bn:Si.flat [[UInt8.ofNat u],l]=UInt8.ofNat u :: l:=by simp [Si.flat]
 rw[bn] at M;have i2:=Jz (k2 ks);have O:Si.AR (k2 ks)=Sp.AR (k2 ks):=rfl;rw[O] at M;obtain⟨T,eT⟩:=Ak (tagL ks u l);have hT:∀e,e=Ending.returned (Si.wv (Si.Ia (k2 ks) (UInt8.ofNat u :: l)))->e=.returned (.int .u64 (T:Int)):=fun e h=>by rw[h,eT];rfl
 rw[<-eT];have HR:=I (hr.aw Ag);clear hr;have cf:(u:Int)<=255:=by omega
 have cj:(0:Int)<=(u:Int):=by omega
 have bz:(u:Int) % 256=(u:Int):=by omega
 have cg:IntKind.u8.wrap (u:Int)=(u:Int):=by rw[IntKind.wrap_u8'];exact bz
 obtain⟨ds,av⟩:=Ak (Sp.AR (k2 ks));have bb:∀w1 g,Box w1 b ks (some g) a o r->w1.rangeAt b 36 ds.toList:=fun w1 g hb=>by rw[av];exact XB.rangeD hb.1
 rw[<-av] at i2 M;have RD:=I bb;clear bb;have I2:=I i2;clear i2;have HT:=I hT;clear hT;clear hK hm cc hu av eT bn O;go_enter Tryz.func170,Tryz.ntmps170
 go_wp2_with (first
  |(go_at_call 171;refine Aj cn ?_;rintro w1 ⟨g,Z,aw⟩;clear cn;have hs:=M w1 (HR.o.go aw.aw).rd;clear M;have bs:=RD.o w1 g Z;have ca:=I bs;have cd:=I Z;have cb:=I aw;clear Z aw bs)
  |(refine Al (by rfl) 166 (.tmp 11) (by rfl) b 36 (by rfl) ds _ ca.o Tryz.underlying166 (by rfl) I2.o ?_)
  |(go_at_call 217;refine Calls.mono hs ?_;rintro e w2 ⟨he,bq⟩;have he:=HT.o e he;subst he;have bB:=I bq;clear bq hs)
  |fail)
 go_ret;have hb:=((Below.refl w1.heap.size w1).alloc Ag (Obj.cells #[.int .u8 (u:Int)] 5)).alloc (by simp) (Obj.cells #[.slice (some ⟨w1.heap.size,0,none⟩) 1 1,.slice A m c] 22);have bx:=hb.trans (bB.o.mono (by simp;omega));exact⟨g,rfl,cd.o.below bx,cb.o.then (Chg.of_below (S:=fun _=>False) bx) (fun _ _ x=>x.elim)⟩
theorem JB {S:Nat->Prop} {w:World} {base n:Nat} {v:Value} {xs:List Value} {t:TypeId} (h:w.ownsRow base t 1 v n xs) (hs:∀k,v.ownBlock=some k->¬S k):∃A c,v=.slice A n c/\n<=c/\c<=maxLen/\RdA S w A xs:=by
 have h0:=h;obtain⟨Z,⟨rfl,hn⟩ | ⟨g,cap,cur,rfl,_,hh,M,O,_⟩⟩:=h
 ·subst hn
  exact⟨none,0,rfl,Nat.le_refl _,Nat.zero_le _,.inl (List.eq_nil_of_length_eq_zero (by simpa using Z))⟩
 ·refine⟨_,cap,rfl,M,O,.inr ⟨g,0,rfl,(Array.getElem?_eq_some_iff.1 hh).1,hs g rfl,fun i u hu=>?_⟩⟩
  have:=h0.cells (g:=g) rfl i u hu
  rwa [addr_add] at this
theorem Box.opens {w:World} {b:Nat} {ks:Nat->UInt8} {g a o r:Nat} (h:Box w b ks (some g) a o r) (M:Nat):Box (w.setCell ⟨b,53,none⟩ (.int .i64 (M:Int))) b ks (some g) a M r:=by
 obtain⟨h1,O,m,Z⟩:=h;exact⟨h1.set_o M,O,m,Key.far Z _ _ (fun e=>O e.symm)⟩
theorem Box.refuses {w:World} {b:Nat} {ks:Nat->UInt8} {h:Option Nat} {a o r:Nat} (O:Box w b ks h a o r) (M:Nat):Box (w.setCell ⟨b,54,none⟩ (.int .i64 (M:Int))) b ks h a o M:=by
 cases h with
 |none=>exact XB.set_r O M
 |some g=>
  obtain⟨h1,Z,m,h3⟩:=O;exact⟨h1.set_r M,Z,m,Key.far h3 _ _ (fun e=>Z e.symm)⟩
def dr (B:Nat) (v:Value):Prop:=∀k,v.ownBlock=some k->B<=k
theorem Lo {w:World} {B n:Nat} {v:Value} {xs:List Value} {t:TypeId} (h:w.ownsRow B t 1 v n xs):dr B v:=fun k hk=>(h.lt k hk).1
end Se
end Go.Proofs.YtiecjolmennkfaaGreat
