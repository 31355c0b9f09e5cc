import Derived.Deep.MidRow
import Derived.StillTailTactics
import Derived.Test.YtfcjeebnkigeaaaGreatZKdcNonces1
import Derived.Test.YtfcjeebnkigeaaaGreatZKdcNonces2
import Derived.Test.YtfcjeebnkigeaaaGreatZKdcNonces3
import Derived.Test.YtfcjeebnkigeaaaGreatZKdcNonces4
import Derived.Test.YtfcjeebnkigeaaaGreatZKdcNonces5
section
set_option linter.unusedVariables false
namespace Go.Proofs.YtfcjeebnkigeaaaGreat.Se
open Go.RowKit Go.Proofs.YtfcjeebnkigeaaaGreat.Mem
structure Chg (S:Nat→Prop) (w w':World):Prop where
 os:w'.os=w.os
 tape:w'.tape=w.tape
 output:w'.output=w.output
 size:w.heap.size≤w'.heap.size
 block:∀k,k<w.heap.size→¬S k→w'.heap[k]? = w.heap[k]?
section
variable {S T S':Nat→Prop} {a w w' c:World} {A:Option Addr} {xs:List Value} {g b:Nat} {t:TypeId} {cs:Array Value}
theorem Chg.refl (S:Nat→Prop) (w:World):Chg S w w:=⟨rfl,rfl,rfl,Nat.le_refl _,fun _ _ _=>rfl⟩
theorem Chg.trans (h:Chg S a w) (k:Chg T w c) (hs:∀i,i<a.heap.size→T i→S i):Chg S a c:=
 ⟨k.os.trans h.os,k.tape.trans h.tape,k.output.trans h.output,Nat.le_trans h.size k.size,fun i hi hn=>(k.block i (Nat.lt_of_lt_of_le hi h.size) (fun ht=>hn (hs i hi ht))).trans (h.block i hi hn)⟩
theorem Chg.mono (h:Chg S a w) (hs:∀i,i<a.heap.size→S i→T i):Chg T a w:=⟨h.os,h.tape,h.output,h.size,fun i hi hn=>h.block i hi (fun x=>hn (hs i hi x))⟩
theorem Chg.of_below (h:Below w.heap.size w w'):Chg S w w':=⟨h.os,h.tape,h.output,h.size,fun i hi _=>h.block i hi⟩
theorem Chg.of_grown (h:w.grownBy w' (some g)) (hs:S g):Chg S w w':=⟨h.os,h.tape,h.output,h.size,fun i hi hn=>h.block i hi (fun e=>by injection e with e;subst e;exact hn hs)⟩
theorem Chg.below (h:Chg S a w) {B:Nat} (hB:B≤a.heap.size) (hs:∀i,i<a.heap.size→S i→B≤i):Below B a w:=
 ⟨h.os,h.tape,h.output,h.size,fun i hi=>h.block i (by omega) (fun x=>by have:=hs i (by omega) x;omega)⟩
theorem Chg.blk (h:Chg S w w') (hb:Blk w g t cs) (hs:¬S g):Blk w' g t cs:=(h.block g hb.lt hs).trans hb
theorem Chg.own (h:Chg S w w') {base n:Nat} {v:Value} (ho:w.ownsRow base t 1 v n xs) (hs:∀k,v.ownBlock=some k→¬S k):w'.ownsRow base t 1 v n xs:=by
 refine⟨ho.1,?_⟩
 rcases ho.2 with hn | ⟨g,cap,cur,rfl,hb,hgg,rest⟩
 ·exact .inl hn
 ·exact .inr ⟨g,cap,cur,rfl,hb,(h.block g (Array.getElem?_eq_some_iff.1 hgg).1 (hs g rfl)).trans hgg,rest⟩
theorem Chg.set (h:Chg S a w) {p:Addr} (hp:S p.block∨a.heap.size≤p.block) (u:Value):Chg S a (w.setCell p u):=
 ⟨h.os,h.tape,h.output,by simpa [World.setCell] using h.size,fun i hi hn=>(Below.heap_setCell w p u i (by
  rintro rfl
  rcases hp with hp | hp
  ·exact hn hp
  ·omega)).trans (h.block i hi hn)⟩
theorem Chg.alloc (h:Chg S a w) (o:Obj):Chg S a (w.alloc o):=
 ⟨h.os,h.tape,h.output,Nat.le_trans h.size (by simp),fun i hi hn=>(Below.heap_alloc w o i (Nat.lt_of_lt_of_le hi h.size)).trans (h.block i hi hn)⟩
theorem Chg.drew (h:Chg S a w):Chg S a w.drew:=⟨h.os,h.tape,h.output,h.size,h.block⟩
def RdA (S:Nat→Prop) (w:World) (A:Option Addr) (xs:List Value):Prop:=
 xs = []∨∃b o,A=some ⟨b,o,none⟩∧b<w.heap.size∧¬S b∧∀i u,xs[i]? = some u→w.cell? ⟨b,o+i,none⟩=some u
theorem RdA.rd (h:RdA S w A xs):Rd w w.heap.size A xs:=by
 rcases h with h | ⟨b,o,h1,h2,_,h3⟩
 ·exact .inl h
 ·exact .inr ⟨b,o,h1,h2,h3⟩
theorem RdA.keep (h:RdA S w A xs) (hc:Chg T w w') (ht:∀i,i<w.heap.size→T i→S i) (hs:∀i,i<w.heap.size→S' i→S i):RdA S' w' A xs:=by
 rcases h with h | ⟨b,o,h1,h2,h4,h3⟩
 ·exact .inl h
 ·exact .inr ⟨b,o,h1,Nat.lt_of_lt_of_le h2 hc.size,fun x=>h4 (hs b h2 x),fun i u hu=>(World.cell?_of_block (a:=⟨b,o+i,none⟩) (hc.block b h2 (fun x=>h4 (ht b h2 x)))).trans (h3 i u hu)⟩
theorem RdA.mono (h:RdA S w A xs) (hs:∀i,i<w.heap.size→S' i→S i):RdA S' w A xs:=h.keep (Chg.refl (fun _=>False) w) (fun _ _ x=>x.elim) hs
end
def xcells (ks:Nat→UInt8) (d s:Int) (p:Option Addr) (dg:Nat→UInt8) (a o r:Nat):Array Value:=
 ((List.range 32).map (fun i=>bv (ks i))++(([.int .u32 d,.int .i32 s,.int .u32 0,.pointer p]:List Value)++((List.range 16).map (fun j=>bv (dg j))++([.int .i64 (a:Int),.int .i64 (o:Int),.int .i64 (r:Int)]:List Value)))).toArray
def XB (w:World) (b:Nat) (ks:Nat→UInt8) (d s:Int) (p:Option Addr) (dg:Nat→UInt8) (a o r:Nat):Prop:=Blk w b 235 (xcells ks d s p dg a o r)
section
variable {w w':World} {b:Nat} {ks dg:Nat→UInt8} {d s:Int} {p:Option Addr} {a o r:Nat}
theorem xcells_key (i:Nat) (h:i<32):(xcells ks d s p dg a o r)[i]? = some (bv (ks i)):=by
 rw[xcells,List.getElem?_toArray,List.getElem?_append_left (by simpa using h)]
 simp [h]
theorem xcells_mid (i:Nat) (h:i<4):(xcells ks d s p dg a o r)[32+i]? = ([.int .u32 d,.int .i32 s,.int .u32 0,.pointer p]:List Value)[i]?:=by
 rw[xcells,List.getElem?_toArray,List.getElem?_append_right (by simp),List.getElem?_append_left (by simpa using h)]
 simp
theorem xcells_dg (i:Nat) (h:i<16):(xcells ks d s p dg a o r)[36+i]? = some (bv (dg i)):=by
 rw[xcells,List.getElem?_toArray,List.getElem?_append_right (by simp;omega),List.getElem?_append_right (by simp;omega),List.getElem?_append_left (by simp;omega)]
 have e:36+i - (List.map (fun i=>bv (ks i)) (List.range 32)).length - ([.int .u32 d,.int .i32 s,.int .u32 0,.pointer p]:List Value).length=i:=by simp;omega
 rw[e]
 simp [h]
theorem xcells_ct (i:Nat) (h:i<3):(xcells ks d s p dg a o r)[52+i]? = ([.int .i64 (a:Int),.int .i64 (o:Int),.int .i64 (r:Int)]:List Value)[i]?:=by
 rw[xcells,List.getElem?_toArray,List.getElem?_append_right (by simp;omega),List.getElem?_append_right (by simp;omega),List.getElem?_append_right (by simp;omega)]
 have e:52+i - (List.map (fun i=>bv (ks i)) (List.range 32)).length - ([.int .u32 d,.int .i32 s,.int .u32 0,.pointer p]:List Value).length - (List.map (fun j=>bv (dg j)) (List.range 16)).length=i:=by simp;omega
 rw[e]
theorem XB.cell (h:XB w b ks d s p dg a o r) (i:Nat):w.cell? ⟨b,i,none⟩=(xcells ks d s p dg a o r)[i]?:=Blk.cell h i
theorem XB.ck (h:XB w b ks d s p dg a o r) (i:Nat) (hi:i<32):w.cell? ⟨b,i,none⟩=some (bv (ks i)):=(h.cell i).trans (xcells_key i hi)
theorem XB.cd (h:XB w b ks d s p dg a o r):w.cell? ⟨b,32,none⟩=some (.int .u32 d):=(h.cell 32).trans (xcells_mid 0 (by decide))
theorem XB.cs (h:XB w b ks d s p dg a o r):w.cell? ⟨b,33,none⟩=some (.int .i32 s):=(h.cell 33).trans (xcells_mid 1 (by decide))
theorem XB.cp (h:XB w b ks d s p dg a o r):w.cell? ⟨b,35,none⟩=some (.pointer p):=(h.cell 35).trans (xcells_mid 3 (by decide))
theorem XB.cg (h:XB w b ks d s p dg a o r) (i:Nat) (hi:i<16):w.cell? ⟨b,36+i,none⟩=some (bv (dg i)):=(h.cell _).trans (xcells_dg i hi)
theorem XB.ca (h:XB w b ks d s p dg a o r):w.cell? ⟨b,52,none⟩=some (.int .i64 (a:Int)):=(h.cell 52).trans (xcells_ct 0 (by decide))
theorem XB.fz (h:XB w b ks d s p dg a o r) (i:Nat):w.frozen? ⟨b,i,none⟩=false:=Blk.frozen h i
theorem XB.lt (h:XB w b ks d s p dg a o r):b<w.heap.size:=Blk.lt h
theorem xset_d (d':Int):(xcells ks d s p dg a o r).setIfInBounds 32 (.int .u32 d')=xcells ks d' s p dg a o r:=by simp [xcells]
theorem xset_s (s':Int):(xcells ks d s p dg a o r).setIfInBounds 33 (.int .i32 s')=xcells ks d s' p dg a o r:=by simp [xcells]
theorem xset_p (p':Option Addr):(xcells ks d s p dg a o r).setIfInBounds 35 (.pointer p')=xcells ks d s p' dg a o r:=by simp [xcells]
theorem xset_a (a':Nat):(xcells ks d s p dg a o r).setIfInBounds 52 (.int .i64 (a':Int))=xcells ks d s p dg a' o r:=by simp [xcells]
theorem XB.set_d (h:XB w b ks d s p dg a o r) (d':Int):XB (w.setCell ⟨b,32,none⟩ (.int .u32 d')) b ks d' s p dg a o r:=by
 have:=Blk.set h 32 (.int .u32 d');rwa [xset_d] at this
theorem XB.set_s (h:XB w b ks d s p dg a o r) (s':Int):XB (w.setCell ⟨b,33,none⟩ (.int .i32 s')) b ks d s' p dg a o r:=by
 have:=Blk.set h 33 (.int .i32 s');rwa [xset_s] at this
theorem XB.set_p (h:XB w b ks d s p dg a o r) (p':Option Addr):XB (w.setCell ⟨b,35,none⟩ (.pointer p')) b ks d s p' dg a o r:=by
 have:=Blk.set h 35 (.pointer p');rwa [xset_p] at this
theorem XB.set_a (h:XB w b ks d s p dg a o r) (a':Nat):XB (w.setCell ⟨b,52,none⟩ (.int .i64 (a':Int))) b ks d s p dg a' o r:=by
 have:=Blk.set h 52 (.int .i64 (a':Int));rwa [xset_a] at this
theorem XB.drew (h:XB w b ks d s p dg a o r):XB w.drew b ks d s p dg a o r:=h
theorem XB.chg {S:Nat→Prop} (h:XB w b ks d s p dg a o r) (hc:Chg S w w') (hs:¬S b):XB w' b ks d s p dg a o r:=hc.blk h hs
end
def setAll (cs:Array Value):Nat→List Value→Array Value
 |_,[]=>cs
 |o,v :: l=>setAll (cs.setIfInBounds o v) (o+1) l
theorem Blk.setCells {g:Nat} {t:TypeId}:∀(vs:List Value) (o:Nat) (w:World) (cs:Array Value),Blk w g t cs→Blk (w.setCells g o vs) g t (setAll cs o vs)
 | [],_,_,_,h=>h
 |v :: l,o,w,cs,h=>Blk.setCells l (o+1) _ _ (h.set o v)
theorem xset_dg (ks:Nat→UInt8) (d s:Int) (p:Option Addr) (dg dg':Nat→UInt8) (a o r:Nat):setAll (xcells ks d s p dg a o r) 36 (Si.key16 dg').toList=xcells ks d s p dg' a o r:=by kernel_rfl
theorem XB.set_dg {w:World} {b:Nat} {ks dg:Nat→UInt8} {d s:Int} {p:Option Addr} {a o r:Nat} (h:XB w b ks d s p dg a o r) (dg':Nat→UInt8):XB (w.setCells b 36 (Si.key16 dg').toList) b ks d s p dg' a o r:=by
 have:=Blk.setCells (Si.key16 dg').toList 36 _ _ h
 rwa [xset_dg] at this
abbrev zeroK:Nat→UInt8:=fun _=>0
def Box (w:World) (b:Nat) (ks:Nat→UInt8) (h:Option Nat) (a o r:Nat):Prop:=
 match h with
 |none=>XB w b ks 0 0 none zeroK a o r
 |some g=>XB w b ks 1 0 (some ⟨g,0,none⟩) (k2 ks) a o r∧g≠b∧∃m,Sp.Key w g ks m
def Ow (b:Nat) (h:Option Nat) (i:Nat):Prop:=i=b∨h=some i
theorem Box.lt {w:World} {b:Nat} {ks:Nat→UInt8} {h:Option Nat} {a o r:Nat} (hx:Box w b ks h a o r):b<w.heap.size:=by
 cases h with
 |none=>exact XB.lt hx
 |some g=>exact XB.lt hx.1
theorem Box.lt_g {w:World} {b g:Nat} {ks:Nat→UInt8} {a o r:Nat} (hx:Box w b ks (some g) a o r):g<w.heap.size:=by
 obtain⟨_,_,m,hk⟩:=hx
 exact hk.lt
theorem Box.own_lt {w:World} {b:Nat} {ks:Nat→UInt8} {h:Option Nat} {a o r:Nat} (hx:Box w b ks h a o r) (i:Nat) (hi:Ow b h i):i<w.heap.size:=by
 rcases hi with hi | hi
 ·subst hi;exact hx.lt
 ·subst hi;exact hx.lt_g
theorem key_chg {S:Nat→Prop} {w w':World} {g:Nat} {ks:Nat→UInt8} {m:Bool} (h:Sp.Key w g ks m) (hc:Chg S w w') (hs:¬S g):Sp.Key w' g ks m:=by
 cases m with
 |false=>exact hc.blk h hs
 |true=>exact hc.blk h hs
theorem Box.chg {S:Nat→Prop} {w w':World} {b:Nat} {ks:Nat→UInt8} {h:Option Nat} {a o r:Nat} (hx:Box w b ks h a o r) (hc:Chg S w w') (hs:∀i,Ow b h i→¬S i):Box w' b ks h a o r:=by
 cases h with
 |none=>exact XB.chg hx hc (hs b (.inl rfl))
 |some g=>
  obtain⟨h1,h2,m,h3⟩:=hx
  exact⟨h1.chg hc (hs b (.inl rfl)),h2,m,key_chg h3 hc (hs g (.inr rfl))⟩
theorem Box.below {w w':World} {b:Nat} {ks:Nat→UInt8} {h:Option Nat} {a o r:Nat} (hx:Box w b ks h a o r) (hc:Below w.heap.size w w'):Box w' b ks h a o r:=
 hx.chg (S:=fun _=>False) (Chg.of_below hc) (fun _ _ x=>x)
def Step (w w':World) (b:Nat) (h:Option Nat) (g:Nat):Prop:=Chg (Ow b h) w w'∧(h=some g∨(h=none∧w.heap.size≤g))
theorem Step.own {w w':World} {b g:Nat} {h:Option Nat} (hs:Step w w' b h g):∀i,i<w.heap.size→Ow b (some g) i→Ow b h i:=by
 intro i hi hx
 rcases hx with hx | hx
 ·exact .inl hx
 ·injection hx with hx
  subst hx
  rcases hs.2 with h1 | ⟨_,h1⟩
  ·exact .inr h1
  ·omega
theorem Step.trans {a w c:World} {b g g':Nat} {h:Option Nat} (h1:Step a w b h g) (h2:Step w c b (some g) g'):g'=g∧Step a c b h g:=by
 have e:g'=g:=by
  rcases h2.2 with h3 | ⟨h3,_⟩
  ·injection h3 with h3;exact h3.symm
  ·cases h3
 exact⟨e,h1.1.trans h2.1 h1.own,h1.2⟩
theorem Step.then {a w c:World} {b g:Nat} {h:Option Nat} {S:Nat→Prop} (h1:Step a w b h g) (h2:Chg S w c) (hs:∀i,i<a.heap.size→S i→Ow b h i):Step a c b h g:=⟨h1.1.trans h2 hs,h1.2⟩
end Go.Proofs.YtfcjeebnkigeaaaGreat.Se
end

section
set_option linter.unusedVariables false
namespace Go.Proofs.YtfcjeebnkigeaaaGreat.Se
open Go.RowKit Go.Proofs.YtfcjeebnkigeaaaGreat.Mem
def key32 (ks:Nat→UInt8):Array Value:=((List.range 32).map (fun i=>bv (ks i))).toArray
theorem load_cells {P:Program} {ops:Array Oper} {rest:List Oper} {op:Oper} {a:Act} {w:World} {Q:Exit→Act→World→Prop} (hgd:op.guard=none) (ty:TypeId) (x:Operand) (ho:op.op = .load ty x)
  (g o:Nat) (hx:a.eval x = .pointer (some ⟨g,o,none⟩)) (cs:Array Value) (d:TypeDesc) (hc:w.rangeAt g o cs.toList)
  (hu:P.underlying ty=some d) (hd:d.isRow=true) (hi:(P.info? ty).map (·.size)=some cs.size)
  (h:wpList P ops Q rest (a.put op.dst (.agg cs)) w):wpList P ops Q (op :: rest) a w:=
 wpList_load_mid hgd ty x ho g o hx cs.toList d hc hu hd (by rw[Array.length_toList];exact hi) (by simpa using h)
theorem key32_size (ks:Nat→UInt8):(key32 ks).size=32:=by simp [key32]
theorem info32 (ks:Nat→UInt8):(Tryz.prog.info? 47).map (·.size)=some (key32 ks).size:=by rw[key32_size];kernel_rfl
theorem one32 (ks:Nat→UInt8):(key32 ks).all (·.oneCell')=true:=by simp [key32,bv,Value.oneCell']
set_option maxRecDepth 100000 in
set_option maxHeartbeats 1600000 in
theorem new_any (ks:Nat→UInt8) (w:World):Calls Tryz.prog 58 #[.agg (key32 ks)] w fun e w'=>∃b,e = .returned (.pointer (some ⟨b,0,none⟩))∧w.heap.size≤b∧Box w' b ks none 0 0 0∧Below w.heap.size w w':=by
 have hi:=info32 ks
 obtain⟨cs,ecs⟩:∃cs,cs=key32 ks:=⟨_,rfl⟩
 rw[←ecs] at hi⊢
 have hz:cs.size=32:=by rw[ecs];exact key32_size ks
 have HI:=Lib.hid hi;clear hi
 have EC:=Lib.hid ecs;clear ecs
 go_enter Tryz.func58,Tryz.ntmps58
 go_wp2_with (first
  |(refine load_cells (by rfl) 47 (.tmp 1) (by rfl) w.heap.size 0 (by rfl) cs _ (Si.range_blk (Blk.new w 47 cs)) Tryz.underlying47 (by rfl) HI.out ?_)
  |fail)
 go_ret
 refine⟨w.heap.size+1,rfl,Nat.le_succ _,?_,((Below.refl w.heap.size w).alloc (Nat.le_refl _) _).alloc (by simp) _⟩
 exact Sp.Blk.new_of (w.alloc _) _ 235 _ (xcells ks 0 0 none zeroK 0 0 0) (by rw[EC.out];kernel_rfl) (by simp)
theorem XB.range1 {w:World} {b:Nat} {ks dg:Nat→UInt8} {d s:Int} {p:Option Addr} {a o r:Nat} (h:XB w b ks d s p dg a o r):w.rangeAt b 0 (Sp.key16 ks).toList:=fun j v hv=>by
 rw[Sp.key16,List.toList_toArray,List.getElem?_map] at hv
 rcases Nat.lt_or_ge j 16 with g | g
 ·rw[Nat.zero_add,h.ck j (by omega)];simpa [g] using hv
 ·rw[List.getElem?_eq_none (by simpa using g)] at hv;cases hv
theorem XB.range2 {w:World} {b:Nat} {ks dg:Nat→UInt8} {d s:Int} {p:Option Addr} {a o r:Nat} (h:XB w b ks d s p dg a o r):w.rangeAt b 16 (Sp.key16 (k2 ks)).toList:=fun j v hv=>by
 rw[Sp.key16,List.toList_toArray,List.getElem?_map] at hv
 rcases Nat.lt_or_ge j 16 with g | g
 ·rw[h.ck (16+j) (by omega)];simpa [g,k2] using hv
 ·rw[List.getElem?_eq_none (by simpa using g)] at hv;cases hv
theorem XB.rangeD {w:World} {b:Nat} {ks dg:Nat→UInt8} {d s:Int} {p:Option Addr} {a o r:Nat} (h:XB w b ks d s p dg a o r):w.rangeAt b 36 (Sp.key16 dg).toList:=fun j v hv=>by
 rw[Sp.key16,List.toList_toArray,List.getElem?_map] at hv
 rcases Nat.lt_or_ge j 16 with g | g
 ·rw[h.cg j (by omega)];simpa [g] using hv
 ·rw[List.getElem?_eq_none (by simpa using g)] at hv;cases hv
theorem XB.thereD {w:World} {b:Nat} {ks dg:Nat→UInt8} {d s:Int} {p:Option Addr} {a o r:Nat} (h:XB w b ks d s p dg a o r):w.there b 36 16:=fun j hj=>⟨by rw[h.cg j hj];rfl,h.fz _⟩
theorem key16_size (f:Nat→UInt8):(Sp.key16 f).size=16:=by simp [Sp.key16]
theorem info16 (f:Nat→UInt8):(Tryz.prog.info? 233).map (·.size)=some (Sp.key16 f).size:=by rw[key16_size];kernel_rfl
theorem one16 (f:Nat→UInt8):(Sp.key16 f).all (·.oneCell')=true:=by simp [Sp.key16,bv,Value.oneCell']
theorem g_setCells {a w:World} {b:Nat}:∀(vs:List Value) (o:Nat) (w:World),a.grownBy w (some b)→a.grownBy (w.setCells b o vs) (some b)
 | [],_,_,h=>h
 |v :: r,o,w,h=>g_setCells (w:=w) r (o+1) _ (g_set h (.inl rfl) v)
theorem Key.far {w:World} {g:Nat} {ks:Nat→UInt8} {m:Bool} (h:Sp.Key w g ks m) (p:Addr) (u:Value) (hp:p.block≠g):Sp.Key (w.setCell p u) g ks m:=by
 cases m with
 |false=>exact Si.Blk.far h p u hp
 |true=>exact Si.Blk.far h p u hp
theorem Key.fars {g b:Nat} {ks:Nat→UInt8} {m:Bool} (hb:b≠g):∀(vs:List Value) (o:Nat) (w:World),Sp.Key w g ks m→Sp.Key (w.setCells b o vs) g ks m
 | [],_,_,h=>h
 |v :: r,o,w,h=>Key.fars hb r (o+1) _ (Key.far h _ v hb)
set_option maxRecDepth 100000 in
set_option maxHeartbeats 3200000 in
theorem make_halves (b:Nat) (ks:Nat→UInt8) (a o r:Nat) (d s:Int) (w:World) (hK:XB w b ks d s none zeroK a o r) :
  Calls Tryz.prog 261 #[.pointer (some ⟨b,0,none⟩)] w fun e w'=>e = .returned (.tuple #[])∧∃g,XB w' b ks d s (some ⟨g,0,none⟩) (k2 ks) a o r∧w.heap.size≤g∧Sp.Key w' g ks false∧w.grownBy w' (some b):=by
 have hs1:∀w:World,(Instr.arrayAt 233 (.slice (some ⟨b,0,none⟩) 16 32)).run Tryz.prog w = .ok (.pointer (some ⟨b,0,none⟩)) w:=fun _=>by kernel_rfl
 have hs2:∀w:World,(Instr.arrayAt 233 (.slice (some ⟨b,16,none⟩) 16 16)).run Tryz.prog w = .ok (.pointer (some ⟨b,16,none⟩)) w:=fun _=>by kernel_rfl
 have cn:=fun w=>Sp.new_any ks w
 have r1:=hK.range1
 have hk0:∀w1:World,Below w.heap.size w w1→XB w1 b ks d s none zeroK a o r:=fun w1 h=>Blk.below hK h
 have hlt:=hK.lt
 have R2:Hid (∀(w1:World) p,XB w1 b ks d s p zeroK a o r→w1.rangeAt b 16 (Sp.key16 (k2 ks)).toList):=fun w1 p h=>XB.range2 h
 have i1:=info16 ks
 have i2:=info16 (k2 ks)
 have o2:=one16 (k2 ks)
 have z2:=key16_size (k2 ks)
 obtain⟨cs,ecs⟩:∃cs,cs=Sp.key16 ks:=⟨_,rfl⟩
 obtain⟨ds,eds⟩:∃ds,ds=Sp.key16 (k2 ks):=⟨_,rfl⟩
 rw[←ecs] at r1 i1 cn
 rw[←eds] at R2 i2 o2 z2
 have R1:=Lib.hid r1;clear r1
 have K0:=Lib.hid hk0;clear hk0
 have LT:=Lib.hid hlt;clear hlt
 have I1:=Lib.hid i1;clear i1
 have I2:=Lib.hid i2;clear i2
 have O2:=Lib.hid o2;clear o2
 have Z2:=Lib.hid z2;clear z2
 have ED:=Lib.hid eds;clear eds
 clear ecs hK
 go_enter Tryz.func261,Tryz.ntmps261
 go_upto_region 2 with(first
  |(refine load_cells (by rfl) 233 (.tmp 9) (by rfl) b 0 (by rfl) cs _ R1.out Tryz.underlying233 (by rfl) I1.out ?_)
  |(go_at_call 287;refine Calls.mono (cn _) ?_;rintro e w1 ⟨g,rfl,hg,hk1,hb1⟩;have X1:=K0.out w1 hb1;have c35:=X1.cp;have fz:=X1.fz;have X2:=Lib.hid (X1.set_p (some ⟨g,0,none⟩));have HG:=Lib.hid hg;have HK1:=Lib.hid hk1;have HB1:=Lib.hid hb1;clear hg hk1 hb1 X1)
  |fail)
 clear c35 fz
 have hR:=R2.out _ _ X2.out
 have hT:=XB.thereD X2.out
 rw[←Z2.out] at hT
 have HR:=Lib.hid hR;clear hR
 have HT:=Lib.hid hT;clear hT
 go_wp2_with (first
  |(refine load_cells (by rfl) 233 (.tmp 20) (by rfl) b 16 (by rfl) ds _ HR.out Tryz.underlying233 (by rfl) I2.out ?_)
  |(refine wpList_store_mid (by rfl) 233 (.tmp 23) (.tmp 21) (by rfl) b 36 ds (by rfl) (by rfl) HT.out I2.out O2.out ?_)
  |fail)
 go_end0
 have hgb:b≠g:=by have:=HG.out;have:=LT.out;omega
 refine⟨rfl,g,?_,HG.out,Key.fars hgb _ _ _ (Key.far HK1.out _ _ hgb),g_setCells (w:=w) _ _ _ (g_set (g_of_below HB1.out _) (.inl rfl) _)⟩
 rw[ED.out]
 exact X2.out.set_dg (k2 ks)
end Go.Proofs.YtfcjeebnkigeaaaGreat.Se
end

section
set_option linter.unusedVariables false
namespace Go.Proofs.YtfcjeebnkigeaaaGreat.Se
open Go.RowKit Go.Proofs.YtfcjeebnkigeaaaGreat.Mem
set_option maxRecDepth 100000 in
set_option maxHeartbeats 1600000 in
theorem slow (b:Nat) (ks:Nat→UInt8) (a o r:Nat) (w:World) (hK:XB w b ks 0 0 none zeroK a o r) :
  Calls Tryz.prog 286 #[.pointer (some ⟨b,32,none⟩),.func (.func 261) #[.pointer (some ⟨b,0,none⟩)] #[]] w fun e w'=>e = .returned (.tuple #[])∧∃g,XB w' b ks 1 0 (some ⟨g,0,none⟩) (k2 ks) a o r∧w.heap.size≤g∧Sp.Key w' g ks false∧w.grownBy w' (some b):=by
 have hK1:XB (w.setCell ⟨b,33,none⟩ (.int .i32 1)) b ks 0 1 none zeroK a o r:=hK.set_s 1
 have g1:w.grownBy (w.setCell ⟨b,33,none⟩ (.int .i32 1)) (some b):=g_set (World.grownBy.refl _ _) (.inl rfl) _
 have hsz:(w.setCell ⟨b,33,none⟩ (.int .i32 1)).heap.size=w.heap.size:=by simp [World.setCell]
 have cl:=Sp.lock_free ⟨b,33,none⟩ w hK.cs (hK.fz 33)
 have cd:=Sp.load_flag ⟨b,32,none⟩ 0 _ hK1.cd false rfl
 have cm:=make_halves b ks a o r 0 1 _ hK1
 rw[hsz] at cm
 have hnot:∀(x:Bool) (w:World),(Op.unary .not (.bool x)).run Tryz.prog w = .ok (.bool (!x)) w:=fun _ _=>rfl
 have hlt:=hK.lt
 have H:=Lib.hid hK;clear hK
 have H1:=Lib.hid hK1;clear hK1
 have G1:=Lib.hid g1;clear g1
 have LT:=Lib.hid hlt;clear hlt
 clear hsz
 go_enter_defers Tryz.func286,Tryz.ntmps286
 go_wp2_with (first | (go_at_call 303;refine Calls.mono cl ?_;rintro e w' ⟨rfl,rfl⟩) | (go_at_call 285;refine Calls.mono cd ?_;rintro e w' ⟨rfl,rfl⟩) | (go_at_call 261;refine Calls.mono cm ?_;rintro e w2 ⟨rfl,g,hK2,hgs,hkey,hg2⟩))
 refine leaves_cons (f:=305) (args:=#[.pointer (some ⟨b,32,none⟩),.bool true]) (by simp) (by simp [go_sem]) ?_
 refine(Sp.store_deferred ⟨b,32,none⟩ _ .returning w2 hK2.cd (hK2.fz 32)).mono ?_
 rintro e u' w'' ⟨rfl,rfl,rfl⟩
 have hgb:b≠g:=by have:=LT.out;omega
 have hK3:=XB.set_d hK2.drew 1
 refine leaves_cons (f:=304) (args:=#[.pointer (some ⟨b,33,none⟩)]) (by simp [settle]) (by simp [go_sem]) ?_
 refine(Sp.unlock_deferred ⟨b,33,none⟩ _ _ hK3.cs (hK3.fz 33)).mono ?_
 rintro e u' w'' ⟨rfl,rfl,rfl⟩
 have hK4:=XB.set_s hK3 0
 have hkey4:=Key.far (Key.far (w:=w2.drew) (m:=false) hkey ⟨b,32,none⟩ (.int .u32 1) hgb) ⟨b,33,none⟩ (.int .i32 0) hgb
 have hg4:=g_set (row:=some b) (g_set (row:=some b) (g_drew (World.grownBy.refl w2 (some b))) (p:=⟨b,32,none⟩) (.inl rfl) (.int .u32 1)) (p:=⟨b,33,none⟩) (.inl rfl) (.int .i32 0)
 have hg5:=Sp.grown_trans (Sp.grown_trans G1.out hg2) hg4
 simp [Leaves,settle,results,Tryz.results286]
 exact⟨g,hK4,hgs,hkey4,hg5⟩
theorem do_first (b:Nat) (ks:Nat→UInt8) (a o r:Nat) (w:World) (hK:XB w b ks 0 0 none zeroK a o r) :
  Calls Tryz.prog 260 #[.pointer (some ⟨b,32,none⟩),.func (.func 261) #[.pointer (some ⟨b,0,none⟩)] #[]] w fun e w'=>e = .returned (.tuple #[])∧∃g,XB w' b ks 1 0 (some ⟨g,0,none⟩) (k2 ks) a o r∧w.heap.size≤g∧Sp.Key w' g ks false∧w.grownBy w' (some b):=by
 have cd:=Sp.load_flag ⟨b,32,none⟩ 0 w hK.cd false rfl
 have cs:=slow b ks a o r w hK
 have hnot:∀(x:Bool) (w:World),(Op.unary .not (.bool x)).run Tryz.prog w = .ok (.bool (!x)) w:=fun _ _=>rfl
 clear hK
 go_enter Tryz.func260,Tryz.ntmps260
 go_wp2_with (first | (go_at_call 285;refine Calls.mono cd ?_;rintro e w' ⟨rfl,rfl⟩) | (go_at_call 286;refine Calls.mono cs ?_;rintro e w2 ⟨rfl,h2⟩;have H2:=Lib.hid h2;clear h2))
 go_end0
 exact⟨rfl,H2.out⟩
theorem do_done (b:Nat) (fv:Value) (w:World) (hd:w.cell? ⟨b,32,none⟩=some (.int .u32 1)) :
  Calls Tryz.prog 260 #[.pointer (some ⟨b,32,none⟩),fv] w fun e w'=>e = .returned (.tuple #[])∧w'=w:=by
 have cd:=Sp.load_flag ⟨b,32,none⟩ 1 w hd true rfl
 have hnot:∀(x:Bool) (w:World),(Op.unary .not (.bool x)).run Tryz.prog w = .ok (.bool (!x)) w:=fun _ _=>rfl
 clear hd
 go_enter Tryz.func260,Tryz.ntmps260
 go_wp2_with (first | (go_at_call 285;refine Calls.mono cd ?_;rintro e w' ⟨rfl,rfl⟩))
 go_end0
 exact⟨rfl,rfl⟩
theorem need_any (b:Nat) (ks:Nat→UInt8) (h:Option Nat) (a o r:Nat) (w:World) (hK:Box w b ks h a o r) :
  Calls Tryz.prog 226 #[.pointer (some ⟨b,0,none⟩)] w fun e w'=>e = .returned (.tuple #[])∧∃g,Box w' b ks (some g) a o r∧Step w w' b h g:=by
 have hmf:∀(fn:Fn) (first cap:Array Value) (w:World),(Instr.makeFunc fn first cap).run Tryz.prog w = .ok (.func fn first cap) w:=fun _ _ _ _=>rfl
 cases h with
 |none=>
  have cf:=do_first b ks a o r w hK
  have hlt:=XB.lt hK
  have LT:=Lib.hid hlt;clear hlt
  clear hK
  go_enter Tryz.func226,Tryz.ntmps226
  go_wp2_with (first | (go_at_call 260;refine Calls.mono cf ?_;rintro e w' ⟨rfl,h2⟩;have H2:=Lib.hid h2;clear h2))
  go_end0
  obtain⟨g,h1,h2,h3,h4⟩:=H2.out
  exact⟨rfl,g,⟨h1,by have:=LT.out;omega,false,h3⟩,Chg.of_grown h4 (.inl rfl),.inr ⟨rfl,h2⟩⟩
 |some g=>
  have cf:=fun fv=>do_done b fv w (XB.cd hK.1)
  have H:=Lib.hid hK;clear hK
  go_enter Tryz.func226,Tryz.ntmps226
  go_wp2_with (first | (go_at_call 260;refine Calls.mono (cf _) ?_;rintro e w' ⟨rfl,rfl⟩))
  go_end0
  exact⟨rfl,g,H.out,Chg.refl _ _,.inl rfl⟩
theorem add_one (p:Addr) (a:Nat) (w:World) (ha:a<1000000) (hc:w.cell? p=some (.int .i64 (a:Int))) (hz:w.frozen? p=false) :
  Calls Tryz.prog 111 #[.pointer (some p),.int .i64 1] w fun e w'=>e = .returned (.int .i64 ((a+1:Nat):Int))∧w'=w.setCell p (.int .i64 ((a+1:Nat):Int)):=by
 have hadd:=run_call_add (P:=Tryz.prog) Tryz.func160 (by kernel_rfl) (by kernel_rfl) (by kernel_rfl) .i64 (by kernel_rfl) (y:=1) (s:=((a+1:Nat):Int)) hc hz (by
  have h:IntKind.i64.wrap ((a:Int)+1)=((a+1:Nat):Int):=by rw[IntKind.wrap_i64];omega
  simp [go_sem,h])
 clear hc hz ha
 go_enter Tryz.func111,Tryz.ntmps111
 go_wp2
 go_ret
 exact⟨rfl,rfl⟩
theorem load_count (p:Addr) (a:Nat) (w:World) (hc:w.cell? p=some (.int .i64 (a:Int))) :
  Calls Tryz.prog 70 #[.pointer (some p)] w fun e w'=>e = .returned (.int .i64 (a:Int))∧w'=w:=by
 have hl:=run_call_load (P:=Tryz.prog) Tryz.func130 (by kernel_rfl) (by kernel_rfl) (by kernel_rfl) .i64 (by kernel_rfl) hc
 clear hc
 go_enter Tryz.func70,Tryz.ntmps70
 go_wp2
 go_ret
 exact⟨rfl,rfl⟩
end Go.Proofs.YtfcjeebnkigeaaaGreat.Se
end

section
set_option linter.unusedVariables false
namespace Go.Proofs.YtfcjeebnkigeaaaGreat.Se
open Go.RowKit Go.Proofs.YtfcjeebnkigeaaaGreat.Mem
theorem fit_usage (u:Int) (x:Bool) (hx:x=(decide (0≤u)&&decide (u≤255))) (w:World):Calls Tryz.prog 161 #[.int .i64 u] w fun e w'=>e = .returned (.bool x)∧w'=w:=by
 subst hx
 by_cases h:0≤u
 ·go_enter Tryz.func161,Tryz.ntmps161
  go_wp2
  go_ret
  exact⟨by simp [h],rfl⟩
 ·have h2:decide (0≤u)=false:=by simpa using h
  go_enter Tryz.func161,Tryz.ntmps161
  go_wp2
  go_ret
  exact⟨by simp,rfl⟩
theorem fit_nonce (n:Nat) (x:Bool) (hx:x=decide (n≤1099511627776)) (w:World):Calls Tryz.prog 223 #[.int .u64 (n:Int)] w fun e w'=>e = .returned (.bool x)∧w'=w:=by
 subst hx
 have e:decide ((n:Int)≤1099511627776)=decide (n≤1099511627776):=by congr 1;exact propext ⟨by omega,by omega⟩
 have E:=Lib.hid e;clear e
 go_enter Tryz.func223,Tryz.ntmps223
 go_wp2
 go_ret
 exact⟨by rw[←E.out];rfl,rfl⟩
theorem or_byte (x y:Nat) (hy:y<256) (hx:x<72057594037927936):bits .or .u64 ((x:Int)*256) (y:Int)=((x*256+y:Nat):Int):=by
 have e:(x:Int)*256=((x*256:Nat):Int):=by omega
 have h:x*256 ||| y=x*256+y:=by
  have h:=Nat.shiftLeft_add_eq_or_of_lt (show y<2 ^ 8 by omega) x
  rw[Nat.shiftLeft_eq] at h
  simpa using h.symm
 rw[e,u64_or_nat _ _ (by omega) (by omega),h]
set_option maxRecDepth 100000 in
set_option maxHeartbeats 1600000 in
theorem word_any (B:Nat) (A:Option Addr) (n c:Nat) (l:List UInt8) (w:World) (hn:n=l.length) (h8:8≤n) (hc:n≤c) (hr:Rd w B A (bvs l)) :
  Calls Tryz.prog 164 #[.slice A n c] w fun e w'=>e = .returned (.int .u64 (n8 l:Int))∧w'=w:=by
 obtain⟨b,o,rfl,hb,hcell⟩:∃b o,A=some ⟨b,o,none⟩∧b<B∧∀i (h:i<l.length),w.cell? ⟨b,o+i,none⟩=some (bv l[i]):=by
  rcases hr with h | ⟨b,o,h1,h2,h3⟩
  ·have:=bvs_length l;rw[h] at this;simp at this;omega
  ·exact⟨b,o,h1,h2,fun i hi=>h3 i _ (bvs_at hi)⟩
 have hc8:(8:Int)≤(c:Int):=by omega
 have hc8':8≤c:=by omega
 have HC:=Lib.hid hcell;clear hcell
 have HN:=Lib.hid hn;clear hn
 have H8:=Lib.hid h8;clear h8
 clear hr hc hb
 go_enter Tryz.func164,Tryz.ntmps164
 go_wp2_with fail
 go_loop [3,9] (fun wv_ iv=>∃i:Nat,i≤8∧iv = .int .i64 (i:Int)∧wv_ = .int .u64 (big 0 (l.take i):Nat)) (fun _ iv=>8 - (intOf iv).toNat)
 case atStart=>exact⟨0,by decide,rfl,rfl⟩
 case round=>
  obtain⟨i,hi,rfl,rfl⟩:=hrel
  by_cases hx:i=8
  ·subst hx
   go_wp2_with fail
   go_ret
   exact⟨rfl,rfl⟩
  ·have e1:(i:Int)<8:=by omega
   have e2:(0:Int)≤(i:Int):=by omega
   have e3:i<8:=by omega
   have hl:i<l.length:=by have:=HN.out;have:=H8.out;omega
   obtain⟨y,ey⟩:∃y,y=l[i]:=⟨_,rfl⟩
   have hcc:=HC.out i hl
   rw[←ey] at hcc
   simp only[bv] at hcc
   have hy:=y.toNat_lt
   obtain⟨v,ev⟩:∃v,v=big 0 (l.take i):=⟨_,rfl⟩
   obtain⟨u,eu⟩:∃u,u=v*256+y.toNat:=⟨_,rfl⟩
   rw[←ev]
   have hv:v<72057594037927936:=by
    have:=big_take_lt l i
    rw[←ev] at this
    exact Nat.lt_of_lt_of_le this (Nat.pow_le_pow_right (by decide) (by omega):256 ^ i≤256 ^ 7)
   have hw1:(v:Int)*256 % 18446744073709551616=(v:Int)*256:=by omega
   have hw2:(y.toNat:Int) % 18446744073709551616=(y.toNat:Int):=by omega
   have hw3:IntKind.u64.wrap (y.toNat:Int)=(y.toNat:Int):=by rw[IntKind.wrap_u64];exact hw2
   have hw4:IntKind.u64.wrap ((v:Int)*256)=(v:Int)*256:=by rw[IntKind.wrap_u64];exact hw1
   have hor:bits .or .u64 ((v:Int)*256) (y.toNat:Int)=(u:Int):=by rw[eu];exact or_byte v y.toNat hy hv
   have hnx:u=big 0 (l.take (i+1)):=by rw[big_take l i hl,←ey,←ev,eu]
   have NX:=Lib.hid hnx;clear hnx
   have HI:=Lib.hid hi;clear hi
   have HX:=Lib.hid hx;clear hx
   have HV:=Lib.hid hv;clear hv
   clear eu ev ey
   go_wp2_with fail
   go_round
   case rel=>exact⟨i+1,by omega,by go_num,by rw[←NX.out]⟩
   case measure=>simp [intOf];omega
theorem own_push {w w':World} {base:Nat} {t:TypeId} {v:Value} {n:Nat} {xs:List Value} {o:Obj} (h:w.ownsRow base t 1 v n xs) (e:w'.heap=w.heap.push o):w'.ownsRow base t 1 v n xs:=Si.own_push h e
def laid (xs:List UInt8) (N j:Nat):List Value:=bvs (xs++(w8 N).take j)
theorem laid_next (xs:List UInt8) (N j:Nat) (h:j<8):laid xs N j++[bv (UInt8.ofNat (N / 2 ^ (56 - 8*j)))]=laid xs N (j+1):=by
 unfold laid
 rw[w8_take N j h,←List.append_assoc,bvs_append (xs++(w8 N).take j)];rfl
theorem laid_8 (xs:List UInt8) (N:Nat):laid xs N 8=bvs (xs++w8 N):=by
 unfold laid
 rw[List.take_of_length_le (by rw[w8_length];exact Nat.le_refl _)]
set_option maxRecDepth 100000 in
set_option maxHeartbeats 1600000 in
theorem add_word (base:Nat) (v:Value) (n N:Nat) (xs:List UInt8) (w:World) (hN:N<18446744073709551616) (hn:n≤100000) (hb:base≤w.heap.size) (hown:w.ownsRow base 5 1 v n (bvs xs)) :
  Calls Tryz.prog 224 #[v,.int .u64 (N:Int)] w fun e w'=>∃v',e = .returned v'∧w'.ownsRow base 5 1 v' (n+8) (bvs (xs++w8 N))∧Chg (fun i=>v.ownBlock=some i) w w'∧(∀k,v'.ownBlock=some k→v.ownBlock=some k∨w.heap.size≤k):=by
 obtain⟨ib,hi0,hz0,hs0,hb0⟩:=info_parts Si.u8_info
 have HO:=Lib.hid hown;clear hown
 have HB:=Lib.hid hb;clear hb
 have HN:=Lib.hid hN;clear hN
 have HL:=Lib.hid hn;clear hn
 go_enter Tryz.func224,Tryz.ntmps224
 go_wp2_with fail
 go_loopw [0,5] (fun bv_ iv wr=>∃j:Nat,j≤8∧iv = .int .i64 (56 - 8*(j:Int))∧wr.ownsRow base 5 1 bv_ (n+j) (laid xs N j)∧Chg (fun i=>v.ownBlock=some i) w wr∧(∀k,bv_.ownBlock=some k→v.ownBlock=some k∨w.heap.size≤k)) (fun _ iv _=>(intOf iv+8).toNat)
 case atStart=>exact⟨0,by decide,rfl,by unfold laid;rw[List.take_zero,List.append_nil];exact HO.out,Chg.refl _ _,fun k hk=>.inl hk⟩
 case round=>
  obtain⟨j,hj,rfl,hown,hbl,hnew⟩:=hrel
  have HNEW:=Lib.hid hnew;clear hnew
  have HR:=Lib.hid hown;clear hown
  have HW:=Lib.hid hbl;clear hbl
  by_cases hx:j=8
  ·subst hx
   go_wp2_with fail
   go_ret
   exact⟨_,rfl,by rw[←laid_8];exact HR.out,HW.out,HNEW.out⟩
  ·obtain⟨m,em⟩:∃m:Nat,m=56 - 8*j:=⟨_,rfl⟩
   have hm:(56:Int) - 8*(j:Int)=(m:Int):=by omega
   rw[hm]
   have hx3:j<8:=by omega
   have hx4:m<64:=by omega
   have hx5:(m:Int)<64:=by omega
   have hx6:(0:Int)≤(m:Int):=by omega
   have hx7:min m 64=m:=by omega
   obtain⟨k,ek⟩:∃k,k=n+j:=⟨_,rfl⟩
   have hk:k≤100010:=by have:=HL.out;omega
   rw[←ek] at HR
   have hnx:=laid_next xs N j hx3
   have hv:bv (UInt8.ofNat (N / 2 ^ (56 - 8*j))) = .int .u8 ((N:Int) / 2 ^ m % 256):=by
    unfold bv;rw[UInt8.toNat_ofNat',←em];congr 1
   rw[hv] at hnx
   have NX:=Lib.hid hnx;clear hnx
   have EM:=Lib.hid em;clear em
   have EK:=Lib.hid ek;clear ek
   have HX:=Lib.hid hx;clear hx
   have HJ:=Lib.hid hj;clear hj
   have HX3:=Lib.hid hx3;clear hx3
   clear hm hv
   go_wp2_with (first | (at_builtin;refine wpList_append_rd _ (by rfl) (.tmp 10) (.tmp 15) 30 (by rfl) base 5 ib _ 1 Tryz.underlying30 hi0 hz0 hs0 hb0 (by rfl) _ k (laid xs N j) (by rfl) (own_push HR.out (by rfl)) (wr.heap.size+1) (some ⟨wr.heap.size,0,none⟩) 1 1 [.int .u8 ((N:Int) / 2 ^ m % 256)] (by rfl) (by rfl) (Si.rd_words wr 5 _ [.int .u8 ((N:Int) / 2 ^ m % 256)] (by rfl) _ rfl) (by simp [Value.oneCell']) (by unfold maxLen;omega) (by omega) (by have:=HB.out;have:=HW.out.size;simp;omega) ?_;intro v6 w6 hown6 hgrow6 hat6;have O6:=Lib.hid hown6;have G6:=Lib.hid hgrow6;have T6:=Lib.hid hat6;clear hown6 hgrow6 hat6) | fail)
   go_roundw
   case rel=>
    refine⟨j+1,by have:=HX3.out;omega,?_,by rw[←NX.out,←Nat.add_assoc,←EK.out];exact O6.out,?_,?_⟩
    ·exact congrArg (Value.int .i64) (by have:=EM.out;have:=HX3.out;omega)
    ·refine(HW.out.alloc _).trans (T:=fun i=>Value.ownBlock _=some i) ⟨G6.out.os,G6.out.tape,G6.out.output,G6.out.size,fun k hk hne=>G6.out.block k hk (fun e=>hne e.symm)⟩ (fun i hi hx=>?_)
     rcases HNEW.out i hx with h1 | h1
     ·exact h1
     ·omega
    ·intro k hk
     rcases T6.out with h1 | h1
     ·exact HNEW.out k (h1▸hk)
     ·have:=HW.out.size
      rw[hk] at h1
      injection h1 with h1
      exact .inr (by simp at h1;omega)
   case measure=>simp [intOf];omega
end Go.Proofs.YtfcjeebnkigeaaaGreat.Se
end

section
set_option linter.unusedVariables false
namespace Go.Proofs.YtfcjeebnkigeaaaGreat.Se
open Go.RowKit Go.Proofs.YtfcjeebnkigeaaaGreat.Mem
def Aw (b:Nat) (h:Option Nat) (n i:Nat):Prop:=Ow b h i∨n≤i
section
variable {w w' a c:World} {b g n:Nat} {h:Option Nat} {A:Option Addr} {xs:List Value} {S:Nat→Prop}
theorem RdA.aw (hr:RdA (Ow b h) w A xs) (hn:w.heap.size≤n):RdA (Aw b h n) w A xs:=hr.mono fun i hi hx=>by
 rcases hx with hx | hx
 ·exact hx
 ·omega
theorem Step.aw (hs:Step w w' b h g):Chg (Aw b h n) w w':=hs.1.mono fun i _ hx=>.inl hx
theorem Step.aw_g (hs:Step w w' b h g) (hn:n≤w.heap.size):Aw b h n g:=by
 rcases hs.2 with h1 | ⟨_,h1⟩
 ·exact .inl (.inr h1)
 ·exact .inr (by omega)
theorem Chg.then (h:Chg S a w) (k:Chg S w c):Chg S a c:=h.trans k fun _ _ x=>x
theorem RdA.go (h:RdA S w A xs) (hc:Chg S w w'):RdA S w' A xs:=h.keep hc (fun _ _ x=>x) (fun _ _ x=>x)
theorem Chg.step (hc:Chg (Aw b h w.heap.size) w w') (hg:h=some g∨(h=none∧w.heap.size≤g)):Step w w' b h g:=
 ⟨hc.mono fun i hi hx=>by
  rcases hx with hx | hx
  ·exact hx
  ·omega,hg⟩
end
def tl (ks:Nat→UInt8) (u n:Nat) (p:List UInt8) (i:Nat):List UInt8:=(mixL ks u n p).take i++(strmL ks u n p.length).drop i
theorem tl_at (ks:Nat→UInt8) (u n:Nat) (p:List UInt8) (i:Nat) (h:i<p.length) (h2:i<(strmL ks u n p.length).length):(bvs (tl ks u n p i)).toArray[i]? = some (bv (strmL ks u n p.length)[i]):=by
 rw[List.getElem?_toArray]
 unfold bvs tl
 rw[List.getElem?_map,List.getElem?_append_right (by rw[List.length_take,mixL_length];omega),List.length_take,mixL_length,show i - min i p.length=0 by omega,List.getElem?_drop,Nat.add_zero,List.getElem?_eq_getElem h2];rfl
theorem tl_set (ks:Nat→UInt8) (u n:Nat) (p:List UInt8) (i:Nat) (h:i<p.length) (h2:i<(strmL ks u n p.length).length):(bvs (tl ks u n p i)).toArray.setIfInBounds i (bv (p[i] ^^^ (strmL ks u n p.length)[i]))=(bvs (tl ks u n p (i+1))).toArray:=by
 rw[List.setIfInBounds_toArray]
 congr 1
 unfold bvs
 rw[←List.map_set]
 congr 1
 have e:(mixL ks u n p).take (i+1)=(mixL ks u n p).take i++[p[i] ^^^ (strmL ks u n p.length)[i]]:=by
  rw[List.take_add_one,mixL_at ks u n p i h h2];rfl
 have hl:((mixL ks u n p).take i).length=i:=by rw[List.length_take,mixL_length];omega
 unfold tl
 rw[e,List.set_append_right _ _ (by omega),hl,Nat.sub_self,List.append_assoc,List.drop_eq_getElem_cons h2]
 rfl
theorem tl_all (ks:Nat→UInt8) (u n:Nat) (p:List UInt8):tl ks u n p p.length=mixL ks u n p:=by
 rw[tl,List.take_of_length_le (by rw[mixL_length];exact Nat.le_refl _),List.drop_of_length_le (by rw[strmL_length];exact Nat.le_refl _),List.append_nil]
theorem tl_none (ks:Nat→UInt8) (u n:Nat) (p:List UInt8):tl ks u n p 0=strmL ks u n p.length:=by
 rw[tl,List.take_zero,List.drop_zero,List.nil_append]
theorem xor_b (x y:UInt8):bits .xor .u8 (y.toNat:Int) (x.toNat:Int)=((x ^^^ y).toNat:Int):=by
 rw[u8_xor_nat _ _ y.toNat_lt x.toNat_lt,UInt8.toNat_xor,Nat.xor_comm]
set_option maxRecDepth 100000 in
set_option maxHeartbeats 1600000 in
theorem turn_none (b:Nat) (ks:Nat→UInt8) (h:Option Nat) (a o r u n:Nat) (A:Option Addr) (c:Nat) (w:World) (hu:u≤255) (hn:n<18446744073709551616) (hK:Box w b ks h a o r) :
  Calls Tryz.prog 163 #[.pointer (some ⟨b,0,none⟩),.int .i64 (u:Int),.int .u64 (n:Int),.slice A 0 c] w fun e w'=>∃g,e = .returned (.slice none 0 0)∧Box w' b ks (some g) a o r∧Step w w' b h g:=by
 have cn:=need_any b ks h a o r w hK
 have hu0:(0:Int)≤(u:Int):=by omega
 clear hK
 have HU:=Lib.hid hu;clear hu
 have HN:=Lib.hid hn;clear hn
 go_enter Tryz.func163,Tryz.ntmps163
 go_wp2_with (first
  |(go_at_call 226;refine Calls.mono cn ?_;rintro e w1 ⟨rfl,g,hb1,hs1⟩;clear cn;have c35:=hb1.1.cp;have cst:=(fun N=>Sp.stream_nil (some ⟨g,0,none⟩) N 0 w1 (.inr (by decide)));have HB1:=Lib.hid hb1;have HS1:=Lib.hid hs1;clear hb1 hs1)
  |(go_at_call 227;refine Calls.mono (cst _) ?_;rintro e w2 ⟨rfl,hw⟩;have hw:=hw.symm;subst hw;clear cst c35))
 go_loopw [27] (fun iv wr=>iv = .int .i64 0∧wr=w1) (fun iv _=>0)
 case atStart=>exact⟨rfl,rfl⟩
 case round=>
  obtain⟨rfl,rfl⟩:=hrel
  go_wp2_with fail
  go_ret
  exact⟨g,rfl,HB1.out,HS1.out⟩
theorem sn_wrap (u n:Nat) (hu:u≤255):IntKind.u64.wrap (IntKind.u64.wrap ((n:Int)*256)+IntKind.u64.wrap (u:Int))=((sn u n:Nat):Int):=by
 rw[IntKind.wrap_u64,IntKind.wrap_u64,IntKind.wrap_u64];unfold sn;omega
theorem sn_lt (u n:Nat):sn u n<18446744073709551616:=Nat.mod_lt _ (by decide)
set_option maxRecDepth 100000 in
set_option maxHeartbeats 1600000 in
theorem turn_some (b:Nat) (ks:Nat→UInt8) (h:Option Nat) (a o r u n:Nat) (A:Option Addr) (m c:Nat) (p:List UInt8) (w:World) (hu:u≤255) (hn:n<18446744073709551616) (hm:m=p.length) (hm1:1≤m) (hm2:m≤1000) (hr:RdA (Ow b h) w A (bvs p)) (hK:Box w b ks h a o r) :
  Calls Tryz.prog 163 #[.pointer (some ⟨b,0,none⟩),.int .i64 (u:Int),.int .u64 (n:Int),.slice A m c] w fun e w'=>∃g q,e = .returned (.slice (some ⟨q,0,none⟩) m m)∧w.heap.size≤q∧q≠g∧Blk w' q 5 (bvs (mixL ks u n p)).toArray∧Box w' b ks (some g) a o r∧Step w w' b h g:=by
 have cn:=need_any b ks h a o r w hK
 obtain⟨N,eN⟩:∃N,N=sn u n:=⟨_,rfl⟩
 have hsn:=sn_wrap u n hu
 have hsnlt:=sn_lt u n
 rw[←eN] at hsn hsnlt
 have hstr:Sp.strm (Sp.kw ks) (Sp.upW N) (Sp.loW N) m=strmL ks u n m:=by rw[eN];rfl
 have hblt:=hK.lt
 clear hK
 have HR:=Lib.hid (hr.aw (Nat.le_refl _));clear hr
 have HU:=Lib.hid hu;clear hu
 have HN:=Lib.hid hn;clear hn
 have HM:=Lib.hid hm;clear hm
 have HM1:=Lib.hid hm1;clear hm1
 have HM2:=Lib.hid hm2;clear hm2
 have HSL:=Lib.hid hsnlt;clear hsnlt
 have HST:=Lib.hid hstr;clear hstr
 have HSN:=Lib.hid hsn;clear hsn
 have BL:=Lib.hid hblt;clear hblt
 clear eN
 go_enter Tryz.func163,Tryz.ntmps163
 go_wp2_with (first
  |(go_at_call 226;refine Calls.mono cn ?_;rintro e w1 ⟨rfl,g,hb1,hs1⟩;clear cn;have c35:=hb1.1.cp;obtain⟨h11,h12,md,h13⟩:=hb1;have cst:=Sp.stream_any g ks md N m (m:Int) w1 rfl HM1.out (by have:=HM2.out;omega) HSL.out h13;rw[HST.out] at cst;have X1:=Lib.hid h11;have NE:=Lib.hid h12;have GL:=Lib.hid h13.lt;have HS1:=Lib.hid hs1;clear hs1 h11 h12 h13)
  |(go_at_call 227;rw[HSN.out];refine Calls.mono cst ?_;rintro e w2 ⟨q,rfl,hq,hB,hk2,hg2,_⟩;clear cst c35;have HQ:=Lib.hid hq;have HB:=Lib.hid hB;have HK2:=Lib.hid hk2;have HG2:=Lib.hid hg2;clear hq hB hk2 hg2))
 have hsm:(strmL ks u n m).length=m:=strmL_length ks u n m
 go_loopw [27] (fun iv wr=>∃i:Nat,i≤m∧iv = .int .i64 (i:Int)∧Chg (fun k=>w1.heap.size≤k) w2 wr∧Blk wr q 5 (bvs (tl ks u n p i)).toArray) (fun iv _=>m - (intOf iv).toNat)
 case atStart=>exact⟨0,Nat.zero_le _,rfl,Chg.refl _ _,by rw[tl_none,←HM.out];exact HB.out⟩
 case round=>
  obtain⟨i,hi,rfl,hc,hB2⟩:=hrel
  have HC:=Lib.hid hc;clear hc
  have HB2:=Lib.hid hB2;clear hB2
  have HSM:=Lib.hid hsm;clear hsm
  have hall:Chg (Aw b h w.heap.size) w w1∧Chg (Aw b h w.heap.size) w1 w2∧Chg (Aw b h w.heap.size) w2 wr:=
   ⟨HS1.out.aw,Chg.of_grown HG2.out (HS1.out.aw_g (Nat.le_refl _)),HC.out.mono fun k _ hx=>.inr (Nat.le_trans HS1.out.1.size hx)⟩
  by_cases hx:i=m
  ·subst hx
   have HA:=Lib.hid hall;clear hall
   go_wp2_with fail
   go_ret
   have hbl:b<w1.heap.size:=X1.out.lt
   have hX2:XB w2 b ks 1 0 (some ⟨g,0,none⟩) (k2 ks) a o r:=Blk.grown X1.out HG2.out (fun e=>by injection e with e;exact NE.out e)
   have hgq:q≠g:=by have:=GL.out;have:=HQ.out;omega
   refine⟨g,q,rfl,Nat.le_trans HS1.out.1.size HQ.out,hgq,?_,⟨hX2.chg HC.out (by omega),NE.out,true,key_chg HK2.out HC.out (by have:=GL.out;omega)⟩,?_⟩
   ·rw[←tl_all,←HM.out];exact HB2.out
   ·exact((HA.out.1.then HA.out.2.1).then HA.out.2.2).step HS1.out.2
  ·have hlt:i<m:=by omega
   have hlp:i<p.length:=by have:=HM.out;omega
   have e1:(i:Int)<(m:Int):=by omega
   have e2:(0:Int)≤(i:Int):=by omega
   have e3:(i:Int)<1000:=by have:=HM2.out;omega
   have hls:i<(strmL ks u n p.length).length:=by rw[strmL_length];exact hlp
   obtain⟨y,ey⟩:∃y,y=p[i]:=⟨_,rfl⟩
   obtain⟨x,ex⟩:∃x,x=(strmL ks u n p.length)[i]:=⟨_,rfl⟩
   obtain⟨z,ez⟩:∃z,z=y ^^^ x:=⟨_,rfl⟩
   have hrw:=((HR.out.go hall.1).go hall.2.1).go hall.2.2
   obtain⟨b2,o2,rfl,hb2,_,hcell⟩:=hrw.resolve_left (by intro e;have:=bvs_length p;rw[e] at this;simp at this;omega)
   have hcp:=hcell i _ (bvs_at hlp)
   have hcq:wr.cell? ⟨q,i,none⟩=some (bv (strmL ks u n p.length)[i]):=by rw[HB2.out.cell];exact tl_at ks u n p i hlp hls
   have hset:=tl_set ks u n p i hlp hls
   rw[←ey] at hcp hset
   rw[←ex] at hcq hset
   rw[←ez] at hset
   simp only[bv] at hcp hcq
   have hxo:bits .xor .u8 (x.toNat:Int) (y.toNat:Int)=(z.toNat:Int):=by rw[ez];exact xor_b y x
   have fz:=HB2.out.frozen
   have HSET:=Lib.hid hset;clear hset
   have HX:=Lib.hid hx;clear hx
   have HI:=Lib.hid hi;clear hi
   clear ey ex ez hall hrw hcell hb2 hls
   go_wp2_with fail
   refine wp_region_still_tail 10 (by kernel_rfl) (by kernel_rfl) ?_
   simp only[List.take_succ_cons,List.take_zero,List.drop_succ_cons,List.drop_zero]
   change wpStill _ _ wr.drew _ _ _
   repeat still_step
   refine wpStill_nil ?_
   change wpList _ _ _ _ _ wr.drew
   go_wp2_with fail
   go_roundw
   case rel=>
    refine⟨i+1,by omega,by go_num,HC.out.drew.set (.inl HQ.out) _,?_⟩
    have e:Blk wr.drew q 5 (bvs (tl ks u n p i)).toArray:=HB2.out
    have:=e.set i (bv z)
    rw[HSET.out] at this
    exact this
   case measure=>simp [intOf];omega
def Nw (n g i:Nat):Prop:=i<n∨i=g
theorem turn_any (b:Nat) (ks:Nat→UInt8) (h:Option Nat) (a o r u n:Nat) (A:Option Addr) (m c:Nat) (p:List UInt8) (w:World) (hu:u≤255) (hn:n<18446744073709551616) (hm:m=p.length) (hm2:m≤1000) (hr:RdA (Ow b h) w A (bvs p)) (hK:Box w b ks h a o r) :
  Calls Tryz.prog 163 #[.pointer (some ⟨b,0,none⟩),.int .i64 (u:Int),.int .u64 (n:Int),.slice A m c] w fun e w'=>∃g Aq cq,e = .returned (.slice Aq m cq)∧m≤cq∧cq≤1000∧RdA (Nw w.heap.size g) w' Aq (bvs (mixL ks u n p))∧Box w' b ks (some g) a o r∧Step w w' b h g:=by
 rcases Nat.eq_zero_or_pos m with h0 | h0
 ·subst h0
  have hp:mixL ks u n p = []:=List.eq_nil_of_length_eq_zero (by rw[mixL_length];omega)
  refine(turn_none b ks h a o r u n A c w hu hn hK).mono ?_
  rintro e w' ⟨g,rfl,h1,h2⟩
  exact⟨g,none,0,rfl,Nat.le_refl _,by decide,by rw[hp];exact .inl rfl,h1,h2⟩
 ·refine(turn_some b ks h a o r u n A m c p w hu hn hm h0 hm2 hr hK).mono ?_
  rintro e w' ⟨g,q,rfl,h1,h2,h3,h4,h5⟩
  refine⟨g,_,m,rfl,Nat.le_refl _,hm2,.inr ⟨q,0,rfl,h3.lt,?_,fun i v hv=>?_⟩,h4,h5⟩
  ·rintro(hx | hx)
   ·omega
   ·exact h2 hx
  ·rw[Nat.zero_add,h3.cell,List.getElem?_toArray];exact hv
end Go.Proofs.YtfcjeebnkigeaaaGreat.Se
end

section
set_option linter.unusedVariables false
namespace Go.Proofs.YtfcjeebnkigeaaaGreat.Se
open Go.RowKit Go.Proofs.YtfcjeebnkigeaaaGreat.Mem
theorem bv_num (u:Nat) (hu:u≤255):bv (UInt8.ofNat u) = .int .u8 (u:Int):=by
 unfold bv;rw[UInt8.toNat_ofNat',Nat.mod_eq_of_lt (by omega)]
theorem rows_two {w:World} (u:Nat) (hu:u≤255) (A:Option Addr) (m c:Nat) (l:List UInt8) (t t2:TypeId) (hm:m=l.length) (hr:Rd w w.heap.size A (bvs l)) :
  Si.Rows ((w.alloc (.cells #[.int .u8 (u:Int)] t)).alloc (.cells #[.slice (some ⟨w.heap.size,0,none⟩) 1 1,.slice A m c] t2)) ((w.alloc (.cells #[.int .u8 (u:Int)] t)).alloc (.cells #[.slice (some ⟨w.heap.size,0,none⟩) 1 1,.slice A m c] t2)).heap.size (some ⟨w.heap.size+1,0,none⟩) [[UInt8.ofNat u],l]:=by
 have h:=Si.rows_alloc (w:=w.alloc (.cells #[.int .u8 (u:Int)] t)) t2 [.slice (some ⟨w.heap.size,0,none⟩) 1 1,.slice A m c] [[UInt8.ofNat u],l] #[.slice (some ⟨w.heap.size,0,none⟩) 1 1,.slice A m c] rfl rfl (fun i hi=>by
  match i,hi with
  |0,_=>
   refine⟨some ⟨w.heap.size,0,none⟩,1,rfl,?_⟩
   have:=Si.rd_words w t #[.int .u8 (u:Int)] [.int .u8 (u:Int)] rfl w.heap.size rfl
   rw[show bvs [[UInt8.ofNat u],l][0] = [.int .u8 (u:Int)] from by show [bv (UInt8.ofNat u)]=_;rw[bv_num u hu]]
   exact this.more (by simp)
  |1,_=>exact⟨A,c,by rw[hm];rfl,(hr.alloc (Nat.le_refl _) _).more (by simp)⟩)
 have e:(w.alloc (.cells #[.int .u8 (u:Int)] t)).heap.size=w.heap.size+1:=by simp
 rw[e] at h
 exact h
set_option maxRecDepth 100000 in
set_option maxHeartbeats 1600000 in
theorem tag_any (b:Nat) (ks:Nat→UInt8) (h:Option Nat) (a o r u:Nat) (A:Option Addr) (m c:Nat) (l:List UInt8) (w:World) (hu:u≤255) (hm:m=l.length) (hm2:m≤1000) (hr:RdA (Ow b h) w A (bvs l)) (hK:Box w b ks h a o r) :
  Calls Tryz.prog 225 #[.pointer (some ⟨b,0,none⟩),.int .i64 (u:Int),.slice A m c] w fun e w'=>∃g,e = .returned (.int .u64 (tagL ks u l:Nat))∧Box w' b ks (some g) a o r∧Step w w' b h g:=by
 have cn:=need_any b ks h a o r w hK
 have hsum:∀w1,Rd w1 w1.heap.size A (bvs l)→_:=fun w1 h1=>Si.sum_any (k2 ks) (some ⟨w1.heap.size+1,0,none⟩) 2 2 [[UInt8.ofNat u],l] _ rfl (by decide) (by simp [Si.flat];omega) (rows_two u hu A m c l 5 30 hm h1)
 have hfl:Si.flat [[UInt8.ofNat u],l]=UInt8.ofNat u :: l:=by simp [Si.flat]
 rw[hfl] at hsum
 have i2:=info16 (k2 ks)
 have hk16:Si.key16 (k2 ks)=Sp.key16 (k2 ks):=rfl
 rw[hk16] at hsum
 obtain⟨T,eT⟩:∃T,T=tagL ks u l:=⟨_,rfl⟩
 have hT:∀e,e=Ending.returned (Si.wv (Si.sumOf (k2 ks) (UInt8.ofNat u :: l)))→e = .returned (.int .u64 (T:Int)):=fun e h=>by rw[h,eT];rfl
 rw[←eT]
 have HR:=Lib.hid (hr.aw (Nat.le_refl _));clear hr
 have hu1:(u:Int)≤255:=by omega
 have hu2:(0:Int)≤(u:Int):=by omega
 have hu3:(u:Int) % 256=(u:Int):=by omega
 have hu4:IntKind.u8.wrap (u:Int)=(u:Int):=by rw[IntKind.wrap_u8'];exact hu3
 obtain⟨ds,eds⟩:∃ds,ds=Sp.key16 (k2 ks):=⟨_,rfl⟩
 have hrd:∀w1 g,Box w1 b ks (some g) a o r→w1.rangeAt b 36 ds.toList:=fun w1 g hb=>by rw[eds];exact XB.rangeD hb.1
 rw[←eds] at i2 hsum
 have RD:=Lib.hid hrd;clear hrd
 have I2:=Lib.hid i2;clear i2
 have HT:=Lib.hid hT;clear hT
 clear hK hm hm2 hu eds eT hfl hk16
 go_enter Tryz.func225,Tryz.ntmps225
 go_wp2_with (first
  |(go_at_call 226;refine Calls.mono cn ?_;rintro e w1 ⟨rfl,g,hb1,hs1⟩;clear cn;have hs:=hsum w1 (HR.out.go hs1.aw).rd;clear hsum;have hrr:=RD.out w1 g hb1;have HRR:=Lib.hid hrr;have HB1:=Lib.hid hb1;have HS1:=Lib.hid hs1;clear hb1 hs1 hrr)
  |(refine load_cells (by rfl) 233 (.tmp 11) (by rfl) b 36 (by rfl) ds _ HRR.out Tryz.underlying233 (by rfl) I2.out ?_)
  |(go_at_call 259;refine Calls.mono hs ?_;rintro e w2 ⟨he,hb2⟩;have he:=HT.out e he;subst he;have HB2:=Lib.hid hb2;clear hb2 hs)
  |fail)
 go_ret
 have hb:=((Below.refl w1.heap.size w1).alloc (Nat.le_refl _) (Obj.cells #[.int .u8 (u:Int)] 5)).alloc (by simp) (Obj.cells #[.slice (some ⟨w1.heap.size,0,none⟩) 1 1,.slice A m c] 30)
 have hb3:=hb.trans (HB2.out.mono (by simp;omega))
 exact⟨g,rfl,HB1.out.below hb3,HS1.out.then (Chg.of_below (S:=fun _=>False) hb3) (fun _ _ x=>x.elim)⟩
end Go.Proofs.YtfcjeebnkigeaaaGreat.Se
end
