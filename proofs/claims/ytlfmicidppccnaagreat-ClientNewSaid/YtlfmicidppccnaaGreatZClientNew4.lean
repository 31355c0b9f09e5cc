import Derived.Test.YtlfmicidppccnaaGreatZClientNew3
set_option maxHeartbeats 25600000
set_option maxRecDepth 100000
set_option linter.unusedVariables false
set_option linter.unusedSimpArgs false
namespace Go.Proofs.YtlfmicidppccnaaGreat
namespace Se
open Go.RowKit Ad
def big:Nat→List UInt8→Nat
 |a,[]=>a
 |a,b :: l=>big (a*256+b.toNat) l
def n8 (l:List UInt8):Nat:=big 0 (l.take 8)
def sn (u n:Nat):Nat:=(n*256+u) % 18446744073709551616
def k2 (ks:Nat→UInt8) (i:Nat):UInt8:=ks (16+i)
def tagL (ks:Nat→UInt8) (u:Nat) (l:List UInt8):Nat:=(Si.sumOf (k2 ks) (UInt8.ofNat u :: l)).toNat
def headL (l:List UInt8):List UInt8:=l.take (l.length - 8)
def JT (l:List UInt8):List UInt8:=l.drop (l.length - 8)
def isL (ks:Nat→UInt8) (u:Nat) (l:List UInt8):Bool:=decide (16≤l.length)&&decide (l.length≤800)&&decide (n8 l≤1099511627776)&&decide (tagL ks u (headL l)=n8 (JT l))
structure Chg (S:Nat→Prop) (w w':World):Prop where
 os:w'.os=w.os
 tape:w'.tape=w.tape
 output:w'.output=w.output
 size:w.heap.size≤w'.heap.size
 block:∀k,k<w.heap.size→¬S k→w'.heap[k]? = w.heap[k]?
section
variable {S T S':Nat→Prop} {a w w' c:World} {A:Option Addr} {xs:List Value} {g b:Nat} {t:TypeId} {cs:Array Value}
theorem Chg.refl (S:Nat→Prop) (w:World):Chg S w w:=⟨rfl,rfl,rfl,Nat.le_refl _,fun _ _ _=>rfl⟩
theorem Chg.trans (h:Chg S a w) (k:Chg T w c) (hs:∀i,i<a.heap.size→T i→S i):Chg S a c:=
 ⟨k.os.trans h.os,k.tape.trans h.tape,k.output.trans h.output,Nat.le_trans h.size k.size,fun i hi hn=>(k.block i (Nat.lt_of_lt_of_le hi h.size) (fun ht=>hn (hs i hi ht))).trans (h.block i hi hn)⟩
theorem Chg.mono (h:Chg S a w) (hs:∀i,i<a.heap.size→S i→T i):Chg T a w:=⟨h.os,h.tape,h.output,h.size,fun i hi hn=>h.block i hi (fun x=>hn (hs i hi x))⟩
theorem Chg.of_below (h:Below w.heap.size w w'):Chg S w w':=⟨h.os,h.tape,h.output,h.size,fun i hi _=>h.block i hi⟩
theorem Chg.of_grown (h:w.grownBy w' (some g)) (hs:S g):Chg S w w':=⟨h.os,h.tape,h.output,h.size,fun i hi hn=>h.block i hi (fun e=>by injection e with e;subst e;exact hn hs)⟩
theorem Chg.below (h:Chg S a w) {B:Nat} (hB:B≤a.heap.size) (hs:∀i,i<a.heap.size→S i→B≤i):Below B a w:=
 ⟨h.os,h.tape,h.output,h.size,fun i hi=>h.block i (by omega) (fun x=>by have:=hs i (by omega) x;omega)⟩
theorem Chg.blk (h:Chg S w w') (hb:Blk w g t cs) (hs:¬S g):Blk w' g t cs:=(h.block g hb.lt hs).trans hb
theorem Chg.own (h:Chg S w w') {base n:Nat} {v:Value} (ho:w.ownsRow base t 1 v n xs) (hs:∀k,v.ownBlock=some k→¬S k):w'.ownsRow base t 1 v n xs:=by
 refine⟨ho.1,?_⟩;rcases ho.2 with hn | ⟨g,cap,cur,rfl,hb,hgg,rest⟩
 ·exact .inl hn
 ·exact .inr ⟨g,cap,cur,rfl,hb,(h.block g (Array.getElem?_eq_some_iff.1 hgg).1 (hs g rfl)).trans hgg,rest⟩
theorem Chg.set (h:Chg S a w) {p:Addr} (hp:S p.block∨a.heap.size≤p.block) (u:Value):Chg S a (w.setCell p u):=
 ⟨h.os,h.tape,h.output,by simpa [World.setCell] using h.size,fun i hi hn=>(Below.heap_setCell w p u i (by
  rintro rfl;rcases hp with hp | hp
  ·exact hn hp
  ·omega)).trans (h.block i hi hn)⟩
def RdA (S:Nat→Prop) (w:World) (A:Option Addr) (xs:List Value):Prop:=
 xs = []∨∃b o,A=some ⟨b,o,none⟩∧b<w.heap.size∧¬S b∧∀i u,xs[i]? = some u→w.cell? ⟨b,o+i,none⟩=some u
theorem RdA.keep (h:RdA S w A xs) (hc:Chg T w w') (ht:∀i,i<w.heap.size→T i→S i) (hs:∀i,i<w.heap.size→S' i→S i):RdA S' w' A xs:=by
 rcases h with h | ⟨b,o,h1,h2,h4,h3⟩
 ·exact .inl h
 ·exact .inr ⟨b,o,h1,Nat.lt_of_lt_of_le h2 hc.size,fun x=>h4 (hs b h2 x),fun i u hu=>(World.cell?_of_block (a:=⟨b,o+i,none⟩) (hc.block b h2 (fun x=>h4 (ht b h2 x)))).trans (h3 i u hu)⟩
theorem RdA.mono (h:RdA S w A xs) (hs:∀i,i<w.heap.size→S' i→S i):RdA S' w A xs:=h.keep (Chg.refl (fun _=>False) w) (fun _ _ x=>x.elim) hs
end
def Ea (ks:Nat→UInt8) (d s:Int) (p:Option Addr) (dg:Nat→UInt8) (a o r:Nat):Array Value:=
 ((List.range 32).map (fun i=>bv (ks i))++(([.int .u32 d,.int .i32 s,.int .u32 0,.pointer p]:List Value)++((List.range 16).map (fun j=>bv (dg j))++([.int .i64 (a:Int),.int .i64 (o:Int),.int .i64 (r:Int)]:List Value)))).toArray
def XB (w:World) (b:Nat) (ks:Nat→UInt8) (d s:Int) (p:Option Addr) (dg:Nat→UInt8) (a o r:Nat):Prop:=Blk w b 210 (Ea ks d s p dg a o r)
section
variable {w w':World} {b:Nat} {ks dg:Nat→UInt8} {d s:Int} {p:Option Addr} {a o r:Nat}
theorem Ft (i:Nat) (h:i<4):(Ea ks d s p dg a o r)[32+i]? = ([.int .u32 d,.int .i32 s,.int .u32 0,.pointer p]:List Value)[i]?:=by
 rw[Ea,List.getElem?_toArray,List.getElem?_append_right (by simp),List.getElem?_append_left (by simpa using h)];simp
theorem XB.cell (h:XB w b ks d s p dg a o r) (i:Nat):w.cell? ⟨b,i,none⟩=(Ea ks d s p dg a o r)[i]?:=Blk.cell h i
theorem XB.cs (h:XB w b ks d s p dg a o r):w.cell? ⟨b,33,none⟩=some (.int .i32 s):=(h.cell 33).trans (Ft 1 (by decide))
theorem XB.lt (h:XB w b ks d s p dg a o r):b<w.heap.size:=Blk.lt h
theorem XB.chg {S:Nat→Prop} (h:XB w b ks d s p dg a o r) (hc:Chg S w w') (hs:¬S b):XB w' b ks d s p dg a o r:=hc.blk h hs
end
def JZ (cs:Array Value):Nat→List Value→Array Value
 |_,[]=>cs
 |o,v :: l=>JZ (cs.setIfInBounds o v) (o+1) l
abbrev Hj:Nat→UInt8:=fun _=>0
def Box (w:World) (b:Nat) (ks:Nat→UInt8) (h:Option Nat) (a o r:Nat):Prop:=
 match h with
 |none=>XB w b ks 0 0 none Hj a o r
 |some g=>XB w b ks 1 0 (some ⟨g,0,none⟩) (k2 ks) a o r∧g≠b∧∃m,Sp.Key w g ks m
def Ow (b:Nat) (h:Option Nat) (i:Nat):Prop:=i=b∨h=some i
theorem Box.lt {w:World} {b:Nat} {ks:Nat→UInt8} {h:Option Nat} {a o r:Nat} (hx:Box w b ks h a o r):b<w.heap.size:=by
 cases h with
 |none=>exact XB.lt hx
 |some g=>exact XB.lt hx.1
theorem Box.lt_g {w:World} {b g:Nat} {ks:Nat→UInt8} {a o r:Nat} (hx:Box w b ks (some g) a o r):g<w.heap.size:=by
 obtain⟨_,_,m,hk⟩:=hx;exact hk.lt
theorem Box.own_lt {w:World} {b:Nat} {ks:Nat→UInt8} {h:Option Nat} {a o r:Nat} (hx:Box w b ks h a o r) (i:Nat) (hi:Ow b h i):i<w.heap.size:=by
 rcases hi with hi | hi
 ·subst hi;exact hx.lt
 ·subst hi;exact hx.lt_g
theorem Jf {S:Nat→Prop} {w w':World} {g:Nat} {ks:Nat→UInt8} {m:Bool} (h:Sp.Key w g ks m) (hc:Chg S w w') (hs:¬S g):Sp.Key w' g ks m:=by
 cases m with
 |false=>exact hc.blk h hs
 |true=>exact hc.blk h hs
theorem Box.chg {S:Nat→Prop} {w w':World} {b:Nat} {ks:Nat→UInt8} {h:Option Nat} {a o r:Nat} (hx:Box w b ks h a o r) (hc:Chg S w w') (hs:∀i,Ow b h i→¬S i):Box w' b ks h a o r:=by
 cases h with
 |none=>exact XB.chg hx hc (hs b (.inl rfl))
 |some g=>
  obtain⟨h1,h2,m,h3⟩:=hx;exact⟨h1.chg hc (hs b (.inl rfl)),h2,m,Jf h3 hc (hs g (.inr rfl))⟩
theorem Box.below {w w':World} {b:Nat} {ks:Nat→UInt8} {h:Option Nat} {a o r:Nat} (hx:Box w b ks h a o r) (hc:Below w.heap.size w w'):Box w' b ks h a o r:=
 hx.chg (S:=fun _=>False) (Chg.of_below hc) (fun _ _ x=>x)
def Step (w w':World) (b:Nat) (h:Option Nat) (g:Nat):Prop:=Chg (Ow b h) w w'∧(h=some g∨(h=none∧w.heap.size≤g))
theorem Step.own {w w':World} {b g:Nat} {h:Option Nat} (hs:Step w w' b h g):∀i,i<w.heap.size→Ow b (some g) i→Ow b h i:=by
 intro i hi hx;rcases hx with hx | hx
 ·exact .inl hx
 ·injection hx with hx
  subst hx;rcases hs.2 with h1 | ⟨_,h1⟩
  ·exact .inr h1
  ·omega
theorem Step.trans {a w c:World} {b g g':Nat} {h:Option Nat} (h1:Step a w b h g) (h2:Step w c b (some g) g'):g'=g∧Step a c b h g:=by
 have e:g'=g:=by
  rcases h2.2 with h3 | ⟨h3,_⟩
  ·injection h3 with h3;exact h3.symm
  ·cases h3
 exact⟨e,h1.1.trans h2.1 h1.own,h1.2⟩
theorem Step.then {a w c:World} {b g:Nat} {h:Option Nat} {S:Nat→Prop} (h1:Step a w b h g) (h2:Chg S w c) (hs:∀i,i<a.heap.size→S i→Ow b h i):Step a c b h g:=⟨h1.1.trans h2 hs,h1.2⟩
def Az (ks:Nat→UInt8):Array Value:=((List.range 32).map (fun i=>bv (ks i))).toArray
theorem Aq {P:Program} {ops:Array Oper} {rest:List Oper} {op:Oper} {a:Act} {w:World} {Q:Exit→Act→World→Prop} (hgd:op.guard=none) (ty:TypeId) (x:Operand) (ho:op.op = .load ty x)
  (g o:Nat) (hx:a.eval x = .pointer (some ⟨g,o,none⟩)) (cs:Array Value) (d:TypeDesc) (hc:w.rangeAt g o cs.toList)
  (hu:P.underlying ty=some d) (hd:d.isRow=true) (hi:(P.info? ty).map (·.size)=some cs.size)
  (h:wpList P ops Q rest (a.put op.dst (.agg cs)) w):wpList P ops Q (op :: rest) a w:=
 wpList_load_mid hgd ty x ho g o hx cs.toList d hc hu hd (by rw[Array.length_toList];exact hi) (by simpa using h)
theorem Bd (ks:Nat→UInt8):(Az ks).size=32:=by simp [Az]
theorem Ka (ks:Nat→UInt8):(Tryz.prog.info? 35).map (·.size)=some (Az ks).size:=by rw[Bd];kernel_rfl
theorem one32 (ks:Nat→UInt8):(Az ks).all (·.oneCell')=true:=by simp [Az,bv,Value.oneCell']
theorem DN (ks:Nat→UInt8) (w:World):Calls Tryz.prog 65 #[.agg (Az ks)] w fun e w'=>∃b,e = .returned (.pointer (some ⟨b,0,none⟩))∧w.heap.size≤b∧Box w' b ks none 0 0 0∧Below w.heap.size w w':=by
 have hi:=Ka ks;obtain⟨cs,ecs⟩:∃cs,cs=Az ks:=⟨_,rfl⟩;rw[←ecs] at hi⊢;have hz:cs.size=32:=by rw[ecs];exact Bd ks
 have HI:=I hi;clear hi;have EC:=I ecs;clear ecs;go_enter Tryz.func65,Tryz.ntmps65
 go_wp2_with (first
  |(refine Aq (by rfl) 35 (.tmp 1) (by rfl) w.heap.size 0 (by rfl) cs _ (Si.Ak (Blk.new w 35 cs)) Tryz.underlying35 (by rfl) HI.o ?_)
  |fail)
 go_ret;refine⟨w.heap.size+1,rfl,Nat.le_succ _,?_,((Below.refl w.heap.size w).alloc Ae _).alloc (by simp) _⟩;exact Sp.Blk.new_of (w.alloc _) _ 210 _ (Ea ks 0 0 none Hj 0 0 0) (by rw[EC.o];kernel_rfl) (by simp)
theorem add_one (p:Addr) (a:Nat) (w:World) (ha:a<1000000) (hc:w.cell? p=some (.int .i64 (a:Int))) (hz:w.frozen? p=false) :
  Calls Tryz.prog 111 #[.pointer (some p),.int .i64 1] w fun e w'=>e = .returned (.int .i64 ((a+1:Nat):Int))∧w'=w.setCell p (.int .i64 ((a+1:Nat):Int)):=by
 have hadd:=run_call_add (P:=Tryz.prog) Tryz.func159 (by kernel_rfl) (by kernel_rfl) (by kernel_rfl) .i64 (by kernel_rfl) (y:=1) (s:=((a+1:Nat):Int)) hc hz (by
  have h:IntKind.i64.wrap ((a:Int)+1)=((a+1:Nat):Int):=by rw[IntKind.wrap_i64];omega
  simp [go_sem,h])
 clear hc hz ha;go_enter Tryz.func111,Tryz.ntmps111
 go_wp2
 go_ret;exact⟨rfl,rfl⟩
end Se
namespace Se
open Go.RowKit Ad
end Se
namespace Se
open Go.RowKit Ad
def Aw (b:Nat) (h:Option Nat) (n i:Nat):Prop:=Ow b h i∨n≤i
section
variable {w w' a c:World} {b g n:Nat} {h:Option Nat} {A:Option Addr} {xs:List Value} {S:Nat→Prop}
theorem Chg.then (h:Chg S a w) (k:Chg S w c):Chg S a c:=h.trans k fun _ _ x=>x
end
def Nw (n g i:Nat):Prop:=i<n∨i=g
end Se
namespace Se
open Go.RowKit Ad
end Se
namespace OpenP
open Go.Joins Go.ChangeShapes Go.WideShapes Go.ChangeAt Go.RowKit Go.Deep Go.Proofs.YtlfmicidppccnaaGreat Ad Rg
theorem cut {α:Type} (cs:List α) (o c:Nat):cs.drop o=(cs.drop o).take c++cs.drop (o+c):=by
 rw[←List.drop_drop];exact(List.take_append_drop c _).symm
section
variable {H:Type} {enc:TypeId×Value→H} {W:World}
theorem c_str:Tryz.prog.cellsOf 9=1:=by kernel_rfl
theorem c_pr:Tryz.prog.cellsOf 40=2:=by kernel_rfl
theorem Iw {n:Nat} {cs:List Value} {x:DataW H×List MemPlace} (h:DataW.trod enc Tryz.prog W 0 (fun _=>true) true n 9 cs=some x) (hw:∀n∈DataW.weights Tryz.prog 9 x.1,n≤reachBytes):∃l:List UInt8,cs = [.string ⟨l.toArray⟩]∧l.length≤reachBytes:=by
 obtain⟨s,hs,hx,hz⟩:=DataW.trod_string Tryz.underlying9 h;exact⟨s.data.toList,by rw[hs,←Ad.FM s],hw _ (by rw[hx];simp [DataW.weights])⟩
theorem Kb {n:Nat} {cs:List Value} {x:DataW H×List MemPlace} (h:DataW.trod enc Tryz.prog W 0 (fun _=>true) true n 40 cs=some x) (hw:∀n∈DataW.weights Tryz.prog 40 x.1,n≤reachBytes):∃p:Pr,cs = [.string ⟨p.1.toArray⟩,.string ⟨p.2.toArray⟩]∧p.1.length≤reachBytes∧p.2.length≤reachBytes:=by
 obtain⟨y0,y1,m,hx,hl,h0,h1⟩:=trod_struct2 Tryz.underlying40 h;simp only[c_str] at h0 h1;have fw:=fun(j:Nat) (t:TypeId) (d:DataW H) (ht:[9,9][j]? = some t) (hd:[y0.1,y1.1][j]? = some d) (n:Nat) (hn:n∈d.weights Tryz.prog t)=>hw n (by rw[hx];simp only[DataW.weights,Tryz.underlying40];exact DataW.weights_mem_each ht hd n hn)
 obtain⟨l0,e0,b0⟩:=Iw h0 (fw 0 _ _ rfl rfl);obtain⟨l1,e1,b1⟩:=Iw h1 (fw 1 _ _ rfl rfl);rw[c_pr] at hl;refine⟨(l0,l1),?_,b0,b1⟩;have k0:=cut cs 0 1;have k1:=cut cs 1 1;rw[e0] at k0;rw[show 0+1=1 from rfl,k1,e1,List.drop_of_length_le (show cs.length≤1+1 by omega)] at k0;exact k0
theorem Gg {P:Program} {t:TypeId} {fs:Array Field} (ht:P.underlying t=some (.struct fs)) {r:Reach} {b0:Nat} {v:Value} {d:DataW H} {ps:List MemPlace} (hv:Value.okWide P W r b0 t v) (h:DataW.Trod enc P W 0 (fun _=>true) true t v d ps) :
  ∃cs:Array Value,∃n:Nat,v=Value.agg cs∧DataW.trod enc P W 0 (fun _=>true) true n t cs.toList=some (d,ps):=by
 obtain⟨cs,hcs,_⟩:=okWide_struct ht hv;obtain⟨n,hf⟩:=h;rw[hcs] at hf;exact⟨cs,n,hcs,hf⟩
end
end OpenP
namespace Se
open Go.RowKit Ad
def Dq (w w':World) (b:Nat) (h h':Option Nat):Prop:=Chg (Ow b h) w w'∧(h'=h∨(h=none∧∃g,h'=some g∧w.heap.size≤g))
theorem Step.o {w w':World} {b g:Nat} {h:Option Nat} (hs:Step w w' b h g):Dq w w' b h (some g):=
 ⟨hs.1,hs.2.imp (fun e=>e.symm) (fun e=>⟨e.1,g,rfl,e.2⟩)⟩
theorem Dq.own {w w':World} {b:Nat} {h h':Option Nat} (hs:Dq w w' b h h'):∀i,i<w.heap.size→Ow b h' i→Ow b h i:=by
 intro i hi hx;rcases hs.2 with rfl | ⟨_,g,rfl,hg⟩
 ·exact hx
 ·rcases hx with hx | hx
  ·exact .inl hx
  ·injection hx with hx;omega
theorem Dq.trans {a w c:World} {b:Nat} {h h1 h2:Option Nat} (s1:Dq a w b h h1) (s2:Dq w c b h1 h2):Dq a c b h h2:=by
 refine⟨s1.1.trans s2.1 s1.own,?_⟩;rcases s1.2 with rfl | ⟨e,g,rfl,hg⟩
 ·rcases s2.2 with rfl | ⟨e,g,rfl,hg⟩
  ·exact .inl rfl
  ·exact .inr ⟨e,g,rfl,Nat.le_trans s1.1.size hg⟩
 ·rcases s2.2 with rfl | ⟨e2,_⟩
  ·exact .inr ⟨e,g,rfl,hg⟩
  ·cases e2
theorem Dq.drewN {w w':World} {b:Nat} {h h':Option Nat} (hs:Dq w w' b h h') (k:Nat):Dq w (w'.drewN k) b h h':=⟨⟨hs.1.os,hs.1.tape,hs.1.output,hs.1.size,hs.1.block⟩,hs.2⟩
theorem RdA.take {S:Nat→Prop} {w:World} {A:Option Addr} {l:List UInt8} (h:RdA S w A (bvs l)) (k:Nat):RdA S w A (bvs (l.take k)):=by
 rcases h with h | ⟨b,o,h1,h2,h3,h4⟩
 ·left
  have:l = []:=List.map_eq_nil_iff.1 h;rw[this,List.take_nil];rfl
 ·refine .inr ⟨b,o,h1,h2,h3,fun i u hu=>h4 i u ?_⟩
  unfold bvs at hu⊢;rw[List.map_take,List.getElem?_take] at hu
  split at hu
  ·exact hu
  ·cases hu
theorem RdA.drop {S:Nat→Prop} {w:World} {b o:Nat} {l:List UInt8} (h:RdA S w (some ⟨b,o,none⟩) (bvs l)) (k:Nat):RdA S w (some ⟨b,o+k,none⟩) (bvs (l.drop k)):=by
 rcases h with h | ⟨b',o',h1,h2,h3,h4⟩
 ·left
  have:l = []:=List.map_eq_nil_iff.1 h;rw[this,List.drop_nil];rfl
 ·injection h1 with h1
  injection h1 with e1 e2;subst e1 e2;refine .inr ⟨b,o+k,rfl,h2,h3,fun i u hu=>?_⟩;unfold bvs at hu;rw[List.map_drop,List.getElem?_drop] at hu;have:=h4 (k+i) u hu
  rwa [←Nat.add_assoc] at this
end Se
namespace Se
open Go.RowKit Ad
end Se
namespace Se
open Go.RowKit Ad
def k1:Nat→UInt8:=fun i=>if i=0 then 1 else 0
end Se
namespace SeL
open Go.RowKit Ad Se
end SeL
namespace SpL
open Go.RowKit Ad Sp
def Gh (w:World) (g:Nat) (cs:Array Value):Prop:=w.rangeAt g 0 cs.toList
theorem Gh.grown {w w':World} {g:Nat} {cs:Array Value} {row:Option Nat} (h:Gh w g cs) (hg:g<w.heap.size) (hb:w.grownBy w' row) (hr:row≠some g):Gh w' g cs:=fun j v hv=>
 (World.cell?_of_block (a:=⟨g,0+j,none⟩) (hb.block g hg (fun e=>hr e.symm))).trans (h j v hv)
theorem Rd.take {w:World} {B:Nat} {A:Option Addr} {xs:List Value} (h:Rd w B A xs) (m:Nat):Rd w B A (xs.take m):=by
 rcases h with h | ⟨b,o,h1,h2,h3⟩
 ·rw[h];exact .inl (by simp)
 ·refine .inr ⟨b,o,h1,h2,fun i u hu=>h3 i u ?_⟩
  rw[List.getElem?_take] at hu
  split at hu
  ·exact hu
  ·cases hu
end SpL
namespace Se
open Go.RowKit Ad
def hk (f:Nat→UInt8) (i j:Nat):UInt8:=if j<i then f j else 0
end Se
namespace Reg
open Go.RowKit Ad
section
variable {P:Program} {ops:Array Oper} {Q:Exit→Act→World→Prop} {md:Region.Mode}
theorem Eb {S1 S2:World→Prop} (hS:∀w,S2 w→S1 w):∀(f:Nat) (l:Array Bool) (a:Act) (w:World),wpAnyH P md ops Q S2 f l a w→wpAnyH P md ops Q S1 f l a w
 |0,_,_,_,h=>h
 |f+1,_,_,_,h=>⟨h.1,fun i hi=>wpOp_mono (fun a' w' hh=>⟨hS w' hh.1,Eb hS f _ a' w' hh.2⟩) (h.2 i hi)⟩
def Ec (W w:World):Prop:=Below W.heap.size W w
theorem Jg {W w:World} {f:Nat} {l:Array Bool} {a:Act} (hb:Below W.heap.size W w) (h:wpAnyH P md ops Q (Ec w) f l a w):wpAnyH P md ops Q (Ec W) f l a w:=
 Eb (fun _ h'=>bt hb h') f l a w h
theorem CU (n:Nat) {id:Nat} {a:Act} {w:World} (hn:ops.size=n) (hm:P.follows .mixedOrders=true) (h:wpAnyH P .any ops Q (Ec w.drew) n (Array.replicate n false) a w.drew):(Code.region id ops true).wp P Q a w:=by
 subst hn;exact wp_region_held_drew hm Af (fun _=>h)
theorem CD (i:Nat) {dst:Option Tmp} {op:Op} {ty:TypeId} {pos:String} {after:Array _} {guard:Option (Nat×Bool)} {v:Value} {fuel:Nat} {listed:Array Bool} {a:Act} {w:World} (hi:ops[i]? = some ⟨dst,op,ty,pos,after,guard⟩)
  (hs:Region.noSelect ops=true) (hf:Region.free md ops listed i=true) (hr:(Region.ready md ops listed).contains i=true)
  (hQ:∀c a w,Q (.panic c) (a.put dst v) w→Q (.panic c) a w)
  (hw:Region.wanted ⟨dst,op,ty,pos,after,guard⟩ (yielded ops a.tmps)=true) (hy:∀w',Ec w w'→(execOp a.eval ⟨dst,op,ty,pos,after,guard⟩).run P w' = .ok (.value v) w')
  (h:wpAnyH P md ops Q (Ec w) fuel (listed.setIfInBounds i true) (a.put dst v) w):wpAnyH P md ops Q (Ec w) (fuel+1) listed a w:=
 wpAnyH_take hi hs hf hr hQ (.inl ⟨hw,hy⟩) Af h
theorem DO (i:Nat) {dst:Option Tmp} {op:Op} {ty:TypeId} {pos:String} {after:Array _} {guard:Option (Nat×Bool)} {fuel:Nat} {listed:Array Bool} {a:Act} {w:World} (hi:ops[i]? = some ⟨dst,op,ty,pos,after,guard⟩)
  (hr:Region.ready md ops listed = [i]) (hw:Region.wanted ⟨dst,op,ty,pos,after,guard⟩ (yielded ops a.tmps)=true) (f:FuncId) (args:Array Value)
  (hx:(execOp a.eval ⟨dst,op,ty,pos,after,guard⟩).run P w = .ok (.enter f args) w)
  (h:Calls P f args w fun e w'=>∃v,e = .returned v∧Below w.heap.size w w'∧wpAnyH P md ops Q (Ec w') fuel (listed.setIfInBounds i true) (a.put dst v) w'):wpAnyH P md ops Q (Ec w) (fuel+1) listed a w:=by
 refine wpAnyH_all hr (by simp) fun j hj=>?_
 obtain rfl:j=i:=by simpa using hj
 unfold wpOp;simp only[hi];rw[if_pos hw]
 left
 unfold Oper.wp;rw[hx];exact h.mono fun e w' hh=>by
  obtain⟨v,rfl,hb,hh⟩:=hh;exact⟨hb,Jg hb hh⟩
end
section
variable {P:Program} {ops:Array Oper} {Q:Exit→Act→World→Prop} {md:Region.Mode}
def Eff (P:Program) (md:Region.Mode) (ops:Array Oper) (Q:Exit→Act→World→Prop) (S:World→Prop) (fuel:Nat) (listed:Array Bool) (a:Act) (w:World) (i:Nat):Prop:=
 ∃(dst:Option Tmp) (op:Op) (ty:TypeId) (pos:String) (after:Array _) (guard:Option (Nat×Bool)) (v:Value) (w':World),ops[i]? = some ⟨dst,op,ty,pos,after,guard⟩∧Region.wanted ⟨dst,op,ty,pos,after,guard⟩ (yielded ops a.tmps)=true∧(execOp a.eval ⟨dst,op,ty,pos,after,guard⟩).run P w = .ok (.value v) w'∧S w'∧wpAnyH P md ops Q S fuel (listed.setIfInBounds i true) (a.put dst v) w'
end
section
variable {P:Program} {ops:Array Oper} {Q:Exit→Act→World→Prop} {md:Region.Mode} {S:World→Prop}
theorem Bp (S:World→Prop) (n:Nat) {id:Nat} {a:Act} {w:World} (hn:ops.size=n) (hm:P.follows .mixedOrders=true) (hS:S w.drew) (h:wpAnyH P .any ops Q S n (Array.replicate n false) a w.drew):(Code.region id ops true).wp P Q a w:=by
 subst hn;exact wp_region_held_drew hm hS (fun _=>h)
theorem EZ (i:Nat) {dst:Option Tmp} {op:Op} {ty:TypeId} {pos:String} {after:Array _} {guard:Option (Nat×Bool)} {v:Value} {fuel:Nat} {listed:Array Bool} {a:Act} {w:World} (hi:ops[i]? = some ⟨dst,op,ty,pos,after,guard⟩)
  (hs:Region.noSelect ops=true) (hf:Region.free md ops listed i=true) (hr:(Region.ready md ops listed).contains i=true)
  (hQ:∀c a w,Q (.panic c) (a.put dst v) w→Q (.panic c) a w) (hS:S w)
  (hw:Region.wanted ⟨dst,op,ty,pos,after,guard⟩ (yielded ops a.tmps)=true) (hy:∀w',S w'→(execOp a.eval ⟨dst,op,ty,pos,after,guard⟩).run P w' = .ok (.value v) w')
  (h:wpAnyH P md ops Q S fuel (listed.setIfInBounds i true) (a.put dst v) w):wpAnyH P md ops Q S (fuel+1) listed a w:=
 wpAnyH_take hi hs hf hr hQ (.inl ⟨hw,hy⟩) hS h
theorem tq (i : Nat) {dst : Option Tmp} {op : Op} {ty : TypeId} {pos : String} {after : Array _} {guard : Option (Nat × Bool)} {v : Value} {fuel : Nat} {listed : Array Bool} {a : Act} {w : World} (hi : ops[i]? = some ⟨dst, op, ty, pos, after, guard⟩) (hS : S w)
    (hy : ∀ w', S w' → (execOp a.eval ⟨dst, op, ty, pos, after, guard⟩).run P w' = .ok (.value v) w')
    (h : wpAnyH P md ops Q S fuel (listed.setIfInBounds i true) (a.put dst v) w)
    (hs : Region.noSelect ops = true := by kernel_rfl) (hf : Region.free md ops listed i = true := by kernel_rfl) (hr : (Region.ready md ops listed).contains i = true := by kernel_rfl)
    (hQ : ∀ c a w, Q (.panic c) (a.put dst v) w → Q (.panic c) a w := by exact fun _ _ _ h => h)
    (hw : Region.wanted ⟨dst, op, ty, pos, after, guard⟩ (yielded ops a.tmps) = true := by rfl) : wpAnyH P md ops Q S (fuel + 1) listed a w :=
  EZ i hi hs hf hr hQ hS hw hy h
theorem Gi (i:Nat) {dst:Option Tmp} {op:Op} {ty:TypeId} {pos:String} {after:Array _} {guard:Option (Nat×Bool)} {fuel:Nat} {listed:Array Bool} {a:Act} {w:World} (w':World) (hi:ops[i]? = some ⟨dst,op,ty,pos,after,guard⟩)
  (hr:Region.ready md ops listed = [i]) (hw:Region.wanted ⟨dst,op,ty,pos,after,guard⟩ (yielded ops a.tmps)=true) (hx:(execOp a.eval ⟨dst,op,ty,pos,after,guard⟩).run P w = .ok .skip w') (hS:S w')
  (h:wpAnyH P md ops Q S fuel (listed.setIfInBounds i true) (a.put dst undef) w'):wpAnyH P md ops Q S (fuel+1) listed a w:=by
 refine wpAnyH_all hr (by simp) fun j hj=>?_
 obtain rfl:j=i:=by simpa using hj
 unfold wpOp;simp only[hi];rw[if_pos hw]
 left
 unfold Oper.wp;rw[hx];exact⟨hS,h⟩
end
section
variable {P:Program} {ops:Array Oper} {Q:Exit→Act→World→Prop} {md:Region.Mode}
def Ent (P:Program) (md:Region.Mode) (ops:Array Oper) (Q:Exit→Act→World→Prop) (S:World→Prop) (fuel:Nat) (listed:Array Bool) (a:Act) (w:World) (i:Nat):Prop:=
 ∃(dst:Option Tmp) (op:Op) (ty:TypeId) (pos:String) (after:Array _) (guard:Option (Nat×Bool)) (f:FuncId) (args:Array Value),ops[i]? = some ⟨dst,op,ty,pos,after,guard⟩∧Region.wanted ⟨dst,op,ty,pos,after,guard⟩ (yielded ops a.tmps)=true∧(execOp a.eval ⟨dst,op,ty,pos,after,guard⟩).run P w = .ok (.enter f args) w∧
  Calls P f args w fun e w'=>∃v,e = .returned v∧S w'∧wpAnyH P md ops Q S fuel (listed.setIfInBounds i true) (a.put dst v) w'
theorem Au (is:List Nat) {S:World→Prop} {fuel:Nat} {listed:Array Bool} {a:Act} {w:World} (hr:Region.ready md ops listed=is) (hne:is≠[]) (h:∀j∈is,Eff P md ops Q S fuel listed a w j∨Ent P md ops Q S fuel listed a w j):wpAnyH P md ops Q S (fuel+1) listed a w:=by
 refine wpAnyH_all hr hne fun j hj=>?_
 rcases h j hj with⟨dst,op,ty,pos,after,guard,v,w',hi,hw,hx,hs,hh⟩ | ⟨dst,op,ty,pos,after,guard,f,args,hi,hw,hx,hh⟩
 ·unfold wpOp
  simp only[hi];rw[if_pos hw]
  left
  unfold Oper.wp;rw[hx];exact⟨hs,hh⟩
 ·unfold wpOp
  simp only[hi];rw[if_pos hw]
  left
  unfold Oper.wp;rw[hx];refine hh.mono ?_;rintro e w' ⟨v,rfl,hs,hh⟩;exact⟨hs,hh⟩
end
end Reg
namespace Cl
open Ad Se
open Nm (krb L tgL tgR Am)
open Ms (Pr Tk As Tg Re Ap Fa Mg tmB mgO mgD as0 tg0 re0 ap0 fa0)
open Ca (It Cr putL getO)
structure Ou where
 no:Int
 ks:Nat→UInt8
 u:Int
structure St where
 l:List It
 n:Nat
 s:Nat
 q:Nat
 st:Int
 er:Int
 sn:Int
 tg:Pr
 vs:List L
 ou:Ou
def zK:Nat→UInt8:=fun _=>0
def ou0:Ou:=⟨0,zK,0⟩
def st0:St:=⟨[],0,0,0,0,0,0,([],[]),[],ou0⟩
def own (P:Pr):Pr:=(P.1,krb++P.1)
def Ax (p:Pr):Bool:=Am p.1 p.2 && !tgL p.2
def Ex (now:Int):Int:=min (now+1000) 1073741824
def lO (o:Option L):L:=o.getD []
def mAs (q:As):Mg:=⟨1,q,tg0,re0,ap0,fa0⟩
def firQ (P:Pr) (s:St) (now:Int):As:=⟨P,own P,Ex now,((s.n+1:Nat):Int)⟩
def firS (ks:Nat→UInt8) (s:St):St:={s with n:=s.n+1,ou:=⟨((s.n+1:Nat):Int),ks,3⟩,sn:=s.sn+1}
def begS (s:St) (t:Pr):St:={s with st:=1,er:=0,sn:=0,tg:=t,vs:=[],ou:=ou0}
end Cl
end Go.Proofs.YtlfmicidppccnaaGreat
