import Derived.Test.YtlfmicidppccnaaGreatZClientNew6
set_option maxHeartbeats 25600000
set_option maxRecDepth 100000
set_option linter.unusedVariables false
set_option linter.unusedSimpArgs false
namespace Go.Proofs.YtlfmicidppccnaaGreat
namespace Ms
open Go.RowKit Ad DerP
abbrev prV (p:Pr):Value:=.agg #[.string ⟨p.1.toArray⟩,.string ⟨p.2.toArray⟩]
def SlB (w:World) (B:Nat) (v:Value) (l:L):Prop:=∃A c,v = .slice A l.length c∧l.length≤c∧Rd w B A (bvs l)
theorem SlB.keep {w w':World} {B:Nat} {v:Value} {l:L} (h:SlB w B v l) (hb:Below B w w'):SlB w' B v l:=by
 obtain⟨A,c,h1,h2,h3⟩:=h;exact⟨A,c,h1,h2,h3.below hb⟩
theorem SlB.more {w:World} {B B':Nat} {v:Value} {l:L} (h:SlB w B v l) (hB:B≤B'):SlB w B' v l:=by
 obtain⟨A,c,h1,h2,h3⟩:=h;exact⟨A,c,h1,h2,h3.more hB⟩
theorem SlB.nil (w:World) (B:Nat):SlB w B (.slice none 0 0) []:=⟨none,0,rfl,Nat.le_refl _,.inl rfl⟩
def prC (p:Pr):List Value:=[.string ⟨p.1.toArray⟩,.string ⟨p.2.toArray⟩]
def tkC (t:Tk) (b:Value):List Value:=[.string ⟨t.s.1.toArray⟩,.string ⟨t.s.2.toArray⟩,.int .i64 t.k,b]
def asC (q:As):List Value:=[.string ⟨q.c.1.toArray⟩,.string ⟨q.c.2.toArray⟩,.string ⟨q.s.1.toArray⟩,.string ⟨q.s.2.toArray⟩,.int .i64 q.t,.int .i64 q.no]
def tgC (q:Tg) (b a:Value):List Value:=tkC q.t b++[a,.string ⟨q.s.1.toArray⟩,.string ⟨q.s.2.toArray⟩,.int .i64 q.u,.int .i64 q.no]
def reC (q:Re) (b d:Value):List Value:=prC q.c++(tkC q.t b++[d])
def apC (q:Ap) (b a:Value):List Value:=tkC q.t b++[a]
def faC (q:Fa):List Value:=[.int .i64 q.e,.int .i64 q.no]
structure Six where
 b1:Value
 a1:Value
 b2:Value
 d2:Value
 b3:Value
 a3:Value
structure SixR (w:World) (B:Nat) (m:Mg) (s:Six):Prop where
 b1:SlB w B s.b1 m.tg.t.b
 a1:SlB w B s.a1 m.tg.a
 b2:SlB w B s.b2 m.re.t.b
 d2:SlB w B s.d2 m.re.b
 b3:SlB w B s.b3 m.ap.t.b
 a3:SlB w B s.a3 m.ap.a
theorem SixR.keep {w w':World} {B:Nat} {m:Mg} {s:Six} (h:SixR w B m s) (hb:Below B w w'):SixR w' B m s:=⟨h.b1.keep hb,h.a1.keep hb,h.b2.keep hb,h.d2.keep hb,h.b3.keep hb,h.a3.keep hb⟩
theorem Bg {w w':World} {A:Option Addr} {l:L} (h:Rd w w.heap.size A (bvs l)) (hb:Below w.heap.size w w'):Rd w' w'.heap.size A (bvs l):=(h.below hb).more hb.size
section
variable {w:World} {t:TypeId} {A1 A2 A3 A4 A5:Option Addr} {l1 l2 l3 l4 l5:L} {c1 c2 c3 c4 c5:Nat}
theorem ED (h1:Rd w w.heap.size A1 (bvs l1)) (h2:Rd w w.heap.size A2 (bvs l2)) :
  DerW.Rds (w.alloc (.cells #[.slice A1 l1.length c1,.slice A2 l2.length c2] t)) (w.heap.size+1) (some ⟨w.heap.size,0,none⟩) [l1,l2]:=by
 refine .inr ⟨w.heap.size,0,rfl,by omega,fun i l hi=>?_⟩
 match i,hi with
 |0,hi=>injection hi with hi;subst hi;exact⟨A1,c1,(Blk.new w t _).cell 0,(h1.alloc Ae _).more (by omega)⟩
 |1,hi=>injection hi with hi;subst hi;exact⟨A2,c2,(Blk.new w t _).cell 1,(h2.alloc Ae _).more (by omega)⟩
 |i+2,hi=>rw[List.getElem?_eq_none (by simp)] at hi;cases hi
theorem Ef (h1:Rd w w.heap.size A1 (bvs l1)) (h2:Rd w w.heap.size A2 (bvs l2)) (h3:Rd w w.heap.size A3 (bvs l3)) :
  DerW.Rds (w.alloc (.cells #[.slice A1 l1.length c1,.slice A2 l2.length c2,.slice A3 l3.length c3] t)) (w.heap.size+1) (some ⟨w.heap.size,0,none⟩) [l1,l2,l3]:=by
 refine .inr ⟨w.heap.size,0,rfl,by omega,fun i l hi=>?_⟩
 match i,hi with
 |0,hi=>injection hi with hi;subst hi;exact⟨A1,c1,(Blk.new w t _).cell 0,(h1.alloc Ae _).more (by omega)⟩
 |1,hi=>injection hi with hi;subst hi;exact⟨A2,c2,(Blk.new w t _).cell 1,(h2.alloc Ae _).more (by omega)⟩
 |2,hi=>injection hi with hi;subst hi;exact⟨A3,c3,(Blk.new w t _).cell 2,(h3.alloc Ae _).more (by omega)⟩
 |i+3,hi=>rw[List.getElem?_eq_none (by simp)] at hi;cases hi
theorem HJ (h1:Rd w w.heap.size A1 (bvs l1)) (h2:Rd w w.heap.size A2 (bvs l2)) (h3:Rd w w.heap.size A3 (bvs l3)) (h4:Rd w w.heap.size A4 (bvs l4)) :
  DerW.Rds (w.alloc (.cells #[.slice A1 l1.length c1,.slice A2 l2.length c2,.slice A3 l3.length c3,.slice A4 l4.length c4] t)) (w.heap.size+1) (some ⟨w.heap.size,0,none⟩) [l1,l2,l3,l4]:=by
 refine .inr ⟨w.heap.size,0,rfl,by omega,fun i l hi=>?_⟩
 match i,hi with
 |0,hi=>injection hi with hi;subst hi;exact⟨A1,c1,(Blk.new w t _).cell 0,(h1.alloc Ae _).more (by omega)⟩
 |1,hi=>injection hi with hi;subst hi;exact⟨A2,c2,(Blk.new w t _).cell 1,(h2.alloc Ae _).more (by omega)⟩
 |2,hi=>injection hi with hi;subst hi;exact⟨A3,c3,(Blk.new w t _).cell 2,(h3.alloc Ae _).more (by omega)⟩
 |3,hi=>injection hi with hi;subst hi;exact⟨A4,c4,(Blk.new w t _).cell 3,(h4.alloc Ae _).more (by omega)⟩
 |i+4,hi=>rw[List.getElem?_eq_none (by simp)] at hi;cases hi
theorem HU (h1:Rd w w.heap.size A1 (bvs l1)) (h2:Rd w w.heap.size A2 (bvs l2)) (h3:Rd w w.heap.size A3 (bvs l3)) (h4:Rd w w.heap.size A4 (bvs l4)) (h5:Rd w w.heap.size A5 (bvs l5)) :
  DerW.Rds (w.alloc (.cells #[.slice A1 l1.length c1,.slice A2 l2.length c2,.slice A3 l3.length c3,.slice A4 l4.length c4,.slice A5 l5.length c5] t)) (w.heap.size+1) (some ⟨w.heap.size,0,none⟩) [l1,l2,l3,l4,l5]:=by
 refine .inr ⟨w.heap.size,0,rfl,by omega,fun i l hi=>?_⟩
 match i,hi with
 |0,hi=>injection hi with hi;subst hi;exact⟨A1,c1,(Blk.new w t _).cell 0,(h1.alloc Ae _).more (by omega)⟩
 |1,hi=>injection hi with hi;subst hi;exact⟨A2,c2,(Blk.new w t _).cell 1,(h2.alloc Ae _).more (by omega)⟩
 |2,hi=>injection hi with hi;subst hi;exact⟨A3,c3,(Blk.new w t _).cell 2,(h3.alloc Ae _).more (by omega)⟩
 |3,hi=>injection hi with hi;subst hi;exact⟨A4,c4,(Blk.new w t _).cell 3,(h4.alloc Ae _).more (by omega)⟩
 |4,hi=>injection hi with hi;subst hi;exact⟨A5,c5,(Blk.new w t _).cell 4,(h5.alloc Ae _).more (by omega)⟩
 |i+5,hi=>rw[List.getElem?_eq_none (by simp)] at hi;cases hi
end
theorem Jq (b:L):inB (b.length:Int) 1 800=Bi b:=by
 rw[inB,Bi];have e1:decide ((1:Int)≤(b.length:Int))=decide (1≤b.length):=by rw[decide_eq_decide];omega
 have e2:decide ((b.length:Int)≤800)=decide (b.length≤800):=by rw[decide_eq_decide];omega
 rw[e1,e2]
def pSm (p:Pr):Prop:=p.1.length≤1000000000∧p.2.length≤1000000000
open DerR
theorem AQ {w0 w:World} {l:L} {e:Ending} {w':World} (h:BA w l e w') (hb:Below w0.heap.size w0 w):BA w0 l e w':=by
 obtain⟨⟨g,c,h1,h2,h3,h4⟩,h5⟩:=h;exact⟨⟨g,c,h1,Nat.le_trans hb.size h2,h3,h4⟩,hb.trans (h5.mono hb.size)⟩
def EncR (w:World) (o:Option L) (e:Ending) (w':World):Prop:=
 (∃v i,e = .returned (.tuple #[v,.int .i64 i])∧(o=none→v = .slice none 0 0∧i=1)∧∀l,o=some l→i=0∧∃g c,v = .slice (some ⟨g,0,none⟩) l.length c∧w.heap.size≤g∧l.length≤c∧Rd w' w'.heap.size (some ⟨g,0,none⟩) (bvs l))∧Below w.heap.size w w'
theorem Ak {w:World} {g:Nat} {t:TypeId} {cs:Array Value} (h:Blk w g t cs):w.rangeAt g 0 cs.toList:=fun j v hv=>by
 rw[Nat.zero_add,h.cell];simpa using hv
theorem Aq {P:Program} {ops:Array Oper} {rest:List Oper} {op:Oper} {a:Act} {w:World} {Q:Exit→Act→World→Prop} (hgd:op.guard=none) (ty:TypeId) (x:Operand) (ho:op.op = .load ty x)
  (g o:Nat) (hx:a.eval x = .pointer (some ⟨g,o,none⟩)) (cs:Array Value) (d:TypeDesc) (hc:w.rangeAt g o cs.toList)
  (hu:P.underlying ty=some d) (hd:d.isRow=true) (hi:(P.info? ty).map (·.size)=some cs.size)
  (h:wpList P ops Q rest (a.put op.dst (.agg cs)) w):wpList P ops Q (op :: rest) a w:=
 wpList_load_mid hgd ty x ho g o hx cs.toList d hc hu hd (by rw[Array.length_toList];exact hi) (by simpa using h)
theorem Ia {w w':World} (h:Below w.heap.size w w'):EncR w none (.returned (.tuple #[.slice none 0 0,.int .i64 1])) w':=
 ⟨⟨_,_,rfl,(fun _=>⟨rfl,rfl⟩),(fun l e=>by cases e)⟩,h⟩
theorem Ib {w w':World} {l:L} {g c:Nat} (h:BA w l (.returned (.slice (some ⟨g,0,none⟩) l.length c)) w'):EncR w (some l) (.returned (.tuple #[.slice (some ⟨g,0,none⟩) l.length c,.int .i64 0])) w':=by
 obtain⟨⟨g',c',h1,h2,h3,h4⟩,h5⟩:=h;injection h1 with h1;injection h1 with h1 h6 h7;injection h1 with h1;injection h1 with h1;subst h1;subst h7;exact⟨⟨_,_,rfl,(fun e=>by cases e),(fun l' e=>by injection e with e;subst e;exact⟨rfl,g,c,rfl,h2,h3,h4⟩)⟩,h5⟩
theorem An {P:Program} {fn:Func} {tmps:Array Value} {w:World} {v:Value} (t:Nat) (ty:TypeId) (a:Addr) (hres:fn.results=#[.cell t ty]) (ht:tmps.getD t undef = .pointer (some a)) (hl:(loadVar ty a).run P w = .ok v w) :
  (results fn tmps).run P w = .ok v w:=by
 have ht':tmps[t]?.getD undef = .pointer (some a):=by simpa using ht
 simp [results,hres,ht',asAddr,hl]
theorem Ar {P:Program} {w:World} {g:Nat} {t ty:TypeId} {cs:Array Value} {d:TypeDesc} (h:Blk w g t cs) (hu:P.underlying ty=some d) (hd:d.isRow=true) (hi:(P.info? ty).map (·.size)=some cs.size) :
  (loadVar ty ⟨g,0,none⟩).run P w = .ok (.agg cs) w:=by
 have hc:w.rangeAt g 0 cs.toList:=fun j v hv=>by rw[Nat.zero_add,h.cell];simpa using hv
 have:=run_loadVar_mid (P:=P) w g 0 ty cs.toList d hc hu hd (by simpa using hi)
 simpa using this
end Ms
namespace Ms
open Go.RowKit Ad DerP
def mSm (m:Mg):Prop:=(pSm m.aq.c∧pSm m.aq.s)∧(pSm m.tg.t.s∧pSm m.tg.s)∧(pSm m.re.c∧pSm m.re.t.s)∧pSm m.ap.t.s
section
variable {α:Type}
end
end Ms
namespace Ms
open Go.RowKit Ad DerP DerR
end Ms
namespace Cl
open Go.RowKit Ad Se
open Nm (L)
open Ms (Pr)
open Ca (It Cr En Ca CO PT its)
def SlN (S:Nat→Prop) (w:World) (v:Value) (l:L):Prop:=∃A c,v = .slice A l.length c∧l.length≤c∧RdA S w A (bvs l)
section
variable {S S' T:Nat→Prop} {w w':World} {v:Value} {l:L}
theorem SlN.keep (h:SlN S w v l) (hc:Chg T w w') (ht:∀i,i<w.heap.size→T i→S i) (hs:∀i,i<w.heap.size→S' i→S i):SlN S' w' v l:=by
 obtain⟨A,c,h1,h2,h4⟩:=h;exact⟨A,c,h1,h2,h4.keep hc ht hs⟩
theorem SlN.below (h:SlN S w v l) (hb:Below w.heap.size w w'):SlN S w' v l:=h.keep (Chg.of_below (S:=fun _=>False) hb) (fun _ _ x=>x.elim) (fun _ _ x=>x)
theorem SlN.mono (h:SlN S w v l) (hs:∀i,i<w.heap.size→S' i→S i):SlN S' w v l:=h.keep (Chg.refl (fun _=>False) w) (fun _ _ x=>x.elim) hs
theorem SlN.nil (S:Nat→Prop) (w:World):SlN S w (.slice none 0 0) []:=⟨none,0,rfl,Nat.le_refl _,.inl rfl⟩
end
structure Ss where
 b:Nat
 ks:Nat→UInt8
 h:Option Nat
 a:Nat
 o:Nat
 r:Nat
def SO (s:Option Ss) (j:Nat):Prop:=∃z,s=some z∧Ow z.b z.h j
structure CP where
 k:Nat
 b:Nat
 r:Nat
 P:Pr
 ks:Nat→UInt8
structure CM where
 v:Value
 es:List En
 h:Option Nat
 a:Nat
 o:Nat
 r:Nat
 vv:Value
 ov:Value
 x:Option Ss
 y:Option Ss
def Pt (p:CP) (m:CM):Nat→Nat→Prop
 |0,j=>j=p.k
 |1,j=>Ow p.b m.h j
 |2,j=>CO p.r m.v m.es j
 |3,j=>m.vv.ownBlock=some j
 |4,j=>SO m.x j
 |5,j=>SO m.y j
 |_,_=>False
def AO (p:CP) (m:CM) (j:Nat):Prop:=∃i,Pt p m i j
structure Pa (w:World) (B:Nat) (p:CP) (m:CM):Prop where
 dis:∀i i' j,Pt p m i j→Pt p m i' j→i=i'
 lo:∀i j,Pt p m i j→B≤j
 lt:∀i j,Pt p m i j→j<w.heap.size
 hB:B≤w.heap.size
section
variable {w w':World} {B:Nat} {p:CP} {m m':CM}
theorem Pa.grow (h:Pa w B p m) (hs:w.heap.size≤w'.heap.size):Pa w' B p m:=⟨h.dis,h.lo,fun i j hj=>Nat.lt_of_lt_of_le (h.lt i j hj) hs,Nat.le_trans h.hB hs⟩
end
abbrev pv (b:Nat):Value:=.pointer (some ⟨b,0,none⟩)
def OuR (p:CP) (m:CM) (s:St):Prop:=(m.ov = .pointer none∧(s.st=1→s.ou.u=0))∨(m.ov=pv p.b∧s.ou.ks=p.ks)∨∃z,m.x=some z∧m.ov=pv z.b∧s.ou.ks=z.ks
abbrev clA (p:CP) (m:CM) (s:St):Array Value:=
 #[.string ⟨p.P.1.toArray⟩,.string ⟨p.P.2.toArray⟩,pv p.b,pv p.r,.int .i64 (s.n:Int),.int .i64 (s.s:Int),.int .i64 (s.q:Int),.int .i64 s.st,.int .i64 s.er,.int .i64 s.sn,
  .string ⟨s.tg.1.toArray⟩,.string ⟨s.tg.2.toArray⟩,m.vv,.int .i64 s.ou.no,m.ov,.int .i64 s.ou.u]
def SxR (w:World) (x:Option Ss) (c:Nat):Prop:=∀z,x=some z→Box w z.b z.ks z.h z.a z.o z.r∧z.a≤c∧z.o≤c∧z.r≤c
structure Cl (w:World) (B:Nat) (p:CP) (m:CM) (s:St) (c:Nat):Prop where
 pa:Pa w B p m
 blk:Blk w p.k 115 (clA p m s)
 ca:Ca w B p.r m.v m.es
 li:its m.es=s.l
 box:Box w p.b p.ks m.h m.a m.o m.r
 bc:m.a≤c∧m.o≤c∧m.r≤c
 vis:Nm.Own w B m.vv s.vs
 sx:SxR w m.x c
 sy:SxR w m.y c
 ou:OuR p m s
section
variable {w w' w0:World} {B:Nat} {p:CP} {m m' m0:CM} {s s':St} {c c':Nat} {S:Nat→Prop}
theorem SxR.chg {x:Option Ss} (h:SxR w x c) (hc:Chg S w w') (hs:∀j,SO x j→¬S j):SxR w' x c:=fun z hz=>⟨(h z hz).1.chg hc (fun j hj=>hs j ⟨z,hz,hj⟩),(h z hz).2⟩
theorem SxR.more {x:Option Ss} (h:SxR w x c) (hc:c≤c'):SxR w x c':=fun z hz=>⟨(h z hz).1,by have:=(h z hz).2;omega⟩
theorem SxR.lt {x:Option Ss} (h:SxR w x c) {j:Nat} (hj:SO x j):j<w.heap.size:=by
 obtain⟨z,hz,hj⟩:=hj;exact(h z hz).1.own_lt j hj
theorem SxR.none:SxR w .none c:=fun z hz=>by cases hz
theorem Cl.lt (h:Cl w B p m s c) {j:Nat} (hj:AO p m j):j<w.heap.size:=by
 obtain⟨i,hj⟩:=hj;exact h.pa.lt i j hj
theorem Cl.lo (h:Cl w B p m s c) {j:Nat} (hj:AO p m j):B≤j:=by
 obtain⟨i,hj⟩:=hj;exact h.pa.lo i j hj
theorem BV {v:Value} {ls:List L} (h:Nm.Own w B v ls) (hc:Chg S w w') (hs:∀k,v.ownBlock=some k→¬S k):Nm.Own w' B v ls:=hc.own h hs
theorem Cl.chg (h:Cl w B p m s c) (hc:Chg S w w') (hs:∀j,AO p m j→¬S j):Cl w' B p m s c:=
 ⟨h.pa.grow hc.size,hc.blk h.blk (hs _ ⟨0,rfl⟩),h.ca.chg hc (fun j hj=>hs j ⟨2,hj⟩),h.li,h.box.chg hc (fun j hj=>hs j ⟨1,hj⟩),h.bc,BV h.vis hc (fun j hj=>hs j ⟨3,hj⟩),h.sx.chg hc (fun j hj=>hs j ⟨4,hj⟩),h.sy.chg hc (fun j hj=>hs j ⟨5,hj⟩),h.ou⟩
theorem Cl.below (h:Cl w B p m s c) (hb:Below w.heap.size w w'):Cl w' B p m s c:=h.chg (S:=fun _=>False) (Chg.of_below hb) (fun _ _ x=>x)
theorem Cl.more (h:Cl w B p m s c) (hc:c≤c'):Cl w B p m s c':=⟨h.pa,h.blk,h.ca,h.li,h.box,by have:=h.bc;omega,h.vis,h.sx.more hc,h.sy.more hc,h.ou⟩
structure Tu (w0 w:World) (B:Nat) (p:CP) (m0 m:CM) (s:St) (c:Nat):Prop where
 cl:Cl w B p m s c
 chg:Chg (AO p m0) w0 w
 nw:∀j,AO p m j→AO p m0 j∨w0.heap.size≤j
theorem Tu.start (h:Cl w B p m s c) (hb:Below w.heap.size w w'):Tu w w' B p m m s c:=⟨h.below hb,Chg.of_below hb,fun _ x=>.inl x⟩
theorem Tu.refl (h:Cl w B p m s c):Tu w w B p m m s c:=⟨h,Chg.refl _ _,fun _ x=>.inl x⟩
theorem Tu.size (h:Tu w0 w B p m0 m s c):w0.heap.size≤w.heap.size:=h.chg.size
theorem Tu.trans (h:Tu w0 w B p m0 m s c) (g:Tu w w' B p m m' s' c'):Tu w0 w' B p m0 m' s' c':=
 ⟨g.cl,h.chg.trans g.chg (fun j hj x=>by
  rcases h.nw j x with y | y
  ·exact y
  ·omega),fun j hj=>by
  rcases g.nw j hj with y | y
  ·exact h.nw j y
  ·exact .inr (Nat.le_trans h.size y)⟩
theorem Tu.below (h:Tu w0 w B p m0 m s c) (hb:Below w.heap.size w w'):Tu w0 w' B p m0 m s c:=h.trans (.start h.cl hb)
theorem Tu.more (h:Tu w0 w B p m0 m s c) (hc:c≤c'):Tu w0 w B p m0 m s c':=⟨h.cl.more hc,h.chg,h.nw⟩
theorem Tu.blk {g:Nat} {t:TypeId} {cs:Array Value} (h:Tu w0 w B p m0 m s c) (hb:Blk w0 g t cs) (hn:¬AO p m0 g):Blk w g t cs:=h.chg.blk hb hn
theorem Tu.not {g:Nat} (h:Tu w0 w B p m0 m s c) (hn:¬AO p m0 g) (hl:g<w0.heap.size):¬AO p m g:=fun x=>by
 rcases h.nw g x with y | y
 ·exact hn y
 ·omega
theorem Cl.fresh (h:Cl w B p m s c) {g:Nat} (hg:w.heap.size≤g):¬AO p m g:=fun x=>by have:=h.lt x;omega
theorem Tu.made {v:Value} {l:L} (h:Tu w0 w B p m0 m s c) (hs:SlN (fun j=>j<w.heap.size) w' v l):SlN (AO p m) w' v l:=hs.mono (fun j _ x=>h.cl.lt x)
def Out (w0:World) (p:CP) (m:CM) (j:Nat):Prop:=j<w0.heap.size∨AO p m j
theorem Out.old {v:Value} {l:L} {a b:World} (ha:a.heap.size≤b.heap.size) (hs:SlN (Out b p m) w v l):SlN (Out a p m) w v l:=hs.mono (fun j _ x=>by
 rcases x with x | x
 ·exact .inl (Nat.lt_of_lt_of_le x ha)
 ·exact .inr x)
theorem Tu.put (h:Tu w0 w B p m0 m s c) {g:Nat} (hg:w0.heap.size≤g) (hn:¬AO p m g) (hc:Chg (fun j=>j=g) w w'):Tu w0 w' B p m0 m s c:=
 ⟨h.cl.chg hc (fun j hj x=>hn (x▸hj)),h.chg.trans hc (fun j hj x=>by omega),h.nw⟩
theorem Cl.not (h:Cl w B p m s c) {i i' j:Nat} (hi:Pt p m i j) (hn:i≠i'):¬Pt p m i' j:=fun x=>hn (h.pa.dis i i' j hi x)
theorem Cl.cell (h:Cl w B p m s c) (hc:Chg (fun j=>j=p.k) w w') (hb:Blk w' p.k 115 (clA p {m with ov:=m'.ov} s')) (hl:s'.l=s.l) (hv:s'.vs=s.vs) (ho:OuR p {m with ov:=m'.ov} s'):Tu w w' B p m {m with ov:=m'.ov} s' c:=by
 have hn:∀i,i≠0→∀j,Pt p m i j→¬j=p.k:=fun i hi j hj e=>h.not (i':=0) hj hi e
 refine⟨⟨⟨h.pa.dis,h.pa.lo,(h.pa.grow hc.size).lt,Nat.le_trans h.pa.hB hc.size⟩,hb,h.ca.chg hc (hn 2 (by decide)),h.li.trans hl.symm,h.box.chg hc (hn 1 (by decide)),h.bc,?_,h.sx.chg hc (hn 4 (by decide)),h.sy.chg hc (hn 5 (by decide)),ho⟩,hc.mono (fun j _ x=>⟨0,x⟩),fun j hj=>.inl hj⟩;show Nm.Own w' B m.vv s'.vs;rw[hv];exact BV h.vis hc (hn 3 (by decide))
end
end Cl
namespace Mc
open Go.RowKit Ad DerP DerR Ms
theorem Dc (t:UInt8) (p:L):0<(elem t p).length:=by rw[Ce];omega
theorem Eg (l:L) (w:World) (hl:l.length≤65535):Calls Tryz.prog 220 #[.string ⟨l.toArray⟩] w (BA w (elem 27 l)):=
 (DerW.Hz l w hl).mono fun e w' h=>by obtain⟨v,rfl,h1,h2⟩:=h;exact Cq h1 (Dc _ _) h2
theorem BJ (n:Int) (w:World):Calls Tryz.prog 197 #[.int .i64 n] w (BA w (encI n)):=
 (DerW.Jp n w).mono fun e w' h=>by obtain⟨v,rfl,h1,h2⟩:=h;exact Cq h1 (Dc _ _) h2
theorem BK (l:L) (A:Option Addr) (n c B:Nat) (w:World) (hr:Rd w B A (bvs l)) (hn:n=l.length) (hB:B≤w.heap.size) (hl:l.length≤65535):Calls Tryz.prog 213 #[.slice A n c] w (BA w (elem 4 l)):=
 (DerW.FC l A n c B w hr hn hB hl).mono fun e w' h=>by obtain⟨v,rfl,h1,h2⟩:=h;exact Cq h1 (Dc _ _) h2
theorem Br (t:UInt8) (ls:List L) (A:Option Addr) (m c B:Nat) (w:World) (hr:DerW.Rds w B A ls) (hm:m=ls.length) (hB:B≤w.heap.size) (hl:ls.flatten.length≤65535) (hc:ls.length≤1000000) :
  Calls Tryz.prog 195 #[.int .u8 t.toNat,.slice A m c] w (BA w (elem t ls.flatten)):=
 (DerW.Db t ls A m c B w hr hm hB hl hc).mono fun e w' h=>by obtain⟨v,rfl,h1,h2⟩:=h;exact Cq h1 (Dc _ _) h2
theorem Bf (p:Pr) (w:World) (hp:prB p=true):Calls Tryz.prog 196 #[.agg #[.string ⟨p.1.toArray⟩,.string ⟨p.2.toArray⟩]] w (BA w (prE p)):=by
 have HB:=I ((Below.refl w.heap.size w).alloc Ae (.cells #[.string ⟨p.1.toArray⟩,.string ⟨p.2.toArray⟩] 40));have HK:=I (Blk.new w 40 #[.string ⟨p.1.toArray⟩,.string ⟨p.2.toArray⟩]);have b1:=Gb hp;have b2:=Ao 27 p.1;have b3:=Ao 27 p.2;have T1:=I (fun w1=>Eg p.1 w1 (by omega));have T2:=I (fun w1=>Eg p.2 w1 (by omega));have HL:=I (show [elem 27 p.1,elem 27 p.2].flatten.length≤65535 by rw[Co];simp only[List.length_append];omega);have HE:=I (show prE p=elem 48 [elem 27 p.1,elem 27 p.2].flatten from rfl);obtain⟨l1,el1⟩:∃l,l=elem 27 p.1:=⟨_,rfl⟩;obtain⟨l2,el2⟩:∃l,l=elem 27 p.2:=⟨_,rfl⟩;rw[←el1] at T1 HL HE;rw[←el2] at T2 HL HE;rw[HE.o,Co];clear HE el1 el2 b1 b2 b3 hp;go_enter Tryz.func196,Tryz.ntmps196
 go_wp2
 obtain⟨W,eW⟩:∃W,W=w.alloc (.cells #[.string ⟨p.1.toArray⟩,.string ⟨p.2.toArray⟩] 40):=⟨_,rfl⟩;rw[←eW] at HB HK⊢;clear eW;replace HK:=I (show Blk W.drew _ _ _ from HK.o.drewN 1);replace HB:=I (show Below _ _ W.drew from below_drewN HB.o 1)
 go_region_held3 (fun w'=>w'.cell? ⟨w.heap.size,0,none⟩=some (.string ⟨p.1.toArray⟩)∧w'.cell? ⟨w.heap.size,1,none⟩=some (.string ⟨p.2.toArray⟩)) (first | exact⟨HK.o.cell 0,HK.o.cell 1⟩ | exact⟨(HK.o.alloc _).cell 0,(HK.o.alloc _).cell 1⟩) ((first
  |(go_at_call 220;(with_reducible refine Calls.mono (T1.o _) ?_);rintro e w1 ⟨⟨g1,c1,rfl,hg1,hc1,hr1⟩,hb⟩;clear T1;have HR1:=I hr1;replace HK:=I (HK.o.below hb);replace HB:=HB.t hb;clear hb hr1 hg1 hc1)
  |(go_at_call 220;(with_reducible refine Calls.mono (T2.o _) ?_);rintro e w2 ⟨⟨g2,c2,rfl,hg2,hc2,hr2⟩,hb⟩;clear T2;replace HR1:=I (Bg HR1.o hb);have HR2:=I hr2;replace HK:=I (HK.o.below hb);replace HB:=HB.t hb;clear hb hr2 hg2 hc2)
  |(go_at_call 195;refine Calls.mono (Br 48 [l1,l2] _ 2 2 (w2.heap.size+1) _ (ED HR1.o HR2.o) rfl (by simp) HL.o (by simp)) ?_;rintro e wz ⟨⟨gz,cz,rfl,hgz,hcz,hrz⟩,hb⟩;have hal:=(Below.refl w2.heap.size w2).alloc Ae (.cells #[.slice (some ⟨g1,0,none⟩) l1.length c1,.slice (some ⟨g2,0,none⟩) l2.length c2] 27);have HG:=I (AQ (l:=elem 48 [l1,l2].flatten) ⟨⟨gz,cz,rfl,hgz,hcz,hrz⟩,hb⟩ (HB.o.trans (hal.mono HB.o.size)));rw[Co] at HG;replace HK:=I ((HK.o.alloc (.cells #[.slice (some ⟨g1,0,none⟩) l1.length c1,.slice (some ⟨g2,0,none⟩) l2.length c2] 27)).below hb);clear hal hgz hcz hrz hb)))
 go_wp2
 go_ret;exact HG.o
theorem BL (t:Tk) (A:Option Addr) (c:Nat) (w:World) (ht:tkB t=true) (hr:Rd w w.heap.size A (bvs t.b)):Calls Tryz.prog 212 #[.agg #[.string ⟨t.s.1.toArray⟩,.string ⟨t.s.2.toArray⟩,.int .i64 t.k,.slice A t.b.length c]] w (BA w (tkE t)):=by
 have HB:=I ((Below.refl w.heap.size w).alloc Ae (.cells #[.string ⟨t.s.1.toArray⟩,.string ⟨t.s.2.toArray⟩,.int .i64 t.k,.slice A t.b.length c] 42));have HK:=I (Blk.new w 42 #[.string ⟨t.s.1.toArray⟩,.string ⟨t.s.2.toArray⟩,.int .i64 t.k,.slice A t.b.length c]);have hp:=DK ht;have b1:=(AM hp.1).1;have b2:=Av t.k;have b3:=Ao 4 t.b;have T1:=I (fun w1=>Bf t.s w1 hp.1);have T2:=I (fun w1=>BJ t.k w1);have T3:=I (fun w1 (h:Below w.heap.size w w1)=>BK t.b A t.b.length c w1.heap.size w1 ((hr.below h).more h.size) rfl Ae (by omega));have HL:=I (show [prE t.s,encI t.k,elem 4 t.b].flatten.length≤65535 by rw[DJ];simp only[List.length_append];omega);have HE:=I (show tkE t=elem 97 [prE t.s,encI t.k,elem 4 t.b].flatten from rfl);obtain⟨l1,el1⟩:∃l,l=prE t.s:=⟨_,rfl⟩;obtain⟨l2,el2⟩:∃l,l=encI t.k:=⟨_,rfl⟩;obtain⟨l3,el3⟩:∃l,l=elem 4 t.b:=⟨_,rfl⟩;rw[←el1] at T1 HL HE;rw[←el2] at T2 HL HE;rw[←el3] at T3 HL HE;rw[HE.o,DJ];clear HE el1 el2 el3 hp b1 b2 b3 ht hr;go_enter Tryz.func212,Tryz.ntmps212
 go_wp2
 obtain⟨W,eW⟩:∃W,W=w.alloc (.cells #[.string ⟨t.s.1.toArray⟩,.string ⟨t.s.2.toArray⟩,.int .i64 t.k,.slice A t.b.length c] 42):=⟨_,rfl⟩;rw[←eW] at HB HK⊢;clear eW;replace HK:=I (show Blk W.drew _ _ _ from HK.o.drewN 1);replace HB:=I (show Below _ _ W.drew from below_drewN HB.o 1)
 go_region_held3 (fun w'=>w'.cell? ⟨w.heap.size,0,none⟩=some (.string ⟨t.s.1.toArray⟩)∧w'.cell? ⟨w.heap.size,1,none⟩=some (.string ⟨t.s.2.toArray⟩)∧w'.cell? ⟨w.heap.size,2,none⟩=some (.int .i64 t.k)∧w'.cell? ⟨w.heap.size,3,none⟩=some (.slice A t.b.length c)) (first | exact⟨HK.o.cell 0,HK.o.cell 1,HK.o.cell 2,HK.o.cell 3⟩ | exact⟨(HK.o.alloc _).cell 0,(HK.o.alloc _).cell 1,(HK.o.alloc _).cell 2,(HK.o.alloc _).cell 3⟩) ((first
  |(go_at_call 196;(with_reducible refine Calls.mono (T1.o _) ?_);rintro e w1 ⟨⟨g1,c1,rfl,hg1,hc1,hr1⟩,hb⟩;clear T1;have HR1:=I hr1;replace HK:=I (HK.o.below hb);replace HB:=HB.t hb;clear hb hr1 hg1 hc1)
  |(go_at_call 197;(with_reducible refine Calls.mono (T2.o _) ?_);rintro e w2 ⟨⟨g2,c2,rfl,hg2,hc2,hr2⟩,hb⟩;clear T2;replace HR1:=I (Bg HR1.o hb);have HR2:=I hr2;replace HK:=I (HK.o.below hb);replace HB:=HB.t hb;clear hb hr2 hg2 hc2)
  |(go_at_call 213;(with_reducible refine Calls.mono (T3.o _ HB.o) ?_);rintro e w3 ⟨⟨g3,c3,rfl,hg3,hc3,hr3⟩,hb⟩;clear T3;replace HR1:=I (Bg HR1.o hb);replace HR2:=I (Bg HR2.o hb);have HR3:=I hr3;replace HK:=I (HK.o.below hb);replace HB:=HB.t hb;clear hb hr3 hg3 hc3)
  |(go_at_call 195;refine Calls.mono (Br 97 [l1,l2,l3] _ 3 3 (w3.heap.size+1) _ (Ef HR1.o HR2.o HR3.o) rfl (by simp) HL.o (by simp)) ?_;rintro e wz ⟨⟨gz,cz,rfl,hgz,hcz,hrz⟩,hb⟩;have hal:=(Below.refl w3.heap.size w3).alloc Ae (.cells #[.slice (some ⟨g1,0,none⟩) l1.length c1,.slice (some ⟨g2,0,none⟩) l2.length c2,.slice (some ⟨g3,0,none⟩) l3.length c3] 27);have HG:=I (AQ (l:=elem 97 [l1,l2,l3].flatten) ⟨⟨gz,cz,rfl,hgz,hcz,hrz⟩,hb⟩ (HB.o.trans (hal.mono HB.o.size)));rw[DJ] at HG;replace HK:=I ((HK.o.alloc (.cells #[.slice (some ⟨g1,0,none⟩) l1.length c1,.slice (some ⟨g2,0,none⟩) l2.length c2,.slice (some ⟨g3,0,none⟩) l3.length c3] 27)).below hb);clear hal hgz hcz hrz hb)))
 go_wp2
 go_ret;exact HG.o
theorem Gt (q:As) (w:World) (ha:asB q=true):Calls Tryz.prog 180 #[.agg #[.string ⟨q.c.1.toArray⟩,.string ⟨q.c.2.toArray⟩,.string ⟨q.s.1.toArray⟩,.string ⟨q.s.2.toArray⟩,.int .i64 q.t,.int .i64 q.no]] w (BA w (asE q)):=by
 have HB:=I ((Below.refl w.heap.size w).alloc Ae (.cells #[.string ⟨q.c.1.toArray⟩,.string ⟨q.c.2.toArray⟩,.string ⟨q.s.1.toArray⟩,.string ⟨q.s.2.toArray⟩,.int .i64 q.t,.int .i64 q.no] 66));have HK:=I (Blk.new w 66 #[.string ⟨q.c.1.toArray⟩,.string ⟨q.c.2.toArray⟩,.string ⟨q.s.1.toArray⟩,.string ⟨q.s.2.toArray⟩,.int .i64 q.t,.int .i64 q.no]);have hp:prB q.c=true∧prB q.s=true∧tmB q.t=true∧tmB q.no=true:=by simpa [asB] using ha
 have b1:=(AM hp.1).1;have b2:=(AM hp.2.1).1;have b3:=Av q.t;have b4:=Av q.no;have T1:=I (fun w1=>Bf q.c w1 hp.1);have T2:=I (fun w1=>Bf q.s w1 hp.2.1);have T3:=I (fun w1=>BJ q.t w1);have T4:=I (fun w1=>BJ q.no w1);have HL:=I (show [prE q.c,prE q.s,encI q.t,encI q.no].flatten.length≤65535 by rw[Gc];simp only[List.length_append];omega);have HE:=I (show asE q=elem 106 [prE q.c,prE q.s,encI q.t,encI q.no].flatten from rfl);obtain⟨l1,el1⟩:∃l,l=prE q.c:=⟨_,rfl⟩;obtain⟨l2,el2⟩:∃l,l=prE q.s:=⟨_,rfl⟩;obtain⟨l3,el3⟩:∃l,l=encI q.t:=⟨_,rfl⟩;obtain⟨l4,el4⟩:∃l,l=encI q.no:=⟨_,rfl⟩;rw[←el1] at T1 HL HE;rw[←el2] at T2 HL HE;rw[←el3] at T3 HL HE;rw[←el4] at T4 HL HE;rw[HE.o,Gc];clear HE el1 el2 el3 el4 hp b1 b2 b3 b4 ha;go_enter Tryz.func180,Tryz.ntmps180
 go_wp2
 obtain⟨W,eW⟩:∃W,W=w.alloc (.cells #[.string ⟨q.c.1.toArray⟩,.string ⟨q.c.2.toArray⟩,.string ⟨q.s.1.toArray⟩,.string ⟨q.s.2.toArray⟩,.int .i64 q.t,.int .i64 q.no] 66):=⟨_,rfl⟩;rw[←eW] at HB HK⊢;clear eW;replace HK:=I (show Blk W.drew _ _ _ from HK.o.drewN 1);replace HB:=I (show Below _ _ W.drew from below_drewN HB.o 1)
 go_region_held3 (fun w'=>w'.cell? ⟨w.heap.size,0,none⟩=some (.string ⟨q.c.1.toArray⟩)∧w'.cell? ⟨w.heap.size,1,none⟩=some (.string ⟨q.c.2.toArray⟩)∧w'.cell? ⟨w.heap.size,2,none⟩=some (.string ⟨q.s.1.toArray⟩)∧w'.cell? ⟨w.heap.size,3,none⟩=some (.string ⟨q.s.2.toArray⟩)∧w'.cell? ⟨w.heap.size,4,none⟩=some (.int .i64 q.t)∧w'.cell? ⟨w.heap.size,5,none⟩=some (.int .i64 q.no)) (first | exact⟨HK.o.cell 0,HK.o.cell 1,HK.o.cell 2,HK.o.cell 3,HK.o.cell 4,HK.o.cell 5⟩ | exact⟨(HK.o.alloc _).cell 0,(HK.o.alloc _).cell 1,(HK.o.alloc _).cell 2,(HK.o.alloc _).cell 3,(HK.o.alloc _).cell 4,(HK.o.alloc _).cell 5⟩) ((first
  |(go_at_call 196;(with_reducible refine Calls.mono (T1.o _) ?_);rintro e w1 ⟨⟨g1,c1,rfl,hg1,hc1,hr1⟩,hb⟩;clear T1;have HR1:=I hr1;replace HK:=I (HK.o.below hb);replace HB:=HB.t hb;clear hb hr1 hg1 hc1)
  |(go_at_call 196;(with_reducible refine Calls.mono (T2.o _) ?_);rintro e w2 ⟨⟨g2,c2,rfl,hg2,hc2,hr2⟩,hb⟩;clear T2;replace HR1:=I (Bg HR1.o hb);have HR2:=I hr2;replace HK:=I (HK.o.below hb);replace HB:=HB.t hb;clear hb hr2 hg2 hc2)
  |(go_at_call 197;(with_reducible refine Calls.mono (T3.o _) ?_);rintro e w3 ⟨⟨g3,c3,rfl,hg3,hc3,hr3⟩,hb⟩;clear T3;replace HR1:=I (Bg HR1.o hb);replace HR2:=I (Bg HR2.o hb);have HR3:=I hr3;replace HK:=I (HK.o.below hb);replace HB:=HB.t hb;clear hb hr3 hg3 hc3)
  |(go_at_call 197;(with_reducible refine Calls.mono (T4.o _) ?_);rintro e w4 ⟨⟨g4,c4,rfl,hg4,hc4,hr4⟩,hb⟩;clear T4;replace HR1:=I (Bg HR1.o hb);replace HR2:=I (Bg HR2.o hb);replace HR3:=I (Bg HR3.o hb);have HR4:=I hr4;replace HK:=I (HK.o.below hb);replace HB:=HB.t hb;clear hb hr4 hg4 hc4)
  |(go_at_call 195;refine Calls.mono (Br 106 [l1,l2,l3,l4] _ 4 4 (w4.heap.size+1) _ (HJ HR1.o HR2.o HR3.o HR4.o) rfl (by simp) HL.o (by simp)) ?_;rintro e wz ⟨⟨gz,cz,rfl,hgz,hcz,hrz⟩,hb⟩;have hal:=(Below.refl w4.heap.size w4).alloc Ae (.cells #[.slice (some ⟨g1,0,none⟩) l1.length c1,.slice (some ⟨g2,0,none⟩) l2.length c2,.slice (some ⟨g3,0,none⟩) l3.length c3,.slice (some ⟨g4,0,none⟩) l4.length c4] 27);have HG:=I (AQ (l:=elem 106 [l1,l2,l3,l4].flatten) ⟨⟨gz,cz,rfl,hgz,hcz,hrz⟩,hb⟩ (HB.o.trans (hal.mono HB.o.size)));rw[Gc] at HG;replace HK:=I ((HK.o.alloc (.cells #[.slice (some ⟨g1,0,none⟩) l1.length c1,.slice (some ⟨g2,0,none⟩) l2.length c2,.slice (some ⟨g3,0,none⟩) l3.length c3,.slice (some ⟨g4,0,none⟩) l4.length c4] 27)).below hb);clear hal hgz hcz hrz hb)))
 go_wp2
 go_ret;exact HG.o
theorem Gu (q:Tg) (A1 A2:Option Addr) (c1 c2:Nat) (w:World) (ha:tgB q=true) (hr1:Rd w w.heap.size A1 (bvs q.t.b)) (hr2:Rd w w.heap.size A2 (bvs q.a)):Calls Tryz.prog 181 #[.agg #[.string ⟨q.t.s.1.toArray⟩,.string ⟨q.t.s.2.toArray⟩,.int .i64 q.t.k,.slice A1 q.t.b.length c1,.slice A2 q.a.length c2,.string ⟨q.s.1.toArray⟩,.string ⟨q.s.2.toArray⟩,.int .i64 q.u,.int .i64 q.no]] w (BA w (tgE q)):=by
 have HB:=I ((Below.refl w.heap.size w).alloc Ae (.cells #[.string ⟨q.t.s.1.toArray⟩,.string ⟨q.t.s.2.toArray⟩,.int .i64 q.t.k,.slice A1 q.t.b.length c1,.slice A2 q.a.length c2,.string ⟨q.s.1.toArray⟩,.string ⟨q.s.2.toArray⟩,.int .i64 q.u,.int .i64 q.no] 68));have HK:=I (Blk.new w 68 #[.string ⟨q.t.s.1.toArray⟩,.string ⟨q.t.s.2.toArray⟩,.int .i64 q.t.k,.slice A1 q.t.b.length c1,.slice A2 q.a.length c2,.string ⟨q.s.1.toArray⟩,.string ⟨q.s.2.toArray⟩,.int .i64 q.u,.int .i64 q.no]);have hp:tkB q.t=true∧Bi q.a=true∧prB q.s=true∧tmB q.u=true∧tmB q.no=true:=by simpa [tgB] using ha
 have b1:=(Bx hp.1).1;have b2:=Ao 4 q.a;have b3:=(AM hp.2.2.1).1;have b4:=Av q.u;have b5:=Av q.no;have b6:=AP hp.2.1;have T1:=I (fun w1 (h:Below w.heap.size w w1)=>BL q.t A1 c1 w1 hp.1 ((hr1.below h).more h.size));have T2:=I (fun w1 (h:Below w.heap.size w w1)=>BK q.a A2 q.a.length c2 w1.heap.size w1 ((hr2.below h).more h.size) rfl Ae (by omega));have T3:=I (fun w1=>Bf q.s w1 hp.2.2.1);have T4:=I (fun w1=>BJ q.u w1);have T5:=I (fun w1=>BJ q.no w1);have HL:=I (show [tkE q.t,elem 4 q.a,prE q.s,encI q.u,encI q.no].flatten.length≤65535 by rw[Gd];simp only[List.length_append];omega);have HE:=I (show tgE q=elem 108 [tkE q.t,elem 4 q.a,prE q.s,encI q.u,encI q.no].flatten from rfl);obtain⟨l1,el1⟩:∃l,l=tkE q.t:=⟨_,rfl⟩;obtain⟨l2,el2⟩:∃l,l=elem 4 q.a:=⟨_,rfl⟩;obtain⟨l3,el3⟩:∃l,l=prE q.s:=⟨_,rfl⟩;obtain⟨l4,el4⟩:∃l,l=encI q.u:=⟨_,rfl⟩;obtain⟨l5,el5⟩:∃l,l=encI q.no:=⟨_,rfl⟩;rw[←el1] at T1 HL HE;rw[←el2] at T2 HL HE;rw[←el3] at T3 HL HE;rw[←el4] at T4 HL HE;rw[←el5] at T5 HL HE;rw[HE.o,Gd];clear HE el1 el2 el3 el4 el5 hp b1 b2 b3 b4 b5 b6 ha hr1 hr2;go_enter Tryz.func181,Tryz.ntmps181
 go_wp2
 obtain⟨W,eW⟩:∃W,W=w.alloc (.cells #[.string ⟨q.t.s.1.toArray⟩,.string ⟨q.t.s.2.toArray⟩,.int .i64 q.t.k,.slice A1 q.t.b.length c1,.slice A2 q.a.length c2,.string ⟨q.s.1.toArray⟩,.string ⟨q.s.2.toArray⟩,.int .i64 q.u,.int .i64 q.no] 68):=⟨_,rfl⟩;rw[←eW] at HB HK⊢;clear eW;replace HK:=I (show Blk W.drew _ _ _ from HK.o.drewN 1);replace HB:=I (show Below _ _ W.drew from below_drewN HB.o 1)
 go_region_held3 (fun w'=>w'.cell? ⟨w.heap.size,0,none⟩=some (.string ⟨q.t.s.1.toArray⟩)∧w'.cell? ⟨w.heap.size,1,none⟩=some (.string ⟨q.t.s.2.toArray⟩)∧w'.cell? ⟨w.heap.size,2,none⟩=some (.int .i64 q.t.k)∧w'.cell? ⟨w.heap.size,3,none⟩=some (.slice A1 q.t.b.length c1)∧w'.cell? ⟨w.heap.size,4,none⟩=some (.slice A2 q.a.length c2)∧w'.cell? ⟨w.heap.size,5,none⟩=some (.string ⟨q.s.1.toArray⟩)∧w'.cell? ⟨w.heap.size,6,none⟩=some (.string ⟨q.s.2.toArray⟩)∧w'.cell? ⟨w.heap.size,7,none⟩=some (.int .i64 q.u)∧w'.cell? ⟨w.heap.size,8,none⟩=some (.int .i64 q.no)) (first | exact⟨HK.o.cell 0,HK.o.cell 1,HK.o.cell 2,HK.o.cell 3,HK.o.cell 4,HK.o.cell 5,HK.o.cell 6,HK.o.cell 7,HK.o.cell 8⟩ | exact⟨(HK.o.alloc _).cell 0,(HK.o.alloc _).cell 1,(HK.o.alloc _).cell 2,(HK.o.alloc _).cell 3,(HK.o.alloc _).cell 4,(HK.o.alloc _).cell 5,(HK.o.alloc _).cell 6,(HK.o.alloc _).cell 7,(HK.o.alloc _).cell 8⟩) ((first
  |(go_at_call 212;(with_reducible refine Calls.mono (T1.o _ HB.o) ?_);rintro e w1 ⟨⟨g1,c1,rfl,hg1,hc1,hr1⟩,hb⟩;clear T1;have HR1:=I hr1;replace HK:=I (HK.o.below hb);replace HB:=HB.t hb;clear hb hr1 hg1 hc1)
  |(go_at_call 213;(with_reducible refine Calls.mono (T2.o _ HB.o) ?_);rintro e w2 ⟨⟨g2,c2,rfl,hg2,hc2,hr2⟩,hb⟩;clear T2;replace HR1:=I (Bg HR1.o hb);have HR2:=I hr2;replace HK:=I (HK.o.below hb);replace HB:=HB.t hb;clear hb hr2 hg2 hc2)
  |(go_at_call 196;(with_reducible refine Calls.mono (T3.o _) ?_);rintro e w3 ⟨⟨g3,c3,rfl,hg3,hc3,hr3⟩,hb⟩;clear T3;replace HR1:=I (Bg HR1.o hb);replace HR2:=I (Bg HR2.o hb);have HR3:=I hr3;replace HK:=I (HK.o.below hb);replace HB:=HB.t hb;clear hb hr3 hg3 hc3)
  |(go_at_call 197;(with_reducible refine Calls.mono (T4.o _) ?_);rintro e w4 ⟨⟨g4,c4,rfl,hg4,hc4,hr4⟩,hb⟩;clear T4;replace HR1:=I (Bg HR1.o hb);replace HR2:=I (Bg HR2.o hb);replace HR3:=I (Bg HR3.o hb);have HR4:=I hr4;replace HK:=I (HK.o.below hb);replace HB:=HB.t hb;clear hb hr4 hg4 hc4)
  |(go_at_call 197;(with_reducible refine Calls.mono (T5.o _) ?_);rintro e w5 ⟨⟨g5,c5,rfl,hg5,hc5,hr5⟩,hb⟩;clear T5;replace HR1:=I (Bg HR1.o hb);replace HR2:=I (Bg HR2.o hb);replace HR3:=I (Bg HR3.o hb);replace HR4:=I (Bg HR4.o hb);have HR5:=I hr5;replace HK:=I (HK.o.below hb);replace HB:=HB.t hb;clear hb hr5 hg5 hc5)
  |(go_at_call 195;refine Calls.mono (Br 108 [l1,l2,l3,l4,l5] _ 5 5 (w5.heap.size+1) _ (HU HR1.o HR2.o HR3.o HR4.o HR5.o) rfl (by simp) HL.o (by simp)) ?_;rintro e wz ⟨⟨gz,cz,rfl,hgz,hcz,hrz⟩,hb⟩;have hal:=(Below.refl w5.heap.size w5).alloc Ae (.cells #[.slice (some ⟨g1,0,none⟩) l1.length c1,.slice (some ⟨g2,0,none⟩) l2.length c2,.slice (some ⟨g3,0,none⟩) l3.length c3,.slice (some ⟨g4,0,none⟩) l4.length c4,.slice (some ⟨g5,0,none⟩) l5.length c5] 27);have HG:=I (AQ (l:=elem 108 [l1,l2,l3,l4,l5].flatten) ⟨⟨gz,cz,rfl,hgz,hcz,hrz⟩,hb⟩ (HB.o.trans (hal.mono HB.o.size)));rw[Gd] at HG;replace HK:=I ((HK.o.alloc (.cells #[.slice (some ⟨g1,0,none⟩) l1.length c1,.slice (some ⟨g2,0,none⟩) l2.length c2,.slice (some ⟨g3,0,none⟩) l3.length c3,.slice (some ⟨g4,0,none⟩) l4.length c4,.slice (some ⟨g5,0,none⟩) l5.length c5] 27)).below hb);clear hal hgz hcz hrz hb)))
 go_wp2
 go_ret;exact HG.o
theorem Gv (q:Re) (A1 A2:Option Addr) (c1 c2:Nat) (w:World) (ha:reB q=true) (hr1:Rd w w.heap.size A1 (bvs q.t.b)) (hr2:Rd w w.heap.size A2 (bvs q.b)):Calls Tryz.prog 182 #[.agg #[.string ⟨q.c.1.toArray⟩,.string ⟨q.c.2.toArray⟩,.string ⟨q.t.s.1.toArray⟩,.string ⟨q.t.s.2.toArray⟩,.int .i64 q.t.k,.slice A1 q.t.b.length c1,.slice A2 q.b.length c2]] w (BA w (reE q)):=by
 have HB:=I ((Below.refl w.heap.size w).alloc Ae (.cells #[.string ⟨q.c.1.toArray⟩,.string ⟨q.c.2.toArray⟩,.string ⟨q.t.s.1.toArray⟩,.string ⟨q.t.s.2.toArray⟩,.int .i64 q.t.k,.slice A1 q.t.b.length c1,.slice A2 q.b.length c2] 70));have HK:=I (Blk.new w 70 #[.string ⟨q.c.1.toArray⟩,.string ⟨q.c.2.toArray⟩,.string ⟨q.t.s.1.toArray⟩,.string ⟨q.t.s.2.toArray⟩,.int .i64 q.t.k,.slice A1 q.t.b.length c1,.slice A2 q.b.length c2]);have hp:prB q.c=true∧tkB q.t=true∧Bi q.b=true:=by simpa [reB] using ha
 have b1:=(AM hp.1).1;have b2:=(Bx hp.2.1).1;have b3:=Ao 4 q.b;have b6:=AP hp.2.2;have T1:=I (fun w1=>Bf q.c w1 hp.1);have T2:=I (fun w1 (h:Below w.heap.size w w1)=>BL q.t A1 c1 w1 hp.2.1 ((hr1.below h).more h.size));have T3:=I (fun w1 (h:Below w.heap.size w w1)=>BK q.b A2 q.b.length c2 w1.heap.size w1 ((hr2.below h).more h.size) rfl Ae (by omega));have HL:=I (show [prE q.c,tkE q.t,elem 4 q.b].flatten.length≤65535 by rw[DJ];simp only[List.length_append];omega);have HE:=I (show reE q=elem 107 [prE q.c,tkE q.t,elem 4 q.b].flatten from rfl);obtain⟨l1,el1⟩:∃l,l=prE q.c:=⟨_,rfl⟩;obtain⟨l2,el2⟩:∃l,l=tkE q.t:=⟨_,rfl⟩;obtain⟨l3,el3⟩:∃l,l=elem 4 q.b:=⟨_,rfl⟩;rw[←el1] at T1 HL HE;rw[←el2] at T2 HL HE;rw[←el3] at T3 HL HE;rw[HE.o,DJ];clear HE el1 el2 el3 hp b1 b2 b3 b6 ha hr1 hr2;go_enter Tryz.func182,Tryz.ntmps182
 go_wp2
 obtain⟨W,eW⟩:∃W,W=w.alloc (.cells #[.string ⟨q.c.1.toArray⟩,.string ⟨q.c.2.toArray⟩,.string ⟨q.t.s.1.toArray⟩,.string ⟨q.t.s.2.toArray⟩,.int .i64 q.t.k,.slice A1 q.t.b.length c1,.slice A2 q.b.length c2] 70):=⟨_,rfl⟩;rw[←eW] at HB HK⊢;clear eW;replace HK:=I (show Blk W.drew _ _ _ from HK.o.drewN 1);replace HB:=I (show Below _ _ W.drew from below_drewN HB.o 1)
 go_region_held3 (fun w'=>w'.cell? ⟨w.heap.size,0,none⟩=some (.string ⟨q.c.1.toArray⟩)∧w'.cell? ⟨w.heap.size,1,none⟩=some (.string ⟨q.c.2.toArray⟩)∧w'.cell? ⟨w.heap.size,2,none⟩=some (.string ⟨q.t.s.1.toArray⟩)∧w'.cell? ⟨w.heap.size,3,none⟩=some (.string ⟨q.t.s.2.toArray⟩)∧w'.cell? ⟨w.heap.size,4,none⟩=some (.int .i64 q.t.k)∧w'.cell? ⟨w.heap.size,5,none⟩=some (.slice A1 q.t.b.length c1)∧w'.cell? ⟨w.heap.size,6,none⟩=some (.slice A2 q.b.length c2)) (first | exact⟨HK.o.cell 0,HK.o.cell 1,HK.o.cell 2,HK.o.cell 3,HK.o.cell 4,HK.o.cell 5,HK.o.cell 6⟩ | exact⟨(HK.o.alloc _).cell 0,(HK.o.alloc _).cell 1,(HK.o.alloc _).cell 2,(HK.o.alloc _).cell 3,(HK.o.alloc _).cell 4,(HK.o.alloc _).cell 5,(HK.o.alloc _).cell 6⟩) ((first
  |(go_at_call 196;(with_reducible refine Calls.mono (T1.o _) ?_);rintro e w1 ⟨⟨g1,c1,rfl,hg1,hc1,hr1⟩,hb⟩;clear T1;have HR1:=I hr1;replace HK:=I (HK.o.below hb);replace HB:=HB.t hb;clear hb hr1 hg1 hc1)
  |(go_at_call 212;(with_reducible refine Calls.mono (T2.o _ HB.o) ?_);rintro e w2 ⟨⟨g2,c2,rfl,hg2,hc2,hr2⟩,hb⟩;clear T2;replace HR1:=I (Bg HR1.o hb);have HR2:=I hr2;replace HK:=I (HK.o.below hb);replace HB:=HB.t hb;clear hb hr2 hg2 hc2)
  |(go_at_call 213;(with_reducible refine Calls.mono (T3.o _ HB.o) ?_);rintro e w3 ⟨⟨g3,c3,rfl,hg3,hc3,hr3⟩,hb⟩;clear T3;replace HR1:=I (Bg HR1.o hb);replace HR2:=I (Bg HR2.o hb);have HR3:=I hr3;replace HK:=I (HK.o.below hb);replace HB:=HB.t hb;clear hb hr3 hg3 hc3)
  |(go_at_call 195;refine Calls.mono (Br 107 [l1,l2,l3] _ 3 3 (w3.heap.size+1) _ (Ef HR1.o HR2.o HR3.o) rfl (by simp) HL.o (by simp)) ?_;rintro e wz ⟨⟨gz,cz,rfl,hgz,hcz,hrz⟩,hb⟩;have hal:=(Below.refl w3.heap.size w3).alloc Ae (.cells #[.slice (some ⟨g1,0,none⟩) l1.length c1,.slice (some ⟨g2,0,none⟩) l2.length c2,.slice (some ⟨g3,0,none⟩) l3.length c3] 27);have HG:=I (AQ (l:=elem 107 [l1,l2,l3].flatten) ⟨⟨gz,cz,rfl,hgz,hcz,hrz⟩,hb⟩ (HB.o.trans (hal.mono HB.o.size)));rw[DJ] at HG;replace HK:=I ((HK.o.alloc (.cells #[.slice (some ⟨g1,0,none⟩) l1.length c1,.slice (some ⟨g2,0,none⟩) l2.length c2,.slice (some ⟨g3,0,none⟩) l3.length c3] 27)).below hb);clear hal hgz hcz hrz hb)))
 go_wp2
 go_ret;exact HG.o
theorem Gw (q:Ap) (A1 A2:Option Addr) (c1 c2:Nat) (w:World) (ha:apB q=true) (hr1:Rd w w.heap.size A1 (bvs q.t.b)) (hr2:Rd w w.heap.size A2 (bvs q.a)):Calls Tryz.prog 183 #[.agg #[.string ⟨q.t.s.1.toArray⟩,.string ⟨q.t.s.2.toArray⟩,.int .i64 q.t.k,.slice A1 q.t.b.length c1,.slice A2 q.a.length c2]] w (BA w (apE q)):=by
 have HB:=I ((Below.refl w.heap.size w).alloc Ae (.cells #[.string ⟨q.t.s.1.toArray⟩,.string ⟨q.t.s.2.toArray⟩,.int .i64 q.t.k,.slice A1 q.t.b.length c1,.slice A2 q.a.length c2] 72));have HK:=I (Blk.new w 72 #[.string ⟨q.t.s.1.toArray⟩,.string ⟨q.t.s.2.toArray⟩,.int .i64 q.t.k,.slice A1 q.t.b.length c1,.slice A2 q.a.length c2]);have hp:tkB q.t=true∧Bi q.a=true:=by simpa [apB] using ha
 have b2:=(Bx hp.1).1;have b3:=Ao 4 q.a;have b6:=AP hp.2;have T1:=I (fun w1 (h:Below w.heap.size w w1)=>BL q.t A1 c1 w1 hp.1 ((hr1.below h).more h.size));have T2:=I (fun w1 (h:Below w.heap.size w w1)=>BK q.a A2 q.a.length c2 w1.heap.size w1 ((hr2.below h).more h.size) rfl Ae (by omega));have HL:=I (show [tkE q.t,elem 4 q.a].flatten.length≤65535 by rw[Co];simp only[List.length_append];omega);have HE:=I (show apE q=elem 110 [tkE q.t,elem 4 q.a].flatten from rfl);obtain⟨l1,el1⟩:∃l,l=tkE q.t:=⟨_,rfl⟩;obtain⟨l2,el2⟩:∃l,l=elem 4 q.a:=⟨_,rfl⟩;rw[←el1] at T1 HL HE;rw[←el2] at T2 HL HE;rw[HE.o,Co];clear HE el1 el2 hp b2 b3 b6 ha hr1 hr2;go_enter Tryz.func183,Tryz.ntmps183
 go_wp2
 obtain⟨W,eW⟩:∃W,W=w.alloc (.cells #[.string ⟨q.t.s.1.toArray⟩,.string ⟨q.t.s.2.toArray⟩,.int .i64 q.t.k,.slice A1 q.t.b.length c1,.slice A2 q.a.length c2] 72):=⟨_,rfl⟩;rw[←eW] at HB HK⊢;clear eW;replace HK:=I (show Blk W.drew _ _ _ from HK.o.drewN 1);replace HB:=I (show Below _ _ W.drew from below_drewN HB.o 1)
 go_region_held3 (fun w'=>w'.cell? ⟨w.heap.size,0,none⟩=some (.string ⟨q.t.s.1.toArray⟩)∧w'.cell? ⟨w.heap.size,1,none⟩=some (.string ⟨q.t.s.2.toArray⟩)∧w'.cell? ⟨w.heap.size,2,none⟩=some (.int .i64 q.t.k)∧w'.cell? ⟨w.heap.size,3,none⟩=some (.slice A1 q.t.b.length c1)∧w'.cell? ⟨w.heap.size,4,none⟩=some (.slice A2 q.a.length c2)) (first | exact⟨HK.o.cell 0,HK.o.cell 1,HK.o.cell 2,HK.o.cell 3,HK.o.cell 4⟩ | exact⟨(HK.o.alloc _).cell 0,(HK.o.alloc _).cell 1,(HK.o.alloc _).cell 2,(HK.o.alloc _).cell 3,(HK.o.alloc _).cell 4⟩) ((first
  |(go_at_call 212;(with_reducible refine Calls.mono (T1.o _ HB.o) ?_);rintro e w1 ⟨⟨g1,c1,rfl,hg1,hc1,hr1⟩,hb⟩;clear T1;have HR1:=I hr1;replace HK:=I (HK.o.below hb);replace HB:=HB.t hb;clear hb hr1 hg1 hc1)
  |(go_at_call 213;(with_reducible refine Calls.mono (T2.o _ HB.o) ?_);rintro e w2 ⟨⟨g2,c2,rfl,hg2,hc2,hr2⟩,hb⟩;clear T2;replace HR1:=I (Bg HR1.o hb);have HR2:=I hr2;replace HK:=I (HK.o.below hb);replace HB:=HB.t hb;clear hb hr2 hg2 hc2)
  |(go_at_call 195;refine Calls.mono (Br 110 [l1,l2] _ 2 2 (w2.heap.size+1) _ (ED HR1.o HR2.o) rfl (by simp) HL.o (by simp)) ?_;rintro e wz ⟨⟨gz,cz,rfl,hgz,hcz,hrz⟩,hb⟩;have hal:=(Below.refl w2.heap.size w2).alloc Ae (.cells #[.slice (some ⟨g1,0,none⟩) l1.length c1,.slice (some ⟨g2,0,none⟩) l2.length c2] 27);have HG:=I (AQ (l:=elem 110 [l1,l2].flatten) ⟨⟨gz,cz,rfl,hgz,hcz,hrz⟩,hb⟩ (HB.o.trans (hal.mono HB.o.size)));rw[Co] at HG;replace HK:=I ((HK.o.alloc (.cells #[.slice (some ⟨g1,0,none⟩) l1.length c1,.slice (some ⟨g2,0,none⟩) l2.length c2] 27)).below hb);clear hal hgz hcz hrz hb)))
 go_wp2
 go_ret;exact HG.o
theorem Gx (q:Fa) (w:World):Calls Tryz.prog 184 #[.agg #[.int .i64 q.e,.int .i64 q.no]] w (BA w (faE q)):=by
 have HB:=I ((Below.refl w.heap.size w).alloc Ae (.cells #[.int .i64 q.e,.int .i64 q.no] 74));have HK:=I (Blk.new w 74 #[.int .i64 q.e,.int .i64 q.no]);have b1:=Av q.e;have b2:=Av q.no;have T1:=I (fun w1=>BJ q.e w1);have T2:=I (fun w1=>BJ q.no w1);have HL:=I (show [encI q.e,encI q.no].flatten.length≤65535 by rw[Co];simp only[List.length_append];omega);have HE:=I (show faE q=elem 126 [encI q.e,encI q.no].flatten from rfl);obtain⟨l1,el1⟩:∃l,l=encI q.e:=⟨_,rfl⟩;obtain⟨l2,el2⟩:∃l,l=encI q.no:=⟨_,rfl⟩;rw[←el1] at T1 HL HE;rw[←el2] at T2 HL HE;rw[HE.o,Co];clear HE el1 el2 b1 b2;go_enter Tryz.func184,Tryz.ntmps184
 go_wp2
 obtain⟨W,eW⟩:∃W,W=w.alloc (.cells #[.int .i64 q.e,.int .i64 q.no] 74):=⟨_,rfl⟩;rw[←eW] at HB HK⊢;clear eW;replace HK:=I (show Blk W.drew _ _ _ from HK.o.drewN 1);replace HB:=I (show Below _ _ W.drew from below_drewN HB.o 1)
 go_region_held3 (fun w'=>w'.cell? ⟨w.heap.size,0,none⟩=some (.int .i64 q.e)∧w'.cell? ⟨w.heap.size,1,none⟩=some (.int .i64 q.no)) (first | exact⟨HK.o.cell 0,HK.o.cell 1⟩ | exact⟨(HK.o.alloc _).cell 0,(HK.o.alloc _).cell 1⟩) ((first
  |(go_at_call 197;(with_reducible refine Calls.mono (T1.o _) ?_);rintro e w1 ⟨⟨g1,c1,rfl,hg1,hc1,hr1⟩,hb⟩;clear T1;have HR1:=I hr1;replace HK:=I (HK.o.below hb);replace HB:=HB.t hb;clear hb hr1 hg1 hc1)
  |(go_at_call 197;(with_reducible refine Calls.mono (T2.o _) ?_);rintro e w2 ⟨⟨g2,c2,rfl,hg2,hc2,hr2⟩,hb⟩;clear T2;replace HR1:=I (Bg HR1.o hb);have HR2:=I hr2;replace HK:=I (HK.o.below hb);replace HB:=HB.t hb;clear hb hr2 hg2 hc2)
  |(go_at_call 195;refine Calls.mono (Br 126 [l1,l2] _ 2 2 (w2.heap.size+1) _ (ED HR1.o HR2.o) rfl (by simp) HL.o (by simp)) ?_;rintro e wz ⟨⟨gz,cz,rfl,hgz,hcz,hrz⟩,hb⟩;have hal:=(Below.refl w2.heap.size w2).alloc Ae (.cells #[.slice (some ⟨g1,0,none⟩) l1.length c1,.slice (some ⟨g2,0,none⟩) l2.length c2] 27);have HG:=I (AQ (l:=elem 126 [l1,l2].flatten) ⟨⟨gz,cz,rfl,hgz,hcz,hrz⟩,hb⟩ (HB.o.trans (hal.mono HB.o.size)));rw[Co] at HG;replace HK:=I ((HK.o.alloc (.cells #[.slice (some ⟨g1,0,none⟩) l1.length c1,.slice (some ⟨g2,0,none⟩) l2.length c2] 27)).below hb);clear hal hgz hcz hrz hb)))
 go_wp2
 go_ret;exact HG.o
end Mc
namespace Mc
open Go.RowKit Ad DerP Ms
theorem AA (p:Pr) (w:World) (h1:p.1.length≤1000000000) (h2:p.2.length≤1000000000):Calls Tryz.prog 86 #[prV p] w fun e w'=>e = .returned (.bool (prB p))∧Below w.heap.size w w':=Nm.AA p.1 p.2 w h1 h2
theorem BH (n a b:Int) (w:World):Calls Tryz.prog 211 #[.int .i64 n,.int .i64 a,.int .i64 b] w fun e w'=>e = .returned (.bool (inB n a b))∧w=w':=by
 cases h1:decide (a≤n) with
 |false=>
  go_enter Tryz.func211,Tryz.ntmps211
  go_wp2
  go_ret;exact⟨by rw[inB,h1];rfl,rfl⟩
 |true=>
  go_enter Tryz.func211,Tryz.ntmps211
  go_wp2
  go_ret;exact⟨by rw[inB,h1];rfl,rfl⟩
theorem Fc (n:Int) (w:World):Calls Tryz.prog 193 #[.int .i64 n] w fun e w'=>e = .returned (.bool (tmB n))∧w=w':=by
 have c1:=BH n 0 1073741824 w;rw[show inB n 0 1073741824=tmB n from rfl] at c1;go_enter Tryz.func193,Tryz.ntmps193
 go_wp2_with (go_at_call 211;refine Calls.mono c1 ?_;rintro e w1 ⟨rfl,rfl⟩)
 go_ret;exact⟨rfl,rfl⟩
theorem Dm (n:Int) (w:World):Calls Tryz.prog 194 #[.int .i64 n] w fun e w'=>e = .returned (.bool (tmB n))∧w=w':=by
 have c1:=BH n 0 1073741824 w;rw[show inB n 0 1073741824=tmB n from rfl] at c1;go_enter Tryz.func194,Tryz.ntmps194
 go_wp2_with (go_at_call 211;refine Calls.mono c1 ?_;rintro e w1 ⟨rfl,rfl⟩)
 go_ret;exact⟨rfl,rfl⟩
theorem Cb (b:L) (A:Option Addr) (c:Nat) (w:World):Calls Tryz.prog 210 #[.slice A b.length c] w fun e w'=>e = .returned (.bool (Bi b))∧w=w':=by
 have c1:=BH (b.length:Int) 1 800 w;rw[Jq] at c1;go_enter Tryz.func210,Tryz.ntmps210
 go_wp2_with (go_at_call 211;refine Calls.mono c1 ?_;rintro e w1 ⟨rfl,rfl⟩)
 go_ret;exact⟨rfl,rfl⟩
theorem BX (t:Tk) (A:Option Addr) (c:Nat) (w:World) (hs:pSm t.s):Calls Tryz.prog 209 #[.agg #[.string ⟨t.s.1.toArray⟩,.string ⟨t.s.2.toArray⟩,.int .i64 t.k,.slice A t.b.length c]] w fun e w'=>e = .returned (.bool (tkB t))∧Below w.heap.size w w':=by
 have hb0:=(Below.refl w.heap.size w).alloc Ae (.cells #[.string ⟨t.s.1.toArray⟩,.string ⟨t.s.2.toArray⟩,.int .i64 t.k,.slice A t.b.length c] 42);have HB:=I hb0;have HK:=I (Blk.new w 42 #[.string ⟨t.s.1.toArray⟩,.string ⟨t.s.2.toArray⟩,.int .i64 t.k,.slice A t.b.length c]);clear hb0;have T1:=I (fun w1=>AA t.s w1 hs.1 hs.2);have T2:=I (fun w1=>BH t.k 1 255 w1);have T3:=I (fun w1=>Cb t.b A c w1);cases h1:prB t.s with
 |false=>
  rw[h1] at T1;have E:=I (show tkB t=false by rw[tkB,h1];rfl);clear h1;go_enter Tryz.func209,Tryz.ntmps209
  go_wp2_with (go_at_call 86;(with_reducible refine Calls.mono (T1.o _) ?_);rintro e w1 ⟨rfl,hb⟩;replace HK:=I (HK.o.below hb);replace HB:=HB.t hb;clear hb T1;(try clear k0 k1 k2 k3);have k0:=HK.o.cell 0;have k1:=HK.o.cell 1;have k2:=HK.o.cell 2;have k3:=HK.o.cell 3;simp only[List.getElem?_toArray,List.getElem?_cons_zero,List.getElem?_cons_succ] at k0 k1 k2 k3)
  go_ret;exact⟨by rw[E.o];rfl,HB.o⟩
 |true=>
  rw[h1] at T1;cases h2:inB t.k 1 255 with
  |false=>
   rw[h2] at T2;have E:=I (show tkB t=false by rw[tkB,h1,h2];rfl);clear h1 h2;go_enter Tryz.func209,Tryz.ntmps209
   go_wp2_with (first
    |(go_at_call 86;(with_reducible refine Calls.mono (T1.o _) ?_);rintro e w1 ⟨rfl,hb⟩;replace HK:=I (HK.o.below hb);replace HB:=HB.t hb;clear hb T1;(try clear k0 k1 k2 k3);have k0:=HK.o.cell 0;have k1:=HK.o.cell 1;have k2:=HK.o.cell 2;have k3:=HK.o.cell 3;simp only[List.getElem?_toArray,List.getElem?_cons_zero,List.getElem?_cons_succ] at k0 k1 k2 k3)
    |(go_at_call 211;(with_reducible refine Calls.mono (T2.o _) ?_);rintro e w2 ⟨rfl,hw⟩;subst hw;clear T2))
   go_ret;exact⟨by rw[E.o];rfl,HB.o⟩
  |true=>
   rw[h2] at T2;have E:=I (show tkB t=Bi t.b by rw[tkB,h1,h2];rfl);clear h1 h2;go_enter Tryz.func209,Tryz.ntmps209
   go_wp2_with (first
    |(go_at_call 86;(with_reducible refine Calls.mono (T1.o _) ?_);rintro e w1 ⟨rfl,hb⟩;replace HK:=I (HK.o.below hb);replace HB:=HB.t hb;clear hb T1;(try clear k0 k1 k2 k3);have k0:=HK.o.cell 0;have k1:=HK.o.cell 1;have k2:=HK.o.cell 2;have k3:=HK.o.cell 3;simp only[List.getElem?_toArray,List.getElem?_cons_zero,List.getElem?_cons_succ] at k0 k1 k2 k3)
    |(go_at_call 211;(with_reducible refine Calls.mono (T2.o _) ?_);rintro e w2 ⟨rfl,hw⟩;subst hw;clear T2)
    |(go_at_call 210;(with_reducible refine Calls.mono (T3.o _) ?_);rintro e w3 ⟨rfl,hw⟩;subst hw;clear T3))
   go_ret;exact⟨by rw[E.o];rfl,HB.o⟩
theorem Ic (q:As) (w:World) (hs:pSm q.c) (hs2:pSm q.s):Calls Tryz.prog 175 #[.agg #[.string ⟨q.c.1.toArray⟩,.string ⟨q.c.2.toArray⟩,.string ⟨q.s.1.toArray⟩,.string ⟨q.s.2.toArray⟩,.int .i64 q.t,.int .i64 q.no]] w fun e w'=>e = .returned (.bool (asB q))∧Below w.heap.size w w':=by
 have hb0:=(Below.refl w.heap.size w).alloc Ae (.cells #[.string ⟨q.c.1.toArray⟩,.string ⟨q.c.2.toArray⟩,.string ⟨q.s.1.toArray⟩,.string ⟨q.s.2.toArray⟩,.int .i64 q.t,.int .i64 q.no] 66);have HB:=I hb0;have HK:=I (Blk.new w 66 #[.string ⟨q.c.1.toArray⟩,.string ⟨q.c.2.toArray⟩,.string ⟨q.s.1.toArray⟩,.string ⟨q.s.2.toArray⟩,.int .i64 q.t,.int .i64 q.no]);clear hb0;have T1:=I (fun w1=>AA q.c w1 hs.1 hs.2);have T2:=I (fun w1=>AA q.s w1 hs2.1 hs2.2);have T3:=I (fun w1=>Fc q.t w1);have T4:=I (fun w1=>Dm q.no w1);cases h1:prB q.c with
 |false=>
  rw[h1] at T1;have E:=I (show asB q=false by rw[asB,h1];rfl);clear h1;go_enter Tryz.func175,Tryz.ntmps175
  go_wp2_with (go_at_call 86;(with_reducible refine Calls.mono (T1.o _) ?_);rintro e w1 ⟨rfl,hb⟩;replace HK:=I (HK.o.below hb);replace HB:=HB.t hb;clear hb T1;(try clear k0 k1 k2 k3 k4 k5);have k0:=HK.o.cell 0;have k1:=HK.o.cell 1;have k2:=HK.o.cell 2;have k3:=HK.o.cell 3;have k4:=HK.o.cell 4;have k5:=HK.o.cell 5;simp only[List.getElem?_toArray,List.getElem?_cons_zero,List.getElem?_cons_succ] at k0 k1 k2 k3 k4 k5)
  go_ret;exact⟨by rw[E.o];rfl,HB.o⟩
 |true=>
  rw[h1] at T1;cases h2:prB q.s with
  |false=>
   rw[h2] at T2;have E:=I (show asB q=false by rw[asB,h1,h2];rfl);clear h1 h2;go_enter Tryz.func175,Tryz.ntmps175
   go_wp2_with (first
    |(go_at_call 86;(with_reducible refine Calls.mono (T1.o _) ?_);rintro e w1 ⟨rfl,hb⟩;replace HK:=I (HK.o.below hb);replace HB:=HB.t hb;clear hb T1;(try clear k0 k1 k2 k3 k4 k5);have k0:=HK.o.cell 0;have k1:=HK.o.cell 1;have k2:=HK.o.cell 2;have k3:=HK.o.cell 3;have k4:=HK.o.cell 4;have k5:=HK.o.cell 5;simp only[List.getElem?_toArray,List.getElem?_cons_zero,List.getElem?_cons_succ] at k0 k1 k2 k3 k4 k5)
    |(go_at_call 86;(with_reducible refine Calls.mono (T2.o _) ?_);rintro e w2 ⟨rfl,hb⟩;replace HK:=I (HK.o.below hb);replace HB:=HB.t hb;clear hb T2;(try clear k0 k1 k2 k3 k4 k5);have k0:=HK.o.cell 0;have k1:=HK.o.cell 1;have k2:=HK.o.cell 2;have k3:=HK.o.cell 3;have k4:=HK.o.cell 4;have k5:=HK.o.cell 5;simp only[List.getElem?_toArray,List.getElem?_cons_zero,List.getElem?_cons_succ] at k0 k1 k2 k3 k4 k5))
   go_ret;exact⟨by rw[E.o];rfl,HB.o⟩
  |true=>
   rw[h2] at T2;cases h3:tmB q.t with
   |false=>
    rw[h3] at T3;have E:=I (show asB q=false by rw[asB,h1,h2,h3];rfl);clear h1 h2 h3;go_enter Tryz.func175,Tryz.ntmps175
    go_wp2_with (first
     |(go_at_call 86;(with_reducible refine Calls.mono (T1.o _) ?_);rintro e w1 ⟨rfl,hb⟩;replace HK:=I (HK.o.below hb);replace HB:=HB.t hb;clear hb T1;(try clear k0 k1 k2 k3 k4 k5);have k0:=HK.o.cell 0;have k1:=HK.o.cell 1;have k2:=HK.o.cell 2;have k3:=HK.o.cell 3;have k4:=HK.o.cell 4;have k5:=HK.o.cell 5;simp only[List.getElem?_toArray,List.getElem?_cons_zero,List.getElem?_cons_succ] at k0 k1 k2 k3 k4 k5)
     |(go_at_call 86;(with_reducible refine Calls.mono (T2.o _) ?_);rintro e w2 ⟨rfl,hb⟩;replace HK:=I (HK.o.below hb);replace HB:=HB.t hb;clear hb T2;(try clear k0 k1 k2 k3 k4 k5);have k0:=HK.o.cell 0;have k1:=HK.o.cell 1;have k2:=HK.o.cell 2;have k3:=HK.o.cell 3;have k4:=HK.o.cell 4;have k5:=HK.o.cell 5;simp only[List.getElem?_toArray,List.getElem?_cons_zero,List.getElem?_cons_succ] at k0 k1 k2 k3 k4 k5)
     |(go_at_call 193;(with_reducible refine Calls.mono (T3.o _) ?_);rintro e w3 ⟨rfl,hw⟩;subst hw;clear T3))
    go_ret;exact⟨by rw[E.o];rfl,HB.o⟩
   |true=>
    rw[h3] at T3;have E:=I (show asB q=tmB q.no by rw[asB,h1,h2,h3];rfl);clear h1 h2 h3;go_enter Tryz.func175,Tryz.ntmps175
    go_wp2_with (first
     |(go_at_call 86;(with_reducible refine Calls.mono (T1.o _) ?_);rintro e w1 ⟨rfl,hb⟩;replace HK:=I (HK.o.below hb);replace HB:=HB.t hb;clear hb T1;(try clear k0 k1 k2 k3 k4 k5);have k0:=HK.o.cell 0;have k1:=HK.o.cell 1;have k2:=HK.o.cell 2;have k3:=HK.o.cell 3;have k4:=HK.o.cell 4;have k5:=HK.o.cell 5;simp only[List.getElem?_toArray,List.getElem?_cons_zero,List.getElem?_cons_succ] at k0 k1 k2 k3 k4 k5)
     |(go_at_call 86;(with_reducible refine Calls.mono (T2.o _) ?_);rintro e w2 ⟨rfl,hb⟩;replace HK:=I (HK.o.below hb);replace HB:=HB.t hb;clear hb T2;(try clear k0 k1 k2 k3 k4 k5);have k0:=HK.o.cell 0;have k1:=HK.o.cell 1;have k2:=HK.o.cell 2;have k3:=HK.o.cell 3;have k4:=HK.o.cell 4;have k5:=HK.o.cell 5;simp only[List.getElem?_toArray,List.getElem?_cons_zero,List.getElem?_cons_succ] at k0 k1 k2 k3 k4 k5)
     |(go_at_call 193;(with_reducible refine Calls.mono (T3.o _) ?_);rintro e w3 ⟨rfl,hw⟩;subst hw;clear T3)
     |(go_at_call 194;(with_reducible refine Calls.mono (T4.o _) ?_);rintro e w4 ⟨rfl,hw⟩;subst hw;clear T4))
    go_ret;exact⟨by rw[E.o];rfl,HB.o⟩
theorem Gy (q:Tg) (A1 A2:Option Addr) (c1 c2:Nat) (w:World) (hs:pSm q.t.s) (hs2:pSm q.s):Calls Tryz.prog 176 #[.agg #[.string ⟨q.t.s.1.toArray⟩,.string ⟨q.t.s.2.toArray⟩,.int .i64 q.t.k,.slice A1 q.t.b.length c1,.slice A2 q.a.length c2,.string ⟨q.s.1.toArray⟩,.string ⟨q.s.2.toArray⟩,.int .i64 q.u,.int .i64 q.no]] w fun e w'=>e = .returned (.bool (tgB q))∧Below w.heap.size w w':=by
 have hb0:=(Below.refl w.heap.size w).alloc Ae (.cells #[.string ⟨q.t.s.1.toArray⟩,.string ⟨q.t.s.2.toArray⟩,.int .i64 q.t.k,.slice A1 q.t.b.length c1,.slice A2 q.a.length c2,.string ⟨q.s.1.toArray⟩,.string ⟨q.s.2.toArray⟩,.int .i64 q.u,.int .i64 q.no] 68);have HB:=I hb0;have HK:=I (Blk.new w 68 #[.string ⟨q.t.s.1.toArray⟩,.string ⟨q.t.s.2.toArray⟩,.int .i64 q.t.k,.slice A1 q.t.b.length c1,.slice A2 q.a.length c2,.string ⟨q.s.1.toArray⟩,.string ⟨q.s.2.toArray⟩,.int .i64 q.u,.int .i64 q.no]);clear hb0;have T1:=I (fun w1=>BX q.t A1 c1 w1 hs);have T2:=I (fun w1=>Cb q.a A2 c2 w1);have T3:=I (fun w1=>AA q.s w1 hs2.1 hs2.2);have T4:=I (fun w1=>Fc q.u w1);have T5:=I (fun w1=>Dm q.no w1);cases h1:tkB q.t with
 |false=>
  rw[h1] at T1;have E:=I (show tgB q=false by rw[tgB,h1];rfl);clear h1;go_enter Tryz.func176,Tryz.ntmps176
  go_wp2_with (go_at_call 209;(with_reducible refine Calls.mono (T1.o _) ?_);rintro e w1 ⟨rfl,hb⟩;replace HK:=I (HK.o.below hb);replace HB:=HB.t hb;clear hb T1;(try clear k0 k1 k2 k3 k4 k5 k6 k7 k8);have k0:=HK.o.cell 0;have k1:=HK.o.cell 1;have k2:=HK.o.cell 2;have k3:=HK.o.cell 3;have k4:=HK.o.cell 4;have k5:=HK.o.cell 5;have k6:=HK.o.cell 6;have k7:=HK.o.cell 7;have k8:=HK.o.cell 8;simp only[List.getElem?_toArray,List.getElem?_cons_zero,List.getElem?_cons_succ] at k0 k1 k2 k3 k4 k5 k6 k7 k8)
  go_ret;exact⟨by rw[E.o];rfl,HB.o⟩
 |true=>
  rw[h1] at T1;cases h2:Bi q.a with
  |false=>
   rw[h2] at T2;have E:=I (show tgB q=false by rw[tgB,h1,h2];rfl);clear h1 h2;go_enter Tryz.func176,Tryz.ntmps176
   go_wp2_with (first
    |(go_at_call 209;(with_reducible refine Calls.mono (T1.o _) ?_);rintro e w1 ⟨rfl,hb⟩;replace HK:=I (HK.o.below hb);replace HB:=HB.t hb;clear hb T1;(try clear k0 k1 k2 k3 k4 k5 k6 k7 k8);have k0:=HK.o.cell 0;have k1:=HK.o.cell 1;have k2:=HK.o.cell 2;have k3:=HK.o.cell 3;have k4:=HK.o.cell 4;have k5:=HK.o.cell 5;have k6:=HK.o.cell 6;have k7:=HK.o.cell 7;have k8:=HK.o.cell 8;simp only[List.getElem?_toArray,List.getElem?_cons_zero,List.getElem?_cons_succ] at k0 k1 k2 k3 k4 k5 k6 k7 k8)
    |(go_at_call 210;(with_reducible refine Calls.mono (T2.o _) ?_);rintro e w2 ⟨rfl,hw⟩;subst hw;clear T2))
   go_ret;exact⟨by rw[E.o];rfl,HB.o⟩
  |true=>
   rw[h2] at T2;cases h3:prB q.s with
   |false=>
    rw[h3] at T3;have E:=I (show tgB q=false by rw[tgB,h1,h2,h3];rfl);clear h1 h2 h3;go_enter Tryz.func176,Tryz.ntmps176
    go_wp2_with (first
     |(go_at_call 209;(with_reducible refine Calls.mono (T1.o _) ?_);rintro e w1 ⟨rfl,hb⟩;replace HK:=I (HK.o.below hb);replace HB:=HB.t hb;clear hb T1;(try clear k0 k1 k2 k3 k4 k5 k6 k7 k8);have k0:=HK.o.cell 0;have k1:=HK.o.cell 1;have k2:=HK.o.cell 2;have k3:=HK.o.cell 3;have k4:=HK.o.cell 4;have k5:=HK.o.cell 5;have k6:=HK.o.cell 6;have k7:=HK.o.cell 7;have k8:=HK.o.cell 8;simp only[List.getElem?_toArray,List.getElem?_cons_zero,List.getElem?_cons_succ] at k0 k1 k2 k3 k4 k5 k6 k7 k8)
     |(go_at_call 210;(with_reducible refine Calls.mono (T2.o _) ?_);rintro e w2 ⟨rfl,hw⟩;subst hw;clear T2)
     |(go_at_call 86;(with_reducible refine Calls.mono (T3.o _) ?_);rintro e w3 ⟨rfl,hb⟩;replace HK:=I (HK.o.below hb);replace HB:=HB.t hb;clear hb T3;(try clear k0 k1 k2 k3 k4 k5 k6 k7 k8);have k0:=HK.o.cell 0;have k1:=HK.o.cell 1;have k2:=HK.o.cell 2;have k3:=HK.o.cell 3;have k4:=HK.o.cell 4;have k5:=HK.o.cell 5;have k6:=HK.o.cell 6;have k7:=HK.o.cell 7;have k8:=HK.o.cell 8;simp only[List.getElem?_toArray,List.getElem?_cons_zero,List.getElem?_cons_succ] at k0 k1 k2 k3 k4 k5 k6 k7 k8))
    go_ret;exact⟨by rw[E.o];rfl,HB.o⟩
   |true=>
    rw[h3] at T3;cases h4:tmB q.u with
    |false=>
     rw[h4] at T4;have E:=I (show tgB q=false by rw[tgB,h1,h2,h3,h4];rfl);clear h1 h2 h3 h4;go_enter Tryz.func176,Tryz.ntmps176
     go_wp2_with (first
      |(go_at_call 209;(with_reducible refine Calls.mono (T1.o _) ?_);rintro e w1 ⟨rfl,hb⟩;replace HK:=I (HK.o.below hb);replace HB:=HB.t hb;clear hb T1;(try clear k0 k1 k2 k3 k4 k5 k6 k7 k8);have k0:=HK.o.cell 0;have k1:=HK.o.cell 1;have k2:=HK.o.cell 2;have k3:=HK.o.cell 3;have k4:=HK.o.cell 4;have k5:=HK.o.cell 5;have k6:=HK.o.cell 6;have k7:=HK.o.cell 7;have k8:=HK.o.cell 8;simp only[List.getElem?_toArray,List.getElem?_cons_zero,List.getElem?_cons_succ] at k0 k1 k2 k3 k4 k5 k6 k7 k8)
      |(go_at_call 210;(with_reducible refine Calls.mono (T2.o _) ?_);rintro e w2 ⟨rfl,hw⟩;subst hw;clear T2)
      |(go_at_call 86;(with_reducible refine Calls.mono (T3.o _) ?_);rintro e w3 ⟨rfl,hb⟩;replace HK:=I (HK.o.below hb);replace HB:=HB.t hb;clear hb T3;(try clear k0 k1 k2 k3 k4 k5 k6 k7 k8);have k0:=HK.o.cell 0;have k1:=HK.o.cell 1;have k2:=HK.o.cell 2;have k3:=HK.o.cell 3;have k4:=HK.o.cell 4;have k5:=HK.o.cell 5;have k6:=HK.o.cell 6;have k7:=HK.o.cell 7;have k8:=HK.o.cell 8;simp only[List.getElem?_toArray,List.getElem?_cons_zero,List.getElem?_cons_succ] at k0 k1 k2 k3 k4 k5 k6 k7 k8)
      |(go_at_call 193;(with_reducible refine Calls.mono (T4.o _) ?_);rintro e w4 ⟨rfl,hw⟩;subst hw;clear T4))
     go_ret;exact⟨by rw[E.o];rfl,HB.o⟩
    |true=>
     rw[h4] at T4;have E:=I (show tgB q=tmB q.no by rw[tgB,h1,h2,h3,h4];rfl);clear h1 h2 h3 h4;go_enter Tryz.func176,Tryz.ntmps176
     go_wp2_with (first
      |(go_at_call 209;(with_reducible refine Calls.mono (T1.o _) ?_);rintro e w1 ⟨rfl,hb⟩;replace HK:=I (HK.o.below hb);replace HB:=HB.t hb;clear hb T1;(try clear k0 k1 k2 k3 k4 k5 k6 k7 k8);have k0:=HK.o.cell 0;have k1:=HK.o.cell 1;have k2:=HK.o.cell 2;have k3:=HK.o.cell 3;have k4:=HK.o.cell 4;have k5:=HK.o.cell 5;have k6:=HK.o.cell 6;have k7:=HK.o.cell 7;have k8:=HK.o.cell 8;simp only[List.getElem?_toArray,List.getElem?_cons_zero,List.getElem?_cons_succ] at k0 k1 k2 k3 k4 k5 k6 k7 k8)
      |(go_at_call 210;(with_reducible refine Calls.mono (T2.o _) ?_);rintro e w2 ⟨rfl,hw⟩;subst hw;clear T2)
      |(go_at_call 86;(with_reducible refine Calls.mono (T3.o _) ?_);rintro e w3 ⟨rfl,hb⟩;replace HK:=I (HK.o.below hb);replace HB:=HB.t hb;clear hb T3;(try clear k0 k1 k2 k3 k4 k5 k6 k7 k8);have k0:=HK.o.cell 0;have k1:=HK.o.cell 1;have k2:=HK.o.cell 2;have k3:=HK.o.cell 3;have k4:=HK.o.cell 4;have k5:=HK.o.cell 5;have k6:=HK.o.cell 6;have k7:=HK.o.cell 7;have k8:=HK.o.cell 8;simp only[List.getElem?_toArray,List.getElem?_cons_zero,List.getElem?_cons_succ] at k0 k1 k2 k3 k4 k5 k6 k7 k8)
      |(go_at_call 193;(with_reducible refine Calls.mono (T4.o _) ?_);rintro e w4 ⟨rfl,hw⟩;subst hw;clear T4)
      |(go_at_call 194;(with_reducible refine Calls.mono (T5.o _) ?_);rintro e w5 ⟨rfl,hw⟩;subst hw;clear T5))
     go_ret;exact⟨by rw[E.o];rfl,HB.o⟩
theorem Ie (q:Re) (A1 A2:Option Addr) (c1 c2:Nat) (w:World) (hs:pSm q.t.s) (hs2:pSm q.c):Calls Tryz.prog 177 #[.agg #[.string ⟨q.c.1.toArray⟩,.string ⟨q.c.2.toArray⟩,.string ⟨q.t.s.1.toArray⟩,.string ⟨q.t.s.2.toArray⟩,.int .i64 q.t.k,.slice A1 q.t.b.length c1,.slice A2 q.b.length c2]] w fun e w'=>e = .returned (.bool (reB q))∧Below w.heap.size w w':=by
 have hb0:=(Below.refl w.heap.size w).alloc Ae (.cells #[.string ⟨q.c.1.toArray⟩,.string ⟨q.c.2.toArray⟩,.string ⟨q.t.s.1.toArray⟩,.string ⟨q.t.s.2.toArray⟩,.int .i64 q.t.k,.slice A1 q.t.b.length c1,.slice A2 q.b.length c2] 70);have HB:=I hb0;have HK:=I (Blk.new w 70 #[.string ⟨q.c.1.toArray⟩,.string ⟨q.c.2.toArray⟩,.string ⟨q.t.s.1.toArray⟩,.string ⟨q.t.s.2.toArray⟩,.int .i64 q.t.k,.slice A1 q.t.b.length c1,.slice A2 q.b.length c2]);clear hb0;have T1:=I (fun w1=>AA q.c w1 hs2.1 hs2.2);have T2:=I (fun w1=>BX q.t A1 c1 w1 hs);have T3:=I (fun w1=>Cb q.b A2 c2 w1);cases h1:prB q.c with
 |false=>
  rw[h1] at T1;have E:=I (show reB q=false by rw[reB,h1];rfl);clear h1;go_enter Tryz.func177,Tryz.ntmps177
  go_wp2_with (go_at_call 86;(with_reducible refine Calls.mono (T1.o _) ?_);rintro e w1 ⟨rfl,hb⟩;replace HK:=I (HK.o.below hb);replace HB:=HB.t hb;clear hb T1;(try clear k0 k1 k2 k3 k4 k5 k6);have k0:=HK.o.cell 0;have k1:=HK.o.cell 1;have k2:=HK.o.cell 2;have k3:=HK.o.cell 3;have k4:=HK.o.cell 4;have k5:=HK.o.cell 5;have k6:=HK.o.cell 6;simp only[List.getElem?_toArray,List.getElem?_cons_zero,List.getElem?_cons_succ] at k0 k1 k2 k3 k4 k5 k6)
  go_ret;exact⟨by rw[E.o];rfl,HB.o⟩
 |true=>
  rw[h1] at T1;cases h2:tkB q.t with
  |false=>
   rw[h2] at T2;have E:=I (show reB q=false by rw[reB,h1,h2];rfl);clear h1 h2;go_enter Tryz.func177,Tryz.ntmps177
   go_wp2_with (first
    |(go_at_call 86;(with_reducible refine Calls.mono (T1.o _) ?_);rintro e w1 ⟨rfl,hb⟩;replace HK:=I (HK.o.below hb);replace HB:=HB.t hb;clear hb T1;(try clear k0 k1 k2 k3 k4 k5 k6);have k0:=HK.o.cell 0;have k1:=HK.o.cell 1;have k2:=HK.o.cell 2;have k3:=HK.o.cell 3;have k4:=HK.o.cell 4;have k5:=HK.o.cell 5;have k6:=HK.o.cell 6;simp only[List.getElem?_toArray,List.getElem?_cons_zero,List.getElem?_cons_succ] at k0 k1 k2 k3 k4 k5 k6)
    |(go_at_call 209;(with_reducible refine Calls.mono (T2.o _) ?_);rintro e w2 ⟨rfl,hb⟩;replace HK:=I (HK.o.below hb);replace HB:=HB.t hb;clear hb T2;(try clear k0 k1 k2 k3 k4 k5 k6);have k0:=HK.o.cell 0;have k1:=HK.o.cell 1;have k2:=HK.o.cell 2;have k3:=HK.o.cell 3;have k4:=HK.o.cell 4;have k5:=HK.o.cell 5;have k6:=HK.o.cell 6;simp only[List.getElem?_toArray,List.getElem?_cons_zero,List.getElem?_cons_succ] at k0 k1 k2 k3 k4 k5 k6))
   go_ret;exact⟨by rw[E.o];rfl,HB.o⟩
  |true=>
   rw[h2] at T2;have E:=I (show reB q=Bi q.b by rw[reB,h1,h2];rfl);clear h1 h2;go_enter Tryz.func177,Tryz.ntmps177
   go_wp2_with (first
    |(go_at_call 86;(with_reducible refine Calls.mono (T1.o _) ?_);rintro e w1 ⟨rfl,hb⟩;replace HK:=I (HK.o.below hb);replace HB:=HB.t hb;clear hb T1;(try clear k0 k1 k2 k3 k4 k5 k6);have k0:=HK.o.cell 0;have k1:=HK.o.cell 1;have k2:=HK.o.cell 2;have k3:=HK.o.cell 3;have k4:=HK.o.cell 4;have k5:=HK.o.cell 5;have k6:=HK.o.cell 6;simp only[List.getElem?_toArray,List.getElem?_cons_zero,List.getElem?_cons_succ] at k0 k1 k2 k3 k4 k5 k6)
    |(go_at_call 209;(with_reducible refine Calls.mono (T2.o _) ?_);rintro e w2 ⟨rfl,hb⟩;replace HK:=I (HK.o.below hb);replace HB:=HB.t hb;clear hb T2;(try clear k0 k1 k2 k3 k4 k5 k6);have k0:=HK.o.cell 0;have k1:=HK.o.cell 1;have k2:=HK.o.cell 2;have k3:=HK.o.cell 3;have k4:=HK.o.cell 4;have k5:=HK.o.cell 5;have k6:=HK.o.cell 6;simp only[List.getElem?_toArray,List.getElem?_cons_zero,List.getElem?_cons_succ] at k0 k1 k2 k3 k4 k5 k6)
    |(go_at_call 210;(with_reducible refine Calls.mono (T3.o _) ?_);rintro e w3 ⟨rfl,hw⟩;subst hw;clear T3))
   go_ret;exact⟨by rw[E.o];rfl,HB.o⟩
theorem Ig (q:Ap) (A1 A2:Option Addr) (c1 c2:Nat) (w:World) (hs:pSm q.t.s):Calls Tryz.prog 178 #[.agg #[.string ⟨q.t.s.1.toArray⟩,.string ⟨q.t.s.2.toArray⟩,.int .i64 q.t.k,.slice A1 q.t.b.length c1,.slice A2 q.a.length c2]] w fun e w'=>e = .returned (.bool (apB q))∧Below w.heap.size w w':=by
 have hb0:=(Below.refl w.heap.size w).alloc Ae (.cells #[.string ⟨q.t.s.1.toArray⟩,.string ⟨q.t.s.2.toArray⟩,.int .i64 q.t.k,.slice A1 q.t.b.length c1,.slice A2 q.a.length c2] 72);have HB:=I hb0;have HK:=I (Blk.new w 72 #[.string ⟨q.t.s.1.toArray⟩,.string ⟨q.t.s.2.toArray⟩,.int .i64 q.t.k,.slice A1 q.t.b.length c1,.slice A2 q.a.length c2]);clear hb0;have T1:=I (fun w1=>BX q.t A1 c1 w1 hs);have T2:=I (fun w1=>Cb q.a A2 c2 w1);cases h1:tkB q.t with
 |false=>
  rw[h1] at T1;have E:=I (show apB q=false by rw[apB,h1];rfl);clear h1;go_enter Tryz.func178,Tryz.ntmps178
  go_wp2_with (go_at_call 209;(with_reducible refine Calls.mono (T1.o _) ?_);rintro e w1 ⟨rfl,hb⟩;replace HK:=I (HK.o.below hb);replace HB:=HB.t hb;clear hb T1;(try clear k0 k1 k2 k3 k4);have k0:=HK.o.cell 0;have k1:=HK.o.cell 1;have k2:=HK.o.cell 2;have k3:=HK.o.cell 3;have k4:=HK.o.cell 4;simp only[List.getElem?_toArray,List.getElem?_cons_zero,List.getElem?_cons_succ] at k0 k1 k2 k3 k4)
  go_ret;exact⟨by rw[E.o];rfl,HB.o⟩
 |true=>
  rw[h1] at T1;have E:=I (show apB q=Bi q.a by rw[apB,h1];rfl);clear h1;go_enter Tryz.func178,Tryz.ntmps178
  go_wp2_with (first
   |(go_at_call 209;(with_reducible refine Calls.mono (T1.o _) ?_);rintro e w1 ⟨rfl,hb⟩;replace HK:=I (HK.o.below hb);replace HB:=HB.t hb;clear hb T1;(try clear k0 k1 k2 k3 k4);have k0:=HK.o.cell 0;have k1:=HK.o.cell 1;have k2:=HK.o.cell 2;have k3:=HK.o.cell 3;have k4:=HK.o.cell 4;simp only[List.getElem?_toArray,List.getElem?_cons_zero,List.getElem?_cons_succ] at k0 k1 k2 k3 k4)
   |(go_at_call 210;(with_reducible refine Calls.mono (T2.o _) ?_);rintro e w2 ⟨rfl,hw⟩;subst hw;clear T2))
  go_ret;exact⟨by rw[E.o];rfl,HB.o⟩
theorem Ih (q:Fa) (w:World):Calls Tryz.prog 179 #[.agg #[.int .i64 q.e,.int .i64 q.no]] w fun e w'=>e = .returned (.bool (faB q))∧Below w.heap.size w w':=by
 have hb0:=(Below.refl w.heap.size w).alloc Ae (.cells #[.int .i64 q.e,.int .i64 q.no] 74);have HB:=I hb0;have HK:=I (Blk.new w 74 #[.int .i64 q.e,.int .i64 q.no]);clear hb0;have T1:=I (fun w1=>BH q.e 1 255 w1);have T2:=I (fun w1=>Dm q.no w1);cases h1:inB q.e 1 255 with
 |false=>
  rw[h1] at T1;have E:=I (show faB q=false by rw[faB,h1];rfl);clear h1;go_enter Tryz.func179,Tryz.ntmps179
  go_wp2_with (go_at_call 211;(with_reducible refine Calls.mono (T1.o _) ?_);rintro e w1 ⟨rfl,hw⟩;subst hw;clear T1)
  go_ret;exact⟨by rw[E.o];rfl,HB.o⟩
 |true=>
  rw[h1] at T1;have E:=I (show faB q=tmB q.no by rw[faB,h1];rfl);clear h1;go_enter Tryz.func179,Tryz.ntmps179
  go_wp2_with (first
   |(go_at_call 211;(with_reducible refine Calls.mono (T1.o _) ?_);rintro e w1 ⟨rfl,hw⟩;subst hw;clear T1)
   |(go_at_call 194;(with_reducible refine Calls.mono (T2.o _) ?_);rintro e w2 ⟨rfl,hw⟩;subst hw;clear T2))
  go_ret;exact⟨by rw[E.o];rfl,HB.o⟩
open DerR
theorem FD (l:L) (A:Option Addr) (n c:Nat) (w:World) (hn:n=l.length) (h:l.length≤2000):Calls Tryz.prog 140 #[.slice A n c] w fun e w'=>e = .returned (.tuple #[.slice A n c,.int .i64 0])∧w=w':=by
 subst hn;have t1:decide ((2000:Int)<(l.length:Int))=false:=decide_eq_false (by omega);clear h;go_enter Tryz.func140,Tryz.ntmps140
 go_wp2
 go_ret2
 exact⟨rfl,rfl⟩
end Mc
namespace Mc
open Go.RowKit Ad DerP DerC Ms
def OwnB (w:World) (base:Nat) (v:Value) (l:L):Prop:=
 ∃b c,v = .slice (some ⟨b,0,none⟩) l.length c∧l.length≤c∧base≤b∧b<w.heap.size∧∀i u,(bvs l)[i]? = some u→w.cell? ⟨b,i,none⟩=some u
theorem OwnB.keep {w w':World} {base g:Nat} {v:Value} {l:L} (h:OwnB w base v l) (hg:w.grownBy w' (some g)) (hlt:g<base):OwnB w' base v l:=by
 obtain⟨b,c,h1,h2,h3,h4,h5⟩:=h;exact⟨b,c,h1,h2,h3,Nat.lt_of_lt_of_le h4 hg.size,fun i u hu=>(World.cell?_of_block (a:=⟨b,i,none⟩) (hg.block b h4 (fun e=>by injection e with e;omega))).trans (h5 i u hu)⟩
theorem OwnB.slb {w:World} {base:Nat} {v:Value} {l:L} (h:OwnB w base v l):SlB w w.heap.size v l:=by
 obtain⟨b,c,h1,h2,h3,h4,h5⟩:=h;exact⟨_,c,h1,h2,.inr ⟨b,0,rfl,h4,fun i u hu=>by rw[Nat.zero_add];exact h5 i u hu⟩⟩
theorem AI {w:World} {g:Nat} {t:TypeId} {cs:Array Value} (h:Blk w g t cs) (n:Nat) (hn:n≤cs.size):w.there g 0 n:=fun j hj=>by
 rw[Nat.zero_add,h.cell,Array.getElem?_eq_getElem (by omega)];exact⟨rfl,h.frozen j⟩
theorem AB {g:Nat} {t:TypeId}:∀(vs:List Value) (o:Nat) (w:World) (cs:Array Value),Blk w g t cs→o+vs.length≤cs.size→
  ∃ds:Array Value,Blk (w.setCells g o vs) g t ds∧ds.size=cs.size∧(∀i,o≤i→i<o+vs.length→ds[i]? = vs[i - o]?)∧(∀i,i<o∨o+vs.length≤i→ds[i]? = cs[i]?)
 | [],o,w,cs,h,hl=>⟨cs,h,rfl,fun i h1 h2=>by simp at h2;omega,fun i _=>rfl⟩
 |v :: r,o,w,cs,h,hl=>by
  rw[World.setCells];simp only[List.length_cons] at hl;obtain⟨ds,h1,h2,h3,h4⟩:=AB r (o+1) _ _ (h.set o v) (by simp;omega);simp only[List.length_cons];refine⟨ds,h1,by simpa using h2,fun i hi hj=>?_,fun i hi=>?_⟩
  ·by_cases e:i=o
   ·subst e
    rw[h4 i (by omega),Nat.sub_self];rw[Array.getElem?_setIfInBounds_self_of_lt (by omega)]
    rfl
   ·rw[h3 i (by omega) (by omega),show i - o=(i - (o+1))+1 by omega]
    simp
  ·rw[h4 i (by omega)]
   exact Array.getElem?_setIfInBounds_ne (by omega)
theorem AN {w:World} {g:Nat} {t:TypeId} {cs ds:Array Value} (h:Blk w g t cs) (hs:cs.size=ds.size):Blk (w.setCells g 0 ds.toList) g t ds:=by
 obtain⟨es,h1,h2,h3,_⟩:=AB ds.toList 0 w cs h (by simp;omega);have e:es=ds:=by
  apply Array.ext_getElem?;intro i
  by_cases hi:i<ds.size
  ·rw[h3 i (by omega) (by simp;omega)];simp
  ·rw[Array.getElem?_eq_none (by omega),Array.getElem?_eq_none (by omega)]
 rw[←e];rw[←e] at h1;exact h1
theorem CG {row:Option Nat} {a:World} {g:Nat} (hp:row=some g∨a.heap.size≤g):∀(vs:List Value) (o:Nat) (w:World),a.grownBy w row→a.grownBy (w.setCells g o vs) row
 | [],_,_,h=>h
 |v :: r,o,w,h=>by rw[World.setCells];exact CG hp r (o+1) _ (IH h (p:=⟨g,o,none⟩) hp v)
theorem Bs (w:World) (g:Nat) (vs:List Value):w.grownBy (w.setCells g 0 vs) (some g):=CG (.inl rfl) vs 0 w (World.grownBy.refl _ _)
end Mc
namespace Mc
open Go.RowKit Ad DerP Ms
theorem Ki (x y:Fa) (w:World):(Op.equalIn 10000 74 (.agg #[.int .i64 x.e,.int .i64 x.no]) (.agg #[.int .i64 y.e,.int .i64 y.no])).run Tryz.prog w = .ok (decide (x=y)) w:=by
 obtain⟨e,no⟩:=x;obtain⟨e2,no2⟩:=y;simp only
 by_cases h0:e=e2
 ·subst h0
  by_cases h1:no=no2
  ·subst h1
   rw[decide_eq_true rfl]
   go_simp
  ·rw[decide_eq_false (fun h=>h1 (congrArg (fun z=>z.no) h))]
   go_simp
 ·rw[decide_eq_false (fun h=>h0 (congrArg (fun z=>z.e) h))]
  go_simp
theorem Kj (x y:As) (w:World):(Op.equalIn 10000 66 (.agg #[.string ⟨x.c.1.toArray⟩,.string ⟨x.c.2.toArray⟩,.string ⟨x.s.1.toArray⟩,.string ⟨x.s.2.toArray⟩,.int .i64 x.t,.int .i64 x.no]) (.agg #[.string ⟨y.c.1.toArray⟩,.string ⟨y.c.2.toArray⟩,.string ⟨y.s.1.toArray⟩,.string ⟨y.s.2.toArray⟩,.int .i64 y.t,.int .i64 y.no])).run Tryz.prog w = .ok (decide (x=y)) w:=by
 obtain⟨⟨a,b⟩,⟨c,d⟩,t,no⟩:=x;obtain⟨⟨a2,b2⟩,⟨c2,d2⟩,t2,no2⟩:=y;simp only
 by_cases h0:a=a2
 ·subst h0
  by_cases h1:b=b2
  ·subst h1
   by_cases h2:c=c2
   ·subst h2
    by_cases h3:d=d2
    ·subst h3
     by_cases h4:t=t2
     ·subst h4
      by_cases h5:no=no2
      ·subst h5
       rw[decide_eq_true rfl]
       go_simp
      ·rw[decide_eq_false (fun h=>h5 (congrArg (fun z=>z.no) h))]
       go_simp
     ·rw[decide_eq_false (fun h=>h4 (congrArg (fun z=>z.t) h))]
      go_simp
    ·rw[decide_eq_false (fun h=>h3 (congrArg (fun z=>z.s.2) h))]
     go_simp
   ·rw[decide_eq_false (fun h=>h2 (congrArg (fun z=>z.s.1) h))]
    go_simp
  ·rw[decide_eq_false (fun h=>h1 (congrArg (fun z=>z.c.2) h))]
   go_simp
 ·rw[decide_eq_false (fun h=>h0 (congrArg (fun z=>z.c.1) h))]
  go_simp
open DerC
def AsV (cs:Array Value) (q:As):Prop:=cs=(asC q).toArray
def FaV (cs:Array Value) (q:Fa):Prop:=cs=(faC q).toArray
def TgV (w:World) (B:Nat) (cs:Array Value) (q:Tg):Prop:=∃b a,cs=(tgC q b a).toArray∧SlB w B b q.t.b∧SlB w B a q.a
def ReV (w:World) (B:Nat) (cs:Array Value) (q:Re):Prop:=∃b a,cs=(reC q b a).toArray∧SlB w B b q.t.b∧SlB w B a q.b
def ApV (w:World) (B:Nat) (cs:Array Value) (q:Ap):Prop:=∃b a,cs=(apC q b a).toArray∧SlB w B b q.t.b∧SlB w B a q.a
section
variable {w w':World} {B B':Nat} {cs:Array Value}
theorem TgV.keep {q:Tg} (h:TgV w B cs q) (hb:Below B w w'):TgV w' B cs q:=by obtain⟨b,a,h1,h2,h3⟩:=h;exact⟨b,a,h1,h2.keep hb,h3.keep hb⟩
theorem ReV.keep {q:Re} (h:ReV w B cs q) (hb:Below B w w'):ReV w' B cs q:=by obtain⟨b,a,h1,h2,h3⟩:=h;exact⟨b,a,h1,h2.keep hb,h3.keep hb⟩
theorem ApV.keep {q:Ap} (h:ApV w B cs q) (hb:Below B w w'):ApV w' B cs q:=by obtain⟨b,a,h1,h2,h3⟩:=h;exact⟨b,a,h1,h2.keep hb,h3.keep hb⟩
theorem TgV.more {q:Tg} (h:TgV w B cs q) (hB:B≤B'):TgV w B' cs q:=by obtain⟨b,a,h1,h2,h3⟩:=h;exact⟨b,a,h1,h2.more hB,h3.more hB⟩
theorem ReV.more {q:Re} (h:ReV w B cs q) (hB:B≤B'):ReV w B' cs q:=by obtain⟨b,a,h1,h2,h3⟩:=h;exact⟨b,a,h1,h2.more hB,h3.more hB⟩
theorem ApV.more {q:Ap} (h:ApV w B cs q) (hB:B≤B'):ApV w B' cs q:=by obtain⟨b,a,h1,h2,h3⟩:=h;exact⟨b,a,h1,h2.more hB,h3.more hB⟩
theorem CK {v:Value} {l:L} (h:SlB w B v l):v.oneCell'=true:=by obtain⟨A,c,rfl,_⟩:=h;rfl
theorem AsV.size {q:As} (h:AsV cs q):cs.size=6:=by rw[h];rfl
theorem FaV.size {q:Fa} (h:FaV cs q):cs.size=2:=by rw[h];rfl
theorem TgV.size {q:Tg} (h:TgV w B cs q):cs.size=9:=by obtain⟨b,a,h1,_⟩:=h;rw[h1];rfl
theorem ReV.size {q:Re} (h:ReV w B cs q):cs.size=7:=by obtain⟨b,a,h1,_⟩:=h;rw[h1];rfl
theorem ApV.size {q:Ap} (h:ApV w B cs q):cs.size=5:=by obtain⟨b,a,h1,_⟩:=h;rw[h1];rfl
def One (cs:Array Value):Prop:=cs.all (·.oneCell')=true
theorem AsV.one {q:As} (h:AsV cs q):One cs:=by
 rw[h];refine all_oneCell_toArray fun v hv=>?_
 simp only[asC,List.mem_cons,List.not_mem_nil,or_false] at hv;rcases hv with rfl | rfl | rfl | rfl | rfl | rfl<;>rfl
theorem FaV.one {q:Fa} (h:FaV cs q):One cs:=by
 rw[h];refine all_oneCell_toArray fun v hv=>?_
 simp only[faC,List.mem_cons,List.not_mem_nil,or_false] at hv;rcases hv with rfl | rfl<;>rfl
theorem TgV.one {q:Tg} (h:TgV w B cs q):One cs:=by
 obtain⟨b,a,h1,h2,h3⟩:=h;rw[h1];refine all_oneCell_toArray fun v hv=>?_
 simp only[tgC,tkC,List.mem_append,List.mem_cons,List.not_mem_nil,or_false] at hv;rcases hv with(rfl | rfl | rfl | rfl) | rfl | rfl | rfl | rfl | rfl
 all_goals first | rfl | exact CK h2 | exact CK h3
theorem ReV.one {q:Re} (h:ReV w B cs q):One cs:=by
 obtain⟨b,a,h1,h2,h3⟩:=h;rw[h1];refine all_oneCell_toArray fun v hv=>?_
 simp only[reC,prC,tkC,List.mem_append,List.mem_cons,List.not_mem_nil,or_false] at hv;rcases hv with(rfl | rfl) | (rfl | rfl | rfl | rfl) | rfl
 all_goals first | rfl | exact CK h2 | exact CK h3
theorem ApV.one {q:Ap} (h:ApV w B cs q):One cs:=by
 obtain⟨b,a,h1,h2,h3⟩:=h;rw[h1];refine all_oneCell_toArray fun v hv=>?_
 simp only[apC,tkC,List.mem_append,List.mem_cons,List.not_mem_nil,or_false] at hv;rcases hv with(rfl | rfl | rfl | rfl) | rfl
 all_goals first | rfl | exact CK h2 | exact CK h3
end
def mgA (k:Int) (pa pt pr pp pf:Array Value):Array Value:=(Value.int .i64 k :: (pa.toList++(pt.toList++(pr.toList++(pp.toList++pf.toList))))).toArray
structure MgP (w:World) (B:Nat) (pa pt pr pp pf:Array Value) (m:Mg):Prop where
 a:AsV pa m.aq
 t:TgV w B pt m.tg
 r:ReV w B pr m.re
 p:ApV w B pp m.ap
 f:FaV pf m.fa
def MgV (w:World) (B:Nat) (cs:Array Value) (m:Mg):Prop:=∃pa pt pr pp pf,cs=mgA m.k pa pt pr pp pf∧MgP w B pa pt pr pp pf m
section
variable {w w':World} {B B':Nat} {cs pa pt pr pp pf:Array Value} {m:Mg}
theorem MgP.keep (h:MgP w B pa pt pr pp pf m) (hb:Below B w w'):MgP w' B pa pt pr pp pf m:=⟨h.a,h.t.keep hb,h.r.keep hb,h.p.keep hb,h.f⟩
theorem MgP.more (h:MgP w B pa pt pr pp pf m) (hB:B≤B'):MgP w B' pa pt pr pp pf m:=⟨h.a,h.t.more hB,h.r.more hB,h.p.more hB,h.f⟩
theorem MgV.keep (h:MgV w B cs m) (hb:Below B w w'):MgV w' B cs m:=by obtain⟨pa,pt,pr,pp,pf,h1,h2⟩:=h;exact⟨pa,pt,pr,pp,pf,h1,h2.keep hb⟩
theorem MgV.more (h:MgV w B cs m) (hB:B≤B'):MgV w B' cs m:=by obtain⟨pa,pt,pr,pp,pf,h1,h2⟩:=h;exact⟨pa,pt,pr,pp,pf,h1,h2.more hB⟩
theorem MgP.sizes (h:MgP w B pa pt pr pp pf m):pa.size=6∧pt.size=9∧pr.size=7∧pp.size=5∧pf.size=2:=⟨h.a.size,h.t.size,h.r.size,h.p.size,h.f.size⟩
theorem MgP.size (h:MgP w B pa pt pr pp pf m) (k:Int):(mgA k pa pt pr pp pf).size=30:=by
 obtain⟨h1,h2,h3,h4,h5⟩:=h.sizes;simp [mgA,h1,h2,h3,h4,h5]
theorem MgP.one (h:MgP w B pa pt pr pp pf m) (k:Int):One (mgA k pa pt pr pp pf):=by
 refine all_oneCell_toArray fun v hv=>?_
 simp only[List.mem_cons,List.mem_append] at hv;have key:∀{cs:Array Value},One cs→v∈cs.toList→v.oneCell'=true:=fun h1 h2=>Array.all_eq_true_iff_forall_mem.1 h1 v (by simpa using h2)
 rcases hv with rfl | hv | hv | hv | hv | hv
 ·rfl
 ·exact key h.a.one hv
 ·exact key h.t.one hv
 ·exact key h.r.one hv
 ·exact key h.p.one hv
 ·exact key h.f.one hv
theorem Cs {g:Nat} {t:TypeId} {pre mid post:List Value} (h:Blk w g t cs) (hc:cs.toList=pre++(mid++post)) (o:Nat) (ho:o=pre.length):w.rangeAt g o mid:=fun j v hv=>by
 subst ho;have hj:j<mid.length:=(List.getElem?_eq_some_iff.1 hv).1;rw[h.cell,←Array.getElem?_toList,hc,List.getElem?_append_right (by omega),Nat.add_sub_cancel_left,List.getElem?_append_left hj];exact hv
structure At (w:World) (g:Nat) (k:Int) (pa pt pr pp pf:Array Value):Prop where
 k:w.cell? ⟨g,0,none⟩=some (.int .i64 k)
 a:w.rangeAt g 1 pa.toList
 t:w.rangeAt g 7 pt.toList
 r:w.rangeAt g 16 pr.toList
 p:w.rangeAt g 23 pp.toList
 f:w.rangeAt g 28 pf.toList
theorem MgP.at_ (h:MgP w' B pa pt pr pp pf m) {g:Nat} {k:Int} {t:TypeId} (hb:Blk w g t (mgA k pa pt pr pp pf)):At w g k pa pt pr pp pf:=by
 obtain⟨h1,h2,h3,h4,h5⟩:=h.sizes;refine⟨by rw[hb.cell];rfl,?_,?_,?_,?_,?_⟩
 ·exact Cs (pre:=[.int .i64 k]) (post:=pt.toList++(pr.toList++(pp.toList++pf.toList))) hb (by simp [mgA]) 1 rfl
 ·exact Cs (pre:=.int .i64 k :: pa.toList) (post:=pr.toList++(pp.toList++pf.toList)) hb (by simp [mgA]) 7 (by simp [h1])
 ·exact Cs (pre:=.int .i64 k :: (pa.toList++pt.toList)) (post:=pp.toList++pf.toList) hb (by simp [mgA]) 16 (by simp [h1,h2])
 ·exact Cs (pre:=.int .i64 k :: (pa.toList++(pt.toList++pr.toList))) (post:=pf.toList) hb (by simp [mgA]) 23 (by simp [h1,h2,h3])
 ·exact Cs (pre:=.int .i64 k :: (pa.toList++(pt.toList++(pr.toList++pp.toList)))) (post:=[]) hb (by simp [mgA]) 28 (by simp [h1,h2,h3,h4])
end
theorem AS:(Tryz.prog.info? 66).map (·.size)=some 6:=by kernel_rfl
theorem Ba:(Tryz.prog.info? 68).map (·.size)=some 9:=by kernel_rfl
theorem Bh:(Tryz.prog.info? 70).map (·.size)=some 7:=by kernel_rfl
theorem BB:(Tryz.prog.info? 72).map (·.size)=some 5:=by kernel_rfl
theorem BY:(Tryz.prog.info? 74).map (·.size)=some 2:=by kernel_rfl
theorem Bt:(Tryz.prog.info? 76).map (·.size)=some 30:=by kernel_rfl
theorem Ab {P:Program} {ops:Array Oper} {rest:List Oper} {op:Oper} {a:Act} {w:World} {Q:Exit→Act→World→Prop} (hw:Region.wanted op (yielded ops a.tmps)=true) (ty:TypeId) (x:Operand) (ho:op.op = .load ty x)
  (g o:Nat) (hx:a.eval x = .pointer (some ⟨g,o,none⟩)) (cs:Array Value) (d:TypeDesc) (hc:w.rangeAt g o cs.toList)
  (hu:P.underlying ty=some d) (hd:d.isRow=true) (hi:(P.info? ty).map (·.size)=some cs.size)
  (h:wpList P ops Q rest (a.put op.dst (.agg cs)) w):wpList P ops Q (op :: rest) a w:=
 BigFrame.wpList_want hw fun _ hK=>wp_load_mid ty x ho g o hx cs.toList d hc hu hd (by rw[Array.length_toList];exact hi) (by simpa using hK _ _ h)
theorem Dn {w:World} {g o:Nat} {t:TypeId} {cs ps ds:Array Value} {pre mid post:List Value} (h:Blk w g t cs) (hc:cs.toList=pre++(mid++post)) (ho:o=pre.length) (hm:mid.length=ps.size) (hd:ds=(pre++(ps.toList++post)).toArray):Blk (w.setCells g o ps.toList) g t ds:=by
 subst ho;have hs:cs.size=pre.length+(mid.length+post.length):=by rw[←Array.length_toList,hc];simp
 obtain⟨es,h1,h2,h3,h4⟩:=AB ps.toList pre.length w cs h (by simp;omega);have e:es=ds:=by
  apply Array.ext_getElem?;intro i;rw[hd,show(pre++(ps.toList++post)).toArray[i]? = (pre++(ps.toList++post))[i]? by simp];have hci:∀i,cs[i]? = (pre++(mid++post))[i]?:=fun i=>by rw[←hc,Array.getElem?_toList]
  by_cases hi:i<pre.length
  ·rw[h4 i (.inl hi),hci,List.getElem?_append_left hi,List.getElem?_append_left hi]
  ·by_cases hj:i<pre.length+ps.size
   ·rw[h3 i (by omega) (by simpa using hj),List.getElem?_append_right (by omega),List.getElem?_append_left (by simp;omega)]
   ·rw[h4 i (.inr (by simp;omega)),hci,List.getElem?_append_right (by omega),List.getElem?_append_right (by omega),List.getElem?_append_right (by omega),List.getElem?_append_right (by simp;omega),hm]
    simp
 rw[←e];exact h1
theorem AU {w:World} {g:Nat} {t:TypeId} {cs:Array Value} (h:Blk w g t cs) (o n:Nat) (hn:o+n≤cs.size):w.there g o n:=fun j hj=>by
 rw[h.cell,Array.getElem?_eq_getElem (by omega)];exact⟨rfl,h.frozen _⟩
theorem By (w:World) (g o:Nat) (vs:List Value):w.grownBy (w.setCells g o vs) (some g):=CG (.inl rfl) vs o w (World.grownBy.refl _ _)
theorem Ac {P:Program} {ops:Array Oper} {rest:List Oper} {o:Oper} {a:Act} {w:World} {Q:Exit→Act→World→Prop} (hg:o.guard=none) (t:TypeId) (parts:Array (Nat×Operand)) (ho:o.op = .build t parts)
  (cells:Array Value) (hc:P.built t (parts.map fun(i,x)=>(i,a.eval x)).toList=some cells) (h:wpList P ops Q rest (a.put o.dst (.agg cells)) w):wpList P ops Q (o :: rest) a w:=
 wpList_build hg t parts ho (by rw[hc];rfl) (by rw[hc];exact h)
end Mc
end Go.Proofs.YtlfmicidppccnaaGreat
