import Derived.Test.YtlchkbpffaclmaaGreatZKdcTills10
set_option maxHeartbeats 25600000
set_option maxRecDepth 100000
set_option linter.unusedVariables false
set_option linter.unusedSimpArgs false
namespace Go.Proofs.YtlchkbpffaclmaaGreat
namespace Ms
open Go.RowKit Af DerP
abbrev prV (p:Pr):Value:=.agg #[.string ⟨p.1.toArray⟩,.string ⟨p.2.toArray⟩]
def SlB (w:World) (B:Nat) (v:Value) (l:L):Prop:=∃A c,v=.slice A l.length c/\l.length<=c/\Rd w B A (bvs l)
theorem SlB.keep {w w':World} {B:Nat} {v:Value} {l:L} (h:SlB w B v l) (hb:Below B w w'):SlB w' B v l:=by
 obtain⟨A,c,h1,h2,h3⟩:=h;exact⟨A,c,h1,h2,h3.below hb⟩
theorem SlB.more {w:World} {B B':Nat} {v:Value} {l:L} (h:SlB w B v l) (hB:B<=B'):SlB w B' v l:=by
 obtain⟨A,c,h1,h2,h3⟩:=h;exact⟨A,c,h1,h2,h3.more hB⟩
theorem SlB.nil (w:World) (B:Nat):SlB w B (.slice none 0 0) []:=⟨none,0,rfl,Nat.le_refl _,.inl rfl⟩
def prC (p:Pr):List Value:=[.string ⟨p.1.toArray⟩,.string ⟨p.2.toArray⟩]
def tkC (t:Tk) (b:Value):List Value:=[.string ⟨t.s.1.toArray⟩,.string ⟨t.s.2.toArray⟩,.int .i64 t.k,b]
def asC (q:As):List Value:=[.string ⟨q.c.1.toArray⟩,.string ⟨q.c.2.toArray⟩,.string ⟨q.s.1.toArray⟩,.string ⟨q.s.2.toArray⟩,.int .i64 q.t,.int .i64 q.no]
def tgC (q:Tg) (b a:Value):List Value:=tkC q.t b++[a,.string ⟨q.s.1.toArray⟩,.string ⟨q.s.2.toArray⟩,.int .i64 q.u,.int .i64 q.no]
def reC (q:Re) (b d:Value):List Value:=prC q.c++(tkC q.t b++[d])
def apC (q:Ap) (b a:Value):List Value:=tkC q.t b++[a]
def faC (q:Fa):List Value:=[.int .i64 q.e,.int .i64 q.no]
def anC (a:An):List Value:=prC a.c++[.int .i64 a.t,.int .i64 a.q]
def ptC (p:Pt):List Value:=prC p.c++(bvs p.ss++[.string ⟨p.tr.toArray⟩,.int .i64 p.st,.int .i64 p.en])
def rpC (p:Rp):List Value:=bvs p.ss++(prC p.s++[.int .i64 p.st,.int .i64 p.en,.int .i64 p.no])
structure Six where
 b1:Value
 a1:Value
 b2:Value
 d2:Value
 b3:Value
 a3:Value
structure SixR (w:World) (B:Nat) (m:Mg) (s:Six):Prop where
 b1:SlB w B s.b1 m.tg.t.b
 a1:SlB w B s.a1 m.tg.a
 b2:SlB w B s.b2 m.re.t.b
 d2:SlB w B s.d2 m.re.b
 b3:SlB w B s.b3 m.ap.t.b
 a3:SlB w B s.a3 m.ap.a
theorem SixR.keep {w w':World} {B:Nat} {m:Mg} {s:Six} (h:SixR w B m s) (hb:Below B w w'):SixR w' B m s:=⟨h.b1.keep hb,h.a1.keep hb,h.b2.keep hb,h.d2.keep hb,h.b3.keep hb,h.a3.keep hb⟩
theorem AV {w w':World} {A:Option Addr} {l:L} (h:Rd w w.heap.size A (bvs l)) (hb:Below w.heap.size w w'):Rd w' w'.heap.size A (bvs l):=(h.below hb).more hb.size
section
variable {w:World} {t:TypeId} {A1 A2 A3 A4 A5:Option Addr} {l1 l2 l3 l4 l5:L} {c1 c2 c3 c4 c5:Nat}
theorem KR (h1:Rd w w.heap.size A1 (bvs l1)) (h2:Rd w w.heap.size A2 (bvs l2)) :
  DerW.Rds (w.alloc (.cells #[.slice A1 l1.length c1,.slice A2 l2.length c2] t)) (w.heap.size+1) (some ⟨w.heap.size,0,none⟩) [l1,l2]:=by
 refine .inr ⟨w.heap.size,0,rfl,by omega,fun i l hi=>?_⟩
 match i,hi with
 |0,hi=>injection hi with hi;subst hi;exact⟨A1,c1,(Blk.new w t _).cell 0,(h1.alloc Ag _).more (by omega)⟩
 |1,hi=>injection hi with hi;subst hi;exact⟨A2,c2,(Blk.new w t _).cell 1,(h2.alloc Ag _).more (by omega)⟩
 |i+2,hi=>rw[List.getElem?_eq_none (by simp)] at hi;cases hi
theorem GO (h1:Rd w w.heap.size A1 (bvs l1)) (h2:Rd w w.heap.size A2 (bvs l2)) (h3:Rd w w.heap.size A3 (bvs l3)) :
  DerW.Rds (w.alloc (.cells #[.slice A1 l1.length c1,.slice A2 l2.length c2,.slice A3 l3.length c3] t)) (w.heap.size+1) (some ⟨w.heap.size,0,none⟩) [l1,l2,l3]:=by
 refine .inr ⟨w.heap.size,0,rfl,by omega,fun i l hi=>?_⟩
 match i,hi with
 |0,hi=>injection hi with hi;subst hi;exact⟨A1,c1,(Blk.new w t _).cell 0,(h1.alloc Ag _).more (by omega)⟩
 |1,hi=>injection hi with hi;subst hi;exact⟨A2,c2,(Blk.new w t _).cell 1,(h2.alloc Ag _).more (by omega)⟩
 |2,hi=>injection hi with hi;subst hi;exact⟨A3,c3,(Blk.new w t _).cell 2,(h3.alloc Ag _).more (by omega)⟩
 |i+3,hi=>rw[List.getElem?_eq_none (by simp)] at hi;cases hi
theorem UF (h1:Rd w w.heap.size A1 (bvs l1)) (h2:Rd w w.heap.size A2 (bvs l2)) (h3:Rd w w.heap.size A3 (bvs l3)) (h4:Rd w w.heap.size A4 (bvs l4)) :
  DerW.Rds (w.alloc (.cells #[.slice A1 l1.length c1,.slice A2 l2.length c2,.slice A3 l3.length c3,.slice A4 l4.length c4] t)) (w.heap.size+1) (some ⟨w.heap.size,0,none⟩) [l1,l2,l3,l4]:=by
 refine .inr ⟨w.heap.size,0,rfl,by omega,fun i l hi=>?_⟩
 match i,hi with
 |0,hi=>injection hi with hi;subst hi;exact⟨A1,c1,(Blk.new w t _).cell 0,(h1.alloc Ag _).more (by omega)⟩
 |1,hi=>injection hi with hi;subst hi;exact⟨A2,c2,(Blk.new w t _).cell 1,(h2.alloc Ag _).more (by omega)⟩
 |2,hi=>injection hi with hi;subst hi;exact⟨A3,c3,(Blk.new w t _).cell 2,(h3.alloc Ag _).more (by omega)⟩
 |3,hi=>injection hi with hi;subst hi;exact⟨A4,c4,(Blk.new w t _).cell 3,(h4.alloc Ag _).more (by omega)⟩
 |i+4,hi=>rw[List.getElem?_eq_none (by simp)] at hi;cases hi
theorem Iw (h1:Rd w w.heap.size A1 (bvs l1)) (h2:Rd w w.heap.size A2 (bvs l2)) (h3:Rd w w.heap.size A3 (bvs l3)) (h4:Rd w w.heap.size A4 (bvs l4)) (h5:Rd w w.heap.size A5 (bvs l5)) :
  DerW.Rds (w.alloc (.cells #[.slice A1 l1.length c1,.slice A2 l2.length c2,.slice A3 l3.length c3,.slice A4 l4.length c4,.slice A5 l5.length c5] t)) (w.heap.size+1) (some ⟨w.heap.size,0,none⟩) [l1,l2,l3,l4,l5]:=by
 refine .inr ⟨w.heap.size,0,rfl,by omega,fun i l hi=>?_⟩
 match i,hi with
 |0,hi=>injection hi with hi;subst hi;exact⟨A1,c1,(Blk.new w t _).cell 0,(h1.alloc Ag _).more (by omega)⟩
 |1,hi=>injection hi with hi;subst hi;exact⟨A2,c2,(Blk.new w t _).cell 1,(h2.alloc Ag _).more (by omega)⟩
 |2,hi=>injection hi with hi;subst hi;exact⟨A3,c3,(Blk.new w t _).cell 2,(h3.alloc Ag _).more (by omega)⟩
 |3,hi=>injection hi with hi;subst hi;exact⟨A4,c4,(Blk.new w t _).cell 3,(h4.alloc Ag _).more (by omega)⟩
 |4,hi=>injection hi with hi;subst hi;exact⟨A5,c5,(Blk.new w t _).cell 4,(h5.alloc Ag _).more (by omega)⟩
 |i+5,hi=>rw[List.getElem?_eq_none (by simp)] at hi;cases hi
end
theorem Xs (n a b:Int) (w:World):Calls Tryz.prog 100 #[.int .i64 n,.int .i64 a,.int .i64 b] w fun e w'=>e=.returned (.bool (inB n a b))/\w=w':=by
 cases h1:decide (a<=n) with
 |false=>
  go_enter Tryz.func100,Tryz.ntmps100
  go_wp2
  go_ret;exact⟨by rw[inB,h1];rfl,rfl⟩
 |true=>
  go_enter Tryz.func100,Tryz.ntmps100
  go_wp2
  go_ret;exact⟨by rw[inB,h1];rfl,rfl⟩
theorem KU (n:Int) (w:World):Calls Tryz.prog 100 #[.int .i64 n,.int .i64 0,.int .i64 1073741824] w fun e w'=>e=.returned (.bool (tmB n))/\w=w':=Xs n 0 1073741824 w
theorem Xt (b:L):inB (b.length:Int) 1 800=Da b:=by
 rw[inB,Da];have e1:decide ((1:Int)<=(b.length:Int))=decide (1<=b.length):=by rw[decide_eq_decide];omega
 have e2:decide ((b.length:Int)<=800)=decide (b.length<=800):=by rw[decide_eq_decide];omega
 rw[e1,e2]
theorem Qa (l:L) (A:Option Addr) (n c:Nat) (w:World) (hn:n=l.length):Calls Tryz.prog 54 #[.slice A n c] w fun e w'=>e=.returned (.tuple (if l.length<=2000 then #[.slice A n c,.int .i64 0] else #[.slice none 0 0,.int .i64 1]))/\w=w':=by
 subst hn
 by_cases h:l.length<=2000
 ·rw[if_pos h]
  have t1:decide ((2000:Int)<(l.length:Int))=false:=decide_eq_false (by omega);clear h;go_enter Tryz.func54,Tryz.ntmps54
  go_wp2
  go_ret2
  exact⟨rfl,rfl⟩
 ·rw[if_neg h]
  have t1:decide ((2000:Int)<(l.length:Int))=true:=decide_eq_true (by omega);clear h;go_enter Tryz.func54,Tryz.ntmps54
  go_wp2
  go_ret2
  exact⟨rfl,rfl⟩
theorem AX (p:Pr) (w:World) (h1:p.1.length<=1000000000) (h2:p.2.length<=1000000000):Calls Tryz.prog 45 #[prV p] w fun e w'=>e=.returned (.bool (prB p))/\Below w.heap.size w w':=Nm.Hz p.1 p.2 w h1 h2
def pSm (p:Pr):Prop:=p.1.length<=1000000000/\p.2.length<=1000000000
open DerR
theorem AZ {w0 w:World} {l:L} {e:Ending} {w':World} (h:BS w l e w') (hb:Below w0.heap.size w0 w):BS w0 l e w':=by
 obtain⟨⟨g,c,h1,h2,h3,h4⟩,h5⟩:=h;exact⟨⟨g,c,h1,Nat.le_trans hb.size h2,h3,h4⟩,hb.trans (h5.mono hb.size)⟩
theorem JZ (p:Pr) (w:World) (hs:p.1.length<=20000) (hs2:p.2.length<=20000):Calls Tryz.prog 56 #[.agg #[.string ⟨p.1.toArray⟩,.string ⟨p.2.toArray⟩]] w (BS w (prE p)):=by
 have hb0:=(Below.refl w.heap.size w).alloc Ag (.cells #[.string ⟨p.1.toArray⟩,.string ⟨p.2.toArray⟩] 25);have HB:=I hb0;have HK:=I (Blk.new w 25 #[.string ⟨p.1.toArray⟩,.string ⟨p.2.toArray⟩]);have T1:=I (fun w1=>DerR.Eh p.1 w1 (by omega));have T2:=I (fun w1=>DerR.Eh p.2 w1 (by omega));have e1:=AD 27 p.1;have e2:=AD 27 p.2;have HL:=I (show [elem 27 p.1,elem 27 p.2].flatten.length<=65535 by rw[FY,List.length_append];omega);have HE:=I (show prE p=elem 48 [elem 27 p.1,elem 27 p.2].flatten from rfl);obtain⟨l1,el1⟩:∃l,l=elem 27 p.1:=⟨_,rfl⟩;obtain⟨l2,el2⟩:∃l,l=elem 27 p.2:=⟨_,rfl⟩;rw[<-el1] at T1 HL HE;rw[<-el2] at T2 HL HE;rw[HE.o,FY];clear hb0 e1 e2 hs hs2 el1 el2 HE;go_enter Tryz.func56,Tryz.ntmps56
 go_wp2
 obtain⟨W,eW⟩:=Ak (w.alloc (.cells #[.string ⟨p.1.toArray⟩,.string ⟨p.2.toArray⟩] 25));rw[<-eW] at HB HK⊢;clear eW;replace HK:=I (show Blk W.drew _ _ _ from HK.o.drewN 1);replace HB:=I (show Below _ _ W.drew from below_drewN HB.o 1)
 go_region_held3 (fun w'=>w'.cell? ⟨w.heap.size,0,none⟩=some (.string ⟨p.1.toArray⟩)/\w'.cell? ⟨w.heap.size,1,none⟩=some (.string ⟨p.2.toArray⟩)) (first | exact⟨HK.o.cell 0,HK.o.cell 1⟩ | exact⟨(HK.o.alloc _).cell 0,(HK.o.alloc _).cell 1⟩) ((first
  |(go_at_call 58;(with_reducible refine Calls.mono (T1.o _) ?_);rintro e w1 ⟨⟨g1,c1,rfl,hg1,hc1,hr1⟩,hb⟩;clear T1;have HR1:=I hr1;replace HK:=I (HK.o.below hb);replace HB:=HB.t hb;clear hb hr1 hg1 hc1)
  |(go_at_call 58;(with_reducible refine Calls.mono (T2.o _) ?_);rintro e w2 ⟨⟨g2,c2,rfl,hg2,hc2,hr2⟩,hb⟩;clear T2;replace HR1:=I (AV HR1.o hb);have HR2:=I hr2;replace HK:=I (HK.o.below hb);replace HB:=HB.t hb;clear hb hr2 hg2 hc2)
  |(go_at_call 55;refine Calls.mono (DB 48 [l1,l2] _ 2 2 (w2.heap.size+1) _ (KR HR1.o HR2.o) rfl (by simp) HL.o (by simp)) ?_;rintro e wz ⟨⟨gz,cz,rfl,hgz,hcz,hrz⟩,hb⟩;have hal:=(Below.refl w2.heap.size w2).alloc Ag (.cells #[.slice (some ⟨g1,0,none⟩) l1.length c1,.slice (some ⟨g2,0,none⟩) l2.length c2] 26);have HG:=I (AZ (l:=elem 48 [l1,l2].flatten) ⟨⟨gz,cz,rfl,hgz,hcz,hrz⟩,hb⟩ (HB.o.trans (hal.mono HB.o.size)));rw[FY] at HG;replace HK:=I ((HK.o.alloc (.cells #[.slice (some ⟨g1,0,none⟩) l1.length c1,.slice (some ⟨g2,0,none⟩) l2.length c2] 26)).below hb);clear hal hgz hcz hrz hb)))
 go_wp2
 go_ret;exact HG.o
end Ms
namespace Ms
open Go.RowKit Af DerP
theorem LY (a:An) (w:World) (hs:pSm a.c):Calls Tryz.prog 60 #[.agg #[.string ⟨a.c.1.toArray⟩,.string ⟨a.c.2.toArray⟩,.int .i64 a.t,.int .i64 a.q]] w fun e w'=>e=.returned (.bool (anB a))/\Below w.heap.size w w':=by
 have hb0:=(Below.refl w.heap.size w).alloc Ag (.cells #[.string ⟨a.c.1.toArray⟩,.string ⟨a.c.2.toArray⟩,.int .i64 a.t,.int .i64 a.q] 41);have HB:=I hb0;have HK:=I (Blk.new w 41 #[.string ⟨a.c.1.toArray⟩,.string ⟨a.c.2.toArray⟩,.int .i64 a.t,.int .i64 a.q]);clear hb0;have T1:=I (fun w1=>AX a.c w1 hs.1 hs.2);have T2:=I (fun w1=>KU a.t w1);have T3:=I (fun w1=>KU a.q w1);cases h1:prB a.c with
 |false=>
  rw[h1] at T1;have E:=I (show anB a=false by rw[anB,h1];rfl);clear h1;go_enter Tryz.func60,Tryz.ntmps60
  go_wp2_with (go_at_call 45;(with_reducible refine Calls.mono (T1.o _) ?_);rintro e w1 ⟨rfl,hb⟩;replace HK:=I (HK.o.below hb);replace HB:=HB.t hb;clear hb T1;(try clear k0 k1 k2 k3);have k0:=HK.o.cell 0;have k1:=HK.o.cell 1;have k2:=HK.o.cell 2;have k3:=HK.o.cell 3;simp only[List.getElem?_toArray,List.getElem?_cons_zero,List.getElem?_cons_succ] at k0 k1 k2 k3)
  go_ret;exact⟨by rw[E.o];rfl,HB.o⟩
 |true=>
  rw[h1] at T1;cases h2:tmB a.t with
  |false=>
   rw[h2] at T2;have E:=I (show anB a=false by rw[anB,h1,h2];rfl);clear h1 h2;go_enter Tryz.func60,Tryz.ntmps60
   go_wp2_with (first
    |(go_at_call 45;(with_reducible refine Calls.mono (T1.o _) ?_);rintro e w1 ⟨rfl,hb⟩;replace HK:=I (HK.o.below hb);replace HB:=HB.t hb;clear hb T1;(try clear k0 k1 k2 k3);have k0:=HK.o.cell 0;have k1:=HK.o.cell 1;have k2:=HK.o.cell 2;have k3:=HK.o.cell 3;simp only[List.getElem?_toArray,List.getElem?_cons_zero,List.getElem?_cons_succ] at k0 k1 k2 k3)
    |(go_at_call 100;(with_reducible refine Calls.mono (T2.o _) ?_);rintro e w2 ⟨rfl,hw⟩;subst hw;clear T2))
   go_ret;exact⟨by rw[E.o];rfl,HB.o⟩
  |true=>
   rw[h2] at T2;have E:=I (show anB a=tmB a.q by rw[anB,h1,h2];rfl);clear h1 h2;go_enter Tryz.func60,Tryz.ntmps60
   go_wp2_with (first
    |(go_at_call 45;(with_reducible refine Calls.mono (T1.o _) ?_);rintro e w1 ⟨rfl,hb⟩;replace HK:=I (HK.o.below hb);replace HB:=HB.t hb;clear hb T1;(try clear k0 k1 k2 k3);have k0:=HK.o.cell 0;have k1:=HK.o.cell 1;have k2:=HK.o.cell 2;have k3:=HK.o.cell 3;simp only[List.getElem?_toArray,List.getElem?_cons_zero,List.getElem?_cons_succ] at k0 k1 k2 k3)
    |(go_at_call 100;(with_reducible refine Calls.mono (T2.o _) ?_);rintro e w2 ⟨rfl,hw⟩;subst hw;clear T2)
    |(go_at_call 100;(with_reducible refine Calls.mono (T3.o _) ?_);rintro e w3 ⟨rfl,hw⟩;subst hw;clear T3))
   go_ret;exact⟨by rw[E.o];rfl,HB.o⟩
open DerR
def EncR (w:World) (o:Option L) (e:Ending) (w':World):Prop:=
 (∃v i,e=.returned (.tuple #[v,.int .i64 i])/\(o=none->v=.slice none 0 0/\i=1)/\∀l,o=some l->i=0/\∃g c,v=.slice (some ⟨g,0,none⟩) l.length c/\w.heap.size<=g/\l.length<=c/\Rd w' w'.heap.size (some ⟨g,0,none⟩) (bvs l))/\Below w.heap.size w w'
theorem Ae {w:World} {g:Nat} {t:TypeId} {cs:Array Value} (h:Blk w g t cs):w.rangeAt g 0 cs.toList:=fun j v hv=>by
 rw[Nat.zero_add,h.cell];simpa using hv
theorem Am {P:Program} {ops:Array Oper} {rest:List Oper} {op:Oper} {a:Act} {w:World} {Q:Exit->Act->World->Prop} (hgd:op.guard=none) (ty:TypeId) (x:Operand) (ho:op.op=.load ty x)
  (g o:Nat) (hx:a.eval x=.pointer (some ⟨g,o,none⟩)) (cs:Array Value) (d:TypeDesc) (hc:w.rangeAt g o cs.toList)
  (hu:P.underlying ty=some d) (hd:d.isRow=true) (hi:(P.info? ty).map (·.size)=some cs.size)
  (h:wpList P ops Q rest (a.put op.dst (.agg cs)) w):wpList P ops Q (op :: rest) a w:=
 wpList_load_mid hgd ty x ho g o hx cs.toList d hc hu hd (by rw[Array.length_toList];exact hi) (by simpa using h)
theorem LZ (l:L) (A:Option Addr) (n c:Nat) (w:World) (hn:n=l.length) (h:l.length<=2000):Calls Tryz.prog 54 #[.slice A n c] w fun e w'=>e=.returned (.tuple #[.slice A n c,.int .i64 0])/\w=w':=by
 have:=Qa l A n c w hn
 rwa [if_pos h] at this
theorem FQ {w w':World} (h:Below w.heap.size w w'):EncR w none (.returned (.tuple #[.slice none 0 0,.int .i64 1])) w':=
 ⟨⟨_,_,rfl,(fun _=>⟨rfl,rfl⟩),(fun l e=>by cases e)⟩,h⟩
theorem FR {w w':World} {l:L} {g c:Nat} (h:BS w l (.returned (.slice (some ⟨g,0,none⟩) l.length c)) w'):EncR w (some l) (.returned (.tuple #[.slice (some ⟨g,0,none⟩) l.length c,.int .i64 0])) w':=by
 obtain⟨⟨g',c',h1,h2,h3,h4⟩,h5⟩:=h;injection h1 with h1;injection h1 with h1 h6 h7;injection h1 with h1;injection h1 with h1;subst h1;subst h7;exact⟨⟨_,_,rfl,(fun e=>by cases e),(fun l' e=>by injection e with e;subst e;exact⟨rfl,g,c,rfl,h2,h3,h4⟩)⟩,h5⟩
theorem KV (a:An) (w:World) (hs:pSm a.c):Calls Tryz.prog 21 #[.agg #[.string ⟨a.c.1.toArray⟩,.string ⟨a.c.2.toArray⟩,.int .i64 a.t,.int .i64 a.q]] w (EncR w (anO a)):=by
 have hb0:=(Below.refl w.heap.size w).alloc Ag (.cells #[.string ⟨a.c.1.toArray⟩,.string ⟨a.c.2.toArray⟩,.int .i64 a.t,.int .i64 a.q] 41);have HB:=I hb0;have HK:=I (Blk.new w 41 #[.string ⟨a.c.1.toArray⟩,.string ⟨a.c.2.toArray⟩,.int .i64 a.t,.int .i64 a.q]);have I1:=I (fun w1=>LY a w1 hs);clear hb0;cases hx:anB a with
 |false=>
  rw[hx] at I1;have E:=I (show anO a=none by unfold anO limO;rw[hx];rfl);rw[E.o];clear hx E;go_enter Tryz.func21,Tryz.ntmps21
  go_wp2_with (go_at_call 60;refine Aj (I1.o _) ?_;rintro w1 hb;replace HB:=HB.t hb;clear hb I1)
  go_ret2
  exact FQ HB.o
 |true=>
  rw[hx] at I1;have hp:prB a.c=true:=(show prB a.c=true/\tmB a.t=true/\tmB a.q=true by simpa [anB] using hx).1;have hpl:=Fp hp;have hpe:=(Bb hp).1;have e1:=AF a.t;have e2:=AF a.q;have T1:=I (fun w1=>JZ a.c w1 (by omega) (by omega));have T2:=I (fun w1=>DerR.CR a.t w1);have T3:=I (fun w1=>DerR.CR a.q w1);have hl:[prE a.c,encI a.t,encI a.q].flatten.length<=1900:=by rw[FZ];simp only[List.length_append];omega
  have HL:=I (show [prE a.c,encI a.t,encI a.q].flatten.length<=65535 by omega);have hE:=AD 98 [prE a.c,encI a.t,encI a.q].flatten;have E:=I (show anO a=some (elem 98 [prE a.c,encI a.t,encI a.q].flatten) from CS.2 ⟨hx,by show(elem 98 [prE a.c,encI a.t,encI a.q].flatten).length<=2000;omega,rfl⟩);rw[E.o];rw[FZ] at hE hl⊢;obtain⟨l1,el1⟩:∃l,l=prE a.c:=⟨_,rfl⟩;obtain⟨l2,el2⟩:∃l,l=encI a.t:=⟨_,rfl⟩;obtain⟨l3,el3⟩:∃l,l=encI a.q:=⟨_,rfl⟩;rw[<-el1] at T1 HL hE hl⊢;rw[<-el2] at T2 HL hE hl⊢;rw[<-el3] at T3 HL hE hl⊢;have hlm:(elem 98 (l1++(l2++l3))).length<=2000:=by omega
  have LM:=I (fun A c w1=>LZ (elem 98 (l1++(l2++l3))) A _ c w1 rfl hlm);clear hx E hE hl hlm el1 el2 el3 hp hpl hpe e1 e2 hs;go_enter Tryz.func21,Tryz.ntmps21
  go_wp2_with (go_at_call 60;refine Aj (I1.o _) ?_;rintro w0 hb;replace HK:=I (HK.o.below hb);replace HB:=HB.t hb;clear hb I1)
  replace HK:=I (show Blk w0.drew _ _ _ from HK.o.drewN 1);replace HB:=I (show Below _ _ w0.drew from below_drewN HB.o 1)
  go_region_held3 (fun w'=>w'.cell? ⟨w.heap.size,0,none⟩=some (.string ⟨a.c.1.toArray⟩)/\w'.cell? ⟨w.heap.size,1,none⟩=some (.string ⟨a.c.2.toArray⟩)/\w'.cell? ⟨w.heap.size,2,none⟩=some (.int .i64 a.t)/\w'.cell? ⟨w.heap.size,3,none⟩=some (.int .i64 a.q)) (first | exact⟨HK.o.cell 0,HK.o.cell 1,HK.o.cell 2,HK.o.cell 3⟩ | exact⟨(HK.o.alloc _).cell 0,(HK.o.alloc _).cell 1,(HK.o.alloc _).cell 2,(HK.o.alloc _).cell 3⟩) ((first
   |(go_at_call 56;(with_reducible refine Calls.mono (T1.o _) ?_);rintro e w1 ⟨⟨g1,c1,rfl,hg1,hc1,hr1⟩,hb⟩;clear T1;have HR1:=I hr1;replace HK:=I (HK.o.below hb);replace HB:=HB.t hb;clear hb hr1 hg1 hc1)
   |(go_at_call 59;(with_reducible refine Calls.mono (T2.o _) ?_);rintro e w2 ⟨⟨g2,c2,rfl,hg2,hc2,hr2⟩,hb⟩;clear T2;replace HR1:=I (AV HR1.o hb);have HR2:=I hr2;replace HK:=I (HK.o.below hb);replace HB:=HB.t hb;clear hb hr2 hg2 hc2)
   |(go_at_call 59;(with_reducible refine Calls.mono (T3.o _) ?_);rintro e w3 ⟨⟨g3,c3,rfl,hg3,hc3,hr3⟩,hb⟩;clear T3;replace HR1:=I (AV HR1.o hb);replace HR2:=I (AV HR2.o hb);have HR3:=I hr3;replace HK:=I (HK.o.below hb);replace HB:=HB.t hb;clear hb hr3 hg3 hc3)
   |(go_at_call 55;refine Calls.mono (DB 98 [l1,l2,l3] _ 3 3 (w3.heap.size+1) _ (GO HR1.o HR2.o HR3.o) rfl (by simp) HL.o (by simp)) ?_;rintro e wz ⟨⟨gz,cz,rfl,hgz,hcz,hrz⟩,hb⟩;have hal:=(Below.refl w3.heap.size w3).alloc Ag (.cells #[.slice (some ⟨g1,0,none⟩) l1.length c1,.slice (some ⟨g2,0,none⟩) l2.length c2,.slice (some ⟨g3,0,none⟩) l3.length c3] 26);have HG:=I (AZ (l:=elem 98 [l1,l2,l3].flatten) ⟨⟨gz,cz,rfl,hgz,hcz,hrz⟩,hb⟩ (HB.o.trans (hal.mono HB.o.size)));rw[FZ] at HG;replace HK:=I ((HK.o.alloc (.cells #[.slice (some ⟨g1,0,none⟩) l1.length c1,.slice (some ⟨g2,0,none⟩) l2.length c2,.slice (some ⟨g3,0,none⟩) l3.length c3] 26)).below hb);clear hal hgz hcz hrz hb)
   |(go_at_call 54;refine Aj (LM.o _ _ _) ?_;rintro wy rfl)))
  go_wp2
  go_ret2
  exact FR HG.o
end Ms
namespace Ms
open Go.RowKit Af DerP
theorem Ox {p:Rp} (hk:p.ss.length=32) {g:Nat} {t:TypeId} {w':World} (h:Blk w' g t (rpC p).toArray):w'.cell? ⟨g,32,none⟩=some (.string ⟨p.s.1.toArray⟩)/\w'.cell? ⟨g,33,none⟩=some (.string ⟨p.s.2.toArray⟩)/\w'.cell? ⟨g,34,none⟩=some (.int .i64 p.st)/\w'.cell? ⟨g,35,none⟩=some (.int .i64 p.en)/\w'.cell? ⟨g,36,none⟩=some (.int .i64 p.no):=by
 have hl:(bvs p.ss).length=32:=by rw[Ao];exact hk
 have key:∀j,w'.cell? ⟨g,32+j,none⟩=(prC p.s++[.int .i64 p.st,.int .i64 p.en,.int .i64 p.no])[j]?:=fun j=>by
  rw[h.cell,List.getElem?_toArray,rpC,List.getElem?_append_right (by omega),hl,Nat.add_sub_cancel_left]
 exact⟨key 0,key 1,key 2,key 3,key 4⟩
theorem Ng {p:Rp} (hk:p.ss.length=32):(rpC p).toArray.size=37:=by
 simp [rpC,prC,Ao,hk]
open DerR
theorem Zr {p:Rp} (hk:p.ss.length=32) {g:Nat} {t:TypeId} {w':World} (h:Blk w' g t (rpC p).toArray):Rd w' w'.heap.size (some ⟨g,0,none⟩) (bvs p.ss):=by
 refine .inr ⟨g,0,rfl,h.lt,fun i u hu=>?_⟩;rw[Nat.zero_add,h.cell,List.getElem?_toArray,rpC];have hi:i<(bvs p.ss).length:=(List.getElem?_eq_some_iff.1 hu).1;rw[List.getElem?_append_left hi];exact hu
end Ms
namespace Ms
open Go.RowKit Af DerP
def FitT (l:L) (k:Nat):Prop:=∀i (h:i<l.length),i<k->32<=l[i].toNat/\l[i].toNat<=126
theorem Su {l:L} (h:FitT l l.length):txtB l=true:=by
 rw[txtB,List.all_eq_true];intro x hx;obtain⟨i,hi,rfl⟩:=List.getElem_of_mem hx;have:=h i hi hi;simp [this.1,this.2]
theorem Nh {l:L} {k:Nat} (hk:k<l.length) (h:l[k].toNat<32\/126<l[k].toNat):txtB l=false:=by
 rw[txtB,List.all_eq_false];refine⟨l[k],List.getElem_mem hk,?_⟩;simp;omega
theorem Eo {p:Pt} (hk:p.ss.length=32) {g:Nat} {t:TypeId} {w':World} (h:Blk w' g t (ptC p).toArray):w'.cell? ⟨g,0,none⟩=some (.string ⟨p.c.1.toArray⟩)/\w'.cell? ⟨g,1,none⟩=some (.string ⟨p.c.2.toArray⟩)/\w'.cell? ⟨g,34,none⟩=some (.string ⟨p.tr.toArray⟩)/\w'.cell? ⟨g,35,none⟩=some (.int .i64 p.st)/\w'.cell? ⟨g,36,none⟩=some (.int .i64 p.en):=by
 have hl:(bvs p.ss).length=32:=by rw[Ao];exact hk
 have key:∀j,w'.cell? ⟨g,34+j,none⟩=([.string ⟨p.tr.toArray⟩,.int .i64 p.st,.int .i64 p.en]:List Value)[j]?:=fun j=>by
  rw[h.cell,List.getElem?_toArray,ptC,List.getElem?_append_right (by simp [prC];omega),List.getElem?_append_right (by simp [prC];omega)]
  congr 1
  simp [prC,hl];omega
 refine⟨by rw[h.cell];rfl,by rw[h.cell];rfl,key 0,key 1,key 2⟩
theorem Du {p:Pt} (hk:p.ss.length=32):(ptC p).toArray.size=37:=by
 simp [ptC,prC,Ao,hk]
attribute [local go_sem] Ex List.getElem_cons_zero List.getElem_cons_succ
theorem Ni (p:Pt) (w:World) (hk:p.ss.length=32) (hs:pSm p.c) (ht:p.tr.length<=1000000000):Calls Tryz.prog 53 #[.agg (ptC p).toArray] w fun e w'=>e=.returned (.bool (ptB p))/\Below w.heap.size w w':=by
 have HI:=I (show(Tryz.prog.info? 39).map (·.size)=some (ptC p).toArray.size by rw[Du hk];kernel_rfl);have CF:=I (show ∀w':World,Blk w' w.heap.size 39 (ptC p).toArray->w'.cell? ⟨w.heap.size,0,none⟩=some (.string ⟨p.c.1.toArray⟩)/\w'.cell? ⟨w.heap.size,1,none⟩=some (.string ⟨p.c.2.toArray⟩)/\w'.cell? ⟨w.heap.size,34,none⟩=some (.string ⟨p.tr.toArray⟩)/\w'.cell? ⟨w.heap.size,35,none⟩=some (.int .i64 p.st)/\w'.cell? ⟨w.heap.size,36,none⟩=some (.int .i64 p.en) from fun w' h=>Eo hk h);obtain⟨cs,ecs⟩:=Ak ((ptC p).toArray);rw[<-ecs] at HI CF⊢;clear ecs;have HB:=I ((Below.refl w.heap.size w).alloc Ag (.cells cs 39));have HK:=I (Blk.new w 39 cs);have T1:=I (fun w1=>AX p.c w1 hs.1 hs.2);have T2:=I (fun w1=>KU p.st w1);have T3:=I (fun w1=>KU p.en w1);obtain⟨k0,k1,k2,k3,k4⟩:=CF.o _ HK.o;clear hs;go_enter Tryz.func53,Tryz.ntmps53
 go_wp2
 go_loop [3] (fun iv=>∃k:Nat,k<=p.tr.length/\iv=.int .i64 (k:Int)/\FitT p.tr k) (fun iv=>p.tr.length - (intOf iv).toNat)
 case atStart=>exact⟨0,Nat.zero_le _,rfl,fun i _ h=>by omega⟩
 case round=>
  obtain⟨k,hk2,rfl,hf⟩:=hrel;have HF:=I hf;clear hf
  by_cases hlt:k<p.tr.length
  ·have e1:(k:Int)<(p.tr.length:Int):=by omega
   by_cases b1:p.tr[k].toNat<32
   ·have E:=I (show ptB p=false by rw[ptB,Nh hlt (Or.inl b1)];rfl)
    have b1':decide ((p.tr[k].toNat:Int)<32)=true:=by simp;omega
    clear b1
    go_wp2
    go_ret;exact⟨by rw[E.o];rfl,HB.o⟩
   ·have b1':decide ((p.tr[k].toNat:Int)<32)=false:=by simp;omega
    by_cases b2:126<p.tr[k].toNat
    ·have E:=I (show ptB p=false by rw[ptB,Nh hlt (Or.inr b2)];rfl)
     have b2':decide (126<(p.tr[k].toNat:Int))=true:=by simp;omega
     clear b1 b2
     go_wp2
     go_ret;exact⟨by rw[E.o];rfl,HB.o⟩
    ·have b2':decide (126<(p.tr[k].toNat:Int))=false:=by simp;omega
     have HP:=I (show 32<=p.tr[k].toNat/\p.tr[k].toNat<=126 from⟨by omega,by omega⟩);clear b1 b2
     go_wp2
     go_round
     case rel=>exact⟨k+1,by omega,by go_num,fun i hi hik=>by
      by_cases q:i=k
      ·subst q;exact HP.o
      ·exact HF.o i hi (by omega)⟩
     case measure=>simp [intOf];omega
  ·have HT:=I (Su (fun i hi _=>HF.o i hi (by omega)))
   have e1:¬(k:Int)<(p.tr.length:Int):=by omega
   clear HF;cases h1:prB p.c with
   |false=>
    rw[h1] at T1;have E:=I (show ptB p=false by rw[ptB,HT.o,h1];rfl);clear h1
    go_wp2_with (first
     |(go_at_call 45;(with_reducible refine Calls.mono (T1.o _) ?_);rintro e w1 ⟨rfl,hb⟩;replace HK:=I (HK.o.below hb);replace HB:=HB.t hb;clear hb T1;(try clear k0 k1 k2 k3 k4);obtain⟨k0,k1,k2,k3,k4⟩:=CF.o _ HK.o))
    go_ret;exact⟨by rw[E.o];rfl,HB.o⟩
   |true=>
    rw[h1] at T1
    by_cases h0:p.tr.length<=300
    ·have g3:decide ((p.tr.length:Int)<=300)=true:=by simp;omega
     cases h2:tmB p.st with
     |false=>
      rw[h2] at T2;have E:=I (show ptB p=false by rw[ptB,HT.o,h1,h2,decide_eq_true h0];rfl);clear h1 h2 h0
      go_wp2_with (first
       |(go_at_call 45;(with_reducible refine Calls.mono (T1.o _) ?_);rintro e w1 ⟨rfl,hb⟩;replace HK:=I (HK.o.below hb);replace HB:=HB.t hb;clear hb T1;(try clear k0 k1 k2 k3 k4);obtain⟨k0,k1,k2,k3,k4⟩:=CF.o _ HK.o)
       |(go_at_call 100;(with_reducible refine Calls.mono (T2.o _) ?_);rintro e w2 ⟨rfl,hw⟩;subst hw;clear T2))
      go_ret;exact⟨by rw[E.o];rfl,HB.o⟩
     |true=>
      rw[h2] at T2;have E:=I (show ptB p=tmB p.en by rw[ptB,HT.o,h1,h2,decide_eq_true h0];rfl);clear h1 h2 h0
      go_wp2_with (first
       |(go_at_call 45;(with_reducible refine Calls.mono (T1.o _) ?_);rintro e w1 ⟨rfl,hb⟩;replace HK:=I (HK.o.below hb);replace HB:=HB.t hb;clear hb T1;(try clear k0 k1 k2 k3 k4);obtain⟨k0,k1,k2,k3,k4⟩:=CF.o _ HK.o)
       |(go_at_call 100;(with_reducible refine Calls.mono (T2.o _) ?_);rintro e w2 ⟨rfl,hw⟩;subst hw;clear T2)
       |(go_at_call 100;(with_reducible refine Calls.mono (T3.o _) ?_);rintro e w3 ⟨rfl,hw⟩;subst hw;clear T3))
      go_ret;exact⟨by rw[E.o];rfl,HB.o⟩
    ·have g3:decide ((p.tr.length:Int)<=300)=false:=by simp;omega
     have E:=I (show ptB p=false by rw[ptB,HT.o,h1,decide_eq_false h0];rfl);clear h1 h0
     go_wp2_with (first
      |(go_at_call 45;(with_reducible refine Calls.mono (T1.o _) ?_);rintro e w1 ⟨rfl,hb⟩;replace HK:=I (HK.o.below hb);replace HB:=HB.t hb;clear hb T1;(try clear k0 k1 k2 k3 k4);obtain⟨k0,k1,k2,k3,k4⟩:=CF.o _ HK.o))
     go_ret;exact⟨by rw[E.o];rfl,HB.o⟩
end Ms
namespace Ms
open Go.RowKit Af DerP DerR
theorem Ka {p:Pt} {g:Nat} {t:TypeId} {w':World} (h:Blk w' g t (ptC p).toArray):Rd w' w'.heap.size (some ⟨g,2,none⟩) (bvs p.ss):=by
 refine .inr ⟨g,2,rfl,h.lt,fun i u hu=>?_⟩;have hi:i<(bvs p.ss).length:=(List.getElem?_eq_some_iff.1 hu).1;rw[h.cell,List.getElem?_toArray,ptC,List.getElem?_append_right (by simp [prC]),List.getElem?_append_left (by simp [prC];exact hi)]
 simpa [prC] using hu
theorem Ih (p:Pt) (w:World) (hk:p.ss.length=32) (hs:pSm p.c) (ht:p.tr.length<=1000000000):Calls Tryz.prog 20 #[.agg (ptC p).toArray] w (EncR w (ptO p)):=by
 have HI:=I (show(Tryz.prog.info? 39).map (·.size)=some (ptC p).toArray.size by rw[Du hk];kernel_rfl);have CF:=I (show ∀w':World,Blk w' w.heap.size 39 (ptC p).toArray->w'.cell? ⟨w.heap.size,0,none⟩=some (.string ⟨p.c.1.toArray⟩)/\w'.cell? ⟨w.heap.size,1,none⟩=some (.string ⟨p.c.2.toArray⟩)/\w'.cell? ⟨w.heap.size,34,none⟩=some (.string ⟨p.tr.toArray⟩)/\w'.cell? ⟨w.heap.size,35,none⟩=some (.int .i64 p.st)/\w'.cell? ⟨w.heap.size,36,none⟩=some (.int .i64 p.en) from fun w' h=>Eo hk h);have I1:=I (fun w1=>Ni p w1 hk hs ht);have T2:=I (fun w1 (h:Blk w1 w.heap.size 39 (ptC p).toArray)=>DerR.DW p.ss (some ⟨w.heap.size,2,none⟩) 32 32 w1.heap.size w1 (Ka h) hk.symm Ag (by omega));obtain⟨cs,ecs⟩:=Ak ((ptC p).toArray);rw[<-ecs] at HI CF I1 T2⊢;clear ecs;have HB:=I ((Below.refl w.heap.size w).alloc Ag (.cells cs 39));have HK:=I (Blk.new w 39 cs);cases hx:ptB p with
 |false=>
  rw[hx] at I1;have E:=I (show ptO p=none by unfold ptO limO;rw[hx];rfl);rw[E.o];clear hx E;go_enter Tryz.func20,Tryz.ntmps20
  go_wp2_with (first
   |(refine Am (by rfl) 39 (.tmp 1) (by rfl) w.heap.size 0 (by rfl) cs _ (Ae (Blk.new w 39 cs)) Tryz.underlying39 (by rfl) HI.o ?_)
   |(go_at_call 53;refine Aj (I1.o _) ?_;rintro w1 hb;replace HB:=HB.t hb;clear hb I1)
   |fail)
  go_ret2
  exact FQ HB.o
 |true=>
  rw[hx] at I1;have hp:prB p.c=true:=(CY hx).2.1;have h3:p.tr.length<=300:=(CY hx).2.2.1;have b1:=Fp hp;have b2:=(Bb hp).1;have b3:=AF p.st;have b4:=AF p.en;have b5:=AD 27 p.tr;have b6:=AD 4 p.ss;have T1:=I (fun w1=>JZ p.c w1 (by omega) (by omega));have T3:=I (fun w1=>DerR.Eh p.tr w1 (by omega));have T4:=I (fun w1=>DerR.CR p.st w1);have T5:=I (fun w1=>DerR.CR p.en w1);have hl:[prE p.c,elem 4 p.ss,elem 27 p.tr,encI p.st,encI p.en].flatten.length<=1900:=by rw[Fq];simp only[List.length_append];omega
  have HL:=I (show [prE p.c,elem 4 p.ss,elem 27 p.tr,encI p.st,encI p.en].flatten.length<=65535 by omega);have hE:=AD 99 [prE p.c,elem 4 p.ss,elem 27 p.tr,encI p.st,encI p.en].flatten;have E:=I (show ptO p=some (elem 99 [prE p.c,elem 4 p.ss,elem 27 p.tr,encI p.st,encI p.en].flatten) from CS.2 ⟨hx,by show(elem 99 [prE p.c,elem 4 p.ss,elem 27 p.tr,encI p.st,encI p.en].flatten).length<=2000;omega,rfl⟩);rw[E.o];rw[Fq] at hE hl⊢;obtain⟨l1,el1⟩:∃l,l=prE p.c:=⟨_,rfl⟩;obtain⟨l2,el2⟩:∃l,l=elem 4 p.ss:=⟨_,rfl⟩;obtain⟨l3,el3⟩:∃l,l=elem 27 p.tr:=⟨_,rfl⟩;obtain⟨l4,el4⟩:∃l,l=encI p.st:=⟨_,rfl⟩;obtain⟨l5,el5⟩:∃l,l=encI p.en:=⟨_,rfl⟩;rw[<-el1] at T1 HL hE hl⊢;rw[<-el2] at T2 HL hE hl⊢;rw[<-el3] at T3 HL hE hl⊢;rw[<-el4] at T4 HL hE hl⊢;rw[<-el5] at T5 HL hE hl⊢;have hlm:(elem 99 (l1++(l2++(l3++(l4++l5))))).length<=2000:=by omega
  have LM:=I (fun A c w1=>LZ (elem 99 (l1++(l2++(l3++(l4++l5))))) A _ c w1 rfl hlm);clear hx E hE hl hlm el1 el2 el3 el4 el5 hp h3 b1 b2 b3 b4 b5 b6 hs hk ht;go_enter Tryz.func20,Tryz.ntmps20
  go_wp2_with (first
   |(refine Am (by rfl) 39 (.tmp 1) (by rfl) w.heap.size 0 (by rfl) cs _ (Ae (Blk.new w 39 cs)) Tryz.underlying39 (by rfl) HI.o ?_)
   |(go_at_call 53;refine Aj (I1.o _) ?_;rintro w0 hb;replace HK:=I (HK.o.below hb);replace HB:=HB.t hb;clear hb I1)
   |fail)
  replace HK:=I (show Blk w0.drew _ _ _ from HK.o.drewN 1);replace HB:=I (show Below _ _ w0.drew from below_drewN HB.o 1)
  go_region_held3 (fun w'=>w'.cell? ⟨w.heap.size,0,none⟩=some (.string ⟨p.c.1.toArray⟩)/\w'.cell? ⟨w.heap.size,1,none⟩=some (.string ⟨p.c.2.toArray⟩)/\w'.cell? ⟨w.heap.size,34,none⟩=some (.string ⟨p.tr.toArray⟩)/\w'.cell? ⟨w.heap.size,35,none⟩=some (.int .i64 p.st)/\w'.cell? ⟨w.heap.size,36,none⟩=some (.int .i64 p.en)) (first | exact CF.o _ HK.o | exact CF.o _ (HK.o.alloc _)) ((first
   |(go_at_call 56;(with_reducible refine Calls.mono (T1.o _) ?_);rintro e w1 ⟨⟨g1,c1,rfl,hg1,hc1,hr1⟩,hb⟩;clear T1;have HR1:=I hr1;replace HK:=I (HK.o.below hb);replace HB:=HB.t hb;clear hb hr1 hg1 hc1)
   |(go_at_call 57;(with_reducible refine Calls.mono (T2.o _ HK.o) ?_);rintro e w2 ⟨⟨g2,c2,rfl,hg2,hc2,hr2⟩,hb⟩;clear T2;replace HR1:=I (AV HR1.o hb);have HR2:=I hr2;replace HK:=I (HK.o.below hb);replace HB:=HB.t hb;clear hb hr2 hg2 hc2)
   |(go_at_call 58;(with_reducible refine Calls.mono (T3.o _) ?_);rintro e w3 ⟨⟨g3,c3,rfl,hg3,hc3,hr3⟩,hb⟩;clear T3;replace HR1:=I (AV HR1.o hb);replace HR2:=I (AV HR2.o hb);have HR3:=I hr3;replace HK:=I (HK.o.below hb);replace HB:=HB.t hb;clear hb hr3 hg3 hc3)
   |(go_at_call 59;(with_reducible refine Calls.mono (T4.o _) ?_);rintro e w4 ⟨⟨g4,c4,rfl,hg4,hc4,hr4⟩,hb⟩;clear T4;replace HR1:=I (AV HR1.o hb);replace HR2:=I (AV HR2.o hb);replace HR3:=I (AV HR3.o hb);have HR4:=I hr4;replace HK:=I (HK.o.below hb);replace HB:=HB.t hb;clear hb hr4 hg4 hc4)
   |(go_at_call 59;(with_reducible refine Calls.mono (T5.o _) ?_);rintro e w5 ⟨⟨g5,c5,rfl,hg5,hc5,hr5⟩,hb⟩;clear T5;replace HR1:=I (AV HR1.o hb);replace HR2:=I (AV HR2.o hb);replace HR3:=I (AV HR3.o hb);replace HR4:=I (AV HR4.o hb);have HR5:=I hr5;replace HK:=I (HK.o.below hb);replace HB:=HB.t hb;clear hb hr5 hg5 hc5)
   |(go_at_call 55;refine Calls.mono (DB 99 [l1,l2,l3,l4,l5] _ 5 5 (w5.heap.size+1) _ (Iw HR1.o HR2.o HR3.o HR4.o HR5.o) rfl (by simp) HL.o (by simp)) ?_;rintro e wz ⟨⟨gz,cz,rfl,hgz,hcz,hrz⟩,hb⟩;have hal:=(Below.refl w5.heap.size w5).alloc Ag (.cells #[.slice (some ⟨g1,0,none⟩) l1.length c1,.slice (some ⟨g2,0,none⟩) l2.length c2,.slice (some ⟨g3,0,none⟩) l3.length c3,.slice (some ⟨g4,0,none⟩) l4.length c4,.slice (some ⟨g5,0,none⟩) l5.length c5] 26);have HG:=I (AZ (l:=elem 99 [l1,l2,l3,l4,l5].flatten) ⟨⟨gz,cz,rfl,hgz,hcz,hrz⟩,hb⟩ (HB.o.trans (hal.mono HB.o.size)));rw[Fq] at HG;replace HK:=I ((HK.o.alloc (.cells #[.slice (some ⟨g1,0,none⟩) l1.length c1,.slice (some ⟨g2,0,none⟩) l2.length c2,.slice (some ⟨g3,0,none⟩) l3.length c3,.slice (some ⟨g4,0,none⟩) l4.length c4,.slice (some ⟨g5,0,none⟩) l5.length c5] 26)).below hb);clear hal hgz hcz hrz hb)
   |(go_at_call 54;refine Aj (LM.o _ _ _) ?_;rintro wy rfl)))
  go_wp2
  go_ret2
  exact FR HG.o
end Ms
namespace Ms
open Go.RowKit Af DerP
def mSm (m:Mg):Prop:=(pSm m.aq.c/\pSm m.aq.s)/\(pSm m.tg.t.s/\pSm m.tg.s)/\(pSm m.re.c/\pSm m.re.t.s)/\pSm m.ap.t.s
section
variable {α:Type}
end
end Ms
end Go.Proofs.YtlchkbpffaclmaaGreat
