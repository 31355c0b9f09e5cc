import Derived.Test.YtlfmicidppccnaaGreatZClientFails7
set_option maxHeartbeats 25600000
set_option maxRecDepth 100000
set_option linter.unusedVariables false
set_option linter.unusedSimpArgs false
namespace Go.Proofs.YtlfmicidppccnaaGreat
namespace Ms
open Go.RowKit Ad DerP
abbrev prV (p:Pr):Value:=.agg #[.string ⟨p.1.toArray⟩,.string ⟨p.2.toArray⟩]
def SlB (w:World) (B:Nat) (v:Value) (l:L):Prop:=∃A c,v = .slice A l.length c∧l.length≤c∧Rd w B A (bvs l)
theorem SlB.keep {w w':World} {B:Nat} {v:Value} {l:L} (h:SlB w B v l) (hb:Below B w w'):SlB w' B v l:=by
 obtain⟨A,c,h1,h2,h3⟩:=h;exact⟨A,c,h1,h2,h3.below hb⟩
theorem SlB.more {w:World} {B B':Nat} {v:Value} {l:L} (h:SlB w B v l) (hB:B≤B'):SlB w B' v l:=by
 obtain⟨A,c,h1,h2,h3⟩:=h;exact⟨A,c,h1,h2,h3.more hB⟩
theorem SlB.nil (w:World) (B:Nat):SlB w B (.slice none 0 0) []:=⟨none,0,rfl,Nat.le_refl _,.inl rfl⟩
def prC (p:Pr):List Value:=[.string ⟨p.1.toArray⟩,.string ⟨p.2.toArray⟩]
def tkC (t:Tk) (b:Value):List Value:=[.string ⟨t.s.1.toArray⟩,.string ⟨t.s.2.toArray⟩,.int .i64 t.k,b]
def asC (q:As):List Value:=[.string ⟨q.c.1.toArray⟩,.string ⟨q.c.2.toArray⟩,.string ⟨q.s.1.toArray⟩,.string ⟨q.s.2.toArray⟩,.int .i64 q.t,.int .i64 q.no]
def tgC (q:Tg) (b a:Value):List Value:=tkC q.t b++[a,.string ⟨q.s.1.toArray⟩,.string ⟨q.s.2.toArray⟩,.int .i64 q.u,.int .i64 q.no]
def reC (q:Re) (b d:Value):List Value:=prC q.c++(tkC q.t b++[d])
def apC (q:Ap) (b a:Value):List Value:=tkC q.t b++[a]
def faC (q:Fa):List Value:=[.int .i64 q.e,.int .i64 q.no]
structure Six where
 b1:Value
 a1:Value
 b2:Value
 d2:Value
 b3:Value
 a3:Value
structure SixR (w:World) (B:Nat) (m:Mg) (s:Six):Prop where
 b1:SlB w B s.b1 m.tg.t.b
 a1:SlB w B s.a1 m.tg.a
 b2:SlB w B s.b2 m.re.t.b
 d2:SlB w B s.d2 m.re.b
 b3:SlB w B s.b3 m.ap.t.b
 a3:SlB w B s.a3 m.ap.a
theorem SixR.keep {w w':World} {B:Nat} {m:Mg} {s:Six} (h:SixR w B m s) (hb:Below B w w'):SixR w' B m s:=⟨h.b1.keep hb,h.a1.keep hb,h.b2.keep hb,h.d2.keep hb,h.b3.keep hb,h.a3.keep hb⟩
theorem AG {w w':World} {A:Option Addr} {l:L} (h:Rd w w.heap.size A (bvs l)) (hb:Below w.heap.size w w'):Rd w' w'.heap.size A (bvs l):=(h.below hb).more hb.size
section
variable {w:World} {t:TypeId} {A1 A2 A3 A4 A5:Option Addr} {l1 l2 l3 l4 l5:L} {c1 c2 c3 c4 c5:Nat}
theorem Ek (h1:Rd w w.heap.size A1 (bvs l1)) (h2:Rd w w.heap.size A2 (bvs l2)) :
  DerW.Rds (w.alloc (.cells #[.slice A1 l1.length c1,.slice A2 l2.length c2] t)) (w.heap.size+1) (some ⟨w.heap.size,0,none⟩) [l1,l2]:=by
 refine .inr ⟨w.heap.size,0,rfl,by omega,fun i l hi=>?_⟩
 match i,hi with
 |0,hi=>injection hi with hi;subst hi;exact⟨A1,c1,(Blk.new w t _).cell 0,(h1.alloc Ae _).more (by omega)⟩
 |1,hi=>injection hi with hi;subst hi;exact⟨A2,c2,(Blk.new w t _).cell 1,(h2.alloc Ae _).more (by omega)⟩
 |i+2,hi=>rw[List.getElem?_eq_none (by simp)] at hi;cases hi
theorem DS (h1:Rd w w.heap.size A1 (bvs l1)) (h2:Rd w w.heap.size A2 (bvs l2)) (h3:Rd w w.heap.size A3 (bvs l3)) :
  DerW.Rds (w.alloc (.cells #[.slice A1 l1.length c1,.slice A2 l2.length c2,.slice A3 l3.length c3] t)) (w.heap.size+1) (some ⟨w.heap.size,0,none⟩) [l1,l2,l3]:=by
 refine .inr ⟨w.heap.size,0,rfl,by omega,fun i l hi=>?_⟩
 match i,hi with
 |0,hi=>injection hi with hi;subst hi;exact⟨A1,c1,(Blk.new w t _).cell 0,(h1.alloc Ae _).more (by omega)⟩
 |1,hi=>injection hi with hi;subst hi;exact⟨A2,c2,(Blk.new w t _).cell 1,(h2.alloc Ae _).more (by omega)⟩
 |2,hi=>injection hi with hi;subst hi;exact⟨A3,c3,(Blk.new w t _).cell 2,(h3.alloc Ae _).more (by omega)⟩
 |i+3,hi=>rw[List.getElem?_eq_none (by simp)] at hi;cases hi
theorem Ir (h1:Rd w w.heap.size A1 (bvs l1)) (h2:Rd w w.heap.size A2 (bvs l2)) (h3:Rd w w.heap.size A3 (bvs l3)) (h4:Rd w w.heap.size A4 (bvs l4)) :
  DerW.Rds (w.alloc (.cells #[.slice A1 l1.length c1,.slice A2 l2.length c2,.slice A3 l3.length c3,.slice A4 l4.length c4] t)) (w.heap.size+1) (some ⟨w.heap.size,0,none⟩) [l1,l2,l3,l4]:=by
 refine .inr ⟨w.heap.size,0,rfl,by omega,fun i l hi=>?_⟩
 match i,hi with
 |0,hi=>injection hi with hi;subst hi;exact⟨A1,c1,(Blk.new w t _).cell 0,(h1.alloc Ae _).more (by omega)⟩
 |1,hi=>injection hi with hi;subst hi;exact⟨A2,c2,(Blk.new w t _).cell 1,(h2.alloc Ae _).more (by omega)⟩
 |2,hi=>injection hi with hi;subst hi;exact⟨A3,c3,(Blk.new w t _).cell 2,(h3.alloc Ae _).more (by omega)⟩
 |3,hi=>injection hi with hi;subst hi;exact⟨A4,c4,(Blk.new w t _).cell 3,(h4.alloc Ae _).more (by omega)⟩
 |i+4,hi=>rw[List.getElem?_eq_none (by simp)] at hi;cases hi
theorem Gj (h1:Rd w w.heap.size A1 (bvs l1)) (h2:Rd w w.heap.size A2 (bvs l2)) (h3:Rd w w.heap.size A3 (bvs l3)) (h4:Rd w w.heap.size A4 (bvs l4)) (h5:Rd w w.heap.size A5 (bvs l5)) :
  DerW.Rds (w.alloc (.cells #[.slice A1 l1.length c1,.slice A2 l2.length c2,.slice A3 l3.length c3,.slice A4 l4.length c4,.slice A5 l5.length c5] t)) (w.heap.size+1) (some ⟨w.heap.size,0,none⟩) [l1,l2,l3,l4,l5]:=by
 refine .inr ⟨w.heap.size,0,rfl,by omega,fun i l hi=>?_⟩
 match i,hi with
 |0,hi=>injection hi with hi;subst hi;exact⟨A1,c1,(Blk.new w t _).cell 0,(h1.alloc Ae _).more (by omega)⟩
 |1,hi=>injection hi with hi;subst hi;exact⟨A2,c2,(Blk.new w t _).cell 1,(h2.alloc Ae _).more (by omega)⟩
 |2,hi=>injection hi with hi;subst hi;exact⟨A3,c3,(Blk.new w t _).cell 2,(h3.alloc Ae _).more (by omega)⟩
 |3,hi=>injection hi with hi;subst hi;exact⟨A4,c4,(Blk.new w t _).cell 3,(h4.alloc Ae _).more (by omega)⟩
 |4,hi=>injection hi with hi;subst hi;exact⟨A5,c5,(Blk.new w t _).cell 4,(h5.alloc Ae _).more (by omega)⟩
 |i+5,hi=>rw[List.getElem?_eq_none (by simp)] at hi;cases hi
end
theorem Gk (n a b:Int) (w:World):Calls Tryz.prog 120 #[.int .i64 n,.int .i64 a,.int .i64 b] w fun e w'=>e = .returned (.bool (inB n a b))∧w=w':=by
 cases h1:decide (a≤n) with
 |false=>
  go_enter Tryz.func120,Tryz.ntmps120
  go_wp2
  go_ret;exact⟨by rw[inB,h1];rfl,rfl⟩
 |true=>
  go_enter Tryz.func120,Tryz.ntmps120
  go_wp2
  go_ret;exact⟨by rw[inB,h1];rfl,rfl⟩
theorem Fk (n:Int) (w:World):Calls Tryz.prog 120 #[.int .i64 n,.int .i64 0,.int .i64 1073741824] w fun e w'=>e = .returned (.bool (tmB n))∧w=w':=Gk n 0 1073741824 w
theorem Kf (b:L):inB (b.length:Int) 1 800=Bd b:=by
 rw[inB,Bd];have e1:decide ((1:Int)≤(b.length:Int))=decide (1≤b.length):=by rw[decide_eq_decide];omega
 have e2:decide ((b.length:Int)≤800)=decide (b.length≤800):=by rw[decide_eq_decide];omega
 rw[e1,e2]
theorem DT (b:L) (A:Option Addr) (c:Nat) (w:World):Calls Tryz.prog 119 #[.slice A b.length c] w fun e w'=>e = .returned (.bool (Bd b))∧w=w':=by
 have c1:=Gk (b.length:Int) 1 800 w;rw[Kf] at c1;go_enter Tryz.func119,Tryz.ntmps119
 go_wp2_with (go_at_call 120;refine Calls.mono c1 ?_;rintro e w1 ⟨rfl,rfl⟩)
 go_ret;exact⟨rfl,rfl⟩
theorem FN (l:L) (A:Option Addr) (n c:Nat) (w:World) (hn:n=l.length):Calls Tryz.prog 70 #[.slice A n c] w fun e w'=>e = .returned (.tuple (if l.length≤2000 then #[.slice A n c,.int .i64 0] else #[.slice none 0 0,.int .i64 1]))∧w=w':=by
 subst hn
 by_cases h:l.length≤2000
 ·rw[if_pos h]
  have t1:decide ((2000:Int)<(l.length:Int))=false:=decide_eq_false (by omega);clear h;go_enter Tryz.func70,Tryz.ntmps70
  go_wp2
  go_ret2
  exact⟨rfl,rfl⟩
 ·rw[if_neg h]
  have t1:decide ((2000:Int)<(l.length:Int))=true:=decide_eq_true (by omega);clear h;go_enter Tryz.func70,Tryz.ntmps70
  go_wp2
  go_ret2
  exact⟨rfl,rfl⟩
theorem AE (p:Pr) (w:World) (h1:p.1.length≤1000000000) (h2:p.2.length≤1000000000):Calls Tryz.prog 35 #[prV p] w fun e w'=>e = .returned (.bool (prB p))∧Below w.heap.size w w':=Nm.Db p.1 p.2 w h1 h2
def pSm (p:Pr):Prop:=p.1.length≤1000000000∧p.2.length≤1000000000
theorem DB (t:Tk) (A:Option Addr) (c:Nat) (w:World) (hs:pSm t.s):Calls Tryz.prog 118 #[.agg #[.string ⟨t.s.1.toArray⟩,.string ⟨t.s.2.toArray⟩,.int .i64 t.k,.slice A t.b.length c]] w fun e w'=>e = .returned (.bool (tkB t))∧Below w.heap.size w w':=by
 have hb0:=(Below.refl w.heap.size w).alloc Ae (.cells #[.string ⟨t.s.1.toArray⟩,.string ⟨t.s.2.toArray⟩,.int .i64 t.k,.slice A t.b.length c] 42);have HB:=I hb0;have HK:=I (Blk.new w 42 #[.string ⟨t.s.1.toArray⟩,.string ⟨t.s.2.toArray⟩,.int .i64 t.k,.slice A t.b.length c]);have c1:=AE t.s (w.alloc (.cells #[.string ⟨t.s.1.toArray⟩,.string ⟨t.s.2.toArray⟩,.int .i64 t.k,.slice A t.b.length c] 42)) hs.1 hs.2;have C2:=I (fun w1=>Gk t.k 1 255 w1);have C3:=I (fun w1=>DT t.b A c w1);unfold prV at c1;clear hb0;cases h1:prB t.s with
 |false=>
  rw[h1] at c1;have E:=I (show tkB t=false by rw[tkB,h1];rfl);clear h1;go_enter Tryz.func118,Tryz.ntmps118
  go_wp2_with (go_at_call 35;refine Calls.mono c1 ?_;rintro e w1 ⟨rfl,hb⟩;replace HB:=HB.t hb;clear hb c1)
  go_ret;exact⟨by rw[E.o];rfl,HB.o⟩
 |true=>
  rw[h1] at c1;cases h2:inB t.k 1 255 with
  |false=>
   rw[h2] at C2;have E:=I (show tkB t=false by rw[tkB,h1,h2];rfl);clear h1 h2;go_enter Tryz.func118,Tryz.ntmps118
   go_wp2_with (first
    |(go_at_call 35;refine Calls.mono c1 ?_;rintro e w1 ⟨rfl,hb⟩;replace HK:=I (HK.o.below hb);replace HB:=HB.t hb;clear hb c1;have k2:=HK.o.cell 2;simp only[List.getElem?_toArray,List.getElem?_cons_zero,List.getElem?_cons_succ] at k2)
    |(go_at_call 120;refine Calls.mono (C2.o _) ?_;rintro e w2 ⟨rfl,rfl⟩))
   go_ret;exact⟨by rw[E.o];rfl,HB.o⟩
  |true=>
   rw[h2] at C2;have E:=I (show tkB t=Bd t.b by rw[tkB,h1,h2];rfl);clear h1 h2;go_enter Tryz.func118,Tryz.ntmps118
   go_wp2_with (first
    |(go_at_call 35;refine Calls.mono c1 ?_;rintro e w1 ⟨rfl,hb⟩;replace HK:=I (HK.o.below hb);replace HB:=HB.t hb;clear hb c1;have k2:=HK.o.cell 2;have k3:=HK.o.cell 3;simp only[List.getElem?_toArray,List.getElem?_cons_zero,List.getElem?_cons_succ] at k2 k3)
    |(go_at_call 120;refine Calls.mono (C2.o _) ?_;rintro e w2 ⟨rfl,rfl⟩)
    |(go_at_call 119;refine Calls.mono (C3.o _) ?_;rintro e w3 ⟨rfl,rfl⟩))
   go_ret;exact⟨by rw[E.o];rfl,HB.o⟩
open DerR
theorem AN {w0 w:World} {l:L} {e:Ending} {w':World} (h:Bq w l e w') (hb:Below w0.heap.size w0 w):Bq w0 l e w':=by
 obtain⟨⟨g,c,h1,h2,h3,h4⟩,h5⟩:=h;exact⟨⟨g,c,h1,Nat.le_trans hb.size h2,h3,h4⟩,hb.trans (h5.mono hb.size)⟩
theorem Co (p:Pr) (w:World) (hs:p.1.length≤20000) (hs2:p.2.length≤20000):Calls Tryz.prog 72 #[.agg #[.string ⟨p.1.toArray⟩,.string ⟨p.2.toArray⟩]] w (Bq w (prE p)):=by
 have hb0:=(Below.refl w.heap.size w).alloc Ae (.cells #[.string ⟨p.1.toArray⟩,.string ⟨p.2.toArray⟩] 40);have HB:=I hb0;have HK:=I (Blk.new w 40 #[.string ⟨p.1.toArray⟩,.string ⟨p.2.toArray⟩]);have T1:=I (fun w1=>DerR.Dp p.1 w1 (by omega));have T2:=I (fun w1=>DerR.Dp p.2 w1 (by omega));have e1:=An 27 p.1;have e2:=An 27 p.2;have HL:=I (show [elem 27 p.1,elem 27 p.2].flatten.length≤65535 by rw[BA,List.length_append];omega);have HE:=I (show prE p=elem 48 [elem 27 p.1,elem 27 p.2].flatten from rfl);obtain⟨l1,el1⟩:∃l,l=elem 27 p.1:=⟨_,rfl⟩;obtain⟨l2,el2⟩:∃l,l=elem 27 p.2:=⟨_,rfl⟩;rw[←el1] at T1 HL HE;rw[←el2] at T2 HL HE;rw[HE.o,BA];clear hb0 e1 e2 hs hs2 el1 el2 HE;go_enter Tryz.func72,Tryz.ntmps72
 go_wp2
 obtain⟨W,eW⟩:∃W,W=w.alloc (.cells #[.string ⟨p.1.toArray⟩,.string ⟨p.2.toArray⟩] 40):=⟨_,rfl⟩;rw[←eW] at HB HK⊢;clear eW;replace HK:=I (show Blk W.drew _ _ _ from HK.o.drewN 1);replace HB:=I (show Below _ _ W.drew from below_drewN HB.o 1)
 go_region_held3 (fun w'=>w'.cell? ⟨w.heap.size,0,none⟩=some (.string ⟨p.1.toArray⟩)∧w'.cell? ⟨w.heap.size,1,none⟩=some (.string ⟨p.2.toArray⟩)) (first | exact⟨HK.o.cell 0,HK.o.cell 1⟩ | exact⟨(HK.o.alloc _).cell 0,(HK.o.alloc _).cell 1⟩) ((first
  |(go_at_call 121;(with_reducible refine Calls.mono (T1.o _) ?_);rintro e w1 ⟨⟨g1,c1,rfl,hg1,hc1,hr1⟩,hb⟩;clear T1;have HR1:=I hr1;replace HK:=I (HK.o.below hb);replace HB:=HB.t hb;clear hb hr1 hg1 hc1)
  |(go_at_call 121;(with_reducible refine Calls.mono (T2.o _) ?_);rintro e w2 ⟨⟨g2,c2,rfl,hg2,hc2,hr2⟩,hb⟩;clear T2;replace HR1:=I (AG HR1.o hb);have HR2:=I hr2;replace HK:=I (HK.o.below hb);replace HB:=HB.t hb;clear hb hr2 hg2 hc2)
  |(go_at_call 71;refine Calls.mono (Bp 48 [l1,l2] _ 2 2 (w2.heap.size+1) _ (Ek HR1.o HR2.o) rfl (by simp) HL.o (by simp)) ?_;rintro e wz ⟨⟨gz,cz,rfl,hgz,hcz,hrz⟩,hb⟩;have hal:=(Below.refl w2.heap.size w2).alloc Ae (.cells #[.slice (some ⟨g1,0,none⟩) l1.length c1,.slice (some ⟨g2,0,none⟩) l2.length c2] 27);have HG:=I (AN (l:=elem 48 [l1,l2].flatten) ⟨⟨gz,cz,rfl,hgz,hcz,hrz⟩,hb⟩ (HB.o.trans (hal.mono HB.o.size)));rw[BA] at HG;replace HK:=I ((HK.o.alloc (.cells #[.slice (some ⟨g1,0,none⟩) l1.length c1,.slice (some ⟨g2,0,none⟩) l2.length c2] 27)).below hb);clear hal hgz hcz hrz hb)))
 go_wp2
 go_ret;exact HG.o
theorem Fl (t:Tk) (A:Option Addr) (c B:Nat) (w:World) (hs:t.s.1.length≤10000) (hs2:t.s.2.length≤10000) (hb2:t.b.length≤20000) (hr:Rd w B A (bvs t.b)) (hB:B≤w.heap.size) :
  Calls Tryz.prog 74 #[.agg #[.string ⟨t.s.1.toArray⟩,.string ⟨t.s.2.toArray⟩,.int .i64 t.k,.slice A t.b.length c]] w (Bq w (tkE t)):=by
 have hb0:=(Below.refl w.heap.size w).alloc Ae (.cells #[.string ⟨t.s.1.toArray⟩,.string ⟨t.s.2.toArray⟩,.int .i64 t.k,.slice A t.b.length c] 42);have HB:=I hb0;have HK:=I (Blk.new w 42 #[.string ⟨t.s.1.toArray⟩,.string ⟨t.s.2.toArray⟩,.int .i64 t.k,.slice A t.b.length c]);have T1:=I (fun w1=>Co t.s w1 (by omega) (by omega));have T2:=I (fun w1=>DerR.AZ t.k w1);have T3:=I (fun w1 (h:Below w.heap.size w w1)=>DerR.Bz t.b A t.b.length c w1.heap.size w1 (((hr.more hB).below h).more h.size) rfl Ae (by omega));have e0:=An 48 [elem 27 t.s.1,elem 27 t.s.2].flatten;have e1:=An 27 t.s.1;have e2:=An 27 t.s.2;have e3:=Ay t.k;have e4:=An 4 t.b;rw[BA,List.length_append] at e0;have HL:=I (show [prE t.s,encI t.k,elem 4 t.b].flatten.length≤65535 by rw[CJ,List.length_append,List.length_append,prE,BA];omega);have HE:=I (show tkE t=elem 97 [prE t.s,encI t.k,elem 4 t.b].flatten from rfl);obtain⟨l1,el1⟩:∃l,l=prE t.s:=⟨_,rfl⟩;obtain⟨l2,el2⟩:∃l,l=encI t.k:=⟨_,rfl⟩;obtain⟨l3,el3⟩:∃l,l=elem 4 t.b:=⟨_,rfl⟩;rw[←el1] at T1 HL HE;rw[←el2] at T2 HL HE;rw[←el3] at T3 HL HE;rw[HE.o,CJ];clear hb0 e0 e1 e2 e3 e4 hs hs2 hb2 hr el1 el2 el3 HE;go_enter Tryz.func74,Tryz.ntmps74
 go_wp2
 obtain⟨W,eW⟩:∃W,W=w.alloc (.cells #[.string ⟨t.s.1.toArray⟩,.string ⟨t.s.2.toArray⟩,.int .i64 t.k,.slice A t.b.length c] 42):=⟨_,rfl⟩;rw[←eW] at HB HK⊢;clear eW;replace HK:=I (show Blk W.drew _ _ _ from HK.o.drewN 1);replace HB:=I (show Below _ _ W.drew from below_drewN HB.o 1)
 go_region_held3 (fun w'=>w'.cell? ⟨w.heap.size,0,none⟩=some (.string ⟨t.s.1.toArray⟩)∧w'.cell? ⟨w.heap.size,1,none⟩=some (.string ⟨t.s.2.toArray⟩)∧w'.cell? ⟨w.heap.size,2,none⟩=some (.int .i64 t.k)∧w'.cell? ⟨w.heap.size,3,none⟩=some (.slice A t.b.length c)) (first | exact⟨HK.o.cell 0,HK.o.cell 1,HK.o.cell 2,HK.o.cell 3⟩ | exact⟨(HK.o.alloc _).cell 0,(HK.o.alloc _).cell 1,(HK.o.alloc _).cell 2,(HK.o.alloc _).cell 3⟩) ((first
  |(go_at_call 72;(with_reducible refine Calls.mono (T1.o _) ?_);rintro e w1 ⟨⟨g1,c1,rfl,hg1,hc1,hr1⟩,hb⟩;clear T1;have HR1:=I hr1;replace HK:=I (HK.o.below hb);replace HB:=HB.t hb;clear hb hr1 hg1 hc1)
  |(go_at_call 73;(with_reducible refine Calls.mono (T2.o _) ?_);rintro e w2 ⟨⟨g2,c2,rfl,hg2,hc2,hr2⟩,hb⟩;clear T2;replace HR1:=I (AG HR1.o hb);have HR2:=I hr2;replace HK:=I (HK.o.below hb);replace HB:=HB.t hb;clear hb hr2 hg2 hc2)
  |(go_at_call 75;(with_reducible refine Calls.mono (T3.o _ HB.o) ?_);rintro e w3 ⟨⟨g3,c3,rfl,hg3,hc3,hr3⟩,hb⟩;clear T3;replace HR1:=I (AG HR1.o hb);replace HR2:=I (AG HR2.o hb);have HR3:=I hr3;replace HK:=I (HK.o.below hb);replace HB:=HB.t hb;clear hb hr3 hg3 hc3)
  |(go_at_call 71;refine Calls.mono (Bp 97 [l1,l2,l3] _ 3 3 (w3.heap.size+1) _ (DS HR1.o HR2.o HR3.o) rfl (by simp) HL.o (by simp)) ?_;rintro e wz ⟨⟨gz,cz,rfl,hgz,hcz,hrz⟩,hb⟩;have hal:=(Below.refl w3.heap.size w3).alloc Ae (.cells #[.slice (some ⟨g1,0,none⟩) l1.length c1,.slice (some ⟨g2,0,none⟩) l2.length c2,.slice (some ⟨g3,0,none⟩) l3.length c3] 27);have HG:=I (AN (l:=elem 97 [l1,l2,l3].flatten) ⟨⟨gz,cz,rfl,hgz,hcz,hrz⟩,hb⟩ (HB.o.trans (hal.mono HB.o.size)));rw[CJ] at HG;replace HK:=I ((HK.o.alloc (.cells #[.slice (some ⟨g1,0,none⟩) l1.length c1,.slice (some ⟨g2,0,none⟩) l2.length c2,.slice (some ⟨g3,0,none⟩) l3.length c3] 27)).below hb);clear hal hgz hcz hrz hb)))
 go_wp2
 go_ret;exact HG.o
end Ms
namespace Ms
open Go.RowKit Ad DerP
theorem Kg (q:As) (w:World) (hs:pSm q.c) (hs2:pSm q.s):Calls Tryz.prog 116 #[.agg #[.string ⟨q.c.1.toArray⟩,.string ⟨q.c.2.toArray⟩,.string ⟨q.s.1.toArray⟩,.string ⟨q.s.2.toArray⟩,.int .i64 q.t,.int .i64 q.no]] w fun e w'=>e = .returned (.bool (asB q))∧Below w.heap.size w w':=by
 have hb0:=(Below.refl w.heap.size w).alloc Ae (.cells #[.string ⟨q.c.1.toArray⟩,.string ⟨q.c.2.toArray⟩,.string ⟨q.s.1.toArray⟩,.string ⟨q.s.2.toArray⟩,.int .i64 q.t,.int .i64 q.no] 66);have HB:=I hb0;have HK:=I (Blk.new w 66 #[.string ⟨q.c.1.toArray⟩,.string ⟨q.c.2.toArray⟩,.string ⟨q.s.1.toArray⟩,.string ⟨q.s.2.toArray⟩,.int .i64 q.t,.int .i64 q.no]);clear hb0;have T1:=I (fun w1=>AE q.c w1 hs.1 hs.2);have T2:=I (fun w1=>AE q.s w1 hs2.1 hs2.2);have T3:=I (fun w1=>Fk q.t w1);have T4:=I (fun w1=>Fk q.no w1);cases h1:prB q.c with
 |false=>
  rw[h1] at T1;have E:=I (show asB q=false by rw[asB,h1];rfl);clear h1;go_enter Tryz.func116,Tryz.ntmps116
  go_wp2_with (go_at_call 35;(with_reducible refine Calls.mono (T1.o _) ?_);rintro e w1 ⟨rfl,hb⟩;replace HK:=I (HK.o.below hb);replace HB:=HB.t hb;clear hb T1;(try clear k0 k1 k2 k3 k4 k5);have k0:=HK.o.cell 0;have k1:=HK.o.cell 1;have k2:=HK.o.cell 2;have k3:=HK.o.cell 3;have k4:=HK.o.cell 4;have k5:=HK.o.cell 5;simp only[List.getElem?_toArray,List.getElem?_cons_zero,List.getElem?_cons_succ] at k0 k1 k2 k3 k4 k5)
  go_ret;exact⟨by rw[E.o];rfl,HB.o⟩
 |true=>
  rw[h1] at T1;cases h2:prB q.s with
  |false=>
   rw[h2] at T2;have E:=I (show asB q=false by rw[asB,h1,h2];rfl);clear h1 h2;go_enter Tryz.func116,Tryz.ntmps116
   go_wp2_with (first
    |(go_at_call 35;(with_reducible refine Calls.mono (T1.o _) ?_);rintro e w1 ⟨rfl,hb⟩;replace HK:=I (HK.o.below hb);replace HB:=HB.t hb;clear hb T1;(try clear k0 k1 k2 k3 k4 k5);have k0:=HK.o.cell 0;have k1:=HK.o.cell 1;have k2:=HK.o.cell 2;have k3:=HK.o.cell 3;have k4:=HK.o.cell 4;have k5:=HK.o.cell 5;simp only[List.getElem?_toArray,List.getElem?_cons_zero,List.getElem?_cons_succ] at k0 k1 k2 k3 k4 k5)
    |(go_at_call 35;(with_reducible refine Calls.mono (T2.o _) ?_);rintro e w2 ⟨rfl,hb⟩;replace HK:=I (HK.o.below hb);replace HB:=HB.t hb;clear hb T2;(try clear k0 k1 k2 k3 k4 k5);have k0:=HK.o.cell 0;have k1:=HK.o.cell 1;have k2:=HK.o.cell 2;have k3:=HK.o.cell 3;have k4:=HK.o.cell 4;have k5:=HK.o.cell 5;simp only[List.getElem?_toArray,List.getElem?_cons_zero,List.getElem?_cons_succ] at k0 k1 k2 k3 k4 k5))
   go_ret;exact⟨by rw[E.o];rfl,HB.o⟩
  |true=>
   rw[h2] at T2;cases h3:tmB q.t with
   |false=>
    rw[h3] at T3;have E:=I (show asB q=false by rw[asB,h1,h2,h3];rfl);clear h1 h2 h3;go_enter Tryz.func116,Tryz.ntmps116
    go_wp2_with (first
     |(go_at_call 35;(with_reducible refine Calls.mono (T1.o _) ?_);rintro e w1 ⟨rfl,hb⟩;replace HK:=I (HK.o.below hb);replace HB:=HB.t hb;clear hb T1;(try clear k0 k1 k2 k3 k4 k5);have k0:=HK.o.cell 0;have k1:=HK.o.cell 1;have k2:=HK.o.cell 2;have k3:=HK.o.cell 3;have k4:=HK.o.cell 4;have k5:=HK.o.cell 5;simp only[List.getElem?_toArray,List.getElem?_cons_zero,List.getElem?_cons_succ] at k0 k1 k2 k3 k4 k5)
     |(go_at_call 35;(with_reducible refine Calls.mono (T2.o _) ?_);rintro e w2 ⟨rfl,hb⟩;replace HK:=I (HK.o.below hb);replace HB:=HB.t hb;clear hb T2;(try clear k0 k1 k2 k3 k4 k5);have k0:=HK.o.cell 0;have k1:=HK.o.cell 1;have k2:=HK.o.cell 2;have k3:=HK.o.cell 3;have k4:=HK.o.cell 4;have k5:=HK.o.cell 5;simp only[List.getElem?_toArray,List.getElem?_cons_zero,List.getElem?_cons_succ] at k0 k1 k2 k3 k4 k5)
     |(go_at_call 120;(with_reducible refine Calls.mono (T3.o _) ?_);rintro e w3 ⟨rfl,hw⟩;subst hw;clear T3))
    go_ret;exact⟨by rw[E.o];rfl,HB.o⟩
   |true=>
    rw[h3] at T3;have E:=I (show asB q=tmB q.no by rw[asB,h1,h2,h3];rfl);clear h1 h2 h3;go_enter Tryz.func116,Tryz.ntmps116
    go_wp2_with (first
     |(go_at_call 35;(with_reducible refine Calls.mono (T1.o _) ?_);rintro e w1 ⟨rfl,hb⟩;replace HK:=I (HK.o.below hb);replace HB:=HB.t hb;clear hb T1;(try clear k0 k1 k2 k3 k4 k5);have k0:=HK.o.cell 0;have k1:=HK.o.cell 1;have k2:=HK.o.cell 2;have k3:=HK.o.cell 3;have k4:=HK.o.cell 4;have k5:=HK.o.cell 5;simp only[List.getElem?_toArray,List.getElem?_cons_zero,List.getElem?_cons_succ] at k0 k1 k2 k3 k4 k5)
     |(go_at_call 35;(with_reducible refine Calls.mono (T2.o _) ?_);rintro e w2 ⟨rfl,hb⟩;replace HK:=I (HK.o.below hb);replace HB:=HB.t hb;clear hb T2;(try clear k0 k1 k2 k3 k4 k5);have k0:=HK.o.cell 0;have k1:=HK.o.cell 1;have k2:=HK.o.cell 2;have k3:=HK.o.cell 3;have k4:=HK.o.cell 4;have k5:=HK.o.cell 5;simp only[List.getElem?_toArray,List.getElem?_cons_zero,List.getElem?_cons_succ] at k0 k1 k2 k3 k4 k5)
     |(go_at_call 120;(with_reducible refine Calls.mono (T3.o _) ?_);rintro e w3 ⟨rfl,hw⟩;subst hw;clear T3)
     |(go_at_call 120;(with_reducible refine Calls.mono (T4.o _) ?_);rintro e w4 ⟨rfl,hw⟩;subst hw;clear T4))
    go_ret;exact⟨by rw[E.o];rfl,HB.o⟩
theorem Je (q:Tg) (A1 A2:Option Addr) (c1 c2:Nat) (w:World) (hs:pSm q.t.s) (hs2:pSm q.s):Calls Tryz.prog 117 #[.agg #[.string ⟨q.t.s.1.toArray⟩,.string ⟨q.t.s.2.toArray⟩,.int .i64 q.t.k,.slice A1 q.t.b.length c1,.slice A2 q.a.length c2,.string ⟨q.s.1.toArray⟩,.string ⟨q.s.2.toArray⟩,.int .i64 q.u,.int .i64 q.no]] w fun e w'=>e = .returned (.bool (tgB q))∧Below w.heap.size w w':=by
 have hb0:=(Below.refl w.heap.size w).alloc Ae (.cells #[.string ⟨q.t.s.1.toArray⟩,.string ⟨q.t.s.2.toArray⟩,.int .i64 q.t.k,.slice A1 q.t.b.length c1,.slice A2 q.a.length c2,.string ⟨q.s.1.toArray⟩,.string ⟨q.s.2.toArray⟩,.int .i64 q.u,.int .i64 q.no] 68);have HB:=I hb0;have HK:=I (Blk.new w 68 #[.string ⟨q.t.s.1.toArray⟩,.string ⟨q.t.s.2.toArray⟩,.int .i64 q.t.k,.slice A1 q.t.b.length c1,.slice A2 q.a.length c2,.string ⟨q.s.1.toArray⟩,.string ⟨q.s.2.toArray⟩,.int .i64 q.u,.int .i64 q.no]);clear hb0;have T1:=I (fun w1=>DB q.t A1 c1 w1 hs);have T2:=I (fun w1=>DT q.a A2 c2 w1);have T3:=I (fun w1=>AE q.s w1 hs2.1 hs2.2);have T4:=I (fun w1=>Fk q.u w1);have T5:=I (fun w1=>Fk q.no w1);cases h1:tkB q.t with
 |false=>
  rw[h1] at T1;have E:=I (show tgB q=false by rw[tgB,h1];rfl);clear h1;go_enter Tryz.func117,Tryz.ntmps117
  go_wp2_with (go_at_call 118;(with_reducible refine Calls.mono (T1.o _) ?_);rintro e w1 ⟨rfl,hb⟩;replace HK:=I (HK.o.below hb);replace HB:=HB.t hb;clear hb T1;(try clear k0 k1 k2 k3 k4 k5 k6 k7 k8);have k0:=HK.o.cell 0;have k1:=HK.o.cell 1;have k2:=HK.o.cell 2;have k3:=HK.o.cell 3;have k4:=HK.o.cell 4;have k5:=HK.o.cell 5;have k6:=HK.o.cell 6;have k7:=HK.o.cell 7;have k8:=HK.o.cell 8;simp only[List.getElem?_toArray,List.getElem?_cons_zero,List.getElem?_cons_succ] at k0 k1 k2 k3 k4 k5 k6 k7 k8)
  go_ret;exact⟨by rw[E.o];rfl,HB.o⟩
 |true=>
  rw[h1] at T1;cases h2:Bd q.a with
  |false=>
   rw[h2] at T2;have E:=I (show tgB q=false by rw[tgB,h1,h2];rfl);clear h1 h2;go_enter Tryz.func117,Tryz.ntmps117
   go_wp2_with (first
    |(go_at_call 118;(with_reducible refine Calls.mono (T1.o _) ?_);rintro e w1 ⟨rfl,hb⟩;replace HK:=I (HK.o.below hb);replace HB:=HB.t hb;clear hb T1;(try clear k0 k1 k2 k3 k4 k5 k6 k7 k8);have k0:=HK.o.cell 0;have k1:=HK.o.cell 1;have k2:=HK.o.cell 2;have k3:=HK.o.cell 3;have k4:=HK.o.cell 4;have k5:=HK.o.cell 5;have k6:=HK.o.cell 6;have k7:=HK.o.cell 7;have k8:=HK.o.cell 8;simp only[List.getElem?_toArray,List.getElem?_cons_zero,List.getElem?_cons_succ] at k0 k1 k2 k3 k4 k5 k6 k7 k8)
    |(go_at_call 119;(with_reducible refine Calls.mono (T2.o _) ?_);rintro e w2 ⟨rfl,hw⟩;subst hw;clear T2))
   go_ret;exact⟨by rw[E.o];rfl,HB.o⟩
  |true=>
   rw[h2] at T2;cases h3:prB q.s with
   |false=>
    rw[h3] at T3;have E:=I (show tgB q=false by rw[tgB,h1,h2,h3];rfl);clear h1 h2 h3;go_enter Tryz.func117,Tryz.ntmps117
    go_wp2_with (first
     |(go_at_call 118;(with_reducible refine Calls.mono (T1.o _) ?_);rintro e w1 ⟨rfl,hb⟩;replace HK:=I (HK.o.below hb);replace HB:=HB.t hb;clear hb T1;(try clear k0 k1 k2 k3 k4 k5 k6 k7 k8);have k0:=HK.o.cell 0;have k1:=HK.o.cell 1;have k2:=HK.o.cell 2;have k3:=HK.o.cell 3;have k4:=HK.o.cell 4;have k5:=HK.o.cell 5;have k6:=HK.o.cell 6;have k7:=HK.o.cell 7;have k8:=HK.o.cell 8;simp only[List.getElem?_toArray,List.getElem?_cons_zero,List.getElem?_cons_succ] at k0 k1 k2 k3 k4 k5 k6 k7 k8)
     |(go_at_call 119;(with_reducible refine Calls.mono (T2.o _) ?_);rintro e w2 ⟨rfl,hw⟩;subst hw;clear T2)
     |(go_at_call 35;(with_reducible refine Calls.mono (T3.o _) ?_);rintro e w3 ⟨rfl,hb⟩;replace HK:=I (HK.o.below hb);replace HB:=HB.t hb;clear hb T3;(try clear k0 k1 k2 k3 k4 k5 k6 k7 k8);have k0:=HK.o.cell 0;have k1:=HK.o.cell 1;have k2:=HK.o.cell 2;have k3:=HK.o.cell 3;have k4:=HK.o.cell 4;have k5:=HK.o.cell 5;have k6:=HK.o.cell 6;have k7:=HK.o.cell 7;have k8:=HK.o.cell 8;simp only[List.getElem?_toArray,List.getElem?_cons_zero,List.getElem?_cons_succ] at k0 k1 k2 k3 k4 k5 k6 k7 k8))
    go_ret;exact⟨by rw[E.o];rfl,HB.o⟩
   |true=>
    rw[h3] at T3;cases h4:tmB q.u with
    |false=>
     rw[h4] at T4;have E:=I (show tgB q=false by rw[tgB,h1,h2,h3,h4];rfl);clear h1 h2 h3 h4;go_enter Tryz.func117,Tryz.ntmps117
     go_wp2_with (first
      |(go_at_call 118;(with_reducible refine Calls.mono (T1.o _) ?_);rintro e w1 ⟨rfl,hb⟩;replace HK:=I (HK.o.below hb);replace HB:=HB.t hb;clear hb T1;(try clear k0 k1 k2 k3 k4 k5 k6 k7 k8);have k0:=HK.o.cell 0;have k1:=HK.o.cell 1;have k2:=HK.o.cell 2;have k3:=HK.o.cell 3;have k4:=HK.o.cell 4;have k5:=HK.o.cell 5;have k6:=HK.o.cell 6;have k7:=HK.o.cell 7;have k8:=HK.o.cell 8;simp only[List.getElem?_toArray,List.getElem?_cons_zero,List.getElem?_cons_succ] at k0 k1 k2 k3 k4 k5 k6 k7 k8)
      |(go_at_call 119;(with_reducible refine Calls.mono (T2.o _) ?_);rintro e w2 ⟨rfl,hw⟩;subst hw;clear T2)
      |(go_at_call 35;(with_reducible refine Calls.mono (T3.o _) ?_);rintro e w3 ⟨rfl,hb⟩;replace HK:=I (HK.o.below hb);replace HB:=HB.t hb;clear hb T3;(try clear k0 k1 k2 k3 k4 k5 k6 k7 k8);have k0:=HK.o.cell 0;have k1:=HK.o.cell 1;have k2:=HK.o.cell 2;have k3:=HK.o.cell 3;have k4:=HK.o.cell 4;have k5:=HK.o.cell 5;have k6:=HK.o.cell 6;have k7:=HK.o.cell 7;have k8:=HK.o.cell 8;simp only[List.getElem?_toArray,List.getElem?_cons_zero,List.getElem?_cons_succ] at k0 k1 k2 k3 k4 k5 k6 k7 k8)
      |(go_at_call 120;(with_reducible refine Calls.mono (T4.o _) ?_);rintro e w4 ⟨rfl,hw⟩;subst hw;clear T4))
     go_ret;exact⟨by rw[E.o];rfl,HB.o⟩
    |true=>
     rw[h4] at T4;have E:=I (show tgB q=tmB q.no by rw[tgB,h1,h2,h3,h4];rfl);clear h1 h2 h3 h4;go_enter Tryz.func117,Tryz.ntmps117
     go_wp2_with (first
      |(go_at_call 118;(with_reducible refine Calls.mono (T1.o _) ?_);rintro e w1 ⟨rfl,hb⟩;replace HK:=I (HK.o.below hb);replace HB:=HB.t hb;clear hb T1;(try clear k0 k1 k2 k3 k4 k5 k6 k7 k8);have k0:=HK.o.cell 0;have k1:=HK.o.cell 1;have k2:=HK.o.cell 2;have k3:=HK.o.cell 3;have k4:=HK.o.cell 4;have k5:=HK.o.cell 5;have k6:=HK.o.cell 6;have k7:=HK.o.cell 7;have k8:=HK.o.cell 8;simp only[List.getElem?_toArray,List.getElem?_cons_zero,List.getElem?_cons_succ] at k0 k1 k2 k3 k4 k5 k6 k7 k8)
      |(go_at_call 119;(with_reducible refine Calls.mono (T2.o _) ?_);rintro e w2 ⟨rfl,hw⟩;subst hw;clear T2)
      |(go_at_call 35;(with_reducible refine Calls.mono (T3.o _) ?_);rintro e w3 ⟨rfl,hb⟩;replace HK:=I (HK.o.below hb);replace HB:=HB.t hb;clear hb T3;(try clear k0 k1 k2 k3 k4 k5 k6 k7 k8);have k0:=HK.o.cell 0;have k1:=HK.o.cell 1;have k2:=HK.o.cell 2;have k3:=HK.o.cell 3;have k4:=HK.o.cell 4;have k5:=HK.o.cell 5;have k6:=HK.o.cell 6;have k7:=HK.o.cell 7;have k8:=HK.o.cell 8;simp only[List.getElem?_toArray,List.getElem?_cons_zero,List.getElem?_cons_succ] at k0 k1 k2 k3 k4 k5 k6 k7 k8)
      |(go_at_call 120;(with_reducible refine Calls.mono (T4.o _) ?_);rintro e w4 ⟨rfl,hw⟩;subst hw;clear T4)
      |(go_at_call 120;(with_reducible refine Calls.mono (T5.o _) ?_);rintro e w5 ⟨rfl,hw⟩;subst hw;clear T5))
     go_ret;exact⟨by rw[E.o];rfl,HB.o⟩
open DerR
def EncR (w:World) (o:Option L) (e:Ending) (w':World):Prop:=
 (∃v i,e = .returned (.tuple #[v,.int .i64 i])∧(o=none→v = .slice none 0 0∧i=1)∧∀l,o=some l→i=0∧∃g c,v = .slice (some ⟨g,0,none⟩) l.length c∧w.heap.size≤g∧l.length≤c∧Rd w' w'.heap.size (some ⟨g,0,none⟩) (bvs l))∧Below w.heap.size w w'
theorem Aj {w:World} {g:Nat} {t:TypeId} {cs:Array Value} (h:Blk w g t cs):w.rangeAt g 0 cs.toList:=fun j v hv=>by
 rw[Nat.zero_add,h.cell];simpa using hv
theorem Ak {P:Program} {ops:Array Oper} {rest:List Oper} {op:Oper} {a:Act} {w:World} {Q:Exit→Act→World→Prop} (hgd:op.guard=none) (ty:TypeId) (x:Operand) (ho:op.op = .load ty x)
  (g o:Nat) (hx:a.eval x = .pointer (some ⟨g,o,none⟩)) (cs:Array Value) (d:TypeDesc) (hc:w.rangeAt g o cs.toList)
  (hu:P.underlying ty=some d) (hd:d.isRow=true) (hi:(P.info? ty).map (·.size)=some cs.size)
  (h:wpList P ops Q rest (a.put op.dst (.agg cs)) w):wpList P ops Q (op :: rest) a w:=
 wpList_load_mid hgd ty x ho g o hx cs.toList d hc hu hd (by rw[Array.length_toList];exact hi) (by simpa using h)
theorem Di (l:L) (A:Option Addr) (n c:Nat) (w:World) (hn:n=l.length) (h:l.length≤2000):Calls Tryz.prog 70 #[.slice A n c] w fun e w'=>e = .returned (.tuple #[.slice A n c,.int .i64 0])∧w=w':=by
 have:=FN l A n c w hn
 rwa [if_pos h] at this
theorem Gl {w w':World} (h:Below w.heap.size w w'):EncR w none (.returned (.tuple #[.slice none 0 0,.int .i64 1])) w':=
 ⟨⟨_,_,rfl,(fun _=>⟨rfl,rfl⟩),(fun l e=>by cases e)⟩,h⟩
theorem Dq {w w':World} {l:L} {g c:Nat} (h:Bq w l (.returned (.slice (some ⟨g,0,none⟩) l.length c)) w'):EncR w (some l) (.returned (.tuple #[.slice (some ⟨g,0,none⟩) l.length c,.int .i64 0])) w':=by
 obtain⟨⟨g',c',h1,h2,h3,h4⟩,h5⟩:=h;injection h1 with h1;injection h1 with h1 h6 h7;injection h1 with h1;injection h1 with h1;subst h1;subst h7;exact⟨⟨_,_,rfl,(fun e=>by cases e),(fun l' e=>by injection e with e;subst e;exact⟨rfl,g,c,rfl,h2,h3,h4⟩)⟩,h5⟩
end Ms
namespace Ms
open Go.RowKit Ad DerP
theorem Fm (t:Tk) (A:Option Addr) (c:Nat) (w:World):Calls Tryz.prog 115 #[.agg #[.string ⟨t.s.1.toArray⟩,.string ⟨t.s.2.toArray⟩,.int .i64 t.k,.slice A t.b.length c]] w fun e w'=>e = .returned (.bool (decide (t=tk0)))∧Below w.heap.size w w':=by
 obtain⟨⟨r,n⟩,k,b⟩:=t;have HB:=I ((Below.refl w.heap.size w).alloc Ae (.cells #[.string ⟨r.toArray⟩,.string ⟨n.toArray⟩,.int .i64 k,.slice A b.length c] 42));simp only
 by_cases hr:r = []
 ·subst hr
  by_cases hn:n = []
  ·subst hn
   by_cases hk:k=0
   ·subst hk
    by_cases hb:b = []
    ·subst hb
     have E:=I (show decide ((⟨([],[]),0,[]⟩:Tk)=tk0)=true from rfl);go_enter Tryz.func115,Tryz.ntmps115
     go_wp2
     go_ret;exact⟨by rw[E.o];rfl,HB.o⟩
    ·have t1:((b.length:Int)==0)=false:=by simpa using hb
     have E:=I (show decide ((⟨([],[]),0,b⟩:Tk)=tk0)=false from decide_eq_false (fun h=>hb (congrArg Tk.b h)));go_enter Tryz.func115,Tryz.ntmps115
     go_wp2
     go_ret;exact⟨by rw[E.o];rfl,HB.o⟩
   ·have t1:(k==0)=false:=by simpa using hk
    have E:=I (show decide ((⟨([],[]),k,b⟩:Tk)=tk0)=false from decide_eq_false (fun h=>hk (congrArg Tk.k h)));go_enter Tryz.func115,Tryz.ntmps115
    go_wp2
    go_ret;exact⟨by rw[E.o];rfl,HB.o⟩
  ·have t1:(n == [])=false:=by simpa using hn
   have E:=I (show decide ((⟨([],n),k,b⟩:Tk)=tk0)=false from decide_eq_false (fun h=>hn (congrArg (fun t=>t.s.2) h)));go_enter Tryz.func115,Tryz.ntmps115
   go_wp2
   go_ret;exact⟨by rw[E.o];rfl,HB.o⟩
 ·have t1:(r == [])=false:=by simpa using hr
  have E:=I (show decide ((⟨(r,n),k,b⟩:Tk)=tk0)=false from decide_eq_false (fun h=>hr (congrArg (fun t=>t.s.1) h)));go_enter Tryz.func115,Tryz.ntmps115
  go_wp2
  go_ret;exact⟨by rw[E.o];rfl,HB.o⟩
open DerR
theorem wh_eq (c:Option L):DerC.Ik c=whC c:=by
 cases c with
 |none=>rfl
 |some l=>cases l<;>rfl
theorem BC {a b c:World} {row:Option Nat} (h:a.grownBy b row) (k:b.grownBy c row):a.grownBy c row:=
 ⟨k.os.trans h.os,k.tape.trans h.tape,k.output.trans h.output,Nat.le_trans h.size k.size,fun i hi hn=>(k.block i (Nat.lt_of_lt_of_le hi h.size) hn).trans (h.block i hi hn)⟩
theorem DU {a b c:World} {row:Option Nat} {q:Nat} (h:a.grownBy b row) (k:b.grownBy c (some q)) (hq:a.heap.size≤q):a.grownBy c row:=
 ⟨k.os.trans h.os,k.tape.trans h.tape,k.output.trans h.output,Nat.le_trans h.size k.size,fun i hi hn=>(k.block i (Nat.lt_of_lt_of_le hi h.size) (fun e=>by injection e with e;omega)).trans (h.block i hi hn)⟩
theorem Jf {w:World} {B g:Nat} {c:Option L} (h:RC w B g c):g<w.heap.size:=by
 obtain⟨A,n,cap,e,hb,_⟩:=h;exact hb.lt
theorem BH {w w':World} {B g q:Nat} {c:Option L} (h:RC w B g c) (hg:w.grownBy w' (some q)) (hq:q≠g) (hB:B≤w.heap.size) (hBq:B≤q):RC w' B g c:=
 h.keep hg (fun e=>hq (by injection e)) hB (fun k hk=>by injection hk with hk;omega)
theorem Gm {w:World} {B g:Nat} {c:Option L} (h:RC w B g c) (hB:B≤w.heap.size) (o:Obj):RC (w.alloc o) B g c:=
 h.keep (row:=none) (BL (World.grownBy.refl _ _) o) (by simp) hB (by simp)
theorem Mu {w:World} {B g:Nat} {c:Option L} (h:RC w B g c):RC (w.setCell ⟨g,1,none⟩ (.bool true)) B g none:=by
 obtain⟨A,n,cap,e,hb,_⟩:=h;exact⟨A,n,cap,true,hb.set 1 _,rfl⟩
theorem Ev {w:World} {B g q j:Nat} {c:Option L} {u:Value} (h:RC w B g c) (hq:q≠g) (hB:B≤w.heap.size) (hBq:B≤q):RC (w.setCell ⟨q,j,none⟩ u) B g c:=
 BH (q:=q) h (Av (World.grownBy.refl _ _) (.inl rfl) u) hq hB hBq
theorem Np {w:World} {B g:Nat} {c:Option L} (h:RC w B g c):w.cell? ⟨g,1,none⟩=some (.bool (!c.isSome))∧w.frozen? ⟨g,1,none⟩=false:=by
 obtain⟨A,n,cap,e,hb,hr⟩:=h;refine⟨?_,hb.frozen 1⟩;cases c with
 |none=>obtain rfl:e=true:=hr;exact hb.cell 1
 |some l=>obtain rfl:e=false:=hr.1;exact hb.cell 1
theorem Nq {w:World} {B g:Nat} {l:L} (h:RC w B g (some l)):RC (w.setCell ⟨g,1,none⟩ (.bool false)) B g (some l):=by
 obtain⟨A,n,cap,e,hb,hr⟩:=h;obtain rfl:e=false:=hr.1;have hB:=hr.2.2.2;refine⟨A,n,cap,false,hb.set 1 _,rfl,hr.2.1,hr.2.2.1,?_⟩;refine hB.keep fun b o hb'=>?_
 by_cases e:b=g
 ·subst e
  rw[(hb.set 1 (.bool false)).cell,hb.cell]
  rfl
 ·exact World.cell?_setCell_other _ _ _ _ (fun h=>e (by injection h with h;exact h.symm))
theorem Ag {P:Program} {fn:Func} {tmps:Array Value} {w:World} {v:Value} (t:Nat) (ty:TypeId) (a:Addr) (hres:fn.results=#[.cell t ty]) (ht:tmps.getD t undef = .pointer (some a)) (hl:(loadVar ty a).run P w = .ok v w) :
  (results fn tmps).run P w = .ok v w:=by
 have ht':tmps[t]?.getD undef = .pointer (some a):=by simpa using ht
 simp [results,hres,ht',asAddr,hl]
theorem Al {P:Program} {w:World} {g:Nat} {t ty:TypeId} {cs:Array Value} {d:TypeDesc} (h:Blk w g t cs) (hu:P.underlying ty=some d) (hd:d.isRow=true) (hi:(P.info? ty).map (·.size)=some cs.size) :
  (loadVar ty ⟨g,0,none⟩).run P w = .ok (.agg cs) w:=by
 have hc:w.rangeAt g 0 cs.toList:=fun j v hv=>by rw[Nat.zero_add,h.cell];simpa using hv
 have:=run_loadVar_mid (P:=P) w g 0 ty cs.toList d hc hu hd (by simpa using hi)
 simpa using this
theorem Ew (B g:Nat) (c:Option L) (w:World) (h:RC w B g c) (hB:B≤w.heap.size) (hBg:B≤g) (hu:(c.getD []).length≤100000) :
  Calls Tryz.prog 56 #[.pointer (some ⟨g,0,none⟩)] w fun e w'=>e = .returned (.agg #[.string ⟨(prP c).1.1.toArray⟩,.string ⟨(prP c).1.2.toArray⟩])∧RC w' B g (prP c).2∧w.grownBy w' (some g):=by
 have hlt:=Jf h;obtain⟨W,eW⟩:∃W,W=w.alloc (.cells #[.string ⟨#[]⟩,.string ⟨#[]⟩] 40):=⟨_,rfl⟩;have hWs:W.heap.size=w.heap.size+1:=by rw[eW];simp
 have h1:RC W B g c:=by rw[eW];exact Gm h hB _
 have HG:=I (show w.grownBy W (some g) by rw[eW];exact BL (World.grownBy.refl _ _) _);have HR:=I (show Blk W w.heap.size 40 #[.string ⟨#[]⟩,.string ⟨#[]⟩] by rw[eW];exact Blk.new _ _ _);have c1:=GI 48 B g c W h1 (by omega) hBg hu;have HBW:=I (show B≤W.heap.size by omega);have HWS:=I hWs;have HLT:=I hlt;have HBg:=I hBg;have HB0:=I hB;have hl1:=(Bw 48 c).1;have HP1:=I (show(prP c).1=(txC (Ah 48 c),txC (Az 27 (Ah 48 c))) from rfl);have HP2:=I (show(prP c).2=if whC (Az 27 (Az 27 (Ah 48 c))) then Az 48 c else none from rfl);obtain⟨d,ed⟩:∃d,d=Ah 48 c:=⟨_,rfl⟩;obtain⟨r,er⟩:∃r,r=Az 48 c:=⟨_,rfl⟩;rw[←ed] at c1 hl1 HP1 HP2;rw[←er] at c1 HP2;rw[HP1.o,HP2.o];have hl2:=(Bw 27 d).2;have HL1:=I (show(d.getD []).length≤100000 by omega);have HL2:=I (show((Az 27 d).getD []).length≤100000 by omega);have T1:=I (fun B g w h h1 h2=>(GH B g d w h h1 h2 HL1.o));have T2:=I (fun B g w h h1 h2=>(GH B g (Az 27 d) w h h1 h2 HL2.o));have WH:=I (fun B g w h=>Jd B g (Az 27 (Az 27 d)) w h);rw[wh_eq] at WH;rw[show(Ah 27 d).getD []=txC d from rfl] at T1;rw[show(Ah 27 (Az 27 d)).getD []=txC (Az 27 d) from rfl] at T2;obtain⟨t1,et1⟩:∃t,t=txC d:=⟨_,rfl⟩;obtain⟨t2,et2⟩:∃t,t=txC (Az 27 d):=⟨_,rfl⟩;obtain⟨d2,ed2⟩:∃q,q=Az 27 d:=⟨_,rfl⟩;rw[←et1] at T1⊢;rw[←et2] at T2⊢;rw[←ed2] at T1 T2 WH⊢;obtain⟨d3,ed3⟩:∃q,q=Az 27 d2:=⟨_,rfl⟩;rw[←ed3] at T2 WH⊢;obtain⟨fi,efi⟩:∃q,q=if whC d3=true then r else none:=⟨_,rfl⟩
 rw[←efi];have EF:=I efi;clear efi;clear h h1 hB hBg hu hlt hWs hl1 hl2 HP1 HP2 HL1 HL2 ed er et1 et2 ed2 ed3;subst eW;go_enter Tryz.func56,Tryz.ntmps56
 go_upto_region 3 with(first
  |(go_at_call 55;refine Calls.mono c1 ?_;rintro e w2 ⟨⟨gd,rfl,hgd,hd⟩,hc,hg2⟩;clear c1;have HD:=I hd;have HC:=I hc;have HGD:=I (show w.heap.size+1≤gd by have:=HWS.o;omega);replace HR:=I (HR.o.grown hg2 (by intro e;injection e with e;have:=HLT.o;omega));replace HG:=I (BC HG.o hg2);replace HBW:=I (Nat.le_trans HBW.o hg2.size);have HDL:=I (Jf hd);clear hgd hd hc hg2)
  |(go_at_call 104;refine Calls.mono (T1.o B gd _ HD.o HBW.o (by have:=HGD.o;have:=HLT.o;have:=HBg.o;omega)) ?_;rintro e w3 ⟨rfl,hd,hg3⟩;clear T1;replace HD:=I hd;replace HC:=I (BH HC.o hg3 (by have:=HGD.o;have:=HLT.o;omega) HBW.o (by have:=HGD.o;have:=HLT.o;have:=HBg.o;omega));replace HR:=I (HR.o.grown hg3 (by intro e;injection e with e;have:=HGD.o;omega));replace HG:=I (DU HG.o hg3 (by have:=HGD.o;omega));replace HBW:=I (Nat.le_trans HBW.o hg3.size);replace HDL:=I (Jf hd);clear hd hg3))
 obtain⟨P,eP⟩:∃P,P=w3.heap.size:=⟨_,rfl⟩;obtain⟨W4,e4⟩:∃W4,W4=w3.alloc (.cells #[.string ⟨t1.toArray⟩,.string ⟨#[]⟩] 40):=⟨_,rfl⟩;have HPB:=I (show Blk W4 P 40 #[.string ⟨t1.toArray⟩,.string ⟨#[]⟩] by rw[e4,eP];exact Blk.new _ _ _);have h4s:W4.heap.size=P+1:=by rw[e4,eP];simp
 have HPG:=I (show gd<P by rw[eP];exact HDL.o);have hbp:B≤P:=by rw[eP];exact HBW.o
 have HBP:=I hbp;have HNP:=I (show w.heap.size<P by have:=HPG.o;have:=HGD.o;omega);have HGP:=I (show g<P by have:=HLT.o;have:=HNP.o;omega);replace HD:=I (show RC W4 B gd d2 by rw[e4];exact Gm HD.o HBW.o _);replace HC:=I (show RC W4 B g r by rw[e4];exact Gm HC.o HBW.o _);replace HR:=I (show Blk W4 w.heap.size 40 _ by rw[e4];exact HR.o.alloc _);replace HG:=I (show w.grownBy W4 (some g) by rw[e4];exact BL HG.o _);replace HBW:=I (show B≤W4.heap.size by omega);rw[←e4,←eP];clear e4 eP h4s hbp
 go_upto_region 4 with(go_at_call 104;refine Calls.mono (T2.o B gd _ HD.o HBW.o (by have:=HGD.o;have:=HLT.o;have:=HBg.o;omega)) ?_;rintro e w5 ⟨rfl,hd,hg3⟩;clear T2;replace HD:=I hd;replace HC:=I (BH HC.o hg3 (by have:=HGD.o;have:=HLT.o;omega) HBW.o (by have:=HGD.o;have:=HLT.o;have:=HBg.o;omega));replace HR:=I (HR.o.grown hg3 (by intro e;injection e with e;have:=HGD.o;omega));replace HPB:=I (HPB.o.grown hg3 (by intro e;injection e with e;have:=HPG.o;omega));replace HG:=I (DU HG.o hg3 (by have:=HGD.o;omega));replace HBW:=I (Nat.le_trans HBW.o hg3.size);have f0:=HPB.o.frozen 1;have k9:w5.cell? ⟨P,1,none⟩=some (.string ⟨#[]⟩):=HPB.o.cell 1;clear hd hg3)
 have H1:=I (show Blk (w5.setCell ⟨P,1,none⟩ (.string ⟨t2.toArray⟩)) P 40 #[.string ⟨t1.toArray⟩,.string ⟨t2.toArray⟩] from HPB.o.set 1 (.string ⟨t2.toArray⟩));have H2:=I (Ev (j:=1) (u:=.string ⟨t2.toArray⟩) HD.o (q:=P) (by have:=HPG.o;omega) HBW.o HBP.o);have H3:=I (Ev (j:=1) (u:=.string ⟨t2.toArray⟩) HC.o (q:=P) (by have:=HGP.o;omega) HBW.o HBP.o);have H4:=I (show Blk (w5.setCell ⟨P,1,none⟩ (.string ⟨t2.toArray⟩)) w.heap.size 40 _ from(Below.heap_setCell w5 _ _ w.heap.size (fun e=>by have:=HNP.o;simp only at e;omega)).trans HR.o);have H5:=I (Av HG.o (p:=⟨P,1,none⟩) (.inr (show w.heap.size≤P by have:=HNP.o;omega)) (.string ⟨t2.toArray⟩));have H6:=I (show B≤(w5.setCell ⟨P,1,none⟩ (.string ⟨t2.toArray⟩)).heap.size from Nat.le_trans HBW.o (Av (World.grownBy.refl w5 (some P)) (p:=⟨P,1,none⟩) (.inl rfl) (.string ⟨t2.toArray⟩)).size);obtain⟨V,eV⟩:∃V,V=w5.setCell ⟨P,1,none⟩ (.string ⟨t2.toArray⟩):=⟨_,rfl⟩;rw[←eV] at H1 H2 H3 H4 H5 H6⊢;clear eV k9 f0 HPB HD HC HR HG HBW;have hcl:=Np H3.o;have k1:=hcl.1;have f1:=hcl.2;clear hcl;cases r with
 |none=>
  simp only[Option.isSome_none,Bool.not_false] at k1
  go_upto_region 5 with fail
  have K1:=I (show Blk (V.setCell ⟨g,1,none⟩ (.bool true)) P 40 _ from(Below.heap_setCell V _ _ P (fun e=>by have:=HGP.o;simp only at e;omega)).trans H1.o);have K2:=I (show Blk (V.setCell ⟨g,1,none⟩ (.bool true)) w.heap.size 40 _ from(Below.heap_setCell V _ _ w.heap.size (fun e=>by have:=HLT.o;simp only at e;omega)).trans H4.o);have K3:=I (show RC (V.setCell ⟨g,1,none⟩ (.bool true)) B g fi by rw[EF.o];have h:=Mu H3.o;cases whC d3<;>exact h);have K4:=I (Av H5.o (p:=⟨g,1,none⟩) (.inl rfl) (.bool true));have K5:=I (show B≤(V.setCell ⟨g,1,none⟩ (.bool true)).heap.size from Nat.le_trans H6.o (Av (World.grownBy.refl V (some g)) (p:=⟨g,1,none⟩) (.inl rfl) (.bool true)).size);obtain⟨Z,eZ⟩:∃Z,Z=V.setCell ⟨g,1,none⟩ (.bool true):=⟨_,rfl⟩;rw[←eZ] at K1 K2 K3 K4 K5⊢;clear eZ k1 f1 H1 H2 H3 H4 H5 H6;have p0:Z.cell? ⟨P,0,none⟩=some (.string ⟨t1.toArray⟩):=K1.o.cell 0;have p1:Z.cell? ⟨P,1,none⟩=some (.string ⟨t2.toArray⟩):=K1.o.cell 1;have n0:Z.cell? ⟨w.heap.size,0,none⟩=some (.string ⟨#[]⟩):=K2.o.cell 0;have n1:Z.cell? ⟨w.heap.size,1,none⟩=some (.string ⟨#[]⟩):=K2.o.cell 1;have z0:=K2.o.frozen 0;have z1:=K2.o.frozen 1
  go_wp2
  have hE:Blk ((Z.setCell ⟨w.heap.size,0,none⟩ (.string ⟨t1.toArray⟩)).setCell ⟨w.heap.size,1,none⟩ (.string ⟨t2.toArray⟩)) w.heap.size 40 #[.string ⟨t1.toArray⟩,.string ⟨t2.toArray⟩]:=(K2.o.set 0 _).set 1 _;have hq:=Al (P:=Tryz.prog) hE Tryz.underlying40 rfl (by kernel_rfl);refine bodyPost_ret (v:=.agg #[.string ⟨t1.toArray⟩,.string ⟨t2.toArray⟩]) ?_ ?_ ?_
  ·exact Ag 2 40 ⟨w.heap.size,0,none⟩ Tryz.results56 rfl hq
  ·rfl
  refine⟨rfl,?_,?_⟩
  ·exact Ev (Ev K3.o (by have:=HLT.o;omega) K5.o HB0.o) (by have:=HLT.o;omega) (Nat.le_trans K5.o (Av (World.grownBy.refl Z (some w.heap.size)) (p:=⟨w.heap.size,0,none⟩) (.inl rfl) _).size) HB0.o
  ·exact Av (Av K4.o (.inr Ae) _) (.inr Ae) _
 |some l=>
  simp only[Option.isSome_some,Bool.not_true] at k1;have c5:=WH.o B gd _ H2.o;clear WH;cases q:whC d3 with
  |false=>
   rw[q] at c5;rw[q,if_neg Bool.false_ne_true] at EF;clear q
   go_upto_region 5 with(go_at_call 105;refine Calls.mono c5 ?_;rintro e wv ⟨rfl,hw⟩;subst hw;clear c5)
   have K1:=I (show Blk (V.setCell ⟨g,1,none⟩ (.bool true)) P 40 _ from(Below.heap_setCell V _ _ P (fun e=>by have:=HGP.o;simp only at e;omega)).trans H1.o);have K2:=I (show Blk (V.setCell ⟨g,1,none⟩ (.bool true)) w.heap.size 40 _ from(Below.heap_setCell V _ _ w.heap.size (fun e=>by have:=HLT.o;simp only at e;omega)).trans H4.o);have K3:=I (show RC (V.setCell ⟨g,1,none⟩ (.bool true)) B g fi by rw[EF.o];exact Mu H3.o);have K4:=I (Av H5.o (p:=⟨g,1,none⟩) (.inl rfl) (.bool true));have K5:=I (show B≤(V.setCell ⟨g,1,none⟩ (.bool true)).heap.size from Nat.le_trans H6.o (Av (World.grownBy.refl V (some g)) (p:=⟨g,1,none⟩) (.inl rfl) (.bool true)).size);obtain⟨Z,eZ⟩:∃Z,Z=V.setCell ⟨g,1,none⟩ (.bool true):=⟨_,rfl⟩;rw[←eZ] at K1 K2 K3 K4 K5⊢;clear eZ k1 f1 H1 H2 H3 H4 H5 H6;have p0:Z.cell? ⟨P,0,none⟩=some (.string ⟨t1.toArray⟩):=K1.o.cell 0;have p1:Z.cell? ⟨P,1,none⟩=some (.string ⟨t2.toArray⟩):=K1.o.cell 1;have n0:Z.cell? ⟨w.heap.size,0,none⟩=some (.string ⟨#[]⟩):=K2.o.cell 0;have n1:Z.cell? ⟨w.heap.size,1,none⟩=some (.string ⟨#[]⟩):=K2.o.cell 1;have z0:=K2.o.frozen 0;have z1:=K2.o.frozen 1
   go_wp2
   have hE:Blk ((Z.setCell ⟨w.heap.size,0,none⟩ (.string ⟨t1.toArray⟩)).setCell ⟨w.heap.size,1,none⟩ (.string ⟨t2.toArray⟩)) w.heap.size 40 #[.string ⟨t1.toArray⟩,.string ⟨t2.toArray⟩]:=(K2.o.set 0 _).set 1 _;have hq:=Al (P:=Tryz.prog) hE Tryz.underlying40 rfl (by kernel_rfl);refine bodyPost_ret (v:=.agg #[.string ⟨t1.toArray⟩,.string ⟨t2.toArray⟩]) ?_ ?_ ?_
   ·exact Ag 2 40 ⟨w.heap.size,0,none⟩ Tryz.results56 rfl hq
   ·rfl
   refine⟨rfl,?_,?_⟩
   ·exact Ev (Ev K3.o (by have:=HLT.o;omega) K5.o HB0.o) (by have:=HLT.o;omega) (Nat.le_trans K5.o (Av (World.grownBy.refl Z (some w.heap.size)) (p:=⟨w.heap.size,0,none⟩) (.inl rfl) _).size) HB0.o
   ·exact Av (Av K4.o (.inr Ae) _) (.inr Ae) _
  |true=>
   rw[q] at c5;rw[q,if_pos rfl] at EF;clear q
   go_upto_region 5 with(go_at_call 105;refine Calls.mono c5 ?_;rintro e wv ⟨rfl,hw⟩;subst hw;clear c5)
   have K1:=I (show Blk (V.setCell ⟨g,1,none⟩ (.bool false)) P 40 _ from(Below.heap_setCell V _ _ P (fun e=>by have:=HGP.o;simp only at e;omega)).trans H1.o);have K2:=I (show Blk (V.setCell ⟨g,1,none⟩ (.bool false)) w.heap.size 40 _ from(Below.heap_setCell V _ _ w.heap.size (fun e=>by have:=HLT.o;simp only at e;omega)).trans H4.o);have K3:=I (show RC (V.setCell ⟨g,1,none⟩ (.bool false)) B g fi by rw[EF.o];exact Nq H3.o);have K4:=I (Av H5.o (p:=⟨g,1,none⟩) (.inl rfl) (.bool false));have K5:=I (show B≤(V.setCell ⟨g,1,none⟩ (.bool false)).heap.size from Nat.le_trans H6.o (Av (World.grownBy.refl V (some g)) (p:=⟨g,1,none⟩) (.inl rfl) (.bool false)).size);obtain⟨Z,eZ⟩:∃Z,Z=V.setCell ⟨g,1,none⟩ (.bool false):=⟨_,rfl⟩;rw[←eZ] at K1 K2 K3 K4 K5⊢;clear eZ k1 f1 H1 H2 H3 H4 H5 H6;have p0:Z.cell? ⟨P,0,none⟩=some (.string ⟨t1.toArray⟩):=K1.o.cell 0;have p1:Z.cell? ⟨P,1,none⟩=some (.string ⟨t2.toArray⟩):=K1.o.cell 1;have n0:Z.cell? ⟨w.heap.size,0,none⟩=some (.string ⟨#[]⟩):=K2.o.cell 0;have n1:Z.cell? ⟨w.heap.size,1,none⟩=some (.string ⟨#[]⟩):=K2.o.cell 1;have z0:=K2.o.frozen 0;have z1:=K2.o.frozen 1
   go_wp2
   have hE:Blk ((Z.setCell ⟨w.heap.size,0,none⟩ (.string ⟨t1.toArray⟩)).setCell ⟨w.heap.size,1,none⟩ (.string ⟨t2.toArray⟩)) w.heap.size 40 #[.string ⟨t1.toArray⟩,.string ⟨t2.toArray⟩]:=(K2.o.set 0 _).set 1 _;have hq:=Al (P:=Tryz.prog) hE Tryz.underlying40 rfl (by kernel_rfl);refine bodyPost_ret (v:=.agg #[.string ⟨t1.toArray⟩,.string ⟨t2.toArray⟩]) ?_ ?_ ?_
   ·exact Ag 2 40 ⟨w.heap.size,0,none⟩ Tryz.results56 rfl hq
   ·rfl
   refine⟨rfl,?_,?_⟩
   ·exact Ev (Ev K3.o (by have:=HLT.o;omega) K5.o HB0.o) (by have:=HLT.o;omega) (Nat.le_trans K5.o (Av (World.grownBy.refl Z (some w.heap.size)) (p:=⟨w.heap.size,0,none⟩) (.inl rfl) _).size) HB0.o
   ·exact Av (Av K4.o (.inr Ae) _) (.inr Ae) _
theorem Lz (c:Option L):((intC c).2.getD []).length≤(c.getD []).length:=by
 unfold intC;cases h:Ah 2 c with
 |none=>simp
 |some b=>
  simp only;cases numL b with
  |none=>simp
  |some n=>exact(Bw 2 c).2
theorem Nr (c:Option L):((prP c).2.getD []).length≤(c.getD []).length:=by
 unfold prP;simp only
 split
 ·exact(Bw 48 c).2
 ·simp
end Ms
namespace Ms
open Go.RowKit Ad DerP
def mSm (m:Mg):Prop:=(pSm m.aq.c∧pSm m.aq.s)∧(pSm m.tg.t.s∧pSm m.tg.s)∧(pSm m.re.c∧pSm m.re.t.s)∧pSm m.ap.t.s
section
variable {α:Type}
theorem FO (x:As) (f:Bool→α):(if x.c.1 = [] then if x.c.2 = [] then if x.s.1 = [] then if x.s.2 = [] then if x.t=0 then if x.no=0 then f true else f false else f false else f false else f false else f false else f false)=f (decide (x=as0)):=by
 obtain⟨⟨a,b⟩,⟨c,d⟩,t,n⟩:=x
 by_cases h1:a = []
 ·by_cases h2:b = []
  ·by_cases h3:c = []
   ·by_cases h4:d = []
    ·by_cases h5:t=0
     ·by_cases h6:n=0
      ·simp [h1,h2,h3,h4,h5,h6,as0,pr0]
      ·simp [h1,h2,h3,h4,h5,h6,as0,pr0]
     ·simp [h1,h2,h3,h4,h5,as0,pr0]
    ·simp [h1,h2,h3,h4,as0,pr0]
   ·simp [h1,h2,h3,as0,pr0]
  ·simp [h1,h2,as0,pr0]
 ·simp [h1,as0,pr0]
theorem Kh (x:Pr) (f:Bool→α):(if x.1 = [] then if x.2 = [] then f true else f false else f false)=f (decide (x=pr0)):=by
 obtain⟨a,b⟩:=x
 by_cases h1:a = []
 ·by_cases h2:b = []
  ·simp [h1,h2,pr0]
  ·simp [h1,h2,pr0]
 ·simp [h1,pr0]
theorem Ki (x:Fa) (f:Bool→α):(if x.e=0 then if x.no=0 then f true else f false else f false)=f (decide (x=fa0)):=by
 obtain⟨a,b⟩:=x
 by_cases h1:a=0
 ·by_cases h2:b=0
  ·simp [h1,h2,fa0]
  ·simp [h1,h2,fa0]
 ·simp [h1,fa0]
end
theorem Ns (x:Tg):decide (x=tg0)=(decide (x.t=tk0)&&(decide (x.a = [])&&(decide (x.s=pr0)&&(decide (x.u=0)&&decide (x.no=0))))):=by
 obtain⟨t,a,s,u,n⟩:=x;simp [tg0,Bool.decide_and]
theorem Nt (x:Re):decide (x=re0)=(decide (x.c=pr0)&&(decide (x.t=tk0)&&decide (x.b = []))):=by
 obtain⟨c,t,b⟩:=x;simp [re0,Bool.decide_and]
theorem Nu (x:Ap):decide (x=ap0)=(decide (x.t=tk0)&&decide (x.a = [])):=by
 obtain⟨t,a⟩:=x;simp [ap0,Bool.decide_and]
theorem Nv (m:Mg):mgB m=if m.k=1 then asB m.aq&&(decide (m.tg=tg0)&&(decide (m.re=re0)&&(decide (m.ap=ap0)&&decide (m.fa=fa0))))
  else if m.k=2 then tgB m.tg&&(decide (m.aq=as0)&&(decide (m.re=re0)&&(decide (m.ap=ap0)&&decide (m.fa=fa0))))
  else if m.k=3 then (prB m.re.c&&(tkB m.re.t&&Bd m.re.b))&&(decide (m.aq=as0)&&(decide (m.tg=tg0)&&(decide (m.ap=ap0)&&decide (m.fa=fa0))))
  else if m.k=4 then (tkB m.ap.t&&Bd m.ap.a)&&(decide (m.aq=as0)&&(decide (m.tg=tg0)&&(decide (m.re=re0)&&decide (m.fa=fa0))))
  else if m.k=5 then (inB m.fa.e 1 255&&tmB m.fa.no)&&(decide (m.aq=as0)&&(decide (m.tg=tg0)&&(decide (m.re=re0)&&decide (m.ap=ap0)))) else false:=by
 obtain⟨k,a,t,r,p,f⟩:=m;unfold mgB;simp only[Mg.mk.injEq,true_and,and_true]
 by_cases h1:k=1
 ·simp [h1,Bool.decide_and]
 ·rw[if_neg h1,if_neg h1]
  by_cases h2:k=2
  ·simp [h2,Bool.decide_and]
  ·rw[if_neg h2,if_neg h2]
   by_cases h3:k=3
   ·simp [h3,reB,Bool.decide_and]
   ·rw[if_neg h3,if_neg h3]
    by_cases h4:k=4
    ·simp [h4,apB,Bool.decide_and]
    ·rw[if_neg h4,if_neg h4]
     by_cases h5:k=5
     ·simp [h5,faB,Bool.decide_and]
     ·rw[if_neg h5,if_neg h5]
open DerR
theorem AJ {P:Program} {fn:Func} {tmps:Array Value} {w:World} {v u:Value} (t q:Nat) (ty:TypeId) (a:Addr) (hres:fn.results=#[.cell t ty,.tmp q]) (ht:tmps.getD t undef = .pointer (some a)) (hl:(loadVar ty a).run P w = .ok v w) (hq:tmps.getD q undef=u) :
  (results fn tmps).run P w = .ok (.tuple #[v,u]) w:=by
 have ht':tmps[t]?.getD undef = .pointer (some a):=by simpa using ht
 have hq':tmps[q]?.getD undef=u:=by simpa using hq
 simp [results,hres,ht',hq',asAddr,hl]
end Ms
end Go.Proofs.YtlfmicidppccnaaGreat
