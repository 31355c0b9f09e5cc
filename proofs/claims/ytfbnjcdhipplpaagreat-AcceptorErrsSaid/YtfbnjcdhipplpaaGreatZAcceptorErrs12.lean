import Derived.Test.YtfbnjcdhipplpaaGreatZAcceptorErrs11
set_option maxHeartbeats 25600000
set_option maxRecDepth 100000
set_option linter.unusedVariables false
set_option linter.unusedSimpArgs false
namespace Go.Proofs.YtfbnjcdhipplpaaGreat
namespace Ms
open Go.RowKit Af DerP
abbrev prV (p:Pr):Value:=.agg #[.string ⟨p.1.toArray⟩,.string ⟨p.2.toArray⟩]
def SlB (w:World) (B:Nat) (v:Value) (l:L):Prop:=∃A c,v=.slice A l.length c/\l.length<=c/\Rd w B A (bvs l)
theorem SlB.keep {w w':World} {B:Nat} {v:Value} {l:L} (h:SlB w B v l) (Z:Below B w w'):SlB w' B v l:=by
 obtain⟨A,c,O,M,h3⟩:=h;exact⟨A,c,O,M,h3.below Z⟩
theorem SlB.more {w:World} {B B':Nat} {v:Value} {l:L} (h:SlB w B v l) (hB:B<=B'):SlB w B' v l:=by
 obtain⟨A,c,O,M,Z⟩:=h;exact⟨A,c,O,M,Z.more hB⟩
theorem SlB.nil (w:World) (B:Nat):SlB w B (.slice none 0 0) []:=⟨none,0,rfl,Nat.le_refl _,.inl rfl⟩
def prC (p:Pr):List Value:=[.string ⟨p.1.toArray⟩,.string ⟨p.2.toArray⟩]
def tkC (t:Tk) (b:Value):List Value:=[.string ⟨t.s.1.toArray⟩,.string ⟨t.s.2.toArray⟩,.int .i64 t.k,b]
def asC (q:As):List Value:=[.string ⟨q.c.1.toArray⟩,.string ⟨q.c.2.toArray⟩,.string ⟨q.s.1.toArray⟩,.string ⟨q.s.2.toArray⟩,.int .i64 q.t,.int .i64 q.no]
def tgC (q:Tg) (b a:Value):List Value:=tkC q.t b++[a,.string ⟨q.s.1.toArray⟩,.string ⟨q.s.2.toArray⟩,.int .i64 q.u,.int .i64 q.no]
def reC (q:Re) (b d:Value):List Value:=prC q.c++(tkC q.t b++[d])
def apC (q:Ap) (b a:Value):List Value:=tkC q.t b++[a]
def faC (q:Fa):List Value:=[.int .i64 q.e,.int .i64 q.no]
def anC (a:An):List Value:=prC a.c++[.int .i64 a.t,.int .i64 a.q]
def ptC (p:Pt):List Value:=prC p.c++(bvs p.ss++[.string ⟨p.tr.toArray⟩,.int .i64 p.st,.int .i64 p.en])
structure Six where
 b1:Value
 a1:Value
 b2:Value
 d2:Value
 b3:Value
 a3:Value
structure SixR (w:World) (B:Nat) (m:Mg) (s:Six):Prop where
 b1:SlB w B s.b1 m.tg.t.b
 a1:SlB w B s.a1 m.tg.a
 b2:SlB w B s.b2 m.re.t.b
 d2:SlB w B s.d2 m.re.b
 b3:SlB w B s.b3 m.ap.t.b
 a3:SlB w B s.a3 m.ap.a
theorem SixR.keep {w w':World} {B:Nat} {m:Mg} {s:Six} (h:SixR w B m s) (M:Below B w w'):SixR w' B m s:=⟨h.b1.keep M,h.a1.keep M,h.b2.keep M,h.d2.keep M,h.b3.keep M,h.a3.keep M⟩
theorem Bh {w w':World} {A:Option Addr} {l:L} (h:Rd w w.heap.size A (bvs l)) (M:Below w.heap.size w w'):Rd w' w'.heap.size A (bvs l):=(h.below M).more M.size
section
variable {w:World} {t:TypeId} {A1 A2 A3 A4 A5:Option Addr} {l1 l2 l3 l4 l5:L} {c1 c2 c3 c4 c5:Nat}
theorem JE (O:Rd w w.heap.size A1 (bvs l1)) (M:Rd w w.heap.size A2 (bvs l2)) :
  DerW.Rds (w.alloc (.cells #[.slice A1 l1.length c1,.slice A2 l2.length c2] t)) (w.heap.size+1) (some ⟨w.heap.size,0,none⟩) [l1,l2]:=by
 refine .inr ⟨w.heap.size,0,rfl,by omega,fun i l hi=>?_⟩
 match i,hi with
 |0,hi=>injection hi with hi;subst hi;exact⟨A1,c1,(Blk.new w t _).cell 0,(O.alloc Ag _).more (by omega)⟩
 |1,hi=>injection hi with hi;subst hi;exact⟨A2,c2,(Blk.new w t _).cell 1,(M.alloc Ag _).more (by omega)⟩
 |i+2,hi=>rw[List.getElem?_eq_none (by simp)] at hi;cases hi
theorem FE (Z:Rd w w.heap.size A1 (bvs l1)) (O:Rd w w.heap.size A2 (bvs l2)) (M:Rd w w.heap.size A3 (bvs l3)) :
  DerW.Rds (w.alloc (.cells #[.slice A1 l1.length c1,.slice A2 l2.length c2,.slice A3 l3.length c3] t)) (w.heap.size+1) (some ⟨w.heap.size,0,none⟩) [l1,l2,l3]:=by
 refine .inr ⟨w.heap.size,0,rfl,by omega,fun i l hi=>?_⟩
 match i,hi with
 |0,hi=>injection hi with hi;subst hi;exact⟨A1,c1,(Blk.new w t _).cell 0,(Z.alloc Ag _).more (by omega)⟩
 |1,hi=>injection hi with hi;subst hi;exact⟨A2,c2,(Blk.new w t _).cell 1,(O.alloc Ag _).more (by omega)⟩
 |2,hi=>injection hi with hi;subst hi;exact⟨A3,c3,(Blk.new w t _).cell 2,(M.alloc Ag _).more (by omega)⟩
 |i+3,hi=>rw[List.getElem?_eq_none (by simp)] at hi;cases hi
theorem Wu (Z:Rd w w.heap.size A1 (bvs l1)) (O:Rd w w.heap.size A2 (bvs l2)) (M:Rd w w.heap.size A3 (bvs l3)) (h4:Rd w w.heap.size A4 (bvs l4)) :
  DerW.Rds (w.alloc (.cells #[.slice A1 l1.length c1,.slice A2 l2.length c2,.slice A3 l3.length c3,.slice A4 l4.length c4] t)) (w.heap.size+1) (some ⟨w.heap.size,0,none⟩) [l1,l2,l3,l4]:=by
 refine .inr ⟨w.heap.size,0,rfl,by omega,fun i l hi=>?_⟩
 match i,hi with
 |0,hi=>injection hi with hi;subst hi;exact⟨A1,c1,(Blk.new w t _).cell 0,(Z.alloc Ag _).more (by omega)⟩
 |1,hi=>injection hi with hi;subst hi;exact⟨A2,c2,(Blk.new w t _).cell 1,(O.alloc Ag _).more (by omega)⟩
 |2,hi=>injection hi with hi;subst hi;exact⟨A3,c3,(Blk.new w t _).cell 2,(M.alloc Ag _).more (by omega)⟩
 |3,hi=>injection hi with hi;subst hi;exact⟨A4,c4,(Blk.new w t _).cell 3,(h4.alloc Ag _).more (by omega)⟩
 |i+4,hi=>rw[List.getElem?_eq_none (by simp)] at hi;cases hi
theorem Lj (Z:Rd w w.heap.size A1 (bvs l1)) (O:Rd w w.heap.size A2 (bvs l2)) (h3:Rd w w.heap.size A3 (bvs l3)) (M:Rd w w.heap.size A4 (bvs l4)) (h5:Rd w w.heap.size A5 (bvs l5)) :
  DerW.Rds (w.alloc (.cells #[.slice A1 l1.length c1,.slice A2 l2.length c2,.slice A3 l3.length c3,.slice A4 l4.length c4,.slice A5 l5.length c5] t)) (w.heap.size+1) (some ⟨w.heap.size,0,none⟩) [l1,l2,l3,l4,l5]:=by
 refine .inr ⟨w.heap.size,0,rfl,by omega,fun i l hi=>?_⟩
 match i,hi with
 |0,hi=>injection hi with hi;subst hi;exact⟨A1,c1,(Blk.new w t _).cell 0,(Z.alloc Ag _).more (by omega)⟩
 |1,hi=>injection hi with hi;subst hi;exact⟨A2,c2,(Blk.new w t _).cell 1,(O.alloc Ag _).more (by omega)⟩
 |2,hi=>injection hi with hi;subst hi;exact⟨A3,c3,(Blk.new w t _).cell 2,(h3.alloc Ag _).more (by omega)⟩
 |3,hi=>injection hi with hi;subst hi;exact⟨A4,c4,(Blk.new w t _).cell 3,(M.alloc Ag _).more (by omega)⟩
 |4,hi=>injection hi with hi;subst hi;exact⟨A5,c5,(Blk.new w t _).cell 4,(h5.alloc Ag _).more (by omega)⟩
 |i+5,hi=>rw[List.getElem?_eq_none (by simp)] at hi;cases hi
end
theorem Ol (n a b:Int) (w:World):Calls Tryz.prog 105 #[.int .i64 n,.int .i64 a,.int .i64 b] w fun e w'=>e=.returned (.bool (inB n a b))/\w=w':=by
 cases h1:decide (a<=n) with
 |false=>
  go_enter Tryz.func105,Tryz.ntmps105
  go_wp2
  go_ret;exact⟨by rw[inB,h1];rfl,rfl⟩
 |true=>
  go_enter Tryz.func105,Tryz.ntmps105
  go_wp2
  go_ret;exact⟨by rw[inB,h1];rfl,rfl⟩
theorem Ll (n:Int) (w:World):Calls Tryz.prog 105 #[.int .i64 n,.int .i64 0,.int .i64 1073741824] w fun e w'=>e=.returned (.bool (tmB n))/\w=w':=Ol n 0 1073741824 w
theorem TR (b:L):inB (b.length:Int) 1 800=BQ b:=by
 rw[inB,BQ];have O:decide ((1:Int)<=(b.length:Int))=decide (1<=b.length):=by rw[decide_eq_decide];omega
 have M:decide ((b.length:Int)<=800)=decide (b.length<=800):=by rw[decide_eq_decide];omega
 rw[O,M]
theorem MI (b:L) (A:Option Addr) (c:Nat) (w:World):Calls Tryz.prog 104 #[.slice A b.length c] w fun e w'=>e=.returned (.bool (BQ b))/\w=w':=by
 have c1:=Ol (b.length:Int) 1 800 w;rw[TR] at c1;go_enter Tryz.func104,Tryz.ntmps104
 go_wp2_with (go_at_call 105;refine Aj c1 ?_;rintro w1 rfl)
 go_ret;exact⟨rfl,rfl⟩
theorem QM (l:L) (A:Option Addr) (n c:Nat) (w:World) (M:n=l.length):Calls Tryz.prog 55 #[.slice A n c] w fun e w'=>e=.returned (.tuple (if l.length<=2000 then #[.slice A n c,.int .i64 0] else #[.slice none 0 0,.int .i64 1]))/\w=w':=by
 subst M
 by_cases h:l.length<=2000
 ·rw[if_pos h]
  have O:decide ((2000:Int)<(l.length:Int))=false:=decide_eq_false (by omega);clear h;go_enter Tryz.func55,Tryz.ntmps55
  go_wp2
  go_ret2
  exact⟨rfl,rfl⟩
 ·rw[if_neg h]
  have O:decide ((2000:Int)<(l.length:Int))=true:=decide_eq_true (by omega);clear h;go_enter Tryz.func55,Tryz.ntmps55
  go_wp2
  go_ret2
  exact⟨rfl,rfl⟩
theorem AV (p:Pr) (w:World) (M:p.1.length<=1000000000) (O:p.2.length<=1000000000):Calls Tryz.prog 28 #[prV p] w fun e w'=>e=.returned (.bool (prB p))/\Below w.heap.size w w':=Nm.DZ p.1 p.2 w M O
def pSm (p:Pr):Prop:=p.1.length<=1000000000/\p.2.length<=1000000000
theorem Om (t:Tk) (A:Option Addr) (c:Nat) (w:World) (hs:pSm t.s):Calls Tryz.prog 103 #[.agg #[.string ⟨t.s.1.toArray⟩,.string ⟨t.s.2.toArray⟩,.int .i64 t.k,.slice A t.b.length c]] w fun e w'=>e=.returned (.bool (tkB t))/\Below w.heap.size w w':=by
 have av:=(Below.refl w.heap.size w).alloc Ag (.cells #[.string ⟨t.s.1.toArray⟩,.string ⟨t.s.2.toArray⟩,.int .i64 t.k,.slice A t.b.length c] 83);have O:=I av;have Z:=I (Blk.new w 83 #[.string ⟨t.s.1.toArray⟩,.string ⟨t.s.2.toArray⟩,.int .i64 t.k,.slice A t.b.length c]);have c1:=AV t.s (w.alloc (.cells #[.string ⟨t.s.1.toArray⟩,.string ⟨t.s.2.toArray⟩,.int .i64 t.k,.slice A t.b.length c] 83)) hs.1 hs.2;have C2:=I (fun w1=>Ol t.k 1 255 w1);have C3:=I (fun w1=>MI t.b A c w1);unfold prV at c1;clear av;cases h1:prB t.s with
 |false=>
  rw[h1] at c1;have E:=I (show tkB t=false by rw[tkB,h1];rfl);clear h1;go_enter Tryz.func103,Tryz.ntmps103
  go_wp2_with (go_at_call 28;refine Aj c1 ?_;rintro w1 M;replace O:=O.t M;clear M c1)
  go_ret;exact⟨by rw[E.o];rfl,O.o⟩
 |true=>
  rw[h1] at c1;cases h2:inB t.k 1 255 with
  |false=>
   rw[h2] at C2;have E:=I (show tkB t=false by rw[tkB,h1,h2];rfl);clear h1 h2;go_enter Tryz.func103,Tryz.ntmps103
   go_wp2_with (first
    |(go_at_call 28;refine Aj c1 ?_;rintro w1 M;replace Z:=I (Z.o.below M);replace O:=O.t M;clear M c1;have k2:=Z.o.cell 2;simp only[List.getElem?_toArray,List.getElem?_cons_zero,List.getElem?_cons_succ] at k2)
    |(go_at_call 105;refine Aj (C2.o _) ?_;rintro w2 rfl))
   go_ret;exact⟨by rw[E.o];rfl,O.o⟩
  |true=>
   rw[h2] at C2;have E:=I (show tkB t=BQ t.b by rw[tkB,h1,h2];rfl);clear h1 h2;go_enter Tryz.func103,Tryz.ntmps103
   go_wp2_with (first
    |(go_at_call 28;refine Aj c1 ?_;rintro w1 M;replace Z:=I (Z.o.below M);replace O:=O.t M;clear M c1;have k2:=Z.o.cell 2;have k3:=Z.o.cell 3;simp only[List.getElem?_toArray,List.getElem?_cons_zero,List.getElem?_cons_succ] at k2 k3)
    |(go_at_call 105;refine Aj (C2.o _) ?_;rintro w2 rfl)
    |(go_at_call 104;refine Aj (C3.o _) ?_;rintro w3 rfl))
   go_ret;exact⟨by rw[E.o];rfl,O.o⟩
open DerR
theorem Bg {w0 w:World} {l:L} {e:Ending} {w':World} (h:BY w l e w') (M:Below w0.heap.size w0 w):BY w0 l e w':=by
 obtain⟨⟨g,c,h1,Z,h3,O⟩,h5⟩:=h;exact⟨⟨g,c,h1,Nat.le_trans M.size Z,h3,O⟩,M.trans (h5.mono M.size)⟩
theorem Ig (p:Pr) (w:World) (hs:p.1.length<=20000) (ck:p.2.length<=20000):Calls Tryz.prog 57 #[.agg #[.string ⟨p.1.toArray⟩,.string ⟨p.2.toArray⟩]] w (BY w (prE p)):=by
 have bb:=(Below.refl w.heap.size w).alloc Ag (.cells #[.string ⟨p.1.toArray⟩,.string ⟨p.2.toArray⟩] 27);have Z:=I bb;have M:=I (Blk.new w 27 #[.string ⟨p.1.toArray⟩,.string ⟨p.2.toArray⟩]);have T1:=I (fun w1=>DerR.Ez p.1 w1 (by omega));have T2:=I (fun w1=>DerR.Ez p.2 w1 (by omega));have e1:=AE 27 p.1;have e2:=AE 27 p.2;have HL:=I (show [elem 27 p.1,elem 27 p.2].flatten.length<=65535 by rw[Dk,List.length_append];omega);have HE:=I (show prE p=elem 48 [elem 27 p.1,elem 27 p.2].flatten from rfl);obtain⟨l1,bq⟩:∃l,l=elem 27 p.1:=⟨_,rfl⟩;obtain⟨l2,cb⟩:∃l,l=elem 27 p.2:=⟨_,rfl⟩;rw[<-bq] at T1 HL HE;rw[<-cb] at T2 HL HE;rw[HE.o,Dk];clear bb e1 e2 hs ck bq cb HE;go_enter Tryz.func57,Tryz.ntmps57
 go_wp2
 obtain⟨W,eW⟩:=Ak (w.alloc (.cells #[.string ⟨p.1.toArray⟩,.string ⟨p.2.toArray⟩] 27));rw[<-eW] at Z M⊢;clear eW;replace M:=I (show Blk W.drew _ _ _ from M.o.drewN 1);replace Z:=I (show Below _ _ W.drew from below_drewN Z.o 1)
 go_region_held3 (fun w'=>w'.cell? ⟨w.heap.size,0,none⟩=some (.string ⟨p.1.toArray⟩)/\w'.cell? ⟨w.heap.size,1,none⟩=some (.string ⟨p.2.toArray⟩)) (first | exact⟨M.o.cell 0,M.o.cell 1⟩ | exact⟨(M.o.alloc _).cell 0,(M.o.alloc _).cell 1⟩) ((first
  |(go_at_call 80;(with_reducible refine Calls.mono (T1.o _) ?_);rintro e w1 ⟨⟨g1,c1,rfl,cf,cj,aw⟩,O⟩;clear T1;have av:=I aw;replace M:=I (M.o.below O);replace Z:=Z.t O;clear O aw cf cj)
  |(go_at_call 80;(with_reducible refine Calls.mono (T2.o _) ?_);rintro e w2 ⟨⟨g2,c2,rfl,cc,cd,ca⟩,O⟩;clear T2;replace av:=I (Bh av.o O);have cg:=I ca;replace M:=I (M.o.below O);replace Z:=Z.t O;clear O ca cc cd)
  |(go_at_call 56;refine Calls.mono (Dt 48 [l1,l2] _ 2 2 (w2.heap.size+1) _ (JE av.o cg.o) rfl (by simp) HL.o (by simp)) ?_;rintro e wz ⟨⟨gz,cz,rfl,bx,bB,bz⟩,O⟩;have bn:=(Below.refl w2.heap.size w2).alloc Ag (.cells #[.slice (some ⟨g1,0,none⟩) l1.length c1,.slice (some ⟨g2,0,none⟩) l2.length c2] 34);have HG:=I (Bg (l:=elem 48 [l1,l2].flatten) ⟨⟨gz,cz,rfl,bx,bB,bz⟩,O⟩ (Z.o.trans (bn.mono Z.o.size)));rw[Dk] at HG;replace M:=I ((M.o.alloc (.cells #[.slice (some ⟨g1,0,none⟩) l1.length c1,.slice (some ⟨g2,0,none⟩) l2.length c2] 34)).below O);clear bn bx bB bz O)))
 go_wp2
 go_ret;exact HG.o
theorem TS (t:Tk) (A:Option Addr) (c B:Nat) (w:World) (hs:t.s.1.length<=10000) (ct:t.s.2.length<=10000) (ck:t.b.length<=20000) (hr:Rd w B A (bvs t.b)) (hB:B<=w.heap.size) :
  Calls Tryz.prog 59 #[.agg #[.string ⟨t.s.1.toArray⟩,.string ⟨t.s.2.toArray⟩,.int .i64 t.k,.slice A t.b.length c]] w (BY w (tkE t)):=by
 have bb:=(Below.refl w.heap.size w).alloc Ag (.cells #[.string ⟨t.s.1.toArray⟩,.string ⟨t.s.2.toArray⟩,.int .i64 t.k,.slice A t.b.length c] 83);have Z:=I bb;have M:=I (Blk.new w 83 #[.string ⟨t.s.1.toArray⟩,.string ⟨t.s.2.toArray⟩,.int .i64 t.k,.slice A t.b.length c]);have T1:=I (fun w1=>Ig t.s w1 (by omega) (by omega));have T2:=I (fun w1=>DerR.BO t.k w1);have T3:=I (fun w1 (h:Below w.heap.size w w1)=>DerR.Dj t.b A t.b.length c w1.heap.size w1 (((hr.more hB).below h).more h.size) rfl Ag (by omega));have e0:=AE 48 [elem 27 t.s.1,elem 27 t.s.2].flatten;have e1:=AE 27 t.s.1;have e2:=AE 27 t.s.2;have e3:=AM t.k;have e4:=AE 4 t.b;rw[Dk,List.length_append] at e0;have HL:=I (show [prE t.s,encI t.k,elem 4 t.b].flatten.length<=65535 by rw[DN,List.length_append,List.length_append,prE,Dk];omega);have HE:=I (show tkE t=elem 97 [prE t.s,encI t.k,elem 4 t.b].flatten from rfl);obtain⟨l1,bx⟩:∃l,l=prE t.s:=⟨_,rfl⟩;obtain⟨l2,cf⟩:∃l,l=encI t.k:=⟨_,rfl⟩;obtain⟨l3,bq⟩:∃l,l=elem 4 t.b:=⟨_,rfl⟩;rw[<-bx] at T1 HL HE;rw[<-cf] at T2 HL HE;rw[<-bq] at T3 HL HE;rw[HE.o,DN];clear bb e0 e1 e2 e3 e4 hs ct ck hr bx cf bq HE;go_enter Tryz.func59,Tryz.ntmps59
 go_wp2
 obtain⟨W,eW⟩:=Ak (w.alloc (.cells #[.string ⟨t.s.1.toArray⟩,.string ⟨t.s.2.toArray⟩,.int .i64 t.k,.slice A t.b.length c] 83));rw[<-eW] at Z M⊢;clear eW;replace M:=I (show Blk W.drew _ _ _ from M.o.drewN 1);replace Z:=I (show Below _ _ W.drew from below_drewN Z.o 1)
 go_region_held3 (fun w'=>w'.cell? ⟨w.heap.size,0,none⟩=some (.string ⟨t.s.1.toArray⟩)/\w'.cell? ⟨w.heap.size,1,none⟩=some (.string ⟨t.s.2.toArray⟩)/\w'.cell? ⟨w.heap.size,2,none⟩=some (.int .i64 t.k)/\w'.cell? ⟨w.heap.size,3,none⟩=some (.slice A t.b.length c)) (first | exact⟨M.o.cell 0,M.o.cell 1,M.o.cell 2,M.o.cell 3⟩ | exact⟨(M.o.alloc _).cell 0,(M.o.alloc _).cell 1,(M.o.alloc _).cell 2,(M.o.alloc _).cell 3⟩) ((first
  |(go_at_call 57;(with_reducible refine Calls.mono (T1.o _) ?_);rintro e w1 ⟨⟨g1,c1,rfl,cp,cr,ca⟩,O⟩;clear T1;have av:=I ca;replace M:=I (M.o.below O);replace Z:=Z.t O;clear O ca cp cr)
  |(go_at_call 58;(with_reducible refine Calls.mono (T2.o _) ?_);rintro e w2 ⟨⟨g2,c2,rfl,cm,cj,cd⟩,O⟩;clear T2;replace av:=I (Bh av.o O);have aw:=I cd;replace M:=I (M.o.below O);replace Z:=Z.t O;clear O cd cm cj)
  |(go_at_call 60;(with_reducible refine Calls.mono (T3.o _ Z.o) ?_);rintro e w3 ⟨⟨g3,c3,rfl,cq,cg,bz⟩,O⟩;clear T3;replace av:=I (Bh av.o O);replace aw:=I (Bh aw.o O);have cn:=I bz;replace M:=I (M.o.below O);replace Z:=Z.t O;clear O bz cq cg)
  |(go_at_call 56;refine Calls.mono (Dt 97 [l1,l2,l3] _ 3 3 (w3.heap.size+1) _ (FE av.o aw.o cn.o) rfl (by simp) HL.o (by simp)) ?_;rintro e wz ⟨⟨gz,cz,rfl,cb,cc,bB⟩,O⟩;have bn:=(Below.refl w3.heap.size w3).alloc Ag (.cells #[.slice (some ⟨g1,0,none⟩) l1.length c1,.slice (some ⟨g2,0,none⟩) l2.length c2,.slice (some ⟨g3,0,none⟩) l3.length c3] 34);have HG:=I (Bg (l:=elem 97 [l1,l2,l3].flatten) ⟨⟨gz,cz,rfl,cb,cc,bB⟩,O⟩ (Z.o.trans (bn.mono Z.o.size)));rw[DN] at HG;replace M:=I ((M.o.alloc (.cells #[.slice (some ⟨g1,0,none⟩) l1.length c1,.slice (some ⟨g2,0,none⟩) l2.length c2,.slice (some ⟨g3,0,none⟩) l3.length c3] 34)).below O);clear bn cb cc bB O)))
 go_wp2
 go_ret;exact HG.o
end Ms
namespace Ms
open Go.RowKit Af DerP
theorem MJ (a:An) (w:World) (hs:pSm a.c):Calls Tryz.prog 81 #[.agg #[.string ⟨a.c.1.toArray⟩,.string ⟨a.c.2.toArray⟩,.int .i64 a.t,.int .i64 a.q]] w fun e w'=>e=.returned (.bool (anB a))/\Below w.heap.size w w':=by
 have av:=(Below.refl w.heap.size w).alloc Ag (.cells #[.string ⟨a.c.1.toArray⟩,.string ⟨a.c.2.toArray⟩,.int .i64 a.t,.int .i64 a.q] 33);have Z:=I av;have M:=I (Blk.new w 33 #[.string ⟨a.c.1.toArray⟩,.string ⟨a.c.2.toArray⟩,.int .i64 a.t,.int .i64 a.q]);clear av;have T1:=I (fun w1=>AV a.c w1 hs.1 hs.2);have T2:=I (fun w1=>Ll a.t w1);have T3:=I (fun w1=>Ll a.q w1);cases h1:prB a.c with
 |false=>
  rw[h1] at T1;have E:=I (show anB a=false by rw[anB,h1];rfl);clear h1;go_enter Tryz.func81,Tryz.ntmps81
  go_wp2_with (go_at_call 28;(with_reducible refine Calls.mono (T1.o _) ?_);rintro e w1 ⟨rfl,O⟩;replace M:=I (M.o.below O);replace Z:=Z.t O;clear O T1;(try clear k0 k1 k2 k3);have k0:=M.o.cell 0;have k1:=M.o.cell 1;have k2:=M.o.cell 2;have k3:=M.o.cell 3;simp only[List.getElem?_toArray,List.getElem?_cons_zero,List.getElem?_cons_succ] at k0 k1 k2 k3)
  go_ret;exact⟨by rw[E.o];rfl,Z.o⟩
 |true=>
  rw[h1] at T1;cases h2:tmB a.t with
  |false=>
   rw[h2] at T2;have E:=I (show anB a=false by rw[anB,h1,h2];rfl);clear h1 h2;go_enter Tryz.func81,Tryz.ntmps81
   go_wp2_with (first
    |(go_at_call 28;(with_reducible refine Calls.mono (T1.o _) ?_);rintro e w1 ⟨rfl,O⟩;replace M:=I (M.o.below O);replace Z:=Z.t O;clear O T1;(try clear k0 k1 k2 k3);have k0:=M.o.cell 0;have k1:=M.o.cell 1;have k2:=M.o.cell 2;have k3:=M.o.cell 3;simp only[List.getElem?_toArray,List.getElem?_cons_zero,List.getElem?_cons_succ] at k0 k1 k2 k3)
    |(go_at_call 105;(with_reducible refine Calls.mono (T2.o _) ?_);rintro e w2 ⟨rfl,hw⟩;subst hw;clear T2))
   go_ret;exact⟨by rw[E.o];rfl,Z.o⟩
  |true=>
   rw[h2] at T2;have E:=I (show anB a=tmB a.q by rw[anB,h1,h2];rfl);clear h1 h2;go_enter Tryz.func81,Tryz.ntmps81
   go_wp2_with (first
    |(go_at_call 28;(with_reducible refine Calls.mono (T1.o _) ?_);rintro e w1 ⟨rfl,O⟩;replace M:=I (M.o.below O);replace Z:=Z.t O;clear O T1;(try clear k0 k1 k2 k3);have k0:=M.o.cell 0;have k1:=M.o.cell 1;have k2:=M.o.cell 2;have k3:=M.o.cell 3;simp only[List.getElem?_toArray,List.getElem?_cons_zero,List.getElem?_cons_succ] at k0 k1 k2 k3)
    |(go_at_call 105;(with_reducible refine Calls.mono (T2.o _) ?_);rintro e w2 ⟨rfl,hw⟩;subst hw;clear T2)
    |(go_at_call 105;(with_reducible refine Calls.mono (T3.o _) ?_);rintro e w3 ⟨rfl,hw⟩;subst hw;clear T3))
   go_ret;exact⟨by rw[E.o];rfl,Z.o⟩
open DerR
def EncR (w:World) (o:Option L) (e:Ending) (w':World):Prop:=
 (∃v i,e=.returned (.tuple #[v,.int .i64 i])/\(o=none->v=.slice none 0 0/\i=1)/\∀l,o=some l->i=0/\∃g c,v=.slice (some ⟨g,0,none⟩) l.length c/\w.heap.size<=g/\l.length<=c/\Rd w' w'.heap.size (some ⟨g,0,none⟩) (bvs l))/\Below w.heap.size w w'
theorem Ad {w:World} {g:Nat} {t:TypeId} {cs:Array Value} (h:Blk w g t cs):w.rangeAt g 0 cs.toList:=fun j v M=>by
 rw[Nat.zero_add,h.cell];simpa using M
theorem Am {P:Program} {ops:Array Oper} {rest:List Oper} {op:Oper} {a:Act} {w:World} {Q:Exit->Act->World->Prop} (M:op.guard=none) (ty:TypeId) (x:Operand) (O:op.op=.load ty x)
  (g o:Nat) (hx:a.eval x=.pointer (some ⟨g,o,none⟩)) (cs:Array Value) (d:TypeDesc) (hc:w.rangeAt g o cs.toList)
  (hu:P.underlying ty=some d) (Z:d.isRow=true) (hi:(P.info? ty).map (·.size)=some cs.size)
  (h:wpList P ops Q rest (a.put op.dst (.agg cs)) w):wpList P ops Q (op :: rest) a w:=
 wpList_load_mid M ty x O g o hx cs.toList d hc hu Z (by rw[Array.length_toList];exact hi) (by simpa using h)
theorem JF (l:L) (A:Option Addr) (n c:Nat) (w:World) (M:n=l.length) (h:l.length<=2000):Calls Tryz.prog 55 #[.slice A n c] w fun e w'=>e=.returned (.tuple #[.slice A n c,.int .i64 0])/\w=w':=by
 have:=QM l A n c w M
 rwa [if_pos h] at this
theorem FW {w w':World} (h:Below w.heap.size w w'):EncR w none (.returned (.tuple #[.slice none 0 0,.int .i64 1])) w':=
 ⟨⟨_,_,rfl,(fun _=>⟨rfl,rfl⟩),(fun l e=>by cases e)⟩,h⟩
theorem FX {w w':World} {l:L} {g c:Nat} (h:BY w l (.returned (.slice (some ⟨g,0,none⟩) l.length c)) w'):EncR w (some l) (.returned (.tuple #[.slice (some ⟨g,0,none⟩) l.length c,.int .i64 0])) w':=by
 obtain⟨⟨g',c',M,Z,h3,O⟩,h5⟩:=h;injection M with M;injection M with M h6 h7;injection M with M;injection M with M;subst M;subst h7;exact⟨⟨_,_,rfl,(fun e=>by cases e),(fun l' e=>by injection e with e;subst e;exact⟨rfl,g,c,rfl,Z,h3,O⟩)⟩,h5⟩
theorem Lm (a:An) (w:World) (hs:pSm a.c):Calls Tryz.prog 40 #[.agg #[.string ⟨a.c.1.toArray⟩,.string ⟨a.c.2.toArray⟩,.int .i64 a.t,.int .i64 a.q]] w (EncR w (anO a)):=by
 have bb:=(Below.refl w.heap.size w).alloc Ag (.cells #[.string ⟨a.c.1.toArray⟩,.string ⟨a.c.2.toArray⟩,.int .i64 a.t,.int .i64 a.q] 33);have Z:=I bb;have O:=I (Blk.new w 33 #[.string ⟨a.c.1.toArray⟩,.string ⟨a.c.2.toArray⟩,.int .i64 a.t,.int .i64 a.q]);have I1:=I (fun w1=>MJ a w1 hs);clear bb;cases hx:anB a with
 |false=>
  rw[hx] at I1;have E:=I (show anO a=none by unfold anO limO;rw[hx];rfl);rw[E.o];clear hx E;go_enter Tryz.func40,Tryz.ntmps40
  go_wp2_with (go_at_call 81;refine Aj (I1.o _) ?_;rintro w1 M;replace Z:=Z.t M;clear M I1)
  go_ret2
  exact FW Z.o
 |true=>
  rw[hx] at I1;have hp:prB a.c=true:=(show prB a.c=true/\tmB a.t=true/\tmB a.q=true by simpa [anB] using hx).1;have cp:=GU hp;have cn:=(AX hp).1;have e1:=AM a.t;have e2:=AM a.q;have T1:=I (fun w1=>Ig a.c w1 (by omega) (by omega));have T2:=I (fun w1=>DerR.BO a.t w1);have T3:=I (fun w1=>DerR.BO a.q w1);have hl:[prE a.c,encI a.t,encI a.q].flatten.length<=1900:=by rw[DN];simp only[List.length_append];omega
  have HL:=I (show [prE a.c,encI a.t,encI a.q].flatten.length<=65535 by omega);have hE:=AE 98 [prE a.c,encI a.t,encI a.q].flatten;have E:=I (show anO a=some (elem 98 [prE a.c,encI a.t,encI a.q].flatten) from BS.2 ⟨hx,by show(elem 98 [prE a.c,encI a.t,encI a.q].flatten).length<=2000;omega,rfl⟩);rw[E.o];rw[DN] at hE hl⊢;obtain⟨l1,bx⟩:∃l,l=prE a.c:=⟨_,rfl⟩;obtain⟨l2,cg⟩:∃l,l=encI a.t:=⟨_,rfl⟩;obtain⟨l3,bq⟩:∃l,l=encI a.q:=⟨_,rfl⟩;rw[<-bx] at T1 HL hE hl⊢;rw[<-cg] at T2 HL hE hl⊢;rw[<-bq] at T3 HL hE hl⊢;have cb:(elem 98 (l1++(l2++l3))).length<=2000:=by omega
  have LM:=I (fun A c w1=>JF (elem 98 (l1++(l2++l3))) A _ c w1 rfl cb);clear hx E hE hl cb bx cg bq hp cp cn e1 e2 hs;go_enter Tryz.func40,Tryz.ntmps40
  go_wp2_with (go_at_call 81;refine Aj (I1.o _) ?_;rintro w0 M;replace O:=I (O.o.below M);replace Z:=Z.t M;clear M I1)
  replace O:=I (show Blk w0.drew _ _ _ from O.o.drewN 1);replace Z:=I (show Below _ _ w0.drew from below_drewN Z.o 1)
  go_region_held3 (fun w'=>w'.cell? ⟨w.heap.size,0,none⟩=some (.string ⟨a.c.1.toArray⟩)/\w'.cell? ⟨w.heap.size,1,none⟩=some (.string ⟨a.c.2.toArray⟩)/\w'.cell? ⟨w.heap.size,2,none⟩=some (.int .i64 a.t)/\w'.cell? ⟨w.heap.size,3,none⟩=some (.int .i64 a.q)) (first | exact⟨O.o.cell 0,O.o.cell 1,O.o.cell 2,O.o.cell 3⟩ | exact⟨(O.o.alloc _).cell 0,(O.o.alloc _).cell 1,(O.o.alloc _).cell 2,(O.o.alloc _).cell 3⟩) ((first
   |(go_at_call 57;(with_reducible refine Calls.mono (T1.o _) ?_);rintro e w1 ⟨⟨g1,c1,rfl,cr,cu,ca⟩,M⟩;clear T1;have av:=I ca;replace O:=I (O.o.below M);replace Z:=Z.t M;clear M ca cr cu)
   |(go_at_call 58;(with_reducible refine Calls.mono (T2.o _) ?_);rintro e w2 ⟨⟨g2,c2,rfl,cm,ck,cf⟩,M⟩;clear T2;replace av:=I (Bh av.o M);have aw:=I cf;replace O:=I (O.o.below M);replace Z:=Z.t M;clear M cf cm ck)
   |(go_at_call 58;(with_reducible refine Calls.mono (T3.o _) ?_);rintro e w3 ⟨⟨g3,c3,rfl,ct,cj,bz⟩,M⟩;clear T3;replace av:=I (Bh av.o M);replace aw:=I (Bh aw.o M);have cq:=I bz;replace O:=I (O.o.below M);replace Z:=Z.t M;clear M bz ct cj)
   |(go_at_call 56;refine Calls.mono (Dt 98 [l1,l2,l3] _ 3 3 (w3.heap.size+1) _ (FE av.o aw.o cq.o) rfl (by simp) HL.o (by simp)) ?_;rintro e wz ⟨⟨gz,cz,rfl,cc,cd,bB⟩,M⟩;have bn:=(Below.refl w3.heap.size w3).alloc Ag (.cells #[.slice (some ⟨g1,0,none⟩) l1.length c1,.slice (some ⟨g2,0,none⟩) l2.length c2,.slice (some ⟨g3,0,none⟩) l3.length c3] 34);have HG:=I (Bg (l:=elem 98 [l1,l2,l3].flatten) ⟨⟨gz,cz,rfl,cc,cd,bB⟩,M⟩ (Z.o.trans (bn.mono Z.o.size)));rw[DN] at HG;replace O:=I ((O.o.alloc (.cells #[.slice (some ⟨g1,0,none⟩) l1.length c1,.slice (some ⟨g2,0,none⟩) l2.length c2,.slice (some ⟨g3,0,none⟩) l3.length c3] 34)).below M);clear bn cc cd bB M)
   |(go_at_call 55;refine Aj (LM.o _ _ _) ?_;rintro wy rfl)))
  go_wp2
  go_ret2
  exact FX HG.o
end Ms
namespace Ms
open Go.RowKit Af DerP
def FitT (l:L) (k:Nat):Prop:=∀i (h:i<l.length),i<k->32<=l[i].toNat/\l[i].toNat<=126
theorem TT {l:L} (h:FitT l l.length):txtB l=true:=by
 rw[txtB,List.all_eq_true];intro x M;obtain⟨i,hi,rfl⟩:=List.getElem_of_mem M;have:=h i hi hi;simp [this.1,this.2]
theorem On {l:L} {k:Nat} (hk:k<l.length) (h:l[k].toNat<32\/126<l[k].toNat):txtB l=false:=by
 rw[txtB,List.all_eq_false];refine⟨l[k],List.getElem_mem hk,?_⟩;simp;omega
theorem IN {p:Pt} (hk:p.ss.length=32) {g:Nat} {t:TypeId} {w':World} (h:Blk w' g t (ptC p).toArray):w'.cell? ⟨g,0,none⟩=some (.string ⟨p.c.1.toArray⟩)/\w'.cell? ⟨g,1,none⟩=some (.string ⟨p.c.2.toArray⟩)/\w'.cell? ⟨g,34,none⟩=some (.string ⟨p.tr.toArray⟩)/\w'.cell? ⟨g,35,none⟩=some (.int .i64 p.st)/\w'.cell? ⟨g,36,none⟩=some (.int .i64 p.en):=by
 have M:(bvs p.ss).length=32:=by rw[AG];exact hk
 have key:∀j,w'.cell? ⟨g,34+j,none⟩=([.string ⟨p.tr.toArray⟩,.int .i64 p.st,.int .i64 p.en]:List Value)[j]?:=fun j=>by
  rw[h.cell,List.getElem?_toArray,ptC,List.getElem?_append_right (by simp [prC];omega),List.getElem?_append_right (by simp [prC];omega)]
  congr 1
  simp [prC,M];omega
 refine⟨by rw[h.cell];rfl,by rw[h.cell];rfl,key 0,key 1,key 2⟩
theorem FF {p:Pt} (hk:p.ss.length=32):(ptC p).toArray.size=37:=by
 simp [ptC,prC,AG,hk]
attribute [local go_sem] Er List.getElem_cons_zero List.getElem_cons_succ
theorem Oo (p:Pt) (w:World) (hk:p.ss.length=32) (hs:pSm p.c) (ht:p.tr.length<=1000000000):Calls Tryz.prog 79 #[.agg (ptC p).toArray] w fun e w'=>e=.returned (.bool (ptB p))/\Below w.heap.size w w':=by
 have HI:=I (show(Tryz.prog.info? 31).map (·.size)=some (ptC p).toArray.size by rw[FF hk];kernel_rfl);have CF:=I (show ∀w':World,Blk w' w.heap.size 31 (ptC p).toArray->w'.cell? ⟨w.heap.size,0,none⟩=some (.string ⟨p.c.1.toArray⟩)/\w'.cell? ⟨w.heap.size,1,none⟩=some (.string ⟨p.c.2.toArray⟩)/\w'.cell? ⟨w.heap.size,34,none⟩=some (.string ⟨p.tr.toArray⟩)/\w'.cell? ⟨w.heap.size,35,none⟩=some (.int .i64 p.st)/\w'.cell? ⟨w.heap.size,36,none⟩=some (.int .i64 p.en) from fun w' h=>IN hk h);obtain⟨cs,av⟩:=Ak ((ptC p).toArray);rw[<-av] at HI CF⊢;clear av;have O:=I ((Below.refl w.heap.size w).alloc Ag (.cells cs 31));have Z:=I (Blk.new w 31 cs);have T1:=I (fun w1=>AV p.c w1 hs.1 hs.2);have T2:=I (fun w1=>Ll p.st w1);have T3:=I (fun w1=>Ll p.en w1);obtain⟨k0,k1,k2,k3,k4⟩:=CF.o _ Z.o;clear hs;go_enter Tryz.func79,Tryz.ntmps79
 go_wp2
 go_loop [3] (fun iv=>∃k:Nat,k<=p.tr.length/\iv=.int .i64 (k:Int)/\FitT p.tr k) (fun iv=>p.tr.length - (intOf iv).toNat)
 case atStart=>exact⟨0,Nat.zero_le _,rfl,fun i _ h=>by omega⟩
 case round=>
  obtain⟨k,bq,rfl,hf⟩:=hrel;have HF:=I hf;clear hf
  by_cases hlt:k<p.tr.length
  ·have e1:(k:Int)<(p.tr.length:Int):=by omega
   by_cases b1:p.tr[k].toNat<32
   ·have E:=I (show ptB p=false by rw[ptB,On hlt (Or.inl b1)];rfl)
    have aw:decide ((p.tr[k].toNat:Int)<32)=true:=by simp;omega
    clear b1
    go_wp2
    go_ret;exact⟨by rw[E.o];rfl,O.o⟩
   ·have aw:decide ((p.tr[k].toNat:Int)<32)=false:=by simp;omega
    by_cases b2:126<p.tr[k].toNat
    ·have E:=I (show ptB p=false by rw[ptB,On hlt (Or.inr b2)];rfl)
     have bb:decide (126<(p.tr[k].toNat:Int))=true:=by simp;omega
     clear b1 b2
     go_wp2
     go_ret;exact⟨by rw[E.o];rfl,O.o⟩
    ·have bb:decide (126<(p.tr[k].toNat:Int))=false:=by simp;omega
     have HP:=I (show 32<=p.tr[k].toNat/\p.tr[k].toNat<=126 from⟨by omega,by omega⟩);clear b1 b2
     go_wp2
     go_round
     case rel=>exact⟨k+1,by omega,by go_num,fun i hi bn=>by
      by_cases q:i=k
      ·subst q;exact HP.o
      ·exact HF.o i hi (by omega)⟩
     case measure=>simp [intOf];omega
  ·have HT:=I (TT (fun i hi _=>HF.o i hi (by omega)))
   have e1:¬(k:Int)<(p.tr.length:Int):=by omega
   clear HF;cases h1:prB p.c with
   |false=>
    rw[h1] at T1;have E:=I (show ptB p=false by rw[ptB,HT.o,h1];rfl);clear h1
    go_wp2_with (first
     |(go_at_call 28;(with_reducible refine Calls.mono (T1.o _) ?_);rintro e w1 ⟨rfl,M⟩;replace Z:=I (Z.o.below M);replace O:=O.t M;clear M T1;(try clear k0 k1 k2 k3 k4);obtain⟨k0,k1,k2,k3,k4⟩:=CF.o _ Z.o))
    go_ret;exact⟨by rw[E.o];rfl,O.o⟩
   |true=>
    rw[h1] at T1
    by_cases h0:p.tr.length<=300
    ·have g3:decide ((p.tr.length:Int)<=300)=true:=by simp;omega
     cases h2:tmB p.st with
     |false=>
      rw[h2] at T2;have E:=I (show ptB p=false by rw[ptB,HT.o,h1,h2,decide_eq_true h0];rfl);clear h1 h2 h0
      go_wp2_with (first
       |(go_at_call 28;(with_reducible refine Calls.mono (T1.o _) ?_);rintro e w1 ⟨rfl,M⟩;replace Z:=I (Z.o.below M);replace O:=O.t M;clear M T1;(try clear k0 k1 k2 k3 k4);obtain⟨k0,k1,k2,k3,k4⟩:=CF.o _ Z.o)
       |(go_at_call 105;(with_reducible refine Calls.mono (T2.o _) ?_);rintro e w2 ⟨rfl,hw⟩;subst hw;clear T2))
      go_ret;exact⟨by rw[E.o];rfl,O.o⟩
     |true=>
      rw[h2] at T2;have E:=I (show ptB p=tmB p.en by rw[ptB,HT.o,h1,h2,decide_eq_true h0];rfl);clear h1 h2 h0
      go_wp2_with (first
       |(go_at_call 28;(with_reducible refine Calls.mono (T1.o _) ?_);rintro e w1 ⟨rfl,M⟩;replace Z:=I (Z.o.below M);replace O:=O.t M;clear M T1;(try clear k0 k1 k2 k3 k4);obtain⟨k0,k1,k2,k3,k4⟩:=CF.o _ Z.o)
       |(go_at_call 105;(with_reducible refine Calls.mono (T2.o _) ?_);rintro e w2 ⟨rfl,hw⟩;subst hw;clear T2)
       |(go_at_call 105;(with_reducible refine Calls.mono (T3.o _) ?_);rintro e w3 ⟨rfl,hw⟩;subst hw;clear T3))
      go_ret;exact⟨by rw[E.o];rfl,O.o⟩
    ·have g3:decide ((p.tr.length:Int)<=300)=false:=by simp;omega
     have E:=I (show ptB p=false by rw[ptB,HT.o,h1,decide_eq_false h0];rfl);clear h1 h0
     go_wp2_with (first
      |(go_at_call 28;(with_reducible refine Calls.mono (T1.o _) ?_);rintro e w1 ⟨rfl,M⟩;replace Z:=I (Z.o.below M);replace O:=O.t M;clear M T1;(try clear k0 k1 k2 k3 k4);obtain⟨k0,k1,k2,k3,k4⟩:=CF.o _ Z.o))
     go_ret;exact⟨by rw[E.o];rfl,O.o⟩
end Ms
namespace Ms
open Go.RowKit Af DerP DerR
theorem ML {p:Pt} {g:Nat} {t:TypeId} {w':World} (h:Blk w' g t (ptC p).toArray):Rd w' w'.heap.size (some ⟨g,2,none⟩) (bvs p.ss):=by
 refine .inr ⟨g,2,rfl,h.lt,fun i u hu=>?_⟩;have hi:i<(bvs p.ss).length:=(List.getElem?_eq_some_iff.1 hu).1;rw[h.cell,List.getElem?_toArray,ptC,List.getElem?_append_right (by simp [prC]),List.getElem?_append_left (by simp [prC];exact hi)]
 simpa [prC] using hu
theorem MM (p:Pt) (w:World) (hk:p.ss.length=32) (hs:pSm p.c) (ht:p.tr.length<=1000000000):Calls Tryz.prog 39 #[.agg (ptC p).toArray] w (EncR w (ptO p)):=by
 have HI:=I (show(Tryz.prog.info? 31).map (·.size)=some (ptC p).toArray.size by rw[FF hk];kernel_rfl);have CF:=I (show ∀w':World,Blk w' w.heap.size 31 (ptC p).toArray->w'.cell? ⟨w.heap.size,0,none⟩=some (.string ⟨p.c.1.toArray⟩)/\w'.cell? ⟨w.heap.size,1,none⟩=some (.string ⟨p.c.2.toArray⟩)/\w'.cell? ⟨w.heap.size,34,none⟩=some (.string ⟨p.tr.toArray⟩)/\w'.cell? ⟨w.heap.size,35,none⟩=some (.int .i64 p.st)/\w'.cell? ⟨w.heap.size,36,none⟩=some (.int .i64 p.en) from fun w' h=>IN hk h);have I1:=I (fun w1=>Oo p w1 hk hs ht);have T2:=I (fun w1 (h:Blk w1 w.heap.size 31 (ptC p).toArray)=>DerR.Dj p.ss (some ⟨w.heap.size,2,none⟩) 32 32 w1.heap.size w1 (ML h) hk.symm Ag (by omega));obtain⟨cs,cc⟩:=Ak ((ptC p).toArray);rw[<-cc] at HI CF I1 T2⊢;clear cc;have HB:=I ((Below.refl w.heap.size w).alloc Ag (.cells cs 31));have O:=I (Blk.new w 31 cs);cases hx:ptB p with
 |false=>
  rw[hx] at I1;have E:=I (show ptO p=none by unfold ptO limO;rw[hx];rfl);rw[E.o];clear hx E;go_enter Tryz.func39,Tryz.ntmps39
  go_wp2_with (first
   |(refine Am (by rfl) 31 (.tmp 1) (by rfl) w.heap.size 0 (by rfl) cs _ (Ad (Blk.new w 31 cs)) Tryz.underlying31 (by rfl) HI.o ?_)
   |(go_at_call 79;refine Aj (I1.o _) ?_;rintro w1 M;replace HB:=HB.t M;clear M I1)
   |fail)
  go_ret2
  exact FW HB.o
 |true=>
  rw[hx] at I1;have hp:prB p.c=true:=(Dw hx).2.1;have h3:p.tr.length<=300:=(Dw hx).2.2.1;have b1:=GU hp;have b2:=(AX hp).1;have b3:=AM p.st;have b4:=AM p.en;have b5:=AE 27 p.tr;have b6:=AE 4 p.ss;have T1:=I (fun w1=>Ig p.c w1 (by omega) (by omega));have T3:=I (fun w1=>DerR.Ez p.tr w1 (by omega));have T4:=I (fun w1=>DerR.BO p.st w1);have T5:=I (fun w1=>DerR.BO p.en w1);have hl:[prE p.c,elem 4 p.ss,elem 27 p.tr,encI p.st,encI p.en].flatten.length<=1900:=by rw[Gs];simp only[List.length_append];omega
  have HL:=I (show [prE p.c,elem 4 p.ss,elem 27 p.tr,encI p.st,encI p.en].flatten.length<=65535 by omega);have hE:=AE 99 [prE p.c,elem 4 p.ss,elem 27 p.tr,encI p.st,encI p.en].flatten;have E:=I (show ptO p=some (elem 99 [prE p.c,elem 4 p.ss,elem 27 p.tr,encI p.st,encI p.en].flatten) from BS.2 ⟨hx,by show(elem 99 [prE p.c,elem 4 p.ss,elem 27 p.tr,encI p.st,encI p.en].flatten).length<=2000;omega,rfl⟩);rw[E.o];rw[Gs] at hE hl⊢;obtain⟨l1,bz⟩:∃l,l=prE p.c:=⟨_,rfl⟩;obtain⟨l2,cp⟩:∃l,l=elem 4 p.ss:=⟨_,rfl⟩;obtain⟨l3,bx⟩:∃l,l=elem 27 p.tr:=⟨_,rfl⟩;obtain⟨l4,ck⟩:∃l,l=encI p.st:=⟨_,rfl⟩;obtain⟨l5,bn⟩:∃l,l=encI p.en:=⟨_,rfl⟩;rw[<-bz] at T1 HL hE hl⊢;rw[<-cp] at T2 HL hE hl⊢;rw[<-bx] at T3 HL hE hl⊢;rw[<-ck] at T4 HL hE hl⊢;rw[<-bn] at T5 HL hE hl⊢;have cd:(elem 99 (l1++(l2++(l3++(l4++l5))))).length<=2000:=by omega
  have LM:=I (fun A c w1=>JF (elem 99 (l1++(l2++(l3++(l4++l5))))) A _ c w1 rfl cd);clear hx E hE hl cd bz cp bx ck bn hp h3 b1 b2 b3 b4 b5 b6 hs hk ht;go_enter Tryz.func39,Tryz.ntmps39
  go_wp2_with (first
   |(refine Am (by rfl) 31 (.tmp 1) (by rfl) w.heap.size 0 (by rfl) cs _ (Ad (Blk.new w 31 cs)) Tryz.underlying31 (by rfl) HI.o ?_)
   |(go_at_call 79;refine Aj (I1.o _) ?_;rintro w0 M;replace O:=I (O.o.below M);replace HB:=HB.t M;clear M I1)
   |fail)
  replace O:=I (show Blk w0.drew _ _ _ from O.o.drewN 1);replace HB:=I (show Below _ _ w0.drew from below_drewN HB.o 1)
  go_region_held3 (fun w'=>w'.cell? ⟨w.heap.size,0,none⟩=some (.string ⟨p.c.1.toArray⟩)/\w'.cell? ⟨w.heap.size,1,none⟩=some (.string ⟨p.c.2.toArray⟩)/\w'.cell? ⟨w.heap.size,34,none⟩=some (.string ⟨p.tr.toArray⟩)/\w'.cell? ⟨w.heap.size,35,none⟩=some (.int .i64 p.st)/\w'.cell? ⟨w.heap.size,36,none⟩=some (.int .i64 p.en)) (first | exact CF.o _ O.o | exact CF.o _ (O.o.alloc _)) ((first
   |(go_at_call 57;(with_reducible refine Calls.mono (T1.o _) ?_);rintro e w1 ⟨⟨g1,c1,rfl,cy,cM,cb⟩,M⟩;clear T1;have Z:=I cb;replace O:=I (O.o.below M);replace HB:=HB.t M;clear M cb cy cM)
   |(go_at_call 60;(with_reducible refine Calls.mono (T2.o _ O.o) ?_);rintro e w2 ⟨⟨g2,c2,rfl,cx,ct,cn⟩,M⟩;clear T2;replace Z:=I (Bh Z.o M);have av:=I cn;replace O:=I (O.o.below M);replace HB:=HB.t M;clear M cn cx ct)
   |(go_at_call 80;(with_reducible refine Calls.mono (T3.o _) ?_);rintro e w3 ⟨⟨g3,c3,rfl,cL,cq,bB⟩,M⟩;clear T3;replace Z:=I (Bh Z.o M);replace av:=I (Bh av.o M);have aw:=I bB;replace O:=I (O.o.below M);replace HB:=HB.t M;clear M bB cL cq)
   |(go_at_call 58;(with_reducible refine Calls.mono (T4.o _) ?_);rintro e w4 ⟨⟨g4,c4,rfl,cA,cw,cf⟩,M⟩;clear T4;replace Z:=I (Bh Z.o M);replace av:=I (Bh av.o M);replace aw:=I (Bh aw.o M);have bb:=I cf;replace O:=I (O.o.below M);replace HB:=HB.t M;clear M cf cA cw)
   |(go_at_call 58;(with_reducible refine Calls.mono (T5.o _) ?_);rintro e w5 ⟨⟨g5,c5,rfl,cB,cr,cg⟩,M⟩;clear T5;replace Z:=I (Bh Z.o M);replace av:=I (Bh av.o M);replace aw:=I (Bh aw.o M);replace bb:=I (Bh bb.o M);have cu:=I cg;replace O:=I (O.o.below M);replace HB:=HB.t M;clear M cg cB cr)
   |(go_at_call 56;refine Calls.mono (Dt 99 [l1,l2,l3,l4,l5] _ 5 5 (w5.heap.size+1) _ (Lj Z.o av.o aw.o bb.o cu.o) rfl (by simp) HL.o (by simp)) ?_;rintro e wz ⟨⟨gz,cz,rfl,cj,cm,ca⟩,M⟩;have bq:=(Below.refl w5.heap.size w5).alloc Ag (.cells #[.slice (some ⟨g1,0,none⟩) l1.length c1,.slice (some ⟨g2,0,none⟩) l2.length c2,.slice (some ⟨g3,0,none⟩) l3.length c3,.slice (some ⟨g4,0,none⟩) l4.length c4,.slice (some ⟨g5,0,none⟩) l5.length c5] 34);have HG:=I (Bg (l:=elem 99 [l1,l2,l3,l4,l5].flatten) ⟨⟨gz,cz,rfl,cj,cm,ca⟩,M⟩ (HB.o.trans (bq.mono HB.o.size)));rw[Gs] at HG;replace O:=I ((O.o.alloc (.cells #[.slice (some ⟨g1,0,none⟩) l1.length c1,.slice (some ⟨g2,0,none⟩) l2.length c2,.slice (some ⟨g3,0,none⟩) l3.length c3,.slice (some ⟨g4,0,none⟩) l4.length c4,.slice (some ⟨g5,0,none⟩) l5.length c5] 34)).below M);clear bq cj cm ca M)
   |(go_at_call 55;refine Aj (LM.o _ _ _) ?_;rintro wy rfl)))
  go_wp2
  go_ret2
  exact FX HG.o
end Ms
namespace Ms
open Go.RowKit Af DerP
theorem JG (t:Tk) (A:Option Addr) (c:Nat) (w:World):Calls Tryz.prog 100 #[.agg #[.string ⟨t.s.1.toArray⟩,.string ⟨t.s.2.toArray⟩,.int .i64 t.k,.slice A t.b.length c]] w fun e w'=>e=.returned (.bool (decide (t=tk0)))/\Below w.heap.size w w':=by
 obtain⟨⟨r,n⟩,k,b⟩:=t;have M:=I ((Below.refl w.heap.size w).alloc Ag (.cells #[.string ⟨r.toArray⟩,.string ⟨n.toArray⟩,.int .i64 k,.slice A b.length c] 83));simp only
 by_cases hr:r = []
 ·subst hr
  by_cases hn:n = []
  ·subst hn
   by_cases hk:k=0
   ·subst hk
    by_cases hb:b = []
    ·subst hb
     have E:=I (show decide ((⟨([],[]),0,[]⟩:Tk)=tk0)=true from rfl);go_enter Tryz.func100,Tryz.ntmps100
     go_wp2
     go_ret;exact⟨by rw[E.o];rfl,M.o⟩
    ·have O:((b.length:Int)==0)=false:=by simpa using hb
     have E:=I (show decide ((⟨([],[]),0,b⟩:Tk)=tk0)=false from decide_eq_false (fun h=>hb (congrArg Tk.b h)));go_enter Tryz.func100,Tryz.ntmps100
     go_wp2
     go_ret;exact⟨by rw[E.o];rfl,M.o⟩
   ·have O:(k==0)=false:=by simpa using hk
    have E:=I (show decide ((⟨([],[]),k,b⟩:Tk)=tk0)=false from decide_eq_false (fun h=>hk (congrArg Tk.k h)));go_enter Tryz.func100,Tryz.ntmps100
    go_wp2
    go_ret;exact⟨by rw[E.o];rfl,M.o⟩
  ·have O:(n == [])=false:=by simpa using hn
   have E:=I (show decide ((⟨([],n),k,b⟩:Tk)=tk0)=false from decide_eq_false (fun h=>hn (congrArg (fun t=>t.s.2) h)));go_enter Tryz.func100,Tryz.ntmps100
   go_wp2
   go_ret;exact⟨by rw[E.o];rfl,M.o⟩
 ·have O:(r == [])=false:=by simpa using hr
  have E:=I (show decide ((⟨(r,n),k,b⟩:Tk)=tk0)=false from decide_eq_false (fun h=>hr (congrArg (fun t=>t.s.1) h)));go_enter Tryz.func100,Tryz.ntmps100
  go_wp2
  go_ret;exact⟨by rw[E.o];rfl,M.o⟩
def mSm (m:Mg):Prop:=(pSm m.aq.c/\pSm m.aq.s)/\(pSm m.tg.t.s/\pSm m.tg.s)/\(pSm m.re.c/\pSm m.re.t.s)/\pSm m.ap.t.s
section
variable {α:Type}
theorem cU (x:As) (f:Bool->α):(if x.c.1 = [] then if x.c.2 = [] then if x.s.1 = [] then if x.s.2 = [] then if x.t=0 then if x.no=0 then f true else f false else f false else f false else f false else f false else f false)=f (decide (x=as0)):=by
 obtain⟨⟨a,b⟩,⟨c,d⟩,t,n⟩:=x
 by_cases h1:a = []
 ·by_cases h2:b = []
  ·by_cases h3:c = []
   ·by_cases h4:d = []
    ·by_cases h5:t=0
     ·by_cases h6:n=0
      ·simp [h1,h2,h3,h4,h5,h6,as0,pr0]
      ·simp [h1,h2,h3,h4,h5,h6,as0,pr0]
     ·simp [h1,h2,h3,h4,h5,as0,pr0]
    ·simp [h1,h2,h3,h4,as0,pr0]
   ·simp [h1,h2,h3,as0,pr0]
  ·simp [h1,h2,as0,pr0]
 ·simp [h1,as0,pr0]
theorem cV (x:Pr) (f:Bool->α):(if x.1 = [] then if x.2 = [] then f true else f false else f false)=f (decide (x=pr0)):=by
 obtain⟨a,b⟩:=x
 by_cases h1:a = []
 ·by_cases h2:b = []
  ·simp [h1,h2,pr0]
  ·simp [h1,h2,pr0]
 ·simp [h1,pr0]
theorem TU (x:Fa) (f:Bool->α):(if x.e=0 then if x.no=0 then f true else f false else f false)=f (decide (x=fa0)):=by
 obtain⟨a,b⟩:=x
 by_cases h1:a=0
 ·by_cases h2:b=0
  ·simp [h1,h2,fa0]
  ·simp [h1,h2,fa0]
 ·simp [h1,fa0]
end
theorem ZK (x:Tg):decide (x=tg0)=(decide (x.t=tk0)&&(decide (x.a = [])&&(decide (x.s=pr0)&&(decide (x.u=0)&&decide (x.no=0))))):=by
 obtain⟨t,a,s,u,n⟩:=x;simp [tg0,Bool.decide_and]
theorem ZL (x:Re):decide (x=re0)=(decide (x.c=pr0)&&(decide (x.t=tk0)&&decide (x.b = []))):=by
 obtain⟨c,t,b⟩:=x;simp [re0,Bool.decide_and]
theorem ZM (x:Ap):decide (x=ap0)=(decide (x.t=tk0)&&decide (x.a = [])):=by
 obtain⟨t,a⟩:=x;simp [ap0,Bool.decide_and]
theorem ZN (m:Mg):mgB m=if m.k=1 then asB m.aq&&(decide (m.tg=tg0)&&(decide (m.re=re0)&&(decide (m.ap=ap0)&&decide (m.fa=fa0))))
  else if m.k=2 then tgB m.tg&&(decide (m.aq=as0)&&(decide (m.re=re0)&&(decide (m.ap=ap0)&&decide (m.fa=fa0))))
  else if m.k=3 then (prB m.re.c&&(tkB m.re.t&&BQ m.re.b))&&(decide (m.aq=as0)&&(decide (m.tg=tg0)&&(decide (m.ap=ap0)&&decide (m.fa=fa0))))
  else if m.k=4 then (tkB m.ap.t&&BQ m.ap.a)&&(decide (m.aq=as0)&&(decide (m.tg=tg0)&&(decide (m.re=re0)&&decide (m.fa=fa0))))
  else if m.k=5 then (inB m.fa.e 1 255&&tmB m.fa.no)&&(decide (m.aq=as0)&&(decide (m.tg=tg0)&&(decide (m.re=re0)&&decide (m.ap=ap0)))) else false:=by
 obtain⟨k,a,t,r,p,f⟩:=m;unfold mgB;simp only[Mg.mk.injEq,true_and,and_true]
 by_cases h1:k=1
 ·simp [h1,Bool.decide_and]
 ·rw[if_neg h1,if_neg h1]
  by_cases h2:k=2
  ·simp [h2,Bool.decide_and]
  ·rw[if_neg h2,if_neg h2]
   by_cases h3:k=3
   ·simp [h3,reB,Bool.decide_and]
   ·rw[if_neg h3,if_neg h3]
    by_cases h4:k=4
    ·simp [h4,apB,Bool.decide_and]
    ·rw[if_neg h4,if_neg h4]
     by_cases h5:k=5
     ·simp [h5,faB,Bool.decide_and]
     ·rw[if_neg h5,if_neg h5]
theorem ZO (m:Mg) (A1 A2 A3 A4 A5 A6:Option Addr) (c1 c2 c3 c4 c5 c6:Nat) (w:World) (hs:mSm m) (cf:m.k=4) (hQ:m.aq=as0) (hT:m.tg=tg0) (hR:m.re=re0) :
  Calls Tryz.prog 54 #[.agg #[.int .i64 m.k,.string ⟨m.aq.c.1.toArray⟩,.string ⟨m.aq.c.2.toArray⟩,.string ⟨m.aq.s.1.toArray⟩,.string ⟨m.aq.s.2.toArray⟩,.int .i64 m.aq.t,.int .i64 m.aq.no,.string ⟨m.tg.t.s.1.toArray⟩,.string ⟨m.tg.t.s.2.toArray⟩,.int .i64 m.tg.t.k,.slice A1 m.tg.t.b.length c1,.slice A2 m.tg.a.length c2,.string ⟨m.tg.s.1.toArray⟩,.string ⟨m.tg.s.2.toArray⟩,.int .i64 m.tg.u,.int .i64 m.tg.no,.string ⟨m.re.c.1.toArray⟩,.string ⟨m.re.c.2.toArray⟩,.string ⟨m.re.t.s.1.toArray⟩,.string ⟨m.re.t.s.2.toArray⟩,.int .i64 m.re.t.k,.slice A3 m.re.t.b.length c3,.slice A4 m.re.b.length c4,.string ⟨m.ap.t.s.1.toArray⟩,.string ⟨m.ap.t.s.2.toArray⟩,.int .i64 m.ap.t.k,.slice A5 m.ap.t.b.length c5,.slice A6 m.ap.a.length c6,.int .i64 m.fa.e,.int .i64 m.fa.no]] w fun e w'=>e=.returned (.bool (mgB m))/\Below w.heap.size w w':=by
 have Z:=I ((Below.refl w.heap.size w).alloc Ag (.cells #[.int .i64 m.k,.string ⟨m.aq.c.1.toArray⟩,.string ⟨m.aq.c.2.toArray⟩,.string ⟨m.aq.s.1.toArray⟩,.string ⟨m.aq.s.2.toArray⟩,.int .i64 m.aq.t,.int .i64 m.aq.no,.string ⟨m.tg.t.s.1.toArray⟩,.string ⟨m.tg.t.s.2.toArray⟩,.int .i64 m.tg.t.k,.slice A1 m.tg.t.b.length c1,.slice A2 m.tg.a.length c2,.string ⟨m.tg.s.1.toArray⟩,.string ⟨m.tg.s.2.toArray⟩,.int .i64 m.tg.u,.int .i64 m.tg.no,.string ⟨m.re.c.1.toArray⟩,.string ⟨m.re.c.2.toArray⟩,.string ⟨m.re.t.s.1.toArray⟩,.string ⟨m.re.t.s.2.toArray⟩,.int .i64 m.re.t.k,.slice A3 m.re.t.b.length c3,.slice A4 m.re.b.length c4,.string ⟨m.ap.t.s.1.toArray⟩,.string ⟨m.ap.t.s.2.toArray⟩,.int .i64 m.ap.t.k,.slice A5 m.ap.t.b.length c5,.slice A6 m.ap.a.length c6,.int .i64 m.fa.e,.int .i64 m.fa.no] 95));have M:=I (Blk.new w 95 #[.int .i64 m.k,.string ⟨m.aq.c.1.toArray⟩,.string ⟨m.aq.c.2.toArray⟩,.string ⟨m.aq.s.1.toArray⟩,.string ⟨m.aq.s.2.toArray⟩,.int .i64 m.aq.t,.int .i64 m.aq.no,.string ⟨m.tg.t.s.1.toArray⟩,.string ⟨m.tg.t.s.2.toArray⟩,.int .i64 m.tg.t.k,.slice A1 m.tg.t.b.length c1,.slice A2 m.tg.a.length c2,.string ⟨m.tg.s.1.toArray⟩,.string ⟨m.tg.s.2.toArray⟩,.int .i64 m.tg.u,.int .i64 m.tg.no,.string ⟨m.re.c.1.toArray⟩,.string ⟨m.re.c.2.toArray⟩,.string ⟨m.re.t.s.1.toArray⟩,.string ⟨m.re.t.s.2.toArray⟩,.int .i64 m.re.t.k,.slice A3 m.re.t.b.length c3,.slice A4 m.re.b.length c4,.string ⟨m.ap.t.s.1.toArray⟩,.string ⟨m.ap.t.s.2.toArray⟩,.int .i64 m.ap.t.k,.slice A5 m.ap.t.b.length c5,.slice A6 m.ap.a.length c6,.int .i64 m.fa.e,.int .i64 m.fa.no]);have N1:=I (fun w1=>JG m.tg.t A1 c1 w1);have N2:=I (fun w1=>JG m.re.t A3 c3 w1);have N3:=I (fun w1=>JG m.ap.t A5 c5 w1);have bz:=I cf;have HQ:=I hQ;have HT:=I hT;have HR:=I hR;have HZ:=I hs;clear hs cf hQ hT hR;go_enter Tryz.func54,Tryz.ntmps54
 go_upto_region 2 with fail
 obtain⟨W,eW⟩:=Ak (w.alloc (.cells #[.int .i64 m.k,.string ⟨m.aq.c.1.toArray⟩,.string ⟨m.aq.c.2.toArray⟩,.string ⟨m.aq.s.1.toArray⟩,.string ⟨m.aq.s.2.toArray⟩,.int .i64 m.aq.t,.int .i64 m.aq.no,.string ⟨m.tg.t.s.1.toArray⟩,.string ⟨m.tg.t.s.2.toArray⟩,.int .i64 m.tg.t.k,.slice A1 m.tg.t.b.length c1,.slice A2 m.tg.a.length c2,.string ⟨m.tg.s.1.toArray⟩,.string ⟨m.tg.s.2.toArray⟩,.int .i64 m.tg.u,.int .i64 m.tg.no,.string ⟨m.re.c.1.toArray⟩,.string ⟨m.re.c.2.toArray⟩,.string ⟨m.re.t.s.1.toArray⟩,.string ⟨m.re.t.s.2.toArray⟩,.int .i64 m.re.t.k,.slice A3 m.re.t.b.length c3,.slice A4 m.re.b.length c4,.string ⟨m.ap.t.s.1.toArray⟩,.string ⟨m.ap.t.s.2.toArray⟩,.int .i64 m.ap.t.k,.slice A5 m.ap.t.b.length c5,.slice A6 m.ap.a.length c6,.int .i64 m.fa.e,.int .i64 m.fa.no] 95));rw[<-eW] at Z M⊢;clear eW
 go_cut [4,5] from 11 to 44 (fun av tv wx=>av=.bool (decide (m.aq=as0))/\tv=.bool (decide (m.tg=tg0))/\Below w.heap.size w wx/\Blk wx w.heap.size 95 #[.int .i64 m.k,.string ⟨m.aq.c.1.toArray⟩,.string ⟨m.aq.c.2.toArray⟩,.string ⟨m.aq.s.1.toArray⟩,.string ⟨m.aq.s.2.toArray⟩,.int .i64 m.aq.t,.int .i64 m.aq.no,.string ⟨m.tg.t.s.1.toArray⟩,.string ⟨m.tg.t.s.2.toArray⟩,.int .i64 m.tg.t.k,.slice A1 m.tg.t.b.length c1,.slice A2 m.tg.a.length c2,.string ⟨m.tg.s.1.toArray⟩,.string ⟨m.tg.s.2.toArray⟩,.int .i64 m.tg.u,.int .i64 m.tg.no,.string ⟨m.re.c.1.toArray⟩,.string ⟨m.re.c.2.toArray⟩,.string ⟨m.re.t.s.1.toArray⟩,.string ⟨m.re.t.s.2.toArray⟩,.int .i64 m.re.t.k,.slice A3 m.re.t.b.length c3,.slice A4 m.re.b.length c4,.string ⟨m.ap.t.s.1.toArray⟩,.string ⟨m.ap.t.s.2.toArray⟩,.int .i64 m.ap.t.k,.slice A5 m.ap.t.b.length c5,.slice A6 m.ap.a.length c6,.int .i64 m.fa.e,.int .i64 m.fa.no])
 case first=>
  have TF:=I (ZK m.tg);replace M:=I (show Blk W.drew _ _ _ from M.o.drewN 1);replace Z:=I (show Below _ _ W.drew from below_drewN Z.o 1);obtain⟨b1,q1⟩:∃b,b=decide (m.tg.t=tk0):=⟨_,rfl⟩;rw[<-q1] at N1;have Q1:=I q1;clear q1;refine Reg.Cd 36 rfl (by kernel_rfl) ?_;refine Reg.tz 0 rfl ?_;refine Reg.tx 1 rfl (fun w' hS=>by have hk:=M.o.below hS;have k1:=hk.c1;have k2:=hk.c2;have k3:=hk.c3;have k4:=hk.c4;have k5:=hk.c5;have k6:=hk.c6;go_simp;rfl) ?_;refine Reg.tz 2 rfl ?_;refine Reg.tx 3 (v:=.bool (decide (m.aq=as0))) rfl (fun w' hS=>by go_simp;exact cU m.aq (fun b=>Result.ok (Next.value (.bool b)) w')) ?_;refine Reg.tz 4 rfl ?_;refine Reg.tz 5 rfl ?_;refine Reg.tx 6 rfl (fun w' hS=>by have hk:=M.o.below hS;have k7:=hk.c7;have k8:=hk.c8;have k9:=hk.c9;have cy:=hk.c10;go_simp;rfl) ?_;refine Reg.Fg 7 rfl (by kernel_rfl) (by rfl) 100 #[.agg #[.string ⟨m.tg.t.s.1.toArray⟩,.string ⟨m.tg.t.s.2.toArray⟩,.int .i64 m.tg.t.k,.slice A1 m.tg.t.b.length c1]] (by go_simp) ?_;refine Aj (N1.o _) ?_;rintro wn O;refine⟨_,rfl,O,?_⟩;replace M:=I (M.o.below O);replace Z:=Z.t O;clear O;simp only[Act.put,U,Aa,Ab];refine Reg.tz 8 rfl ?_;cases b1 with
  |false=>
   have E:=I (show decide (m.tg=tg0)=false by rw[TF.o,<-Q1.o];rfl);refine Reg.sk 9 rfl ?_;refine Reg.sk 10 rfl ?_;refine Reg.sk 11 rfl ?_;refine Reg.sk 12 rfl ?_;refine Reg.sk 13 rfl ?_;refine Reg.tz 14 rfl ?_;refine Reg.tz 15 rfl ?_;refine Reg.sk 16 rfl ?_;refine Reg.sk 17 rfl ?_;refine Reg.sk 18 rfl ?_;refine Reg.sk 19 rfl ?_;refine Reg.sk 20 rfl ?_;refine Reg.tz 21 rfl ?_;refine Reg.tz 22 rfl ?_;refine Reg.sk 23 rfl ?_;refine Reg.sk 24 rfl ?_;refine Reg.sk 25 rfl ?_;refine Reg.sk 26 rfl ?_;refine Reg.tz 27 rfl ?_;refine Reg.tz 28 rfl ?_;refine Reg.sk 29 rfl ?_;refine Reg.sk 30 rfl ?_;refine Reg.sk 31 rfl ?_;refine Reg.sk 32 rfl ?_;refine Reg.tz 33 rfl ?_;refine Reg.tz 34 rfl ?_;refine Reg.tz 35 rfl ?_;refine wpAnyH_done (by kernel_rfl) ?_ _
   go_wp2_with fail
   go_meet
   exact⟨rfl,by rw[E.o],Z.o,M.o⟩
  |true=>
   cases q2:decide (m.tg.a = []) with
   |false=>exact absurd (decide_eq_true (show m.tg.a = [] by have h:=HT.o;rw[h];first | done | rfl)) (by rw[q2];decide)
   |true=>
    have t2:((m.tg.a.length:Int)==0)=true:=by simpa using q2
    have Q2:=I q2;clear q2;refine Reg.tz 9 rfl ?_;refine Reg.tz 10 rfl ?_;refine Reg.tx 11 rfl (fun w' hS=>by have hk:=M.o.below hS;have cx:=hk.c11;go_simp;rfl) ?_;refine Reg.tz 12 rfl ?_;refine Reg.tz 13 rfl ?_;refine Reg.tz 14 rfl ?_;refine Reg.tz 15 rfl ?_;cases q3:decide (m.tg.s=pr0) with
    |false=>exact absurd (decide_eq_true (show m.tg.s=pr0 by have h:=HT.o;rw[h];first | done | rfl)) (by rw[q3];decide)
    |true=>
     have SQ:=I q3;clear q3;refine Reg.tz 16 rfl ?_;refine Reg.tz 17 rfl ?_;refine Reg.tx 18 rfl (fun w' hS=>by have hk:=M.o.below hS;have cr:=hk.c12;have ct:=hk.c13;go_simp;rfl) ?_;refine Reg.tz 19 rfl ?_;refine Reg.tx 20 (v:=.bool true) rfl (fun w' hS=>by go_simp;exact(cV m.tg.s (fun b=>Result.ok (Next.value (.bool b)) w')).trans (by rw[SQ.o])) ?_;refine Reg.tz 21 rfl ?_;refine Reg.tz 22 rfl ?_;cases q4:decide (m.tg.u=0) with
     |false=>exact absurd (decide_eq_true (show m.tg.u=0 by have h:=HT.o;rw[h];first | done | rfl)) (by rw[q4];decide)
     |true=>
      have t4:(m.tg.u==0)=true:=by simpa using q4
      have Q4:=I q4;clear q4;refine Reg.tz 23 rfl ?_;refine Reg.tz 24 rfl ?_;refine Reg.tx 25 rfl (fun w' hS=>by have hk:=M.o.below hS;have cp:=hk.c14;go_simp;rfl) ?_;refine Reg.tz 26 rfl ?_;refine Reg.tz 27 rfl ?_;refine Reg.tz 28 rfl ?_;cases q5:decide (m.tg.no=0) with
      |false=>exact absurd (decide_eq_true (show m.tg.no=0 by have h:=HT.o;rw[h];first | done | rfl)) (by rw[q5];decide)
      |true=>
       have t5:(m.tg.no==0)=true:=by simpa using q5
       have E:=I (show decide (m.tg=tg0)=true by rw[TF.o,<-Q1.o,Q2.o,SQ.o,Q4.o,q5];rfl);clear q5;refine Reg.tz 29 rfl ?_;refine Reg.tz 30 rfl ?_;refine Reg.tx 31 rfl (fun w' hS=>by have hk:=M.o.below hS;have cw:=hk.c15;go_simp;rfl) ?_;refine Reg.tz 32 rfl ?_;refine Reg.tz 33 rfl ?_;refine Reg.tz 34 rfl ?_;refine Reg.tz 35 rfl ?_;refine wpAnyH_done (by kernel_rfl) ?_ _
       go_wp2_with fail
       go_meet
       exact⟨rfl,by rw[E.o],Z.o,M.o⟩
 case rest=>
  obtain⟨rfl,rfl,O,hk⟩:=hcut;replace Z:=I O;replace M:=I hk;clear O hk;obtain⟨zA,eA⟩:=Ak (decide (m.aq=as0));obtain⟨zT,eT⟩:=Ak (decide (m.tg=tg0));rw[<-eA,<-eT];have EA:=I eA;have ET:=I eT;clear eA eT;obtain⟨v0,cg⟩:∃v:Value,v=.agg #[.int .i64 m.k,.string ⟨m.aq.c.1.toArray⟩,.string ⟨m.aq.c.2.toArray⟩,.string ⟨m.aq.s.1.toArray⟩,.string ⟨m.aq.s.2.toArray⟩,.int .i64 m.aq.t,.int .i64 m.aq.no,.string ⟨m.tg.t.s.1.toArray⟩,.string ⟨m.tg.t.s.2.toArray⟩,.int .i64 m.tg.t.k,.slice A1 m.tg.t.b.length c1,.slice A2 m.tg.a.length c2,.string ⟨m.tg.s.1.toArray⟩,.string ⟨m.tg.s.2.toArray⟩,.int .i64 m.tg.u,.int .i64 m.tg.no,.string ⟨m.re.c.1.toArray⟩,.string ⟨m.re.c.2.toArray⟩,.string ⟨m.re.t.s.1.toArray⟩,.string ⟨m.re.t.s.2.toArray⟩,.int .i64 m.re.t.k,.slice A3 m.re.t.b.length c3,.slice A4 m.re.b.length c4,.string ⟨m.ap.t.s.1.toArray⟩,.string ⟨m.ap.t.s.2.toArray⟩,.int .i64 m.ap.t.k,.slice A5 m.ap.t.b.length c5,.slice A6 m.ap.a.length c6,.int .i64 m.fa.e,.int .i64 m.fa.no]:=⟨_,rfl⟩;rw[<-cg];clear cg
  go_upto_region 3 with fail
  go_cut [6] from 45 to 62 (fun rv wx=>rv=.bool (decide (m.re=re0))/\Below w.heap.size w wx/\Blk wx w.heap.size 95 #[.int .i64 m.k,.string ⟨m.aq.c.1.toArray⟩,.string ⟨m.aq.c.2.toArray⟩,.string ⟨m.aq.s.1.toArray⟩,.string ⟨m.aq.s.2.toArray⟩,.int .i64 m.aq.t,.int .i64 m.aq.no,.string ⟨m.tg.t.s.1.toArray⟩,.string ⟨m.tg.t.s.2.toArray⟩,.int .i64 m.tg.t.k,.slice A1 m.tg.t.b.length c1,.slice A2 m.tg.a.length c2,.string ⟨m.tg.s.1.toArray⟩,.string ⟨m.tg.s.2.toArray⟩,.int .i64 m.tg.u,.int .i64 m.tg.no,.string ⟨m.re.c.1.toArray⟩,.string ⟨m.re.c.2.toArray⟩,.string ⟨m.re.t.s.1.toArray⟩,.string ⟨m.re.t.s.2.toArray⟩,.int .i64 m.re.t.k,.slice A3 m.re.t.b.length c3,.slice A4 m.re.b.length c4,.string ⟨m.ap.t.s.1.toArray⟩,.string ⟨m.ap.t.s.2.toArray⟩,.int .i64 m.ap.t.k,.slice A5 m.ap.t.b.length c5,.slice A6 m.ap.a.length c6,.int .i64 m.fa.e,.int .i64 m.fa.no])
  case first=>
   have k16:=M.c16;have cj:=M.c17;have cb:=M.c18;have cm:=M.c19;have cd:=M.c20;have ck:=M.c21;have ca:=M.c22;have RF:=I (ZL m.re);cases q1:decide (m.re.c=pr0) with
   |false=>exact absurd (decide_eq_true (show m.re.c=pr0 by have h:=HR.o;rw[h];first | done | rfl)) (by rw[q1];decide)
   |true=>
    have a0:m.re.c=pr0:=of_decide_eq_true q1;have a1:m.re.c.1 = []:=by rw[a0];rfl
    have a2:m.re.c.2 = []:=by rw[a0];rfl
    clear a0;cases q2:decide (m.re.t=tk0) with
    |false=>exact absurd (decide_eq_true (show m.re.t=tk0 by have h:=HR.o;rw[h];first | done | rfl)) (by rw[q2];decide)
    |true=>
     rw[q2] at N2;cases q3:decide (m.re.b = []) with
     |false=>exact absurd (decide_eq_true (show m.re.b = [] by have h:=HR.o;rw[h];first | done | rfl)) (by rw[q3];decide)
     |true=>
      have t2:((m.re.b.length:Int)==0)=true:=by simpa using q3
      have E:=I (show decide (m.re=re0)=true by rw[RF.o,q1,q2,q3];rfl);clear q1 q2 q3
      go_wp2_with (go_at_call 100;refine Aj (N2.o _) ?_;rintro wn O;replace M:=I (M.o.below O);replace Z:=Z.t O;clear O;clear k16 cj cb cm cd ck ca;have k16:=M.c16;have cj:=M.c17;have cb:=M.c18;have cm:=M.c19;have cd:=M.c20;have ck:=M.c21;have ca:=M.c22)
      go_meet
      exact⟨by rw[E.o],Z.o,M.o⟩
  case rest=>
   obtain⟨rfl,O,hk⟩:=hcut;replace Z:=I O;replace M:=I hk;clear O hk;obtain⟨zR,eR⟩:=Ak (decide (m.re=re0));rw[<-eR];have ER:=I eR;clear eR
   go_upto_region 4 with fail
   go_cut [7,8] from 63 to 77 (fun av fv wx=>av=.bool (decide (m.ap=ap0))/\fv=.bool (decide (m.fa=fa0))/\Below w.heap.size w wx/\Blk wx w.heap.size 95 #[.int .i64 m.k,.string ⟨m.aq.c.1.toArray⟩,.string ⟨m.aq.c.2.toArray⟩,.string ⟨m.aq.s.1.toArray⟩,.string ⟨m.aq.s.2.toArray⟩,.int .i64 m.aq.t,.int .i64 m.aq.no,.string ⟨m.tg.t.s.1.toArray⟩,.string ⟨m.tg.t.s.2.toArray⟩,.int .i64 m.tg.t.k,.slice A1 m.tg.t.b.length c1,.slice A2 m.tg.a.length c2,.string ⟨m.tg.s.1.toArray⟩,.string ⟨m.tg.s.2.toArray⟩,.int .i64 m.tg.u,.int .i64 m.tg.no,.string ⟨m.re.c.1.toArray⟩,.string ⟨m.re.c.2.toArray⟩,.string ⟨m.re.t.s.1.toArray⟩,.string ⟨m.re.t.s.2.toArray⟩,.int .i64 m.re.t.k,.slice A3 m.re.t.b.length c3,.slice A4 m.re.b.length c4,.string ⟨m.ap.t.s.1.toArray⟩,.string ⟨m.ap.t.s.2.toArray⟩,.int .i64 m.ap.t.k,.slice A5 m.ap.t.b.length c5,.slice A6 m.ap.a.length c6,.int .i64 m.fa.e,.int .i64 m.fa.no])
   case first=>
    have PF:=I (ZM m.ap);replace M:=I (show Blk wc.drew _ _ _ from M.o.drewN 1);replace Z:=I (show Below _ _ wc.drew from below_drewN Z.o 1);cases q1:decide (m.ap.t=tk0) with
    |false=>
     rw[q1] at N3;have E:=I (show decide (m.ap=ap0)=false by rw[PF.o,q1];rfl);clear q1;refine Reg.Cd 17 rfl (by kernel_rfl) ?_;refine Reg.tz 0 rfl ?_;refine Reg.tz 1 rfl ?_;refine Reg.tx 2 rfl (fun w' hS=>by have hk:=M.o.below hS;have bb:=hk.c23;have bn:=hk.c24;have bq:=hk.c25;have aw:=hk.c26;go_simp;rfl) ?_;refine Reg.tz 11 rfl ?_;refine Reg.tx 12 rfl (fun w' hS=>by have hk:=M.o.below hS;have cc:=hk.c28;have bB:=hk.c29;go_simp;rfl) ?_;refine Reg.tz 13 rfl ?_;refine Reg.tx 14 (v:=.bool (decide (m.fa=fa0))) rfl (fun w' hS=>by go_simp;exact TU m.fa (fun b=>Result.ok (Next.value (.bool b)) w')) ?_;refine Reg.Fg 3 rfl (by kernel_rfl) (by rfl) 100 #[.agg #[.string ⟨m.ap.t.s.1.toArray⟩,.string ⟨m.ap.t.s.2.toArray⟩,.int .i64 m.ap.t.k,.slice A5 m.ap.t.b.length c5]] (by go_simp) ?_;refine Aj (N3.o _) ?_;rintro wn O;refine⟨_,rfl,O,?_⟩;replace M:=I (M.o.below O);replace Z:=Z.t O;clear O;simp only[Act.put,U,Aa,Ab];refine Reg.tz 4 rfl ?_;refine Reg.sk 5 rfl ?_;refine Reg.sk 6 rfl ?_;refine Reg.sk 7 rfl ?_;refine Reg.sk 8 rfl ?_;refine Reg.sk 9 rfl ?_;refine Reg.tz 10 rfl ?_;refine Reg.tz 15 rfl ?_;refine Reg.tz 16 rfl ?_;refine wpAnyH_done (by kernel_rfl) ?_ _
     go_wp2_with fail
     go_meet
     exact⟨by rw[E.o],rfl,Z.o,M.o⟩
    |true=>
     rw[q1] at N3;cases q2:decide (m.ap.a = []) with
     |false=>
      have t2:((m.ap.a.length:Int)==0)=false:=by simpa using q2
      have E:=I (show decide (m.ap=ap0)=false by rw[PF.o,q1,q2];rfl);clear q1 q2;refine Reg.Cd 17 rfl (by kernel_rfl) ?_;refine Reg.tz 0 rfl ?_;refine Reg.tz 1 rfl ?_;refine Reg.tx 2 rfl (fun w' hS=>by have hk:=M.o.below hS;have bb:=hk.c23;have bn:=hk.c24;have bq:=hk.c25;have aw:=hk.c26;go_simp;rfl) ?_;refine Reg.tz 11 rfl ?_;refine Reg.tx 12 rfl (fun w' hS=>by have hk:=M.o.below hS;have cc:=hk.c28;have bB:=hk.c29;go_simp;rfl) ?_;refine Reg.tz 13 rfl ?_;refine Reg.tx 14 (v:=.bool (decide (m.fa=fa0))) rfl (fun w' hS=>by go_simp;exact TU m.fa (fun b=>Result.ok (Next.value (.bool b)) w')) ?_;refine Reg.Fg 3 rfl (by kernel_rfl) (by rfl) 100 #[.agg #[.string ⟨m.ap.t.s.1.toArray⟩,.string ⟨m.ap.t.s.2.toArray⟩,.int .i64 m.ap.t.k,.slice A5 m.ap.t.b.length c5]] (by go_simp) ?_;refine Aj (N3.o _) ?_;rintro wn O;refine⟨_,rfl,O,?_⟩;replace M:=I (M.o.below O);replace Z:=Z.t O;clear O;simp only[Act.put,U,Aa,Ab];refine Reg.tz 4 rfl ?_;refine Reg.tz 5 rfl ?_;refine Reg.tz 6 rfl ?_;refine Reg.tx 7 rfl (fun w' hS=>by have hk:=M.o.below hS;have bx:=hk.c27;go_simp;rfl) ?_;refine Reg.tz 8 rfl ?_;refine Reg.tz 9 rfl ?_;refine Reg.tz 10 rfl ?_;refine Reg.tz 15 rfl ?_;refine Reg.tz 16 rfl ?_;refine wpAnyH_done (by kernel_rfl) ?_ _
      go_wp2_with fail
      go_meet
      exact⟨by rw[E.o],rfl,Z.o,M.o⟩
     |true=>
      have t2:((m.ap.a.length:Int)==0)=true:=by simpa using q2
      have E:=I (show decide (m.ap=ap0)=true by rw[PF.o,q1,q2];rfl);clear q1 q2;refine Reg.Cd 17 rfl (by kernel_rfl) ?_;refine Reg.tz 0 rfl ?_;refine Reg.tz 1 rfl ?_;refine Reg.tx 2 rfl (fun w' hS=>by have hk:=M.o.below hS;have bb:=hk.c23;have bn:=hk.c24;have bq:=hk.c25;have aw:=hk.c26;go_simp;rfl) ?_;refine Reg.tz 11 rfl ?_;refine Reg.tx 12 rfl (fun w' hS=>by have hk:=M.o.below hS;have cc:=hk.c28;have bB:=hk.c29;go_simp;rfl) ?_;refine Reg.tz 13 rfl ?_;refine Reg.tx 14 (v:=.bool (decide (m.fa=fa0))) rfl (fun w' hS=>by go_simp;exact TU m.fa (fun b=>Result.ok (Next.value (.bool b)) w')) ?_;refine Reg.Fg 3 rfl (by kernel_rfl) (by rfl) 100 #[.agg #[.string ⟨m.ap.t.s.1.toArray⟩,.string ⟨m.ap.t.s.2.toArray⟩,.int .i64 m.ap.t.k,.slice A5 m.ap.t.b.length c5]] (by go_simp) ?_;refine Aj (N3.o _) ?_;rintro wn O;refine⟨_,rfl,O,?_⟩;replace M:=I (M.o.below O);replace Z:=Z.t O;clear O;simp only[Act.put,U,Aa,Ab];refine Reg.tz 4 rfl ?_;refine Reg.tz 5 rfl ?_;refine Reg.tz 6 rfl ?_;refine Reg.tx 7 rfl (fun w' hS=>by have hk:=M.o.below hS;have bx:=hk.c27;go_simp;rfl) ?_;refine Reg.tz 8 rfl ?_;refine Reg.tz 9 rfl ?_;refine Reg.tz 10 rfl ?_;refine Reg.tz 15 rfl ?_;refine Reg.tz 16 rfl ?_;refine wpAnyH_done (by kernel_rfl) ?_ _
      go_wp2_with fail
      go_meet
      exact⟨by rw[E.o],rfl,Z.o,M.o⟩
   case rest=>
    obtain⟨rfl,rfl,O,hk⟩:=hcut;replace Z:=I O;replace M:=I hk;clear O hk;obtain⟨zP,eP⟩:=Ak (decide (m.ap=ap0));obtain⟨zF,eF⟩:=Ak (decide (m.fa=fa0));rw[<-eP,<-eF];have HF:=I (ZN m);rw[<-EA.o,<-ET.o,<-ER.o,<-eP,<-eF] at HF;clear eP eF EA ET ER N1 N2 N3
    by_cases m1:m.k=1
    ·exact absurd m1 (by rw[bz.o];decide)
    ·have cq:=m1
     by_cases m2:m.k=2
     ·exact absurd m2 (by rw[bz.o];decide)
     ·have cn:=m2
      by_cases m3:m.k=3
      ·exact absurd m3 (by rw[bz.o];decide)
      ·have cu:=m3
       by_cases m4:m.k=4
       ·have y1:(m.k==1)=false:=by simp;omega
        have y2:(m.k==2)=false:=by simp;omega
        have y3:(m.k==3)=false:=by simp;omega
        have y4:(m.k==4)=true:=by simpa using m4
        have y5:(m.k==5)=false:=by simp;omega
        have T1:=I (fun w1=>Om m.ap.t A5 c5 w1 HZ.o.2.2.2);have T2:=I (fun w1=>MI m.ap.a A6 c6 w1);have bb:=M.c23;have bn:=M.c24;have bq:=M.c25;have aw:=M.c26;have bx:=M.c27;rw[if_neg m1,if_neg m2,if_neg m3,if_pos m4] at HF;clear m1 m2 m3 m4;cases g1:tkB m.ap.t with
        |false=>
         rw[g1] at T1;have E:=I (show mgB m=false by rw[HF.o,g1];rfl);clear g1
         go_wp2_with (go_at_call 103;(with_reducible refine Calls.mono (T1.o _) ?_);rintro e u1 ⟨rfl,O⟩;replace M:=I (M.o.below O);replace Z:=Z.t O;clear O T1;clear bb bn bq aw bx;have bb:=M.c23;have bn:=M.c24;have bq:=M.c25;have aw:=M.c26;have bx:=M.c27)
         go_ret;exact⟨by rw[E.o];rfl,Z.o⟩
        |true=>
         rw[g1] at T1;cases g2:BQ m.ap.a with
         |false=>
          rw[g2] at T2;have E:=I (show mgB m=false by rw[HF.o,g1,g2];rfl);clear g1 g2
          go_wp2_with (first
           |(go_at_call 103;(with_reducible refine Calls.mono (T1.o _) ?_);rintro e u1 ⟨rfl,O⟩;replace M:=I (M.o.below O);replace Z:=Z.t O;clear O T1;clear bb bn bq aw bx;have bb:=M.c23;have bn:=M.c24;have bq:=M.c25;have aw:=M.c26;have bx:=M.c27)
           |(go_at_call 104;(with_reducible refine Calls.mono (T2.o _) ?_);rintro e u2 ⟨rfl,hw⟩;subst hw;clear T2))
          go_ret;exact⟨by rw[E.o];rfl,Z.o⟩
         |true=>
          rw[g2] at T2;cases zA with
          |false=>
           have E:=I (show mgB m=false by rw[HF.o,g1,g2];rfl);clear g1 g2
           go_wp2_with (first
            |(go_at_call 103;(with_reducible refine Calls.mono (T1.o _) ?_);rintro e u1 ⟨rfl,O⟩;replace M:=I (M.o.below O);replace Z:=Z.t O;clear O T1;clear bb bn bq aw bx;have bb:=M.c23;have bn:=M.c24;have bq:=M.c25;have aw:=M.c26;have bx:=M.c27)
            |(go_at_call 104;(with_reducible refine Calls.mono (T2.o _) ?_);rintro e u2 ⟨rfl,hw⟩;subst hw;clear T2))
           go_ret;exact⟨by rw[E.o];rfl,Z.o⟩
          |true=>
           cases zT with
           |false=>
            have E:=I (show mgB m=false by rw[HF.o,g1,g2];rfl);clear g1 g2
            go_wp2_with (first
             |(go_at_call 103;(with_reducible refine Calls.mono (T1.o _) ?_);rintro e u1 ⟨rfl,O⟩;replace M:=I (M.o.below O);replace Z:=Z.t O;clear O T1;clear bb bn bq aw bx;have bb:=M.c23;have bn:=M.c24;have bq:=M.c25;have aw:=M.c26;have bx:=M.c27)
             |(go_at_call 104;(with_reducible refine Calls.mono (T2.o _) ?_);rintro e u2 ⟨rfl,hw⟩;subst hw;clear T2))
            go_ret;exact⟨by rw[E.o];rfl,Z.o⟩
           |true=>
            cases zR with
            |false=>
             have E:=I (show mgB m=false by rw[HF.o,g1,g2];rfl);clear g1 g2
             go_wp2_with (first
              |(go_at_call 103;(with_reducible refine Calls.mono (T1.o _) ?_);rintro e u1 ⟨rfl,O⟩;replace M:=I (M.o.below O);replace Z:=Z.t O;clear O T1;clear bb bn bq aw bx;have bb:=M.c23;have bn:=M.c24;have bq:=M.c25;have aw:=M.c26;have bx:=M.c27)
              |(go_at_call 104;(with_reducible refine Calls.mono (T2.o _) ?_);rintro e u2 ⟨rfl,hw⟩;subst hw;clear T2))
             go_ret;exact⟨by rw[E.o];rfl,Z.o⟩
            |true=>
             have E:=I (show mgB m=zF by rw[HF.o,g1,g2];rfl);clear g1 g2
             go_wp2_with (first
              |(go_at_call 103;(with_reducible refine Calls.mono (T1.o _) ?_);rintro e u1 ⟨rfl,O⟩;replace M:=I (M.o.below O);replace Z:=Z.t O;clear O T1;clear bb bn bq aw bx;have bb:=M.c23;have bn:=M.c24;have bq:=M.c25;have aw:=M.c26;have bx:=M.c27)
              |(go_at_call 104;(with_reducible refine Calls.mono (T2.o _) ?_);rintro e u2 ⟨rfl,hw⟩;subst hw;clear T2))
             go_ret;exact⟨by rw[E.o];rfl,Z.o⟩
       ·exact absurd bz.o m4
open DerR
theorem Wv (m:Mg) (A1 A2 A3 A4 A5 A6:Option Addr) (c1 c2 c3 c4 c5 c6:Nat) (w:World) (hs:mSm m) (bb:m.k=4) (hQ:m.aq=as0) (hT:m.tg=tg0) (hR:m.re=re0) (r1:Rd w w.heap.size A1 (bvs m.tg.t.b)) (r2:Rd w w.heap.size A2 (bvs m.tg.a)) (r3:Rd w w.heap.size A3 (bvs m.re.t.b)) (r4:Rd w w.heap.size A4 (bvs m.re.b)) (r5:Rd w w.heap.size A5 (bvs m.ap.t.b)) (r6:Rd w w.heap.size A6 (bvs m.ap.a)) :
  Calls Tryz.prog 29 #[.agg #[.int .i64 m.k,.string ⟨m.aq.c.1.toArray⟩,.string ⟨m.aq.c.2.toArray⟩,.string ⟨m.aq.s.1.toArray⟩,.string ⟨m.aq.s.2.toArray⟩,.int .i64 m.aq.t,.int .i64 m.aq.no,.string ⟨m.tg.t.s.1.toArray⟩,.string ⟨m.tg.t.s.2.toArray⟩,.int .i64 m.tg.t.k,.slice A1 m.tg.t.b.length c1,.slice A2 m.tg.a.length c2,.string ⟨m.tg.s.1.toArray⟩,.string ⟨m.tg.s.2.toArray⟩,.int .i64 m.tg.u,.int .i64 m.tg.no,.string ⟨m.re.c.1.toArray⟩,.string ⟨m.re.c.2.toArray⟩,.string ⟨m.re.t.s.1.toArray⟩,.string ⟨m.re.t.s.2.toArray⟩,.int .i64 m.re.t.k,.slice A3 m.re.t.b.length c3,.slice A4 m.re.b.length c4,.string ⟨m.ap.t.s.1.toArray⟩,.string ⟨m.ap.t.s.2.toArray⟩,.int .i64 m.ap.t.k,.slice A5 m.ap.t.b.length c5,.slice A6 m.ap.a.length c6,.int .i64 m.fa.e,.int .i64 m.fa.no]] w (EncR w (mgO m)):=by
 have I1:=I (fun w1=>ZO m A1 A2 A3 A4 A5 A6 c1 c2 c3 c4 c5 c6 w1 hs bb hQ hT hR);have av:=I bb;clear bb hQ hT hR;have HI:=I (show(Tryz.prog.info? 95).map (·.size)=some (#[.int .i64 m.k,.string ⟨m.aq.c.1.toArray⟩,.string ⟨m.aq.c.2.toArray⟩,.string ⟨m.aq.s.1.toArray⟩,.string ⟨m.aq.s.2.toArray⟩,.int .i64 m.aq.t,.int .i64 m.aq.no,.string ⟨m.tg.t.s.1.toArray⟩,.string ⟨m.tg.t.s.2.toArray⟩,.int .i64 m.tg.t.k,.slice A1 m.tg.t.b.length c1,.slice A2 m.tg.a.length c2,.string ⟨m.tg.s.1.toArray⟩,.string ⟨m.tg.s.2.toArray⟩,.int .i64 m.tg.u,.int .i64 m.tg.no,.string ⟨m.re.c.1.toArray⟩,.string ⟨m.re.c.2.toArray⟩,.string ⟨m.re.t.s.1.toArray⟩,.string ⟨m.re.t.s.2.toArray⟩,.int .i64 m.re.t.k,.slice A3 m.re.t.b.length c3,.slice A4 m.re.b.length c4,.string ⟨m.ap.t.s.1.toArray⟩,.string ⟨m.ap.t.s.2.toArray⟩,.int .i64 m.ap.t.k,.slice A5 m.ap.t.b.length c5,.slice A6 m.ap.a.length c6,.int .i64 m.fa.e,.int .i64 m.fa.no]:Array Value).size by kernel_rfl);obtain⟨cs,bq⟩:∃cs:Array Value,cs=#[.int .i64 m.k,.string ⟨m.aq.c.1.toArray⟩,.string ⟨m.aq.c.2.toArray⟩,.string ⟨m.aq.s.1.toArray⟩,.string ⟨m.aq.s.2.toArray⟩,.int .i64 m.aq.t,.int .i64 m.aq.no,.string ⟨m.tg.t.s.1.toArray⟩,.string ⟨m.tg.t.s.2.toArray⟩,.int .i64 m.tg.t.k,.slice A1 m.tg.t.b.length c1,.slice A2 m.tg.a.length c2,.string ⟨m.tg.s.1.toArray⟩,.string ⟨m.tg.s.2.toArray⟩,.int .i64 m.tg.u,.int .i64 m.tg.no,.string ⟨m.re.c.1.toArray⟩,.string ⟨m.re.c.2.toArray⟩,.string ⟨m.re.t.s.1.toArray⟩,.string ⟨m.re.t.s.2.toArray⟩,.int .i64 m.re.t.k,.slice A3 m.re.t.b.length c3,.slice A4 m.re.b.length c4,.string ⟨m.ap.t.s.1.toArray⟩,.string ⟨m.ap.t.s.2.toArray⟩,.int .i64 m.ap.t.k,.slice A5 m.ap.t.b.length c5,.slice A6 m.ap.a.length c6,.int .i64 m.fa.e,.int .i64 m.fa.no]:=⟨_,rfl⟩;rw[<-bq] at I1 HI⊢;have EC:=I bq;clear bq;have Z:=I ((Below.refl w.heap.size w).alloc Ag (.cells cs 95));have M:=I (Blk.new w 95 cs);cases hx:mgB m with
 |false=>
  rw[hx] at I1;have E:=I (show mgO m=none by unfold mgO limO;rw[hx];rfl);rw[E.o];clear hx E hs r1 r2 r3 r4 r5 r6;go_enter Tryz.func29,Tryz.ntmps29
  go_wp2_with (first
   |(refine Am (by rfl) 95 (.tmp 1) (by rfl) w.heap.size 0 (by rfl) cs _ (Ad (Blk.new w 95 cs)) Tryz.underlying95 (by rfl) HI.o ?_)
   |(go_at_call 54;refine Aj (I1.o _) ?_;rintro w1 O;replace Z:=Z.t O;clear O I1)
   |fail)
  go_ret2
  exact FW Z.o
 |true=>
  rw[hx] at I1;rcases GW hx with⟨h1,e⟩ | ⟨h1,e⟩ | ⟨h1,e⟩ | ⟨h1,e⟩ | ⟨h1,e⟩
  ·have hk:m.k=1:=by rw[e]
   exact absurd av.o (by rw[hk];decide)
  ·have hk:m.k=2:=by rw[e]
   exact absurd av.o (by rw[hk];decide)
  ·have hk:m.k=3:=by rw[e]
   exact absurd av.o (by rw[hk];decide)
  ·have h':tkB m.ap.t=true/\BQ m.ap.a=true:=by simpa [apB] using h1
   have b1:=GV h'.1;have b2:=GU b1.1;have b3:=(Cq h'.1).1;have b4:=Bm h'.2;have b5:=AE 4 m.ap.a;have hk:m.k=4:=by rw[e]
   have y1:(m.k==1)=false:=by rw[hk];rfl
   have y2:(m.k==2)=false:=by rw[hk];rfl
   have y3:(m.k==3)=false:=by rw[hk];rfl
   have y4:(m.k==4)=true:=by rw[hk];rfl
   have y5:(m.k==5)=false:=by rw[hk];rfl
   have bn:mgE m=elem 110 [tkE m.ap.t,elem 4 m.ap.a].flatten:=by rw[e];rfl
   have hO:∀l,mgE m=l->l.length<=2000->mgO m=some l:=fun l e2 h2=>BS.2 ⟨hx,by rw[e2];exact h2,e2⟩
   have hN:∀l,mgE m=l->¬l.length<=2000->mgO m=none:=fun l e2 h2=>by unfold mgO limO;rw[e2,if_neg (fun h=>h2 h.2)]
   have HO:=I (hO _ bn);have HN:=I (hN _ bn);have T1:=I (fun w1 (h:Below w.heap.size w w1)=>TS m.ap.t A5 c5 w1.heap.size w1 (by omega) (by omega) (by omega) ((r5.below h).more h.size) Ag);have T2:=I (fun w1 (h:Below w.heap.size w w1)=>DerR.Dj m.ap.a A6 m.ap.a.length c6 w1.heap.size w1 ((r6.below h).more h.size) rfl Ag (by omega));have hl:[tkE m.ap.t,elem 4 m.ap.a].flatten.length<=60000:=by rw[Dk];simp only[List.length_append];omega
   have aw:[tkE m.ap.t,elem 4 m.ap.a].flatten.length<=1990:=by rw[Dk];simp only[List.length_append];omega
   have HL:=I (show [tkE m.ap.t,elem 4 m.ap.a].flatten.length<=65535 by omega);have hE:=AE 110 [tkE m.ap.t,elem 4 m.ap.a].flatten;rw[Dk] at hE hl HO HN aw;obtain⟨l1,ca⟩:∃l,l=tkE m.ap.t:=⟨_,rfl⟩;obtain⟨l2,cj⟩:∃l,l=elem 4 m.ap.a:=⟨_,rfl⟩;rw[<-ca] at T1 HL hE hl HO HN aw;rw[<-cj] at T2 HL hE hl HO HN aw;have bx:(elem 110 (l1++l2)).length<=2000:=by omega
   have LM:=I (fun A c w1=>JF (elem 110 (l1++l2)) A _ c w1 rfl bx);rw[HO.o bx];clear h1 e h' hx bn hO hN hk hs r1 r2 r3 r4 r5 r6 hE hl aw b1 b2 b3 b4 b5 ca cj HO HN bx;go_enter Tryz.func29,Tryz.ntmps29
   go_wp2_with (first
    |(refine Am (by rfl) 95 (.tmp 1) (by rfl) w.heap.size 0 (by rfl) cs _ (Ad (Blk.new w 95 cs)) Tryz.underlying95 (by rfl) HI.o ?_)
    |(go_at_call 54;refine Aj (I1.o _) ?_;rintro w0 O;replace M:=I (M.o.below O);replace Z:=Z.t O;clear O I1;replace M:=I (EC.o▸M.o);have k0:=M.c0)
    |fail)
   clear k0;replace M:=I (show Blk w0.drew _ _ _ from M.o.drewN 1);replace Z:=I (show Below _ _ w0.drew from below_drewN Z.o 1)
   go_region_held3 (fun w'=>w'.cell? ⟨w.heap.size,23,none⟩=some (.string ⟨m.ap.t.s.1.toArray⟩)/\w'.cell? ⟨w.heap.size,24,none⟩=some (.string ⟨m.ap.t.s.2.toArray⟩)/\w'.cell? ⟨w.heap.size,25,none⟩=some (.int .i64 m.ap.t.k)/\w'.cell? ⟨w.heap.size,26,none⟩=some (.slice A5 m.ap.t.b.length c5)/\w'.cell? ⟨w.heap.size,27,none⟩=some (.slice A6 m.ap.a.length c6)) (first | exact⟨M.o.cell 23,M.o.cell 24,M.o.cell 25,M.o.cell 26,M.o.cell 27⟩ | exact⟨(M.o.alloc _).cell 23,(M.o.alloc _).cell 24,(M.o.alloc _).cell 25,(M.o.alloc _).cell 26,(M.o.alloc _).cell 27⟩) ((first
    |(go_at_call 59;(with_reducible refine Calls.mono (T1.o _ Z.o) ?_);rintro e w1 ⟨⟨g1,c1,rfl,cn,cq,cc⟩,O⟩;clear T1;have bz:=I cc;replace M:=I (M.o.below O);replace Z:=Z.t O;clear O cc cn cq)
    |(go_at_call 60;(with_reducible refine Calls.mono (T2.o _ Z.o) ?_);rintro e w2 ⟨⟨g2,c2,rfl,cm,ck,cg⟩,O⟩;clear T2;replace bz:=I (Bh bz.o O);have cp:=I cg;replace M:=I (M.o.below O);replace Z:=Z.t O;clear O cg cm ck)
    |(go_at_call 56;refine Calls.mono (Dt 110 [l1,l2] _ 2 2 (w2.heap.size+1) _ (JE bz.o cp.o) rfl (by simp) HL.o (by simp)) ?_;rintro e wz ⟨⟨gz,cz,rfl,cd,cf,cb⟩,O⟩;have bB:=(Below.refl w2.heap.size w2).alloc Ag (.cells #[.slice (some ⟨g1,0,none⟩) l1.length c1,.slice (some ⟨g2,0,none⟩) l2.length c2] 34);have HG:=I (Bg (l:=elem 110 [l1,l2].flatten) ⟨⟨gz,cz,rfl,cd,cf,cb⟩,O⟩ (Z.o.trans (bB.mono Z.o.size)));rw[Dk] at HG;replace M:=I ((M.o.alloc (.cells #[.slice (some ⟨g1,0,none⟩) l1.length c1,.slice (some ⟨g2,0,none⟩) l2.length c2] 34)).below O);clear bB cd cf cb O)
    |(go_at_call 55;refine Aj (LM.o _ _ _) ?_;rintro wy rfl)))
   go_wp2
   go_ret2
   exact FX HG.o
  ·have hk:m.k=5:=by rw[e]
   exact absurd av.o (by rw[hk];decide)
end Ms
end Go.Proofs.YtfbnjcdhipplpaaGreat
