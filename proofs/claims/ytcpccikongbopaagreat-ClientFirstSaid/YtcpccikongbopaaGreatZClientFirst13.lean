import Derived.Test.YtcpccikongbopaaGreatZClientFirst12
set_option maxHeartbeats 25600000
set_option maxRecDepth 100000
set_option linter.unusedVariables false
set_option linter.unusedSimpArgs false
namespace Go.Proofs.YtcpccikongbopaaGreat
namespace Ms
open Go.RowKit Ad DerP
abbrev prV (p:Pr):Value:=.agg #[.string ⟨p.1.toArray⟩,.string ⟨p.2.toArray⟩]
def SlB (w:World) (B:Nat) (v:Value) (l:L):Prop:=∃A c,v=.slice A l.length c/\l.length<=c/\Rd w B A (bvs l)
theorem SlB.keep {w w':World} {B:Nat} {v:Value} {l:L} (h:SlB w B v l) (M:Below B w w'):SlB w' B v l:=by
 obtain⟨A,c,F,D,E⟩:=h;exact⟨A,c,F,D,E.below M⟩
theorem SlB.more {w:World} {B B':Nat} {v:Value} {l:L} (h:SlB w B v l) (hB:B<=B'):SlB w B' v l:=by
 obtain⟨A,c,F,D,E⟩:=h;exact⟨A,c,F,D,E.more hB⟩
theorem SlB.nil (w:World) (B:Nat):SlB w B (.slice none 0 0) []:=⟨none,0,rfl,Nat.le_refl _,.inl rfl⟩
def prC (p:Pr):List Value:=[.string ⟨p.1.toArray⟩,.string ⟨p.2.toArray⟩]
def tkC (t:Tk) (b:Value):List Value:=[.string ⟨t.s.1.toArray⟩,.string ⟨t.s.2.toArray⟩,.int .i64 t.k,b]
def asC (q:As):List Value:=[.string ⟨q.c.1.toArray⟩,.string ⟨q.c.2.toArray⟩,.string ⟨q.s.1.toArray⟩,.string ⟨q.s.2.toArray⟩,.int .i64 q.t,.int .i64 q.no]
def tgC (q:Tg) (b a:Value):List Value:=tkC q.t b++[a,.string ⟨q.s.1.toArray⟩,.string ⟨q.s.2.toArray⟩,.int .i64 q.u,.int .i64 q.no]
def reC (q:Re) (b d:Value):List Value:=prC q.c++(tkC q.t b++[d])
def apC (q:Ap) (b a:Value):List Value:=tkC q.t b++[a]
def faC (q:Fa):List Value:=[.int .i64 q.e,.int .i64 q.no]
def rpC (p:Rp):List Value:=bvs p.ss++(prC p.s++[.int .i64 p.st,.int .i64 p.en,.int .i64 p.no])
structure Six where
 b1:Value
 a1:Value
 b2:Value
 d2:Value
 b3:Value
 a3:Value
structure SixR (w:World) (B:Nat) (m:Mg) (s:Six):Prop where
 b1:SlB w B s.b1 m.tg.t.b
 a1:SlB w B s.a1 m.tg.a
 b2:SlB w B s.b2 m.re.t.b
 d2:SlB w B s.d2 m.re.b
 b3:SlB w B s.b3 m.ap.t.b
 a3:SlB w B s.a3 m.ap.a
theorem SixR.keep {w w':World} {B:Nat} {m:Mg} {s:Six} (h:SixR w B m s) (D:Below B w w'):SixR w' B m s:=⟨h.b1.keep D,h.a1.keep D,h.b2.keep D,h.d2.keep D,h.b3.keep D,h.a3.keep D⟩
theorem AW {w w':World} {A:Option Addr} {l:L} (h:Rd w w.heap.size A (bvs l)) (D:Below w.heap.size w w'):Rd w' w'.heap.size A (bvs l):=(h.below D).more D.size
section
variable {w:World} {t:TypeId} {A1 A2 A3 A4 A5:Option Addr} {l1 l2 l3 l4 l5:L} {c1 c2 c3 c4 c5:Nat}
theorem JF (E:Rd w w.heap.size A1 (bvs l1)) (F:Rd w w.heap.size A2 (bvs l2)) :
  DerW.Rds (w.alloc (.cells #[.slice A1 l1.length c1,.slice A2 l2.length c2] t)) (w.heap.size+1) (some ⟨w.heap.size,0,none⟩) [l1,l2]:=by
 refine .inr ⟨w.heap.size,0,rfl,by omega,fun i l D=>?_⟩
 match i,D with
 |0,D=>injection D with D;subst D;exact⟨A1,c1,(Blk.new w t _).cell 0,(E.alloc Ae _).more (by omega)⟩
 |1,D=>injection D with D;subst D;exact⟨A2,c2,(Blk.new w t _).cell 1,(F.alloc Ae _).more (by omega)⟩
 |i+2,D=>rw[List.getElem?_eq_none (by simp)] at D;cases D
theorem EW (E:Rd w w.heap.size A1 (bvs l1)) (F:Rd w w.heap.size A2 (bvs l2)) (M:Rd w w.heap.size A3 (bvs l3)) :
  DerW.Rds (w.alloc (.cells #[.slice A1 l1.length c1,.slice A2 l2.length c2,.slice A3 l3.length c3] t)) (w.heap.size+1) (some ⟨w.heap.size,0,none⟩) [l1,l2,l3]:=by
 refine .inr ⟨w.heap.size,0,rfl,by omega,fun i l D=>?_⟩
 match i,D with
 |0,D=>injection D with D;subst D;exact⟨A1,c1,(Blk.new w t _).cell 0,(E.alloc Ae _).more (by omega)⟩
 |1,D=>injection D with D;subst D;exact⟨A2,c2,(Blk.new w t _).cell 1,(F.alloc Ae _).more (by omega)⟩
 |2,D=>injection D with D;subst D;exact⟨A3,c3,(Blk.new w t _).cell 2,(M.alloc Ae _).more (by omega)⟩
 |i+3,D=>rw[List.getElem?_eq_none (by simp)] at D;cases D
theorem MP (E:Rd w w.heap.size A1 (bvs l1)) (F:Rd w w.heap.size A2 (bvs l2)) (M:Rd w w.heap.size A3 (bvs l3)) (O:Rd w w.heap.size A4 (bvs l4)) :
  DerW.Rds (w.alloc (.cells #[.slice A1 l1.length c1,.slice A2 l2.length c2,.slice A3 l3.length c3,.slice A4 l4.length c4] t)) (w.heap.size+1) (some ⟨w.heap.size,0,none⟩) [l1,l2,l3,l4]:=by
 refine .inr ⟨w.heap.size,0,rfl,by omega,fun i l D=>?_⟩
 match i,D with
 |0,D=>injection D with D;subst D;exact⟨A1,c1,(Blk.new w t _).cell 0,(E.alloc Ae _).more (by omega)⟩
 |1,D=>injection D with D;subst D;exact⟨A2,c2,(Blk.new w t _).cell 1,(F.alloc Ae _).more (by omega)⟩
 |2,D=>injection D with D;subst D;exact⟨A3,c3,(Blk.new w t _).cell 2,(M.alloc Ae _).more (by omega)⟩
 |3,D=>injection D with D;subst D;exact⟨A4,c4,(Blk.new w t _).cell 3,(O.alloc Ae _).more (by omega)⟩
 |i+4,D=>rw[List.getElem?_eq_none (by simp)] at D;cases D
theorem JG (F:Rd w w.heap.size A1 (bvs l1)) (E:Rd w w.heap.size A2 (bvs l2)) (O:Rd w w.heap.size A3 (bvs l3)) (X:Rd w w.heap.size A4 (bvs l4)) (M:Rd w w.heap.size A5 (bvs l5)) :
  DerW.Rds (w.alloc (.cells #[.slice A1 l1.length c1,.slice A2 l2.length c2,.slice A3 l3.length c3,.slice A4 l4.length c4,.slice A5 l5.length c5] t)) (w.heap.size+1) (some ⟨w.heap.size,0,none⟩) [l1,l2,l3,l4,l5]:=by
 refine .inr ⟨w.heap.size,0,rfl,by omega,fun i l D=>?_⟩
 match i,D with
 |0,D=>injection D with D;subst D;exact⟨A1,c1,(Blk.new w t _).cell 0,(F.alloc Ae _).more (by omega)⟩
 |1,D=>injection D with D;subst D;exact⟨A2,c2,(Blk.new w t _).cell 1,(E.alloc Ae _).more (by omega)⟩
 |2,D=>injection D with D;subst D;exact⟨A3,c3,(Blk.new w t _).cell 2,(O.alloc Ae _).more (by omega)⟩
 |3,D=>injection D with D;subst D;exact⟨A4,c4,(Blk.new w t _).cell 3,(X.alloc Ae _).more (by omega)⟩
 |4,D=>injection D with D;subst D;exact⟨A5,c5,(Blk.new w t _).cell 4,(M.alloc Ae _).more (by omega)⟩
 |i+5,D=>rw[List.getElem?_eq_none (by simp)] at D;cases D
end
theorem LI (n a b:Int) (w:World):Calls Tryz.prog 128 #[.int .i64 n,.int .i64 a,.int .i64 b] w fun e w'=>e=.returned (.bool (inB n a b))/\w=w':=by
 cases h1:decide (a<=n) with
 |false=>
  go_enter Tryz.func128,Tryz.ntmps128
  go_wp2
  go_ret;exact⟨by rw[inB,h1];rfl,rfl⟩
 |true=>
  go_enter Tryz.func128,Tryz.ntmps128
  go_wp2
  go_ret;exact⟨by rw[inB,h1];rfl,rfl⟩
theorem Iv (n:Int) (w:World):Calls Tryz.prog 128 #[.int .i64 n,.int .i64 0,.int .i64 1073741824] w fun e w'=>e=.returned (.bool (tmB n))/\w=w':=LI n 0 1073741824 w
theorem Qt (b:L):inB (b.length:Int) 1 800=Bv b:=by
 rw[inB,Bv];have E:decide ((1:Int)<=(b.length:Int))=decide (1<=b.length):=by rw[decide_eq_decide];omega
 have D:decide ((b.length:Int)<=800)=decide (b.length<=800):=by rw[decide_eq_decide];omega
 rw[E,D]
theorem KG (b:L) (A:Option Addr) (c:Nat) (w:World):Calls Tryz.prog 127 #[.slice A b.length c] w fun e w'=>e=.returned (.bool (Bv b))/\w=w':=by
 have c1:=LI (b.length:Int) 1 800 w;rw[Qt] at c1;go_enter Tryz.func127,Tryz.ntmps127
 go_wp2_with (go_at_call 128;refine Ag c1 ?_;rintro D rfl)
 go_ret;exact⟨rfl,rfl⟩
theorem Od (l:L) (A:Option Addr) (n c:Nat) (w:World) (D:n=l.length):Calls Tryz.prog 72 #[.slice A n c] w fun e w'=>e=.returned (.tuple (if l.length<=2000 then #[.slice A n c,.int .i64 0] else #[.slice none 0 0,.int .i64 1]))/\w=w':=by
 subst D
 by_cases h:l.length<=2000
 ·rw[if_pos h]
  have E:decide ((2000:Int)<(l.length:Int))=false:=decide_eq_false (by omega);clear h;go_enter Tryz.func72,Tryz.ntmps72
  go_wp2
  go_ret2
  exact⟨rfl,rfl⟩
 ·rw[if_neg h]
  have E:decide ((2000:Int)<(l.length:Int))=true:=decide_eq_true (by omega);clear h;go_enter Tryz.func72,Tryz.ntmps72
  go_wp2
  go_ret2
  exact⟨rfl,rfl⟩
theorem AM (p:Pr) (w:World) (D:p.1.length<=1000000000) (E:p.2.length<=1000000000):Calls Tryz.prog 56 #[prV p] w fun e w'=>e=.returned (.bool (prB p))/\Below w.heap.size w w':=Nm.Ev p.1 p.2 w D E
def pSm (p:Pr):Prop:=p.1.length<=1000000000/\p.2.length<=1000000000
theorem LJ (t:Tk) (A:Option Addr) (c:Nat) (w:World) (hs:pSm t.s):Calls Tryz.prog 126 #[.agg #[.string ⟨t.s.1.toArray⟩,.string ⟨t.s.2.toArray⟩,.int .i64 t.k,.slice A t.b.length c]] w fun e w'=>e=.returned (.bool (tkB t))/\Below w.heap.size w w':=by
 have X:=(Below.refl w.heap.size w).alloc Ae (.cells #[.string ⟨t.s.1.toArray⟩,.string ⟨t.s.2.toArray⟩,.int .i64 t.k,.slice A t.b.length c] 53);have F:=I X;have M:=I (Blk.new w 53 #[.string ⟨t.s.1.toArray⟩,.string ⟨t.s.2.toArray⟩,.int .i64 t.k,.slice A t.b.length c]);have c1:=AM t.s (w.alloc (.cells #[.string ⟨t.s.1.toArray⟩,.string ⟨t.s.2.toArray⟩,.int .i64 t.k,.slice A t.b.length c] 53)) hs.1 hs.2;have Y:=I (fun O=>LI t.k 1 255 O);have Z:=I (fun O=>KG t.b A c O);unfold prV at c1;clear X;cases h1:prB t.s with
 |false=>
  rw[h1] at c1;have E:=I (show tkB t=false by rw[tkB,h1];rfl);clear h1;go_enter Tryz.func126,Tryz.ntmps126
  go_wp2_with (go_at_call 56;refine Ag c1 ?_;rintro O D;replace F:=F.t D;clear D c1)
  go_ret;exact⟨by rw[E.o];rfl,F.o⟩
 |true=>
  rw[h1] at c1;cases h2:inB t.k 1 255 with
  |false=>
   rw[h2] at Y;have E:=I (show tkB t=false by rw[tkB,h1,h2];rfl);clear h1 h2;go_enter Tryz.func126,Tryz.ntmps126
   go_wp2_with (first
    |(go_at_call 56;refine Ag c1 ?_;rintro O D;replace M:=I (M.o.below D);replace F:=F.t D;clear D c1;have k2:=M.o.cell 2;simp only[List.getElem?_toArray,List.getElem?_cons_zero,List.getElem?_cons_succ] at k2)
    |(go_at_call 128;refine Ag (Y.o _) ?_;rintro w2 rfl))
   go_ret;exact⟨by rw[E.o];rfl,F.o⟩
  |true=>
   rw[h2] at Y;have E:=I (show tkB t=Bv t.b by rw[tkB,h1,h2];rfl);clear h1 h2;go_enter Tryz.func126,Tryz.ntmps126
   go_wp2_with (first
    |(go_at_call 56;refine Ag c1 ?_;rintro O D;replace M:=I (M.o.below D);replace F:=F.t D;clear D c1;have k2:=M.o.cell 2;have k3:=M.o.cell 3;simp only[List.getElem?_toArray,List.getElem?_cons_zero,List.getElem?_cons_succ] at k2 k3)
    |(go_at_call 128;refine Ag (Y.o _) ?_;rintro w2 rfl)
    |(go_at_call 127;refine Ag (Z.o _) ?_;rintro w3 rfl))
   go_ret;exact⟨by rw[E.o];rfl,F.o⟩
open DerR
theorem Ba {w0 w:World} {l:L} {e:Ending} {w':World} (h:BS w l e w') (D:Below w0.heap.size w0 w):BS w0 l e w':=by
 obtain⟨⟨g,c,M,E,F,X⟩,O⟩:=h;exact⟨⟨g,c,M,Nat.le_trans D.size E,F,X⟩,D.trans (O.mono D.size)⟩
theorem DO (p:Pr) (w:World) (hs:p.1.length<=20000) (aj:p.2.length<=20000):Calls Tryz.prog 74 #[.agg #[.string ⟨p.1.toArray⟩,.string ⟨p.2.toArray⟩]] w (BS w (prE p)):=by
 have ad:=(Below.refl w.heap.size w).alloc Ae (.cells #[.string ⟨p.1.toArray⟩,.string ⟨p.2.toArray⟩] 36);have F:=I ad;have D:=I (Blk.new w 36 #[.string ⟨p.1.toArray⟩,.string ⟨p.2.toArray⟩]);have T1:=I (fun w1=>DerR.Fq p.1 w1 (by omega));have T2:=I (fun w1=>DerR.Fq p.2 w1 (by omega));have e1:=Ax 27 p.1;have e2:=Ax 27 p.2;have HL:=I (show [elem 27 p.1,elem 27 p.2].flatten.length<=65535 by rw[Dy,List.length_append];omega);have HE:=I (show prE p=elem 48 [elem 27 p.1,elem 27 p.2].flatten from rfl);obtain⟨l1,X⟩:∃l,l=elem 27 p.1:=⟨_,rfl⟩;obtain⟨l2,ae⟩:∃l,l=elem 27 p.2:=⟨_,rfl⟩;rw[<-X] at T1 HL HE;rw[<-ae] at T2 HL HE;rw[HE.o,Dy];clear ad e1 e2 hs aj X ae HE;go_enter Tryz.func74,Tryz.ntmps74
 go_wp2
 obtain⟨W,eW⟩:=Ah (w.alloc (.cells #[.string ⟨p.1.toArray⟩,.string ⟨p.2.toArray⟩] 36));rw[<-eW] at F D⊢;clear eW;replace D:=I (show Blk W.drew _ _ _ from D.o.drewN 1);replace F:=I (show Below _ _ W.drew from below_drewN F.o 1)
 go_region_held3 (fun w'=>w'.cell? ⟨w.heap.size,0,none⟩=some (.string ⟨p.1.toArray⟩)/\w'.cell? ⟨w.heap.size,1,none⟩=some (.string ⟨p.2.toArray⟩)) (first | exact⟨D.o.cell 0,D.o.cell 1⟩ | exact⟨(D.o.alloc _).cell 0,(D.o.alloc _).cell 1⟩) ((first
  |(go_at_call 129;(with_reducible refine Calls.mono (T1.o _) ?_);rintro e w1 ⟨⟨g1,c1,rfl,ai,ak,Z⟩,E⟩;clear T1;have M:=I Z;replace D:=I (D.o.below E);replace F:=F.t E;clear E Z ai ak)
  |(go_at_call 129;(with_reducible refine Calls.mono (T2.o _) ?_);rintro e w2 ⟨⟨g2,c2,rfl,al,ag,af⟩,E⟩;clear T2;replace M:=I (AW M.o E);have ah:=I af;replace D:=I (D.o.below E);replace F:=F.t E;clear E af al ag)
  |(go_at_call 73;refine Calls.mono (CY 48 [l1,l2] _ 2 2 (w2.heap.size+1) _ (JF M.o ah.o) rfl (by simp) HL.o (by simp)) ?_;rintro e wz ⟨⟨gz,cz,rfl,ab,Y,aa⟩,E⟩;have O:=(Below.refl w2.heap.size w2).alloc Ae (.cells #[.slice (some ⟨g1,0,none⟩) l1.length c1,.slice (some ⟨g2,0,none⟩) l2.length c2] 25);have HG:=I (Ba (l:=elem 48 [l1,l2].flatten) ⟨⟨gz,cz,rfl,ab,Y,aa⟩,E⟩ (F.o.trans (O.mono F.o.size)));rw[Dy] at HG;replace D:=I ((D.o.alloc (.cells #[.slice (some ⟨g1,0,none⟩) l1.length c1,.slice (some ⟨g2,0,none⟩) l2.length c2] 25)).below E);clear O ab Y aa E)))
 go_wp2
 go_ret;exact HG.o
theorem Qu (t:Tk) (A:Option Addr) (c B:Nat) (w:World) (hs:t.s.1.length<=10000) (ao:t.s.2.length<=10000) (au:t.b.length<=20000) (hr:Rd w B A (bvs t.b)) (hB:B<=w.heap.size) :
  Calls Tryz.prog 76 #[.agg #[.string ⟨t.s.1.toArray⟩,.string ⟨t.s.2.toArray⟩,.int .i64 t.k,.slice A t.b.length c]] w (BS w (tkE t)):=by
 have ad:=(Below.refl w.heap.size w).alloc Ae (.cells #[.string ⟨t.s.1.toArray⟩,.string ⟨t.s.2.toArray⟩,.int .i64 t.k,.slice A t.b.length c] 53);have F:=I ad;have D:=I (Blk.new w 53 #[.string ⟨t.s.1.toArray⟩,.string ⟨t.s.2.toArray⟩,.int .i64 t.k,.slice A t.b.length c]);have T1:=I (fun O=>DO t.s O (by omega) (by omega));have T2:=I (fun O=>DerR.BB t.k O);have T3:=I (fun O (h:Below w.heap.size w O)=>DerR.CU t.b A t.b.length c O.heap.size O (((hr.more hB).below h).more h.size) rfl Ae (by omega));have e0:=Ax 48 [elem 27 t.s.1,elem 27 t.s.2].flatten;have e1:=Ax 27 t.s.1;have e2:=Ax 27 t.s.2;have e3:=AB t.k;have e4:=Ax 4 t.b;rw[Dy,List.length_append] at e0;have HL:=I (show [prE t.s,encI t.k,elem 4 t.b].flatten.length<=65535 by rw[Dz,List.length_append,List.length_append,prE,Dy];omega);have Z:=I (show tkE t=elem 97 [prE t.s,encI t.k,elem 4 t.b].flatten from rfl);obtain⟨l1,ae⟩:∃l,l=prE t.s:=⟨_,rfl⟩;obtain⟨l2,ah⟩:∃l,l=encI t.k:=⟨_,rfl⟩;obtain⟨l3,ai⟩:∃l,l=elem 4 t.b:=⟨_,rfl⟩;rw[<-ae] at T1 HL Z;rw[<-ah] at T2 HL Z;rw[<-ai] at T3 HL Z;rw[Z.o,Dz];clear ad e0 e1 e2 e3 e4 hs ao au hr ae ah ai Z;go_enter Tryz.func76,Tryz.ntmps76
 go_wp2
 obtain⟨W,eW⟩:=Ah (w.alloc (.cells #[.string ⟨t.s.1.toArray⟩,.string ⟨t.s.2.toArray⟩,.int .i64 t.k,.slice A t.b.length c] 53));rw[<-eW] at F D⊢;clear eW;replace D:=I (show Blk W.drew _ _ _ from D.o.drewN 1);replace F:=I (show Below _ _ W.drew from below_drewN F.o 1)
 go_region_held3 (fun w'=>w'.cell? ⟨w.heap.size,0,none⟩=some (.string ⟨t.s.1.toArray⟩)/\w'.cell? ⟨w.heap.size,1,none⟩=some (.string ⟨t.s.2.toArray⟩)/\w'.cell? ⟨w.heap.size,2,none⟩=some (.int .i64 t.k)/\w'.cell? ⟨w.heap.size,3,none⟩=some (.slice A t.b.length c)) (first | exact⟨D.o.cell 0,D.o.cell 1,D.o.cell 2,D.o.cell 3⟩ | exact⟨(D.o.alloc _).cell 0,(D.o.alloc _).cell 1,(D.o.alloc _).cell 2,(D.o.alloc _).cell 3⟩) ((first
  |(go_at_call 74;(with_reducible refine Calls.mono (T1.o _) ?_);rintro e O ⟨⟨g1,c1,rfl,al,aw,ab⟩,E⟩;clear T1;have M:=I ab;replace D:=I (D.o.below E);replace F:=F.t E;clear E ab al aw)
  |(go_at_call 75;(with_reducible refine Calls.mono (T2.o _) ?_);rintro e w2 ⟨⟨g2,c2,rfl,ay,ar,ak⟩,E⟩;clear T2;replace M:=I (AW M.o E);have X:=I ak;replace D:=I (D.o.below E);replace F:=F.t E;clear E ak ay ar)
  |(go_at_call 77;(with_reducible refine Calls.mono (T3.o _ F.o) ?_);rintro e w3 ⟨⟨g3,c3,rfl,ax,an,aj⟩,E⟩;clear T3;replace M:=I (AW M.o E);replace X:=I (AW X.o E);have av:=I aj;replace D:=I (D.o.below E);replace F:=F.t E;clear E aj ax an)
  |(go_at_call 73;refine Calls.mono (CY 97 [l1,l2,l3] _ 3 3 (w3.heap.size+1) _ (EW M.o X.o av.o) rfl (by simp) HL.o (by simp)) ?_;rintro e wz ⟨⟨gz,cz,rfl,ag,aa,af⟩,E⟩;have Y:=(Below.refl w3.heap.size w3).alloc Ae (.cells #[.slice (some ⟨g1,0,none⟩) l1.length c1,.slice (some ⟨g2,0,none⟩) l2.length c2,.slice (some ⟨g3,0,none⟩) l3.length c3] 25);have HG:=I (Ba (l:=elem 97 [l1,l2,l3].flatten) ⟨⟨gz,cz,rfl,ag,aa,af⟩,E⟩ (F.o.trans (Y.mono F.o.size)));rw[Dz] at HG;replace D:=I ((D.o.alloc (.cells #[.slice (some ⟨g1,0,none⟩) l1.length c1,.slice (some ⟨g2,0,none⟩) l2.length c2,.slice (some ⟨g3,0,none⟩) l3.length c3] 25)).below E);clear Y ag aa af E)))
 go_wp2
 go_ret;exact HG.o
end Ms
namespace Ms
open Go.RowKit Ad DerP
theorem Qv (q:As) (w:World) (hs:pSm q.c) (ab:pSm q.s):Calls Tryz.prog 124 #[.agg #[.string ⟨q.c.1.toArray⟩,.string ⟨q.c.2.toArray⟩,.string ⟨q.s.1.toArray⟩,.string ⟨q.s.2.toArray⟩,.int .i64 q.t,.int .i64 q.no]] w fun e w'=>e=.returned (.bool (asB q))/\Below w.heap.size w w':=by
 have aa:=(Below.refl w.heap.size w).alloc Ae (.cells #[.string ⟨q.c.1.toArray⟩,.string ⟨q.c.2.toArray⟩,.string ⟨q.s.1.toArray⟩,.string ⟨q.s.2.toArray⟩,.int .i64 q.t,.int .i64 q.no] 51);have Z:=I aa;have D:=I (Blk.new w 51 #[.string ⟨q.c.1.toArray⟩,.string ⟨q.c.2.toArray⟩,.string ⟨q.s.1.toArray⟩,.string ⟨q.s.2.toArray⟩,.int .i64 q.t,.int .i64 q.no]);clear aa;have T1:=I (fun w1=>AM q.c w1 hs.1 hs.2);have T2:=I (fun w1=>AM q.s w1 ab.1 ab.2);have T3:=I (fun w1=>Iv q.t w1);have T4:=I (fun w1=>Iv q.no w1);cases h1:prB q.c with
 |false=>
  rw[h1] at T1;have E:=I (show asB q=false by rw[asB,h1];rfl);clear h1;go_enter Tryz.func124,Tryz.ntmps124
  go_wp2_with (go_at_call 56;(with_reducible refine Calls.mono (T1.o _) ?_);rintro e w1 ⟨rfl,F⟩;replace D:=I (D.o.below F);replace Z:=Z.t F;clear F T1;(try clear O k1 k2 X M Y);have O:=D.o.cell 0;have k1:=D.o.cell 1;have k2:=D.o.cell 2;have X:=D.o.cell 3;have M:=D.o.cell 4;have Y:=D.o.cell 5;simp only[List.getElem?_toArray,List.getElem?_cons_zero,List.getElem?_cons_succ] at O k1 k2 X M Y)
  go_ret;exact⟨by rw[E.o];rfl,Z.o⟩
 |true=>
  rw[h1] at T1;cases h2:prB q.s with
  |false=>
   rw[h2] at T2;have E:=I (show asB q=false by rw[asB,h1,h2];rfl);clear h1 h2;go_enter Tryz.func124,Tryz.ntmps124
   go_wp2_with (first
    |(go_at_call 56;(with_reducible refine Calls.mono (T1.o _) ?_);rintro e w1 ⟨rfl,F⟩;replace D:=I (D.o.below F);replace Z:=Z.t F;clear F T1;(try clear O k1 k2 X M Y);have O:=D.o.cell 0;have k1:=D.o.cell 1;have k2:=D.o.cell 2;have X:=D.o.cell 3;have M:=D.o.cell 4;have Y:=D.o.cell 5;simp only[List.getElem?_toArray,List.getElem?_cons_zero,List.getElem?_cons_succ] at O k1 k2 X M Y)
    |(go_at_call 56;(with_reducible refine Calls.mono (T2.o _) ?_);rintro e w2 ⟨rfl,F⟩;replace D:=I (D.o.below F);replace Z:=Z.t F;clear F T2;(try clear O k1 k2 X M Y);have O:=D.o.cell 0;have k1:=D.o.cell 1;have k2:=D.o.cell 2;have X:=D.o.cell 3;have M:=D.o.cell 4;have Y:=D.o.cell 5;simp only[List.getElem?_toArray,List.getElem?_cons_zero,List.getElem?_cons_succ] at O k1 k2 X M Y))
   go_ret;exact⟨by rw[E.o];rfl,Z.o⟩
  |true=>
   rw[h2] at T2;cases h3:tmB q.t with
   |false=>
    rw[h3] at T3;have E:=I (show asB q=false by rw[asB,h1,h2,h3];rfl);clear h1 h2 h3;go_enter Tryz.func124,Tryz.ntmps124
    go_wp2_with (first
     |(go_at_call 56;(with_reducible refine Calls.mono (T1.o _) ?_);rintro e w1 ⟨rfl,F⟩;replace D:=I (D.o.below F);replace Z:=Z.t F;clear F T1;(try clear O k1 k2 X M Y);have O:=D.o.cell 0;have k1:=D.o.cell 1;have k2:=D.o.cell 2;have X:=D.o.cell 3;have M:=D.o.cell 4;have Y:=D.o.cell 5;simp only[List.getElem?_toArray,List.getElem?_cons_zero,List.getElem?_cons_succ] at O k1 k2 X M Y)
     |(go_at_call 56;(with_reducible refine Calls.mono (T2.o _) ?_);rintro e w2 ⟨rfl,F⟩;replace D:=I (D.o.below F);replace Z:=Z.t F;clear F T2;(try clear O k1 k2 X M Y);have O:=D.o.cell 0;have k1:=D.o.cell 1;have k2:=D.o.cell 2;have X:=D.o.cell 3;have M:=D.o.cell 4;have Y:=D.o.cell 5;simp only[List.getElem?_toArray,List.getElem?_cons_zero,List.getElem?_cons_succ] at O k1 k2 X M Y)
     |(go_at_call 128;(with_reducible refine Calls.mono (T3.o _) ?_);rintro e w3 ⟨rfl,hw⟩;subst hw;clear T3))
    go_ret;exact⟨by rw[E.o];rfl,Z.o⟩
   |true=>
    rw[h3] at T3;have E:=I (show asB q=tmB q.no by rw[asB,h1,h2,h3];rfl);clear h1 h2 h3;go_enter Tryz.func124,Tryz.ntmps124
    go_wp2_with (first
     |(go_at_call 56;(with_reducible refine Calls.mono (T1.o _) ?_);rintro e w1 ⟨rfl,F⟩;replace D:=I (D.o.below F);replace Z:=Z.t F;clear F T1;(try clear O k1 k2 X M Y);have O:=D.o.cell 0;have k1:=D.o.cell 1;have k2:=D.o.cell 2;have X:=D.o.cell 3;have M:=D.o.cell 4;have Y:=D.o.cell 5;simp only[List.getElem?_toArray,List.getElem?_cons_zero,List.getElem?_cons_succ] at O k1 k2 X M Y)
     |(go_at_call 56;(with_reducible refine Calls.mono (T2.o _) ?_);rintro e w2 ⟨rfl,F⟩;replace D:=I (D.o.below F);replace Z:=Z.t F;clear F T2;(try clear O k1 k2 X M Y);have O:=D.o.cell 0;have k1:=D.o.cell 1;have k2:=D.o.cell 2;have X:=D.o.cell 3;have M:=D.o.cell 4;have Y:=D.o.cell 5;simp only[List.getElem?_toArray,List.getElem?_cons_zero,List.getElem?_cons_succ] at O k1 k2 X M Y)
     |(go_at_call 128;(with_reducible refine Calls.mono (T3.o _) ?_);rintro e w3 ⟨rfl,hw⟩;subst hw;clear T3)
     |(go_at_call 128;(with_reducible refine Calls.mono (T4.o _) ?_);rintro e w4 ⟨rfl,hw⟩;subst hw;clear T4))
    go_ret;exact⟨by rw[E.o];rfl,Z.o⟩
theorem Fs {p:Rp} (hk:p.ss.length=32) {g:Nat} {t:TypeId} {w':World} (h:Blk w' g t (rpC p).toArray):w'.cell? ⟨g,32,none⟩=some (.string ⟨p.s.1.toArray⟩)/\w'.cell? ⟨g,33,none⟩=some (.string ⟨p.s.2.toArray⟩)/\w'.cell? ⟨g,34,none⟩=some (.int .i64 p.st)/\w'.cell? ⟨g,35,none⟩=some (.int .i64 p.en)/\w'.cell? ⟨g,36,none⟩=some (.int .i64 p.no):=by
 have D:(bvs p.ss).length=32:=by rw[Ao];exact hk
 have key:∀j,w'.cell? ⟨g,32+j,none⟩=(prC p.s++[.int .i64 p.st,.int .i64 p.en,.int .i64 p.no])[j]?:=fun j=>by
  rw[h.cell,List.getElem?_toArray,rpC,List.getElem?_append_right (by omega),D,Nat.add_sub_cancel_left]
 exact⟨key 0,key 1,key 2,key 3,key 4⟩
theorem Fb {p:Rp} (hk:p.ss.length=32):(rpC p).toArray.size=37:=by
 simp [rpC,prC,Ao,hk]
theorem Oe (p:Rp) (w:World) (hk:p.ss.length=32) (hs:pSm p.s):Calls Tryz.prog 78 #[.agg (rpC p).toArray] w fun e w'=>e=.returned (.bool (rpB p))/\Below w.heap.size w w':=by
 have HI:=I (show(Tryz.prog.info? 110).map (·.size)=some (rpC p).toArray.size by rw[Fb hk];kernel_rfl);have CF:=I (show ∀w':World,Blk w' w.heap.size 110 (rpC p).toArray->w'.cell? ⟨w.heap.size,32,none⟩=some (.string ⟨p.s.1.toArray⟩)/\w'.cell? ⟨w.heap.size,33,none⟩=some (.string ⟨p.s.2.toArray⟩)/\w'.cell? ⟨w.heap.size,34,none⟩=some (.int .i64 p.st)/\w'.cell? ⟨w.heap.size,35,none⟩=some (.int .i64 p.en)/\w'.cell? ⟨w.heap.size,36,none⟩=some (.int .i64 p.no) from fun w' h=>Fs hk h);obtain⟨cs,aa⟩:=Ah ((rpC p).toArray);rw[<-aa] at HI CF⊢;clear aa;have M:=I ((Below.refl w.heap.size w).alloc Ae (.cells cs 110));have F:=I (Blk.new w 110 cs);have X:=I (fun O=>AM p.s O hs.1 hs.2);have T2:=I (fun O=>Iv p.st O);have T3:=I (fun O=>Iv p.en O);have T4:=I (fun O=>Iv p.no O);obtain⟨Z,k1,k2,k3,Y⟩:=CF.o _ F.o;cases h1:prB p.s with
 |false=>
  rw[h1] at X;have E:=I (show rpB p=false by rw[rpB,h1];rfl);clear h1;go_enter Tryz.func78,Tryz.ntmps78
  go_wp2_with (go_at_call 56;(with_reducible refine Calls.mono (X.o _) ?_);rintro e O ⟨rfl,D⟩;replace F:=I (F.o.below D);replace M:=M.t D;clear D X;(try clear Z k1 k2 k3 Y);obtain⟨Z,k1,k2,k3,Y⟩:=CF.o _ F.o)
  go_ret;exact⟨by rw[E.o];rfl,M.o⟩
 |true=>
  rw[h1] at X;cases h2:tmB p.st with
  |false=>
   rw[h2] at T2;have E:=I (show rpB p=false by rw[rpB,h1,h2];rfl);clear h1 h2;go_enter Tryz.func78,Tryz.ntmps78
   go_wp2_with (first
    |(go_at_call 56;(with_reducible refine Calls.mono (X.o _) ?_);rintro e O ⟨rfl,D⟩;replace F:=I (F.o.below D);replace M:=M.t D;clear D X;(try clear Z k1 k2 k3 Y);obtain⟨Z,k1,k2,k3,Y⟩:=CF.o _ F.o)
    |(go_at_call 128;(with_reducible refine Calls.mono (T2.o _) ?_);rintro e w2 ⟨rfl,hw⟩;subst hw;clear T2))
   go_ret;exact⟨by rw[E.o];rfl,M.o⟩
  |true=>
   rw[h2] at T2;cases h3:tmB p.en with
   |false=>
    rw[h3] at T3;have E:=I (show rpB p=false by rw[rpB,h1,h2,h3];rfl);clear h1 h2 h3;go_enter Tryz.func78,Tryz.ntmps78
    go_wp2_with (first
     |(go_at_call 56;(with_reducible refine Calls.mono (X.o _) ?_);rintro e O ⟨rfl,D⟩;replace F:=I (F.o.below D);replace M:=M.t D;clear D X;(try clear Z k1 k2 k3 Y);obtain⟨Z,k1,k2,k3,Y⟩:=CF.o _ F.o)
     |(go_at_call 128;(with_reducible refine Calls.mono (T2.o _) ?_);rintro e w2 ⟨rfl,hw⟩;subst hw;clear T2)
     |(go_at_call 128;(with_reducible refine Calls.mono (T3.o _) ?_);rintro e w3 ⟨rfl,hw⟩;subst hw;clear T3))
    go_ret;exact⟨by rw[E.o];rfl,M.o⟩
   |true=>
    rw[h3] at T3;have E:=I (show rpB p=tmB p.no by rw[rpB,h1,h2,h3];rfl);clear h1 h2 h3;go_enter Tryz.func78,Tryz.ntmps78
    go_wp2_with (first
     |(go_at_call 56;(with_reducible refine Calls.mono (X.o _) ?_);rintro e O ⟨rfl,D⟩;replace F:=I (F.o.below D);replace M:=M.t D;clear D X;(try clear Z k1 k2 k3 Y);obtain⟨Z,k1,k2,k3,Y⟩:=CF.o _ F.o)
     |(go_at_call 128;(with_reducible refine Calls.mono (T2.o _) ?_);rintro e w2 ⟨rfl,hw⟩;subst hw;clear T2)
     |(go_at_call 128;(with_reducible refine Calls.mono (T3.o _) ?_);rintro e w3 ⟨rfl,hw⟩;subst hw;clear T3)
     |(go_at_call 128;(with_reducible refine Calls.mono (T4.o _) ?_);rintro e w4 ⟨rfl,hw⟩;subst hw;clear T4))
    go_ret;exact⟨by rw[E.o];rfl,M.o⟩
open DerR
def EncR (w:World) (o:Option L) (e:Ending) (w':World):Prop:=
 (∃v i,e=.returned (.tuple #[v,.int .i64 i])/\(o=none->v=.slice none 0 0/\i=1)/\∀l,o=some l->i=0/\∃g c,v=.slice (some ⟨g,0,none⟩) l.length c/\w.heap.size<=g/\l.length<=c/\Rd w' w'.heap.size (some ⟨g,0,none⟩) (bvs l))/\Below w.heap.size w w'
theorem Ab {w:World} {g:Nat} {t:TypeId} {cs:Array Value} (h:Blk w g t cs):w.rangeAt g 0 cs.toList:=fun j v D=>by
 rw[Nat.zero_add,h.cell];simpa using D
theorem Ac {P:Program} {ops:Array Oper} {rest:List Oper} {op:Oper} {a:Act} {w:World} {Q:Exit->Act->World->Prop} (D:op.guard=none) (ty:TypeId) (x:Operand) (F:op.op=.load ty x)
  (g o:Nat) (E:a.eval x=.pointer (some ⟨g,o,none⟩)) (cs:Array Value) (d:TypeDesc) (M:w.rangeAt g o cs.toList)
  (hu:P.underlying ty=some d) (X:d.isRow=true) (O:(P.info? ty).map (·.size)=some cs.size)
  (h:wpList P ops Q rest (a.put op.dst (.agg cs)) w):wpList P ops Q (op :: rest) a w:=
 wpList_load_mid D ty x F g o E cs.toList d M hu X (by rw[Array.length_toList];exact O) (by simpa using h)
theorem Iw (l:L) (A:Option Addr) (n c:Nat) (w:World) (D:n=l.length) (h:l.length<=2000):Calls Tryz.prog 72 #[.slice A n c] w fun e w'=>e=.returned (.tuple #[.slice A n c,.int .i64 0])/\w=w':=by
 have:=Od l A n c w D
 rwa [if_pos h] at this
theorem Gn {w w':World} (h:Below w.heap.size w w'):EncR w none (.returned (.tuple #[.slice none 0 0,.int .i64 1])) w':=
 ⟨⟨_,_,rfl,(fun _=>⟨rfl,rfl⟩),(fun l e=>by cases e)⟩,h⟩
theorem Ft {w w':World} {l:L} {g c:Nat} (h:BS w l (.returned (.slice (some ⟨g,0,none⟩) l.length c)) w'):EncR w (some l) (.returned (.tuple #[.slice (some ⟨g,0,none⟩) l.length c,.int .i64 0])) w':=by
 obtain⟨⟨Y,c',D,E,M,O⟩,F⟩:=h;injection D with D;injection D with D h6 h7;injection D with D;injection D with D;subst D;subst h7;exact⟨⟨_,_,rfl,(fun e=>by cases e),(fun X e=>by injection e with e;subst e;exact⟨rfl,g,c,rfl,E,M,O⟩)⟩,F⟩
theorem Ui {p:Rp} (hk:p.ss.length=32) {g:Nat} {t:TypeId} {w':World} (h:Blk w' g t (rpC p).toArray):Rd w' w'.heap.size (some ⟨g,0,none⟩) (bvs p.ss):=by
 refine .inr ⟨g,0,rfl,h.lt,fun i u hu=>?_⟩;rw[Nat.zero_add,h.cell,List.getElem?_toArray,rpC];have D:i<(bvs p.ss).length:=(List.getElem?_eq_some_iff.1 hu).1;rw[List.getElem?_append_left D];exact hu
theorem LK (p:Rp) (w:World) (hk:p.ss.length=32) (hs:pSm p.s):Calls Tryz.prog 37 #[.agg (rpC p).toArray] w (EncR w (rpO p)):=by
 have HI:=I (show(Tryz.prog.info? 110).map (·.size)=some (rpC p).toArray.size by rw[Fb hk];kernel_rfl);have CF:=I (show ∀w':World,Blk w' w.heap.size 110 (rpC p).toArray->w'.cell? ⟨w.heap.size,32,none⟩=some (.string ⟨p.s.1.toArray⟩)/\w'.cell? ⟨w.heap.size,33,none⟩=some (.string ⟨p.s.2.toArray⟩)/\w'.cell? ⟨w.heap.size,34,none⟩=some (.int .i64 p.st)/\w'.cell? ⟨w.heap.size,35,none⟩=some (.int .i64 p.en)/\w'.cell? ⟨w.heap.size,36,none⟩=some (.int .i64 p.no) from fun w' h=>Fs hk h);have I1:=I (fun X=>Oe p X hk hs);have T1:=I (fun X (h:Blk X w.heap.size 110 (rpC p).toArray)=>DerR.CU p.ss (some ⟨w.heap.size,0,none⟩) 32 32 X.heap.size X (Ui hk h) hk.symm Ae (by omega));obtain⟨cs,ah⟩:=Ah ((rpC p).toArray);rw[<-ah] at HI CF I1 T1⊢;clear ah;have F:=I ((Below.refl w.heap.size w).alloc Ae (.cells cs 110));have M:=I (Blk.new w 110 cs);cases hx:rpB p with
 |false=>
  rw[hx] at I1;have E:=I (show rpO p=none by unfold rpO limO;rw[hx];rfl);rw[E.o];clear hx E;go_enter Tryz.func37,Tryz.ntmps37
  go_wp2_with (first
   |(refine Ac (by rfl) 110 (.tmp 1) (by rfl) w.heap.size 0 (by rfl) cs _ (Ab (Blk.new w 110 cs)) Tryz.underlying110 (by rfl) HI.o ?_)
   |(go_at_call 78;refine Ag (I1.o _) ?_;rintro X D;replace F:=F.t D;clear D I1)
   |fail)
  go_ret2
  exact Gn F.o
 |true=>
  rw[hx] at I1;have hp:prB p.s=true:=(show prB p.s=true/\tmB p.st=true/\tmB p.en=true/\tmB p.no=true by simpa [rpB] using hx).1;have b1:=Gd hp;have b2:=(AP hp).1;have b3:=AB p.st;have b4:=AB p.en;have b5:=AB p.no;have b6:=Ax 4 p.ss;have T2:=I (fun X=>DO p.s X (by omega) (by omega));have T3:=I (fun X=>DerR.BB p.st X);have T4:=I (fun X=>DerR.BB p.en X);have T5:=I (fun X=>DerR.BB p.no X);have hl:[elem 4 p.ss,prE p.s,encI p.st,encI p.en,encI p.no].flatten.length<=1900:=by rw[FG];simp only[List.length_append];omega
  have HL:=I (show [elem 4 p.ss,prE p.s,encI p.st,encI p.en,encI p.no].flatten.length<=65535 by omega);have hE:=Ax 122 [elem 4 p.ss,prE p.s,encI p.st,encI p.en,encI p.no].flatten;have E:=I (show rpO p=some (elem 122 [elem 4 p.ss,prE p.s,encI p.st,encI p.en,encI p.no].flatten) from BA.2 ⟨hx,by show(elem 122 [elem 4 p.ss,prE p.s,encI p.st,encI p.en,encI p.no].flatten).length<=2000;omega,rfl⟩);rw[E.o];rw[FG] at hE hl⊢;obtain⟨l1,ai⟩:∃l,l=elem 4 p.ss:=⟨_,rfl⟩;obtain⟨l2,an⟩:∃l,l=prE p.s:=⟨_,rfl⟩;obtain⟨l3,ar⟩:∃l,l=encI p.st:=⟨_,rfl⟩;obtain⟨l4,af⟩:∃l,l=encI p.en:=⟨_,rfl⟩;obtain⟨l5,au⟩:∃l,l=encI p.no:=⟨_,rfl⟩;rw[<-ai] at T1 HL hE hl⊢;rw[<-an] at T2 HL hE hl⊢;rw[<-ar] at T3 HL hE hl⊢;rw[<-af] at T4 HL hE hl⊢;rw[<-au] at T5 HL hE hl⊢;have aj:(elem 122 (l1++(l2++(l3++(l4++l5))))).length<=2000:=by omega
  have LM:=I (fun A c X=>Iw (elem 122 (l1++(l2++(l3++(l4++l5))))) A _ c X rfl aj);clear hx E hE hl aj ai an ar af au hp b1 b2 b3 b4 b5 b6 hs hk;go_enter Tryz.func37,Tryz.ntmps37
  go_wp2_with (first
   |(refine Ac (by rfl) 110 (.tmp 1) (by rfl) w.heap.size 0 (by rfl) cs _ (Ab (Blk.new w 110 cs)) Tryz.underlying110 (by rfl) HI.o ?_)
   |(go_at_call 78;refine Ag (I1.o _) ?_;rintro w0 D;replace M:=I (M.o.below D);replace F:=F.t D;clear D I1)
   |fail)
  replace M:=I (show Blk w0.drew _ _ _ from M.o.drewN 1);replace F:=I (show Below _ _ w0.drew from below_drewN F.o 1)
  go_region_held3 (fun w'=>w'.cell? ⟨w.heap.size,32,none⟩=some (.string ⟨p.s.1.toArray⟩)/\w'.cell? ⟨w.heap.size,33,none⟩=some (.string ⟨p.s.2.toArray⟩)/\w'.cell? ⟨w.heap.size,34,none⟩=some (.int .i64 p.st)/\w'.cell? ⟨w.heap.size,35,none⟩=some (.int .i64 p.en)/\w'.cell? ⟨w.heap.size,36,none⟩=some (.int .i64 p.no)) (first | exact CF.o _ M.o | exact CF.o _ (M.o.alloc _)) ((first
   |(go_at_call 77;(with_reducible refine Calls.mono (T1.o _ M.o) ?_);rintro e X ⟨⟨g1,c1,rfl,ay,aF,ae⟩,D⟩;clear T1;have O:=I ae;replace M:=I (M.o.below D);replace F:=F.t D;clear D ae ay aF)
   |(go_at_call 74;(with_reducible refine Calls.mono (T2.o _) ?_);rintro e w2 ⟨⟨g2,c2,rfl,aH,aD,aw⟩,D⟩;clear T2;replace O:=I (AW O.o D);have Y:=I aw;replace M:=I (M.o.below D);replace F:=F.t D;clear D aw aH aD)
   |(go_at_call 75;(with_reducible refine Calls.mono (T3.o _) ?_);rintro e w3 ⟨⟨g3,c3,rfl,aG,aA,av⟩,D⟩;clear T3;replace O:=I (AW O.o D);replace Y:=I (AW Y.o D);have Z:=I av;replace M:=I (M.o.below D);replace F:=F.t D;clear D av aG aA)
   |(go_at_call 75;(with_reducible refine Calls.mono (T4.o _) ?_);rintro e w4 ⟨⟨g4,c4,rfl,aB,aC,ao⟩,D⟩;clear T4;replace O:=I (AW O.o D);replace Y:=I (AW Y.o D);replace Z:=I (AW Z.o D);have aa:=I ao;replace M:=I (M.o.below D);replace F:=F.t D;clear D ao aB aC)
   |(go_at_call 75;(with_reducible refine Calls.mono (T5.o _) ?_);rintro e w5 ⟨⟨g5,c5,rfl,ax,az,ag⟩,D⟩;clear T5;replace O:=I (AW O.o D);replace Y:=I (AW Y.o D);replace Z:=I (AW Z.o D);replace aa:=I (AW aa.o D);have aE:=I ag;replace M:=I (M.o.below D);replace F:=F.t D;clear D ag ax az)
   |(go_at_call 73;refine Calls.mono (CY 122 [l1,l2,l3,l4,l5] _ 5 5 (w5.heap.size+1) _ (JG O.o Y.o Z.o aa.o aE.o) rfl (by simp) HL.o (by simp)) ?_;rintro e wz ⟨⟨gz,cz,rfl,al,ad,ak⟩,D⟩;have ab:=(Below.refl w5.heap.size w5).alloc Ae (.cells #[.slice (some ⟨g1,0,none⟩) l1.length c1,.slice (some ⟨g2,0,none⟩) l2.length c2,.slice (some ⟨g3,0,none⟩) l3.length c3,.slice (some ⟨g4,0,none⟩) l4.length c4,.slice (some ⟨g5,0,none⟩) l5.length c5] 25);have HG:=I (Ba (l:=elem 122 [l1,l2,l3,l4,l5].flatten) ⟨⟨gz,cz,rfl,al,ad,ak⟩,D⟩ (F.o.trans (ab.mono F.o.size)));rw[FG] at HG;replace M:=I ((M.o.alloc (.cells #[.slice (some ⟨g1,0,none⟩) l1.length c1,.slice (some ⟨g2,0,none⟩) l2.length c2,.slice (some ⟨g3,0,none⟩) l3.length c3,.slice (some ⟨g4,0,none⟩) l4.length c4,.slice (some ⟨g5,0,none⟩) l5.length c5] 25)).below D);clear ab al ad ak D)
   |(go_at_call 72;refine Ag (LM.o _ _ _) ?_;rintro wy rfl)))
  go_wp2
  go_ret2
  exact Ft HG.o
end Ms
namespace Ms
open Go.RowKit Ad DerP
theorem Ix (t:Tk) (A:Option Addr) (c:Nat) (w:World):Calls Tryz.prog 123 #[.agg #[.string ⟨t.s.1.toArray⟩,.string ⟨t.s.2.toArray⟩,.int .i64 t.k,.slice A t.b.length c]] w fun e w'=>e=.returned (.bool (decide (t=tk0)))/\Below w.heap.size w w':=by
 obtain⟨⟨r,n⟩,k,b⟩:=t;have D:=I ((Below.refl w.heap.size w).alloc Ae (.cells #[.string ⟨r.toArray⟩,.string ⟨n.toArray⟩,.int .i64 k,.slice A b.length c] 53));simp only
 by_cases hr:r = []
 ·subst hr
  by_cases hn:n = []
  ·subst hn
   by_cases hk:k=0
   ·subst hk
    by_cases hb:b = []
    ·subst hb
     have E:=I (show decide ((⟨([],[]),0,[]⟩:Tk)=tk0)=true from rfl);go_enter Tryz.func123,Tryz.ntmps123
     go_wp2
     go_ret;exact⟨by rw[E.o];rfl,D.o⟩
    ·have F:((b.length:Int)==0)=false:=by simpa using hb
     have E:=I (show decide ((⟨([],[]),0,b⟩:Tk)=tk0)=false from decide_eq_false (fun h=>hb (congrArg Tk.b h)));go_enter Tryz.func123,Tryz.ntmps123
     go_wp2
     go_ret;exact⟨by rw[E.o];rfl,D.o⟩
   ·have F:(k==0)=false:=by simpa using hk
    have E:=I (show decide ((⟨([],[]),k,b⟩:Tk)=tk0)=false from decide_eq_false (fun h=>hk (congrArg Tk.k h)));go_enter Tryz.func123,Tryz.ntmps123
    go_wp2
    go_ret;exact⟨by rw[E.o];rfl,D.o⟩
  ·have F:(n == [])=false:=by simpa using hn
   have E:=I (show decide ((⟨([],n),k,b⟩:Tk)=tk0)=false from decide_eq_false (fun h=>hn (congrArg (fun t=>t.s.2) h)));go_enter Tryz.func123,Tryz.ntmps123
   go_wp2
   go_ret;exact⟨by rw[E.o];rfl,D.o⟩
 ·have F:(r == [])=false:=by simpa using hr
  have E:=I (show decide ((⟨(r,n),k,b⟩:Tk)=tk0)=false from decide_eq_false (fun h=>hr (congrArg (fun t=>t.s.1) h)));go_enter Tryz.func123,Tryz.ntmps123
  go_wp2
  go_ret;exact⟨by rw[E.o];rfl,D.o⟩
open DerR
theorem wh_eq (c:Option L):DerC.MH c=whC c:=by
 cases c with
 |none=>rfl
 |some l=>cases l<;>rfl
theorem Cw {a b c:World} {row:Option Nat} (h:a.grownBy b row) (k:b.grownBy c row):a.grownBy c row:=
 ⟨k.os.trans h.os,k.tape.trans h.tape,k.output.trans h.output,Nat.le_trans h.size k.size,fun i E D=>(k.block i (Nat.lt_of_lt_of_le E h.size) D).trans (h.block i E D)⟩
theorem Fy {a b c:World} {row:Option Nat} {q:Nat} (h:a.grownBy b row) (k:b.grownBy c (some q)) (F:a.heap.size<=q):a.grownBy c row:=
 ⟨k.os.trans h.os,k.tape.trans h.tape,k.output.trans h.output,Nat.le_trans h.size k.size,fun i D E=>(k.block i (Nat.lt_of_lt_of_le D h.size) (fun e=>by injection e with e;omega)).trans (h.block i D E)⟩
theorem SK {w:World} {B g:Nat} {c:Option L} (h:RC w B g c):g<w.heap.size:=by
 obtain⟨A,n,cap,e,D,_⟩:=h;exact D.lt
theorem FC {w w':World} {B g q:Nat} {c:Option L} (h:RC w B g c) (D:w.grownBy w' (some q)) (E:q≠g) (hB:B<=w.heap.size) (F:B<=q):RC w' B g c:=
 h.keep D (fun e=>E (by injection e)) hB (fun k hk=>by injection hk with hk;omega)
theorem JH {w:World} {B g:Nat} {c:Option L} (h:RC w B g c) (hB:B<=w.heap.size) (o:Obj):RC (w.alloc o) B g c:=
 h.keep (row:=none) (Ce (World.grownBy.refl _ _) o) (by simp) hB (by simp)
theorem Uj {w:World} {B g:Nat} {c:Option L} (h:RC w B g c):RC (w.setCell ⟨g,1,none⟩ (.bool true)) B g none:=by
 obtain⟨A,n,cap,e,D,_⟩:=h;exact⟨A,n,cap,true,D.set 1 _,rfl⟩
theorem Hc {w:World} {B g q j:Nat} {c:Option L} {u:Value} (h:RC w B g c) (E:q≠g) (hB:B<=w.heap.size) (D:B<=q):RC (w.setCell ⟨q,j,none⟩ u) B g c:=
 FC (q:=q) h (Ay (World.grownBy.refl _ _) (.inl rfl) u) E hB D
theorem Vz {w:World} {B g:Nat} {c:Option L} (h:RC w B g c):w.cell? ⟨g,1,none⟩=some (.bool (!c.isSome))/\w.frozen? ⟨g,1,none⟩=false:=by
 obtain⟨A,n,cap,e,D,E⟩:=h;refine⟨?_,D.frozen 1⟩;cases c with
 |none=>obtain rfl:e=true:=E;exact D.cell 1
 |some l=>obtain rfl:e=false:=E.1;exact D.cell 1
theorem VA {w:World} {B g:Nat} {l:L} (h:RC w B g (some l)):RC (w.setCell ⟨g,1,none⟩ (.bool false)) B g (some l):=by
 obtain⟨A,n,cap,e,E,D⟩:=h;obtain rfl:e=false:=D.1;have hB:=D.2.2.2;refine⟨A,n,cap,false,E.set 1 _,rfl,D.2.1,D.2.2.1,?_⟩;refine hB.keep fun b o F=>?_
 by_cases e:b=g
 ·subst e
  rw[(E.set 1 (.bool false)).cell,E.cell]
  rfl
 ·exact World.cell?_setCell_other _ _ _ _ (fun h=>e (by injection h with h;exact h.symm))
theorem Aj {P:Program} {fn:Func} {tmps:Array Value} {w:World} {v:Value} (t:Nat) (ty:TypeId) (a:Addr) (D:fn.results=#[.cell t ty]) (M:tmps.getD t undef=.pointer (some a)) (F:(loadVar ty a).run P w=.ok v w) :
  (results fn tmps).run P w=.ok v w:=by
 have E:tmps[t]?.getD undef=.pointer (some a):=by simpa using M
 simp [results,D,E,asAddr,F]
theorem Am {P:Program} {w:World} {g:Nat} {t ty:TypeId} {cs:Array Value} {d:TypeDesc} (h:Blk w g t cs) (hu:P.underlying ty=some d) (M:d.isRow=true) (F:(P.info? ty).map (·.size)=some cs.size) :
  (loadVar ty ⟨g,0,none⟩).run P w=.ok (.agg cs) w:=by
 have E:w.rangeAt g 0 cs.toList:=fun j v D=>by rw[Nat.zero_add,h.cell];simpa using D
 have:=run_loadVar_mid (P:=P) w g 0 ty cs.toList d E hu M (by simpa using F)
 simpa using this
theorem Hd (B g:Nat) (c:Option L) (w:World) (h:RC w B g c) (hB:B<=w.heap.size) (ak:B<=g) (hu:(c.getD []).length<=100000) :
  Calls Tryz.prog 41 #[.pointer (some ⟨g,0,none⟩)] w fun e w'=>e=.returned (.agg #[.string ⟨(prP c).1.1.toArray⟩,.string ⟨(prP c).1.2.toArray⟩])/\RC w' B g (prP c).2/\w.grownBy w' (some g):=by
 have ao:=SK h;obtain⟨W,eW⟩:=Ah (w.alloc (.cells #[.string ⟨#[]⟩,.string ⟨#[]⟩] 36));have aD:W.heap.size=w.heap.size+1:=by rw[eW];simp
 have h1:RC W B g c:=by rw[eW];exact JH h hB _
 have HG:=I (show w.grownBy W (some g) by rw[eW];exact Ce (World.grownBy.refl _ _) _);have HR:=I (show Blk W w.heap.size 36 #[.string ⟨#[]⟩,.string ⟨#[]⟩] by rw[eW];exact Blk.new _ _ _);have c1:=KF 48 B g c W h1 (by omega) ak hu;have D:=I (show B<=W.heap.size by omega);have aE:=I aD;have E:=I ao;have af:=I ak;have aa:=I hB;have aB:=(Cq 48 c).1;have ai:=I (show(prP c).1=(txC (Ar 48 c),txC (AK 27 (Ar 48 c))) from rfl);have ae:=I (show(prP c).2=if whC (AK 27 (AK 27 (Ar 48 c))) then AK 48 c else none from rfl);obtain⟨d,ed⟩:=Ah (Ar 48 c);obtain⟨r,er⟩:=Ah (AK 48 c);rw[<-ed] at c1 aB ai ae;rw[<-er] at c1 ae;rw[ai.o,ae.o];have aH:=(Cq 27 d).2;have ar:=I (show(d.getD []).length<=100000 by omega);have ax:=I (show((AK 27 d).getD []).length<=100000 by omega);have T1:=I (fun B g w h h1 h2=>(KE B g d w h h1 h2 ar.o));have T2:=I (fun B g w h h1 h2=>(KE B g (AK 27 d) w h h1 h2 ax.o));have WH:=I (fun B g w h=>Oc B g (AK 27 (AK 27 d)) w h);rw[wh_eq] at WH;rw[show(Ar 27 d).getD []=txC d from rfl] at T1;rw[show(Ar 27 (AK 27 d)).getD []=txC (AK 27 d) from rfl] at T2;obtain⟨Y,aC⟩:∃t,t=txC d:=⟨_,rfl⟩;obtain⟨O,au⟩:∃t,t=txC (AK 27 d):=⟨_,rfl⟩;obtain⟨d2,aA⟩:∃q,q=AK 27 d:=⟨_,rfl⟩;rw[<-aC] at T1⊢;rw[<-au] at T2⊢;rw[<-aA] at T1 T2 WH⊢;obtain⟨d3,aw⟩:∃q,q=AK 27 d2:=⟨_,rfl⟩;rw[<-aw] at T2 WH⊢;obtain⟨fi,aj⟩:∃q,q=if whC d3=true then r else none:=⟨_,rfl⟩
 rw[<-aj];have EF:=I aj;clear aj;clear h h1 hB ak hu ao aD aB aH ai ae ar ax ed er aC au aA aw;subst eW;go_enter Tryz.func41,Tryz.ntmps41
 go_upto_region 3 with(first
  |(go_at_call 40;refine Calls.mono c1 ?_;rintro e w2 ⟨⟨gd,rfl,aF,hd⟩,hc,ag⟩;clear c1;have HD:=I hd;have HC:=I hc;have M:=I (show w.heap.size+1<=gd by have:=aE.o;omega);replace HR:=I (HR.o.grown ag (by intro e;injection e with e;have:=E.o;omega));replace HG:=I (Cw HG.o ag);replace D:=I (Nat.le_trans D.o ag.size);have av:=I (SK hd);clear aF hd hc ag)
  |(go_at_call 83;refine Ag (T1.o B gd _ HD.o D.o (by have:=M.o;have:=E.o;have:=af.o;omega)) ?_;rintro w3 ⟨hd,F⟩;clear T1;replace HD:=I hd;replace HC:=I (FC HC.o F (by have:=M.o;have:=E.o;omega) D.o (by have:=M.o;have:=E.o;have:=af.o;omega));replace HR:=I (HR.o.grown F (by intro e;injection e with e;have:=M.o;omega));replace HG:=I (Fy HG.o F (by have:=M.o;omega));replace D:=I (Nat.le_trans D.o F.size);replace av:=I (SK hd);clear hd F))
 obtain⟨P,eP⟩:=Ah (w3.heap.size);obtain⟨W4,e4⟩:=Ah (w3.alloc (.cells #[.string ⟨Y.toArray⟩,.string ⟨#[]⟩] 36));have ab:=I (show Blk W4 P 36 #[.string ⟨Y.toArray⟩,.string ⟨#[]⟩] by rw[e4,eP];exact Blk.new _ _ _);have aG:W4.heap.size=P+1:=by rw[e4,eP];simp
 have ah:=I (show gd<P by rw[eP];exact av.o);have az:B<=P:=by rw[eP];exact D.o
 have ay:=I az;have an:=I (show w.heap.size<P by have:=ah.o;have:=M.o;omega);have ad:=I (show g<P by have:=E.o;have:=an.o;omega);replace HD:=I (show RC W4 B gd d2 by rw[e4];exact JH HD.o D.o _);replace HC:=I (show RC W4 B g r by rw[e4];exact JH HC.o D.o _);replace HR:=I (show Blk W4 w.heap.size 36 _ by rw[e4];exact HR.o.alloc _);replace HG:=I (show w.grownBy W4 (some g) by rw[e4];exact Ce HG.o _);replace D:=I (show B<=W4.heap.size by omega);rw[<-e4,<-eP];clear e4 eP aG az
 go_upto_region 4 with(go_at_call 83;refine Ag (T2.o B gd _ HD.o D.o (by have:=M.o;have:=E.o;have:=af.o;omega)) ?_;rintro w5 ⟨hd,F⟩;clear T2;replace HD:=I hd;replace HC:=I (FC HC.o F (by have:=M.o;have:=E.o;omega) D.o (by have:=M.o;have:=E.o;have:=af.o;omega));replace HR:=I (HR.o.grown F (by intro e;injection e with e;have:=M.o;omega));replace ab:=I (ab.o.grown F (by intro e;injection e with e;have:=ah.o;omega));replace HG:=I (Fy HG.o F (by have:=M.o;omega));replace D:=I (Nat.le_trans D.o F.size);have f0:=ab.o.frozen 1;have k9:w5.cell? ⟨P,1,none⟩=some (.string ⟨#[]⟩):=ab.o.cell 1;clear hd F)
 have H1:=I (show Blk (w5.setCell ⟨P,1,none⟩ (.string ⟨O.toArray⟩)) P 36 #[.string ⟨Y.toArray⟩,.string ⟨O.toArray⟩] from ab.o.set 1 (.string ⟨O.toArray⟩));have H2:=I (Hc (j:=1) (u:=.string ⟨O.toArray⟩) HD.o (q:=P) (by have:=ah.o;omega) D.o ay.o);have H3:=I (Hc (j:=1) (u:=.string ⟨O.toArray⟩) HC.o (q:=P) (by have:=ad.o;omega) D.o ay.o);have H4:=I (show Blk (w5.setCell ⟨P,1,none⟩ (.string ⟨O.toArray⟩)) w.heap.size 36 _ from(Below.heap_setCell w5 _ _ w.heap.size (fun e=>by have:=an.o;simp only at e;omega)).trans HR.o);have H5:=I (Ay HG.o (p:=⟨P,1,none⟩) (.inr (show w.heap.size<=P by have:=an.o;omega)) (.string ⟨O.toArray⟩));have H6:=I (show B<=(w5.setCell ⟨P,1,none⟩ (.string ⟨O.toArray⟩)).heap.size from Nat.le_trans D.o (Ay (World.grownBy.refl w5 (some P)) (p:=⟨P,1,none⟩) (.inl rfl) (.string ⟨O.toArray⟩)).size);obtain⟨V,eV⟩:=Ah (w5.setCell ⟨P,1,none⟩ (.string ⟨O.toArray⟩));rw[<-eV] at H1 H2 H3 H4 H5 H6⊢;clear eV k9 f0 ab HD HC HR HG D;have al:=Vz H3.o;have k1:=al.1;have f1:=al.2;clear al;cases r with
 |none=>
  simp only[Option.isSome_none,Bool.not_false] at k1
  go_upto_region 5 with fail
  have K1:=I (show Blk (V.setCell ⟨g,1,none⟩ (.bool true)) P 36 _ from(Below.heap_setCell V _ _ P (fun e=>by have:=ad.o;simp only at e;omega)).trans H1.o);have X:=I (show Blk (V.setCell ⟨g,1,none⟩ (.bool true)) w.heap.size 36 _ from(Below.heap_setCell V _ _ w.heap.size (fun e=>by have:=E.o;simp only at e;omega)).trans H4.o);have K3:=I (show RC (V.setCell ⟨g,1,none⟩ (.bool true)) B g fi by rw[EF.o];have h:=Uj H3.o;cases whC d3<;>exact h);have K4:=I (Ay H5.o (p:=⟨g,1,none⟩) (.inl rfl) (.bool true));have K5:=I (show B<=(V.setCell ⟨g,1,none⟩ (.bool true)).heap.size from Nat.le_trans H6.o (Ay (World.grownBy.refl V (some g)) (p:=⟨g,1,none⟩) (.inl rfl) (.bool true)).size);obtain⟨Z,eZ⟩:=Ah (V.setCell ⟨g,1,none⟩ (.bool true));rw[<-eZ] at K1 X K3 K4 K5⊢;clear eZ k1 f1 H1 H2 H3 H4 H5 H6;have p0:Z.cell? ⟨P,0,none⟩=some (.string ⟨Y.toArray⟩):=K1.o.cell 0;have p1:Z.cell? ⟨P,1,none⟩=some (.string ⟨O.toArray⟩):=K1.o.cell 1;have n0:Z.cell? ⟨w.heap.size,0,none⟩=some (.string ⟨#[]⟩):=X.o.cell 0;have n1:Z.cell? ⟨w.heap.size,1,none⟩=some (.string ⟨#[]⟩):=X.o.cell 1;have z0:=X.o.frozen 0;have z1:=X.o.frozen 1
  go_wp2
  have hE:Blk ((Z.setCell ⟨w.heap.size,0,none⟩ (.string ⟨Y.toArray⟩)).setCell ⟨w.heap.size,1,none⟩ (.string ⟨O.toArray⟩)) w.heap.size 36 #[.string ⟨Y.toArray⟩,.string ⟨O.toArray⟩]:=(X.o.set 0 _).set 1 _;have hq:=Am (P:=Tryz.prog) hE Tryz.underlying36 rfl (by kernel_rfl);refine bodyPost_ret (v:=.agg #[.string ⟨Y.toArray⟩,.string ⟨O.toArray⟩]) ?_ ?_ ?_
  ·exact Aj 2 36 ⟨w.heap.size,0,none⟩ Tryz.results41 rfl hq
  ·rfl
  refine⟨rfl,?_,?_⟩
  ·exact Hc (Hc K3.o (by have:=E.o;omega) K5.o aa.o) (by have:=E.o;omega) (Nat.le_trans K5.o (Ay (World.grownBy.refl Z (some w.heap.size)) (p:=⟨w.heap.size,0,none⟩) (.inl rfl) _).size) aa.o
  ·exact Ay (Ay K4.o (.inr Ae) _) (.inr Ae) _
 |some l=>
  simp only[Option.isSome_some,Bool.not_true] at k1;have c5:=WH.o B gd _ H2.o;clear WH;cases q:whC d3 with
  |false=>
   rw[q] at c5;rw[q,if_neg Bool.false_ne_true] at EF;clear q
   go_upto_region 5 with(go_at_call 84;refine Ag c5 ?_;rintro wv hw;subst hw;clear c5)
   have K1:=I (show Blk (V.setCell ⟨g,1,none⟩ (.bool true)) P 36 _ from(Below.heap_setCell V _ _ P (fun e=>by have:=ad.o;simp only at e;omega)).trans H1.o);have X:=I (show Blk (V.setCell ⟨g,1,none⟩ (.bool true)) w.heap.size 36 _ from(Below.heap_setCell V _ _ w.heap.size (fun e=>by have:=E.o;simp only at e;omega)).trans H4.o);have K3:=I (show RC (V.setCell ⟨g,1,none⟩ (.bool true)) B g fi by rw[EF.o];exact Uj H3.o);have K4:=I (Ay H5.o (p:=⟨g,1,none⟩) (.inl rfl) (.bool true));have K5:=I (show B<=(V.setCell ⟨g,1,none⟩ (.bool true)).heap.size from Nat.le_trans H6.o (Ay (World.grownBy.refl V (some g)) (p:=⟨g,1,none⟩) (.inl rfl) (.bool true)).size);obtain⟨Z,eZ⟩:=Ah (V.setCell ⟨g,1,none⟩ (.bool true));rw[<-eZ] at K1 X K3 K4 K5⊢;clear eZ k1 f1 H1 H2 H3 H4 H5 H6;have p0:Z.cell? ⟨P,0,none⟩=some (.string ⟨Y.toArray⟩):=K1.o.cell 0;have p1:Z.cell? ⟨P,1,none⟩=some (.string ⟨O.toArray⟩):=K1.o.cell 1;have n0:Z.cell? ⟨w.heap.size,0,none⟩=some (.string ⟨#[]⟩):=X.o.cell 0;have n1:Z.cell? ⟨w.heap.size,1,none⟩=some (.string ⟨#[]⟩):=X.o.cell 1;have z0:=X.o.frozen 0;have z1:=X.o.frozen 1
   go_wp2
   have hE:Blk ((Z.setCell ⟨w.heap.size,0,none⟩ (.string ⟨Y.toArray⟩)).setCell ⟨w.heap.size,1,none⟩ (.string ⟨O.toArray⟩)) w.heap.size 36 #[.string ⟨Y.toArray⟩,.string ⟨O.toArray⟩]:=(X.o.set 0 _).set 1 _;have hq:=Am (P:=Tryz.prog) hE Tryz.underlying36 rfl (by kernel_rfl);refine bodyPost_ret (v:=.agg #[.string ⟨Y.toArray⟩,.string ⟨O.toArray⟩]) ?_ ?_ ?_
   ·exact Aj 2 36 ⟨w.heap.size,0,none⟩ Tryz.results41 rfl hq
   ·rfl
   refine⟨rfl,?_,?_⟩
   ·exact Hc (Hc K3.o (by have:=E.o;omega) K5.o aa.o) (by have:=E.o;omega) (Nat.le_trans K5.o (Ay (World.grownBy.refl Z (some w.heap.size)) (p:=⟨w.heap.size,0,none⟩) (.inl rfl) _).size) aa.o
   ·exact Ay (Ay K4.o (.inr Ae) _) (.inr Ae) _
  |true=>
   rw[q] at c5;rw[q,if_pos rfl] at EF;clear q
   go_upto_region 5 with(go_at_call 84;refine Ag c5 ?_;rintro wv hw;subst hw;clear c5)
   have K1:=I (show Blk (V.setCell ⟨g,1,none⟩ (.bool false)) P 36 _ from(Below.heap_setCell V _ _ P (fun e=>by have:=ad.o;simp only at e;omega)).trans H1.o);have X:=I (show Blk (V.setCell ⟨g,1,none⟩ (.bool false)) w.heap.size 36 _ from(Below.heap_setCell V _ _ w.heap.size (fun e=>by have:=E.o;simp only at e;omega)).trans H4.o);have K3:=I (show RC (V.setCell ⟨g,1,none⟩ (.bool false)) B g fi by rw[EF.o];exact VA H3.o);have K4:=I (Ay H5.o (p:=⟨g,1,none⟩) (.inl rfl) (.bool false));have K5:=I (show B<=(V.setCell ⟨g,1,none⟩ (.bool false)).heap.size from Nat.le_trans H6.o (Ay (World.grownBy.refl V (some g)) (p:=⟨g,1,none⟩) (.inl rfl) (.bool false)).size);obtain⟨Z,eZ⟩:=Ah (V.setCell ⟨g,1,none⟩ (.bool false));rw[<-eZ] at K1 X K3 K4 K5⊢;clear eZ k1 f1 H1 H2 H3 H4 H5 H6;have p0:Z.cell? ⟨P,0,none⟩=some (.string ⟨Y.toArray⟩):=K1.o.cell 0;have p1:Z.cell? ⟨P,1,none⟩=some (.string ⟨O.toArray⟩):=K1.o.cell 1;have n0:Z.cell? ⟨w.heap.size,0,none⟩=some (.string ⟨#[]⟩):=X.o.cell 0;have n1:Z.cell? ⟨w.heap.size,1,none⟩=some (.string ⟨#[]⟩):=X.o.cell 1;have z0:=X.o.frozen 0;have z1:=X.o.frozen 1
   go_wp2
   have hE:Blk ((Z.setCell ⟨w.heap.size,0,none⟩ (.string ⟨Y.toArray⟩)).setCell ⟨w.heap.size,1,none⟩ (.string ⟨O.toArray⟩)) w.heap.size 36 #[.string ⟨Y.toArray⟩,.string ⟨O.toArray⟩]:=(X.o.set 0 _).set 1 _;have hq:=Am (P:=Tryz.prog) hE Tryz.underlying36 rfl (by kernel_rfl);refine bodyPost_ret (v:=.agg #[.string ⟨Y.toArray⟩,.string ⟨O.toArray⟩]) ?_ ?_ ?_
   ·exact Aj 2 36 ⟨w.heap.size,0,none⟩ Tryz.results41 rfl hq
   ·rfl
   refine⟨rfl,?_,?_⟩
   ·exact Hc (Hc K3.o (by have:=E.o;omega) K5.o aa.o) (by have:=E.o;omega) (Nat.le_trans K5.o (Ay (World.grownBy.refl Z (some w.heap.size)) (p:=⟨w.heap.size,0,none⟩) (.inl rfl) _).size) aa.o
   ·exact Ay (Ay K4.o (.inr Ae) _) (.inr Ae) _
theorem SL (c:Option L):((intC c).2.getD []).length<=(c.getD []).length:=by
 unfold intC;cases h:Ar 2 c with
 |none=>simp
 |some b=>
  simp only;cases numL b with
  |none=>simp
  |some n=>exact(Cq 2 c).2
theorem VB (c:Option L):((prP c).2.getD []).length<=(c.getD []).length:=by
 unfold prP;simp only
 split
 ·exact(Cq 48 c).2
 ·simp
end Ms
namespace Ms
open Go.RowKit Ad DerP
def mSm (m:Mg):Prop:=(pSm m.aq.c/\pSm m.aq.s)/\(pSm m.tg.t.s/\pSm m.tg.s)/\(pSm m.re.c/\pSm m.re.t.s)/\pSm m.ap.t.s
section
variable {α:Type}
theorem Xu (x:As) (f:Bool->α):(if x.c.1 = [] then if x.c.2 = [] then if x.s.1 = [] then if x.s.2 = [] then if x.t=0 then if x.no=0 then f true else f false else f false else f false else f false else f false else f false)=f (decide (x=as0)):=by
 obtain⟨⟨a,b⟩,⟨c,d⟩,t,n⟩:=x
 by_cases h1:a = []
 ·by_cases h2:b = []
  ·by_cases h3:c = []
   ·by_cases h4:d = []
    ·by_cases h5:t=0
     ·by_cases h6:n=0
      ·simp [h1,h2,h3,h4,h5,h6,as0,pr0]
      ·simp [h1,h2,h3,h4,h5,h6,as0,pr0]
     ·simp [h1,h2,h3,h4,h5,as0,pr0]
    ·simp [h1,h2,h3,h4,as0,pr0]
   ·simp [h1,h2,h3,as0,pr0]
  ·simp [h1,h2,as0,pr0]
 ·simp [h1,as0,pr0]
theorem Xv (x:Pr) (f:Bool->α):(if x.1 = [] then if x.2 = [] then f true else f false else f false)=f (decide (x=pr0)):=by
 obtain⟨a,b⟩:=x
 by_cases h1:a = []
 ·by_cases h2:b = []
  ·simp [h1,h2,pr0]
  ·simp [h1,h2,pr0]
 ·simp [h1,pr0]
theorem Xw (x:Fa) (f:Bool->α):(if x.e=0 then if x.no=0 then f true else f false else f false)=f (decide (x=fa0)):=by
 obtain⟨a,b⟩:=x
 by_cases h1:a=0
 ·by_cases h2:b=0
  ·simp [h1,h2,fa0]
  ·simp [h1,h2,fa0]
 ·simp [h1,fa0]
end
theorem VC (x:Tg):decide (x=tg0)=(decide (x.t=tk0)&&(decide (x.a = [])&&(decide (x.s=pr0)&&(decide (x.u=0)&&decide (x.no=0))))):=by
 obtain⟨t,a,s,u,n⟩:=x;simp [tg0,Bool.decide_and]
theorem VD (x:Re):decide (x=re0)=(decide (x.c=pr0)&&(decide (x.t=tk0)&&decide (x.b = []))):=by
 obtain⟨c,t,b⟩:=x;simp [re0,Bool.decide_and]
theorem VE (x:Ap):decide (x=ap0)=(decide (x.t=tk0)&&decide (x.a = [])):=by
 obtain⟨t,a⟩:=x;simp [ap0,Bool.decide_and]
theorem VF (m:Mg):mgB m=if m.k=1 then asB m.aq&&(decide (m.tg=tg0)&&(decide (m.re=re0)&&(decide (m.ap=ap0)&&decide (m.fa=fa0))))
  else if m.k=2 then tgB m.tg&&(decide (m.aq=as0)&&(decide (m.re=re0)&&(decide (m.ap=ap0)&&decide (m.fa=fa0))))
  else if m.k=3 then (prB m.re.c&&(tkB m.re.t&&Bv m.re.b))&&(decide (m.aq=as0)&&(decide (m.tg=tg0)&&(decide (m.ap=ap0)&&decide (m.fa=fa0))))
  else if m.k=4 then (tkB m.ap.t&&Bv m.ap.a)&&(decide (m.aq=as0)&&(decide (m.tg=tg0)&&(decide (m.re=re0)&&decide (m.fa=fa0))))
  else if m.k=5 then (inB m.fa.e 1 255&&tmB m.fa.no)&&(decide (m.aq=as0)&&(decide (m.tg=tg0)&&(decide (m.re=re0)&&decide (m.ap=ap0)))) else false:=by
 obtain⟨k,a,t,r,p,f⟩:=m;unfold mgB;simp only[Mg.mk.injEq,true_and,and_true]
 by_cases h1:k=1
 ·simp [h1,Bool.decide_and]
 ·rw[if_neg h1,if_neg h1]
  by_cases h2:k=2
  ·simp [h2,Bool.decide_and]
  ·rw[if_neg h2,if_neg h2]
   by_cases h3:k=3
   ·simp [h3,reB,Bool.decide_and]
   ·rw[if_neg h3,if_neg h3]
    by_cases h4:k=4
    ·simp [h4,apB,Bool.decide_and]
    ·rw[if_neg h4,if_neg h4]
     by_cases h5:k=5
     ·simp [h5,faB,Bool.decide_and]
     ·rw[if_neg h5,if_neg h5]
open DerR
theorem AD {P:Program} {fn:Func} {tmps:Array Value} {w:World} {v u:Value} (t q:Nat) (ty:TypeId) (a:Addr) (D:fn.results=#[.cell t ty,.tmp q]) (X:tmps.getD t undef=.pointer (some a)) (M:(loadVar ty a).run P w=.ok v w) (O:tmps.getD q undef=u) :
  (results fn tmps).run P w=.ok (.tuple #[v,u]) w:=by
 have F:tmps[t]?.getD undef=.pointer (some a):=by simpa using X
 have E:tmps[q]?.getD undef=u:=by simpa using O
 simp [results,D,F,E,asAddr,M]
end Ms
end Go.Proofs.YtcpccikongbopaaGreat
