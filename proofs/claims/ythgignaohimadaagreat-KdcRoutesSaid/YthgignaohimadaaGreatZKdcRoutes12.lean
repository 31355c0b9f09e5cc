import Derived.Test.YthgignaohimadaaGreatZKdcRoutes11
set_option maxHeartbeats 25600000
set_option maxRecDepth 100000
set_option linter.unusedVariables false
set_option linter.unusedSimpArgs false
namespace Go.Proofs.YthgignaohimadaaGreat
namespace Ms
open Go.RowKit Af DerP
abbrev prV (p:Pr):Value:=.agg #[.string ⟨p.1.toArray⟩,.string ⟨p.2.toArray⟩]
def SlB (w:World) (B:Nat) (v:Value) (l:L):Prop:=∃A c,v=.slice A l.length c/\l.length<=c/\Rd w B A (bvs l)
theorem SlB.keep {w w':World} {B:Nat} {v:Value} {l:L} (h:SlB w B v l) (D:Below B w w'):SlB w' B v l:=by
 obtain⟨A,c,E,J,F⟩:=h;exact⟨A,c,E,J,F.below D⟩
theorem SlB.more {w:World} {B B':Nat} {v:Value} {l:L} (h:SlB w B v l) (hB:B<=B'):SlB w B' v l:=by
 obtain⟨A,c,D,F,E⟩:=h;exact⟨A,c,D,F,E.more hB⟩
theorem SlB.nil (w:World) (B:Nat):SlB w B (.slice none 0 0) []:=⟨none,0,rfl,Nat.le_refl _,.inl rfl⟩
def prC (p:Pr):List Value:=[.string ⟨p.1.toArray⟩,.string ⟨p.2.toArray⟩]
def tkC (t:Tk) (b:Value):List Value:=[.string ⟨t.s.1.toArray⟩,.string ⟨t.s.2.toArray⟩,.int .i64 t.k,b]
def asC (q:As):List Value:=[.string ⟨q.c.1.toArray⟩,.string ⟨q.c.2.toArray⟩,.string ⟨q.s.1.toArray⟩,.string ⟨q.s.2.toArray⟩,.int .i64 q.t,.int .i64 q.no]
def tgC (q:Tg) (b a:Value):List Value:=tkC q.t b++[a,.string ⟨q.s.1.toArray⟩,.string ⟨q.s.2.toArray⟩,.int .i64 q.u,.int .i64 q.no]
def reC (q:Re) (b d:Value):List Value:=prC q.c++(tkC q.t b++[d])
def apC (q:Ap) (b a:Value):List Value:=tkC q.t b++[a]
def faC (q:Fa):List Value:=[.int .i64 q.e,.int .i64 q.no]
def anC (a:An):List Value:=prC a.c++[.int .i64 a.t,.int .i64 a.q]
def ptC (p:Pt):List Value:=prC p.c++(bvs p.ss++[.string ⟨p.tr.toArray⟩,.int .i64 p.st,.int .i64 p.en])
def rpC (p:Rp):List Value:=bvs p.ss++(prC p.s++[.int .i64 p.st,.int .i64 p.en,.int .i64 p.no])
structure Six where
 b1:Value
 a1:Value
 b2:Value
 d2:Value
 b3:Value
 a3:Value
structure SixR (w:World) (B:Nat) (m:Mg) (s:Six):Prop where
 b1:SlB w B s.b1 m.tg.t.b
 a1:SlB w B s.a1 m.tg.a
 b2:SlB w B s.b2 m.re.t.b
 d2:SlB w B s.d2 m.re.b
 b3:SlB w B s.b3 m.ap.t.b
 a3:SlB w B s.a3 m.ap.a
theorem SixR.keep {w w':World} {B:Nat} {m:Mg} {s:Six} (h:SixR w B m s) (D:Below B w w'):SixR w' B m s:=⟨h.b1.keep D,h.a1.keep D,h.b2.keep D,h.d2.keep D,h.b3.keep D,h.a3.keep D⟩
theorem Ba {w w':World} {A:Option Addr} {l:L} (h:Rd w w.heap.size A (bvs l)) (D:Below w.heap.size w w'):Rd w' w'.heap.size A (bvs l):=(h.below D).more D.size
section
variable {w:World} {t:TypeId} {A1 A2 A3 A4 A5:Option Addr} {l1 l2 l3 l4 l5:L} {c1 c2 c3 c4 c5:Nat}
theorem LA (D:Rd w w.heap.size A1 (bvs l1)) (E:Rd w w.heap.size A2 (bvs l2)) :
  DerW.Rds (w.alloc (.cells #[.slice A1 l1.length c1,.slice A2 l2.length c2] t)) (w.heap.size+1) (some ⟨w.heap.size,0,none⟩) [l1,l2]:=by
 refine .inr ⟨w.heap.size,0,rfl,by omega,fun i l hi=>?_⟩
 match i,hi with
 |0,hi=>injection hi with hi;subst hi;exact⟨A1,c1,(Blk.new w t _).cell 0,(D.alloc Ag _).more (by omega)⟩
 |1,hi=>injection hi with hi;subst hi;exact⟨A2,c2,(Blk.new w t _).cell 1,(E.alloc Ag _).more (by omega)⟩
 |i+2,hi=>rw[List.getElem?_eq_none (by simp)] at hi;cases hi
theorem Hd (D:Rd w w.heap.size A1 (bvs l1)) (F:Rd w w.heap.size A2 (bvs l2)) (E:Rd w w.heap.size A3 (bvs l3)) :
  DerW.Rds (w.alloc (.cells #[.slice A1 l1.length c1,.slice A2 l2.length c2,.slice A3 l3.length c3] t)) (w.heap.size+1) (some ⟨w.heap.size,0,none⟩) [l1,l2,l3]:=by
 refine .inr ⟨w.heap.size,0,rfl,by omega,fun i l hi=>?_⟩
 match i,hi with
 |0,hi=>injection hi with hi;subst hi;exact⟨A1,c1,(Blk.new w t _).cell 0,(D.alloc Ag _).more (by omega)⟩
 |1,hi=>injection hi with hi;subst hi;exact⟨A2,c2,(Blk.new w t _).cell 1,(F.alloc Ag _).more (by omega)⟩
 |2,hi=>injection hi with hi;subst hi;exact⟨A3,c3,(Blk.new w t _).cell 2,(E.alloc Ag _).more (by omega)⟩
 |i+3,hi=>rw[List.getElem?_eq_none (by simp)] at hi;cases hi
theorem WV (D:Rd w w.heap.size A1 (bvs l1)) (F:Rd w w.heap.size A2 (bvs l2)) (E:Rd w w.heap.size A3 (bvs l3)) (J:Rd w w.heap.size A4 (bvs l4)) :
  DerW.Rds (w.alloc (.cells #[.slice A1 l1.length c1,.slice A2 l2.length c2,.slice A3 l3.length c3,.slice A4 l4.length c4] t)) (w.heap.size+1) (some ⟨w.heap.size,0,none⟩) [l1,l2,l3,l4]:=by
 refine .inr ⟨w.heap.size,0,rfl,by omega,fun i l hi=>?_⟩
 match i,hi with
 |0,hi=>injection hi with hi;subst hi;exact⟨A1,c1,(Blk.new w t _).cell 0,(D.alloc Ag _).more (by omega)⟩
 |1,hi=>injection hi with hi;subst hi;exact⟨A2,c2,(Blk.new w t _).cell 1,(F.alloc Ag _).more (by omega)⟩
 |2,hi=>injection hi with hi;subst hi;exact⟨A3,c3,(Blk.new w t _).cell 2,(E.alloc Ag _).more (by omega)⟩
 |3,hi=>injection hi with hi;subst hi;exact⟨A4,c4,(Blk.new w t _).cell 3,(J.alloc Ag _).more (by omega)⟩
 |i+4,hi=>rw[List.getElem?_eq_none (by simp)] at hi;cases hi
theorem Jf (E:Rd w w.heap.size A1 (bvs l1)) (J:Rd w w.heap.size A2 (bvs l2)) (F:Rd w w.heap.size A3 (bvs l3)) (M:Rd w w.heap.size A4 (bvs l4)) (D:Rd w w.heap.size A5 (bvs l5)) :
  DerW.Rds (w.alloc (.cells #[.slice A1 l1.length c1,.slice A2 l2.length c2,.slice A3 l3.length c3,.slice A4 l4.length c4,.slice A5 l5.length c5] t)) (w.heap.size+1) (some ⟨w.heap.size,0,none⟩) [l1,l2,l3,l4,l5]:=by
 refine .inr ⟨w.heap.size,0,rfl,by omega,fun i l hi=>?_⟩
 match i,hi with
 |0,hi=>injection hi with hi;subst hi;exact⟨A1,c1,(Blk.new w t _).cell 0,(E.alloc Ag _).more (by omega)⟩
 |1,hi=>injection hi with hi;subst hi;exact⟨A2,c2,(Blk.new w t _).cell 1,(J.alloc Ag _).more (by omega)⟩
 |2,hi=>injection hi with hi;subst hi;exact⟨A3,c3,(Blk.new w t _).cell 2,(F.alloc Ag _).more (by omega)⟩
 |3,hi=>injection hi with hi;subst hi;exact⟨A4,c4,(Blk.new w t _).cell 3,(M.alloc Ag _).more (by omega)⟩
 |4,hi=>injection hi with hi;subst hi;exact⟨A5,c5,(Blk.new w t _).cell 4,(D.alloc Ag _).more (by omega)⟩
 |i+5,hi=>rw[List.getElem?_eq_none (by simp)] at hi;cases hi
end
theorem ag (n a b:Int) (w:World):Calls Tryz.prog 87 #[.int .i64 n,.int .i64 a,.int .i64 b] w fun e w'=>e=.returned (.bool (inB n a b))/\w=w':=by
 cases h1:decide (a<=n) with
 |false=>
  go_enter Tryz.func87,Tryz.ntmps87
  go_wp2
  go_ret;exact⟨by rw[inB,h1];rfl,rfl⟩
 |true=>
  go_enter Tryz.func87,Tryz.ntmps87
  go_wp2
  go_ret;exact⟨by rw[inB,h1];rfl,rfl⟩
theorem LD (n:Int) (w:World):Calls Tryz.prog 87 #[.int .i64 n,.int .i64 0,.int .i64 1073741824] w fun e w'=>e=.returned (.bool (tmB n))/\w=w':=ag n 0 1073741824 w
theorem ah (b:L):inB (b.length:Int) 1 800=Dm b:=by
 rw[inB,Dm];have E:decide ((1:Int)<=(b.length:Int))=decide (1<=b.length):=by rw[decide_eq_decide];omega
 have D:decide ((b.length:Int)<=800)=decide (b.length<=800):=by rw[decide_eq_decide];omega
 rw[E,D]
theorem Rn (l:L) (A:Option Addr) (n c:Nat) (w:World) (E:n=l.length):Calls Tryz.prog 47 #[.slice A n c] w fun e w'=>e=.returned (.tuple (if l.length<=2000 then #[.slice A n c,.int .i64 0] else #[.slice none 0 0,.int .i64 1]))/\w=w':=by
 subst E
 by_cases h:l.length<=2000
 ·rw[if_pos h]
  have D:decide ((2000:Int)<(l.length:Int))=false:=decide_eq_false (by omega);clear h;go_enter Tryz.func47,Tryz.ntmps47
  go_wp2
  go_ret2
  exact⟨rfl,rfl⟩
 ·rw[if_neg h]
  have D:decide ((2000:Int)<(l.length:Int))=true:=decide_eq_true (by omega);clear h;go_enter Tryz.func47,Tryz.ntmps47
  go_wp2
  go_ret2
  exact⟨rfl,rfl⟩
theorem AV (p:Pr) (w:World) (D:p.1.length<=1000000000) (E:p.2.length<=1000000000):Calls Tryz.prog 4 #[prV p] w fun e w'=>e=.returned (.bool (prB p))/\Below w.heap.size w w':=Nm.Ip p.1 p.2 w D E
def pSm (p:Pr):Prop:=p.1.length<=1000000000/\p.2.length<=1000000000
open DerR
theorem Bi {w0 w:World} {l:L} {e:Ending} {w':World} (h:Cc w l e w') (D:Below w0.heap.size w0 w):Cc w0 l e w':=by
 obtain⟨⟨g,c,F,M,J,N⟩,E⟩:=h;exact⟨⟨g,c,F,Nat.le_trans D.size M,J,N⟩,D.trans (E.mono D.size)⟩
theorem KJ (p:Pr) (w:World) (hs:p.1.length<=20000) (cd:p.2.length<=20000):Calls Tryz.prog 49 #[.agg #[.string ⟨p.1.toArray⟩,.string ⟨p.2.toArray⟩]] w (Cc w (prE p)):=by
 have aw:=(Below.refl w.heap.size w).alloc Ag (.cells #[.string ⟨p.1.toArray⟩,.string ⟨p.2.toArray⟩] 23);have F:=I aw;have D:=I (Blk.new w 23 #[.string ⟨p.1.toArray⟩,.string ⟨p.2.toArray⟩]);have T1:=I (fun w1=>DerR.Es p.1 w1 (by omega));have T2:=I (fun w1=>DerR.Es p.2 w1 (by omega));have e1:=AE 27 p.1;have e2:=AE 27 p.2;have HL:=I (show [elem 27 p.1,elem 27 p.2].flatten.length<=65535 by rw[Gc,List.length_append];omega);have HE:=I (show prE p=elem 48 [elem 27 p.1,elem 27 p.2].flatten from rfl);obtain⟨l1,O⟩:∃l,l=elem 27 p.1:=⟨_,rfl⟩;obtain⟨l2,M⟩:∃l,l=elem 27 p.2:=⟨_,rfl⟩;rw[<-O] at T1 HL HE;rw[<-M] at T2 HL HE;rw[HE.o,Gc];clear aw e1 e2 hs cd O M HE;go_enter Tryz.func49,Tryz.ntmps49
 go_wp2
 obtain⟨W,eW⟩:=Ak (w.alloc (.cells #[.string ⟨p.1.toArray⟩,.string ⟨p.2.toArray⟩] 23));rw[<-eW] at F D⊢;clear eW;replace D:=I (show Blk W.drew _ _ _ from D.o.drewN 1);replace F:=I (show Below _ _ W.drew from below_drewN F.o 1)
 go_region_held3 (fun w'=>w'.cell? ⟨w.heap.size,0,none⟩=some (.string ⟨p.1.toArray⟩)/\w'.cell? ⟨w.heap.size,1,none⟩=some (.string ⟨p.2.toArray⟩)) (first | exact⟨D.o.cell 0,D.o.cell 1⟩ | exact⟨(D.o.alloc _).cell 0,(D.o.alloc _).cell 1⟩) ((first
  |(go_at_call 51;(with_reducible refine Calls.mono (T1.o _) ?_);rintro e w1 ⟨⟨g1,c1,rfl,cb,cc,ca⟩,E⟩;clear T1;have J:=I ca;replace D:=I (D.o.below E);replace F:=F.t E;clear E ca cb cc)
  |(go_at_call 51;(with_reducible refine Calls.mono (T2.o _) ?_);rintro e w2 ⟨⟨g2,c2,rfl,cf,cg,bz⟩,E⟩;clear T2;replace J:=I (Ba J.o E);have cj:=I bz;replace D:=I (D.o.below E);replace F:=F.t E;clear E bz cf cg)
  |(go_at_call 48;refine Calls.mono (DQ 48 [l1,l2] _ 2 2 (w2.heap.size+1) _ (LA J.o cj.o) rfl (by simp) HL.o (by simp)) ?_;rintro e wz ⟨⟨gz,cz,rfl,Z,bB,N⟩,E⟩;have bx:=(Below.refl w2.heap.size w2).alloc Ag (.cells #[.slice (some ⟨g1,0,none⟩) l1.length c1,.slice (some ⟨g2,0,none⟩) l2.length c2] 27);have HG:=I (Bi (l:=elem 48 [l1,l2].flatten) ⟨⟨gz,cz,rfl,Z,bB,N⟩,E⟩ (F.o.trans (bx.mono F.o.size)));rw[Gc] at HG;replace D:=I ((D.o.alloc (.cells #[.slice (some ⟨g1,0,none⟩) l1.length c1,.slice (some ⟨g2,0,none⟩) l2.length c2] 27)).below E);clear bx Z bB N E)))
 go_wp2
 go_ret;exact HG.o
end Ms
namespace Ms
open Go.RowKit Af DerP
theorem Nb (a:An) (w:World) (hs:pSm a.c):Calls Tryz.prog 53 #[.agg #[.string ⟨a.c.1.toArray⟩,.string ⟨a.c.2.toArray⟩,.int .i64 a.t,.int .i64 a.q]] w fun e w'=>e=.returned (.bool (anB a))/\Below w.heap.size w w':=by
 have aw:=(Below.refl w.heap.size w).alloc Ag (.cells #[.string ⟨a.c.1.toArray⟩,.string ⟨a.c.2.toArray⟩,.int .i64 a.t,.int .i64 a.q] 42);have J:=I aw;have D:=I (Blk.new w 42 #[.string ⟨a.c.1.toArray⟩,.string ⟨a.c.2.toArray⟩,.int .i64 a.t,.int .i64 a.q]);clear aw;have O:=I (fun w1=>AV a.c w1 hs.1 hs.2);have Z:=I (fun w1=>LD a.t w1);have T3:=I (fun w1=>LD a.q w1);cases h1:prB a.c with
 |false=>
  rw[h1] at O;have E:=I (show anB a=false by rw[anB,h1];rfl);clear h1;go_enter Tryz.func53,Tryz.ntmps53
  go_wp2_with (go_at_call 4;(with_reducible refine Calls.mono (O.o _) ?_);rintro e w1 ⟨rfl,F⟩;replace D:=I (D.o.below F);replace J:=J.t F;clear F O;(try clear N k1 k2 M);have N:=D.o.cell 0;have k1:=D.o.cell 1;have k2:=D.o.cell 2;have M:=D.o.cell 3;simp only[List.getElem?_toArray,List.getElem?_cons_zero,List.getElem?_cons_succ] at N k1 k2 M)
  go_ret;exact⟨by rw[E.o];rfl,J.o⟩
 |true=>
  rw[h1] at O;cases h2:tmB a.t with
  |false=>
   rw[h2] at Z;have E:=I (show anB a=false by rw[anB,h1,h2];rfl);clear h1 h2;go_enter Tryz.func53,Tryz.ntmps53
   go_wp2_with (first
    |(go_at_call 4;(with_reducible refine Calls.mono (O.o _) ?_);rintro e w1 ⟨rfl,F⟩;replace D:=I (D.o.below F);replace J:=J.t F;clear F O;(try clear N k1 k2 M);have N:=D.o.cell 0;have k1:=D.o.cell 1;have k2:=D.o.cell 2;have M:=D.o.cell 3;simp only[List.getElem?_toArray,List.getElem?_cons_zero,List.getElem?_cons_succ] at N k1 k2 M)
    |(go_at_call 87;(with_reducible refine Calls.mono (Z.o _) ?_);rintro e w2 ⟨rfl,hw⟩;subst hw;clear Z))
   go_ret;exact⟨by rw[E.o];rfl,J.o⟩
  |true=>
   rw[h2] at Z;have E:=I (show anB a=tmB a.q by rw[anB,h1,h2];rfl);clear h1 h2;go_enter Tryz.func53,Tryz.ntmps53
   go_wp2_with (first
    |(go_at_call 4;(with_reducible refine Calls.mono (O.o _) ?_);rintro e w1 ⟨rfl,F⟩;replace D:=I (D.o.below F);replace J:=J.t F;clear F O;(try clear N k1 k2 M);have N:=D.o.cell 0;have k1:=D.o.cell 1;have k2:=D.o.cell 2;have M:=D.o.cell 3;simp only[List.getElem?_toArray,List.getElem?_cons_zero,List.getElem?_cons_succ] at N k1 k2 M)
    |(go_at_call 87;(with_reducible refine Calls.mono (Z.o _) ?_);rintro e w2 ⟨rfl,hw⟩;subst hw;clear Z)
    |(go_at_call 87;(with_reducible refine Calls.mono (T3.o _) ?_);rintro e w3 ⟨rfl,hw⟩;subst hw;clear T3))
   go_ret;exact⟨by rw[E.o];rfl,J.o⟩
open DerR
def EncR (w:World) (o:Option L) (e:Ending) (w':World):Prop:=
 (∃v i,e=.returned (.tuple #[v,.int .i64 i])/\(o=none->v=.slice none 0 0/\i=1)/\∀l,o=some l->i=0/\∃g c,v=.slice (some ⟨g,0,none⟩) l.length c/\w.heap.size<=g/\l.length<=c/\Rd w' w'.heap.size (some ⟨g,0,none⟩) (bvs l))/\Below w.heap.size w w'
theorem Ae {w:World} {g:Nat} {t:TypeId} {cs:Array Value} (h:Blk w g t cs):w.rangeAt g 0 cs.toList:=fun j v D=>by
 rw[Nat.zero_add,h.cell];simpa using D
theorem Am {P:Program} {ops:Array Oper} {rest:List Oper} {op:Oper} {a:Act} {w:World} {Q:Exit->Act->World->Prop} (D:op.guard=none) (ty:TypeId) (x:Operand) (F:op.op=.load ty x)
  (g o:Nat) (E:a.eval x=.pointer (some ⟨g,o,none⟩)) (cs:Array Value) (d:TypeDesc) (M:w.rangeAt g o cs.toList)
  (hu:P.underlying ty=some d) (J:d.isRow=true) (hi:(P.info? ty).map (·.size)=some cs.size)
  (h:wpList P ops Q rest (a.put op.dst (.agg cs)) w):wpList P ops Q (op :: rest) a w:=
 wpList_load_mid D ty x F g o E cs.toList d M hu J (by rw[Array.length_toList];exact hi) (by simpa using h)
theorem Nc (l:L) (A:Option Addr) (n c:Nat) (w:World) (D:n=l.length) (h:l.length<=2000):Calls Tryz.prog 47 #[.slice A n c] w fun e w'=>e=.returned (.tuple #[.slice A n c,.int .i64 0])/\w=w':=by
 have:=Rn l A n c w D
 rwa [if_pos h] at this
theorem FW {w w':World} (h:Below w.heap.size w w'):EncR w none (.returned (.tuple #[.slice none 0 0,.int .i64 1])) w':=
 ⟨⟨_,_,rfl,(fun _=>⟨rfl,rfl⟩),(fun l e=>by cases e)⟩,h⟩
theorem FX {w w':World} {l:L} {g c:Nat} (h:Cc w l (.returned (.slice (some ⟨g,0,none⟩) l.length c)) w'):EncR w (some l) (.returned (.tuple #[.slice (some ⟨g,0,none⟩) l.length c,.int .i64 0])) w':=by
 obtain⟨⟨N,c',D,F,J,M⟩,E⟩:=h;injection D with D;injection D with D h6 h7;injection D with D;injection D with D;subst D;subst h7;exact⟨⟨_,_,rfl,(fun e=>by cases e),(fun l' e=>by injection e with e;subst e;exact⟨rfl,g,c,rfl,F,J,M⟩)⟩,E⟩
theorem LF (a:An) (w:World) (hs:pSm a.c):Calls Tryz.prog 22 #[.agg #[.string ⟨a.c.1.toArray⟩,.string ⟨a.c.2.toArray⟩,.int .i64 a.t,.int .i64 a.q]] w (EncR w (anO a)):=by
 have bB:=(Below.refl w.heap.size w).alloc Ag (.cells #[.string ⟨a.c.1.toArray⟩,.string ⟨a.c.2.toArray⟩,.int .i64 a.t,.int .i64 a.q] 42);have J:=I bB;have F:=I (Blk.new w 42 #[.string ⟨a.c.1.toArray⟩,.string ⟨a.c.2.toArray⟩,.int .i64 a.t,.int .i64 a.q]);have O:=I (fun w1=>Nb a w1 hs);clear bB;cases hx:anB a with
 |false=>
  rw[hx] at O;have E:=I (show anO a=none by unfold anO limO;rw[hx];rfl);rw[E.o];clear hx E;go_enter Tryz.func22,Tryz.ntmps22
  go_wp2_with (go_at_call 53;refine Aj (O.o _) ?_;rintro w1 D;replace J:=J.t D;clear D O)
  go_ret2
  exact FW J.o
 |true=>
  rw[hx] at O;have hp:prB a.c=true:=(show prB a.c=true/\tmB a.t=true/\tmB a.q=true by simpa [anB] using hx).1;have cr:=Ft hp;have ct:=(Bl hp).1;have e1:=AI a.t;have e2:=AI a.q;have T1:=I (fun w1=>KJ a.c w1 (by omega) (by omega));have T2:=I (fun w1=>DerR.DF a.t w1);have T3:=I (fun w1=>DerR.DF a.q w1);have hl:[prE a.c,encI a.t,encI a.q].flatten.length<=1900:=by rw[Gd];simp only[List.length_append];omega
  have HL:=I (show [prE a.c,encI a.t,encI a.q].flatten.length<=65535 by omega);have hE:=AE 98 [prE a.c,encI a.t,encI a.q].flatten;have E:=I (show anO a=some (elem 98 [prE a.c,encI a.t,encI a.q].flatten) from Dg.2 ⟨hx,by show(elem 98 [prE a.c,encI a.t,encI a.q].flatten).length<=2000;omega,rfl⟩);rw[E.o];rw[Gd] at hE hl⊢;obtain⟨l1,cf⟩:∃l,l=prE a.c:=⟨_,rfl⟩;obtain⟨l2,Z⟩:∃l,l=encI a.t:=⟨_,rfl⟩;obtain⟨l3,bx⟩:∃l,l=encI a.q:=⟨_,rfl⟩;rw[<-cf] at T1 HL hE hl⊢;rw[<-Z] at T2 HL hE hl⊢;rw[<-bx] at T3 HL hE hl⊢;have bz:(elem 98 (l1++(l2++l3))).length<=2000:=by omega
  have LM:=I (fun A c w1=>Nc (elem 98 (l1++(l2++l3))) A _ c w1 rfl bz);clear hx E hE hl bz cf Z bx hp cr ct e1 e2 hs;go_enter Tryz.func22,Tryz.ntmps22
  go_wp2_with (go_at_call 53;refine Aj (O.o _) ?_;rintro w0 D;replace F:=I (F.o.below D);replace J:=J.t D;clear D O)
  replace F:=I (show Blk w0.drew _ _ _ from F.o.drewN 1);replace J:=I (show Below _ _ w0.drew from below_drewN J.o 1)
  go_region_held3 (fun w'=>w'.cell? ⟨w.heap.size,0,none⟩=some (.string ⟨a.c.1.toArray⟩)/\w'.cell? ⟨w.heap.size,1,none⟩=some (.string ⟨a.c.2.toArray⟩)/\w'.cell? ⟨w.heap.size,2,none⟩=some (.int .i64 a.t)/\w'.cell? ⟨w.heap.size,3,none⟩=some (.int .i64 a.q)) (first | exact⟨F.o.cell 0,F.o.cell 1,F.o.cell 2,F.o.cell 3⟩ | exact⟨(F.o.alloc _).cell 0,(F.o.alloc _).cell 1,(F.o.alloc _).cell 2,(F.o.alloc _).cell 3⟩) ((first
   |(go_at_call 49;(with_reducible refine Calls.mono (T1.o _) ?_);rintro e w1 ⟨⟨g1,c1,rfl,ck,cu,cj⟩,D⟩;clear T1;have M:=I cj;replace F:=I (F.o.below D);replace J:=J.t D;clear D cj ck cu)
   |(go_at_call 52;(with_reducible refine Calls.mono (T2.o _) ?_);rintro e w2 ⟨⟨g2,c2,rfl,cm,cp,cg⟩,D⟩;clear T2;replace M:=I (Ba M.o D);have N:=I cg;replace F:=I (F.o.below D);replace J:=J.t D;clear D cg cm cp)
   |(go_at_call 52;(with_reducible refine Calls.mono (T3.o _) ?_);rintro e w3 ⟨⟨g3,c3,rfl,cq,cw,cc⟩,D⟩;clear T3;replace M:=I (Ba M.o D);replace N:=I (Ba N.o D);have cn:=I cc;replace F:=I (F.o.below D);replace J:=J.t D;clear D cc cq cw)
   |(go_at_call 48;refine Calls.mono (DQ 98 [l1,l2,l3] _ 3 3 (w3.heap.size+1) _ (Hd M.o N.o cn.o) rfl (by simp) HL.o (by simp)) ?_;rintro e wz ⟨⟨gz,cz,rfl,aw,cb,cd⟩,D⟩;have ca:=(Below.refl w3.heap.size w3).alloc Ag (.cells #[.slice (some ⟨g1,0,none⟩) l1.length c1,.slice (some ⟨g2,0,none⟩) l2.length c2,.slice (some ⟨g3,0,none⟩) l3.length c3] 27);have HG:=I (Bi (l:=elem 98 [l1,l2,l3].flatten) ⟨⟨gz,cz,rfl,aw,cb,cd⟩,D⟩ (J.o.trans (ca.mono J.o.size)));rw[Gd] at HG;replace F:=I ((F.o.alloc (.cells #[.slice (some ⟨g1,0,none⟩) l1.length c1,.slice (some ⟨g2,0,none⟩) l2.length c2,.slice (some ⟨g3,0,none⟩) l3.length c3] 27)).below D);clear ca aw cb cd D)
   |(go_at_call 47;refine Aj (LM.o _ _ _) ?_;rintro wy rfl)))
  go_wp2
  go_ret2
  exact FX HG.o
end Ms
namespace Ms
open Go.RowKit Af DerP
theorem PY {p:Rp} (hk:p.ss.length=32) {g:Nat} {t:TypeId} {w':World} (h:Blk w' g t (rpC p).toArray):w'.cell? ⟨g,32,none⟩=some (.string ⟨p.s.1.toArray⟩)/\w'.cell? ⟨g,33,none⟩=some (.string ⟨p.s.2.toArray⟩)/\w'.cell? ⟨g,34,none⟩=some (.int .i64 p.st)/\w'.cell? ⟨g,35,none⟩=some (.int .i64 p.en)/\w'.cell? ⟨g,36,none⟩=some (.int .i64 p.no):=by
 have D:(bvs p.ss).length=32:=by rw[Ay];exact hk
 have key:∀j,w'.cell? ⟨g,32+j,none⟩=(prC p.s++[.int .i64 p.st,.int .i64 p.en,.int .i64 p.no])[j]?:=fun j=>by
  rw[h.cell,List.getElem?_toArray,rpC,List.getElem?_append_right (by omega),D,Nat.add_sub_cancel_left]
 exact⟨key 0,key 1,key 2,key 3,key 4⟩
theorem OC {p:Rp} (hk:p.ss.length=32):(rpC p).toArray.size=37:=by
 simp [rpC,prC,Ay,hk]
open DerR
theorem de {p:Rp} (hk:p.ss.length=32) {g:Nat} {t:TypeId} {w':World} (h:Blk w' g t (rpC p).toArray):Rd w' w'.heap.size (some ⟨g,0,none⟩) (bvs p.ss):=by
 refine .inr ⟨g,0,rfl,h.lt,fun i u hu=>?_⟩;rw[Nat.zero_add,h.cell,List.getElem?_toArray,rpC];have hi:i<(bvs p.ss).length:=(List.getElem?_eq_some_iff.1 hu).1;rw[List.getElem?_append_left hi];exact hu
end Ms
namespace Ms
open Go.RowKit Af DerP
def FitT (l:L) (k:Nat):Prop:=∀i (h:i<l.length),i<k->32<=l[i].toNat/\l[i].toNat<=126
theorem Uo {l:L} (h:FitT l l.length):txtB l=true:=by
 rw[txtB,List.all_eq_true];intro x D;obtain⟨i,hi,rfl⟩:=List.getElem_of_mem D;have:=h i hi hi;simp [this.1,this.2]
theorem OD {l:L} {k:Nat} (hk:k<l.length) (h:l[k].toNat<32\/126<l[k].toNat):txtB l=false:=by
 rw[txtB,List.all_eq_false];refine⟨l[k],List.getElem_mem hk,?_⟩;simp;omega
theorem Jg {p:Pt} (hk:p.ss.length=32) {g:Nat} {t:TypeId} {w':World} (h:Blk w' g t (ptC p).toArray):w'.cell? ⟨g,0,none⟩=some (.string ⟨p.c.1.toArray⟩)/\w'.cell? ⟨g,1,none⟩=some (.string ⟨p.c.2.toArray⟩)/\w'.cell? ⟨g,34,none⟩=some (.string ⟨p.tr.toArray⟩)/\w'.cell? ⟨g,35,none⟩=some (.int .i64 p.st)/\w'.cell? ⟨g,36,none⟩=some (.int .i64 p.en):=by
 have D:(bvs p.ss).length=32:=by rw[Ay];exact hk
 have key:∀j,w'.cell? ⟨g,34+j,none⟩=([.string ⟨p.tr.toArray⟩,.int .i64 p.st,.int .i64 p.en]:List Value)[j]?:=fun j=>by
  rw[h.cell,List.getElem?_toArray,ptC,List.getElem?_append_right (by simp [prC];omega),List.getElem?_append_right (by simp [prC];omega)]
  congr 1
  simp [prC,D];omega
 refine⟨by rw[h.cell];rfl,by rw[h.cell];rfl,key 0,key 1,key 2⟩
theorem FB {p:Pt} (hk:p.ss.length=32):(ptC p).toArray.size=37:=by
 simp [ptC,prC,Ay,hk]
attribute [local go_sem] Ea List.getElem_cons_zero List.getElem_cons_succ
theorem OE (p:Pt) (w:World) (hk:p.ss.length=32) (hs:pSm p.c) (ht:p.tr.length<=1000000000):Calls Tryz.prog 46 #[.agg (ptC p).toArray] w fun e w'=>e=.returned (.bool (ptB p))/\Below w.heap.size w w':=by
 have HI:=I (show(Tryz.prog.info? 40).map (·.size)=some (ptC p).toArray.size by rw[FB hk];kernel_rfl);have CF:=I (show ∀w':World,Blk w' w.heap.size 40 (ptC p).toArray->w'.cell? ⟨w.heap.size,0,none⟩=some (.string ⟨p.c.1.toArray⟩)/\w'.cell? ⟨w.heap.size,1,none⟩=some (.string ⟨p.c.2.toArray⟩)/\w'.cell? ⟨w.heap.size,34,none⟩=some (.string ⟨p.tr.toArray⟩)/\w'.cell? ⟨w.heap.size,35,none⟩=some (.int .i64 p.st)/\w'.cell? ⟨w.heap.size,36,none⟩=some (.int .i64 p.en) from fun w' h=>Jg hk h);obtain⟨cs,aw⟩:=Ak ((ptC p).toArray);rw[<-aw] at HI CF⊢;clear aw;have F:=I ((Below.refl w.heap.size w).alloc Ag (.cells cs 40));have J:=I (Blk.new w 40 cs);have M:=I (fun w1=>AV p.c w1 hs.1 hs.2);have T2:=I (fun w1=>LD p.st w1);have T3:=I (fun w1=>LD p.en w1);obtain⟨N,k1,k2,Z,O⟩:=CF.o _ J.o;clear hs;go_enter Tryz.func46,Tryz.ntmps46
 go_wp2
 go_loop [3] (fun iv=>∃k:Nat,k<=p.tr.length/\iv=.int .i64 (k:Int)/\FitT p.tr k) (fun iv=>p.tr.length - (intOf iv).toNat)
 case atStart=>exact⟨0,Nat.zero_le _,rfl,fun i _ h=>by omega⟩
 case round=>
  obtain⟨k,ca,rfl,hf⟩:=hrel;have HF:=I hf;clear hf
  by_cases hlt:k<p.tr.length
  ·have e1:(k:Int)<(p.tr.length:Int):=by omega
   by_cases b1:p.tr[k].toNat<32
   ·have E:=I (show ptB p=false by rw[ptB,OD hlt (Or.inl b1)];rfl)
    have bz:decide ((p.tr[k].toNat:Int)<32)=true:=by simp;omega
    clear b1
    go_wp2
    go_ret;exact⟨by rw[E.o];rfl,F.o⟩
   ·have bz:decide ((p.tr[k].toNat:Int)<32)=false:=by simp;omega
    by_cases b2:126<p.tr[k].toNat
    ·have E:=I (show ptB p=false by rw[ptB,OD hlt (Or.inr b2)];rfl)
     have bx:decide (126<(p.tr[k].toNat:Int))=true:=by simp;omega
     clear b1 b2
     go_wp2
     go_ret;exact⟨by rw[E.o];rfl,F.o⟩
    ·have bx:decide (126<(p.tr[k].toNat:Int))=false:=by simp;omega
     have HP:=I (show 32<=p.tr[k].toNat/\p.tr[k].toNat<=126 from⟨by omega,by omega⟩);clear b1 b2
     go_wp2
     go_round
     case rel=>exact⟨k+1,by omega,by go_num,fun i hi bB=>by
      by_cases q:i=k
      ·subst q;exact HP.o
      ·exact HF.o i hi (by omega)⟩
     case measure=>simp [intOf];omega
  ·have HT:=I (Uo (fun i hi _=>HF.o i hi (by omega)))
   have e1:¬(k:Int)<(p.tr.length:Int):=by omega
   clear HF;cases h1:prB p.c with
   |false=>
    rw[h1] at M;have E:=I (show ptB p=false by rw[ptB,HT.o,h1];rfl);clear h1
    go_wp2_with (first
     |(go_at_call 4;(with_reducible refine Calls.mono (M.o _) ?_);rintro e w1 ⟨rfl,D⟩;replace J:=I (J.o.below D);replace F:=F.t D;clear D M;(try clear N k1 k2 Z O);obtain⟨N,k1,k2,Z,O⟩:=CF.o _ J.o))
    go_ret;exact⟨by rw[E.o];rfl,F.o⟩
   |true=>
    rw[h1] at M
    by_cases h0:p.tr.length<=300
    ·have g3:decide ((p.tr.length:Int)<=300)=true:=by simp;omega
     cases h2:tmB p.st with
     |false=>
      rw[h2] at T2;have E:=I (show ptB p=false by rw[ptB,HT.o,h1,h2,decide_eq_true h0];rfl);clear h1 h2 h0
      go_wp2_with (first
       |(go_at_call 4;(with_reducible refine Calls.mono (M.o _) ?_);rintro e w1 ⟨rfl,D⟩;replace J:=I (J.o.below D);replace F:=F.t D;clear D M;(try clear N k1 k2 Z O);obtain⟨N,k1,k2,Z,O⟩:=CF.o _ J.o)
       |(go_at_call 87;(with_reducible refine Calls.mono (T2.o _) ?_);rintro e w2 ⟨rfl,hw⟩;subst hw;clear T2))
      go_ret;exact⟨by rw[E.o];rfl,F.o⟩
     |true=>
      rw[h2] at T2;have E:=I (show ptB p=tmB p.en by rw[ptB,HT.o,h1,h2,decide_eq_true h0];rfl);clear h1 h2 h0
      go_wp2_with (first
       |(go_at_call 4;(with_reducible refine Calls.mono (M.o _) ?_);rintro e w1 ⟨rfl,D⟩;replace J:=I (J.o.below D);replace F:=F.t D;clear D M;(try clear N k1 k2 Z O);obtain⟨N,k1,k2,Z,O⟩:=CF.o _ J.o)
       |(go_at_call 87;(with_reducible refine Calls.mono (T2.o _) ?_);rintro e w2 ⟨rfl,hw⟩;subst hw;clear T2)
       |(go_at_call 87;(with_reducible refine Calls.mono (T3.o _) ?_);rintro e w3 ⟨rfl,hw⟩;subst hw;clear T3))
      go_ret;exact⟨by rw[E.o];rfl,F.o⟩
    ·have g3:decide ((p.tr.length:Int)<=300)=false:=by simp;omega
     have E:=I (show ptB p=false by rw[ptB,HT.o,h1,decide_eq_false h0];rfl);clear h1 h0
     go_wp2_with (first
      |(go_at_call 4;(with_reducible refine Calls.mono (M.o _) ?_);rintro e w1 ⟨rfl,D⟩;replace J:=I (J.o.below D);replace F:=F.t D;clear D M;(try clear N k1 k2 Z O);obtain⟨N,k1,k2,Z,O⟩:=CF.o _ J.o))
     go_ret;exact⟨by rw[E.o];rfl,F.o⟩
end Ms
namespace Ms
open Go.RowKit Af DerP DerR
theorem KK {p:Pt} {g:Nat} {t:TypeId} {w':World} (h:Blk w' g t (ptC p).toArray):Rd w' w'.heap.size (some ⟨g,2,none⟩) (bvs p.ss):=by
 refine .inr ⟨g,2,rfl,h.lt,fun i u hu=>?_⟩;have hi:i<(bvs p.ss).length:=(List.getElem?_eq_some_iff.1 hu).1;rw[h.cell,List.getElem?_toArray,ptC,List.getElem?_append_right (by simp [prC]),List.getElem?_append_left (by simp [prC];exact hi)]
 simpa [prC] using hu
theorem Nd (p:Pt) (w:World) (hk:p.ss.length=32) (hs:pSm p.c) (ht:p.tr.length<=1000000000):Calls Tryz.prog 21 #[.agg (ptC p).toArray] w (EncR w (ptO p)):=by
 have HI:=I (show(Tryz.prog.info? 40).map (·.size)=some (ptC p).toArray.size by rw[FB hk];kernel_rfl);have CF:=I (show ∀w':World,Blk w' w.heap.size 40 (ptC p).toArray->w'.cell? ⟨w.heap.size,0,none⟩=some (.string ⟨p.c.1.toArray⟩)/\w'.cell? ⟨w.heap.size,1,none⟩=some (.string ⟨p.c.2.toArray⟩)/\w'.cell? ⟨w.heap.size,34,none⟩=some (.string ⟨p.tr.toArray⟩)/\w'.cell? ⟨w.heap.size,35,none⟩=some (.int .i64 p.st)/\w'.cell? ⟨w.heap.size,36,none⟩=some (.int .i64 p.en) from fun w' h=>Jg hk h);have Z:=I (fun w1=>OE p w1 hk hs ht);have T2:=I (fun w1 (h:Blk w1 w.heap.size 40 (ptC p).toArray)=>DerR.Ed p.ss (some ⟨w.heap.size,2,none⟩) 32 32 w1.heap.size w1 (KK h) hk.symm Ag (by omega));obtain⟨cs,cb⟩:=Ak ((ptC p).toArray);rw[<-cb] at HI CF Z T2⊢;clear cb;have F:=I ((Below.refl w.heap.size w).alloc Ag (.cells cs 40));have M:=I (Blk.new w 40 cs);cases hx:ptB p with
 |false=>
  rw[hx] at Z;have E:=I (show ptO p=none by unfold ptO limO;rw[hx];rfl);rw[E.o];clear hx E;go_enter Tryz.func21,Tryz.ntmps21
  go_wp2_with (first
   |(refine Am (by rfl) 40 (.tmp 1) (by rfl) w.heap.size 0 (by rfl) cs _ (Ae (Blk.new w 40 cs)) Tryz.underlying40 (by rfl) HI.o ?_)
   |(go_at_call 46;refine Aj (Z.o _) ?_;rintro w1 D;replace F:=F.t D;clear D Z)
   |fail)
  go_ret2
  exact FW F.o
 |true=>
  rw[hx] at Z;have hp:prB p.c=true:=(Dl hx).2.1;have h3:p.tr.length<=300:=(Dl hx).2.2.1;have b1:=Ft hp;have b2:=(Bl hp).1;have b3:=AI p.st;have b4:=AI p.en;have b5:=AE 27 p.tr;have b6:=AE 4 p.ss;have T1:=I (fun w1=>KJ p.c w1 (by omega) (by omega));have T3:=I (fun w1=>DerR.Es p.tr w1 (by omega));have T4:=I (fun w1=>DerR.DF p.st w1);have T5:=I (fun w1=>DerR.DF p.en w1);have hl:[prE p.c,elem 4 p.ss,elem 27 p.tr,encI p.st,encI p.en].flatten.length<=1900:=by rw[Fu];simp only[List.length_append];omega
  have HL:=I (show [prE p.c,elem 4 p.ss,elem 27 p.tr,encI p.st,encI p.en].flatten.length<=65535 by omega);have hE:=AE 99 [prE p.c,elem 4 p.ss,elem 27 p.tr,encI p.st,encI p.en].flatten;have E:=I (show ptO p=some (elem 99 [prE p.c,elem 4 p.ss,elem 27 p.tr,encI p.st,encI p.en].flatten) from Dg.2 ⟨hx,by show(elem 99 [prE p.c,elem 4 p.ss,elem 27 p.tr,encI p.st,encI p.en].flatten).length<=2000;omega,rfl⟩);rw[E.o];rw[Fu] at hE hl⊢;obtain⟨l1,cj⟩:∃l,l=prE p.c:=⟨_,rfl⟩;obtain⟨l2,bx⟩:∃l,l=elem 4 p.ss:=⟨_,rfl⟩;obtain⟨l3,bB⟩:∃l,l=elem 27 p.tr:=⟨_,rfl⟩;obtain⟨l4,cm⟩:∃l,l=encI p.st:=⟨_,rfl⟩;obtain⟨l5,cq⟩:∃l,l=encI p.en:=⟨_,rfl⟩;rw[<-cj] at T1 HL hE hl⊢;rw[<-bx] at T2 HL hE hl⊢;rw[<-bB] at T3 HL hE hl⊢;rw[<-cm] at T4 HL hE hl⊢;rw[<-cq] at T5 HL hE hl⊢;have ca:(elem 99 (l1++(l2++(l3++(l4++l5))))).length<=2000:=by omega
  have LM:=I (fun A c w1=>Nc (elem 99 (l1++(l2++(l3++(l4++l5))))) A _ c w1 rfl ca);clear hx E hE hl ca cj bx bB cm cq hp h3 b1 b2 b3 b4 b5 b6 hs hk ht;go_enter Tryz.func21,Tryz.ntmps21
  go_wp2_with (first
   |(refine Am (by rfl) 40 (.tmp 1) (by rfl) w.heap.size 0 (by rfl) cs _ (Ae (Blk.new w 40 cs)) Tryz.underlying40 (by rfl) HI.o ?_)
   |(go_at_call 46;refine Aj (Z.o _) ?_;rintro w0 D;replace M:=I (M.o.below D);replace F:=F.t D;clear D Z)
   |fail)
  replace M:=I (show Blk w0.drew _ _ _ from M.o.drewN 1);replace F:=I (show Below _ _ w0.drew from below_drewN F.o 1)
  go_region_held3 (fun w'=>w'.cell? ⟨w.heap.size,0,none⟩=some (.string ⟨p.c.1.toArray⟩)/\w'.cell? ⟨w.heap.size,1,none⟩=some (.string ⟨p.c.2.toArray⟩)/\w'.cell? ⟨w.heap.size,34,none⟩=some (.string ⟨p.tr.toArray⟩)/\w'.cell? ⟨w.heap.size,35,none⟩=some (.int .i64 p.st)/\w'.cell? ⟨w.heap.size,36,none⟩=some (.int .i64 p.en)) (first | exact CF.o _ M.o | exact CF.o _ (M.o.alloc _)) ((first
   |(go_at_call 49;(with_reducible refine Calls.mono (T1.o _) ?_);rintro e w1 ⟨⟨g1,c1,rfl,ct,cP,cr⟩,D⟩;clear T1;have J:=I cr;replace M:=I (M.o.below D);replace F:=F.t D;clear D cr ct cP)
   |(go_at_call 50;(with_reducible refine Calls.mono (T2.o _ M.o) ?_);rintro e w2 ⟨⟨g2,c2,rfl,cw,cy,cp⟩,D⟩;clear T2;replace J:=I (Ba J.o D);have N:=I cp;replace M:=I (M.o.below D);replace F:=F.t D;clear D cp cw cy)
   |(go_at_call 51;(with_reducible refine Calls.mono (T3.o _) ?_);rintro e w3 ⟨⟨g3,c3,rfl,cB,cR,cf⟩,D⟩;clear T3;replace J:=I (Ba J.o D);replace N:=I (Ba N.o D);have O:=I cf;replace M:=I (M.o.below D);replace F:=F.t D;clear D cf cB cR)
   |(go_at_call 52;(with_reducible refine Calls.mono (T4.o _) ?_);rintro e w4 ⟨⟨g4,c4,rfl,cQ,cA,ck⟩,D⟩;clear T4;replace J:=I (Ba J.o D);replace N:=I (Ba N.o D);replace O:=I (Ba O.o D);have aw:=I ck;replace M:=I (M.o.below D);replace F:=F.t D;clear D ck cQ cA)
   |(go_at_call 52;(with_reducible refine Calls.mono (T5.o _) ?_);rintro e w5 ⟨⟨g5,c5,rfl,cL,cx,cn⟩,D⟩;clear T5;replace J:=I (Ba J.o D);replace N:=I (Ba N.o D);replace O:=I (Ba O.o D);replace aw:=I (Ba aw.o D);have cu:=I cn;replace M:=I (M.o.below D);replace F:=F.t D;clear D cn cL cx)
   |(go_at_call 48;refine Calls.mono (DQ 99 [l1,l2,l3,l4,l5] _ 5 5 (w5.heap.size+1) _ (Jf J.o N.o O.o aw.o cu.o) rfl (by simp) HL.o (by simp)) ?_;rintro e wz ⟨⟨gz,cz,rfl,bz,cd,cg⟩,D⟩;have cc:=(Below.refl w5.heap.size w5).alloc Ag (.cells #[.slice (some ⟨g1,0,none⟩) l1.length c1,.slice (some ⟨g2,0,none⟩) l2.length c2,.slice (some ⟨g3,0,none⟩) l3.length c3,.slice (some ⟨g4,0,none⟩) l4.length c4,.slice (some ⟨g5,0,none⟩) l5.length c5] 27);have HG:=I (Bi (l:=elem 99 [l1,l2,l3,l4,l5].flatten) ⟨⟨gz,cz,rfl,bz,cd,cg⟩,D⟩ (F.o.trans (cc.mono F.o.size)));rw[Fu] at HG;replace M:=I ((M.o.alloc (.cells #[.slice (some ⟨g1,0,none⟩) l1.length c1,.slice (some ⟨g2,0,none⟩) l2.length c2,.slice (some ⟨g3,0,none⟩) l3.length c3,.slice (some ⟨g4,0,none⟩) l4.length c4,.slice (some ⟨g5,0,none⟩) l5.length c5] 27)).below D);clear cc bz cd cg D)
   |(go_at_call 47;refine Aj (LM.o _ _ _) ?_;rintro wy rfl)))
  go_wp2
  go_ret2
  exact FX HG.o
end Ms
namespace Ms
open Go.RowKit Af DerP
def mSm (m:Mg):Prop:=(pSm m.aq.c/\pSm m.aq.s)/\(pSm m.tg.t.s/\pSm m.tg.s)/\(pSm m.re.c/\pSm m.re.t.s)/\pSm m.ap.t.s
section
variable {α:Type}
end
end Ms
end Go.Proofs.YthgignaohimadaaGreat
