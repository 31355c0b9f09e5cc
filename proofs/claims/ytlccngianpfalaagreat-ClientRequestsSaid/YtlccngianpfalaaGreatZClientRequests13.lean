import Derived.Test.YtlccngianpfalaaGreatZClientRequests12
set_option maxHeartbeats 25600000
set_option maxRecDepth 100000
set_option linter.unusedVariables false
set_option linter.unusedSimpArgs false
namespace Go.Proofs.YtlccngianpfalaaGreat
namespace Ms
open Go.RowKit Ae DerP
abbrev prV (p:Pr):Value:=.agg #[.string ⟨p.1.toArray⟩,.string ⟨p.2.toArray⟩]
def SlB (w:World) (B:Nat) (v:Value) (l:L):Prop:=∃A c,v=.slice A l.length c/\l.length<=c/\Rd w B A (bvs l)
theorem SlB.keep {w w':World} {B:Nat} {v:Value} {l:L} (h:SlB w B v l) (Y:Below B w w'):SlB w' B v l:=by
 obtain⟨A,c,M,X,O⟩:=h;exact⟨A,c,M,X,O.below Y⟩
theorem SlB.more {w:World} {B B':Nat} {v:Value} {l:L} (h:SlB w B v l) (hB:B<=B'):SlB w B' v l:=by
 obtain⟨A,c,M,X,O⟩:=h;exact⟨A,c,M,X,O.more hB⟩
theorem SlB.nil (w:World) (B:Nat):SlB w B (.slice none 0 0) []:=⟨none,0,rfl,Nat.le_refl _,.inl rfl⟩
def prC (p:Pr):List Value:=[.string ⟨p.1.toArray⟩,.string ⟨p.2.toArray⟩]
def tkC (t:Tk) (b:Value):List Value:=[.string ⟨t.s.1.toArray⟩,.string ⟨t.s.2.toArray⟩,.int .i64 t.k,b]
def asC (q:As):List Value:=[.string ⟨q.c.1.toArray⟩,.string ⟨q.c.2.toArray⟩,.string ⟨q.s.1.toArray⟩,.string ⟨q.s.2.toArray⟩,.int .i64 q.t,.int .i64 q.no]
def tgC (q:Tg) (b a:Value):List Value:=tkC q.t b++[a,.string ⟨q.s.1.toArray⟩,.string ⟨q.s.2.toArray⟩,.int .i64 q.u,.int .i64 q.no]
def reC (q:Re) (b d:Value):List Value:=prC q.c++(tkC q.t b++[d])
def apC (q:Ap) (b a:Value):List Value:=tkC q.t b++[a]
def faC (q:Fa):List Value:=[.int .i64 q.e,.int .i64 q.no]
def rpC (p:Rp):List Value:=bvs p.ss++(prC p.s++[.int .i64 p.st,.int .i64 p.en,.int .i64 p.no])
structure Six where
 b1:Value
 a1:Value
 b2:Value
 d2:Value
 b3:Value
 a3:Value
structure SixR (w:World) (B:Nat) (m:Mg) (s:Six):Prop where
 b1:SlB w B s.b1 m.tg.t.b
 a1:SlB w B s.a1 m.tg.a
 b2:SlB w B s.b2 m.re.t.b
 d2:SlB w B s.d2 m.re.b
 b3:SlB w B s.b3 m.ap.t.b
 a3:SlB w B s.a3 m.ap.a
theorem SixR.keep {w w':World} {B:Nat} {m:Mg} {s:Six} (h:SixR w B m s) (M:Below B w w'):SixR w' B m s:=⟨h.b1.keep M,h.a1.keep M,h.b2.keep M,h.d2.keep M,h.b3.keep M,h.a3.keep M⟩
theorem AR {w w':World} {A:Option Addr} {l:L} (h:Rd w w.heap.size A (bvs l)) (M:Below w.heap.size w w'):Rd w' w'.heap.size A (bvs l):=(h.below M).more M.size
section
variable {w:World} {t:TypeId} {A1 A2 A3 A4 A5:Option Addr} {l1 l2 l3 l4 l5:L} {c1 c2 c3 c4 c5:Nat}
theorem Hj (X:Rd w w.heap.size A1 (bvs l1)) (O:Rd w w.heap.size A2 (bvs l2)) :
  DerW.Rds (w.alloc (.cells #[.slice A1 l1.length c1,.slice A2 l2.length c2] t)) (w.heap.size+1) (some ⟨w.heap.size,0,none⟩) [l1,l2]:=by
 refine .inr ⟨w.heap.size,0,rfl,by omega,fun i l M=>?_⟩
 match i,M with
 |0,M=>injection M with M;subst M;exact⟨A1,c1,(Blk.new w t _).cell 0,(X.alloc Af _).more (by omega)⟩
 |1,M=>injection M with M;subst M;exact⟨A2,c2,(Blk.new w t _).cell 1,(O.alloc Af _).more (by omega)⟩
 |i+2,M=>rw[List.getElem?_eq_none (by simp)] at M;cases M
theorem Ej (X:Rd w w.heap.size A1 (bvs l1)) (O:Rd w w.heap.size A2 (bvs l2)) (Y:Rd w w.heap.size A3 (bvs l3)) :
  DerW.Rds (w.alloc (.cells #[.slice A1 l1.length c1,.slice A2 l2.length c2,.slice A3 l3.length c3] t)) (w.heap.size+1) (some ⟨w.heap.size,0,none⟩) [l1,l2,l3]:=by
 refine .inr ⟨w.heap.size,0,rfl,by omega,fun i l M=>?_⟩
 match i,M with
 |0,M=>injection M with M;subst M;exact⟨A1,c1,(Blk.new w t _).cell 0,(X.alloc Af _).more (by omega)⟩
 |1,M=>injection M with M;subst M;exact⟨A2,c2,(Blk.new w t _).cell 1,(O.alloc Af _).more (by omega)⟩
 |2,M=>injection M with M;subst M;exact⟨A3,c3,(Blk.new w t _).cell 2,(Y.alloc Af _).more (by omega)⟩
 |i+3,M=>rw[List.getElem?_eq_none (by simp)] at M;cases M
theorem Nr (X:Rd w w.heap.size A1 (bvs l1)) (O:Rd w w.heap.size A2 (bvs l2)) (Y:Rd w w.heap.size A3 (bvs l3)) (Z:Rd w w.heap.size A4 (bvs l4)) :
  DerW.Rds (w.alloc (.cells #[.slice A1 l1.length c1,.slice A2 l2.length c2,.slice A3 l3.length c3,.slice A4 l4.length c4] t)) (w.heap.size+1) (some ⟨w.heap.size,0,none⟩) [l1,l2,l3,l4]:=by
 refine .inr ⟨w.heap.size,0,rfl,by omega,fun i l M=>?_⟩
 match i,M with
 |0,M=>injection M with M;subst M;exact⟨A1,c1,(Blk.new w t _).cell 0,(X.alloc Af _).more (by omega)⟩
 |1,M=>injection M with M;subst M;exact⟨A2,c2,(Blk.new w t _).cell 1,(O.alloc Af _).more (by omega)⟩
 |2,M=>injection M with M;subst M;exact⟨A3,c3,(Blk.new w t _).cell 2,(Y.alloc Af _).more (by omega)⟩
 |3,M=>injection M with M;subst M;exact⟨A4,c4,(Blk.new w t _).cell 3,(Z.alloc Af _).more (by omega)⟩
 |i+4,M=>rw[List.getElem?_eq_none (by simp)] at M;cases M
theorem GN (O:Rd w w.heap.size A1 (bvs l1)) (Y:Rd w w.heap.size A2 (bvs l2)) (X:Rd w w.heap.size A3 (bvs l3)) (Z:Rd w w.heap.size A4 (bvs l4)) (h5:Rd w w.heap.size A5 (bvs l5)) :
  DerW.Rds (w.alloc (.cells #[.slice A1 l1.length c1,.slice A2 l2.length c2,.slice A3 l3.length c3,.slice A4 l4.length c4,.slice A5 l5.length c5] t)) (w.heap.size+1) (some ⟨w.heap.size,0,none⟩) [l1,l2,l3,l4,l5]:=by
 refine .inr ⟨w.heap.size,0,rfl,by omega,fun i l M=>?_⟩
 match i,M with
 |0,M=>injection M with M;subst M;exact⟨A1,c1,(Blk.new w t _).cell 0,(O.alloc Af _).more (by omega)⟩
 |1,M=>injection M with M;subst M;exact⟨A2,c2,(Blk.new w t _).cell 1,(Y.alloc Af _).more (by omega)⟩
 |2,M=>injection M with M;subst M;exact⟨A3,c3,(Blk.new w t _).cell 2,(X.alloc Af _).more (by omega)⟩
 |3,M=>injection M with M;subst M;exact⟨A4,c4,(Blk.new w t _).cell 3,(Z.alloc Af _).more (by omega)⟩
 |4,M=>injection M with M;subst M;exact⟨A5,c5,(Blk.new w t _).cell 4,(h5.alloc Af _).more (by omega)⟩
 |i+5,M=>rw[List.getElem?_eq_none (by simp)] at M;cases M
end
theorem Kh (n a b:Int) (w:World):Calls Tryz.prog 116 #[.int .i64 n,.int .i64 a,.int .i64 b] w fun e w'=>e=.returned (.bool (inB n a b))/\w=w':=by
 cases h1:decide (a<=n) with
 |false=>
  go_enter Tryz.func116,Tryz.ntmps116
  go_wp2
  go_ret;exact⟨by rw[inB,h1];rfl,rfl⟩
 |true=>
  go_enter Tryz.func116,Tryz.ntmps116
  go_wp2
  go_ret;exact⟨by rw[inB,h1];rfl,rfl⟩
theorem DY (n:Int) (w:World):Calls Tryz.prog 116 #[.int .i64 n,.int .i64 0,.int .i64 1073741824] w fun e w'=>e=.returned (.bool (tmB n))/\w=w':=Kh n 0 1073741824 w
theorem QZ (b:L):inB (b.length:Int) 1 800=Bv b:=by
 rw[inB,Bv];have M:decide ((1:Int)<=(b.length:Int))=decide (1<=b.length):=by rw[decide_eq_decide];omega
 have O:decide ((b.length:Int)<=800)=decide (b.length<=800):=by rw[decide_eq_decide];omega
 rw[M,O]
theorem GO (b:L) (A:Option Addr) (c:Nat) (w:World):Calls Tryz.prog 115 #[.slice A b.length c] w fun e w'=>e=.returned (.bool (Bv b))/\w=w':=by
 have c1:=Kh (b.length:Int) 1 800 w;rw[QZ] at c1;go_enter Tryz.func115,Tryz.ntmps115
 go_wp2_with (go_at_call 116;refine Ah c1 ?_;rintro M rfl)
 go_ret;exact⟨rfl,rfl⟩
theorem JC (l:L) (A:Option Addr) (n c:Nat) (w:World) (O:n=l.length):Calls Tryz.prog 62 #[.slice A n c] w fun e w'=>e=.returned (.tuple (if l.length<=2000 then #[.slice A n c,.int .i64 0] else #[.slice none 0 0,.int .i64 1]))/\w=w':=by
 subst O
 by_cases h:l.length<=2000
 ·rw[if_pos h]
  have M:decide ((2000:Int)<(l.length:Int))=false:=decide_eq_false (by omega);clear h;go_enter Tryz.func62,Tryz.ntmps62
  go_wp2
  go_ret2
  exact⟨rfl,rfl⟩
 ·rw[if_neg h]
  have M:decide ((2000:Int)<(l.length:Int))=true:=decide_eq_true (by omega);clear h;go_enter Tryz.func62,Tryz.ntmps62
  go_wp2
  go_ret2
  exact⟨rfl,rfl⟩
theorem AS (p:Pr) (w:World) (M:p.1.length<=1000000000) (O:p.2.length<=1000000000):Calls Tryz.prog 44 #[prV p] w fun e w'=>e=.returned (.bool (prB p))/\Below w.heap.size w w':=Nm.Fs p.1 p.2 w M O
def pSm (p:Pr):Prop:=p.1.length<=1000000000/\p.2.length<=1000000000
theorem Gn (t:Tk) (A:Option Addr) (c:Nat) (w:World) (hs:pSm t.s):Calls Tryz.prog 114 #[.agg #[.string ⟨t.s.1.toArray⟩,.string ⟨t.s.2.toArray⟩,.int .i64 t.k,.slice A t.b.length c]] w fun e w'=>e=.returned (.bool (tkB t))/\Below w.heap.size w w':=by
 have Z:=(Below.refl w.heap.size w).alloc Af (.cells #[.string ⟨t.s.1.toArray⟩,.string ⟨t.s.2.toArray⟩,.int .i64 t.k,.slice A t.b.length c] 51);have O:=I Z;have X:=I (Blk.new w 51 #[.string ⟨t.s.1.toArray⟩,.string ⟨t.s.2.toArray⟩,.int .i64 t.k,.slice A t.b.length c]);have c1:=AS t.s (w.alloc (.cells #[.string ⟨t.s.1.toArray⟩,.string ⟨t.s.2.toArray⟩,.int .i64 t.k,.slice A t.b.length c] 51)) hs.1 hs.2;have C2:=I (fun Y=>Kh t.k 1 255 Y);have C3:=I (fun Y=>GO t.b A c Y);unfold prV at c1;clear Z;cases h1:prB t.s with
 |false=>
  rw[h1] at c1;have E:=I (show tkB t=false by rw[tkB,h1];rfl);clear h1;go_enter Tryz.func114,Tryz.ntmps114
  go_wp2_with (go_at_call 44;refine Ah c1 ?_;rintro Y M;replace O:=O.t M;clear M c1)
  go_ret;exact⟨by rw[E.o];rfl,O.o⟩
 |true=>
  rw[h1] at c1;cases h2:inB t.k 1 255 with
  |false=>
   rw[h2] at C2;have E:=I (show tkB t=false by rw[tkB,h1,h2];rfl);clear h1 h2;go_enter Tryz.func114,Tryz.ntmps114
   go_wp2_with (first
    |(go_at_call 44;refine Ah c1 ?_;rintro Y M;replace X:=I (X.o.below M);replace O:=O.t M;clear M c1;have k2:=X.o.cell 2;simp only[List.getElem?_toArray,List.getElem?_cons_zero,List.getElem?_cons_succ] at k2)
    |(go_at_call 116;refine Ah (C2.o _) ?_;rintro w2 rfl))
   go_ret;exact⟨by rw[E.o];rfl,O.o⟩
  |true=>
   rw[h2] at C2;have E:=I (show tkB t=Bv t.b by rw[tkB,h1,h2];rfl);clear h1 h2;go_enter Tryz.func114,Tryz.ntmps114
   go_wp2_with (first
    |(go_at_call 44;refine Ah c1 ?_;rintro Y M;replace X:=I (X.o.below M);replace O:=O.t M;clear M c1;have k2:=X.o.cell 2;have k3:=X.o.cell 3;simp only[List.getElem?_toArray,List.getElem?_cons_zero,List.getElem?_cons_succ] at k2 k3)
    |(go_at_call 116;refine Ah (C2.o _) ?_;rintro w2 rfl)
    |(go_at_call 115;refine Ah (C3.o _) ?_;rintro w3 rfl))
   go_ret;exact⟨by rw[E.o];rfl,O.o⟩
open DerR
theorem Ba {w0 w:World} {l:L} {e:Ending} {w':World} (h:Ci w l e w') (M:Below w0.heap.size w0 w):Ci w0 l e w':=by
 obtain⟨⟨g,c,O,Y,X,Z⟩,h5⟩:=h;exact⟨⟨g,c,O,Nat.le_trans M.size Y,X,Z⟩,M.trans (h5.mono M.size)⟩
theorem Dj (p:Pr) (w:World) (hs:p.1.length<=20000) (aj:p.2.length<=20000):Calls Tryz.prog 64 #[.agg #[.string ⟨p.1.toArray⟩,.string ⟨p.2.toArray⟩]] w (Ci w (prE p)):=by
 have ah:=(Below.refl w.heap.size w).alloc Af (.cells #[.string ⟨p.1.toArray⟩,.string ⟨p.2.toArray⟩] 35);have X:=I ah;have M:=I (Blk.new w 35 #[.string ⟨p.1.toArray⟩,.string ⟨p.2.toArray⟩]);have T1:=I (fun w1=>DerR.FT p.1 w1 (by omega));have T2:=I (fun w1=>DerR.FT p.2 w1 (by omega));have e1:=Az 27 p.1;have e2:=Az 27 p.2;have HL:=I (show [elem 27 p.1,elem 27 p.2].flatten.length<=65535 by rw[Db,List.length_append];omega);have HE:=I (show prE p=elem 48 [elem 27 p.1,elem 27 p.2].flatten from rfl);obtain⟨l1,aa⟩:∃l,l=elem 27 p.1:=⟨_,rfl⟩;obtain⟨l2,ai⟩:∃l,l=elem 27 p.2:=⟨_,rfl⟩;rw[<-aa] at T1 HL HE;rw[<-ai] at T2 HL HE;rw[HE.o,Db];clear ah e1 e2 hs aj aa ai HE;go_enter Tryz.func64,Tryz.ntmps64
 go_wp2
 obtain⟨W,eW⟩:=Aj (w.alloc (.cells #[.string ⟨p.1.toArray⟩,.string ⟨p.2.toArray⟩] 35));rw[<-eW] at X M⊢;clear eW;replace M:=I (show Blk W.drew _ _ _ from M.o.drewN 1);replace X:=I (show Below _ _ W.drew from below_drewN X.o 1)
 go_region_held3 (fun w'=>w'.cell? ⟨w.heap.size,0,none⟩=some (.string ⟨p.1.toArray⟩)/\w'.cell? ⟨w.heap.size,1,none⟩=some (.string ⟨p.2.toArray⟩)) (first | exact⟨M.o.cell 0,M.o.cell 1⟩ | exact⟨(M.o.alloc _).cell 0,(M.o.alloc _).cell 1⟩) ((first
  |(go_at_call 117;(with_reducible refine Calls.mono (T1.o _) ?_);rintro e w1 ⟨⟨g1,c1,rfl,al,ao,ad⟩,O⟩;clear T1;have Y:=I ad;replace M:=I (M.o.below O);replace X:=X.t O;clear O ad al ao)
  |(go_at_call 117;(with_reducible refine Calls.mono (T2.o _) ?_);rintro e w2 ⟨⟨g2,c2,rfl,ar,an,ae⟩,O⟩;clear T2;replace Y:=I (AR Y.o O);have ak:=I ae;replace M:=I (M.o.below O);replace X:=X.t O;clear O ae ar an)
  |(go_at_call 63;refine Calls.mono (BY 48 [l1,l2] _ 2 2 (w2.heap.size+1) _ (Hj Y.o ak.o) rfl (by simp) HL.o (by simp)) ?_;rintro e wz ⟨⟨gz,cz,rfl,af,ag,ab⟩,O⟩;have Z:=(Below.refl w2.heap.size w2).alloc Af (.cells #[.slice (some ⟨g1,0,none⟩) l1.length c1,.slice (some ⟨g2,0,none⟩) l2.length c2] 24);have HG:=I (Ba (l:=elem 48 [l1,l2].flatten) ⟨⟨gz,cz,rfl,af,ag,ab⟩,O⟩ (X.o.trans (Z.mono X.o.size)));rw[Db] at HG;replace M:=I ((M.o.alloc (.cells #[.slice (some ⟨g1,0,none⟩) l1.length c1,.slice (some ⟨g2,0,none⟩) l2.length c2] 24)).below O);clear Z af ag ab O)))
 go_wp2
 go_ret;exact HG.o
theorem IV (t:Tk) (A:Option Addr) (c B:Nat) (w:World) (hs:t.s.1.length<=10000) (ar:t.s.2.length<=10000) (ay:t.b.length<=20000) (hr:Rd w B A (bvs t.b)) (hB:B<=w.heap.size) :
  Calls Tryz.prog 66 #[.agg #[.string ⟨t.s.1.toArray⟩,.string ⟨t.s.2.toArray⟩,.int .i64 t.k,.slice A t.b.length c]] w (Ci w (tkE t)):=by
 have ai:=(Below.refl w.heap.size w).alloc Af (.cells #[.string ⟨t.s.1.toArray⟩,.string ⟨t.s.2.toArray⟩,.int .i64 t.k,.slice A t.b.length c] 51);have X:=I ai;have M:=I (Blk.new w 51 #[.string ⟨t.s.1.toArray⟩,.string ⟨t.s.2.toArray⟩,.int .i64 t.k,.slice A t.b.length c]);have T1:=I (fun Z=>Dj t.s Z (by omega) (by omega));have T2:=I (fun Z=>DerR.Bk t.k Z);have T3:=I (fun Z (h:Below w.heap.size w Z)=>DerR.Cq t.b A t.b.length c Z.heap.size Z (((hr.more hB).below h).more h.size) rfl Af (by omega));have e0:=Az 48 [elem 27 t.s.1,elem 27 t.s.2].flatten;have e1:=Az 27 t.s.1;have e2:=Az 27 t.s.2;have e3:=AE t.k;have e4:=Az 4 t.b;rw[Db,List.length_append] at e0;have HL:=I (show [prE t.s,encI t.k,elem 4 t.b].flatten.length<=65535 by rw[Dn,List.length_append,List.length_append,prE,Db];omega);have HE:=I (show tkE t=elem 97 [prE t.s,encI t.k,elem 4 t.b].flatten from rfl);obtain⟨l1,ab⟩:∃l,l=prE t.s:=⟨_,rfl⟩;obtain⟨l2,aj⟩:∃l,l=encI t.k:=⟨_,rfl⟩;obtain⟨l3,an⟩:∃l,l=elem 4 t.b:=⟨_,rfl⟩;rw[<-ab] at T1 HL HE;rw[<-aj] at T2 HL HE;rw[<-an] at T3 HL HE;rw[HE.o,Dn];clear ai e0 e1 e2 e3 e4 hs ar ay hr ab aj an HE;go_enter Tryz.func66,Tryz.ntmps66
 go_wp2
 obtain⟨W,eW⟩:=Aj (w.alloc (.cells #[.string ⟨t.s.1.toArray⟩,.string ⟨t.s.2.toArray⟩,.int .i64 t.k,.slice A t.b.length c] 51));rw[<-eW] at X M⊢;clear eW;replace M:=I (show Blk W.drew _ _ _ from M.o.drewN 1);replace X:=I (show Below _ _ W.drew from below_drewN X.o 1)
 go_region_held3 (fun w'=>w'.cell? ⟨w.heap.size,0,none⟩=some (.string ⟨t.s.1.toArray⟩)/\w'.cell? ⟨w.heap.size,1,none⟩=some (.string ⟨t.s.2.toArray⟩)/\w'.cell? ⟨w.heap.size,2,none⟩=some (.int .i64 t.k)/\w'.cell? ⟨w.heap.size,3,none⟩=some (.slice A t.b.length c)) (first | exact⟨M.o.cell 0,M.o.cell 1,M.o.cell 2,M.o.cell 3⟩ | exact⟨(M.o.alloc _).cell 0,(M.o.alloc _).cell 1,(M.o.alloc _).cell 2,(M.o.alloc _).cell 3⟩) ((first
  |(go_at_call 64;(with_reducible refine Calls.mono (T1.o _) ?_);rintro e Z ⟨⟨g1,c1,rfl,aA,aw,ad⟩,O⟩;clear T1;have Y:=I ad;replace M:=I (M.o.below O);replace X:=X.t O;clear O ad aA aw)
  |(go_at_call 65;(with_reducible refine Calls.mono (T2.o _) ?_);rintro e w2 ⟨⟨g2,c2,rfl,ax,av,ae⟩,O⟩;clear T2;replace Y:=I (AR Y.o O);have aa:=I ae;replace M:=I (M.o.below O);replace X:=X.t O;clear O ae ax av)
  |(go_at_call 67;(with_reducible refine Calls.mono (T3.o _ X.o) ?_);rintro e w3 ⟨⟨g3,c3,rfl,au,ao,ag⟩,O⟩;clear T3;replace Y:=I (AR Y.o O);replace aa:=I (AR aa.o O);have az:=I ag;replace M:=I (M.o.below O);replace X:=X.t O;clear O ag au ao)
  |(go_at_call 63;refine Calls.mono (BY 97 [l1,l2,l3] _ 3 3 (w3.heap.size+1) _ (Ej Y.o aa.o az.o) rfl (by simp) HL.o (by simp)) ?_;rintro e wz ⟨⟨gz,cz,rfl,af,ah,al⟩,O⟩;have ak:=(Below.refl w3.heap.size w3).alloc Af (.cells #[.slice (some ⟨g1,0,none⟩) l1.length c1,.slice (some ⟨g2,0,none⟩) l2.length c2,.slice (some ⟨g3,0,none⟩) l3.length c3] 24);have HG:=I (Ba (l:=elem 97 [l1,l2,l3].flatten) ⟨⟨gz,cz,rfl,af,ah,al⟩,O⟩ (X.o.trans (ak.mono X.o.size)));rw[Dn] at HG;replace M:=I ((M.o.alloc (.cells #[.slice (some ⟨g1,0,none⟩) l1.length c1,.slice (some ⟨g2,0,none⟩) l2.length c2,.slice (some ⟨g3,0,none⟩) l3.length c3] 24)).below O);clear ak af ah al O)))
 go_wp2
 go_ret;exact HG.o
end Ms
namespace Ms
open Go.RowKit Ae DerP
theorem Li (a:An) (w:World) (hs:pSm a.c):Calls Tryz.prog 78 #[.agg #[.string ⟨a.c.1.toArray⟩,.string ⟨a.c.2.toArray⟩,.int .i64 a.t,.int .i64 a.q]] w fun e w'=>e=.returned (.bool (anB a))/\Below w.heap.size w w':=by
 have aa:=(Below.refl w.heap.size w).alloc Af (.cells #[.string ⟨a.c.1.toArray⟩,.string ⟨a.c.2.toArray⟩,.int .i64 a.t,.int .i64 a.q] 68);have X:=I aa;have M:=I (Blk.new w 68 #[.string ⟨a.c.1.toArray⟩,.string ⟨a.c.2.toArray⟩,.int .i64 a.t,.int .i64 a.q]);clear aa;have Y:=I (fun w1=>AS a.c w1 hs.1 hs.2);have T2:=I (fun w1=>DY a.t w1);have T3:=I (fun w1=>DY a.q w1);cases h1:prB a.c with
 |false=>
  rw[h1] at Y;have E:=I (show anB a=false by rw[anB,h1];rfl);clear h1;go_enter Tryz.func78,Tryz.ntmps78
  go_wp2_with (go_at_call 44;(with_reducible refine Calls.mono (Y.o _) ?_);rintro e w1 ⟨rfl,O⟩;replace M:=I (M.o.below O);replace X:=X.t O;clear O Y;(try clear Z k1 k2 k3);have Z:=M.o.cell 0;have k1:=M.o.cell 1;have k2:=M.o.cell 2;have k3:=M.o.cell 3;simp only[List.getElem?_toArray,List.getElem?_cons_zero,List.getElem?_cons_succ] at Z k1 k2 k3)
  go_ret;exact⟨by rw[E.o];rfl,X.o⟩
 |true=>
  rw[h1] at Y;cases h2:tmB a.t with
  |false=>
   rw[h2] at T2;have E:=I (show anB a=false by rw[anB,h1,h2];rfl);clear h1 h2;go_enter Tryz.func78,Tryz.ntmps78
   go_wp2_with (first
    |(go_at_call 44;(with_reducible refine Calls.mono (Y.o _) ?_);rintro e w1 ⟨rfl,O⟩;replace M:=I (M.o.below O);replace X:=X.t O;clear O Y;(try clear Z k1 k2 k3);have Z:=M.o.cell 0;have k1:=M.o.cell 1;have k2:=M.o.cell 2;have k3:=M.o.cell 3;simp only[List.getElem?_toArray,List.getElem?_cons_zero,List.getElem?_cons_succ] at Z k1 k2 k3)
    |(go_at_call 116;(with_reducible refine Calls.mono (T2.o _) ?_);rintro e w2 ⟨rfl,hw⟩;subst hw;clear T2))
   go_ret;exact⟨by rw[E.o];rfl,X.o⟩
  |true=>
   rw[h2] at T2;have E:=I (show anB a=tmB a.q by rw[anB,h1,h2];rfl);clear h1 h2;go_enter Tryz.func78,Tryz.ntmps78
   go_wp2_with (first
    |(go_at_call 44;(with_reducible refine Calls.mono (Y.o _) ?_);rintro e w1 ⟨rfl,O⟩;replace M:=I (M.o.below O);replace X:=X.t O;clear O Y;(try clear Z k1 k2 k3);have Z:=M.o.cell 0;have k1:=M.o.cell 1;have k2:=M.o.cell 2;have k3:=M.o.cell 3;simp only[List.getElem?_toArray,List.getElem?_cons_zero,List.getElem?_cons_succ] at Z k1 k2 k3)
    |(go_at_call 116;(with_reducible refine Calls.mono (T2.o _) ?_);rintro e w2 ⟨rfl,hw⟩;subst hw;clear T2)
    |(go_at_call 116;(with_reducible refine Calls.mono (T3.o _) ?_);rintro e w3 ⟨rfl,hw⟩;subst hw;clear T3))
   go_ret;exact⟨by rw[E.o];rfl,X.o⟩
theorem Ra (q:As) (w:World) (hs:pSm q.c) (aa:pSm q.s):Calls Tryz.prog 112 #[.agg #[.string ⟨q.c.1.toArray⟩,.string ⟨q.c.2.toArray⟩,.string ⟨q.s.1.toArray⟩,.string ⟨q.s.2.toArray⟩,.int .i64 q.t,.int .i64 q.no]] w fun e w'=>e=.returned (.bool (asB q))/\Below w.heap.size w w':=by
 have ab:=(Below.refl w.heap.size w).alloc Af (.cells #[.string ⟨q.c.1.toArray⟩,.string ⟨q.c.2.toArray⟩,.string ⟨q.s.1.toArray⟩,.string ⟨q.s.2.toArray⟩,.int .i64 q.t,.int .i64 q.no] 49);have HB:=I ab;have M:=I (Blk.new w 49 #[.string ⟨q.c.1.toArray⟩,.string ⟨q.c.2.toArray⟩,.string ⟨q.s.1.toArray⟩,.string ⟨q.s.2.toArray⟩,.int .i64 q.t,.int .i64 q.no]);clear ab;have T1:=I (fun w1=>AS q.c w1 hs.1 hs.2);have T2:=I (fun w1=>AS q.s w1 aa.1 aa.2);have T3:=I (fun w1=>DY q.t w1);have T4:=I (fun w1=>DY q.no w1);cases h1:prB q.c with
 |false=>
  rw[h1] at T1;have E:=I (show asB q=false by rw[asB,h1];rfl);clear h1;go_enter Tryz.func112,Tryz.ntmps112
  go_wp2_with (go_at_call 44;(with_reducible refine Calls.mono (T1.o _) ?_);rintro e w1 ⟨rfl,O⟩;replace M:=I (M.o.below O);replace HB:=HB.t O;clear O T1;(try clear X k1 k2 Z Y k5);have X:=M.o.cell 0;have k1:=M.o.cell 1;have k2:=M.o.cell 2;have Z:=M.o.cell 3;have Y:=M.o.cell 4;have k5:=M.o.cell 5;simp only[List.getElem?_toArray,List.getElem?_cons_zero,List.getElem?_cons_succ] at X k1 k2 Z Y k5)
  go_ret;exact⟨by rw[E.o];rfl,HB.o⟩
 |true=>
  rw[h1] at T1;cases h2:prB q.s with
  |false=>
   rw[h2] at T2;have E:=I (show asB q=false by rw[asB,h1,h2];rfl);clear h1 h2;go_enter Tryz.func112,Tryz.ntmps112
   go_wp2_with (first
    |(go_at_call 44;(with_reducible refine Calls.mono (T1.o _) ?_);rintro e w1 ⟨rfl,O⟩;replace M:=I (M.o.below O);replace HB:=HB.t O;clear O T1;(try clear X k1 k2 Z Y k5);have X:=M.o.cell 0;have k1:=M.o.cell 1;have k2:=M.o.cell 2;have Z:=M.o.cell 3;have Y:=M.o.cell 4;have k5:=M.o.cell 5;simp only[List.getElem?_toArray,List.getElem?_cons_zero,List.getElem?_cons_succ] at X k1 k2 Z Y k5)
    |(go_at_call 44;(with_reducible refine Calls.mono (T2.o _) ?_);rintro e w2 ⟨rfl,O⟩;replace M:=I (M.o.below O);replace HB:=HB.t O;clear O T2;(try clear X k1 k2 Z Y k5);have X:=M.o.cell 0;have k1:=M.o.cell 1;have k2:=M.o.cell 2;have Z:=M.o.cell 3;have Y:=M.o.cell 4;have k5:=M.o.cell 5;simp only[List.getElem?_toArray,List.getElem?_cons_zero,List.getElem?_cons_succ] at X k1 k2 Z Y k5))
   go_ret;exact⟨by rw[E.o];rfl,HB.o⟩
  |true=>
   rw[h2] at T2;cases h3:tmB q.t with
   |false=>
    rw[h3] at T3;have E:=I (show asB q=false by rw[asB,h1,h2,h3];rfl);clear h1 h2 h3;go_enter Tryz.func112,Tryz.ntmps112
    go_wp2_with (first
     |(go_at_call 44;(with_reducible refine Calls.mono (T1.o _) ?_);rintro e w1 ⟨rfl,O⟩;replace M:=I (M.o.below O);replace HB:=HB.t O;clear O T1;(try clear X k1 k2 Z Y k5);have X:=M.o.cell 0;have k1:=M.o.cell 1;have k2:=M.o.cell 2;have Z:=M.o.cell 3;have Y:=M.o.cell 4;have k5:=M.o.cell 5;simp only[List.getElem?_toArray,List.getElem?_cons_zero,List.getElem?_cons_succ] at X k1 k2 Z Y k5)
     |(go_at_call 44;(with_reducible refine Calls.mono (T2.o _) ?_);rintro e w2 ⟨rfl,O⟩;replace M:=I (M.o.below O);replace HB:=HB.t O;clear O T2;(try clear X k1 k2 Z Y k5);have X:=M.o.cell 0;have k1:=M.o.cell 1;have k2:=M.o.cell 2;have Z:=M.o.cell 3;have Y:=M.o.cell 4;have k5:=M.o.cell 5;simp only[List.getElem?_toArray,List.getElem?_cons_zero,List.getElem?_cons_succ] at X k1 k2 Z Y k5)
     |(go_at_call 116;(with_reducible refine Calls.mono (T3.o _) ?_);rintro e w3 ⟨rfl,hw⟩;subst hw;clear T3))
    go_ret;exact⟨by rw[E.o];rfl,HB.o⟩
   |true=>
    rw[h3] at T3;have E:=I (show asB q=tmB q.no by rw[asB,h1,h2,h3];rfl);clear h1 h2 h3;go_enter Tryz.func112,Tryz.ntmps112
    go_wp2_with (first
     |(go_at_call 44;(with_reducible refine Calls.mono (T1.o _) ?_);rintro e w1 ⟨rfl,O⟩;replace M:=I (M.o.below O);replace HB:=HB.t O;clear O T1;(try clear X k1 k2 Z Y k5);have X:=M.o.cell 0;have k1:=M.o.cell 1;have k2:=M.o.cell 2;have Z:=M.o.cell 3;have Y:=M.o.cell 4;have k5:=M.o.cell 5;simp only[List.getElem?_toArray,List.getElem?_cons_zero,List.getElem?_cons_succ] at X k1 k2 Z Y k5)
     |(go_at_call 44;(with_reducible refine Calls.mono (T2.o _) ?_);rintro e w2 ⟨rfl,O⟩;replace M:=I (M.o.below O);replace HB:=HB.t O;clear O T2;(try clear X k1 k2 Z Y k5);have X:=M.o.cell 0;have k1:=M.o.cell 1;have k2:=M.o.cell 2;have Z:=M.o.cell 3;have Y:=M.o.cell 4;have k5:=M.o.cell 5;simp only[List.getElem?_toArray,List.getElem?_cons_zero,List.getElem?_cons_succ] at X k1 k2 Z Y k5)
     |(go_at_call 116;(with_reducible refine Calls.mono (T3.o _) ?_);rintro e w3 ⟨rfl,hw⟩;subst hw;clear T3)
     |(go_at_call 116;(with_reducible refine Calls.mono (T4.o _) ?_);rintro e w4 ⟨rfl,hw⟩;subst hw;clear T4))
    go_ret;exact⟨by rw[E.o];rfl,HB.o⟩
theorem OO (q:Tg) (A1 A2:Option Addr) (c1 c2:Nat) (w:World) (hs:pSm q.t.s) (aa:pSm q.s):Calls Tryz.prog 113 #[.agg #[.string ⟨q.t.s.1.toArray⟩,.string ⟨q.t.s.2.toArray⟩,.int .i64 q.t.k,.slice A1 q.t.b.length c1,.slice A2 q.a.length c2,.string ⟨q.s.1.toArray⟩,.string ⟨q.s.2.toArray⟩,.int .i64 q.u,.int .i64 q.no]] w fun e w'=>e=.returned (.bool (tgB q))/\Below w.heap.size w w':=by
 have ab:=(Below.refl w.heap.size w).alloc Af (.cells #[.string ⟨q.t.s.1.toArray⟩,.string ⟨q.t.s.2.toArray⟩,.int .i64 q.t.k,.slice A1 q.t.b.length c1,.slice A2 q.a.length c2,.string ⟨q.s.1.toArray⟩,.string ⟨q.s.2.toArray⟩,.int .i64 q.u,.int .i64 q.no] 53);have HB:=I ab;have M:=I (Blk.new w 53 #[.string ⟨q.t.s.1.toArray⟩,.string ⟨q.t.s.2.toArray⟩,.int .i64 q.t.k,.slice A1 q.t.b.length c1,.slice A2 q.a.length c2,.string ⟨q.s.1.toArray⟩,.string ⟨q.s.2.toArray⟩,.int .i64 q.u,.int .i64 q.no]);clear ab;have T1:=I (fun w1=>Gn q.t A1 c1 w1 hs);have T2:=I (fun w1=>GO q.a A2 c2 w1);have T3:=I (fun w1=>AS q.s w1 aa.1 aa.2);have T4:=I (fun w1=>DY q.u w1);have T5:=I (fun w1=>DY q.no w1);cases h1:tkB q.t with
 |false=>
  rw[h1] at T1;have E:=I (show tgB q=false by rw[tgB,h1];rfl);clear h1;go_enter Tryz.func113,Tryz.ntmps113
  go_wp2_with (go_at_call 114;(with_reducible refine Calls.mono (T1.o _) ?_);rintro e w1 ⟨rfl,O⟩;replace M:=I (M.o.below O);replace HB:=HB.t O;clear O T1;(try clear k0 k1 k2 k3 Y k5 k6 X Z);have k0:=M.o.cell 0;have k1:=M.o.cell 1;have k2:=M.o.cell 2;have k3:=M.o.cell 3;have Y:=M.o.cell 4;have k5:=M.o.cell 5;have k6:=M.o.cell 6;have X:=M.o.cell 7;have Z:=M.o.cell 8;simp only[List.getElem?_toArray,List.getElem?_cons_zero,List.getElem?_cons_succ] at k0 k1 k2 k3 Y k5 k6 X Z)
  go_ret;exact⟨by rw[E.o];rfl,HB.o⟩
 |true=>
  rw[h1] at T1;cases h2:Bv q.a with
  |false=>
   rw[h2] at T2;have E:=I (show tgB q=false by rw[tgB,h1,h2];rfl);clear h1 h2;go_enter Tryz.func113,Tryz.ntmps113
   go_wp2_with (first
    |(go_at_call 114;(with_reducible refine Calls.mono (T1.o _) ?_);rintro e w1 ⟨rfl,O⟩;replace M:=I (M.o.below O);replace HB:=HB.t O;clear O T1;(try clear k0 k1 k2 k3 Y k5 k6 X Z);have k0:=M.o.cell 0;have k1:=M.o.cell 1;have k2:=M.o.cell 2;have k3:=M.o.cell 3;have Y:=M.o.cell 4;have k5:=M.o.cell 5;have k6:=M.o.cell 6;have X:=M.o.cell 7;have Z:=M.o.cell 8;simp only[List.getElem?_toArray,List.getElem?_cons_zero,List.getElem?_cons_succ] at k0 k1 k2 k3 Y k5 k6 X Z)
    |(go_at_call 115;(with_reducible refine Calls.mono (T2.o _) ?_);rintro e w2 ⟨rfl,hw⟩;subst hw;clear T2))
   go_ret;exact⟨by rw[E.o];rfl,HB.o⟩
  |true=>
   rw[h2] at T2;cases h3:prB q.s with
   |false=>
    rw[h3] at T3;have E:=I (show tgB q=false by rw[tgB,h1,h2,h3];rfl);clear h1 h2 h3;go_enter Tryz.func113,Tryz.ntmps113
    go_wp2_with (first
     |(go_at_call 114;(with_reducible refine Calls.mono (T1.o _) ?_);rintro e w1 ⟨rfl,O⟩;replace M:=I (M.o.below O);replace HB:=HB.t O;clear O T1;(try clear k0 k1 k2 k3 Y k5 k6 X Z);have k0:=M.o.cell 0;have k1:=M.o.cell 1;have k2:=M.o.cell 2;have k3:=M.o.cell 3;have Y:=M.o.cell 4;have k5:=M.o.cell 5;have k6:=M.o.cell 6;have X:=M.o.cell 7;have Z:=M.o.cell 8;simp only[List.getElem?_toArray,List.getElem?_cons_zero,List.getElem?_cons_succ] at k0 k1 k2 k3 Y k5 k6 X Z)
     |(go_at_call 115;(with_reducible refine Calls.mono (T2.o _) ?_);rintro e w2 ⟨rfl,hw⟩;subst hw;clear T2)
     |(go_at_call 44;(with_reducible refine Calls.mono (T3.o _) ?_);rintro e w3 ⟨rfl,O⟩;replace M:=I (M.o.below O);replace HB:=HB.t O;clear O T3;(try clear k0 k1 k2 k3 Y k5 k6 X Z);have k0:=M.o.cell 0;have k1:=M.o.cell 1;have k2:=M.o.cell 2;have k3:=M.o.cell 3;have Y:=M.o.cell 4;have k5:=M.o.cell 5;have k6:=M.o.cell 6;have X:=M.o.cell 7;have Z:=M.o.cell 8;simp only[List.getElem?_toArray,List.getElem?_cons_zero,List.getElem?_cons_succ] at k0 k1 k2 k3 Y k5 k6 X Z))
    go_ret;exact⟨by rw[E.o];rfl,HB.o⟩
   |true=>
    rw[h3] at T3;cases h4:tmB q.u with
    |false=>
     rw[h4] at T4;have E:=I (show tgB q=false by rw[tgB,h1,h2,h3,h4];rfl);clear h1 h2 h3 h4;go_enter Tryz.func113,Tryz.ntmps113
     go_wp2_with (first
      |(go_at_call 114;(with_reducible refine Calls.mono (T1.o _) ?_);rintro e w1 ⟨rfl,O⟩;replace M:=I (M.o.below O);replace HB:=HB.t O;clear O T1;(try clear k0 k1 k2 k3 Y k5 k6 X Z);have k0:=M.o.cell 0;have k1:=M.o.cell 1;have k2:=M.o.cell 2;have k3:=M.o.cell 3;have Y:=M.o.cell 4;have k5:=M.o.cell 5;have k6:=M.o.cell 6;have X:=M.o.cell 7;have Z:=M.o.cell 8;simp only[List.getElem?_toArray,List.getElem?_cons_zero,List.getElem?_cons_succ] at k0 k1 k2 k3 Y k5 k6 X Z)
      |(go_at_call 115;(with_reducible refine Calls.mono (T2.o _) ?_);rintro e w2 ⟨rfl,hw⟩;subst hw;clear T2)
      |(go_at_call 44;(with_reducible refine Calls.mono (T3.o _) ?_);rintro e w3 ⟨rfl,O⟩;replace M:=I (M.o.below O);replace HB:=HB.t O;clear O T3;(try clear k0 k1 k2 k3 Y k5 k6 X Z);have k0:=M.o.cell 0;have k1:=M.o.cell 1;have k2:=M.o.cell 2;have k3:=M.o.cell 3;have Y:=M.o.cell 4;have k5:=M.o.cell 5;have k6:=M.o.cell 6;have X:=M.o.cell 7;have Z:=M.o.cell 8;simp only[List.getElem?_toArray,List.getElem?_cons_zero,List.getElem?_cons_succ] at k0 k1 k2 k3 Y k5 k6 X Z)
      |(go_at_call 116;(with_reducible refine Calls.mono (T4.o _) ?_);rintro e w4 ⟨rfl,hw⟩;subst hw;clear T4))
     go_ret;exact⟨by rw[E.o];rfl,HB.o⟩
    |true=>
     rw[h4] at T4;have E:=I (show tgB q=tmB q.no by rw[tgB,h1,h2,h3,h4];rfl);clear h1 h2 h3 h4;go_enter Tryz.func113,Tryz.ntmps113
     go_wp2_with (first
      |(go_at_call 114;(with_reducible refine Calls.mono (T1.o _) ?_);rintro e w1 ⟨rfl,O⟩;replace M:=I (M.o.below O);replace HB:=HB.t O;clear O T1;(try clear k0 k1 k2 k3 Y k5 k6 X Z);have k0:=M.o.cell 0;have k1:=M.o.cell 1;have k2:=M.o.cell 2;have k3:=M.o.cell 3;have Y:=M.o.cell 4;have k5:=M.o.cell 5;have k6:=M.o.cell 6;have X:=M.o.cell 7;have Z:=M.o.cell 8;simp only[List.getElem?_toArray,List.getElem?_cons_zero,List.getElem?_cons_succ] at k0 k1 k2 k3 Y k5 k6 X Z)
      |(go_at_call 115;(with_reducible refine Calls.mono (T2.o _) ?_);rintro e w2 ⟨rfl,hw⟩;subst hw;clear T2)
      |(go_at_call 44;(with_reducible refine Calls.mono (T3.o _) ?_);rintro e w3 ⟨rfl,O⟩;replace M:=I (M.o.below O);replace HB:=HB.t O;clear O T3;(try clear k0 k1 k2 k3 Y k5 k6 X Z);have k0:=M.o.cell 0;have k1:=M.o.cell 1;have k2:=M.o.cell 2;have k3:=M.o.cell 3;have Y:=M.o.cell 4;have k5:=M.o.cell 5;have k6:=M.o.cell 6;have X:=M.o.cell 7;have Z:=M.o.cell 8;simp only[List.getElem?_toArray,List.getElem?_cons_zero,List.getElem?_cons_succ] at k0 k1 k2 k3 Y k5 k6 X Z)
      |(go_at_call 116;(with_reducible refine Calls.mono (T4.o _) ?_);rintro e w4 ⟨rfl,hw⟩;subst hw;clear T4)
      |(go_at_call 116;(with_reducible refine Calls.mono (T5.o _) ?_);rintro e w5 ⟨rfl,hw⟩;subst hw;clear T5))
     go_ret;exact⟨by rw[E.o];rfl,HB.o⟩
theorem FU {p:Rp} (hk:p.ss.length=32) {g:Nat} {t:TypeId} {w':World} (h:Blk w' g t (rpC p).toArray):w'.cell? ⟨g,32,none⟩=some (.string ⟨p.s.1.toArray⟩)/\w'.cell? ⟨g,33,none⟩=some (.string ⟨p.s.2.toArray⟩)/\w'.cell? ⟨g,34,none⟩=some (.int .i64 p.st)/\w'.cell? ⟨g,35,none⟩=some (.int .i64 p.en)/\w'.cell? ⟨g,36,none⟩=some (.int .i64 p.no):=by
 have M:(bvs p.ss).length=32:=by rw[AB];exact hk
 have key:∀j,w'.cell? ⟨g,32+j,none⟩=(prC p.s++[.int .i64 p.st,.int .i64 p.en,.int .i64 p.no])[j]?:=fun j=>by
  rw[h.cell,List.getElem?_toArray,rpC,List.getElem?_append_right (by omega),M,Nat.add_sub_cancel_left]
 exact⟨key 0,key 1,key 2,key 3,key 4⟩
theorem FE {p:Rp} (hk:p.ss.length=32):(rpC p).toArray.size=37:=by
 simp [rpC,prC,AB,hk]
theorem OP (p:Rp) (w:World) (hk:p.ss.length=32) (hs:pSm p.s):Calls Tryz.prog 68 #[.agg (rpC p).toArray] w fun e w'=>e=.returned (.bool (rpB p))/\Below w.heap.size w w':=by
 have HI:=I (show(Tryz.prog.info? 104).map (·.size)=some (rpC p).toArray.size by rw[FE hk];kernel_rfl);have CF:=I (show ∀w':World,Blk w' w.heap.size 104 (rpC p).toArray->w'.cell? ⟨w.heap.size,32,none⟩=some (.string ⟨p.s.1.toArray⟩)/\w'.cell? ⟨w.heap.size,33,none⟩=some (.string ⟨p.s.2.toArray⟩)/\w'.cell? ⟨w.heap.size,34,none⟩=some (.int .i64 p.st)/\w'.cell? ⟨w.heap.size,35,none⟩=some (.int .i64 p.en)/\w'.cell? ⟨w.heap.size,36,none⟩=some (.int .i64 p.no) from fun w' h=>FU hk h);obtain⟨cs,aa⟩:=Aj ((rpC p).toArray);rw[<-aa] at HI CF⊢;clear aa;have X:=I ((Below.refl w.heap.size w).alloc Af (.cells cs 104));have O:=I (Blk.new w 104 cs);have Z:=I (fun Y=>AS p.s Y hs.1 hs.2);have T2:=I (fun Y=>DY p.st Y);have T3:=I (fun Y=>DY p.en Y);have T4:=I (fun Y=>DY p.no Y);obtain⟨k0,k1,k2,k3,k4⟩:=CF.o _ O.o;cases h1:prB p.s with
 |false=>
  rw[h1] at Z;have E:=I (show rpB p=false by rw[rpB,h1];rfl);clear h1;go_enter Tryz.func68,Tryz.ntmps68
  go_wp2_with (go_at_call 44;(with_reducible refine Calls.mono (Z.o _) ?_);rintro e Y ⟨rfl,M⟩;replace O:=I (O.o.below M);replace X:=X.t M;clear M Z;(try clear k0 k1 k2 k3 k4);obtain⟨k0,k1,k2,k3,k4⟩:=CF.o _ O.o)
  go_ret;exact⟨by rw[E.o];rfl,X.o⟩
 |true=>
  rw[h1] at Z;cases h2:tmB p.st with
  |false=>
   rw[h2] at T2;have E:=I (show rpB p=false by rw[rpB,h1,h2];rfl);clear h1 h2;go_enter Tryz.func68,Tryz.ntmps68
   go_wp2_with (first
    |(go_at_call 44;(with_reducible refine Calls.mono (Z.o _) ?_);rintro e Y ⟨rfl,M⟩;replace O:=I (O.o.below M);replace X:=X.t M;clear M Z;(try clear k0 k1 k2 k3 k4);obtain⟨k0,k1,k2,k3,k4⟩:=CF.o _ O.o)
    |(go_at_call 116;(with_reducible refine Calls.mono (T2.o _) ?_);rintro e w2 ⟨rfl,hw⟩;subst hw;clear T2))
   go_ret;exact⟨by rw[E.o];rfl,X.o⟩
  |true=>
   rw[h2] at T2;cases h3:tmB p.en with
   |false=>
    rw[h3] at T3;have E:=I (show rpB p=false by rw[rpB,h1,h2,h3];rfl);clear h1 h2 h3;go_enter Tryz.func68,Tryz.ntmps68
    go_wp2_with (first
     |(go_at_call 44;(with_reducible refine Calls.mono (Z.o _) ?_);rintro e Y ⟨rfl,M⟩;replace O:=I (O.o.below M);replace X:=X.t M;clear M Z;(try clear k0 k1 k2 k3 k4);obtain⟨k0,k1,k2,k3,k4⟩:=CF.o _ O.o)
     |(go_at_call 116;(with_reducible refine Calls.mono (T2.o _) ?_);rintro e w2 ⟨rfl,hw⟩;subst hw;clear T2)
     |(go_at_call 116;(with_reducible refine Calls.mono (T3.o _) ?_);rintro e w3 ⟨rfl,hw⟩;subst hw;clear T3))
    go_ret;exact⟨by rw[E.o];rfl,X.o⟩
   |true=>
    rw[h3] at T3;have E:=I (show rpB p=tmB p.no by rw[rpB,h1,h2,h3];rfl);clear h1 h2 h3;go_enter Tryz.func68,Tryz.ntmps68
    go_wp2_with (first
     |(go_at_call 44;(with_reducible refine Calls.mono (Z.o _) ?_);rintro e Y ⟨rfl,M⟩;replace O:=I (O.o.below M);replace X:=X.t M;clear M Z;(try clear k0 k1 k2 k3 k4);obtain⟨k0,k1,k2,k3,k4⟩:=CF.o _ O.o)
     |(go_at_call 116;(with_reducible refine Calls.mono (T2.o _) ?_);rintro e w2 ⟨rfl,hw⟩;subst hw;clear T2)
     |(go_at_call 116;(with_reducible refine Calls.mono (T3.o _) ?_);rintro e w3 ⟨rfl,hw⟩;subst hw;clear T3)
     |(go_at_call 116;(with_reducible refine Calls.mono (T4.o _) ?_);rintro e w4 ⟨rfl,hw⟩;subst hw;clear T4))
    go_ret;exact⟨by rw[E.o];rfl,X.o⟩
open DerR
def EncR (w:World) (o:Option L) (e:Ending) (w':World):Prop:=
 (∃v i,e=.returned (.tuple #[v,.int .i64 i])/\(o=none->v=.slice none 0 0/\i=1)/\∀l,o=some l->i=0/\∃g c,v=.slice (some ⟨g,0,none⟩) l.length c/\w.heap.size<=g/\l.length<=c/\Rd w' w'.heap.size (some ⟨g,0,none⟩) (bvs l))/\Below w.heap.size w w'
theorem Ac {w:World} {g:Nat} {t:TypeId} {cs:Array Value} (h:Blk w g t cs):w.rangeAt g 0 cs.toList:=fun j v M=>by
 rw[Nat.zero_add,h.cell];simpa using M
theorem Ad {P:Program} {ops:Array Oper} {rest:List Oper} {op:Oper} {a:Act} {w:World} {Q:Exit->Act->World->Prop} (M:op.guard=none) (ty:TypeId) (x:Operand) (X:op.op=.load ty x)
  (g o:Nat) (Y:a.eval x=.pointer (some ⟨g,o,none⟩)) (cs:Array Value) (d:TypeDesc) (O:w.rangeAt g o cs.toList)
  (hu:P.underlying ty=some d) (Z:d.isRow=true) (hi:(P.info? ty).map (·.size)=some cs.size)
  (h:wpList P ops Q rest (a.put op.dst (.agg cs)) w):wpList P ops Q (op :: rest) a w:=
 wpList_load_mid M ty x X g o Y cs.toList d O hu Z (by rw[Array.length_toList];exact hi) (by simpa using h)
theorem DM (l:L) (A:Option Addr) (n c:Nat) (w:World) (M:n=l.length) (h:l.length<=2000):Calls Tryz.prog 62 #[.slice A n c] w fun e w'=>e=.returned (.tuple #[.slice A n c,.int .i64 0])/\w=w':=by
 have:=JC l A n c w M
 rwa [if_pos h] at this
theorem Ey {w w':World} (h:Below w.heap.size w w'):EncR w none (.returned (.tuple #[.slice none 0 0,.int .i64 1])) w':=
 ⟨⟨_,_,rfl,(fun _=>⟨rfl,rfl⟩),(fun l e=>by cases e)⟩,h⟩
theorem Dl {w w':World} {l:L} {g c:Nat} (h:Ci w l (.returned (.slice (some ⟨g,0,none⟩) l.length c)) w'):EncR w (some l) (.returned (.tuple #[.slice (some ⟨g,0,none⟩) l.length c,.int .i64 0])) w':=by
 obtain⟨⟨g',c',M,X,O,Y⟩,Z⟩:=h;injection M with M;injection M with M h6 h7;injection M with M;injection M with M;subst M;subst h7;exact⟨⟨_,_,rfl,(fun e=>by cases e),(fun l' e=>by injection e with e;subst e;exact⟨rfl,g,c,rfl,X,O,Y⟩)⟩,Z⟩
theorem Ki (a:An) (w:World) (hs:pSm a.c):Calls Tryz.prog 40 #[.agg #[.string ⟨a.c.1.toArray⟩,.string ⟨a.c.2.toArray⟩,.int .i64 a.t,.int .i64 a.q]] w (EncR w (anO a)):=by
 have ai:=(Below.refl w.heap.size w).alloc Af (.cells #[.string ⟨a.c.1.toArray⟩,.string ⟨a.c.2.toArray⟩,.int .i64 a.t,.int .i64 a.q] 68);have X:=I ai;have O:=I (Blk.new w 68 #[.string ⟨a.c.1.toArray⟩,.string ⟨a.c.2.toArray⟩,.int .i64 a.t,.int .i64 a.q]);have I1:=I (fun Y=>Li a Y hs);clear ai;cases hx:anB a with
 |false=>
  rw[hx] at I1;have E:=I (show anO a=none by unfold anO limO;rw[hx];rfl);rw[E.o];clear hx E;go_enter Tryz.func40,Tryz.ntmps40
  go_wp2_with (go_at_call 78;refine Ah (I1.o _) ?_;rintro Y M;replace X:=X.t M;clear M I1)
  go_ret2
  exact Ey X.o
 |true=>
  rw[hx] at I1;have hp:prB a.c=true:=(show prB a.c=true/\tmB a.t=true/\tmB a.q=true by simpa [anB] using hx).1;have ar:=Ec hp;have av:=(AV hp).1;have e1:=AE a.t;have e2:=AE a.q;have T1:=I (fun Y=>Dj a.c Y (by omega) (by omega));have T2:=I (fun Y=>DerR.Bk a.t Y);have T3:=I (fun Y=>DerR.Bk a.q Y);have hl:[prE a.c,encI a.t,encI a.q].flatten.length<=1900:=by rw[Dn];simp only[List.length_append];omega
  have HL:=I (show [prE a.c,encI a.t,encI a.q].flatten.length<=65535 by omega);have hE:=Az 98 [prE a.c,encI a.t,encI a.q].flatten;have E:=I (show anO a=some (elem 98 [prE a.c,encI a.t,encI a.q].flatten) from Br.2 ⟨hx,by show(elem 98 [prE a.c,encI a.t,encI a.q].flatten).length<=2000;omega,rfl⟩);rw[E.o];rw[Dn] at hE hl⊢;obtain⟨l1,ab⟩:∃l,l=prE a.c:=⟨_,rfl⟩;obtain⟨l2,aj⟩:∃l,l=encI a.t:=⟨_,rfl⟩;obtain⟨l3,ao⟩:∃l,l=encI a.q:=⟨_,rfl⟩;rw[<-ab] at T1 HL hE hl⊢;rw[<-aj] at T2 HL hE hl⊢;rw[<-ao] at T3 HL hE hl⊢;have an:(elem 98 (l1++(l2++l3))).length<=2000:=by omega
  have LM:=I (fun A c Y=>DM (elem 98 (l1++(l2++l3))) A _ c Y rfl an);clear hx E hE hl an ab aj ao hp ar av e1 e2 hs;go_enter Tryz.func40,Tryz.ntmps40
  go_wp2_with (go_at_call 78;refine Ah (I1.o _) ?_;rintro w0 M;replace O:=I (O.o.below M);replace X:=X.t M;clear M I1)
  replace O:=I (show Blk w0.drew _ _ _ from O.o.drewN 1);replace X:=I (show Below _ _ w0.drew from below_drewN X.o 1)
  go_region_held3 (fun w'=>w'.cell? ⟨w.heap.size,0,none⟩=some (.string ⟨a.c.1.toArray⟩)/\w'.cell? ⟨w.heap.size,1,none⟩=some (.string ⟨a.c.2.toArray⟩)/\w'.cell? ⟨w.heap.size,2,none⟩=some (.int .i64 a.t)/\w'.cell? ⟨w.heap.size,3,none⟩=some (.int .i64 a.q)) (first | exact⟨O.o.cell 0,O.o.cell 1,O.o.cell 2,O.o.cell 3⟩ | exact⟨(O.o.alloc _).cell 0,(O.o.alloc _).cell 1,(O.o.alloc _).cell 2,(O.o.alloc _).cell 3⟩) ((first
   |(go_at_call 64;(with_reducible refine Calls.mono (T1.o _) ?_);rintro e Y ⟨⟨g1,c1,rfl,aB,ay,ad⟩,M⟩;clear T1;have Z:=I ad;replace O:=I (O.o.below M);replace X:=X.t M;clear M ad aB ay)
   |(go_at_call 65;(with_reducible refine Calls.mono (T2.o _) ?_);rintro e w2 ⟨⟨g2,c2,rfl,az,ax,ae⟩,M⟩;clear T2;replace Z:=I (AR Z.o M);have aa:=I ae;replace O:=I (O.o.below M);replace X:=X.t M;clear M ae az ax)
   |(go_at_call 65;(with_reducible refine Calls.mono (T3.o _) ?_);rintro e w3 ⟨⟨g3,c3,rfl,aw,au,ag⟩,M⟩;clear T3;replace Z:=I (AR Z.o M);replace aa:=I (AR aa.o M);have aA:=I ag;replace O:=I (O.o.below M);replace X:=X.t M;clear M ag aw au)
   |(go_at_call 63;refine Calls.mono (BY 98 [l1,l2,l3] _ 3 3 (w3.heap.size+1) _ (Ej Z.o aa.o aA.o) rfl (by simp) HL.o (by simp)) ?_;rintro e wz ⟨⟨gz,cz,rfl,af,ah,al⟩,M⟩;have ak:=(Below.refl w3.heap.size w3).alloc Af (.cells #[.slice (some ⟨g1,0,none⟩) l1.length c1,.slice (some ⟨g2,0,none⟩) l2.length c2,.slice (some ⟨g3,0,none⟩) l3.length c3] 24);have HG:=I (Ba (l:=elem 98 [l1,l2,l3].flatten) ⟨⟨gz,cz,rfl,af,ah,al⟩,M⟩ (X.o.trans (ak.mono X.o.size)));rw[Dn] at HG;replace O:=I ((O.o.alloc (.cells #[.slice (some ⟨g1,0,none⟩) l1.length c1,.slice (some ⟨g2,0,none⟩) l2.length c2,.slice (some ⟨g3,0,none⟩) l3.length c3] 24)).below M);clear ak af ah al M)
   |(go_at_call 62;refine Ah (LM.o _ _ _) ?_;rintro wy rfl)))
  go_wp2
  go_ret2
  exact Dl HG.o
theorem UZ {p:Rp} (hk:p.ss.length=32) {g:Nat} {t:TypeId} {w':World} (h:Blk w' g t (rpC p).toArray):Rd w' w'.heap.size (some ⟨g,0,none⟩) (bvs p.ss):=by
 refine .inr ⟨g,0,rfl,h.lt,fun i u hu=>?_⟩;rw[Nat.zero_add,h.cell,List.getElem?_toArray,rpC];have M:i<(bvs p.ss).length:=(List.getElem?_eq_some_iff.1 hu).1;rw[List.getElem?_append_left M];exact hu
theorem Mq (p:Rp) (w:World) (hk:p.ss.length=32) (hs:pSm p.s):Calls Tryz.prog 30 #[.agg (rpC p).toArray] w (EncR w (rpO p)):=by
 have HI:=I (show(Tryz.prog.info? 104).map (·.size)=some (rpC p).toArray.size by rw[FE hk];kernel_rfl);have CF:=I (show ∀w':World,Blk w' w.heap.size 104 (rpC p).toArray->w'.cell? ⟨w.heap.size,32,none⟩=some (.string ⟨p.s.1.toArray⟩)/\w'.cell? ⟨w.heap.size,33,none⟩=some (.string ⟨p.s.2.toArray⟩)/\w'.cell? ⟨w.heap.size,34,none⟩=some (.int .i64 p.st)/\w'.cell? ⟨w.heap.size,35,none⟩=some (.int .i64 p.en)/\w'.cell? ⟨w.heap.size,36,none⟩=some (.int .i64 p.no) from fun w' h=>FU hk h);have I1:=I (fun Z=>OP p Z hk hs);have T1:=I (fun Z (h:Blk Z w.heap.size 104 (rpC p).toArray)=>DerR.Cq p.ss (some ⟨w.heap.size,0,none⟩) 32 32 Z.heap.size Z (UZ hk h) hk.symm Af (by omega));obtain⟨cs,ak⟩:=Aj ((rpC p).toArray);rw[<-ak] at HI CF I1 T1⊢;clear ak;have X:=I ((Below.refl w.heap.size w).alloc Af (.cells cs 104));have O:=I (Blk.new w 104 cs);cases hx:rpB p with
 |false=>
  rw[hx] at I1;have E:=I (show rpO p=none by unfold rpO limO;rw[hx];rfl);rw[E.o];clear hx E;go_enter Tryz.func30,Tryz.ntmps30
  go_wp2_with (first
   |(refine Ad (by rfl) 104 (.tmp 1) (by rfl) w.heap.size 0 (by rfl) cs _ (Ac (Blk.new w 104 cs)) Tryz.underlying104 (by rfl) HI.o ?_)
   |(go_at_call 68;refine Ah (I1.o _) ?_;rintro Z M;replace X:=X.t M;clear M I1)
   |fail)
  go_ret2
  exact Ey X.o
 |true=>
  rw[hx] at I1;have hp:prB p.s=true:=(show prB p.s=true/\tmB p.st=true/\tmB p.en=true/\tmB p.no=true by simpa [rpB] using hx).1;have b1:=Ec hp;have b2:=(AV hp).1;have b3:=AE p.st;have b4:=AE p.en;have b5:=AE p.no;have b6:=Az 4 p.ss;have T2:=I (fun Z=>Dj p.s Z (by omega) (by omega));have T3:=I (fun Z=>DerR.Bk p.st Z);have T4:=I (fun Z=>DerR.Bk p.en Z);have T5:=I (fun Z=>DerR.Bk p.no Z);have hl:[elem 4 p.ss,prE p.s,encI p.st,encI p.en,encI p.no].flatten.length<=1900:=by rw[Eo];simp only[List.length_append];omega
  have HL:=I (show [elem 4 p.ss,prE p.s,encI p.st,encI p.en,encI p.no].flatten.length<=65535 by omega);have hE:=Az 122 [elem 4 p.ss,prE p.s,encI p.st,encI p.en,encI p.no].flatten;have E:=I (show rpO p=some (elem 122 [elem 4 p.ss,prE p.s,encI p.st,encI p.en,encI p.no].flatten) from Br.2 ⟨hx,by show(elem 122 [elem 4 p.ss,prE p.s,encI p.st,encI p.en,encI p.no].flatten).length<=2000;omega,rfl⟩);rw[E.o];rw[Eo] at hE hl⊢;obtain⟨l1,ae⟩:∃l,l=elem 4 p.ss:=⟨_,rfl⟩;obtain⟨l2,ar⟩:∃l,l=prE p.s:=⟨_,rfl⟩;obtain⟨l3,ay⟩:∃l,l=encI p.st:=⟨_,rfl⟩;obtain⟨l4,aw⟩:∃l,l=encI p.en:=⟨_,rfl⟩;obtain⟨l5,aj⟩:∃l,l=encI p.no:=⟨_,rfl⟩;rw[<-ae] at T1 HL hE hl⊢;rw[<-ar] at T2 HL hE hl⊢;rw[<-ay] at T3 HL hE hl⊢;rw[<-aw] at T4 HL hE hl⊢;rw[<-aj] at T5 HL hE hl⊢;have ax:(elem 122 (l1++(l2++(l3++(l4++l5))))).length<=2000:=by omega
  have LM:=I (fun A c Z=>DM (elem 122 (l1++(l2++(l3++(l4++l5))))) A _ c Z rfl ax);clear hx E hE hl ax ae ar ay aw aj hp b1 b2 b3 b4 b5 b6 hs hk;go_enter Tryz.func30,Tryz.ntmps30
  go_wp2_with (first
   |(refine Ad (by rfl) 104 (.tmp 1) (by rfl) w.heap.size 0 (by rfl) cs _ (Ac (Blk.new w 104 cs)) Tryz.underlying104 (by rfl) HI.o ?_)
   |(go_at_call 68;refine Ah (I1.o _) ?_;rintro w0 M;replace O:=I (O.o.below M);replace X:=X.t M;clear M I1)
   |fail)
  replace O:=I (show Blk w0.drew _ _ _ from O.o.drewN 1);replace X:=I (show Below _ _ w0.drew from below_drewN X.o 1)
  go_region_held3 (fun w'=>w'.cell? ⟨w.heap.size,32,none⟩=some (.string ⟨p.s.1.toArray⟩)/\w'.cell? ⟨w.heap.size,33,none⟩=some (.string ⟨p.s.2.toArray⟩)/\w'.cell? ⟨w.heap.size,34,none⟩=some (.int .i64 p.st)/\w'.cell? ⟨w.heap.size,35,none⟩=some (.int .i64 p.en)/\w'.cell? ⟨w.heap.size,36,none⟩=some (.int .i64 p.no)) (first | exact CF.o _ O.o | exact CF.o _ (O.o.alloc _)) ((first
   |(go_at_call 67;(with_reducible refine Calls.mono (T1.o _ O.o) ?_);rintro e Z ⟨⟨g1,c1,rfl,aJ,aF,af⟩,M⟩;clear T1;have Y:=I af;replace O:=I (O.o.below M);replace X:=X.t M;clear M af aJ aF)
   |(go_at_call 64;(with_reducible refine Calls.mono (T2.o _) ?_);rintro e w2 ⟨⟨g2,c2,rfl,aG,aD,ag⟩,M⟩;clear T2;replace Y:=I (AR Y.o M);have aa:=I ag;replace O:=I (O.o.below M);replace X:=X.t M;clear M ag aG aD)
   |(go_at_call 65;(with_reducible refine Calls.mono (T3.o _) ?_);rintro e w3 ⟨⟨g3,c3,rfl,aC,az,al⟩,M⟩;clear T3;replace Y:=I (AR Y.o M);replace aa:=I (AR aa.o M);have ab:=I al;replace O:=I (O.o.below M);replace X:=X.t M;clear M al aC az)
   |(go_at_call 65;(with_reducible refine Calls.mono (T4.o _) ?_);rintro e w4 ⟨⟨g4,c4,rfl,aH,aA,ah⟩,M⟩;clear T4;replace Y:=I (AR Y.o M);replace aa:=I (AR aa.o M);replace ab:=I (AR ab.o M);have ad:=I ah;replace O:=I (O.o.below M);replace X:=X.t M;clear M ah aH aA)
   |(go_at_call 65;(with_reducible refine Calls.mono (T5.o _) ?_);rintro e w5 ⟨⟨g5,c5,rfl,aI,aB,ao⟩,M⟩;clear T5;replace Y:=I (AR Y.o M);replace aa:=I (AR aa.o M);replace ab:=I (AR ab.o M);replace ad:=I (AR ad.o M);have aE:=I ao;replace O:=I (O.o.below M);replace X:=X.t M;clear M ao aI aB)
   |(go_at_call 63;refine Calls.mono (BY 122 [l1,l2,l3,l4,l5] _ 5 5 (w5.heap.size+1) _ (GN Y.o aa.o ab.o ad.o aE.o) rfl (by simp) HL.o (by simp)) ?_;rintro e wz ⟨⟨gz,cz,rfl,ai,an,av⟩,M⟩;have au:=(Below.refl w5.heap.size w5).alloc Af (.cells #[.slice (some ⟨g1,0,none⟩) l1.length c1,.slice (some ⟨g2,0,none⟩) l2.length c2,.slice (some ⟨g3,0,none⟩) l3.length c3,.slice (some ⟨g4,0,none⟩) l4.length c4,.slice (some ⟨g5,0,none⟩) l5.length c5] 24);have HG:=I (Ba (l:=elem 122 [l1,l2,l3,l4,l5].flatten) ⟨⟨gz,cz,rfl,ai,an,av⟩,M⟩ (X.o.trans (au.mono X.o.size)));rw[Eo] at HG;replace O:=I ((O.o.alloc (.cells #[.slice (some ⟨g1,0,none⟩) l1.length c1,.slice (some ⟨g2,0,none⟩) l2.length c2,.slice (some ⟨g3,0,none⟩) l3.length c3,.slice (some ⟨g4,0,none⟩) l4.length c4,.slice (some ⟨g5,0,none⟩) l5.length c5] 24)).below M);clear au ai an av M)
   |(go_at_call 62;refine Ah (LM.o _ _ _) ?_;rintro wy rfl)))
  go_wp2
  go_ret2
  exact Dl HG.o
end Ms
namespace Ms
open Go.RowKit Ae DerP
theorem IW (t:Tk) (A:Option Addr) (c:Nat) (w:World):Calls Tryz.prog 111 #[.agg #[.string ⟨t.s.1.toArray⟩,.string ⟨t.s.2.toArray⟩,.int .i64 t.k,.slice A t.b.length c]] w fun e w'=>e=.returned (.bool (decide (t=tk0)))/\Below w.heap.size w w':=by
 obtain⟨⟨r,n⟩,k,b⟩:=t;have M:=I ((Below.refl w.heap.size w).alloc Af (.cells #[.string ⟨r.toArray⟩,.string ⟨n.toArray⟩,.int .i64 k,.slice A b.length c] 51));simp only
 by_cases hr:r = []
 ·subst hr
  by_cases hn:n = []
  ·subst hn
   by_cases hk:k=0
   ·subst hk
    by_cases hb:b = []
    ·subst hb
     have E:=I (show decide ((⟨([],[]),0,[]⟩:Tk)=tk0)=true from rfl);go_enter Tryz.func111,Tryz.ntmps111
     go_wp2
     go_ret;exact⟨by rw[E.o];rfl,M.o⟩
    ·have O:((b.length:Int)==0)=false:=by simpa using hb
     have E:=I (show decide ((⟨([],[]),0,b⟩:Tk)=tk0)=false from decide_eq_false (fun h=>hb (congrArg Tk.b h)));go_enter Tryz.func111,Tryz.ntmps111
     go_wp2
     go_ret;exact⟨by rw[E.o];rfl,M.o⟩
   ·have O:(k==0)=false:=by simpa using hk
    have E:=I (show decide ((⟨([],[]),k,b⟩:Tk)=tk0)=false from decide_eq_false (fun h=>hk (congrArg Tk.k h)));go_enter Tryz.func111,Tryz.ntmps111
    go_wp2
    go_ret;exact⟨by rw[E.o];rfl,M.o⟩
  ·have O:(n == [])=false:=by simpa using hn
   have E:=I (show decide ((⟨([],n),k,b⟩:Tk)=tk0)=false from decide_eq_false (fun h=>hn (congrArg (fun t=>t.s.2) h)));go_enter Tryz.func111,Tryz.ntmps111
   go_wp2
   go_ret;exact⟨by rw[E.o];rfl,M.o⟩
 ·have O:(r == [])=false:=by simpa using hr
  have E:=I (show decide ((⟨(r,n),k,b⟩:Tk)=tk0)=false from decide_eq_false (fun h=>hr (congrArg (fun t=>t.s.1) h)));go_enter Tryz.func111,Tryz.ntmps111
  go_wp2
  go_ret;exact⟨by rw[E.o];rfl,M.o⟩
open DerR
theorem XZ (c:Option L):DerC.Nk c=whC c:=by
 cases c with
 |none=>rfl
 |some l=>cases l<;>rfl
theorem CJ {a b c:World} {row:Option Nat} (h:a.grownBy b row) (k:b.grownBy c row):a.grownBy c row:=
 ⟨k.os.trans h.os,k.tape.trans h.tape,k.output.trans h.output,Nat.le_trans h.size k.size,fun i O M=>(k.block i (Nat.lt_of_lt_of_le O h.size) M).trans (h.block i O M)⟩
theorem DQ {a b c:World} {row:Option Nat} {q:Nat} (h:a.grownBy b row) (k:b.grownBy c (some q)) (X:a.heap.size<=q):a.grownBy c row:=
 ⟨k.os.trans h.os,k.tape.trans h.tape,k.output.trans h.output,Nat.le_trans h.size k.size,fun i M O=>(k.block i (Nat.lt_of_lt_of_le M h.size) (fun e=>by injection e with e;omega)).trans (h.block i M O)⟩
theorem Jj {w:World} {B g:Nat} {c:Option L} (h:RC w B g c):g<w.heap.size:=by
 obtain⟨A,n,cap,e,M,_⟩:=h;exact M.lt
theorem Ch {w w':World} {B g q:Nat} {c:Option L} (h:RC w B g c) (M:w.grownBy w' (some q)) (X:q≠g) (hB:B<=w.heap.size) (O:B<=q):RC w' B g c:=
 h.keep M (fun e=>X (by injection e)) hB (fun k hk=>by injection hk with hk;omega)
theorem Ez {w:World} {B g:Nat} {c:Option L} (h:RC w B g c) (hB:B<=w.heap.size) (o:Obj):RC (w.alloc o) B g c:=
 h.keep (row:=none) (Cc (World.grownBy.refl _ _) o) (by simp) hB (by simp)
theorem Nt {w:World} {B g:Nat} {c:Option L} (h:RC w B g c):RC (w.setCell ⟨g,1,none⟩ (.bool true)) B g none:=by
 obtain⟨A,n,cap,e,M,_⟩:=h;exact⟨A,n,cap,true,M.set 1 _,rfl⟩
theorem DV {w:World} {B g q j:Nat} {c:Option L} {u:Value} (h:RC w B g c) (O:q≠g) (hB:B<=w.heap.size) (M:B<=q):RC (w.setCell ⟨q,j,none⟩ u) B g c:=
 Ch (q:=q) h (Ar (World.grownBy.refl _ _) (.inl rfl) u) O hB M
theorem Rb {w:World} {B g:Nat} {c:Option L} (h:RC w B g c):w.cell? ⟨g,1,none⟩=some (.bool (!c.isSome))/\w.frozen? ⟨g,1,none⟩=false:=by
 obtain⟨A,n,cap,e,M,O⟩:=h;refine⟨?_,M.frozen 1⟩;cases c with
 |none=>obtain rfl:e=true:=O;exact M.cell 1
 |some l=>obtain rfl:e=false:=O.1;exact M.cell 1
theorem Rc {w:World} {B g:Nat} {l:L} (h:RC w B g (some l)):RC (w.setCell ⟨g,1,none⟩ (.bool false)) B g (some l):=by
 obtain⟨A,n,cap,e,O,M⟩:=h;obtain rfl:e=false:=M.1;have hB:=M.2.2.2;refine⟨A,n,cap,false,O.set 1 _,rfl,M.2.1,M.2.2.1,?_⟩;refine hB.keep fun b o X=>?_
 by_cases e:b=g
 ·subst e
  rw[(O.set 1 (.bool false)).cell,O.cell]
  rfl
 ·exact World.cell?_setCell_other _ _ _ _ (fun h=>e (by injection h with h;exact h.symm))
theorem Al {P:Program} {fn:Func} {tmps:Array Value} {w:World} {v:Value} (t:Nat) (ty:TypeId) (a:Addr) (M:fn.results=#[.cell t ty]) (X:tmps.getD t undef=.pointer (some a)) (Y:(loadVar ty a).run P w=.ok v w) :
  (results fn tmps).run P w=.ok v w:=by
 have O:tmps[t]?.getD undef=.pointer (some a):=by simpa using X
 simp [results,M,O,asAddr,Y]
theorem Ao {P:Program} {w:World} {g:Nat} {t ty:TypeId} {cs:Array Value} {d:TypeDesc} (h:Blk w g t cs) (hu:P.underlying ty=some d) (O:d.isRow=true) (M:(P.info? ty).map (·.size)=some cs.size) :
  (loadVar ty ⟨g,0,none⟩).run P w=.ok (.agg cs) w:=by
 have X:w.rangeAt g 0 cs.toList:=fun j v Y=>by rw[Nat.zero_add,h.cell];simpa using Y
 have:=run_loadVar_mid (P:=P) w g 0 ty cs.toList d X hu O (by simpa using M)
 simpa using this
theorem Dr (B g:Nat) (c:Option L) (w:World) (h:RC w B g c) (hB:B<=w.heap.size) (an:B<=g) (hu:(c.getD []).length<=100000) :
  Calls Tryz.prog 33 #[.pointer (some ⟨g,0,none⟩)] w fun e w'=>e=.returned (.agg #[.string ⟨(prP c).1.1.toArray⟩,.string ⟨(prP c).1.2.toArray⟩])/\RC w' B g (prP c).2/\w.grownBy w' (some g):=by
 have ax:=Jj h;obtain⟨W,eW⟩:=Aj (w.alloc (.cells #[.string ⟨#[]⟩,.string ⟨#[]⟩] 35));have aD:W.heap.size=w.heap.size+1:=by rw[eW];simp
 have h1:RC W B g c:=by rw[eW];exact Ez h hB _
 have HG:=I (show w.grownBy W (some g) by rw[eW];exact Cc (World.grownBy.refl _ _) _);have HR:=I (show Blk W w.heap.size 35 #[.string ⟨#[]⟩,.string ⟨#[]⟩] by rw[eW];exact Blk.new _ _ _);have c1:=FD 48 B g c W h1 (by omega) an hu;have M:=I (show B<=W.heap.size by omega);have aH:=I aD;have O:=I ax;have af:=I an;have aa:=I hB;have ao:=(BB 48 c).1;have al:=I (show(prP c).1=(txC (Ax 48 c),txC (AQ 27 (Ax 48 c))) from rfl);have ae:=I (show(prP c).2=if whC (AQ 27 (AQ 27 (Ax 48 c))) then AQ 48 c else none from rfl);obtain⟨d,ed⟩:=Aj (Ax 48 c);obtain⟨r,er⟩:=Aj (AQ 48 c);rw[<-ed] at c1 ao al ae;rw[<-er] at c1 ae;rw[al.o,ae.o];have aG:=(BB 27 d).2;have ay:=I (show(d.getD []).length<=100000 by omega);have az:=I (show((AQ 27 d).getD []).length<=100000 by omega);have T1:=I (fun B g w h h1 h2=>(Lh B g d w h h1 h2 ay.o));have T2:=I (fun B g w h h1 h2=>(Lh B g (AQ 27 d) w h h1 h2 az.o));have WH:=I (fun B g w h=>JB B g (AQ 27 (AQ 27 d)) w h);rw[XZ] at WH;rw[show(Ax 27 d).getD []=txC d from rfl] at T1;rw[show(Ax 27 (AQ 27 d)).getD []=txC (AQ 27 d) from rfl] at T2;obtain⟨t1,ar⟩:∃t,t=txC d:=⟨_,rfl⟩;obtain⟨t2,aC⟩:∃t,t=txC (AQ 27 d):=⟨_,rfl⟩;obtain⟨d2,aB⟩:∃q,q=AQ 27 d:=⟨_,rfl⟩;rw[<-ar] at T1⊢;rw[<-aC] at T2⊢;rw[<-aB] at T1 T2 WH⊢;obtain⟨d3,aw⟩:∃q,q=AQ 27 d2:=⟨_,rfl⟩;rw[<-aw] at T2 WH⊢;obtain⟨fi,ah⟩:∃q,q=if whC d3=true then r else none:=⟨_,rfl⟩
 rw[<-ah];have EF:=I ah;clear ah;clear h h1 hB an hu ax aD ao aG al ae ay az ed er ar aC aB aw;subst eW;go_enter Tryz.func33,Tryz.ntmps33
 go_upto_region 3 with(first
  |(go_at_call 32;refine Calls.mono c1 ?_;rintro e w2 ⟨⟨gd,rfl,aF,hd⟩,hc,ad⟩;clear c1;have HD:=I hd;have HC:=I hc;have Y:=I (show w.heap.size+1<=gd by have:=aH.o;omega);replace HR:=I (HR.o.grown ad (by intro e;injection e with e;have:=O.o;omega));replace HG:=I (CJ HG.o ad);replace M:=I (Nat.le_trans M.o ad.size);have av:=I (Jj hd);clear aF hd hc ad)
  |(go_at_call 71;refine Ah (T1.o B gd _ HD.o M.o (by have:=Y.o;have:=O.o;have:=af.o;omega)) ?_;rintro w3 ⟨hd,X⟩;clear T1;replace HD:=I hd;replace HC:=I (Ch HC.o X (by have:=Y.o;have:=O.o;omega) M.o (by have:=Y.o;have:=O.o;have:=af.o;omega));replace HR:=I (HR.o.grown X (by intro e;injection e with e;have:=Y.o;omega));replace HG:=I (DQ HG.o X (by have:=Y.o;omega));replace M:=I (Nat.le_trans M.o X.size);replace av:=I (Jj hd);clear hd X))
 obtain⟨P,eP⟩:=Aj (w3.heap.size);obtain⟨W4,e4⟩:=Aj (w3.alloc (.cells #[.string ⟨t1.toArray⟩,.string ⟨#[]⟩] 35));have ab:=I (show Blk W4 P 35 #[.string ⟨t1.toArray⟩,.string ⟨#[]⟩] by rw[e4,eP];exact Blk.new _ _ _);have aE:W4.heap.size=P+1:=by rw[e4,eP];simp
 have ai:=I (show gd<P by rw[eP];exact av.o);have au:B<=P:=by rw[eP];exact M.o
 have aA:=I au;have aj:=I (show w.heap.size<P by have:=ai.o;have:=Y.o;omega);have ag:=I (show g<P by have:=O.o;have:=aj.o;omega);replace HD:=I (show RC W4 B gd d2 by rw[e4];exact Ez HD.o M.o _);replace HC:=I (show RC W4 B g r by rw[e4];exact Ez HC.o M.o _);replace HR:=I (show Blk W4 w.heap.size 35 _ by rw[e4];exact HR.o.alloc _);replace HG:=I (show w.grownBy W4 (some g) by rw[e4];exact Cc HG.o _);replace M:=I (show B<=W4.heap.size by omega);rw[<-e4,<-eP];clear e4 eP aE au
 go_upto_region 4 with(go_at_call 71;refine Ah (T2.o B gd _ HD.o M.o (by have:=Y.o;have:=O.o;have:=af.o;omega)) ?_;rintro w5 ⟨hd,X⟩;clear T2;replace HD:=I hd;replace HC:=I (Ch HC.o X (by have:=Y.o;have:=O.o;omega) M.o (by have:=Y.o;have:=O.o;have:=af.o;omega));replace HR:=I (HR.o.grown X (by intro e;injection e with e;have:=Y.o;omega));replace ab:=I (ab.o.grown X (by intro e;injection e with e;have:=ai.o;omega));replace HG:=I (DQ HG.o X (by have:=Y.o;omega));replace M:=I (Nat.le_trans M.o X.size);have f0:=ab.o.frozen 1;have k9:=ab.c1;clear hd X)
 have H1:=I (show Blk (w5.setCell ⟨P,1,none⟩ (.string ⟨t2.toArray⟩)) P 35 #[.string ⟨t1.toArray⟩,.string ⟨t2.toArray⟩] from ab.o.set 1 (.string ⟨t2.toArray⟩));have H2:=I (DV (j:=1) (u:=.string ⟨t2.toArray⟩) HD.o (q:=P) (by have:=ai.o;omega) M.o aA.o);have H3:=I (DV (j:=1) (u:=.string ⟨t2.toArray⟩) HC.o (q:=P) (by have:=ag.o;omega) M.o aA.o);have H4:=I (show Blk (w5.setCell ⟨P,1,none⟩ (.string ⟨t2.toArray⟩)) w.heap.size 35 _ from(Below.heap_setCell w5 _ _ w.heap.size (fun e=>by have:=aj.o;simp only at e;omega)).trans HR.o);have H5:=I (Ar HG.o (p:=⟨P,1,none⟩) (.inr (show w.heap.size<=P by have:=aj.o;omega)) (.string ⟨t2.toArray⟩));have H6:=I (show B<=(w5.setCell ⟨P,1,none⟩ (.string ⟨t2.toArray⟩)).heap.size from Nat.le_trans M.o (Ar (World.grownBy.refl w5 (some P)) (p:=⟨P,1,none⟩) (.inl rfl) (.string ⟨t2.toArray⟩)).size);obtain⟨V,eV⟩:=Aj (w5.setCell ⟨P,1,none⟩ (.string ⟨t2.toArray⟩));rw[<-eV] at H1 H2 H3 H4 H5 H6⊢;clear eV k9 f0 ab HD HC HR HG M;have ak:=Rb H3.o;have k1:=ak.1;have f1:=ak.2;clear ak;cases r with
 |none=>
  simp only[Option.isSome_none,Bool.not_false] at k1
  go_upto_region 5 with fail
  have K1:=I (show Blk (V.setCell ⟨g,1,none⟩ (.bool true)) P 35 _ from(Below.heap_setCell V _ _ P (fun e=>by have:=ag.o;simp only at e;omega)).trans H1.o);have K2:=I (show Blk (V.setCell ⟨g,1,none⟩ (.bool true)) w.heap.size 35 _ from(Below.heap_setCell V _ _ w.heap.size (fun e=>by have:=O.o;simp only at e;omega)).trans H4.o);have K3:=I (show RC (V.setCell ⟨g,1,none⟩ (.bool true)) B g fi by rw[EF.o];have h:=Nt H3.o;cases whC d3<;>exact h);have K4:=I (Ar H5.o (p:=⟨g,1,none⟩) (.inl rfl) (.bool true));have K5:=I (show B<=(V.setCell ⟨g,1,none⟩ (.bool true)).heap.size from Nat.le_trans H6.o (Ar (World.grownBy.refl V (some g)) (p:=⟨g,1,none⟩) (.inl rfl) (.bool true)).size);obtain⟨Z,eZ⟩:=Aj (V.setCell ⟨g,1,none⟩ (.bool true));rw[<-eZ] at K1 K2 K3 K4 K5⊢;clear eZ k1 f1 H1 H2 H3 H4 H5 H6;have p0:=K1.c0;have p1:=K1.c1;have n0:=K2.c0;have n1:=K2.c1;have z0:=K2.o.frozen 0;have z1:=K2.o.frozen 1
  go_wp2
  have hE:Blk ((Z.setCell ⟨w.heap.size,0,none⟩ (.string ⟨t1.toArray⟩)).setCell ⟨w.heap.size,1,none⟩ (.string ⟨t2.toArray⟩)) w.heap.size 35 #[.string ⟨t1.toArray⟩,.string ⟨t2.toArray⟩]:=(K2.o.set 0 _).set 1 _;have hq:=Ao (P:=Tryz.prog) hE Tryz.underlying35 rfl (by kernel_rfl);refine bodyPost_ret (v:=.agg #[.string ⟨t1.toArray⟩,.string ⟨t2.toArray⟩]) ?_ ?_ ?_
  ·exact Al 2 35 ⟨w.heap.size,0,none⟩ Tryz.results33 rfl hq
  ·rfl
  refine⟨rfl,?_,?_⟩
  ·exact DV (DV K3.o (by have:=O.o;omega) K5.o aa.o) (by have:=O.o;omega) (Nat.le_trans K5.o (Ar (World.grownBy.refl Z (some w.heap.size)) (p:=⟨w.heap.size,0,none⟩) (.inl rfl) _).size) aa.o
  ·exact Ar (Ar K4.o (.inr Af) _) (.inr Af) _
 |some l=>
  simp only[Option.isSome_some,Bool.not_true] at k1;have c5:=WH.o B gd _ H2.o;clear WH;cases q:whC d3 with
  |false=>
   rw[q] at c5;rw[q,if_neg Bool.false_ne_true] at EF;clear q
   go_upto_region 5 with(go_at_call 72;refine Ah c5 ?_;rintro wv hw;subst hw;clear c5)
   have K1:=I (show Blk (V.setCell ⟨g,1,none⟩ (.bool true)) P 35 _ from(Below.heap_setCell V _ _ P (fun e=>by have:=ag.o;simp only at e;omega)).trans H1.o);have K2:=I (show Blk (V.setCell ⟨g,1,none⟩ (.bool true)) w.heap.size 35 _ from(Below.heap_setCell V _ _ w.heap.size (fun e=>by have:=O.o;simp only at e;omega)).trans H4.o);have K3:=I (show RC (V.setCell ⟨g,1,none⟩ (.bool true)) B g fi by rw[EF.o];exact Nt H3.o);have K4:=I (Ar H5.o (p:=⟨g,1,none⟩) (.inl rfl) (.bool true));have K5:=I (show B<=(V.setCell ⟨g,1,none⟩ (.bool true)).heap.size from Nat.le_trans H6.o (Ar (World.grownBy.refl V (some g)) (p:=⟨g,1,none⟩) (.inl rfl) (.bool true)).size);obtain⟨Z,eZ⟩:=Aj (V.setCell ⟨g,1,none⟩ (.bool true));rw[<-eZ] at K1 K2 K3 K4 K5⊢;clear eZ k1 f1 H1 H2 H3 H4 H5 H6;have p0:=K1.c0;have p1:=K1.c1;have n0:=K2.c0;have n1:=K2.c1;have z0:=K2.o.frozen 0;have z1:=K2.o.frozen 1
   go_wp2
   have hE:Blk ((Z.setCell ⟨w.heap.size,0,none⟩ (.string ⟨t1.toArray⟩)).setCell ⟨w.heap.size,1,none⟩ (.string ⟨t2.toArray⟩)) w.heap.size 35 #[.string ⟨t1.toArray⟩,.string ⟨t2.toArray⟩]:=(K2.o.set 0 _).set 1 _;have hq:=Ao (P:=Tryz.prog) hE Tryz.underlying35 rfl (by kernel_rfl);refine bodyPost_ret (v:=.agg #[.string ⟨t1.toArray⟩,.string ⟨t2.toArray⟩]) ?_ ?_ ?_
   ·exact Al 2 35 ⟨w.heap.size,0,none⟩ Tryz.results33 rfl hq
   ·rfl
   refine⟨rfl,?_,?_⟩
   ·exact DV (DV K3.o (by have:=O.o;omega) K5.o aa.o) (by have:=O.o;omega) (Nat.le_trans K5.o (Ar (World.grownBy.refl Z (some w.heap.size)) (p:=⟨w.heap.size,0,none⟩) (.inl rfl) _).size) aa.o
   ·exact Ar (Ar K4.o (.inr Af) _) (.inr Af) _
  |true=>
   rw[q] at c5;rw[q,if_pos rfl] at EF;clear q
   go_upto_region 5 with(go_at_call 72;refine Ah c5 ?_;rintro wv hw;subst hw;clear c5)
   have K1:=I (show Blk (V.setCell ⟨g,1,none⟩ (.bool false)) P 35 _ from(Below.heap_setCell V _ _ P (fun e=>by have:=ag.o;simp only at e;omega)).trans H1.o);have K2:=I (show Blk (V.setCell ⟨g,1,none⟩ (.bool false)) w.heap.size 35 _ from(Below.heap_setCell V _ _ w.heap.size (fun e=>by have:=O.o;simp only at e;omega)).trans H4.o);have K3:=I (show RC (V.setCell ⟨g,1,none⟩ (.bool false)) B g fi by rw[EF.o];exact Rc H3.o);have K4:=I (Ar H5.o (p:=⟨g,1,none⟩) (.inl rfl) (.bool false));have K5:=I (show B<=(V.setCell ⟨g,1,none⟩ (.bool false)).heap.size from Nat.le_trans H6.o (Ar (World.grownBy.refl V (some g)) (p:=⟨g,1,none⟩) (.inl rfl) (.bool false)).size);obtain⟨Z,eZ⟩:=Aj (V.setCell ⟨g,1,none⟩ (.bool false));rw[<-eZ] at K1 K2 K3 K4 K5⊢;clear eZ k1 f1 H1 H2 H3 H4 H5 H6;have p0:=K1.c0;have p1:=K1.c1;have n0:=K2.c0;have n1:=K2.c1;have z0:=K2.o.frozen 0;have z1:=K2.o.frozen 1
   go_wp2
   have hE:Blk ((Z.setCell ⟨w.heap.size,0,none⟩ (.string ⟨t1.toArray⟩)).setCell ⟨w.heap.size,1,none⟩ (.string ⟨t2.toArray⟩)) w.heap.size 35 #[.string ⟨t1.toArray⟩,.string ⟨t2.toArray⟩]:=(K2.o.set 0 _).set 1 _;have hq:=Ao (P:=Tryz.prog) hE Tryz.underlying35 rfl (by kernel_rfl);refine bodyPost_ret (v:=.agg #[.string ⟨t1.toArray⟩,.string ⟨t2.toArray⟩]) ?_ ?_ ?_
   ·exact Al 2 35 ⟨w.heap.size,0,none⟩ Tryz.results33 rfl hq
   ·rfl
   refine⟨rfl,?_,?_⟩
   ·exact DV (DV K3.o (by have:=O.o;omega) K5.o aa.o) (by have:=O.o;omega) (Nat.le_trans K5.o (Ar (World.grownBy.refl Z (some w.heap.size)) (p:=⟨w.heap.size,0,none⟩) (.inl rfl) _).size) aa.o
   ·exact Ar (Ar K4.o (.inr Af) _) (.inr Af) _
theorem Kj (c:Option L):((intC c).2.getD []).length<=(c.getD []).length:=by
 unfold intC;cases h:Ax 2 c with
 |none=>simp
 |some b=>
  simp only;cases numL b with
  |none=>simp
  |some n=>exact(BB 2 c).2
theorem Mr (c:Option L):((prP c).2.getD []).length<=(c.getD []).length:=by
 unfold prP;simp only
 split
 ·exact(BB 48 c).2
 ·simp
theorem Kk (B g:Nat) (c:Option L) (w:World) (h:RC w B g c) (hB:B<=w.heap.size) (an:B<=g) (hu:(c.getD []).length<=100000) :
  Calls Tryz.prog 35 #[.pointer (some ⟨g,0,none⟩)] w fun e w'=>(∃A n,e=.returned (.agg #[.string ⟨(tkP c).1.s.1.toArray⟩,.string ⟨(tkP c).1.s.2.toArray⟩,.int .i64 (tkP c).1.k,.slice A (tkP c).1.b.length n])/\(tkP c).1.b.length<=n/\Rd w' B A (bvs (tkP c).1.b))/\RC w' B g (tkP c).2/\w.grownBy w' (some g):=by
 have az:=Jj h;obtain⟨W,eW⟩:=Aj (w.alloc (.cells #[.string ⟨#[]⟩,.string ⟨#[]⟩,.int .i64 0,.slice none 0 0] 51));have aK:W.heap.size=w.heap.size+1:=by rw[eW];simp
 have h1:RC W B g c:=by rw[eW];exact Ez h hB _
 have HG:=I (show w.grownBy W (some g) by rw[eW];exact Cc (World.grownBy.refl _ _) _);have HR:=I (show Blk W w.heap.size 51 #[.string ⟨#[]⟩,.string ⟨#[]⟩,.int .i64 0,.slice none 0 0] by rw[eW];exact Blk.new _ _ _);have c1:=FD 97 B g c W h1 (by omega) an hu;have M:=I (show B<=W.heap.size by omega);have aP:=I aK;have X:=I az;have ab:=I an;have ad:=I hB;have aG:=(BB 97 c).1;have al:=I (show(tkP c).1=tkI (Ax 97 c) from rfl);have ai:=I (show(tkP c).2=if whC (AQ 4 (tkS (Ax 97 c))) then AQ 97 c else none from rfl);obtain⟨d,ed⟩:=Aj (Ax 97 c);obtain⟨r,er⟩:=Aj (AQ 97 c);rw[<-ed] at c1 aG al ai;rw[<-er] at c1 ai;rw[al.o,ai.o];have aO:=Mr d;have aB:=Kj (prP d).2;have aA:=I (show(d.getD []).length<=100000 by omega);have aI:=I (show((prP d).2.getD []).length<=100000 by omega);have aD:=I (show((tkS d).getD []).length<=100000 from Nat.le_trans aB (by omega));have T1:=I (fun B g w h h1 h2=>(Dr B g d w h h1 h2 aA.o));have T2:=I (fun B g w h h1 h2=>(Ex B g (prP d).2 w h h1 h2 aI.o));have T3:=I (fun B g w h h1 h2=>(IU B g (tkS d) w h h1 h2 aD.o));have WH:=I (fun B g w h=>JB B g (AQ 4 (tkS d)) w h);rw[XZ] at WH;have ET:=I (show tkI d=⟨(prP d).1,((intC (prP d).2).1:Int),ocC (tkS d)⟩ from rfl);have ES:=I (show tkS d=(intC (prP d).2).2 from rfl);rw[ET.o];unfold Ints at T2;rw[<-ES.o] at T2;unfold Took at T3;rw[show(Ax 4 (tkS d)).getD []=ocC (tkS d) from rfl] at T3;obtain⟨t1,au⟩:∃t,t=(prP d).1:=⟨_,rfl⟩;obtain⟨t2,aE⟩:∃t:Int,t=((intC (prP d).2).1:Int):=⟨_,rfl⟩;obtain⟨t3,ax⟩:∃t,t=ocC (tkS d):=⟨_,rfl⟩;rw[<-au] at T1⊢;rw[<-aE] at T2⊢;rw[<-ax] at T3⊢;obtain⟨d1,aH⟩:∃q,q=(prP d).2:=⟨_,rfl⟩;obtain⟨d2,aC⟩:∃q,q=tkS d:=⟨_,rfl⟩;rw[<-aH] at T1 T2;rw[<-aC] at T2 T3 WH⊢;obtain⟨d3,av⟩:∃q,q=AQ 4 d2:=⟨_,rfl⟩;rw[<-av] at T3 WH⊢;obtain⟨fi,ak⟩:∃q,q=if whC d3=true then r else none:=⟨_,rfl⟩
 rw[<-ak];have EF:=I ak;clear ak;clear h h1 hB an hu az aK aG aO aB al ai aA aI aD ET ES ed er au aE ax aH aC av;subst eW;go_enter Tryz.func35,Tryz.ntmps35
 go_upto_region 3 with(first
  |(go_at_call 32;refine Calls.mono c1 ?_;rintro e w2 ⟨⟨gd,rfl,aN,hd⟩,hc,aj⟩;clear c1;have HD:=I hd;have HC:=I hc;have Y:=I (show w.heap.size+1<=gd by have:=aP.o;omega);replace HR:=I (HR.o.grown aj (by intro e;injection e with e;have:=X.o;omega));replace HG:=I (CJ HG.o aj);replace M:=I (Nat.le_trans M.o aj.size);have aw:=I (Jj hd);clear aN hd hc aj)
  |(go_at_call 33;refine Ah (T1.o B gd _ HD.o M.o (by have:=Y.o;have:=X.o;have:=ab.o;omega)) ?_;rintro w3 ⟨hd,O⟩;clear T1;replace HD:=I hd;replace HC:=I (Ch HC.o O (by have:=Y.o;have:=X.o;omega) M.o (by have:=Y.o;have:=X.o;have:=ab.o;omega));replace HR:=I (HR.o.grown O (by intro e;injection e with e;have:=Y.o;omega));replace HG:=I (DQ HG.o O (by have:=Y.o;omega));replace M:=I (Nat.le_trans M.o O.size);replace aw:=I (Jj hd);clear hd O))
 obtain⟨P,eP⟩:=Aj (w3.heap.size);obtain⟨W4,e4⟩:=Aj (w3.alloc (.cells #[.string ⟨t1.1.toArray⟩,.string ⟨t1.2.toArray⟩,.int .i64 0,.slice none 0 0] 51));have aa:=I (show Blk W4 P 51 #[.string ⟨t1.1.toArray⟩,.string ⟨t1.2.toArray⟩,.int .i64 0,.slice none 0 0] by rw[e4,eP];exact Blk.new _ _ _);have aM:W4.heap.size=P+1:=by rw[e4,eP];simp
 have ag:=I (show gd<P by rw[eP];exact aw.o);have aL:B<=P:=by rw[eP];exact M.o
 have ae:=I aL;have ah:=I (show w.heap.size<P by have:=ag.o;have:=Y.o;omega);have af:=I (show g<P by have:=X.o;have:=ah.o;omega);replace HD:=I (show RC W4 B gd d1 by rw[e4];exact Ez HD.o M.o _);replace HC:=I (show RC W4 B g r by rw[e4];exact Ez HC.o M.o _);replace HR:=I (show Blk W4 w.heap.size 51 _ by rw[e4];exact HR.o.alloc _);replace HG:=I (show w.grownBy W4 (some g) by rw[e4];exact Cc HG.o _);replace M:=I (show B<=W4.heap.size by omega);rw[<-e4,<-eP];clear e4 eP aM aL
 go_upto_region 4 with(go_at_call 34;refine Ah (T2.o B gd _ HD.o M.o (by have:=Y.o;have:=X.o;have:=ab.o;omega)) ?_;rintro w4 ⟨hd,O⟩;clear T2;replace HD:=I hd;replace HC:=I (Ch HC.o O (by have:=Y.o;have:=X.o;omega) M.o (by have:=Y.o;have:=X.o;have:=ab.o;omega));replace HR:=I (HR.o.grown O (by intro e;injection e with e;have:=Y.o;omega));replace aa:=I (aa.o.grown O (by intro e;injection e with e;have:=ag.o;omega));replace HG:=I (DQ HG.o O (by have:=Y.o;omega));replace M:=I (Nat.le_trans M.o O.size);have f0:=aa.o.frozen 2;have k9:=aa.c2;clear hd O)
 have H1:=I (show Blk (w4.setCell ⟨P,2,none⟩ (.int .i64 t2)) P 51 #[.string ⟨t1.1.toArray⟩,.string ⟨t1.2.toArray⟩,.int .i64 t2,.slice none 0 0] from aa.o.set 2 (.int .i64 t2));have H2:=I (DV (j:=2) (u:=.int .i64 t2) HD.o (q:=P) (by have:=ag.o;omega) M.o ae.o);have H3:=I (DV (j:=2) (u:=.int .i64 t2) HC.o (q:=P) (by have:=af.o;omega) M.o ae.o);have H4:=I (show Blk (w4.setCell ⟨P,2,none⟩ (.int .i64 t2)) w.heap.size 51 _ from(Below.heap_setCell w4 _ _ w.heap.size (fun e=>by have:=ah.o;simp only at e;omega)).trans HR.o);have H5:=I (Ar HG.o (p:=⟨P,2,none⟩) (.inr (show w.heap.size<=P by have:=ah.o;omega)) (.int .i64 t2));have H6:=I (show B<=(w4.setCell ⟨P,2,none⟩ (.int .i64 t2)).heap.size from Nat.le_trans M.o (Ar (World.grownBy.refl w4 (some P)) (p:=⟨P,2,none⟩) (.inl rfl) (.int .i64 t2)).size);obtain⟨V4,eV⟩:∃V,V=w4.setCell ⟨P,2,none⟩ (.int .i64 t2):=⟨_,rfl⟩;rw[<-eV] at H1 H2 H3 H4 H5 H6⊢;clear eV k9 f0 aa HD HC HR HG M;have aa:=H1;have HD:=H2;have HC:=H3;have HR:=H4;have HG:=H5;have M:=H6;clear H1 H2 H3 H4 H5 H6
 go_upto_region 5 with(go_at_call 36;refine Calls.mono (T3.o B gd _ HD.o M.o (by have:=Y.o;have:=X.o;have:=ab.o;omega)) ?_;rintro e w5 ⟨⟨Ab,cb,rfl,ay,aF⟩,hd,O⟩;have ao:=I ay;have aJ:=I aF;clear ay aF;clear T3;replace HD:=I hd;replace HC:=I (Ch HC.o O (by have:=Y.o;have:=X.o;omega) M.o (by have:=Y.o;have:=X.o;have:=ab.o;omega));replace HR:=I (HR.o.grown O (by intro e;injection e with e;have:=Y.o;omega));replace aa:=I (aa.o.grown O (by intro e;injection e with e;have:=ag.o;omega));replace HG:=I (DQ HG.o O (by have:=Y.o;omega));replace M:=I (Nat.le_trans M.o O.size);have f0:=aa.o.frozen 3;have k9:=aa.c3;clear hd O)
 have H1:=I (show Blk (w5.setCell ⟨P,3,none⟩ (.slice Ab t3.length cb)) P 51 #[.string ⟨t1.1.toArray⟩,.string ⟨t1.2.toArray⟩,.int .i64 t2,.slice Ab t3.length cb] from aa.o.set 3 (.slice Ab t3.length cb));have H2:=I (DV (j:=3) (u:=.slice Ab t3.length cb) HD.o (q:=P) (by have:=ag.o;omega) M.o ae.o);have H3:=I (DV (j:=3) (u:=.slice Ab t3.length cb) HC.o (q:=P) (by have:=af.o;omega) M.o ae.o);have H4:=I (show Blk (w5.setCell ⟨P,3,none⟩ (.slice Ab t3.length cb)) w.heap.size 51 _ from(Below.heap_setCell w5 _ _ w.heap.size (fun e=>by have:=ah.o;simp only at e;omega)).trans HR.o);have H5:=I (Ar HG.o (p:=⟨P,3,none⟩) (.inr (show w.heap.size<=P by have:=ah.o;omega)) (.slice Ab t3.length cb));have H6:=I (show B<=(w5.setCell ⟨P,3,none⟩ (.slice Ab t3.length cb)).heap.size from Nat.le_trans M.o (Ar (World.grownBy.refl w5 (some P)) (p:=⟨P,3,none⟩) (.inl rfl) (.slice Ab t3.length cb)).size);have H7:=I (show Rd (w5.setCell ⟨P,3,none⟩ (.slice Ab t3.length cb)) B Ab (bvs t3) from aJ.o.keep fun b o hb=>World.cell?_setCell_other _ _ _ _ (fun e=>by injection e with e;have:=ae.o;omega));obtain⟨V,eV⟩:=Aj (w5.setCell ⟨P,3,none⟩ (.slice Ab t3.length cb));rw[<-eV] at H1 H2 H3 H4 H5 H6 H7⊢;clear eV k9 f0 aa HD HC HR HG M aJ;have ar:=Rb H3.o;have k1:=ar.1;have f1:=ar.2;clear ar;cases r with
 |none=>
  simp only[Option.isSome_none,Bool.not_false] at k1
  go_upto_region 6 with fail
  have K1:=I (show Blk (V.setCell ⟨g,1,none⟩ (.bool true)) P 51 _ from(Below.heap_setCell V _ _ P (fun e=>by have:=af.o;simp only at e;omega)).trans H1.o);have K2:=I (show Blk (V.setCell ⟨g,1,none⟩ (.bool true)) w.heap.size 51 _ from(Below.heap_setCell V _ _ w.heap.size (fun e=>by have:=X.o;simp only at e;omega)).trans H4.o);have K3:=I (show RC (V.setCell ⟨g,1,none⟩ (.bool true)) B g fi by rw[EF.o];have h:=Nt H3.o;cases whC d3<;>exact h);have K4:=I (Ar H5.o (p:=⟨g,1,none⟩) (.inl rfl) (.bool true));have K5:=I (show B<=(V.setCell ⟨g,1,none⟩ (.bool true)).heap.size from Nat.le_trans H6.o (Ar (World.grownBy.refl V (some g)) (p:=⟨g,1,none⟩) (.inl rfl) (.bool true)).size);have K6:=I (show Rd (V.setCell ⟨g,1,none⟩ (.bool true)) B Ab (bvs t3) from H7.o.keep fun b o hb=>World.cell?_setCell_other _ _ _ _ (fun e=>by injection e with e;have:=ab.o;omega));obtain⟨Z,eZ⟩:=Aj (V.setCell ⟨g,1,none⟩ (.bool true));rw[<-eZ] at K1 K2 K3 K4 K5 K6⊢;clear eZ k1 f1 H1 H2 H3 H4 H5 H6 H7;have p0:=K1.c0;have p1:=K1.c1;have p2:=K1.c2;have p3:=K1.c3;have n0:=K2.c0;have n1:=K2.c1;have n2:=K2.c2;have n3:=K2.c3;have z0:=K2.o.frozen 0;have z1:=K2.o.frozen 1;have z2:=K2.o.frozen 2;have z3:=K2.o.frozen 3
  go_wp2
  have hE:Blk ((((Z.setCell ⟨w.heap.size,0,none⟩ (.string ⟨t1.1.toArray⟩)).setCell ⟨w.heap.size,1,none⟩ (.string ⟨t1.2.toArray⟩)).setCell ⟨w.heap.size,2,none⟩ (.int .i64 t2)).setCell ⟨w.heap.size,3,none⟩ (.slice Ab t3.length cb)) w.heap.size 51 #[.string ⟨t1.1.toArray⟩,.string ⟨t1.2.toArray⟩,.int .i64 t2,.slice Ab t3.length cb]:=(((K2.o.set 0 _).set 1 _).set 2 _).set 3 _;have hq:=Ao (P:=Tryz.prog) hE Tryz.underlying51 rfl (by kernel_rfl);refine bodyPost_ret (v:=.agg #[.string ⟨t1.1.toArray⟩,.string ⟨t1.2.toArray⟩,.int .i64 t2,.slice Ab t3.length cb]) ?_ ?_ ?_
  ·exact Al 2 51 ⟨w.heap.size,0,none⟩ Tryz.results35 rfl hq
  ·rfl
  have s1:=(Ar (World.grownBy.refl Z (some w.heap.size)) (p:=⟨w.heap.size,0,none⟩) (.inl rfl) (.string ⟨t1.1.toArray⟩));have s2:=Ar s1 (p:=⟨w.heap.size,1,none⟩) (.inl rfl) (.string ⟨t1.2.toArray⟩);have s3:=Ar s2 (p:=⟨w.heap.size,2,none⟩) (.inl rfl) (.int .i64 t2);have s4:=Ar s3 (p:=⟨w.heap.size,3,none⟩) (.inl rfl) (.slice Ab t3.length cb);refine⟨⟨Ab,cb,rfl,ao.o,?_⟩,?_,?_⟩
  ·exact K6.o.keep fun b o hb=>World.cell?_of_block (a:=⟨b,o,none⟩) (s4.block b (by have:=K5.o;omega) (fun e=>by injection e with e;have:=ad.o;omega))
  ·exact Ch K3.o s4 (by have:=X.o;omega) K5.o ad.o
  ·exact DQ K4.o s4 Af
 |some l=>
  simp only[Option.isSome_some,Bool.not_true] at k1;have c5:=WH.o B gd _ H2.o;clear WH;cases q:whC d3 with
  |false=>
   rw[q] at c5;rw[q,if_neg Bool.false_ne_true] at EF;clear q
   go_upto_region 6 with(go_at_call 72;refine Ah c5 ?_;rintro wv hw;subst hw;clear c5)
   have K1:=I (show Blk (V.setCell ⟨g,1,none⟩ (.bool true)) P 51 _ from(Below.heap_setCell V _ _ P (fun e=>by have:=af.o;simp only at e;omega)).trans H1.o);have K2:=I (show Blk (V.setCell ⟨g,1,none⟩ (.bool true)) w.heap.size 51 _ from(Below.heap_setCell V _ _ w.heap.size (fun e=>by have:=X.o;simp only at e;omega)).trans H4.o);have K3:=I (show RC (V.setCell ⟨g,1,none⟩ (.bool true)) B g fi by rw[EF.o];exact Nt H3.o);have K4:=I (Ar H5.o (p:=⟨g,1,none⟩) (.inl rfl) (.bool true));have K5:=I (show B<=(V.setCell ⟨g,1,none⟩ (.bool true)).heap.size from Nat.le_trans H6.o (Ar (World.grownBy.refl V (some g)) (p:=⟨g,1,none⟩) (.inl rfl) (.bool true)).size);have K6:=I (show Rd (V.setCell ⟨g,1,none⟩ (.bool true)) B Ab (bvs t3) from H7.o.keep fun b o hb=>World.cell?_setCell_other _ _ _ _ (fun e=>by injection e with e;have:=ab.o;omega));obtain⟨Z,eZ⟩:=Aj (V.setCell ⟨g,1,none⟩ (.bool true));rw[<-eZ] at K1 K2 K3 K4 K5 K6⊢;clear eZ k1 f1 H1 H2 H3 H4 H5 H6 H7;have p0:=K1.c0;have p1:=K1.c1;have p2:=K1.c2;have p3:=K1.c3;have n0:=K2.c0;have n1:=K2.c1;have n2:=K2.c2;have n3:=K2.c3;have z0:=K2.o.frozen 0;have z1:=K2.o.frozen 1;have z2:=K2.o.frozen 2;have z3:=K2.o.frozen 3
   go_wp2
   have hE:Blk ((((Z.setCell ⟨w.heap.size,0,none⟩ (.string ⟨t1.1.toArray⟩)).setCell ⟨w.heap.size,1,none⟩ (.string ⟨t1.2.toArray⟩)).setCell ⟨w.heap.size,2,none⟩ (.int .i64 t2)).setCell ⟨w.heap.size,3,none⟩ (.slice Ab t3.length cb)) w.heap.size 51 #[.string ⟨t1.1.toArray⟩,.string ⟨t1.2.toArray⟩,.int .i64 t2,.slice Ab t3.length cb]:=(((K2.o.set 0 _).set 1 _).set 2 _).set 3 _;have hq:=Ao (P:=Tryz.prog) hE Tryz.underlying51 rfl (by kernel_rfl);refine bodyPost_ret (v:=.agg #[.string ⟨t1.1.toArray⟩,.string ⟨t1.2.toArray⟩,.int .i64 t2,.slice Ab t3.length cb]) ?_ ?_ ?_
   ·exact Al 2 51 ⟨w.heap.size,0,none⟩ Tryz.results35 rfl hq
   ·rfl
   have s1:=(Ar (World.grownBy.refl Z (some w.heap.size)) (p:=⟨w.heap.size,0,none⟩) (.inl rfl) (.string ⟨t1.1.toArray⟩));have s2:=Ar s1 (p:=⟨w.heap.size,1,none⟩) (.inl rfl) (.string ⟨t1.2.toArray⟩);have s3:=Ar s2 (p:=⟨w.heap.size,2,none⟩) (.inl rfl) (.int .i64 t2);have s4:=Ar s3 (p:=⟨w.heap.size,3,none⟩) (.inl rfl) (.slice Ab t3.length cb);refine⟨⟨Ab,cb,rfl,ao.o,?_⟩,?_,?_⟩
   ·exact K6.o.keep fun b o hb=>World.cell?_of_block (a:=⟨b,o,none⟩) (s4.block b (by have:=K5.o;omega) (fun e=>by injection e with e;have:=ad.o;omega))
   ·exact Ch K3.o s4 (by have:=X.o;omega) K5.o ad.o
   ·exact DQ K4.o s4 Af
  |true=>
   rw[q] at c5;rw[q,if_pos rfl] at EF;clear q
   go_upto_region 6 with(go_at_call 72;refine Ah c5 ?_;rintro wv hw;subst hw;clear c5)
   have K1:=I (show Blk (V.setCell ⟨g,1,none⟩ (.bool false)) P 51 _ from(Below.heap_setCell V _ _ P (fun e=>by have:=af.o;simp only at e;omega)).trans H1.o);have K2:=I (show Blk (V.setCell ⟨g,1,none⟩ (.bool false)) w.heap.size 51 _ from(Below.heap_setCell V _ _ w.heap.size (fun e=>by have:=X.o;simp only at e;omega)).trans H4.o);have K3:=I (show RC (V.setCell ⟨g,1,none⟩ (.bool false)) B g fi by rw[EF.o];exact Rc H3.o);have K4:=I (Ar H5.o (p:=⟨g,1,none⟩) (.inl rfl) (.bool false));have K5:=I (show B<=(V.setCell ⟨g,1,none⟩ (.bool false)).heap.size from Nat.le_trans H6.o (Ar (World.grownBy.refl V (some g)) (p:=⟨g,1,none⟩) (.inl rfl) (.bool false)).size);have K6:=I (show Rd (V.setCell ⟨g,1,none⟩ (.bool false)) B Ab (bvs t3) from H7.o.keep fun b o hb=>World.cell?_setCell_other _ _ _ _ (fun e=>by injection e with e;have:=ab.o;omega));obtain⟨Z,eZ⟩:=Aj (V.setCell ⟨g,1,none⟩ (.bool false));rw[<-eZ] at K1 K2 K3 K4 K5 K6⊢;clear eZ k1 f1 H1 H2 H3 H4 H5 H6 H7;have p0:=K1.c0;have p1:=K1.c1;have p2:=K1.c2;have p3:=K1.c3;have n0:=K2.c0;have n1:=K2.c1;have n2:=K2.c2;have n3:=K2.c3;have z0:=K2.o.frozen 0;have z1:=K2.o.frozen 1;have z2:=K2.o.frozen 2;have z3:=K2.o.frozen 3
   go_wp2
   have hE:Blk ((((Z.setCell ⟨w.heap.size,0,none⟩ (.string ⟨t1.1.toArray⟩)).setCell ⟨w.heap.size,1,none⟩ (.string ⟨t1.2.toArray⟩)).setCell ⟨w.heap.size,2,none⟩ (.int .i64 t2)).setCell ⟨w.heap.size,3,none⟩ (.slice Ab t3.length cb)) w.heap.size 51 #[.string ⟨t1.1.toArray⟩,.string ⟨t1.2.toArray⟩,.int .i64 t2,.slice Ab t3.length cb]:=(((K2.o.set 0 _).set 1 _).set 2 _).set 3 _;have hq:=Ao (P:=Tryz.prog) hE Tryz.underlying51 rfl (by kernel_rfl);refine bodyPost_ret (v:=.agg #[.string ⟨t1.1.toArray⟩,.string ⟨t1.2.toArray⟩,.int .i64 t2,.slice Ab t3.length cb]) ?_ ?_ ?_
   ·exact Al 2 51 ⟨w.heap.size,0,none⟩ Tryz.results35 rfl hq
   ·rfl
   have s1:=(Ar (World.grownBy.refl Z (some w.heap.size)) (p:=⟨w.heap.size,0,none⟩) (.inl rfl) (.string ⟨t1.1.toArray⟩));have s2:=Ar s1 (p:=⟨w.heap.size,1,none⟩) (.inl rfl) (.string ⟨t1.2.toArray⟩);have s3:=Ar s2 (p:=⟨w.heap.size,2,none⟩) (.inl rfl) (.int .i64 t2);have s4:=Ar s3 (p:=⟨w.heap.size,3,none⟩) (.inl rfl) (.slice Ab t3.length cb);refine⟨⟨Ab,cb,rfl,ao.o,?_⟩,?_,?_⟩
   ·exact K6.o.keep fun b o hb=>World.cell?_of_block (a:=⟨b,o,none⟩) (s4.block b (by have:=K5.o;omega) (fun e=>by injection e with e;have:=ad.o;omega))
   ·exact Ch K3.o s4 (by have:=X.o;omega) K5.o ad.o
   ·exact DQ K4.o s4 Af
end Ms
namespace Ms
open Go.RowKit Ae DerP
def mSm (m:Mg):Prop:=(pSm m.aq.c/\pSm m.aq.s)/\(pSm m.tg.t.s/\pSm m.tg.s)/\(pSm m.re.c/\pSm m.re.t.s)/\pSm m.ap.t.s
section
variable {α:Type}
theorem Ya (x:As) (f:Bool->α):(if x.c.1 = [] then if x.c.2 = [] then if x.s.1 = [] then if x.s.2 = [] then if x.t=0 then if x.no=0 then f true else f false else f false else f false else f false else f false else f false)=f (decide (x=as0)):=by
 obtain⟨⟨a,b⟩,⟨c,d⟩,t,n⟩:=x
 by_cases h1:a = []
 ·by_cases h2:b = []
  ·by_cases h3:c = []
   ·by_cases h4:d = []
    ·by_cases h5:t=0
     ·by_cases h6:n=0
      ·simp [h1,h2,h3,h4,h5,h6,as0,pr0]
      ·simp [h1,h2,h3,h4,h5,h6,as0,pr0]
     ·simp [h1,h2,h3,h4,h5,as0,pr0]
    ·simp [h1,h2,h3,h4,as0,pr0]
   ·simp [h1,h2,h3,as0,pr0]
  ·simp [h1,h2,as0,pr0]
 ·simp [h1,as0,pr0]
theorem Yb (x:Pr) (f:Bool->α):(if x.1 = [] then if x.2 = [] then f true else f false else f false)=f (decide (x=pr0)):=by
 obtain⟨a,b⟩:=x
 by_cases h1:a = []
 ·by_cases h2:b = []
  ·simp [h1,h2,pr0]
  ·simp [h1,h2,pr0]
 ·simp [h1,pr0]
theorem Rf (x:Fa) (f:Bool->α):(if x.e=0 then if x.no=0 then f true else f false else f false)=f (decide (x=fa0)):=by
 obtain⟨a,b⟩:=x
 by_cases h1:a=0
 ·by_cases h2:b=0
  ·simp [h1,h2,fa0]
  ·simp [h1,h2,fa0]
 ·simp [h1,fa0]
end
theorem Wm (x:Tg):decide (x=tg0)=(decide (x.t=tk0)&&(decide (x.a = [])&&(decide (x.s=pr0)&&(decide (x.u=0)&&decide (x.no=0))))):=by
 obtain⟨t,a,s,u,n⟩:=x;simp [tg0,Bool.decide_and]
theorem Wn (x:Re):decide (x=re0)=(decide (x.c=pr0)&&(decide (x.t=tk0)&&decide (x.b = []))):=by
 obtain⟨c,t,b⟩:=x;simp [re0,Bool.decide_and]
theorem Wo (x:Ap):decide (x=ap0)=(decide (x.t=tk0)&&decide (x.a = [])):=by
 obtain⟨t,a⟩:=x;simp [ap0,Bool.decide_and]
theorem Wp (m:Mg):mgB m=if m.k=1 then asB m.aq&&(decide (m.tg=tg0)&&(decide (m.re=re0)&&(decide (m.ap=ap0)&&decide (m.fa=fa0))))
  else if m.k=2 then tgB m.tg&&(decide (m.aq=as0)&&(decide (m.re=re0)&&(decide (m.ap=ap0)&&decide (m.fa=fa0))))
  else if m.k=3 then (prB m.re.c&&(tkB m.re.t&&Bv m.re.b))&&(decide (m.aq=as0)&&(decide (m.tg=tg0)&&(decide (m.ap=ap0)&&decide (m.fa=fa0))))
  else if m.k=4 then (tkB m.ap.t&&Bv m.ap.a)&&(decide (m.aq=as0)&&(decide (m.tg=tg0)&&(decide (m.re=re0)&&decide (m.fa=fa0))))
  else if m.k=5 then (inB m.fa.e 1 255&&tmB m.fa.no)&&(decide (m.aq=as0)&&(decide (m.tg=tg0)&&(decide (m.re=re0)&&decide (m.ap=ap0)))) else false:=by
 obtain⟨k,a,t,r,p,f⟩:=m;unfold mgB;simp only[Mg.mk.injEq,true_and,and_true]
 by_cases h1:k=1
 ·simp [h1,Bool.decide_and]
 ·rw[if_neg h1,if_neg h1]
  by_cases h2:k=2
  ·simp [h2,Bool.decide_and]
  ·rw[if_neg h2,if_neg h2]
   by_cases h3:k=3
   ·simp [h3,reB,Bool.decide_and]
   ·rw[if_neg h3,if_neg h3]
    by_cases h4:k=4
    ·simp [h4,apB,Bool.decide_and]
    ·rw[if_neg h4,if_neg h4]
     by_cases h5:k=5
     ·simp [h5,faB,Bool.decide_and]
     ·rw[if_neg h5,if_neg h5]
end Ms
end Go.Proofs.YtlccngianpfalaaGreat
