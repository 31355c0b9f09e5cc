import Derived.Test.YtfbnjcdhipplpaaGreatZAcceptorErrs1
set_option maxHeartbeats 25600000
set_option maxRecDepth 100000
set_option linter.unusedVariables false
set_option linter.unusedSimpArgs false
namespace Go.Proofs.YtfbnjcdhipplpaaGreat
namespace Nm
open Go.RowKit Af
theorem LZ {b:L} (i:Nat):(pl (ch b) i).length<=b.length:=by
 rcases Nat.lt_or_ge i (ch b).length with g | g
 ·exact Rv (DL g)
 ·rw[Kz g];simp
theorem Je (B:List L) (b:L) (k:Nat):(Fx B b k).length<=k:=by
 induction k with
 |zero=>simp [Fx]
 |succ k ih=>rw[Fx,List.length_append];split<;>simp<;>omega
theorem KK (B:List L) (b:L) (k:Nat):(upW B b k).length<=k:=by
 induction k with
 |zero=>simp [upW]
 |succ k ih=>rw[upW,List.length_append];split<;>simp<;>omega
theorem Vt (x b:L) (k:Nat) (w:World) (hs:b.length<=1000000000) (hk:k<=(ch b).length) (hx:pl (ch b) k=x) (hn:∀i,i<k->pl (ch b) i≠x) :
  Calls Tryz.prog 240 #[.string ⟨x.toArray⟩,.string ⟨b.toArray⟩] w fun e w'=>∃v,e=.returned v/\Own w' w.heap.size v (Fx (ch b) b k).reverse/\Below w.heap.size w w':=by
 have c2:=fun(i:Nat) w1=>OZ (pl (ch b) i) w1 (Nat.le_trans (LZ i) hs)
 have bx:=LP b;have bb:∀i,i<(ch b).length->upL (pl (ch b) i)=pl (ch b) (i+1):=fun i h=>Vh _ h
 have h0:pl (ch b) 0=b:=by
  by_cases e:b = []
  ·subst e;rw[DY];rfl
  ·exact Ew e
 obtain⟨B,eB⟩:=Ak (ch b);rw[<-eB] at c2 bx bb h0 hk hx hn⊢;clear eB;obtain⟨N,eN⟩:=Ak (w.heap.size);rw[<-eN];have HX:=I hx;clear hx;have H0:=I h0;clear h0;have HN:=I hn;clear hn;have C2:=I c2;clear c2;have bB:=I bb;clear bb;have bz:=I (show Below N w w by exact Below.refl _ _);have EN:=I eN;clear eN;clear hs;go_enter Tryz.func240,Tryz.ntmps240
 go_wp2
 go_loopg [5,6] k (fun g vv rv wr=>∃i:Nat,i+g=k/\rv=.string ⟨(pl B i).toArray⟩/\Own wr N vv (Fx B b i)/\Below N w wr)
 case atStart=>exact⟨0,Nat.zero_add _,by rw[H0.o],Own.nil _ _,bz.o⟩
 case round=>
  obtain⟨i,hi,rfl,ho,M⟩:=hrel;have HO:=I ho;clear ho;have HB:=I M;clear M;have HI:=I hi;clear hi;have aw:=I (show N<=wr.heap.size by have:=HB.o.size;have:=EN.o;omega)
  by_cases hlt:i<k
  ·have t1:(pl B i==x)=false:=by simpa using HN.o i hlt
   have c3:=fun w1=>C2.o i w1
   rw[bB.o i (by omega)] at c3;have C3:=I c3;clear c3
   by_cases M:pl B i=b
   ·have t2:(pl B i==b)=true:=by simpa using M
    have E:=I (show Fx B b (i+1)=Fx B b i by rw[Fx,if_pos M,List.append_nil]);clear M;have c3:=C3.o wr
    go_wp2_with (go_at_call 239;refine Aj c3 ?_;rintro w3 M;clear c3;have H3:=I (HB.o.trans (M.mono aw.o));have Z:=I (HO.o.below M);clear M)
    go_roundg (k - (i+1))
    case measure=>have:=HI.o;omega
    case rel=>exact⟨i+1,by have:=HI.o;omega,rfl,by rw[E.o];exact Z.o,H3.o⟩
   ·have t2:(pl B i==b)=false:=by simpa using M
    have E:=I (show Fx B b (i+1)=Fx B b i++[pl B i] by rw[Fx,if_neg M]);clear M
    go_wp2_with (first
     |(at_builtin;refine Hq rfl (.tmp 16) (.tmp 18) rfl N _ _ rfl HO.o (pl B i) rfl (by have:=Je B b i;omega) aw.o ?_;intro v' w3 O bn;have H3:=I (HB.o.trans bn);rw[<-E.o] at O;have Z:=I O;clear O bn;have av:N<=w3.heap.size:=(by have:=H3.o.size;have:=EN.o;omega);have bq:=I av;clear av;have c3:=C3.o w3)
     |(go_at_call 239;refine Aj c3 ?_;rintro w4 M;clear c3;have H4:=I (H3.o.trans (M.mono bq.o));have ca:=I (Z.o.below M);clear M))
    go_roundg (k - (i+1))
    case measure=>have:=HI.o;omega
    case rel=>exact⟨i+1,by have:=HI.o;omega,rfl,ca.o,H4.o⟩
  ·obtain rfl:i=k:=by have:=HI.o;omega
   have t1:(pl B i==x)=true:=by simpa using HX.o
   have c4:=No _ _ wr N HO.o aw.o (by have:=Je B b i;omega)
   go_wp2_with (go_at_call 276;refine Aj c4 ?_;rintro w3 ⟨O,M⟩;clear c4;have H3:=I (HB.o.trans M);have Z:=I O;clear M O)
   go_ret;exact⟨_,rfl,Z.o,H3.o⟩
theorem Qa (a b:L) (w:World) (hs:a.length<=1000000000) (Z:b.length<=1000000000) (h:AS a=0\/AS b=0) :
  Calls Tryz.prog 193 #[.string ⟨a.toArray⟩,.string ⟨b.toArray⟩] w fun e w'=>∃v,e=.returned v/\Own w' w.heap.size v (Br a b)/\Below w.heap.size w w':=by
 have c1:=Fo a w hs;have C2:=I (fun w1=>Fo b w1 Z);have E:=I (show Br a b = [] by rw[Br,if_pos h]);have av:=I (show Below w.heap.size w w by exact Below.refl _ _)
 by_cases O:isL a=true
 ·have hb:isL b=false:=by
   simp only[isL,decide_eq_true_eq] at O;simp only[isL,decide_eq_false_iff_not];omega
  rw[O] at c1;have HB:=I hb;clear O hb h hs Z;go_enter Tryz.func193,Tryz.ntmps193
  go_wp2_with (first
   |(go_at_call 110;refine Aj c1 ?_;rintro w1 M;clear c1;have H1:=I M.below;clear M;have c2:=C2.o w1;rw[HB.o] at c2)
   |(go_at_call 110;refine Aj c2 ?_;rintro w2 M;clear c2;have H2:=I (H1.o.trans (M.below.mono H1.o.size));clear M))
  go_ret;exact⟨_,rfl,by rw[E.o];exact Own.nil _ _,H2.o⟩
 ·have O:isL a=false:=by simpa using O
  rw[O] at c1;clear O h hs Z;go_enter Tryz.func193,Tryz.ntmps193
  go_wp2_with (go_at_call 110;refine Aj c1 ?_;rintro w1 M;clear c1;have H1:=I M.below;clear M)
  go_ret;exact⟨_,rfl,by rw[E.o];exact Own.nil _ _,H1.o⟩
theorem Np (a b:L) (w:World) (hs:a.length<=1000000000) (ck:b.length<=1000000000) (ha:AS a≠0) (O:AS b≠0) :
  Calls Tryz.prog 193 #[.string ⟨a.toArray⟩,.string ⟨b.toArray⟩] w fun e w'=>∃v,e=.returned v/\Own w' w.heap.size v (Br a b)/\Below w.heap.size w w':=by
 have c1:=Fo a w hs;have c2:=fun w1=>Fo b w1 ck
 rw[show isL a=true by simp [isL];omega] at c1;rw[show isL b=true by simp [isL];omega] at c2;have C2:=I c2;clear c2;have na:=Di ha;have nb:=Di O;have e1:=KD ha O;have la:=LP a;have lb:=LP b;have cu:=LQ (ch a) (ch b);have c3:=fun(i:Nat) w1=>OZ (pl (ch a) i) w1 (Nat.le_trans (LZ i) hs)
 have c4:=fun(i:Nat) w1=>RH b (pl (ch a) i) w1 ck
 have cn:∀i,i<(ch a).length->upL (pl (ch a) i)=pl (ch a) (i+1):=fun i h=>Vh _ h
 have cp:∀i,i<(ch a).length->pl (ch a) i≠[]:=fun i h=>Rs _ h
 have bz:∀i,i<ix (ch a) (ch b)->pl (ch a) i≠b/\Gz b (pl (ch a) i)=false:=by
  intro i hi;have h1:=GA hi;rw[Kc nb,not_or] at h1;exact⟨h1.1,by simpa using h1.2⟩
 have cj:ix (ch a) (ch b)<(ch a).length->pl (ch a) (ix (ch a) (ch b))≠b->Gz b (pl (ch a) (ix (ch a) (ch b)))=true:=by
  intro g q;have h1:=Vj g;rw[Kc nb] at h1;exact h1.resolve_left q
 have c5:=fun w1=>Vt (pl (ch a) (ix (ch a) (ch b))) b (ix (ch b) (ch a)) w1 ck (LQ _ _) (by
  rcases Nat.lt_or_ge (ix (ch a) (ch b)) (ch a).length with g | g
  ·exact(Ng g).2
  ·have e:ix (ch a) (ch b)=(ch a).length:=by omega
   rw[Nh e,Kz (by omega),Kz (by omega)]) (fun i hi q=>by
  rcases Nat.lt_or_ge (ix (ch a) (ch b)) (ch a).length with g | g
  ·exact GA hi (by rw[q];exact DL g)
  ·rw[Kz g] at q
   exact Rs b (Nat.lt_of_lt_of_le hi (LQ _ _)) q)
 have h0:pl (ch a) 0=a:=Ew na;have cA:=Je (ch b) b (ix (ch b) (ch a));have cw:=LQ (ch b) (ch a);obtain⟨W2,eW⟩:=Ak ((Fx (ch b) b (ix (ch b) (ch a))).reverse);rw[<-eW] at e1 c5;have cM:W2.length<=4:=by rw[eW,List.length_reverse];omega
 clear eW cA cw lb;obtain⟨M,eM⟩:=Ak (ix (ch a) (ch b));rw[<-eM] at e1 cu bz cj c5;clear eM;obtain⟨A,eA⟩:=Ak (ch a);rw[<-eA] at e1 cu bz cj c5 h0 cp cn c3 c4 la;clear eA ha O hs ck na nb;obtain⟨N,eN⟩:=Ak (w.heap.size);rw[<-eN];have cL:=I (show Below N w w by exact Below.refl _ _);have EN:=I eN;clear eN;have E1:=I e1;clear e1;have C3:=I c3;clear c3;have C4:=I c4;clear c4;have C5:=I c5;clear c5;have cy:=I cn;clear cn;have cr:=I cp;clear cp;have cm:=I bz;clear bz;have cx:=I cj;clear cj;have H0:=I h0;clear h0;have Z:=I (show ∀w1:World,Below N w w1->N<=w1.heap.size from fun w1 h=>by have:=h.size;have:=EN.o;omega);go_enter Tryz.func193,Tryz.ntmps193
 go_wp2_with (first
  |(go_at_call 110;refine Aj c1 ?_;rintro w1 hd;clear c1;have H1:=I (hd.below.mono (Nat.le_of_eq EN.o));clear hd;have c2:=C2.o w1)
  |(go_at_call 110;refine Aj c2 ?_;rintro w2 hd;clear c2;have H2:=I (H1.o.trans (hd.below.mono (Z.o _ H1.o)));clear hd))
 go_loopg [5,6] M (fun g vv rv wr=>∃i:Nat,i+g=M/\rv=.string ⟨(pl A i).toArray⟩/\Own wr N vv (upW A b i)/\Below N w wr)
 case atStart=>exact⟨0,Nat.zero_add _,by rw[H0.o],Own.nil _ _,H2.o⟩
 case round=>
  obtain⟨i,hi,rfl,ho,O⟩:=hrel;have HO:=I ho;clear ho;have HB:=I O;clear O;have HI:=I hi;clear hi;have bB:=I (Z.o _ HB.o)
  by_cases hlt:i<M
  ·have t1:(pl A i == [])=false:=by simpa using cr.o i (by omega)
   have t2:(pl A i==b)=false:=by simpa using (cm.o i hlt).1
   have c4:=C4.o i wr;rw[(cm.o i hlt).2] at c4;have c3:=fun w1=>C3.o i w1
   rw[cy.o i (by omega)] at c3;have cg:=I c3;clear c3
   by_cases hx:pl A (i+1) = []\/pl A (i+1)=b
   ·have E:=I (show upW A b (i+1)=upW A b i by rw[upW,if_pos hx,List.append_nil])
    by_cases hy:pl A (i+1) = []
    ·have HY:=I hy
     rw[hy] at cg;clear hx hy
     go_wp2_with (first
      |(go_at_call 238;refine Aj c4 ?_;rintro w3 O;clear c4;have H3:=I (HB.o.trans (O.mono bB.o));have bx:=I (HO.o.below O);clear O;have c3:=cg.o w3)
      |(go_at_call 239;refine Aj c3 ?_;rintro w4 O;clear c3;have H4:=I (H3.o.trans (O.mono (Z.o _ H3.o)));have cb:=I (bx.o.below O);clear O))
     go_roundg (M - (i+1))
     case measure=>have:=HI.o;omega
     case rel=>exact⟨i+1,by have:=HI.o;omega,by rw[HY.o],by rw[E.o];exact cb.o,H4.o⟩
    ·have t3:(pl A (i+1) == [])=false:=by simpa using hy
     have t4:(pl A (i+1)==b)=true:=by simpa using hx.resolve_left hy
     clear hx hy
     go_wp2_with (first
      |(go_at_call 238;refine Aj c4 ?_;rintro w3 O;clear c4;have H3:=I (HB.o.trans (O.mono bB.o));have bx:=I (HO.o.below O);clear O;have c3:=cg.o w3)
      |(go_at_call 239;refine Aj c3 ?_;rintro w4 O;clear c3;have H4:=I (H3.o.trans (O.mono (Z.o _ H3.o)));have cb:=I (bx.o.below O);clear O))
     go_roundg (M - (i+1))
     case measure=>have:=HI.o;omega
     case rel=>exact⟨i+1,by have:=HI.o;omega,rfl,by rw[E.o];exact cb.o,H4.o⟩
   ·have E:=I (show upW A b (i+1)=upW A b i++[pl A (i+1)] by rw[upW,if_neg hx])
    rw[not_or] at hx;have t3:(pl A (i+1) == [])=false:=by simpa using hx.1
    have t4:(pl A (i+1)==b)=false:=by simpa using hx.2
    clear hx
    go_wp2_with (first
     |(go_at_call 238;refine Aj c4 ?_;rintro w3 O;clear c4;have H3:=I (HB.o.trans (O.mono bB.o));have bx:=I (HO.o.below O);clear O;have c3:=cg.o w3)
     |(go_at_call 239;refine Aj c3 ?_;rintro w4 O;clear c3;have H4:=I (H3.o.trans (O.mono (Z.o _ H3.o)));have cb:=I (bx.o.below O);clear O)
     |(at_builtin;refine Hq rfl (.tmp 38) (.tmp 40) rfl N _ _ rfl cb.o (pl A (i+1)) rfl (by have:=KK A b i;omega) (Z.o _ H4.o) ?_;intro v' w5 cq ct;have H5:=I (H4.o.trans ct);rw[<-E.o] at cq;have cB:=I cq;clear cq ct))
    go_roundg (M - (i+1))
    case measure=>have:=HI.o;omega
    case rel=>exact⟨i+1,by have:=HI.o;omega,rfl,cB.o,H5.o⟩
  ·obtain rfl:i=M:=by have:=HI.o;omega
   have c5:=C5.o;have cf:=I c5;clear c5
   by_cases hl:i<A.length
   ·have t1:(pl A i == [])=false:=by simpa using cr.o i hl
    by_cases hx:pl A i=b
    ·have t2:(pl A i==b)=true:=by simpa using hx
     have c5:=cf.o wr;clear hx
     go_wp2_with (first
      |(go_at_call 240;refine Calls.mono c5 ?_;rintro e w6 ⟨v6,rfl,bb,av⟩;clear c5;obtain⟨A6,c6,rfl,bq⟩:=bb.slice;have H6:=I (HB.o.trans (av.mono bB.o));have ca:=I (HO.o.below av);have cd:=I bq;clear av bb bq)
      |(at_builtin;refine Pb rfl (.tmp 42) (.tmp 45) rfl N _ _ rfl ca.o _ _ _ W2 rfl cd.o (by have:=KK A b i;omega) (Z.o _ H6.o) ?_;intro v' w7 aw bn;rw[E1.o] at aw;have H7:=I (H6.o.trans bn);have cc:=I aw;clear aw bn))
     go_ret;exact⟨_,rfl,cc.o,H7.o⟩
    ·have t2:(pl A i==b)=false:=by simpa using hx
     have c4:=C4.o i wr;rw[cx.o hl hx] at c4;clear hx
     go_wp2_with (first
      |(go_at_call 238;refine Aj c4 ?_;rintro w3 O;clear c4;have H3:=I (HB.o.trans (O.mono bB.o));have bx:=I (HO.o.below O);clear O;have c5:=cf.o w3)
      |(go_at_call 240;refine Calls.mono c5 ?_;rintro e w6 ⟨v6,rfl,bb,av⟩;clear c5;obtain⟨A6,c6,rfl,bq⟩:=bb.slice;have H6:=I (H3.o.trans (av.mono (Z.o _ H3.o)));have ca:=I (bx.o.below av);have cd:=I bq;clear av bb bq)
      |(at_builtin;refine Pb rfl (.tmp 42) (.tmp 45) rfl N _ _ rfl ca.o _ _ _ W2 rfl cd.o (by have:=KK A b i;omega) (Z.o _ H6.o) ?_;intro v' w7 aw bn;rw[E1.o] at aw;have H7:=I (H6.o.trans bn);have cc:=I aw;clear aw bn))
     go_ret;exact⟨_,rfl,cc.o,H7.o⟩
   ·have hz:pl A i = []:=Kz (by omega)
    rw[hz] at cf⊢;have c5:=cf.o wr;clear hz
    go_wp2_with (first
     |(go_at_call 240;refine Calls.mono c5 ?_;rintro e w6 ⟨v6,rfl,bb,av⟩;clear c5;obtain⟨A6,c6,rfl,bq⟩:=bb.slice;have H6:=I (HB.o.trans (av.mono bB.o));have ca:=I (HO.o.below av);have cd:=I bq;clear av bb bq)
     |(at_builtin;refine Pb rfl (.tmp 42) (.tmp 45) rfl N _ _ rfl ca.o _ _ _ W2 rfl cd.o (by have:=KK A b i;omega) (Z.o _ H6.o) ?_;intro v' w7 aw bn;rw[E1.o] at aw;have H7:=I (H6.o.trans bn);have cc:=I aw;clear aw bn))
    go_ret;exact⟨_,rfl,cc.o,H7.o⟩
theorem Gp (a b:L) (w:World) (hs:a.length<=1000000000) (M:b.length<=1000000000) :
  Calls Tryz.prog 193 #[.string ⟨a.toArray⟩,.string ⟨b.toArray⟩] w fun e w'=>∃v,e=.returned v/\Own w' w.heap.size v (Br a b)/\Below w.heap.size w w':=by
 by_cases h:AS a=0\/AS b=0
 ·exact Qa a b w hs M h
 ·rw[not_or] at h
  exact Np a b w hs M h.1 h.2
theorem RJ (l:List UInt8) (f k:Nat):(ByteArray.mk l.toArray).extract f k=ByteArray.mk ((l.drop f).take (k - f)).toArray:=by
 rw[ByteArray.extract_mk]
attribute [local go_sem] Er List.getElem_cons_zero List.getElem_cons_succ RJ
def piece (l:L) (f k:Nat):L:=(l.drop f).take (k - f)
theorem Ma {l:L} {f k:Nat} (O:f<=k) (hk:k<l.length):l.drop f=piece l f k++l[k] :: l.drop (k+1):=by
 have M:l.drop f=(l.drop f).take (k - f)++(l.drop f).drop (k - f):=(List.take_append_drop _ _).symm;rw[List.drop_drop,show f+(k - f)=k by omega,List.drop_eq_getElem_cons hk] at M;exact M
theorem Qb {l:L} {f k:Nat} (M:f<=k) (hk:k<l.length):piece l f (k+1)=piece l f k++[l[k]]:=by
 have h:=Ma M hk;have O:(piece l f k).length=k - f:=by rw[piece,List.length_take,List.length_drop];omega
 rw[piece,h,show k+1 - f=(piece l f k).length+1 by omega,List.take_append,List.take_of_length_le (by omega),Nat.add_sub_cancel_left]
 rfl
theorem Mb {l:L} {f:Nat}:piece l f l.length=l.drop f:=by rw[piece,List.take_of_length_le (by simp)]
theorem Vu (c:UInt8) (l:L):(split c l).length<=l.length+1:=by
 induction l with
 |nil=>simp [split]
 |cons x r ih=>
  rw[split];split
  ·simp;omega
  ·split<;>simp_all<;>omega
theorem GG (l:L) (c:UInt8) (w:World) (hs:l.length<=1000000000):Calls Tryz.prog 47 #[.string ⟨l.toArray⟩,.int .u8 (c.toNat:Int)] w fun e w'=>∃v,e=.returned v/\Own w' w.heap.size v (split c l)/\Below w.heap.size w w':=by
 obtain⟨N,eN⟩:=Ak (w.heap.size);rw[<-eN];have bz:=I (show Below N w w by exact Below.refl _ _);have EN:=I eN;clear eN;have Z:=I (show ∀w1:World,Below N w w1->N<=w1.heap.size from fun w1 h=>by have:=h.size;have:=EN.o;omega);go_enter Tryz.func47,Tryz.ntmps47
 go_wp2
 go_loopw [5,6,7] (fun vv fv iv wr=>∃(f k:Nat) (ls:List L),f<=k/\k<=l.length/\fv=.int .i64 (f:Int)/\iv=.int .i64 (k:Int)/\Own wr N vv ls/\c∉piece l f k/\ls++split c (l.drop f)=split c l/\ls.length<=f/\Below N w wr) (fun _ _ iv _=>l.length - (intOf iv).toNat)
 case atStart=>exact⟨0,0,[],Nat.le_refl _,Nat.zero_le _,rfl,rfl,Own.nil _ _,by simp [piece],by simp,by simp,bz.o⟩
 case round=>
  obtain⟨f,k,ls,hf,hk,rfl,rfl,ho,hc,bq,bx,hb⟩:=hrel;have HO:=I ho;clear ho;have HB:=I hb;clear hb;have HC:=I hc;clear hc;have av:=I bq;clear bq
  by_cases hlt:k<l.length
  ·have e1:(k:Int)<(l.length:Int):=by omega
   have bb:=Ma hf hlt;have bn:=Qb hf hlt
   by_cases hx:l[k]=c
   ·have t1:((l[k].toNat:Int)==(c.toNat:Int))=true:=by simp [hx]
    have hn:(ls++[piece l f k])++split c (l.drop (k+1))=split c l:=by
     rw[<-av.o,bb,hx,Kb HC.o];simp
    have HN:=I hn;clear hn bb bn hx;have e2:(f:Int)<=(k:Int):=by omega
    go_wp2_with (at_builtin;refine Hq rfl (.tmp 19) (.tmp 24) rfl N _ ls rfl HO.o (piece l f k) rfl (by omega) (Z.o _ HB.o) ?_;intro v' w3 O M;have H3:=I (HB.o.trans M);have aw:=I O;clear O M)
    go_roundw
    case rel=>exact⟨k+1,k+1,_,Nat.le_refl _,by omega,by go_num,by go_num,aw.o,by simp [piece],HN.o,by simp;omega,H3.o⟩
    case measure=>simp [intOf];omega
   ·have t1:((l[k].toNat:Int)==(c.toNat:Int))=false:=by
     simp only[beq_eq_false_iff_ne,ne_eq];intro q;exact hx (UInt8.toNat_inj.1 (by omega))
    have bB:=I (show c∉piece l f (k+1) by
     rw[bn,List.mem_append,not_or];exact⟨HC.o,by simpa using fun q:c=l[k]=>hx q.symm⟩)
    clear bb bn hx
    go_wp2
    go_roundw
    case rel=>exact⟨f,k+1,ls,by omega,by omega,rfl,by go_num,HO.o,bB.o,av.o,bx,HB.o⟩
    case measure=>simp [intOf];omega
  ·obtain rfl:k=l.length:=by omega
   have e1:¬(l.length:Int)<(l.length:Int):=by omega
   have e2:(f:Int)<=(l.length:Int):=by omega
   have hc:=HC.o;rw[Mb] at hc;have hn:ls++[piece l f l.length]=split c l:=by rw[<-av.o,FO hc,Mb]
   have HN:=I hn;clear hn hc
   go_wp2_with (at_builtin;refine Hq rfl (.tmp 28) (.tmp 32) rfl N _ ls rfl HO.o (piece l f l.length) rfl (by omega) (Z.o _ HB.o) ?_;intro v' w3 O M;have H3:=I (HB.o.trans M);have aw:=I O;clear O M)
   go_ret;exact⟨_,rfl,by rw[<-HN.o];exact aw.o,H3.o⟩
end Nm
namespace Nm
open Go.RowKit Af
attribute [local go_sem] Er List.getElem_cons_zero List.getElem_cons_succ RJ
theorem IG {ls:List L} {i:Nat} (hi:i<ls.length) (h:Cn capB (pl ls i)=false):Co ls=false:=by
 cases e:Co ls with
 |false=>rfl
 |true=>
  have:=((CO ls).1 e).2.2;rw[List.all_eq_true] at this;have:=this _ (DL hi);rw[h] at this;cases this
theorem Vv {ls:List L} (h:∀i,i<ls.length->Cn capB (pl ls i)=true) (O:1<=ls.length):Co ls=decide (ls.length<=4):=by
 have M:ls.all (Cn capB)=true:=by
  rw[List.all_eq_true];intro x Z;obtain⟨i,hi,rfl⟩:=mem_pl Z;exact h i hi
 rw[Co,M,decide_eq_true O];simp
theorem Nq (ls:List L) (b o c:Nat) (w:World) (h1:1<=ls.length) (hl:ls.length<=8000000000000) (hs:∀i,i<ls.length->(pl ls i).length<=1000000000)
  (Z:∀i,i<ls.length->w.cell? ⟨b,o+i,none⟩=some (.string ⟨(pl ls i).toArray⟩)) :
  Calls Tryz.prog 147 #[.slice (some ⟨b,o,none⟩) ls.length c] w fun e w'=>e=.returned (.bool (Co ls))/\w=w':=by
 obtain⟨n,en⟩:=Ak (ls.length);rw[<-en] at h1 hl hs Z⊢;have HS:=I hs;clear hs;have HC:=I Z;clear Z;have M:=I en;clear en;go_enter Tryz.func147,Tryz.ntmps147
 go_wp2
 go_loop [3] (fun iv=>∃i:Nat,i<=n/\iv=.int .i64 (i:Int)/\∀j,j<i->Cn capB (pl ls j)=true) (fun iv=>n - (intOf iv).toNat)
 case atStart=>exact⟨0,Nat.zero_le _,rfl,fun j h=>absurd h (Nat.not_lt_zero j)⟩
 case round=>
  obtain⟨i,hi,rfl,hw⟩:=hrel;have HW:=I hw;clear hw
  by_cases hlt:i<n
  ·have e1:(i:Int)<(n:Int):=by omega
   have Z:=HC.o i hlt;have av:=HS.o i hlt;obtain⟨l,el⟩:=Ak (pl ls i);rw[<-el] at Z av;have O:=I el;clear el
   by_cases g1:l.length<1
   ·have t1:decide ((l.length:Int)<1)=true:=by simp;omega
    have E:=I (IG (by rw[<-M.o];exact hlt) (by rw[<-O.o];exact Ho g1));clear g1
    go_wp2
    go_ret;exact⟨by rw[E.o];rfl,rfl⟩
   ·have t1:decide ((l.length:Int)<1)=false:=by simp;omega
    by_cases g2:8<l.length
    ·have t2:decide (8<(l.length:Int))=true:=by simp;omega
     have E:=I (IG (by rw[<-M.o];exact hlt) (by rw[<-O.o];exact Jc g2));clear g1 g2
     go_wp2
     go_ret;exact⟨by rw[E.o];rfl,rfl⟩
    ·have t2:decide (8<(l.length:Int))=false:=by simp;omega
     have HA:=I (fun h=>KE (p:=capB) (l:=l) h (by omega) (by omega));clear g1 g2
     go_wp2
     go_loop [4] (fun kv=>∃k:Nat,k<=l.length/\kv=.int .i64 (k:Int)/\Fit capB l k) (fun kv=>l.length - (intOf kv).toNat)
     case atStart=>exact⟨0,Nat.zero_le _,rfl,fun i _ h=>by omega⟩
     case round=>
      obtain⟨k,hk,rfl,hf⟩:=hrel;have HF:=I hf;clear hf
      by_cases hkl:k<l.length
      ·have e2:(k:Int)<(l.length:Int):=by omega
       have hb:=Fp l[k]
       by_cases q1:l[k].toNat<65
       ·have s1:decide ((l[k].toNat:Int)<65)=true:=by simp;omega
        have E:=I (IG (ls:=ls) (i:=i) (by rw[<-M.o];exact hlt) (by rw[<-O.o];exact GB hkl (by simp [capB];omega)));clear q1
        go_wp2
        go_ret;exact⟨by rw[E.o];rfl,rfl⟩
       ·have s1:decide ((l[k].toNat:Int)<65)=false:=by simp;omega
        by_cases q2:90<l[k].toNat
        ·have s2:decide (90<(l[k].toNat:Int))=true:=by simp;omega
         have E:=I (IG (ls:=ls) (i:=i) (by rw[<-M.o];exact hlt) (by rw[<-O.o];exact GB hkl (by simp [capB];omega)));clear q1 q2
         go_wp2
         go_ret;exact⟨by rw[E.o];rfl,rfl⟩
        ·have s2:decide (90<(l[k].toNat:Int))=false:=by simp;omega
         have HP:=I (show capB l[k]=true by simp [capB];omega);clear q1 q2
         go_wp2
         go_round
         case rel=>exact⟨k+1,by omega,by go_num,fun i hi aw=>by
          by_cases q:i=k
          ·subst q;exact HP.o
          ·exact HF.o i hi (by omega)⟩
         case measure=>simp [intOf];omega
      ·have e2:¬(k:Int)<(l.length:Int):=by omega
       have E:=I (HA.o (fun i hi=>HF.o i hi (by omega)))
       go_wp2
       go_round
       case rel=>exact⟨i+1,by omega,by go_num,fun j hj=>by
        by_cases q:j=i
        ·rw[q,<-O.o];exact E.o
        ·exact HW.o j (by omega)⟩
       case measure=>simp [intOf];omega
  ·obtain rfl:i=n:=by omega
   have e1:¬(i:Int)<(i:Int):=by omega
   have hE:=Vv (ls:=ls) (fun j hj=>HW.o j (by rw[M.o];exact hj)) (by rw[<-M.o];exact h1);rw[<-M.o] at hE;have E:=I hE;clear hE;have t1:decide ((1:Int)<=(i:Int))=true:=by simp;omega
   by_cases g:i<=4
   ·have t2:decide ((i:Int)<=4)=true:=by simp;omega
    have E2:=I (decide_eq_true g);clear g
    go_wp2
    go_ret;exact⟨by rw[E.o,E2.o];rfl,rfl⟩
   ·have t2:decide ((i:Int)<=4)=false:=by simp;omega
    have E2:=I (decide_eq_false g);clear g
    go_wp2
    go_ret;exact⟨by rw[E.o,E2.o];rfl,rfl⟩
theorem Qc (ls:List L) (A:Option Addr) (c B:Nat) (w:World) (O:1<=ls.length) (Z:ls.length<=8000000000000) (hs:∀i,i<ls.length->(pl ls i).length<=1000000000) (M:Rd w B A (strs ls)) :
  Calls Tryz.prog 147 #[.slice A ls.length c] w fun e w'=>e=.returned (.bool (Co ls))/\w=w':=by
 obtain⟨b,o,rfl,_,_⟩:=DE M (i:=0) O;refine Nq ls b o c w O Z hs fun i hi=>?_
 obtain⟨b',o',e,_,hc⟩:=DE M hi;injection e with e;injection e with e1 e2;subst e1;subst e2;exact hc
end Nm
namespace Nm
open Go.RowKit Af
attribute [local go_sem] Er List.getElem_cons_zero List.getElem_cons_succ Cg Ch Dr
theorem RK (c:UInt8) (l:L):∀x,x∈split c l->x.length<=l.length:=by
 induction l with
 |nil=>intro x M;simp [split] at M;simp [M]
 |cons a r ih=>
  intro x M;rw[split] at M
  split at M
  ·rcases List.mem_cons.1 M with rfl | h
   ·simp
   ·have:=ih x h;simp;omega
  ·cases hs:split c r with
   |nil=>rw[hs] at M;simp at M;subst M;simp
   |cons u t=>
    rw[hs] at M ih;rcases List.mem_cons.1 M with rfl | h
    ·have:=ih u List.mem_cons_self;simp;omega
    ·have:=ih x (List.mem_cons_of_mem _ h);simp;omega
theorem Pc (l:L) (c:UInt8) (w':World) (base:Nat) (v:Value) (hs:l.length<=1000000000) (Z:Own w' base v (split c l)) :
  ∃A n cap,v=.slice A n cap/\∀w1,Below w'.heap.size w' w1->Calls Tryz.prog 147 #[.slice A n cap] w1 fun e w2=>e=.returned (.bool (Co (split c l)))/\w1=w2:=by
 obtain⟨A,cap,rfl,M⟩:=Z.slice;refine⟨A,_,cap,rfl,fun w1 O=>?_⟩;exact Qc (split c l) A cap w'.heap.size w1 (CK c l) (by have:=Vu c l;omega) (fun i hi=>by have:=RK c l _ (DL hi);omega) (M.below O)
theorem RL (l:L) (w:World) (hs:l.length<=1000000000):Calls Tryz.prog 96 #[.string ⟨l.toArray⟩] w fun e w'=>e=.returned (.int .i64 (AS l:Int))/\Below w.heap.size w w':=by
 have C2:=I (fun w1=>GG l 46 w1 hs);have S2:=I (fun w' base v M=>Pc l 46 w' base v hs M);have bn:=I (Below.refl w.heap.size w);cases l with
 |nil=>
  have E:=I Kx;have c2:=C2.o w;have EL:=I (show Co (split 46 [])=false by decide);clear hs;go_enter Tryz.func96,Tryz.ntmps96
  go_wp2_with (first
   |(go_at_call 47;refine Calls.mono c2 ?_;rintro e w1 ⟨v,rfl,M,O⟩;clear c2;obtain⟨A,n,cap,rfl,Z⟩:=S2.o w1 _ v M;have c3:=Z w1 Ah;rw[EL.o] at c3;have H1:=I O;clear O M Z)
   |(go_at_call 147;refine Aj c3 ?_;rintro w2 rfl;clear c3))
  go_ret;exact⟨by rw[E.o];rfl,H1.o⟩
 |cons x r=>
  have e0:(0:Int)<(r.length:Int)+1:=by omega
  have aw:r.length<=1000000000:=by simp at hs;omega
  have ek:AS (x :: r)=if slL (x :: r) then 2 else if Co (split 46 (x :: r)) then 1 else 0:=rfl
  by_cases hx:x=47
  ·subst hx
   have av:slL (47 :: r)=Co (split 47 r):=by simp [slL]
   rw[av] at ek;have c1:=GG r 47 w aw;have S1:=I (fun w' base v M=>Pc r 47 w' base v aw M);cases h1:Co (split 47 r) with
   |true=>
    have E:=I (show AS (47 :: r)=2 by rw[ek,h1];rfl);have H:=I h1;clear ek av h1 hs aw;go_enter Tryz.func96,Tryz.ntmps96
    go_wp2_with (first
     |(go_at_call 47;refine Calls.mono c1 ?_;rintro e w1 ⟨v,rfl,M,O⟩;clear c1;obtain⟨A,n,cap,rfl,Z⟩:=S1.o w1 _ v M;have c3:=Z w1 Ah;rw[H.o] at c3;have H1:=I O;clear O M Z)
     |(go_at_call 147;refine Aj c3 ?_;rintro w2 rfl;clear c3))
    go_ret;exact⟨by rw[E.o];rfl,H1.o⟩
   |false=>
    rw[h1,if_neg (by simp)] at ek;have H:=I h1;have hd:Co (split 46 (47 :: r))=false:=by
     cases q:Co (split 46 (47 :: r)) with
     |false=>rfl
     |true=>exact absurd rfl (OV q)
    have HD:=I hd;have E:=I (show AS (47 :: r)=0 by rw[ek,hd];rfl);clear ek av h1 hd hs aw;go_enter Tryz.func96,Tryz.ntmps96
    go_wp2_with (first
     |(go_at_call 47;refine Calls.mono c1 ?_;rintro e w1 ⟨v,rfl,M,O⟩;clear c1;obtain⟨A,n,cap,rfl,Z⟩:=S1.o w1 _ v M;have c3:=Z w1 Ah;rw[H.o] at c3;have H1:=I O;clear O M Z;have c2:=C2.o w1)
     |(go_at_call 147;refine Aj c3 ?_;rintro w2 rfl;clear c3)
     |(go_at_call 47;refine Calls.mono c2 ?_;rintro e w4 ⟨v4,rfl,M,O⟩;clear c2;obtain⟨A4,n4,bb,rfl,Z⟩:=S2.o w4 _ v4 M;have c5:=Z w4 Ah;rw[HD.o] at c5;have H4:=H1.t O;clear O M Z)
     |(go_at_call 147;refine Aj c5 ?_;rintro w6 rfl;clear c5))
    go_ret;exact⟨by rw[E.o];rfl,H4.o⟩
  ·have t1:((x.toNat:Int)==47)=false:=by
    simp only[beq_eq_false_iff_ne,ne_eq];intro q;exact hx (UInt8.toNat_inj.1 (by have:(47:UInt8).toNat=47:=rfl;omega))
   have av:slL (x :: r)=false:=by simp [slL,hx]
   rw[av,if_neg (by simp)] at ek;have c2:=C2.o w;cases h1:Co (split 46 (x :: r)) with
   |true=>
    have E:=I (show AS (x :: r)=1 by rw[ek,h1];rfl);have H:=I h1;clear ek av h1 hs aw hx;go_enter Tryz.func96,Tryz.ntmps96
    go_wp2_with (first
     |(go_at_call 47;refine Calls.mono c2 ?_;rintro e w1 ⟨v,rfl,M,O⟩;clear c2;obtain⟨A,n,cap,rfl,Z⟩:=S2.o w1 _ v M;have c3:=Z w1 Ah;rw[H.o] at c3;have H1:=I O;clear O M Z)
     |(go_at_call 147;refine Aj c3 ?_;rintro w2 rfl;clear c3))
    go_ret;exact⟨by rw[E.o];rfl,H1.o⟩
   |false=>
    have E:=I (show AS (x :: r)=0 by rw[ek,h1];rfl);have H:=I h1;clear ek av h1 hs aw hx;go_enter Tryz.func96,Tryz.ntmps96
    go_wp2_with (first
     |(go_at_call 47;refine Calls.mono c2 ?_;rintro e w1 ⟨v,rfl,M,O⟩;clear c2;obtain⟨A,n,cap,rfl,Z⟩:=S2.o w1 _ v M;have c3:=Z w1 Ah;rw[H.o] at c3;have H1:=I O;clear O M Z)
     |(go_at_call 147;refine Aj c3 ?_;rintro w2 rfl;clear c3))
    go_ret;exact⟨by rw[E.o];rfl,H1.o⟩
theorem Nr (l:L) (w:World) (hs:l.length<=1000000000):Calls Tryz.prog 46 #[.string ⟨l.toArray⟩] w fun e w'=>e=.returned (.bool (isL l))/\Below w.heap.size w w':=by
 have c1:=RL l w hs
 by_cases h:1<=AS l
 ·have E:=I (show isL l=true by simp [isL,h])
  have t:decide (0<AS l)=true:=by simp;omega
  clear h;go_enter Tryz.func46,Tryz.ntmps46
  go_wp2_with (go_at_call 96;refine Aj c1 ?_;rintro w1 M;clear c1;have H1:=I M;clear M)
  go_ret;exact⟨by rw[E.o];rfl,H1.o⟩
 ·have E:=I (show isL l=false by simp [isL];omega)
  have O:AS l=0:=by omega
  rw[O] at c1;clear h O;go_enter Tryz.func46,Tryz.ntmps46
  go_wp2_with (go_at_call 96;refine Aj c1 ?_;rintro w1 M;clear c1;have H1:=I M;clear M)
  go_ret;exact⟨by rw[E.o];rfl,H1.o⟩
end Nm
namespace Nm
open Go.RowKit Af
attribute [local go_sem] Er List.getElem_cons_zero List.getElem_cons_succ Cg Ch Dr
theorem Vw {n:L} (h:n.length<8):tgL n=false:=by
 cases q:preL krb n with
 |false=>rw[tgL,q];rfl
 |true=>
  have O:n.drop 7 = []:=List.drop_of_length_le (by omega);have M:cpL krb n = []:=by rw[cpL,q,if_pos rfl];exact O
  rw[tgL,M,show isL []=false from by decide,Bool.and_false]
theorem tg_eq (n:L):tgL n=((n.take 7==krb)&&isL (n.drop 7)):=by
 have e:=OY krb n;rw[show krb.length=7 from rfl] at e;rw[tgL,e];cases q:preL krb n with
 |false=>rfl
 |true=>rw[cpL,q];rfl
theorem Nt (n:L) (w:World) (hs:n.length<=1000000000):Calls Tryz.prog 53 #[.string ⟨n.toArray⟩] w fun e w'=>e=.returned (.tuple #[.string ⟨(tgR n).toArray⟩,.bool (tgL n)])/\Below w.heap.size w w':=by
 have c2:=Nr (n.drop 7) w (by simp;omega);have Z:=I (Below.refl w.heap.size w)
 by_cases h8:n.length<8
 ·have M:=I (Vw h8)
  have O:=I (show tgR n = [] by rw[tgR,M.o];rfl);have t1:decide ((n.length:Int)<8)=true:=by simp;omega
  clear h8 hs;go_enter Tryz.func53,Tryz.ntmps53
  go_wp2_with fail
  go_ret2
  exact⟨by rw[M.o,O.o];rfl,Z.o⟩
 ·have t1:decide ((n.length:Int)<8)=false:=by simp;omega
  have e7:(7:Int)<=(n.length:Int):=by omega
  have eq:=tg_eq n;clear h8;cases h1:(n.take 7==krb) with
  |false=>
   rw[h1] at eq;have t2:(n.take 7 == [107,114,98,116,103,116,47])=false:=h1;have M:=I (show tgL n=false from eq);have O:=I (show tgR n = [] by rw[tgR,M.o];rfl);clear eq h1 hs;go_enter Tryz.func53,Tryz.ntmps53
   go_wp2_with fail
   go_ret2
   exact⟨by rw[M.o,O.o];rfl,Z.o⟩
  |true=>
   rw[h1,Bool.true_and] at eq;have t2:(n.take 7 == [107,114,98,116,103,116,47])=true:=h1;clear h1 hs;cases h2:isL (n.drop 7) with
   |false=>
    rw[h2] at c2 eq;have M:=I eq;have O:=I (show tgR n = [] by rw[tgR,M.o];rfl);clear eq h2;go_enter Tryz.func53,Tryz.ntmps53
    go_wp2_with (go_at_call 46;refine Aj c2 ?_;rintro w2 hd;clear c2;have H2:=I hd;clear hd)
    go_ret2
    exact⟨by rw[M.o,O.o];rfl,H2.o⟩
   |true=>
    rw[h2] at c2 eq;have M:=I eq;have O:=I (show tgR n=n.drop 7 by rw[tgR,M.o];rfl);clear eq h2;go_enter Tryz.func53,Tryz.ntmps53
    go_wp2_with (go_at_call 46;refine Aj c2 ?_;rintro w2 hd;clear c2;have H2:=I hd;clear hd)
    go_ret2
    exact⟨by rw[M.o,O.o];rfl,H2.o⟩
theorem Vx {p:UInt8->Bool} {l:L} (h:∀i (h:i<l.length),p l[i]=true):Cn p l=(decide (1<=l.length)&&decide (l.length<=8)):=by
 have M:l.all p=true:=by
  rw[List.all_eq_true];intro x O;obtain⟨i,hi,rfl⟩:=List.getElem_of_mem O;exact h i hi
 rw[Cn,M,Bool.and_true]
theorem DZ (r n:L) (w:World) (hs:r.length<=1000000000) (cg:n.length<=1000000000):Calls Tryz.prog 28 #[.agg #[.string ⟨r.toArray⟩,.string ⟨n.toArray⟩]] w fun e w'=>e=.returned (.bool (Cu r n))/\Below w.heap.size w w':=by
 have c1:=Nr r (w.alloc (.cells #[.string ⟨r.toArray⟩,.string ⟨n.toArray⟩] 27)) hs;have hk:=Blk.new w 27 #[.string ⟨r.toArray⟩,.string ⟨n.toArray⟩];have bB:=(Below.refl w.heap.size w).alloc Ag (.cells #[.string ⟨r.toArray⟩,.string ⟨n.toArray⟩] 27);have cb:w.heap.size<(w.alloc (.cells #[.string ⟨r.toArray⟩,.string ⟨n.toArray⟩] 27)).heap.size:=by simp
 obtain⟨N,eN⟩:=Ak (w.heap.size);have C2:=I (fun w1=>Nt n w1 cg);have E1:=I (show Cu r n=(isL r&&(tgL n||Cn Ct n)) from rfl);rw[<-eN] at hk bB cb⊢;have EN:=I eN;clear eN;have HK:=I hk;clear hk;have ca:=I bB;clear bB;have av:=I cb;clear cb hs;cases h1:isL r with
 |false=>
  rw[h1] at c1;have E:=I (show Cu r n=false by rw[E1.o,h1];rfl);clear h1;go_enter Tryz.func28,Tryz.ntmps28
  go_wp2_with (go_at_call 46;refine Aj c1 ?_;rintro w1 Z;clear c1;have H1:=I (ca.o.trans (Z.mono (Nat.le_of_lt av.o)));clear Z)
  go_ret;exact⟨by rw[E.o];rfl,H1.o⟩
 |true=>
  rw[h1] at c1;cases h2:tgL n with
  |true=>
   have E:=I (show Cu r n=true by rw[E1.o,h1,h2];rfl);have HT:=I h2;clear h1 h2;go_enter Tryz.func28,Tryz.ntmps28
   go_wp2_with (first
    |(go_at_call 46;refine Aj c1 ?_;rintro w1 Z;clear c1;have H1:=I (ca.o.trans (Z.mono (Nat.le_of_lt av.o)));have M:=HK.o.below Z;have cd:=I M;have bq:=M.cell 1;have bx:N<w1.heap.size:=(by have:=Z.size;have:=av.o;omega);have cf:=I bx;rw[EN.o] at bq;clear Z bx M;have c2:=C2.o w1;rw[HT.o] at c2)
    |(go_at_call 53;refine Aj c2 ?_;rintro w2 hb;clear c2 bq;have H2:=I (H1.o.trans (hb.mono (Nat.le_of_lt cf.o)));have cc:=(cd.o.below hb).cell 1;rw[EN.o] at cc;clear hb))
   go_ret;exact⟨by rw[E.o];rfl,H2.o⟩
  |false=>
   have E:=I (show Cu r n=Cn Ct n by rw[E1.o,h1,h2];rfl);have HT:=I h2;clear h1 h2;go_enter Tryz.func28,Tryz.ntmps28
   go_wp2_with (first
    |(go_at_call 46;refine Aj c1 ?_;rintro w1 Z;clear c1;have H1:=I (ca.o.trans (Z.mono (Nat.le_of_lt av.o)));have M:=HK.o.below Z;have cd:=I M;have bq:=M.cell 1;have bx:N<w1.heap.size:=(by have:=Z.size;have:=av.o;omega);have cf:=I bx;rw[EN.o] at bq;clear Z bx M;have c2:=C2.o w1;rw[HT.o] at c2)
    |(go_at_call 53;refine Aj c2 ?_;rintro w2 hb;clear c2 bq;have H2:=I (H1.o.trans (hb.mono (Nat.le_of_lt cf.o)));have cc:=(cd.o.below hb).cell 1;rw[EN.o] at cc;clear hb))
   go_loop [5] (fun iv=>∃k:Nat,k<=n.length/\iv=.int .i64 (k:Int)/\Fit Ct n k) (fun iv=>n.length - (intOf iv).toNat)
   case atStart=>exact⟨0,Nat.zero_le _,rfl,fun i _ h=>by omega⟩
   case round=>
    obtain⟨k,hk,rfl,hf⟩:=hrel;have HF:=I hf;clear hf
    by_cases hlt:k<n.length
    ·have e1:(k:Int)<(n.length:Int):=by omega
     have hb:=Fp n[k];have bz:Ct n[k]=false->Hid (Cu r n=false):=fun h=>I (by rw[E.o];exact GB hlt h)
     have bn:=I bz;clear bz;have aw:Ct n[k]=true->Hid (Fit Ct n (k+1)):=fun h=>I (fun i hi cj=>by
      by_cases q:i=k
      ·subst q;exact h
      ·exact HF.o i hi (by omega))
     have bb:=I aw;clear aw
     by_cases q1:n[k].toNat<97
     ·have s1:decide ((n[k].toNat:Int)<97)=true:=by simp;omega
      by_cases q2:n[k].toNat<48
      ·have s2:decide ((n[k].toNat:Int)<48)=true:=by simp;omega
       have O:=bn.o (by simp [Ct,DK];omega);clear q1 q2
       go_wp2
       go_ret;exact⟨by rw[O.o];rfl,H2.o⟩
      ·have s2:decide ((n[k].toNat:Int)<48)=false:=by simp;omega
       by_cases q3:57<n[k].toNat
       ·have s3:decide (57<(n[k].toNat:Int))=true:=by simp;omega
        have O:=bn.o (by simp [Ct,DK];omega);clear q1 q2 q3
        go_wp2
        go_ret;exact⟨by rw[O.o];rfl,H2.o⟩
       ·have s3:decide (57<(n[k].toNat:Int))=false:=by simp;omega
        have O:=bb.o (by simp [Ct,DK];omega);clear q1 q2 q3
        go_wp2
        go_round
        case rel=>exact⟨k+1,by omega,by go_num,O.o⟩
        case measure=>simp [intOf];omega
     ·have s1:decide ((n[k].toNat:Int)<97)=false:=by simp;omega
      by_cases q2:122<n[k].toNat
      ·have s2:decide (122<(n[k].toNat:Int))=true:=by simp;omega
       have s3:decide ((n[k].toNat:Int)<48)=false:=by simp;omega
       have s4:decide (57<(n[k].toNat:Int))=true:=by simp;omega
       have O:=bn.o (by simp [Ct,DK];omega);clear q1 q2
       go_wp2
       go_ret;exact⟨by rw[O.o];rfl,H2.o⟩
      ·have s2:decide (122<(n[k].toNat:Int))=false:=by simp;omega
       have O:=bb.o (by simp [Ct,DK];omega);clear q1 q2
       go_wp2
       go_round
       case rel=>exact⟨k+1,by omega,by go_num,O.o⟩
       case measure=>simp [intOf];omega
    ·obtain rfl:k=n.length:=by omega
     have e1:¬(n.length:Int)<(n.length:Int):=by omega
     have O:=I (E.o.trans (Vx (fun i hi=>HF.o i hi hi)))
     by_cases g1:1<=n.length
     ·have t1:decide ((1:Int)<=(n.length:Int))=true:=by simp;omega
      by_cases g2:n.length<=8
      ·have t2:decide ((n.length:Int)<=8)=true:=by simp;omega
       have E3:=I (O.o.trans (show(decide (1<=n.length)&&decide (n.length<=8))=true by simp;omega));clear g1 g2
       go_wp2
       go_ret;exact⟨by rw[E3.o];rfl,H2.o⟩
      ·have t2:decide ((n.length:Int)<=8)=false:=by simp;omega
       have E3:=I (O.o.trans (show(decide (1<=n.length)&&decide (n.length<=8))=false by simp;omega));clear g1 g2
       go_wp2
       go_ret;exact⟨by rw[E3.o];rfl,H2.o⟩
     ·have t1:decide ((1:Int)<=(n.length:Int))=false:=by simp;omega
      have E3:=I (O.o.trans (show(decide (1<=n.length)&&decide (n.length<=8))=false by simp;omega));clear g1
      go_wp2
      go_ret;exact⟨by rw[E3.o];rfl,H2.o⟩
end Nm
end Go.Proofs.YtfbnjcdhipplpaaGreat
