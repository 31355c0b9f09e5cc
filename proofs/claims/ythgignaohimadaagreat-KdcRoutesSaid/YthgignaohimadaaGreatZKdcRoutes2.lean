import Derived.Test.YthgignaohimadaaGreatZKdcRoutes1
set_option maxHeartbeats 25600000
set_option maxRecDepth 100000
set_option linter.unusedVariables false
set_option linter.unusedSimpArgs false
namespace Go.Proofs.YthgignaohimadaaGreat
namespace Nm
open Go.RowKit Af
theorem Mm {b:L} (i:Nat):(pl (ch b) i).length<=b.length:=by
 rcases Nat.lt_or_ge i (ch b).length with g | g
 ·exact KX (Dc g)
 ·rw[Jo g];simp
theorem Js (B:List L) (b:L) (k:Nat):(Fj B b k).length<=k:=by
 induction k with
 |zero=>simp [Fj]
 |succ k ih=>rw[Fj,List.length_append];split<;>simp<;>omega
theorem Lg (B:List L) (b:L) (k:Nat):(upW B b k).length<=k:=by
 induction k with
 |zero=>simp [upW]
 |succ k ih=>rw[upW,List.length_append];split<;>simp<;>omega
theorem VD (x b:L) (k:Nat) (w:World) (hs:b.length<=1000000000) (hk:k<=(ch b).length) (hx:pl (ch b) k=x) (hn:∀i,i<k->pl (ch b) i≠x) :
  Calls Tryz.prog 195 #[.string ⟨x.toArray⟩,.string ⟨b.toArray⟩] w fun e w'=>∃v,e=.returned v/\Own w' w.heap.size v (Fj (ch b) b k).reverse/\Below w.heap.size w w':=by
 have c2:=fun(i:Nat) w1=>Ph (pl (ch b) i) w1 (Nat.le_trans (Mm i) hs)
 have bB:=Mh b;have Z:∀i,i<(ch b).length->upL (pl (ch b) i)=pl (ch b) (i+1):=fun i h=>Vs _ h
 have h0:pl (ch b) 0=b:=by
  by_cases e:b = []
  ·subst e;rw[CH];rfl
  ·exact DE e
 obtain⟨B,eB⟩:=Ak (ch b);rw[<-eB] at c2 bB Z h0 hk hx hn⊢;clear eB;obtain⟨N,eN⟩:=Ak (w.heap.size);rw[<-eN];have HX:=I hx;clear hx;have H0:=I h0;clear h0;have HN:=I hn;clear hn;have C2:=I c2;clear c2;have cb:=I Z;clear Z;have ca:=I (show Below N w w by exact Below.refl _ _);have EN:=I eN;clear eN;clear hs;go_enter Tryz.func195,Tryz.ntmps195
 go_wp2
 go_loopg [5,6] k (fun g vv rv wr=>∃i:Nat,i+g=k/\rv=.string ⟨(pl B i).toArray⟩/\Own wr N vv (Fj B b i)/\Below N w wr)
 case atStart=>exact⟨0,Nat.zero_add _,by rw[H0.o],Own.nil _ _,ca.o⟩
 case round=>
  obtain⟨i,hi,rfl,ho,D⟩:=hrel;have HO:=I ho;clear ho;have HB:=I D;clear D;have HI:=I hi;clear hi;have O:=I (show N<=wr.heap.size by have:=HB.o.size;have:=EN.o;omega)
  by_cases hlt:i<k
  ·have t1:(pl B i==x)=false:=by simpa using HN.o i hlt
   have c3:=fun w1=>C2.o i w1
   rw[cb.o i (by omega)] at c3;have C3:=I c3;clear c3
   by_cases D:pl B i=b
   ·have t2:(pl B i==b)=true:=by simpa using D
    have E:=I (show Fj B b (i+1)=Fj B b i by rw[Fj,if_pos D,List.append_nil]);clear D;have c3:=C3.o wr
    go_wp2_with (go_at_call 194;refine Aj c3 ?_;rintro w3 D;clear c3;have H3:=I (HB.o.trans (D.mono O.o));have J:=I (HO.o.below D);clear D)
    go_roundg (k - (i+1))
    case measure=>have:=HI.o;omega
    case rel=>exact⟨i+1,by have:=HI.o;omega,rfl,by rw[E.o];exact J.o,H3.o⟩
   ·have t2:(pl B i==b)=false:=by simpa using D
    have E:=I (show Fj B b (i+1)=Fj B b i++[pl B i] by rw[Fj,if_neg D]);clear D
    go_wp2_with (first
     |(at_builtin;refine Gp rfl (.tmp 16) (.tmp 18) rfl N _ _ rfl HO.o (pl B i) rfl (by have:=Js B b i;omega) O.o ?_;intro v' w3 F aw;have H3:=I (HB.o.trans aw);rw[<-E.o] at F;have J:=I F;clear F aw;have M:N<=w3.heap.size:=(by have:=H3.o.size;have:=EN.o;omega);have bx:=I M;clear M;have c3:=C3.o w3)
     |(go_at_call 194;refine Aj c3 ?_;rintro w4 D;clear c3;have H4:=I (H3.o.trans (D.mono bx.o));have bz:=I (J.o.below D);clear D))
    go_roundg (k - (i+1))
    case measure=>have:=HI.o;omega
    case rel=>exact⟨i+1,by have:=HI.o;omega,rfl,bz.o,H4.o⟩
  ·obtain rfl:i=k:=by have:=HI.o;omega
   have t1:(pl B i==x)=true:=by simpa using HX.o
   have c4:=Jr _ _ wr N HO.o O.o (by have:=Js B b i;omega)
   go_wp2_with (go_at_call 157;refine Aj c4 ?_;rintro w3 ⟨F,D⟩;clear c4;have H3:=I (HB.o.trans D);have J:=I F;clear D F)
   go_ret;exact⟨_,rfl,J.o,H3.o⟩
theorem Qs (a b:L) (w:World) (hs:a.length<=1000000000) (J:b.length<=1000000000) (h:AG a=0\/AG b=0) :
  Calls Tryz.prog 156 #[.string ⟨a.toArray⟩,.string ⟨b.toArray⟩] w fun e w'=>∃v,e=.returned v/\Own w' w.heap.size v (Bb a b)/\Below w.heap.size w w':=by
 have c1:=DM a w hs;have Z:=I (fun w1=>DM b w1 J);have E:=I (show Bb a b = [] by rw[Bb,if_pos h]);have aw:=I (show Below w.heap.size w w by exact Below.refl _ _)
 by_cases F:isL a=true
 ·have M:isL b=false:=by
   simp only[isL,decide_eq_true_eq] at F;simp only[isL,decide_eq_false_iff_not];omega
  rw[F] at c1;have O:=I M;clear F M h hs J;go_enter Tryz.func156,Tryz.ntmps156
  go_wp2_with (first
   |(go_at_call 75;refine Aj c1 ?_;rintro w1 D;clear c1;have H1:=I D.below;clear D;have c2:=Z.o w1;rw[O.o] at c2)
   |(go_at_call 75;refine Aj c2 ?_;rintro w2 D;clear c2;have N:=I (H1.o.trans (D.below.mono H1.o.size));clear D))
  go_ret;exact⟨_,rfl,by rw[E.o];exact Own.nil _ _,N.o⟩
 ·have F:isL a=false:=by simpa using F
  rw[F] at c1;clear F h hs J;go_enter Tryz.func156,Tryz.ntmps156
  go_wp2_with (go_at_call 75;refine Aj c1 ?_;rintro w1 D;clear c1;have H1:=I D.below;clear D)
  go_ret;exact⟨_,rfl,by rw[E.o];exact Own.nil _ _,H1.o⟩
theorem NG (a b:L) (w:World) (hs:a.length<=1000000000) (cj:b.length<=1000000000) (ha:AG a≠0) (D:AG b≠0) :
  Calls Tryz.prog 156 #[.string ⟨a.toArray⟩,.string ⟨b.toArray⟩] w fun e w'=>∃v,e=.returned v/\Own w' w.heap.size v (Bb a b)/\Below w.heap.size w w':=by
 have c1:=DM a w hs;have c2:=fun w1=>DM b w1 cj
 rw[show isL a=true by simp [isL];omega] at c1;rw[show isL b=true by simp [isL];omega] at c2;have C2:=I c2;clear c2;have na:=Ch ha;have nb:=Ch D;have e1:=KZ ha D;have la:=Mh a;have lb:=Mh b;have cw:=Mi (ch a) (ch b);have c3:=fun(i:Nat) w1=>Ph (pl (ch a) i) w1 (Nat.le_trans (Mm i) hs)
 have c4:=fun(i:Nat) w1=>Ml b (pl (ch a) i) w1 cj
 have cr:∀i,i<(ch a).length->upL (pl (ch a) i)=pl (ch a) (i+1):=fun i h=>Vs _ h
 have cq:∀i,i<(ch a).length->pl (ch a) i≠[]:=fun i h=>RK _ h
 have bB:∀i,i<ix (ch a) (ch b)->pl (ch a) i≠b/\BX b (pl (ch a) i)=false:=by
  intro i hi;have h1:=GG hi;rw[Kr nb,not_or] at h1;exact⟨h1.1,by simpa using h1.2⟩
 have cm:ix (ch a) (ch b)<(ch a).length->pl (ch a) (ix (ch a) (ch b))≠b->BX b (pl (ch a) (ix (ch a) (ch b)))=true:=by
  intro g q;have h1:=Vu g;rw[Kr nb] at h1;exact h1.resolve_left q
 have c5:=fun w1=>VD (pl (ch a) (ix (ch a) (ch b))) b (ix (ch b) (ch a)) w1 cj (Mi _ _) (by
  rcases Nat.lt_or_ge (ix (ch a) (ch b)) (ch a).length with g | g
  ·exact(Ny g).2
  ·have e:ix (ch a) (ch b)=(ch a).length:=by omega
   rw[Nz e,Jo (by omega),Jo (by omega)]) (fun i hi q=>by
  rcases Nat.lt_or_ge (ix (ch a) (ch b)) (ch a).length with g | g
  ·exact GG hi (by rw[q];exact Dc g)
  ·rw[Jo g] at q
   exact RK b (Nat.lt_of_lt_of_le hi (Mi _ _)) q)
 have h0:pl (ch a) 0=a:=DE na;have cB:=Js (ch b) b (ix (ch b) (ch a));have cy:=Mi (ch b) (ch a);obtain⟨W2,eW⟩:=Ak ((Fj (ch b) b (ix (ch b) (ch a))).reverse);rw[<-eW] at e1 c5;have cP:W2.length<=4:=by rw[eW,List.length_reverse];omega
 clear eW cB cy lb;obtain⟨M,eM⟩:=Ak (ix (ch a) (ch b));rw[<-eM] at e1 cw bB cm c5;clear eM;obtain⟨A,eA⟩:=Ak (ch a);rw[<-eA] at e1 cw bB cm c5 h0 cq cr c3 c4 la;clear eA ha D hs cj na nb;obtain⟨N,eN⟩:=Ak (w.heap.size);rw[<-eN];have cQ:=I (show Below N w w by exact Below.refl _ _);have EN:=I eN;clear eN;have E1:=I e1;clear e1;have C3:=I c3;clear c3;have C4:=I c4;clear c4;have C5:=I c5;clear c5;have cL:=I cr;clear cr;have cu:=I cq;clear cq;have cn:=I bB;clear bB;have cx:=I cm;clear cm;have H0:=I h0;clear h0;have F:=I (show ∀w1:World,Below N w w1->N<=w1.heap.size from fun w1 h=>by have:=h.size;have:=EN.o;omega);go_enter Tryz.func156,Tryz.ntmps156
 go_wp2_with (first
  |(go_at_call 75;refine Aj c1 ?_;rintro w1 hd;clear c1;have H1:=I (hd.below.mono (Nat.le_of_eq EN.o));clear hd;have c2:=C2.o w1)
  |(go_at_call 75;refine Aj c2 ?_;rintro w2 hd;clear c2;have H2:=I (H1.o.trans (hd.below.mono (F.o _ H1.o)));clear hd))
 go_loopg [5,6] M (fun g vv rv wr=>∃i:Nat,i+g=M/\rv=.string ⟨(pl A i).toArray⟩/\Own wr N vv (upW A b i)/\Below N w wr)
 case atStart=>exact⟨0,Nat.zero_add _,by rw[H0.o],Own.nil _ _,H2.o⟩
 case round=>
  obtain⟨i,hi,rfl,ho,D⟩:=hrel;have HO:=I ho;clear ho;have HB:=I D;clear D;have HI:=I hi;clear hi;have ca:=I (F.o _ HB.o)
  by_cases hlt:i<M
  ·have t1:(pl A i == [])=false:=by simpa using cu.o i (by omega)
   have t2:(pl A i==b)=false:=by simpa using (cn.o i hlt).1
   have c4:=C4.o i wr;rw[(cn.o i hlt).2] at c4;have c3:=fun w1=>C3.o i w1
   rw[cL.o i (by omega)] at c3;have cg:=I c3;clear c3
   by_cases hx:pl A (i+1) = []\/pl A (i+1)=b
   ·have E:=I (show upW A b (i+1)=upW A b i by rw[upW,if_pos hx,List.append_nil])
    by_cases hy:pl A (i+1) = []
    ·have HY:=I hy
     rw[hy] at cg;clear hx hy
     go_wp2_with (first
      |(go_at_call 193;refine Aj c4 ?_;rintro w3 D;clear c4;have H3:=I (HB.o.trans (D.mono ca.o));have bz:=I (HO.o.below D);clear D;have c3:=cg.o w3)
      |(go_at_call 194;refine Aj c3 ?_;rintro w4 D;clear c3;have H4:=I (H3.o.trans (D.mono (F.o _ H3.o)));have cf:=I (bz.o.below D);clear D))
     go_roundg (M - (i+1))
     case measure=>have:=HI.o;omega
     case rel=>exact⟨i+1,by have:=HI.o;omega,by rw[HY.o],by rw[E.o];exact cf.o,H4.o⟩
    ·have t3:(pl A (i+1) == [])=false:=by simpa using hy
     have t4:(pl A (i+1)==b)=true:=by simpa using hx.resolve_left hy
     clear hx hy
     go_wp2_with (first
      |(go_at_call 193;refine Aj c4 ?_;rintro w3 D;clear c4;have H3:=I (HB.o.trans (D.mono ca.o));have bz:=I (HO.o.below D);clear D;have c3:=cg.o w3)
      |(go_at_call 194;refine Aj c3 ?_;rintro w4 D;clear c3;have H4:=I (H3.o.trans (D.mono (F.o _ H3.o)));have cf:=I (bz.o.below D);clear D))
     go_roundg (M - (i+1))
     case measure=>have:=HI.o;omega
     case rel=>exact⟨i+1,by have:=HI.o;omega,rfl,by rw[E.o];exact cf.o,H4.o⟩
   ·have E:=I (show upW A b (i+1)=upW A b i++[pl A (i+1)] by rw[upW,if_neg hx])
    rw[not_or] at hx;have t3:(pl A (i+1) == [])=false:=by simpa using hx.1
    have t4:(pl A (i+1)==b)=false:=by simpa using hx.2
    clear hx
    go_wp2_with (first
     |(go_at_call 193;refine Aj c4 ?_;rintro w3 D;clear c4;have H3:=I (HB.o.trans (D.mono ca.o));have bz:=I (HO.o.below D);clear D;have c3:=cg.o w3)
     |(go_at_call 194;refine Aj c3 ?_;rintro w4 D;clear c3;have H4:=I (H3.o.trans (D.mono (F.o _ H3.o)));have cf:=I (bz.o.below D);clear D)
     |(at_builtin;refine Gp rfl (.tmp 38) (.tmp 40) rfl N _ _ rfl cf.o (pl A (i+1)) rfl (by have:=Lg A b i;omega) (F.o _ H4.o) ?_;intro v' w5 cp ct;have H5:=I (H4.o.trans ct);rw[<-E.o] at cp;have cA:=I cp;clear cp ct))
    go_roundg (M - (i+1))
    case measure=>have:=HI.o;omega
    case rel=>exact⟨i+1,by have:=HI.o;omega,rfl,cA.o,H5.o⟩
  ·obtain rfl:i=M:=by have:=HI.o;omega
   have c5:=C5.o;have ck:=I c5;clear c5
   by_cases hl:i<A.length
   ·have t1:(pl A i == [])=false:=by simpa using cu.o i hl
    by_cases hx:pl A i=b
    ·have t2:(pl A i==b)=true:=by simpa using hx
     have c5:=ck.o wr;clear hx
     go_wp2_with (first
      |(go_at_call 195;refine Calls.mono c5 ?_;rintro e w6 ⟨v6,rfl,Z,O⟩;clear c5;obtain⟨A6,c6,rfl,aw⟩:=Z.slice;have H6:=I (HB.o.trans (O.mono ca.o));have cc:=I (HO.o.below O);have cb:=I aw;clear O Z aw)
      |(at_builtin;refine Pk rfl (.tmp 42) (.tmp 45) rfl N _ _ rfl cc.o _ _ _ W2 rfl cb.o (by have:=Lg A b i;omega) (F.o _ H6.o) ?_;intro v' w7 J bx;rw[E1.o] at J;have H7:=I (H6.o.trans bx);have cd:=I J;clear J bx))
     go_ret;exact⟨_,rfl,cd.o,H7.o⟩
    ·have t2:(pl A i==b)=false:=by simpa using hx
     have c4:=C4.o i wr;rw[cx.o hl hx] at c4;clear hx
     go_wp2_with (first
      |(go_at_call 193;refine Aj c4 ?_;rintro w3 D;clear c4;have H3:=I (HB.o.trans (D.mono ca.o));have bz:=I (HO.o.below D);clear D;have c5:=ck.o w3)
      |(go_at_call 195;refine Calls.mono c5 ?_;rintro e w6 ⟨v6,rfl,Z,O⟩;clear c5;obtain⟨A6,c6,rfl,aw⟩:=Z.slice;have H6:=I (H3.o.trans (O.mono (F.o _ H3.o)));have cc:=I (bz.o.below O);have cb:=I aw;clear O Z aw)
      |(at_builtin;refine Pk rfl (.tmp 42) (.tmp 45) rfl N _ _ rfl cc.o _ _ _ W2 rfl cb.o (by have:=Lg A b i;omega) (F.o _ H6.o) ?_;intro v' w7 J bx;rw[E1.o] at J;have H7:=I (H6.o.trans bx);have cd:=I J;clear J bx))
     go_ret;exact⟨_,rfl,cd.o,H7.o⟩
   ·have hz:pl A i = []:=Jo (by omega)
    rw[hz] at ck⊢;have c5:=ck.o wr;clear hz
    go_wp2_with (first
     |(go_at_call 195;refine Calls.mono c5 ?_;rintro e w6 ⟨v6,rfl,Z,O⟩;clear c5;obtain⟨A6,c6,rfl,aw⟩:=Z.slice;have H6:=I (HB.o.trans (O.mono ca.o));have cc:=I (HO.o.below O);have cb:=I aw;clear O Z aw)
     |(at_builtin;refine Pk rfl (.tmp 42) (.tmp 45) rfl N _ _ rfl cc.o _ _ _ W2 rfl cb.o (by have:=Lg A b i;omega) (F.o _ H6.o) ?_;intro v' w7 J bx;rw[E1.o] at J;have H7:=I (H6.o.trans bx);have cd:=I J;clear J bx))
    go_ret;exact⟨_,rfl,cd.o,H7.o⟩
theorem Gq (a b:L) (w:World) (hs:a.length<=1000000000) (D:b.length<=1000000000) :
  Calls Tryz.prog 156 #[.string ⟨a.toArray⟩,.string ⟨b.toArray⟩] w fun e w'=>∃v,e=.returned v/\Own w' w.heap.size v (Bb a b)/\Below w.heap.size w w':=by
 by_cases h:AG a=0\/AG b=0
 ·exact Qs a b w hs D h
 ·rw[not_or] at h
  exact NG a b w hs D h.1 h.2
theorem RX (l:List UInt8) (f k:Nat):(ByteArray.mk l.toArray).extract f k=ByteArray.mk ((l.drop f).take (k - f)).toArray:=by
 rw[ByteArray.extract_mk]
attribute [local go_sem] Ea List.getElem_cons_zero List.getElem_cons_succ RX
def piece (l:L) (f k:Nat):L:=(l.drop f).take (k - f)
theorem Mn {l:L} {f k:Nat} (E:f<=k) (hk:k<l.length):l.drop f=piece l f k++l[k] :: l.drop (k+1):=by
 have D:l.drop f=(l.drop f).take (k - f)++(l.drop f).drop (k - f):=(List.take_append_drop _ _).symm;rw[List.drop_drop,show f+(k - f)=k by omega,List.drop_eq_getElem_cons hk] at D;exact D
theorem Qt {l:L} {f k:Nat} (D:f<=k) (hk:k<l.length):piece l f (k+1)=piece l f k++[l[k]]:=by
 have h:=Mn D hk;have E:(piece l f k).length=k - f:=by rw[piece,List.length_take,List.length_drop];omega
 rw[piece,h,show k+1 - f=(piece l f k).length+1 by omega,List.take_append,List.take_of_length_le (by omega),Nat.add_sub_cancel_left]
 rfl
theorem Mo {l:L} {f:Nat}:piece l f l.length=l.drop f:=by rw[piece,List.take_of_length_le (by simp)]
theorem VE (c:UInt8) (l:L):(split c l).length<=l.length+1:=by
 induction l with
 |nil=>simp [split]
 |cons x r ih=>
  rw[split];split
  ·simp;omega
  ·split<;>simp_all<;>omega
theorem GK (l:L) (c:UInt8) (w:World) (hs:l.length<=1000000000):Calls Tryz.prog 74 #[.string ⟨l.toArray⟩,.int .u8 (c.toNat:Int)] w fun e w'=>∃v,e=.returned v/\Own w' w.heap.size v (split c l)/\Below w.heap.size w w':=by
 obtain⟨N,eN⟩:=Ak (w.heap.size);rw[<-eN];have bB:=I (show Below N w w by exact Below.refl _ _);have EN:=I eN;clear eN;have F:=I (show ∀w1:World,Below N w w1->N<=w1.heap.size from fun w1 h=>by have:=h.size;have:=EN.o;omega);go_enter Tryz.func74,Tryz.ntmps74
 go_wp2
 go_loopw [5,6,7] (fun vv fv iv wr=>∃(f k:Nat) (ls:List L),f<=k/\k<=l.length/\fv=.int .i64 (f:Int)/\iv=.int .i64 (k:Int)/\Own wr N vv ls/\c∉piece l f k/\ls++split c (l.drop f)=split c l/\ls.length<=f/\Below N w wr) (fun _ _ iv _=>l.length - (intOf iv).toNat)
 case atStart=>exact⟨0,0,[],Nat.le_refl _,Nat.zero_le _,rfl,rfl,Own.nil _ _,by simp [piece],by simp,by simp,bB.o⟩
 case round=>
  obtain⟨f,k,ls,hf,hk,rfl,rfl,ho,hc,aw,bz,hb⟩:=hrel;have HO:=I ho;clear ho;have HB:=I hb;clear hb;have HC:=I hc;clear hc;have M:=I aw;clear aw
  by_cases hlt:k<l.length
  ·have e1:(k:Int)<(l.length:Int):=by omega
   have Z:=Mn hf hlt;have J:=Qt hf hlt
   by_cases hx:l[k]=c
   ·have t1:((l[k].toNat:Int)==(c.toNat:Int))=true:=by simp [hx]
    have hn:(ls++[piece l f k])++split c (l.drop (k+1))=split c l:=by
     rw[<-M.o,Z,hx,Kq HC.o];simp
    have HN:=I hn;clear hn Z J hx;have e2:(f:Int)<=(k:Int):=by omega
    go_wp2_with (at_builtin;refine Gp rfl (.tmp 19) (.tmp 24) rfl N _ ls rfl HO.o (piece l f k) rfl (by omega) (F.o _ HB.o) ?_;intro v' w3 E D;have H3:=I (HB.o.trans D);have O:=I E;clear E D)
    go_roundw
    case rel=>exact⟨k+1,k+1,_,Nat.le_refl _,by omega,by go_num,by go_num,O.o,by simp [piece],HN.o,by simp;omega,H3.o⟩
    case measure=>simp [intOf];omega
   ·have t1:((l[k].toNat:Int)==(c.toNat:Int))=false:=by
     simp only[beq_eq_false_iff_ne,ne_eq];intro q;exact hx (UInt8.toNat_inj.1 (by omega))
    have bx:=I (show c∉piece l f (k+1) by
     rw[J,List.mem_append,not_or];exact⟨HC.o,by simpa using fun q:c=l[k]=>hx q.symm⟩)
    clear Z J hx
    go_wp2
    go_roundw
    case rel=>exact⟨f,k+1,ls,by omega,by omega,rfl,by go_num,HO.o,bx.o,M.o,bz,HB.o⟩
    case measure=>simp [intOf];omega
  ·obtain rfl:k=l.length:=by omega
   have e1:¬(l.length:Int)<(l.length:Int):=by omega
   have e2:(f:Int)<=(l.length:Int):=by omega
   have hc:=HC.o;rw[Mo] at hc;have hn:ls++[piece l f l.length]=split c l:=by rw[<-M.o,FL hc,Mo]
   have HN:=I hn;clear hn hc
   go_wp2_with (at_builtin;refine Gp rfl (.tmp 28) (.tmp 32) rfl N _ ls rfl HO.o (piece l f l.length) rfl (by omega) (F.o _ HB.o) ?_;intro v' w3 E D;have H3:=I (HB.o.trans D);have O:=I E;clear E D)
   go_ret;exact⟨_,rfl,by rw[<-HN.o];exact O.o,H3.o⟩
end Nm
namespace Nm
open Go.RowKit Af
attribute [local go_sem] Ea List.getElem_cons_zero List.getElem_cons_succ RX
theorem IW {ls:List L} {i:Nat} (hi:i<ls.length) (h:Ck capB (pl ls i)=false):Cg ls=false:=by
 cases e:Cg ls with
 |false=>rfl
 |true=>
  have:=((Co ls).1 e).2.2;rw[List.all_eq_true] at this;have:=this _ (Dc hi);rw[h] at this;cases this
theorem VF {ls:List L} (h:∀i,i<ls.length->Ck capB (pl ls i)=true) (F:1<=ls.length):Cg ls=decide (ls.length<=4):=by
 have E:ls.all (Ck capB)=true:=by
  rw[List.all_eq_true];intro x D;obtain⟨i,hi,rfl⟩:=mem_pl D;exact h i hi
 rw[Cg,E,decide_eq_true F];simp
theorem NH (ls:List L) (b o c:Nat) (w:World) (h1:1<=ls.length) (hl:ls.length<=8000000000000) (hs:∀i,i<ls.length->(pl ls i).length<=1000000000)
  (J:∀i,i<ls.length->w.cell? ⟨b,o+i,none⟩=some (.string ⟨(pl ls i).toArray⟩)) :
  Calls Tryz.prog 73 #[.slice (some ⟨b,o,none⟩) ls.length c] w fun e w'=>e=.returned (.bool (Cg ls))/\w=w':=by
 obtain⟨n,en⟩:=Ak (ls.length);rw[<-en] at h1 hl hs J⊢;have HS:=I hs;clear hs;have HC:=I J;clear J;have D:=I en;clear en;go_enter Tryz.func73,Tryz.ntmps73
 go_wp2
 go_loop [3] (fun iv=>∃i:Nat,i<=n/\iv=.int .i64 (i:Int)/\∀j,j<i->Ck capB (pl ls j)=true) (fun iv=>n - (intOf iv).toNat)
 case atStart=>exact⟨0,Nat.zero_le _,rfl,fun j h=>absurd h (Nat.not_lt_zero j)⟩
 case round=>
  obtain⟨i,hi,rfl,hw⟩:=hrel;have HW:=I hw;clear hw
  by_cases hlt:i<n
  ·have e1:(i:Int)<(n:Int):=by omega
   have J:=HC.o i hlt;have Z:=HS.o i hlt;obtain⟨l,el⟩:=Ak (pl ls i);rw[<-el] at J Z;have F:=I el;clear el
   by_cases g1:l.length<1
   ·have t1:decide ((l.length:Int)<1)=true:=by simp;omega
    have E:=I (IW (by rw[<-D.o];exact hlt) (by rw[<-F.o];exact Hr g1));clear g1
    go_wp2
    go_ret;exact⟨by rw[E.o];rfl,rfl⟩
   ·have t1:decide ((l.length:Int)<1)=false:=by simp;omega
    by_cases g2:8<l.length
    ·have M:decide (8<(l.length:Int))=true:=by simp;omega
     have E:=I (IW (by rw[<-D.o];exact hlt) (by rw[<-F.o];exact Jp g2));clear g1 g2
     go_wp2
     go_ret;exact⟨by rw[E.o];rfl,rfl⟩
    ·have M:decide (8<(l.length:Int))=false:=by simp;omega
     have HA:=I (fun h=>La (p:=capB) (l:=l) h (by omega) (by omega));clear g1 g2
     go_wp2
     go_loop [4] (fun kv=>∃k:Nat,k<=l.length/\kv=.int .i64 (k:Int)/\Fit capB l k) (fun kv=>l.length - (intOf kv).toNat)
     case atStart=>exact⟨0,Nat.zero_le _,rfl,fun i _ h=>by omega⟩
     case round=>
      obtain⟨k,hk,rfl,hf⟩:=hrel;have HF:=I hf;clear hf
      by_cases hkl:k<l.length
      ·have e2:(k:Int)<(l.length:Int):=by omega
       have hb:=Fg l[k]
       by_cases q1:l[k].toNat<65
       ·have s1:decide ((l[k].toNat:Int)<65)=true:=by simp;omega
        have E:=I (IW (ls:=ls) (i:=i) (by rw[<-D.o];exact hlt) (by rw[<-F.o];exact GH hkl (by simp [capB];omega)));clear q1
        go_wp2
        go_ret;exact⟨by rw[E.o];rfl,rfl⟩
       ·have s1:decide ((l[k].toNat:Int)<65)=false:=by simp;omega
        by_cases q2:90<l[k].toNat
        ·have s2:decide (90<(l[k].toNat:Int))=true:=by simp;omega
         have E:=I (IW (ls:=ls) (i:=i) (by rw[<-D.o];exact hlt) (by rw[<-F.o];exact GH hkl (by simp [capB];omega)));clear q1 q2
         go_wp2
         go_ret;exact⟨by rw[E.o];rfl,rfl⟩
        ·have s2:decide (90<(l[k].toNat:Int))=false:=by simp;omega
         have HP:=I (show capB l[k]=true by simp [capB];omega);clear q1 q2
         go_wp2
         go_round
         case rel=>exact⟨k+1,by omega,by go_num,fun i hi aw=>by
          by_cases q:i=k
          ·subst q;exact HP.o
          ·exact HF.o i hi (by omega)⟩
         case measure=>simp [intOf];omega
      ·have e2:¬(k:Int)<(l.length:Int):=by omega
       have E:=I (HA.o (fun i hi=>HF.o i hi (by omega)))
       go_wp2
       go_round
       case rel=>exact⟨i+1,by omega,by go_num,fun j hj=>by
        by_cases q:j=i
        ·rw[q,<-F.o];exact E.o
        ·exact HW.o j (by omega)⟩
       case measure=>simp [intOf];omega
  ·obtain rfl:i=n:=by omega
   have e1:¬(i:Int)<(i:Int):=by omega
   have N:=VF (ls:=ls) (fun j hj=>HW.o j (by rw[D.o];exact hj)) (by rw[<-D.o];exact h1);rw[<-D.o] at N;have E:=I N;clear N;have t1:decide ((1:Int)<=(i:Int))=true:=by simp;omega
   by_cases g:i<=4
   ·have M:decide ((i:Int)<=4)=true:=by simp;omega
    have O:=I (decide_eq_true g);clear g
    go_wp2
    go_ret;exact⟨by rw[E.o,O.o];rfl,rfl⟩
   ·have M:decide ((i:Int)<=4)=false:=by simp;omega
    have O:=I (decide_eq_false g);clear g
    go_wp2
    go_ret;exact⟨by rw[E.o,O.o];rfl,rfl⟩
theorem Qu (ls:List L) (A:Option Addr) (c B:Nat) (w:World) (D:1<=ls.length) (F:ls.length<=8000000000000) (hs:∀i,i<ls.length->(pl ls i).length<=1000000000) (E:Rd w B A (strs ls)) :
  Calls Tryz.prog 73 #[.slice A ls.length c] w fun e w'=>e=.returned (.bool (Cg ls))/\w=w':=by
 obtain⟨b,o,rfl,_,_⟩:=CQ E (i:=0) D;refine NH ls b o c w D F hs fun i hi=>?_
 obtain⟨N,M,e,_,J⟩:=CQ E hi;injection e with e;injection e with e1 e2;subst e1;subst e2;exact J
end Nm
namespace Nm
open Go.RowKit Af
attribute [local go_sem] Ea List.getElem_cons_zero List.getElem_cons_succ BZ Ca CJ
theorem RY (c:UInt8) (l:L):∀x,x∈split c l->x.length<=l.length:=by
 induction l with
 |nil=>intro x D;simp [split] at D;simp [D]
 |cons a r ih=>
  intro x D;rw[split] at D
  split at D
  ·rcases List.mem_cons.1 D with rfl | h
   ·simp
   ·have:=ih x h;simp;omega
  ·cases hs:split c r with
   |nil=>rw[hs] at D;simp at D;subst D;simp
   |cons u t=>
    rw[hs] at D ih;rcases List.mem_cons.1 D with rfl | h
    ·have:=ih u List.mem_cons_self;simp;omega
    ·have:=ih x (List.mem_cons_of_mem _ h);simp;omega
theorem Pl (l:L) (c:UInt8) (w':World) (base:Nat) (v:Value) (hs:l.length<=1000000000) (F:Own w' base v (split c l)) :
  ∃A n cap,v=.slice A n cap/\∀w1,Below w'.heap.size w' w1->Calls Tryz.prog 73 #[.slice A n cap] w1 fun e D=>e=.returned (.bool (Cg (split c l)))/\w1=D:=by
 obtain⟨A,cap,rfl,J⟩:=F.slice;refine⟨A,_,cap,rfl,fun w1 E=>?_⟩;exact Qu (split c l) A cap w'.heap.size w1 (CE c l) (by have:=VE c l;omega) (fun i hi=>by have:=RY c l _ (Dc hi);omega) (J.below E)
theorem RZ (l:L) (w:World) (hs:l.length<=1000000000):Calls Tryz.prog 35 #[.string ⟨l.toArray⟩] w fun e w'=>e=.returned (.int .i64 (AG l:Int))/\Below w.heap.size w w':=by
 have C2:=I (fun w1=>GK l 46 w1 hs);have S2:=I (fun w' base v D=>Pl l 46 w' base v hs D);have bx:=I (Below.refl w.heap.size w);cases l with
 |nil=>
  have E:=I KW;have c2:=C2.o w;have EL:=I (show Cg (split 46 [])=false by decide);clear hs;go_enter Tryz.func35,Tryz.ntmps35
  go_wp2_with (first
   |(go_at_call 74;refine Calls.mono c2 ?_;rintro e w1 ⟨v,rfl,D,J⟩;clear c2;obtain⟨A,n,cap,rfl,F⟩:=S2.o w1 _ v D;have c3:=F w1 Ah;rw[EL.o] at c3;have H1:=I J;clear J D F)
   |(go_at_call 73;refine Aj c3 ?_;rintro Z rfl;clear c3))
  go_ret;exact⟨by rw[E.o];rfl,H1.o⟩
 |cons x r=>
  have e0:(0:Int)<(r.length:Int)+1:=by omega
  have N:r.length<=1000000000:=by simp at hs;omega
  have O:AG (x :: r)=if slL (x :: r) then 2 else if Cg (split 46 (x :: r)) then 1 else 0:=rfl
  by_cases hx:x=47
  ·subst hx
   have M:slL (47 :: r)=Cg (split 47 r):=by simp [slL]
   rw[M] at O;have c1:=GK r 47 w N;have S1:=I (fun w' base v D=>Pl r 47 w' base v N D);cases h1:Cg (split 47 r) with
   |true=>
    have E:=I (show AG (47 :: r)=2 by rw[O,h1];rfl);have H:=I h1;clear O M h1 hs N;go_enter Tryz.func35,Tryz.ntmps35
    go_wp2_with (first
     |(go_at_call 74;refine Calls.mono c1 ?_;rintro e w1 ⟨v,rfl,D,J⟩;clear c1;obtain⟨A,n,cap,rfl,F⟩:=S1.o w1 _ v D;have c3:=F w1 Ah;rw[H.o] at c3;have H1:=I J;clear J D F)
     |(go_at_call 73;refine Aj c3 ?_;rintro Z rfl;clear c3))
    go_ret;exact⟨by rw[E.o];rfl,H1.o⟩
   |false=>
    rw[h1,if_neg (by simp)] at O;have H:=I h1;have hd:Cg (split 46 (47 :: r))=false:=by
     cases q:Cg (split 46 (47 :: r)) with
     |false=>rfl
     |true=>exact absurd rfl (Pc q)
    have HD:=I hd;have E:=I (show AG (47 :: r)=0 by rw[O,hd];rfl);clear O M h1 hd hs N;go_enter Tryz.func35,Tryz.ntmps35
    go_wp2_with (first
     |(go_at_call 74;refine Calls.mono c1 ?_;rintro e w1 ⟨v,rfl,D,J⟩;clear c1;obtain⟨A,n,cap,rfl,F⟩:=S1.o w1 _ v D;have c3:=F w1 Ah;rw[H.o] at c3;have H1:=I J;clear J D F;have c2:=C2.o w1)
     |(go_at_call 73;refine Aj c3 ?_;rintro Z rfl;clear c3)
     |(go_at_call 74;refine Calls.mono c2 ?_;rintro e w4 ⟨v4,rfl,D,J⟩;clear c2;obtain⟨A4,n4,aw,rfl,F⟩:=S2.o w4 _ v4 D;have c5:=F w4 Ah;rw[HD.o] at c5;have H4:=H1.t J;clear J D F)
     |(go_at_call 73;refine Aj c5 ?_;rintro w6 rfl;clear c5))
    go_ret;exact⟨by rw[E.o];rfl,H4.o⟩
  ·have t1:((x.toNat:Int)==47)=false:=by
    simp only[beq_eq_false_iff_ne,ne_eq];intro q;exact hx (UInt8.toNat_inj.1 (by have:(47:UInt8).toNat=47:=rfl;omega))
   have M:slL (x :: r)=false:=by simp [slL,hx]
   rw[M,if_neg (by simp)] at O;have c2:=C2.o w;cases h1:Cg (split 46 (x :: r)) with
   |true=>
    have E:=I (show AG (x :: r)=1 by rw[O,h1];rfl);have H:=I h1;clear O M h1 hs N hx;go_enter Tryz.func35,Tryz.ntmps35
    go_wp2_with (first
     |(go_at_call 74;refine Calls.mono c2 ?_;rintro e w1 ⟨v,rfl,D,J⟩;clear c2;obtain⟨A,n,cap,rfl,F⟩:=S2.o w1 _ v D;have c3:=F w1 Ah;rw[H.o] at c3;have H1:=I J;clear J D F)
     |(go_at_call 73;refine Aj c3 ?_;rintro Z rfl;clear c3))
    go_ret;exact⟨by rw[E.o];rfl,H1.o⟩
   |false=>
    have E:=I (show AG (x :: r)=0 by rw[O,h1];rfl);have H:=I h1;clear O M h1 hs N hx;go_enter Tryz.func35,Tryz.ntmps35
    go_wp2_with (first
     |(go_at_call 74;refine Calls.mono c2 ?_;rintro e w1 ⟨v,rfl,D,J⟩;clear c2;obtain⟨A,n,cap,rfl,F⟩:=S2.o w1 _ v D;have c3:=F w1 Ah;rw[H.o] at c3;have H1:=I J;clear J D F)
     |(go_at_call 73;refine Aj c3 ?_;rintro Z rfl;clear c3))
    go_ret;exact⟨by rw[E.o];rfl,H1.o⟩
theorem NI (l:L) (w:World) (hs:l.length<=1000000000):Calls Tryz.prog 13 #[.string ⟨l.toArray⟩] w fun e w'=>e=.returned (.bool (isL l))/\Below w.heap.size w w':=by
 have c1:=RZ l w hs
 by_cases h:1<=AG l
 ·have E:=I (show isL l=true by simp [isL,h])
  have t:decide (0<AG l)=true:=by simp;omega
  clear h;go_enter Tryz.func13,Tryz.ntmps13
  go_wp2_with (go_at_call 35;refine Aj c1 ?_;rintro w1 D;clear c1;have H1:=I D;clear D)
  go_ret;exact⟨by rw[E.o];rfl,H1.o⟩
 ·have E:=I (show isL l=false by simp [isL];omega)
  have F:AG l=0:=by omega
  rw[F] at c1;clear h F;go_enter Tryz.func13,Tryz.ntmps13
  go_wp2_with (go_at_call 35;refine Aj c1 ?_;rintro w1 D;clear c1;have H1:=I D;clear D)
  go_ret;exact⟨by rw[E.o];rfl,H1.o⟩
end Nm
namespace Nm
open Go.RowKit Af
attribute [local go_sem] Ea List.getElem_cons_zero List.getElem_cons_succ BZ Ca CJ
theorem VG {n:L} (h:n.length<8):tgL n=false:=by
 cases q:preL krb n with
 |false=>rw[tgL,q];rfl
 |true=>
  have D:n.drop 7 = []:=List.drop_of_length_le (by omega);have E:cpL krb n = []:=by rw[cpL,q,if_pos rfl];exact D
  rw[tgL,E,show isL []=false from by decide,Bool.and_false]
theorem tg_eq (n:L):tgL n=((n.take 7==krb)&&isL (n.drop 7)):=by
 have e:=Pf krb n;rw[show krb.length=7 from rfl] at e;rw[tgL,e];cases q:preL krb n with
 |false=>rfl
 |true=>rw[cpL,q];rfl
theorem NJ (n:L) (w:World) (hs:n.length<=1000000000):Calls Tryz.prog 14 #[.string ⟨n.toArray⟩] w fun e w'=>e=.returned (.tuple #[.string ⟨(tgR n).toArray⟩,.bool (tgL n)])/\Below w.heap.size w w':=by
 have c2:=NI (n.drop 7) w (by simp;omega);have F:=I (Below.refl w.heap.size w)
 by_cases h8:n.length<8
 ·have D:=I (VG h8)
  have E:=I (show tgR n = [] by rw[tgR,D.o];rfl);have Z:decide ((n.length:Int)<8)=true:=by simp;omega
  clear h8 hs;go_enter Tryz.func14,Tryz.ntmps14
  go_wp2_with fail
  go_ret2
  exact⟨by rw[D.o,E.o];rfl,F.o⟩
 ·have Z:decide ((n.length:Int)<8)=false:=by simp;omega
  have e7:(7:Int)<=(n.length:Int):=by omega
  have eq:=tg_eq n;clear h8;cases h1:(n.take 7==krb) with
  |false=>
   rw[h1] at eq;have O:(n.take 7 == [107,114,98,116,103,116,47])=false:=h1;have D:=I (show tgL n=false from eq);have E:=I (show tgR n = [] by rw[tgR,D.o];rfl);clear eq h1 hs;go_enter Tryz.func14,Tryz.ntmps14
   go_wp2_with fail
   go_ret2
   exact⟨by rw[D.o,E.o];rfl,F.o⟩
  |true=>
   rw[h1,Bool.true_and] at eq;have O:(n.take 7 == [107,114,98,116,103,116,47])=true:=h1;clear h1 hs;cases h2:isL (n.drop 7) with
   |false=>
    rw[h2] at c2 eq;have D:=I eq;have E:=I (show tgR n = [] by rw[tgR,D.o];rfl);clear eq h2;go_enter Tryz.func14,Tryz.ntmps14
    go_wp2_with (go_at_call 13;refine Aj c2 ?_;rintro N J;clear c2;have M:=I J;clear J)
    go_ret2
    exact⟨by rw[D.o,E.o];rfl,M.o⟩
   |true=>
    rw[h2] at c2 eq;have D:=I eq;have E:=I (show tgR n=n.drop 7 by rw[tgR,D.o];rfl);clear eq h2;go_enter Tryz.func14,Tryz.ntmps14
    go_wp2_with (go_at_call 13;refine Aj c2 ?_;rintro N J;clear c2;have M:=I J;clear J)
    go_ret2
    exact⟨by rw[D.o,E.o];rfl,M.o⟩
theorem VH {p:UInt8->Bool} {l:L} (h:∀i (h:i<l.length),p l[i]=true):Ck p l=(decide (1<=l.length)&&decide (l.length<=8)):=by
 have E:l.all p=true:=by
  rw[List.all_eq_true];intro x D;obtain⟨i,hi,rfl⟩:=List.getElem_of_mem D;exact h i hi
 rw[Ck,E,Bool.and_true]
theorem Ip (r n:L) (w:World) (hs:r.length<=1000000000) (cj:n.length<=1000000000):Calls Tryz.prog 4 #[.agg #[.string ⟨r.toArray⟩,.string ⟨n.toArray⟩]] w fun e w'=>e=.returned (.bool (Ds r n))/\Below w.heap.size w w':=by
 have c1:=NI r (w.alloc (.cells #[.string ⟨r.toArray⟩,.string ⟨n.toArray⟩] 23)) hs;have hk:=Blk.new w 23 #[.string ⟨r.toArray⟩,.string ⟨n.toArray⟩];have cb:=(Below.refl w.heap.size w).alloc Ag (.cells #[.string ⟨r.toArray⟩,.string ⟨n.toArray⟩] 23);have cc:w.heap.size<(w.alloc (.cells #[.string ⟨r.toArray⟩,.string ⟨n.toArray⟩] 23)).heap.size:=by simp
 obtain⟨N,eN⟩:=Ak (w.heap.size);have C2:=I (fun w1=>NJ n w1 cj);have E1:=I (show Ds r n=(isL r&&(tgL n||Ck Cn n)) from rfl);rw[<-eN] at hk cb cc⊢;have EN:=I eN;clear eN;have HK:=I hk;clear hk;have cf:=I cb;clear cb;have bz:=I cc;clear cc hs;cases h1:isL r with
 |false=>
  rw[h1] at c1;have E:=I (show Ds r n=false by rw[E1.o,h1];rfl);clear h1;go_enter Tryz.func4,Tryz.ntmps4
  go_wp2_with (go_at_call 13;refine Aj c1 ?_;rintro w1 J;clear c1;have H1:=I (cf.o.trans (J.mono (Nat.le_of_lt bz.o)));clear J)
  go_ret;exact⟨by rw[E.o];rfl,H1.o⟩
 |true=>
  rw[h1] at c1;cases h2:tgL n with
  |true=>
   have E:=I (show Ds r n=true by rw[E1.o,h1,h2];rfl);have HT:=I h2;clear h1 h2;go_enter Tryz.func4,Tryz.ntmps4
   go_wp2_with (first
    |(go_at_call 13;refine Aj c1 ?_;rintro w1 J;clear c1;have H1:=I (cf.o.trans (J.mono (Nat.le_of_lt bz.o)));have D:=HK.o.below J;have ca:=I D;have bx:=D.cell 1;have Z:N<w1.heap.size:=(by have:=J.size;have:=bz.o;omega);have cg:=I Z;rw[EN.o] at bx;clear J Z D;have c2:=C2.o w1;rw[HT.o] at c2)
    |(go_at_call 14;refine Aj c2 ?_;rintro w2 hb;clear c2 bx;have H2:=I (H1.o.trans (hb.mono (Nat.le_of_lt cg.o)));have cd:=(ca.o.below hb).cell 1;rw[EN.o] at cd;clear hb))
   go_ret;exact⟨by rw[E.o];rfl,H2.o⟩
  |false=>
   have E:=I (show Ds r n=Ck Cn n by rw[E1.o,h1,h2];rfl);have HT:=I h2;clear h1 h2;go_enter Tryz.func4,Tryz.ntmps4
   go_wp2_with (first
    |(go_at_call 13;refine Aj c1 ?_;rintro w1 J;clear c1;have H1:=I (cf.o.trans (J.mono (Nat.le_of_lt bz.o)));have D:=HK.o.below J;have ca:=I D;have bx:=D.cell 1;have Z:N<w1.heap.size:=(by have:=J.size;have:=bz.o;omega);have cg:=I Z;rw[EN.o] at bx;clear J Z D;have c2:=C2.o w1;rw[HT.o] at c2)
    |(go_at_call 14;refine Aj c2 ?_;rintro w2 hb;clear c2 bx;have H2:=I (H1.o.trans (hb.mono (Nat.le_of_lt cg.o)));have cd:=(ca.o.below hb).cell 1;rw[EN.o] at cd;clear hb))
   go_loop [5] (fun iv=>∃k:Nat,k<=n.length/\iv=.int .i64 (k:Int)/\Fit Cn n k) (fun iv=>n.length - (intOf iv).toNat)
   case atStart=>exact⟨0,Nat.zero_le _,rfl,fun i _ h=>by omega⟩
   case round=>
    obtain⟨k,hk,rfl,hf⟩:=hrel;have HF:=I hf;clear hf
    by_cases hlt:k<n.length
    ·have e1:(k:Int)<(n.length:Int):=by omega
     have hb:=Fg n[k];have bB:Cn n[k]=false->Hid (Ds r n=false):=fun h=>I (by rw[E.o];exact GH hlt h)
     have O:=I bB;clear bB;have M:Cn n[k]=true->Hid (Fit Cn n (k+1)):=fun h=>I (fun i hi ck=>by
      by_cases q:i=k
      ·subst q;exact h
      ·exact HF.o i hi (by omega))
     have aw:=I M;clear M
     by_cases q1:n[k].toNat<97
     ·have s1:decide ((n[k].toNat:Int)<97)=true:=by simp;omega
      by_cases q2:n[k].toNat<48
      ·have s2:decide ((n[k].toNat:Int)<48)=true:=by simp;omega
       have F:=O.o (by simp [Cn,DD];omega);clear q1 q2
       go_wp2
       go_ret;exact⟨by rw[F.o];rfl,H2.o⟩
      ·have s2:decide ((n[k].toNat:Int)<48)=false:=by simp;omega
       by_cases q3:57<n[k].toNat
       ·have s3:decide (57<(n[k].toNat:Int))=true:=by simp;omega
        have F:=O.o (by simp [Cn,DD];omega);clear q1 q2 q3
        go_wp2
        go_ret;exact⟨by rw[F.o];rfl,H2.o⟩
       ·have s3:decide (57<(n[k].toNat:Int))=false:=by simp;omega
        have F:=aw.o (by simp [Cn,DD];omega);clear q1 q2 q3
        go_wp2
        go_round
        case rel=>exact⟨k+1,by omega,by go_num,F.o⟩
        case measure=>simp [intOf];omega
     ·have s1:decide ((n[k].toNat:Int)<97)=false:=by simp;omega
      by_cases q2:122<n[k].toNat
      ·have s2:decide (122<(n[k].toNat:Int))=true:=by simp;omega
       have s3:decide ((n[k].toNat:Int)<48)=false:=by simp;omega
       have s4:decide (57<(n[k].toNat:Int))=true:=by simp;omega
       have F:=O.o (by simp [Cn,DD];omega);clear q1 q2
       go_wp2
       go_ret;exact⟨by rw[F.o];rfl,H2.o⟩
      ·have s2:decide (122<(n[k].toNat:Int))=false:=by simp;omega
       have F:=aw.o (by simp [Cn,DD];omega);clear q1 q2
       go_wp2
       go_round
       case rel=>exact⟨k+1,by omega,by go_num,F.o⟩
       case measure=>simp [intOf];omega
    ·obtain rfl:k=n.length:=by omega
     have e1:¬(n.length:Int)<(n.length:Int):=by omega
     have F:=I (E.o.trans (VH (fun i hi=>HF.o i hi hi)))
     by_cases g1:1<=n.length
     ·have t1:decide ((1:Int)<=(n.length:Int))=true:=by simp;omega
      by_cases g2:n.length<=8
      ·have t2:decide ((n.length:Int)<=8)=true:=by simp;omega
       have E3:=I (F.o.trans (show(decide (1<=n.length)&&decide (n.length<=8))=true by simp;omega));clear g1 g2
       go_wp2
       go_ret;exact⟨by rw[E3.o];rfl,H2.o⟩
      ·have t2:decide ((n.length:Int)<=8)=false:=by simp;omega
       have E3:=I (F.o.trans (show(decide (1<=n.length)&&decide (n.length<=8))=false by simp;omega));clear g1 g2
       go_wp2
       go_ret;exact⟨by rw[E3.o];rfl,H2.o⟩
     ·have t1:decide ((1:Int)<=(n.length:Int))=false:=by simp;omega
      have E3:=I (F.o.trans (show(decide (1<=n.length)&&decide (n.length<=8))=false by simp;omega));clear g1
      go_wp2
      go_ret;exact⟨by rw[E3.o];rfl,H2.o⟩
end Nm
namespace Nm
open Go.RowKit Af
theorem YW (w:World) (base:Nat) (r:L) (D:base<=w.heap.size):Own (w.alloc (.cells #[.string ⟨r.toArray⟩] 9)) base (.slice (some ⟨w.heap.size,0,none⟩) 1 1) [r]:=
 World.ownsRow_lit w _ 1 D (by decide) rfl
end Nm
end Go.Proofs.YthgignaohimadaaGreat
