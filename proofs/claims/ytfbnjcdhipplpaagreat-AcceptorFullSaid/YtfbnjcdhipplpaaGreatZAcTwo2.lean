import Derived.Test.YtfbnjcdhipplpaaGreatZAcTwo1
set_option maxHeartbeats 25600000
set_option maxRecDepth 100000
set_option linter.unusedVariables false
set_option linter.unusedSimpArgs false
namespace Go.Proofs.YtfbnjcdhipplpaaGreat
namespace Nm
open Go.RowKit Af
theorem LY {b:L} (i:Nat):(pl (ch b) i).length<=b.length:=by
 rcases Nat.lt_or_ge i (ch b).length with g | g
 ·exact Rq (DJ g)
 ·rw[Ky g];simp
theorem Jc (B:List L) (b:L) (k:Nat):(Fx B b k).length<=k:=by
 induction k with
 |zero=>simp [Fx]
 |succ k ih=>rw[Fx,List.length_append];split<;>simp<;>omega
theorem KJ (B:List L) (b:L) (k:Nat):(upW B b k).length<=k:=by
 induction k with
 |zero=>simp [upW]
 |succ k ih=>rw[upW,List.length_append];split<;>simp<;>omega
theorem Vu (x b:L) (k:Nat) (w:World) (hs:b.length<=1000000000) (hk:k<=(ch b).length) (hx:pl (ch b) k=x) (hn:∀i,i<k->pl (ch b) i≠x) :
  Calls Tryz.prog 240 #[.string ⟨x.toArray⟩,.string ⟨b.toArray⟩] w fun e w'=>∃v,e=.returned v/\Own w' w.heap.size v (Fx (ch b) b k).reverse/\Below w.heap.size w w':=by
 have c2:=fun(i:Nat) w1=>OV (pl (ch b) i) w1 (Nat.le_trans (LY i) hs)
 have bx:=LN b;have aw:∀i,i<(ch b).length->upL (pl (ch b) i)=pl (ch b) (i+1):=fun i h=>Vi _ h
 have h0:pl (ch b) 0=b:=by
  by_cases e:b = []
  ·subst e;rw[DX];rfl
  ·exact Ev e
 obtain⟨B,eB⟩:=Ak (ch b);rw[<-eB] at c2 bx aw h0 hk hx hn⊢;clear eB;obtain⟨N,eN⟩:=Ak (w.heap.size);rw[<-eN];have HX:=I hx;clear hx;have H0:=I h0;clear h0;have HN:=I hn;clear hn;have C2:=I c2;clear c2;have ca:=I aw;clear aw;have bz:=I (show Below N w w by exact Below.refl _ _);have EN:=I eN;clear eN;clear hs;go_enter Tryz.func240,Tryz.ntmps240
 go_wp2
 go_loopg [5,6] k (fun g vv rv wr=>∃i:Nat,i+g=k/\rv=.string ⟨(pl B i).toArray⟩/\Own wr N vv (Fx B b i)/\Below N w wr)
 case atStart=>exact⟨0,Nat.zero_add _,by rw[H0.o],Own.nil _ _,bz.o⟩
 case round=>
  obtain⟨i,hi,rfl,ho,M⟩:=hrel;have HO:=I ho;clear ho;have HB:=I M;clear M;have HI:=I hi;clear hi;have bb:=I (show N<=wr.heap.size by have:=HB.o.size;have:=EN.o;omega)
  by_cases hlt:i<k
  ·have t1:(pl B i==x)=false:=by simpa using HN.o i hlt
   have c3:=fun w1=>C2.o i w1
   rw[ca.o i (by omega)] at c3;have C3:=I c3;clear c3
   by_cases M:pl B i=b
   ·have t2:(pl B i==b)=true:=by simpa using M
    have E:=I (show Fx B b (i+1)=Fx B b i by rw[Fx,if_pos M,List.append_nil]);clear M;have c3:=C3.o wr
    go_wp2_with (go_at_call 239;refine Aj c3 ?_;rintro w3 M;clear c3;have H3:=I (HB.o.trans (M.mono bb.o));have Z:=I (HO.o.below M);clear M)
    go_roundg (k - (i+1))
    case measure=>have:=HI.o;omega
    case rel=>exact⟨i+1,by have:=HI.o;omega,rfl,by rw[E.o];exact Z.o,H3.o⟩
   ·have t2:(pl B i==b)=false:=by simpa using M
    have E:=I (show Fx B b (i+1)=Fx B b i++[pl B i] by rw[Fx,if_neg M]);clear M
    go_wp2_with (first
     |(at_builtin;refine Hp rfl (.tmp 16) (.tmp 18) rfl N _ _ rfl HO.o (pl B i) rfl (by have:=Jc B b i;omega) bb.o ?_;intro v' w3 O bq;have H3:=I (HB.o.trans bq);rw[<-E.o] at O;have Z:=I O;clear O bq;have av:N<=w3.heap.size:=(by have:=H3.o.size;have:=EN.o;omega);have bn:=I av;clear av;have c3:=C3.o w3)
     |(go_at_call 239;refine Aj c3 ?_;rintro w4 M;clear c3;have H4:=I (H3.o.trans (M.mono bn.o));have bB:=I (Z.o.below M);clear M))
    go_roundg (k - (i+1))
    case measure=>have:=HI.o;omega
    case rel=>exact⟨i+1,by have:=HI.o;omega,rfl,bB.o,H4.o⟩
  ·obtain rfl:i=k:=by have:=HI.o;omega
   have t1:(pl B i==x)=true:=by simpa using HX.o
   have c4:=No _ _ wr N HO.o bb.o (by have:=Jc B b i;omega)
   go_wp2_with (go_at_call 276;refine Aj c4 ?_;rintro w3 ⟨O,M⟩;clear c4;have H3:=I (HB.o.trans M);have Z:=I O;clear M O)
   go_ret;exact⟨_,rfl,Z.o,H3.o⟩
theorem PW (a b:L) (w:World) (hs:a.length<=1000000000) (O:b.length<=1000000000) (h:AR a=0\/AR b=0) :
  Calls Tryz.prog 193 #[.string ⟨a.toArray⟩,.string ⟨b.toArray⟩] w fun e w'=>∃v,e=.returned v/\Own w' w.heap.size v (Bq a b)/\Below w.heap.size w w':=by
 have c1:=Fo a w hs;have C2:=I (fun w1=>Fo b w1 O);have E:=I (show Bq a b = [] by rw[Bq,if_pos h]);have av:=I (show Below w.heap.size w w by exact Below.refl _ _)
 by_cases Z:isL a=true
 ·have hb:isL b=false:=by
   simp only[isL,decide_eq_true_eq] at Z;simp only[isL,decide_eq_false_iff_not];omega
  rw[Z] at c1;have HB:=I hb;clear Z hb h hs O;go_enter Tryz.func193,Tryz.ntmps193
  go_wp2_with (first
   |(go_at_call 110;refine Aj c1 ?_;rintro w1 M;clear c1;have H1:=I M.below;clear M;have c2:=C2.o w1;rw[HB.o] at c2)
   |(go_at_call 110;refine Aj c2 ?_;rintro w2 M;clear c2;have H2:=I (H1.o.trans (M.below.mono H1.o.size));clear M))
  go_ret;exact⟨_,rfl,by rw[E.o];exact Own.nil _ _,H2.o⟩
 ·have Z:isL a=false:=by simpa using Z
  rw[Z] at c1;clear Z h hs O;go_enter Tryz.func193,Tryz.ntmps193
  go_wp2_with (go_at_call 110;refine Aj c1 ?_;rintro w1 M;clear c1;have H1:=I M.below;clear M)
  go_ret;exact⟨_,rfl,by rw[E.o];exact Own.nil _ _,H1.o⟩
theorem Np (a b:L) (w:World) (hs:a.length<=1000000000) (cj:b.length<=1000000000) (ha:AR a≠0) (O:AR b≠0) :
  Calls Tryz.prog 193 #[.string ⟨a.toArray⟩,.string ⟨b.toArray⟩] w fun e w'=>∃v,e=.returned v/\Own w' w.heap.size v (Bq a b)/\Below w.heap.size w w':=by
 have c1:=Fo a w hs;have c2:=fun w1=>Fo b w1 cj
 rw[show isL a=true by simp [isL];omega] at c1;rw[show isL b=true by simp [isL];omega] at c2;have C2:=I c2;clear c2;have na:=Dg ha;have nb:=Dg O;have e1:=KC ha O;have la:=LN a;have lb:=LN b;have ct:=LP (ch a) (ch b);have c3:=fun(i:Nat) w1=>OV (pl (ch a) i) w1 (Nat.le_trans (LY i) hs)
 have c4:=fun(i:Nat) w1=>RA b (pl (ch a) i) w1 cj
 have cq:∀i,i<(ch a).length->upL (pl (ch a) i)=pl (ch a) (i+1):=fun i h=>Vi _ h
 have cp:∀i,i<(ch a).length->pl (ch a) i≠[]:=fun i h=>Rm _ h
 have bz:∀i,i<ix (ch a) (ch b)->pl (ch a) i≠b/\Gy b (pl (ch a) i)=false:=by
  intro i hi;have h1:=Gz hi;rw[Kb nb,not_or] at h1;exact⟨h1.1,by simpa using h1.2⟩
 have ck:ix (ch a) (ch b)<(ch a).length->pl (ch a) (ix (ch a) (ch b))≠b->Gy b (pl (ch a) (ix (ch a) (ch b)))=true:=by
  intro g q;have h1:=Vk g;rw[Kb nb] at h1;exact h1.resolve_left q
 have c5:=fun w1=>Vu (pl (ch a) (ix (ch a) (ch b))) b (ix (ch b) (ch a)) w1 cj (LP _ _) (by
  rcases Nat.lt_or_ge (ix (ch a) (ch b)) (ch a).length with g | g
  ·exact(Ng g).2
  ·have e:ix (ch a) (ch b)=(ch a).length:=by omega
   rw[Nh e,Ky (by omega),Ky (by omega)]) (fun i hi q=>by
  rcases Nat.lt_or_ge (ix (ch a) (ch b)) (ch a).length with g | g
  ·exact Gz hi (by rw[q];exact DJ g)
  ·rw[Ky g] at q
   exact Rm b (Nat.lt_of_lt_of_le hi (LP _ _)) q)
 have h0:pl (ch a) 0=a:=Ev na;have cw:=Jc (ch b) b (ix (ch b) (ch a));have cy:=LP (ch b) (ch a);obtain⟨W2,eW⟩:=Ak ((Fx (ch b) b (ix (ch b) (ch a))).reverse);rw[<-eW] at e1 c5;have cL:W2.length<=4:=by rw[eW,List.length_reverse];omega
 clear eW cw cy lb;obtain⟨M,eM⟩:=Ak (ix (ch a) (ch b));rw[<-eM] at e1 ct bz ck c5;clear eM;obtain⟨A,eA⟩:=Ak (ch a);rw[<-eA] at e1 ct bz ck c5 h0 cp cq c3 c4 la;clear eA ha O hs cj na nb;obtain⟨N,eN⟩:=Ak (w.heap.size);rw[<-eN];have cM:=I (show Below N w w by exact Below.refl _ _);have EN:=I eN;clear eN;have E1:=I e1;clear e1;have C3:=I c3;clear c3;have C4:=I c4;clear c4;have C5:=I c5;clear c5;have cB:=I cq;clear cq;have cu:=I cp;clear cp;have cm:=I bz;clear bz;have cA:=I ck;clear ck;have H0:=I h0;clear h0;have Z:=I (show ∀w1:World,Below N w w1->N<=w1.heap.size from fun w1 h=>by have:=h.size;have:=EN.o;omega);go_enter Tryz.func193,Tryz.ntmps193
 go_wp2_with (first
  |(go_at_call 110;refine Aj c1 ?_;rintro w1 hd;clear c1;have H1:=I (hd.below.mono (Nat.le_of_eq EN.o));clear hd;have c2:=C2.o w1)
  |(go_at_call 110;refine Aj c2 ?_;rintro w2 hd;clear c2;have H2:=I (H1.o.trans (hd.below.mono (Z.o _ H1.o)));clear hd))
 go_loopg [5,6] M (fun g vv rv wr=>∃i:Nat,i+g=M/\rv=.string ⟨(pl A i).toArray⟩/\Own wr N vv (upW A b i)/\Below N w wr)
 case atStart=>exact⟨0,Nat.zero_add _,by rw[H0.o],Own.nil _ _,H2.o⟩
 case round=>
  obtain⟨i,hi,rfl,ho,O⟩:=hrel;have HO:=I ho;clear ho;have HB:=I O;clear O;have HI:=I hi;clear hi;have bB:=I (Z.o _ HB.o)
  by_cases hlt:i<M
  ·have t1:(pl A i == [])=false:=by simpa using cu.o i (by omega)
   have t2:(pl A i==b)=false:=by simpa using (cm.o i hlt).1
   have c4:=C4.o i wr;rw[(cm.o i hlt).2] at c4;have c3:=fun w1=>C3.o i w1
   rw[cB.o i (by omega)] at c3;have cg:=I c3;clear c3
   by_cases hx:pl A (i+1) = []\/pl A (i+1)=b
   ·have E:=I (show upW A b (i+1)=upW A b i by rw[upW,if_pos hx,List.append_nil])
    by_cases hy:pl A (i+1) = []
    ·have HY:=I hy
     rw[hy] at cg;clear hx hy
     go_wp2_with (first
      |(go_at_call 238;refine Aj c4 ?_;rintro w3 O;clear c4;have H3:=I (HB.o.trans (O.mono bB.o));have bx:=I (HO.o.below O);clear O;have c3:=cg.o w3)
      |(go_at_call 239;refine Aj c3 ?_;rintro w4 O;clear c3;have H4:=I (H3.o.trans (O.mono (Z.o _ H3.o)));have cc:=I (bx.o.below O);clear O))
     go_roundg (M - (i+1))
     case measure=>have:=HI.o;omega
     case rel=>exact⟨i+1,by have:=HI.o;omega,by rw[HY.o],by rw[E.o];exact cc.o,H4.o⟩
    ·have t3:(pl A (i+1) == [])=false:=by simpa using hy
     have t4:(pl A (i+1)==b)=true:=by simpa using hx.resolve_left hy
     clear hx hy
     go_wp2_with (first
      |(go_at_call 238;refine Aj c4 ?_;rintro w3 O;clear c4;have H3:=I (HB.o.trans (O.mono bB.o));have bx:=I (HO.o.below O);clear O;have c3:=cg.o w3)
      |(go_at_call 239;refine Aj c3 ?_;rintro w4 O;clear c3;have H4:=I (H3.o.trans (O.mono (Z.o _ H3.o)));have cc:=I (bx.o.below O);clear O))
     go_roundg (M - (i+1))
     case measure=>have:=HI.o;omega
     case rel=>exact⟨i+1,by have:=HI.o;omega,rfl,by rw[E.o];exact cc.o,H4.o⟩
   ·have E:=I (show upW A b (i+1)=upW A b i++[pl A (i+1)] by rw[upW,if_neg hx])
    rw[not_or] at hx;have t3:(pl A (i+1) == [])=false:=by simpa using hx.1
    have t4:(pl A (i+1)==b)=false:=by simpa using hx.2
    clear hx
    go_wp2_with (first
     |(go_at_call 238;refine Aj c4 ?_;rintro w3 O;clear c4;have H3:=I (HB.o.trans (O.mono bB.o));have bx:=I (HO.o.below O);clear O;have c3:=cg.o w3)
     |(go_at_call 239;refine Aj c3 ?_;rintro w4 O;clear c3;have H4:=I (H3.o.trans (O.mono (Z.o _ H3.o)));have cc:=I (bx.o.below O);clear O)
     |(at_builtin;refine Hp rfl (.tmp 38) (.tmp 40) rfl N _ _ rfl cc.o (pl A (i+1)) rfl (by have:=KJ A b i;omega) (Z.o _ H4.o) ?_;intro v' w5 cn cr;have H5:=I (H4.o.trans cr);rw[<-E.o] at cn;have cx:=I cn;clear cn cr))
    go_roundg (M - (i+1))
    case measure=>have:=HI.o;omega
    case rel=>exact⟨i+1,by have:=HI.o;omega,rfl,cx.o,H5.o⟩
  ·obtain rfl:i=M:=by have:=HI.o;omega
   have c5:=C5.o;have cf:=I c5;clear c5
   by_cases hl:i<A.length
   ·have t1:(pl A i == [])=false:=by simpa using cu.o i hl
    by_cases hx:pl A i=b
    ·have t2:(pl A i==b)=true:=by simpa using hx
     have c5:=cf.o wr;clear hx
     go_wp2_with (first
      |(go_at_call 240;refine Calls.mono c5 ?_;rintro e w6 ⟨v6,rfl,bq,aw⟩;clear c5;obtain⟨A6,c6,rfl,bn⟩:=bq.slice;have H6:=I (HB.o.trans (aw.mono bB.o));have ca:=I (HO.o.below aw);have cb:=I bn;clear aw bq bn)
      |(at_builtin;refine OW rfl (.tmp 42) (.tmp 45) rfl N _ _ rfl ca.o _ _ _ W2 rfl cb.o (by have:=KJ A b i;omega) (Z.o _ H6.o) ?_;intro v' w7 av bb;rw[E1.o] at av;have H7:=I (H6.o.trans bb);have cd:=I av;clear av bb))
     go_ret;exact⟨_,rfl,cd.o,H7.o⟩
    ·have t2:(pl A i==b)=false:=by simpa using hx
     have c4:=C4.o i wr;rw[cA.o hl hx] at c4;clear hx
     go_wp2_with (first
      |(go_at_call 238;refine Aj c4 ?_;rintro w3 O;clear c4;have H3:=I (HB.o.trans (O.mono bB.o));have bx:=I (HO.o.below O);clear O;have c5:=cf.o w3)
      |(go_at_call 240;refine Calls.mono c5 ?_;rintro e w6 ⟨v6,rfl,bq,aw⟩;clear c5;obtain⟨A6,c6,rfl,bn⟩:=bq.slice;have H6:=I (H3.o.trans (aw.mono (Z.o _ H3.o)));have ca:=I (bx.o.below aw);have cb:=I bn;clear aw bq bn)
      |(at_builtin;refine OW rfl (.tmp 42) (.tmp 45) rfl N _ _ rfl ca.o _ _ _ W2 rfl cb.o (by have:=KJ A b i;omega) (Z.o _ H6.o) ?_;intro v' w7 av bb;rw[E1.o] at av;have H7:=I (H6.o.trans bb);have cd:=I av;clear av bb))
     go_ret;exact⟨_,rfl,cd.o,H7.o⟩
   ·have hz:pl A i = []:=Ky (by omega)
    rw[hz] at cf⊢;have c5:=cf.o wr;clear hz
    go_wp2_with (first
     |(go_at_call 240;refine Calls.mono c5 ?_;rintro e w6 ⟨v6,rfl,bq,aw⟩;clear c5;obtain⟨A6,c6,rfl,bn⟩:=bq.slice;have H6:=I (HB.o.trans (aw.mono bB.o));have ca:=I (HO.o.below aw);have cb:=I bn;clear aw bq bn)
     |(at_builtin;refine OW rfl (.tmp 42) (.tmp 45) rfl N _ _ rfl ca.o _ _ _ W2 rfl cb.o (by have:=KJ A b i;omega) (Z.o _ H6.o) ?_;intro v' w7 av bb;rw[E1.o] at av;have H7:=I (H6.o.trans bb);have cd:=I av;clear av bb))
    go_ret;exact⟨_,rfl,cd.o,H7.o⟩
theorem Gm (a b:L) (w:World) (hs:a.length<=1000000000) (M:b.length<=1000000000) :
  Calls Tryz.prog 193 #[.string ⟨a.toArray⟩,.string ⟨b.toArray⟩] w fun e w'=>∃v,e=.returned v/\Own w' w.heap.size v (Bq a b)/\Below w.heap.size w w':=by
 by_cases h:AR a=0\/AR b=0
 ·exact PW a b w hs M h
 ·rw[not_or] at h
  exact Np a b w hs M h.1 h.2
theorem RE (l:List UInt8) (f k:Nat):(ByteArray.mk l.toArray).extract f k=ByteArray.mk ((l.drop f).take (k - f)).toArray:=by
 rw[ByteArray.extract_mk]
attribute [local go_sem] Ep List.getElem_cons_zero List.getElem_cons_succ RE
def piece (l:L) (f k:Nat):L:=(l.drop f).take (k - f)
theorem LZ {l:L} {f k:Nat} (O:f<=k) (hk:k<l.length):l.drop f=piece l f k++l[k] :: l.drop (k+1):=by
 have M:l.drop f=(l.drop f).take (k - f)++(l.drop f).drop (k - f):=(List.take_append_drop _ _).symm;rw[List.drop_drop,show f+(k - f)=k by omega,List.drop_eq_getElem_cons hk] at M;exact M
theorem PX {l:L} {f k:Nat} (M:f<=k) (hk:k<l.length):piece l f (k+1)=piece l f k++[l[k]]:=by
 have h:=LZ M hk;have O:(piece l f k).length=k - f:=by rw[piece,List.length_take,List.length_drop];omega
 rw[piece,h,show k+1 - f=(piece l f k).length+1 by omega,List.take_append,List.take_of_length_le (by omega),Nat.add_sub_cancel_left]
 rfl
theorem Ma {l:L} {f:Nat}:piece l f l.length=l.drop f:=by rw[piece,List.take_of_length_le (by simp)]
theorem Vv (c:UInt8) (l:L):(split c l).length<=l.length+1:=by
 induction l with
 |nil=>simp [split]
 |cons x r ih=>
  rw[split];split
  ·simp;omega
  ·split<;>simp_all<;>omega
theorem GF (l:L) (c:UInt8) (w:World) (hs:l.length<=1000000000):Calls Tryz.prog 47 #[.string ⟨l.toArray⟩,.int .u8 (c.toNat:Int)] w fun e w'=>∃v,e=.returned v/\Own w' w.heap.size v (split c l)/\Below w.heap.size w w':=by
 obtain⟨N,eN⟩:=Ak (w.heap.size);rw[<-eN];have bB:=I (show Below N w w by exact Below.refl _ _);have EN:=I eN;clear eN;have Z:=I (show ∀w1:World,Below N w w1->N<=w1.heap.size from fun w1 h=>by have:=h.size;have:=EN.o;omega);go_enter Tryz.func47,Tryz.ntmps47
 go_wp2
 go_loopw [5,6,7] (fun vv fv iv wr=>∃(f k:Nat) (ls:List L),f<=k/\k<=l.length/\fv=.int .i64 (f:Int)/\iv=.int .i64 (k:Int)/\Own wr N vv ls/\c∉piece l f k/\ls++split c (l.drop f)=split c l/\ls.length<=f/\Below N w wr) (fun _ _ iv _=>l.length - (intOf iv).toNat)
 case atStart=>exact⟨0,0,[],Nat.le_refl _,Nat.zero_le _,rfl,rfl,Own.nil _ _,by simp [piece],by simp,by simp,bB.o⟩
 case round=>
  obtain⟨f,k,ls,hf,hk,rfl,rfl,ho,hc,bq,bx,hb⟩:=hrel;have HO:=I ho;clear ho;have HB:=I hb;clear hb;have HC:=I hc;clear hc;have bb:=I bq;clear bq
  by_cases hlt:k<l.length
  ·have e1:(k:Int)<(l.length:Int):=by omega
   have aw:=LZ hf hlt;have av:=PX hf hlt
   by_cases hx:l[k]=c
   ·have t1:((l[k].toNat:Int)==(c.toNat:Int))=true:=by simp [hx]
    have hn:(ls++[piece l f k])++split c (l.drop (k+1))=split c l:=by
     rw[<-bb.o,aw,hx,Ka HC.o];simp
    have HN:=I hn;clear hn aw av hx;have e2:(f:Int)<=(k:Int):=by omega
    go_wp2_with (at_builtin;refine Hp rfl (.tmp 19) (.tmp 24) rfl N _ ls rfl HO.o (piece l f k) rfl (by omega) (Z.o _ HB.o) ?_;intro v' w3 M O;have H3:=I (HB.o.trans O);have bn:=I M;clear M O)
    go_roundw
    case rel=>exact⟨k+1,k+1,_,Nat.le_refl _,by omega,by go_num,by go_num,bn.o,by simp [piece],HN.o,by simp;omega,H3.o⟩
    case measure=>simp [intOf];omega
   ·have t1:((l[k].toNat:Int)==(c.toNat:Int))=false:=by
     simp only[beq_eq_false_iff_ne,ne_eq];intro q;exact hx (UInt8.toNat_inj.1 (by omega))
    have bz:=I (show c∉piece l f (k+1) by
     rw[av,List.mem_append,not_or];exact⟨HC.o,by simpa using fun q:c=l[k]=>hx q.symm⟩)
    clear aw av hx
    go_wp2
    go_roundw
    case rel=>exact⟨f,k+1,ls,by omega,by omega,rfl,by go_num,HO.o,bz.o,bb.o,bx,HB.o⟩
    case measure=>simp [intOf];omega
  ·obtain rfl:k=l.length:=by omega
   have e1:¬(l.length:Int)<(l.length:Int):=by omega
   have e2:(f:Int)<=(l.length:Int):=by omega
   have hc:=HC.o;rw[Ma] at hc;have hn:ls++[piece l f l.length]=split c l:=by rw[<-bb.o,FN hc,Ma]
   have HN:=I hn;clear hn hc
   go_wp2_with (at_builtin;refine Hp rfl (.tmp 28) (.tmp 32) rfl N _ ls rfl HO.o (piece l f l.length) rfl (by omega) (Z.o _ HB.o) ?_;intro v' w3 M O;have H3:=I (HB.o.trans O);have bn:=I M;clear M O)
   go_ret;exact⟨_,rfl,by rw[<-HN.o];exact bn.o,H3.o⟩
end Nm
namespace Nm
open Go.RowKit Af
attribute [local go_sem] Ep List.getElem_cons_zero List.getElem_cons_succ RE
theorem Iz {ls:List L} {i:Nat} (hi:i<ls.length) (h:Cm capB (pl ls i)=false):Cn ls=false:=by
 cases e:Cn ls with
 |false=>rfl
 |true=>
  have:=((CK ls).1 e).2.2;rw[List.all_eq_true] at this;have:=this _ (DJ hi);rw[h] at this;cases this
theorem Vw {ls:List L} (h:∀i,i<ls.length->Cm capB (pl ls i)=true) (O:1<=ls.length):Cn ls=decide (ls.length<=4):=by
 have Z:ls.all (Cm capB)=true:=by
  rw[List.all_eq_true];intro x M;obtain⟨i,hi,rfl⟩:=mem_pl M;exact h i hi
 rw[Cn,Z,decide_eq_true O];simp
theorem Nq (ls:List L) (b o c:Nat) (w:World) (h1:1<=ls.length) (hl:ls.length<=8000000000000) (hs:∀i,i<ls.length->(pl ls i).length<=1000000000)
  (Z:∀i,i<ls.length->w.cell? ⟨b,o+i,none⟩=some (.string ⟨(pl ls i).toArray⟩)) :
  Calls Tryz.prog 147 #[.slice (some ⟨b,o,none⟩) ls.length c] w fun e w'=>e=.returned (.bool (Cn ls))/\w=w':=by
 obtain⟨n,en⟩:=Ak (ls.length);rw[<-en] at h1 hl hs Z⊢;have HS:=I hs;clear hs;have HC:=I Z;clear Z;have M:=I en;clear en;go_enter Tryz.func147,Tryz.ntmps147
 go_wp2
 go_loop [3] (fun iv=>∃i:Nat,i<=n/\iv=.int .i64 (i:Int)/\∀j,j<i->Cm capB (pl ls j)=true) (fun iv=>n - (intOf iv).toNat)
 case atStart=>exact⟨0,Nat.zero_le _,rfl,fun j h=>absurd h (Nat.not_lt_zero j)⟩
 case round=>
  obtain⟨i,hi,rfl,hw⟩:=hrel;have HW:=I hw;clear hw
  by_cases hlt:i<n
  ·have e1:(i:Int)<(n:Int):=by omega
   have Z:=HC.o i hlt;have av:=HS.o i hlt;obtain⟨l,el⟩:=Ak (pl ls i);rw[<-el] at Z av;have O:=I el;clear el
   by_cases g1:l.length<1
   ·have t1:decide ((l.length:Int)<1)=true:=by simp;omega
    have E:=I (Iz (by rw[<-M.o];exact hlt) (by rw[<-O.o];exact Hn g1));clear g1
    go_wp2
    go_ret;exact⟨by rw[E.o];rfl,rfl⟩
   ·have t1:decide ((l.length:Int)<1)=false:=by simp;omega
    by_cases g2:8<l.length
    ·have t2:decide (8<(l.length:Int))=true:=by simp;omega
     have E:=I (Iz (by rw[<-M.o];exact hlt) (by rw[<-O.o];exact Ja g2));clear g1 g2
     go_wp2
     go_ret;exact⟨by rw[E.o];rfl,rfl⟩
    ·have t2:decide (8<(l.length:Int))=false:=by simp;omega
     have HA:=I (fun h=>KD (p:=capB) (l:=l) h (by omega) (by omega));clear g1 g2
     go_wp2
     go_loop [4] (fun kv=>∃k:Nat,k<=l.length/\kv=.int .i64 (k:Int)/\Fit capB l k) (fun kv=>l.length - (intOf kv).toNat)
     case atStart=>exact⟨0,Nat.zero_le _,rfl,fun i _ h=>by omega⟩
     case round=>
      obtain⟨k,hk,rfl,hf⟩:=hrel;have HF:=I hf;clear hf
      by_cases hkl:k<l.length
      ·have e2:(k:Int)<(l.length:Int):=by omega
       have hb:=Fp l[k]
       by_cases q1:l[k].toNat<65
       ·have s1:decide ((l[k].toNat:Int)<65)=true:=by simp;omega
        have E:=I (Iz (ls:=ls) (i:=i) (by rw[<-M.o];exact hlt) (by rw[<-O.o];exact GA hkl (by simp [capB];omega)));clear q1
        go_wp2
        go_ret;exact⟨by rw[E.o];rfl,rfl⟩
       ·have s1:decide ((l[k].toNat:Int)<65)=false:=by simp;omega
        by_cases q2:90<l[k].toNat
        ·have s2:decide (90<(l[k].toNat:Int))=true:=by simp;omega
         have E:=I (Iz (ls:=ls) (i:=i) (by rw[<-M.o];exact hlt) (by rw[<-O.o];exact GA hkl (by simp [capB];omega)));clear q1 q2
         go_wp2
         go_ret;exact⟨by rw[E.o];rfl,rfl⟩
        ·have s2:decide (90<(l[k].toNat:Int))=false:=by simp;omega
         have HP:=I (show capB l[k]=true by simp [capB];omega);clear q1 q2
         go_wp2
         go_round
         case rel=>exact⟨k+1,by omega,by go_num,fun i hi aw=>by
          by_cases q:i=k
          ·subst q;exact HP.o
          ·exact HF.o i hi (by omega)⟩
         case measure=>simp [intOf];omega
      ·have e2:¬(k:Int)<(l.length:Int):=by omega
       have E:=I (HA.o (fun i hi=>HF.o i hi (by omega)))
       go_wp2
       go_round
       case rel=>exact⟨i+1,by omega,by go_num,fun j hj=>by
        by_cases q:j=i
        ·rw[q,<-O.o];exact E.o
        ·exact HW.o j (by omega)⟩
       case measure=>simp [intOf];omega
  ·obtain rfl:i=n:=by omega
   have e1:¬(i:Int)<(i:Int):=by omega
   have hE:=Vw (ls:=ls) (fun j hj=>HW.o j (by rw[M.o];exact hj)) (by rw[<-M.o];exact h1);rw[<-M.o] at hE;have E:=I hE;clear hE;have t1:decide ((1:Int)<=(i:Int))=true:=by simp;omega
   by_cases g:i<=4
   ·have t2:decide ((i:Int)<=4)=true:=by simp;omega
    have E2:=I (decide_eq_true g);clear g
    go_wp2
    go_ret;exact⟨by rw[E.o,E2.o];rfl,rfl⟩
   ·have t2:decide ((i:Int)<=4)=false:=by simp;omega
    have E2:=I (decide_eq_false g);clear g
    go_wp2
    go_ret;exact⟨by rw[E.o,E2.o];rfl,rfl⟩
theorem PY (ls:List L) (A:Option Addr) (c B:Nat) (w:World) (M:1<=ls.length) (hl:ls.length<=8000000000000) (hs:∀i,i<ls.length->(pl ls i).length<=1000000000) (O:Rd w B A (strs ls)) :
  Calls Tryz.prog 147 #[.slice A ls.length c] w fun e w'=>e=.returned (.bool (Cn ls))/\w=w':=by
 obtain⟨b,o,rfl,_,_⟩:=DC O (i:=0) M;refine Nq ls b o c w M hl hs fun i hi=>?_
 obtain⟨b',o',e,_,Z⟩:=DC O hi;injection e with e;injection e with e1 e2;subst e1;subst e2;exact Z
end Nm
namespace Nm
open Go.RowKit Af
attribute [local go_sem] Ep List.getElem_cons_zero List.getElem_cons_succ Cg Ch Dp
theorem RG (c:UInt8) (l:L):∀x,x∈split c l->x.length<=l.length:=by
 induction l with
 |nil=>intro x M;simp [split] at M;simp [M]
 |cons a r ih=>
  intro x M;rw[split] at M
  split at M
  ·rcases List.mem_cons.1 M with rfl | h
   ·simp
   ·have:=ih x h;simp;omega
  ·cases hs:split c r with
   |nil=>rw[hs] at M;simp at M;subst M;simp
   |cons u t=>
    rw[hs] at M ih;rcases List.mem_cons.1 M with rfl | h
    ·have:=ih u List.mem_cons_self;simp;omega
    ·have:=ih x (List.mem_cons_of_mem _ h);simp;omega
theorem OX (l:L) (c:UInt8) (w':World) (base:Nat) (v:Value) (hs:l.length<=1000000000) (Z:Own w' base v (split c l)) :
  ∃A n cap,v=.slice A n cap/\∀w1,Below w'.heap.size w' w1->Calls Tryz.prog 147 #[.slice A n cap] w1 fun e w2=>e=.returned (.bool (Cn (split c l)))/\w1=w2:=by
 obtain⟨A,cap,rfl,M⟩:=Z.slice;refine⟨A,_,cap,rfl,fun w1 O=>?_⟩;exact PY (split c l) A cap w'.heap.size w1 (CJ c l) (by have:=Vv c l;omega) (fun i hi=>by have:=RG c l _ (DJ hi);omega) (M.below O)
theorem RH (l:L) (w:World) (hs:l.length<=1000000000):Calls Tryz.prog 96 #[.string ⟨l.toArray⟩] w fun e w'=>e=.returned (.int .i64 (AR l:Int))/\Below w.heap.size w w':=by
 have C2:=I (fun w1=>GF l 46 w1 hs);have S2:=I (fun w' base v M=>OX l 46 w' base v hs M);have bn:=I (Below.refl w.heap.size w);cases l with
 |nil=>
  have E:=I Kw;have c2:=C2.o w;have EL:=I (show Cn (split 46 [])=false by decide);clear hs;go_enter Tryz.func96,Tryz.ntmps96
  go_wp2_with (first
   |(go_at_call 47;refine Calls.mono c2 ?_;rintro e w1 ⟨v,rfl,M,O⟩;clear c2;obtain⟨A,n,cap,rfl,Z⟩:=S2.o w1 _ v M;have c3:=Z w1 Ah;rw[EL.o] at c3;have H1:=I O;clear O M Z)
   |(go_at_call 147;refine Aj c3 ?_;rintro w2 rfl;clear c3))
  go_ret;exact⟨by rw[E.o];rfl,H1.o⟩
 |cons x r=>
  have e0:(0:Int)<(r.length:Int)+1:=by omega
  have aw:r.length<=1000000000:=by simp at hs;omega
  have ek:AR (x :: r)=if slL (x :: r) then 2 else if Cn (split 46 (x :: r)) then 1 else 0:=rfl
  by_cases hx:x=47
  ·subst hx
   have av:slL (47 :: r)=Cn (split 47 r):=by simp [slL]
   rw[av] at ek;have c1:=GF r 47 w aw;have S1:=I (fun w' base v M=>OX r 47 w' base v aw M);cases h1:Cn (split 47 r) with
   |true=>
    have E:=I (show AR (47 :: r)=2 by rw[ek,h1];rfl);have H:=I h1;clear ek av h1 hs aw;go_enter Tryz.func96,Tryz.ntmps96
    go_wp2_with (first
     |(go_at_call 47;refine Calls.mono c1 ?_;rintro e w1 ⟨v,rfl,M,O⟩;clear c1;obtain⟨A,n,cap,rfl,Z⟩:=S1.o w1 _ v M;have c3:=Z w1 Ah;rw[H.o] at c3;have H1:=I O;clear O M Z)
     |(go_at_call 147;refine Aj c3 ?_;rintro w2 rfl;clear c3))
    go_ret;exact⟨by rw[E.o];rfl,H1.o⟩
   |false=>
    rw[h1,if_neg (by simp)] at ek;have H:=I h1;have hd:Cn (split 46 (47 :: r))=false:=by
     cases q:Cn (split 46 (47 :: r)) with
     |false=>rfl
     |true=>exact absurd rfl (OQ q)
    have HD:=I hd;have E:=I (show AR (47 :: r)=0 by rw[ek,hd];rfl);clear ek av h1 hd hs aw;go_enter Tryz.func96,Tryz.ntmps96
    go_wp2_with (first
     |(go_at_call 47;refine Calls.mono c1 ?_;rintro e w1 ⟨v,rfl,M,O⟩;clear c1;obtain⟨A,n,cap,rfl,Z⟩:=S1.o w1 _ v M;have c3:=Z w1 Ah;rw[H.o] at c3;have H1:=I O;clear O M Z;have c2:=C2.o w1)
     |(go_at_call 147;refine Aj c3 ?_;rintro w2 rfl;clear c3)
     |(go_at_call 47;refine Calls.mono c2 ?_;rintro e w4 ⟨v4,rfl,M,O⟩;clear c2;obtain⟨A4,n4,bb,rfl,Z⟩:=S2.o w4 _ v4 M;have c5:=Z w4 Ah;rw[HD.o] at c5;have H4:=H1.t O;clear O M Z)
     |(go_at_call 147;refine Aj c5 ?_;rintro w6 rfl;clear c5))
    go_ret;exact⟨by rw[E.o];rfl,H4.o⟩
  ·have t1:((x.toNat:Int)==47)=false:=by
    simp only[beq_eq_false_iff_ne,ne_eq];intro q;exact hx (UInt8.toNat_inj.1 (by have:(47:UInt8).toNat=47:=rfl;omega))
   have av:slL (x :: r)=false:=by simp [slL,hx]
   rw[av,if_neg (by simp)] at ek;have c2:=C2.o w;cases h1:Cn (split 46 (x :: r)) with
   |true=>
    have E:=I (show AR (x :: r)=1 by rw[ek,h1];rfl);have H:=I h1;clear ek av h1 hs aw hx;go_enter Tryz.func96,Tryz.ntmps96
    go_wp2_with (first
     |(go_at_call 47;refine Calls.mono c2 ?_;rintro e w1 ⟨v,rfl,M,O⟩;clear c2;obtain⟨A,n,cap,rfl,Z⟩:=S2.o w1 _ v M;have c3:=Z w1 Ah;rw[H.o] at c3;have H1:=I O;clear O M Z)
     |(go_at_call 147;refine Aj c3 ?_;rintro w2 rfl;clear c3))
    go_ret;exact⟨by rw[E.o];rfl,H1.o⟩
   |false=>
    have E:=I (show AR (x :: r)=0 by rw[ek,h1];rfl);have H:=I h1;clear ek av h1 hs aw hx;go_enter Tryz.func96,Tryz.ntmps96
    go_wp2_with (first
     |(go_at_call 47;refine Calls.mono c2 ?_;rintro e w1 ⟨v,rfl,M,O⟩;clear c2;obtain⟨A,n,cap,rfl,Z⟩:=S2.o w1 _ v M;have c3:=Z w1 Ah;rw[H.o] at c3;have H1:=I O;clear O M Z)
     |(go_at_call 147;refine Aj c3 ?_;rintro w2 rfl;clear c3))
    go_ret;exact⟨by rw[E.o];rfl,H1.o⟩
theorem Nr (l:L) (w:World) (hs:l.length<=1000000000):Calls Tryz.prog 46 #[.string ⟨l.toArray⟩] w fun e w'=>e=.returned (.bool (isL l))/\Below w.heap.size w w':=by
 have c1:=RH l w hs
 by_cases h:1<=AR l
 ·have E:=I (show isL l=true by simp [isL,h])
  have t:decide (0<AR l)=true:=by simp;omega
  clear h;go_enter Tryz.func46,Tryz.ntmps46
  go_wp2_with (go_at_call 96;refine Aj c1 ?_;rintro w1 M;clear c1;have H1:=I M;clear M)
  go_ret;exact⟨by rw[E.o];rfl,H1.o⟩
 ·have E:=I (show isL l=false by simp [isL];omega)
  have O:AR l=0:=by omega
  rw[O] at c1;clear h O;go_enter Tryz.func46,Tryz.ntmps46
  go_wp2_with (go_at_call 96;refine Aj c1 ?_;rintro w1 M;clear c1;have H1:=I M;clear M)
  go_ret;exact⟨by rw[E.o];rfl,H1.o⟩
end Nm
namespace Nm
open Go.RowKit Af
attribute [local go_sem] Ep List.getElem_cons_zero List.getElem_cons_succ Cg Ch Dp
theorem Vx {n:L} (h:n.length<8):tgL n=false:=by
 cases q:preL krb n with
 |false=>rw[tgL,q];rfl
 |true=>
  have O:n.drop 7 = []:=List.drop_of_length_le (by omega);have M:cpL krb n = []:=by rw[cpL,q,if_pos rfl];exact O
  rw[tgL,M,show isL []=false from by decide,Bool.and_false]
theorem tg_eq (n:L):tgL n=((n.take 7==krb)&&isL (n.drop 7)):=by
 have e:=OU krb n;rw[show krb.length=7 from rfl] at e;rw[tgL,e];cases q:preL krb n with
 |false=>rfl
 |true=>rw[cpL,q];rfl
theorem Nt (n:L) (w:World) (hs:n.length<=1000000000):Calls Tryz.prog 53 #[.string ⟨n.toArray⟩] w fun e w'=>e=.returned (.tuple #[.string ⟨(tgR n).toArray⟩,.bool (tgL n)])/\Below w.heap.size w w':=by
 have c2:=Nr (n.drop 7) w (by simp;omega);have Z:=I (Below.refl w.heap.size w)
 by_cases h8:n.length<8
 ·have M:=I (Vx h8)
  have O:=I (show tgR n = [] by rw[tgR,M.o];rfl);have t1:decide ((n.length:Int)<8)=true:=by simp;omega
  clear h8 hs;go_enter Tryz.func53,Tryz.ntmps53
  go_wp2_with fail
  go_ret2
  exact⟨by rw[M.o,O.o];rfl,Z.o⟩
 ·have t1:decide ((n.length:Int)<8)=false:=by simp;omega
  have e7:(7:Int)<=(n.length:Int):=by omega
  have eq:=tg_eq n;clear h8;cases h1:(n.take 7==krb) with
  |false=>
   rw[h1] at eq;have t2:(n.take 7 == [107,114,98,116,103,116,47])=false:=h1;have M:=I (show tgL n=false from eq);have O:=I (show tgR n = [] by rw[tgR,M.o];rfl);clear eq h1 hs;go_enter Tryz.func53,Tryz.ntmps53
   go_wp2_with fail
   go_ret2
   exact⟨by rw[M.o,O.o];rfl,Z.o⟩
  |true=>
   rw[h1,Bool.true_and] at eq;have t2:(n.take 7 == [107,114,98,116,103,116,47])=true:=h1;clear h1 hs;cases h2:isL (n.drop 7) with
   |false=>
    rw[h2] at c2 eq;have M:=I eq;have O:=I (show tgR n = [] by rw[tgR,M.o];rfl);clear eq h2;go_enter Tryz.func53,Tryz.ntmps53
    go_wp2_with (go_at_call 46;refine Aj c2 ?_;rintro w2 hd;clear c2;have H2:=I hd;clear hd)
    go_ret2
    exact⟨by rw[M.o,O.o];rfl,H2.o⟩
   |true=>
    rw[h2] at c2 eq;have M:=I eq;have O:=I (show tgR n=n.drop 7 by rw[tgR,M.o];rfl);clear eq h2;go_enter Tryz.func53,Tryz.ntmps53
    go_wp2_with (go_at_call 46;refine Aj c2 ?_;rintro w2 hd;clear c2;have H2:=I hd;clear hd)
    go_ret2
    exact⟨by rw[M.o,O.o];rfl,H2.o⟩
theorem Vy {p:UInt8->Bool} {l:L} (h:∀i (h:i<l.length),p l[i]=true):Cm p l=(decide (1<=l.length)&&decide (l.length<=8)):=by
 have O:l.all p=true:=by
  rw[List.all_eq_true];intro x M;obtain⟨i,hi,rfl⟩:=List.getElem_of_mem M;exact h i hi
 rw[Cm,O,Bool.and_true]
theorem DY (r n:L) (w:World) (hs:r.length<=1000000000) (cg:n.length<=1000000000):Calls Tryz.prog 28 #[.agg #[.string ⟨r.toArray⟩,.string ⟨n.toArray⟩]] w fun e w'=>e=.returned (.bool (Ct r n))/\Below w.heap.size w w':=by
 have c1:=Nr r (w.alloc (.cells #[.string ⟨r.toArray⟩,.string ⟨n.toArray⟩] 27)) hs;have hk:=Blk.new w 27 #[.string ⟨r.toArray⟩,.string ⟨n.toArray⟩];have cc:=(Below.refl w.heap.size w).alloc Ag (.cells #[.string ⟨r.toArray⟩,.string ⟨n.toArray⟩] 27);have cb:w.heap.size<(w.alloc (.cells #[.string ⟨r.toArray⟩,.string ⟨n.toArray⟩] 27)).heap.size:=by simp
 obtain⟨N,eN⟩:=Ak (w.heap.size);have C2:=I (fun w1=>Nt n w1 cg);have E1:=I (show Ct r n=(isL r&&(tgL n||Cm Cs n)) from rfl);rw[<-eN] at hk cc cb⊢;have EN:=I eN;clear eN;have HK:=I hk;clear hk;have ca:=I cc;clear cc;have bq:=I cb;clear cb hs;cases h1:isL r with
 |false=>
  rw[h1] at c1;have E:=I (show Ct r n=false by rw[E1.o,h1];rfl);clear h1;go_enter Tryz.func28,Tryz.ntmps28
  go_wp2_with (go_at_call 46;refine Aj c1 ?_;rintro w1 Z;clear c1;have H1:=I (ca.o.trans (Z.mono (Nat.le_of_lt bq.o)));clear Z)
  go_ret;exact⟨by rw[E.o];rfl,H1.o⟩
 |true=>
  rw[h1] at c1;cases h2:tgL n with
  |true=>
   have E:=I (show Ct r n=true by rw[E1.o,h1,h2];rfl);have HT:=I h2;clear h1 h2;go_enter Tryz.func28,Tryz.ntmps28
   go_wp2_with (first
    |(go_at_call 46;refine Aj c1 ?_;rintro w1 Z;clear c1;have H1:=I (ca.o.trans (Z.mono (Nat.le_of_lt bq.o)));have M:=HK.o.below Z;have cd:=I M;have bx:=M.cell 1;have av:N<w1.heap.size:=(by have:=Z.size;have:=bq.o;omega);have bB:=I av;rw[EN.o] at bx;clear Z av M;have c2:=C2.o w1;rw[HT.o] at c2)
    |(go_at_call 53;refine Aj c2 ?_;rintro w2 hb;clear c2 bx;have H2:=I (H1.o.trans (hb.mono (Nat.le_of_lt bB.o)));have cf:=(cd.o.below hb).cell 1;rw[EN.o] at cf;clear hb))
   go_ret;exact⟨by rw[E.o];rfl,H2.o⟩
  |false=>
   have E:=I (show Ct r n=Cm Cs n by rw[E1.o,h1,h2];rfl);have HT:=I h2;clear h1 h2;go_enter Tryz.func28,Tryz.ntmps28
   go_wp2_with (first
    |(go_at_call 46;refine Aj c1 ?_;rintro w1 Z;clear c1;have H1:=I (ca.o.trans (Z.mono (Nat.le_of_lt bq.o)));have M:=HK.o.below Z;have cd:=I M;have bx:=M.cell 1;have av:N<w1.heap.size:=(by have:=Z.size;have:=bq.o;omega);have bB:=I av;rw[EN.o] at bx;clear Z av M;have c2:=C2.o w1;rw[HT.o] at c2)
    |(go_at_call 53;refine Aj c2 ?_;rintro w2 hb;clear c2 bx;have H2:=I (H1.o.trans (hb.mono (Nat.le_of_lt bB.o)));have cf:=(cd.o.below hb).cell 1;rw[EN.o] at cf;clear hb))
   go_loop [5] (fun iv=>∃k:Nat,k<=n.length/\iv=.int .i64 (k:Int)/\Fit Cs n k) (fun iv=>n.length - (intOf iv).toNat)
   case atStart=>exact⟨0,Nat.zero_le _,rfl,fun i _ h=>by omega⟩
   case round=>
    obtain⟨k,hk,rfl,hf⟩:=hrel;have HF:=I hf;clear hf
    by_cases hlt:k<n.length
    ·have e1:(k:Int)<(n.length:Int):=by omega
     have hb:=Fp n[k];have bz:Cs n[k]=false->Hid (Ct r n=false):=fun h=>I (by rw[E.o];exact GA hlt h)
     have aw:=I bz;clear bz;have bn:Cs n[k]=true->Hid (Fit Cs n (k+1)):=fun h=>I (fun i hi cj=>by
      by_cases q:i=k
      ·subst q;exact h
      ·exact HF.o i hi (by omega))
     have bb:=I bn;clear bn
     by_cases q1:n[k].toNat<97
     ·have s1:decide ((n[k].toNat:Int)<97)=true:=by simp;omega
      by_cases q2:n[k].toNat<48
      ·have s2:decide ((n[k].toNat:Int)<48)=true:=by simp;omega
       have O:=aw.o (by simp [Cs,DI];omega);clear q1 q2
       go_wp2
       go_ret;exact⟨by rw[O.o];rfl,H2.o⟩
      ·have s2:decide ((n[k].toNat:Int)<48)=false:=by simp;omega
       by_cases q3:57<n[k].toNat
       ·have s3:decide (57<(n[k].toNat:Int))=true:=by simp;omega
        have O:=aw.o (by simp [Cs,DI];omega);clear q1 q2 q3
        go_wp2
        go_ret;exact⟨by rw[O.o];rfl,H2.o⟩
       ·have s3:decide (57<(n[k].toNat:Int))=false:=by simp;omega
        have O:=bb.o (by simp [Cs,DI];omega);clear q1 q2 q3
        go_wp2
        go_round
        case rel=>exact⟨k+1,by omega,by go_num,O.o⟩
        case measure=>simp [intOf];omega
     ·have s1:decide ((n[k].toNat:Int)<97)=false:=by simp;omega
      by_cases q2:122<n[k].toNat
      ·have s2:decide (122<(n[k].toNat:Int))=true:=by simp;omega
       have s3:decide ((n[k].toNat:Int)<48)=false:=by simp;omega
       have s4:decide (57<(n[k].toNat:Int))=true:=by simp;omega
       have O:=aw.o (by simp [Cs,DI];omega);clear q1 q2
       go_wp2
       go_ret;exact⟨by rw[O.o];rfl,H2.o⟩
      ·have s2:decide (122<(n[k].toNat:Int))=false:=by simp;omega
       have O:=bb.o (by simp [Cs,DI];omega);clear q1 q2
       go_wp2
       go_round
       case rel=>exact⟨k+1,by omega,by go_num,O.o⟩
       case measure=>simp [intOf];omega
    ·obtain rfl:k=n.length:=by omega
     have e1:¬(n.length:Int)<(n.length:Int):=by omega
     have O:=I (E.o.trans (Vy (fun i hi=>HF.o i hi hi)))
     by_cases g1:1<=n.length
     ·have t1:decide ((1:Int)<=(n.length:Int))=true:=by simp;omega
      by_cases g2:n.length<=8
      ·have t2:decide ((n.length:Int)<=8)=true:=by simp;omega
       have E3:=I (O.o.trans (show(decide (1<=n.length)&&decide (n.length<=8))=true by simp;omega));clear g1 g2
       go_wp2
       go_ret;exact⟨by rw[E3.o];rfl,H2.o⟩
      ·have t2:decide ((n.length:Int)<=8)=false:=by simp;omega
       have E3:=I (O.o.trans (show(decide (1<=n.length)&&decide (n.length<=8))=false by simp;omega));clear g1 g2
       go_wp2
       go_ret;exact⟨by rw[E3.o];rfl,H2.o⟩
     ·have t1:decide ((1:Int)<=(n.length:Int))=false:=by simp;omega
      have E3:=I (O.o.trans (show(decide (1<=n.length)&&decide (n.length<=8))=false by simp;omega));clear g1
      go_wp2
      go_ret;exact⟨by rw[E3.o];rfl,H2.o⟩
end Nm
end Go.Proofs.YtfbnjcdhipplpaaGreat
