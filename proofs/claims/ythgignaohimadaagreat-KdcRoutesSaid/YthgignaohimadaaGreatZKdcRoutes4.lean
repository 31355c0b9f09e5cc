import Derived.Test.YthgignaohimadaaGreatZKdcRoutes2
set_option maxHeartbeats 25600000
set_option maxRecDepth 100000
set_option linter.unusedVariables false
set_option linter.unusedSimpArgs false
namespace Go.Proofs.YthgignaohimadaaGreat
namespace Tr
open Nm
theorem Sx {c:UInt8} {l:L} {x:UInt8} (h:x∈l):x=c\/∃p,p∈split c l/\x∈p:=by
 induction l with
 |nil=>simp at h
 |cons y r ih=>
  rw[split]
  by_cases e:y=c
  ·rw[if_pos e]
   rcases List.mem_cons.1 h with h | h
   ·exact .inl (h.trans e)
   ·rcases ih h with g | ⟨p,g,k⟩
    ·exact .inl g
    ·exact .inr ⟨p,List.mem_cons_of_mem _ g,k⟩
  ·rw[if_neg e]
   cases hs:split c r with
   |nil=>exact absurd hs (IM c r)
   |cons a t=>
    rcases List.mem_cons.1 h with h | h
    ·exact .inr ⟨y :: a,List.mem_cons_self,by rw[h];exact List.mem_cons_self⟩
    ·rcases ih h with g | ⟨p,g,k⟩
     ·exact .inl g
     ·rw[hs] at g
      rcases List.mem_cons.1 g with g | g
      ·exact .inr ⟨y :: a,List.mem_cons_self,List.mem_cons_of_mem _ (g▸k)⟩
      ·exact .inr ⟨p,List.mem_cons_of_mem _ g,k⟩
theorem Ky {c:UInt8} {l:L} (h:Cg (split c l)=true) {x:UInt8} (F:x∈l):capB x=true\/x=c:=by
 have D:=((Co _).1 h).2.2;rw[List.all_eq_true] at D;rcases Sx (c:=c) F with g | ⟨p,g,k⟩
 ·exact .inr g
 ·have E:=((Eb _ _).1 (D p g)).2.2
  rw[List.all_eq_true] at E;exact .inl (E x k)
theorem Sy (c:UInt8) (l:L):((split c l).map fun p=>p.length+1).sum=l.length+1:=by
 induction l with
 |nil=>simp [split]
 |cons y r ih=>
  rw[split]
  by_cases e:y=c
  ·rw[if_pos e];simp [ih];omega
  ·rw[if_neg e]
   cases hs:split c r with
   |nil=>exact absurd hs (IM c r)
   |cons a t=>
    rw[hs] at ih;simp only[List.map_cons,List.sum_cons,List.length_cons] at ih⊢;omega
theorem bG {ls:List L} (h:ls.all (Ck capB)=true):(ls.map fun p=>p.length+1).sum<=9*ls.length:=by
 induction ls with
 |nil=>simp
 |cons a t ih=>
  simp only[List.all_cons,Bool.and_eq_true] at h;have D:=((Eb _ _).1 h.1).2.1;have:=ih h.2;simp only[List.map_cons,List.sum_cons,List.length_cons];omega
theorem Pu {c:UInt8} {l:L} (h:Cg (split c l)=true):l.length<=35:=by
 have D:=(Co _).1 h;have F:=bG D.2.2;have E:=Sy c l;omega
theorem kind_two' {l:L} (h:AG l=2):∃t,l=47 :: t/\Cg (split 47 t)=true:=by
 have D:=IQ h;simp only[slL,Bool.and_eq_true,decide_eq_true_eq] at D;cases l with
 |nil=>simp at D
 |cons x t=>
  simp only[List.head?_cons,Option.some.injEq,List.tail_cons] at D;exact⟨t,by rw[D.1],D.2⟩
theorem FM {l:L} (h:AG l≠0):AG l=1\/AG l=2:=by have:=Hp l;omega
theorem Sz {l:L} (h:AG l=1) {x:UInt8} (D:x∈l):capB x=true\/x=46:=Ky (IN h) D
theorem SA {l:L} (h:AG l=2) {x:UInt8} (D:x∈l):capB x=true\/x=47:=by
 obtain⟨t,rfl,E⟩:=kind_two' h;rcases List.mem_cons.1 D with g | g
 ·exact .inr g
 ·exact Ky E g
theorem QK {l:L} (h:AG l≠0) {x:UInt8} (D:x∈l):capB x=true\/x=46\/x=47:=by
 rcases FM h with h | h
 ·rcases Sz h D with g | g
  ·exact .inl g
  ·exact .inr (.inl g)
 ·rcases SA h D with g | g
  ·exact .inl g
  ·exact .inr (.inr g)
theorem CR {l:L} (h:AG l≠0):l.length<=36:=by
 rcases FM h with h | h
 ·have:=Pu (IN h);omega
 ·obtain⟨t,rfl,D⟩:=kind_two' h
  have:=Pu D;simp only[List.length_cons];omega
theorem Gs (l:L):isL l=true↔AG l≠0:=by simp [isL];omega
theorem Ze {l:L} (h:AG l≠0) {c:UInt8} (J:capB c=false) (E:c≠46) (F:c≠47):c∉l:=by
 intro D;rcases QK h D with g | g | g
 ·rw[J] at g;cases g
 ·exact E g
 ·exact F g
theorem Kz {l:L} (h:AG l≠0):(44:UInt8)∉l:=Ze h (by decide) (by decide) (by decide)
theorem KC {r:L} (h:AG r=1) (hu:upL r≠[]):∃u,r=u++46 :: upL r:=by
 have e:upL r=aft 46 r:=by rw[upL,if_pos h]
 rw[e] at hu⊢
 by_cases hm:(46:UInt8)∈r
 ·exact⟨bef 46 r,Kp hm⟩
 ·exact absurd (KU hm) hu
theorem bH {l:L} (h:l≠[]) (i:Nat):pl (ch l) (i+1)=pl (ch (upL l)) i:=by
 rw[Cs h];rfl
theorem at_one (i:Nat):∀r:L,AG r=1->i<(ch (upL r)).length->∃u,r=u++46 :: pl (ch (upL r)) i:=by
 induction i with
 |zero=>
  intro r h hi;have hu:upL r≠[]:=by intro e;rw[e,CH] at hi;simp at hi
  rw[pl,DE hu];exact KC h hu
 |succ i ih=>
  intro r h hi;have hu:upL r≠[]:=by intro e;rw[e,CH] at hi;simp at hi
  obtain⟨u,e⟩:=KC h hu;have hk:AG (upL r)=1:=by
   rcases Jm r with g | g
   ·exact absurd g hu
   ·rw[g.1];exact h
  have D:i<(ch (upL (upL r))).length:=by rw[Cs hu] at hi;simpa using hi
  obtain⟨v,E⟩:=ih (upL r) hk D;rw[bH hu i];refine⟨u++46 :: v,?_⟩
  conv=>lhs;rw[e,E]
  simp
theorem bI (i:Nat):∀r:L,AG r=2->i<(ch (upL r)).length->∃v,r=pl (ch (upL r)) i++47 :: v:=by
 induction i with
 |zero=>
  intro r h hi;have hu:upL r≠[]:=by intro e;rw[e,CH] at hi;simp at hi
  obtain⟨u,v,e,_,D⟩:=Mf h;rw[pl,DE hu,D];exact⟨v,e⟩
 |succ i ih=>
  intro r h hi;have hu:upL r≠[]:=by intro e;rw[e,CH] at hi;simp at hi
  obtain⟨u,v,e,_,D⟩:=Mf h;have hk:AG (upL r)=2:=by
   rcases Jm r with g | g
   ·exact absurd g hu
   ·rw[g.1];exact h
  have E:i<(ch (upL (upL r))).length:=by rw[Cs hu] at hi;simpa using hi
  obtain⟨v2,F⟩:=ih (upL r) hk E;rw[bH hu i];refine⟨v2++47 :: v,?_⟩
  conv=>lhs;rw[e,<-D,F]
  simp
theorem Mv {r p:L} (h:BX r p=true) (hk:AG r=1):∃u,r=u++46 :: p:=by
 obtain⟨i,hi,e⟩:=mem_pl ((GF r p).1 h);obtain⟨u,g⟩:=at_one i r hk hi;exact⟨u,by rw[<-e];exact g⟩
theorem Mw {r p:L} (h:BX r p=true) (hk:AG r=2):∃v,r=p++47 :: v:=by
 obtain⟨i,hi,e⟩:=mem_pl ((GF r p).1 h);obtain⟨u,g⟩:=bI i r hk hi;exact⟨u,by rw[<-e];exact g⟩
def sufL (p l:L):Bool:=p.isSuffixOf l
theorem NW {p l:L}:sufL p l=true↔∃u,l=u++p:=by
 rw[sufL,List.isSuffixOf_iff_suffix];exact⟨fun⟨t,e⟩=>⟨t,e.symm⟩,fun⟨t,e⟩=>⟨t,e.symm⟩⟩
def preB (p l:L):Bool:=p.isPrefixOf l
theorem FN {p l:L}:preB p l=true↔∃u,l=p++u:=by
 rw[preB,List.isPrefixOf_iff_prefix];exact⟨fun⟨t,e⟩=>⟨t,e.symm⟩,fun⟨t,e⟩=>⟨t,e.symm⟩⟩
def furL (r p:L):L:=if BX r p then (if AG r=1 then r.take (r.length - p.length) else r.drop p.length) else if AG r=1 then r else 32 :: r
def Cx (f p:L):L:=if sufL [46] f then f++p else if preB [47] f&&decide (AG p=2) then p++f else if preB [32,47] f then f.drop 1 else f
theorem SB {r p:L} (h:BX r p=true) (hk:AG r=1):∃u,r=(u++[46])++p/\furL r p=u++[46]:=by
 obtain⟨u,e⟩:=Mv h hk;refine⟨u,by rw[e];simp,?_⟩;rw[furL,if_pos h,if_pos hk];have D:r=(u++[46])++p:=by rw[e];simp
 have E:r.length - p.length=(u++[46]).length:=by rw[D];simp;omega
 rw[E,D,List.take_left]
theorem XS {r p:L} (h:BX r p=true) (hk:AG r=2):∃v,r=p++47 :: v/\furL r p=47 :: v:=by
 obtain⟨v,e⟩:=Mw h hk;refine⟨v,e,?_⟩;rw[furL,if_pos h,if_neg (by omega)]
 conv=>lhs;rw[e]
 simp
theorem NY {r p:L} (h:BX r p=false) (hk:AG r=1):furL r p=r:=by rw[furL,if_neg (by simp [h]),if_pos hk]
theorem Mx {r p:L} (h:BX r p=false) (hk:AG r=2):furL r p=32 :: r:=by rw[furL,if_neg (by simp [h]),if_neg (by omega)]
theorem bJ {r p:L} (D:AG r≠0):furL r p≠[]:=by
 rcases FM D with hk | hk
 ·cases h:BX r p with
  |true=>obtain⟨u,e,g⟩:=SB h hk;rw[g];simp
  |false=>rw[NY h hk];exact Ch D
 ·cases h:BX r p with
  |true=>obtain⟨u,e,g⟩:=XS h hk;rw[g];simp
  |false=>rw[Mx h hk];simp
theorem SC {r p:L} (E:AG r≠0):(44:UInt8)∉furL r p:=by
 have D:=Kz E;rcases FM E with hk | hk
 ·cases h:BX r p with
  |true=>
   obtain⟨u,e,g⟩:=SB h hk;rw[g];intro q;exact D (by rw[e];exact List.mem_append_left _ q)
  |false=>rw[NY h hk];exact D
 ·cases h:BX r p with
  |true=>
   obtain⟨u,e,g⟩:=XS h hk;rw[g];intro q;exact D (by rw[e];exact List.mem_append_right _ q)
  |false=>
   rw[Mx h hk];intro q;rcases List.mem_cons.1 q with q | q
   ·revert q;decide
   ·exact D q
theorem SD (r p:L):(furL r p).length<=r.length+1:=by
 rw[furL];split
 ·split
  ·rw[List.length_take];omega
  ·rw[List.length_drop];omega
 ·split
  ·omega
  ·simp
theorem VT (f p:L):(Cx f p).length<=f.length+p.length:=by
 rw[Cx];split
 ·simp
 ·split
  ·simp;omega
  ·split
   ·simp;omega
   ·omega
def JC:List L->L
 | []=>[]
 |f :: t=>match t with
  | []=>f
  |_ :: _=>f++44 :: JC t
theorem join_cons {f:L} {t:List L} (h:t≠[]):JC (f :: t)=f++44 :: JC t:=by
 cases t with
 |nil=>exact absurd rfl h
 |cons g t=>rfl
theorem VU (f:L):JC [f]=f:=rfl
theorem SE {D:List L} (h:D≠[]) (f:L):JC (D++[f])=JC D++44 :: f:=by
 induction D with
 |nil=>exact absurd rfl h
 |cons g t ih=>
  cases t with
  |nil=>rfl
  |cons a t=>
   rw[List.cons_append,join_cons (f:=g) (t:=(a :: t)++[f]) (by simp),ih (by simp),join_cons (f:=g) (t:=a :: t) (by simp)];simp
theorem VV {D:List L} {k:Nat} (h:∀f∈D,f.length<=k):(JC D).length<=D.length*(k+1):=by
 induction D with
 |nil=>simp [JC]
 |cons g t ih=>
  have J:=h g List.mem_cons_self;have E:=ih fun f F=>h f (List.mem_cons_of_mem _ F)
  cases t with
  |nil=>rw[VU];simp;omega
  |cons a t=>
   rw[join_cons (by simp)];simp only[List.length_append,List.length_cons] at E⊢;have e:(t.length+1+1)*(k+1)=(t.length+1)*(k+1)+(k+1):=by rw[Nat.add_mul];omega
   omega
def furs:L->List L->List L
 |_,[]=>[]
 |p,r :: t=>furL r p :: furs r t
def DG:List L->List L
 | []=>[]
 |r :: t=>r :: furs r t
def IH (m:List L):L:=JC (DG m)
theorem NZ (m:List L):∀p,(furs p m).length=m.length:=by
 induction m with
 |nil=>intro p;rfl
 |cons r t ih=>intro p;simp [furs,ih]
theorem GU (m:List L):(DG m).length=m.length:=by
 cases m with
 |nil=>rfl
 |cons r t=>simp [DG,NZ]
def Fq (p:L) (m:List L):L:=if m = [] then p else pl m (m.length - 1)
theorem My (p a:L) (t:List L):Fq p (a :: t)=Fq a t:=by
 cases t with
 |nil=>rfl
 |cons b t=>rfl
theorem SF (m:List L) (r:L):∀p,furs p (m++[r])=furs p m++[furL r (Fq p m)]:=by
 induction m with
 |nil=>intro p;rfl
 |cons a t ih=>
  intro p;rw[List.cons_append,furs,ih,My];rfl
theorem Oa (m:List L) (r:L) (h:m≠[]):DG (m++[r])=DG m++[furL r (pl m (m.length - 1))]:=by
 cases m with
 |nil=>exact absurd rfl h
 |cons a t=>
  rw[List.cons_append,DG,DG,SF,List.cons_append,<-My a a t,Fq,if_neg (by simp)]
def Fc (m:List L) (k:Nat):L:=IH (m.take k)
theorem Mz (m:List L):Fc m 0 = []:=by simp [Fc,IH,DG,JC]
theorem VW (m:List L):Fc m m.length=IH m:=by simp [Fc]
theorem QL {m:List L} (h:0<m.length):Fc m 1=pl m 0:=by
 rw[Fc,BG h];simp [IH,DG,furs,JC]
theorem SG {m:List L} {k:Nat} (h:k+1<m.length):Fc m (k+1+1)=Fc m (k+1)++44 :: furL (pl m (k+1)) (pl m k):=by
 have D:m.take (k+1)≠[]:=by intro e;have:=congrArg List.length e;simp at this;subst this;simp at h
 rw[Fc,BG h,IH,Oa _ _ D,SE]
 ·have e:pl (m.take (k+1)) ((m.take (k+1)).length - 1)=pl m k:=by
   rw[List.length_take,Nat.min_eq_left (by omega),YT (by omega)];congr 1
  rw[e];rfl
 ·intro e
  have:=congrArg List.length e;rw[GU] at this;exact D (List.eq_nil_of_length_eq_zero this)
def Hx (l:List L):L×Nat:=if l.all isL then (if 8<l.length then ([],13) else (IH l,0)) else ([],1)
theorem Lo {l:List L} (h:l.all isL=true) {x:L} (D:x∈l):AG x≠0:=by
 rw[List.all_eq_true] at h;exact(Gs x).1 (h x D)
theorem Zf (m:List L):∀p,m.all isL=true->∀f∈furs p m,f≠[]/\(44:UInt8)∉f/\f.length<=37:=by
 induction m with
 |nil=>intro p _ f D;cases D
 |cons r t ih=>
  intro p h f D;have E:=Lo h (x:=r) List.mem_cons_self;rw[furs] at D;rcases List.mem_cons.1 D with q | q
  ·rw[q]
   have:=SD r p;have:=CR E;exact⟨bJ E,SC E,by omega⟩
  ·exact ih r (by simp only[List.all_cons,Bool.and_eq_true] at h;exact h.2) f q
theorem SH {m:List L} (h:m.all isL=true):∀f∈DG m,f≠[]/\(44:UInt8)∉f/\f.length<=37:=by
 cases m with
 |nil=>intro f D;cases D
 |cons r t=>
  intro f D;have E:=Lo h (x:=r) List.mem_cons_self;rw[DG] at D;rcases List.mem_cons.1 D with q | q
  ·rw[q]
   have:=CR E;exact⟨Ch E,Kz E,by omega⟩
  ·exact Zf t r (by simp only[List.all_cons,Bool.and_eq_true] at h;exact h.2) f q
theorem Pv {m:List L} (h:m.all isL=true):(IH m).length<=m.length*38:=by
 have:=VV (k:=37) fun f D=>(SH h f D).2.2
 rw[GU] at this;exact this
def addL (l:List L) (r:L):List L:=if r∈l then l else l++[r]
def Fs (l rs:List L):List L:=rs.foldl addL l
theorem Zg (l:List L) (r:L):(addL l r).length<=l.length+1:=by rw[addL];split<;>simp
theorem VX (l:List L):Fs l []=l:=rfl
theorem MA (l:List L) (r:L) (t:List L):Fs l (r :: t)=Fs (addL l r) t:=rfl
theorem Ob (l a b:List L):Fs l (a++b)=Fs (Fs l a) b:=List.foldl_append
theorem Pw (rs:List L):∀l,(Fs l rs).length<=l.length+rs.length:=by
 induction rs with
 |nil=>intro l;exact Nat.le_refl _
 |cons r t ih=>intro l;rw[MA];have:=ih (addL l r);have:=Zg l r;simp only[List.length_cons];omega
theorem XT {l:List L} {r:L} (h:r∈l):addL l r=l:=if_pos h
theorem SI {l:List L} {r:L} (h:r∉l):addL l r=l++[r]:=if_neg h
theorem SJ {l:List L} {r x:L}:x∈addL l r↔x∈l\/x=r:=by
 by_cases h:r∈l
 ·rw[XT h]
  constructor
  ·exact .inl
  ·rintro(g | g)
   ·exact g
   ·exact g▸h
 ·rw[SI h];simp
theorem VY (rs:List L):∀{l:List L} {x:L},x∈Fs l rs↔x∈l\/x∈rs:=by
 induction rs with
 |nil=>intro l x;rw[VX];simp
 |cons r t ih=>
  intro l x;rw[MA,ih,SJ];simp [or_assoc]
theorem Zh {l:List L} {r:L} (h:l.all isL=true) (D:isL r=true):(addL l r).all isL=true:=by
 rw[List.all_eq_true] at h⊢;intro x E;rcases SJ.1 E with g | g
 ·exact h x g
 ·rw[g];exact D
theorem VZ {l rs:List L} (h:l.all isL=true) (D:rs.all isL=true):(Fs l rs).all isL=true:=by
 rw[List.all_eq_true] at h D⊢;intro x E;rcases(VY rs).1 E with g | g
 ·exact h x g
 ·exact D x g
def Gt (c p:L):L:=if p = [] then c else p
def Ki (l:List L):List L×Nat:=if 8<l.length then ([],13) else (l,0)
def II (c:L) (l:List L) (p r:L) (n:Bool):List L:=if n then Fs l (Bb (Gt c p) r) else l
def expF (c sv:L):List L->List L->L->Bool->List L×Nat
  | [],l,p,n=>Ki (II c l p sv n)
  | f :: t, l, p, n => if f = [] then expF c sv t l p true else
      if isL (Cx f p) then
        (if 8<(addL (II c l p (Cx f p) n) (Cx f p)).length then ([],13) else expF c sv t (addL (II c l p (Cx f p) n) (Cx f p)) (Cx f p) false)
      else ([],2)
def expL (s c sv:L):List L×Nat:=if isL c&&isL sv then (if s = [] then ([],0) else expF c sv (split 44 s) [] [] false) else ([],1)
def insL (s c sv r:L):L×Nat:=
 if (expL s c sv).2≠0 then ([],(expL s c sv).2) else if isL r then (if r=c\/r=sv\/r∈(expL s c sv).1 then (s,0) else Hx ((expL s c sv).1++[r])) else ([],1)
theorem Wa (c sv:L) (l:List L) (p:L) (n:Bool):expF c sv [] l p n=Ki (II c l p sv n):=rfl
theorem SK (c sv:L) (t l:List L) (p:L) (n:Bool):expF c sv ([] :: t) l p n=expF c sv t l p true:=by rw[expF,if_pos rfl]
theorem Wb {c sv f:L} {t l:List L} {p:L} {n:Bool} (h:f≠[]) (D:isL (Cx f p)=false):expF c sv (f :: t) l p n=([],2):=by rw[expF,if_neg h,if_neg (by simp [D])]
theorem SL {c sv f:L} {t l:List L} {p:L} {n:Bool} (h:f≠[]) (D:isL (Cx f p)=true) (E:(addL (II c l p (Cx f p) n) (Cx f p)).length<=8) :
 expF c sv (f :: t) l p n=expF c sv t (addL (II c l p (Cx f p) n) (Cx f p)) (Cx f p) false:=by rw[expF,if_neg h,if_pos D,if_neg (by omega)]
theorem SM {c sv f:L} {t l:List L} {p:L} {n:Bool} (h:f≠[]) (D:isL (Cx f p)=true) (E:8<(addL (II c l p (Cx f p) n) (Cx f p)).length) :
 expF c sv (f :: t) l p n=([],13):=by rw[expF,if_neg h,if_pos D,if_pos E]
theorem bK {s c sv:L} (h:isL c=false\/isL sv=false):expL s c sv=([],1):=by
 rw[expL,if_neg];rcases h with h | h<;>simp [h]
theorem SN {c sv:L} (h:isL c=true) (D:isL sv=true):expL [] c sv=([],0):=by rw[expL,h,D];rfl
theorem Wc {s c sv:L} (h:isL c=true) (D:isL sv=true) (hs:s≠[]):expL s c sv=expF c sv (split 44 s) [] [] false:=by rw[expL,h,D,if_pos (show(true&&true)=true from rfl),if_neg hs]
theorem We (l:List L):(Ki l).1.length<=8:=by rw[Ki];split<;>simp;omega
theorem Wf (c sv:L) (D:List L):∀l p n,(expF c sv D l p n).1.length<=8:=by
 induction D with
 |nil=>intro l p n;exact We _
 |cons f t ih=>
  intro l p n;rw[expF]
  split
  ·exact ih _ _ _
  ·split
   ·split
    ·simp
    ·exact ih _ _ _
   ·simp
theorem Zi (s c sv:L):(expL s c sv).1.length<=8:=by
 rw[expL];split
 ·split
  ·simp
  ·exact Wf _ _ _ _ _ _
 ·simp
theorem Oc {a b x:L} (h:x∈Bb a b):isL x=true:=(Gs x).2 (Io h)
theorem Wg {c sv:L} (D:List L):∀l p n,l.all isL=true->(expF c sv D l p n).1.all isL=true:=by
 have E:∀(l:List L) (p r:L) (n:Bool),l.all isL=true->(II c l p r n).all isL=true:=by
  intro l p r n h;rw[II];split
  ·exact VZ h (by rw[List.all_eq_true];exact fun x F=>Oc F)
  ·exact h
 induction D with
 |nil=>intro l p n h;rw[Wa,Ki];split<;>simp;simpa using E l p sv n h
 |cons f t ih=>
  intro l p n h;rw[expF]
  split
  ·exact ih _ _ _ h
  ·split
   ·split
    ·rfl
    ·rename_i h1 _
     exact ih _ _ _ (Zh (E _ _ _ _ h) h1)
   ·rfl
theorem Zj (s c sv:L):(expL s c sv).1.all isL=true:=by
 rw[expL];split
 ·split
  ·rfl
  ·exact Wg _ _ _ _ rfl
 ·rfl
open Go.RowKit Af
attribute [local go_sem] Ea List.getElem_cons_zero List.getElem_cons_succ BZ Ca Dd CJ
theorem Wi {p l:L} {k:Nat} (h:l.length=k+p.length):(l.drop k==p)=sufL p l:=by
  rw[Bool.eq_iff_iff,NW,beq_iff_eq];constructor
  · intro e
    exact ⟨l.take k, by conv => rhs; rw [<- e]
                        exact(List.take_append_drop k l).symm⟩
  · rintro ⟨u, rfl⟩
    have:k=u.length:=by simp at h;omega
    rw[this];simp
theorem SP {p l:L} (h:sufL p l=true):p.length<=l.length:=by
 obtain⟨u,rfl⟩:=NW.1 h;simp
theorem GV (l p:L) (w:World) (hs:l.length<=1000000000) (hp:p.length<=1000000000):Calls Tryz.prog 220 #[.string ⟨l.toArray⟩,.string ⟨p.toArray⟩] w fun e w'=>
  e=.returned (.bool (sufL p l))/\w=w':=by
 by_cases h:p.length<=l.length
 ·obtain⟨k,hk⟩:∃k,l.length=k+p.length:=⟨l.length - p.length,by omega⟩
  have E:=I (Wi hk);have D:(p.length:Int)<=(l.length:Int):=by omega
  have F:(l.length:Int) - (p.length:Int)=(k:Int):=by omega
  have J:(k:Int)<=(l.length:Int):=by omega
  clear h hk;go_enter Tryz.func220,Tryz.ntmps220
  go_wp2
  go_ret;exact⟨by rw[<-E.o];rfl,rfl⟩
 ·have E:=I (show sufL p l=false by
   cases q:sufL p l with
   |false=>rfl
   |true=>exact absurd (SP q) h)
  have D:¬(p.length:Int)<=(l.length:Int):=by omega
  clear h;go_enter Tryz.func220,Tryz.ntmps220
  go_wp2
  go_ret;exact⟨by rw[E.o];rfl,rfl⟩
theorem Kj (l p:L) (w:World) (hs:l.length<=1000000000) (hp:p.length<=1000000000):Calls Tryz.prog 198 #[.string ⟨l.toArray⟩,.string ⟨p.toArray⟩] w fun e w'=>
  e=.returned (.bool (sufL p l))/\w=w':=by
 have c1:=GV l p w hs hp;go_enter Tryz.func198,Tryz.ntmps198
 go_wp2_with (go_at_call 220;refine Aj c1 ?_;rintro w1 rfl)
 go_ret;exact⟨rfl,rfl⟩
theorem Gi (l p:L) (w:World) (hs:l.length<=1000000000) (hp:p.length<=1000000000):Calls Tryz.prog 199 #[.string ⟨l.toArray⟩,.string ⟨p.toArray⟩] w fun e w'=>
  e=.returned (.bool (preB p l))/\w=w':=by
 have c1:Calls Tryz.prog 205 #[.string ⟨l.toArray⟩,.string ⟨p.toArray⟩] w fun e w'=>e=.returned (.bool (preB p l))/\w=w':=En l p w hs hp
 go_enter Tryz.func199,Tryz.ntmps199
 go_wp2_with (go_at_call 205;refine Aj c1 ?_;rintro w1 rfl)
 go_ret;exact⟨rfl,rfl⟩
def tsL (p l:L):L:=if sufL p l then l.take (l.length - p.length) else l
def tpL (p l:L):L:=if preB p l then l.drop p.length else l
theorem GW (l p:L) (w:World) (hs:l.length<=1000000000) (hp:p.length<=1000000000):Calls Tryz.prog 222 #[.string ⟨l.toArray⟩,.string ⟨p.toArray⟩] w fun e w'=>
  e=.returned (.string ⟨(tsL p l).toArray⟩)/\w=w':=by
 have c1:=GV l p w hs hp
 by_cases h:sufL p l=true
 ·have D:=SP h
  obtain⟨k,hk⟩:∃k,l.length=k+p.length:=⟨l.length - p.length,by omega⟩;have E:=I (show tsL p l=l.take k by rw[tsL,if_pos h];congr 1;omega);rw[h] at c1;have J:(l.length:Int) - (p.length:Int)=(k:Int):=by omega
  have F:(k:Int)<=(l.length:Int):=by omega
  clear h D hk;go_enter Tryz.func222,Tryz.ntmps222
  go_wp2_with (go_at_call 220;refine Aj c1 ?_;rintro w1 rfl)
  go_ret;exact⟨by rw[E.o];rfl,rfl⟩
 ·have h:sufL p l=false:=by simpa using h
  have E:=I (show tsL p l=l by rw[tsL,if_neg (by simp [h])]);rw[h] at c1;clear h;go_enter Tryz.func222,Tryz.ntmps222
  go_wp2_with (go_at_call 220;refine Aj c1 ?_;rintro w1 rfl)
  go_ret;exact⟨by rw[E.o];rfl,rfl⟩
theorem Kk (l p:L) (w:World) (hs:l.length<=1000000000) (hp:p.length<=1000000000):Calls Tryz.prog 201 #[.string ⟨l.toArray⟩,.string ⟨p.toArray⟩] w fun e w'=>
  e=.returned (.string ⟨(tsL p l).toArray⟩)/\w=w':=by
 have c1:=GW l p w hs hp;go_enter Tryz.func201,Tryz.ntmps201
 go_wp2_with (go_at_call 222;refine Aj c1 ?_;rintro w1 rfl)
 go_ret;exact⟨rfl,rfl⟩
theorem Wj {p l:L} (h:preB p l=true):p.length<=l.length:=by
 obtain⟨u,rfl⟩:=FN.1 h;simp
theorem GX (l p:L) (w:World) (hs:l.length<=1000000000) (hp:p.length<=1000000000):Calls Tryz.prog 221 #[.string ⟨l.toArray⟩,.string ⟨p.toArray⟩] w fun e w'=>
  e=.returned (.string ⟨(tpL p l).toArray⟩)/\w=w':=by
 have c1:Calls Tryz.prog 205 #[.string ⟨l.toArray⟩,.string ⟨p.toArray⟩] w fun e w'=>e=.returned (.bool (preB p l))/\w=w':=En l p w hs hp
 by_cases h:preB p l=true
 ·have D:=Wj h
  have E:=I (show tpL p l=l.drop p.length by rw[tpL,if_pos h]);rw[h] at c1;have F:(p.length:Int)<=(l.length:Int):=by omega
  clear h D;go_enter Tryz.func221,Tryz.ntmps221
  go_wp2_with (go_at_call 205;refine Aj c1 ?_;rintro w1 rfl)
  go_ret;exact⟨by rw[E.o];rfl,rfl⟩
 ·have h:preB p l=false:=by simpa using h
  have E:=I (show tpL p l=l by rw[tpL,if_neg (by simp [h])]);rw[h] at c1;clear h;go_enter Tryz.func221,Tryz.ntmps221
  go_wp2_with (go_at_call 205;refine Aj c1 ?_;rintro w1 rfl)
  go_ret;exact⟨by rw[E.o];rfl,rfl⟩
theorem Gj (l p:L) (w:World) (hs:l.length<=1000000000) (hp:p.length<=1000000000):Calls Tryz.prog 200 #[.string ⟨l.toArray⟩,.string ⟨p.toArray⟩] w fun e w'=>
  e=.returned (.string ⟨(tpL p l).toArray⟩)/\w=w':=by
 have c1:=GX l p w hs hp;go_enter Tryz.func200,Tryz.ntmps200
 go_wp2_with (go_at_call 221;refine Aj c1 ?_;rintro w1 rfl)
 go_ret;exact⟨rfl,rfl⟩
def ixL (r:L) (ls:List L):Int:=if r∈ls then ((ls.findIdx fun x=>decide (x=r):Nat):Int) else -1
theorem Px {ls:List L} {r:L} {i:Nat} (hi:i<ls.length) (h:pl ls i=r) (D:∀k,k<i->pl ls k≠r):ixL r ls=(i:Int):=by
 have hm:r∈ls:=by rw[<-h];exact Dc hi
 rw[ixL,if_pos hm]
 congr 1
 rcases Nat.lt_trichotomy (ls.findIdx fun x=>decide (x=r)) i with g | g | g
 ·have:=List.findIdx_getElem (p:=fun x=>decide (x=r)) (w:=(by omega:(ls.findIdx fun x=>decide (x=r))<ls.length))
  exact absurd (by rw[Ct (by omega)];simpa using this) (D _ g)
 ·exact g
 ·have:=List.not_of_lt_findIdx g
  rw[Ct hi] at h;simp [h] at this
theorem SQ {ls:List L} {r:L} (D:∀k,k<ls.length->pl ls k≠r):ixL r ls = -1:=by
 rw[ixL,if_neg];intro hm;obtain⟨i,hi,e⟩:=mem_pl hm;exact D i hi e
theorem Zk (r:L) (ls:List L):decide (0<=ixL r ls)=decide (r∈ls):=by
 rw[ixL]
 by_cases h:r∈ls
 ·rw[if_pos h];simp [h]
 ·rw[if_neg h];simp [h]
theorem QM (ls:List L) (A:Option Addr) (c B:Nat) (r:L) (w:World) (hl:ls.length<=9000000000000000) (M:Rd w B A (strs ls)) :
  Calls Tryz.prog 82 #[.slice A ls.length c,.string ⟨r.toArray⟩] w fun e w'=>e=.returned (.int .i64 (ixL r ls))/\w=w':=by
 have O:=I M;clear M;obtain⟨n,en⟩:=Ak (ls.length);rw[<-en] at hl⊢;have F:=I en;clear en;go_enter Tryz.func82,Tryz.ntmps82
 go_wp2
 go_loop [8] (fun J=>∃i:Nat,i<=n/\J=.int .i64 (i:Int)/\∀k,k<i->pl ls k≠r) (fun J=>n - (intOf J).toNat)
 case atStart=>exact⟨0,Nat.zero_le _,rfl,fun k h=>absurd h (Nat.not_lt_zero k)⟩
 case round=>
  obtain⟨i,hi,rfl,N⟩:=hrel;have D:=I N;clear N
  by_cases hlt:i<n
  ·have e1:(i:Int)<(n:Int):=by omega
   have e2:(0:Int)<=(i:Int):=by omega
   obtain⟨b,o,rfl,_,h1⟩:=CQ O.o (i:=i) (by rw[<-F.o];exact hlt)
   by_cases hx:pl ls i=r
   ·have Z:(r==pl ls i)=true:=by simpa using hx.symm
    have E:=I (Px (by rw[<-F.o];exact hlt) hx D.o);clear hx
    go_wp2
    go_ret;exact⟨by rw[E.o];rfl,rfl⟩
   ·have Z:(r==pl ls i)=false:=by simpa using fun g:r=pl ls i=>hx g.symm
    have HX:=I hx;clear hx
    go_wp2
    go_round
    case rel=>exact⟨i+1,by omega,by go_num,fun k hk=>by
     by_cases q:k=i
     ·rw[q];exact HX.o
     ·exact D.o k (by omega)⟩
    case measure=>simp [intOf];omega
  ·have e1:¬(i:Int)<(n:Int):=by omega
   have E:=I (SQ (ls:=ls) (r:=r) fun k hk=>D.o k (by have:=F.o;omega))
   go_wp2
   go_ret;exact⟨by rw[E.o];rfl,rfl⟩
theorem BP (ls:List L) (A:Option Addr) (c B:Nat) (r:L) (w:World) (M:ls.length<=9000000000000000) (F:Rd w B A (strs ls)) :
  Calls Tryz.prog 41 #[.slice A ls.length c,.string ⟨r.toArray⟩] w fun e w'=>e=.returned (.bool (decide (r∈ls)))/\w=w':=by
 have c1:=QM ls A c B r w M F;have E:=I (Zk r ls);obtain⟨z,D⟩:=Ak (ixL r ls);rw[<-D] at c1;have J:=I D;clear D F;go_enter Tryz.func41,Tryz.ntmps41
 go_wp2_with (go_at_call 82;refine Aj c1 ?_;rintro w1 rfl)
 go_ret;exact⟨by rw[<-E.o,<-J.o];rfl,rfl⟩
end Tr
namespace Tr
open Go.RowKit Af Nm
def Far (w w':World) (v v':Value):Prop:=w.heap.size<=w'.heap.size/\∀b,b<w.heap.size->v.ownBlock≠some b->w'.heap[b]? = w.heap[b]?/\v'.ownBlock≠some b
theorem Far.refl (w:World) (v:Value):Far w w v v:=⟨Nat.le_refl _,fun _ _ h=>⟨rfl,h⟩⟩
theorem Far.trans {w w1 D:World} {v v1 v2:Value} (h:Far w w1 v v1) (k:Far w1 D v1 v2):Far w D v v2:=by
 refine⟨Nat.le_trans h.1 k.1,fun b E F=>?_⟩;obtain⟨a1,J⟩:=h.2 b E F;obtain⟨c1,c2⟩:=k.2 b (Nat.lt_of_lt_of_le E h.1) J;exact⟨c1.trans a1,c2⟩
theorem Far.below {w w':World} (v:Value) (h:Below w.heap.size w w'):Far w w' v v:=⟨h.size,fun b E D=>⟨h.block b E,D⟩⟩
theorem SR {w w':World} {b:Nat} (h:w'.heap[b]? = w.heap[b]?) (o:Nat):w'.cell? ⟨b,o,none⟩=w.cell? ⟨b,o,none⟩:=by
 simp only[World.cell?,h]
def Off (A:Option Addr) (v:Value):Prop:=∀b o,A=some ⟨b,o,none⟩->v.ownBlock≠some b
theorem Far.rd {w w':World} {v v':Value} {A:Option Addr} {xs:List Value} (h:Far w w' v v') (F:Rd w w.heap.size A xs) (J:Off A v):Rd w' w'.heap.size A xs/\(xs = []\/Off A v'):=by
 rcases F with g | ⟨b,o,rfl,D,N⟩
 ·exact⟨.inl g,.inl g⟩
 ·obtain⟨E,M⟩:=h.2 b D (J b o rfl)
  refine⟨.inr ⟨b,o,rfl,Nat.lt_of_lt_of_le D h.1,fun i u hu=>(SR E _).trans (N i u hu)⟩,.inr ?_⟩;intro Z O e;injection e with e;injection e with e1 e2;subst e1;exact M
theorem Lp {w:World} {v:Value} {ls:List L} {base:Nat} (h:Own w base v ls) {w':World} {v2:Value} {A:Option Addr} {n c:Nat} {ms:List L} (E:Own w' w.heap.size v2 ms) (e:v2=.slice A n c):Off A v:=by
 intro b o eA D;have F:=(h.lt b D).2;subst eA;subst e;rcases E.2 with⟨q,_⟩ | ⟨g,cap,cur,q,J,_⟩
 ·cases q
 ·injection q with q1
  injection q1 with q1;injection q1 with q1 q2;omega
theorem Wk (w:World) (base:Nat) (ty:TypeId) (v:Value) (ls:List L) (D:Own w base v ls) (B:Nat) (a:Addr) (c:Nat) (ms:List L) (hr:Rd w B (some a) (strs ms))
  (hl:ls.length+ms.length<=8000000000000) (hb:base<=w.heap.size) :
  ∃v' w',(Builtin.append_ #[70,70] ty #[v,.slice (some a) ms.length c]).run Tryz.prog w=.ok v' w'/\Own w' base v' (ls++ms)/\Own w' base v ls/\w.grownBy w' v.ownBlock/\(v'.ownBlock=v.ownBlock\/v'.ownBlock=some w.heap.size):=by
 obtain⟨i0,Z,bz,M,bB⟩:=info_parts IV;have O:(strs ms).length=ms.length:=Df ms;obtain⟨v',w',E,h2,h3,h4⟩:=GD (P:=Tryz.prog) w base 70 ty 9 i0 _ 16 Tryz.underlying70 Z bz M bB rfl v ls.length (strs ls) D B (some a) ms.length c (strs ms) O.symm hr (Lf _) (by unfold maxLen;omega) (by omega) hb;have F:∀j u,(strs ms)[j]? = some u->w.cell? (a.add j)=some u:=by
  rcases hr with h | ⟨b,o,h1,_,h3⟩
  ·rw[h];intro i u hu;simp at hu
  ·injection h1 with h1
   subst h1;intro i u hu;rw[addr_add];exact h3 i u hu
 refine⟨v',w',E,by rw[Own,List.length_append,Jq];exact h2,?_,h3,h4⟩;rcases D.2 with⟨rfl,hx⟩ | ⟨g,cap,cur,rfl,cg,hg,cc,ca,cp,cb⟩
 ·have e:ls = []:=List.eq_nil_of_length_eq_zero hx
  subst e;exact Own.nil _ _
 ·by_cases hroom:ls.length+ms.length<=cap
  ·obtain⟨w2,J,cf,_⟩:=run_append_fits (P:=Tryz.prog) (w:=w) base 70 ty 9 i0 1 Tryz.underlying70 Z M g ls.length cap (strs ls) D a ms.length c (strs ms) (by rw[O];omega) F (Lf _) hroom
   rw[E] at J;injection J with e1 e2;subst e1;subst e2;rcases cf.2 with⟨q,_⟩ | ⟨g',cj,aw,q,cn,cd,ck,cm,bx,N⟩
   ·cases q
   ·injection q with q1 q2 q3
    injection q1 with q1;injection q1 with q1;subst q1;subst q3;refine⟨D.1,.inr ⟨g,cap,aw,rfl,cg,cd,cc,ca,bx,?_⟩⟩;have e3:=congrArg (List.take (ls.length*1)) N;rw[List.take_take,Nat.min_eq_left (by omega)] at e3;rw[e3,List.take_left' (by rw[Df];omega)]
  ·have holds:∀j u,(strs ls)[j]? = some u->w.cell? ((⟨g,0,none⟩:Addr).add j)=some u:=World.ownsRow.cells (g:=g) D rfl
   have J:=run_append_grow (P:=Tryz.prog) w 70 ty 9 i0 _ Tryz.underlying70 Z bz ⟨g,0,none⟩ ls.length cap (strs ls) (by rw[M,Df];omega) holds a ms.length c (strs ms) (by rw[M,O];omega) F (by omega) (by omega) (by rw[bB];exact growslice_fits (by omega) (by omega));rw[E] at J;injection J with e1 e2;subst e2;exact D.below (((Below.refl _ _:Below w.heap.size w w).drew).alloc Ag _)
section
variable {w:World} {ops:Array Oper} {rest:List Oper} {o:Oper} {a:Act} {Q:Exit->Act->World->Prop}
theorem Wl (M:o.guard=none) (s x:Operand) (ho:o.op=.call {callee:=.builtin .append,args:=#[s,x],argTypes:=#[70,70]})
  (base:Nat) (v:Value) (ls:List L) (hs:a.eval s=v) (E:Own w base v ls) (r:L) (hx:a.eval x=.slice (some ⟨w.heap.size,0,none⟩) 1 1)
  (hl:ls.length+1<=8000000000000) (hb:base<=w.heap.size)
  (h:∀v' w',Own w' base v' (ls++[r])->Own w' base v ls->Far w w' v v'->Below base w w'->wpList Tryz.prog ops Q rest (a.put o.dst v') w'):wpList Tryz.prog ops Q (o :: rest) a (w.alloc (.cells #[.string ⟨r.toArray⟩] 9)):=by
 have F:Below w.heap.size w (w.alloc (.cells #[.string ⟨r.toArray⟩] 9)):=Ah.alloc Ag _;have N:(w.alloc (.cells #[.string ⟨r.toArray⟩] 9)).heap.size=w.heap.size+1:=by simp
 have hr:Rd (w.alloc (.cells #[.string ⟨r.toArray⟩] 9)) (w.heap.size+1) (some ⟨w.heap.size,0,none⟩) (strs [r]):=by
  refine .inr ⟨w.heap.size,0,rfl,by omega,fun i u hu=>?_⟩;cases i with
  |zero=>
   simp only[strs,List.map_cons,List.map_nil,List.getElem?_cons_zero,Option.some.injEq] at hu;subst hu;exact(Blk.new w 9 _).cell 0
  |succ i=>simp [strs] at hu
 obtain⟨v',w',D,h2,h3,J,h5⟩:=Wk _ base o.type v ls (E.below F) (w.heap.size+1) ⟨w.heap.size,0,none⟩ 1 [r] hr hl (by omega);refine wpList_plain M fun K hK=>?_
 unfold Oper.wp execOp;simp only[List.length_cons,List.length_nil,Nat.zero_add] at D;simp only[ho,resolve,invoke,builtin,Sem.run_bind,Sem.run_pure,Result.andThen_ok,List.map_toArray,List.map_cons,List.map_nil,hs,hx,D];refine hK _ _ (h v' w' h2 h3 ⟨by have:=J.size;omega,fun b O Z=>⟨(J.block b (by omega) (fun e=>Z e.symm)).trans (F.block b O),?_⟩⟩ ?_)
 ·rcases h5 with g | g
  ·rw[g];exact Z
  ·rw[g,N];intro q;injection q with q;omega
 ·exact(F.mono hb).grown J (by omega) (fun k hk=>(E.lt k hk).1)
end
attribute [local go_sem] Ea List.getElem_cons_zero List.getElem_cons_succ BZ Ca Dd CJ
theorem Wm {f p:L} (h:sufL [46] f=true):Cx f p=f++p:=by rw[Cx,if_pos h]
theorem Zl {f p:L} (h:sufL [46] f=false) (D:preB [47] f=true) (E:AG p=2):Cx f p=p++f:=by rw[Cx,h,D,E];rfl
theorem Zm {f p:L} (h:sufL [46] f=false) (D:preB [47] f=false\/AG p≠2) (E:preB [32,47] f=true):Cx f p=f.drop 1:=by
 rw[Cx,h,E];rcases D with D | D
 ·rw[D];rfl
 ·rw[decide_eq_false D];simp
theorem SS {f p:L} (h:sufL [46] f=false) (D:preB [47] f=false\/AG p≠2) (E:preB [32,47] f=false):Cx f p=f:=by
 rw[Cx,h,E];rcases D with D | D
 ·rw[D];rfl
 ·rw[decide_eq_false D];simp
theorem Wn {f:L} (h:preB [32,47] f=true):tpL [32] f=f.drop 1:=by
 obtain⟨u,rfl⟩:=FN.1 h;rw[tpL,if_pos (show preB [32] ([32,47]++u)=true from FN.2 ⟨47 :: u,rfl⟩)];rfl
theorem Wo {r p:L} (h:BX r p=true) (hk:AG r=1):tsL p r=furL r p:=by
 obtain⟨u,e⟩:=Mv h hk;rw[tsL,if_pos (NW.2 ⟨u++[46],by rw[e];simp⟩),furL,if_pos h,if_pos hk]
theorem Wp {r p:L} (h:BX r p=true) (hk:AG r≠1):tpL p r=furL r p:=by
 have D:AG r=2:=by have:=Qp h;have:=Hp r;omega
 obtain⟨v,e⟩:=Mw h D;rw[tpL,if_pos (FN.2 ⟨_,e⟩),furL,if_pos h,if_neg hk]
theorem Lc (f p:L) (w:World) (hs:f.length<=100000) (hp:p.length<=100000):Calls Tryz.prog 160 #[.string ⟨f.toArray⟩,.string ⟨p.toArray⟩] w fun e w'=>
  e=.returned (.string ⟨(Cx f p).toArray⟩)/\AW w w':=by
 have c1:=Kj f [46] w (by omega) (by decide);have O:=I (AW.refl w);cases h:sufL [46] f with
 |true=>
  have E:=I ((Fk f p).trans (by rw[<-Wm (p:=p) h]));rw[h] at c1;clear h;go_enter Tryz.func160,Tryz.ntmps160
  go_wp2_with (go_at_call 198;refine Aj c1 ?_;rintro w1 rfl)
  go_ret;exact⟨by rw[<-E.o];rfl,O.o⟩
 |false=>
  rw[h] at c1;have c2:=Gi f [47] w (by omega) (by decide);have D:=I (fun w1=>Gi f [32,47] w1 (by omega) (by decide));have F:=I (fun w1=>Gj f [32] w1 (by omega) (by decide));have c5:=IU p w (by omega);cases h1:preB [47] f with
  |true=>
   rw[h1] at c2
   by_cases h2:AG p=2
   ·have E:=I ((Fk p f).trans (by rw[<-Zl h h1 h2]))
    rw[h2] at c5;clear h h1 h2 D F;go_enter Tryz.func160,Tryz.ntmps160
    go_wp2_with (first
     |(go_at_call 198;refine Aj c1 ?_;rintro w1 rfl)
     |(go_at_call 199;refine Aj c2 ?_;rintro w1 rfl)
     |(go_at_call 117;refine Aj c5 ?_;rintro w2 J;have M:=I J;clear J c5))
    go_ret;exact⟨by rw[<-E.o];rfl,M.o⟩
   ·have t:((AG p:Int)==2)=false:=by simp;omega
    cases h3:preB [32,47] f with
    |true=>
     exfalso
     obtain⟨u,e⟩:=FN.1 h1;obtain⟨v,g⟩:=FN.1 h3;rw[e] at g;have:=congrArg List.head? g;revert this;simp
    |false=>
     have c3:=fun w1=>D.o w1
     rw[h3] at c3;have N:=I c3;have E:=I (SS h (.inr h2) h3);clear h h1 h2 h3 D F c3;go_enter Tryz.func160,Tryz.ntmps160
     go_wp2_with (first
      |(go_at_call 198;refine Aj c1 ?_;rintro w1 rfl)
      |(go_at_call 199;refine Aj c2 ?_;rintro w1 rfl;clear c2)
      |(go_at_call 117;refine Aj c5 ?_;rintro w2 J;have M:=I J;clear J c5;have c3:=N.o w2)
      |(go_at_call 199;refine Aj c3 ?_;rintro Z rfl))
     go_ret;exact⟨by rw[E.o];rfl,M.o⟩
  |false=>
   rw[h1] at c2;cases h3:preB [32,47] f with
   |true=>
    have c3:=D.o w;rw[h3] at c3;have c4:=F.o w;rw[Wn h3,<-Zm (p:=p) h (.inl h1) h3] at c4;clear h h1 h3 D F;go_enter Tryz.func160,Tryz.ntmps160
    go_wp2_with (first
     |(go_at_call 198;refine Aj c1 ?_;rintro w1 rfl)
     |(go_at_call 199;refine Aj c2 ?_;rintro w1 rfl;clear c2)
     |(go_at_call 199;refine Aj c3 ?_;rintro Z rfl)
     |(go_at_call 200;refine Aj c4 ?_;rintro Z rfl))
    go_ret;exact⟨rfl,O.o⟩
   |false=>
    have c3:=D.o w;rw[h3] at c3;have E:=I (SS (p:=p) h (.inl h1) h3);clear h h1 h3 D F;go_enter Tryz.func160,Tryz.ntmps160
    go_wp2_with (first
     |(go_at_call 198;refine Aj c1 ?_;rintro w1 rfl)
     |(go_at_call 199;refine Aj c2 ?_;rintro w1 rfl;clear c2)
     |(go_at_call 199;refine Aj c3 ?_;rintro Z rfl))
    go_ret;exact⟨by rw[E.o];rfl,O.o⟩
theorem Od (r p:L) (w:World) (hs:r.length<=1000000000) (hp:p.length<=1000000000):Calls Tryz.prog 163 #[.string ⟨r.toArray⟩,.string ⟨p.toArray⟩] w fun e w'=>
  e=.returned (.string ⟨(furL r p).toArray⟩)/\Below w.heap.size w w':=by
 have c1:=IU r w hs;have c2:=fun w1=>Ml r p w1 hs
 have c3:=fun w1=>Kk r p w1 hs hp
 have c4:=fun w1=>Gj r p w1 hs hp
 have C3:=I c3;clear c3;have Z:=I c4;clear c4
 by_cases hk:AG r=1
 ·rw[hk] at c1
  cases h:BX r p with
  |true=>
   rw[h] at c2;have M:=I c2;have E:=I (Wo h hk);clear h hk c2 hs hp;go_enter Tryz.func163,Tryz.ntmps163
   go_wp2_with (first
    |(go_at_call 117;refine Aj c1 ?_;rintro w1 F;clear c1;have H1:=I F.below;clear F;have c2:=M.o w1)
    |(go_at_call 193;refine Aj c2 ?_;rintro N D;clear c2;have J:=H1.t D;clear D;have c3:=C3.o N)
    |(go_at_call 201;refine Aj c3 ?_;rintro O rfl))
   go_ret;exact⟨by rw[<-E.o];rfl,J.o⟩
  |false=>
   rw[h] at c2;have M:=I c2;have E:=I (NY h hk);clear h hk c2 hs hp;go_enter Tryz.func163,Tryz.ntmps163
   go_wp2_with (first
    |(go_at_call 117;refine Aj c1 ?_;rintro w1 F;clear c1;have H1:=I F.below;clear F;have c2:=M.o w1)
    |(go_at_call 193;refine Aj c2 ?_;rintro N D;clear c2;have J:=H1.t D;clear D))
   go_ret;exact⟨by rw[E.o];rfl,J.o⟩
 ·have t:((AG r:Int)==1)=false:=by simp;omega
  cases h:BX r p with
  |true=>
   rw[h] at c2;have M:=I c2;have E:=I (Wp h hk);clear h hk c2 hs hp;go_enter Tryz.func163,Tryz.ntmps163
   go_wp2_with (first
    |(go_at_call 117;refine Aj c1 ?_;rintro w1 F;clear c1;have H1:=I F.below;clear F;have c2:=M.o w1)
    |(go_at_call 193;refine Aj c2 ?_;rintro N D;clear c2;have J:=H1.t D;clear D;have c4:=Z.o N)
    |(go_at_call 200;refine Aj c4 ?_;rintro O rfl))
   go_ret;exact⟨by rw[<-E.o];rfl,J.o⟩
  |false=>
   rw[h] at c2;have M:=I c2;have E:=I (show ByteArray.mk #[32]++ByteArray.mk r.toArray=ByteArray.mk (furL r p).toArray by
    rw[show furL r p = [32]++r by rw[furL,if_neg (by simp [h]),if_neg hk];rfl];exact Fk [32] r)
   clear h hk c2;go_enter Tryz.func163,Tryz.ntmps163
   go_wp2_with (first
    |(go_at_call 117;refine Aj c1 ?_;rintro w1 F;clear c1;have H1:=I F.below;clear F;have c2:=M.o w1)
    |(go_at_call 193;refine Aj c2 ?_;rintro N D;clear c2;have J:=H1.t D;clear D))
   go_ret;exact⟨by rw[<-E.o];rfl,J.o⟩
theorem Et (v:Value) (ls:List L) (r:L) (w:World) (base:Nat) (ho:Own w base v ls) (D:base<=w.heap.size) (hl:ls.length<=1000000) (hs:r.length<=1000000000) :
  Calls Tryz.prog 162 #[v,.string ⟨r.toArray⟩] w fun e w'=>∃v',e=.returned v'/\Own w' base v' (addL ls r)/\Far w w' v v'/\Below base w w':=by
 obtain⟨A,c,rfl,hr⟩:=ho.slice;have c1:=BP ls A c _ r w (by omega) hr;have ca:=I (Below.refl base w);have HO:=I ho;clear ho hr;have bB:=I (Far.refl w (.slice A ls.length c))
 by_cases h:r∈ls
 ·rw[decide_eq_true h] at c1
  have E:=I (XT h);clear h D hl hs;go_enter Tryz.func162,Tryz.ntmps162
  go_wp2_with (go_at_call 41;refine Aj c1 ?_;rintro w1 rfl)
  go_ret;exact⟨_,rfl,by rw[E.o];exact HO.o,bB.o,ca.o⟩
 ·rw[decide_eq_false h] at c1
  have E:=I (SI h);have c2:=Bm r w hs;have J:=I D;have HL:=I hl;clear h hs D hl;go_enter Tryz.func162,Tryz.ntmps162
  go_wp2_with (first
   |(go_at_call 41;refine Aj c1 ?_;rintro w1 rfl)
   |(go_at_call 42;refine Aj c2 ?_;rintro w2 D;clear c2;have H2:=I (D.mono J.o);have Z:=I (HO.o.below D);have M:=Nat.le_trans J.o D.size;have cb:=I M;have aw:=I (Far.below (.slice A ls.length c) D);clear D M)
   |(at_builtin;refine Wl rfl (.tmp 9) (.tmp 12) rfl base _ _ rfl Z.o r rfl (by have:=HL.o;omega) cb.o ?_;intro v' w3 F cc O N;rw[<-E.o] at F;have H3:=I (H2.o.trans N);have bx:=I F;have bz:=I (aw.o.trans O);clear F N cc O))
  go_ret;exact⟨_,rfl,bx.o,bz.o,H3.o⟩
theorem addsK (l ms:List L) (k:Nat) (h:k<ms.length):Fs l (ms.take (k+1))=addL (Fs l (ms.take k)) (pl ms k):=by
 rw[BG h,Ob];rfl
theorem Eu (v:Value) (ls ms:List L) (A2:Option Addr) (c2:Nat) (w:World) (base:Nat) (F:Own w base v ls) (J:base<=w.heap.size) (hl:ls.length+ms.length<=1000000) (hr:Rd w w.heap.size A2 (strs ms)) (M:Off A2 v) (hs:∀x∈ms,x.length<=1000000000) :
  Calls Tryz.prog 161 #[v,.slice A2 ms.length c2] w fun e w'=>∃v',e=.returned v'/\Own w' base v' (Fs ls ms)/\Far w w' v v'/\Below base w w':=by
 have HO:=I F;clear F;have HR:=I hr;clear hr;have bz:=I M;clear M;have HS:=I hs;clear hs;have cb:=I (Below.refl base w);have ca:=I (Far.refl w v);have aw:=I J;clear J;obtain⟨n,en⟩:=Ak (ms.length);rw[<-en] at hl⊢;have HL:=I hl;have hn:n<=1000000:=by omega
 have EN:=I en;clear en hl;go_enter Tryz.func161,Tryz.ntmps161
 go_wp2
 go_loopw [0,9] (fun vv iv wr=>∃i:Nat,i<=n/\iv=.int .i64 (i:Int)/\Own wr base vv (Fs ls (ms.take i))/\Far w wr v vv/\Below base w wr) (fun _ iv _=>n - (intOf iv).toNat)
 case atStart=>exact⟨0,Nat.zero_le _,rfl,HO.o,ca.o,cb.o⟩
 case round=>
  obtain⟨i,hi,rfl,F,hf,J⟩:=hrel;have Z:=I F;clear F;have N:=I hf;clear hf;have O:=I J;clear J
  by_cases hlt:i<n
  ·have e1:(i:Int)<(n:Int):=by omega
   have e2:(0:Int)<=(i:Int):=by omega
   have D:i<ms.length:=by rw[<-EN.o];exact hlt
   obtain⟨b,o,rfl,_,h1⟩:=CQ (N.o.rd HR.o bz.o).1 D;have c1:=Et _ _ (pl ms i) wr base Z.o (Nat.le_trans aw.o O.o.size) (by have:=Pw (ms.take i) ls;simp at this;have:=HL.o;omega) (HS.o _ (Dc D));rw[<-addsK ls ms i D] at c1;have HM:=I D;clear D
   go_wp2_with (go_at_call 162;refine Calls.mono c1 ?_;rintro e w1 ⟨v',rfl,F,hf,J⟩;clear c1;have bx:=I F;have bB:=I (N.o.trans hf);have H1:=I (O.o.trans J);clear F J hf)
   go_roundw
   case rel=>exact⟨i+1,by omega,by go_num,bx.o,bB.o,H1.o⟩
   case measure=>simp [intOf];omega
  ·have e1:¬(i:Int)<(n:Int):=by omega
   have E:=I (show ms.take i=ms from List.take_of_length_le (by have:=EN.o;omega))
   go_wp2
   go_ret;exact⟨_,rfl,by rw[<-E.o];exact Z.o,N.o,O.o⟩
end Tr
namespace Tr
open Go.RowKit Af Nm
attribute [local go_sem] Ea List.getElem_cons_zero List.getElem_cons_succ BZ Ca Dd CJ
def OwnB (w:World) (base:Nat) (v:Value) (l:L):Prop:=w.ownsRow base 5 1 v l.length (bvs l)
theorem OwnB.nil (w:World) (base:Nat):OwnB w base (.slice none 0 0) []:=World.ownsRow_nil w base _ 1
theorem OwnB.below {w w':World} {base:Nat} {v:Value} {l:L} (h:OwnB w base v l) (D:Below w.heap.size w w'):OwnB w' base v l:=Ek h D
theorem OwnB.slice {w:World} {base:Nat} {v:Value} {l:L} (h:OwnB w base v l):∃A c,v=.slice A l.length c/\Rd w w.heap.size A (bvs l):=by
 have E:=h;rcases h.2 with⟨D,F⟩ | ⟨g,cap,cur,D,_⟩
 ·have e:l = []:=List.eq_nil_of_length_eq_zero F
  subst e;exact⟨none,0,D,.inl rfl⟩
 ·subst D
  exact⟨_,cap,rfl,Rd.of_own (n:=l.length) (cap:=cap) E⟩
theorem Oe (l:L):Lib.strCells ⟨l.toArray⟩=bvs l:=by simp [Lib.strCells,bvs,bv]
section
variable {w:World} {ops:Array Oper} {rest:List Oper} {o:Oper} {a:Act} {Q:Exit->Act->World->Prop}
theorem Of (E:o.guard=none) (s x:Operand) (ho:o.op=.call {callee:=.builtin .append,args:=#[s,x],argTypes:=#[27,9]})
  (base:Nat) (v:Value) (l:L) (hs:a.eval s=v) (D:OwnB w base v l) (m:L) (O:a.eval x=.string ⟨m.toArray⟩)
  (hl:l.length+m.length<=100000000000) (M:base<=w.heap.size)
  (h:∀v' w',OwnB w' base v' (l++m)->Below base w w'->wpList Tryz.prog ops Q rest (a.put o.dst v') w'):wpList Tryz.prog ops Q (o :: rest) a w:=by
 obtain⟨Z,hi,hz,J,F⟩:=info_parts Pg;refine Lib.wpList_append_own_string w E s x 27 9 ho base 5 Z Tryz.underlying27 Tryz.underlying9 hi hz J F v l.length (bvs l) hs D ⟨m.toArray⟩ O (by rw[Hs];unfold maxLen;omega) (by rw[Hs];omega) M ?_;intro v' w' N h2 _;refine h v' w' (by rw[OwnB,List.length_append,Bu,<-Oe m];rw[Hs] at N;exact N) ?_;exact Ah.grown h2 M (fun k hk=>(World.ownsRow.lt D k hk).1)
end
theorem Dk {ls:List L} {i:Nat} (h:(ls.take i).all isL=true) (hi:i<ls.length) (D:isL (pl ls i)=true):(ls.take (i+1)).all isL=true:=by
 rw[BG hi,List.all_append,h];simp [D]
theorem Zn {ls:List L} {i:Nat} (hi:i<ls.length) (D:isL (pl ls i)=false):ls.all isL=false:=by
 cases h:ls.all isL with
 |false=>rfl
 |true=>
  rw[List.all_eq_true] at h;have:=h _ (Dc hi);rw[D] at this;cases this
theorem SU {ls:List L} (h:ls.all isL=true) (k:Nat):(Fc ls k).length<=ls.length*38:=by
 have D:(ls.take k).all isL=true:=by
  rw[List.all_eq_true] at h⊢;exact fun x E=>h x (List.mem_of_mem_take E)
 have:=Pv D;rw[List.length_take] at this;have F:min k ls.length*38<=ls.length*38:=Nat.mul_le_mul_right _ (by omega);rw[Fc];omega
theorem Wq {ls:List L} (h:ls.all isL=false):Hx ls=([],1):=by rw[Hx,if_neg (by simp [h])]
theorem SV {ls:List L} (h:ls.all isL=true) (D:8<ls.length):Hx ls=([],13):=by rw[Hx,if_pos h,if_pos D]
theorem Zo {ls:List L} (h:ls.all isL=true) (D:ls.length<=8):Hx ls=(IH ls,0):=by rw[Hx,if_pos h,if_neg (by omega)]
theorem Wr (ls:List L) (A:Option Addr) (c:Nat) (w:World) (hl:ls.length<=9000000000000000) (hr:Rd w w.heap.size A (strs ls)) (hs:∀i,i<ls.length->(pl ls i).length<=1000000000) :
  Calls Tryz.prog 109 #[.slice A ls.length c] w fun e w'=>e=.returned (.tuple #[.string ⟨(Hx ls).1.toArray⟩,.int .i64 ((Hx ls).2:Int)])/\Below w.heap.size w w':=by
 have HR:=I hr;clear hr;have HS:=I hs;clear hs;obtain⟨N,eN⟩:=Ak (w.heap.size);rw[<-eN] at HR⊢;have cq:=I (show Below N w w by exact Below.refl _ _);have EN:=I eN;clear eN;have HN:=I (show ∀w1:World,Below N w w1->N<=w1.heap.size from fun w1 h=>by have:=h.size;have:=EN.o;omega);have IS:=I (fun(i:Nat) (h:i<ls.length) w1=>DM (pl ls i) w1 (HS.o i h));have FU:=I (fun(i j:Nat) (h:i<ls.length) (h2:j<ls.length) w1=>Od (pl ls i) (pl ls j) w1 (HS.o i h) (HS.o j h2));obtain⟨n,en⟩:=Ak (ls.length);rw[<-en] at hl⊢;have EL:=I en;clear en;go_enter Tryz.func109,Tryz.ntmps109
 go_wp2
 go_loopw [11] (fun iv wr=>∃i:Nat,i<=n/\iv=.int .i64 (i:Int)/\(ls.take i).all isL=true/\Below N w wr) (fun iv _=>n - (intOf iv).toNat)
 case atStart=>exact⟨0,Nat.zero_le _,rfl,by simp,cq.o⟩
 case round=>
  obtain⟨i,hi,rfl,ha,O⟩:=hrel;have HA:=I ha;clear ha;have D:=I O;clear O
  by_cases hlt:i<n
  ·have e1:(i:Int)<(n:Int):=by omega
   have e2:(0:Int)<=(i:Int):=by omega
   have J:i<ls.length:=by rw[<-EL.o];exact hlt
   have c1:=IS.o i J wr;have h1:=CQ (HR.o.below D.o) J;obtain⟨b,o,rfl,_,h1⟩:=h1;cases hx:isL (pl ls i) with
   |false=>
    rw[hx] at c1;have E:=I (Wq (Zn J hx));clear hx J
    go_wp2_with (go_at_call 75;refine Aj c1 ?_;rintro w1 hd;clear c1;have H1:=I (D.o.trans (hd.below.mono (HN.o _ D.o)));clear hd)
    go_ret2
    exact⟨by rw[E.o];rfl,H1.o⟩
   |true=>
    rw[hx] at c1;have HX:=I (Dk HA.o J hx);clear hx J
    go_wp2_with (go_at_call 75;refine Aj c1 ?_;rintro w1 hd;clear c1;have H1:=I (D.o.trans (hd.below.mono (HN.o _ D.o)));clear hd)
    go_roundw
    case rel=>exact⟨i+1,by omega,by go_num,HX.o,H1.o⟩
    case measure=>simp [intOf];omega
  ·have e1:¬(i:Int)<(n:Int):=by omega
   have ha:ls.all isL=true:=by
    have:=HA.o
    rwa [List.take_of_length_le (by have:=EL.o;omega)] at this
   clear HA;have HA:=I ha
   by_cases h8:8<n
   ·have g8:decide (8<(n:Int))=true:=by simp;omega
    have E:=I (SV ha (by rw[<-EL.o];exact h8));clear h8 ha
    go_wp2
    go_ret2
    exact⟨by rw[E.o];rfl,D.o⟩
   ·have g8:decide (8<(n:Int))=false:=by simp;omega
    have cg:n<=8:=by omega
    have E:=I (Zo ha (by rw[<-EL.o];exact cg));have HC:=I (show ∀k,(Fc ls k).length<=304 from fun k=>by have:=SU ha k;have:=EL.o;omega);have HP:=I (show ∀i,i<n->(pl ls i).length<=36 from fun i hi=>by
     have hm:pl ls i∈ls:=Dc (by rw[<-EL.o];exact hi);exact CR (Lo ha hm))
    clear h8 ha;obtain⟨w0,e0⟩:∃w0:World,w0=wr:=⟨_,rfl⟩
    go_wp2
    go_loopw [6,24] (fun vv iv wr=>∃k:Nat,k<=n/\iv=.int .i64 (k:Int)/\OwnB wr N vv (Fc ls k)/\Below N w wr) (fun _ iv _=>n - (intOf iv).toNat)
    case atStart=>exact⟨0,Nat.zero_le _,rfl,by rw[Mz];exact OwnB.nil _ _,D.o⟩
    case round=>
     clear e0 w0;obtain⟨k,hk,rfl,ho,O⟩:=hrel;have HO:=I ho;clear ho;replace D:=I O;clear O
     by_cases hlt:k<n
     ·have e1:(k:Int)<(n:Int):=by omega
      have e2:(0:Int)<=(k:Int):=by omega
      have M:k<ls.length:=by rw[<-EL.o];exact hlt
      by_cases hk0:k=0
      ·subst hk0
       have h1:=CQ (HR.o.below D.o) M;obtain⟨b,o,rfl,_,h1⟩:=h1;have cf:=h1;rw[Nat.add_zero] at cf;have EQ:=I (show Fc ls 0++pl ls 0=Fc ls (0+1) by rw[Mz,QL M];rfl)
       go_wp2_with (at_builtin;refine Of rfl (.tmp 31) (.tmp 32) rfl N _ _ rfl HO.o (pl ls 0) rfl (by have:=HC.o 0;have:=HP.o 0 hlt;omega) (HN.o _ D.o) ?_;intro v' w3 F Z;rw[EQ.o] at F;have H3:=I (D.o.trans Z);have bx:=I F;clear F Z)
       go_roundw
       case rel=>exact⟨0+1,by omega,rfl,bx.o,H3.o⟩
       case measure=>simp [intOf];omega
      ·obtain⟨j,rfl⟩:∃j,k=j+1:=⟨k - 1,by omega⟩
       have bB:j<ls.length:=by omega
       have t0:(((j+1:Nat):Int)==0)=false:=by simp;omega
       obtain⟨q,eq⟩:=Ak (j+1);have EQ:=I (show(Fc ls (j+1)++[44])++furL (pl ls (j+1)) (pl ls j)=Fc ls (j+1+1) by rw[SG M];simp);have cn:=HP.o (j+1) hlt;have cd:=SD (pl ls (j+1)) (pl ls j);have c1:=fun w1=>FU.o (j+1) j M bB w1
       have e3:((j+1:Nat):Int) - 1=(j:Int):=by omega
       have hR:=HR.o;have bz:=fun w1 (O:Below N w w1)=>CQ (hR.below O) M
       have cb:=fun w1 (O:Below N w w1)=>CQ (hR.below O) bB
       rw[<-eq] at EQ c1 t0 e3 hk hlt e1 e2 bz M cn cd HO⊢;have cr:q≠0:=by omega
       have C1:=I c1;have cp:=I bz;have ck:=I cb;have e4:(0:Int)<=(j:Int):=by omega
       have e5:(j:Int)<(n:Int):=by omega
       have QE:=I eq;clear c1 bz cb hR eq hk0;obtain⟨b,o,rfl,_,h1⟩:=cp.o wr D.o
       go_wp2_with (first
        |(at_builtin;refine Of rfl (.tmp 34) (.const (.string ⟨#[44]⟩)) rfl N _ _ rfl HO.o [44] rfl (by have:=HC.o q;simp;omega) (HN.o _ D.o) ?_;intro v' w3 F Z;have H3:=I (D.o.trans Z);have bx:=I F;clear F Z h1;have g1:=ck.o w3 H3.o;obtain⟨b2,o2,eb,_,g1⟩:=g1;injection eb with eb;injection eb with eb1 eb2;subst eb1;subst eb2;have c1:=C1.o w3)
        |(go_at_call 163;refine Aj c1 ?_;rintro w4 O;clear c1 g1;have H4:=I (H3.o.trans (O.mono (HN.o _ H3.o)));have cm:=I (bx.o.below O);clear O)
        |(at_builtin;refine Of rfl (.tmp 36) (.tmp 43) rfl N _ _ rfl cm.o _ rfl (by have:=HC.o q;simp;omega) (HN.o _ H4.o) ?_;intro v' w5 aw ca;rw[EQ.o] at aw;have H5:=I (H4.o.trans ca);have cj:=I aw;clear aw ca))
       go_roundw
       case rel=>exact⟨q+1,by omega,by go_num,cj.o,H5.o⟩
       case measure=>simp [intOf];omega
     ·have e1:¬(k:Int)<(n:Int):=by omega
      have ek:Fc ls k=IH ls:=by rw[<-VW ls,show k=ls.length by rw[<-EL.o];omega]
      rw[ek] at HO;obtain⟨A2,c2,rfl,cc⟩:=HO.o.slice;have ct:=Dt (P:=Tryz.prog) wr 27 5 Tryz.underlying27 Tryz.underlying5 cc (IH ls).length c2 rfl 9 Tryz.underlying9;clear cc ek
      go_wp2
      go_ret2
      exact⟨by rw[E.o];rfl,D.o⟩
end Tr
namespace Tr
open Go.RowKit Af Nm
attribute [local go_sem] Ea List.getElem_cons_zero List.getElem_cons_succ BZ Ca Dd CJ
def JD (s:L) (more:Bool):List L:=if more then split 44 s else []
def gm (more:Bool) (s:L):Nat:=if more then s.length+1 else 0
theorem Ws (s:L):JD s true=bef 44 s :: JD (aft 44 s) (hasC 44 s):=by
 rw[JD,if_pos rfl,Fi,JD];cases h:hasC 44 s with
 |true=>rfl
 |false=>rw[IL ((FK _ _).1 h)];rfl
theorem gm_lt (s:L):gm (hasC 44 s) (aft 44 s)<gm true s:=by
 rw[gm,gm,if_pos rfl];cases h:hasC 44 s with
 |true=>
  rw[if_pos rfl];have hm:=(Em _ _).1 h;have:=XM (c:=44) (l:=s) (by rintro rfl;simp at hm);omega
 |false=>rw[if_neg (by simp)];omega
theorem XU {c p:L} (h:p≠[]):Gt c p=p:=if_neg h
theorem Wt (c:L):Gt c []=c:=rfl
theorem SW {l:List L} (h:l.length<=8):Ki l=(l,0):=by rw[Ki,if_neg (by omega)]
theorem SX {l:List L} (h:8<l.length):Ki l=([],13):=by rw[Ki,if_pos h]
theorem XV (c:L) (l:List L) (p r:L):II c l p r true=Fs l (Bb (Gt c p) r):=rfl
theorem XW (c:L) (l:List L) (p r:L):II c l p r false=l:=rfl
theorem Iw {a b:L}:∀x∈Bb a b,x.length<=1000000000:=fun x D=>by have:=CR (Io D);omega
def ExpV (w':World) (base:Nat) (e:Ending) (r:List L×Nat):Prop:=∃v,e=.returned (.tuple #[v,.int .i64 (r.2:Int)])/\Own w' base v r.1
theorem Zp (s c sv:L) (w:World) (O:c.length<=1000000000) (Z:sv.length<=1000000000) (h:isL c=false\/isL sv=false) :
  Calls Tryz.prog 108 #[.string ⟨s.toArray⟩,.string ⟨c.toArray⟩,.string ⟨sv.toArray⟩] w fun e w'=>ExpV w' w.heap.size e (expL s c sv)/\Below w.heap.size w w':=by
 have E:=I (bK (s:=s) h);have c1:=DM c w O;have J:=I (fun w1=>DM sv w1 Z);cases h1:isL c with
 |false=>
  rw[h1] at c1;clear h h1;go_enter Tryz.func108,Tryz.ntmps108
  go_wp2_with (go_at_call 75;refine Aj c1 ?_;rintro w1 D;clear c1;have H1:=I D.below;clear D)
  go_ret2
  exact⟨⟨_,by rw[E.o];rfl,by rw[E.o];exact Own.nil _ _⟩,H1.o⟩
 |true=>
  rw[h1] at c1;have M:isL sv=false:=by
   rcases h with h | h
   ·rw[h1] at h;cases h
   ·exact h
  have c2:=fun w1=>J.o w1
  rw[M] at c2;have F:=I c2;clear h h1 M c2 J;go_enter Tryz.func108,Tryz.ntmps108
  go_wp2_with (first
   |(go_at_call 75;with_reducible refine Aj c1 ?_;rintro w1 D;clear c1;have H1:=I D.below;clear D;have c2:=F.o w1)
   |(go_at_call 75;with_reducible refine Aj c2 ?_;rintro w2 D;clear c2;have N:=I (H1.o.trans (D.below.mono H1.o.size));clear D))
  go_ret2
  exact⟨⟨_,by rw[E.o];rfl,by rw[E.o];exact Own.nil _ _⟩,N.o⟩
theorem Zq (s0 c sv:L) (w:World) (hs:s0.length<=90000) (hc:isL c=true) (hv:isL sv=true) :
  Calls Tryz.prog 108 #[.string ⟨s0.toArray⟩,.string ⟨c.toArray⟩,.string ⟨sv.toArray⟩] w fun e w'=>ExpV w' w.heap.size e (expL s0 c sv)/\Below w.heap.size w w':=by
 have lc:=CR ((Gs c).1 hc);have lv:=CR ((Gs sv).1 hv);have c1:=DM c w (by omega);have c2:=fun w1=>DM sv w1 (by omega)
 rw[hc] at c1;rw[hv] at c2;have C2:=I c2;clear c2;have ER:expF c sv (JD s0 (!List.isEmpty s0)) [] [] false=expL s0 c sv:=by
  by_cases h:s0 = []
  ·subst h;rw[SN hc hv];rfl
  ·rw[Wc hc hv h,JD,if_pos (by simpa using h)]
 obtain⟨R,eR⟩:=Ak (expL s0 c sv);rw[<-eR] at ER⊢;have eD:=I ER;have HS:=I hs;have LC:=I lc;have LV:=I lv;clear eR hc hv ER hs lc lv;obtain⟨N,eN⟩:=Ak (w.heap.size);rw[<-eN];have eH:=I (show Below N w w by exact Below.refl _ _);have EN:=I eN;clear eN;have HN:=I (show ∀w1:World,Below N w w1->N<=w1.heap.size from fun w1 h=>by have:=h.size;have:=EN.o;omega);go_enter Tryz.func108,Tryz.ntmps108
 go_wp2_with (first
  |(go_at_call 75;with_reducible refine Aj c1 ?_;rintro w1 D;clear c1;have H1:=I (D.below.mono (Nat.le_of_eq EN.o));clear D;have c2:=C2.o w1)
  |(go_at_call 75;with_reducible refine Aj c2 ?_;rintro w2 D;clear c2;have H2:=I (H1.o.trans (D.below.mono (HN.o _ H1.o)));clear D))
 go_loopg [0,8,9,10,11,12] (gm (!List.isEmpty s0) s0) (fun g ew vv pv lv nv mv wr=>∃(s p:L) (l:List L) (nl more:Bool),g=gm more s/\ew=.string ⟨s.toArray⟩/\pv=.string ⟨p.toArray⟩/\lv=.string ⟨(Gt c p).toArray⟩/\nv=.bool nl/\mv=.bool more/\expF c sv (JD s more) l p nl=R/\s.length<=90000/\l.length<=8/\p.length<=36/\Own wr N vv l/\Below N w wr)
 case atStart=>exact⟨s0,[],[],false,(!List.isEmpty s0),rfl,rfl,rfl,by rw[Wt],rfl,rfl,eD.o,HS.o,by simp,by simp,Own.nil _ _,H2.o⟩
 case round=>
  obtain⟨s,p,l,nl,more,hg,rfl,rfl,rfl,rfl,rfl,hR,ei,eg,ej,ho,hb⟩:=hrel;have HG:=I hg;clear hg;have HO:=I ho;clear ho;have HB:=I hb;clear hb;have cP:=I ei;clear ei;have bz:=I eg;clear eg;have cx:=I ej;clear ej;have ek:=I (show(Gt c p).length<=36 by
   rw[Gt];split
   ·exact LC.o
   ·exact cx.o)
  cases more with
  |false=>
   have HR:=I (show Ki (II c l p sv nl)=R from hR);clear hR;have et:=bz.o;obtain⟨A0,c0,rfl,eF⟩:=HO.o.slice;clear eF;cases nl with
   |false=>
    have e8:¬(8:Int)<(l.length:Int):=by omega
    have E:=I (show R=(l,0) by rw[<-HR.o,XW,SW bz.o]);clear et
    go_wp2
    go_ret2
    exact⟨⟨_,by rw[E.o];rfl,by rw[E.o];exact HO.o⟩,HB.o⟩
   |true=>
    have c3:=Gq (Gt c p) sv wr (by have:=ek.o;omega) (by have:=LV.o;omega);have cc:=Eo (Gt c p) sv;have cb:=Iw (a:=Gt c p) (b:=sv);rw[XV] at HR;obtain⟨M,eM⟩:=Ak (Bb (Gt c p) sv);rw[<-eM] at c3 cc cb HR;have cm:=I cc;clear cc;have cp:=I cb;clear cb;clear eM;obtain⟨K,eK⟩:=Ak (Fs l M);rw[<-eK] at HR;have EK:=I eK;clear eK
    by_cases h8:8<K.length
    ·have e8:(8:Int)<(K.length:Int):=by omega
     have E:=I (show R=([],13) by rw[<-HR.o,SX h8]);clear h8
     go_wp2_with (first
      |(go_at_call 156;refine Calls.mono c3 ?_;rintro e w3 ⟨v3,rfl,cg,ck⟩;clear c3;obtain⟨A3,c3,e3,ct⟩:=cg.slice;have Z:=Lp HO.o cg e3;subst e3;have H3:=I (HB.o.trans (ck.mono (HN.o _ HB.o)));have c4:=Eu _ l M A3 c3 w3 N (HO.o.below ck) (HN.o _ H3.o) (by have:=bz.o;have:=cm.o;omega) ct Z cp.o;rw[<-EK.o] at c4;clear Z cg ck ct)
      |(go_at_call 161;refine Calls.mono c4 ?_;rintro e w4 ⟨v4,rfl,ca,ea,cw⟩;clear c4 ea;obtain⟨A4,c4,rfl,_⟩:=ca.slice;have ev:=I ca;have H4:=I (H3.o.trans cw);clear ca cw))
     go_ret2
     exact⟨⟨_,by rw[E.o];rfl,by rw[E.o];exact Own.nil _ _⟩,H4.o⟩
    ·have e8:¬(8:Int)<(K.length:Int):=by omega
     have E:=I (show R=(K,0) by rw[<-HR.o,SW (by omega)]);clear h8
     go_wp2_with (first
      |(go_at_call 156;refine Calls.mono c3 ?_;rintro e w3 ⟨v3,rfl,cg,ck⟩;clear c3;obtain⟨A3,c3,e3,ct⟩:=cg.slice;have Z:=Lp HO.o cg e3;subst e3;have H3:=I (HB.o.trans (ck.mono (HN.o _ HB.o)));have c4:=Eu _ l M A3 c3 w3 N (HO.o.below ck) (HN.o _ H3.o) (by have:=bz.o;have:=cm.o;omega) ct Z cp.o;rw[<-EK.o] at c4;clear Z cg ck ct)
      |(go_at_call 161;refine Calls.mono c4 ?_;rintro e w4 ⟨v4,rfl,ca,ea,cw⟩;clear c4 ea;obtain⟨A4,c4,rfl,_⟩:=ca.slice;have ev:=I ca;have H4:=I (H3.o.trans cw);clear ca cw))
     go_ret2
     exact⟨⟨_,by rw[E.o];rfl,by rw[E.o];exact ev.o⟩,H4.o⟩
  |true=>
   rw[Ws] at hR;have c3:=NC s 44 wr (by have:=cP.o;omega);have cy:=gm_lt s;rw[<-HG.o] at cy;have cB:=RJ 44 s;have cL:=Nx 44 s;obtain⟨u,eu⟩:=Ak (bef 44 s);obtain⟨s2,es⟩:=Ak (aft 44 s);obtain⟨m2,em⟩:=Ak (hasC 44 s);rw[<-eu,<-es,<-em] at c3;rw[<-eu,<-es,<-em] at hR;rw[<-es,<-em] at cy;rw[<-eu] at cB;rw[<-es] at cL;have cA:=I cy;clear cy;have er:=I (Nat.le_trans cB cP.o);clear cB;have eb:=I (Nat.le_trans cL cP.o);clear cL;clear eu es em
   by_cases hu:u = []
   ·subst hu
    rw[SK] at hR;have HR:=I hR;clear hR
    go_wp2_with (go_at_call 159;refine Aj c3 ?_;rintro w3 D;clear c3;have H3:=I (HB.o.trans (D.below.mono (HN.o _ HB.o)));have eB:=I (HO.o.below D.below);clear D)
    go_roundg (gm m2 s2)
    case measure=>exact cA.o
    case rel=>exact⟨s2,p,l,true,m2,rfl,rfl,rfl,rfl,rfl,rfl,HR.o,eb.o,bz.o,cx.o,eB.o,H3.o⟩
   ·have tu:(u == [])=false:=by simpa using hu
    have c4:=fun w1=>Lc u p w1 (by have:=er.o;omega) (by have:=cx.o;omega)
    have ey:=VT u p;obtain⟨q,eq⟩:=Ak (Cx u p);have c5:=fun w1=>DM q w1 (by rw[eq];have:=er.o;have:=cx.o;omega)
    rw[<-eq] at c4;have C4:=I c4;clear c4;have EQ:=I eq;clear eq ey;have HU:=I hu;clear hu;cases hq:isL q with
    |false=>
     have E:=I (show R=([],2) by rw[<-hR,Wb HU.o (by rw[<-EQ.o];exact hq)]);rw[hq] at c5;have C5:=I c5;clear hR c5 hq
     go_wp2_with (first
      |(go_at_call 159;refine Aj c3 ?_;rintro w3 D;clear c3;have H3:=I (HB.o.trans (D.below.mono (HN.o _ HB.o)));clear D;have c4:=C4.o w3)
      |(go_at_call 160;refine Aj c4 ?_;rintro w4 D;clear c4;have H4:=I (H3.o.trans (D.below.mono (HN.o _ H3.o)));clear D;have c5:=C5.o w4)
      |(go_at_call 75;refine Aj c5 ?_;rintro w5 D;clear c5;have H5:=I (H4.o.trans (D.below.mono (HN.o _ H4.o)));clear D))
     go_ret2
     exact⟨⟨_,by rw[E.o];rfl,by rw[E.o];exact Own.nil _ _⟩,H5.o⟩
    |true=>
     have ed:=CR ((Gs q).1 hq);have ef:=Ch ((Gs q).1 hq);rw[hq] at c5;have C5:=I c5;have HQ:=I hq;have cj:=I ed;have ep:=I ef;clear c5 hq ed ef;have F:=fun h8=>SL (c:=c) (sv:=sv) (t:=JD s2 m2) (l:=l) (n:=nl) HU.o (by rw[<-EQ.o];exact HQ.o:isL (Cx u p)=true) h8
     have O:=fun h8=>SM (c:=c) (sv:=sv) (t:=JD s2 m2) (l:=l) (n:=nl) HU.o (by rw[<-EQ.o];exact HQ.o:isL (Cx u p)=true) h8
     rw[<-EQ.o] at F O;cases nl with
     |false=>
      rw[XW] at F O;have c6:=fun w1 ez=>Et _ l q w1 N (HO.o.below (w':=w1) ez)
      obtain⟨K,eK⟩:=Ak (addL l q);rw[<-eK] at F O c6;have C6:=I c6;have EK:=I eK;clear c6 eK
      by_cases h8:8<K.length
      ·have e8:(8:Int)<(K.length:Int):=by omega
       have E:=I (show R=([],13) by rw[<-hR,O h8]);clear h8 hR F O
       go_wp2_with (first
        |(go_at_call 159;refine Aj c3 ?_;rintro w3 D;clear c3;have G3:=I D.below;have H3:=I (HB.o.trans (D.below.mono (HN.o _ HB.o)));clear D;have c4:=C4.o w3)
        |(go_at_call 160;refine Aj c4 ?_;rintro w4 D;clear c4;have G4:=I (bt G3.o D.below);have H4:=I (H3.o.trans (D.below.mono (HN.o _ H3.o)));clear D;have c5:=C5.o w4)
        |(go_at_call 75;refine Aj c5 ?_;rintro w5 D;clear c5;have G5:=I (bt G4.o D.below);have H5:=I (H4.o.trans (D.below.mono (HN.o _ H4.o)));clear D;have c6:=C6.o w5 G5.o (HN.o _ H5.o) (by have:=bz.o;omega) (by have:=cj.o;omega))
        |(go_at_call 162;refine Calls.mono c6 ?_;rintro e w6 ⟨v6,rfl,aw,cd,bx⟩;clear c6 cd;obtain⟨A6,c6,rfl,_⟩:=aw.slice;have H6:=I (H5.o.trans bx);clear aw bx))
       go_ret2
       exact⟨⟨_,by rw[E.o];rfl,by rw[E.o];exact Own.nil _ _⟩,H6.o⟩
      ·have e8:¬(8:Int)<(K.length:Int):=by omega
       have cQ:=I (show K.length<=8 by omega);have HR:=I (show expF c sv (JD s2 m2) K q false=R by rw[<-hR,F (by omega)]);clear h8 hR F O
       go_wp2_with (first
        |(go_at_call 159;refine Aj c3 ?_;rintro w3 D;clear c3;have G3:=I D.below;have H3:=I (HB.o.trans (D.below.mono (HN.o _ HB.o)));clear D;have c4:=C4.o w3)
        |(go_at_call 160;refine Aj c4 ?_;rintro w4 D;clear c4;have G4:=I (bt G3.o D.below);have H4:=I (H3.o.trans (D.below.mono (HN.o _ H3.o)));clear D;have c5:=C5.o w4)
        |(go_at_call 75;refine Aj c5 ?_;rintro w5 D;clear c5;have G5:=I (bt G4.o D.below);have H5:=I (H4.o.trans (D.below.mono (HN.o _ H4.o)));clear D;have c6:=C6.o w5 G5.o (HN.o _ H5.o) (by have:=bz.o;omega) (by have:=cj.o;omega))
        |(go_at_call 162;refine Calls.mono c6 ?_;rintro e w6 ⟨v6,rfl,aw,cd,bx⟩;clear c6 cd;obtain⟨A6,c6,rfl,_⟩:=aw.slice;have H6:=I (H5.o.trans bx);have cR:=I aw;clear aw bx))
       go_roundg (gm m2 s2)
       case measure=>exact cA.o
       case rel=>exact⟨s2,q,K,false,m2,rfl,rfl,rfl,by rw[XU ep.o],rfl,rfl,HR.o,eb.o,cQ.o,cj.o,cR.o,H6.o⟩
     |true=>
      rw[XV] at F O;have c7:=fun w1=>Gq (Gt c p) q w1 (by have:=ek.o;omega) (by have:=cj.o;omega)
      have cc:=Eo (Gt c p) q;have cb:=Iw (a:=Gt c p) (b:=q);obtain⟨M,eM⟩:=Ak (Bb (Gt c p) q);rw[<-eM] at c7 cc cb F O;have C7:=I c7;clear c7;have cm:=I cc;clear cc;have cp:=I cb;clear cb;clear eM;obtain⟨J,eJ⟩:=Ak (Fs l M);have eo:=I (show J.length<=17 by rw[eJ];have:=Pw M l;have:=bz.o;have:=cm.o;omega);rw[<-eJ] at F O;have EJ:=I eJ;clear eJ;obtain⟨K,eK⟩:=Ak (addL J q);rw[<-eK] at F O;have EK:=I eK;clear eK
      by_cases h8:8<K.length
      ·have e8:(8:Int)<(K.length:Int):=by omega
       have E:=I (show R=([],13) by rw[<-hR,O h8]);clear h8 hR F O
       go_wp2_with (first
        |(go_at_call 159;refine Aj c3 ?_;rintro w3 D;clear c3;have G3:=I D.below;have H3:=I (HB.o.trans (D.below.mono (HN.o _ HB.o)));clear D;have c4:=C4.o w3)
        |(go_at_call 160;refine Aj c4 ?_;rintro w4 D;clear c4;have G4:=I (bt G3.o D.below);have H4:=I (H3.o.trans (D.below.mono (HN.o _ H3.o)));clear D;have c5:=C5.o w4)
        |(go_at_call 75;refine Aj c5 ?_;rintro w5 D;clear c5;have G5:=I (bt G4.o D.below);have H5:=I (H4.o.trans (D.below.mono (HN.o _ H4.o)));have cu:=I (HO.o.below G5.o);clear D;have c7:=C7.o w5)
        |(go_at_call 156;refine Calls.mono c7 ?_;rintro e w7 ⟨v7,rfl,bB,cf⟩;clear c7;obtain⟨A7,c7,e7,cn⟩:=bB.slice;have Z:=Lp cu.o bB e7;subst e7;have H7:=I (H5.o.trans (cf.mono (HN.o _ H5.o)));have c8:=Eu _ l M A7 c7 w7 N (cu.o.below cf) (HN.o _ H7.o) (by have:=bz.o;have:=cm.o;omega) cn Z cp.o;rw[<-EJ.o] at c8;clear Z bB cf cn)
        |(go_at_call 161;refine Calls.mono c8 ?_;rintro e w8 ⟨v8,rfl,cq,ec,cr⟩;clear c8 ec;have H8:=I (H7.o.trans cr);have c6:=Et _ J q w8 N cq (HN.o _ H8.o) (by have:=eo.o;omega) (by have:=cj.o;omega);rw[<-EK.o] at c6;clear cq cr)
        |(go_at_call 162;refine Calls.mono c6 ?_;rintro e w6 ⟨v6,rfl,aw,cd,bx⟩;clear c6 cd;obtain⟨A6,c6,rfl,_⟩:=aw.slice;have H6:=I (H8.o.trans bx);clear aw bx))
       go_ret2
       exact⟨⟨_,by rw[E.o];rfl,by rw[E.o];exact Own.nil _ _⟩,H6.o⟩
      ·have e8:¬(8:Int)<(K.length:Int):=by omega
       have cQ:=I (show K.length<=8 by omega);have HR:=I (show expF c sv (JD s2 m2) K q false=R by rw[<-hR,F (by omega)]);clear h8 hR F O
       go_wp2_with (first
        |(go_at_call 159;refine Aj c3 ?_;rintro w3 D;clear c3;have G3:=I D.below;have H3:=I (HB.o.trans (D.below.mono (HN.o _ HB.o)));clear D;have c4:=C4.o w3)
        |(go_at_call 160;refine Aj c4 ?_;rintro w4 D;clear c4;have G4:=I (bt G3.o D.below);have H4:=I (H3.o.trans (D.below.mono (HN.o _ H3.o)));clear D;have c5:=C5.o w4)
        |(go_at_call 75;refine Aj c5 ?_;rintro w5 D;clear c5;have G5:=I (bt G4.o D.below);have H5:=I (H4.o.trans (D.below.mono (HN.o _ H4.o)));have cu:=I (HO.o.below G5.o);clear D;have c7:=C7.o w5)
        |(go_at_call 156;refine Calls.mono c7 ?_;rintro e w7 ⟨v7,rfl,bB,cf⟩;clear c7;obtain⟨A7,c7,e7,cn⟩:=bB.slice;have Z:=Lp cu.o bB e7;subst e7;have H7:=I (H5.o.trans (cf.mono (HN.o _ H5.o)));have c8:=Eu _ l M A7 c7 w7 N (cu.o.below cf) (HN.o _ H7.o) (by have:=bz.o;have:=cm.o;omega) cn Z cp.o;rw[<-EJ.o] at c8;clear Z bB cf cn)
        |(go_at_call 161;refine Calls.mono c8 ?_;rintro e w8 ⟨v8,rfl,cq,ec,cr⟩;clear c8 ec;have H8:=I (H7.o.trans cr);have c6:=Et _ J q w8 N cq (HN.o _ H8.o) (by have:=eo.o;omega) (by have:=cj.o;omega);rw[<-EK.o] at c6;clear cq cr)
        |(go_at_call 162;refine Calls.mono c6 ?_;rintro e w6 ⟨v6,rfl,aw,cd,bx⟩;clear c6 cd;obtain⟨A6,c6,rfl,_⟩:=aw.slice;have H6:=I (H8.o.trans bx);have cR:=I aw;clear aw bx))
       go_roundg (gm m2 s2)
       case measure=>exact cA.o
       case rel=>exact⟨s2,q,K,false,m2,rfl,rfl,rfl,by rw[XU ep.o],rfl,rfl,HR.o,eb.o,cQ.o,cj.o,cR.o,H6.o⟩
theorem Zr (s c sv:L) (w:World) (hs:s.length<=90000) (E:c.length<=1000000000) (D:sv.length<=1000000000) :
  Calls Tryz.prog 108 #[.string ⟨s.toArray⟩,.string ⟨c.toArray⟩,.string ⟨sv.toArray⟩] w fun e w'=>ExpV w' w.heap.size e (expL s c sv)/\Below w.heap.size w w':=by
 by_cases h:isL c=true/\isL sv=true
 ·exact Zq s c sv w hs h.1 h.2
 ·refine Zp s c sv w E D ?_
  cases h1:isL c with
  |false=>exact .inl rfl
  |true=>
   cases h2:isL sv with
   |false=>exact .inr rfl
   |true=>exact absurd ⟨h1,h2⟩ h
end Tr
namespace Tr
open Go.RowKit Af Nm
attribute [local go_sem] Ea List.getElem_cons_zero List.getElem_cons_succ BZ Ca Dd CJ
theorem Zs {s c sv r:L} (h:(expL s c sv).2≠0):insL s c sv r=([],(expL s c sv).2):=by rw[insL,if_pos h]
theorem bL {s c sv r:L} (h:(expL s c sv).2=0) (D:isL r=false):insL s c sv r=([],1):=by rw[insL,if_neg (by omega),if_neg (by simp [D])]
theorem bM {s c sv r:L} (h:(expL s c sv).2=0) (D:isL r=true) (E:r=c\/r=sv\/r∈(expL s c sv).1):insL s c sv r=(s,0):=by rw[insL,if_neg (by omega),if_pos D,if_pos E]
theorem Zt {s c sv r:L} (h:(expL s c sv).2=0) (D:isL r=true) (E:¬(r=c\/r=sv\/r∈(expL s c sv).1)):insL s c sv r=Hx ((expL s c sv).1++[r]):=by rw[insL,if_neg (by omega),if_pos D,if_neg E]
theorem Zu (s c sv r:L) (w:World) (hs:s.length<=90000) (hc:c.length<=1000000000) (hv:sv.length<=1000000000) (hr:r.length<=1000000000) :
  Calls Tryz.prog 66 #[.string ⟨s.toArray⟩,.string ⟨c.toArray⟩,.string ⟨sv.toArray⟩,.string ⟨r.toArray⟩] w fun e w'=>e=.returned (.tuple #[.string ⟨(insL s c sv r).1.toArray⟩,.int .i64 ((insL s c sv r).2:Int)])/\Below w.heap.size w w':=by
 have c1:=Zr s c sv w hs hc hv;have aw:=Zi s c sv;have N:=Zj s c sv;have D:=fun h=>Zs (s:=s) (c:=c) (sv:=sv) (r:=r) h
 have Z:=fun h O=>bL (s:=s) (c:=c) (sv:=sv) (r:=r) h O
 have M:=fun h O h2=>bM (s:=s) (c:=c) (sv:=sv) (r:=r) h O h2
 have F:=fun h O h2=>Zt (s:=s) (c:=c) (sv:=sv) (r:=r) h O h2
 obtain⟨X,eX⟩:=Ak (expL s c sv);rw[<-eX] at c1 aw N D Z M F;obtain⟨l,k⟩:=X;simp only at c1 aw N D Z M F;have C2:=I (fun w1=>DM r w1 hr);have CL:=I (fun w1=>Bm s w1 (by omega));clear eX
 by_cases hk:k=0
 ·subst hk
  cases O:isL r with
  |false=>
   have E:=I (Z rfl O);have c2:=fun w1=>C2.o w1
   rw[O] at c2;have bx:=I c2;clear D Z M F O C2 c2 aw N hs hc hv hr;go_enter Tryz.func66,Tryz.ntmps66
   go_wp2_with (first
    |(go_at_call 108;refine Calls.mono c1 ?_;rintro e w1 ⟨⟨v,rfl,ho⟩,J⟩;clear c1;have HO:=I ho;have H1:=I J;clear ho J;have c2:=bx.o w1)
    |(go_at_call 75;refine Aj c2 ?_;rintro w2 hd;clear c2;have H2:=I (bt H1.o hd.below);clear hd))
   go_ret2
   exact⟨by rw[E.o];rfl,H2.o⟩
  |true=>
   have c2:=fun w1=>C2.o w1
   rw[O] at c2;have bx:=I c2;have ca:=I aw;have cg:=I N
   by_cases e1:r=c
   ·have E:=I (M rfl O (.inl e1))
    have t1:(r==c)=true:=by simpa using e1
    clear D Z M F O C2 c2 aw N hs hc hv hr e1;go_enter Tryz.func66,Tryz.ntmps66
    go_wp2_with (first
     |(go_at_call 108;refine Calls.mono c1 ?_;rintro e w1 ⟨⟨v,rfl,ho⟩,J⟩;clear c1;have HO:=I ho;have H1:=I J;clear ho J;have c2:=bx.o w1)
     |(go_at_call 75;refine Aj c2 ?_;rintro w2 hd;clear c2;have H2:=I (bt H1.o hd.below);clear hd;have c3:=CL.o w2)
     |(go_at_call 42;refine Aj c3 ?_;rintro w3 J;clear c3;have H3:=I (bt H2.o J);clear J))
    go_ret2
    exact⟨by rw[E.o];rfl,H3.o⟩
   ·have t1:(r==c)=false:=by simpa using e1
    by_cases e2:r=sv
    ·have E:=I (M rfl O (.inr (.inl e2)))
     have t2:(r==sv)=true:=by simpa using e2
     clear D Z M F O C2 c2 aw N hs hc hv hr e1 e2;go_enter Tryz.func66,Tryz.ntmps66
     go_wp2_with (first
      |(go_at_call 108;refine Calls.mono c1 ?_;rintro e w1 ⟨⟨v,rfl,ho⟩,J⟩;clear c1;have HO:=I ho;have H1:=I J;clear ho J;have c2:=bx.o w1)
      |(go_at_call 75;refine Aj c2 ?_;rintro w2 hd;clear c2;have H2:=I (bt H1.o hd.below);clear hd;have c3:=CL.o w2)
      |(go_at_call 42;refine Aj c3 ?_;rintro w3 J;clear c3;have H3:=I (bt H2.o J);clear J))
     go_ret2
     exact⟨by rw[E.o];rfl,H3.o⟩
    ·have t2:(r==sv)=false:=by simpa using e2
     by_cases e3:r∈l
     ·have E:=I (M rfl O (.inr (.inr e3)))
      have T3:=I (decide_eq_true e3);clear D Z M F O C2 c2 aw N hs hc hv hr e1 e2 e3;go_enter Tryz.func66,Tryz.ntmps66
      go_wp2_with (first
       |(go_at_call 108;refine Calls.mono c1 ?_;rintro e w1 ⟨⟨v,rfl,ho⟩,J⟩;clear c1;obtain⟨A,c0,rfl,bz⟩:=ho.slice;have HR:=I bz;have H1:=I J;clear ho J bz;have c2:=bx.o w1)
       |(go_at_call 75;refine Aj c2 ?_;rintro w2 hd;clear c2;have H2:=I (bt H1.o hd.below);have c4:=BP l A c0 _ r w2 (by have:=ca.o;omega) (HR.o.below hd.below);rw[T3.o] at c4;clear hd;have c3:=CL.o w2)
       |(go_at_call 41;refine Aj c4 ?_;rintro w4 rfl;clear c4)
       |(go_at_call 42;refine Aj c3 ?_;rintro w3 J;clear c3;have H3:=I (bt H2.o J);clear J))
      go_ret2
      exact⟨by rw[E.o];rfl,H3.o⟩
     ·have cb:=F rfl O (fun g=>g.elim e1 fun g=>g.elim e2 e3)
      have E:=I cb;have T3:=I (decide_eq_false e3);have HP:=I (show ∀i,i<(l++[r]).length->(pl (l++[r]) i).length<=1000000000 from fun i hi=>by
       have hm:=Dc hi;rcases List.mem_append.1 hm with g | g
       ·have:=CR (Lo N g);omega
       ·simp at g;rw[g];have:=CR ((Gs r).1 O);omega)
      obtain⟨K,eK⟩:=Ak (l++[r]);have c5:=fun A c w1=>Wr K A c w1 (by rw[eK];simp;omega)
      rw[<-eK] at HP E;have C5:=I c5;have EK:=I eK;clear D Z M F O C2 c2 aw N hs hc hv hr e1 e2 e3 cb c5 eK;go_enter Tryz.func66,Tryz.ntmps66
      go_wp2_with (first
       |(go_at_call 108;refine Calls.mono c1 ?_;rintro e w1 ⟨⟨v,rfl,ho⟩,J⟩;clear c1;obtain⟨A,c0,rfl,bz⟩:=ho.slice;have HR:=I bz;have HO:=I ho;have H1:=I J;clear ho J bz;have c2:=bx.o w1)
       |(go_at_call 75;refine Aj c2 ?_;rintro w2 hd;clear c2;have H2:=I (bt H1.o hd.below);have cf:=I (HO.o.below hd.below);have c4:=BP l A c0 _ r w2 (by have:=ca.o;omega) (HR.o.below hd.below);rw[T3.o] at c4;clear hd;have c3:=CL.o w2)
       |(go_at_call 41;refine Aj c4 ?_;rintro w4 rfl;clear c4)
       |(at_builtin;refine Gp rfl (.tmp 40) (.tmp 42) rfl w.heap.size _ _ rfl cf.o r rfl (by have:=ca.o;omega) H2.o.size ?_;intro v' w5 bB cc;rw[<-EK.o] at bB;obtain⟨A5,c6,rfl,cd⟩:=bB.slice;have H5:=I (H2.o.trans cc);have c7:=C5.o A5 c6 w5 cd HP.o;clear bB cc cd)
       |(go_at_call 109;refine Aj c7 ?_;rintro w7 J;clear c7;have H7:=I (bt H5.o J);clear J))
      go_ret2
      exact⟨by rw[E.o];rfl,H7.o⟩
 ·have E:=I (D hk)
  have t:((k:Int)==0)=false:=by simp;omega
  clear D Z M F hk aw N hs hc hv hr;go_enter Tryz.func66,Tryz.ntmps66
  go_wp2_with (go_at_call 108;refine Calls.mono c1 ?_;rintro e w1 ⟨⟨v,rfl,ho⟩,J⟩;clear c1;have HO:=I ho;have H1:=I J;clear ho J)
  go_ret2
  exact⟨by rw[E.o];rfl,H1.o⟩
end Tr
end Go.Proofs.YthgignaohimadaaGreat
