import Derived.Test.YtfcjeebnkigeaaaGreatZKdcFirst2
set_option maxHeartbeats 25600000
set_option maxRecDepth 100000
set_option linter.unusedVariables false
set_option linter.unusedSimpArgs false
namespace Go.Proofs.YtfcjeebnkigeaaaGreat
section
namespace Tr
open Nm
theorem Qh (c:UInt8) (l:L):((split c l).map fun p=>p.length+1).sum=l.length+1:=by
 induction l with
 |nil=>simp [split]
 |cons y r ih=>
  rw[split]
  by_cases e:y=c
  ·rw[if_pos e];simp [ih];omega
  ·rw[if_neg e]
   cases hs:split c r with
   |nil=>exact absurd hs (JG c r)
   |cons a t=>
    rw[hs] at ih;simp only[List.map_cons,List.sum_cons,List.length_cons] at ih⊢;omega
theorem Xg {ls:List L} (h:ls.all (BQ capB)=true):(ls.map fun p=>p.length+1).sum≤9*ls.length:=by
 induction ls with
 |nil=>simp
 |cons a t ih=>
  simp only[List.all_cons,Bool.and_eq_true] at h;have h1:=((Eh _ _).1 h.1).2.1;have:=ih h.2;simp only[List.map_cons,List.sum_cons,List.length_cons];omega
theorem Nj {c:UInt8} {l:L} (h:Cb (split c l)=true):l.length≤35:=by
 have h1:=(Hx _).1 h;have h2:=Xg h1.2.2;have h3:=Qh c l;omega
theorem kind_two' {l:L} (h:Bm l=2):∃t,l=47 :: t∧Cb (split 47 t)=true:=by
 have h1:=SQ h;simp only[slL,Bool.and_eq_true,decide_eq_true_eq] at h1;cases l with
 |nil=>simp at h1
 |cons x t=>
  simp only[List.head?_cons,Option.some.injEq,List.tail_cons] at h1;exact⟨t,by rw[h1.1],h1.2⟩
theorem OI {l:L} (h:Bm l≠0):Bm l=1∨Bm l=2:=by have:=Vk l;omega
theorem Nk {l:L} (h:Bm l≠0):l.length≤36:=by
 rcases OI h with h | h
 ·have:=Nj (SP h);omega
 ·obtain⟨t,rfl,ht⟩:=kind_two' h
  have:=Nj ht;simp only[List.length_cons];omega
def sufL (p l:L):Bool:=p.isSuffixOf l
theorem Qi {p l:L}:sufL p l=true↔∃u,l=u++p:=by
 rw[sufL,List.isSuffixOf_iff_suffix];exact⟨fun⟨t,e⟩=>⟨t,e.symm⟩,fun⟨t,e⟩=>⟨t,e.symm⟩⟩
def preB (p l:L):Bool:=p.isPrefixOf l
theorem Ge {p l:L}:preB p l=true↔∃u,l=p++u:=by
 rw[preB,List.isPrefixOf_iff_prefix];exact⟨fun⟨t,e⟩=>⟨t,e.symm⟩,fun⟨t,e⟩=>⟨t,e.symm⟩⟩
def JS (f p:L):L:=if sufL [46] f then f++p else if preB [47] f&&decide (Bm p=2) then p++f else if preB [32,47] f then f.drop 1 else f
end Tr
end
section
namespace Tr
open Nm
def Dd (p:L) (m:List L):L:=if m = [] then p else pl m (m.length - 1)
def addL (l:List L) (r:L):List L:=if r∈l then l else l++[r]
end Tr
end
section
namespace Tr
open Go.RowKit Af Nm
attribute [local go_sem] Eg List.getElem_cons_zero List.getElem_cons_succ Cg Ch Dp De
theorem Tm {p l:L} {k:Nat} (h:l.length=k+p.length):(l.drop k==p)=sufL p l:=by
  rw[Bool.eq_iff_iff,Qi,beq_iff_eq];constructor
  · intro e
    exact ⟨l.take k, by conv => rhs; rw [← e]
                        exact(List.take_append_drop k l).symm⟩
  · rintro ⟨u, rfl⟩
    have:k=u.length:=by simp at h;omega
    rw[this];simp
theorem Vy {p l:L} (h:sufL p l=true):p.length≤l.length:=by
 obtain⟨u,rfl⟩:=Qi.1 h;simp
theorem JT (l p:L) (w:World) (hs:l.length≤1000000000) (hp:p.length≤1000000000):Calls Tryz.prog 293 #[.string ⟨l.toArray⟩,.string ⟨p.toArray⟩] w fun e w'=>
  e = .returned (.bool (sufL p l))∧w=w':=by
 by_cases h:p.length≤l.length
 ·obtain⟨k,hk⟩:∃k,l.length=k+p.length:=⟨l.length - p.length,by omega⟩
  have E:=I (Tm hk);have e1:(p.length:Int)≤(l.length:Int):=by omega
  have e2:(l.length:Int) - (p.length:Int)=(k:Int):=by omega
  have e3:(k:Int)≤(l.length:Int):=by omega
  clear h hk;go_enter Tryz.func293,Tryz.ntmps293
  go_wp2
  go_ret;exact⟨by rw[←E.o];rfl,rfl⟩
 ·have E:=I (show sufL p l=false by
   cases q:sufL p l with
   |false=>rfl
   |true=>exact absurd (Vy q) h)
  have e1:¬(p.length:Int)≤(l.length:Int):=by omega
  clear h;go_enter Tryz.func293,Tryz.ntmps293
  go_wp2
  go_ret;exact⟨by rw[E.o];rfl,rfl⟩
theorem Jf (l p:L) (w:World) (hs:l.length≤1000000000) (hp:p.length≤1000000000):Calls Tryz.prog 272 #[.string ⟨l.toArray⟩,.string ⟨p.toArray⟩] w fun e w'=>
  e = .returned (.bool (sufL p l))∧w=w':=by
 have c1:=JT l p w hs hp;go_enter Tryz.func272,Tryz.ntmps272
 go_wp2_with (go_at_call 293;refine Calls.mono c1 ?_;rintro e w1 ⟨rfl,rfl⟩)
 go_ret;exact⟨rfl,rfl⟩
theorem Fy (l p:L) (w:World) (hs:l.length≤1000000000) (hp:p.length≤1000000000):Calls Tryz.prog 273 #[.string ⟨l.toArray⟩,.string ⟨p.toArray⟩] w fun e w'=>
  e = .returned (.bool (preB p l))∧w=w':=by
 have c1:Calls Tryz.prog 280 #[.string ⟨l.toArray⟩,.string ⟨p.toArray⟩] w fun e w'=>e = .returned (.bool (preB p l))∧w=w':=DM l p w hs hp
 go_enter Tryz.func273,Tryz.ntmps273
 go_wp2_with (go_at_call 280;refine Calls.mono c1 ?_;rintro e w1 ⟨rfl,rfl⟩)
 go_ret;exact⟨rfl,rfl⟩
def tpL (p l:L):L:=if preB p l then l.drop p.length else l
theorem Tn {p l:L} (h:preB p l=true):p.length≤l.length:=by
 obtain⟨u,rfl⟩:=Ge.1 h;simp
theorem Gf (l p:L) (w:World) (hs:l.length≤1000000000) (hp:p.length≤1000000000):Calls Tryz.prog 294 #[.string ⟨l.toArray⟩,.string ⟨p.toArray⟩] w fun e w'=>
  e = .returned (.string ⟨(tpL p l).toArray⟩)∧w=w':=by
 have c1:Calls Tryz.prog 280 #[.string ⟨l.toArray⟩,.string ⟨p.toArray⟩] w fun e w'=>e = .returned (.bool (preB p l))∧w=w':=DM l p w hs hp
 by_cases h:preB p l=true
 ·have h1:=Tn h
  have E:=I (show tpL p l=l.drop p.length by rw[tpL,if_pos h]);rw[h] at c1;have e3:(p.length:Int)≤(l.length:Int):=by omega
  clear h h1;go_enter Tryz.func294,Tryz.ntmps294
  go_wp2_with (go_at_call 280;refine Calls.mono c1 ?_;rintro e w1 ⟨rfl,rfl⟩)
  go_ret;exact⟨by rw[E.o];rfl,rfl⟩
 ·have h:preB p l=false:=by simpa using h
  have E:=I (show tpL p l=l by rw[tpL,if_neg (by simp [h])]);rw[h] at c1;clear h;go_enter Tryz.func294,Tryz.ntmps294
  go_wp2_with (go_at_call 280;refine Calls.mono c1 ?_;rintro e w1 ⟨rfl,rfl⟩)
  go_ret;exact⟨by rw[E.o];rfl,rfl⟩
theorem Jg (l p:L) (w:World) (hs:l.length≤1000000000) (hp:p.length≤1000000000):Calls Tryz.prog 274 #[.string ⟨l.toArray⟩,.string ⟨p.toArray⟩] w fun e w'=>
  e = .returned (.string ⟨(tpL p l).toArray⟩)∧w=w':=by
 have c1:=Gf l p w hs hp;go_enter Tryz.func274,Tryz.ntmps274
 go_wp2_with (go_at_call 294;refine Calls.mono c1 ?_;rintro e w1 ⟨rfl,rfl⟩)
 go_ret;exact⟨rfl,rfl⟩
def ixL (r:L) (ls:List L):Int:=if r∈ls then ((ls.findIdx fun x=>decide (x=r):Nat):Int) else -1
theorem Nl {ls:List L} {r:L} {i:Nat} (hi:i<ls.length) (h:pl ls i=r) (hn:∀k,k<i→pl ls k≠r):ixL r ls=(i:Int):=by
 have hm:r∈ls:=by rw[←h];exact Jn hi
 rw[ixL,if_pos hm]
 congr 1
 rcases Nat.lt_trichotomy (ls.findIdx fun x=>decide (x=r)) i with g | g | g
 ·have:=List.findIdx_getElem (p:=fun x=>decide (x=r)) (w:=(by omega:(ls.findIdx fun x=>decide (x=r))<ls.length))
  exact absurd (by rw[Ej (by omega)];simpa using this) (hn _ g)
 ·exact g
 ·have:=List.not_of_lt_findIdx g
  rw[Ej hi] at h;simp [h] at this
theorem Qj {ls:List L} {r:L} (hn:∀k,k<ls.length→pl ls k≠r):ixL r ls = -1:=by
 rw[ixL,if_neg];intro hm;obtain⟨i,hi,e⟩:=mem_pl hm;exact hn i hi e
theorem Vz (r:L) (ls:List L):decide (0≤ixL r ls)=decide (r∈ls):=by
 rw[ixL]
 by_cases h:r∈ls
 ·rw[if_pos h];simp [h]
 ·rw[if_neg h];simp [h]
theorem OJ (ls:List L) (A:Option Addr) (c B:Nat) (r:L) (w:World) (hl:ls.length≤9000000000000000) (hr:Rd w B A (strs ls)) :
  Calls Tryz.prog 146 #[.slice A ls.length c,.string ⟨r.toArray⟩] w fun e w'=>e = .returned (.int .i64 (ixL r ls))∧w=w':=by
 have HR:=I hr;clear hr;obtain⟨n,en⟩:∃n,n=ls.length:=⟨_,rfl⟩;rw[←en] at hl⊢;have EN:=I en;clear en;go_enter Tryz.func146,Tryz.ntmps146
 go_wp2
 go_loop [8] (fun iv=>∃i:Nat,i≤n∧iv = .int .i64 (i:Int)∧∀k,k<i→pl ls k≠r) (fun iv=>n - (intOf iv).toNat)
 case atStart=>exact⟨0,Nat.zero_le _,rfl,fun k h=>absurd h (Nat.not_lt_zero k)⟩
 case round=>
  obtain⟨i,hi,rfl,hn⟩:=hrel;have HN:=I hn;clear hn
  by_cases hlt:i<n
  ·have e1:(i:Int)<(n:Int):=by omega
   have e2:(0:Int)≤(i:Int):=by omega
   obtain⟨b,o,rfl,_,h1⟩:=Ek HR.o (i:=i) (by rw[←EN.o];exact hlt)
   by_cases hx:pl ls i=r
   ·have t1:(r==pl ls i)=true:=by simpa using hx.symm
    have E:=I (Nl (by rw[←EN.o];exact hlt) hx HN.o);clear hx
    go_wp2
    go_ret;exact⟨by rw[E.o];rfl,rfl⟩
   ·have t1:(r==pl ls i)=false:=by simpa using fun g:r=pl ls i=>hx g.symm
    have HX:=I hx;clear hx
    go_wp2
    go_round
    case rel=>exact⟨i+1,by omega,by go_num,fun k hk=>by
     by_cases q:k=i
     ·rw[q];exact HX.o
     ·exact HN.o k (by omega)⟩
    case measure=>simp [intOf];omega
  ·have e1:¬(i:Int)<(n:Int):=by omega
   have E:=I (Qj (ls:=ls) (r:=r) fun k hk=>HN.o k (by have:=EN.o;omega))
   go_wp2
   go_ret;exact⟨by rw[E.o];rfl,rfl⟩
theorem Dg (ls:List L) (A:Option Addr) (c B:Nat) (r:L) (w:World) (hl:ls.length≤9000000000000000) (hr:Rd w B A (strs ls)) :
  Calls Tryz.prog 93 #[.slice A ls.length c,.string ⟨r.toArray⟩] w fun e w'=>e = .returned (.bool (decide (r∈ls)))∧w=w':=by
 have c1:=OJ ls A c B r w hl hr;have E:=I (Vz r ls);obtain⟨z,ez⟩:∃z,z=ixL r ls:=⟨_,rfl⟩;rw[←ez] at c1;have EZ:=I ez;clear ez hr;go_enter Tryz.func93,Tryz.ntmps93
 go_wp2_with (go_at_call 146;refine Calls.mono c1 ?_;rintro e w1 ⟨rfl,rfl⟩)
 go_ret;exact⟨by rw[←E.o,←EZ.o];rfl,rfl⟩
end Tr
end
section
namespace Tr
open Go.RowKit Af Nm
def Far (w w':World) (v v':Value):Prop:=w.heap.size≤w'.heap.size∧∀b,b<w.heap.size→v.ownBlock≠some b→w'.heap[b]? = w.heap[b]?∧v'.ownBlock≠some b
theorem Far.refl (w:World) (v:Value):Far w w v v:=⟨Nat.le_refl _,fun _ _ h=>⟨rfl,h⟩⟩
theorem Far.trans {w w1 w2:World} {v v1 v2:Value} (h:Far w w1 v v1) (k:Far w1 w2 v1 v2):Far w w2 v v2:=by
 refine⟨Nat.le_trans h.1 k.1,fun b hb hn=>?_⟩;obtain⟨a1,a2⟩:=h.2 b hb hn;obtain⟨c1,c2⟩:=k.2 b (Nat.lt_of_lt_of_le hb h.1) a2;exact⟨c1.trans a1,c2⟩
theorem Far.below {w w':World} (v:Value) (h:Below w.heap.size w w'):Far w w' v v:=⟨h.size,fun b hb hn=>⟨h.block b hb,hn⟩⟩
theorem Qk {w w':World} {b:Nat} (h:w'.heap[b]? = w.heap[b]?) (o:Nat):w'.cell? ⟨b,o,none⟩=w.cell? ⟨b,o,none⟩:=by
 simp only[World.cell?,h]
def Off (A:Option Addr) (v:Value):Prop:=∀b o,A=some ⟨b,o,none⟩→v.ownBlock≠some b
theorem Far.rd {w w':World} {v v':Value} {A:Option Addr} {xs:List Value} (h:Far w w' v v') (hr:Rd w w.heap.size A xs) (ho:Off A v):Rd w' w'.heap.size A xs∧(xs = []∨Off A v'):=by
 rcases hr with g | ⟨b,o,rfl,hb,hc⟩
 ·exact⟨.inl g,.inl g⟩
 ·obtain⟨h1,h2⟩:=h.2 b hb (ho b o rfl)
  refine⟨.inr ⟨b,o,rfl,Nat.lt_of_lt_of_le hb h.1,fun i u hu=>(Qk h1 _).trans (hc i u hu)⟩,.inr ?_⟩;intro b' o' e;injection e with e;injection e with e1 e2;subst e1;exact h2
section
variable {w:World} {ops:Array Oper} {rest:List Oper} {o:Oper} {a:Act} {Q:Exit→Act→World→Prop}
end
end Tr
end
section
namespace Tr
open Go.RowKit Af Nm
attribute [local go_sem] Eg List.getElem_cons_zero List.getElem_cons_succ Cg Ch Dp De
theorem To {f p:L} (h:sufL [46] f=true):JS f p=f++p:=by rw[JS,if_pos h]
theorem VA {f p:L} (h:sufL [46] f=false) (h1:preB [47] f=true) (h2:Bm p=2):JS f p=p++f:=by rw[JS,h,h1,h2];rfl
theorem VB {f p:L} (h:sufL [46] f=false) (h1:preB [47] f=false∨Bm p≠2) (h2:preB [32,47] f=true):JS f p=f.drop 1:=by
 rw[JS,h,h2];rcases h1 with h1 | h1
 ·rw[h1];rfl
 ·rw[decide_eq_false h1];simp
theorem Ql {f p:L} (h:sufL [46] f=false) (h1:preB [47] f=false∨Bm p≠2) (h2:preB [32,47] f=false):JS f p=f:=by
 rw[JS,h,h2];rcases h1 with h1 | h1
 ·rw[h1];rfl
 ·rw[decide_eq_false h1];simp
theorem Tq {f:L} (h:preB [32,47] f=true):tpL [32] f=f.drop 1:=by
 obtain⟨u,rfl⟩:=Ge.1 h;rw[tpL,if_pos (show preB [32] ([32,47]++u)=true from Ge.2 ⟨47 :: u,rfl⟩)];rfl
theorem MX (f p:L) (w:World) (hs:f.length≤100000) (hp:p.length≤100000):Calls Tryz.prog 239 #[.string ⟨f.toArray⟩,.string ⟨p.toArray⟩] w fun e w'=>
  e = .returned (.string ⟨(JS f p).toArray⟩)∧AM w w':=by
 have c1:=Jf f [46] w (by omega) (by decide);have HD:=I (AM.refl w);cases h:sufL [46] f with
 |true=>
  have E:=I ((FX f p).trans (by rw[←To (p:=p) h]));rw[h] at c1;clear h;go_enter Tryz.func239,Tryz.ntmps239
  go_wp2_with (go_at_call 272;refine Calls.mono c1 ?_;rintro e w1 ⟨rfl,rfl⟩)
  go_ret;exact⟨by rw[←E.o];rfl,HD.o⟩
 |false=>
  rw[h] at c1;have c2:=Fy f [47] w (by omega) (by decide);have C3:=I (fun w1=>Fy f [32,47] w1 (by omega) (by decide));have C4:=I (fun w1=>Jg f [32] w1 (by omega) (by decide));have c5:=MY p w (by omega);cases h1:preB [47] f with
  |true=>
   rw[h1] at c2
   by_cases h2:Bm p=2
   ·have E:=I ((FX p f).trans (by rw[←VA h h1 h2]))
    rw[h2] at c5;clear h h1 h2 C3 C4;go_enter Tryz.func239,Tryz.ntmps239
    go_wp2_with (first
     |(go_at_call 272;refine Calls.mono c1 ?_;rintro e w1 ⟨rfl,rfl⟩)
     |(go_at_call 273;refine Calls.mono c2 ?_;rintro e w1 ⟨rfl,rfl⟩)
     |(go_at_call 212;refine Calls.mono c5 ?_;rintro e w2 ⟨rfl,hd⟩;have H2:=I hd;clear hd c5))
    go_ret;exact⟨by rw[←E.o];rfl,H2.o⟩
   ·have t:((Bm p:Int)==2)=false:=by simp;omega
    cases h3:preB [32,47] f with
    |true=>
     exfalso
     obtain⟨u,e⟩:=Ge.1 h1;obtain⟨v,g⟩:=Ge.1 h3;rw[e] at g;have:=congrArg List.head? g;revert this;simp
    |false=>
     have c3:=fun w1=>C3.o w1
     rw[h3] at c3;have C3':=I c3;have E:=I (Ql h (.inr h2) h3);clear h h1 h2 h3 C3 C4 c3;go_enter Tryz.func239,Tryz.ntmps239
     go_wp2_with (first
      |(go_at_call 272;refine Calls.mono c1 ?_;rintro e w1 ⟨rfl,rfl⟩)
      |(go_at_call 273;refine Calls.mono c2 ?_;rintro e w1 ⟨rfl,rfl⟩;clear c2)
      |(go_at_call 212;refine Calls.mono c5 ?_;rintro e w2 ⟨rfl,hd⟩;have H2:=I hd;clear hd c5;have c3:=C3'.o w2)
      |(go_at_call 273;refine Calls.mono c3 ?_;rintro e w3 ⟨rfl,rfl⟩))
     go_ret;exact⟨by rw[E.o];rfl,H2.o⟩
  |false=>
   rw[h1] at c2;cases h3:preB [32,47] f with
   |true=>
    have c3:=C3.o w;rw[h3] at c3;have c4:=C4.o w;rw[Tq h3,←VB (p:=p) h (.inl h1) h3] at c4;clear h h1 h3 C3 C4;go_enter Tryz.func239,Tryz.ntmps239
    go_wp2_with (first
     |(go_at_call 272;refine Calls.mono c1 ?_;rintro e w1 ⟨rfl,rfl⟩)
     |(go_at_call 273;refine Calls.mono c2 ?_;rintro e w1 ⟨rfl,rfl⟩;clear c2)
     |(go_at_call 273;refine Calls.mono c3 ?_;rintro e w3 ⟨rfl,rfl⟩)
     |(go_at_call 274;refine Calls.mono c4 ?_;rintro e w3 ⟨rfl,rfl⟩))
    go_ret;exact⟨rfl,HD.o⟩
   |false=>
    have c3:=C3.o w;rw[h3] at c3;have E:=I (Ql (p:=p) h (.inl h1) h3);clear h h1 h3 C3 C4;go_enter Tryz.func239,Tryz.ntmps239
    go_wp2_with (first
     |(go_at_call 272;refine Calls.mono c1 ?_;rintro e w1 ⟨rfl,rfl⟩)
     |(go_at_call 273;refine Calls.mono c2 ?_;rintro e w1 ⟨rfl,rfl⟩;clear c2)
     |(go_at_call 273;refine Calls.mono c3 ?_;rintro e w3 ⟨rfl,rfl⟩))
    go_ret;exact⟨by rw[E.o];rfl,HD.o⟩
end Tr
end
section
namespace Tr
open Go.RowKit Af Nm
attribute [local go_sem] Eg List.getElem_cons_zero List.getElem_cons_succ Cg Ch Dp De
def OwnB (w:World) (base:Nat) (v:Value) (l:L):Prop:=w.ownsRow base 5 1 v l.length (bvs l)
theorem OwnB.nil (w:World) (base:Nat):OwnB w base (.slice none 0 0) []:=World.ownsRow_nil w base _ 1
theorem OwnB.below {w w':World} {base:Nat} {v:Value} {l:L} (h:OwnB w base v l) (hb:Below w.heap.size w w'):OwnB w' base v l:=Ff h hb
theorem OwnB.slice {w:World} {base:Nat} {v:Value} {l:L} (h:OwnB w base v l):∃A c,v = .slice A l.length c∧Rd w w.heap.size A (bvs l):=by
 have h':=h;rcases h.2 with⟨h1,h2⟩ | ⟨g,cap,cur,h1,_⟩
 ·have e:l = []:=List.eq_nil_of_length_eq_zero h2
  subst e;exact⟨none,0,h1,.inl rfl⟩
 ·subst h1
  exact⟨_,cap,rfl,Rd.of_own (n:=l.length) (cap:=cap) h'⟩
section
variable {w:World} {ops:Array Oper} {rest:List Oper} {o:Oper} {a:Act} {Q:Exit→Act→World→Prop}
end
theorem CG {ls:List L} {i:Nat} (h:(ls.take i).all isL=true) (hi:i<ls.length) (hx:isL (pl ls i)=true):(ls.take (i+1)).all isL=true:=by
 rw[Ha hi,List.all_append,h];simp [hx]
end Tr
end
section
namespace Ms
open DerP
open Nm (CD isL tgL BQ BS Bm)
abbrev Pr:=L×L
structure Tk where
 s:Pr
 k:Int
 b:L
deriving DecidableEq
structure Pt where
 c:Pr
 ss:L
 tr:L
 st:Int
 en:Int
deriving DecidableEq
structure Rp where
 ss:L
 s:Pr
 st:Int
 en:Int
 no:Int
deriving DecidableEq
structure As where
 c:Pr
 s:Pr
 t:Int
 no:Int
deriving DecidableEq
structure Tg where
 t:Tk
 a:L
 s:Pr
 u:Int
 no:Int
deriving DecidableEq
structure Re where
 c:Pr
 t:Tk
 b:L
deriving DecidableEq
structure Ap where
 t:Tk
 a:L
deriving DecidableEq
structure Fa where
 e:Int
 no:Int
deriving DecidableEq
structure Mg where
 k:Int
 aq:As
 tg:Tg
 re:Re
 ap:Ap
 fa:Fa
deriving DecidableEq
def pr0:Pr:=([],[])
def tk0:Tk:=⟨pr0,0,[]⟩
def as0:As:=⟨pr0,pr0,0,0⟩
def tg0:Tg:=⟨tk0,[],pr0,0,0⟩
def re0:Re:=⟨pr0,tk0,[]⟩
def ap0:Ap:=⟨tk0,[]⟩
def fa0:Fa:=⟨0,0⟩
def key0:L:=List.replicate 32 0
def pt0:Pt:=⟨pr0,key0,[],0,0⟩
def rp0:Rp:=⟨key0,pr0,0,0,0⟩
def inB (n a b:Int):Bool:=decide (a≤n)&&decide (n≤b)
def DB (b:L):Bool:=decide (1≤b.length)&&decide (b.length≤800)
def prB (p:Pr):Bool:=CD p.1 p.2
def tmB (n:Int):Bool:=inB n 0 1073741824
def tkB (t:Tk):Bool:=prB t.s&&(inB t.k 1 255&&DB t.b)
def txtB (l:L):Bool:=l.all fun x=>decide (32≤x.toNat)&&decide (x.toNat≤126)
def ptB (p:Pt):Bool:=txtB p.tr&&(prB p.c&&(decide (p.tr.length≤300)&&(tmB p.st&&tmB p.en)))
def rpB (p:Rp):Bool:=prB p.s&&(tmB p.st&&(tmB p.en&&tmB p.no))
def asB (q:As):Bool:=prB q.c&&(prB q.s&&(tmB q.t&&tmB q.no))
def tgB (q:Tg):Bool:=tkB q.t&&(DB q.a&&(prB q.s&&(tmB q.u&&tmB q.no)))
def reB (q:Re):Bool:=prB q.c&&(tkB q.t&&DB q.b)
def apB (q:Ap):Bool:=tkB q.t&&DB q.a
def faB (q:Fa):Bool:=inB q.e 1 255&&tmB q.no
def mgB (m:Mg):Bool:=
 if m.k=1 then asB m.aq&&decide (m=⟨1,m.aq,tg0,re0,ap0,fa0⟩)
 else if m.k=2 then tgB m.tg&&decide (m=⟨2,as0,m.tg,re0,ap0,fa0⟩)
 else if m.k=3 then reB m.re&&decide (m=⟨3,as0,tg0,m.re,ap0,fa0⟩)
 else if m.k=4 then apB m.ap&&decide (m=⟨4,as0,tg0,re0,m.ap,fa0⟩)
 else if m.k=5 then faB m.fa&&decide (m=⟨5,as0,tg0,re0,ap0,m.fa⟩)
 else false
def prE (p:Pr):L:=elem 48 [elem 27 p.1,elem 27 p.2].flatten
def tkE (t:Tk):L:=elem 97 [prE t.s,encI t.k,elem 4 t.b].flatten
def ptE (p:Pt):L:=elem 99 [prE p.c,elem 4 p.ss,elem 27 p.tr,encI p.st,encI p.en].flatten
def rpE (p:Rp):L:=elem 122 [elem 4 p.ss,prE p.s,encI p.st,encI p.en,encI p.no].flatten
def asE (q:As):L:=elem 106 [prE q.c,prE q.s,encI q.t,encI q.no].flatten
def tgE (q:Tg):L:=elem 108 [tkE q.t,elem 4 q.a,prE q.s,encI q.u,encI q.no].flatten
def reE (q:Re):L:=elem 107 [prE q.c,tkE q.t,elem 4 q.b].flatten
def apE (q:Ap):L:=elem 110 [tkE q.t,elem 4 q.a].flatten
def faE (q:Fa):L:=elem 126 [encI q.e,encI q.no].flatten
def mgE (m:Mg):L:=if m.k=1 then asE m.aq else if m.k=2 then tgE m.tg else if m.k=3 then reE m.re else if m.k=4 then apE m.ap else faE m.fa
def limO (ok:Bool) (l:L):Option L:=if ok=true∧l.length≤2000 then some l else none
def mgO (m:Mg):Option L:=limO (mgB m) (mgE m)
def ptO (p:Pt):Option L:=limO (ptB p) (ptE p)
def rpO (p:Rp):Option L:=limO (rpB p) (rpE p)
def whC (c:Option L):Bool:=decide (c=some [])
def txC (c:Option L):L:=(AF 27 c).getD []
def ocC (c:Option L):L:=(AF 4 c).getD []
def prI (d:Option L):Pr:=(txC d,txC (AZ 27 d))
def prP (c:Option L):Pr×Option L:=(prI (AF 48 c),if whC (AZ 27 (AZ 27 (AF 48 c))) then AZ 48 c else none)
def nmP (c:Option L):Int×Option L:=(((intC c).1:Int),(intC c).2)
def keP (c:Option L):L×Option L:=if (ocC c).length=32 then (ocC c,AZ 4 c) else (key0,none)
def ptP (b:L):Pt×Option L:=
 let c1:=prP (AF 99 (some b));let c2:=keP c1.2;let c3:=AZ 27 c2.2;let c4:=nmP c3;let c5:=nmP c4.2
 (⟨c1.1,c2.1,txC c2.2,c4.1,c5.1⟩,c5.2)
def rpP (b:L):Rp×Option L:=
 let c1:=keP (AF 122 (some b));let c2:=prP c1.2;let c3:=nmP c2.2;let c4:=nmP c3.2;let c5:=nmP c4.2
 (⟨c1.1,c2.1,c3.1,c4.1,c5.1⟩,c5.2)
def ptD (b:L):Option Pt:=if ptO (ptP b).1=some b then some (ptP b).1 else none
def rpD (b:L):Option Rp:=if rpO (rpP b).1=some b then some (rpP b).1 else none
theorem Av (t:UInt8) (p:L):(elem t p).length≤p.length+4:=by
 rw[DQ,BI];split
 ·omega
 ·split<;>omega
theorem AG (n:Int):(encI n).length≤12:=by
 have:=Av 2 (dig (BC n));have:=Hl n;rw[encI];omega
theorem Ts {n:L} (h:(tgL n||BQ BS n)=true):n.length≤43:=by
 rw[Bool.or_eq_true] at h;rcases h with h | h
 ·rw[Nm.tgL,Bool.and_eq_true] at h
  have h1:Bm (Nm.cpL Nm.krb n)≠0:=by have:=h.2;simp only[isL,decide_eq_true_eq] at this;omega
  have h2:=Tr.Nk h1;have h3:Nm.cpL Nm.krb n=n.drop 7:=by rw[Nm.cpL,h.1];rfl
  rw[h3,List.length_drop] at h2;omega
 ·have:=(Nm.Eh _ _).1 h
  omega
theorem Jr {p:Pr} (h:prB p=true):p.1.length≤36∧p.2.length≤43:=by
 rw[prB,CD,Bool.and_eq_true] at h;refine⟨Tr.Nk ?_,Ts h.2⟩;have:=h.1;simp only[isL,decide_eq_true_eq] at this;omega
theorem FK (a b:L):[a,b].flatten=a++b:=by simp
theorem LX (a b c:L):[a,b,c].flatten=a++(b++c):=by simp
theorem Tu (a b c d:L):[a,b,c,d].flatten=a++(b++(c++d)):=by simp
theorem DC (a b c d e:L):[a,b,c,d,e].flatten=a++(b++(c++(d++e))):=by simp
theorem Bn {p:Pr} (h:prB p=true):(prE p).length≤91∧[elem 27 p.1,elem 27 p.2].flatten.length≤87:=by
 have h1:=Jr h;have h2:=Av 27 p.1;have h3:=Av 27 p.2;have h4:=Av 48 [elem 27 p.1,elem 27 p.2].flatten;have h5:[elem 27 p.1,elem 27 p.2].flatten.length=(elem 27 p.1).length+(elem 27 p.2).length:=by simp
 rw[prE];omega
theorem Nn {t:Tk} (h:tkB t=true):prB t.s=true∧(1≤t.k∧t.k≤255)∧(1≤t.b.length∧t.b.length≤800):=by
 simpa [tkB,inB,DB] using h
theorem GJ {t:Tk} (h:tkB t=true):(tkE t).length≤911∧[prE t.s,encI t.k,elem 4 t.b].flatten.length≤907:=by
 obtain⟨h1,_,h2⟩:=Nn h;have h3:=(Bn h1).1;have h4:=AG t.k;have h5:=Av 4 t.b;have h6:=Av 97 [prE t.s,encI t.k,elem 4 t.b].flatten;have h7:[prE t.s,encI t.k,elem 4 t.b].flatten.length=(prE t.s).length+((encI t.k).length+(elem 4 t.b).length):=by simp
 rw[tkE];omega
section
variable {t:UInt8} {p r:L}
theorem be (h:p.length≤65535) (r:L):AF t (some (elem t p++r))=some p:=(CX (Dx t p r h)).1
theorem ne (h:p.length≤65535) (r:L):AZ t (some (elem t p++r))=some r:=(CX (Dx t p r h)).2
theorem be0 (h:p.length≤65535):AF t (some (elem t p))=some p:=by have:=be (t:=t) h [];rwa [List.append_nil] at this
theorem ne0 (h:p.length≤65535):AZ t (some (elem t p))=some []:=by have:=ne (t:=t) h [];rwa [List.append_nil] at this
theorem Xh (h:p.length≤65535) (r:L):txC (some (elem 27 p++r))=p:=by rw[txC,be h];rfl
theorem Xi (h:p.length≤65535):txC (some (elem 27 p))=p:=by rw[txC,be0 h];rfl
theorem oc_at (h:p.length≤65535) (r:L):ocC (some (elem 4 p++r))=p:=by rw[ocC,be h];rfl
end
theorem JU {n:Int} (h0:0≤n) (h1:n≤4611686018427387904) (r:L):nmP (some (encI n++r))=(n,some r):=by
 rw[nmP,Vv,Ib n h0 h1]
 congr 1
 omega
theorem Np {n:Int} (h0:0≤n) (h1:n≤4611686018427387904):nmP (some (encI n))=(n,some []):=by
 have:=JU h0 h1 [];rwa [List.append_nil] at this
theorem Qm {p:Pr} (h:prB p=true) (r:L):prP (some (prE p++r))=(p,some r):=by
 have h1:=Jr h;have h2:=(Bn h).2;rw[prP,prE,be (by omega),ne (by omega),FK,prI,Xh (by omega),ne (by omega),Xi (by omega),ne0 (by omega)]
 rfl
theorem Qn {k:L} (h:k.length=32) (r:L):keP (some (elem 4 k++r))=(k,some r):=by
 rw[keP,oc_at (by omega),if_pos h,ne (by omega)]
theorem Gg {n:Int} (h:tmB n=true):0≤n∧n≤1073741824:=by simpa [tmB,inB] using h
theorem Dh {p:Pt} (h:ptB p=true):txtB p.tr=true∧prB p.c=true∧p.tr.length≤300∧tmB p.st=true∧tmB p.en=true:=by
 simpa [ptB] using h
theorem Qo {p:Pt} (h:ptB p=true) (hk:p.ss.length=32):ptP (ptE p)=(p,some []):=by
 obtain⟨_,h2,h3,h4,h5⟩:=Dh h;have t4:=Gg h4;have t5:=Gg h5;have l1:=(Bn h2).1;have l2:=Av 4 p.ss;have l3:=Av 27 p.tr;have l4:=AG p.st;have l5:=AG p.en;have l6:[prE p.c,elem 4 p.ss,elem 27 p.tr,encI p.st,encI p.en].flatten.length≤65535:=by simp only[List.flatten_cons,List.flatten_nil,List.length_append,List.length_nil];omega
 rw[ptP,ptE,be0 l6,DC,Qm h2];simp only;rw[Qn hk];simp only;rw[Xh (by omega),ne (by omega),JU (by omega) (by omega)];simp only;rw[Np (by omega) (by omega)]
theorem Qp {p:Rp} (h:rpB p=true) (hk:p.ss.length=32):rpP (rpE p)=(p,some []):=by
 have h':prB p.s=true∧tmB p.st=true∧tmB p.en=true∧tmB p.no=true:=by simpa [rpB] using h
 obtain⟨h2,h4,h5,h6⟩:=h';have t4:=Gg h4;have t5:=Gg h5;have t6:=Gg h6;have l1:=(Bn h2).1;have l2:=Av 4 p.ss;have l4:=AG p.st;have l5:=AG p.en;have l6:=AG p.no;have l7:[elem 4 p.ss,prE p.s,encI p.st,encI p.en,encI p.no].flatten.length≤65535:=by simp only[List.flatten_cons,List.flatten_nil,List.length_append,List.length_nil];omega
 rw[rpP,rpE,be0 l7,DC,Qn hk];simp only;rw[Qm h2];simp only;rw[JU (by omega) (by omega)];simp only;rw[JU (by omega) (by omega)];simp only;rw[Np (by omega) (by omega)]
theorem CQ {b:L} (h:DB b=true):1≤b.length∧b.length≤800:=by simpa [DB] using h
theorem Nq {m:Mg} (h:mgB m=true) :
  (asB m.aq=true∧m=⟨1,m.aq,tg0,re0,ap0,fa0⟩)∨(tgB m.tg=true∧m=⟨2,as0,m.tg,re0,ap0,fa0⟩)∨(reB m.re=true∧m=⟨3,as0,tg0,m.re,ap0,fa0⟩)∨
  (apB m.ap=true∧m=⟨4,as0,tg0,re0,m.ap,fa0⟩)∨(faB m.fa=true∧m=⟨5,as0,tg0,re0,ap0,m.fa⟩):=by
 unfold mgB at h
 split at h
 ·rw[Bool.and_eq_true,decide_eq_true_eq] at h;exact .inl h
 ·split at h
  ·rw[Bool.and_eq_true,decide_eq_true_eq] at h;exact .inr (.inl h)
  ·split at h
   ·rw[Bool.and_eq_true,decide_eq_true_eq] at h;exact .inr (.inr (.inl h))
   ·split at h
    ·rw[Bool.and_eq_true,decide_eq_true_eq] at h;exact .inr (.inr (.inr (.inl h)))
    ·split at h
     ·rw[Bool.and_eq_true,decide_eq_true_eq] at h;exact .inr (.inr (.inr (.inr h)))
     ·cases h
theorem FL {ok:Bool} {l b:L}:limO ok l=some b↔ok=true∧l.length≤2000∧l=b:=by
 unfold limO
 split
 ·rename_i h
  exact⟨fun e=>⟨h.1,h.2,Option.some.inj e⟩,fun e=>by rw[e.2.2]⟩
 ·rename_i h
  exact⟨fun e=>by(cases e),fun e=>False.elim (h (And.intro e.1 e.2.1))⟩
theorem Nr (c:Option L):(keP c).1.length=32:=by
 unfold keP
 split
 ·assumption
 ·rfl
theorem pt_ok {b:L} {p:Pt} (h:ptD b=some p):ptO p=some b∧(ptP b)=(p,some []):=by
 unfold ptD at h
 split at h
 ·rename_i h2
  injection h with h;have hk:p.ss.length=32:=by rw[←h];exact Nr _
  rw[h] at h2;have h3:=FL.1 h2;exact⟨h2,by rw[←h3.2.2];exact Qo h3.1 hk⟩
 ·cases h
theorem rp_ok {b:L} {p:Rp} (h:rpD b=some p):rpO p=some b∧(rpP b)=(p,some []):=by
 unfold rpD at h
 split at h
 ·rename_i h2
  injection h with h;have hk:p.ss.length=32:=by rw[←h];exact Nr _
  rw[h] at h2;have h3:=FL.1 h2;exact⟨h2,by rw[←h3.2.2];exact Qp h3.1 hk⟩
 ·cases h
end Ms
end
end Go.Proofs.YtfcjeebnkigeaaaGreat
