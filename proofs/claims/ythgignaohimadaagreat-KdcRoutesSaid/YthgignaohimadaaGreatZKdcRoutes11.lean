import Derived.Test.YthgignaohimadaaGreatZKdcRoutes5
import Derived.Test.YthgignaohimadaaGreatZKdcRoutes10
set_option maxHeartbeats 25600000
set_option maxRecDepth 100000
set_option linter.unusedVariables false
set_option linter.unusedSimpArgs false
namespace Go.Proofs.YthgignaohimadaaGreat
namespace Reg
open Go.RowKit Af
section
variable {P:Program} {ops:Array Oper} {Q:Exit->Act->World->Prop} {md:Region.Mode}
theorem MZ {E F:World->Prop} (hS:∀w,F w->E w):∀(f:Nat) (l:Array Bool) (a:Act) (w:World),wpAnyH P md ops Q F f l a w->wpAnyH P md ops Q E f l a w
 |0,_,_,_,h=>h
 |f+1,_,_,_,h=>⟨h.1,fun i hi=>wpOp_mono (fun J w' D=>⟨hS w' D.1,MZ hS f _ J w' D.2⟩) (h.2 i hi)⟩
def Ez (W w:World):Prop:=Below W.heap.size W w
theorem ae {W w:World} {f:Nat} {l:Array Bool} {a:Act} (D:Below W.heap.size W w) (h:wpAnyH P md ops Q (Ez w) f l a w):wpAnyH P md ops Q (Ez W) f l a w:=
 MZ (fun _ E=>bt D E) f l a w h
theorem FA (n:Nat) {id:Nat} {a:Act} {w:World} (D:ops.size=n) (hm:P.follows .mixedOrders=true) (h:wpAnyH P .any ops Q (Ez w.drew) n (Array.replicate n false) a w.drew):(Code.region id ops true).wp P Q a w:=by
 subst D;exact wp_region_held_drew hm Ah (fun _=>h)
theorem Uj (i:Nat) {dst:Option Tmp} {op:Op} {ty:TypeId} {pos:String} {after:Array _} {guard:Option (Nat×Bool)} {v:Value} {fuel:Nat} {D:Array Bool} {a:Act} {w:World} (hi:ops[i]? = some ⟨dst,op,ty,pos,after,guard⟩)
  (hs:Region.noSelect ops=true) (E:Region.free md ops D i=true) (F:(Region.ready md ops D).contains i=true)
  (J:∀c a w,Q (.panic c) (a.put dst v) w->Q (.panic c) a w)
  (hw:Region.wanted ⟨dst,op,ty,pos,after,guard⟩ (yielded ops a.tmps)=true) (M:∀w',Ez w w'->(execOp a.eval ⟨dst,op,ty,pos,after,guard⟩).run P w'=.ok (.value v) w')
  (h:wpAnyH P md ops Q (Ez w) fuel (D.setIfInBounds i true) (a.put dst v) w):wpAnyH P md ops Q (Ez w) (fuel+1) D a w:=
 wpAnyH_take hi hs E F J (.inl ⟨hw,M⟩) Ah h
theorem tz (i:Nat) {dst:Option Tmp} {op:Op} {ty:TypeId} {pos:String} {after:Array _} {guard:Option (Nat×Bool)} {v:Value} {fuel:Nat} {D l2:Array Bool} {a b:Act} {w:World} (hi:ops[i]? = some ⟨dst,op,ty,pos,after,guard⟩) (h:wpAnyH P md ops Q (Ez w) fuel l2 b w) (E:∀w',Ez w w'->(execOp a.eval ⟨dst,op,ty,pos,after,guard⟩).run P w'=.ok (.value v) w':=by intro w' hS;go_simp;rfl) (e1:D.setIfInBounds i true=l2:=by(conv=>lhs;simp only[U,Aa,Ab])) (e2:a.put dst v=b:=by(conv=>lhs;simp only[Act.put,U,Aa,Ab])) (hs:Region.noSelect ops=true:=by kernel_rfl) (hf:Region.free md ops D i=true:=by kernel_rfl) (hr:(Region.ready md ops D).contains i=true:=by kernel_rfl) (hQ:∀c a w,Q (.panic c) (a.put dst v) w->Q (.panic c) a w:=by exact fun _ _ _ h=>h) (hw:Region.wanted ⟨dst,op,ty,pos,after,guard⟩ (yielded ops a.tmps)=true:=by rfl):wpAnyH P md ops Q (Ez w) (fuel+1) D a w:=by
 subst e1 e2;exact Uj i hi hs hf hr hQ hw E h
theorem tx (i:Nat) {dst:Option Tmp} {op:Op} {ty:TypeId} {pos:String} {after:Array _} {guard:Option (Nat×Bool)} {v:Value} {fuel:Nat} {D l2:Array Bool} {a b:Act} {w:World} (hi:ops[i]? = some ⟨dst,op,ty,pos,after,guard⟩) (F:∀w',Ez w w'->(execOp a.eval ⟨dst,op,ty,pos,after,guard⟩).run P w'=.ok (.value v) w') (h:wpAnyH P md ops Q (Ez w) fuel l2 b w) (E:D.setIfInBounds i true=l2:=by(conv=>lhs;simp only[U,Aa,Ab])) (e2:a.put dst v=b:=by(conv=>lhs;simp only[Act.put,U,Aa,Ab])) (hs:Region.noSelect ops=true:=by kernel_rfl) (hf:Region.free md ops D i=true:=by kernel_rfl) (hr:(Region.ready md ops D).contains i=true:=by kernel_rfl) (hQ:∀c a w,Q (.panic c) (a.put dst v) w->Q (.panic c) a w:=by exact fun _ _ _ h=>h) (hw:Region.wanted ⟨dst,op,ty,pos,after,guard⟩ (yielded ops a.tmps)=true:=by rfl):wpAnyH P md ops Q (Ez w) (fuel+1) D a w:=by
 subst E e2;exact Uj i hi hs hf hr hQ hw F h
theorem af (i:Nat) {dst:Option Tmp} {op:Op} {ty:TypeId} {pos:String} {after:Array _} {guard:Option (Nat×Bool)} {fuel:Nat} {D:Array Bool} {a:Act} {w:World} (hi:ops[i]? = some ⟨dst,op,ty,pos,after,guard⟩)
  (hs:Region.noSelect ops=true) (E:Region.free md ops D i=true) (F:(Region.ready md ops D).contains i=true)
  (J:∀c a w,Q (.panic c) (a.put dst undef) w->Q (.panic c) a w)
  (hw:Region.wanted ⟨dst,op,ty,pos,after,guard⟩ (yielded ops a.tmps)=false)
  (h:wpAnyH P md ops Q (Ez w) fuel (D.setIfInBounds i true) (a.put dst undef) w):wpAnyH P md ops Q (Ez w) (fuel+1) D a w:=
 wpAnyH_take hi hs E F J (.inr ⟨hw,rfl⟩) Ah h
theorem sk (i:Nat) {dst:Option Tmp} {op:Op} {ty:TypeId} {pos:String} {after:Array _} {guard:Option (Nat×Bool)} {fuel:Nat} {D l2:Array Bool} {a b:Act} {w:World} (hi:ops[i]? = some ⟨dst,op,ty,pos,after,guard⟩) (h:wpAnyH P md ops Q (Ez w) fuel l2 b w) (E:D.setIfInBounds i true=l2:=by(conv=>lhs;simp only[U,Aa,Ab])) (e2:a.put dst undef=b:=by(conv=>lhs;simp only[Act.put,U,Aa,Ab])) (hs:Region.noSelect ops=true:=by kernel_rfl) (hf:Region.free md ops D i=true:=by kernel_rfl) (hr:(Region.ready md ops D).contains i=true:=by kernel_rfl) (hQ:∀c a w,Q (.panic c) (a.put dst undef) w->Q (.panic c) a w:=by exact fun _ _ _ h=>h) (hw:Region.wanted ⟨dst,op,ty,pos,after,guard⟩ (yielded ops a.tmps)=false:=by rfl):wpAnyH P md ops Q (Ez w) (fuel+1) D a w:=by
 subst E e2;exact af i hi hs hf hr hQ hw h
theorem JP (i:Nat) {dst:Option Tmp} {op:Op} {ty:TypeId} {pos:String} {after:Array _} {guard:Option (Nat×Bool)} {fuel:Nat} {D:Array Bool} {a:Act} {w:World} (hi:ops[i]? = some ⟨dst,op,ty,pos,after,guard⟩)
  (M:Region.ready md ops D = [i]) (hw:Region.wanted ⟨dst,op,ty,pos,after,guard⟩ (yielded ops a.tmps)=true) (f:FuncId) (args:Array Value)
  (J:(execOp a.eval ⟨dst,op,ty,pos,after,guard⟩).run P w=.ok (.enter f args) w)
  (h:Calls P f args w fun e w'=>∃v,e=.returned v/\Below w.heap.size w w'/\wpAnyH P md ops Q (Ez w') fuel (D.setIfInBounds i true) (a.put dst v) w'):wpAnyH P md ops Q (Ez w) (fuel+1) D a w:=by
 refine wpAnyH_all M (by simp) fun j N=>?_
 obtain rfl:j=i:=by simpa using N
 unfold wpOp;simp only[hi];rw[if_pos hw]
 left
 unfold Oper.wp;rw[J];exact h.mono fun e w' E=>by
  obtain⟨v,rfl,F,E⟩:=E;exact⟨F,ae F E⟩
end
section
variable {P:Program} {ops:Array Oper} {Q:Exit->Act->World->Prop} {md:Region.Mode}
def Eff (P:Program) (md:Region.Mode) (ops:Array Oper) (Q:Exit->Act->World->Prop) (S:World->Prop) (fuel:Nat) (listed:Array Bool) (a:Act) (w:World) (i:Nat):Prop:=
 ∃(dst:Option Tmp) (op:Op) (ty:TypeId) (pos:String) (after:Array _) (guard:Option (Nat×Bool)) (v:Value) (w':World),ops[i]? = some ⟨dst,op,ty,pos,after,guard⟩/\Region.wanted ⟨dst,op,ty,pos,after,guard⟩ (yielded ops a.tmps)=true/\(execOp a.eval ⟨dst,op,ty,pos,after,guard⟩).run P w=.ok (.value v) w'/\S w'/\wpAnyH P md ops Q S fuel (listed.setIfInBounds i true) (a.put dst v) w'
theorem JQ (is:List Nat) {S:World->Prop} {fuel:Nat} {D:Array Bool} {a:Act} {w:World} (J:Region.ready md ops D=is) (E:is≠[]) (h:∀j∈is,Eff P md ops Q S fuel D a w j):wpAnyH P md ops Q S (fuel+1) D a w:=by
 refine wpAnyH_all J E fun j M=>?_
 obtain⟨dst,op,ty,pos,after,guard,v,w',hi,hw,F,hs,N⟩:=h j M;unfold wpOp;simp only[hi];rw[if_pos hw]
 left
 unfold Oper.wp;rw[F];exact⟨hs,N⟩
end
section
variable {P:Program} {ops:Array Oper} {Q:Exit->Act->World->Prop} {md:Region.Mode} {S:World->Prop}
theorem AR (S:World->Prop) (n:Nat) {id:Nat} {a:Act} {w:World} (D:ops.size=n) (hm:P.follows .mixedOrders=true) (hS:S w.drew) (h:wpAnyH P .any ops Q S n (Array.replicate n false) a w.drew):(Code.region id ops true).wp P Q a w:=by
 subst D;exact wp_region_held_drew hm hS (fun _=>h)
theorem Je (i:Nat) {dst:Option Tmp} {op:Op} {ty:TypeId} {pos:String} {after:Array _} {guard:Option (Nat×Bool)} {v:Value} {fuel:Nat} {D:Array Bool} {a:Act} {w:World} (hi:ops[i]? = some ⟨dst,op,ty,pos,after,guard⟩)
  (hs:Region.noSelect ops=true) (E:Region.free md ops D i=true) (F:(Region.ready md ops D).contains i=true)
  (J:∀c a w,Q (.panic c) (a.put dst v) w->Q (.panic c) a w) (hS:S w)
  (hw:Region.wanted ⟨dst,op,ty,pos,after,guard⟩ (yielded ops a.tmps)=true) (M:∀w',S w'->(execOp a.eval ⟨dst,op,ty,pos,after,guard⟩).run P w'=.ok (.value v) w')
  (h:wpAnyH P md ops Q S fuel (D.setIfInBounds i true) (a.put dst v) w):wpAnyH P md ops Q S (fuel+1) D a w:=
 wpAnyH_take hi hs E F J (.inl ⟨hw,M⟩) hS h
theorem ty (i:Nat) {dst:Option Tmp} {op:Op} {ty:TypeId} {pos:String} {after:Array _} {guard:Option (Nat×Bool)} {v:Value} {fuel:Nat} {D l2:Array Bool} {a b:Act} {w:World} (hi:ops[i]? = some ⟨dst,op,ty,pos,after,guard⟩) (hS:S w) (h:wpAnyH P md ops Q S fuel l2 b w) (E:∀w',S w'->(execOp a.eval ⟨dst,op,ty,pos,after,guard⟩).run P w'=.ok (.value v) w':=by intro w' hS;go_simp<;>rfl) (e1:D.setIfInBounds i true=l2:=by(conv=>lhs;simp only[U,Aa,Ab])) (e2:a.put dst v=b:=by(conv=>lhs;simp only[Act.put,U,Aa,Ab])) (hs:Region.noSelect ops=true:=by kernel_rfl) (hf:Region.free md ops D i=true:=by kernel_rfl) (hr:(Region.ready md ops D).contains i=true:=by kernel_rfl) (hQ:∀c a w,Q (.panic c) (a.put dst v) w->Q (.panic c) a w:=by exact fun _ _ _ h=>h) (hw:Region.wanted ⟨dst,op,ty,pos,after,guard⟩ (yielded ops a.tmps)=true:=by rfl):wpAnyH P md ops Q S (fuel+1) D a w:=by
 subst e1 e2;exact Je i hi hs hf hr hQ hS hw E h
theorem tw (i:Nat) {dst:Option Tmp} {op:Op} {ty:TypeId} {pos:String} {after:Array _} {guard:Option (Nat×Bool)} {v:Value} {fuel:Nat} {D l2:Array Bool} {a b:Act} {w:World} (hi:ops[i]? = some ⟨dst,op,ty,pos,after,guard⟩) (hS:S w) (E:∀w',S w'->(execOp a.eval ⟨dst,op,ty,pos,after,guard⟩).run P w'=.ok (.value v) w') (h:wpAnyH P md ops Q S fuel l2 b w) (F:D.setIfInBounds i true=l2:=by(conv=>lhs;simp only[U,Aa,Ab])) (e2:a.put dst v=b:=by(conv=>lhs;simp only[Act.put,U,Aa,Ab])) (hs:Region.noSelect ops=true:=by kernel_rfl) (hf:Region.free md ops D i=true:=by kernel_rfl) (hr:(Region.ready md ops D).contains i=true:=by kernel_rfl) (hQ:∀c a w,Q (.panic c) (a.put dst v) w->Q (.panic c) a w:=by exact fun _ _ _ h=>h) (hw:Region.wanted ⟨dst,op,ty,pos,after,guard⟩ (yielded ops a.tmps)=true:=by rfl):wpAnyH P md ops Q S (fuel+1) D a w:=by
 subst F e2;exact Je i hi hs hf hr hQ hS hw E h
theorem tq (i : Nat) {dst : Option Tmp} {op : Op} {ty : TypeId} {pos : String} {after : Array _} {guard : Option (Nat × Bool)} {v : Value} {fuel : Nat} {D : Array Bool} {a : Act} {w : World} (hi : ops[i]? = some ⟨dst, op, ty, pos, after, guard⟩) (hS : S w)
    (E : ∀ w', S w' -> (execOp a.eval ⟨dst, op, ty, pos, after, guard⟩).run P w'=.ok (.value v) w')
    (h : wpAnyH P md ops Q S fuel (D.setIfInBounds i true) (a.put dst v) w)
    (hs : Region.noSelect ops = true := by kernel_rfl) (hf : Region.free md ops D i = true := by kernel_rfl) (hr : (Region.ready md ops D).contains i = true := by kernel_rfl)
    (hQ : ∀ c a w, Q (.panic c) (a.put dst v) w -> Q (.panic c) a w := by exact fun _ _ _ h => h)
    (hw : Region.wanted ⟨dst, op, ty, pos, after, guard⟩ (yielded ops a.tmps) = true := by rfl) : wpAnyH P md ops Q S (fuel + 1) D a w :=
  Je i hi hs hf hr hQ hS hw E h
theorem Bq (i:Nat) {dst:Option Tmp} {op:Op} {ty:TypeId} {pos:String} {after:Array _} {guard:Option (Nat×Bool)} {fuel:Nat} {D:Array Bool} {a:Act} {w:World} (w':World) (hi:ops[i]? = some ⟨dst,op,ty,pos,after,guard⟩)
  (F:Region.ready md ops D = [i]) (hw:Region.wanted ⟨dst,op,ty,pos,after,guard⟩ (yielded ops a.tmps)=true) (E:(execOp a.eval ⟨dst,op,ty,pos,after,guard⟩).run P w=.ok .skip w') (hS:S w')
  (h:wpAnyH P md ops Q S fuel (D.setIfInBounds i true) (a.put dst undef) w'):wpAnyH P md ops Q S (fuel+1) D a w:=by
 refine wpAnyH_all F (by simp) fun j J=>?_
 obtain rfl:j=i:=by simpa using J
 unfold wpOp;simp only[hi];rw[if_pos hw]
 left
 unfold Oper.wp;rw[E];exact⟨hS,h⟩
end
section
variable {P:Program} {ops:Array Oper} {Q:Exit->Act->World->Prop} {md:Region.Mode}
def Ent (P:Program) (md:Region.Mode) (ops:Array Oper) (Q:Exit->Act->World->Prop) (S:World->Prop) (fuel:Nat) (listed:Array Bool) (a:Act) (w:World) (i:Nat):Prop:=
 ∃(dst:Option Tmp) (op:Op) (ty:TypeId) (pos:String) (after:Array _) (guard:Option (Nat×Bool)) (f:FuncId) (args:Array Value),ops[i]? = some ⟨dst,op,ty,pos,after,guard⟩/\Region.wanted ⟨dst,op,ty,pos,after,guard⟩ (yielded ops a.tmps)=true/\(execOp a.eval ⟨dst,op,ty,pos,after,guard⟩).run P w=.ok (.enter f args) w/\
  Calls P f args w fun e w'=>∃v,e=.returned v/\S w'/\wpAnyH P md ops Q S fuel (listed.setIfInBounds i true) (a.put dst v) w'
theorem PW (is:List Nat) {S:World->Prop} {fuel:Nat} {D:Array Bool} {a:Act} {w:World} (M:Region.ready md ops D=is) (J:is≠[]) (h:∀j∈is,Eff P md ops Q S fuel D a w j\/Ent P md ops Q S fuel D a w j):wpAnyH P md ops Q S (fuel+1) D a w:=by
 refine wpAnyH_all M J fun j N=>?_
 rcases h j N with⟨dst,op,ty,pos,after,guard,v,w',hi,hw,F,hs,E⟩ | ⟨dst,op,ty,pos,after,guard,f,args,hi,hw,F,E⟩
 ·unfold wpOp
  simp only[hi];rw[if_pos hw]
  left
  unfold Oper.wp;rw[F];exact⟨hs,E⟩
 ·unfold wpOp
  simp only[hi];rw[if_pos hw]
  left
  unfold Oper.wp;rw[F];refine E.mono ?_;rintro e w' ⟨v,rfl,hs,E⟩;exact⟨hs,E⟩
theorem b1 (i:Nat) {S:World->Prop} {fuel:Nat} {D:Array Bool} {a:Act} {w:World} (h:Eff P md ops Q S fuel D a w i\/Ent P md ops Q S fuel D a w i) (E:Region.ready md ops D = [i]:=by kernel_rfl):wpAnyH P md ops Q S (fuel+1) D a w:=
 PW [i] E (by simp) fun j F=>by
  obtain rfl:j=i:=by simpa using F
  exact h
theorem b2 (i k:Nat) {S:World->Prop} {fuel:Nat} {D:Array Bool} {a:Act} {w:World} (F:Eff P md ops Q S fuel D a w i\/Ent P md ops Q S fuel D a w i) (J:Eff P md ops Q S fuel D a w k\/Ent P md ops Q S fuel D a w k) (M:Region.ready md ops D = [i,k]:=by kernel_rfl):wpAnyH P md ops Q S (fuel+1) D a w:=
 PW [i,k] M (by simp) fun j E=>by
  have E:j=i\/j=k:=by simpa using E
  rcases E with rfl | rfl
  ·exact F
  ·exact J
end
end Reg
namespace SeL
open Go.RowKit Af Se
def Bn (ks:Nat->UInt8) (u n:Int) (p:List UInt8):List UInt8×Int:=
 if 0<=u/\u<=255/\0<=n/\n<=1099511627776/\p.length<=784 then (DI ks u.toNat n.toNat p,0) else ([],1)
def Bc (ks:Nat->UInt8) (u:Int) (l:List UInt8):List UInt8×Int:=
 if 0<=u/\u<=255 then (if isL ks u.toNat l=true then (mixL ks u.toNat (n8 l) (midL l),0) else ([],3)) else ([],1)
def Ns (n b:Nat) (h:Option Nat) (i:Nat):Prop:=i<n\/Ow b h i
theorem dd {n b g:Nat} {w:World} {A:Option Addr} {xs:List Value} (E:RdA (Nw n g) w A xs) (F:b<n):RdA (Ns n b (some g)) w A xs:=E.mono fun i _ D=>by
 rcases D with D | D
 ·exact .inl D
 ·rcases ab D with h | h
  ·exact .inl (by omega)
  ·exact .inr h
theorem JR (l:List UInt8) (h:16<=l.length):(midL l).length=l.length - 16:=by
 rw[midL,Ig,List.length_drop,List.length_take];omega
theorem Uk {ks:Nat->UInt8} {u:Nat} {l:List UInt8} (h:isL ks u l=true):16<=l.length/\l.length<=800/\n8 l<=1099511627776/\tagL ks u (Ig l)=n8 (Fq l):=by
 simp only[isL,Bool.and_eq_true,decide_eq_true_eq] at h;exact⟨h.1.1.1,h.1.1.2,h.1.2,h.2⟩
theorem PX (b:Nat) (ks:Nat->UInt8) (h:Option Nat) (a o r:Nat) (u N:Int) (A:Option Addr) (m c:Nat) (p:List UInt8) (w:World) (J:a<1000000) (wN:(Lit.int .i64 N).wf=true) (hm:m=p.length) (E:m<=maxLen) (O:RdA (Ow b h) w A (bvs p)) (D:Box w b ks h a o r) :
  Calls Tryz.prog 114 #[.pointer (some ⟨b,0,none⟩),.int .i64 u,.int .i64 N,.slice A m c] w fun e w'=>∃A2 c2 h' a',e=.returned (.tuple #[.slice A2 (Bn ks u N p).1.length c2,.int .i64 (Bn ks u N p).2])/\(Bn ks u N p).1.length<=c2/\c2<=maxLen/\RdA (Ns w.heap.size b h') w' A2 (bvs (Bn ks u N p).1)/\Box w' b ks h' a' o r/\Cu w w' b h h'/\a'<=a+1:=by
 by_cases hx:0<=u/\u<=255/\0<=N/\N<=1099511627776/\m<=784
 ·obtain⟨F,rfl⟩:∃k:Nat,u=(k:Int):=⟨u.toNat,by omega⟩
  obtain⟨n',rfl⟩:∃k:Nat,N=(k:Int):=⟨N.toNat,by omega⟩;have e:Bn ks (F:Int) (n':Int) p=(DI ks F n' p,0):=by rw[Bn,if_pos (by omega)];rfl
  rw[e];refine(aa b ks h a o r F n' A m c p w J (by omega) (by omega) hm (by omega) O D).mono ?_;rintro e w' ⟨g,A2,c2,rfl,M,h2,h3,Z,h5⟩;exact⟨A2,c2,some g,a+1,by rw[BR,hm],by rw[BR,<-hm];exact M,h2,dd h3 D.lt,Z,h5.o,Nat.le_refl _⟩
 ·have e:Bn ks u N p=([],1):=by rw[Bn,if_neg (by omega)]
  rw[e];refine(WN b u N A m c w wN E hx).mono ?_;rintro e w' ⟨rfl,hw⟩;subst hw;exact⟨none,0,h,a,rfl,Nat.le_refl _,Nat.zero_le _,.inl rfl,D,Cu.refl _ _ _,by omega⟩
end SeL
namespace Kd
open Af Se
open Nm (krb L)
open Rg (It Cv BA BH numO)
open Ms (Pr Tk Pt An Rp As Tg Re Ap Fa Mg ptB rpB anB asB tgB tmB ptE rpE anE mgE mgO ptD anD ptO rpO anO pr0 tk0 re0 pt0 an0 as0 tg0 ap0 fa0 key0)
open SeL (Bn Bc)
open Rt (Tp nxS nxB)
open Tr (insL)
def kr (R x:L):Pr:=(R,krb++x)
def hasL (l:List It) (p:Pr):Bool:=(BA l p).isSome
def keyO (l:List It):Option Nat->Nat->UInt8
 |none=>fun _=>0
 |some i=>((l[i]?).map (·.k)).getD fun _=>0
def keyL (l:List It) (p:Pr):Nat->UInt8:=keyO l (BA l p)
def rpOf (P:Pt) (s:Pr) (no:Int):Rp:=⟨P.ss,s,P.st,P.en,no⟩
def ansL (l:List It) (n:Nat) (c s:Pr) (P:Pt) (no:Int) (ks:Nat->UInt8) (u:Int):Int×Re:=
 if (ptO P).isSome&&(rpO (rpOf P s no)).isSome then
  (0,⟨c,⟨s,BH l s,(Bn (keyL l s) 2 ((n+1:Nat):Int) ((ptO P).getD [])).1⟩,(Bn ks u ((n+1+1:Nat):Int) ((rpO (rpOf P s no)).getD [])).1⟩)
 else (2,re0)
def mxL:Int:=1000
def asL (R:L) (l:List It) (n:Nat) (q:As) (now:Int) (d:L):Int×Re:=
 if tmB now&&asB q then
  if q.c.1=R/\hasL l q.c=true then
   if q.s=kr R R/\hasL l q.s=true then
    if q.t<now then (7,re0)
    else ansL l n q.c q.s ⟨q.c,d,[],now,min q.t (now+mxL)⟩ q.no (keyL l q.c) 3
   else (6,re0)
  else (5,re0)
 else (1,re0)
def opnL (R:L) (l:List It) (t:Tk) (now:Int):Int×Pt:=
 if t.s.2=krb++R then
  match Cv l t.s t.k with
  |none=>(4,pt0)
  |some i=>
   if (Bc (keyO l (some i)) 2 t.b).2=0 then
    match ptD (Bc (keyO l (some i)) 2 t.b).1 with
    |none=>(2,pt0)
    |some p=>if p.en<now then (7,pt0) else if now+5<p.st then (8,pt0) else (0,p)
   else (3,pt0)
 else (6,pt0)
def autL (ss:L) (a:L) (c:Pr) (now:Int):Int:=
 if (Bc (ksOf ss) 7 a).2=0 then
  match anD (Bc (ksOf ss) 7 a).1 with
  |none=>2
  |some x=>if x.c=c then (if x.t<now - 5\/now+5<x.t then 8 else 0) else 9
 else 3
def tarL (R:L) (T:Tp) (l:List It) (s:Pr):Int×Pr:=
 if s.1=R then (if hasL l s=true then (0,s) else (6,pr0))
 else if s.1∈T.R/\nxB T R s.1=true/\hasL l (kr R (nxS T R s.1))=true then (0,kr R (nxS T R s.1)) else (10,pr0)
def trsL (R:L) (p:Pt) (by_:L) (s:Pr):L×Nat:=
 if by_=R\/by_=p.c.1 then (p.tr,0) else insL p.tr p.c.1 s.1 by_
def tgsL (R:L) (T:Tp) (l:List It) (n:Nat) (q:Tg) (now:Int) (d:L):Int×Re:=
 if tmB now&&tgB q then
  if (opnL R l q.t now).1=0 then
   if autL (opnL R l q.t now).2.ss q.a (opnL R l q.t now).2.c now=0 then
    if (tarL R T l q.s).1=0 then
     if (trsL R (opnL R l q.t now).2 q.t.s.1 q.s).2=0 then
      if q.u<now then (7,re0)
      else ansL l n (opnL R l q.t now).2.c (tarL R T l q.s).2 ⟨(opnL R l q.t now).2.c,d,(trsL R (opnL R l q.t now).2 q.t.s.1 q.s).1,now,min q.u (opnL R l q.t now).2.en⟩ q.no (ksOf (opnL R l q.t now).2.ss) 8
     else ((trsL R (opnL R l q.t now).2 q.t.s.1 q.s).2,re0)
    else ((tarL R T l q.s).1,re0)
   else (autL (opnL R l q.t now).2.ss q.a (opnL R l q.t now).2.c now,re0)
  else ((opnL R l q.t now).1,re0)
 else (1,re0)
def cnt (e:Int):Nat:=if e=0 then 1 else 0
end Kd
namespace Se
open Go.RowKit Af SeL
theorem Ul (b u:Nat) (ks:Nat->UInt8) (A:Option Addr) (n c:Nat) (l:List UInt8) (w:World) (E:n=l.length) (F:n<=c) (D:Rd w w.heap.size A (bvs l)) (J:l.length<16\/800<l.length\/1099511627776<n8 l) :
  Calls Tryz.prog 97 #[.pointer (some ⟨b,0,none⟩),.int .i64 (u:Int),.slice A n c] w fun e w'=>e=.returned (.bool false)/\w'=w:=by
 by_cases h1:n<16
 ·have t1:decide ((n:Int)<16)=true:=by simp;omega
  clear J D E F h1;go_enter Tryz.func97,Tryz.ntmps97
  go_wp2
  go_ret;exact⟨rfl,rfl⟩
 ·have t1:decide ((n:Int)<16)=false:=by simp;omega
  by_cases h2:800<n
  ·have t2:decide (800<(n:Int))=true:=by simp;omega
   clear J D E F h1 h2;go_enter Tryz.func97,Tryz.ntmps97
   go_wp2
   go_ret;exact⟨rfl,rfl⟩
  ·have t2:decide (800<(n:Int))=false:=by simp;omega
   have h3:1099511627776<n8 l:=by omega
   have O:=Dv w.heap.size A n c l w E (by omega) F D;have M:=Fx (n8 l) false (by simp;omega);obtain⟨N,Z⟩:=Ak (n8 l);rw[<-Z] at O M;clear J D E F h1 h2 h3 Z;go_enter Tryz.func97,Tryz.ntmps97
   go_wp2_with (first
    |(go_at_call 99;refine Aj O ?_;rintro wq hw;have hw:=hw.symm;subst hw;clear O)
    |(go_at_call 142;refine Aj (M _) ?_;rintro wq hw;have hw:=hw.symm;subst hw;clear M))
   go_ret;exact⟨rfl,rfl⟩
theorem WT (b:Nat) (ks:Nat->UInt8) (h:Option Nat) (a o r u:Nat) (A:Option Addr) (n c:Nat) (l:List UInt8) (w:World) (hu:u<=255) (hn:n=l.length) (hc:n<=c) (hr:RdA (Ow b h) w A (bvs l)) (hK:Box w b ks h a o r) (h1:16<=l.length) (h2:l.length<=800) (h3:n8 l<=1099511627776) :
  Calls Tryz.prog 97 #[.pointer (some ⟨b,0,none⟩),.int .i64 (u:Int),.slice A n c] w fun e w'=>e=.returned (.bool (decide (tagL ks u (Ig l)=n8 (Fq l))))/\∃g,Box w' b ks (some g) a o r/\Step w w' b h g:=by
 have cw:=Dv w.heap.size A n c l w hn (by omega) hc hr.rd;have f2:=Fx (n8 l) true (by simp;omega);obtain⟨b2,D,rfl⟩:∃b2 D,A=some ⟨b2,D,none⟩:=by
  rcases hr with hx | ⟨b2,D,h4,_⟩
  ·exact MY hn (by omega) hx
  ·exact⟨b2,D,h4⟩
 obtain⟨k,hk⟩:∃k,n=k+8:=⟨n - 8,by omega⟩;have F:n - 8=k:=by omega
 have O:Ig l=l.take k:=by unfold Ig;rw[<-hn,F]
 have E:Fq l=l.drop k:=by unfold Fq;rw[<-hn,F]
 have ct:=fun(q:Nat)=>Ua b ks h a o r u (some ⟨b2,D,none⟩) k c (Ig l) (w.drewN q) hu (by rw[O,List.length_take];omega) (by omega) ((O▸hr.take k).keep (Fz (fun _=>False) w q) (fun _ _ x=>x.elim) (fun _ _ x=>x)) (hK.chg (Fz (fun _=>False) w q) (fun _ _ x=>x))
 have cl:=fun(w2:World) (hw:RdA (Aw b h w.heap.size) w2 (some ⟨b2,D+k,none⟩) (bvs (Fq l))) (c2:Nat) (cc:8<=c2)=>Dv w2.heap.size (some ⟨b2,D+k,none⟩) 8 c2 (Fq l) w2 (by rw[E,List.length_drop];omega) Ag cc hw.rd
 have ca:RdA (Aw b h w.heap.size) w (some ⟨b2,D+k,none⟩) (bvs (Fq l)):=E▸(hr.drop k).aw Ag;obtain⟨N,eN⟩:=Ak (n8 l);obtain⟨M,eM⟩:=Ak (n8 (Fq l));obtain⟨T,eT⟩:=Ak (tagL ks u (Ig l));rw[<-eN] at cw f2;rw[<-eM] at cl⊢;rw[<-eT] at ct⊢;have cd:=I ca;clear ca;have t1:decide ((n:Int)<16)=false:=by simp;omega
 have t2:decide (800<(n:Int))=false:=by simp;omega
 have s1:(k:Int)<=792:=by omega
 have s2:(0:Int)<=(k:Int):=by omega
 have s3:(k:Int)<=(c:Int):=by omega
 have s4:(k:Int)<=(n:Int):=by omega
 have s5:(n:Int)<=(c:Int):=by omega
 have s6:(n:Int) - 8=(k:Int):=by omega
 have s7:IntKind.i64.wrap (k:Int)=(k:Int):=by rw[IntKind.wrap_i64];omega
 have s9:n - k=8:=by omega
 have cg:k<=c:=by omega
 have cf:k<=n:=by omega
 have cb:=I hk;clear hk;have HC:=I hc;clear hc;have CL:=I cl;clear cl;clear hK hr hn h1 h2 h3 eN eM eT O E hu F;go_enter Tryz.func97,Tryz.ntmps97
 go_wp2_with (first
  |(go_at_call 99;refine Aj cw ?_;rintro wq hw;have hw:=hw.symm;subst hw;clear cw)
  |(go_at_call 142;refine Aj (f2 _) ?_;rintro wq hw;have hw:=hw.symm;subst hw;clear f2))
 go_quiet (fail)
 have bz:=ct nq;clear ct
 go_wp2_with (first
  |(go_at_call 143;refine Calls.mono bz ?_;rintro e w3 ⟨g,rfl,bB,J⟩;clear bz;have aw:=cd.o.go ((Fz (Aw b h w.heap.size) w nq).then J.aw);have bx:=CL.o w3 aw (c - k) (by have:=cb.o;have:=HC.o;omega);have B3:=I bB;have Z:=I J;clear bB J aw CL)
  |(go_at_call 99;refine Aj bx ?_;rintro wq hw;have hw:=hw.symm;subst hw;clear bx))
 go_ret;refine⟨?_,g,B3.o,⟨⟨Z.o.1.os,Z.o.1.tape,Z.o.1.output,Z.o.1.size,Z.o.1.block⟩,Z.o.2⟩⟩;show Ending.returned (.bool (decide ((T:Int)=(M:Int))))=_
 congr 3
 exact propext ⟨by omega,by omega⟩
theorem Um (b:Nat) (ks:Nat->UInt8) (h:Option Nat) (a o r u:Nat) (A:Option Addr) (n c:Nat) (l:List UInt8) (w:World) (hu:u<=255) (F:n=l.length) (J:n<=c) (E:RdA (Ow b h) w A (bvs l)) (D:Box w b ks h a o r) :
  Calls Tryz.prog 97 #[.pointer (some ⟨b,0,none⟩),.int .i64 (u:Int),.slice A n c] w fun e w'=>e=.returned (.bool (isL ks u l))/\∃h',Box w' b ks h' a o r/\Cu w w' b h h':=by
 by_cases hx:l.length<16\/800<l.length\/1099511627776<n8 l
 ·refine(Ul b u ks A n c l w F J E.rd hx).mono ?_
  rintro e w' ⟨rfl,hw⟩;subst hw;exact⟨by rw[Ud hx],h,D,Cu.refl _ _ _⟩
 ·refine(WT b ks h a o r u A n c l w hu F J E D (by omega) (by omega) (by omega)).mono ?_
  rintro e w' ⟨rfl,g,M,N⟩;exact⟨by rw[WQ (by omega) (by omega) (by omega)],some g,M,N.o⟩
theorem Un (b:Nat) (ks:Nat->UInt8) (h:Option Nat) (a o r u:Nat) (A:Option Addr) (n c:Nat) (l:List UInt8) (w:World) (O:r<1000000) (hu:u<=255) (hn:n=l.length) (hc:n<=c) (hr:RdA (Ow b h) w A (bvs l)) (hK:Box w b ks h a o r) (hx:isL ks u l=false) :
  Calls Tryz.prog 60 #[.pointer (some ⟨b,0,none⟩),.int .i64 (u:Int),.slice A n c] w fun e w'=>e=.returned (.tuple #[.slice none 0 0,.int .i64 3])/\∃h',Box w' b ks h' a o (r+1)/\Cu w w' b h h':=by
 have f1:=Eg (u:Int) true (by simp;omega);have ci:=Um b ks h a o r u A n c l w hu hn hc hr hK;rw[hx] at ci;have aw:=I O;clear O;clear hu hn hc hr hK hx;go_enter Tryz.func60,Tryz.ntmps60
 go_wp2_with (first
  |(go_at_call 96;refine Aj (f1 _) ?_;rintro wq hw;have hw:=hw.symm;subst hw;clear f1)
  |(go_at_call 97;refine Aj ci ?_;rintro Z ⟨h2,D,M⟩;clear ci;have F:Z.cell? ⟨b,54,none⟩=some (.int .i64 (r:Int))/\Z.frozen? ⟨b,54,none⟩=false:=by{cases h2 with | none=>exact⟨XB.cr D,XB.fz D 54⟩ | some g=>exact⟨D.1.cr,D.1.fz 54⟩};have E:=add_one ⟨b,54,none⟩ r Z aw.o F.1 F.2;have B2:=I D;have S2:=I M;clear D M F)
  |(go_at_call 71;refine Aj E ?_;rintro w7 J;clear E;have N:=I J;clear J))
 go_ret2
 refine⟨rfl,h2,by rw[N.o];exact B2.o.refuses (r+1),?_⟩;rw[N.o];refine⟨S2.o.1.trans ((Chg.refl (fun i=>i=b) Z).set (.inl rfl) _) (fun i _ hx=>.inl hx),S2.o.2⟩
theorem WU (b:Nat) (ks:Nat->UInt8) (h:Option Nat) (a o r u:Nat) (A:Option Addr) (n c:Nat) (l:List UInt8) (w:World) (ck:o<1000000) (hu:u<=255) (hn:n=l.length) (hc:n<=c) (hr:RdA (Ow b h) w A (bvs l)) (hK:Box w b ks h a o r) (E:isL ks u l=true) :
  Calls Tryz.prog 60 #[.pointer (some ⟨b,0,none⟩),.int .i64 (u:Int),.slice A n c] w fun e w'=>∃g Aq cq,e=.returned (.tuple #[.slice Aq (n - 16) cq,.int .i64 0])/\n - 16<=cq/\cq<=1000/\RdA (Nw w.heap.size g) w' Aq (bvs (mixL ks u (n8 l) (midL l)))/\Box w' b ks (some g) a (o+1) r/\Step w w' b h g:=by
 have f1:=Eg (u:Int) true (by simp;omega);have ci:=Um b ks h a o r u A n c l w hu hn hc hr hK;rw[E] at ci;have hlen:16<=n/\n<=800/\n8 l<=1099511627776:=by
  have:=E;simp only[isL,Bool.and_eq_true,decide_eq_true_eq] at this;omega
 obtain⟨b2,Z,rfl⟩:∃b2 Z,A=some ⟨b2,Z,none⟩:=by
  rcases hr with E | ⟨b2,Z,h4,_⟩
  ·exact MY hn (by omega) E
  ·exact⟨b2,Z,h4⟩
 obtain⟨k,hk⟩:∃k,n=k+8:=⟨n - 8,by omega⟩;obtain⟨m,cx⟩:∃m,k=m+8:=⟨k - 8,by omega⟩;have F:midL l=(l.take k).drop 8:=by unfold midL Ig;rw[<-hn,show n - 8=k by omega]
 have cw:=fun D (J:RdA (Aw b h w.heap.size) D (some ⟨b2,Z,none⟩) (bvs l))=>Dv D.heap.size (some ⟨b2,Z,none⟩) n c l D hn (by omega) hc J.rd
 have ct:=fun(D:World) (J:Option Nat) (aw:RdA (Ow b J) D (some ⟨b2,Z,none⟩) (bvs l)) (O:Box D b ks J a o r)=>Jb b ks J a o r u (n8 l) (some ⟨b2,Z+8,none⟩) m (c - 8) (midL l) D hu (by omega) (by rw[F,List.length_drop,List.length_take];omega) (by omega) (F▸(aw.take k).drop 8) O
 obtain⟨N,eN⟩:=Ak (n8 l);rw[<-eN] at cw ct⊢;obtain⟨Q,eQ⟩:=Ak (mixL ks u N (midL l));rw[<-eQ] at ct⊢;have bx:n - 16=m:=by omega
 rw[bx];have HR:=I hr;clear hr;have CW:=I cw;clear cw;have CT:=I ct;clear ct;have cu:=I ck;clear ck;have s1:(n:Int) - 8=(k:Int):=by omega
 have s2:IntKind.i64.wrap (k:Int)=(k:Int):=by rw[IntKind.wrap_i64];omega
 have s3:(8:Int)<=(k:Int):=by omega
 have s4:(k:Int)<=(c:Int):=by omega
 have s5:k - 8=m:=by omega
 have s6:8<=k:=by omega
 have s8:¬c=8:=by omega
 have s7:k<=c:=by omega
 have cy:=I hk;clear hk;clear hu hn hc hK E hlen eN cx F eQ bx;go_enter Tryz.func60,Tryz.ntmps60
 go_wp2_with (first
  |(go_at_call 96;refine Aj (f1 _) ?_;rintro wq hw;have hw:=hw.symm;subst hw;clear f1)
  |(go_at_call 97;refine Aj ci ?_;rintro D ⟨J,O,ca⟩;clear ci;have aw:=ca.rda HR.o;have B2:=I O;have S2:=I ca;have R2:=I aw;clear O ca aw))
 have B3:Hid (Box D.drew b ks J a o r):=B2.o.chg (Fz (fun _=>False) D 1) (fun _ _ x=>x);have S3:Hid (Cu w D.drew b h J):=S2.o.drewN 1;have R3:Hid (RdA (Ow b J) D.drew (some ⟨b2,Z,none⟩) (bvs l)):=R2.o.keep (Fz (fun _=>False) D 1) (fun _ _ x=>x.elim) (fun _ _ x=>x);have cc:=CW.o D.drew ((HR.o.aw Ag).go S3.o.aw);have bB:=CT.o D.drew J R3.o B3.o;refine wp_region_still_tail 9 (by kernel_rfl) (by kernel_rfl) ?_;simp only[List.take_succ_cons,List.take_zero,List.drop_succ_cons,List.drop_zero];change wpStill _ _ D.drew _ _ _
 repeat still_step
 still_call cc
 repeat still_step
 refine wpStill_nil ?_;change wpList _ _ _ _ _ D.drew;clear cc B2 S2 R2;generalize D.drew=w3 at B3 S3 R3 bB⊢
 go_wp2_with (first
  |(go_at_call 98;refine Calls.mono bB ?_;rintro e w4 ⟨g,Aq,cq,rfl,cr,cg,cp,M,cm⟩;clear bB;have bz:=add_one ⟨b,53,none⟩ o w4 cu.o M.1.co (M.1.fz 53);have B4:=I M;have S4:=I cm;have Q4:=I cp;have C1:=I cr;have C2:=I cg;clear M cm cp cr cg)
  |(go_at_call 71;refine Aj bz ?_;rintro w7 cb;clear bz;have cj:=I cb;clear cb))
 go_ret2
 have cB:=B4.o.lt;have cd:Chg (fun i=>i=b) w4 w7:=by rw[cj.o];exact(Chg.refl (fun i=>i=b) w4).set (.inl rfl) _
 have cn:Cu w w4 b h (some g):=S3.o.trans S4.o.o;refine⟨g,Aq,cq,rfl,C1.o,C2.o,?_,by rw[cj.o];exact B4.o.opens (o+1),cn.1.trans cd (fun i _ E=>.inl E),cn.2.imp (fun e=>e.symm) (fun e=>⟨e.1,by obtain⟨_,g2,cf,cA⟩:=e;injection cf with cf;omega⟩)⟩;have cL:=B3.o.lt;refine Q4.o.keep (cd.mono (T:=Nw w3.heap.size g) fun i _ E=>.inl (by omega)) (fun _ _ x=>x) (fun i _ E=>?_);rcases E with E | E
 ·exact .inl (by have:=S3.o.1.size;omega)
 ·exact .inr E
theorem Na (b:Nat) (ks:Nat->UInt8) (h:Option Nat) (a o r:Nat) (u:Int) (A:Option Addr) (n c:Nat) (l:List UInt8) (w:World) (ho:o<1000000) (N:r<1000000) (M:n=l.length) (hc:n<=c) (O:RdA (Ow b h) w A (bvs l)) (F:Box w b ks h a o r) :
  Calls Tryz.prog 60 #[.pointer (some ⟨b,0,none⟩),.int .i64 u,.slice A n c] w fun e w'=>∃A2 c2 E o' r',e=.returned (.tuple #[.slice A2 (Bc ks u l).1.length c2,.int .i64 (Bc ks u l).2])/\(Bc ks u l).1.length<=c2/\c2<=maxLen/\RdA (Ns w.heap.size b E) w' A2 (bvs (Bc ks u l).1)/\Box w' b ks E a o' r'/\Cu w w' b h E/\o'<=o+1/\r'<=r+1:=by
 by_cases hx:0<=u/\u<=255
 ·obtain⟨D,rfl⟩:∃k:Nat,u=(k:Int):=⟨u.toNat,by omega⟩
  cases hi:isL ks D l with
  |true=>
   have e:Bc ks (D:Int) l=(mixL ks D (n8 l) (midL l),0):=by rw[Bc,if_pos hx];show(if isL ks D l=true then _ else _)=_;rw[if_pos hi];rfl
   have hl:=Uk hi;have e2:(mixL ks D (n8 l) (midL l)).length=n - 16:=by rw[Bw,JR l hl.1,M]
   rw[e];refine(WU b ks h a o r D A n c l w ho (by omega) M hc O F hi).mono ?_;rintro e w' ⟨g,A2,c2,rfl,J,Z,h3,h4,h5⟩;exact⟨A2,c2,some g,o+1,r,by rw[e2],by rw[e2];exact J,by unfold maxLen;omega,dd h3 F.lt,h4,h5.o,Nat.le_refl _,by omega⟩
  |false=>
   have e:Bc ks (D:Int) l=([],3):=by rw[Bc,if_pos hx];show(if isL ks D l=true then _ else _)=_;rw[hi];rfl
   rw[e];refine(Un b ks h a o r D A n c l w N (by omega) M hc O F hi).mono ?_;rintro e w' ⟨rfl,E,J,Z⟩;exact⟨none,0,E,o,r+1,rfl,Nat.le_refl _,Nat.zero_le _,.inl rfl,J,Z,by omega,Nat.le_refl _⟩
 ·have e:Bc ks u l=([],1):=by rw[Bc,if_neg hx]
  rw[e];refine(WO b u _ w hx).mono ?_;rintro e w' ⟨rfl,hw⟩;subst hw;exact⟨none,0,h,o,r,rfl,Nat.le_refl _,Nat.zero_le _,.inl rfl,F,Cu.refl _ _ _,by omega,by omega⟩
end Se
namespace Kd
open Go.RowKit Af Nm Rt
theorem Rm (V:List L) (A5:Option Addr) (c5:Nat) (w:World) (h1:V.length<=3000) (h2:∀x∈V,x.length<=3000) (O:Rd w w.heap.size A5 (strs V)) :
  Calls Tryz.prog 84 #[.slice A5 V.length c5] w fun e w'=>∃u,e=.returned u/\Own w' w.heap.size u V/\Below w.heap.size w w':=by
 have CL:=I (fun(i:Nat) (h:i<V.length) w1=>Bm (pl V i) w1 (by have:=h2 _ (Dc h);omega));obtain⟨n,en⟩:=Ak (V.length);rw[<-en] at h1;have EN:=I en;obtain⟨N,eN⟩:=Ak (w.heap.size);rw[<-eN] at O⊢;have D:=I (show ∀w1:World,Below N w w1->N<=w1.heap.size from fun w1 h=>by have:=h.size;omega);have Z:=I (Below.refl N w);have MK:=I (fun w1=>Ls n (by omega) w1);obtain⟨cs,cb,ck⟩:=MK.o w;have HO:=I (eN▸WB w cs n cb (by omega):Own (w.alloc (.cells cs 9)) N (.slice (some ⟨w.heap.size,0,none⟩) 0 n) []);have HR:=I (O.alloc (D.o _ Z.o) (.cells cs 9));replace Z:=I (Z.o.alloc (D.o _ Z.o) (.cells cs 9));rw[<-en];clear h2 O eN MK en;go_enter Tryz.func84,Tryz.ntmps84
 go_wp2
 go_loopw [3,11] (fun ev iv wr=>∃i:Nat,i<=n/\iv=.int .i64 (i:Int)/\Own wr N ev (V.take i)/\Rd wr N A5 (strs V)/\Below N w wr) (fun _ iv _=>n - (intOf iv).toNat)
 case atStart=>exact⟨0,Nat.zero_le _,rfl,HO.o,HR.o,Z.o⟩
 case round=>
  obtain⟨i,hi,rfl,ho,O,aw⟩:=hrel;have HO:=I ho;clear ho;have bz:=I O;clear O;have E:=I aw;clear aw
  by_cases hlt:i<n
  ·have e1:(i:Int)<(n:Int):=by omega
   have e2:(0:Int)<=(i:Int):=by omega
   have J:i<V.length:=by rw[<-EN.o];exact hlt
   have c2:=CL.o i J;have bB:=BG J;have HL:=I (show(V.take i).length=i by simp;omega);have cd:=I bB;clear bB J;obtain⟨bx,o,rfl,_,h1⟩:=CQ bz.o (i:=i) (by rw[<-EN.o];exact hlt)
   go_wp2_with (first
    |(go_at_call 42;refine Aj (c2 _) ?_;rintro w3 hb;clear c2;have H3:=I (E.o.trans (hb.mono (D.o _ E.o)));have cg:=I (HO.o.below hb);have cf:=I (bz.o.below (hb.mono (D.o _ E.o)));clear hb)
    |(at_builtin;refine Gp rfl (.tmp 15) (.tmp 18) rfl N _ (V.take i) rfl cg.o (pl V i) rfl (by have:=HL.o;omega) (D.o _ H3.o) ?_;intro v4 w4 M F;rw[<-cd.o] at M;have cc:=I M;have H4:=I (H3.o.trans F);have cj:=I (cf.o.below F);clear M F))
   go_roundw
   case rel=>exact⟨i+1,by omega,by go_num,cc.o,cj.o,H4.o⟩
   case measure=>simp [intOf];omega
  ·have e1:¬(i:Int)<(n:Int):=by omega
   have ca:V.length<=i:=by have:=EN.o;omega
   rw[List.take_of_length_le ca] at HO
   go_wp2
   go_ret;exact⟨_,rfl,HO.o,E.o⟩
end Kd
end Go.Proofs.YthgignaohimadaaGreat
