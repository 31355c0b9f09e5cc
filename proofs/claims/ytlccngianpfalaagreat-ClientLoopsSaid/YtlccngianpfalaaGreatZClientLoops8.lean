import Derived.Test.YtlccngianpfalaaGreatZClientLoops7
set_option maxHeartbeats 25600000
set_option maxRecDepth 100000
set_option linter.unusedVariables false
set_option linter.unusedSimpArgs false
namespace Go.Proofs.YtlccngianpfalaaGreat
namespace Reg
open Go.RowKit Ae
section
variable {P:Program} {ops:Array Oper} {Q:Exit->Act->World->Prop} {md:Region.Mode}
theorem KI {O X:World->Prop} (hS:∀w,X w->O w):∀(f:Nat) (l:Array Bool) (a:Act) (w:World),wpAnyH P md ops Q X f l a w->wpAnyH P md ops Q O f l a w
 |0,_,_,_,h=>h
 |f+1,_,_,_,h=>⟨h.1,fun i Y=>wpOp_mono (fun Z w' M=>⟨hS w' M.1,KI hS f _ Z w' M.2⟩) (h.2 i Y)⟩
def Ek (W w:World):Prop:=Below W.heap.size W w
theorem VP {W w:World} {f:Nat} {l:Array Bool} {a:Act} (M:Below W.heap.size W w) (h:wpAnyH P md ops Q (Ek w) f l a w):wpAnyH P md ops Q (Ek W) f l a w:=
 KI (fun _ O=>bt M O) f l a w h
theorem BU (n:Nat) {id:Nat} {a:Act} {w:World} (M:ops.size=n) (hm:P.follows .mixedOrders=true) (h:wpAnyH P .any ops Q (Ek w.drew) n (Array.replicate n false) a w.drew):(Code.region id ops true).wp P Q a w:=by
 subst M;exact wp_region_held_drew hm Ag (fun _=>h)
theorem Qq (i:Nat) {dst:Option Tmp} {op:Op} {ty:TypeId} {pos:String} {after:Array _} {guard:Option (Nat×Bool)} {v:Value} {fuel:Nat} {M:Array Bool} {a:Act} {w:World} (Y:ops[i]? = some ⟨dst,op,ty,pos,after,guard⟩)
  (hs:Region.noSelect ops=true) (X:Region.free md ops M i=true) (O:(Region.ready md ops M).contains i=true)
  (Z:∀c a w,Q (.panic c) (a.put dst v) w->Q (.panic c) a w)
  (hw:Region.wanted ⟨dst,op,ty,pos,after,guard⟩ (yielded ops a.tmps)=true) (hy:∀w',Ek w w'->(execOp a.eval ⟨dst,op,ty,pos,after,guard⟩).run P w'=.ok (.value v) w')
  (h:wpAnyH P md ops Q (Ek w) fuel (M.setIfInBounds i true) (a.put dst v) w):wpAnyH P md ops Q (Ek w) (fuel+1) M a w:=
 wpAnyH_take Y hs X O Z (.inl ⟨hw,hy⟩) Ag h
theorem tz (i:Nat) {dst:Option Tmp} {op:Op} {ty:TypeId} {pos:String} {after:Array _} {guard:Option (Nat×Bool)} {v:Value} {fuel:Nat} {M l2:Array Bool} {a b:Act} {w:World} (O:ops[i]? = some ⟨dst,op,ty,pos,after,guard⟩) (h:wpAnyH P md ops Q (Ek w) fuel l2 b w) (X:∀w',Ek w w'->(execOp a.eval ⟨dst,op,ty,pos,after,guard⟩).run P w'=.ok (.value v) w':=by intro w' hS;go_simp;rfl) (e1:M.setIfInBounds i true=l2:=by(conv=>lhs;simp only[J,U,Aa])) (e2:a.put dst v=b:=by(conv=>lhs;simp only[Act.put,J,U,Aa])) (hs:Region.noSelect ops=true:=by kernel_rfl) (hf:Region.free md ops M i=true:=by kernel_rfl) (hr:(Region.ready md ops M).contains i=true:=by kernel_rfl) (hQ:∀c a w,Q (.panic c) (a.put dst v) w->Q (.panic c) a w:=by exact fun _ _ _ h=>h) (hw:Region.wanted ⟨dst,op,ty,pos,after,guard⟩ (yielded ops a.tmps)=true:=by rfl):wpAnyH P md ops Q (Ek w) (fuel+1) M a w:=by
 subst e1 e2;exact Qq i O hs hf hr hQ hw X h
theorem tx (i:Nat) {dst:Option Tmp} {op:Op} {ty:TypeId} {pos:String} {after:Array _} {guard:Option (Nat×Bool)} {v:Value} {fuel:Nat} {M l2:Array Bool} {a b:Act} {w:World} (X:ops[i]? = some ⟨dst,op,ty,pos,after,guard⟩) (Y:∀w',Ek w w'->(execOp a.eval ⟨dst,op,ty,pos,after,guard⟩).run P w'=.ok (.value v) w') (h:wpAnyH P md ops Q (Ek w) fuel l2 b w) (O:M.setIfInBounds i true=l2:=by(conv=>lhs;simp only[J,U,Aa])) (e2:a.put dst v=b:=by(conv=>lhs;simp only[Act.put,J,U,Aa])) (hs:Region.noSelect ops=true:=by kernel_rfl) (hf:Region.free md ops M i=true:=by kernel_rfl) (hr:(Region.ready md ops M).contains i=true:=by kernel_rfl) (hQ:∀c a w,Q (.panic c) (a.put dst v) w->Q (.panic c) a w:=by exact fun _ _ _ h=>h) (hw:Region.wanted ⟨dst,op,ty,pos,after,guard⟩ (yielded ops a.tmps)=true:=by rfl):wpAnyH P md ops Q (Ek w) (fuel+1) M a w:=by
 subst O e2;exact Qq i X hs hf hr hQ hw Y h
theorem VQ (i:Nat) {dst:Option Tmp} {op:Op} {ty:TypeId} {pos:String} {after:Array _} {guard:Option (Nat×Bool)} {fuel:Nat} {M:Array Bool} {a:Act} {w:World} (Y:ops[i]? = some ⟨dst,op,ty,pos,after,guard⟩)
  (hs:Region.noSelect ops=true) (X:Region.free md ops M i=true) (O:(Region.ready md ops M).contains i=true)
  (Z:∀c a w,Q (.panic c) (a.put dst undef) w->Q (.panic c) a w)
  (hw:Region.wanted ⟨dst,op,ty,pos,after,guard⟩ (yielded ops a.tmps)=false)
  (h:wpAnyH P md ops Q (Ek w) fuel (M.setIfInBounds i true) (a.put dst undef) w):wpAnyH P md ops Q (Ek w) (fuel+1) M a w:=
 wpAnyH_take Y hs X O Z (.inr ⟨hw,rfl⟩) Ag h
theorem sk (i:Nat) {dst:Option Tmp} {op:Op} {ty:TypeId} {pos:String} {after:Array _} {guard:Option (Nat×Bool)} {fuel:Nat} {M l2:Array Bool} {a b:Act} {w:World} (X:ops[i]? = some ⟨dst,op,ty,pos,after,guard⟩) (h:wpAnyH P md ops Q (Ek w) fuel l2 b w) (O:M.setIfInBounds i true=l2:=by(conv=>lhs;simp only[J,U,Aa])) (e2:a.put dst undef=b:=by(conv=>lhs;simp only[Act.put,J,U,Aa])) (hs:Region.noSelect ops=true:=by kernel_rfl) (hf:Region.free md ops M i=true:=by kernel_rfl) (hr:(Region.ready md ops M).contains i=true:=by kernel_rfl) (hQ:∀c a w,Q (.panic c) (a.put dst undef) w->Q (.panic c) a w:=by exact fun _ _ _ h=>h) (hw:Region.wanted ⟨dst,op,ty,pos,after,guard⟩ (yielded ops a.tmps)=false:=by rfl):wpAnyH P md ops Q (Ek w) (fuel+1) M a w:=by
 subst O e2;exact VQ i X hs hf hr hQ hw h
theorem Dn (i:Nat) {dst:Option Tmp} {op:Op} {ty:TypeId} {pos:String} {after:Array _} {guard:Option (Nat×Bool)} {fuel:Nat} {M:Array Bool} {a:Act} {w:World} (hi:ops[i]? = some ⟨dst,op,ty,pos,after,guard⟩)
  (Y:Region.ready md ops M = [i]) (hw:Region.wanted ⟨dst,op,ty,pos,after,guard⟩ (yielded ops a.tmps)=true) (f:FuncId) (args:Array Value)
  (hx:(execOp a.eval ⟨dst,op,ty,pos,after,guard⟩).run P w=.ok (.enter f args) w)
  (h:Calls P f args w fun e w'=>∃v,e=.returned v/\Below w.heap.size w w'/\wpAnyH P md ops Q (Ek w') fuel (M.setIfInBounds i true) (a.put dst v) w'):wpAnyH P md ops Q (Ek w) (fuel+1) M a w:=by
 refine wpAnyH_all Y (by simp) fun j Z=>?_
 obtain rfl:j=i:=by simpa using Z
 unfold wpOp;simp only[hi];rw[if_pos hw]
 left
 unfold Oper.wp;rw[hx];exact h.mono fun e w' O=>by
  obtain⟨v,rfl,X,O⟩:=O;exact⟨X,VP X O⟩
theorem Gy {src e dst:TypeId} (hs:P.underlying src=some (.slice e)) (he:P.underlying e=some (.int .u8)) (O:P.underlying dst=some .string) {W:World} {B n c:Nat} {A:Option Addr} {l:List UInt8} (h:Rd W B A (bvs l)) (hB:B<=W.heap.size) (M:n=l.length) :
  ∀w,Ek W w->(convert src dst (.slice A n c)).run P w=.ok (.string ⟨l.toArray⟩) w:=
 fun w hS=>AY w src e hs he (h.below (hS.mono hB)) n c M dst O
end
section
variable {P:Program} {ops:Array Oper} {Q:Exit->Act->World->Prop} {md:Region.Mode}
def Eff (P:Program) (md:Region.Mode) (ops:Array Oper) (Q:Exit->Act->World->Prop) (S:World->Prop) (fuel:Nat) (listed:Array Bool) (a:Act) (w:World) (i:Nat):Prop:=
 ∃(dst:Option Tmp) (op:Op) (ty:TypeId) (pos:String) (after:Array _) (guard:Option (Nat×Bool)) (v:Value) (w':World),ops[i]? = some ⟨dst,op,ty,pos,after,guard⟩/\Region.wanted ⟨dst,op,ty,pos,after,guard⟩ (yielded ops a.tmps)=true/\(execOp a.eval ⟨dst,op,ty,pos,after,guard⟩).run P w=.ok (.value v) w'/\S w'/\wpAnyH P md ops Q S fuel (listed.setIfInBounds i true) (a.put dst v) w'
end
section
variable {P:Program} {ops:Array Oper} {Q:Exit->Act->World->Prop} {md:Region.Mode} {S:World->Prop}
theorem AM (S:World->Prop) (n:Nat) {id:Nat} {a:Act} {w:World} (M:ops.size=n) (hm:P.follows .mixedOrders=true) (hS:S w.drew) (h:wpAnyH P .any ops Q S n (Array.replicate n false) a w.drew):(Code.region id ops true).wp P Q a w:=by
 subst M;exact wp_region_held_drew hm hS (fun _=>h)
theorem Ie (i:Nat) {dst:Option Tmp} {op:Op} {ty:TypeId} {pos:String} {after:Array _} {guard:Option (Nat×Bool)} {v:Value} {fuel:Nat} {M:Array Bool} {a:Act} {w:World} (Y:ops[i]? = some ⟨dst,op,ty,pos,after,guard⟩)
  (hs:Region.noSelect ops=true) (X:Region.free md ops M i=true) (O:(Region.ready md ops M).contains i=true)
  (Z:∀c a w,Q (.panic c) (a.put dst v) w->Q (.panic c) a w) (hS:S w)
  (hw:Region.wanted ⟨dst,op,ty,pos,after,guard⟩ (yielded ops a.tmps)=true) (hy:∀w',S w'->(execOp a.eval ⟨dst,op,ty,pos,after,guard⟩).run P w'=.ok (.value v) w')
  (h:wpAnyH P md ops Q S fuel (M.setIfInBounds i true) (a.put dst v) w):wpAnyH P md ops Q S (fuel+1) M a w:=
 wpAnyH_take Y hs X O Z (.inl ⟨hw,hy⟩) hS h
theorem ty (i:Nat) {dst:Option Tmp} {op:Op} {ty:TypeId} {pos:String} {after:Array _} {guard:Option (Nat×Bool)} {v:Value} {fuel:Nat} {M l2:Array Bool} {a b:Act} {w:World} (O:ops[i]? = some ⟨dst,op,ty,pos,after,guard⟩) (hS:S w) (h:wpAnyH P md ops Q S fuel l2 b w) (X:∀w',S w'->(execOp a.eval ⟨dst,op,ty,pos,after,guard⟩).run P w'=.ok (.value v) w':=by intro w' hS;go_simp<;>rfl) (e1:M.setIfInBounds i true=l2:=by(conv=>lhs;simp only[J,U,Aa])) (e2:a.put dst v=b:=by(conv=>lhs;simp only[Act.put,J,U,Aa])) (hs:Region.noSelect ops=true:=by kernel_rfl) (hf:Region.free md ops M i=true:=by kernel_rfl) (hr:(Region.ready md ops M).contains i=true:=by kernel_rfl) (hQ:∀c a w,Q (.panic c) (a.put dst v) w->Q (.panic c) a w:=by exact fun _ _ _ h=>h) (hw:Region.wanted ⟨dst,op,ty,pos,after,guard⟩ (yielded ops a.tmps)=true:=by rfl):wpAnyH P md ops Q S (fuel+1) M a w:=by
 subst e1 e2;exact Ie i O hs hf hr hQ hS hw X h
theorem tw (i:Nat) {dst:Option Tmp} {op:Op} {ty:TypeId} {pos:String} {after:Array _} {guard:Option (Nat×Bool)} {v:Value} {fuel:Nat} {M l2:Array Bool} {a b:Act} {w:World} (X:ops[i]? = some ⟨dst,op,ty,pos,after,guard⟩) (hS:S w) (Y:∀w',S w'->(execOp a.eval ⟨dst,op,ty,pos,after,guard⟩).run P w'=.ok (.value v) w') (h:wpAnyH P md ops Q S fuel l2 b w) (O:M.setIfInBounds i true=l2:=by(conv=>lhs;simp only[J,U,Aa])) (e2:a.put dst v=b:=by(conv=>lhs;simp only[Act.put,J,U,Aa])) (hs:Region.noSelect ops=true:=by kernel_rfl) (hf:Region.free md ops M i=true:=by kernel_rfl) (hr:(Region.ready md ops M).contains i=true:=by kernel_rfl) (hQ:∀c a w,Q (.panic c) (a.put dst v) w->Q (.panic c) a w:=by exact fun _ _ _ h=>h) (hw:Region.wanted ⟨dst,op,ty,pos,after,guard⟩ (yielded ops a.tmps)=true:=by rfl):wpAnyH P md ops Q S (fuel+1) M a w:=by
 subst O e2;exact Ie i X hs hf hr hQ hS hw Y h
theorem tq (i : Nat) {dst : Option Tmp} {op : Op} {ty : TypeId} {pos : String} {after : Array _} {guard : Option (Nat × Bool)} {v : Value} {fuel : Nat} {M : Array Bool} {a : Act} {w : World} (O : ops[i]? = some ⟨dst, op, ty, pos, after, guard⟩) (hS : S w)
    (X : ∀ w', S w' -> (execOp a.eval ⟨dst, op, ty, pos, after, guard⟩).run P w'=.ok (.value v) w')
    (h : wpAnyH P md ops Q S fuel (M.setIfInBounds i true) (a.put dst v) w)
    (hs : Region.noSelect ops = true := by kernel_rfl) (hf : Region.free md ops M i = true := by kernel_rfl) (hr : (Region.ready md ops M).contains i = true := by kernel_rfl)
    (hQ : ∀ c a w, Q (.panic c) (a.put dst v) w -> Q (.panic c) a w := by exact fun _ _ _ h => h)
    (hw : Region.wanted ⟨dst, op, ty, pos, after, guard⟩ (yielded ops a.tmps) = true := by rfl) : wpAnyH P md ops Q S (fuel + 1) M a w :=
  Ie i O hs hf hr hQ hS hw X h
theorem Dj (i:Nat) {dst:Option Tmp} {op:Op} {ty:TypeId} {pos:String} {after:Array _} {guard:Option (Nat×Bool)} {fuel:Nat} {M:Array Bool} {a:Act} {w:World} (w':World) (Z:ops[i]? = some ⟨dst,op,ty,pos,after,guard⟩)
  (O:Region.ready md ops M = [i]) (hw:Region.wanted ⟨dst,op,ty,pos,after,guard⟩ (yielded ops a.tmps)=true) (Y:(execOp a.eval ⟨dst,op,ty,pos,after,guard⟩).run P w=.ok .skip w') (hS:S w')
  (h:wpAnyH P md ops Q S fuel (M.setIfInBounds i true) (a.put dst undef) w'):wpAnyH P md ops Q S (fuel+1) M a w:=by
 refine wpAnyH_all O (by simp) fun j X=>?_
 obtain rfl:j=i:=by simpa using X
 unfold wpOp;simp only[Z];rw[if_pos hw]
 left
 unfold Oper.wp;rw[Y];exact⟨hS,h⟩
end
section
variable {P:Program} {ops:Array Oper} {Q:Exit->Act->World->Prop} {md:Region.Mode}
def Ent (P:Program) (md:Region.Mode) (ops:Array Oper) (Q:Exit->Act->World->Prop) (S:World->Prop) (fuel:Nat) (listed:Array Bool) (a:Act) (w:World) (i:Nat):Prop:=
 ∃(dst:Option Tmp) (op:Op) (ty:TypeId) (pos:String) (after:Array _) (guard:Option (Nat×Bool)) (f:FuncId) (args:Array Value),ops[i]? = some ⟨dst,op,ty,pos,after,guard⟩/\Region.wanted ⟨dst,op,ty,pos,after,guard⟩ (yielded ops a.tmps)=true/\(execOp a.eval ⟨dst,op,ty,pos,after,guard⟩).run P w=.ok (.enter f args) w/\
  Calls P f args w fun e w'=>∃v,e=.returned v/\S w'/\wpAnyH P md ops Q S fuel (listed.setIfInBounds i true) (a.put dst v) w'
theorem MU (is:List Nat) {S:World->Prop} {fuel:Nat} {M:Array Bool} {a:Act} {w:World} (hr:Region.ready md ops M=is) (X:is≠[]) (h:∀j∈is,Eff P md ops Q S fuel M a w j\/Ent P md ops Q S fuel M a w j):wpAnyH P md ops Q S (fuel+1) M a w:=by
 refine wpAnyH_all hr X fun j hj=>?_
 rcases h j hj with⟨dst,op,ty,pos,after,guard,v,w',Z,hw,Y,hs,O⟩ | ⟨dst,op,ty,pos,after,guard,f,args,Z,hw,Y,O⟩
 ·unfold wpOp
  simp only[Z];rw[if_pos hw]
  left
  unfold Oper.wp;rw[Y];exact⟨hs,O⟩
 ·unfold wpOp
  simp only[Z];rw[if_pos hw]
  left
  unfold Oper.wp;rw[Y];refine O.mono ?_;rintro e w' ⟨v,rfl,hs,O⟩;exact⟨hs,O⟩
theorem b1 (i:Nat) {S:World->Prop} {fuel:Nat} {M:Array Bool} {a:Act} {w:World} (h:Eff P md ops Q S fuel M a w i\/Ent P md ops Q S fuel M a w i) (O:Region.ready md ops M = [i]:=by kernel_rfl):wpAnyH P md ops Q S (fuel+1) M a w:=
 MU [i] O (by simp) fun j X=>by
  obtain rfl:j=i:=by simpa using X
  exact h
theorem b2 (i k:Nat) {S:World->Prop} {fuel:Nat} {M:Array Bool} {a:Act} {w:World} (Y:Eff P md ops Q S fuel M a w i\/Ent P md ops Q S fuel M a w i) (Z:Eff P md ops Q S fuel M a w k\/Ent P md ops Q S fuel M a w k) (X:Region.ready md ops M = [i,k]:=by kernel_rfl):wpAnyH P md ops Q S (fuel+1) M a w:=
 MU [i,k] X (by simp) fun j O=>by
  have O:j=i\/j=k:=by simpa using O
  rcases O with rfl | rfl
  ·exact Y
  ·exact Z
end
end Reg
namespace SeL
open Go.RowKit Ae Se
def BZ (ks:Nat->UInt8) (u n:Int) (p:List UInt8):List UInt8×Int:=
 if 0<=u/\u<=255/\0<=n/\n<=1099511627776/\p.length<=784 then (Dm ks u.toNat n.toNat p,0) else ([],1)
def Cy (ks:Nat->UInt8) (u:Int) (l:List UInt8):List UInt8×Int:=
 if 0<=u/\u<=255 then (if isL ks u.toNat l=true then (mixL ks u.toNat (n8 l) (midL l),0) else ([],3)) else ([],1)
def Ns (n b:Nat) (h:Option Nat) (i:Nat):Prop:=i<n\/Ow b h i
theorem XG {n b g:Nat} {w:World} {A:Option Addr} {xs:List Value} (O:RdA (Nw n g) w A xs) (X:b<n):RdA (Ns n b (some g)) w A xs:=O.mono fun i _ M=>by
 rcases M with M | M
 ·exact .inl M
 ·rcases VN M with h | h
  ·exact .inl (by omega)
  ·exact .inr h
theorem LO (l:List UInt8) (h:16<=l.length):(midL l).length=l.length - 16:=by
 rw[midL,Ha,List.length_drop,List.length_take];omega
theorem VR {ks:Nat->UInt8} {u:Nat} {l:List UInt8} (h:isL ks u l=true):16<=l.length/\l.length<=800/\n8 l<=1099511627776/\tagL ks u (Ha l)=n8 (GS l):=by
 simp only[isL,Bool.and_eq_true,decide_eq_true_eq] at h;exact⟨h.1.1.1,h.1.1.2,h.1.2,h.2⟩
theorem SP (b:Nat) (ks:Nat->UInt8) (h:Option Nat) (a o r:Nat) (u N:Int) (A:Option Addr) (m c:Nat) (p:List UInt8) (w:World) (ha:a<1000000) (wN:(Lit.int .i64 N).wf=true) (hm:m=p.length) (M:m<=maxLen) (hr:RdA (Ow b h) w A (bvs p)) (O:Box w b ks h a o r) :
  Calls Tryz.prog 131 #[.pointer (some ⟨b,0,none⟩),.int .i64 u,.int .i64 N,.slice A m c] w fun e w'=>∃A2 c2 h' a',e=.returned (.tuple #[.slice A2 (BZ ks u N p).1.length c2,.int .i64 (BZ ks u N p).2])/\(BZ ks u N p).1.length<=c2/\c2<=maxLen/\RdA (Ns w.heap.size b h') w' A2 (bvs (BZ ks u N p).1)/\Box w' b ks h' a' o r/\De w w' b h h'/\a'<=a+1:=by
 by_cases hx:0<=u/\u<=255/\0<=N/\N<=1099511627776/\m<=784
 ·obtain⟨Y,rfl⟩:∃k:Nat,u=(k:Int):=⟨u.toNat,by omega⟩
  obtain⟨X,rfl⟩:∃k:Nat,N=(k:Int):=⟨N.toNat,by omega⟩;have e:BZ ks (Y:Int) (X:Int) p=(Dm ks Y X p,0):=by rw[BZ,if_pos (by omega)];rfl
  rw[e];refine(VM b ks h a o r Y X A m c p w ha (by omega) (by omega) hm (by omega) hr O).mono ?_;rintro e w' ⟨g,A2,c2,rfl,Z,h2,h3,h4,h5⟩;exact⟨A2,c2,some g,a+1,by rw[BT,hm],by rw[BT,<-hm];exact Z,h2,XG h3 O.lt,h4,h5.o,Nat.le_refl _⟩
 ·have e:BZ ks u N p=([],1):=by rw[BZ,if_neg (by omega)]
  rw[e];refine(SI b u N A m c w wN M hx).mono ?_;rintro e w' ⟨rfl,hw⟩;subst hw;exact⟨none,0,h,a,rfl,Nat.le_refl _,Nat.zero_le _,.inl rfl,O,De.refl _ _ _,by omega⟩
theorem KJ (ks:Nat->UInt8) (u N:Int) (A:Option Addr) (m c:Nat) (p:List UInt8) (w:World) (hm:m=p.length) (X:Rd w w.heap.size A (bvs p)) :
  Calls Tryz.prog 31 #[.agg (AW ks),.int .i64 u,.int .i64 N,.slice A m c] w fun e w'=>∃A2 c2,e=.returned (.tuple #[.slice A2 (BZ ks u N p).1.length c2,.int .i64 (BZ ks u N p).2])/\RdA (fun i=>i<w.heap.size) w' A2 (bvs (BZ ks u N p).1)/\Below w.heap.size w w':=by
 by_cases hx:0<=u/\u<=255/\0<=N/\N<=1099511627776/\m<=784
 ·obtain⟨O,rfl⟩:∃k:Nat,u=(k:Int):=⟨u.toNat,by omega⟩
  obtain⟨M,rfl⟩:∃k:Nat,N=(k:Int):=⟨N.toNat,by omega⟩;have e:BZ ks (O:Int) (M:Int) p=(Dm ks O M p,0):=by rw[BZ,if_pos (by omega)];rfl
  rw[e];refine(SN ks O M A m c p w (by omega) (by omega) hm (by omega) X).mono ?_;rintro e w' ⟨A2,c2,rfl,Y,Z⟩;exact⟨A2,c2,by rw[BT,hm],Y,Z⟩
 ·have e:BZ ks u N p=([],1):=by rw[BZ,if_neg (by omega)]
  rw[e];refine(Qo ks u N A m c w hx).mono ?_;rintro e w' ⟨rfl,hb⟩;exact⟨none,0,rfl,.inl rfl,hb⟩
end SeL
namespace Cl
open Ae Se
open Nm (krb L tgL tgR BY)
open Ms (Pr Tk An Rp As Tg Re Ap Fa Mg tmB mgO mgD anO rpO rpD as0 tg0 re0 ap0 fa0)
open SeL (BZ Cy)
open Ca (It Cr putL putE getO)
structure Ou where
 no:Int
 ks:Nat->UInt8
 u:Int
structure St where
 l:List It
 n:Nat
 s:Nat
 q:Nat
 st:Int
 er:Int
 sn:Int
 tg:Pr
 vs:List L
 ou:Ou
def zK:Nat->UInt8:=fun _=>0
def ou0:Ou:=⟨0,zK,0⟩
def st0:St:=⟨[],0,0,0,0,0,0,([],[]),[],ou0⟩
structure Md where
 put:List It->Pr->Cr->Int->List It
 err:List It->Pr->Int->Nat
 clr:Bool
def mC:Md:=⟨putL,putE,true⟩
def own (P:Pr):Pr:=(P.1,krb++P.1)
def JN (p:Pr):Bool:=BY p.1 p.2 && !tgL p.2
def Hc (now:Int):Int:=min (now+1000) 1073741824
def lO (o:Option L):L:=o.getD []
def seaL (ks:Nat->UInt8) (u:Int) (N:Nat) (a:An):L:=(BZ ks u ((N:Nat):Int) (lO (anO a))).1
def tkOf (x:Cr):Tk:=⟨x.s,x.n,x.b⟩
def mAs (q:As):Mg:=⟨1,q,tg0,re0,ap0,fa0⟩
def mTg (q:Tg):Mg:=⟨2,as0,q,re0,ap0,fa0⟩
def mRe (q:Re):Mg:=⟨3,as0,tg0,q,ap0,fa0⟩
def furQ (P:Pr) (s:St) (x:Cr) (now:Int):Tg:=⟨tkOf x,seaL x.k 7 (s.s+1) ⟨P,now,0⟩,s.tg,Hc now,((s.n+1:Nat):Int)⟩
def furS (s:St) (r:L) (x:Cr):St:={s with s:=s.s+1,n:=s.n+1,vs:=s.vs++[r],ou:=⟨((s.n+1:Nat):Int),x.k,8⟩,sn:=s.sn+1}
def furL (P:Pr) (s:St) (r:L) (x:Cr) (now:Int):St×(L×L):=(furS s r x,(r,lO (mgO (mTg (furQ P s x now)))))
def firQ (P:Pr) (s:St) (now:Int):As:=⟨P,own P,Hc now,((s.n+1:Nat):Int)⟩
def firS (ks:Nat->UInt8) (s:St):St:={s with n:=s.n+1,ou:=⟨((s.n+1:Nat):Int),ks,3⟩,sn:=s.sn+1}
def begS (s:St) (t:Pr):St:={s with st:=1,er:=0,sn:=0,tg:=t,vs:=[],ou:=ou0}
def endS (m:Md) (s:St) (st er:Int):St:=if m.clr then {s with st:=st,er:=er,tg:=([],[]),vs:=[],ou:=ou0} else {s with st:=st,er:=er}
def opeL (P:Pr) (s:St) (r:Re):Option Cr:=
 if r.c=P then
  if (Cy s.ou.ks s.ou.u r.b).2=0 then
   match rpD (Cy s.ou.ks s.ou.u r.b).1 with
   |none=>none
   |some p=>if p.no=s.ou.no/\p.s=r.t.s then some ⟨r.t.s,r.t.k,r.t.b,ksOf p.ss,p.en⟩ else none
  else none
 else none
def refL (P:Pr) (s:St) (v:Pr):L×Int:=
 if tgL v.2=true then
  if s.ou.u=3/\v≠own P then ([],9)
  else if tgR v.2∈s.vs then ([],14)
  else if 5<s.vs.length then ([],15)
  else (tgR v.2,0)
 else ([],9)
def putS (m:Md) (s:St) (x:Cr) (now:Int):St:={s with l:=m.put s.l x.s x now}
def goL (m:Md) (P:Pr) (s:St) (x:Cr) (now:Int):St×(L×L):=
 if m.err s.l x.s now=0 then
  if x.s=s.tg then (endS m (putS m s x now) 2 0,([],[]))
  else if (refL P s x.s).2=0 then furL P (putS m s x now) (refL P s x.s).1 x now
  else (endS m (putS m s x now) 3 (refL P s x.s).2,([],[]))
 else (endS m (putS m s x now) 3 (m.err s.l x.s now),([],[]))
def takL (m:Md) (P:Pr) (s:St) (b:L) (now:Int):St×(L×L):=
 if s.st=1/\tmB now=true then
  match mgD b with
  |none=>(s,([],[]))
  |some g=>
   if g.k=5 then (if g.fa.no=s.ou.no then (endS m s 3 g.fa.e,([],[])) else (s,([],[])))
   else if g.k=3 then
    match opeL P s g.re with
    |none=>(s,([],[]))
    |some x=>goL m P s x now
   else (s,([],[]))
 else (s,([],[]))
end Cl
namespace Wh
open Go.RowKit Ae
section
variable {w w':World} {g o:Nat} {t:TypeId} {cs ds ps:Array Value} {pre mid post:List Value}
theorem Ac (h:Blk w g t cs):w.rangeAt g 0 cs.toList:=fun j v M=>by
 rw[Nat.zero_add,h.cell];simpa using M
theorem CY (h:Blk w g t cs) (Y:cs.toList=pre++(mid++post)) (o:Nat) (X:o=pre.length):w.rangeAt g o mid:=fun j v M=>by
 subst X;have O:j<mid.length:=(List.getElem?_eq_some_iff.1 M).1;rw[h.cell,<-Array.getElem?_toList,Y,List.getElem?_append_right (by omega),Nat.add_sub_cancel_left,List.getElem?_append_left O];exact M
theorem BO (h:Blk w g t cs) (o n:Nat) (O:o+n<=cs.size):w.there g o n:=fun j M=>by
 rw[h.cell,Array.getElem?_eq_getElem (by omega)];exact⟨rfl,h.frozen (o+j)⟩
theorem Bj {g:Nat} {t:TypeId}:∀(vs:List Value) (o:Nat) (w:World) (cs:Array Value),Blk w g t cs->o+vs.length<=cs.size->
  ∃ds:Array Value,Blk (w.setCells g o vs) g t ds/\ds.size=cs.size/\(∀i,o<=i->i<o+vs.length->ds[i]? = vs[i - o]?)/\(∀i,i<o\/o+vs.length<=i->ds[i]? = cs[i]?)
 | [],o,w,cs,h,hl=>⟨cs,h,rfl,fun i O M=>by simp at M;omega,fun i _=>rfl⟩
 |v :: r,o,w,cs,h,hl=>by
  rw[World.setCells];simp only[List.length_cons] at hl;obtain⟨ds,O,M,Z,X⟩:=Bj r (o+1) _ _ (h.set o v) (by simp;omega);simp only[List.length_cons];refine⟨ds,O,by simpa using M,fun i Y hj=>?_,fun i Y=>?_⟩
  ·by_cases e:i=o
   ·subst e
    rw[X i (by omega),Nat.sub_self];rw[Array.getElem?_setIfInBounds_self_of_lt (by omega)]
    rfl
   ·rw[Z i (by omega) (by omega),show i - o=(i - (o+1))+1 by omega]
    simp
  ·rw[X i (by omega)]
   exact Array.getElem?_setIfInBounds_ne (by omega)
theorem AJ (h:Blk w g t cs) (hs:cs.size=ds.size):Blk (w.setCells g 0 ds.toList) g t ds:=by
 obtain⟨es,M,X,O,_⟩:=Bj ds.toList 0 w cs h (by simp;omega);have e:es=ds:=by
  apply Array.ext_getElem?;intro i
  by_cases hi:i<ds.size
  ·rw[O i (by omega) (by simp;omega)];simp
  ·rw[Array.getElem?_eq_none (by omega),Array.getElem?_eq_none (by omega)]
 rw[<-e];rw[<-e] at M;exact M
theorem El {row:Option Nat} {a:World} {g:Nat} (M:row=some g\/a.heap.size<=g):∀(vs:List Value) (o:Nat) (w:World),a.grownBy w row->a.grownBy (w.setCells g o vs) row
 | [],_,_,h=>h
 |v :: r,o,w,h=>by rw[World.setCells];exact El M r (o+1) _ (Ar h (p:=⟨g,o,none⟩) M v)
theorem Dp (w:World) (g o:Nat) (vs:List Value):w.grownBy (w.setCells g o vs) (some g):=El (.inl rfl) vs o w (World.grownBy.refl _ _)
end
section
variable {P:Program} {ops:Array Oper} {rest:List Oper} {op:Oper} {a:Act} {w:World} {Q:Exit->Act->World->Prop}
theorem AE (hw:Region.wanted op (yielded ops a.tmps)=true) (ty:TypeId) (x:Operand) (M:op.op=.load ty x)
  (g o:Nat) (O:a.eval x=.pointer (some ⟨g,o,none⟩)) (cs:Array Value) (d:TypeDesc) (hc:w.rangeAt g o cs.toList)
  (hu:P.underlying ty=some d) (Z:d.isRow=true) (X:(P.info? ty).map (·.size)=some cs.size)
  (h:wpList P ops Q rest (a.put op.dst (.agg cs)) w):wpList P ops Q (op :: rest) a w:=
 BigFrame.wpList_want hw fun _ Y=>wp_load_mid ty x M g o O cs.toList d hc hu Z (by rw[Array.length_toList];exact X) (by simpa using Y _ _ h)
theorem Qr (w:World) (t:TypeId) (lit cs:Array Value) (hs:lit.size=cs.size):Blk ((w.alloc (.cells lit t)).setCells w.heap.size 0 cs.toList) w.heap.size t cs/\Below w.heap.size w ((w.alloc (.cells lit t)).setCells w.heap.size 0 cs.toList):=
 ⟨AJ (Blk.new w t lit) hs,Ak ((Below.refl w.heap.size w).alloc Af _) (Dp _ _ _ _) (by simp) Af⟩
theorem Bv {w0:World} {lit:Array Value} (M:op.guard=none) (ty:TypeId) (x y:Operand) (Y:op.op=.store ty x y) (t:TypeId) (hw:w=w0.alloc (.cells lit t))
  (cells:Array Value) (Z:a.eval x=.pointer (some ⟨w0.heap.size,0,none⟩)) (hy:a.eval y=.agg cells) (hs:lit.size=cells.size)
  (hi:(P.info? ty).map (·.size)=some cells.size) (X:cells.all (·.oneCell')=true)
  (h:∀V,Blk V w0.heap.size t cells->Below w0.heap.size w0 V->wpList P ops Q rest (a.put op.dst undef) V):wpList P ops Q (op :: rest) a w:=by
 subst hw;have O:=Qr w0 t lit cells hs;exact wpList_store_mid M ty x y Y w0.heap.size 0 cells Z hy (BO (Blk.new w0 t lit) _ _ (by omega)) hi X (h _ O.1 O.2)
theorem BP (M:op.guard=none) (ty:TypeId) (x y:Operand) (Y:op.op=.store ty x y) (g:Nat) (t:TypeId) (old:Array Value) (O:Blk w g t old)
  (cells:Array Value) (Z:a.eval x=.pointer (some ⟨g,0,none⟩)) (hy:a.eval y=.agg cells) (hs:old.size=cells.size)
  (hi:(P.info? ty).map (·.size)=some cells.size) (X:cells.all (·.oneCell')=true)
  (h:∀V,Blk V g t cells->w.grownBy V (some g)->wpList P ops Q rest (a.put op.dst undef) V):wpList P ops Q (op :: rest) a w:=
 wpList_store_mid M ty x y Y g 0 cells Z hy (BO O _ _ (by omega)) hi X (h _ (AJ O hs) (Dp _ _ _ _))
theorem Al {fn:Func} {tmps:Array Value} {w:World} {v:Value} (t:Nat) (ty:TypeId) (a:Addr) (M:fn.results=#[.cell t ty]) (Y:tmps.getD t undef=.pointer (some a)) (X:(loadVar ty a).run P w=.ok v w) :
  (results fn tmps).run P w=.ok v w:=by
 have O:tmps[t]?.getD undef=.pointer (some a):=by simpa using Y
 simp [results,M,O,asAddr,X]
theorem Ao {g:Nat} {t ty:TypeId} {cs:Array Value} {d:TypeDesc} (h:Blk w g t cs) (hu:P.underlying ty=some d) (O:d.isRow=true) (M:(P.info? ty).map (·.size)=some cs.size) :
  (loadVar ty ⟨g,0,none⟩).run P w=.ok (.agg cs) w:=by
 have:=run_loadVar_mid (P:=P) w g 0 ty cs.toList d (Ac h) hu O (by simpa using M)
 simpa using this
theorem Da {w':World} {o:Oper} {g:Nat} {t ty:TypeId} {cs:Array Value} {d:TypeDesc} (x:Operand) (O:o.op=.load ty x) (Y:a.eval x=.pointer (some ⟨g,0,none⟩)) (h:Blk w' g t cs) (hu:P.underlying ty=some d) (X:d.isRow=true) (M:(P.info? ty).map (·.size)=some cs.size) :
  (execOp a.eval o).run P w'=.ok (.value (.agg cs)) w':=by
 unfold execOp;simp only[O,Y,Instr.loadAt,Instr.sureAddr,Sem.run_bind,Sem.run_pure,Result.andThen_ok,Ao h hu X M]
end
theorem VS (l:List Value):∀(k:Nat) (Z:Array Value),k+l.length<=Z.size->((l.zipIdx k).foldl (fun a x=>a.setIfInBounds (0+x.2) x.1) Z).size=Z.size/\∀i,((l.zipIdx k).foldl (fun a x=>a.setIfInBounds (0+x.2) x.1) Z)[i]? = if k<=i/\i<k+l.length then l[i - k]? else Z[i]?:=by
 induction l with
 |nil=>
  intro k Z h;refine⟨rfl,fun i=>?_⟩;rw[if_neg (by simp)]
  rfl
 |cons c l ih=>
  intro k Z h;simp only[List.length_cons] at h;obtain⟨M,O⟩:=ih (k+1) (Z.setIfInBounds (0+k) c) (by simp;omega);rw[List.zipIdx_cons,List.foldl_cons];refine⟨by rw[M];simp,fun i=>?_⟩;rw[O]
  by_cases e:i=k
  ·subst e
   rw[if_neg (by omega),if_pos (by simp),Nat.sub_self,Nat.zero_add,Array.getElem?_setIfInBounds_self_of_lt (by omega)]
   rfl
  ·by_cases g:k+1<=i/\i<k+1+l.length
   ·rw[if_pos g,if_pos (by simp;omega),show i - k=(i - (k+1))+1 by omega]
    simp
   ·rw[if_neg g,if_neg (by simp;omega),Array.getElem?_setIfInBounds_ne (by omega)]
theorem SR (cs Z:Array Value) (n:Nat) (Y:cs.size=n) (X:Z.size=n):Instr.fill (fun i=>some (i*n,n)) Z [(0,.agg cs)]=some cs:=by
 have O:=VS cs.toList 0 Z (by simp;omega);have e:cs.zipIdx.foldl (fun a (x:Value×Nat)=>a.setIfInBounds (0+x.2) x.1) Z=cs:=by
  rw[<-Array.foldl_toList,Array.toList_zipIdx];apply Array.ext_getElem?;intro i;rw[O.2]
  by_cases g:i<cs.size
  ·rw[if_pos (by simp;omega)];simp
  ·rw[if_neg (by simp;omega),Array.getElem?_eq_none (by omega),Array.getElem?_eq_none (by omega)]
 have M:(Value.agg cs).cells=cs:=rfl;unfold Instr.fill;simp only[Nat.zero_mul,M];rw[if_neg (by simp;omega)];unfold Instr.fill
 congr 1
section
variable {P:Program}
theorem Gz (w:World) (t e:TypeId) (cs:Array Value) (M:TypeInfo) (z:Value) (hu:P.underlying t=some (.slice e)) (O:P.info? e=some M) (X:M.zero=some z) (hs:M.size=cs.size) (Z:0<cs.size) (Y:cs.size<=16777216) :
  (Instr.buildSlice t 1 #[(0,.agg cs)]).run P w=.ok (.slice (some ⟨w.heap.size,0,none⟩) 1 1) (w.alloc (.cells cs e)):=
 run_buildSlice w t e 1 _ cs M z hu O X (by rw[hs];omega) (by rw[hs];omega) (SR cs _ M.size hs.symm (by simp))
end
theorem JO {P:Program} {α:Type} (f:α->List Value) (n bytes:Nat) (hf:∀x,(f x).length=n) (Z:∀x,∀u∈f x,u.oneCell'=true) (w:World) (t ty e:TypeId) (i:TypeInfo) (z:Value) (ht:P.underlying t=some (.slice e)) (hi:P.info? e=some i) (hz:i.zero=some z) (hs:i.size=n) (hb:i.bytes=bytes) (Y:z.cells.size=n) (hn:0<n)
  (base:Nat) (v:Value) (l:List α) (O:w.ownsRow base e n v l.length (l.flatMap f)) (x:α) (g:Nat) (hg:Blk w g e (f x).toArray) (hl:l.length+1<=100000) (X:bytes<=10000) (M:base<=w.heap.size) :
  ∃v' w',(Builtin.append_ #[t,t] ty #[v,.slice (some ⟨g,0,none⟩) 1 1]).run P w=.ok v' w'/\w'.ownsRow base e n v' (l++[x]).length ((l++[x]).flatMap f)/\w.grownBy w' v.ownBlock/\(v'.ownBlock=v.ownBlock\/v'.ownBlock=some w.heap.size):=by
 obtain⟨v',w',h2,h3,h4,_,h5⟩:=run_append_own_at (P:=P) w base t ty e i z n bytes ht hi hz hs hb Y hn v l.length (l.flatMap f) O ⟨g,0,none⟩ 1 1 (f x) (by rw[hf];omega) (fun j u hu=>by
  rw[addr_add,Nat.zero_add,hg.cell j]
  simpa using hu) (Z x) (by unfold maxLen;omega) (by
   have:(l.length+1)*bytes<=100000*10000:=Nat.mul_le_mul hl X;omega) M
 exact⟨v',w',h2,by rw[List.length_append,List.flatMap_append,List.flatMap_singleton];exact h3,h4,h5⟩
end Wh
namespace Rg
open Go.RowKit Ae Se
abbrev prC (p:Pr):List Value:=[.string ⟨p.1.toArray⟩,.string ⟨p.2.toArray⟩]
abbrev prV (p:Pr):Value:=.agg #[.string ⟨p.1.toArray⟩,.string ⟨p.2.toArray⟩]
def iC (i:It):List Value:=.string ⟨i.p.1.toArray⟩ :: .string ⟨i.p.2.toArray⟩ :: .int .i64 (i.n:Int) :: (AW i.k).toList
structure Ent where
 it:It
 b:Nat
 h:Option Nat
 a:Nat
 o:Nat
 r:Nat
def eC (e:Ent):List Value:=iC e.it++[.pointer (some ⟨e.b,0,none⟩)]
theorem JP {α:Type} (f:α->List Value) (n:Nat) (h:∀x,(f x).length=n):∀l:List α,(l.flatMap f).length=l.length*n
 | []=>by simp
 |a :: l=>by simp only[List.flatMap_cons,List.length_append,h,JP f n h l,List.length_cons,Nat.succ_mul];omega
theorem LP {α:Type} (f:α->List Value) (n:Nat) (h:∀x,(f x).length=n):∀(l:List α) (i:Nat) (x:α),l[i]? = some x->∀j v,(f x)[j]? = some v->(l.flatMap f)[i*n+j]? = some v
 | [],i,x,hx,_,_,_=>by simp at hx
 |a :: l,0,x,hx,j,v,hv=>by
  injection hx with hx;subst hx;have:=(List.getElem?_eq_some_iff.1 hv).1;rw[List.flatMap_cons,Nat.zero_mul,Nat.zero_add,List.getElem?_append_left this];exact hv
 |a :: l,i+1,x,hx,j,v,hv=>by
  rw[List.flatMap_cons,List.getElem?_append_right (by rw[h,Nat.succ_mul];omega),h,show(i+1)*n+j - n=i*n+j by rw[Nat.succ_mul];omega];exact LP f n h l i x hx j v hv
def RdR {α:Type} (w:World) (B:Nat) (A:Option Addr) (f:α->List Value) (n:Nat) (l:List α):Prop:=
 l = []\/∃g,A=some ⟨g,0,none⟩/\g<B/\∀i x,l[i]? = some x->w.rangeAt g (i*n) (f x)
theorem RdR.keep {α:Type} {w w':World} {B:Nat} {A:Option Addr} {f:α->List Value} {n:Nat} {l:List α} (h:RdR w B A f n l) (hb:Below B w w'):RdR w' B A f n l:=by
 rcases h with h | ⟨g,O,M,Z⟩
 ·exact .inl h
 ·exact .inr ⟨g,O,M,fun i x X j v Y=>(hb.cell (p:=⟨g,_,none⟩) M).trans (Z i x X j v Y)⟩
theorem RdR.at_ {α:Type} {w:World} {B:Nat} {A:Option Addr} {f:α->List Value} {n:Nat} {l:List α} {i:Nat} {x:α} (h:RdR w B A f n l) (M:l[i]? = some x):∃g,A=some ⟨g,0,none⟩/\g<B/\w.rangeAt g (i*n) (f x):=by
 rcases h with h | ⟨g,O,X,Y⟩
 ·subst h;simp at M
 ·exact⟨g,O,X,Y i x M⟩
theorem Cu {α:Type} {w:World} {base:Nat} {t:TypeId} {v:Value} {f:α->List Value} {n:Nat} {l:List α} (hn:∀x,(f x).length=n) (h:w.ownsRow base t n v l.length (l.flatMap f)):∃A c,v=.slice A l.length c/\l.length<=c/\c<=maxLen/\RdR w w.heap.size A f n l:=by
 have Y:=h;rcases h.2 with⟨M,h2⟩ | ⟨g,cap,cur,M,hg,O,X,hm,_⟩
 ·have e:l = []:=List.eq_nil_of_length_eq_zero h2
  subst e;exact⟨none,0,M,Nat.le_refl _,Nat.zero_le _,.inl rfl⟩
 ·subst M
  refine⟨_,cap,rfl,X,hm,.inr ⟨g,rfl,(Array.getElem?_eq_some_iff.1 O).1,fun i x Z j v hv=>?_⟩⟩;have M:=Y.cells (g:=g) rfl (i*n+j) v (LP f n hn l i x Z j v hv);rw[addr_add,Nat.zero_add] at M;exact M
theorem Cd {S:Nat->Prop} {w w':World} {base size n:Nat} {t:TypeId} {v:Value} {xs:List Value} (h:Chg S w w') (O:w.ownsRow base t size v n xs) (hs:∀k,v.ownBlock=some k->¬S k):w'.ownsRow base t size v n xs:=by
 refine⟨O.1,?_⟩;rcases O.2 with Y | ⟨g,cap,cur,rfl,X,M,rest⟩
 ·exact .inl Y
 ·exact .inr ⟨g,cap,cur,rfl,X,(h.block g (Array.getElem?_eq_some_iff.1 M).1 (hs g rfl)).trans M,rest⟩
def its (es:List Ent):List It:=es.map (·.it)
theorem DY (es:List Ent):(its es).length=es.length:=by simp [its]
section
variable {w w':World} {B r:Nat} {v v':Value} {es:List Ent} {S:Nat->Prop}
end
theorem UC (x y:Pr) (w:World):(Op.equalIn 10000 35 (.agg #[.string ⟨x.1.toArray⟩,.string ⟨x.2.toArray⟩]) (.agg #[.string ⟨y.1.toArray⟩,.string ⟨y.2.toArray⟩])).run Tryz.prog w=.ok (decide (x=y)) w:=by
 obtain⟨a,b⟩:=x;obtain⟨c,d⟩:=y;simp only
 by_cases h0:a=c
 ·subst h0
  by_cases h1:b=d
  ·subst h1
   rw[decide_eq_true rfl]
   go_simp
  ·rw[decide_eq_false (fun h=>h1 (congrArg (fun z=>z.2) h))]
   go_simp
 ·rw[decide_eq_false (fun h=>h0 (congrArg (fun z=>z.1) h))]
  go_simp
theorem Bn {x y:Pr} (h:x=y):∀w,(Op.equalIn 10000 35 (.agg #[.string ⟨x.1.toArray⟩,.string ⟨x.2.toArray⟩]) (.agg #[.string ⟨y.1.toArray⟩,.string ⟨y.2.toArray⟩])).run Tryz.prog w=.ok true w:=fun w=>by rw[UC,decide_eq_true h]
theorem BC {x y:Pr} (h:x≠y):∀w,(Op.equalIn 10000 35 (.agg #[.string ⟨x.1.toArray⟩,.string ⟨x.2.toArray⟩]) (.agg #[.string ⟨y.1.toArray⟩,.string ⟨y.2.toArray⟩])).run Tryz.prog w=.ok false w:=fun w=>by rw[UC,decide_eq_false h]
theorem AZ:(Tryz.prog.info? 35).map (·.size)=some 2:=by kernel_rfl
def eA (e:Ent):Array Value:=(eC e).toArray
def kC (k:Nat->UInt8):List Value:=(AW k).toList
def OwnK (w:World) (base:Nat) (v:Value) (K:List (Nat->UInt8)):Prop:=w.ownsRow base 30 32 v K.length (K.flatMap kC)
theorem OwnK.below {w w':World} {base:Nat} {v:Value} {K:List (Nat->UInt8)} (h:OwnK w base v K) (M:Below w.heap.size w w'):OwnK w' base v K:=CK h M
theorem Hd {w w':World} {row:Option Nat} (h:w.grownBy w' row):Chg (fun q=>row=some q) w w':=⟨h.os,h.tape,h.output,h.size,fun i M O=>h.block i M (fun e=>O e.symm)⟩
section
variable {P:Program} {w w':World} {a:Act} {dst:Option Tmp} {ty:TypeId} {pos:String} {after:Array _} {guard:Option (Nat×Bool)}
theorem He {t:TypeId} {parts:Array (Nat×Operand)} {vs:List (Nat×Value)} {cells:Array Value} (M:(parts.map fun x=>(x.1,a.eval x.2)).toList=vs) (h:P.built t vs=some cells) :
  (execOp a.eval ⟨dst,.build t parts,ty,pos,after,guard⟩).run P w=.ok (.value (.agg cells)) w:=by
 have:=run_build (P:=P) w t (parts.map fun x=>(x.1,a.eval x.2)) cells (by rw[M];exact h);simp only[execOp,Sem.run_bind,this,Result.andThen_ok,Sem.run_pure]
theorem FG {t:TypeId} {x:Operand} {cs:Array Value} {s:Value} (M:a.eval x=.agg cs) (h:(Instr.buildSlice t 1 #[(0,.agg cs)]).run P w=.ok s w') :
  (execOp a.eval ⟨dst,.buildSlice t 1 #[(0,x)],ty,pos,after,guard⟩).run P w=.ok (.value s) w':=by
 simp only[execOp,Sem.run_bind,List.map_toArray,List.map_cons,List.map_nil,M,h,Result.andThen_ok,Sem.run_pure]
theorem Ig {t:TypeId} {x y:Operand} {u v s:Value} (O:a.eval x=u) (M:a.eval y=v) (h:(Builtin.append_ #[t,t] ty #[u,v]).run P w=.ok s w') :
  (execOp a.eval ⟨dst,.call {callee:=.builtin .append,args:=#[x,y],argTypes:=#[t,t]},ty,pos,after,guard⟩).run P w=.ok (.value s) w':=by
 simp only[execOp,resolve,invoke,builtin,Sem.run_bind,Sem.run_pure,Result.andThen_ok,List.map_toArray,List.map_cons,List.map_nil,O,M,h]
end
end Rg
end Go.Proofs.YtlccngianpfalaaGreat
