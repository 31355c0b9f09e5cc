import Derived.Test.YtlccngianpfalaaGreatZClientRequests7
set_option maxHeartbeats 25600000
set_option maxRecDepth 100000
set_option linter.unusedVariables false
set_option linter.unusedSimpArgs false
namespace Go.Proofs.YtlccngianpfalaaGreat
namespace Reg
open Go.RowKit Ae
section
variable {P:Program} {ops:Array Oper} {Q:Exit->Act->World->Prop} {md:Region.Mode}
theorem KT {X M:World->Prop} (hS:∀w,M w->X w):∀(f:Nat) (l:Array Bool) (a:Act) (w:World),wpAnyH P md ops Q M f l a w->wpAnyH P md ops Q X f l a w
 |0,_,_,_,h=>h
 |f+1,_,_,_,h=>⟨h.1,fun i Z=>wpOp_mono (fun Y w' O=>⟨hS w' O.1,KT hS f _ Y w' O.2⟩) (h.2 i Z)⟩
def Ef (W w:World):Prop:=Below W.heap.size W w
theorem Wa {W w:World} {f:Nat} {l:Array Bool} {a:Act} (O:Below W.heap.size W w) (h:wpAnyH P md ops Q (Ef w) f l a w):wpAnyH P md ops Q (Ef W) f l a w:=
 KT (fun _ M=>bt O M) f l a w h
theorem BJ (n:Nat) {id:Nat} {a:Act} {w:World} (M:ops.size=n) (hm:P.follows .mixedOrders=true) (h:wpAnyH P .any ops Q (Ef w.drew) n (Array.replicate n false) a w.drew):(Code.region id ops true).wp P Q a w:=by
 subst M;exact wp_region_held_drew hm Ag (fun _=>h)
theorem QB (i:Nat) {dst:Option Tmp} {op:Op} {ty:TypeId} {pos:String} {after:Array _} {guard:Option (Nat×Bool)} {v:Value} {fuel:Nat} {M:Array Bool} {a:Act} {w:World} (hi:ops[i]? = some ⟨dst,op,ty,pos,after,guard⟩)
  (hs:Region.noSelect ops=true) (Y:Region.free md ops M i=true) (Z:(Region.ready md ops M).contains i=true)
  (O:∀c a w,Q (.panic c) (a.put dst v) w->Q (.panic c) a w)
  (hw:Region.wanted ⟨dst,op,ty,pos,after,guard⟩ (yielded ops a.tmps)=true) (X:∀w',Ef w w'->(execOp a.eval ⟨dst,op,ty,pos,after,guard⟩).run P w'=.ok (.value v) w')
  (h:wpAnyH P md ops Q (Ef w) fuel (M.setIfInBounds i true) (a.put dst v) w):wpAnyH P md ops Q (Ef w) (fuel+1) M a w:=
 wpAnyH_take hi hs Y Z O (.inl ⟨hw,X⟩) Ag h
theorem tz (i:Nat) {dst:Option Tmp} {op:Op} {ty:TypeId} {pos:String} {after:Array _} {guard:Option (Nat×Bool)} {v:Value} {fuel:Nat} {M l2:Array Bool} {a b:Act} {w:World} (X:ops[i]? = some ⟨dst,op,ty,pos,after,guard⟩) (h:wpAnyH P md ops Q (Ef w) fuel l2 b w) (O:∀w',Ef w w'->(execOp a.eval ⟨dst,op,ty,pos,after,guard⟩).run P w'=.ok (.value v) w':=by intro w' hS;go_simp;rfl) (e1:M.setIfInBounds i true=l2:=by(conv=>lhs;simp only[J,U,Aa])) (e2:a.put dst v=b:=by(conv=>lhs;simp only[Act.put,J,U,Aa])) (hs:Region.noSelect ops=true:=by kernel_rfl) (hf:Region.free md ops M i=true:=by kernel_rfl) (hr:(Region.ready md ops M).contains i=true:=by kernel_rfl) (hQ:∀c a w,Q (.panic c) (a.put dst v) w->Q (.panic c) a w:=by exact fun _ _ _ h=>h) (hw:Region.wanted ⟨dst,op,ty,pos,after,guard⟩ (yielded ops a.tmps)=true:=by rfl):wpAnyH P md ops Q (Ef w) (fuel+1) M a w:=by
 subst e1 e2;exact QB i X hs hf hr hQ hw O h
theorem tx (i:Nat) {dst:Option Tmp} {op:Op} {ty:TypeId} {pos:String} {after:Array _} {guard:Option (Nat×Bool)} {v:Value} {fuel:Nat} {M l2:Array Bool} {a b:Act} {w:World} (Y:ops[i]? = some ⟨dst,op,ty,pos,after,guard⟩) (O:∀w',Ef w w'->(execOp a.eval ⟨dst,op,ty,pos,after,guard⟩).run P w'=.ok (.value v) w') (h:wpAnyH P md ops Q (Ef w) fuel l2 b w) (X:M.setIfInBounds i true=l2:=by(conv=>lhs;simp only[J,U,Aa])) (e2:a.put dst v=b:=by(conv=>lhs;simp only[Act.put,J,U,Aa])) (hs:Region.noSelect ops=true:=by kernel_rfl) (hf:Region.free md ops M i=true:=by kernel_rfl) (hr:(Region.ready md ops M).contains i=true:=by kernel_rfl) (hQ:∀c a w,Q (.panic c) (a.put dst v) w->Q (.panic c) a w:=by exact fun _ _ _ h=>h) (hw:Region.wanted ⟨dst,op,ty,pos,after,guard⟩ (yielded ops a.tmps)=true:=by rfl):wpAnyH P md ops Q (Ef w) (fuel+1) M a w:=by
 subst X e2;exact QB i Y hs hf hr hQ hw O h
theorem Wb (i:Nat) {dst:Option Tmp} {op:Op} {ty:TypeId} {pos:String} {after:Array _} {guard:Option (Nat×Bool)} {fuel:Nat} {M:Array Bool} {a:Act} {w:World} (Z:ops[i]? = some ⟨dst,op,ty,pos,after,guard⟩)
  (hs:Region.noSelect ops=true) (X:Region.free md ops M i=true) (Y:(Region.ready md ops M).contains i=true)
  (O:∀c a w,Q (.panic c) (a.put dst undef) w->Q (.panic c) a w)
  (hw:Region.wanted ⟨dst,op,ty,pos,after,guard⟩ (yielded ops a.tmps)=false)
  (h:wpAnyH P md ops Q (Ef w) fuel (M.setIfInBounds i true) (a.put dst undef) w):wpAnyH P md ops Q (Ef w) (fuel+1) M a w:=
 wpAnyH_take Z hs X Y O (.inr ⟨hw,rfl⟩) Ag h
theorem sk (i:Nat) {dst:Option Tmp} {op:Op} {ty:TypeId} {pos:String} {after:Array _} {guard:Option (Nat×Bool)} {fuel:Nat} {M l2:Array Bool} {a b:Act} {w:World} (X:ops[i]? = some ⟨dst,op,ty,pos,after,guard⟩) (h:wpAnyH P md ops Q (Ef w) fuel l2 b w) (O:M.setIfInBounds i true=l2:=by(conv=>lhs;simp only[J,U,Aa])) (e2:a.put dst undef=b:=by(conv=>lhs;simp only[Act.put,J,U,Aa])) (hs:Region.noSelect ops=true:=by kernel_rfl) (hf:Region.free md ops M i=true:=by kernel_rfl) (hr:(Region.ready md ops M).contains i=true:=by kernel_rfl) (hQ:∀c a w,Q (.panic c) (a.put dst undef) w->Q (.panic c) a w:=by exact fun _ _ _ h=>h) (hw:Region.wanted ⟨dst,op,ty,pos,after,guard⟩ (yielded ops a.tmps)=false:=by rfl):wpAnyH P md ops Q (Ef w) (fuel+1) M a w:=by
 subst O e2;exact Wb i X hs hf hr hQ hw h
theorem Di (i:Nat) {dst:Option Tmp} {op:Op} {ty:TypeId} {pos:String} {after:Array _} {guard:Option (Nat×Bool)} {fuel:Nat} {M:Array Bool} {a:Act} {w:World} (hi:ops[i]? = some ⟨dst,op,ty,pos,after,guard⟩)
  (hr:Region.ready md ops M = [i]) (hw:Region.wanted ⟨dst,op,ty,pos,after,guard⟩ (yielded ops a.tmps)=true) (f:FuncId) (args:Array Value)
  (Z:(execOp a.eval ⟨dst,op,ty,pos,after,guard⟩).run P w=.ok (.enter f args) w)
  (h:Calls P f args w fun e w'=>∃v,e=.returned v/\Below w.heap.size w w'/\wpAnyH P md ops Q (Ef w') fuel (M.setIfInBounds i true) (a.put dst v) w'):wpAnyH P md ops Q (Ef w) (fuel+1) M a w:=by
 refine wpAnyH_all hr (by simp) fun j Y=>?_
 obtain rfl:j=i:=by simpa using Y
 unfold wpOp;simp only[hi];rw[if_pos hw]
 left
 unfold Oper.wp;rw[Z];exact h.mono fun e w' O=>by
  obtain⟨v,rfl,X,O⟩:=O;exact⟨X,Wa X O⟩
theorem GI {src e dst:TypeId} (hs:P.underlying src=some (.slice e)) (he:P.underlying e=some (.int .u8)) (O:P.underlying dst=some .string) {W:World} {B n c:Nat} {A:Option Addr} {l:List UInt8} (h:Rd W B A (bvs l)) (hB:B<=W.heap.size) (M:n=l.length) :
  ∀w,Ef W w->(convert src dst (.slice A n c)).run P w=.ok (.string ⟨l.toArray⟩) w:=
 fun w hS=>AJ w src e hs he (h.below (hS.mono hB)) n c M dst O
end
section
variable {P:Program} {ops:Array Oper} {Q:Exit->Act->World->Prop} {md:Region.Mode}
def Eff (P:Program) (md:Region.Mode) (ops:Array Oper) (Q:Exit->Act->World->Prop) (S:World->Prop) (fuel:Nat) (listed:Array Bool) (a:Act) (w:World) (i:Nat):Prop:=
 ∃(dst:Option Tmp) (op:Op) (ty:TypeId) (pos:String) (after:Array _) (guard:Option (Nat×Bool)) (v:Value) (w':World),ops[i]? = some ⟨dst,op,ty,pos,after,guard⟩/\Region.wanted ⟨dst,op,ty,pos,after,guard⟩ (yielded ops a.tmps)=true/\(execOp a.eval ⟨dst,op,ty,pos,after,guard⟩).run P w=.ok (.value v) w'/\S w'/\wpAnyH P md ops Q S fuel (listed.setIfInBounds i true) (a.put dst v) w'
end
section
variable {P:Program} {ops:Array Oper} {Q:Exit->Act->World->Prop} {md:Region.Mode} {S:World->Prop}
theorem AW (S:World->Prop) (n:Nat) {id:Nat} {a:Act} {w:World} (M:ops.size=n) (hm:P.follows .mixedOrders=true) (hS:S w.drew) (h:wpAnyH P .any ops Q S n (Array.replicate n false) a w.drew):(Code.region id ops true).wp P Q a w:=by
 subst M;exact wp_region_held_drew hm hS (fun _=>h)
theorem Ie (i:Nat) {dst:Option Tmp} {op:Op} {ty:TypeId} {pos:String} {after:Array _} {guard:Option (Nat×Bool)} {v:Value} {fuel:Nat} {M:Array Bool} {a:Act} {w:World} (hi:ops[i]? = some ⟨dst,op,ty,pos,after,guard⟩)
  (hs:Region.noSelect ops=true) (Y:Region.free md ops M i=true) (Z:(Region.ready md ops M).contains i=true)
  (O:∀c a w,Q (.panic c) (a.put dst v) w->Q (.panic c) a w) (hS:S w)
  (hw:Region.wanted ⟨dst,op,ty,pos,after,guard⟩ (yielded ops a.tmps)=true) (X:∀w',S w'->(execOp a.eval ⟨dst,op,ty,pos,after,guard⟩).run P w'=.ok (.value v) w')
  (h:wpAnyH P md ops Q S fuel (M.setIfInBounds i true) (a.put dst v) w):wpAnyH P md ops Q S (fuel+1) M a w:=
 wpAnyH_take hi hs Y Z O (.inl ⟨hw,X⟩) hS h
theorem ty (i:Nat) {dst:Option Tmp} {op:Op} {ty:TypeId} {pos:String} {after:Array _} {guard:Option (Nat×Bool)} {v:Value} {fuel:Nat} {M l2:Array Bool} {a b:Act} {w:World} (X:ops[i]? = some ⟨dst,op,ty,pos,after,guard⟩) (hS:S w) (h:wpAnyH P md ops Q S fuel l2 b w) (O:∀w',S w'->(execOp a.eval ⟨dst,op,ty,pos,after,guard⟩).run P w'=.ok (.value v) w':=by intro w' hS;go_simp<;>rfl) (e1:M.setIfInBounds i true=l2:=by(conv=>lhs;simp only[J,U,Aa])) (e2:a.put dst v=b:=by(conv=>lhs;simp only[Act.put,J,U,Aa])) (hs:Region.noSelect ops=true:=by kernel_rfl) (hf:Region.free md ops M i=true:=by kernel_rfl) (hr:(Region.ready md ops M).contains i=true:=by kernel_rfl) (hQ:∀c a w,Q (.panic c) (a.put dst v) w->Q (.panic c) a w:=by exact fun _ _ _ h=>h) (hw:Region.wanted ⟨dst,op,ty,pos,after,guard⟩ (yielded ops a.tmps)=true:=by rfl):wpAnyH P md ops Q S (fuel+1) M a w:=by
 subst e1 e2;exact Ie i X hs hf hr hQ hS hw O h
theorem tw (i:Nat) {dst:Option Tmp} {op:Op} {ty:TypeId} {pos:String} {after:Array _} {guard:Option (Nat×Bool)} {v:Value} {fuel:Nat} {M l2:Array Bool} {a b:Act} {w:World} (Y:ops[i]? = some ⟨dst,op,ty,pos,after,guard⟩) (hS:S w) (O:∀w',S w'->(execOp a.eval ⟨dst,op,ty,pos,after,guard⟩).run P w'=.ok (.value v) w') (h:wpAnyH P md ops Q S fuel l2 b w) (X:M.setIfInBounds i true=l2:=by(conv=>lhs;simp only[J,U,Aa])) (e2:a.put dst v=b:=by(conv=>lhs;simp only[Act.put,J,U,Aa])) (hs:Region.noSelect ops=true:=by kernel_rfl) (hf:Region.free md ops M i=true:=by kernel_rfl) (hr:(Region.ready md ops M).contains i=true:=by kernel_rfl) (hQ:∀c a w,Q (.panic c) (a.put dst v) w->Q (.panic c) a w:=by exact fun _ _ _ h=>h) (hw:Region.wanted ⟨dst,op,ty,pos,after,guard⟩ (yielded ops a.tmps)=true:=by rfl):wpAnyH P md ops Q S (fuel+1) M a w:=by
 subst X e2;exact Ie i Y hs hf hr hQ hS hw O h
theorem tq (i : Nat) {dst : Option Tmp} {op : Op} {ty : TypeId} {pos : String} {after : Array _} {guard : Option (Nat × Bool)} {v : Value} {fuel : Nat} {M : Array Bool} {a : Act} {w : World} (X : ops[i]? = some ⟨dst, op, ty, pos, after, guard⟩) (hS : S w)
    (O : ∀ w', S w' -> (execOp a.eval ⟨dst, op, ty, pos, after, guard⟩).run P w'=.ok (.value v) w')
    (h : wpAnyH P md ops Q S fuel (M.setIfInBounds i true) (a.put dst v) w)
    (hs : Region.noSelect ops = true := by kernel_rfl) (hf : Region.free md ops M i = true := by kernel_rfl) (hr : (Region.ready md ops M).contains i = true := by kernel_rfl)
    (hQ : ∀ c a w, Q (.panic c) (a.put dst v) w -> Q (.panic c) a w := by exact fun _ _ _ h => h)
    (hw : Region.wanted ⟨dst, op, ty, pos, after, guard⟩ (yielded ops a.tmps) = true := by rfl) : wpAnyH P md ops Q S (fuel + 1) M a w :=
  Ie i X hs hf hr hQ hS hw O h
theorem Dq (i:Nat) {dst:Option Tmp} {op:Op} {ty:TypeId} {pos:String} {after:Array _} {guard:Option (Nat×Bool)} {fuel:Nat} {M:Array Bool} {a:Act} {w:World} (w':World) (Z:ops[i]? = some ⟨dst,op,ty,pos,after,guard⟩)
  (Y:Region.ready md ops M = [i]) (hw:Region.wanted ⟨dst,op,ty,pos,after,guard⟩ (yielded ops a.tmps)=true) (X:(execOp a.eval ⟨dst,op,ty,pos,after,guard⟩).run P w=.ok .skip w') (hS:S w')
  (h:wpAnyH P md ops Q S fuel (M.setIfInBounds i true) (a.put dst undef) w'):wpAnyH P md ops Q S (fuel+1) M a w:=by
 refine wpAnyH_all Y (by simp) fun j O=>?_
 obtain rfl:j=i:=by simpa using O
 unfold wpOp;simp only[Z];rw[if_pos hw]
 left
 unfold Oper.wp;rw[X];exact⟨hS,h⟩
end
section
variable {P:Program} {ops:Array Oper} {Q:Exit->Act->World->Prop} {md:Region.Mode}
def Ent (P:Program) (md:Region.Mode) (ops:Array Oper) (Q:Exit->Act->World->Prop) (S:World->Prop) (fuel:Nat) (listed:Array Bool) (a:Act) (w:World) (i:Nat):Prop:=
 ∃(dst:Option Tmp) (op:Op) (ty:TypeId) (pos:String) (after:Array _) (guard:Option (Nat×Bool)) (f:FuncId) (args:Array Value),ops[i]? = some ⟨dst,op,ty,pos,after,guard⟩/\Region.wanted ⟨dst,op,ty,pos,after,guard⟩ (yielded ops a.tmps)=true/\(execOp a.eval ⟨dst,op,ty,pos,after,guard⟩).run P w=.ok (.enter f args) w/\
  Calls P f args w fun e w'=>∃v,e=.returned v/\S w'/\wpAnyH P md ops Q S fuel (listed.setIfInBounds i true) (a.put dst v) w'
theorem Nf (is:List Nat) {S:World->Prop} {fuel:Nat} {M:Array Bool} {a:Act} {w:World} (hr:Region.ready md ops M=is) (Y:is≠[]) (h:∀j∈is,Eff P md ops Q S fuel M a w j\/Ent P md ops Q S fuel M a w j):wpAnyH P md ops Q S (fuel+1) M a w:=by
 refine wpAnyH_all hr Y fun j hj=>?_
 rcases h j hj with⟨dst,op,ty,pos,after,guard,v,w',Z,hw,X,hs,O⟩ | ⟨dst,op,ty,pos,after,guard,f,args,Z,hw,X,O⟩
 ·unfold wpOp
  simp only[Z];rw[if_pos hw]
  left
  unfold Oper.wp;rw[X];exact⟨hs,O⟩
 ·unfold wpOp
  simp only[Z];rw[if_pos hw]
  left
  unfold Oper.wp;rw[X];refine O.mono ?_;rintro e w' ⟨v,rfl,hs,O⟩;exact⟨hs,O⟩
theorem b1 (i:Nat) {S:World->Prop} {fuel:Nat} {M:Array Bool} {a:Act} {w:World} (h:Eff P md ops Q S fuel M a w i\/Ent P md ops Q S fuel M a w i) (X:Region.ready md ops M = [i]:=by kernel_rfl):wpAnyH P md ops Q S (fuel+1) M a w:=
 Nf [i] X (by simp) fun j O=>by
  obtain rfl:j=i:=by simpa using O
  exact h
theorem b2 (i k:Nat) {S:World->Prop} {fuel:Nat} {M:Array Bool} {a:Act} {w:World} (X:Eff P md ops Q S fuel M a w i\/Ent P md ops Q S fuel M a w i) (Y:Eff P md ops Q S fuel M a w k\/Ent P md ops Q S fuel M a w k) (Z:Region.ready md ops M = [i,k]:=by kernel_rfl):wpAnyH P md ops Q S (fuel+1) M a w:=
 Nf [i,k] Z (by simp) fun j O=>by
  have O:j=i\/j=k:=by simpa using O
  rcases O with rfl | rfl
  ·exact X
  ·exact Y
end
end Reg
namespace Se
open Go.RowKit Ae
theorem On (M:ByteArray):∀(n i:Nat) (r:List UInt8),M.size - i=n->i<=M.size->ByteArray.toList.loop M i r=r.reverse++M.data.toList.drop i:=by
 intro n
 induction n with
 |zero=>
  intro i r h X;unfold ByteArray.toList.loop;have:¬i<M.size:=by omega
  rw[if_neg this,List.drop_of_length_le (by rw[Array.length_toList];show M.size<=i;omega),List.append_nil]
 |succ n ih=>
  intro i r h X;unfold ByteArray.toList.loop;have O:i<M.size:=by omega
  have Y:i<M.data.toList.length:=by rw[Array.length_toList];exact O
  rw[if_pos O,ih (i+1) _ (by omega) (by omega),List.drop_eq_getElem_cons Y];have e:M.get! i=M.data.toList[i]:=by
   show M.data[i]! = _;rw[getElem!_pos M.data i O];simp
  rw[e];simp
theorem Ju (M:ByteArray):M.toList=M.data.toList:=by
 have:=On M M.size 0 [] (by omega) (by omega)
 simpa [ByteArray.toList] using this
theorem Oo {a b:ByteArray} (h:a.toList=b.toList):a=b:=by
 rw[Ju,Ju] at h;exact ByteArray.ext (Array.toList_inj.1 h)
def RdC (w:World) (A:Option Addr) (n c:Nat) (xs:List Value):Prop:=n<=c/\c<=maxLen/\Rd w w.heap.size A xs
theorem LV (ks:Nat->UInt8) (u:Nat) (A:Option Addr) (n c:Nat) (l:List UInt8) (w:World) (hu:u<=255) (hn:n=l.length) (hc:n<=c) (hr:Rd w w.heap.size A (bvs l)) (aW:16<=l.length) (aM:l.length<=800) (aJ:n8 l<=1099511627776) :
  Calls Tryz.prog 16 #[.agg (AX ks),.int .i64 (u:Int),.slice A n c] w fun e w'=>(if tagL ks u (Fb l)=n8 (DX l) then ∃A2 c2,e=.returned (.tuple #[.slice A2 (n - 16) c2,.int .i64 0])/\RdC w' A2 (n - 16) c2 (bvs (mixL ks u (n8 l) (midL l))) else e=.returned (.tuple #[.slice none 0 0,.int .i64 3]))/\Below w.heap.size w w':=by
 obtain⟨B,eB⟩:=Aj (w.heap.size);obtain⟨b2,o2,rfl⟩:∃b2 o2,A=some ⟨b2,o2,none⟩:=by
  rcases hr with hx | ⟨b2,o2,h4,_⟩
  ·exact IL hn (by omega) hx
  ·exact⟨b2,o2,h4⟩
 obtain⟨k,hk⟩:∃k,n=k+8:=⟨n - 8,by omega⟩;obtain⟨m,aV⟩:∃m,k=m+8:=⟨k - 8,by omega⟩;have ay:n - 8=k:=by omega
 have ah:Fb l=l.take k:=by unfold Fb;rw[<-hn,ay]
 have ai:DX l=l.drop k:=by unfold DX;rw[<-hn,ay]
 have ad:midL l=(l.take k).drop 8:=by unfold midL;rw[ah]
 have RA:∀O,Below B w O->RdA (fun _=>False) O (some ⟨b2,o2,none⟩) (bvs l):=fun O h=>RdA.of_rd (B:=B) (eB▸hr.below (eB▸h)) (eB▸h.size) (fun _ x=>x.elim)
 have cn:=fun(O:World) (h:Below B w O)=>VZ O.heap.size (some ⟨b2,o2,none⟩) n c l O hn (by omega) (RA O h).rd
 have Z:=fun(O:World) (h:Below B w O)=>dtag ks u (some ⟨b2,o2,none⟩) k c (Fb l) O hu (by rw[ah,List.length_take];omega) (by omega) (ah▸((RA O h).take k).rd)
 have Y:=fun(O:World) (h:Below B w O)=>dmix ks u (n8 l) (some ⟨b2,o2+8,none⟩) m (c - 8) (midL l) O hu (by omega) (by rw[ad,List.length_drop,List.length_take];omega) (by omega) (ad▸(((RA O h).take k).drop 8).rd)
 have al:=fun(O:World) (h:Below B w O)=>AJ (P:=Tryz.prog) O 24 5 Tryz.underlying24 Tryz.underlying5 (ai▸((RA O h).drop k).rd) 8 (c - k) (by rw[ai,List.length_drop];omega) 9 Tryz.underlying9
 obtain⟨T,eT⟩:=Aj (tagL ks u (Fb l));obtain⟨M,eM⟩:=Aj (n8 (DX l));have au:T<18446744073709551616:=by rw[eT];exact JT _ _ _
 have aP:(DX l).length=8:=by rw[ai,List.length_drop];omega
 have aB:w8 M=DX l:=by rw[eM];exact w8_n8 _ aP
 have av:M<18446744073709551616:=by rw[eM];exact n8_lt _
 obtain⟨N,eN⟩:=Aj (n8 l);obtain⟨Q,eQ⟩:=Aj (bvs (mixL ks u N (midL l)));rw[<-eT,<-eM,<-eN,<-eQ];rw[<-eN] at cn Y aJ;rw[<-eQ] at Y;rw[<-eT] at Z;obtain⟨s8,an⟩:∃s8:ByteArray,s8=⟨(DX l).toArray⟩:=⟨_,rfl⟩;rw[<-an] at al;obtain⟨sT,ao⟩:∃sT:ByteArray,sT=⟨(w8 T).toArray⟩:=⟨_,rfl⟩;have ar:sT=s8↔T=M:=by
  constructor
  ·intro h
   refine Xz au av ?_;rw[aB];have h2:(⟨(w8 T).toArray⟩:ByteArray)=⟨(DX l).toArray⟩:=by rw[<-ao,<-an,h]
   have h3:=congrArg (fun x:ByteArray=>x.data.toList) h2
   simpa using h3
  ·intro h
   rw[ao,an,h,aB]
 have aS:∃kl:List Value,kl.toArray=AX ks:=⟨_,rfl⟩;obtain⟨kl,aC⟩:=aS;have u32:(Tryz.prog.info? 30).map (·.size)=some kl.length:=by rw[<-List.size_toArray,aC];exact KR ks
 have aO:=Tryz.underlying30;rw[<-aC] at Y Z⊢;have az:=fun(w4:World) (A4:Option Addr) (c4:Nat) (h:Rd w4 w4.heap.size A4 (bvs (w8 T)))=>AJ (P:=Tryz.prog) w4 24 5 Tryz.underlying24 Tryz.underlying5 h 8 c4 (Dd T).symm 9 Tryz.underlying9
 rw[<-ao] at az;have aj:(w.alloc (.cells kl.toArray 30)).drew.rangeAt w.heap.size 0 kl:=by have:=Si.Ac (Blk.new w 30 kl.toArray);simpa using this
 have aA:Below B w (w.alloc (.cells kl.toArray 30)):=eB▸(Below.refl w.heap.size w).alloc Af _;have ak:Hid (Below B w (w.alloc (.cells kl.toArray 30)).drew):=below_drewN aA 1;have af:Hid ((w.alloc (.cells kl.toArray 30)).drew.heap.size=B+1):=by show(w.alloc _).heap.size=_;simp [eB]
 have c1:=cn _ aA;have ct:=Z _ ak.o;have ba:=al _ ak.o;have t1:decide ((u:Int)<0)=false:=by simp
 have t2:decide (255<(u:Int))=false:=by simp;omega
 have t3:decide ((n:Int)<16)=false:=by simp;omega
 have t4:decide (800<(n:Int))=false:=by simp;omega
 have t5:decide (1099511627776<(N:Int))=false:=by simp;omega
 have s0:(n:Int)<=800:=by omega
 have s1:(n:Int) - 8=(k:Int):=by omega
 have s2:IntKind.i64.wrap (k:Int)=(k:Int):=by rw[IntKind.wrap_i64];omega
 have s3:(8:Int)<=(k:Int):=by omega
 have s4:(k:Int)<=(c:Int):=by omega
 have s5:k - 8=m:=by omega
 have s6:8<=k:=by omega
 have s7:k<=c:=by omega
 have bd:¬c=8:=by omega
 have bg:¬c=k:=by omega
 have s9:n - k=8:=by omega
 have bj:(k:Int)<=(n:Int):=by omega
 have bh:(n:Int)<=(c:Int):=by omega
 have bf:k<=n:=by omega
 have bl:(0:Int)<=(k:Int):=by omega
 have aw:n - 16=m:=by omega
 rw[aw];have EB:=I eB;have aH:=I Y;clear Y;have aX:=I al;clear al;have aT:=I az;clear az;have HC:=I ar;clear ar;clear hu hn hc hr aW aM aJ hk aV ay ah ai ad RA cn Z eT eM eN eQ an ao au av aP aB aC aA eB aw;go_enter Tryz.func16,Tryz.ntmps16
 go_upto_region 7 with(go_at_call 37;refine Ah c1 ?_;rintro wq hw;have hw:=hw.symm;subst hw;clear c1)
 -- THE REGION
 have aQ:Hid (∀w',Reg.Ef (w.alloc (.cells kl.toArray 30)).drew w'->(convert 24 9 (.slice (some ⟨b2,o2+k,none⟩) 8 (c - k))).run Tryz.prog w'=.ok (.string s8) w'):=fun w' hS=>aX.o w' (ak.o.trans (hS.mono (by have:=af.o;omega)))
 clear ba;refine Reg.BJ 16 rfl (by kernel_rfl) ?_;refine Reg.tz 0 rfl ?_;refine Reg.tz 1 rfl ?_;refine Reg.tz 2 rfl ?_;refine wpAnyH_take (i:=3) (v:=.agg kl.toArray) rfl (by kernel_rfl) (by kernel_rfl) (by kernel_rfl) (fun _ _ _ h=>h) (yieldsIf_load_mid (by rfl) 30 (.tmp 3) rfl w.heap.size 0 rfl kl _ (fun w' hS=>CY aj (by have:=af.o;have:=EB.o;omega) hS) aO rfl u32) Ag ?_
 try simp only[List.getElem_toArray,List.getElem_cons_zero,List.getElem_cons_succ,Act.put,List.setIfInBounds_toArray,List.set_cons_zero,List.set_cons_succ]
 refine Reg.tz 4 rfl ?_;refine Reg.tz 5 rfl ?_;refine Reg.tz 6 rfl ?_;refine Reg.tz 7 rfl ?_;refine Reg.tz 10 rfl ?_;refine Reg.tz 11 rfl ?_;refine Reg.tz 12 rfl ?_;refine Reg.tx 13 rfl (fun w' hS=>by have hh:=aQ.o w' hS;go_simp;rfl) ?_;refine Reg.Di 8 rfl (by kernel_rfl) (by rfl) 38 #[.agg kl.toArray,.int .i64 (u:Int),.slice (some ⟨b2,o2,none⟩) k c] (by go_simp) ?_;refine Calls.mono (ct) ?_;rintro e O ⟨v1,rfl,ab,aa⟩;obtain⟨A1,c1,aR,aY,aU,aD⟩:=Es (S:=fun _=>False) ab (fun _ _ x=>x);subst aR;have aN:B+1<=O.heap.size:=by have:=af.o;have:=aa.size;omega
 have X:O.rangeAt w.heap.size 0 kl:=CY aj (by have:=af.o;have:=EB.o;omega) aa;have aE:=I X;have RT:=I aD.rd;have H1:=I (ak.o.trans (aa.mono (by have:=af.o;omega)));have Z1:=I aN;refine⟨_,rfl,aa,?_⟩;clear ct ab aY aU aD aa aN X;simp only[Act.put,J,U,Aa];refine Reg.tx 9 rfl (fun w' hS=>by have hh:=aT.o w' A1 c1 (RT.o.below hS |>.more (hS.size));go_simp;rfl) ?_;refine Reg.tz 14 rfl ?_;refine Reg.tz 15 rfl ?_;refine wpAnyH_done (by kernel_rfl) ?_ _;have X:O.drew.rangeAt w.heap.size 0 kl:=aE.o;have cm:=aH.o O.drew (below_drewN H1.o 1);have D1:Hid (Below B w O.drew):=below_drewN H1.o 1;have Z2:Hid (B+1<=O.drew.heap.size):=Z1.o
 by_cases hTM:T=M
 ·have e:sT=s8:=HC.o.2 hTM
  have ae:(!(sT.toList==s8.toList))=false:=by rw[e];simp
  rw[ae];have aZ:=I hTM;clear hTM;clear aj e ae
  go_upto_region 9 with fail
  go_region_held3 (fun w'=>w'.rangeAt w.heap.size 0 kl) (first | exact X | exact aI) (first
   |(go_at_call 39;refine Calls.mono cm ?_;rintro e w2 ⟨v2,rfl,ag,ax⟩;clear cm;have aI:w2.rangeAt w.heap.size 0 kl:=CY X (by have:=Z2.o;have:=EB.o;omega) ax;obtain⟨A2,c2,bb,aL,aG,aF⟩:=Es (S:=fun _=>False) ag (fun _ _ x=>x);subst bb;have H2:=I (D1.o.trans (ax.mono (by have:=Z2.o;omega)));have R2:=I (show RdC w2 A2 _ c2 _ from⟨aL,aG,aF.rd⟩);clear ax ag aL aG aF))
  all_goals (
   clear X aI
   go_wp2_with fail
   go_ret2
   exact⟨⟨A2,c2,rfl,R2.o⟩,EB.o▸H2.o⟩)
 ·have aK:¬sT=s8:=fun h=>hTM (HC.o.1 h)
  have ae:(!(sT.toList==s8.toList))=true:=by
   rw[Bool.not_eq_true'];apply beq_eq_false_iff_ne.2;intro h;exact aK (Oo h)
  rw[ae];have aZ:=I hTM;clear hTM;clear aj X aK ae cm
  go_wp2_with fail
  go_ret2
  exact⟨rfl,EB.o▸H1.o⟩
end Se
namespace SeL
open Go.RowKit Ae Se
def Ce (ks:Nat->UInt8) (u n:Int) (p:List UInt8):List UInt8×Int:=
 if 0<=u/\u<=255/\0<=n/\n<=1099511627776/\p.length<=784 then (Du ks u.toNat n.toNat p,0) else ([],1)
def BX (ks:Nat->UInt8) (u:Int) (l:List UInt8):List UInt8×Int:=
 if 0<=u/\u<=255 then (if isL ks u.toNat l=true then (mixL ks u.toNat (n8 l) (midL l),0) else ([],3)) else ([],1)
def Ns (n b:Nat) (h:Option Nat) (i:Nat):Prop:=i<n\/Ow b h i
theorem XR {n b g:Nat} {w:World} {A:Option Addr} {xs:List Value} (O:RdA (Nw n g) w A xs) (X:b<n):RdA (Ns n b (some g)) w A xs:=O.mono fun i _ M=>by
 rcases M with M | M
 ·exact .inl M
 ·rcases VX M with h | h
  ·exact .inl (by omega)
  ·exact .inr h
theorem Gj (l:List UInt8) (h:16<=l.length):(midL l).length=l.length - 16:=by
 rw[midL,Fb,List.length_drop,List.length_take];omega
theorem LW {ks:Nat->UInt8} {u:Nat} {l:List UInt8} (h:isL ks u l=true):16<=l.length/\l.length<=800/\n8 l<=1099511627776/\tagL ks u (Fb l)=n8 (DX l):=by
 simp only[isL,Bool.and_eq_true,decide_eq_true_eq] at h;exact⟨h.1.1.1,h.1.1.2,h.1.2,h.2⟩
theorem Td (b:Nat) (ks:Nat->UInt8) (h:Option Nat) (a o r:Nat) (u N:Int) (A:Option Addr) (m c:Nat) (p:List UInt8) (w:World) (ha:a<1000000) (wN:(Lit.int .i64 N).wf=true) (hm:m=p.length) (Y:m<=maxLen) (hr:RdA (Ow b h) w A (bvs p)) (M:Box w b ks h a o r) :
  Calls Tryz.prog 131 #[.pointer (some ⟨b,0,none⟩),.int .i64 u,.int .i64 N,.slice A m c] w fun e w'=>∃A2 c2 h' a',e=.returned (.tuple #[.slice A2 (Ce ks u N p).1.length c2,.int .i64 (Ce ks u N p).2])/\(Ce ks u N p).1.length<=c2/\c2<=maxLen/\RdA (Ns w.heap.size b h') w' A2 (bvs (Ce ks u N p).1)/\Box w' b ks h' a' o r/\Dh w w' b h h'/\a'<=a+1:=by
 by_cases hx:0<=u/\u<=255/\0<=N/\N<=1099511627776/\m<=784
 ·obtain⟨O,rfl⟩:∃k:Nat,u=(k:Int):=⟨u.toNat,by omega⟩
  obtain⟨X,rfl⟩:∃k:Nat,N=(k:Int):=⟨N.toNat,by omega⟩;have e:Ce ks (O:Int) (X:Int) p=(Du ks O X p,0):=by rw[Ce,if_pos (by omega)];rfl
  rw[e];refine(VW b ks h a o r O X A m c p w ha (by omega) (by omega) hm (by omega) hr M).mono ?_;rintro e w' ⟨g,A2,c2,rfl,h1,h2,h3,Z,h5⟩;exact⟨A2,c2,some g,a+1,by rw[BS,hm],by rw[BS,<-hm];exact h1,h2,XR h3 M.lt,Z,h5.o,Nat.le_refl _⟩
 ·have e:Ce ks u N p=([],1):=by rw[Ce,if_neg (by omega)]
  rw[e];refine(SX b u N A m c w wN Y hx).mono ?_;rintro e w' ⟨rfl,hw⟩;subst hw;exact⟨none,0,h,a,rfl,Nat.le_refl _,Nat.zero_le _,.inl rfl,M,Dh.refl _ _ _,by omega⟩
theorem QC (ks:Nat->UInt8) (u N:Int) (A:Option Addr) (m c:Nat) (p:List UInt8) (w:World) (hm:m=p.length) (hr:Rd w w.heap.size A (bvs p)) :
  Calls Tryz.prog 31 #[.agg (AX ks),.int .i64 u,.int .i64 N,.slice A m c] w fun e w'=>∃A2 c2,e=.returned (.tuple #[.slice A2 (Ce ks u N p).1.length c2,.int .i64 (Ce ks u N p).2])/\RdA (fun i=>i<w.heap.size) w' A2 (bvs (Ce ks u N p).1)/\Below w.heap.size w w':=by
 by_cases hx:0<=u/\u<=255/\0<=N/\N<=1099511627776/\m<=784
 ·obtain⟨M,rfl⟩:∃k:Nat,u=(k:Int):=⟨u.toNat,by omega⟩
  obtain⟨O,rfl⟩:∃k:Nat,N=(k:Int):=⟨N.toNat,by omega⟩;have e:Ce ks (M:Int) (O:Int) p=(Du ks M O p,0):=by rw[Ce,if_pos (by omega)];rfl
  rw[e];refine(Tc ks M O A m c p w (by omega) (by omega) hm (by omega) hr).mono ?_;rintro e w' ⟨A2,c2,rfl,Y,Z⟩;exact⟨A2,c2,by rw[BS,hm],Y,Z⟩
 ·have e:Ce ks u N p=([],1):=by rw[Ce,if_neg (by omega)]
  rw[e];refine(Qz ks u N A m c w hx).mono ?_;rintro e w' ⟨rfl,X⟩;exact⟨none,0,rfl,.inl rfl,X⟩
end SeL
namespace Cl
open Ae Se
open Nm (krb L tgL tgR Cg)
open Ms (Pr Tk An Rp As Tg Re Ap Fa Mg tmB mgO mgD anO rpO rpD as0 tg0 re0 ap0 fa0)
open SeL (Ce BX)
open Ca (It Cr putL putE getO)
structure Ou where
 no:Int
 ks:Nat->UInt8
 u:Int
structure St where
 l:List It
 n:Nat
 s:Nat
 q:Nat
 st:Int
 er:Int
 sn:Int
 tg:Pr
 vs:List L
 ou:Ou
def zK:Nat->UInt8:=fun _=>0
def ou0:Ou:=⟨0,zK,0⟩
def st0:St:=⟨[],0,0,0,0,0,0,([],[]),[],ou0⟩
structure Md where
 put:List It->Pr->Cr->Int->List It
 err:List It->Pr->Int->Nat
 clr:Bool
def mC:Md:=⟨putL,putE,true⟩
def own (P:Pr):Pr:=(P.1,krb++P.1)
def JU (p:Pr):Bool:=Cg p.1 p.2 && !tgL p.2
def Gk (now:Int):Int:=min (now+1000) 1073741824
def lO (o:Option L):L:=o.getD []
def seaL (ks:Nat->UInt8) (u:Int) (N:Nat) (a:An):L:=(Ce ks u ((N:Nat):Int) (lO (anO a))).1
def tkOf (x:Cr):Tk:=⟨x.s,x.n,x.b⟩
def mAs (q:As):Mg:=⟨1,q,tg0,re0,ap0,fa0⟩
def mTg (q:Tg):Mg:=⟨2,as0,q,re0,ap0,fa0⟩
def mRe (q:Re):Mg:=⟨3,as0,tg0,q,ap0,fa0⟩
def furQ (P:Pr) (s:St) (x:Cr) (now:Int):Tg:=⟨tkOf x,seaL x.k 7 (s.s+1) ⟨P,now,0⟩,s.tg,Gk now,((s.n+1:Nat):Int)⟩
def furS (s:St) (r:L) (x:Cr):St:={s with s:=s.s+1,n:=s.n+1,vs:=s.vs++[r],ou:=⟨((s.n+1:Nat):Int),x.k,8⟩,sn:=s.sn+1}
def furL (P:Pr) (s:St) (r:L) (x:Cr) (now:Int):St×(L×L):=(furS s r x,(r,lO (mgO (mTg (furQ P s x now)))))
def firQ (P:Pr) (s:St) (now:Int):As:=⟨P,own P,Gk now,((s.n+1:Nat):Int)⟩
def firS (ks:Nat->UInt8) (s:St):St:={s with n:=s.n+1,ou:=⟨((s.n+1:Nat):Int),ks,3⟩,sn:=s.sn+1}
def begS (s:St) (t:Pr):St:={s with st:=1,er:=0,sn:=0,tg:=t,vs:=[],ou:=ou0}
def endS (m:Md) (s:St) (st er:Int):St:=if m.clr then {s with st:=st,er:=er,tg:=([],[]),vs:=[],ou:=ou0} else {s with st:=st,er:=er}
def opeL (P:Pr) (s:St) (r:Re):Option Cr:=
 if r.c=P then
  if (BX s.ou.ks s.ou.u r.b).2=0 then
   match rpD (BX s.ou.ks s.ou.u r.b).1 with
   |none=>none
   |some p=>if p.no=s.ou.no/\p.s=r.t.s then some ⟨r.t.s,r.t.k,r.t.b,ksOf p.ss,p.en⟩ else none
  else none
 else none
def refL (P:Pr) (s:St) (v:Pr):L×Int:=
 if tgL v.2=true then
  if s.ou.u=3/\v≠own P then ([],9)
  else if tgR v.2∈s.vs then ([],14)
  else if 5<s.vs.length then ([],15)
  else (tgR v.2,0)
 else ([],9)
def putS (m:Md) (s:St) (x:Cr) (now:Int):St:={s with l:=m.put s.l x.s x now}
def goL (m:Md) (P:Pr) (s:St) (x:Cr) (now:Int):St×(L×L):=
 if m.err s.l x.s now=0 then
  if x.s=s.tg then (endS m (putS m s x now) 2 0,([],[]))
  else if (refL P s x.s).2=0 then furL P (putS m s x now) (refL P s x.s).1 x now
  else (endS m (putS m s x now) 3 (refL P s x.s).2,([],[]))
 else (endS m (putS m s x now) 3 (m.err s.l x.s now),([],[]))
def takL (m:Md) (P:Pr) (s:St) (b:L) (now:Int):St×(L×L):=
 if s.st=1/\tmB now=true then
  match mgD b with
  |none=>(s,([],[]))
  |some g=>
   if g.k=5 then (if g.fa.no=s.ou.no then (endS m s 3 g.fa.e,([],[])) else (s,([],[])))
   else if g.k=3 then
    match opeL P s g.re with
    |none=>(s,([],[]))
    |some x=>goL m P s x now
   else (s,([],[]))
 else (s,([],[]))
end Cl
end Go.Proofs.YtlccngianpfalaaGreat
