import Derived.Test.YtlchkbpffaclmaaGreatZKdcTills4
import Derived.Test.YtlchkbpffaclmaaGreatZKdcTills9
set_option maxHeartbeats 25600000
set_option maxRecDepth 100000
set_option linter.unusedVariables false
set_option linter.unusedSimpArgs false
namespace Go.Proofs.YtlchkbpffaclmaaGreat
namespace Reg
open Go.RowKit Af
section
variable {P:Program} {ops:Array Oper} {Q:Exit->Act->World->Prop} {md:Region.Mode}
theorem LW {S1 S2:World->Prop} (hS:∀w,S2 w->S1 w):∀(f:Nat) (l:Array Bool) (a:Act) (w:World),wpAnyH P md ops Q S2 f l a w->wpAnyH P md ops Q S1 f l a w
 |0,_,_,_,h=>h
 |f+1,_,_,_,h=>⟨h.1,fun i hi=>wpOp_mono (fun a' w' hh=>⟨hS w' hh.1,LW hS f _ a' w' hh.2⟩) (h.2 i hi)⟩
def DN (W w:World):Prop:=Below W.heap.size W w
theorem Xq {W w:World} {f:Nat} {l:Array Bool} {a:Act} (hb:Below W.heap.size W w) (h:wpAnyH P md ops Q (DN w) f l a w):wpAnyH P md ops Q (DN W) f l a w:=
 LW (fun _ h'=>bt hb h') f l a w h
theorem Cq (n:Nat) {id:Nat} {a:Act} {w:World} (hn:ops.size=n) (hm:P.follows .mixedOrders=true) (h:wpAnyH P .any ops Q (DN w.drew) n (Array.replicate n false) a w.drew):(Code.region id ops true).wp P Q a w:=by
 subst hn;exact wp_region_held_drew hm Ah (fun _=>h)
theorem Sk (i:Nat) {dst:Option Tmp} {op:Op} {ty:TypeId} {pos:String} {after:Array _} {guard:Option (Nat×Bool)} {v:Value} {fuel:Nat} {listed:Array Bool} {a:Act} {w:World} (hi:ops[i]? = some ⟨dst,op,ty,pos,after,guard⟩)
  (hs:Region.noSelect ops=true) (hf:Region.free md ops listed i=true) (hr:(Region.ready md ops listed).contains i=true)
  (hQ:∀c a w,Q (.panic c) (a.put dst v) w->Q (.panic c) a w)
  (hw:Region.wanted ⟨dst,op,ty,pos,after,guard⟩ (yielded ops a.tmps)=true) (hy:∀w',DN w w'->(execOp a.eval ⟨dst,op,ty,pos,after,guard⟩).run P w'=.ok (.value v) w')
  (h:wpAnyH P md ops Q (DN w) fuel (listed.setIfInBounds i true) (a.put dst v) w):wpAnyH P md ops Q (DN w) (fuel+1) listed a w:=
 wpAnyH_take hi hs hf hr hQ (.inl ⟨hw,hy⟩) Ah h
theorem tz (i:Nat) {dst:Option Tmp} {op:Op} {ty:TypeId} {pos:String} {after:Array _} {guard:Option (Nat×Bool)} {v:Value} {fuel:Nat} {listed l2:Array Bool} {a b:Act} {w:World} (hi:ops[i]? = some ⟨dst,op,ty,pos,after,guard⟩) (h:wpAnyH P md ops Q (DN w) fuel l2 b w) (hy:∀w',DN w w'->(execOp a.eval ⟨dst,op,ty,pos,after,guard⟩).run P w'=.ok (.value v) w':=by intro w' hS;go_simp;rfl) (e1:listed.setIfInBounds i true=l2:=by(conv=>lhs;simp only[U,Aa,Ab])) (e2:a.put dst v=b:=by(conv=>lhs;simp only[Act.put,U,Aa,Ab])) (hs:Region.noSelect ops=true:=by kernel_rfl) (hf:Region.free md ops listed i=true:=by kernel_rfl) (hr:(Region.ready md ops listed).contains i=true:=by kernel_rfl) (hQ:∀c a w,Q (.panic c) (a.put dst v) w->Q (.panic c) a w:=by exact fun _ _ _ h=>h) (hw:Region.wanted ⟨dst,op,ty,pos,after,guard⟩ (yielded ops a.tmps)=true:=by rfl):wpAnyH P md ops Q (DN w) (fuel+1) listed a w:=by
 subst e1 e2;exact Sk i hi hs hf hr hQ hw hy h
theorem tx (i:Nat) {dst:Option Tmp} {op:Op} {ty:TypeId} {pos:String} {after:Array _} {guard:Option (Nat×Bool)} {v:Value} {fuel:Nat} {listed l2:Array Bool} {a b:Act} {w:World} (hi:ops[i]? = some ⟨dst,op,ty,pos,after,guard⟩) (hy:∀w',DN w w'->(execOp a.eval ⟨dst,op,ty,pos,after,guard⟩).run P w'=.ok (.value v) w') (h:wpAnyH P md ops Q (DN w) fuel l2 b w) (e1:listed.setIfInBounds i true=l2:=by(conv=>lhs;simp only[U,Aa,Ab])) (e2:a.put dst v=b:=by(conv=>lhs;simp only[Act.put,U,Aa,Ab])) (hs:Region.noSelect ops=true:=by kernel_rfl) (hf:Region.free md ops listed i=true:=by kernel_rfl) (hr:(Region.ready md ops listed).contains i=true:=by kernel_rfl) (hQ:∀c a w,Q (.panic c) (a.put dst v) w->Q (.panic c) a w:=by exact fun _ _ _ h=>h) (hw:Region.wanted ⟨dst,op,ty,pos,after,guard⟩ (yielded ops a.tmps)=true:=by rfl):wpAnyH P md ops Q (DN w) (fuel+1) listed a w:=by
 subst e1 e2;exact Sk i hi hs hf hr hQ hw hy h
theorem Xr (i:Nat) {dst:Option Tmp} {op:Op} {ty:TypeId} {pos:String} {after:Array _} {guard:Option (Nat×Bool)} {fuel:Nat} {listed:Array Bool} {a:Act} {w:World} (hi:ops[i]? = some ⟨dst,op,ty,pos,after,guard⟩)
  (hs:Region.noSelect ops=true) (hf:Region.free md ops listed i=true) (hr:(Region.ready md ops listed).contains i=true)
  (hQ:∀c a w,Q (.panic c) (a.put dst undef) w->Q (.panic c) a w)
  (hw:Region.wanted ⟨dst,op,ty,pos,after,guard⟩ (yielded ops a.tmps)=false)
  (h:wpAnyH P md ops Q (DN w) fuel (listed.setIfInBounds i true) (a.put dst undef) w):wpAnyH P md ops Q (DN w) (fuel+1) listed a w:=
 wpAnyH_take hi hs hf hr hQ (.inr ⟨hw,rfl⟩) Ah h
theorem sk (i:Nat) {dst:Option Tmp} {op:Op} {ty:TypeId} {pos:String} {after:Array _} {guard:Option (Nat×Bool)} {fuel:Nat} {listed l2:Array Bool} {a b:Act} {w:World} (hi:ops[i]? = some ⟨dst,op,ty,pos,after,guard⟩) (h:wpAnyH P md ops Q (DN w) fuel l2 b w) (e1:listed.setIfInBounds i true=l2:=by(conv=>lhs;simp only[U,Aa,Ab])) (e2:a.put dst undef=b:=by(conv=>lhs;simp only[Act.put,U,Aa,Ab])) (hs:Region.noSelect ops=true:=by kernel_rfl) (hf:Region.free md ops listed i=true:=by kernel_rfl) (hr:(Region.ready md ops listed).contains i=true:=by kernel_rfl) (hQ:∀c a w,Q (.panic c) (a.put dst undef) w->Q (.panic c) a w:=by exact fun _ _ _ h=>h) (hw:Region.wanted ⟨dst,op,ty,pos,after,guard⟩ (yielded ops a.tmps)=false:=by rfl):wpAnyH P md ops Q (DN w) (fuel+1) listed a w:=by
 subst e1 e2;exact Xr i hi hs hf hr hQ hw h
theorem DQ (i:Nat) {dst:Option Tmp} {op:Op} {ty:TypeId} {pos:String} {after:Array _} {guard:Option (Nat×Bool)} {fuel:Nat} {listed:Array Bool} {a:Act} {w:World} (hi:ops[i]? = some ⟨dst,op,ty,pos,after,guard⟩)
  (hr:Region.ready md ops listed = [i]) (hw:Region.wanted ⟨dst,op,ty,pos,after,guard⟩ (yielded ops a.tmps)=true) (f:FuncId) (args:Array Value)
  (hx:(execOp a.eval ⟨dst,op,ty,pos,after,guard⟩).run P w=.ok (.enter f args) w)
  (h:Calls P f args w fun e w'=>∃v,e=.returned v/\Below w.heap.size w w'/\wpAnyH P md ops Q (DN w') fuel (listed.setIfInBounds i true) (a.put dst v) w'):wpAnyH P md ops Q (DN w) (fuel+1) listed a w:=by
 refine wpAnyH_all hr (by simp) fun j hj=>?_
 obtain rfl:j=i:=by simpa using hj
 unfold wpOp;simp only[hi];rw[if_pos hw]
 left
 unfold Oper.wp;rw[hx];exact h.mono fun e w' hh=>by
  obtain⟨v,rfl,hb,hh⟩:=hh;exact⟨hb,Xq hb hh⟩
theorem GN {src e dst:TypeId} (hs:P.underlying src=some (.slice e)) (he:P.underlying e=some (.int .u8)) (hd:P.underlying dst=some .string) {W:World} {B n c:Nat} {A:Option Addr} {l:List UInt8} (h:Rd W B A (bvs l)) (hB:B<=W.heap.size) (hn:n=l.length) :
  ∀w,DN W w->(convert src dst (.slice A n c)).run P w=.ok (.string ⟨l.toArray⟩) w:=
 fun w hS=>AW w src e hs he (h.below (hS.mono hB)) n c hn dst hd
end
section
variable {P:Program} {ops:Array Oper} {Q:Exit->Act->World->Prop} {md:Region.Mode}
def Eff (P:Program) (md:Region.Mode) (ops:Array Oper) (Q:Exit->Act->World->Prop) (S:World->Prop) (fuel:Nat) (listed:Array Bool) (a:Act) (w:World) (i:Nat):Prop:=
 ∃(dst:Option Tmp) (op:Op) (ty:TypeId) (pos:String) (after:Array _) (guard:Option (Nat×Bool)) (v:Value) (w':World),ops[i]? = some ⟨dst,op,ty,pos,after,guard⟩/\Region.wanted ⟨dst,op,ty,pos,after,guard⟩ (yielded ops a.tmps)=true/\(execOp a.eval ⟨dst,op,ty,pos,after,guard⟩).run P w=.ok (.value v) w'/\S w'/\wpAnyH P md ops Q S fuel (listed.setIfInBounds i true) (a.put dst v) w'
theorem Jo (is:List Nat) {S:World->Prop} {fuel:Nat} {listed:Array Bool} {a:Act} {w:World} (hr:Region.ready md ops listed=is) (hne:is≠[]) (h:∀j∈is,Eff P md ops Q S fuel listed a w j):wpAnyH P md ops Q S (fuel+1) listed a w:=by
 refine wpAnyH_all hr hne fun j hj=>?_
 obtain⟨dst,op,ty,pos,after,guard,v,w',hi,hw,hx,hs,hh⟩:=h j hj;unfold wpOp;simp only[hi];rw[if_pos hw]
 left
 unfold Oper.wp;rw[hx];exact⟨hs,hh⟩
end
section
variable {P:Program} {ops:Array Oper} {Q:Exit->Act->World->Prop} {md:Region.Mode} {S:World->Prop}
theorem Bx (S:World->Prop) (n:Nat) {id:Nat} {a:Act} {w:World} (hn:ops.size=n) (hm:P.follows .mixedOrders=true) (hS:S w.drew) (h:wpAnyH P .any ops Q S n (Array.replicate n false) a w.drew):(Code.region id ops true).wp P Q a w:=by
 subst hn;exact wp_region_held_drew hm hS (fun _=>h)
theorem Iv (i:Nat) {dst:Option Tmp} {op:Op} {ty:TypeId} {pos:String} {after:Array _} {guard:Option (Nat×Bool)} {v:Value} {fuel:Nat} {listed:Array Bool} {a:Act} {w:World} (hi:ops[i]? = some ⟨dst,op,ty,pos,after,guard⟩)
  (hs:Region.noSelect ops=true) (hf:Region.free md ops listed i=true) (hr:(Region.ready md ops listed).contains i=true)
  (hQ:∀c a w,Q (.panic c) (a.put dst v) w->Q (.panic c) a w) (hS:S w)
  (hw:Region.wanted ⟨dst,op,ty,pos,after,guard⟩ (yielded ops a.tmps)=true) (hy:∀w',S w'->(execOp a.eval ⟨dst,op,ty,pos,after,guard⟩).run P w'=.ok (.value v) w')
  (h:wpAnyH P md ops Q S fuel (listed.setIfInBounds i true) (a.put dst v) w):wpAnyH P md ops Q S (fuel+1) listed a w:=
 wpAnyH_take hi hs hf hr hQ (.inl ⟨hw,hy⟩) hS h
theorem ty (i:Nat) {dst:Option Tmp} {op:Op} {ty:TypeId} {pos:String} {after:Array _} {guard:Option (Nat×Bool)} {v:Value} {fuel:Nat} {listed l2:Array Bool} {a b:Act} {w:World} (hi:ops[i]? = some ⟨dst,op,ty,pos,after,guard⟩) (hS:S w) (h:wpAnyH P md ops Q S fuel l2 b w) (hy:∀w',S w'->(execOp a.eval ⟨dst,op,ty,pos,after,guard⟩).run P w'=.ok (.value v) w':=by intro w' hS;go_simp<;>rfl) (e1:listed.setIfInBounds i true=l2:=by(conv=>lhs;simp only[U,Aa,Ab])) (e2:a.put dst v=b:=by(conv=>lhs;simp only[Act.put,U,Aa,Ab])) (hs:Region.noSelect ops=true:=by kernel_rfl) (hf:Region.free md ops listed i=true:=by kernel_rfl) (hr:(Region.ready md ops listed).contains i=true:=by kernel_rfl) (hQ:∀c a w,Q (.panic c) (a.put dst v) w->Q (.panic c) a w:=by exact fun _ _ _ h=>h) (hw:Region.wanted ⟨dst,op,ty,pos,after,guard⟩ (yielded ops a.tmps)=true:=by rfl):wpAnyH P md ops Q S (fuel+1) listed a w:=by
 subst e1 e2;exact Iv i hi hs hf hr hQ hS hw hy h
theorem tw (i:Nat) {dst:Option Tmp} {op:Op} {ty:TypeId} {pos:String} {after:Array _} {guard:Option (Nat×Bool)} {v:Value} {fuel:Nat} {listed l2:Array Bool} {a b:Act} {w:World} (hi:ops[i]? = some ⟨dst,op,ty,pos,after,guard⟩) (hS:S w) (hy:∀w',S w'->(execOp a.eval ⟨dst,op,ty,pos,after,guard⟩).run P w'=.ok (.value v) w') (h:wpAnyH P md ops Q S fuel l2 b w) (e1:listed.setIfInBounds i true=l2:=by(conv=>lhs;simp only[U,Aa,Ab])) (e2:a.put dst v=b:=by(conv=>lhs;simp only[Act.put,U,Aa,Ab])) (hs:Region.noSelect ops=true:=by kernel_rfl) (hf:Region.free md ops listed i=true:=by kernel_rfl) (hr:(Region.ready md ops listed).contains i=true:=by kernel_rfl) (hQ:∀c a w,Q (.panic c) (a.put dst v) w->Q (.panic c) a w:=by exact fun _ _ _ h=>h) (hw:Region.wanted ⟨dst,op,ty,pos,after,guard⟩ (yielded ops a.tmps)=true:=by rfl):wpAnyH P md ops Q S (fuel+1) listed a w:=by
 subst e1 e2;exact Iv i hi hs hf hr hQ hS hw hy h
theorem tq (i : Nat) {dst : Option Tmp} {op : Op} {ty : TypeId} {pos : String} {after : Array _} {guard : Option (Nat × Bool)} {v : Value} {fuel : Nat} {listed : Array Bool} {a : Act} {w : World} (hi : ops[i]? = some ⟨dst, op, ty, pos, after, guard⟩) (hS : S w)
    (hy : ∀ w', S w' -> (execOp a.eval ⟨dst, op, ty, pos, after, guard⟩).run P w'=.ok (.value v) w')
    (h : wpAnyH P md ops Q S fuel (listed.setIfInBounds i true) (a.put dst v) w)
    (hs : Region.noSelect ops = true := by kernel_rfl) (hf : Region.free md ops listed i = true := by kernel_rfl) (hr : (Region.ready md ops listed).contains i = true := by kernel_rfl)
    (hQ : ∀ c a w, Q (.panic c) (a.put dst v) w -> Q (.panic c) a w := by exact fun _ _ _ h => h)
    (hw : Region.wanted ⟨dst, op, ty, pos, after, guard⟩ (yielded ops a.tmps) = true := by rfl) : wpAnyH P md ops Q S (fuel + 1) listed a w :=
  Iv i hi hs hf hr hQ hS hw hy h
theorem Bk (i:Nat) {dst:Option Tmp} {op:Op} {ty:TypeId} {pos:String} {after:Array _} {guard:Option (Nat×Bool)} {fuel:Nat} {listed:Array Bool} {a:Act} {w:World} (w':World) (hi:ops[i]? = some ⟨dst,op,ty,pos,after,guard⟩)
  (hr:Region.ready md ops listed = [i]) (hw:Region.wanted ⟨dst,op,ty,pos,after,guard⟩ (yielded ops a.tmps)=true) (hx:(execOp a.eval ⟨dst,op,ty,pos,after,guard⟩).run P w=.ok .skip w') (hS:S w')
  (h:wpAnyH P md ops Q S fuel (listed.setIfInBounds i true) (a.put dst undef) w'):wpAnyH P md ops Q S (fuel+1) listed a w:=by
 refine wpAnyH_all hr (by simp) fun j hj=>?_
 obtain rfl:j=i:=by simpa using hj
 unfold wpOp;simp only[hi];rw[if_pos hw]
 left
 unfold Oper.wp;rw[hx];exact⟨hS,h⟩
end
section
variable {P:Program} {ops:Array Oper} {Q:Exit->Act->World->Prop} {md:Region.Mode}
def Ent (P:Program) (md:Region.Mode) (ops:Array Oper) (Q:Exit->Act->World->Prop) (S:World->Prop) (fuel:Nat) (listed:Array Bool) (a:Act) (w:World) (i:Nat):Prop:=
 ∃(dst:Option Tmp) (op:Op) (ty:TypeId) (pos:String) (after:Array _) (guard:Option (Nat×Bool)) (f:FuncId) (args:Array Value),ops[i]? = some ⟨dst,op,ty,pos,after,guard⟩/\Region.wanted ⟨dst,op,ty,pos,after,guard⟩ (yielded ops a.tmps)=true/\(execOp a.eval ⟨dst,op,ty,pos,after,guard⟩).run P w=.ok (.enter f args) w/\
  Calls P f args w fun e w'=>∃v,e=.returned v/\S w'/\wpAnyH P md ops Q S fuel (listed.setIfInBounds i true) (a.put dst v) w'
theorem Ou (is:List Nat) {S:World->Prop} {fuel:Nat} {listed:Array Bool} {a:Act} {w:World} (hr:Region.ready md ops listed=is) (hne:is≠[]) (h:∀j∈is,Eff P md ops Q S fuel listed a w j\/Ent P md ops Q S fuel listed a w j):wpAnyH P md ops Q S (fuel+1) listed a w:=by
 refine wpAnyH_all hr hne fun j hj=>?_
 rcases h j hj with⟨dst,op,ty,pos,after,guard,v,w',hi,hw,hx,hs,hh⟩ | ⟨dst,op,ty,pos,after,guard,f,args,hi,hw,hx,hh⟩
 ·unfold wpOp
  simp only[hi];rw[if_pos hw]
  left
  unfold Oper.wp;rw[hx];exact⟨hs,hh⟩
 ·unfold wpOp
  simp only[hi];rw[if_pos hw]
  left
  unfold Oper.wp;rw[hx];refine hh.mono ?_;rintro e w' ⟨v,rfl,hs,hh⟩;exact⟨hs,hh⟩
theorem b1 (i:Nat) {S:World->Prop} {fuel:Nat} {listed:Array Bool} {a:Act} {w:World} (h:Eff P md ops Q S fuel listed a w i\/Ent P md ops Q S fuel listed a w i) (hr:Region.ready md ops listed = [i]:=by kernel_rfl):wpAnyH P md ops Q S (fuel+1) listed a w:=
 Ou [i] hr (by simp) fun j hj=>by
  obtain rfl:j=i:=by simpa using hj
  exact h
theorem b2 (i k:Nat) {S:World->Prop} {fuel:Nat} {listed:Array Bool} {a:Act} {w:World} (h1:Eff P md ops Q S fuel listed a w i\/Ent P md ops Q S fuel listed a w i) (h2:Eff P md ops Q S fuel listed a w k\/Ent P md ops Q S fuel listed a w k) (hr:Region.ready md ops listed = [i,k]:=by kernel_rfl):wpAnyH P md ops Q S (fuel+1) listed a w:=
 Ou [i,k] hr (by simp) fun j hj=>by
  have hj:j=i\/j=k:=by simpa using hj
  rcases hj with rfl | rfl
  ·exact h1
  ·exact h2
end
end Reg
namespace Se
open Go.RowKit Af
theorem PX (bs:ByteArray):∀(n i:Nat) (r:List UInt8),bs.size - i=n->i<=bs.size->ByteArray.toList.loop bs i r=r.reverse++bs.data.toList.drop i:=by
 intro n
 induction n with
 |zero=>
  intro i r h hi;unfold ByteArray.toList.loop;have:¬i<bs.size:=by omega
  rw[if_neg this,List.drop_of_length_le (by rw[Array.length_toList];show bs.size<=i;omega),List.append_nil]
 |succ n ih=>
  intro i r h hi;unfold ByteArray.toList.loop;have hlt:i<bs.size:=by omega
  have hl:i<bs.data.toList.length:=by rw[Array.length_toList];exact hlt
  rw[if_pos hlt,ih (i+1) _ (by omega) (by omega),List.drop_eq_getElem_cons hl];have e:bs.get! i=bs.data.toList[i]:=by
   show bs.data[i]! = _;rw[getElem!_pos bs.data i hlt];simp
  rw[e];simp
theorem JY (bs:ByteArray):bs.toList=bs.data.toList:=by
 have:=PX bs bs.size 0 [] (by omega) (by omega)
 simpa [ByteArray.toList] using this
theorem PY {a b:ByteArray} (h:a.toList=b.toList):a=b:=by
 rw[JY,JY] at h;exact ByteArray.ext (Array.toList_inj.1 h)
theorem Sl (ks:Nat->UInt8) (u:Int) (A:Option Addr) (m c:Nat) (w:World) (hx:¬(0<=u/\u<=255)) :
  Calls Tryz.prog 12 #[.agg (AO ks),.int .i64 u,.slice A m c] w fun e w'=>e=.returned (.tuple #[.slice none 0 0,.int .i64 1])/\Below w.heap.size w w':=by
 obtain⟨kc,ekc⟩:=Ak (AO ks);rw[<-ekc];have t:(decide (u<0)=true)\/(decide (u<0)=false/\decide (255<u)=true):=by
  simp only[decide_eq_true_eq,decide_eq_false_iff_not];omega
 have HB:=I ((Below.refl w.heap.size w).alloc Ag (.cells kc 35));clear hx ekc;rcases t with t1 | ⟨t1,t2⟩<;>(
  go_enter Tryz.func12,Tryz.ntmps12
  go_wp2
  go_ret2
  exact⟨rfl,HB.o⟩)
theorem Nd (ks:Nat->UInt8) (u:Nat) (A:Option Addr) (n c:Nat) (l:List UInt8) (w:World) (hu:u<=255) (hn:n=l.length) (hr:Rd w w.heap.size A (bvs l)) (hx:l.length<16\/800<l.length\/1099511627776<n8 l) :
  Calls Tryz.prog 12 #[.agg (AO ks),.int .i64 (u:Int),.slice A n c] w fun e w'=>e=.returned (.tuple #[.slice none 0 0,.int .i64 3])/\Below w.heap.size w w':=by
 obtain⟨kc,ekc⟩:=Ak (AO ks);rw[<-ekc];have t1:decide ((u:Int)<0)=false:=by simp
 have t2:decide (255<(u:Int))=false:=by simp;omega
 have hB0:=(Below.refl w.heap.size w).alloc Ag (.cells kc 35)
 by_cases h1:n<16\/800<n
 ·have t:(decide ((n:Int)<16)=true)\/(decide ((n:Int)<16)=false/\decide (800<(n:Int))=true):=by
   simp only[decide_eq_true_eq,decide_eq_false_iff_not];omega
  have HB:=I hB0;clear hx ekc hB0 h1 hn hr;rcases t with t3 | ⟨t3,t4⟩<;>(
   go_enter Tryz.func12,Tryz.ntmps12
   go_wp2
   go_ret2
   exact⟨rfl,HB.o⟩)
 ·have t3:decide ((n:Int)<16)=false:=by simp;omega
  have t4:decide (800<(n:Int))=false:=by simp;omega
  have h8:1099511627776<n8 l:=by omega
  have cn:=Sf w.heap.size A n c l (w.alloc (.cells kc 35)) hn (by omega) (hr.below hB0);obtain⟨N,eN⟩:=Ak (n8 l);rw[<-eN] at cn h8;have t5:decide (1099511627776<(N:Int))=true:=by simp;omega
  have HB:=I hB0;have s1:(16:Int)<=(n:Int):=by omega
  have s2:(n:Int)<=800:=by omega
  clear hx ekc hB0 h1 hn hr eN h8;go_enter Tryz.func12,Tryz.ntmps12
  go_upto_region 7 with(go_at_call 34;refine Aj cn ?_;rintro wq hw;have hw:=hw.symm;subst hw;clear cn)
  go_quiet (fail)
  go_wp2_with fail
  go_ret2
  exact⟨rfl,below_drewN HB.o nq⟩
def RdC (w:World) (A:Option Addr) (n c:Nat) (xs:List Value):Prop:=n<=c/\c<=maxLen/\Rd w w.heap.size A xs
theorem Jp (ks:Nat->UInt8) (u:Nat) (A:Option Addr) (n c:Nat) (l:List UInt8) (w:World) (hu:u<=255) (hn:n=l.length) (hc:n<=c) (hr:Rd w w.heap.size A (bvs l)) (h16:16<=l.length) (h800:l.length<=800) (h40:n8 l<=1099511627776) :
  Calls Tryz.prog 12 #[.agg (AO ks),.int .i64 (u:Int),.slice A n c] w fun e w'=>(if tagL ks u (El l)=n8 (Dx l) then ∃A2 c2,e=.returned (.tuple #[.slice A2 (n - 16) c2,.int .i64 0])/\RdC w' A2 (n - 16) c2 (bvs (mixL ks u (n8 l) (midL l))) else e=.returned (.tuple #[.slice none 0 0,.int .i64 3]))/\Below w.heap.size w w':=by
 obtain⟨B,eB⟩:=Ak (w.heap.size);obtain⟨b2,o2,rfl⟩:∃b2 o2,A=some ⟨b2,o2,none⟩:=by
  rcases hr with hx | ⟨b2,o2,h4,_⟩
  ·exact Jn hn (by omega) hx
  ·exact⟨b2,o2,h4⟩
 obtain⟨k,hk⟩:∃k,n=k+8:=⟨n - 8,by omega⟩;obtain⟨m,hm8⟩:∃m,k=m+8:=⟨k - 8,by omega⟩;have hk8:n - 8=k:=by omega
 have hhd:El l=l.take k:=by unfold El;rw[<-hn,hk8]
 have hla:Dx l=l.drop k:=by unfold Dx;rw[<-hn,hk8]
 have hmid:midL l=(l.take k).drop 8:=by unfold midL;rw[hhd]
 have RA:∀w1,Below B w w1->RdA (fun _=>False) w1 (some ⟨b2,o2,none⟩) (bvs l):=fun w1 h=>RdA.of_rd (B:=B) (eB▸hr.below (eB▸h)) (eB▸h.size) (fun _ x=>x.elim)
 have cn:=fun(w1:World) (h:Below B w w1)=>Sf w1.heap.size (some ⟨b2,o2,none⟩) n c l w1 hn (by omega) (RA w1 h).rd
 have ctag:=fun(w1:World) (h:Below B w w1)=>dtag ks u (some ⟨b2,o2,none⟩) k c (El l) w1 hu (by rw[hhd,List.length_take];omega) (by omega) (hhd▸((RA w1 h).take k).rd)
 have cmix:=fun(w1:World) (h:Below B w w1)=>dmix ks u (n8 l) (some ⟨b2,o2+8,none⟩) m (c - 8) (midL l) w1 hu (by omega) (by rw[hmid,List.length_drop,List.length_take];omega) (by omega) (hmid▸(((RA w1 h).take k).drop 8).rd)
 have ccv:=fun(w1:World) (h:Below B w w1)=>AW (P:=Tryz.prog) w1 26 5 Tryz.underlying26 Tryz.underlying5 (hla▸((RA w1 h).drop k).rd) 8 (c - k) (by rw[hla,List.length_drop];omega) 9 Tryz.underlying9
 obtain⟨T,eT⟩:=Ak (tagL ks u (El l));obtain⟨M,eM⟩:=Ak (n8 (Dx l));have hT64:T<18446744073709551616:=by rw[eT];exact KQ _ _ _
 have hl8:(Dx l).length=8:=by rw[hla,List.length_drop];omega
 have hM8:w8 M=Dx l:=by rw[eM];exact w8_n8 _ hl8
 have hM64:M<18446744073709551616:=by rw[eM];exact n8_lt _
 obtain⟨N,eN⟩:=Ak (n8 l);obtain⟨Q,eQ⟩:=Ak (bvs (mixL ks u N (midL l)));rw[<-eT,<-eM,<-eN,<-eQ];rw[<-eN] at cn cmix h40;rw[<-eQ] at cmix;rw[<-eT] at ctag;obtain⟨s8,es8⟩:∃s8:ByteArray,s8=⟨(Dx l).toArray⟩:=⟨_,rfl⟩;rw[<-es8] at ccv;obtain⟨sT,esT⟩:∃sT:ByteArray,sT=⟨(w8 T).toArray⟩:=⟨_,rfl⟩;have hcmp:sT=s8↔T=M:=by
  constructor
  ·intro h
   refine YY hT64 hM64 ?_;rw[hM8];have h2:(⟨(w8 T).toArray⟩:ByteArray)=⟨(Dx l).toArray⟩:=by rw[<-esT,<-es8,h]
   have h3:=congrArg (fun x:ByteArray=>x.data.toList) h2
   simpa using h3
  ·intro h
   rw[esT,es8,h,hM8]
 have hkl:∃kl:List Value,kl.toArray=AO ks:=⟨_,rfl⟩;obtain⟨kl,ekl⟩:=hkl;have u32:(Tryz.prog.info? 35).map (·.size)=some kl.length:=by rw[<-List.size_toArray,ekl];exact Fv ks
 have hu32:=Tryz.underlying35;rw[<-ekl] at cmix ctag⊢;have ctv:=fun(w4:World) (A4:Option Addr) (c4:Nat) (h:Rd w4 w4.heap.size A4 (bvs (w8 T)))=>AW (P:=Tryz.prog) w4 26 5 Tryz.underlying26 Tryz.underlying5 h 8 c4 (Cv T).symm 9 Tryz.underlying9
 rw[<-esT] at ctv;have hra:(w.alloc (.cells kl.toArray 35)).drew.rangeAt w.heap.size 0 kl:=by have:=Si.Ae (Blk.new w 35 kl.toArray);simpa using this
 have hB0:Below B w (w.alloc (.cells kl.toArray 35)):=eB▸(Below.refl w.heap.size w).alloc Ag _;have HB0:Hid (Below B w (w.alloc (.cells kl.toArray 35)).drew):=below_drewN hB0 1;have HS0:Hid ((w.alloc (.cells kl.toArray 35)).drew.heap.size=B+1):=by show(w.alloc _).heap.size=_;simp [eB]
 have c1:=cn _ hB0;have ct:=ctag _ HB0.o;have hcv:=ccv _ HB0.o;have t1:decide ((u:Int)<0)=false:=by simp
 have t2:decide (255<(u:Int))=false:=by simp;omega
 have t3:decide ((n:Int)<16)=false:=by simp;omega
 have t4:decide (800<(n:Int))=false:=by simp;omega
 have t5:decide (1099511627776<(N:Int))=false:=by simp;omega
 have s0:(n:Int)<=800:=by omega
 have s1:(n:Int) - 8=(k:Int):=by omega
 have s2:IntKind.i64.wrap (k:Int)=(k:Int):=by rw[IntKind.wrap_i64];omega
 have s3:(8:Int)<=(k:Int):=by omega
 have s4:(k:Int)<=(c:Int):=by omega
 have s5:k - 8=m:=by omega
 have s6:8<=k:=by omega
 have s7:k<=c:=by omega
 have s8':¬c=8:=by omega
 have s14:¬c=k:=by omega
 have s9:n - k=8:=by omega
 have s10:(k:Int)<=(n:Int):=by omega
 have s11:(n:Int)<=(c:Int):=by omega
 have s12:k<=n:=by omega
 have s13:(0:Int)<=(k:Int):=by omega
 have hm16:n - 16=m:=by omega
 rw[hm16];have EB:=I eB;have CMIX:=I cmix;clear cmix;have CCV:=I ccv;clear ccv;have CTV:=I ctv;clear ctv;have HC:=I hcmp;clear hcmp;clear hu hn hc hr h16 h800 h40 hk hm8 hk8 hhd hla hmid RA cn ctag eT eM eN eQ es8 esT hT64 hM64 hl8 hM8 ekl hB0 eB hm16;go_enter Tryz.func12,Tryz.ntmps12
 go_upto_region 7 with(go_at_call 34;refine Aj c1 ?_;rintro wq hw;have hw:=hw.symm;subst hw;clear c1)
 -- THE REGION
 have CCVW:Hid (∀w',Reg.DN (w.alloc (.cells kl.toArray 35)).drew w'->(convert 26 9 (.slice (some ⟨b2,o2+k,none⟩) 8 (c - k))).run Tryz.prog w'=.ok (.string s8) w'):=fun w' hS=>CCV.o w' (HB0.o.trans (hS.mono (by have:=HS0.o;omega)))
 clear hcv;refine Reg.Cq 16 rfl (by kernel_rfl) ?_;refine Reg.tz 0 rfl ?_;refine Reg.tz 1 rfl ?_;refine Reg.tz 2 rfl ?_;refine wpAnyH_take (i:=3) (v:=.agg kl.toArray) rfl (by kernel_rfl) (by kernel_rfl) (by kernel_rfl) (fun _ _ _ h=>h) (yieldsIf_load_mid (by rfl) 35 (.tmp 3) rfl w.heap.size 0 rfl kl _ (fun w' hS=>Co hra (by have:=HS0.o;have:=EB.o;omega) hS) hu32 rfl u32) Ah ?_
 try simp only[List.getElem_toArray,List.getElem_cons_zero,List.getElem_cons_succ,Act.put,List.setIfInBounds_toArray,List.set_cons_zero,List.set_cons_succ]
 refine Reg.tz 4 rfl ?_;refine Reg.tz 5 rfl ?_;refine Reg.tz 6 rfl ?_;refine Reg.tz 7 rfl ?_;refine Reg.tz 10 rfl ?_;refine Reg.tz 11 rfl ?_;refine Reg.tz 12 rfl ?_;refine Reg.tx 13 rfl (fun w' hS=>by have hh:=CCVW.o w' hS;go_simp;rfl) ?_;refine Reg.DQ 8 rfl (by kernel_rfl) (by rfl) 35 #[.agg kl.toArray,.int .i64 (u:Int),.slice (some ⟨b2,o2,none⟩) k c] (by go_simp) ?_;refine Calls.mono (ct) ?_;rintro e w1 ⟨v1,rfl,hown1,hb1⟩;obtain⟨A1,c1,hv1,hc1,hm1,hr1⟩:=Em (S:=fun _=>False) hown1 (fun _ _ x=>x);subst hv1;have hz1:B+1<=w1.heap.size:=by have:=HS0.o;have:=hb1.size;omega
 have hra1:w1.rangeAt w.heap.size 0 kl:=Co hra (by have:=HS0.o;have:=EB.o;omega) hb1;have HRA1:=I hra1;have RT:=I hr1.rd;have H1:=I (HB0.o.trans (hb1.mono (by have:=HS0.o;omega)));have Z1:=I hz1;refine⟨_,rfl,hb1,?_⟩;clear ct hown1 hc1 hm1 hr1 hb1 hz1 hra1;simp only[Act.put,U,Aa,Ab];refine Reg.tx 9 rfl (fun w' hS=>by have hh:=CTV.o w' A1 c1 (RT.o.below hS |>.more (hS.size));go_simp;rfl) ?_;refine Reg.tz 14 rfl ?_;refine Reg.tz 15 rfl ?_;refine wpAnyH_done (by kernel_rfl) ?_ _;have hra1:w1.drew.rangeAt w.heap.size 0 kl:=HRA1.o;have cm:=CMIX.o w1.drew (below_drewN H1.o 1);have D1:Hid (Below B w w1.drew):=below_drewN H1.o 1;have Z2:Hid (B+1<=w1.drew.heap.size):=Z1.o
 by_cases hTM:T=M
 ·have e:sT=s8:=HC.o.2 hTM
  have hbb:(!(sT.toList==s8.toList))=false:=by rw[e];simp
  rw[hbb];have HTM:=I hTM;clear hTM;clear hra e hbb
  go_upto_region 9 with fail
  go_region_held3 (fun w'=>w'.rangeAt w.heap.size 0 kl) (first | exact hra1 | exact hS2) (first
   |(go_at_call 36;refine Calls.mono cm ?_;rintro e w2 ⟨v2,rfl,hown2,hb2⟩;clear cm;have hS2:w2.rangeAt w.heap.size 0 kl:=Co hra1 (by have:=Z2.o;have:=EB.o;omega) hb2;obtain⟨A2,c2,hv2,hc2,hm2,hr2⟩:=Em (S:=fun _=>False) hown2 (fun _ _ x=>x);subst hv2;have H2:=I (D1.o.trans (hb2.mono (by have:=Z2.o;omega)));have R2:=I (show RdC w2 A2 _ c2 _ from⟨hc2,hm2,hr2.rd⟩);clear hb2 hown2 hc2 hm2 hr2))
  all_goals (
   clear hra1 hS2
   go_wp2_with fail
   go_ret2
   exact⟨⟨A2,c2,rfl,R2.o⟩,EB.o▸H2.o⟩)
 ·have hne:¬sT=s8:=fun h=>hTM (HC.o.1 h)
  have hbb:(!(sT.toList==s8.toList))=true:=by
   rw[Bool.not_eq_true'];apply beq_eq_false_iff_ne.2;intro h;exact hne (PY h)
  rw[hbb];have HTM:=I hTM;clear hTM;clear hra hra1 hne hbb cm
  go_wp2_with fail
  go_ret2
  exact⟨rfl,EB.o▸H1.o⟩
end Se
namespace SeL
open Go.RowKit Af Se
def Bd (ks:Nat->UInt8) (u n:Int) (p:List UInt8):List UInt8×Int:=
 if 0<=u/\u<=255/\0<=n/\n<=1099511627776/\p.length<=784 then (Dt ks u.toNat n.toNat p,0) else ([],1)
def AN (ks:Nat->UInt8) (u:Int) (l:List UInt8):List UInt8×Int:=
 if 0<=u/\u<=255 then (if isL ks u.toNat l=true then (mixL ks u.toNat (n8 l) (midL l),0) else ([],3)) else ([],1)
def Ns (n b:Nat) (h:Option Nat) (i:Nat):Prop:=i<n\/Ow b h i
theorem Zq {n b g:Nat} {w:World} {A:Option Addr} {xs:List Value} (hr:RdA (Nw n g) w A xs) (hb:b<n):RdA (Ns n b (some g)) w A xs:=hr.mono fun i _ hx=>by
 rcases hx with hx | hx
 ·exact .inl hx
 ·rcases Xo hx with h | h
  ·exact .inl (by omega)
  ·exact .inr h
theorem Gp (l:List UInt8) (h:16<=l.length):(midL l).length=l.length - 16:=by
 rw[midL,El,List.length_drop,List.length_take];omega
theorem Nf {ks:Nat->UInt8} {u:Nat} {l:List UInt8} (h:isL ks u l=true):16<=l.length/\l.length<=800/\n8 l<=1099511627776/\tagL ks u (El l)=n8 (Dx l):=by
 simp only[isL,Bool.and_eq_true,decide_eq_true_eq] at h;exact⟨h.1.1.1,h.1.1.2,h.1.2,h.2⟩
theorem Sn {ks:Nat->UInt8} {u:Nat} {l:List UInt8} (h:isL ks u l=false):(l.length<16\/800<l.length\/1099511627776<n8 l)\/(16<=l.length/\l.length<=800/\n8 l<=1099511627776/\tagL ks u (El l)≠n8 (Dx l)):=by
 by_cases h1:l.length<16\/800<l.length\/1099511627776<n8 l
 ·exact .inl h1
 ·refine .inr ⟨by omega,by omega,by omega,fun h2=>?_⟩
  rw[Ot (by omega) (by omega) (by omega),h2] at h;simp at h
theorem Ov (b:Nat) (ks:Nat->UInt8) (h:Option Nat) (a o r:Nat) (u N:Int) (A:Option Addr) (m c:Nat) (p:List UInt8) (w:World) (ha:a<1000000) (wN:(Lit.int .i64 N).wf=true) (hm:m=p.length) (hml:m<=maxLen) (hr:RdA (Ow b h) w A (bvs p)) (hK:Box w b ks h a o r) :
  Calls Tryz.prog 122 #[.pointer (some ⟨b,0,none⟩),.int .i64 u,.int .i64 N,.slice A m c] w fun e w'=>∃A2 c2 h' a',e=.returned (.tuple #[.slice A2 (Bd ks u N p).1.length c2,.int .i64 (Bd ks u N p).2])/\(Bd ks u N p).1.length<=c2/\c2<=maxLen/\RdA (Ns w.heap.size b h') w' A2 (bvs (Bd ks u N p).1)/\Box w' b ks h' a' o r/\Cn w w' b h h'/\a'<=a+1:=by
 by_cases hx:0<=u/\u<=255/\0<=N/\N<=1099511627776/\m<=784
 ·obtain⟨u',rfl⟩:∃k:Nat,u=(k:Int):=⟨u.toNat,by omega⟩
  obtain⟨n',rfl⟩:∃k:Nat,N=(k:Int):=⟨N.toNat,by omega⟩;have e:Bd ks (u':Int) (n':Int) p=(Dt ks u' n' p,0):=by rw[Bd,if_pos (by omega)];rfl
  rw[e];refine(Xn b ks h a o r u' n' A m c p w ha (by omega) (by omega) hm (by omega) hr hK).mono ?_;rintro e w' ⟨g,A2,c2,rfl,h1,h2,h3,h4,h5⟩;exact⟨A2,c2,some g,a+1,by rw[BJ,hm],by rw[BJ,<-hm];exact h1,h2,Zq h3 hK.lt,h4,h5.o,Nat.le_refl _⟩
 ·have e:Bd ks u N p=([],1):=by rw[Bd,if_neg (by omega)]
  rw[e];refine(Uz b u N A m c w wN hml hx).mono ?_;rintro e w' ⟨rfl,hw⟩;subst hw;exact⟨none,0,h,a,rfl,Nat.le_refl _,Nat.zero_le _,.inl rfl,hK,Cn.refl _ _ _,by omega⟩
end SeL
namespace Kd
open Af Se
open Nm (krb L)
open Rg (It Cp Bz Bw numO)
open Ms (Pr Tk Pt An Rp As Tg Re Ap Fa Mg ptB rpB anB asB tgB tmB ptE rpE anE mgE mgO ptD anD ptO rpO anO pr0 tk0 re0 pt0 an0 as0 tg0 ap0 fa0 key0)
open SeL (Bd AN)
open Rt (Tp nxS nxB)
open Tr (insL)
def kr (R x:L):Pr:=(R,krb++x)
def hasL (l:List It) (p:Pr):Bool:=(Bz l p).isSome
def keyO (l:List It):Option Nat->Nat->UInt8
 |none=>fun _=>0
 |some i=>((l[i]?).map (·.k)).getD fun _=>0
def keyL (l:List It) (p:Pr):Nat->UInt8:=keyO l (Bz l p)
def rpOf (P:Pt) (s:Pr) (no:Int):Rp:=⟨P.ss,s,P.st,P.en,no⟩
def ansL (l:List It) (n:Nat) (c s:Pr) (P:Pt) (no:Int) (ks:Nat->UInt8) (u:Int):Int×Re:=
 if (ptO P).isSome&&(rpO (rpOf P s no)).isSome then
  (0,⟨c,⟨s,Bw l s,(Bd (keyL l s) 2 ((n+1:Nat):Int) ((ptO P).getD [])).1⟩,(Bd ks u ((n+1+1:Nat):Int) ((rpO (rpOf P s no)).getD [])).1⟩)
 else (2,re0)
def mxL:Int:=1000
def asL (R:L) (l:List It) (n:Nat) (q:As) (now:Int) (d:L):Int×Re:=
 if tmB now&&asB q then
  if q.c.1=R/\hasL l q.c=true then
   if q.s=kr R R/\hasL l q.s=true then
    if q.t<now then (7,re0)
    else ansL l n q.c q.s ⟨q.c,d,[],now,min q.t (now+mxL)⟩ q.no (keyL l q.c) 3
   else (6,re0)
  else (5,re0)
 else (1,re0)
def opnL (R:L) (l:List It) (t:Tk) (now:Int):Int×Pt:=
 if t.s.2=krb++R then
  match Cp l t.s t.k with
  |none=>(4,pt0)
  |some i=>
   if (AN (keyO l (some i)) 2 t.b).2=0 then
    match ptD (AN (keyO l (some i)) 2 t.b).1 with
    |none=>(2,pt0)
    |some p=>if p.en<now then (7,pt0) else if now+5<p.st then (8,pt0) else (0,p)
   else (3,pt0)
 else (6,pt0)
def autL (ss:L) (a:L) (c:Pr) (now:Int):Int:=
 if (AN (ksOf ss) 7 a).2=0 then
  match anD (AN (ksOf ss) 7 a).1 with
  |none=>2
  |some x=>if x.c=c then (if x.t<now - 5\/now+5<x.t then 8 else 0) else 9
 else 3
def tarL (R:L) (T:Tp) (l:List It) (s:Pr):Int×Pr:=
 if s.1=R then (if hasL l s=true then (0,s) else (6,pr0))
 else if s.1∈T.R/\nxB T R s.1=true/\hasL l (kr R (nxS T R s.1))=true then (0,kr R (nxS T R s.1)) else (10,pr0)
def trsL (R:L) (p:Pt) (by_:L) (s:Pr):L×Nat:=
 if by_=R\/by_=p.c.1 then (p.tr,0) else insL p.tr p.c.1 s.1 by_
def tgsL (R:L) (T:Tp) (l:List It) (n:Nat) (q:Tg) (now:Int) (d:L):Int×Re:=
 if tmB now&&tgB q then
  if (opnL R l q.t now).1=0 then
   if autL (opnL R l q.t now).2.ss q.a (opnL R l q.t now).2.c now=0 then
    if (tarL R T l q.s).1=0 then
     if (trsL R (opnL R l q.t now).2 q.t.s.1 q.s).2=0 then
      if q.u<now then (7,re0)
      else ansL l n (opnL R l q.t now).2.c (tarL R T l q.s).2 ⟨(opnL R l q.t now).2.c,d,(trsL R (opnL R l q.t now).2 q.t.s.1 q.s).1,now,min q.u (opnL R l q.t now).2.en⟩ q.no (ksOf (opnL R l q.t now).2.ss) 8
     else ((trsL R (opnL R l q.t now).2 q.t.s.1 q.s).2,re0)
    else ((tarL R T l q.s).1,re0)
   else (autL (opnL R l q.t now).2.ss q.a (opnL R l q.t now).2.c now,re0)
  else ((opnL R l q.t now).1,re0)
 else (1,re0)
def cnt (e:Int):Nat:=if e=0 then 1 else 0
end Kd
namespace Se
open Go.RowKit Af SeL
theorem So (b u:Nat) (ks:Nat->UInt8) (A:Option Addr) (n c:Nat) (l:List UInt8) (w:World) (hn:n=l.length) (hc:n<=c) (hr:Rd w w.heap.size A (bvs l)) (hx:l.length<16\/800<l.length\/1099511627776<n8 l) :
  Calls Tryz.prog 105 #[.pointer (some ⟨b,0,none⟩),.int .i64 (u:Int),.slice A n c] w fun e w'=>e=.returned (.bool false)/\w'=w:=by
 by_cases h1:n<16
 ·have t1:decide ((n:Int)<16)=true:=by simp;omega
  clear hx hr hn hc h1;go_enter Tryz.func105,Tryz.ntmps105
  go_wp2
  go_ret;exact⟨rfl,rfl⟩
 ·have t1:decide ((n:Int)<16)=false:=by simp;omega
  by_cases h2:800<n
  ·have t2:decide (800<(n:Int))=true:=by simp;omega
   clear hx hr hn hc h1 h2;go_enter Tryz.func105,Tryz.ntmps105
   go_wp2
   go_ret;exact⟨rfl,rfl⟩
  ·have t2:decide (800<(n:Int))=false:=by simp;omega
   have h3:1099511627776<n8 l:=by omega
   have cw:=Dh w.heap.size A n c l w hn (by omega) hc hr;have f2:=Fw (n8 l) false (by simp;omega);obtain⟨N,eN⟩:=Ak (n8 l);rw[<-eN] at cw f2;clear hx hr hn hc h1 h2 h3 eN;go_enter Tryz.func105,Tryz.ntmps105
   go_wp2_with (first
    |(go_at_call 107;refine Aj cw ?_;rintro wq hw;have hw:=hw.symm;subst hw;clear cw)
    |(go_at_call 151;refine Aj (f2 _) ?_;rintro wq hw;have hw:=hw.symm;subst hw;clear f2))
   go_ret;exact⟨rfl,rfl⟩
theorem UD (b:Nat) (ks:Nat->UInt8) (h:Option Nat) (a o r u:Nat) (A:Option Addr) (n c:Nat) (l:List UInt8) (w:World) (hu:u<=255) (hn:n=l.length) (hc:n<=c) (hr:RdA (Ow b h) w A (bvs l)) (hK:Box w b ks h a o r) (h1:16<=l.length) (h2:l.length<=800) (h3:n8 l<=1099511627776) :
  Calls Tryz.prog 105 #[.pointer (some ⟨b,0,none⟩),.int .i64 (u:Int),.slice A n c] w fun e w'=>e=.returned (.bool (decide (tagL ks u (El l)=n8 (Dx l))))/\∃g,Box w' b ks (some g) a o r/\Step w w' b h g:=by
 have cw:=Dh w.heap.size A n c l w hn (by omega) hc hr.rd;have f2:=Fw (n8 l) true (by simp;omega);obtain⟨b2,o2,rfl⟩:∃b2 o2,A=some ⟨b2,o2,none⟩:=by
  rcases hr with hx | ⟨b2,o2,h4,_⟩
  ·exact Jn hn (by omega) hx
  ·exact⟨b2,o2,h4⟩
 obtain⟨k,hk⟩:∃k,n=k+8:=⟨n - 8,by omega⟩;have hk8:n - 8=k:=by omega
 have hhd:El l=l.take k:=by unfold El;rw[<-hn,hk8]
 have hla:Dx l=l.drop k:=by unfold Dx;rw[<-hn,hk8]
 have ct:=fun(q:Nat)=>RX b ks h a o r u (some ⟨b2,o2,none⟩) k c (El l) (w.drewN q) hu (by rw[hhd,List.length_take];omega) (by omega) ((hhd▸hr.take k).keep (Fy (fun _=>False) w q) (fun _ _ x=>x.elim) (fun _ _ x=>x)) (hK.chg (Fy (fun _=>False) w q) (fun _ _ x=>x))
 have cl:=fun(w2:World) (hw:RdA (Aw b h w.heap.size) w2 (some ⟨b2,o2+k,none⟩) (bvs (Dx l))) (c2:Nat) (hc2:8<=c2)=>Dh w2.heap.size (some ⟨b2,o2+k,none⟩) 8 c2 (Dx l) w2 (by rw[hla,List.length_drop];omega) Ag hc2 hw.rd
 have hrl:RdA (Aw b h w.heap.size) w (some ⟨b2,o2+k,none⟩) (bvs (Dx l)):=hla▸(hr.drop k).aw Ag;obtain⟨N,eN⟩:=Ak (n8 l);obtain⟨M,eM⟩:=Ak (n8 (Dx l));obtain⟨T,eT⟩:=Ak (tagL ks u (El l));rw[<-eN] at cw f2;rw[<-eM] at cl⊢;rw[<-eT] at ct⊢;have HRL:=I hrl;clear hrl;have t1:decide ((n:Int)<16)=false:=by simp;omega
 have t2:decide (800<(n:Int))=false:=by simp;omega
 have s1:(k:Int)<=792:=by omega
 have s2:(0:Int)<=(k:Int):=by omega
 have s3:(k:Int)<=(c:Int):=by omega
 have s4:(k:Int)<=(n:Int):=by omega
 have s5:(n:Int)<=(c:Int):=by omega
 have s6:(n:Int) - 8=(k:Int):=by omega
 have s7:IntKind.i64.wrap (k:Int)=(k:Int):=by rw[IntKind.wrap_i64];omega
 have s9:n - k=8:=by omega
 have s10:k<=c:=by omega
 have s11:k<=n:=by omega
 have HKN:=I hk;clear hk;have HC:=I hc;clear hc;have CL:=I cl;clear cl;clear hK hr hn h1 h2 h3 eN eM eT hhd hla hu hk8;go_enter Tryz.func105,Tryz.ntmps105
 go_wp2_with (first
  |(go_at_call 107;refine Aj cw ?_;rintro wq hw;have hw:=hw.symm;subst hw;clear cw)
  |(go_at_call 151;refine Aj (f2 _) ?_;rintro wq hw;have hw:=hw.symm;subst hw;clear f2))
 go_quiet (fail)
 have ct2:=ct nq;clear ct
 go_wp2_with (first
  |(go_at_call 152;refine Calls.mono ct2 ?_;rintro e w3 ⟨g,rfl,hb3,hs3⟩;clear ct2;have hr3:=HRL.o.go ((Fy (Aw b h w.heap.size) w nq).then hs3.aw);have cl2:=CL.o w3 hr3 (c - k) (by have:=HKN.o;have:=HC.o;omega);have B3:=I hb3;have S3:=I hs3;clear hb3 hs3 hr3 CL)
  |(go_at_call 107;refine Aj cl2 ?_;rintro wq hw;have hw:=hw.symm;subst hw;clear cl2))
 go_ret;refine⟨?_,g,B3.o,⟨⟨S3.o.1.os,S3.o.1.tape,S3.o.1.output,S3.o.1.size,S3.o.1.block⟩,S3.o.2⟩⟩;show Ending.returned (.bool (decide ((T:Int)=(M:Int))))=_
 congr 3
 exact propext ⟨by omega,by omega⟩
theorem Sq (b:Nat) (ks:Nat->UInt8) (h:Option Nat) (a o r u:Nat) (A:Option Addr) (n c:Nat) (l:List UInt8) (w:World) (hu:u<=255) (hn:n=l.length) (hc:n<=c) (hr:RdA (Ow b h) w A (bvs l)) (hK:Box w b ks h a o r) :
  Calls Tryz.prog 105 #[.pointer (some ⟨b,0,none⟩),.int .i64 (u:Int),.slice A n c] w fun e w'=>e=.returned (.bool (isL ks u l))/\∃h',Box w' b ks h' a o r/\Cn w w' b h h':=by
 by_cases hx:l.length<16\/800<l.length\/1099511627776<n8 l
 ·refine(So b u ks A n c l w hn hc hr.rd hx).mono ?_
  rintro e w' ⟨rfl,hw⟩;subst hw;exact⟨by rw[Sa hx],h,hK,Cn.refl _ _ _⟩
 ·refine(UD b ks h a o r u A n c l w hu hn hc hr hK (by omega) (by omega) (by omega)).mono ?_
  rintro e w' ⟨rfl,g,h1,h2⟩;exact⟨by rw[Ot (by omega) (by omega) (by omega)],some g,h1,h2.o⟩
theorem Sr (b:Nat) (ks:Nat->UInt8) (h:Option Nat) (a o r u:Nat) (A:Option Addr) (n c:Nat) (l:List UInt8) (w:World) (hr1:r<1000000) (hu:u<=255) (hn:n=l.length) (hc:n<=c) (hr:RdA (Ow b h) w A (bvs l)) (hK:Box w b ks h a o r) (hx:isL ks u l=false) :
  Calls Tryz.prog 65 #[.pointer (some ⟨b,0,none⟩),.int .i64 (u:Int),.slice A n c] w fun e w'=>e=.returned (.tuple #[.slice none 0 0,.int .i64 3])/\∃h',Box w' b ks h' a o (r+1)/\Cn w w' b h h':=by
 have f1:=Ea (u:Int) true (by simp;omega);have ci:=Sq b ks h a o r u A n c l w hu hn hc hr hK;rw[hx] at ci;have HR1:=I hr1;clear hr1;clear hu hn hc hr hK hx;go_enter Tryz.func65,Tryz.ntmps65
 go_wp2_with (first
  |(go_at_call 104;refine Aj (f1 _) ?_;rintro wq hw;have hw:=hw.symm;subst hw;clear f1)
  |(go_at_call 105;refine Aj ci ?_;rintro w2 ⟨h2,hb2,hs2⟩;clear ci;have hcr:w2.cell? ⟨b,54,none⟩=some (.int .i64 (r:Int))/\w2.frozen? ⟨b,54,none⟩=false:=by{cases h2 with | none=>exact⟨XB.cr hb2,XB.fz hb2 54⟩ | some g=>exact⟨hb2.1.cr,hb2.1.fz 54⟩};have cadd:=add_one ⟨b,54,none⟩ r w2 HR1.o hcr.1 hcr.2;have B2:=I hb2;have S2:=I hs2;clear hb2 hs2 hcr)
  |(go_at_call 76;refine Aj cadd ?_;rintro w7 hw7;clear cadd;have HW7:=I hw7;clear hw7))
 go_ret2
 refine⟨rfl,h2,by rw[HW7.o];exact B2.o.refuses (r+1),?_⟩;rw[HW7.o];refine⟨S2.o.1.trans ((Chg.refl (fun i=>i=b) w2).set (.inl rfl) _) (fun i _ hx=>.inl hx),S2.o.2⟩
theorem UE (b:Nat) (ks:Nat->UInt8) (h:Option Nat) (a o r u:Nat) (A:Option Addr) (n c:Nat) (l:List UInt8) (w:World) (ho1:o<1000000) (hu:u<=255) (hn:n=l.length) (hc:n<=c) (hr:RdA (Ow b h) w A (bvs l)) (hK:Box w b ks h a o r) (hx:isL ks u l=true) :
  Calls Tryz.prog 65 #[.pointer (some ⟨b,0,none⟩),.int .i64 (u:Int),.slice A n c] w fun e w'=>∃g Aq cq,e=.returned (.tuple #[.slice Aq (n - 16) cq,.int .i64 0])/\n - 16<=cq/\cq<=1000/\RdA (Nw w.heap.size g) w' Aq (bvs (mixL ks u (n8 l) (midL l)))/\Box w' b ks (some g) a (o+1) r/\Step w w' b h g:=by
 have f1:=Ea (u:Int) true (by simp;omega);have ci:=Sq b ks h a o r u A n c l w hu hn hc hr hK;rw[hx] at ci;have hlen:16<=n/\n<=800/\n8 l<=1099511627776:=by
  have:=hx;simp only[isL,Bool.and_eq_true,decide_eq_true_eq] at this;omega
 obtain⟨b2,o2,rfl⟩:∃b2 o2,A=some ⟨b2,o2,none⟩:=by
  rcases hr with hx | ⟨b2,o2,h4,_⟩
  ·exact Jn hn (by omega) hx
  ·exact⟨b2,o2,h4⟩
 obtain⟨k,hk⟩:∃k,n=k+8:=⟨n - 8,by omega⟩;obtain⟨m,hm8⟩:∃m,k=m+8:=⟨k - 8,by omega⟩;have hmid:midL l=(l.take k).drop 8:=by unfold midL El;rw[<-hn,show n - 8=k by omega]
 have cw:=fun w2 (h2:RdA (Aw b h w.heap.size) w2 (some ⟨b2,o2,none⟩) (bvs l))=>Dh w2.heap.size (some ⟨b2,o2,none⟩) n c l w2 hn (by omega) hc h2.rd
 have ct:=fun(w2:World) (h2:Option Nat) (hr2:RdA (Ow b h2) w2 (some ⟨b2,o2,none⟩) (bvs l)) (hb2:Box w2 b ks h2 a o r)=>Ir b ks h2 a o r u (n8 l) (some ⟨b2,o2+8,none⟩) m (c - 8) (midL l) w2 hu (by omega) (by rw[hmid,List.length_drop,List.length_take];omega) (by omega) (hmid▸(hr2.take k).drop 8) hb2
 obtain⟨N,eN⟩:=Ak (n8 l);rw[<-eN] at cw ct⊢;obtain⟨Q,eQ⟩:=Ak (mixL ks u N (midL l));rw[<-eQ] at ct⊢;have hm16:n - 16=m:=by omega
 rw[hm16];have HR:=I hr;clear hr;have CW:=I cw;clear cw;have CT:=I ct;clear ct;have HO1:=I ho1;clear ho1;have s1:(n:Int) - 8=(k:Int):=by omega
 have s2:IntKind.i64.wrap (k:Int)=(k:Int):=by rw[IntKind.wrap_i64];omega
 have s3:(8:Int)<=(k:Int):=by omega
 have s4:(k:Int)<=(c:Int):=by omega
 have s5:k - 8=m:=by omega
 have s6:8<=k:=by omega
 have s8:¬c=8:=by omega
 have s7:k<=c:=by omega
 have HKN:=I hk;clear hk;clear hu hn hc hK hx hlen eN hm8 hmid eQ hm16;go_enter Tryz.func65,Tryz.ntmps65
 go_wp2_with (first
  |(go_at_call 104;refine Aj (f1 _) ?_;rintro wq hw;have hw:=hw.symm;subst hw;clear f1)
  |(go_at_call 105;refine Aj ci ?_;rintro w2 ⟨h2,hb2,hs2⟩;clear ci;have hr2:=hs2.rda HR.o;have B2:=I hb2;have S2:=I hs2;have R2:=I hr2;clear hb2 hs2 hr2))
 have B3:Hid (Box w2.drew b ks h2 a o r):=B2.o.chg (Fy (fun _=>False) w2 1) (fun _ _ x=>x);have S3:Hid (Cn w w2.drew b h h2):=S2.o.drewN 1;have R3:Hid (RdA (Ow b h2) w2.drew (some ⟨b2,o2,none⟩) (bvs l)):=R2.o.keep (Fy (fun _=>False) w2 1) (fun _ _ x=>x.elim) (fun _ _ x=>x);have cw3:=CW.o w2.drew ((HR.o.aw Ag).go S3.o.aw);have ct3:=CT.o w2.drew h2 R3.o B3.o;refine wp_region_still_tail 9 (by kernel_rfl) (by kernel_rfl) ?_;simp only[List.take_succ_cons,List.take_zero,List.drop_succ_cons,List.drop_zero];change wpStill _ _ w2.drew _ _ _
 repeat still_step
 still_call cw3
 repeat still_step
 refine wpStill_nil ?_;change wpList _ _ _ _ _ w2.drew;clear cw3 B2 S2 R2;generalize w2.drew=w3 at B3 S3 R3 ct3⊢
 go_wp2_with (first
  |(go_at_call 106;refine Calls.mono ct3 ?_;rintro e w4 ⟨g,Aq,cq,rfl,hq1,hq2,hrq,hb4,hs4⟩;clear ct3;have cadd:=add_one ⟨b,53,none⟩ o w4 HO1.o hb4.1.co (hb4.1.fz 53);have B4:=I hb4;have S4:=I hs4;have Q4:=I hrq;have C1:=I hq1;have C2:=I hq2;clear hb4 hs4 hrq hq1 hq2)
  |(go_at_call 76;refine Aj cadd ?_;rintro w7 hw7;clear cadd;have HW7:=I hw7;clear hw7))
 go_ret2
 have hbx:=B4.o.lt;have hch:Chg (fun i=>i=b) w4 w7:=by rw[HW7.o];exact(Chg.refl (fun i=>i=b) w4).set (.inl rfl) _
 have hst:Cn w w4 b h (some g):=S3.o.trans S4.o.o;refine⟨g,Aq,cq,rfl,C1.o,C2.o,?_,by rw[HW7.o];exact B4.o.opens (o+1),hst.1.trans hch (fun i _ hx=>.inl hx),hst.2.imp (fun e=>e.symm) (fun e=>⟨e.1,by obtain⟨_,g2,hg2,hg3⟩:=e;injection hg2 with hg2;omega⟩)⟩;have hb3:=B3.o.lt;refine Q4.o.keep (hch.mono (T:=Nw w3.heap.size g) fun i _ hx=>.inl (by omega)) (fun _ _ x=>x) (fun i _ hx=>?_);rcases hx with hx | hx
 ·exact .inl (by have:=S3.o.1.size;omega)
 ·exact .inr hx
theorem LX (b:Nat) (ks:Nat->UInt8) (h:Option Nat) (a o r:Nat) (u:Int) (A:Option Addr) (n c:Nat) (l:List UInt8) (w:World) (ho:o<1000000) (hr1:r<1000000) (hn:n=l.length) (hc:n<=c) (hr:RdA (Ow b h) w A (bvs l)) (hK:Box w b ks h a o r) :
  Calls Tryz.prog 65 #[.pointer (some ⟨b,0,none⟩),.int .i64 u,.slice A n c] w fun e w'=>∃A2 c2 h' o' r',e=.returned (.tuple #[.slice A2 (AN ks u l).1.length c2,.int .i64 (AN ks u l).2])/\(AN ks u l).1.length<=c2/\c2<=maxLen/\RdA (Ns w.heap.size b h') w' A2 (bvs (AN ks u l).1)/\Box w' b ks h' a o' r'/\Cn w w' b h h'/\o'<=o+1/\r'<=r+1:=by
 by_cases hx:0<=u/\u<=255
 ·obtain⟨u',rfl⟩:∃k:Nat,u=(k:Int):=⟨u.toNat,by omega⟩
  cases hi:isL ks u' l with
  |true=>
   have e:AN ks (u':Int) l=(mixL ks u' (n8 l) (midL l),0):=by rw[AN,if_pos hx];show(if isL ks u' l=true then _ else _)=_;rw[if_pos hi];rfl
   have hl:=Nf hi;have e2:(mixL ks u' (n8 l) (midL l)).length=n - 16:=by rw[Bi,Gp l hl.1,hn]
   rw[e];refine(UE b ks h a o r u' A n c l w ho (by omega) hn hc hr hK hi).mono ?_;rintro e w' ⟨g,A2,c2,rfl,h1,h2,h3,h4,h5⟩;exact⟨A2,c2,some g,o+1,r,by rw[e2],by rw[e2];exact h1,by unfold maxLen;omega,Zq h3 hK.lt,h4,h5.o,Nat.le_refl _,by omega⟩
  |false=>
   have e:AN ks (u':Int) l=([],3):=by rw[AN,if_pos hx];show(if isL ks u' l=true then _ else _)=_;rw[hi];rfl
   rw[e];refine(Sr b ks h a o r u' A n c l w hr1 (by omega) hn hc hr hK hi).mono ?_;rintro e w' ⟨rfl,h',h1,h2⟩;exact⟨none,0,h',o,r+1,rfl,Nat.le_refl _,Nat.zero_le _,.inl rfl,h1,h2,by omega,Nat.le_refl _⟩
 ·have e:AN ks u l=([],1):=by rw[AN,if_neg hx]
  rw[e];refine(UA b u _ w hx).mono ?_;rintro e w' ⟨rfl,hw⟩;subst hw;exact⟨none,0,h,o,r,rfl,Nat.le_refl _,Nat.zero_le _,.inl rfl,hK,Cn.refl _ _ _,by omega,by omega⟩
end Se
namespace Kd
open Go.RowKit Af Nm Rt
theorem PZ (V:List L) (A5:Option Addr) (c5:Nat) (w:World) (h1:V.length<=3000) (h2:∀x∈V,x.length<=3000) (hr:Rd w w.heap.size A5 (strs V)) :
  Calls Tryz.prog 97 #[.slice A5 V.length c5] w fun e w'=>∃u,e=.returned u/\Own w' w.heap.size u V/\Below w.heap.size w w':=by
 have CL:=I (fun(i:Nat) (h:i<V.length) w1=>BO (pl V i) w1 (by have:=h2 _ (JO h);omega));obtain⟨n,en⟩:=Ak (V.length);rw[<-en] at h1;have EN:=I en;obtain⟨N,eN⟩:=Ak (w.heap.size);rw[<-eN] at hr⊢;have HSZ:=I (show ∀w1:World,Below N w w1->N<=w1.heap.size from fun w1 h=>by have:=h.size;omega);have HB:=I (Below.refl N w);have MK:=I (fun w1=>KG n (by omega) w1);obtain⟨cs,hcs,hmk⟩:=MK.o w;have HO:=I (eN▸Ur w cs n hcs (by omega):Own (w.alloc (.cells cs 9)) N (.slice (some ⟨w.heap.size,0,none⟩) 0 n) []);have HR:=I (hr.alloc (HSZ.o _ HB.o) (.cells cs 9));replace HB:=I (HB.o.alloc (HSZ.o _ HB.o) (.cells cs 9));rw[<-en];clear h2 hr eN MK en;go_enter Tryz.func97,Tryz.ntmps97
 go_wp2
 go_loopw [3,11] (fun ev iv wr=>∃i:Nat,i<=n/\iv=.int .i64 (i:Int)/\Own wr N ev (V.take i)/\Rd wr N A5 (strs V)/\Below N w wr) (fun _ iv _=>n - (intOf iv).toNat)
 case atStart=>exact⟨0,Nat.zero_le _,rfl,HO.o,HR.o,HB.o⟩
 case round=>
  obtain⟨i,hi,rfl,ho,hr,hb2⟩:=hrel;have HO:=I ho;clear ho;have HRR:=I hr;clear hr;have HB2:=I hb2;clear hb2
  by_cases hlt:i<n
  ·have e1:(i:Int)<(n:Int):=by omega
   have e2:(0:Int)<=(i:Int):=by omega
   have him:i<V.length:=by rw[<-EN.o];exact hlt
   have c2:=CL.o i him;have hst:=Hy him;have HL:=I (show(V.take i).length=i by simp;omega);have HST:=I hst;clear hst him;obtain⟨bx,o,rfl,_,h1⟩:=EJ HRR.o (i:=i) (by rw[<-EN.o];exact hlt)
   go_wp2_with (first
    |(go_at_call 49;refine Aj (c2 _) ?_;rintro w3 hb;clear c2;have H3:=I (HB2.o.trans (hb.mono (HSZ.o _ HB2.o)));have HO3:=I (HO.o.below hb);have HR3:=I (HRR.o.below (hb.mono (HSZ.o _ HB2.o)));clear hb)
    |(at_builtin;refine Mx rfl (.tmp 15) (.tmp 18) rfl N _ (V.take i) rfl HO3.o (pl V i) rfl (by have:=HL.o;omega) (HSZ.o _ H3.o) ?_;intro v4 w4 ho4 hb4;rw[<-HST.o] at ho4;have HO4:=I ho4;have H4:=I (H3.o.trans hb4);have HR4:=I (HR3.o.below hb4);clear ho4 hb4))
   go_roundw
   case rel=>exact⟨i+1,by omega,by go_num,HO4.o,HR4.o,H4.o⟩
   case measure=>simp [intOf];omega
  ·have e1:¬(i:Int)<(n:Int):=by omega
   have hiP:V.length<=i:=by have:=EN.o;omega
   rw[List.take_of_length_le hiP] at HO
   go_wp2
   go_ret;exact⟨_,rfl,HO.o,HB2.o⟩
end Kd
end Go.Proofs.YtlchkbpffaclmaaGreat
