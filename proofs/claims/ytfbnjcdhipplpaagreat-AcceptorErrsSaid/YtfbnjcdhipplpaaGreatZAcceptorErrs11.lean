import Derived.Test.YtfbnjcdhipplpaaGreatZAcceptorErrs5
import Derived.Test.YtfbnjcdhipplpaaGreatZAcceptorErrs10
set_option maxHeartbeats 25600000
set_option maxRecDepth 100000
set_option linter.unusedVariables false
set_option linter.unusedSimpArgs false
namespace Go.Proofs.YtfbnjcdhipplpaaGreat
namespace Reg
open Go.RowKit Af
section
variable {P:Program} {ops:Array Oper} {Q:Exit->Act->World->Prop} {md:Region.Mode}
theorem MG {M Z:World->Prop} (hS:∀w,Z w->M w):∀(f:Nat) (l:Array Bool) (a:Act) (w:World),wpAnyH P md ops Q Z f l a w->wpAnyH P md ops Q M f l a w
 |0,_,_,_,h=>h
 |f+1,_,_,_,h=>⟨h.1,fun i hi=>wpOp_mono (fun a' w' O=>⟨hS w' O.1,MG hS f _ a' w' O.2⟩) (h.2 i hi)⟩
def Ff (W w:World):Prop:=Below W.heap.size W w
theorem ZI {W w:World} {f:Nat} {l:Array Bool} {a:Act} (O:Below W.heap.size W w) (h:wpAnyH P md ops Q (Ff w) f l a w):wpAnyH P md ops Q (Ff W) f l a w:=
 MG (fun _ M=>bt O M) f l a w h
theorem Cd (n:Nat) {id:Nat} {a:Act} {w:World} (M:ops.size=n) (hm:P.follows .mixedOrders=true) (h:wpAnyH P .any ops Q (Ff w.drew) n (Array.replicate n false) a w.drew):(Code.region id ops true).wp P Q a w:=by
 subst M;exact wp_region_held_drew hm Ah (fun _=>h)
theorem TK (i:Nat) {dst:Option Tmp} {op:Op} {ty:TypeId} {pos:String} {after:Array _} {guard:Option (Nat×Bool)} {v:Value} {fuel:Nat} {M:Array Bool} {a:Act} {w:World} (hi:ops[i]? = some ⟨dst,op,ty,pos,after,guard⟩)
  (hs:Region.noSelect ops=true) (O:Region.free md ops M i=true) (hr:(Region.ready md ops M).contains i=true)
  (Z:∀c a w,Q (.panic c) (a.put dst v) w->Q (.panic c) a w)
  (hw:Region.wanted ⟨dst,op,ty,pos,after,guard⟩ (yielded ops a.tmps)=true) (hy:∀w',Ff w w'->(execOp a.eval ⟨dst,op,ty,pos,after,guard⟩).run P w'=.ok (.value v) w')
  (h:wpAnyH P md ops Q (Ff w) fuel (M.setIfInBounds i true) (a.put dst v) w):wpAnyH P md ops Q (Ff w) (fuel+1) M a w:=
 wpAnyH_take hi hs O hr Z (.inl ⟨hw,hy⟩) Ah h
theorem tz (i:Nat) {dst:Option Tmp} {op:Op} {ty:TypeId} {pos:String} {after:Array _} {guard:Option (Nat×Bool)} {v:Value} {fuel:Nat} {M l2:Array Bool} {a b:Act} {w:World} (hi:ops[i]? = some ⟨dst,op,ty,pos,after,guard⟩) (h:wpAnyH P md ops Q (Ff w) fuel l2 b w) (O:∀w',Ff w w'->(execOp a.eval ⟨dst,op,ty,pos,after,guard⟩).run P w'=.ok (.value v) w':=by intro w' hS;go_simp;rfl) (e1:M.setIfInBounds i true=l2:=by(conv=>lhs;simp only[U,Aa,Ab])) (e2:a.put dst v=b:=by(conv=>lhs;simp only[Act.put,U,Aa,Ab])) (hs:Region.noSelect ops=true:=by kernel_rfl) (hf:Region.free md ops M i=true:=by kernel_rfl) (hr:(Region.ready md ops M).contains i=true:=by kernel_rfl) (hQ:∀c a w,Q (.panic c) (a.put dst v) w->Q (.panic c) a w:=by exact fun _ _ _ h=>h) (hw:Region.wanted ⟨dst,op,ty,pos,after,guard⟩ (yielded ops a.tmps)=true:=by rfl):wpAnyH P md ops Q (Ff w) (fuel+1) M a w:=by
 subst e1 e2;exact TK i hi hs hf hr hQ hw O h
theorem tx (i:Nat) {dst:Option Tmp} {op:Op} {ty:TypeId} {pos:String} {after:Array _} {guard:Option (Nat×Bool)} {v:Value} {fuel:Nat} {M l2:Array Bool} {a b:Act} {w:World} (hi:ops[i]? = some ⟨dst,op,ty,pos,after,guard⟩) (O:∀w',Ff w w'->(execOp a.eval ⟨dst,op,ty,pos,after,guard⟩).run P w'=.ok (.value v) w') (h:wpAnyH P md ops Q (Ff w) fuel l2 b w) (Z:M.setIfInBounds i true=l2:=by(conv=>lhs;simp only[U,Aa,Ab])) (e2:a.put dst v=b:=by(conv=>lhs;simp only[Act.put,U,Aa,Ab])) (hs:Region.noSelect ops=true:=by kernel_rfl) (hf:Region.free md ops M i=true:=by kernel_rfl) (hr:(Region.ready md ops M).contains i=true:=by kernel_rfl) (hQ:∀c a w,Q (.panic c) (a.put dst v) w->Q (.panic c) a w:=by exact fun _ _ _ h=>h) (hw:Region.wanted ⟨dst,op,ty,pos,after,guard⟩ (yielded ops a.tmps)=true:=by rfl):wpAnyH P md ops Q (Ff w) (fuel+1) M a w:=by
 subst Z e2;exact TK i hi hs hf hr hQ hw O h
theorem ZJ (i:Nat) {dst:Option Tmp} {op:Op} {ty:TypeId} {pos:String} {after:Array _} {guard:Option (Nat×Bool)} {fuel:Nat} {M:Array Bool} {a:Act} {w:World} (hi:ops[i]? = some ⟨dst,op,ty,pos,after,guard⟩)
  (hs:Region.noSelect ops=true) (O:Region.free md ops M i=true) (hr:(Region.ready md ops M).contains i=true)
  (Z:∀c a w,Q (.panic c) (a.put dst undef) w->Q (.panic c) a w)
  (hw:Region.wanted ⟨dst,op,ty,pos,after,guard⟩ (yielded ops a.tmps)=false)
  (h:wpAnyH P md ops Q (Ff w) fuel (M.setIfInBounds i true) (a.put dst undef) w):wpAnyH P md ops Q (Ff w) (fuel+1) M a w:=
 wpAnyH_take hi hs O hr Z (.inr ⟨hw,rfl⟩) Ah h
theorem sk (i:Nat) {dst:Option Tmp} {op:Op} {ty:TypeId} {pos:String} {after:Array _} {guard:Option (Nat×Bool)} {fuel:Nat} {M l2:Array Bool} {a b:Act} {w:World} (hi:ops[i]? = some ⟨dst,op,ty,pos,after,guard⟩) (h:wpAnyH P md ops Q (Ff w) fuel l2 b w) (O:M.setIfInBounds i true=l2:=by(conv=>lhs;simp only[U,Aa,Ab])) (e2:a.put dst undef=b:=by(conv=>lhs;simp only[Act.put,U,Aa,Ab])) (hs:Region.noSelect ops=true:=by kernel_rfl) (hf:Region.free md ops M i=true:=by kernel_rfl) (hr:(Region.ready md ops M).contains i=true:=by kernel_rfl) (hQ:∀c a w,Q (.panic c) (a.put dst undef) w->Q (.panic c) a w:=by exact fun _ _ _ h=>h) (hw:Region.wanted ⟨dst,op,ty,pos,after,guard⟩ (yielded ops a.tmps)=false:=by rfl):wpAnyH P md ops Q (Ff w) (fuel+1) M a w:=by
 subst O e2;exact ZJ i hi hs hf hr hQ hw h
theorem Fg (i:Nat) {dst:Option Tmp} {op:Op} {ty:TypeId} {pos:String} {after:Array _} {guard:Option (Nat×Bool)} {fuel:Nat} {M:Array Bool} {a:Act} {w:World} (hi:ops[i]? = some ⟨dst,op,ty,pos,after,guard⟩)
  (hr:Region.ready md ops M = [i]) (hw:Region.wanted ⟨dst,op,ty,pos,after,guard⟩ (yielded ops a.tmps)=true) (f:FuncId) (args:Array Value)
  (hx:(execOp a.eval ⟨dst,op,ty,pos,after,guard⟩).run P w=.ok (.enter f args) w)
  (h:Calls P f args w fun e w'=>∃v,e=.returned v/\Below w.heap.size w w'/\wpAnyH P md ops Q (Ff w') fuel (M.setIfInBounds i true) (a.put dst v) w'):wpAnyH P md ops Q (Ff w) (fuel+1) M a w:=by
 refine wpAnyH_all hr (by simp) fun j hj=>?_
 obtain rfl:j=i:=by simpa using hj
 unfold wpOp;simp only[hi];rw[if_pos hw]
 left
 unfold Oper.wp;rw[hx];exact h.mono fun e w' O=>by
  obtain⟨v,rfl,Z,O⟩:=O;exact⟨Z,ZI Z O⟩
end
section
variable {P:Program} {ops:Array Oper} {Q:Exit->Act->World->Prop} {md:Region.Mode}
def Eff (P:Program) (md:Region.Mode) (ops:Array Oper) (Q:Exit->Act->World->Prop) (S:World->Prop) (fuel:Nat) (listed:Array Bool) (a:Act) (w:World) (i:Nat):Prop:=
 ∃(dst:Option Tmp) (op:Op) (ty:TypeId) (pos:String) (after:Array _) (guard:Option (Nat×Bool)) (v:Value) (w':World),ops[i]? = some ⟨dst,op,ty,pos,after,guard⟩/\Region.wanted ⟨dst,op,ty,pos,after,guard⟩ (yielded ops a.tmps)=true/\(execOp a.eval ⟨dst,op,ty,pos,after,guard⟩).run P w=.ok (.value v) w'/\S w'/\wpAnyH P md ops Q S fuel (listed.setIfInBounds i true) (a.put dst v) w'
theorem JC (is:List Nat) {S:World->Prop} {fuel:Nat} {M:Array Bool} {a:Act} {w:World} (hr:Region.ready md ops M=is) (O:is≠[]) (h:∀j∈is,Eff P md ops Q S fuel M a w j):wpAnyH P md ops Q S (fuel+1) M a w:=by
 refine wpAnyH_all hr O fun j hj=>?_
 obtain⟨dst,op,ty,pos,after,guard,v,w',hi,hw,hx,hs,Z⟩:=h j hj;unfold wpOp;simp only[hi];rw[if_pos hw]
 left
 unfold Oper.wp;rw[hx];exact⟨hs,Z⟩
end
section
variable {P:Program} {ops:Array Oper} {Q:Exit->Act->World->Prop} {md:Region.Mode} {S:World->Prop}
theorem BR (S:World->Prop) (n:Nat) {id:Nat} {a:Act} {w:World} (M:ops.size=n) (hm:P.follows .mixedOrders=true) (hS:S w.drew) (h:wpAnyH P .any ops Q S n (Array.replicate n false) a w.drew):(Code.region id ops true).wp P Q a w:=by
 subst M;exact wp_region_held_drew hm hS (fun _=>h)
theorem IM (i:Nat) {dst:Option Tmp} {op:Op} {ty:TypeId} {pos:String} {after:Array _} {guard:Option (Nat×Bool)} {v:Value} {fuel:Nat} {M:Array Bool} {a:Act} {w:World} (hi:ops[i]? = some ⟨dst,op,ty,pos,after,guard⟩)
  (hs:Region.noSelect ops=true) (O:Region.free md ops M i=true) (hr:(Region.ready md ops M).contains i=true)
  (Z:∀c a w,Q (.panic c) (a.put dst v) w->Q (.panic c) a w) (hS:S w)
  (hw:Region.wanted ⟨dst,op,ty,pos,after,guard⟩ (yielded ops a.tmps)=true) (hy:∀w',S w'->(execOp a.eval ⟨dst,op,ty,pos,after,guard⟩).run P w'=.ok (.value v) w')
  (h:wpAnyH P md ops Q S fuel (M.setIfInBounds i true) (a.put dst v) w):wpAnyH P md ops Q S (fuel+1) M a w:=
 wpAnyH_take hi hs O hr Z (.inl ⟨hw,hy⟩) hS h
theorem ty (i:Nat) {dst:Option Tmp} {op:Op} {ty:TypeId} {pos:String} {after:Array _} {guard:Option (Nat×Bool)} {v:Value} {fuel:Nat} {M l2:Array Bool} {a b:Act} {w:World} (hi:ops[i]? = some ⟨dst,op,ty,pos,after,guard⟩) (hS:S w) (h:wpAnyH P md ops Q S fuel l2 b w) (O:∀w',S w'->(execOp a.eval ⟨dst,op,ty,pos,after,guard⟩).run P w'=.ok (.value v) w':=by intro w' hS;go_simp<;>rfl) (e1:M.setIfInBounds i true=l2:=by(conv=>lhs;simp only[U,Aa,Ab])) (e2:a.put dst v=b:=by(conv=>lhs;simp only[Act.put,U,Aa,Ab])) (hs:Region.noSelect ops=true:=by kernel_rfl) (hf:Region.free md ops M i=true:=by kernel_rfl) (hr:(Region.ready md ops M).contains i=true:=by kernel_rfl) (hQ:∀c a w,Q (.panic c) (a.put dst v) w->Q (.panic c) a w:=by exact fun _ _ _ h=>h) (hw:Region.wanted ⟨dst,op,ty,pos,after,guard⟩ (yielded ops a.tmps)=true:=by rfl):wpAnyH P md ops Q S (fuel+1) M a w:=by
 subst e1 e2;exact IM i hi hs hf hr hQ hS hw O h
theorem tw (i:Nat) {dst:Option Tmp} {op:Op} {ty:TypeId} {pos:String} {after:Array _} {guard:Option (Nat×Bool)} {v:Value} {fuel:Nat} {M l2:Array Bool} {a b:Act} {w:World} (hi:ops[i]? = some ⟨dst,op,ty,pos,after,guard⟩) (hS:S w) (O:∀w',S w'->(execOp a.eval ⟨dst,op,ty,pos,after,guard⟩).run P w'=.ok (.value v) w') (h:wpAnyH P md ops Q S fuel l2 b w) (Z:M.setIfInBounds i true=l2:=by(conv=>lhs;simp only[U,Aa,Ab])) (e2:a.put dst v=b:=by(conv=>lhs;simp only[Act.put,U,Aa,Ab])) (hs:Region.noSelect ops=true:=by kernel_rfl) (hf:Region.free md ops M i=true:=by kernel_rfl) (hr:(Region.ready md ops M).contains i=true:=by kernel_rfl) (hQ:∀c a w,Q (.panic c) (a.put dst v) w->Q (.panic c) a w:=by exact fun _ _ _ h=>h) (hw:Region.wanted ⟨dst,op,ty,pos,after,guard⟩ (yielded ops a.tmps)=true:=by rfl):wpAnyH P md ops Q S (fuel+1) M a w:=by
 subst Z e2;exact IM i hi hs hf hr hQ hS hw O h
theorem tq (i : Nat) {dst : Option Tmp} {op : Op} {ty : TypeId} {pos : String} {after : Array _} {guard : Option (Nat × Bool)} {v : Value} {fuel : Nat} {M : Array Bool} {a : Act} {w : World} (hi : ops[i]? = some ⟨dst, op, ty, pos, after, guard⟩) (hS : S w)
    (O : ∀ w', S w' -> (execOp a.eval ⟨dst, op, ty, pos, after, guard⟩).run P w'=.ok (.value v) w')
    (h : wpAnyH P md ops Q S fuel (M.setIfInBounds i true) (a.put dst v) w)
    (hs : Region.noSelect ops = true := by kernel_rfl) (hf : Region.free md ops M i = true := by kernel_rfl) (hr : (Region.ready md ops M).contains i = true := by kernel_rfl)
    (hQ : ∀ c a w, Q (.panic c) (a.put dst v) w -> Q (.panic c) a w := by exact fun _ _ _ h => h)
    (hw : Region.wanted ⟨dst, op, ty, pos, after, guard⟩ (yielded ops a.tmps) = true := by rfl) : wpAnyH P md ops Q S (fuel + 1) M a w :=
  IM i hi hs hf hr hQ hS hw O h
theorem BD (i:Nat) {dst:Option Tmp} {op:Op} {ty:TypeId} {pos:String} {after:Array _} {guard:Option (Nat×Bool)} {fuel:Nat} {M:Array Bool} {a:Act} {w:World} (w':World) (hi:ops[i]? = some ⟨dst,op,ty,pos,after,guard⟩)
  (hr:Region.ready md ops M = [i]) (hw:Region.wanted ⟨dst,op,ty,pos,after,guard⟩ (yielded ops a.tmps)=true) (Z:(execOp a.eval ⟨dst,op,ty,pos,after,guard⟩).run P w=.ok .skip w') (hS:S w')
  (h:wpAnyH P md ops Q S fuel (M.setIfInBounds i true) (a.put dst undef) w'):wpAnyH P md ops Q S (fuel+1) M a w:=by
 refine wpAnyH_all hr (by simp) fun j O=>?_
 obtain rfl:j=i:=by simpa using O
 unfold wpOp;simp only[hi];rw[if_pos hw]
 left
 unfold Oper.wp;rw[Z];exact⟨hS,h⟩
end
section
variable {P:Program} {ops:Array Oper} {Q:Exit->Act->World->Prop} {md:Region.Mode}
def Ent (P:Program) (md:Region.Mode) (ops:Array Oper) (Q:Exit->Act->World->Prop) (S:World->Prop) (fuel:Nat) (listed:Array Bool) (a:Act) (w:World) (i:Nat):Prop:=
 ∃(dst:Option Tmp) (op:Op) (ty:TypeId) (pos:String) (after:Array _) (guard:Option (Nat×Bool)) (f:FuncId) (args:Array Value),ops[i]? = some ⟨dst,op,ty,pos,after,guard⟩/\Region.wanted ⟨dst,op,ty,pos,after,guard⟩ (yielded ops a.tmps)=true/\(execOp a.eval ⟨dst,op,ty,pos,after,guard⟩).run P w=.ok (.enter f args) w/\
  Calls P f args w fun e w'=>∃v,e=.returned v/\S w'/\wpAnyH P md ops Q S fuel (listed.setIfInBounds i true) (a.put dst v) w'
theorem PE (is:List Nat) {S:World->Prop} {fuel:Nat} {M:Array Bool} {a:Act} {w:World} (hr:Region.ready md ops M=is) (Z:is≠[]) (h:∀j∈is,Eff P md ops Q S fuel M a w j\/Ent P md ops Q S fuel M a w j):wpAnyH P md ops Q S (fuel+1) M a w:=by
 refine wpAnyH_all hr Z fun j hj=>?_
 rcases h j hj with⟨dst,op,ty,pos,after,guard,v,w',hi,hw,hx,hs,O⟩ | ⟨dst,op,ty,pos,after,guard,f,args,hi,hw,hx,O⟩
 ·unfold wpOp
  simp only[hi];rw[if_pos hw]
  left
  unfold Oper.wp;rw[hx];exact⟨hs,O⟩
 ·unfold wpOp
  simp only[hi];rw[if_pos hw]
  left
  unfold Oper.wp;rw[hx];refine O.mono ?_;rintro e w' ⟨v,rfl,hs,O⟩;exact⟨hs,O⟩
theorem b1 (i:Nat) {S:World->Prop} {fuel:Nat} {M:Array Bool} {a:Act} {w:World} (h:Eff P md ops Q S fuel M a w i\/Ent P md ops Q S fuel M a w i) (O:Region.ready md ops M = [i]:=by kernel_rfl):wpAnyH P md ops Q S (fuel+1) M a w:=
 PE [i] O (by simp) fun j Z=>by
  obtain rfl:j=i:=by simpa using Z
  exact h
theorem b2 (i k:Nat) {S:World->Prop} {fuel:Nat} {M:Array Bool} {a:Act} {w:World} (h1:Eff P md ops Q S fuel M a w i\/Ent P md ops Q S fuel M a w i) (h2:Eff P md ops Q S fuel M a w k\/Ent P md ops Q S fuel M a w k) (Z:Region.ready md ops M = [i,k]:=by kernel_rfl):wpAnyH P md ops Q S (fuel+1) M a w:=
 PE [i,k] Z (by simp) fun j O=>by
  have O:j=i\/j=k:=by simpa using O
  rcases O with rfl | rfl
  ·exact h1
  ·exact h2
end
end Reg
namespace SeL
open Go.RowKit Af Se
def Cw (ks:Nat->UInt8) (u n:Int) (p:List UInt8):List UInt8×Int:=
 if 0<=u/\u<=255/\0<=n/\n<=1099511627776/\p.length<=784 then (El ks u.toNat n.toNat p,0) else ([],1)
def BK (ks:Nat->UInt8) (u:Int) (l:List UInt8):List UInt8×Int:=
 if 0<=u/\u<=255 then (if isL ks u.toNat l=true then (mixL ks u.toNat (n8 l) (midL l),0) else ([],3)) else ([],1)
def Ns (n b:Nat) (h:Option Nat) (i:Nat):Prop:=i<n\/Ow b h i
theorem nw_ns {n b g:Nat} {w:World} {A:Option Addr} {xs:List Value} (O:RdA (Nw n g) w A xs) (Z:b<n):RdA (Ns n b (some g)) w A xs:=O.mono fun i _ M=>by
 rcases M with M | M
 ·exact .inl M
 ·rcases ZG M with h | h
  ·exact .inl (by omega)
  ·exact .inr h
theorem JD (l:List UInt8) (h:16<=l.length):(midL l).length=l.length - 16:=by
 rw[midL,Ib,List.length_drop,List.length_take];omega
theorem TM {ks:Nat->UInt8} {u:Nat} {l:List UInt8} (h:isL ks u l=true):16<=l.length/\l.length<=800/\n8 l<=1099511627776/\tagL ks u (Ib l)=n8 (Hu l):=by
 simp only[isL,Bool.and_eq_true,decide_eq_true_eq] at h;exact⟨h.1.1.1,h.1.1.2,h.1.2,h.2⟩
end SeL
namespace Kd
open Af Se
open Nm (krb L)
open Rg (It CV Gc Ci numO)
open Ms (Pr Tk Pt An Rp As Tg Re Ap Fa Mg ptB anB asB tgB tmB ptE anE mgE mgO mgD ptD anD ptO anO pr0 tk0 re0 pt0 an0 as0 tg0 ap0 fa0 key0)
open SeL (Cw BK)
open Rt (Tp)
def kr (R x:L):Pr:=(R,krb++x)
def keyO (l:List It):Option Nat->Nat->UInt8
 |none=>fun _=>0
 |some i=>((l[i]?).map (·.k)).getD fun _=>0
end Kd
namespace Se
open Go.RowKit Af SeL
theorem TO (b u:Nat) (ks:Nat->UInt8) (A:Option Addr) (n c:Nat) (l:List UInt8) (w:World) (M:n=l.length) (Z:n<=c) (O:Rd w w.heap.size A (bvs l)) (hx:l.length<16\/800<l.length\/1099511627776<n8 l) :
  Calls Tryz.prog 181 #[.pointer (some ⟨b,0,none⟩),.int .i64 (u:Int),.slice A n c] w fun e w'=>e=.returned (.bool false)/\w'=w:=by
 by_cases h1:n<16
 ·have t1:decide ((n:Int)<16)=true:=by simp;omega
  clear hx O M Z h1;go_enter Tryz.func181,Tryz.ntmps181
  go_wp2
  go_ret;exact⟨rfl,rfl⟩
 ·have t1:decide ((n:Int)<16)=false:=by simp;omega
  by_cases h2:800<n
  ·have t2:decide (800<(n:Int))=true:=by simp;omega
   clear hx O M Z h1 h2;go_enter Tryz.func181,Tryz.ntmps181
   go_wp2
   go_ret;exact⟨rfl,rfl⟩
  ·have t2:decide (800<(n:Int))=false:=by simp;omega
   have h3:1099511627776<n8 l:=by omega
   have cw:=DF w.heap.size A n c l w M (by omega) Z O;have f2:=MD (n8 l) false (by simp;omega);obtain⟨N,eN⟩:=Ak (n8 l);rw[<-eN] at cw f2;clear hx O M Z h1 h2 h3 eN;go_enter Tryz.func181,Tryz.ntmps181
   go_wp2_with (first
    |(go_at_call 183;refine Aj cw ?_;rintro wq hw;have hw:=hw.symm;subst hw;clear cw)
    |(go_at_call 224;refine Aj (f2 _) ?_;rintro wq hw;have hw:=hw.symm;subst hw;clear f2))
   go_ret;exact⟨rfl,rfl⟩
theorem Ws (b:Nat) (ks:Nat->UInt8) (h:Option Nat) (a o r u:Nat) (A:Option Addr) (n c:Nat) (l:List UInt8) (w:World) (hu:u<=255) (hn:n=l.length) (hc:n<=c) (hr:RdA (Ow b h) w A (bvs l)) (hK:Box w b ks h a o r) (h1:16<=l.length) (h2:l.length<=800) (h3:n8 l<=1099511627776) :
  Calls Tryz.prog 181 #[.pointer (some ⟨b,0,none⟩),.int .i64 (u:Int),.slice A n c] w fun e w'=>e=.returned (.bool (decide (tagL ks u (Ib l)=n8 (Hu l))))/\∃g,Box w' b ks (some g) a o r/\Step w w' b h g:=by
 have cw:=DF w.heap.size A n c l w hn (by omega) hc hr.rd;have f2:=MD (n8 l) true (by simp;omega);obtain⟨b2,O,rfl⟩:∃b2 O,A=some ⟨b2,O,none⟩:=by
  rcases hr with hx | ⟨b2,O,h4,_⟩
  ·exact MF hn (by omega) hx
  ·exact⟨b2,O,h4⟩
 obtain⟨k,hk⟩:∃k,n=k+8:=⟨n - 8,by omega⟩;have Z:n - 8=k:=by omega
 have aw:Ib l=l.take k:=by unfold Ib;rw[<-hn,Z]
 have bb:Hu l=l.drop k:=by unfold Hu;rw[<-hn,Z]
 have ct:=fun(q:Nat)=>ZF b ks h a o r u (some ⟨b2,O,none⟩) k c (Ib l) (w.drewN q) hu (by rw[aw,List.length_take];omega) (by omega) ((aw▸hr.take k).keep (FD (fun _=>False) w q) (fun _ _ x=>x.elim) (fun _ _ x=>x)) (hK.chg (FD (fun _=>False) w q) (fun _ _ x=>x))
 have cl:=fun(w2:World) (hw:RdA (Aw b h w.heap.size) w2 (some ⟨b2,O+k,none⟩) (bvs (Hu l))) (c2:Nat) (ca:8<=c2)=>DF w2.heap.size (some ⟨b2,O+k,none⟩) 8 c2 (Hu l) w2 (by rw[bb,List.length_drop];omega) Ag ca hw.rd
 have bx:RdA (Aw b h w.heap.size) w (some ⟨b2,O+k,none⟩) (bvs (Hu l)):=bb▸(hr.drop k).aw Ag;obtain⟨N,eN⟩:=Ak (n8 l);obtain⟨M,eM⟩:=Ak (n8 (Hu l));obtain⟨T,eT⟩:=Ak (tagL ks u (Ib l));rw[<-eN] at cw f2;rw[<-eM] at cl⊢;rw[<-eT] at ct⊢;have cc:=I bx;clear bx;have t1:decide ((n:Int)<16)=false:=by simp;omega
 have t2:decide (800<(n:Int))=false:=by simp;omega
 have s1:(k:Int)<=792:=by omega
 have s2:(0:Int)<=(k:Int):=by omega
 have s3:(k:Int)<=(c:Int):=by omega
 have s4:(k:Int)<=(n:Int):=by omega
 have s5:(n:Int)<=(c:Int):=by omega
 have s6:(n:Int) - 8=(k:Int):=by omega
 have s7:IntKind.i64.wrap (k:Int)=(k:Int):=by rw[IntKind.wrap_i64];omega
 have s9:n - k=8:=by omega
 have cd:k<=c:=by omega
 have cf:k<=n:=by omega
 have cb:=I hk;clear hk;have HC:=I hc;clear hc;have CL:=I cl;clear cl;clear hK hr hn h1 h2 h3 eN eM eT aw bb hu Z;go_enter Tryz.func181,Tryz.ntmps181
 go_wp2_with (first
  |(go_at_call 183;refine Aj cw ?_;rintro wq hw;have hw:=hw.symm;subst hw;clear cw)
  |(go_at_call 224;refine Aj (f2 _) ?_;rintro wq hw;have hw:=hw.symm;subst hw;clear f2))
 go_quiet (fail)
 have bz:=ct nq;clear ct
 go_wp2_with (first
  |(go_at_call 225;refine Calls.mono bz ?_;rintro e w3 ⟨g,rfl,bn,av⟩;clear bz;have bq:=cc.o.go ((FD (Aw b h w.heap.size) w nq).then av.aw);have bB:=CL.o w3 bq (c - k) (by have:=cb.o;have:=HC.o;omega);have B3:=I bn;have S3:=I av;clear bn av bq CL)
  |(go_at_call 183;refine Aj bB ?_;rintro wq hw;have hw:=hw.symm;subst hw;clear bB))
 go_ret;refine⟨?_,g,B3.o,⟨⟨S3.o.1.os,S3.o.1.tape,S3.o.1.output,S3.o.1.size,S3.o.1.block⟩,S3.o.2⟩⟩;show Ending.returned (.bool (decide ((T:Int)=(M:Int))))=_
 congr 3
 exact propext ⟨by omega,by omega⟩
theorem TP (b:Nat) (ks:Nat->UInt8) (h:Option Nat) (a o r u:Nat) (A:Option Addr) (n c:Nat) (l:List UInt8) (w:World) (hu:u<=255) (M:n=l.length) (hc:n<=c) (Z:RdA (Ow b h) w A (bvs l)) (O:Box w b ks h a o r) :
  Calls Tryz.prog 181 #[.pointer (some ⟨b,0,none⟩),.int .i64 (u:Int),.slice A n c] w fun e w'=>e=.returned (.bool (isL ks u l))/\∃h',Box w' b ks h' a o r/\Dm w w' b h h':=by
 by_cases hx:l.length<16\/800<l.length\/1099511627776<n8 l
 ·refine(TO b u ks A n c l w M hc Z.rd hx).mono ?_
  rintro e w' ⟨rfl,hw⟩;subst hw;exact⟨by rw[TC hx],h,O,Dm.refl _ _ _⟩
 ·refine(Ws b ks h a o r u A n c l w hu M hc Z O (by omega) (by omega) (by omega)).mono ?_
  rintro e w' ⟨rfl,g,h1,h2⟩;exact⟨by rw[Wp (by omega) (by omega) (by omega)],some g,h1,h2.o⟩
theorem TQ (b:Nat) (ks:Nat->UInt8) (h:Option Nat) (a o r u:Nat) (A:Option Addr) (n c:Nat) (l:List UInt8) (w:World) (av:r<1000000) (hu:u<=255) (hn:n=l.length) (hc:n<=c) (hr:RdA (Ow b h) w A (bvs l)) (hK:Box w b ks h a o r) (hx:isL ks u l=false) :
  Calls Tryz.prog 138 #[.pointer (some ⟨b,0,none⟩),.int .i64 (u:Int),.slice A n c] w fun e w'=>e=.returned (.tuple #[.slice none 0 0,.int .i64 3])/\∃h',Box w' b ks h' a o (r+1)/\Dm w w' b h h':=by
 have f1:=Jz (u:Int) true (by simp;omega);have ci:=TP b ks h a o r u A n c l w hu hn hc hr hK;rw[hx] at ci;have bq:=I av;clear av;clear hu hn hc hr hK hx;go_enter Tryz.func138,Tryz.ntmps138
 go_wp2_with (first
  |(go_at_call 180;refine Aj (f1 _) ?_;rintro wq hw;have hw:=hw.symm;subst hw;clear f1)
  |(go_at_call 181;refine Aj ci ?_;rintro w2 ⟨h2,M,bn⟩;clear ci;have Z:w2.cell? ⟨b,54,none⟩=some (.int .i64 (r:Int))/\w2.frozen? ⟨b,54,none⟩=false:=by{cases h2 with | none=>exact⟨XB.cr M,XB.fz M 54⟩ | some g=>exact⟨M.1.cr,M.1.fz 54⟩};have O:=add_one ⟨b,54,none⟩ r w2 bq.o Z.1 Z.2;have B2:=I M;have S2:=I bn;clear M bn Z)
  |(go_at_call 43;refine Aj O ?_;rintro w7 aw;clear O;have bb:=I aw;clear aw))
 go_ret2
 refine⟨rfl,h2,by rw[bb.o];exact B2.o.refuses (r+1),?_⟩;rw[bb.o];refine⟨S2.o.1.trans ((Chg.refl (fun i=>i=b) w2).set (.inl rfl) _) (fun i _ hx=>.inl hx),S2.o.2⟩
theorem Wt (b:Nat) (ks:Nat->UInt8) (h:Option Nat) (a o r u:Nat) (A:Option Addr) (n c:Nat) (l:List UInt8) (w:World) (cn:o<1000000) (hu:u<=255) (hn:n=l.length) (hc:n<=c) (hr:RdA (Ow b h) w A (bvs l)) (hK:Box w b ks h a o r) (M:isL ks u l=true) :
  Calls Tryz.prog 138 #[.pointer (some ⟨b,0,none⟩),.int .i64 (u:Int),.slice A n c] w fun e w'=>∃g Aq cq,e=.returned (.tuple #[.slice Aq (n - 16) cq,.int .i64 0])/\n - 16<=cq/\cq<=1000/\RdA (Nw w.heap.size g) w' Aq (bvs (mixL ks u (n8 l) (midL l)))/\Box w' b ks (some g) a (o+1) r/\Step w w' b h g:=by
 have f1:=Jz (u:Int) true (by simp;omega);have ci:=TP b ks h a o r u A n c l w hu hn hc hr hK;rw[M] at ci;have hlen:16<=n/\n<=800/\n8 l<=1099511627776:=by
  have:=M;simp only[isL,Bool.and_eq_true,decide_eq_true_eq] at this;omega
 obtain⟨b2,o2,rfl⟩:∃b2 o2,A=some ⟨b2,o2,none⟩:=by
  rcases hr with M | ⟨b2,o2,h4,_⟩
  ·exact MF hn (by omega) M
  ·exact⟨b2,o2,h4⟩
 obtain⟨k,hk⟩:∃k,n=k+8:=⟨n - 8,by omega⟩;obtain⟨m,cr⟩:∃m,k=m+8:=⟨k - 8,by omega⟩;have O:midL l=(l.take k).drop 8:=by unfold midL Ib;rw[<-hn,show n - 8=k by omega]
 have cw:=fun w2 (Z:RdA (Aw b h w.heap.size) w2 (some ⟨b2,o2,none⟩) (bvs l))=>DF w2.heap.size (some ⟨b2,o2,none⟩) n c l w2 hn (by omega) hc Z.rd
 have ct:=fun(w2:World) (Z:Option Nat) (bb:RdA (Ow b Z) w2 (some ⟨b2,o2,none⟩) (bvs l)) (av:Box w2 b ks Z a o r)=>Le b ks Z a o r u (n8 l) (some ⟨b2,o2+8,none⟩) m (c - 8) (midL l) w2 hu (by omega) (by rw[O,List.length_drop,List.length_take];omega) (by omega) (O▸(bb.take k).drop 8) av
 obtain⟨N,eN⟩:=Ak (n8 l);rw[<-eN] at cw ct⊢;obtain⟨Q,eQ⟩:=Ak (mixL ks u N (midL l));rw[<-eQ] at ct⊢;have bq:n - 16=m:=by omega
 rw[bq];have HR:=I hr;clear hr;have CW:=I cw;clear cw;have CT:=I ct;clear ct;have cp:=I cn;clear cn;have s1:(n:Int) - 8=(k:Int):=by omega
 have s2:IntKind.i64.wrap (k:Int)=(k:Int):=by rw[IntKind.wrap_i64];omega
 have s3:(8:Int)<=(k:Int):=by omega
 have s4:(k:Int)<=(c:Int):=by omega
 have s5:k - 8=m:=by omega
 have s6:8<=k:=by omega
 have s8:¬c=8:=by omega
 have s7:k<=c:=by omega
 have cy:=I hk;clear hk;clear hu hn hc hK M hlen eN cr O eQ bq;go_enter Tryz.func138,Tryz.ntmps138
 go_wp2_with (first
  |(go_at_call 180;refine Aj (f1 _) ?_;rintro wq hw;have hw:=hw.symm;subst hw;clear f1)
  |(go_at_call 181;refine Aj ci ?_;rintro w2 ⟨Z,av,bz⟩;clear ci;have bb:=bz.rda HR.o;have B2:=I av;have S2:=I bz;have R2:=I bb;clear av bz bb))
 have B3:Hid (Box w2.drew b ks Z a o r):=B2.o.chg (FD (fun _=>False) w2 1) (fun _ _ x=>x);have S3:Hid (Dm w w2.drew b h Z):=S2.o.drewN 1;have R3:Hid (RdA (Ow b Z) w2.drew (some ⟨b2,o2,none⟩) (bvs l)):=R2.o.keep (FD (fun _=>False) w2 1) (fun _ _ x=>x.elim) (fun _ _ x=>x);have ck:=CW.o w2.drew ((HR.o.aw Ag).go S3.o.aw);have bx:=CT.o w2.drew Z R3.o B3.o;refine wp_region_still_tail 9 (by kernel_rfl) (by kernel_rfl) ?_;simp only[List.take_succ_cons,List.take_zero,List.drop_succ_cons,List.drop_zero];change wpStill _ _ w2.drew _ _ _
 repeat still_step
 still_call ck
 repeat still_step
 refine wpStill_nil ?_;change wpList _ _ _ _ _ w2.drew;clear ck B2 S2 R2;generalize w2.drew=w3 at B3 S3 R3 bx⊢
 go_wp2_with (first
  |(go_at_call 182;refine Calls.mono bx ?_;rintro e w4 ⟨g,Aq,cq,rfl,bB,cc,cb,aw,cd⟩;clear bx;have bn:=add_one ⟨b,53,none⟩ o w4 cp.o aw.1.co (aw.1.fz 53);have B4:=I aw;have S4:=I cd;have Q4:=I cb;have C1:=I bB;have C2:=I cc;clear aw cd cb bB cc)
  |(go_at_call 43;refine Aj bn ?_;rintro w7 ca;clear bn;have cm:=I ca;clear ca))
 go_ret2
 have cx:=B4.o.lt;have cg:Chg (fun i=>i=b) w4 w7:=by rw[cm.o];exact(Chg.refl (fun i=>i=b) w4).set (.inl rfl) _
 have cj:Dm w w4 b h (some g):=S3.o.trans S4.o.o;refine⟨g,Aq,cq,rfl,C1.o,C2.o,?_,by rw[cm.o];exact B4.o.opens (o+1),cj.1.trans cg (fun i _ M=>.inl M),cj.2.imp (fun e=>e.symm) (fun e=>⟨e.1,by obtain⟨_,g2,cf,cA⟩:=e;injection cf with cf;omega⟩)⟩;have cu:=B3.o.lt;refine Q4.o.keep (cg.mono (T:=Nw w3.heap.size g) fun i _ M=>.inl (by omega)) (fun _ _ x=>x) (fun i _ M=>?_);rcases M with M | M
 ·exact .inl (by have:=S3.o.1.size;omega)
 ·exact .inr M
theorem MH (b:Nat) (ks:Nat->UInt8) (h:Option Nat) (a o r:Nat) (u:Int) (A:Option Addr) (n c:Nat) (l:List UInt8) (w:World) (ho:o<1000000) (Z:r<1000000) (hn:n=l.length) (hc:n<=c) (hr:RdA (Ow b h) w A (bvs l)) (O:Box w b ks h a o r) :
  Calls Tryz.prog 138 #[.pointer (some ⟨b,0,none⟩),.int .i64 u,.slice A n c] w fun e w'=>∃A2 c2 M o' r',e=.returned (.tuple #[.slice A2 (BK ks u l).1.length c2,.int .i64 (BK ks u l).2])/\(BK ks u l).1.length<=c2/\c2<=maxLen/\RdA (Ns w.heap.size b M) w' A2 (bvs (BK ks u l).1)/\Box w' b ks M a o' r'/\Dm w w' b h M/\o'<=o+1/\r'<=r+1:=by
 by_cases hx:0<=u/\u<=255
 ·obtain⟨u',rfl⟩:∃k:Nat,u=(k:Int):=⟨u.toNat,by omega⟩
  cases hi:isL ks u' l with
  |true=>
   have e:BK ks (u':Int) l=(mixL ks u' (n8 l) (midL l),0):=by rw[BK,if_pos hx];show(if isL ks u' l=true then _ else _)=_;rw[if_pos hi];rfl
   have hl:=TM hi;have e2:(mixL ks u' (n8 l) (midL l)).length=n - 16:=by rw[By,JD l hl.1,hn]
   rw[e];refine(Wt b ks h a o r u' A n c l w ho (by omega) hn hc hr O hi).mono ?_;rintro e w' ⟨g,A2,c2,rfl,h1,h2,h3,h4,h5⟩;exact⟨A2,c2,some g,o+1,r,by rw[e2],by rw[e2];exact h1,by unfold maxLen;omega,nw_ns h3 O.lt,h4,h5.o,Nat.le_refl _,by omega⟩
  |false=>
   have e:BK ks (u':Int) l=([],3):=by rw[BK,if_pos hx];show(if isL ks u' l=true then _ else _)=_;rw[hi];rfl
   rw[e];refine(TQ b ks h a o r u' A n c l w Z (by omega) hn hc hr O hi).mono ?_;rintro e w' ⟨rfl,M,h1,h2⟩;exact⟨none,0,M,o,r+1,rfl,Nat.le_refl _,Nat.zero_le _,.inl rfl,h1,h2,by omega,Nat.le_refl _⟩
 ·have e:BK ks u l=([],1):=by rw[BK,if_neg hx]
  rw[e];refine(Wo b u _ w hx).mono ?_;rintro e w' ⟨rfl,hw⟩;subst hw;exact⟨none,0,h,o,r,rfl,Nat.le_refl _,Nat.zero_le _,.inl rfl,O,Dm.refl _ _ _,by omega,by omega⟩
end Se
namespace Kd
open Go.RowKit Af Nm Rt
theorem QL (V:List L) (A5:Option Addr) (c5:Nat) (w:World) (h1:V.length<=3000) (h2:∀x∈V,x.length<=3000) (hr:Rd w w.heap.size A5 (strs V)) :
  Calls Tryz.prog 119 #[.slice A5 V.length c5] w fun e w'=>∃u,e=.returned u/\Own w' w.heap.size u V/\Below w.heap.size w w':=by
 have CL:=I (fun(i:Nat) (h:i<V.length) w1=>BZ (pl V i) w1 (by have:=h2 _ (DL h);omega));obtain⟨n,en⟩:=Ak (V.length);rw[<-en] at h1;have EN:=I en;obtain⟨N,eN⟩:=Ak (w.heap.size);rw[<-eN] at hr⊢;have M:=I (show ∀w1:World,Below N w w1->N<=w1.heap.size from fun w1 h=>by have:=h.size;omega);have HB:=I (Below.refl N w);have MK:=I (fun w1=>GY n (by omega) w1);obtain⟨cs,cd,cg⟩:=MK.o w;have HO:=I (eN▸Pq w cs n cd (by omega):Own (w.alloc (.cells cs 9)) N (.slice (some ⟨w.heap.size,0,none⟩) 0 n) []);have HR:=I (hr.alloc (M.o _ HB.o) (.cells cs 9));replace HB:=I (HB.o.alloc (M.o _ HB.o) (.cells cs 9));rw[<-en];clear h2 hr eN MK en;go_enter Tryz.func119,Tryz.ntmps119
 go_wp2
 go_loopw [3,11] (fun ev iv wr=>∃i:Nat,i<=n/\iv=.int .i64 (i:Int)/\Own wr N ev (V.take i)/\Rd wr N A5 (strs V)/\Below N w wr) (fun _ iv _=>n - (intOf iv).toNat)
 case atStart=>exact⟨0,Nat.zero_le _,rfl,HO.o,HR.o,HB.o⟩
 case round=>
  obtain⟨i,hi,rfl,ho,hr,bb⟩:=hrel;have HO:=I ho;clear ho;have bq:=I hr;clear hr;have O:=I bb;clear bb
  by_cases hlt:i<n
  ·have e1:(i:Int)<(n:Int):=by omega
   have e2:(0:Int)<=(i:Int):=by omega
   have Z:i<V.length:=by rw[<-EN.o];exact hlt
   have c2:=CL.o i Z;have bn:=BM Z;have HL:=I (show(V.take i).length=i by simp;omega);have cb:=I bn;clear bn Z;obtain⟨bx,o,rfl,_,h1⟩:=DE bq.o (i:=i) (by rw[<-EN.o];exact hlt)
   go_wp2_with (first
    |(go_at_call 114;refine Aj (c2 _) ?_;rintro w3 hb;clear c2;have H3:=I (O.o.trans (hb.mono (M.o _ O.o)));have bz:=I (HO.o.below hb);have ca:=I (bq.o.below (hb.mono (M.o _ O.o)));clear hb)
    |(at_builtin;refine Hq rfl (.tmp 15) (.tmp 18) rfl N _ (V.take i) rfl bz.o (pl V i) rfl (by have:=HL.o;omega) (M.o _ H3.o) ?_;intro v4 w4 av aw;rw[<-cb.o] at av;have cc:=I av;have H4:=I (H3.o.trans aw);have bB:=I (ca.o.below aw);clear av aw))
   go_roundw
   case rel=>exact⟨i+1,by omega,by go_num,cc.o,bB.o,H4.o⟩
   case measure=>simp [intOf];omega
  ·have e1:¬(i:Int)<(n:Int):=by omega
   have cf:V.length<=i:=by have:=EN.o;omega
   rw[List.take_of_length_le cf] at HO
   go_wp2
   go_ret;exact⟨_,rfl,HO.o,O.o⟩
end Kd
end Go.Proofs.YtfbnjcdhipplpaaGreat
