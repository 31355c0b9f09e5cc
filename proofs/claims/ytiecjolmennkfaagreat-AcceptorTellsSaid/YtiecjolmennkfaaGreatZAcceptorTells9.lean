import Derived.Test.YtiecjolmennkfaaGreatZAcceptorTells4
import Derived.Test.YtiecjolmennkfaaGreatZAcceptorTells8
set_option maxHeartbeats 25600000
set_option maxRecDepth 100000
set_option linter.unusedVariables false
set_option linter.unusedSimpArgs false
namespace Go.Proofs.YtiecjolmennkfaaGreat
namespace Reg
open Go.RowKit Af
section
variable {P:Program} {ops:Array Oper} {Q:Exit->Act->World->Prop} {md:Region.Mode}
theorem MO {Z O:World->Prop} (hS:∀w,O w->Z w):∀(f:Nat) (l:Array Bool) (a:Act) (w:World),wpAnyH P md ops Q O f l a w->wpAnyH P md ops Q Z f l a w
 |0,_,_,_,h=>h
 |f+1,_,_,_,h=>⟨h.1,fun i hi=>wpOp_mono (fun a' w' M=>⟨hS w' M.1,MO hS f _ a' w' M.2⟩) (h.2 i hi)⟩
def Fh (W w:World):Prop:=Below W.heap.size W w
theorem af {W w:World} {f:Nat} {l:Array Bool} {a:Act} (O:Below W.heap.size W w) (h:wpAnyH P md ops Q (Fh w) f l a w):wpAnyH P md ops Q (Fh W) f l a w:=
 MO (fun _ M=>bt O M) f l a w h
theorem Cd (n:Nat) {id:Nat} {a:Act} {w:World} (M:ops.size=n) (hm:P.follows .mixedOrders=true) (h:wpAnyH P .any ops Q (Fh w.drew) n (Array.replicate n false) a w.drew):(Code.region id ops true).wp P Q a w:=by
 subst M;exact wp_region_held_drew hm Ah (fun _=>h)
theorem Ud (i:Nat) {dst:Option Tmp} {op:Op} {ty:TypeId} {pos:String} {after:Array _} {guard:Option (Nat×Bool)} {v:Value} {fuel:Nat} {M:Array Bool} {a:Act} {w:World} (hi:ops[i]? = some ⟨dst,op,ty,pos,after,guard⟩)
  (hs:Region.noSelect ops=true) (hf:Region.free md ops M i=true) (hr:(Region.ready md ops M).contains i=true)
  (O:∀c a w,Q (.panic c) (a.put dst v) w->Q (.panic c) a w)
  (hw:Region.wanted ⟨dst,op,ty,pos,after,guard⟩ (yielded ops a.tmps)=true) (Z:∀w',Fh w w'->(execOp a.eval ⟨dst,op,ty,pos,after,guard⟩).run P w'=.ok (.value v) w')
  (h:wpAnyH P md ops Q (Fh w) fuel (M.setIfInBounds i true) (a.put dst v) w):wpAnyH P md ops Q (Fh w) (fuel+1) M a w:=
 wpAnyH_take hi hs hf hr O (.inl ⟨hw,Z⟩) Ah h
theorem tz (i:Nat) {dst:Option Tmp} {op:Op} {ty:TypeId} {pos:String} {after:Array _} {guard:Option (Nat×Bool)} {v:Value} {fuel:Nat} {M l2:Array Bool} {a b:Act} {w:World} (hi:ops[i]? = some ⟨dst,op,ty,pos,after,guard⟩) (h:wpAnyH P md ops Q (Fh w) fuel l2 b w) (O:∀w',Fh w w'->(execOp a.eval ⟨dst,op,ty,pos,after,guard⟩).run P w'=.ok (.value v) w':=by intro w' hS;go_simp;rfl) (e1:M.setIfInBounds i true=l2:=by(conv=>lhs;simp only[U,Aa,Ab])) (e2:a.put dst v=b:=by(conv=>lhs;simp only[Act.put,U,Aa,Ab])) (hs:Region.noSelect ops=true:=by kernel_rfl) (hf:Region.free md ops M i=true:=by kernel_rfl) (hr:(Region.ready md ops M).contains i=true:=by kernel_rfl) (hQ:∀c a w,Q (.panic c) (a.put dst v) w->Q (.panic c) a w:=by exact fun _ _ _ h=>h) (hw:Region.wanted ⟨dst,op,ty,pos,after,guard⟩ (yielded ops a.tmps)=true:=by rfl):wpAnyH P md ops Q (Fh w) (fuel+1) M a w:=by
 subst e1 e2;exact Ud i hi hs hf hr hQ hw O h
theorem tx (i:Nat) {dst:Option Tmp} {op:Op} {ty:TypeId} {pos:String} {after:Array _} {guard:Option (Nat×Bool)} {v:Value} {fuel:Nat} {M l2:Array Bool} {a b:Act} {w:World} (hi:ops[i]? = some ⟨dst,op,ty,pos,after,guard⟩) (Z:∀w',Fh w w'->(execOp a.eval ⟨dst,op,ty,pos,after,guard⟩).run P w'=.ok (.value v) w') (h:wpAnyH P md ops Q (Fh w) fuel l2 b w) (O:M.setIfInBounds i true=l2:=by(conv=>lhs;simp only[U,Aa,Ab])) (e2:a.put dst v=b:=by(conv=>lhs;simp only[Act.put,U,Aa,Ab])) (hs:Region.noSelect ops=true:=by kernel_rfl) (hf:Region.free md ops M i=true:=by kernel_rfl) (hr:(Region.ready md ops M).contains i=true:=by kernel_rfl) (hQ:∀c a w,Q (.panic c) (a.put dst v) w->Q (.panic c) a w:=by exact fun _ _ _ h=>h) (hw:Region.wanted ⟨dst,op,ty,pos,after,guard⟩ (yielded ops a.tmps)=true:=by rfl):wpAnyH P md ops Q (Fh w) (fuel+1) M a w:=by
 subst O e2;exact Ud i hi hs hf hr hQ hw Z h
theorem ag (i:Nat) {dst:Option Tmp} {op:Op} {ty:TypeId} {pos:String} {after:Array _} {guard:Option (Nat×Bool)} {fuel:Nat} {M:Array Bool} {a:Act} {w:World} (hi:ops[i]? = some ⟨dst,op,ty,pos,after,guard⟩)
  (hs:Region.noSelect ops=true) (Z:Region.free md ops M i=true) (hr:(Region.ready md ops M).contains i=true)
  (O:∀c a w,Q (.panic c) (a.put dst undef) w->Q (.panic c) a w)
  (hw:Region.wanted ⟨dst,op,ty,pos,after,guard⟩ (yielded ops a.tmps)=false)
  (h:wpAnyH P md ops Q (Fh w) fuel (M.setIfInBounds i true) (a.put dst undef) w):wpAnyH P md ops Q (Fh w) (fuel+1) M a w:=
 wpAnyH_take hi hs Z hr O (.inr ⟨hw,rfl⟩) Ah h
theorem sk (i:Nat) {dst:Option Tmp} {op:Op} {ty:TypeId} {pos:String} {after:Array _} {guard:Option (Nat×Bool)} {fuel:Nat} {M l2:Array Bool} {a b:Act} {w:World} (hi:ops[i]? = some ⟨dst,op,ty,pos,after,guard⟩) (h:wpAnyH P md ops Q (Fh w) fuel l2 b w) (O:M.setIfInBounds i true=l2:=by(conv=>lhs;simp only[U,Aa,Ab])) (e2:a.put dst undef=b:=by(conv=>lhs;simp only[Act.put,U,Aa,Ab])) (hs:Region.noSelect ops=true:=by kernel_rfl) (hf:Region.free md ops M i=true:=by kernel_rfl) (hr:(Region.ready md ops M).contains i=true:=by kernel_rfl) (hQ:∀c a w,Q (.panic c) (a.put dst undef) w->Q (.panic c) a w:=by exact fun _ _ _ h=>h) (hw:Region.wanted ⟨dst,op,ty,pos,after,guard⟩ (yielded ops a.tmps)=false:=by rfl):wpAnyH P md ops Q (Fh w) (fuel+1) M a w:=by
 subst O e2;exact ag i hi hs hf hr hQ hw h
theorem Fi (i:Nat) {dst:Option Tmp} {op:Op} {ty:TypeId} {pos:String} {after:Array _} {guard:Option (Nat×Bool)} {fuel:Nat} {M:Array Bool} {a:Act} {w:World} (hi:ops[i]? = some ⟨dst,op,ty,pos,after,guard⟩)
  (hr:Region.ready md ops M = [i]) (hw:Region.wanted ⟨dst,op,ty,pos,after,guard⟩ (yielded ops a.tmps)=true) (f:FuncId) (args:Array Value)
  (hx:(execOp a.eval ⟨dst,op,ty,pos,after,guard⟩).run P w=.ok (.enter f args) w)
  (h:Calls P f args w fun e w'=>∃v,e=.returned v/\Below w.heap.size w w'/\wpAnyH P md ops Q (Fh w') fuel (M.setIfInBounds i true) (a.put dst v) w'):wpAnyH P md ops Q (Fh w) (fuel+1) M a w:=by
 refine wpAnyH_all hr (by simp) fun j hj=>?_
 obtain rfl:j=i:=by simpa using hj
 unfold wpOp;simp only[hi];rw[if_pos hw]
 left
 unfold Oper.wp;rw[hx];exact h.mono fun e w' O=>by
  obtain⟨v,rfl,Z,O⟩:=O;exact⟨Z,af Z O⟩
end
section
variable {P:Program} {ops:Array Oper} {Q:Exit->Act->World->Prop} {md:Region.Mode}
def Eff (P:Program) (md:Region.Mode) (ops:Array Oper) (Q:Exit->Act->World->Prop) (S:World->Prop) (fuel:Nat) (listed:Array Bool) (a:Act) (w:World) (i:Nat):Prop:=
 ∃(dst:Option Tmp) (op:Op) (ty:TypeId) (pos:String) (after:Array _) (guard:Option (Nat×Bool)) (v:Value) (w':World),ops[i]? = some ⟨dst,op,ty,pos,after,guard⟩/\Region.wanted ⟨dst,op,ty,pos,after,guard⟩ (yielded ops a.tmps)=true/\(execOp a.eval ⟨dst,op,ty,pos,after,guard⟩).run P w=.ok (.value v) w'/\S w'/\wpAnyH P md ops Q S fuel (listed.setIfInBounds i true) (a.put dst v) w'
theorem JE (is:List Nat) {S:World->Prop} {fuel:Nat} {M:Array Bool} {a:Act} {w:World} (hr:Region.ready md ops M=is) (O:is≠[]) (h:∀j∈is,Eff P md ops Q S fuel M a w j):wpAnyH P md ops Q S (fuel+1) M a w:=by
 refine wpAnyH_all hr O fun j Z=>?_
 obtain⟨dst,op,ty,pos,after,guard,v,w',hi,hw,hx,hs,hh⟩:=h j Z;unfold wpOp;simp only[hi];rw[if_pos hw]
 left
 unfold Oper.wp;rw[hx];exact⟨hs,hh⟩
end
section
variable {P:Program} {ops:Array Oper} {Q:Exit->Act->World->Prop} {md:Region.Mode} {S:World->Prop}
theorem Bo (S:World->Prop) (n:Nat) {id:Nat} {a:Act} {w:World} (M:ops.size=n) (hm:P.follows .mixedOrders=true) (hS:S w.drew) (h:wpAnyH P .any ops Q S n (Array.replicate n false) a w.drew):(Code.region id ops true).wp P Q a w:=by
 subst M;exact wp_region_held_drew hm hS (fun _=>h)
theorem IM (i:Nat) {dst:Option Tmp} {op:Op} {ty:TypeId} {pos:String} {after:Array _} {guard:Option (Nat×Bool)} {v:Value} {fuel:Nat} {M:Array Bool} {a:Act} {w:World} (hi:ops[i]? = some ⟨dst,op,ty,pos,after,guard⟩)
  (hs:Region.noSelect ops=true) (hf:Region.free md ops M i=true) (hr:(Region.ready md ops M).contains i=true)
  (O:∀c a w,Q (.panic c) (a.put dst v) w->Q (.panic c) a w) (hS:S w)
  (hw:Region.wanted ⟨dst,op,ty,pos,after,guard⟩ (yielded ops a.tmps)=true) (Z:∀w',S w'->(execOp a.eval ⟨dst,op,ty,pos,after,guard⟩).run P w'=.ok (.value v) w')
  (h:wpAnyH P md ops Q S fuel (M.setIfInBounds i true) (a.put dst v) w):wpAnyH P md ops Q S (fuel+1) M a w:=
 wpAnyH_take hi hs hf hr O (.inl ⟨hw,Z⟩) hS h
theorem ty (i:Nat) {dst:Option Tmp} {op:Op} {ty:TypeId} {pos:String} {after:Array _} {guard:Option (Nat×Bool)} {v:Value} {fuel:Nat} {M l2:Array Bool} {a b:Act} {w:World} (hi:ops[i]? = some ⟨dst,op,ty,pos,after,guard⟩) (hS:S w) (h:wpAnyH P md ops Q S fuel l2 b w) (O:∀w',S w'->(execOp a.eval ⟨dst,op,ty,pos,after,guard⟩).run P w'=.ok (.value v) w':=by intro w' hS;go_simp<;>rfl) (e1:M.setIfInBounds i true=l2:=by(conv=>lhs;simp only[U,Aa,Ab])) (e2:a.put dst v=b:=by(conv=>lhs;simp only[Act.put,U,Aa,Ab])) (hs:Region.noSelect ops=true:=by kernel_rfl) (hf:Region.free md ops M i=true:=by kernel_rfl) (hr:(Region.ready md ops M).contains i=true:=by kernel_rfl) (hQ:∀c a w,Q (.panic c) (a.put dst v) w->Q (.panic c) a w:=by exact fun _ _ _ h=>h) (hw:Region.wanted ⟨dst,op,ty,pos,after,guard⟩ (yielded ops a.tmps)=true:=by rfl):wpAnyH P md ops Q S (fuel+1) M a w:=by
 subst e1 e2;exact IM i hi hs hf hr hQ hS hw O h
theorem tw (i:Nat) {dst:Option Tmp} {op:Op} {ty:TypeId} {pos:String} {after:Array _} {guard:Option (Nat×Bool)} {v:Value} {fuel:Nat} {M l2:Array Bool} {a b:Act} {w:World} (hi:ops[i]? = some ⟨dst,op,ty,pos,after,guard⟩) (hS:S w) (Z:∀w',S w'->(execOp a.eval ⟨dst,op,ty,pos,after,guard⟩).run P w'=.ok (.value v) w') (h:wpAnyH P md ops Q S fuel l2 b w) (O:M.setIfInBounds i true=l2:=by(conv=>lhs;simp only[U,Aa,Ab])) (e2:a.put dst v=b:=by(conv=>lhs;simp only[Act.put,U,Aa,Ab])) (hs:Region.noSelect ops=true:=by kernel_rfl) (hf:Region.free md ops M i=true:=by kernel_rfl) (hr:(Region.ready md ops M).contains i=true:=by kernel_rfl) (hQ:∀c a w,Q (.panic c) (a.put dst v) w->Q (.panic c) a w:=by exact fun _ _ _ h=>h) (hw:Region.wanted ⟨dst,op,ty,pos,after,guard⟩ (yielded ops a.tmps)=true:=by rfl):wpAnyH P md ops Q S (fuel+1) M a w:=by
 subst O e2;exact IM i hi hs hf hr hQ hS hw Z h
theorem tq (i : Nat) {dst : Option Tmp} {op : Op} {ty : TypeId} {pos : String} {after : Array _} {guard : Option (Nat × Bool)} {v : Value} {fuel : Nat} {M : Array Bool} {a : Act} {w : World} (hi : ops[i]? = some ⟨dst, op, ty, pos, after, guard⟩) (hS : S w)
    (O : ∀ w', S w' -> (execOp a.eval ⟨dst, op, ty, pos, after, guard⟩).run P w'=.ok (.value v) w')
    (h : wpAnyH P md ops Q S fuel (M.setIfInBounds i true) (a.put dst v) w)
    (hs : Region.noSelect ops = true := by kernel_rfl) (hf : Region.free md ops M i = true := by kernel_rfl) (hr : (Region.ready md ops M).contains i = true := by kernel_rfl)
    (hQ : ∀ c a w, Q (.panic c) (a.put dst v) w -> Q (.panic c) a w := by exact fun _ _ _ h => h)
    (hw : Region.wanted ⟨dst, op, ty, pos, after, guard⟩ (yielded ops a.tmps) = true := by rfl) : wpAnyH P md ops Q S (fuel + 1) M a w :=
  IM i hi hs hf hr hQ hS hw O h
theorem BH (i:Nat) {dst:Option Tmp} {op:Op} {ty:TypeId} {pos:String} {after:Array _} {guard:Option (Nat×Bool)} {fuel:Nat} {M:Array Bool} {a:Act} {w:World} (w':World) (hi:ops[i]? = some ⟨dst,op,ty,pos,after,guard⟩)
  (hr:Region.ready md ops M = [i]) (hw:Region.wanted ⟨dst,op,ty,pos,after,guard⟩ (yielded ops a.tmps)=true) (Z:(execOp a.eval ⟨dst,op,ty,pos,after,guard⟩).run P w=.ok .skip w') (hS:S w')
  (h:wpAnyH P md ops Q S fuel (M.setIfInBounds i true) (a.put dst undef) w'):wpAnyH P md ops Q S (fuel+1) M a w:=by
 refine wpAnyH_all hr (by simp) fun j O=>?_
 obtain rfl:j=i:=by simpa using O
 unfold wpOp;simp only[hi];rw[if_pos hw]
 left
 unfold Oper.wp;rw[Z];exact⟨hS,h⟩
end
section
variable {P:Program} {ops:Array Oper} {Q:Exit->Act->World->Prop} {md:Region.Mode}
def Ent (P:Program) (md:Region.Mode) (ops:Array Oper) (Q:Exit->Act->World->Prop) (S:World->Prop) (fuel:Nat) (listed:Array Bool) (a:Act) (w:World) (i:Nat):Prop:=
 ∃(dst:Option Tmp) (op:Op) (ty:TypeId) (pos:String) (after:Array _) (guard:Option (Nat×Bool)) (f:FuncId) (args:Array Value),ops[i]? = some ⟨dst,op,ty,pos,after,guard⟩/\Region.wanted ⟨dst,op,ty,pos,after,guard⟩ (yielded ops a.tmps)=true/\(execOp a.eval ⟨dst,op,ty,pos,after,guard⟩).run P w=.ok (.enter f args) w/\
  Calls P f args w fun e w'=>∃v,e=.returned v/\S w'/\wpAnyH P md ops Q S fuel (listed.setIfInBounds i true) (a.put dst v) w'
theorem PO (is:List Nat) {S:World->Prop} {fuel:Nat} {M:Array Bool} {a:Act} {w:World} (hr:Region.ready md ops M=is) (av:is≠[]) (h:∀j∈is,Eff P md ops Q S fuel M a w j\/Ent P md ops Q S fuel M a w j):wpAnyH P md ops Q S (fuel+1) M a w:=by
 refine wpAnyH_all hr av fun j hj=>?_
 rcases h j hj with⟨dst,op,ty,pos,after,guard,v,w',hi,hw,Z,hs,O⟩ | ⟨dst,op,ty,pos,after,guard,f,args,hi,hw,Z,O⟩
 ·unfold wpOp
  simp only[hi];rw[if_pos hw]
  left
  unfold Oper.wp;rw[Z];exact⟨hs,O⟩
 ·unfold wpOp
  simp only[hi];rw[if_pos hw]
  left
  unfold Oper.wp;rw[Z];refine O.mono ?_;rintro e w' ⟨v,rfl,hs,O⟩;exact⟨hs,O⟩
theorem b1 (i:Nat) {S:World->Prop} {fuel:Nat} {M:Array Bool} {a:Act} {w:World} (h:Eff P md ops Q S fuel M a w i\/Ent P md ops Q S fuel M a w i) (O:Region.ready md ops M = [i]:=by kernel_rfl):wpAnyH P md ops Q S (fuel+1) M a w:=
 PO [i] O (by simp) fun j Z=>by
  obtain rfl:j=i:=by simpa using Z
  exact h
theorem b2 (i k:Nat) {S:World->Prop} {fuel:Nat} {M:Array Bool} {a:Act} {w:World} (h1:Eff P md ops Q S fuel M a w i\/Ent P md ops Q S fuel M a w i) (h2:Eff P md ops Q S fuel M a w k\/Ent P md ops Q S fuel M a w k) (Z:Region.ready md ops M = [i,k]:=by kernel_rfl):wpAnyH P md ops Q S (fuel+1) M a w:=
 PO [i,k] Z (by simp) fun j O=>by
  have O:j=i\/j=k:=by simpa using O
  rcases O with rfl | rfl
  ·exact h1
  ·exact h2
end
end Reg
namespace SeL
open Go.RowKit Af Se
def Cw (ks:Nat->UInt8) (u n:Int) (p:List UInt8):List UInt8×Int:=
 if 0<=u/\u<=255/\0<=n/\n<=1099511627776/\p.length<=784 then (Eo ks u.toNat n.toNat p,0) else ([],1)
def BM (ks:Nat->UInt8) (u:Int) (l:List UInt8):List UInt8×Int:=
 if 0<=u/\u<=255 then (if isL ks u.toNat l=true then (mixL ks u.toNat (n8 l) (midL l),0) else ([],3)) else ([],1)
def Ns (n b:Nat) (h:Option Nat) (i:Nat):Prop:=i<n\/Ow b h i
theorem nw_ns {n b g:Nat} {w:World} {A:Option Addr} {xs:List Value} (O:RdA (Nw n g) w A xs) (Z:b<n):RdA (Ns n b (some g)) w A xs:=O.mono fun i _ M=>by
 rcases M with M | M
 ·exact .inl M
 ·rcases ab M with h | h
  ·exact .inl (by omega)
  ·exact .inr h
theorem JF (l:List UInt8) (h:16<=l.length):(midL l).length=l.length - 16:=by
 rw[midL,Ic,List.length_drop,List.length_take];omega
theorem Ue {ks:Nat->UInt8} {u:Nat} {l:List UInt8} (h:isL ks u l=true):16<=l.length/\l.length<=800/\n8 l<=1099511627776/\tagL ks u (Ic l)=n8 (Hv l):=by
 simp only[isL,Bool.and_eq_true,decide_eq_true_eq] at h;exact⟨h.1.1.1,h.1.1.2,h.1.2,h.2⟩
end SeL
namespace Kd
open Af Se
open Nm (krb L)
open Rg (It CV Gd Ci numO)
open Ms (Pr Tk Pt An Rp As Tg Re Ap Fa Mg ptB anB asB tgB tmB ptE anE mgE mgO mgD ptD anD ptO anO pr0 tk0 re0 pt0 an0 as0 tg0 ap0 fa0 key0)
open SeL (Cw BM)
open Rt (Tp)
def kr (R x:L):Pr:=(R,krb++x)
def keyO (l:List It):Option Nat->Nat->UInt8
 |none=>fun _=>0
 |some i=>((l[i]?).map (·.k)).getD fun _=>0
end Kd
namespace Se
open Go.RowKit Af SeL
theorem Uf (b u:Nat) (ks:Nat->UInt8) (A:Option Addr) (n c:Nat) (l:List UInt8) (w:World) (Z:n=l.length) (O:n<=c) (M:Rd w w.heap.size A (bvs l)) (hx:l.length<16\/800<l.length\/1099511627776<n8 l) :
  Calls Tryz.prog 124 #[.pointer (some ⟨b,0,none⟩),.int .i64 (u:Int),.slice A n c] w fun e w'=>e=.returned (.bool false)/\w'=w:=by
 by_cases h1:n<16
 ·have t1:decide ((n:Int)<16)=true:=by simp;omega
  clear hx M Z O h1;go_enter Tryz.func124,Tryz.ntmps124
  go_wp2
  go_ret;exact⟨rfl,rfl⟩
 ·have t1:decide ((n:Int)<16)=false:=by simp;omega
  by_cases h2:800<n
  ·have t2:decide (800<(n:Int))=true:=by simp;omega
   clear hx M Z O h1 h2;go_enter Tryz.func124,Tryz.ntmps124
   go_wp2
   go_ret;exact⟨rfl,rfl⟩
  ·have t2:decide (800<(n:Int))=false:=by simp;omega
   have h3:1099511627776<n8 l:=by omega
   have cw:=DG w.heap.size A n c l w Z (by omega) O M;have f2:=MM (n8 l) false (by simp;omega);obtain⟨N,eN⟩:=Ak (n8 l);rw[<-eN] at cw f2;clear hx M Z O h1 h2 h3 eN;go_enter Tryz.func124,Tryz.ntmps124
   go_wp2_with (first
    |(go_at_call 126;refine Aj cw ?_;rintro wq hw;have hw:=hw.symm;subst hw;clear cw)
    |(go_at_call 169;refine Aj (f2 _) ?_;rintro wq hw;have hw:=hw.symm;subst hw;clear f2))
   go_ret;exact⟨rfl,rfl⟩
theorem WR (b:Nat) (ks:Nat->UInt8) (h:Option Nat) (a o r u:Nat) (A:Option Addr) (n c:Nat) (l:List UInt8) (w:World) (hu:u<=255) (hn:n=l.length) (hc:n<=c) (hr:RdA (Ow b h) w A (bvs l)) (hK:Box w b ks h a o r) (h1:16<=l.length) (h2:l.length<=800) (h3:n8 l<=1099511627776) :
  Calls Tryz.prog 124 #[.pointer (some ⟨b,0,none⟩),.int .i64 (u:Int),.slice A n c] w fun e w'=>e=.returned (.bool (decide (tagL ks u (Ic l)=n8 (Hv l))))/\∃g,Box w' b ks (some g) a o r/\Step w w' b h g:=by
 have cw:=DG w.heap.size A n c l w hn (by omega) hc hr.rd;have f2:=MM (n8 l) true (by simp;omega);obtain⟨b2,O,rfl⟩:∃b2 O,A=some ⟨b2,O,none⟩:=by
  rcases hr with hx | ⟨b2,O,h4,_⟩
  ·exact MN hn (by omega) hx
  ·exact⟨b2,O,h4⟩
 obtain⟨k,hk⟩:∃k,n=k+8:=⟨n - 8,by omega⟩;have Z:n - 8=k:=by omega
 have aw:Ic l=l.take k:=by unfold Ic;rw[<-hn,Z]
 have av:Hv l=l.drop k:=by unfold Hv;rw[<-hn,Z]
 have ct:=fun(q:Nat)=>aa b ks h a o r u (some ⟨b2,O,none⟩) k c (Ic l) (w.drewN q) hu (by rw[aw,List.length_take];omega) (by omega) ((aw▸hr.take k).keep (FG (fun _=>False) w q) (fun _ _ x=>x.elim) (fun _ _ x=>x)) (hK.chg (FG (fun _=>False) w q) (fun _ _ x=>x))
 have cl:=fun(w2:World) (hw:RdA (Aw b h w.heap.size) w2 (some ⟨b2,O+k,none⟩) (bvs (Hv l))) (c2:Nat) (ca:8<=c2)=>DG w2.heap.size (some ⟨b2,O+k,none⟩) 8 c2 (Hv l) w2 (by rw[av,List.length_drop];omega) Ag ca hw.rd
 have bz:RdA (Aw b h w.heap.size) w (some ⟨b2,O+k,none⟩) (bvs (Hv l)):=av▸(hr.drop k).aw Ag;obtain⟨N,eN⟩:=Ak (n8 l);obtain⟨M,eM⟩:=Ak (n8 (Hv l));obtain⟨T,eT⟩:=Ak (tagL ks u (Ic l));rw[<-eN] at cw f2;rw[<-eM] at cl⊢;rw[<-eT] at ct⊢;have cb:=I bz;clear bz;have t1:decide ((n:Int)<16)=false:=by simp;omega
 have t2:decide (800<(n:Int))=false:=by simp;omega
 have s1:(k:Int)<=792:=by omega
 have s2:(0:Int)<=(k:Int):=by omega
 have s3:(k:Int)<=(c:Int):=by omega
 have s4:(k:Int)<=(n:Int):=by omega
 have s5:(n:Int)<=(c:Int):=by omega
 have s6:(n:Int) - 8=(k:Int):=by omega
 have s7:IntKind.i64.wrap (k:Int)=(k:Int):=by rw[IntKind.wrap_i64];omega
 have s9:n - k=8:=by omega
 have cc:k<=c:=by omega
 have cd:k<=n:=by omega
 have bB:=I hk;clear hk;have HC:=I hc;clear hc;have CL:=I cl;clear cl;clear hK hr hn h1 h2 h3 eN eM eT aw av hu Z;go_enter Tryz.func124,Tryz.ntmps124
 go_wp2_with (first
  |(go_at_call 126;refine Aj cw ?_;rintro wq hw;have hw:=hw.symm;subst hw;clear cw)
  |(go_at_call 169;refine Aj (f2 _) ?_;rintro wq hw;have hw:=hw.symm;subst hw;clear f2))
 go_quiet (fail)
 have bq:=ct nq;clear ct
 go_wp2_with (first
  |(go_at_call 170;refine Calls.mono bq ?_;rintro e w3 ⟨g,rfl,bx,bb⟩;clear bq;have bs:=cb.o.go ((FG (Aw b h w.heap.size) w nq).then bb.aw);have bn:=CL.o w3 bs (c - k) (by have:=bB.o;have:=HC.o;omega);have B3:=I bx;have S3:=I bb;clear bx bb bs CL)
  |(go_at_call 126;refine Aj bn ?_;rintro wq hw;have hw:=hw.symm;subst hw;clear bn))
 go_ret;refine⟨?_,g,B3.o,⟨⟨S3.o.1.os,S3.o.1.tape,S3.o.1.output,S3.o.1.size,S3.o.1.block⟩,S3.o.2⟩⟩;show Ending.returned (.bool (decide ((T:Int)=(M:Int))))=_
 congr 3
 exact propext ⟨by omega,by omega⟩
theorem Ug (b:Nat) (ks:Nat->UInt8) (h:Option Nat) (a o r u:Nat) (A:Option Addr) (n c:Nat) (l:List UInt8) (w:World) (hu:u<=255) (hn:n=l.length) (Z:n<=c) (O:RdA (Ow b h) w A (bvs l)) (M:Box w b ks h a o r) :
  Calls Tryz.prog 124 #[.pointer (some ⟨b,0,none⟩),.int .i64 (u:Int),.slice A n c] w fun e w'=>e=.returned (.bool (isL ks u l))/\∃h',Box w' b ks h' a o r/\Dp w w' b h h':=by
 by_cases hx:l.length<16\/800<l.length\/1099511627776<n8 l
 ·refine(Uf b u ks A n c l w hn Z O.rd hx).mono ?_
  rintro e w' ⟨rfl,hw⟩;subst hw;exact⟨by rw[TV hx],h,M,Dp.refl _ _ _⟩
 ·refine(WR b ks h a o r u A n c l w hu hn Z O M (by omega) (by omega) (by omega)).mono ?_
  rintro e w' ⟨rfl,g,h1,h2⟩;exact⟨by rw[WM (by omega) (by omega) (by omega)],some g,h1,h2.o⟩
theorem Uh (b:Nat) (ks:Nat->UInt8) (h:Option Nat) (a o r u:Nat) (A:Option Addr) (n c:Nat) (l:List UInt8) (w:World) (av:r<1000000) (hu:u<=255) (hn:n=l.length) (hc:n<=c) (hr:RdA (Ow b h) w A (bvs l)) (hK:Box w b ks h a o r) (hx:isL ks u l=false) :
  Calls Tryz.prog 88 #[.pointer (some ⟨b,0,none⟩),.int .i64 (u:Int),.slice A n c] w fun e w'=>e=.returned (.tuple #[.slice none 0 0,.int .i64 3])/\∃h',Box w' b ks h' a o (r+1)/\Dp w w' b h h':=by
 have f1:=JA (u:Int) true (by simp;omega);have ci:=Ug b ks h a o r u A n c l w hu hn hc hr hK;rw[hx] at ci;have bq:=I av;clear av;clear hu hn hc hr hK hx;go_enter Tryz.func88,Tryz.ntmps88
 go_wp2_with (first
  |(go_at_call 123;refine Aj (f1 _) ?_;rintro wq hw;have hw:=hw.symm;subst hw;clear f1)
  |(go_at_call 124;refine Aj ci ?_;rintro w2 ⟨h2,M,bn⟩;clear ci;have Z:w2.cell? ⟨b,54,none⟩=some (.int .i64 (r:Int))/\w2.frozen? ⟨b,54,none⟩=false:=by{cases h2 with | none=>exact⟨XB.cr M,XB.fz M 54⟩ | some g=>exact⟨M.1.cr,M.1.fz 54⟩};have O:=add_one ⟨b,54,none⟩ r w2 bq.o Z.1 Z.2;have B2:=I M;have S2:=I bn;clear M bn Z)
  |(go_at_call 22;refine Aj O ?_;rintro w7 aw;clear O;have bb:=I aw;clear aw))
 go_ret2
 refine⟨rfl,h2,by rw[bb.o];exact B2.o.refuses (r+1),?_⟩;rw[bb.o];refine⟨S2.o.1.trans ((Chg.refl (fun i=>i=b) w2).set (.inl rfl) _) (fun i _ hx=>.inl hx),S2.o.2⟩
theorem WS (b:Nat) (ks:Nat->UInt8) (h:Option Nat) (a o r u:Nat) (A:Option Addr) (n c:Nat) (l:List UInt8) (w:World) (cf:o<1000000) (hu:u<=255) (hn:n=l.length) (hc:n<=c) (hr:RdA (Ow b h) w A (bvs l)) (hK:Box w b ks h a o r) (M:isL ks u l=true) :
  Calls Tryz.prog 88 #[.pointer (some ⟨b,0,none⟩),.int .i64 (u:Int),.slice A n c] w fun e w'=>∃g Aq cq,e=.returned (.tuple #[.slice Aq (n - 16) cq,.int .i64 0])/\n - 16<=cq/\cq<=1000/\RdA (Nw w.heap.size g) w' Aq (bvs (mixL ks u (n8 l) (midL l)))/\Box w' b ks (some g) a (o+1) r/\Step w w' b h g:=by
 have f1:=JA (u:Int) true (by simp;omega);have ci:=Ug b ks h a o r u A n c l w hu hn hc hr hK;rw[M] at ci;have hlen:16<=n/\n<=800/\n8 l<=1099511627776:=by
  have:=M;simp only[isL,Bool.and_eq_true,decide_eq_true_eq] at this;omega
 obtain⟨b2,o2,rfl⟩:∃b2 o2,A=some ⟨b2,o2,none⟩:=by
  rcases hr with M | ⟨b2,o2,h4,_⟩
  ·exact MN hn (by omega) M
  ·exact⟨b2,o2,h4⟩
 obtain⟨k,hk⟩:∃k,n=k+8:=⟨n - 8,by omega⟩;obtain⟨m,cn⟩:∃m,k=m+8:=⟨k - 8,by omega⟩;have O:midL l=(l.take k).drop 8:=by unfold midL Ic;rw[<-hn,show n - 8=k by omega]
 have cw:=fun w2 (Z:RdA (Aw b h w.heap.size) w2 (some ⟨b2,o2,none⟩) (bvs l))=>DG w2.heap.size (some ⟨b2,o2,none⟩) n c l w2 hn (by omega) hc Z.rd
 have ct:=fun(w2:World) (Z:Option Nat) (bb:RdA (Ow b Z) w2 (some ⟨b2,o2,none⟩) (bvs l)) (aw:Box w2 b ks Z a o r)=>Li b ks Z a o r u (n8 l) (some ⟨b2,o2+8,none⟩) m (c - 8) (midL l) w2 hu (by omega) (by rw[O,List.length_drop,List.length_take];omega) (by omega) (O▸(bb.take k).drop 8) aw
 obtain⟨N,eN⟩:=Ak (n8 l);rw[<-eN] at cw ct⊢;obtain⟨Q,eQ⟩:=Ak (mixL ks u N (midL l));rw[<-eQ] at ct⊢;have bq:n - 16=m:=by omega
 rw[bq];have HR:=I hr;clear hr;have CW:=I cw;clear cw;have CT:=I ct;clear ct;have cp:=I cf;clear cf;have s1:(n:Int) - 8=(k:Int):=by omega
 have s2:IntKind.i64.wrap (k:Int)=(k:Int):=by rw[IntKind.wrap_i64];omega
 have s3:(8:Int)<=(k:Int):=by omega
 have s4:(k:Int)<=(c:Int):=by omega
 have s5:k - 8=m:=by omega
 have s6:8<=k:=by omega
 have s8:¬c=8:=by omega
 have s7:k<=c:=by omega
 have cr:=I hk;clear hk;clear hu hn hc hK M hlen eN cn O eQ bq;go_enter Tryz.func88,Tryz.ntmps88
 go_wp2_with (first
  |(go_at_call 123;refine Aj (f1 _) ?_;rintro wq hw;have hw:=hw.symm;subst hw;clear f1)
  |(go_at_call 124;refine Aj ci ?_;rintro w2 ⟨Z,aw,bs⟩;clear ci;have bb:=bs.rda HR.o;have B2:=I aw;have S2:=I bs;have R2:=I bb;clear aw bs bb))
 have B3:Hid (Box w2.drew b ks Z a o r):=B2.o.chg (FG (fun _=>False) w2 1) (fun _ _ x=>x);have S3:Hid (Dp w w2.drew b h Z):=S2.o.drewN 1;have R3:Hid (RdA (Ow b Z) w2.drew (some ⟨b2,o2,none⟩) (bvs l)):=R2.o.keep (FG (fun _=>False) w2 1) (fun _ _ x=>x.elim) (fun _ _ x=>x);have bB:=CW.o w2.drew ((HR.o.aw Ag).go S3.o.aw);have bx:=CT.o w2.drew Z R3.o B3.o;refine wp_region_still_tail 9 (by kernel_rfl) (by kernel_rfl) ?_;simp only[List.take_succ_cons,List.take_zero,List.drop_succ_cons,List.drop_zero];change wpStill _ _ w2.drew _ _ _
 repeat still_step
 still_call bB
 repeat still_step
 refine wpStill_nil ?_;change wpList _ _ _ _ _ w2.drew;clear bB B2 S2 R2;generalize w2.drew=w3 at B3 S3 R3 bx⊢
 go_wp2_with (first
  |(go_at_call 125;refine Calls.mono bx ?_;rintro e w4 ⟨g,Aq,cq,rfl,ck,cb,cm,av,bz⟩;clear bx;have bn:=add_one ⟨b,53,none⟩ o w4 cp.o av.1.co (av.1.fz 53);have B4:=I av;have S4:=I bz;have Q4:=I cm;have C1:=I ck;have C2:=I cb;clear av bz cm ck cb)
  |(go_at_call 22;refine Aj bn ?_;rintro w7 ca;clear bn;have cg:=I ca;clear ca))
 go_ret2
 have cu:=B4.o.lt;have cc:Chg (fun i=>i=b) w4 w7:=by rw[cg.o];exact(Chg.refl (fun i=>i=b) w4).set (.inl rfl) _
 have cj:Dp w w4 b h (some g):=S3.o.trans S4.o.o;refine⟨g,Aq,cq,rfl,C1.o,C2.o,?_,by rw[cg.o];exact B4.o.opens (o+1),cj.1.trans cc (fun i _ M=>.inl M),cj.2.imp (fun e=>e.symm) (fun e=>⟨e.1,by obtain⟨_,g2,cd,cy⟩:=e;injection cd with cd;omega⟩)⟩;have cx:=B3.o.lt;refine Q4.o.keep (cc.mono (T:=Nw w3.heap.size g) fun i _ M=>.inl (by omega)) (fun _ _ x=>x) (fun i _ M=>?_);rcases M with M | M
 ·exact .inl (by have:=S3.o.1.size;omega)
 ·exact .inr M
theorem MP (b:Nat) (ks:Nat->UInt8) (h:Option Nat) (a o r:Nat) (u:Int) (A:Option Addr) (n c:Nat) (l:List UInt8) (w:World) (ho:o<1000000) (av:r<1000000) (hn:n=l.length) (hc:n<=c) (hr:RdA (Ow b h) w A (bvs l)) (O:Box w b ks h a o r) :
  Calls Tryz.prog 88 #[.pointer (some ⟨b,0,none⟩),.int .i64 u,.slice A n c] w fun e w'=>∃A2 c2 M o' r',e=.returned (.tuple #[.slice A2 (BM ks u l).1.length c2,.int .i64 (BM ks u l).2])/\(BM ks u l).1.length<=c2/\c2<=maxLen/\RdA (Ns w.heap.size b M) w' A2 (bvs (BM ks u l).1)/\Box w' b ks M a o' r'/\Dp w w' b h M/\o'<=o+1/\r'<=r+1:=by
 by_cases hx:0<=u/\u<=255
 ·obtain⟨u',rfl⟩:∃k:Nat,u=(k:Int):=⟨u.toNat,by omega⟩
  cases hi:isL ks u' l with
  |true=>
   have e:BM ks (u':Int) l=(mixL ks u' (n8 l) (midL l),0):=by rw[BM,if_pos hx];show(if isL ks u' l=true then _ else _)=_;rw[if_pos hi];rfl
   have hl:=Ue hi;have e2:(mixL ks u' (n8 l) (midL l)).length=n - 16:=by rw[BA,JF l hl.1,hn]
   rw[e];refine(WS b ks h a o r u' A n c l w ho (by omega) hn hc hr O hi).mono ?_;rintro e w' ⟨g,A2,c2,rfl,Z,h2,h3,h4,h5⟩;exact⟨A2,c2,some g,o+1,r,by rw[e2],by rw[e2];exact Z,by unfold maxLen;omega,nw_ns h3 O.lt,h4,h5.o,Nat.le_refl _,by omega⟩
  |false=>
   have e:BM ks (u':Int) l=([],3):=by rw[BM,if_pos hx];show(if isL ks u' l=true then _ else _)=_;rw[hi];rfl
   rw[e];refine(Uh b ks h a o r u' A n c l w av (by omega) hn hc hr O hi).mono ?_;rintro e w' ⟨rfl,M,Z,h2⟩;exact⟨none,0,M,o,r+1,rfl,Nat.le_refl _,Nat.zero_le _,.inl rfl,Z,h2,by omega,Nat.le_refl _⟩
 ·have e:BM ks u l=([],1):=by rw[BM,if_neg hx]
  rw[e];refine(WL b u _ w hx).mono ?_;rintro e w' ⟨rfl,hw⟩;subst hw;exact⟨none,0,h,o,r,rfl,Nat.le_refl _,Nat.zero_le _,.inl rfl,O,Dp.refl _ _ _,by omega,by omega⟩
end Se
namespace Kd
open Go.RowKit Af Nm Rt
theorem QZ (V:List L) (A5:Option Addr) (c5:Nat) (w:World) (h1:V.length<=3000) (h2:∀x∈V,x.length<=3000) (hr:Rd w w.heap.size A5 (strs V)) :
  Calls Tryz.prog 70 #[.slice A5 V.length c5] w fun e w'=>∃u,e=.returned u/\Own w' w.heap.size u V/\Below w.heap.size w w':=by
 have CL:=I (fun(i:Nat) (h:i<V.length) w1=>BZ (pl V i) w1 (by have:=h2 _ (DQ h);omega));obtain⟨n,en⟩:=Ak (V.length);rw[<-en] at h1;have EN:=I en;obtain⟨N,eN⟩:=Ak (w.heap.size);rw[<-eN] at hr⊢;have M:=I (show ∀w1:World,Below N w w1->N<=w1.heap.size from fun w1 h=>by have:=h.size;omega);have HB:=I (Below.refl N w);have MK:=I (fun w1=>GZ n (by omega) w1);obtain⟨cs,cb,cf⟩:=MK.o w;have HO:=I (eN▸Pz w cs n cb (by omega):Own (w.alloc (.cells cs 9)) N (.slice (some ⟨w.heap.size,0,none⟩) 0 n) []);have HR:=I (hr.alloc (M.o _ HB.o) (.cells cs 9));replace HB:=I (HB.o.alloc (M.o _ HB.o) (.cells cs 9));rw[<-en];clear h2 hr eN MK en;go_enter Tryz.func70,Tryz.ntmps70
 go_wp2
 go_loopw [3,11] (fun ev iv wr=>∃i:Nat,i<=n/\iv=.int .i64 (i:Int)/\Own wr N ev (V.take i)/\Rd wr N A5 (strs V)/\Below N w wr) (fun _ iv _=>n - (intOf iv).toNat)
 case atStart=>exact⟨0,Nat.zero_le _,rfl,HO.o,HR.o,HB.o⟩
 case round=>
  obtain⟨i,hi,rfl,ho,hr,bq⟩:=hrel;have HO:=I ho;clear ho;have bb:=I hr;clear hr;have O:=I bq;clear bq
  by_cases hlt:i<n
  ·have e1:(i:Int)<(n:Int):=by omega
   have e2:(0:Int)<=(i:Int):=by omega
   have av:i<V.length:=by rw[<-EN.o];exact hlt
   have c2:=CL.o i av;have bn:=BN av;have HL:=I (show(V.take i).length=i by simp;omega);have bB:=I bn;clear bn av;obtain⟨bx,o,rfl,_,h1⟩:=CU bb.o (i:=i) (by rw[<-EN.o];exact hlt)
   go_wp2_with (first
    |(go_at_call 63;refine Aj (c2 _) ?_;rintro w3 hb;clear c2;have H3:=I (O.o.trans (hb.mono (M.o _ O.o)));have bs:=I (HO.o.below hb);have cd:=I (bb.o.below (hb.mono (M.o _ O.o)));clear hb)
    |(at_builtin;refine Hs rfl (.tmp 15) (.tmp 18) rfl N _ (V.take i) rfl bs.o (pl V i) rfl (by have:=HL.o;omega) (M.o _ H3.o) ?_;intro v4 w4 aw Z;rw[<-bB.o] at aw;have cc:=I aw;have H4:=I (H3.o.trans Z);have bz:=I (cd.o.below Z);clear aw Z))
   go_roundw
   case rel=>exact⟨i+1,by omega,by go_num,cc.o,bz.o,H4.o⟩
   case measure=>simp [intOf];omega
  ·have e1:¬(i:Int)<(n:Int):=by omega
   have ca:V.length<=i:=by have:=EN.o;omega
   rw[List.take_of_length_le ca] at HO
   go_wp2
   go_ret;exact⟨_,rfl,HO.o,O.o⟩
end Kd
namespace Ms
open Go.RowKit Af DerP
abbrev prV (p:Pr):Value:=.agg #[.string ⟨p.1.toArray⟩,.string ⟨p.2.toArray⟩]
def SlB (w:World) (B:Nat) (v:Value) (l:L):Prop:=∃A c,v=.slice A l.length c/\l.length<=c/\Rd w B A (bvs l)
theorem SlB.keep {w w':World} {B:Nat} {v:Value} {l:L} (h:SlB w B v l) (hb:Below B w w'):SlB w' B v l:=by
 obtain⟨A,c,O,Z,M⟩:=h;exact⟨A,c,O,Z,M.below hb⟩
theorem SlB.more {w:World} {B B':Nat} {v:Value} {l:L} (h:SlB w B v l) (hB:B<=B'):SlB w B' v l:=by
 obtain⟨A,c,O,Z,M⟩:=h;exact⟨A,c,O,Z,M.more hB⟩
theorem SlB.nil (w:World) (B:Nat):SlB w B (.slice none 0 0) []:=⟨none,0,rfl,Nat.le_refl _,.inl rfl⟩
def prC (p:Pr):List Value:=[.string ⟨p.1.toArray⟩,.string ⟨p.2.toArray⟩]
def tkC (t:Tk) (b:Value):List Value:=[.string ⟨t.s.1.toArray⟩,.string ⟨t.s.2.toArray⟩,.int .i64 t.k,b]
def asC (q:As):List Value:=[.string ⟨q.c.1.toArray⟩,.string ⟨q.c.2.toArray⟩,.string ⟨q.s.1.toArray⟩,.string ⟨q.s.2.toArray⟩,.int .i64 q.t,.int .i64 q.no]
def tgC (q:Tg) (b a:Value):List Value:=tkC q.t b++[a,.string ⟨q.s.1.toArray⟩,.string ⟨q.s.2.toArray⟩,.int .i64 q.u,.int .i64 q.no]
def reC (q:Re) (b d:Value):List Value:=prC q.c++(tkC q.t b++[d])
def apC (q:Ap) (b a:Value):List Value:=tkC q.t b++[a]
def faC (q:Fa):List Value:=[.int .i64 q.e,.int .i64 q.no]
def anC (a:An):List Value:=prC a.c++[.int .i64 a.t,.int .i64 a.q]
def ptC (p:Pt):List Value:=prC p.c++(bvs p.ss++[.string ⟨p.tr.toArray⟩,.int .i64 p.st,.int .i64 p.en])
structure Six where
 b1:Value
 a1:Value
 b2:Value
 d2:Value
 b3:Value
 a3:Value
structure SixR (w:World) (B:Nat) (m:Mg) (s:Six):Prop where
 b1:SlB w B s.b1 m.tg.t.b
 a1:SlB w B s.a1 m.tg.a
 b2:SlB w B s.b2 m.re.t.b
 d2:SlB w B s.d2 m.re.b
 b3:SlB w B s.b3 m.ap.t.b
 a3:SlB w B s.a3 m.ap.a
theorem SixR.keep {w w':World} {B:Nat} {m:Mg} {s:Six} (h:SixR w B m s) (M:Below B w w'):SixR w' B m s:=⟨h.b1.keep M,h.a1.keep M,h.b2.keep M,h.d2.keep M,h.b3.keep M,h.a3.keep M⟩
theorem Bh {w w':World} {A:Option Addr} {l:L} (h:Rd w w.heap.size A (bvs l)) (M:Below w.heap.size w w'):Rd w' w'.heap.size A (bvs l):=(h.below M).more M.size
section
variable {w:World} {t:TypeId} {A1 A2 A3 A4 A5:Option Addr} {l1 l2 l3 l4 l5:L} {c1 c2 c3 c4 c5:Nat}
theorem JG (O:Rd w w.heap.size A1 (bvs l1)) (M:Rd w w.heap.size A2 (bvs l2)) :
  DerW.Rds (w.alloc (.cells #[.slice A1 l1.length c1,.slice A2 l2.length c2] t)) (w.heap.size+1) (some ⟨w.heap.size,0,none⟩) [l1,l2]:=by
 refine .inr ⟨w.heap.size,0,rfl,by omega,fun i l hi=>?_⟩
 match i,hi with
 |0,hi=>injection hi with hi;subst hi;exact⟨A1,c1,(Blk.new w t _).cell 0,(O.alloc Ag _).more (by omega)⟩
 |1,hi=>injection hi with hi;subst hi;exact⟨A2,c2,(Blk.new w t _).cell 1,(M.alloc Ag _).more (by omega)⟩
 |i+2,hi=>rw[List.getElem?_eq_none (by simp)] at hi;cases hi
theorem FH (M:Rd w w.heap.size A1 (bvs l1)) (O:Rd w w.heap.size A2 (bvs l2)) (Z:Rd w w.heap.size A3 (bvs l3)) :
  DerW.Rds (w.alloc (.cells #[.slice A1 l1.length c1,.slice A2 l2.length c2,.slice A3 l3.length c3] t)) (w.heap.size+1) (some ⟨w.heap.size,0,none⟩) [l1,l2,l3]:=by
 refine .inr ⟨w.heap.size,0,rfl,by omega,fun i l hi=>?_⟩
 match i,hi with
 |0,hi=>injection hi with hi;subst hi;exact⟨A1,c1,(Blk.new w t _).cell 0,(M.alloc Ag _).more (by omega)⟩
 |1,hi=>injection hi with hi;subst hi;exact⟨A2,c2,(Blk.new w t _).cell 1,(O.alloc Ag _).more (by omega)⟩
 |2,hi=>injection hi with hi;subst hi;exact⟨A3,c3,(Blk.new w t _).cell 2,(Z.alloc Ag _).more (by omega)⟩
 |i+3,hi=>rw[List.getElem?_eq_none (by simp)] at hi;cases hi
theorem WT (M:Rd w w.heap.size A1 (bvs l1)) (O:Rd w w.heap.size A2 (bvs l2)) (h3:Rd w w.heap.size A3 (bvs l3)) (Z:Rd w w.heap.size A4 (bvs l4)) :
  DerW.Rds (w.alloc (.cells #[.slice A1 l1.length c1,.slice A2 l2.length c2,.slice A3 l3.length c3,.slice A4 l4.length c4] t)) (w.heap.size+1) (some ⟨w.heap.size,0,none⟩) [l1,l2,l3,l4]:=by
 refine .inr ⟨w.heap.size,0,rfl,by omega,fun i l hi=>?_⟩
 match i,hi with
 |0,hi=>injection hi with hi;subst hi;exact⟨A1,c1,(Blk.new w t _).cell 0,(M.alloc Ag _).more (by omega)⟩
 |1,hi=>injection hi with hi;subst hi;exact⟨A2,c2,(Blk.new w t _).cell 1,(O.alloc Ag _).more (by omega)⟩
 |2,hi=>injection hi with hi;subst hi;exact⟨A3,c3,(Blk.new w t _).cell 2,(h3.alloc Ag _).more (by omega)⟩
 |3,hi=>injection hi with hi;subst hi;exact⟨A4,c4,(Blk.new w t _).cell 3,(Z.alloc Ag _).more (by omega)⟩
 |i+4,hi=>rw[List.getElem?_eq_none (by simp)] at hi;cases hi
theorem Lq (O:Rd w w.heap.size A1 (bvs l1)) (Z:Rd w w.heap.size A2 (bvs l2)) (M:Rd w w.heap.size A3 (bvs l3)) (h4:Rd w w.heap.size A4 (bvs l4)) (h5:Rd w w.heap.size A5 (bvs l5)) :
  DerW.Rds (w.alloc (.cells #[.slice A1 l1.length c1,.slice A2 l2.length c2,.slice A3 l3.length c3,.slice A4 l4.length c4,.slice A5 l5.length c5] t)) (w.heap.size+1) (some ⟨w.heap.size,0,none⟩) [l1,l2,l3,l4,l5]:=by
 refine .inr ⟨w.heap.size,0,rfl,by omega,fun i l hi=>?_⟩
 match i,hi with
 |0,hi=>injection hi with hi;subst hi;exact⟨A1,c1,(Blk.new w t _).cell 0,(O.alloc Ag _).more (by omega)⟩
 |1,hi=>injection hi with hi;subst hi;exact⟨A2,c2,(Blk.new w t _).cell 1,(Z.alloc Ag _).more (by omega)⟩
 |2,hi=>injection hi with hi;subst hi;exact⟨A3,c3,(Blk.new w t _).cell 2,(M.alloc Ag _).more (by omega)⟩
 |3,hi=>injection hi with hi;subst hi;exact⟨A4,c4,(Blk.new w t _).cell 3,(h4.alloc Ag _).more (by omega)⟩
 |4,hi=>injection hi with hi;subst hi;exact⟨A5,c5,(Blk.new w t _).cell 4,(h5.alloc Ag _).more (by omega)⟩
 |i+5,hi=>rw[List.getElem?_eq_none (by simp)] at hi;cases hi
end
theorem Oz (n a b:Int) (w:World):Calls Tryz.prog 73 #[.int .i64 n,.int .i64 a,.int .i64 b] w fun e w'=>e=.returned (.bool (inB n a b))/\w=w':=by
 cases h1:decide (a<=n) with
 |false=>
  go_enter Tryz.func73,Tryz.ntmps73
  go_wp2
  go_ret;exact⟨by rw[inB,h1];rfl,rfl⟩
 |true=>
  go_enter Tryz.func73,Tryz.ntmps73
  go_wp2
  go_ret;exact⟨by rw[inB,h1];rfl,rfl⟩
theorem Lr (n:Int) (w:World):Calls Tryz.prog 73 #[.int .i64 n,.int .i64 0,.int .i64 1073741824] w fun e w'=>e=.returned (.bool (tmB n))/\w=w':=Oz n 0 1073741824 w
theorem Ui (b:L):inB (b.length:Int) 1 800=BR b:=by
 rw[inB,BR];have M:decide ((1:Int)<=(b.length:Int))=decide (1<=b.length):=by rw[decide_eq_decide];omega
 have O:decide ((b.length:Int)<=800)=decide (b.length<=800):=by rw[decide_eq_decide];omega
 rw[M,O]
theorem MQ (b:L) (A:Option Addr) (c:Nat) (w:World):Calls Tryz.prog 83 #[.slice A b.length c] w fun e w'=>e=.returned (.bool (BR b))/\w=w':=by
 have c1:=Oz (b.length:Int) 1 800 w;rw[Ui] at c1;go_enter Tryz.func83,Tryz.ntmps83
 go_wp2_with (go_at_call 73;refine Aj c1 ?_;rintro w1 rfl)
 go_ret;exact⟨rfl,rfl⟩
theorem Ra (l:L) (A:Option Addr) (n c:Nat) (w:World) (O:n=l.length):Calls Tryz.prog 39 #[.slice A n c] w fun e w'=>e=.returned (.tuple (if l.length<=2000 then #[.slice A n c,.int .i64 0] else #[.slice none 0 0,.int .i64 1]))/\w=w':=by
 subst O
 by_cases h:l.length<=2000
 ·rw[if_pos h]
  have M:decide ((2000:Int)<(l.length:Int))=false:=decide_eq_false (by omega);clear h;go_enter Tryz.func39,Tryz.ntmps39
  go_wp2
  go_ret2
  exact⟨rfl,rfl⟩
 ·rw[if_neg h]
  have M:decide ((2000:Int)<(l.length:Int))=true:=decide_eq_true (by omega);clear h;go_enter Tryz.func39,Tryz.ntmps39
  go_wp2
  go_ret2
  exact⟨rfl,rfl⟩
theorem AW (p:Pr) (w:World) (O:p.1.length<=1000000000) (M:p.2.length<=1000000000):Calls Tryz.prog 29 #[prV p] w fun e w'=>e=.returned (.bool (prB p))/\Below w.heap.size w w':=Nm.Ec p.1 p.2 w O M
def pSm (p:Pr):Prop:=p.1.length<=1000000000/\p.2.length<=1000000000
theorem OA (t:Tk) (A:Option Addr) (c:Nat) (w:World) (hs:pSm t.s):Calls Tryz.prog 82 #[.agg #[.string ⟨t.s.1.toArray⟩,.string ⟨t.s.2.toArray⟩,.int .i64 t.k,.slice A t.b.length c]] w fun e w'=>e=.returned (.bool (tkB t))/\Below w.heap.size w w':=by
 have av:=(Below.refl w.heap.size w).alloc Ag (.cells #[.string ⟨t.s.1.toArray⟩,.string ⟨t.s.2.toArray⟩,.int .i64 t.k,.slice A t.b.length c] 74);have O:=I av;have Z:=I (Blk.new w 74 #[.string ⟨t.s.1.toArray⟩,.string ⟨t.s.2.toArray⟩,.int .i64 t.k,.slice A t.b.length c]);have c1:=AW t.s (w.alloc (.cells #[.string ⟨t.s.1.toArray⟩,.string ⟨t.s.2.toArray⟩,.int .i64 t.k,.slice A t.b.length c] 74)) hs.1 hs.2;have C2:=I (fun w1=>Oz t.k 1 255 w1);have C3:=I (fun w1=>MQ t.b A c w1);unfold prV at c1;clear av;cases h1:prB t.s with
 |false=>
  rw[h1] at c1;have E:=I (show tkB t=false by rw[tkB,h1];rfl);clear h1;go_enter Tryz.func82,Tryz.ntmps82
  go_wp2_with (go_at_call 29;refine Aj c1 ?_;rintro w1 M;replace O:=O.t M;clear M c1)
  go_ret;exact⟨by rw[E.o];rfl,O.o⟩
 |true=>
  rw[h1] at c1;cases h2:inB t.k 1 255 with
  |false=>
   rw[h2] at C2;have E:=I (show tkB t=false by rw[tkB,h1,h2];rfl);clear h1 h2;go_enter Tryz.func82,Tryz.ntmps82
   go_wp2_with (first
    |(go_at_call 29;refine Aj c1 ?_;rintro w1 M;replace Z:=I (Z.o.below M);replace O:=O.t M;clear M c1;have k2:=Z.o.cell 2;simp only[List.getElem?_toArray,List.getElem?_cons_zero,List.getElem?_cons_succ] at k2)
    |(go_at_call 73;refine Aj (C2.o _) ?_;rintro w2 rfl))
   go_ret;exact⟨by rw[E.o];rfl,O.o⟩
  |true=>
   rw[h2] at C2;have E:=I (show tkB t=BR t.b by rw[tkB,h1,h2];rfl);clear h1 h2;go_enter Tryz.func82,Tryz.ntmps82
   go_wp2_with (first
    |(go_at_call 29;refine Aj c1 ?_;rintro w1 M;replace Z:=I (Z.o.below M);replace O:=O.t M;clear M c1;have k2:=Z.o.cell 2;have k3:=Z.o.cell 3;simp only[List.getElem?_toArray,List.getElem?_cons_zero,List.getElem?_cons_succ] at k2 k3)
    |(go_at_call 73;refine Aj (C2.o _) ?_;rintro w2 rfl)
    |(go_at_call 83;refine Aj (C3.o _) ?_;rintro w3 rfl))
   go_ret;exact⟨by rw[E.o];rfl,O.o⟩
open DerR
theorem Bg {w0 w:World} {l:L} {e:Ending} {w':World} (h:BY w l e w') (M:Below w0.heap.size w0 w):BY w0 l e w':=by
 obtain⟨⟨g,c,Z,h2,O,h4⟩,h5⟩:=h;exact⟨⟨g,c,Z,Nat.le_trans M.size h2,O,h4⟩,M.trans (h5.mono M.size)⟩
theorem Ig (p:Pr) (w:World) (hs:p.1.length<=20000) (cj:p.2.length<=20000):Calls Tryz.prog 41 #[.agg #[.string ⟨p.1.toArray⟩,.string ⟨p.2.toArray⟩]] w (BY w (prE p)):=by
 have bb:=(Below.refl w.heap.size w).alloc Ag (.cells #[.string ⟨p.1.toArray⟩,.string ⟨p.2.toArray⟩] 30);have Z:=I bb;have M:=I (Blk.new w 30 #[.string ⟨p.1.toArray⟩,.string ⟨p.2.toArray⟩]);have T1:=I (fun w1=>DerR.EH p.1 w1 (by omega));have T2:=I (fun w1=>DerR.EH p.2 w1 (by omega));have e1:=AE 27 p.1;have e2:=AE 27 p.2;have HL:=I (show [elem 27 p.1,elem 27 p.2].flatten.length<=65535 by rw[Dm,List.length_append];omega);have HE:=I (show prE p=elem 48 [elem 27 p.1,elem 27 p.2].flatten from rfl);obtain⟨l1,bs⟩:∃l,l=elem 27 p.1:=⟨_,rfl⟩;obtain⟨l2,aw⟩:∃l,l=elem 27 p.2:=⟨_,rfl⟩;rw[<-bs] at T1 HL HE;rw[<-aw] at T2 HL HE;rw[HE.o,Dm];clear bb e1 e2 hs cj bs aw HE;go_enter Tryz.func41,Tryz.ntmps41
 go_wp2
 obtain⟨W,eW⟩:=Ak (w.alloc (.cells #[.string ⟨p.1.toArray⟩,.string ⟨p.2.toArray⟩] 30));rw[<-eW] at Z M⊢;clear eW;replace M:=I (show Blk W.drew _ _ _ from M.o.drewN 1);replace Z:=I (show Below _ _ W.drew from below_drewN Z.o 1)
 go_region_held3 (fun w'=>w'.cell? ⟨w.heap.size,0,none⟩=some (.string ⟨p.1.toArray⟩)/\w'.cell? ⟨w.heap.size,1,none⟩=some (.string ⟨p.2.toArray⟩)) (first | exact⟨M.o.cell 0,M.o.cell 1⟩ | exact⟨(M.o.alloc _).cell 0,(M.o.alloc _).cell 1⟩) ((first
  |(go_at_call 43;(with_reducible refine Calls.mono (T1.o _) ?_);rintro e w1 ⟨⟨g1,c1,rfl,cb,cd,bq⟩,O⟩;clear T1;have av:=I bq;replace M:=I (M.o.below O);replace Z:=Z.t O;clear O bq cb cd)
  |(go_at_call 43;(with_reducible refine Calls.mono (T2.o _) ?_);rintro e w2 ⟨⟨g2,c2,rfl,cc,cf,bx⟩,O⟩;clear T2;replace av:=I (Bh av.o O);have cg:=I bx;replace M:=I (M.o.below O);replace Z:=Z.t O;clear O bx cc cf)
  |(go_at_call 40;refine Calls.mono (Dv 48 [l1,l2] _ 2 2 (w2.heap.size+1) _ (JG av.o cg.o) rfl (by simp) HL.o (by simp)) ?_;rintro e wz ⟨⟨gz,cz,rfl,bn,ca,bz⟩,O⟩;have bB:=(Below.refl w2.heap.size w2).alloc Ag (.cells #[.slice (some ⟨g1,0,none⟩) l1.length c1,.slice (some ⟨g2,0,none⟩) l2.length c2] 22);have HG:=I (Bg (l:=elem 48 [l1,l2].flatten) ⟨⟨gz,cz,rfl,bn,ca,bz⟩,O⟩ (Z.o.trans (bB.mono Z.o.size)));rw[Dm] at HG;replace M:=I ((M.o.alloc (.cells #[.slice (some ⟨g1,0,none⟩) l1.length c1,.slice (some ⟨g2,0,none⟩) l2.length c2] 22)).below O);clear bB bn ca bz O)))
 go_wp2
 go_ret;exact HG.o
theorem Uj (t:Tk) (A:Option Addr) (c B:Nat) (w:World) (hs:t.s.1.length<=10000) (cr:t.s.2.length<=10000) (cg:t.b.length<=20000) (hr:Rd w B A (bvs t.b)) (hB:B<=w.heap.size) :
  Calls Tryz.prog 50 #[.agg #[.string ⟨t.s.1.toArray⟩,.string ⟨t.s.2.toArray⟩,.int .i64 t.k,.slice A t.b.length c]] w (BY w (tkE t)):=by
 have bs:=(Below.refl w.heap.size w).alloc Ag (.cells #[.string ⟨t.s.1.toArray⟩,.string ⟨t.s.2.toArray⟩,.int .i64 t.k,.slice A t.b.length c] 74);have Z:=I bs;have M:=I (Blk.new w 74 #[.string ⟨t.s.1.toArray⟩,.string ⟨t.s.2.toArray⟩,.int .i64 t.k,.slice A t.b.length c]);have T1:=I (fun w1=>Ig t.s w1 (by omega) (by omega));have T2:=I (fun w1=>DerR.BP t.k w1);have T3:=I (fun w1 (h:Below w.heap.size w w1)=>DerR.Dl t.b A t.b.length c w1.heap.size w1 (((hr.more hB).below h).more h.size) rfl Ag (by omega));have e0:=AE 48 [elem 27 t.s.1,elem 27 t.s.2].flatten;have e1:=AE 27 t.s.1;have e2:=AE 27 t.s.2;have e3:=AK t.k;have e4:=AE 4 t.b;rw[Dm,List.length_append] at e0;have HL:=I (show [prE t.s,encI t.k,elem 4 t.b].flatten.length<=65535 by rw[DS,List.length_append,List.length_append,prE,Dm];omega);have HE:=I (show tkE t=elem 97 [prE t.s,encI t.k,elem 4 t.b].flatten from rfl);obtain⟨l1,bB⟩:∃l,l=prE t.s:=⟨_,rfl⟩;obtain⟨l2,bb⟩:∃l,l=encI t.k:=⟨_,rfl⟩;obtain⟨l3,bn⟩:∃l,l=elem 4 t.b:=⟨_,rfl⟩;rw[<-bB] at T1 HL HE;rw[<-bb] at T2 HL HE;rw[<-bn] at T3 HL HE;rw[HE.o,DS];clear bs e0 e1 e2 e3 e4 hs cr cg hr bB bb bn HE;go_enter Tryz.func50,Tryz.ntmps50
 go_wp2
 obtain⟨W,eW⟩:=Ak (w.alloc (.cells #[.string ⟨t.s.1.toArray⟩,.string ⟨t.s.2.toArray⟩,.int .i64 t.k,.slice A t.b.length c] 74));rw[<-eW] at Z M⊢;clear eW;replace M:=I (show Blk W.drew _ _ _ from M.o.drewN 1);replace Z:=I (show Below _ _ W.drew from below_drewN Z.o 1)
 go_region_held3 (fun w'=>w'.cell? ⟨w.heap.size,0,none⟩=some (.string ⟨t.s.1.toArray⟩)/\w'.cell? ⟨w.heap.size,1,none⟩=some (.string ⟨t.s.2.toArray⟩)/\w'.cell? ⟨w.heap.size,2,none⟩=some (.int .i64 t.k)/\w'.cell? ⟨w.heap.size,3,none⟩=some (.slice A t.b.length c)) (first | exact⟨M.o.cell 0,M.o.cell 1,M.o.cell 2,M.o.cell 3⟩ | exact⟨(M.o.alloc _).cell 0,(M.o.alloc _).cell 1,(M.o.alloc _).cell 2,(M.o.alloc _).cell 3⟩) ((first
  |(go_at_call 41;(with_reducible refine Calls.mono (T1.o _) ?_);rintro e w1 ⟨⟨g1,c1,rfl,ck,cn,bz⟩,O⟩;clear T1;have av:=I bz;replace M:=I (M.o.below O);replace Z:=Z.t O;clear O bz ck cn)
  |(go_at_call 44;(with_reducible refine Calls.mono (T2.o _) ?_);rintro e w2 ⟨⟨g2,c2,rfl,cm,cf,ca⟩,O⟩;clear T2;replace av:=I (Bh av.o O);have aw:=I ca;replace M:=I (M.o.below O);replace Z:=Z.t O;clear O ca cm cf)
  |(go_at_call 42;(with_reducible refine Calls.mono (T3.o _ Z.o) ?_);rintro e w3 ⟨⟨g3,c3,rfl,cq,cp,bq⟩,O⟩;clear T3;replace av:=I (Bh av.o O);replace aw:=I (Bh aw.o O);have cj:=I bq;replace M:=I (M.o.below O);replace Z:=Z.t O;clear O bq cq cp)
  |(go_at_call 40;refine Calls.mono (Dv 97 [l1,l2,l3] _ 3 3 (w3.heap.size+1) _ (FH av.o aw.o cj.o) rfl (by simp) HL.o (by simp)) ?_;rintro e wz ⟨⟨gz,cz,rfl,bx,cd,cb⟩,O⟩;have cc:=(Below.refl w3.heap.size w3).alloc Ag (.cells #[.slice (some ⟨g1,0,none⟩) l1.length c1,.slice (some ⟨g2,0,none⟩) l2.length c2,.slice (some ⟨g3,0,none⟩) l3.length c3] 22);have HG:=I (Bg (l:=elem 97 [l1,l2,l3].flatten) ⟨⟨gz,cz,rfl,bx,cd,cb⟩,O⟩ (Z.o.trans (cc.mono Z.o.size)));rw[DS] at HG;replace M:=I ((M.o.alloc (.cells #[.slice (some ⟨g1,0,none⟩) l1.length c1,.slice (some ⟨g2,0,none⟩) l2.length c2,.slice (some ⟨g3,0,none⟩) l3.length c3] 22)).below O);clear cc bx cd cb O)))
 go_wp2
 go_ret;exact HG.o
end Ms
namespace Ms
open Go.RowKit Af DerP
theorem MR (a:An) (w:World) (hs:pSm a.c):Calls Tryz.prog 45 #[.agg #[.string ⟨a.c.1.toArray⟩,.string ⟨a.c.2.toArray⟩,.int .i64 a.t,.int .i64 a.q]] w fun e w'=>e=.returned (.bool (anB a))/\Below w.heap.size w w':=by
 have av:=(Below.refl w.heap.size w).alloc Ag (.cells #[.string ⟨a.c.1.toArray⟩,.string ⟨a.c.2.toArray⟩,.int .i64 a.t,.int .i64 a.q] 35);have Z:=I av;have M:=I (Blk.new w 35 #[.string ⟨a.c.1.toArray⟩,.string ⟨a.c.2.toArray⟩,.int .i64 a.t,.int .i64 a.q]);clear av;have T1:=I (fun w1=>AW a.c w1 hs.1 hs.2);have T2:=I (fun w1=>Lr a.t w1);have T3:=I (fun w1=>Lr a.q w1);cases h1:prB a.c with
 |false=>
  rw[h1] at T1;have E:=I (show anB a=false by rw[anB,h1];rfl);clear h1;go_enter Tryz.func45,Tryz.ntmps45
  go_wp2_with (go_at_call 29;(with_reducible refine Calls.mono (T1.o _) ?_);rintro e w1 ⟨rfl,O⟩;replace M:=I (M.o.below O);replace Z:=Z.t O;clear O T1;(try clear k0 k1 k2 k3);have k0:=M.o.cell 0;have k1:=M.o.cell 1;have k2:=M.o.cell 2;have k3:=M.o.cell 3;simp only[List.getElem?_toArray,List.getElem?_cons_zero,List.getElem?_cons_succ] at k0 k1 k2 k3)
  go_ret;exact⟨by rw[E.o];rfl,Z.o⟩
 |true=>
  rw[h1] at T1;cases h2:tmB a.t with
  |false=>
   rw[h2] at T2;have E:=I (show anB a=false by rw[anB,h1,h2];rfl);clear h1 h2;go_enter Tryz.func45,Tryz.ntmps45
   go_wp2_with (first
    |(go_at_call 29;(with_reducible refine Calls.mono (T1.o _) ?_);rintro e w1 ⟨rfl,O⟩;replace M:=I (M.o.below O);replace Z:=Z.t O;clear O T1;(try clear k0 k1 k2 k3);have k0:=M.o.cell 0;have k1:=M.o.cell 1;have k2:=M.o.cell 2;have k3:=M.o.cell 3;simp only[List.getElem?_toArray,List.getElem?_cons_zero,List.getElem?_cons_succ] at k0 k1 k2 k3)
    |(go_at_call 73;(with_reducible refine Calls.mono (T2.o _) ?_);rintro e w2 ⟨rfl,hw⟩;subst hw;clear T2))
   go_ret;exact⟨by rw[E.o];rfl,Z.o⟩
  |true=>
   rw[h2] at T2;have E:=I (show anB a=tmB a.q by rw[anB,h1,h2];rfl);clear h1 h2;go_enter Tryz.func45,Tryz.ntmps45
   go_wp2_with (first
    |(go_at_call 29;(with_reducible refine Calls.mono (T1.o _) ?_);rintro e w1 ⟨rfl,O⟩;replace M:=I (M.o.below O);replace Z:=Z.t O;clear O T1;(try clear k0 k1 k2 k3);have k0:=M.o.cell 0;have k1:=M.o.cell 1;have k2:=M.o.cell 2;have k3:=M.o.cell 3;simp only[List.getElem?_toArray,List.getElem?_cons_zero,List.getElem?_cons_succ] at k0 k1 k2 k3)
    |(go_at_call 73;(with_reducible refine Calls.mono (T2.o _) ?_);rintro e w2 ⟨rfl,hw⟩;subst hw;clear T2)
    |(go_at_call 73;(with_reducible refine Calls.mono (T3.o _) ?_);rintro e w3 ⟨rfl,hw⟩;subst hw;clear T3))
   go_ret;exact⟨by rw[E.o];rfl,Z.o⟩
open DerR
def EncR (w:World) (o:Option L) (e:Ending) (w':World):Prop:=
 (∃v i,e=.returned (.tuple #[v,.int .i64 i])/\(o=none->v=.slice none 0 0/\i=1)/\∀l,o=some l->i=0/\∃g c,v=.slice (some ⟨g,0,none⟩) l.length c/\w.heap.size<=g/\l.length<=c/\Rd w' w'.heap.size (some ⟨g,0,none⟩) (bvs l))/\Below w.heap.size w w'
theorem Ad {w:World} {g:Nat} {t:TypeId} {cs:Array Value} (h:Blk w g t cs):w.rangeAt g 0 cs.toList:=fun j v M=>by
 rw[Nat.zero_add,h.cell];simpa using M
theorem Al {P:Program} {ops:Array Oper} {rest:List Oper} {op:Oper} {a:Act} {w:World} {Q:Exit->Act->World->Prop} (M:op.guard=none) (ty:TypeId) (x:Operand) (O:op.op=.load ty x)
  (g o:Nat) (Z:a.eval x=.pointer (some ⟨g,o,none⟩)) (cs:Array Value) (d:TypeDesc) (hc:w.rangeAt g o cs.toList)
  (hu:P.underlying ty=some d) (hd:d.isRow=true) (hi:(P.info? ty).map (·.size)=some cs.size)
  (h:wpList P ops Q rest (a.put op.dst (.agg cs)) w):wpList P ops Q (op :: rest) a w:=
 wpList_load_mid M ty x O g o Z cs.toList d hc hu hd (by rw[Array.length_toList];exact hi) (by simpa using h)
theorem JH (l:L) (A:Option Addr) (n c:Nat) (w:World) (M:n=l.length) (h:l.length<=2000):Calls Tryz.prog 39 #[.slice A n c] w fun e w'=>e=.returned (.tuple #[.slice A n c,.int .i64 0])/\w=w':=by
 have:=Ra l A n c w M
 rwa [if_pos h] at this
theorem FY {w w':World} (h:Below w.heap.size w w'):EncR w none (.returned (.tuple #[.slice none 0 0,.int .i64 1])) w':=
 ⟨⟨_,_,rfl,(fun _=>⟨rfl,rfl⟩),(fun l e=>by cases e)⟩,h⟩
theorem FZ {w w':World} {l:L} {g c:Nat} (h:BY w l (.returned (.slice (some ⟨g,0,none⟩) l.length c)) w'):EncR w (some l) (.returned (.tuple #[.slice (some ⟨g,0,none⟩) l.length c,.int .i64 0])) w':=by
 obtain⟨⟨g',c',M,Z,O,h4⟩,h5⟩:=h;injection M with M;injection M with M h6 h7;injection M with M;injection M with M;subst M;subst h7;exact⟨⟨_,_,rfl,(fun e=>by cases e),(fun l' e=>by injection e with e;subst e;exact⟨rfl,g,c,rfl,Z,O,h4⟩)⟩,h5⟩
theorem Ls (a:An) (w:World) (hs:pSm a.c):Calls Tryz.prog 18 #[.agg #[.string ⟨a.c.1.toArray⟩,.string ⟨a.c.2.toArray⟩,.int .i64 a.t,.int .i64 a.q]] w (EncR w (anO a)):=by
 have bs:=(Below.refl w.heap.size w).alloc Ag (.cells #[.string ⟨a.c.1.toArray⟩,.string ⟨a.c.2.toArray⟩,.int .i64 a.t,.int .i64 a.q] 35);have Z:=I bs;have O:=I (Blk.new w 35 #[.string ⟨a.c.1.toArray⟩,.string ⟨a.c.2.toArray⟩,.int .i64 a.t,.int .i64 a.q]);have I1:=I (fun w1=>MR a w1 hs);clear bs;cases hx:anB a with
 |false=>
  rw[hx] at I1;have E:=I (show anO a=none by unfold anO limO;rw[hx];rfl);rw[E.o];clear hx E;go_enter Tryz.func18,Tryz.ntmps18
  go_wp2_with (go_at_call 45;refine Aj (I1.o _) ?_;rintro w1 M;replace Z:=Z.t M;clear M I1)
  go_ret2
  exact FY Z.o
 |true=>
  rw[hx] at I1;have hp:prB a.c=true:=(show prB a.c=true/\tmB a.t=true/\tmB a.q=true by simpa [anB] using hx).1;have cn:=GV hp;have cj:=(AY hp).1;have e1:=AK a.t;have e2:=AK a.q;have T1:=I (fun w1=>Ig a.c w1 (by omega) (by omega));have T2:=I (fun w1=>DerR.BP a.t w1);have T3:=I (fun w1=>DerR.BP a.q w1);have hl:[prE a.c,encI a.t,encI a.q].flatten.length<=1900:=by rw[DS];simp only[List.length_append];omega
  have HL:=I (show [prE a.c,encI a.t,encI a.q].flatten.length<=65535 by omega);have hE:=AE 98 [prE a.c,encI a.t,encI a.q].flatten;have E:=I (show anO a=some (elem 98 [prE a.c,encI a.t,encI a.q].flatten) from BS.2 ⟨hx,by show(elem 98 [prE a.c,encI a.t,encI a.q].flatten).length<=2000;omega,rfl⟩);rw[E.o];rw[DS] at hE hl⊢;obtain⟨l1,bB⟩:∃l,l=prE a.c:=⟨_,rfl⟩;obtain⟨l2,bb⟩:∃l,l=encI a.t:=⟨_,rfl⟩;obtain⟨l3,bn⟩:∃l,l=encI a.q:=⟨_,rfl⟩;rw[<-bB] at T1 HL hE hl⊢;rw[<-bb] at T2 HL hE hl⊢;rw[<-bn] at T3 HL hE hl⊢;have cc:(elem 98 (l1++(l2++l3))).length<=2000:=by omega
  have LM:=I (fun A c w1=>JH (elem 98 (l1++(l2++l3))) A _ c w1 rfl cc);clear hx E hE hl cc bB bb bn hp cn cj e1 e2 hs;go_enter Tryz.func18,Tryz.ntmps18
  go_wp2_with (go_at_call 45;refine Aj (I1.o _) ?_;rintro w0 M;replace O:=I (O.o.below M);replace Z:=Z.t M;clear M I1)
  replace O:=I (show Blk w0.drew _ _ _ from O.o.drewN 1);replace Z:=I (show Below _ _ w0.drew from below_drewN Z.o 1)
  go_region_held3 (fun w'=>w'.cell? ⟨w.heap.size,0,none⟩=some (.string ⟨a.c.1.toArray⟩)/\w'.cell? ⟨w.heap.size,1,none⟩=some (.string ⟨a.c.2.toArray⟩)/\w'.cell? ⟨w.heap.size,2,none⟩=some (.int .i64 a.t)/\w'.cell? ⟨w.heap.size,3,none⟩=some (.int .i64 a.q)) (first | exact⟨O.o.cell 0,O.o.cell 1,O.o.cell 2,O.o.cell 3⟩ | exact⟨(O.o.alloc _).cell 0,(O.o.alloc _).cell 1,(O.o.alloc _).cell 2,(O.o.alloc _).cell 3⟩) ((first
   |(go_at_call 41;(with_reducible refine Calls.mono (T1.o _) ?_);rintro e w1 ⟨⟨g1,c1,rfl,cm,cq,bz⟩,M⟩;clear T1;have av:=I bz;replace O:=I (O.o.below M);replace Z:=Z.t M;clear M bz cm cq)
   |(go_at_call 44;(with_reducible refine Calls.mono (T2.o _) ?_);rintro e w2 ⟨⟨g2,c2,rfl,cp,cg,ca⟩,M⟩;clear T2;replace av:=I (Bh av.o M);have aw:=I ca;replace O:=I (O.o.below M);replace Z:=Z.t M;clear M ca cp cg)
   |(go_at_call 44;(with_reducible refine Calls.mono (T3.o _) ?_);rintro e w3 ⟨⟨g3,c3,rfl,ct,cr,bq⟩,M⟩;clear T3;replace av:=I (Bh av.o M);replace aw:=I (Bh aw.o M);have ck:=I bq;replace O:=I (O.o.below M);replace Z:=Z.t M;clear M bq ct cr)
   |(go_at_call 40;refine Calls.mono (Dv 98 [l1,l2,l3] _ 3 3 (w3.heap.size+1) _ (FH av.o aw.o ck.o) rfl (by simp) HL.o (by simp)) ?_;rintro e wz ⟨⟨gz,cz,rfl,bx,cf,cb⟩,M⟩;have cd:=(Below.refl w3.heap.size w3).alloc Ag (.cells #[.slice (some ⟨g1,0,none⟩) l1.length c1,.slice (some ⟨g2,0,none⟩) l2.length c2,.slice (some ⟨g3,0,none⟩) l3.length c3] 22);have HG:=I (Bg (l:=elem 98 [l1,l2,l3].flatten) ⟨⟨gz,cz,rfl,bx,cf,cb⟩,M⟩ (Z.o.trans (cd.mono Z.o.size)));rw[DS] at HG;replace O:=I ((O.o.alloc (.cells #[.slice (some ⟨g1,0,none⟩) l1.length c1,.slice (some ⟨g2,0,none⟩) l2.length c2,.slice (some ⟨g3,0,none⟩) l3.length c3] 22)).below M);clear cd bx cf cb M)
   |(go_at_call 39;refine Aj (LM.o _ _ _) ?_;rintro wy rfl)))
  go_wp2
  go_ret2
  exact FZ HG.o
end Ms
namespace Ms
open Go.RowKit Af DerP
def FitT (l:L) (k:Nat):Prop:=∀i (h:i<l.length),i<k->32<=l[i].toNat/\l[i].toNat<=126
theorem Uk {l:L} (h:FitT l l.length):txtB l=true:=by
 rw[txtB,List.all_eq_true];intro x M;obtain⟨i,hi,rfl⟩:=List.getElem_of_mem M;have:=h i hi hi;simp [this.1,this.2]
theorem OB {l:L} {k:Nat} (hk:k<l.length) (h:l[k].toNat<32\/126<l[k].toNat):txtB l=false:=by
 rw[txtB,List.all_eq_false];refine⟨l[k],List.getElem_mem hk,?_⟩;simp;omega
theorem IN {p:Pt} (hk:p.ss.length=32) {g:Nat} {t:TypeId} {w':World} (h:Blk w' g t (ptC p).toArray):w'.cell? ⟨g,0,none⟩=some (.string ⟨p.c.1.toArray⟩)/\w'.cell? ⟨g,1,none⟩=some (.string ⟨p.c.2.toArray⟩)/\w'.cell? ⟨g,34,none⟩=some (.string ⟨p.tr.toArray⟩)/\w'.cell? ⟨g,35,none⟩=some (.int .i64 p.st)/\w'.cell? ⟨g,36,none⟩=some (.int .i64 p.en):=by
 have M:(bvs p.ss).length=32:=by rw[AG];exact hk
 have key:∀j,w'.cell? ⟨g,34+j,none⟩=([.string ⟨p.tr.toArray⟩,.int .i64 p.st,.int .i64 p.en]:List Value)[j]?:=fun j=>by
  rw[h.cell,List.getElem?_toArray,ptC,List.getElem?_append_right (by simp [prC];omega),List.getElem?_append_right (by simp [prC];omega)]
  congr 1
  simp [prC,M];omega
 refine⟨by rw[h.cell];rfl,by rw[h.cell];rfl,key 0,key 1,key 2⟩
theorem FI {p:Pt} (hk:p.ss.length=32):(ptC p).toArray.size=37:=by
 simp [ptC,prC,AG,hk]
attribute [local go_sem] Et List.getElem_cons_zero List.getElem_cons_succ
theorem OC (p:Pt) (w:World) (hk:p.ss.length=32) (hs:pSm p.c) (ht:p.tr.length<=1000000000):Calls Tryz.prog 38 #[.agg (ptC p).toArray] w fun e w'=>e=.returned (.bool (ptB p))/\Below w.heap.size w w':=by
 have HI:=I (show(Tryz.prog.info? 33).map (·.size)=some (ptC p).toArray.size by rw[FI hk];kernel_rfl);have CF:=I (show ∀w':World,Blk w' w.heap.size 33 (ptC p).toArray->w'.cell? ⟨w.heap.size,0,none⟩=some (.string ⟨p.c.1.toArray⟩)/\w'.cell? ⟨w.heap.size,1,none⟩=some (.string ⟨p.c.2.toArray⟩)/\w'.cell? ⟨w.heap.size,34,none⟩=some (.string ⟨p.tr.toArray⟩)/\w'.cell? ⟨w.heap.size,35,none⟩=some (.int .i64 p.st)/\w'.cell? ⟨w.heap.size,36,none⟩=some (.int .i64 p.en) from fun w' h=>IN hk h);obtain⟨cs,av⟩:=Ak ((ptC p).toArray);rw[<-av] at HI CF⊢;clear av;have O:=I ((Below.refl w.heap.size w).alloc Ag (.cells cs 33));have Z:=I (Blk.new w 33 cs);have T1:=I (fun w1=>AW p.c w1 hs.1 hs.2);have T2:=I (fun w1=>Lr p.st w1);have T3:=I (fun w1=>Lr p.en w1);obtain⟨k0,k1,k2,k3,k4⟩:=CF.o _ Z.o;clear hs;go_enter Tryz.func38,Tryz.ntmps38
 go_wp2
 go_loop [3] (fun iv=>∃k:Nat,k<=p.tr.length/\iv=.int .i64 (k:Int)/\FitT p.tr k) (fun iv=>p.tr.length - (intOf iv).toNat)
 case atStart=>exact⟨0,Nat.zero_le _,rfl,fun i _ h=>by omega⟩
 case round=>
  obtain⟨k,bn,rfl,hf⟩:=hrel;have HF:=I hf;clear hf
  by_cases hlt:k<p.tr.length
  ·have e1:(k:Int)<(p.tr.length:Int):=by omega
   by_cases b1:p.tr[k].toNat<32
   ·have E:=I (show ptB p=false by rw[ptB,OB hlt (Or.inl b1)];rfl)
    have bb:decide ((p.tr[k].toNat:Int)<32)=true:=by simp;omega
    clear b1
    go_wp2
    go_ret;exact⟨by rw[E.o];rfl,O.o⟩
   ·have bb:decide ((p.tr[k].toNat:Int)<32)=false:=by simp;omega
    by_cases b2:126<p.tr[k].toNat
    ·have E:=I (show ptB p=false by rw[ptB,OB hlt (Or.inr b2)];rfl)
     have aw:decide (126<(p.tr[k].toNat:Int))=true:=by simp;omega
     clear b1 b2
     go_wp2
     go_ret;exact⟨by rw[E.o];rfl,O.o⟩
    ·have aw:decide (126<(p.tr[k].toNat:Int))=false:=by simp;omega
     have HP:=I (show 32<=p.tr[k].toNat/\p.tr[k].toNat<=126 from⟨by omega,by omega⟩);clear b1 b2
     go_wp2
     go_round
     case rel=>exact⟨k+1,by omega,by go_num,fun i hi bq=>by
      by_cases q:i=k
      ·subst q;exact HP.o
      ·exact HF.o i hi (by omega)⟩
     case measure=>simp [intOf];omega
  ·have HT:=I (Uk (fun i hi _=>HF.o i hi (by omega)))
   have e1:¬(k:Int)<(p.tr.length:Int):=by omega
   clear HF;cases h1:prB p.c with
   |false=>
    rw[h1] at T1;have E:=I (show ptB p=false by rw[ptB,HT.o,h1];rfl);clear h1
    go_wp2_with (first
     |(go_at_call 29;(with_reducible refine Calls.mono (T1.o _) ?_);rintro e w1 ⟨rfl,M⟩;replace Z:=I (Z.o.below M);replace O:=O.t M;clear M T1;(try clear k0 k1 k2 k3 k4);obtain⟨k0,k1,k2,k3,k4⟩:=CF.o _ Z.o))
    go_ret;exact⟨by rw[E.o];rfl,O.o⟩
   |true=>
    rw[h1] at T1
    by_cases h0:p.tr.length<=300
    ·have g3:decide ((p.tr.length:Int)<=300)=true:=by simp;omega
     cases h2:tmB p.st with
     |false=>
      rw[h2] at T2;have E:=I (show ptB p=false by rw[ptB,HT.o,h1,h2,decide_eq_true h0];rfl);clear h1 h2 h0
      go_wp2_with (first
       |(go_at_call 29;(with_reducible refine Calls.mono (T1.o _) ?_);rintro e w1 ⟨rfl,M⟩;replace Z:=I (Z.o.below M);replace O:=O.t M;clear M T1;(try clear k0 k1 k2 k3 k4);obtain⟨k0,k1,k2,k3,k4⟩:=CF.o _ Z.o)
       |(go_at_call 73;(with_reducible refine Calls.mono (T2.o _) ?_);rintro e w2 ⟨rfl,hw⟩;subst hw;clear T2))
      go_ret;exact⟨by rw[E.o];rfl,O.o⟩
     |true=>
      rw[h2] at T2;have E:=I (show ptB p=tmB p.en by rw[ptB,HT.o,h1,h2,decide_eq_true h0];rfl);clear h1 h2 h0
      go_wp2_with (first
       |(go_at_call 29;(with_reducible refine Calls.mono (T1.o _) ?_);rintro e w1 ⟨rfl,M⟩;replace Z:=I (Z.o.below M);replace O:=O.t M;clear M T1;(try clear k0 k1 k2 k3 k4);obtain⟨k0,k1,k2,k3,k4⟩:=CF.o _ Z.o)
       |(go_at_call 73;(with_reducible refine Calls.mono (T2.o _) ?_);rintro e w2 ⟨rfl,hw⟩;subst hw;clear T2)
       |(go_at_call 73;(with_reducible refine Calls.mono (T3.o _) ?_);rintro e w3 ⟨rfl,hw⟩;subst hw;clear T3))
      go_ret;exact⟨by rw[E.o];rfl,O.o⟩
    ·have g3:decide ((p.tr.length:Int)<=300)=false:=by simp;omega
     have E:=I (show ptB p=false by rw[ptB,HT.o,h1,decide_eq_false h0];rfl);clear h1 h0
     go_wp2_with (first
      |(go_at_call 29;(with_reducible refine Calls.mono (T1.o _) ?_);rintro e w1 ⟨rfl,M⟩;replace Z:=I (Z.o.below M);replace O:=O.t M;clear M T1;(try clear k0 k1 k2 k3 k4);obtain⟨k0,k1,k2,k3,k4⟩:=CF.o _ Z.o))
     go_ret;exact⟨by rw[E.o];rfl,O.o⟩
end Ms
namespace Ms
open Go.RowKit Af DerP DerR
theorem MS {p:Pt} {g:Nat} {t:TypeId} {w':World} (h:Blk w' g t (ptC p).toArray):Rd w' w'.heap.size (some ⟨g,2,none⟩) (bvs p.ss):=by
 refine .inr ⟨g,2,rfl,h.lt,fun i u hu=>?_⟩;have hi:i<(bvs p.ss).length:=(List.getElem?_eq_some_iff.1 hu).1;rw[h.cell,List.getElem?_toArray,ptC,List.getElem?_append_right (by simp [prC]),List.getElem?_append_left (by simp [prC];exact hi)]
 simpa [prC] using hu
theorem MT (p:Pt) (w:World) (hk:p.ss.length=32) (hs:pSm p.c) (ht:p.tr.length<=1000000000):Calls Tryz.prog 17 #[.agg (ptC p).toArray] w (EncR w (ptO p)):=by
 have HI:=I (show(Tryz.prog.info? 33).map (·.size)=some (ptC p).toArray.size by rw[FI hk];kernel_rfl);have CF:=I (show ∀w':World,Blk w' w.heap.size 33 (ptC p).toArray->w'.cell? ⟨w.heap.size,0,none⟩=some (.string ⟨p.c.1.toArray⟩)/\w'.cell? ⟨w.heap.size,1,none⟩=some (.string ⟨p.c.2.toArray⟩)/\w'.cell? ⟨w.heap.size,34,none⟩=some (.string ⟨p.tr.toArray⟩)/\w'.cell? ⟨w.heap.size,35,none⟩=some (.int .i64 p.st)/\w'.cell? ⟨w.heap.size,36,none⟩=some (.int .i64 p.en) from fun w' h=>IN hk h);have I1:=I (fun w1=>OC p w1 hk hs ht);have T2:=I (fun w1 (h:Blk w1 w.heap.size 33 (ptC p).toArray)=>DerR.Dl p.ss (some ⟨w.heap.size,2,none⟩) 32 32 w1.heap.size w1 (MS h) hk.symm Ag (by omega));obtain⟨cs,ca⟩:=Ak ((ptC p).toArray);rw[<-ca] at HI CF I1 T2⊢;clear ca;have O:=I ((Below.refl w.heap.size w).alloc Ag (.cells cs 33));have Z:=I (Blk.new w 33 cs);cases hx:ptB p with
 |false=>
  rw[hx] at I1;have E:=I (show ptO p=none by unfold ptO limO;rw[hx];rfl);rw[E.o];clear hx E;go_enter Tryz.func17,Tryz.ntmps17
  go_wp2_with (first
   |(refine Al (by rfl) 33 (.tmp 1) (by rfl) w.heap.size 0 (by rfl) cs _ (Ad (Blk.new w 33 cs)) Tryz.underlying33 (by rfl) HI.o ?_)
   |(go_at_call 38;refine Aj (I1.o _) ?_;rintro w1 M;replace O:=O.t M;clear M I1)
   |fail)
  go_ret2
  exact FY O.o
 |true=>
  rw[hx] at I1;have hp:prB p.c=true:=(Dy hx).2.1;have h3:p.tr.length<=300:=(Dy hx).2.2.1;have b1:=GV hp;have b2:=(AY hp).1;have b3:=AK p.st;have b4:=AK p.en;have b5:=AE 27 p.tr;have b6:=AE 4 p.ss;have T1:=I (fun w1=>Ig p.c w1 (by omega) (by omega));have T3:=I (fun w1=>DerR.EH p.tr w1 (by omega));have T4:=I (fun w1=>DerR.BP p.st w1);have T5:=I (fun w1=>DerR.BP p.en w1);have hl:[prE p.c,elem 4 p.ss,elem 27 p.tr,encI p.st,encI p.en].flatten.length<=1900:=by rw[Gs];simp only[List.length_append];omega
  have HL:=I (show [prE p.c,elem 4 p.ss,elem 27 p.tr,encI p.st,encI p.en].flatten.length<=65535 by omega);have hE:=AE 99 [prE p.c,elem 4 p.ss,elem 27 p.tr,encI p.st,encI p.en].flatten;have E:=I (show ptO p=some (elem 99 [prE p.c,elem 4 p.ss,elem 27 p.tr,encI p.st,encI p.en].flatten) from BS.2 ⟨hx,by show(elem 99 [prE p.c,elem 4 p.ss,elem 27 p.tr,encI p.st,encI p.en].flatten).length<=2000;omega,rfl⟩);rw[E.o];rw[Gs] at hE hl⊢;obtain⟨l1,cg⟩:∃l,l=prE p.c:=⟨_,rfl⟩;obtain⟨l2,bq⟩:∃l,l=elem 4 p.ss:=⟨_,rfl⟩;obtain⟨l3,bx⟩:∃l,l=elem 27 p.tr:=⟨_,rfl⟩;obtain⟨l4,cb⟩:∃l,l=encI p.st:=⟨_,rfl⟩;obtain⟨l5,bs⟩:∃l,l=encI p.en:=⟨_,rfl⟩;rw[<-cg] at T1 HL hE hl⊢;rw[<-bq] at T2 HL hE hl⊢;rw[<-bx] at T3 HL hE hl⊢;rw[<-cb] at T4 HL hE hl⊢;rw[<-bs] at T5 HL hE hl⊢;have cm:(elem 99 (l1++(l2++(l3++(l4++l5))))).length<=2000:=by omega
  have LM:=I (fun A c w1=>JH (elem 99 (l1++(l2++(l3++(l4++l5))))) A _ c w1 rfl cm);clear hx E hE hl cm cg bq bx cb bs hp h3 b1 b2 b3 b4 b5 b6 hs hk ht;go_enter Tryz.func17,Tryz.ntmps17
  go_wp2_with (first
   |(refine Al (by rfl) 33 (.tmp 1) (by rfl) w.heap.size 0 (by rfl) cs _ (Ad (Blk.new w 33 cs)) Tryz.underlying33 (by rfl) HI.o ?_)
   |(go_at_call 38;refine Aj (I1.o _) ?_;rintro w0 M;replace Z:=I (Z.o.below M);replace O:=O.t M;clear M I1)
   |fail)
  replace Z:=I (show Blk w0.drew _ _ _ from Z.o.drewN 1);replace O:=I (show Below _ _ w0.drew from below_drewN O.o 1)
  go_region_held3 (fun w'=>w'.cell? ⟨w.heap.size,0,none⟩=some (.string ⟨p.c.1.toArray⟩)/\w'.cell? ⟨w.heap.size,1,none⟩=some (.string ⟨p.c.2.toArray⟩)/\w'.cell? ⟨w.heap.size,34,none⟩=some (.string ⟨p.tr.toArray⟩)/\w'.cell? ⟨w.heap.size,35,none⟩=some (.int .i64 p.st)/\w'.cell? ⟨w.heap.size,36,none⟩=some (.int .i64 p.en)) (first | exact CF.o _ Z.o | exact CF.o _ (Z.o.alloc _)) ((first
   |(go_at_call 41;(with_reducible refine Calls.mono (T1.o _) ?_);rintro e w1 ⟨⟨g1,c1,rfl,cu,cA,cf⟩,M⟩;clear T1;have av:=I cf;replace Z:=I (Z.o.below M);replace O:=O.t M;clear M cf cu cA)
   |(go_at_call 42;(with_reducible refine Calls.mono (T2.o _ Z.o) ?_);rintro e w2 ⟨⟨g2,c2,rfl,cy,cr,cj⟩,M⟩;clear T2;replace av:=I (Bh av.o M);have aw:=I cj;replace Z:=I (Z.o.below M);replace O:=O.t M;clear M cj cy cr)
   |(go_at_call 43;(with_reducible refine Calls.mono (T3.o _) ?_);rintro e w3 ⟨⟨g3,c3,rfl,cM,cL,bB⟩,M⟩;clear T3;replace av:=I (Bh av.o M);replace aw:=I (Bh aw.o M);have bb:=I bB;replace Z:=I (Z.o.below M);replace O:=O.t M;clear M bB cM cL)
   |(go_at_call 44;(with_reducible refine Calls.mono (T4.o _) ?_);rintro e w4 ⟨⟨g4,c4,rfl,cq,ct,bz⟩,M⟩;clear T4;replace av:=I (Bh av.o M);replace aw:=I (Bh aw.o M);replace bb:=I (Bh bb.o M);have bn:=I bz;replace Z:=I (Z.o.below M);replace O:=O.t M;clear M bz cq ct)
   |(go_at_call 44;(with_reducible refine Calls.mono (T5.o _) ?_);rintro e w5 ⟨⟨g5,c5,rfl,cB,cw,cd⟩,M⟩;clear T5;replace av:=I (Bh av.o M);replace aw:=I (Bh aw.o M);replace bb:=I (Bh bb.o M);replace bn:=I (Bh bn.o M);have cx:=I cd;replace Z:=I (Z.o.below M);replace O:=O.t M;clear M cd cB cw)
   |(go_at_call 40;refine Calls.mono (Dv 99 [l1,l2,l3,l4,l5] _ 5 5 (w5.heap.size+1) _ (Lq av.o aw.o bb.o bn.o cx.o) rfl (by simp) HL.o (by simp)) ?_;rintro e wz ⟨⟨gz,cz,rfl,cc,cp,ck⟩,M⟩;have cn:=(Below.refl w5.heap.size w5).alloc Ag (.cells #[.slice (some ⟨g1,0,none⟩) l1.length c1,.slice (some ⟨g2,0,none⟩) l2.length c2,.slice (some ⟨g3,0,none⟩) l3.length c3,.slice (some ⟨g4,0,none⟩) l4.length c4,.slice (some ⟨g5,0,none⟩) l5.length c5] 22);have HG:=I (Bg (l:=elem 99 [l1,l2,l3,l4,l5].flatten) ⟨⟨gz,cz,rfl,cc,cp,ck⟩,M⟩ (O.o.trans (cn.mono O.o.size)));rw[Gs] at HG;replace Z:=I ((Z.o.alloc (.cells #[.slice (some ⟨g1,0,none⟩) l1.length c1,.slice (some ⟨g2,0,none⟩) l2.length c2,.slice (some ⟨g3,0,none⟩) l3.length c3,.slice (some ⟨g4,0,none⟩) l4.length c4,.slice (some ⟨g5,0,none⟩) l5.length c5] 22)).below M);clear cn cc cp ck M)
   |(go_at_call 39;refine Aj (LM.o _ _ _) ?_;rintro wy rfl)))
  go_wp2
  go_ret2
  exact FZ HG.o
end Ms
namespace Ms
open Go.RowKit Af DerP
theorem JI (t:Tk) (A:Option Addr) (c:Nat) (w:World):Calls Tryz.prog 79 #[.agg #[.string ⟨t.s.1.toArray⟩,.string ⟨t.s.2.toArray⟩,.int .i64 t.k,.slice A t.b.length c]] w fun e w'=>e=.returned (.bool (decide (t=tk0)))/\Below w.heap.size w w':=by
 obtain⟨⟨r,n⟩,k,b⟩:=t;have M:=I ((Below.refl w.heap.size w).alloc Ag (.cells #[.string ⟨r.toArray⟩,.string ⟨n.toArray⟩,.int .i64 k,.slice A b.length c] 74));simp only
 by_cases hr:r = []
 ·subst hr
  by_cases hn:n = []
  ·subst hn
   by_cases hk:k=0
   ·subst hk
    by_cases hb:b = []
    ·subst hb
     have E:=I (show decide ((⟨([],[]),0,[]⟩:Tk)=tk0)=true from rfl);go_enter Tryz.func79,Tryz.ntmps79
     go_wp2
     go_ret;exact⟨by rw[E.o];rfl,M.o⟩
    ·have O:((b.length:Int)==0)=false:=by simpa using hb
     have E:=I (show decide ((⟨([],[]),0,b⟩:Tk)=tk0)=false from decide_eq_false (fun h=>hb (congrArg Tk.b h)));go_enter Tryz.func79,Tryz.ntmps79
     go_wp2
     go_ret;exact⟨by rw[E.o];rfl,M.o⟩
   ·have O:(k==0)=false:=by simpa using hk
    have E:=I (show decide ((⟨([],[]),k,b⟩:Tk)=tk0)=false from decide_eq_false (fun h=>hk (congrArg Tk.k h)));go_enter Tryz.func79,Tryz.ntmps79
    go_wp2
    go_ret;exact⟨by rw[E.o];rfl,M.o⟩
  ·have O:(n == [])=false:=by simpa using hn
   have E:=I (show decide ((⟨([],n),k,b⟩:Tk)=tk0)=false from decide_eq_false (fun h=>hn (congrArg (fun t=>t.s.2) h)));go_enter Tryz.func79,Tryz.ntmps79
   go_wp2
   go_ret;exact⟨by rw[E.o];rfl,M.o⟩
 ·have O:(r == [])=false:=by simpa using hr
  have E:=I (show decide ((⟨(r,n),k,b⟩:Tk)=tk0)=false from decide_eq_false (fun h=>hr (congrArg (fun t=>t.s.1) h)));go_enter Tryz.func79,Tryz.ntmps79
  go_wp2
  go_ret;exact⟨by rw[E.o];rfl,M.o⟩
def mSm (m:Mg):Prop:=(pSm m.aq.c/\pSm m.aq.s)/\(pSm m.tg.t.s/\pSm m.tg.s)/\(pSm m.re.c/\pSm m.re.t.s)/\pSm m.ap.t.s
section
variable {α:Type}
theorem dx (x:As) (f:Bool->α):(if x.c.1 = [] then if x.c.2 = [] then if x.s.1 = [] then if x.s.2 = [] then if x.t=0 then if x.no=0 then f true else f false else f false else f false else f false else f false else f false)=f (decide (x=as0)):=by
 obtain⟨⟨a,b⟩,⟨c,d⟩,t,n⟩:=x
 by_cases h1:a = []
 ·by_cases h2:b = []
  ·by_cases h3:c = []
   ·by_cases h4:d = []
    ·by_cases h5:t=0
     ·by_cases h6:n=0
      ·simp [h1,h2,h3,h4,h5,h6,as0,pr0]
      ·simp [h1,h2,h3,h4,h5,h6,as0,pr0]
     ·simp [h1,h2,h3,h4,h5,as0,pr0]
    ·simp [h1,h2,h3,h4,as0,pr0]
   ·simp [h1,h2,h3,as0,pr0]
  ·simp [h1,h2,as0,pr0]
 ·simp [h1,as0,pr0]
theorem dy (x:Pr) (f:Bool->α):(if x.1 = [] then if x.2 = [] then f true else f false else f false)=f (decide (x=pr0)):=by
 obtain⟨a,b⟩:=x
 by_cases h1:a = []
 ·by_cases h2:b = []
  ·simp [h1,h2,pr0]
  ·simp [h1,h2,pr0]
 ·simp [h1,pr0]
theorem Ul (x:Fa) (f:Bool->α):(if x.e=0 then if x.no=0 then f true else f false else f false)=f (decide (x=fa0)):=by
 obtain⟨a,b⟩:=x
 by_cases h1:a=0
 ·by_cases h2:b=0
  ·simp [h1,h2,fa0]
  ·simp [h1,h2,fa0]
 ·simp [h1,fa0]
end
theorem ah (x:Tg):decide (x=tg0)=(decide (x.t=tk0)&&(decide (x.a = [])&&(decide (x.s=pr0)&&(decide (x.u=0)&&decide (x.no=0))))):=by
 obtain⟨t,a,s,u,n⟩:=x;simp [tg0,Bool.decide_and]
theorem ai (x:Re):decide (x=re0)=(decide (x.c=pr0)&&(decide (x.t=tk0)&&decide (x.b = []))):=by
 obtain⟨c,t,b⟩:=x;simp [re0,Bool.decide_and]
theorem aj (x:Ap):decide (x=ap0)=(decide (x.t=tk0)&&decide (x.a = [])):=by
 obtain⟨t,a⟩:=x;simp [ap0,Bool.decide_and]
theorem ak (m:Mg):mgB m=if m.k=1 then asB m.aq&&(decide (m.tg=tg0)&&(decide (m.re=re0)&&(decide (m.ap=ap0)&&decide (m.fa=fa0))))
  else if m.k=2 then tgB m.tg&&(decide (m.aq=as0)&&(decide (m.re=re0)&&(decide (m.ap=ap0)&&decide (m.fa=fa0))))
  else if m.k=3 then (prB m.re.c&&(tkB m.re.t&&BR m.re.b))&&(decide (m.aq=as0)&&(decide (m.tg=tg0)&&(decide (m.ap=ap0)&&decide (m.fa=fa0))))
  else if m.k=4 then (tkB m.ap.t&&BR m.ap.a)&&(decide (m.aq=as0)&&(decide (m.tg=tg0)&&(decide (m.re=re0)&&decide (m.fa=fa0))))
  else if m.k=5 then (inB m.fa.e 1 255&&tmB m.fa.no)&&(decide (m.aq=as0)&&(decide (m.tg=tg0)&&(decide (m.re=re0)&&decide (m.ap=ap0)))) else false:=by
 obtain⟨k,a,t,r,p,f⟩:=m;unfold mgB;simp only[Mg.mk.injEq,true_and,and_true]
 by_cases h1:k=1
 ·simp [h1,Bool.decide_and]
 ·rw[if_neg h1,if_neg h1]
  by_cases h2:k=2
  ·simp [h2,Bool.decide_and]
  ·rw[if_neg h2,if_neg h2]
   by_cases h3:k=3
   ·simp [h3,reB,Bool.decide_and]
   ·rw[if_neg h3,if_neg h3]
    by_cases h4:k=4
    ·simp [h4,apB,Bool.decide_and]
    ·rw[if_neg h4,if_neg h4]
     by_cases h5:k=5
     ·simp [h5,faB,Bool.decide_and]
     ·rw[if_neg h5,if_neg h5]
theorem an (m:Mg) (A1 A2 A3 A4 A5 A6:Option Addr) (c1 c2 c3 c4 c5 c6:Nat) (w:World) (hs:mSm m) (cj:m.k=4) (hQ:m.aq=as0) (hT:m.tg=tg0) (hR:m.re=re0) :
  Calls Tryz.prog 49 #[.agg #[.int .i64 m.k,.string ⟨m.aq.c.1.toArray⟩,.string ⟨m.aq.c.2.toArray⟩,.string ⟨m.aq.s.1.toArray⟩,.string ⟨m.aq.s.2.toArray⟩,.int .i64 m.aq.t,.int .i64 m.aq.no,.string ⟨m.tg.t.s.1.toArray⟩,.string ⟨m.tg.t.s.2.toArray⟩,.int .i64 m.tg.t.k,.slice A1 m.tg.t.b.length c1,.slice A2 m.tg.a.length c2,.string ⟨m.tg.s.1.toArray⟩,.string ⟨m.tg.s.2.toArray⟩,.int .i64 m.tg.u,.int .i64 m.tg.no,.string ⟨m.re.c.1.toArray⟩,.string ⟨m.re.c.2.toArray⟩,.string ⟨m.re.t.s.1.toArray⟩,.string ⟨m.re.t.s.2.toArray⟩,.int .i64 m.re.t.k,.slice A3 m.re.t.b.length c3,.slice A4 m.re.b.length c4,.string ⟨m.ap.t.s.1.toArray⟩,.string ⟨m.ap.t.s.2.toArray⟩,.int .i64 m.ap.t.k,.slice A5 m.ap.t.b.length c5,.slice A6 m.ap.a.length c6,.int .i64 m.fa.e,.int .i64 m.fa.no]] w fun e w'=>e=.returned (.bool (mgB m))/\Below w.heap.size w w':=by
 have Z:=I ((Below.refl w.heap.size w).alloc Ag (.cells #[.int .i64 m.k,.string ⟨m.aq.c.1.toArray⟩,.string ⟨m.aq.c.2.toArray⟩,.string ⟨m.aq.s.1.toArray⟩,.string ⟨m.aq.s.2.toArray⟩,.int .i64 m.aq.t,.int .i64 m.aq.no,.string ⟨m.tg.t.s.1.toArray⟩,.string ⟨m.tg.t.s.2.toArray⟩,.int .i64 m.tg.t.k,.slice A1 m.tg.t.b.length c1,.slice A2 m.tg.a.length c2,.string ⟨m.tg.s.1.toArray⟩,.string ⟨m.tg.s.2.toArray⟩,.int .i64 m.tg.u,.int .i64 m.tg.no,.string ⟨m.re.c.1.toArray⟩,.string ⟨m.re.c.2.toArray⟩,.string ⟨m.re.t.s.1.toArray⟩,.string ⟨m.re.t.s.2.toArray⟩,.int .i64 m.re.t.k,.slice A3 m.re.t.b.length c3,.slice A4 m.re.b.length c4,.string ⟨m.ap.t.s.1.toArray⟩,.string ⟨m.ap.t.s.2.toArray⟩,.int .i64 m.ap.t.k,.slice A5 m.ap.t.b.length c5,.slice A6 m.ap.a.length c6,.int .i64 m.fa.e,.int .i64 m.fa.no] 86));have M:=I (Blk.new w 86 #[.int .i64 m.k,.string ⟨m.aq.c.1.toArray⟩,.string ⟨m.aq.c.2.toArray⟩,.string ⟨m.aq.s.1.toArray⟩,.string ⟨m.aq.s.2.toArray⟩,.int .i64 m.aq.t,.int .i64 m.aq.no,.string ⟨m.tg.t.s.1.toArray⟩,.string ⟨m.tg.t.s.2.toArray⟩,.int .i64 m.tg.t.k,.slice A1 m.tg.t.b.length c1,.slice A2 m.tg.a.length c2,.string ⟨m.tg.s.1.toArray⟩,.string ⟨m.tg.s.2.toArray⟩,.int .i64 m.tg.u,.int .i64 m.tg.no,.string ⟨m.re.c.1.toArray⟩,.string ⟨m.re.c.2.toArray⟩,.string ⟨m.re.t.s.1.toArray⟩,.string ⟨m.re.t.s.2.toArray⟩,.int .i64 m.re.t.k,.slice A3 m.re.t.b.length c3,.slice A4 m.re.b.length c4,.string ⟨m.ap.t.s.1.toArray⟩,.string ⟨m.ap.t.s.2.toArray⟩,.int .i64 m.ap.t.k,.slice A5 m.ap.t.b.length c5,.slice A6 m.ap.a.length c6,.int .i64 m.fa.e,.int .i64 m.fa.no]);have N1:=I (fun w1=>JI m.tg.t A1 c1 w1);have N2:=I (fun w1=>JI m.re.t A3 c3 w1);have N3:=I (fun w1=>JI m.ap.t A5 c5 w1);have bx:=I cj;have HQ:=I hQ;have HT:=I hT;have HR:=I hR;have HZ:=I hs;clear hs cj hQ hT hR;go_enter Tryz.func49,Tryz.ntmps49
 go_upto_region 2 with fail
 obtain⟨W,eW⟩:=Ak (w.alloc (.cells #[.int .i64 m.k,.string ⟨m.aq.c.1.toArray⟩,.string ⟨m.aq.c.2.toArray⟩,.string ⟨m.aq.s.1.toArray⟩,.string ⟨m.aq.s.2.toArray⟩,.int .i64 m.aq.t,.int .i64 m.aq.no,.string ⟨m.tg.t.s.1.toArray⟩,.string ⟨m.tg.t.s.2.toArray⟩,.int .i64 m.tg.t.k,.slice A1 m.tg.t.b.length c1,.slice A2 m.tg.a.length c2,.string ⟨m.tg.s.1.toArray⟩,.string ⟨m.tg.s.2.toArray⟩,.int .i64 m.tg.u,.int .i64 m.tg.no,.string ⟨m.re.c.1.toArray⟩,.string ⟨m.re.c.2.toArray⟩,.string ⟨m.re.t.s.1.toArray⟩,.string ⟨m.re.t.s.2.toArray⟩,.int .i64 m.re.t.k,.slice A3 m.re.t.b.length c3,.slice A4 m.re.b.length c4,.string ⟨m.ap.t.s.1.toArray⟩,.string ⟨m.ap.t.s.2.toArray⟩,.int .i64 m.ap.t.k,.slice A5 m.ap.t.b.length c5,.slice A6 m.ap.a.length c6,.int .i64 m.fa.e,.int .i64 m.fa.no] 86));rw[<-eW] at Z M⊢;clear eW
 go_cut [4,5] from 11 to 44 (fun av tv wx=>av=.bool (decide (m.aq=as0))/\tv=.bool (decide (m.tg=tg0))/\Below w.heap.size w wx/\Blk wx w.heap.size 86 #[.int .i64 m.k,.string ⟨m.aq.c.1.toArray⟩,.string ⟨m.aq.c.2.toArray⟩,.string ⟨m.aq.s.1.toArray⟩,.string ⟨m.aq.s.2.toArray⟩,.int .i64 m.aq.t,.int .i64 m.aq.no,.string ⟨m.tg.t.s.1.toArray⟩,.string ⟨m.tg.t.s.2.toArray⟩,.int .i64 m.tg.t.k,.slice A1 m.tg.t.b.length c1,.slice A2 m.tg.a.length c2,.string ⟨m.tg.s.1.toArray⟩,.string ⟨m.tg.s.2.toArray⟩,.int .i64 m.tg.u,.int .i64 m.tg.no,.string ⟨m.re.c.1.toArray⟩,.string ⟨m.re.c.2.toArray⟩,.string ⟨m.re.t.s.1.toArray⟩,.string ⟨m.re.t.s.2.toArray⟩,.int .i64 m.re.t.k,.slice A3 m.re.t.b.length c3,.slice A4 m.re.b.length c4,.string ⟨m.ap.t.s.1.toArray⟩,.string ⟨m.ap.t.s.2.toArray⟩,.int .i64 m.ap.t.k,.slice A5 m.ap.t.b.length c5,.slice A6 m.ap.a.length c6,.int .i64 m.fa.e,.int .i64 m.fa.no])
 case first=>
  have TF:=I (ah m.tg);replace M:=I (show Blk W.drew _ _ _ from M.o.drewN 1);replace Z:=I (show Below _ _ W.drew from below_drewN Z.o 1);obtain⟨b1,q1⟩:∃b,b=decide (m.tg.t=tk0):=⟨_,rfl⟩;rw[<-q1] at N1;have Q1:=I q1;clear q1;refine Reg.Cd 36 rfl (by kernel_rfl) ?_;refine Reg.tz 0 rfl ?_;refine Reg.tx 1 rfl (fun w' hS=>by have hk:=M.o.below hS;have k1:=hk.c1;have k2:=hk.c2;have k3:=hk.c3;have k4:=hk.c4;have k5:=hk.c5;have k6:=hk.c6;go_simp;rfl) ?_;refine Reg.tz 2 rfl ?_;refine Reg.tx 3 (v:=.bool (decide (m.aq=as0))) rfl (fun w' hS=>by go_simp;exact dx m.aq (fun b=>Result.ok (Next.value (.bool b)) w')) ?_;refine Reg.tz 4 rfl ?_;refine Reg.tz 5 rfl ?_;refine Reg.tx 6 rfl (fun w' hS=>by have hk:=M.o.below hS;have k7:=hk.c7;have k8:=hk.c8;have k9:=hk.c9;have ct:=hk.c10;go_simp;rfl) ?_;refine Reg.Fi 7 rfl (by kernel_rfl) (by rfl) 79 #[.agg #[.string ⟨m.tg.t.s.1.toArray⟩,.string ⟨m.tg.t.s.2.toArray⟩,.int .i64 m.tg.t.k,.slice A1 m.tg.t.b.length c1]] (by go_simp) ?_;refine Aj (N1.o _) ?_;rintro wn O;refine⟨_,rfl,O,?_⟩;replace M:=I (M.o.below O);replace Z:=Z.t O;clear O;simp only[Act.put,U,Aa,Ab];refine Reg.tz 8 rfl ?_;cases b1 with
  |false=>
   have E:=I (show decide (m.tg=tg0)=false by rw[TF.o,<-Q1.o];rfl);refine Reg.sk 9 rfl ?_;refine Reg.sk 10 rfl ?_;refine Reg.sk 11 rfl ?_;refine Reg.sk 12 rfl ?_;refine Reg.sk 13 rfl ?_;refine Reg.tz 14 rfl ?_;refine Reg.tz 15 rfl ?_;refine Reg.sk 16 rfl ?_;refine Reg.sk 17 rfl ?_;refine Reg.sk 18 rfl ?_;refine Reg.sk 19 rfl ?_;refine Reg.sk 20 rfl ?_;refine Reg.tz 21 rfl ?_;refine Reg.tz 22 rfl ?_;refine Reg.sk 23 rfl ?_;refine Reg.sk 24 rfl ?_;refine Reg.sk 25 rfl ?_;refine Reg.sk 26 rfl ?_;refine Reg.tz 27 rfl ?_;refine Reg.tz 28 rfl ?_;refine Reg.sk 29 rfl ?_;refine Reg.sk 30 rfl ?_;refine Reg.sk 31 rfl ?_;refine Reg.sk 32 rfl ?_;refine Reg.tz 33 rfl ?_;refine Reg.tz 34 rfl ?_;refine Reg.tz 35 rfl ?_;refine wpAnyH_done (by kernel_rfl) ?_ _
   go_wp2_with fail
   go_meet
   exact⟨rfl,by rw[E.o],Z.o,M.o⟩
  |true=>
   cases q2:decide (m.tg.a = []) with
   |false=>exact absurd (decide_eq_true (show m.tg.a = [] by have h:=HT.o;rw[h];first | done | rfl)) (by rw[q2];decide)
   |true=>
    have t2:((m.tg.a.length:Int)==0)=true:=by simpa using q2
    have Q2:=I q2;clear q2;refine Reg.tz 9 rfl ?_;refine Reg.tz 10 rfl ?_;refine Reg.tx 11 rfl (fun w' hS=>by have hk:=M.o.below hS;have cn:=hk.c11;go_simp;rfl) ?_;refine Reg.tz 12 rfl ?_;refine Reg.tz 13 rfl ?_;refine Reg.tz 14 rfl ?_;refine Reg.tz 15 rfl ?_;cases q3:decide (m.tg.s=pr0) with
    |false=>exact absurd (decide_eq_true (show m.tg.s=pr0 by have h:=HT.o;rw[h];first | done | rfl)) (by rw[q3];decide)
    |true=>
     have SQ:=I q3;clear q3;refine Reg.tz 16 rfl ?_;refine Reg.tz 17 rfl ?_;refine Reg.tx 18 rfl (fun w' hS=>by have hk:=M.o.below hS;have cu:=hk.c12;have cx:=hk.c13;go_simp;rfl) ?_;refine Reg.tz 19 rfl ?_;refine Reg.tx 20 (v:=.bool true) rfl (fun w' hS=>by go_simp;exact(dy m.tg.s (fun b=>Result.ok (Next.value (.bool b)) w')).trans (by rw[SQ.o])) ?_;refine Reg.tz 21 rfl ?_;refine Reg.tz 22 rfl ?_;cases q4:decide (m.tg.u=0) with
     |false=>exact absurd (decide_eq_true (show m.tg.u=0 by have h:=HT.o;rw[h];first | done | rfl)) (by rw[q4];decide)
     |true=>
      have t4:(m.tg.u==0)=true:=by simpa using q4
      have Q4:=I q4;clear q4;refine Reg.tz 23 rfl ?_;refine Reg.tz 24 rfl ?_;refine Reg.tx 25 rfl (fun w' hS=>by have hk:=M.o.below hS;have cp:=hk.c14;go_simp;rfl) ?_;refine Reg.tz 26 rfl ?_;refine Reg.tz 27 rfl ?_;refine Reg.tz 28 rfl ?_;cases q5:decide (m.tg.no=0) with
      |false=>exact absurd (decide_eq_true (show m.tg.no=0 by have h:=HT.o;rw[h];first | done | rfl)) (by rw[q5];decide)
      |true=>
       have t5:(m.tg.no==0)=true:=by simpa using q5
       have E:=I (show decide (m.tg=tg0)=true by rw[TF.o,<-Q1.o,Q2.o,SQ.o,Q4.o,q5];rfl);clear q5;refine Reg.tz 29 rfl ?_;refine Reg.tz 30 rfl ?_;refine Reg.tx 31 rfl (fun w' hS=>by have hk:=M.o.below hS;have cr:=hk.c15;go_simp;rfl) ?_;refine Reg.tz 32 rfl ?_;refine Reg.tz 33 rfl ?_;refine Reg.tz 34 rfl ?_;refine Reg.tz 35 rfl ?_;refine wpAnyH_done (by kernel_rfl) ?_ _
       go_wp2_with fail
       go_meet
       exact⟨rfl,by rw[E.o],Z.o,M.o⟩
 case rest=>
  obtain⟨rfl,rfl,O,hk⟩:=hcut;replace Z:=I O;replace M:=I hk;clear O hk;obtain⟨zA,eA⟩:=Ak (decide (m.aq=as0));obtain⟨zT,eT⟩:=Ak (decide (m.tg=tg0));rw[<-eA,<-eT];have EA:=I eA;have ET:=I eT;clear eA eT;obtain⟨v0,cb⟩:∃v:Value,v=.agg #[.int .i64 m.k,.string ⟨m.aq.c.1.toArray⟩,.string ⟨m.aq.c.2.toArray⟩,.string ⟨m.aq.s.1.toArray⟩,.string ⟨m.aq.s.2.toArray⟩,.int .i64 m.aq.t,.int .i64 m.aq.no,.string ⟨m.tg.t.s.1.toArray⟩,.string ⟨m.tg.t.s.2.toArray⟩,.int .i64 m.tg.t.k,.slice A1 m.tg.t.b.length c1,.slice A2 m.tg.a.length c2,.string ⟨m.tg.s.1.toArray⟩,.string ⟨m.tg.s.2.toArray⟩,.int .i64 m.tg.u,.int .i64 m.tg.no,.string ⟨m.re.c.1.toArray⟩,.string ⟨m.re.c.2.toArray⟩,.string ⟨m.re.t.s.1.toArray⟩,.string ⟨m.re.t.s.2.toArray⟩,.int .i64 m.re.t.k,.slice A3 m.re.t.b.length c3,.slice A4 m.re.b.length c4,.string ⟨m.ap.t.s.1.toArray⟩,.string ⟨m.ap.t.s.2.toArray⟩,.int .i64 m.ap.t.k,.slice A5 m.ap.t.b.length c5,.slice A6 m.ap.a.length c6,.int .i64 m.fa.e,.int .i64 m.fa.no]:=⟨_,rfl⟩;rw[<-cb];clear cb
  go_upto_region 3 with fail
  go_cut [6] from 45 to 62 (fun rv wx=>rv=.bool (decide (m.re=re0))/\Below w.heap.size w wx/\Blk wx w.heap.size 86 #[.int .i64 m.k,.string ⟨m.aq.c.1.toArray⟩,.string ⟨m.aq.c.2.toArray⟩,.string ⟨m.aq.s.1.toArray⟩,.string ⟨m.aq.s.2.toArray⟩,.int .i64 m.aq.t,.int .i64 m.aq.no,.string ⟨m.tg.t.s.1.toArray⟩,.string ⟨m.tg.t.s.2.toArray⟩,.int .i64 m.tg.t.k,.slice A1 m.tg.t.b.length c1,.slice A2 m.tg.a.length c2,.string ⟨m.tg.s.1.toArray⟩,.string ⟨m.tg.s.2.toArray⟩,.int .i64 m.tg.u,.int .i64 m.tg.no,.string ⟨m.re.c.1.toArray⟩,.string ⟨m.re.c.2.toArray⟩,.string ⟨m.re.t.s.1.toArray⟩,.string ⟨m.re.t.s.2.toArray⟩,.int .i64 m.re.t.k,.slice A3 m.re.t.b.length c3,.slice A4 m.re.b.length c4,.string ⟨m.ap.t.s.1.toArray⟩,.string ⟨m.ap.t.s.2.toArray⟩,.int .i64 m.ap.t.k,.slice A5 m.ap.t.b.length c5,.slice A6 m.ap.a.length c6,.int .i64 m.fa.e,.int .i64 m.fa.no])
  case first=>
   have k16:=M.c16;have cg:=M.c17;have ck:=M.c18;have ca:=M.c19;have bB:=M.c20;have bz:=M.c21;have cf:=M.c22;have RF:=I (ai m.re);cases q1:decide (m.re.c=pr0) with
   |false=>exact absurd (decide_eq_true (show m.re.c=pr0 by have h:=HR.o;rw[h];first | done | rfl)) (by rw[q1];decide)
   |true=>
    have a0:m.re.c=pr0:=of_decide_eq_true q1;have a1:m.re.c.1 = []:=by rw[a0];rfl
    have a2:m.re.c.2 = []:=by rw[a0];rfl
    clear a0;cases q2:decide (m.re.t=tk0) with
    |false=>exact absurd (decide_eq_true (show m.re.t=tk0 by have h:=HR.o;rw[h];first | done | rfl)) (by rw[q2];decide)
    |true=>
     rw[q2] at N2;cases q3:decide (m.re.b = []) with
     |false=>exact absurd (decide_eq_true (show m.re.b = [] by have h:=HR.o;rw[h];first | done | rfl)) (by rw[q3];decide)
     |true=>
      have t2:((m.re.b.length:Int)==0)=true:=by simpa using q3
      have E:=I (show decide (m.re=re0)=true by rw[RF.o,q1,q2,q3];rfl);clear q1 q2 q3
      go_wp2_with (go_at_call 79;refine Aj (N2.o _) ?_;rintro wn O;replace M:=I (M.o.below O);replace Z:=Z.t O;clear O;clear k16 cg ck ca bB bz cf;have k16:=M.c16;have cg:=M.c17;have ck:=M.c18;have ca:=M.c19;have bB:=M.c20;have bz:=M.c21;have cf:=M.c22)
      go_meet
      exact⟨by rw[E.o],Z.o,M.o⟩
  case rest=>
   obtain⟨rfl,O,hk⟩:=hcut;replace Z:=I O;replace M:=I hk;clear O hk;obtain⟨zR,eR⟩:=Ak (decide (m.re=re0));rw[<-eR];have ER:=I eR;clear eR
   go_upto_region 4 with fail
   go_cut [7,8] from 63 to 77 (fun av fv wx=>av=.bool (decide (m.ap=ap0))/\fv=.bool (decide (m.fa=fa0))/\Below w.heap.size w wx/\Blk wx w.heap.size 86 #[.int .i64 m.k,.string ⟨m.aq.c.1.toArray⟩,.string ⟨m.aq.c.2.toArray⟩,.string ⟨m.aq.s.1.toArray⟩,.string ⟨m.aq.s.2.toArray⟩,.int .i64 m.aq.t,.int .i64 m.aq.no,.string ⟨m.tg.t.s.1.toArray⟩,.string ⟨m.tg.t.s.2.toArray⟩,.int .i64 m.tg.t.k,.slice A1 m.tg.t.b.length c1,.slice A2 m.tg.a.length c2,.string ⟨m.tg.s.1.toArray⟩,.string ⟨m.tg.s.2.toArray⟩,.int .i64 m.tg.u,.int .i64 m.tg.no,.string ⟨m.re.c.1.toArray⟩,.string ⟨m.re.c.2.toArray⟩,.string ⟨m.re.t.s.1.toArray⟩,.string ⟨m.re.t.s.2.toArray⟩,.int .i64 m.re.t.k,.slice A3 m.re.t.b.length c3,.slice A4 m.re.b.length c4,.string ⟨m.ap.t.s.1.toArray⟩,.string ⟨m.ap.t.s.2.toArray⟩,.int .i64 m.ap.t.k,.slice A5 m.ap.t.b.length c5,.slice A6 m.ap.a.length c6,.int .i64 m.fa.e,.int .i64 m.fa.no])
   case first=>
    have PF:=I (aj m.ap);replace M:=I (show Blk wc.drew _ _ _ from M.o.drewN 1);replace Z:=I (show Below _ _ wc.drew from below_drewN Z.o 1);cases q1:decide (m.ap.t=tk0) with
    |false=>
     rw[q1] at N3;have E:=I (show decide (m.ap=ap0)=false by rw[PF.o,q1];rfl);clear q1;refine Reg.Cd 17 rfl (by kernel_rfl) ?_;refine Reg.tz 0 rfl ?_;refine Reg.tz 1 rfl ?_;refine Reg.tx 2 rfl (fun w' hS=>by have hk:=M.o.below hS;have bq:=hk.c23;have bn:=hk.c24;have aw:=hk.c25;have bb:=hk.c26;go_simp;rfl) ?_;refine Reg.tz 11 rfl ?_;refine Reg.tx 12 rfl (fun w' hS=>by have hk:=M.o.below hS;have cc:=hk.c28;have cd:=hk.c29;go_simp;rfl) ?_;refine Reg.tz 13 rfl ?_;refine Reg.tx 14 (v:=.bool (decide (m.fa=fa0))) rfl (fun w' hS=>by go_simp;exact Ul m.fa (fun b=>Result.ok (Next.value (.bool b)) w')) ?_;refine Reg.Fi 3 rfl (by kernel_rfl) (by rfl) 79 #[.agg #[.string ⟨m.ap.t.s.1.toArray⟩,.string ⟨m.ap.t.s.2.toArray⟩,.int .i64 m.ap.t.k,.slice A5 m.ap.t.b.length c5]] (by go_simp) ?_;refine Aj (N3.o _) ?_;rintro wn O;refine⟨_,rfl,O,?_⟩;replace M:=I (M.o.below O);replace Z:=Z.t O;clear O;simp only[Act.put,U,Aa,Ab];refine Reg.tz 4 rfl ?_;refine Reg.sk 5 rfl ?_;refine Reg.sk 6 rfl ?_;refine Reg.sk 7 rfl ?_;refine Reg.sk 8 rfl ?_;refine Reg.sk 9 rfl ?_;refine Reg.tz 10 rfl ?_;refine Reg.tz 15 rfl ?_;refine Reg.tz 16 rfl ?_;refine wpAnyH_done (by kernel_rfl) ?_ _
     go_wp2_with fail
     go_meet
     exact⟨by rw[E.o],rfl,Z.o,M.o⟩
    |true=>
     rw[q1] at N3;cases q2:decide (m.ap.a = []) with
     |false=>
      have t2:((m.ap.a.length:Int)==0)=false:=by simpa using q2
      have E:=I (show decide (m.ap=ap0)=false by rw[PF.o,q1,q2];rfl);clear q1 q2;refine Reg.Cd 17 rfl (by kernel_rfl) ?_;refine Reg.tz 0 rfl ?_;refine Reg.tz 1 rfl ?_;refine Reg.tx 2 rfl (fun w' hS=>by have hk:=M.o.below hS;have bq:=hk.c23;have bn:=hk.c24;have aw:=hk.c25;have bb:=hk.c26;go_simp;rfl) ?_;refine Reg.tz 11 rfl ?_;refine Reg.tx 12 rfl (fun w' hS=>by have hk:=M.o.below hS;have cc:=hk.c28;have cd:=hk.c29;go_simp;rfl) ?_;refine Reg.tz 13 rfl ?_;refine Reg.tx 14 (v:=.bool (decide (m.fa=fa0))) rfl (fun w' hS=>by go_simp;exact Ul m.fa (fun b=>Result.ok (Next.value (.bool b)) w')) ?_;refine Reg.Fi 3 rfl (by kernel_rfl) (by rfl) 79 #[.agg #[.string ⟨m.ap.t.s.1.toArray⟩,.string ⟨m.ap.t.s.2.toArray⟩,.int .i64 m.ap.t.k,.slice A5 m.ap.t.b.length c5]] (by go_simp) ?_;refine Aj (N3.o _) ?_;rintro wn O;refine⟨_,rfl,O,?_⟩;replace M:=I (M.o.below O);replace Z:=Z.t O;clear O;simp only[Act.put,U,Aa,Ab];refine Reg.tz 4 rfl ?_;refine Reg.tz 5 rfl ?_;refine Reg.tz 6 rfl ?_;refine Reg.tx 7 rfl (fun w' hS=>by have hk:=M.o.below hS;have bs:=hk.c27;go_simp;rfl) ?_;refine Reg.tz 8 rfl ?_;refine Reg.tz 9 rfl ?_;refine Reg.tz 10 rfl ?_;refine Reg.tz 15 rfl ?_;refine Reg.tz 16 rfl ?_;refine wpAnyH_done (by kernel_rfl) ?_ _
      go_wp2_with fail
      go_meet
      exact⟨by rw[E.o],rfl,Z.o,M.o⟩
     |true=>
      have t2:((m.ap.a.length:Int)==0)=true:=by simpa using q2
      have E:=I (show decide (m.ap=ap0)=true by rw[PF.o,q1,q2];rfl);clear q1 q2;refine Reg.Cd 17 rfl (by kernel_rfl) ?_;refine Reg.tz 0 rfl ?_;refine Reg.tz 1 rfl ?_;refine Reg.tx 2 rfl (fun w' hS=>by have hk:=M.o.below hS;have bq:=hk.c23;have bn:=hk.c24;have aw:=hk.c25;have bb:=hk.c26;go_simp;rfl) ?_;refine Reg.tz 11 rfl ?_;refine Reg.tx 12 rfl (fun w' hS=>by have hk:=M.o.below hS;have cc:=hk.c28;have cd:=hk.c29;go_simp;rfl) ?_;refine Reg.tz 13 rfl ?_;refine Reg.tx 14 (v:=.bool (decide (m.fa=fa0))) rfl (fun w' hS=>by go_simp;exact Ul m.fa (fun b=>Result.ok (Next.value (.bool b)) w')) ?_;refine Reg.Fi 3 rfl (by kernel_rfl) (by rfl) 79 #[.agg #[.string ⟨m.ap.t.s.1.toArray⟩,.string ⟨m.ap.t.s.2.toArray⟩,.int .i64 m.ap.t.k,.slice A5 m.ap.t.b.length c5]] (by go_simp) ?_;refine Aj (N3.o _) ?_;rintro wn O;refine⟨_,rfl,O,?_⟩;replace M:=I (M.o.below O);replace Z:=Z.t O;clear O;simp only[Act.put,U,Aa,Ab];refine Reg.tz 4 rfl ?_;refine Reg.tz 5 rfl ?_;refine Reg.tz 6 rfl ?_;refine Reg.tx 7 rfl (fun w' hS=>by have hk:=M.o.below hS;have bs:=hk.c27;go_simp;rfl) ?_;refine Reg.tz 8 rfl ?_;refine Reg.tz 9 rfl ?_;refine Reg.tz 10 rfl ?_;refine Reg.tz 15 rfl ?_;refine Reg.tz 16 rfl ?_;refine wpAnyH_done (by kernel_rfl) ?_ _
      go_wp2_with fail
      go_meet
      exact⟨by rw[E.o],rfl,Z.o,M.o⟩
   case rest=>
    obtain⟨rfl,rfl,O,hk⟩:=hcut;replace Z:=I O;replace M:=I hk;clear O hk;obtain⟨zP,eP⟩:=Ak (decide (m.ap=ap0));obtain⟨zF,eF⟩:=Ak (decide (m.fa=fa0));rw[<-eP,<-eF];have HF:=I (ak m);rw[<-EA.o,<-ET.o,<-ER.o,<-eP,<-eF] at HF;clear eP eF EA ET ER N1 N2 N3
    by_cases m1:m.k=1
    ·exact absurd m1 (by rw[bx.o];decide)
    ·have cq:=m1
     by_cases m2:m.k=2
     ·exact absurd m2 (by rw[bx.o];decide)
     ·have cm:=m2
      by_cases m3:m.k=3
      ·exact absurd m3 (by rw[bx.o];decide)
      ·have cw:=m3
       by_cases m4:m.k=4
       ·have y1:(m.k==1)=false:=by simp;omega
        have y2:(m.k==2)=false:=by simp;omega
        have y3:(m.k==3)=false:=by simp;omega
        have y4:(m.k==4)=true:=by simpa using m4
        have y5:(m.k==5)=false:=by simp;omega
        have T1:=I (fun w1=>OA m.ap.t A5 c5 w1 HZ.o.2.2.2);have T2:=I (fun w1=>MQ m.ap.a A6 c6 w1);have bq:=M.c23;have bn:=M.c24;have aw:=M.c25;have bb:=M.c26;have bs:=M.c27;rw[if_neg m1,if_neg m2,if_neg m3,if_pos m4] at HF;clear m1 m2 m3 m4;cases g1:tkB m.ap.t with
        |false=>
         rw[g1] at T1;have E:=I (show mgB m=false by rw[HF.o,g1];rfl);clear g1
         go_wp2_with (go_at_call 82;(with_reducible refine Calls.mono (T1.o _) ?_);rintro e u1 ⟨rfl,O⟩;replace M:=I (M.o.below O);replace Z:=Z.t O;clear O T1;clear bq bn aw bb bs;have bq:=M.c23;have bn:=M.c24;have aw:=M.c25;have bb:=M.c26;have bs:=M.c27)
         go_ret;exact⟨by rw[E.o];rfl,Z.o⟩
        |true=>
         rw[g1] at T1;cases g2:BR m.ap.a with
         |false=>
          rw[g2] at T2;have E:=I (show mgB m=false by rw[HF.o,g1,g2];rfl);clear g1 g2
          go_wp2_with (first
           |(go_at_call 82;(with_reducible refine Calls.mono (T1.o _) ?_);rintro e u1 ⟨rfl,O⟩;replace M:=I (M.o.below O);replace Z:=Z.t O;clear O T1;clear bq bn aw bb bs;have bq:=M.c23;have bn:=M.c24;have aw:=M.c25;have bb:=M.c26;have bs:=M.c27)
           |(go_at_call 83;(with_reducible refine Calls.mono (T2.o _) ?_);rintro e u2 ⟨rfl,hw⟩;subst hw;clear T2))
          go_ret;exact⟨by rw[E.o];rfl,Z.o⟩
         |true=>
          rw[g2] at T2;cases zA with
          |false=>
           have E:=I (show mgB m=false by rw[HF.o,g1,g2];rfl);clear g1 g2
           go_wp2_with (first
            |(go_at_call 82;(with_reducible refine Calls.mono (T1.o _) ?_);rintro e u1 ⟨rfl,O⟩;replace M:=I (M.o.below O);replace Z:=Z.t O;clear O T1;clear bq bn aw bb bs;have bq:=M.c23;have bn:=M.c24;have aw:=M.c25;have bb:=M.c26;have bs:=M.c27)
            |(go_at_call 83;(with_reducible refine Calls.mono (T2.o _) ?_);rintro e u2 ⟨rfl,hw⟩;subst hw;clear T2))
           go_ret;exact⟨by rw[E.o];rfl,Z.o⟩
          |true=>
           cases zT with
           |false=>
            have E:=I (show mgB m=false by rw[HF.o,g1,g2];rfl);clear g1 g2
            go_wp2_with (first
             |(go_at_call 82;(with_reducible refine Calls.mono (T1.o _) ?_);rintro e u1 ⟨rfl,O⟩;replace M:=I (M.o.below O);replace Z:=Z.t O;clear O T1;clear bq bn aw bb bs;have bq:=M.c23;have bn:=M.c24;have aw:=M.c25;have bb:=M.c26;have bs:=M.c27)
             |(go_at_call 83;(with_reducible refine Calls.mono (T2.o _) ?_);rintro e u2 ⟨rfl,hw⟩;subst hw;clear T2))
            go_ret;exact⟨by rw[E.o];rfl,Z.o⟩
           |true=>
            cases zR with
            |false=>
             have E:=I (show mgB m=false by rw[HF.o,g1,g2];rfl);clear g1 g2
             go_wp2_with (first
              |(go_at_call 82;(with_reducible refine Calls.mono (T1.o _) ?_);rintro e u1 ⟨rfl,O⟩;replace M:=I (M.o.below O);replace Z:=Z.t O;clear O T1;clear bq bn aw bb bs;have bq:=M.c23;have bn:=M.c24;have aw:=M.c25;have bb:=M.c26;have bs:=M.c27)
              |(go_at_call 83;(with_reducible refine Calls.mono (T2.o _) ?_);rintro e u2 ⟨rfl,hw⟩;subst hw;clear T2))
             go_ret;exact⟨by rw[E.o];rfl,Z.o⟩
            |true=>
             have E:=I (show mgB m=zF by rw[HF.o,g1,g2];rfl);clear g1 g2
             go_wp2_with (first
              |(go_at_call 82;(with_reducible refine Calls.mono (T1.o _) ?_);rintro e u1 ⟨rfl,O⟩;replace M:=I (M.o.below O);replace Z:=Z.t O;clear O T1;clear bq bn aw bb bs;have bq:=M.c23;have bn:=M.c24;have aw:=M.c25;have bb:=M.c26;have bs:=M.c27)
              |(go_at_call 83;(with_reducible refine Calls.mono (T2.o _) ?_);rintro e u2 ⟨rfl,hw⟩;subst hw;clear T2))
             go_ret;exact⟨by rw[E.o];rfl,Z.o⟩
       ·exact absurd bx.o m4
open DerR
theorem WU (m:Mg) (A1 A2 A3 A4 A5 A6:Option Addr) (c1 c2 c3 c4 c5 c6:Nat) (w:World) (hs:mSm m) (bs:m.k=4) (hQ:m.aq=as0) (hT:m.tg=tg0) (hR:m.re=re0) (r1:Rd w w.heap.size A1 (bvs m.tg.t.b)) (r2:Rd w w.heap.size A2 (bvs m.tg.a)) (r3:Rd w w.heap.size A3 (bvs m.re.t.b)) (r4:Rd w w.heap.size A4 (bvs m.re.b)) (r5:Rd w w.heap.size A5 (bvs m.ap.t.b)) (r6:Rd w w.heap.size A6 (bvs m.ap.a)) :
  Calls Tryz.prog 20 #[.agg #[.int .i64 m.k,.string ⟨m.aq.c.1.toArray⟩,.string ⟨m.aq.c.2.toArray⟩,.string ⟨m.aq.s.1.toArray⟩,.string ⟨m.aq.s.2.toArray⟩,.int .i64 m.aq.t,.int .i64 m.aq.no,.string ⟨m.tg.t.s.1.toArray⟩,.string ⟨m.tg.t.s.2.toArray⟩,.int .i64 m.tg.t.k,.slice A1 m.tg.t.b.length c1,.slice A2 m.tg.a.length c2,.string ⟨m.tg.s.1.toArray⟩,.string ⟨m.tg.s.2.toArray⟩,.int .i64 m.tg.u,.int .i64 m.tg.no,.string ⟨m.re.c.1.toArray⟩,.string ⟨m.re.c.2.toArray⟩,.string ⟨m.re.t.s.1.toArray⟩,.string ⟨m.re.t.s.2.toArray⟩,.int .i64 m.re.t.k,.slice A3 m.re.t.b.length c3,.slice A4 m.re.b.length c4,.string ⟨m.ap.t.s.1.toArray⟩,.string ⟨m.ap.t.s.2.toArray⟩,.int .i64 m.ap.t.k,.slice A5 m.ap.t.b.length c5,.slice A6 m.ap.a.length c6,.int .i64 m.fa.e,.int .i64 m.fa.no]] w (EncR w (mgO m)):=by
 have I1:=I (fun w1=>an m A1 A2 A3 A4 A5 A6 c1 c2 c3 c4 c5 c6 w1 hs bs hQ hT hR);have aw:=I bs;clear bs hQ hT hR;have HI:=I (show(Tryz.prog.info? 86).map (·.size)=some (#[.int .i64 m.k,.string ⟨m.aq.c.1.toArray⟩,.string ⟨m.aq.c.2.toArray⟩,.string ⟨m.aq.s.1.toArray⟩,.string ⟨m.aq.s.2.toArray⟩,.int .i64 m.aq.t,.int .i64 m.aq.no,.string ⟨m.tg.t.s.1.toArray⟩,.string ⟨m.tg.t.s.2.toArray⟩,.int .i64 m.tg.t.k,.slice A1 m.tg.t.b.length c1,.slice A2 m.tg.a.length c2,.string ⟨m.tg.s.1.toArray⟩,.string ⟨m.tg.s.2.toArray⟩,.int .i64 m.tg.u,.int .i64 m.tg.no,.string ⟨m.re.c.1.toArray⟩,.string ⟨m.re.c.2.toArray⟩,.string ⟨m.re.t.s.1.toArray⟩,.string ⟨m.re.t.s.2.toArray⟩,.int .i64 m.re.t.k,.slice A3 m.re.t.b.length c3,.slice A4 m.re.b.length c4,.string ⟨m.ap.t.s.1.toArray⟩,.string ⟨m.ap.t.s.2.toArray⟩,.int .i64 m.ap.t.k,.slice A5 m.ap.t.b.length c5,.slice A6 m.ap.a.length c6,.int .i64 m.fa.e,.int .i64 m.fa.no]:Array Value).size by kernel_rfl);obtain⟨cs,bn⟩:∃cs:Array Value,cs=#[.int .i64 m.k,.string ⟨m.aq.c.1.toArray⟩,.string ⟨m.aq.c.2.toArray⟩,.string ⟨m.aq.s.1.toArray⟩,.string ⟨m.aq.s.2.toArray⟩,.int .i64 m.aq.t,.int .i64 m.aq.no,.string ⟨m.tg.t.s.1.toArray⟩,.string ⟨m.tg.t.s.2.toArray⟩,.int .i64 m.tg.t.k,.slice A1 m.tg.t.b.length c1,.slice A2 m.tg.a.length c2,.string ⟨m.tg.s.1.toArray⟩,.string ⟨m.tg.s.2.toArray⟩,.int .i64 m.tg.u,.int .i64 m.tg.no,.string ⟨m.re.c.1.toArray⟩,.string ⟨m.re.c.2.toArray⟩,.string ⟨m.re.t.s.1.toArray⟩,.string ⟨m.re.t.s.2.toArray⟩,.int .i64 m.re.t.k,.slice A3 m.re.t.b.length c3,.slice A4 m.re.b.length c4,.string ⟨m.ap.t.s.1.toArray⟩,.string ⟨m.ap.t.s.2.toArray⟩,.int .i64 m.ap.t.k,.slice A5 m.ap.t.b.length c5,.slice A6 m.ap.a.length c6,.int .i64 m.fa.e,.int .i64 m.fa.no]:=⟨_,rfl⟩;rw[<-bn] at I1 HI⊢;have EC:=I bn;clear bn;have Z:=I ((Below.refl w.heap.size w).alloc Ag (.cells cs 86));have M:=I (Blk.new w 86 cs);cases hx:mgB m with
 |false=>
  rw[hx] at I1;have E:=I (show mgO m=none by unfold mgO limO;rw[hx];rfl);rw[E.o];clear hx E hs r1 r2 r3 r4 r5 r6;go_enter Tryz.func20,Tryz.ntmps20
  go_wp2_with (first
   |(refine Al (by rfl) 86 (.tmp 1) (by rfl) w.heap.size 0 (by rfl) cs _ (Ad (Blk.new w 86 cs)) Tryz.underlying86 (by rfl) HI.o ?_)
   |(go_at_call 49;refine Aj (I1.o _) ?_;rintro w1 O;replace Z:=Z.t O;clear O I1)
   |fail)
  go_ret2
  exact FY Z.o
 |true=>
  rw[hx] at I1;rcases GX hx with⟨h1,e⟩ | ⟨h1,e⟩ | ⟨h1,e⟩ | ⟨h1,e⟩ | ⟨h1,e⟩
  ·have hk:m.k=1:=by rw[e]
   exact absurd aw.o (by rw[hk];decide)
  ·have hk:m.k=2:=by rw[e]
   exact absurd aw.o (by rw[hk];decide)
  ·have hk:m.k=3:=by rw[e]
   exact absurd aw.o (by rw[hk];decide)
  ·have h':tkB m.ap.t=true/\BR m.ap.a=true:=by simpa [apB] using h1
   have b1:=GW h'.1;have b2:=GV b1.1;have b3:=(Cq h'.1).1;have b4:=Bn h'.2;have b5:=AE 4 m.ap.a;have hk:m.k=4:=by rw[e]
   have y1:(m.k==1)=false:=by rw[hk];rfl
   have y2:(m.k==2)=false:=by rw[hk];rfl
   have y3:(m.k==3)=false:=by rw[hk];rfl
   have y4:(m.k==4)=true:=by rw[hk];rfl
   have y5:(m.k==5)=false:=by rw[hk];rfl
   have bb:mgE m=elem 110 [tkE m.ap.t,elem 4 m.ap.a].flatten:=by rw[e];rfl
   have hO:∀l,mgE m=l->l.length<=2000->mgO m=some l:=fun l e2 h2=>BS.2 ⟨hx,by rw[e2];exact h2,e2⟩
   have hN:∀l,mgE m=l->¬l.length<=2000->mgO m=none:=fun l e2 h2=>by unfold mgO limO;rw[e2,if_neg (fun h=>h2 h.2)]
   have HO:=I (hO _ bb);have HN:=I (hN _ bb);have T1:=I (fun w1 (h:Below w.heap.size w w1)=>Uj m.ap.t A5 c5 w1.heap.size w1 (by omega) (by omega) (by omega) ((r5.below h).more h.size) Ag);have T2:=I (fun w1 (h:Below w.heap.size w w1)=>DerR.Dl m.ap.a A6 m.ap.a.length c6 w1.heap.size w1 ((r6.below h).more h.size) rfl Ag (by omega));have hl:[tkE m.ap.t,elem 4 m.ap.a].flatten.length<=60000:=by rw[Dm];simp only[List.length_append];omega
   have av:[tkE m.ap.t,elem 4 m.ap.a].flatten.length<=1990:=by rw[Dm];simp only[List.length_append];omega
   have HL:=I (show [tkE m.ap.t,elem 4 m.ap.a].flatten.length<=65535 by omega);have hE:=AE 110 [tkE m.ap.t,elem 4 m.ap.a].flatten;rw[Dm] at hE hl HO HN av;obtain⟨l1,cb⟩:∃l,l=tkE m.ap.t:=⟨_,rfl⟩;obtain⟨l2,bz⟩:∃l,l=elem 4 m.ap.a:=⟨_,rfl⟩;rw[<-cb] at T1 HL hE hl HO HN av;rw[<-bz] at T2 HL hE hl HO HN av;have bx:(elem 110 (l1++l2)).length<=2000:=by omega
   have LM:=I (fun A c w1=>JH (elem 110 (l1++l2)) A _ c w1 rfl bx);rw[HO.o bx];clear h1 e h' hx bb hO hN hk hs r1 r2 r3 r4 r5 r6 hE hl av b1 b2 b3 b4 b5 cb bz HO HN bx;go_enter Tryz.func20,Tryz.ntmps20
   go_wp2_with (first
    |(refine Al (by rfl) 86 (.tmp 1) (by rfl) w.heap.size 0 (by rfl) cs _ (Ad (Blk.new w 86 cs)) Tryz.underlying86 (by rfl) HI.o ?_)
    |(go_at_call 49;refine Aj (I1.o _) ?_;rintro w0 O;replace M:=I (M.o.below O);replace Z:=Z.t O;clear O I1;replace M:=I (EC.o▸M.o);have k0:=M.c0)
    |fail)
   clear k0;replace M:=I (show Blk w0.drew _ _ _ from M.o.drewN 1);replace Z:=I (show Below _ _ w0.drew from below_drewN Z.o 1)
   go_region_held3 (fun w'=>w'.cell? ⟨w.heap.size,23,none⟩=some (.string ⟨m.ap.t.s.1.toArray⟩)/\w'.cell? ⟨w.heap.size,24,none⟩=some (.string ⟨m.ap.t.s.2.toArray⟩)/\w'.cell? ⟨w.heap.size,25,none⟩=some (.int .i64 m.ap.t.k)/\w'.cell? ⟨w.heap.size,26,none⟩=some (.slice A5 m.ap.t.b.length c5)/\w'.cell? ⟨w.heap.size,27,none⟩=some (.slice A6 m.ap.a.length c6)) (first | exact⟨M.o.cell 23,M.o.cell 24,M.o.cell 25,M.o.cell 26,M.o.cell 27⟩ | exact⟨(M.o.alloc _).cell 23,(M.o.alloc _).cell 24,(M.o.alloc _).cell 25,(M.o.alloc _).cell 26,(M.o.alloc _).cell 27⟩) ((first
    |(go_at_call 50;(with_reducible refine Calls.mono (T1.o _ Z.o) ?_);rintro e w1 ⟨⟨g1,c1,rfl,cm,cp,ca⟩,O⟩;clear T1;have bq:=I ca;replace M:=I (M.o.below O);replace Z:=Z.t O;clear O ca cm cp)
    |(go_at_call 42;(with_reducible refine Calls.mono (T2.o _ Z.o) ?_);rintro e w2 ⟨⟨g2,c2,rfl,cn,cj,cc⟩,O⟩;clear T2;replace bq:=I (Bh bq.o O);have ck:=I cc;replace M:=I (M.o.below O);replace Z:=Z.t O;clear O cc cn cj)
    |(go_at_call 40;refine Calls.mono (Dv 110 [l1,l2] _ 2 2 (w2.heap.size+1) _ (JG bq.o ck.o) rfl (by simp) HL.o (by simp)) ?_;rintro e wz ⟨⟨gz,cz,rfl,bB,cg,cd⟩,O⟩;have cf:=(Below.refl w2.heap.size w2).alloc Ag (.cells #[.slice (some ⟨g1,0,none⟩) l1.length c1,.slice (some ⟨g2,0,none⟩) l2.length c2] 22);have HG:=I (Bg (l:=elem 110 [l1,l2].flatten) ⟨⟨gz,cz,rfl,bB,cg,cd⟩,O⟩ (Z.o.trans (cf.mono Z.o.size)));rw[Dm] at HG;replace M:=I ((M.o.alloc (.cells #[.slice (some ⟨g1,0,none⟩) l1.length c1,.slice (some ⟨g2,0,none⟩) l2.length c2] 22)).below O);clear cf bB cg cd O)
    |(go_at_call 39;refine Aj (LM.o _ _ _) ?_;rintro wy rfl)))
   go_wp2
   go_ret2
   exact FZ HG.o
  ·have hk:m.k=5:=by rw[e]
   exact absurd aw.o (by rw[hk];decide)
end Ms
end Go.Proofs.YtiecjolmennkfaaGreat
