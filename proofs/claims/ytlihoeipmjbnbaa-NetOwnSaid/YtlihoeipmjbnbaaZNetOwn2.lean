import Derived.Test.YtlihoeipmjbnbaaProg
import Derived.Deep.LoopGhost
import Derived.StillTailTactics
import Derived.Laws.StructEq
import Derived.Deep.CutBlock
import Derived.Lib.SliceRun
import Derived.Deep.RegionHeld3
import Derived.Deep.RegionLaw
import Derived.Test.YtlihoeipmjbnbaaZNetOwn1
section
set_option linter.unusedVariables false
namespace Go.Proofs.Ytlihoeipmjbnbaa.Ca
open Go.RowKit Go.Proofs.Ytlihoeipmjbnbaa.Mem Go.Proofs.Ytlihoeipmjbnbaa.Se
open Go.Proofs.Ytlihoeipmjbnbaa.Rg (Pr flat_at flat_one RdR own_rdr own_chg)
section
variable {α:Type} {f:α→List Value} {n:Nat}
variable {w:World} {B g cap:Nat} {t:TypeId} {l:List α}
theorem row_blk {m:Nat} {xs:List Value} (ho:w.ownsRow B t n (.slice (some ⟨g,0,none⟩) m cap) m xs):∃cur,Blk w g t cur∧B≤g∧m≤cap∧cap≤maxLen∧cur.size=cap*n∧cur.toList.take (m*n)=xs:=by
 rcases ho.2 with⟨h1,_⟩ | ⟨g1,cap1,cur,h1,h2,h3,h4,h5,h6,h7⟩
 ·cases h1
 ·injection h1 with e1 _ e2
  injection e1 with e1
  injection e1 with e1
  subst e1 e2
  exact⟨cur,h3,h2,h4,h5,h6,h7⟩
theorem row_mk {m:Nat} {xs:List Value} {cur:Array Value} (hb:Blk w g t cur) (h1:B≤g) (h2:m≤cap) (h3:cap≤maxLen) (h4:cur.size=cap*n) (h5:cur.toList.take (m*n)=xs):w.ownsRow B t n (.slice (some ⟨g,0,none⟩) m cap) m xs:=
 ⟨by rw[←h5,List.length_take,Array.length_toList,h4];exact Nat.min_eq_left (Nat.mul_le_mul_right n h2),.inr ⟨g,cap,cur,rfl,h1,hb,h2,h3,h4,h5⟩⟩
theorem row_there (ho:w.ownsRow B t n (.slice (some ⟨g,0,none⟩) l.length cap) l.length (l.flatMap f)) (o k:Nat) (h:o+k≤l.length*n):w.there g o k:=by
 obtain⟨cur,h1,h2,h3,h4,h5,h6⟩:=row_blk ho
 have hln:l.length*n≤cap*n:=Nat.mul_le_mul_right n h3
 exact Wh.there_mid h1 o k (by omega)
end
theorem run_clear (P:Program) (w:World) (t e ty:TypeId) (i:TypeInfo) (z:Value) (n:Nat) (ht:P.underlying t=some (.slice e)) (hi:P.info? e=some i) (hz:i.zero=some z) (hzs:z.cells.size=n) (h1:∀u∈z.cells.toList,u.oneCell'=true) (hn:0<n) (b o m c:Nat)
  (hc:w.there b o (m*n)):∃vs:List Value,vs.length=m*n∧(Builtin.clear_ #[t] ty #[.slice (some ⟨b,o,none⟩) m c]).run P w = .ok (.tuple #[]) (w.setCells b o vs):=by
 have hv:(zeroValue e).run P w = .ok z w:=by simp [zeroValue,typeInfo,hi,hz]
 have hlen:(Builtin.zeroCells z.cells m).toList.length=m*n:=by simp [Builtin.zeroCells,hzs]
 have hone:∀u∈(Builtin.zeroCells z.cells m).toList,u.oneCell'=true:=by
  intro u hu
  simp only[Builtin.zeroCells,Array.toList_map,List.mem_map] at hu
  obtain⟨q,_,rfl⟩:=hu
  have hq:q % z.cells.size<z.cells.size:=Nat.mod_lt _ (by omega)
  rw[getElem!_pos z.cells (q % z.cells.size) hq]
  exact h1 _ (by simp)
 cases m with
 |zero=>
  refine⟨[],by simp,?_⟩
  simp [Builtin.clear_,run_underlying ht,World.setCells]
 |succ m=>
  refine⟨(Builtin.zeroCells z.cells (m+1)).toList,hlen,?_⟩
  have hst:=run_storeCells_cells (P:=P) b o (Builtin.zeroCells z.cells (m+1)).toList 0 w (fun j hj=>by simpa using (hc j (by omega)).1) (fun j hj=>by simpa using (hc j (by omega)).2) hone
  simp only[Nat.add_zero] at hst
  simp [Builtin.clear_,run_underlying ht,hv,hst]
structure En where
 p:Pr
 x:Cr
 A:Option Addr
 c:Nat
def En.it (e:En):It:=(e.p,e.x)
def crC (x:Cr) (A:Option Addr) (c:Nat):List Value:=.string ⟨x.s.1.toArray⟩ :: .string ⟨x.s.2.toArray⟩ :: .int .i64 x.n :: .slice A x.b.length c :: ((key32 x.k).toList++[.int .i64 x.e])
def enC (e:En):List Value:=.string ⟨e.p.1.toArray⟩ :: .string ⟨e.p.2.toArray⟩ :: crC e.x e.A e.c
theorem crC_length (x:Cr) (A:Option Addr) (c:Nat):(crC x A c).length=37:=by simp [crC,key32_size]
theorem enC_length (e:En):(enC e).length=39:=by simp [enC,crC_length]
theorem crC_one (x:Cr) (A:Option Addr) (c:Nat):∀u∈crC x A c,u.oneCell'=true:=by
 intro u hu
 simp only[crC,List.mem_cons,List.mem_append,List.not_mem_nil,or_false] at hu
 rcases hu with h | h | h | h | h | h
 ·subst h;rfl
 ·subst h;rfl
 ·subst h;rfl
 ·subst h;rfl
 ·have:=one32 x.k
  rw[Array.all_eq_true_iff_forall_mem] at this
  exact this u (Array.mem_def.2 h)
 ·subst h;rfl
theorem enC_one (e:En):∀u∈enC e,u.oneCell'=true:=by
 intro u hu
 simp only[enC,List.mem_cons] at hu
 rcases hu with h | h | h
 ·subst h;rfl
 ·subst h;rfl
 ·exact crC_one _ _ _ u h
section
variable {w:World} {g o:Nat} {e:En} {x:Cr} {A:Option Addr} {c:Nat}
end
section
variable {w w':World} {B r:Nat} {v v':Value} {es es':List En} {S:Nat→Prop}
theorem rd_chg {A:Option Addr} {xs:List Value} (h:Rd w w.heap.size A xs) (hc:Chg S w w') (hs:∀a,A=some a→¬S a.block):Rd w' w'.heap.size A xs:=by
 rcases h with h | ⟨b,o,h1,h2,h3⟩
 ·exact .inl h
 ·exact .inr ⟨b,o,h1,Nat.lt_of_lt_of_le h2 hc.size,fun i u hu=>(World.cell?_of_block (a:=⟨b,o+i,none⟩) (hc.block b h2 (hs _ h1))).trans (h3 i u hu)⟩
end
end Go.Proofs.Ytlihoeipmjbnbaa.Ca
end

section
set_option linter.unusedVariables false
set_option linter.unusedSimpArgs false
namespace Go.Proofs.Ytlihoeipmjbnbaa.Ca
open Go.RowKit Go.Proofs.Ytlihoeipmjbnbaa.Mem Go.Proofs.Ytlihoeipmjbnbaa.Se
open Go.Proofs.Ytlihoeipmjbnbaa.Nm (L)
open Go.Proofs.Ytlihoeipmjbnbaa.Rg (Pr)
structure Own1 (a w:World) (A:Option Addr) (xs:List Value):Prop where
 rd:Rd w w.heap.size A xs
 lo:∀p,A=some p→a.heap.size≤p.block∧p.block<w.heap.size
 bk:∀p,A=some p→∃t cur,Blk w p.block t cur
theorem Own1.below {a w w':World} {A:Option Addr} {xs:List Value} (h:Own1 a w A xs) (hb:Below w.heap.size w w'):Own1 a w' A xs:=
 ⟨(h.1.below hb).more hb.size,fun p hp=>have q:=h.2 p hp;⟨q.1,Nat.lt_of_lt_of_le q.2 hb.size⟩,fun p hp=>by obtain⟨t,cur,q⟩:=h.3 p hp;exact⟨t,cur,q.below hb⟩⟩
theorem Own1.since {a b w:World} {A:Option Addr} {xs:List Value} (h:Own1 b w A xs) (hs:a.heap.size≤b.heap.size):Own1 a w A xs:=
 ⟨h.1,fun p hp=>have q:=h.2 p hp;⟨Nat.le_trans hs q.1,q.2⟩,h.3⟩
theorem Own1.chg {S:Nat→Prop} {a w w':World} {A:Option Addr} {xs:List Value} (h:Own1 a w A xs) (hc:Chg S w w') (hs:∀p,A=some p→¬S p.block):Own1 a w' A xs:=
 ⟨rd_chg h.1 hc hs,fun p hp=>have q:=h.2 p hp;⟨q.1,Nat.lt_of_lt_of_le q.2 hc.size⟩,fun p hp=>by obtain⟨t,cur,q⟩:=h.3 p hp;exact⟨t,cur,hc.blk q (hs p hp)⟩⟩
theorem Own1.none (a w:World):Own1 a w .none []:=⟨.inl rfl,(fun p hp=>by cases hp),(fun p hp=>by cases hp)⟩
theorem Own1.of_own {w w':World} {n:Nat} {v:Value} {t:TypeId} {xs:List Value} (h:w'.ownsRow w.heap.size t 1 v n xs):∃A c,v = .slice A n c∧Own1 w w' A xs∧n≤c:=by
 rcases h.2 with⟨h1,h2⟩ | ⟨g,cap,cur,h1,hg,hh,hc,hm,hq,hx⟩
 ·subst h2
  exact⟨_,0,h1,⟨Rd.of_own (n:=0) (cap:=0) (by rw[←h1];exact h),(fun p hp=>by cases hp),(fun p hp=>by cases hp)⟩,Nat.le_refl _⟩
 ·subst h1
  exact⟨_,cap,rfl,⟨Rd.of_own h,(fun p hp=>by injection hp with hp;subst hp;exact⟨hg,(Array.getElem?_eq_some_iff.1 hh).1⟩),(fun p hp=>by injection hp with hp;subst hp;exact⟨t,cur,hh⟩)⟩,hc⟩
set_option maxHeartbeats 1600000 in
set_option maxRecDepth 100000 in
theorem bclone_any (A:Option Addr) (c B:Nat) (l:L) (w:World) (hr:Rd w B A (bvs l)) (hB:B≤w.heap.size) (hl:l.length≤100000000000):Calls Try.prog 26 #[.slice A l.length c] w fun e w'=>∃A' c',e = .returned (.slice A' l.length c')∧Own1 w w' A' (bvs l)∧Below w.heap.size w w'∧l.length≤c':=by
 have hsn:=Lib.run_eql_slice_nil (P:=Try.prog) w 30 5 A l.length c 0 0 Try.underlying30
 obtain⟨n,en⟩:∃n,n=l.length:=⟨_,rfl⟩
 have EN:=Lib.hid en
 rw[←en] at hsn hl⊢
 cases A with
 |none=>
  have hl0:bvs l = []:=by
   rcases hr with h | ⟨b,o,h,_⟩
   ·exact h
   ·cases h
  have hn0:n=0:=by
   have:=congrArg List.length hl0
   rw[bvs_length] at this
   exact en.trans this
  rw[hl0]
  clear hr en hl0
  subst hn0
  go_enter Try.func26,Try.ntmps26
  go_wp2
  go_ret
  exact⟨none,0,rfl,Own1.none _ _,Below.refl _ _,Nat.le_refl _⟩
 |some a=>
  obtain⟨i0,hi0,hz0,hs0,hb0⟩:=info_parts Nm.u8_row
  have KI1:=Lib.hid hi0;have KI2:=Lib.hid hz0;have KI3:=Lib.hid hs0;have KI4:=Lib.hid hb0
  have HR:=Lib.hid hr
  have HBB:=Lib.hid hB
  have HL:=Lib.hid hl
  have hb1:Below w.heap.size w (w.alloc (.cells #[] 5)):=(Below.refl _ _).alloc (Nat.le_refl _) _
  have HB1:=Lib.hid hb1
  have HO:=Lib.hid (World.ownsRow_made (base:=w.heap.size) w (e:=5) (size:=1) #[] 0 (Nat.le_refl _) (by decide) rfl)
  clear hr en hi0 hz0 hs0 hb0 hB hl hb1
  go_enter Try.func26,Try.ntmps26
  go_wp2_with (first
   |(refine wpList_append_rd _ rfl (.tmp 5) (.tmp 6) 30 rfl w.heap.size 5 i0 _ 1 Try.underlying30 KI1.out KI2.out KI3.out KI4.out rfl _ 0 [] rfl HO.out B _ n c (bvs l) rfl (by rw[bvs_length];exact EN.out) (HR.out.below (HB1.out.mono HBB.out)) (bvs_one _) (by have:=HL.out;unfold maxLen;omega) (by have:=HL.out;omega) HB1.out.size ?_;intro v' w' ho hg hv;rw[Nat.zero_add,List.nil_append] at ho;have HO2:=Lib.hid ho;have HG2:=Lib.hid (below_g HB1.out hg HB1.out.size (Nat.le_refl _));clear ho hg hv)
   |fail)
  go_ret
  obtain⟨A',c',rfl,ho,hcap⟩:=Own1.of_own HO2.out
  exact⟨A',c',rfl,ho,HG2.out,hcap⟩
end Go.Proofs.Ytlihoeipmjbnbaa.Ca
end

section
set_option linter.unusedVariables false
namespace Go.Proofs.Ytlihoeipmjbnbaa.Reg
open Go.RowKit Go.Proofs.Ytlihoeipmjbnbaa.Mem
section
variable {P:Program} {ops:Array Oper} {Q:Exit→Act→World→Prop} {md:Region.Mode}
def Eff (P:Program) (md:Region.Mode) (ops:Array Oper) (Q:Exit→Act→World→Prop) (S:World→Prop) (fuel:Nat) (listed:Array Bool) (a:Act) (w:World) (i:Nat):Prop:=
 ∃(dst:Option Tmp) (op:Op) (ty:TypeId) (pos:String) (after:Array _) (guard:Option (Nat×Bool)) (v:Value) (w':World),ops[i]? = some ⟨dst,op,ty,pos,after,guard⟩∧Region.wanted ⟨dst,op,ty,pos,after,guard⟩ (yielded ops a.tmps)=true∧(execOp a.eval ⟨dst,op,ty,pos,after,guard⟩).run P w = .ok (.value v) w'∧S w'∧wpAnyH P md ops Q S fuel (listed.setIfInBounds i true) (a.put dst v) w'
end
end Go.Proofs.Ytlihoeipmjbnbaa.Reg
end

section
set_option linter.unusedVariables false
namespace Go.Proofs.Ytlihoeipmjbnbaa.Reg
open Go.RowKit Go.Proofs.Ytlihoeipmjbnbaa.Mem
section
variable {P:Program} {ops:Array Oper} {Q:Exit→Act→World→Prop} {md:Region.Mode} {S:World→Prop}
theorem any_begin (S:World→Prop) (n:Nat) {id:Nat} {a:Act} {w:World} (hn:ops.size=n) (hm:P.follows .mixedOrders=true) (hS:S w.drew) (h:wpAnyH P .any ops Q S n (Array.replicate n false) a w.drew):(Code.region id ops true).wp P Q a w:=by
 subst hn
 exact wp_region_held_drew hm hS (fun _=>h)
theorem any_take (i:Nat) {dst:Option Tmp} {op:Op} {ty:TypeId} {pos:String} {after:Array _} {guard:Option (Nat×Bool)} {v:Value} {fuel:Nat} {listed:Array Bool} {a:Act} {w:World} (hi:ops[i]? = some ⟨dst,op,ty,pos,after,guard⟩)
  (hs:Region.noSelect ops=true) (hf:Region.free md ops listed i=true) (hr:(Region.ready md ops listed).contains i=true)
  (hQ:∀c a w,Q (.panic c) (a.put dst v) w→Q (.panic c) a w) (hS:S w)
  (hw:Region.wanted ⟨dst,op,ty,pos,after,guard⟩ (yielded ops a.tmps)=true) (hy:∀w',S w'→(execOp a.eval ⟨dst,op,ty,pos,after,guard⟩).run P w' = .ok (.value v) w')
  (h:wpAnyH P md ops Q S fuel (listed.setIfInBounds i true) (a.put dst v) w):wpAnyH P md ops Q S (fuel+1) listed a w:=
 wpAnyH_take hi hs hf hr hQ (.inl ⟨hw,hy⟩) hS h
theorem any_store (i:Nat) {dst:Option Tmp} {op:Op} {ty:TypeId} {pos:String} {after:Array _} {guard:Option (Nat×Bool)} {fuel:Nat} {listed:Array Bool} {a:Act} {w:World} (w':World) (hi:ops[i]? = some ⟨dst,op,ty,pos,after,guard⟩)
  (hr:Region.ready md ops listed = [i]) (hw:Region.wanted ⟨dst,op,ty,pos,after,guard⟩ (yielded ops a.tmps)=true) (hx:(execOp a.eval ⟨dst,op,ty,pos,after,guard⟩).run P w = .ok .skip w') (hS:S w')
  (h:wpAnyH P md ops Q S fuel (listed.setIfInBounds i true) (a.put dst undef) w'):wpAnyH P md ops Q S (fuel+1) listed a w:=by
 refine wpAnyH_all hr (by simp) fun j hj=>?_
 obtain rfl:j=i:=by simpa using hj
 unfold wpOp
 simp only[hi]
 rw[if_pos hw]
 left
 unfold Oper.wp
 rw[hx]
 exact⟨hS,h⟩
end
end Go.Proofs.Ytlihoeipmjbnbaa.Reg
end

section
set_option linter.unusedVariables false
namespace Go.Proofs.Ytlihoeipmjbnbaa.Reg
open Go.RowKit Go.Proofs.Ytlihoeipmjbnbaa.Mem
section
variable {P:Program} {ops:Array Oper} {Q:Exit→Act→World→Prop} {md:Region.Mode}
def Ent (P:Program) (md:Region.Mode) (ops:Array Oper) (Q:Exit→Act→World→Prop) (S:World→Prop) (fuel:Nat) (listed:Array Bool) (a:Act) (w:World) (i:Nat):Prop:=
 ∃(dst:Option Tmp) (op:Op) (ty:TypeId) (pos:String) (after:Array _) (guard:Option (Nat×Bool)) (f:FuncId) (args:Array Value),ops[i]? = some ⟨dst,op,ty,pos,after,guard⟩∧Region.wanted ⟨dst,op,ty,pos,after,guard⟩ (yielded ops a.tmps)=true∧(execOp a.eval ⟨dst,op,ty,pos,after,guard⟩).run P w = .ok (.enter f args) w∧
  Calls P f args w fun e w'=>∃v,e = .returned v∧S w'∧wpAnyH P md ops Q S fuel (listed.setIfInBounds i true) (a.put dst v) w'
theorem both_all (is:List Nat) {S:World→Prop} {fuel:Nat} {listed:Array Bool} {a:Act} {w:World} (hr:Region.ready md ops listed=is) (hne:is≠[]) (h:∀j∈is,Eff P md ops Q S fuel listed a w j∨Ent P md ops Q S fuel listed a w j):wpAnyH P md ops Q S (fuel+1) listed a w:=by
 refine wpAnyH_all hr hne fun j hj=>?_
 rcases h j hj with⟨dst,op,ty,pos,after,guard,v,w',hi,hw,hx,hs,hh⟩ | ⟨dst,op,ty,pos,after,guard,f,args,hi,hw,hx,hh⟩
 ·unfold wpOp
  simp only[hi]
  rw[if_pos hw]
  left
  unfold Oper.wp
  rw[hx]
  exact⟨hs,hh⟩
 ·unfold wpOp
  simp only[hi]
  rw[if_pos hw]
  left
  unfold Oper.wp
  rw[hx]
  refine hh.mono ?_
  rintro e w' ⟨v,rfl,hs,hh⟩
  exact⟨hs,hh⟩
end
end Go.Proofs.Ytlihoeipmjbnbaa.Reg
end

section
set_option linter.unusedVariables false
namespace Go.Proofs.Ytlihoeipmjbnbaa.Reg
open Go.RowKit Go.Proofs.Ytlihoeipmjbnbaa.Mem
section
variable {P:Program} {ops:Array Oper} {Q:Exit→Act→World→Prop} {md:Region.Mode} {S:World→Prop}
theorem any_store_whole (i:Nat) {dst:Option Tmp} {sty:TypeId} {x y:Operand} {ty:TypeId} {pos:String} {after:Array _} {guard:Option (Nat×Bool)} {fuel:Nat} {listed:Array Bool} {a:Act} {w:World} (hi:ops[i]? = some ⟨dst,.store sty x y,ty,pos,after,guard⟩)
  (hr:Region.ready md ops listed = [i]) (hw:Region.wanted ⟨dst,.store sty x y,ty,pos,after,guard⟩ (yielded ops a.tmps)=true) (g:Nat) (t:TypeId) (old cells:Array Value) (hb:Blk w g t old) (hx:a.eval x = .pointer (some ⟨g,0,none⟩)) (hy:a.eval y = .agg cells) (hs:old.size=cells.size)
  (hI:(P.info? sty).map (·.size)=some cells.size) (h1:cells.all (·.oneCell')=true)
  (h:∀V,Blk V g t cells→w.grownBy V (some g)→S V∧wpAnyH P md ops Q S fuel (listed.setIfInBounds i true) (a.put dst undef) V):wpAnyH P md ops Q S (fuel+1) listed a w:=by
 have ht:w.there g 0 cells.size:=Wh.there_mid hb 0 _ (by omega)
 have hrun:(execOp a.eval ⟨dst,.store sty x y,ty,pos,after,guard⟩).run P w = .ok .skip (w.setCells g 0 cells.toList):=by
  unfold execOp
  simp only[hx,hy,Instr.storeAt,Instr.sureAddr,Sem.run_bind,Sem.run_pure,Result.andThen_ok,run_storeVar_mid w g 0 sty cells ht hI h1]
 obtain⟨h2,h3⟩:=h _ (Wh.blk_cells hb hs) (Wh.put_mid _ _ _ _)
 exact any_store i _ hi hr hw hrun h2 h3
theorem tk (i:Nat) {dst:Option Tmp} {op:Op} {ty:TypeId} {pos:String} {after:Array _} {guard:Option (Nat×Bool)} {v:Value} {fuel:Nat} {listed:Array Bool} {a:Act} {w:World} (hi:ops[i]? = some ⟨dst,op,ty,pos,after,guard⟩) (hS:S w)
  (hy:∀w',S w'→(execOp a.eval ⟨dst,op,ty,pos,after,guard⟩).run P w' = .ok (.value v) w')
  (h:wpAnyH P md ops Q S fuel (listed.setIfInBounds i true) (a.put dst v) w)
  (hs:Region.noSelect ops=true:=by kernel_rfl) (hf:Region.free md ops listed i=true:=by kernel_rfl) (hr:(Region.ready md ops listed).contains i=true:=by kernel_rfl)
  (hQ:∀c a w,Q (.panic c) (a.put dst v) w→Q (.panic c) a w:=by exact fun _ _ _ h=>h) (hw:Region.wanted ⟨dst,op,ty,pos,after,guard⟩ (yielded ops a.tmps)=true:=by rfl):wpAnyH P md ops Q S (fuel+1) listed a w:=
 any_take i hi hs hf hr hQ hS hw hy h
theorem s0 {α:Type} (l:List α) (i:Nat) (a:α):l.toArray.setIfInBounds i a=(l.set i a).toArray:=List.setIfInBounds_toArray ..
theorem s1 {α:Type} {x:α} {xs:List α} {a:α}:(x :: xs).set 0 a=a :: xs:=rfl
theorem s2 {α:Type} {x:α} {xs:List α} {n:Nat} {a:α}:(x :: xs).set (n+1) a=x :: xs.set n a:=rfl
end
end Go.Proofs.Ytlihoeipmjbnbaa.Reg
end

section
set_option linter.unusedVariables false
namespace Go.Proofs.Ytlihoeipmjbnbaa.Nt
open Go.RowKit Go.Proofs.Ytlihoeipmjbnbaa.Mem Go.Proofs.Ytlihoeipmjbnbaa.Se
open Go.Proofs.Ytlihoeipmjbnbaa.Nm (L)
open Go.Proofs.Ytlihoeipmjbnbaa.Ca (Own1 rd_chg row_blk row_mk)
open Go.Proofs.Ytlihoeipmjbnbaa.Rg (flat_at flat_one RdR own_rdr own_chg)
structure Pk where
 f:Int
 t:Int
 b:L
structure En where
 p:Pk
 A:Option Addr
 c:Nat
def pkC (p:Pk) (A:Option Addr) (c:Nat):List Value:=[.int .i64 p.f,.int .i64 p.t,.slice A p.b.length c]
def pkA (p:Pk) (A:Option Addr) (c:Nat):Array Value:=#[.int .i64 p.f,.int .i64 p.t,.slice A p.b.length c]
def enC (e:En):List Value:=pkC e.p e.A e.c
def iC (k:Nat):List Value:=[.int .i64 (k:Int)]
theorem pkA_size (p:Pk) (A:Option Addr) (c:Nat):(pkA p A c).size=3:=rfl
theorem enC_length (e:En):(enC e).length=3:=rfl
theorem iC_length (k:Nat):(iC k).length=1:=rfl
theorem pkC_one (p:Pk) (A:Option Addr) (c:Nat):∀u∈pkC p A c,u.oneCell'=true:=by
 intro u hu
 simp only[pkC,List.mem_cons,List.not_mem_nil,or_false] at hu
 rcases hu with h | h | h<;>(subst h;rfl)
theorem pkA_one (p:Pk) (A:Option Addr) (c:Nat):(pkA p A c).all (·.oneCell')=true:=by
 rw[Array.all_eq_true_iff_forall_mem]
 intro u hu
 exact pkC_one p A c u (by simpa [pkA,pkC] using hu)
theorem enC_one (e:En):∀u∈enC e,u.oneCell'=true:=pkC_one _ _ _
theorem iC_one (k:Nat):∀u∈iC k,u.oneCell'=true:=by
 intro u hu
 simp only[iC,List.mem_cons,List.not_mem_nil,or_false] at hu
 subst hu;rfl
def pks (es:List En):List Pk:=es.map (·.p)
theorem pks_length (es:List En):(pks es).length=es.length:=by simp [pks]
structure Nt (w:World) (B r:Nat) (vs vw:Value) (es:List En) (ws:List Nat):Prop where
 blk:Blk w r 48 #[vs,vw]
 row:w.ownsRow B 32 3 vs es.length (es.flatMap enC)
 way:w.ownsRow B 3 1 vw ws.length (ws.flatMap iC)
 lo:B≤r
 vr:vs.ownBlock≠some r
 wr:vw.ownBlock≠some r
 sw:∀k,vs.ownBlock=some k→vw.ownBlock≠some k
 rd:∀e∈es,Rd w w.heap.size e.A (bvs e.p.b)
 off:∀e∈es,∀a,e.A=some a→B≤a.block∧a.block≠r∧vs.ownBlock≠some a.block∧vw.ownBlock≠some a.block∧a.block<w.heap.size
def NO (r:Nat) (vs vw:Value) (es:List En) (k:Nat):Prop:=k=r∨vs.ownBlock=some k∨vw.ownBlock=some k∨∃e∈es,∃a,e.A=some a∧a.block=k
def NT (r:Nat) (vs vw:Value) (k:Nat):Prop:=k=r∨vs.ownBlock=some k∨vw.ownBlock=some k
section
variable {w w':World} {B r:Nat} {vs vw vs' vw':Value} {es es':List En} {ws ws':List Nat} {S:Nat→Prop}
theorem nt_no {q:Nat} (h:NT r vs vw q):NO r vs vw es q:=by
 rcases h with h | h | h
 ·exact .inl h
 ·exact .inr (.inl h)
 ·exact .inr (.inr (.inl h))
theorem Nt.lt (h:Nt w B r vs vw es ws):r<w.heap.size:=h.blk.lt
theorem Nt.big (h:Nt w B r vs vw es ws):B≤w.heap.size:=by have:=h.lo;have:=h.lt;omega
theorem Nt.own_lo (h:Nt w B r vs vw es ws) {k:Nat} (hk:NO r vs vw es k):B≤k:=by
 rcases hk with hk | hk | hk | ⟨e,he,a,ha,hk⟩
 ·subst hk;exact h.lo
 ·exact(World.ownsRow.lt h.row k hk).1
 ·exact(World.ownsRow.lt h.way k hk).1
 ·exact hk▸(h.off e he a ha).1
theorem Nt.own_lt (h:Nt w B r vs vw es ws) {k:Nat} (hk:NO r vs vw es k):k<w.heap.size:=by
 rcases hk with hk | hk | hk | ⟨e,he,a,ha,hk⟩
 ·subst hk;exact h.lt
 ·exact(World.ownsRow.lt h.row k hk).2
 ·exact(World.ownsRow.lt h.way k hk).2
 ·exact hk▸(h.off e he a ha).2.2.2.2
theorem Nt.chg (h:Nt w B r vs vw es ws) (hc:Chg S w w') (hs:∀k,NO r vs vw es k→¬S k):Nt w' B r vs vw es ws:=
 ⟨hc.blk h.blk (hs r (.inl rfl)),own_chg hc h.row (fun k hk=>hs k (.inr (.inl hk))),own_chg hc h.way (fun k hk=>hs k (.inr (.inr (.inl hk)))),h.lo,h.vr,h.wr,h.sw,
  fun e he=>rd_chg (h.rd e he) hc (fun a ha=>hs _ (.inr (.inr (.inr ⟨e,he,a,ha,rfl⟩)))),
  fun e he a ha=>have q:=h.off e he a ha;⟨q.1,q.2.1,q.2.2.1,q.2.2.2.1,Nat.lt_of_lt_of_le q.2.2.2.2 hc.size⟩⟩
theorem Nt.below (h:Nt w B r vs vw es ws) (hb:Below w.heap.size w w'):Nt w' B r vs vw es ws:=h.chg (S:=fun _=>False) (Chg.of_below hb) (fun _ _ x=>x)
theorem Nt.drew (h:Nt w B r vs vw es ws):Nt w.drew B r vs vw es ws:=h.below (below_drewN (Below.refl _ _) 1)
theorem Nt.num (h:Nt w B r vs vw es ws):∃A c,vs = .slice A es.length c∧es.length≤c∧c≤maxLen∧RdR w w.heap.size A enC 3 es:=own_rdr enC_length h.row
theorem Nt.num2 (h:Nt w B r vs vw es ws):∃A c,vw = .slice A ws.length c∧ws.length≤c∧c≤maxLen∧RdR w w.heap.size A iC 1 ws:=own_rdr iC_length h.way
theorem Nt.c0 (h:Nt w B r vs vw es ws):w.cell? ⟨r,0,none⟩=some vs:=h.blk.cell 0
theorem Nt.c1 (h:Nt w B r vs vw es ws):w.cell? ⟨r,1,none⟩=some vw:=h.blk.cell 1
theorem Nt.not (h:Nt w B r vs vw es ws) {k:Nat} (hk:w.heap.size≤k):¬NO r vs vw es k:=fun x=>by have:=h.own_lt x;omega
theorem Nt.low (h:Nt w B r vs vw es ws) {k:Nat} (hk:k<B):¬NO r vs vw es k:=fun x=>by have:=h.own_lo x;omega
theorem rd_nt {A:Option Addr} {xs:List Value} (h:Rd w w.heap.size A xs) (hn:xs≠[]→∀a,A=some a→¬NT r vs vw a.block):∀w',Chg (NT r vs vw) w w'→Rd w' w'.heap.size A xs:=fun w' hc=>by
 by_cases hx:xs = []
 ·exact .inl hx
 ·exact rd_chg h hc (hn hx)
end
theorem way_at {w:World} {B:Nat} {A:Option Addr} {ws:List Nat} {i k:Nat} (h:RdR w B A iC 1 ws) (hi:ws[i]? = some k):∃g,A=some ⟨g,0,none⟩∧g<B∧w.cell? ⟨g,i,none⟩=some (.int .i64 (k:Int)):=by
 obtain⟨g,h1,h2,h3⟩:=h.at_ hi
 refine⟨g,h1,h2,?_⟩
 have:=h3 0 (.int .i64 (k:Int)) rfl
 rwa [Nat.mul_one,Nat.add_zero] at this
theorem flat_i (l:List Nat):l.flatMap iC=l.map (fun k:Nat=>Value.int .i64 (k:Int)):=by
 rw[List.flatMap_def]
 induction l with
 |nil=>rfl
 |cons a l ih=>rw[List.map_cons,List.flatten_cons,ih];rfl
section
variable {w0 w5 w6:World} {B r:Nat} {vs vw v6:Value} {es:List En} {ws ws6:List Nat} {e:En}
theorem nt_way (h:Nt w0 B r vs vw es ws) (hb:Below w0.heap.size w0 w5) (h5:Nt w5 B r vs vw es ws) (ho:w6.ownsRow B 3 1 v6 ws6.length (ws6.flatMap iC)) (hg:w5.grownBy w6 vw.ownBlock) (hv:v6.ownBlock=vw.ownBlock∨v6.ownBlock=some w5.heap.size) :
  Nt (w6.setCell ⟨r,1,none⟩ v6) B r vs v6 es ws6∧Chg (NT r vs vw) w0 (w6.setCell ⟨r,1,none⟩ v6)∧(∀q,NO r vs v6 es q→NO r vs vw es q∨w0.heap.size≤q):=by
 have hset:Chg (fun q=>q=r) w6 (w6.setCell ⟨r,1,none⟩ v6):=Chg.set (p:=⟨r,1,none⟩) (Chg.refl (fun q=>q=r) w6) (.inl rfl) v6
 have hg6:Chg (fun q=>vw.ownBlock=some q) w5 w6:=⟨hg.os,hg.tape,hg.output,hg.size,fun i hi hn=>hg.block i hi (fun e=>hn e.symm)⟩
 have hc5:Chg (fun q=>q=r∨vw.ownBlock=some q) w5 (w6.setCell ⟨r,1,none⟩ v6):=(hg6.mono (fun q _ x=>.inr x)).trans hset (fun q _ x=>.inl x)
 have hc:Chg (NT r vs vw) w0 (w6.setCell ⟨r,1,none⟩ v6):=(Chg.of_below hb).trans hc5 (fun q _ x=>x.elim .inl (fun y=>.inr (.inr y)))
 have hrl:=h.lt
 have hwr:v6.ownBlock≠some r:=fun x=>by
  rcases hv with g | g
  ·rw[g] at x;exact h.wr x
  ·rw[g] at x;injection x with x;have:=hb.size;omega
 refine⟨⟨(h5.blk.grown hg h5.wr).set 1 v6,own_chg hc5 h5.row (fun k hk x=>?_),own_chg hset ho (fun k hk x=>hwr (x▸hk)),h.lo,h.vr,hwr,fun k hk x=>?_,fun y hy=>?_,fun y hy a ha=>?_⟩,hc,fun q hq=>?_⟩
 ·rcases x with x | x
  ·exact h.vr (x▸hk)
  ·exact h.sw k hk x
 ·rcases hv with g | g
  ·rw[g] at x;exact h.sw k hk x
  ·rw[g] at x;injection x with x;have:=(World.ownsRow.lt h5.row k hk).2;omega
 ·exact rd_chg (h5.rd y hy) hc5 (fun a ha x=>by
   have q2:=h5.off y hy a ha
   rcases x with x | x
   ·exact q2.2.1 x
   ·exact q2.2.2.2.1 x)
 ·have q:=h5.off y hy a ha
  refine⟨q.1,q.2.1,q.2.2.1,fun x=>?_,Nat.lt_of_lt_of_le q.2.2.2.2 hc5.size⟩
  rcases hv with g | g
  ·rw[g] at x;exact q.2.2.2.1 x
  ·rw[g] at x;injection x with x;omega
 ·rcases hq with hq | hq | hq | hq
  ·exact .inl (.inl hq)
  ·exact .inl (.inr (.inl hq))
  ·rcases hv with g | g
   ·exact .inl (.inr (.inr (.inl (g▸hq))))
   ·rw[g] at hq;injection hq with hq;have:=hb.size;exact .inr (by omega)
  ·exact .inl (.inr (.inr (.inr hq)))
theorem nt_sent (h:Nt w0 B r vs vw es ws) (hb:Below w0.heap.size w0 w5) (h5:Nt w5 B r vs vw es ws) (hn:Own1 w0 w5 e.A (bvs e.p.b)) (ho:w6.ownsRow B 32 3 v6 (es++[e]).length ((es++[e]).flatMap enC)) (hg:w5.grownBy w6 vs.ownBlock) (hv:v6.ownBlock=vs.ownBlock∨v6.ownBlock=some w5.heap.size) :
  Nt (w6.setCell ⟨r,0,none⟩ v6) B r v6 vw (es++[e]) ws∧Chg (NT r vs vw) w0 (w6.setCell ⟨r,0,none⟩ v6)∧(∀q,NO r v6 vw (es++[e]) q→NO r vs vw es q∨w0.heap.size≤q):=by
 have hset:Chg (fun q=>q=r) w6 (w6.setCell ⟨r,0,none⟩ v6):=Chg.set (p:=⟨r,0,none⟩) (Chg.refl (fun q=>q=r) w6) (.inl rfl) v6
 have hg6:Chg (fun q=>vs.ownBlock=some q) w5 w6:=⟨hg.os,hg.tape,hg.output,hg.size,fun i hi hn=>hg.block i hi (fun e=>hn e.symm)⟩
 have hc5:Chg (fun q=>q=r∨vs.ownBlock=some q) w5 (w6.setCell ⟨r,0,none⟩ v6):=(hg6.mono (fun q _ x=>.inr x)).trans hset (fun q _ x=>.inl x)
 have hc:Chg (NT r vs vw) w0 (w6.setCell ⟨r,0,none⟩ v6):=(Chg.of_below hb).trans hc5 (fun q _ x=>x.elim .inl (fun y=>.inr (.inl y)))
 have hrl:=h.lt
 have hvr:v6.ownBlock≠some r:=fun x=>by
  rcases hv with g | g
  ·rw[g] at x;exact h.vr x
  ·rw[g] at x;injection x with x;have:=hb.size;omega
 have hmem:∀y,y∈es++[e]→y∈es∨y=e:=fun y hy=>by simpa using hy
 refine⟨⟨(h5.blk.grown hg h5.vr).set 0 v6,own_chg hset ho (fun k hk x=>hvr (x▸hk)),own_chg hc5 h5.way (fun k hk x=>?_),h.lo,hvr,h.wr,fun k hk x=>?_,fun y hy=>?_,fun y hy a ha=>?_⟩,hc,fun q hq=>?_⟩
 ·rcases x with x | x
  ·exact h.wr (x▸hk)
  ·exact h.sw k x hk
 ·rcases hv with g | g
  ·rw[g] at hk;exact h.sw k hk x
  ·rw[g] at hk;injection hk with hk;have:=(World.ownsRow.lt h5.way k x).2;omega
 ·rcases hmem y hy with hy | rfl
  ·exact rd_chg (h5.rd y hy) hc5 (fun a ha x=>by
    have q2:=h5.off y hy a ha
    rcases x with x | x
    ·exact q2.2.1 x
    ·exact q2.2.2.1 x)
  ·exact rd_chg hn.1 hc5 (fun a ha x=>by
    have q:=hn.2 a ha
    rcases x with x | x
    ·omega
    ·have:=(World.ownsRow.lt h.row _ x).2;omega)
 ·rcases hmem y hy with hy | rfl
  ·have q:=h5.off y hy a ha
   refine⟨q.1,q.2.1,fun x=>?_,q.2.2.2.1,Nat.lt_of_lt_of_le q.2.2.2.2 hc5.size⟩
   rcases hv with g | g
   ·rw[g] at x;exact q.2.2.1 x
   ·rw[g] at x;injection x with x;omega
  ·have q:=hn.2 a ha
   refine⟨Nat.le_trans h.big q.1,by omega,fun x=>?_,fun x=>?_,Nat.lt_of_lt_of_le q.2 hc5.size⟩
   ·rcases hv with g | g
    ·rw[g] at x;have:=(World.ownsRow.lt h.row _ x).2;omega
    ·rw[g] at x;injection x with x;omega
   ·have:=(World.ownsRow.lt h.way _ x).2;omega
 ·rcases hq with hq | hq | hq | ⟨y,hy,a,ha,hq⟩
  ·exact .inl (.inl hq)
  ·rcases hv with g | g
   ·exact .inl (.inr (.inl (g▸hq)))
   ·rw[g] at hq;injection hq with hq;have:=hb.size;exact .inr (by omega)
  ·exact .inl (.inr (.inr (.inl hq)))
  ·rcases hmem y hy with hy | rfl
   ·exact .inl (.inr (.inr (.inr ⟨y,hy,a,ha,hq⟩)))
   ·exact .inr (hq▸(hn.2 a ha).1)
end
theorem pk_info:(Try.prog.info? 32).map (·.size)=some 3:=by kernel_rfl
theorem pk_all:(Try.prog.info? 32).map (fun i=>(i.zero,i.size,i.bytes))=some (some (.agg #[.int .i64 0,.int .i64 0,.slice none 0 0]),3,40):=by kernel_rfl
theorem int_all:(Try.prog.info? 3).map (fun i=>(i.zero,i.size,i.bytes))=some (some (.int .i64 0),1,8):=by kernel_rfl
theorem run_build_int {P:Program} (w:World) (t e:TypeId) (k:Int) (ie:TypeInfo) (hu:P.underlying t=some (.slice e)) (hie:P.info? e=some ie) (hz:ie.zero=some (.int .i64 0)) (hs:ie.size=1) :
  (Instr.buildSlice t 1 #[(0,.int .i64 k)]).run P w = .ok (.slice (some ⟨w.heap.size,0,none⟩) 1 1) (w.alloc (.cells #[.int .i64 k] e)):=by
 refine run_buildSlice w t e 1 _ #[.int .i64 k] ie _ hu hie hz (by rw[hs];omega) (by rw[hs];omega) ?_
 rw[hs]
 simp only[Instr.fill,Value.cells]
 simp
 apply Array.ext_getElem?
 intro i
 rcases i with _ | i<;>simp
section
variable {P:Program} {a:Act} {w w':World} {ty:TypeId} {dst:Option Tmp} {pos:String} {after:Array _} {guard:Option (Nat×Bool)}
theorem exec_slice {t:TypeId} {x:Operand} {cs:Array Value} {s:Value} (hx:a.eval x = .agg cs) (h:(Instr.buildSlice t 1 #[(0,.agg cs)]).run P w = .ok s w'):(execOp a.eval ⟨dst,.buildSlice t 1 #[(0,x)],ty,pos,after,guard⟩).run P w = .ok (.value s) w':=by
 simp only[execOp,Sem.run_bind,List.map_toArray,List.map_cons,List.map_nil,hx,h,Result.andThen_ok,Sem.run_pure]
theorem exec_slice_int {t:TypeId} {x:Operand} {k:Int} {s:Value} (hx:a.eval x = .int .i64 k) (h:(Instr.buildSlice t 1 #[(0,.int .i64 k)]).run P w = .ok s w'):(execOp a.eval ⟨dst,.buildSlice t 1 #[(0,x)],ty,pos,after,guard⟩).run P w = .ok (.value s) w':=by
 simp only[execOp,Sem.run_bind,List.map_toArray,List.map_cons,List.map_nil,hx,h,Result.andThen_ok,Sem.run_pure]
theorem exec_app {t:TypeId} {x y:Operand} {u v s:Value} (hx:a.eval x=u) (hy:a.eval y=v) (h:(Builtin.append_ #[t,t] ty #[u,v]).run P w = .ok s w'):(execOp a.eval ⟨dst,.call {callee:=.builtin .append,args:=#[x,y],argTypes:=#[t,t]},ty,pos,after,guard⟩).run P w = .ok (.value s) w':=by
 simp only[execOp,resolve,invoke,builtin,Sem.run_bind,Sem.run_pure,Result.andThen_ok,List.map_toArray,List.map_cons,List.map_nil,hx,hy,h]
theorem exec_load_mid {g off:Nat} {t:TypeId} {cs:Array Value} {d:TypeDesc} (x:Operand) (hx:a.eval x = .pointer (some ⟨g,off,none⟩)) (h:w'.rangeAt g off cs.toList) (hu:P.underlying t=some d) (hd:d.isRow=true) (hi:(P.info? t).map (·.size)=some cs.size) :
  (execOp a.eval ⟨dst,.load t x,ty,pos,after,guard⟩).run P w' = .ok (.value (.agg cs)) w':=by
 have:=run_loadVar_mid (P:=P) w' g off t cs.toList d h hu hd (by simpa using hi)
 unfold execOp
 simp only[hx,Instr.loadAt,Instr.sureAddr,Sem.run_bind,Sem.run_pure,Result.andThen_ok,this]
end
end Go.Proofs.Ytlihoeipmjbnbaa.Nt
end

section
set_option linter.unusedVariables false
set_option linter.unusedSimpArgs false
namespace Go.Proofs.Ytlihoeipmjbnbaa.Nt
open Go.RowKit Go.Proofs.Ytlihoeipmjbnbaa.Mem Go.Proofs.Ytlihoeipmjbnbaa.Se
open Go.Proofs.Ytlihoeipmjbnbaa.Nm (L)
open Go.Proofs.Ytlihoeipmjbnbaa.Ca (Own1 rd_chg row_blk row_mk bclone_any)
open Go.Proofs.Ytlihoeipmjbnbaa.Rg (flat_at flat_one RdR own_rdr own_chg)
set_option maxHeartbeats 1600000 in
set_option maxRecDepth 100000 in
theorem clone_pk (p:Pk) (A:Option Addr) (c B:Nat) (w:World) (hr:Rd w B A (bvs p.b)) (hB:B≤w.heap.size) (hl:p.b.length≤100000000000) :
  Calls Try.prog 23 #[.agg (pkA p A c)] w fun e w'=>∃A' c',e = .returned (.agg (pkA p A' c'))∧Own1 w w' A' (bvs p.b)∧Below w.heap.size w w':=by
 obtain⟨W,eW⟩:∃W,W=(w.alloc (.cells #[.int .i64 p.f,.int .i64 p.t,.slice A p.b.length c] 32)).alloc (.cells #[.int .i64 0,.int .i64 0,.slice none 0 0] 32):=⟨_,rfl⟩
 have hb:Below w.heap.size w W:=eW▸((Below.refl _ _).alloc (Nat.le_refl _) _).alloc (by simp) _
 have HP:=Lib.hid (show Blk W w.heap.size 32 #[.int .i64 p.f,.int .i64 p.t,.slice A p.b.length c] from eW▸(Blk.new w _ _).alloc _)
 have HZ:=Lib.hid (show Blk W (w.heap.size+1) 32 #[.int .i64 0,.int .i64 0,.slice none 0 0] by have:=Blk.new (w.alloc (.cells #[.int .i64 p.f,.int .i64 p.t,.slice A p.b.length c] 32)) 32 #[.int .i64 0,.int .i64 0,.slice none 0 0];simp only[World.size_alloc] at this;exact eW▸this)
 have cb:=bclone_any A c B p.b W (hr.below (hb.mono hB)) (Nat.le_trans hB hb.size) hl
 have HB:=Lib.hid hb
 obtain⟨n,en⟩:∃n,n=p.b.length:=⟨_,rfl⟩
 have EN:=Lib.hid en
 unfold pkA
 rw[←en] at cb HP eW⊢
 have k2:W.cell? ⟨w.heap.size,2,none⟩=some (.slice A n c):=HP.out.cell 2
 clear hb hr hB hl en
 go_enter Try.func23,Try.ntmps23
 go_upto_region 1 with fail
 rw[←eW]
 clear eW
 go_upto_region 2 with(first
  |(go_at_call 26;refine Calls.mono cb ?_;rintro e w1 ⟨A',c',rfl,ho,hb1,_⟩;clear cb k2;have h0:=HP.out.below hb1;have k2:w1.cell? ⟨w.heap.size,2,none⟩=some (.slice A n c):=h0.cell 2;have f2:=h0.frozen 2;have HP1:=Lib.hid h0;have HZ1:=Lib.hid (HZ.out.below hb1);have HO:=Lib.hid (ho.since HB.out.size);have HNE:=Lib.hid (show ∀p,A'=some p→p.block≠w.heap.size∧p.block≠w.heap.size+1 from fun p hp=>by have:=HZ.out.lt;have:=(ho.2 p hp).1;omega);have HB1:=Lib.hid (HB.out.trans (hb1.mono HB.out.size));clear h0 ho hb1)
  |fail)
 obtain⟨W2,eW2⟩:∃W2,W2=w1.setCell ⟨w.heap.size,2,none⟩ (.slice A' n c'):=⟨_,rfl⟩
 have hp2:Blk W2 w.heap.size 32 #[.int .i64 p.f,.int .i64 p.t,.slice A' n c']:=eW2▸HP1.out.set 2 _
 have hz2:Blk W2 (w.heap.size+1) 32 #[.int .i64 0,.int .i64 0,.slice none 0 0]:=eW2▸Si.Blk.far HZ1.out _ _ (by simp)
 have HO2:=Lib.hid (show Own1 w W2 A' (bvs p.b) from eW2▸HO.out.chg (Chg.set (p:=⟨w.heap.size,2,none⟩) (Chg.refl (fun k=>k=w.heap.size) w1) (.inl rfl) _) (fun q hq=>(HNE.out q hq).1))
 have HB2:=Lib.hid (show Below w.heap.size w W2 from eW2▸Si.below_set HB1.out (by simp) _)
 obtain⟨xs,exs⟩:∃xs:Array Value,xs=#[.int .i64 p.f,.int .i64 p.t,.slice A' n c']:=⟨_,rfl⟩
 have EXS:=Lib.hid exs
 have HXS:=Lib.hid (show xs.size=3 by rw[exs];rfl)
 have HXI:=Lib.hid (show(Try.prog.info? 32).map (·.size)=some xs.size by rw[exs];exact pk_info)
 have HX1:=Lib.hid (show xs.all (·.oneCell')=true by rw[exs,EN.out];exact pkA_one p A' c')
 have HP2:=Lib.hid (show Blk W2 w.heap.size 32 xs by rw[exs];exact hp2)
 have HZ2:=Lib.hid hz2
 rw[←eW2]
 clear eW2 k2 f2 hp2 hz2 HP HZ HP1 HZ1 HB HO HB1 exs
 go_wp2_with (first
  |(refine Wh.load_g (by rfl) 32 (.tmp 1) (by rfl) w.heap.size 0 (by rfl) xs _ (Wh.range_blk HP2.out) Try.underlying32 (by rfl) HXI.out ?_)
  |(refine Wh.store_over (by rfl) 32 (.tmp 2) (.tmp 7) (by rfl) (w.heap.size+1) 32 _ HZ2.out xs (by rfl) (by rfl) (by rw[HXS.out];rfl) HXI.out HX1.out ?_;rintro V hV hg;have HV:=Lib.hid hV;have HBV:=Lib.hid (btg HB2.out hg (by omega));have HOV:=Lib.hid (HO2.out.chg (Chg.of_grown (S:=fun k=>k=w.heap.size+1) hg rfl) (fun q hq=>(HNE.out q hq).2));clear hV hg)
  |fail)
 refine bodyPost_ret (v:=.agg xs) ?_ ?_ ?_
 ·exact Wh.results_cell (v:=.agg xs) 2 32 ⟨w.heap.size+1,0,none⟩ Try.results23 (by rfl) (Wh.load_blk HV.out Try.underlying32 (by rfl) HXI.out)
 ·rfl
 ·exact⟨A',c',by rw[EXS.out],HOV.out,HBV.out⟩
theorem nt_new (B:Nat) (w:World) (hB:B≤w.heap.size):Calls Try.prog 9 #[] w fun e w'=>e = .returned (.pointer (some ⟨w.heap.size,0,none⟩))∧Nt w' B w.heap.size (.slice none 0 0) (.slice none 0 0) [] []∧Below w.heap.size w w'∧w'.heap.size=w.heap.size+1:=by
 have h1:Nt (w.alloc (.cells #[.slice none 0 0,.slice none 0 0] 48)) B w.heap.size (.slice none 0 0) (.slice none 0 0) [] []:=
  ⟨Blk.new _ _ _,World.ownsRow_nil _ _ _ _,World.ownsRow_nil _ _ _ _,hB,(fun h=>by cases h),(fun h=>by cases h),(fun k h=>by cases h),(fun e he=>by cases he),(fun e he=>by cases he)⟩
 have H1:=Lib.hid h1
 have H2:=Lib.hid ((Below.refl w.heap.size w).alloc (Nat.le_refl _) (.cells #[.slice none 0 0,.slice none 0 0] 48))
 clear h1
 go_enter Try.func9,Try.ntmps9
 go_wp2
 go_ret
 exact⟨rfl,H1.out,H2.out,by simp⟩
theorem nt_len (B r:Nat) (vs vw:Value) (es:List En) (ws:List Nat) (w:World) (h:Nt w B r vs vw es ws):Calls Try.prog 19 #[.pointer (some ⟨r,0,none⟩)] w fun e w'=>e = .returned (.int .i64 (ws.length:Int))∧w'=w:=by
 obtain⟨A,c,rfl,_⟩:=h.num2
 obtain⟨n,en⟩:∃n,n=ws.length:=⟨_,rfl⟩
 have k0:=h.c1
 rw[←en] at k0⊢
 clear h en
 go_enter Try.func19,Try.ntmps19
 go_wp2
 go_ret
 exact⟨rfl,rfl⟩
theorem len_nil (w:World):Calls Try.prog 19 #[.pointer none] w fun e w'=>e = .returned (.int .i64 0)∧w'=w:=by
 go_enter Try.func19,Try.ntmps19
 go_wp2
 go_ret
 exact⟨rfl,rfl⟩
theorem full_any (B r:Nat) (vs vw:Value) (es:List En) (ws:List Nat) (w:World) (h:Nt w B r vs vw es ws):Calls Try.prog 22 #[.pointer (some ⟨r,0,none⟩)] w fun e w'=>e = .returned (.bool (decide (32≤ws.length)))∧w'=w:=by
 have c1:=nt_len B r vs vw es ws w h
 obtain⟨n,en⟩:∃n,n=ws.length:=⟨_,rfl⟩
 rw[←en] at c1⊢
 clear h en
 by_cases hn:32≤n
 ·have t1:(32:Int)≤(n:Int):=by omega
  rw[decide_eq_true hn]
  clear hn
  go_enter Try.func22,Try.ntmps22
  go_wp2_with (go_at_call 19;refine Calls.mono c1 ?_;rintro e w1 ⟨rfl,hw⟩;subst hw)
  go_ret
  first
   |exact⟨rfl,rfl⟩
   |exact⟨by simp;omega,rfl⟩
 ·have t1:¬(32:Int)≤(n:Int):=by omega
  rw[decide_eq_false hn]
  clear hn
  go_enter Try.func22,Try.ntmps22
  go_wp2_with (go_at_call 19;refine Calls.mono c1 ?_;rintro e w1 ⟨rfl,hw⟩;subst hw)
  go_ret
  first
   |exact⟨rfl,rfl⟩
   |exact⟨by simp;omega,rfl⟩
def hasB (n:Nat) (i:Int):Bool:=decide (0≤i)&&decide (i<(n:Int))
theorem has_any (B r:Nat) (vs vw:Value) (es:List En) (ws:List Nat) (i:Int) (w:World) (h:Nt w B r vs vw es ws):Calls Try.prog 25 #[.pointer (some ⟨r,0,none⟩),.int .i64 i] w fun e w'=>e = .returned (.bool (hasB ws.length i))∧w'=w:=by
 have c1:=nt_len B r vs vw es ws w h
 obtain⟨n,en⟩:∃n,n=ws.length:=⟨_,rfl⟩
 rw[←en] at c1⊢
 clear h en
 unfold hasB
 by_cases hi:0≤i
 ·rw[decide_eq_true hi]
  have t0:decide (0≤i)=true:=decide_eq_true hi
  clear hi
  go_enter Try.func25,Try.ntmps25
  go_wp2_with (go_at_call 19;refine Calls.mono c1 ?_;rintro e w1 ⟨rfl,hw⟩;subst hw)
  go_ret
  exact⟨rfl,rfl⟩
 ·rw[decide_eq_false hi]
  have t0:decide (0≤i)=false:=decide_eq_false hi
  clear hi
  go_enter Try.func25,Try.ntmps25
  go_wp2_with (go_at_call 19;refine Calls.mono c1 ?_;rintro e w1 ⟨rfl,hw⟩;subst hw)
  go_ret
  exact⟨rfl,rfl⟩
theorem has_nil (i:Int) (w:World):Calls Try.prog 25 #[.pointer none,.int .i64 i] w fun e w'=>e = .returned (.bool false)∧w'=w:=by
 have c1:=len_nil w
 by_cases hi:0≤i
 ·have t0:decide (0≤i)=true:=decide_eq_true hi
  have t1:decide (i<0)=false:=decide_eq_false (by omega)
  clear hi
  go_enter Try.func25,Try.ntmps25
  go_wp2_with (go_at_call 19;refine Calls.mono c1 ?_;rintro e w1 ⟨rfl,hw⟩;subst hw)
  go_ret
  exact⟨rfl,rfl⟩
 ·have t0:decide (0≤i)=false:=decide_eq_false hi
  clear hi
  go_enter Try.func25,Try.ntmps25
  go_wp2_with (go_at_call 19;refine Calls.mono c1 ?_;rintro e w1 ⟨rfl,hw⟩;subst hw)
  go_ret
  exact⟨rfl,rfl⟩
end Go.Proofs.Ytlihoeipmjbnbaa.Nt
end

section
set_option linter.unusedVariables false
set_option linter.unusedSimpArgs false
namespace Go.Proofs.Ytlihoeipmjbnbaa.Nt
open Go.RowKit Go.Proofs.Ytlihoeipmjbnbaa.Mem Go.Proofs.Ytlihoeipmjbnbaa.Se
open Go.Proofs.Ytlihoeipmjbnbaa.Nm (L)
open Go.Proofs.Ytlihoeipmjbnbaa.Ca (Own1 rd_chg row_blk row_mk run_clear row_there)
open Go.Proofs.Ytlihoeipmjbnbaa.Rg (flat_at flat_one RdR own_rdr own_chg)
theorem flat_erase (ws:List Nat) (i q:Nat):((ws.eraseIdx i).flatMap iC)[q]? = if q<i then (ws.flatMap iC)[q]? else (ws.flatMap iC)[q+1]?:=by
 rw[flat_i,flat_i,List.getElem?_map,List.getElem?_eraseIdx]
 split<;>rw[List.getElem?_map]
theorem flat_drop (ws:List Nat) (k q:Nat):((ws.drop k).flatMap iC)[q]? = (ws.flatMap iC)[k+q]?:=by
 rw[flat_i,flat_i,List.getElem?_map,List.getElem?_map,List.getElem?_drop]
theorem drop_len (ws:List Nat) (k:Nat):((ws.drop k).flatMap iC).length=ws.length - k:=by
 rw[flat_i,List.length_map,List.length_drop]
section
variable {w:World} {B g cap i:Nat} {t:TypeId} {ws:List Nat}
theorem del_row (ho:w.ownsRow B t 1 (.slice (some ⟨g,0,none⟩) ws.length cap) ws.length (ws.flatMap iC)) (hi:i<ws.length) (vs:List Value) (hv:vs.length=1) :
  ((w.setCells g i ((ws.drop (i+1)).flatMap iC)).setCells g (ws.length - 1) vs).ownsRow B t 1 (.slice (some ⟨g,0,none⟩) (ws.length - 1) cap) (ws.length - 1) ((ws.eraseIdx i).flatMap iC):=by
 obtain⟨cur,h1,h2,h3,h4,h5,h6⟩:=row_blk ho
 rw[Nat.mul_one] at h5 h6
 obtain⟨ds,k1,k2,k3,k4⟩:=Wh.blk_cells_aux ((ws.drop (i+1)).flatMap iC) i w cur h1 (by rw[drop_len];omega)
 rw[drop_len] at k3 k4
 obtain⟨es,m1,m2,m3,m4⟩:=Wh.blk_cells_aux vs (ws.length - 1) _ ds k1 (by rw[hv,k2,h5];omega)
 refine row_mk m1 h2 (by omega) h4 (by rw[m2,k2,h5,Nat.mul_one]) ?_
 rw[Nat.mul_one]
 apply List.ext_getElem?
 intro q
 rw[flat_erase]
 by_cases hq:q<ws.length - 1
 ·rw[List.getElem?_take_of_lt hq,Array.getElem?_toList,m4 q (.inl hq)]
  by_cases hqi:q<i
  ·rw[if_pos hqi,k4 q (.inl hqi),←h6,List.getElem?_take_of_lt (by omega),Array.getElem?_toList]
  ·rw[if_neg hqi,k3 q (by omega) (by omega),flat_drop,show i+1+(q - i)=q+1 by omega]
 ·rw[List.getElem?_eq_none (by rw[List.length_take];omega),if_neg (by omega),List.getElem?_eq_none (by rw[flat_i,List.length_map];omega)]
end
set_option maxHeartbeats 1600000 in
set_option maxRecDepth 100000 in
theorem del_any (B:Nat) (v:Value) (ws:List Nat) (i:Nat) (w:World) (h:w.ownsRow B 3 1 v ws.length (ws.flatMap iC)) (hi:i<ws.length) (hl:ws.length≤1000) (hB:B≤w.heap.size) :
  Calls Try.prog 24 #[v,.int .i64 (i:Int),.int .i64 ((i:Int)+1)] w fun e w'=>∃v',e = .returned v'∧w'.ownsRow B 3 1 v' (ws.eraseIdx i).length ((ws.eraseIdx i).flatMap iC)∧w.grownBy w' v.ownBlock∧v'.ownBlock=v.ownBlock:=by
 have hle:(ws.eraseIdx i).length=ws.length - 1:=by rw[List.length_eraseIdx,if_pos hi]
 rcases h.2 with⟨_,h2⟩ | ⟨g,cap,cur,rfl,hBg,_,hcap,hmax,_⟩
 ·omega
 have hsp:=fun o k hk=>row_there (f:=iC) h o k hk
 obtain⟨bk,hbk,_,_,_,hbs,hbt⟩:=row_blk h
 obtain⟨news,hnews⟩:∃news,news=(ws.drop (i+1)).flatMap iC:=⟨_,rfl⟩
 have hlen:news.length=(ws.length - (i+1))*1:=by rw[hnews,drop_len,Nat.mul_one]
 have hone:∀u∈news,u.oneCell'=true:=by rw[hnews];exact flat_one iC iC_one _
 obtain⟨n,en⟩:∃n,n=ws.length:=⟨_,rfl⟩
 rw[hle]
 have hd:w.drew.ownsRow B 3 1 (.slice (some ⟨g,0,none⟩) ws.length cap) ws.length (ws.flatMap iC):=h
 have hrow:=del_row hd hi
 obtain⟨i0,hi0,hz0,hs0,hb0⟩:=info_parts int_all
 have KI1:=Lib.hid hi0;have KI2:=Lib.hid hz0;have KI3:=Lib.hid hs0;have KI4:=Lib.hid hb0
 rw[←hnews] at hrow
 have hrd:∀j u,news[j]? = some u→w.drew.cell? ⟨g,i+1+j,none⟩=some u:=fun j u hu=>by
  have:=h.cells (g:=g) rfl (i+1+j) u (by rw[←flat_drop,←hnews];exact hu)
  rw[addr_add,Nat.zero_add] at this
  exact this
 have hth:∀j,j<news.length→(w.drew.cell? ⟨g,0+i*1+j,none⟩).isSome=true∧w.drew.frozen? ⟨g,0+i*1+j,none⟩=false:=fun j hj=>by
  have:=hsp 0 (ws.length) (by omega) (i+j) (by omega)
  rw[Nat.mul_one,Nat.zero_add]
  rw[Nat.zero_add] at this
  exact this
 rw[←en] at hlen hrow hi hl hcap⊢
 obtain⟨A,hA,hsrc⟩:∃A:Addr,(if cap=i+1 then some (⟨g,0,none⟩:Addr) else some ⟨g,i+1,none⟩)=some A∧Hid (∀j u,news[j]? = some u→w.drew.cell? (A.add j)=some u):=by
  by_cases hc:cap=i+1
  ·refine⟨⟨g,0,none⟩,by simp [hc],fun j u hu=>?_⟩
   have h0:news.length=0:=by rw[hlen];omega
   rw[List.length_eq_zero_iff.1 h0] at hu
   simp at hu
  ·refine⟨⟨g,i+1,none⟩,by simp [hc],fun j u hu=>?_⟩
   rw[addr_add];exact hrd j u hu
 obtain⟨W1,eW1⟩:∃W1,W1=w.drew.setCells g (0+i*1) news:=⟨_,rfl⟩
 have hT1:W1.there g (n - 1) (1*1):=fun j hj=>by
  obtain⟨ds,k1,k2,_⟩:=Wh.blk_cells_aux news i w.drew bk (show Blk w.drew g _ bk from hbk) (by rw[hbs,hlen];omega)
  rw[eW1,Nat.zero_add,Nat.mul_one]
  exact Wh.there_mid k1 (n - 1) (1*1) (by rw[k2,hbs];omega) j hj
 have hcl:=fun ty=>run_clear Try.prog W1 44 3 ty i0 _ 1 Try.underlying44 hi0 hz0 (by rfl) (by intro u hu;have:u = .int .i64 0:=(by simpa [Value.cells] using hu);subst this;rfl) (by omega) g (n - 1) 1 (cap - (n - 1)) hT1
 have HN:=Lib.hid hlen;have HT:=Lib.hid hth;have H1:=Lib.hid hone;have HR:=Lib.hid hrow;have HC:=Lib.hid hcl;have EW1:=Lib.hid eW1
 have q1:(i:Int)+1≤(n:Int):=by omega
 have q2:(0:Int)≤(i:Int):=by omega
 have q8:(0:Int)≤(i:Int)+1:=by omega
 have q3:(n:Int)≤(cap:Int):=by omega
 have q4:((i:Int)==(i:Int)+1)=false:=by simp;omega
 have q5:i≤cap:=by omega
 have q6:i+1≤cap:=by omega
 have q7:i+1≤n:=by omega
 clear hth hone hrow hcl eW1 hrd hsp hlen hnews hbt hbs hbk hi0 hz0 hs0 hb0 h hd hT1 en
 go_enter Try.func24,Try.ntmps24
 go_upto_region 5 with fail
 go_region_law (refine step_append_room rfl (.tmp 22) (.tmp 25) 44 rfl 3 i0 1 Try.underlying44 KI1.out KI3.out g 0 i cap (by simp [Act.eval,Act.put]) A (n - (i+1)) (cap - (i+1)) news (by simp [Act.eval,Act.put,hA]) HN.out hsrc.out H1.out (by omega) HT.out ?_;rw[←EW1.out])
 obtain⟨vs,hvl,hrun⟩:=HC.out 0
 obtain⟨m,em⟩:∃m,m=n - 1:=⟨_,rfl⟩
 have HM:=Lib.hid em
 rw[show(Value.slice (some ⟨g,n - 1,none⟩) 1 (cap - (n - 1))) = .slice (some ⟨g,m,none⟩) (n - m) (cap - m) by rw[em,show n - (n - 1)=1 by omega],←em] at hrun
 have q9:(m:Int)≤(n:Int):=by omega
 have q10:m≤n:=by omega
 have q11:(0:Int)≤(m:Int):=by omega
 have q12:¬cap=m:=by omega
 go_upto_region 6 with fail
 rw[show i+(n - (i+1))=m by omega]
 clear em hA q1 q2 q4 q5 q6 q7 q8
 go_wp2
 go_ret
 rw[←HM.out]
 have h:=HR.out vs (by rw[hvl])
 rw[Nat.mul_one,Nat.zero_add] at EW1
 rw[←EW1.out,←HM.out] at h
 refine⟨_,rfl,h,?_,rfl⟩
 rw[EW1.out]
 exact Wh.g_cells (.inl rfl) _ _ _ (Wh.g_cells (.inl rfl) _ _ _ (g_drew (World.grownBy.refl _ _)))
end Go.Proofs.Ytlihoeipmjbnbaa.Nt
end
