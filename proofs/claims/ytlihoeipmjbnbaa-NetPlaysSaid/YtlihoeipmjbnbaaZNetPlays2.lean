import Derived.Test.YtlihoeipmjbnbaaProg
import Derived.StillTailTactics
import Derived.Deep.CutBlock
import Derived.Laws.StructEq
import Derived.Deep.LoopGhost
import Derived.Lib.SliceRun
import Derived.Deep.RegionHeld3
import Derived.Test.YtlihoeipmjbnbaaZNetPlays1
section
set_option linter.unusedVariables false
namespace Go.Proofs.Ytlihoeipmjbnbaa.Ca
open Go.RowKit Go.Proofs.Ytlihoeipmjbnbaa.Mem Go.Proofs.Ytlihoeipmjbnbaa.Se
open Go.Proofs.Ytlihoeipmjbnbaa.Rg (Pr flat_len flat_at flat_one RdR own_rdr own_chg)
section
variable {α:Type} {f:α→List Value} {n:Nat}
theorem flat_take (h:∀x,(f x).length=n):∀(l:List α) (i:Nat),(l.flatMap f).take (i*n)=(l.take i).flatMap f
 | [],i=>by simp
 |a :: l,0=>by simp
 |a :: l,i+1=>by
  rw[List.take_succ_cons,List.flatMap_cons,List.flatMap_cons,←flat_take h l i,Nat.succ_mul,Nat.add_comm (i*n) n,List.take_append,h,show n+i*n - n=i*n by omega,List.take_of_length_le (by rw[h];omega)]
variable {w:World} {B g cap:Nat} {t:TypeId} {l:List α}
theorem row_blk {m:Nat} {xs:List Value} (ho:w.ownsRow B t n (.slice (some ⟨g,0,none⟩) m cap) m xs):∃cur,Blk w g t cur∧B≤g∧m≤cap∧cap≤maxLen∧cur.size=cap*n∧cur.toList.take (m*n)=xs:=by
 rcases ho.2 with⟨h1,_⟩ | ⟨g1,cap1,cur,h1,h2,h3,h4,h5,h6,h7⟩
 ·cases h1
 ·injection h1 with e1 _ e2
  injection e1 with e1
  injection e1 with e1
  subst e1 e2
  exact⟨cur,h3,h2,h4,h5,h6,h7⟩
theorem row_mk {m:Nat} {xs:List Value} {cur:Array Value} (hb:Blk w g t cur) (h1:B≤g) (h2:m≤cap) (h3:cap≤maxLen) (h4:cur.size=cap*n) (h5:cur.toList.take (m*n)=xs):w.ownsRow B t n (.slice (some ⟨g,0,none⟩) m cap) m xs:=
 ⟨by rw[←h5,List.length_take,Array.length_toList,h4];exact Nat.min_eq_left (Nat.mul_le_mul_right n h2),.inr ⟨g,cap,cur,rfl,h1,hb,h2,h3,h4,h5⟩⟩
theorem row_there (ho:w.ownsRow B t n (.slice (some ⟨g,0,none⟩) l.length cap) l.length (l.flatMap f)) (o k:Nat) (h:o+k≤l.length*n):w.there g o k:=by
 obtain⟨cur,h1,h2,h3,h4,h5,h6⟩:=row_blk ho
 have hln:l.length*n≤cap*n:=Nat.mul_le_mul_right n h3
 exact Wh.there_mid h1 o k (by omega)
end
theorem run_clear (P:Program) (w:World) (t e ty:TypeId) (i:TypeInfo) (z:Value) (n:Nat) (ht:P.underlying t=some (.slice e)) (hi:P.info? e=some i) (hz:i.zero=some z) (hzs:z.cells.size=n) (h1:∀u∈z.cells.toList,u.oneCell'=true) (hn:0<n) (b o m c:Nat)
  (hc:w.there b o (m*n)):∃vs:List Value,vs.length=m*n∧(Builtin.clear_ #[t] ty #[.slice (some ⟨b,o,none⟩) m c]).run P w = .ok (.tuple #[]) (w.setCells b o vs):=by
 have hv:(zeroValue e).run P w = .ok z w:=by simp [zeroValue,typeInfo,hi,hz]
 have hlen:(Builtin.zeroCells z.cells m).toList.length=m*n:=by simp [Builtin.zeroCells,hzs]
 have hone:∀u∈(Builtin.zeroCells z.cells m).toList,u.oneCell'=true:=by
  intro u hu
  simp only[Builtin.zeroCells,Array.toList_map,List.mem_map] at hu
  obtain⟨q,_,rfl⟩:=hu
  have hq:q % z.cells.size<z.cells.size:=Nat.mod_lt _ (by omega)
  rw[getElem!_pos z.cells (q % z.cells.size) hq]
  exact h1 _ (by simp)
 cases m with
 |zero=>
  refine⟨[],by simp,?_⟩
  simp [Builtin.clear_,run_underlying ht,World.setCells]
 |succ m=>
  refine⟨(Builtin.zeroCells z.cells (m+1)).toList,hlen,?_⟩
  have hst:=run_storeCells_cells (P:=P) b o (Builtin.zeroCells z.cells (m+1)).toList 0 w (fun j hj=>by simpa using (hc j (by omega)).1) (fun j hj=>by simpa using (hc j (by omega)).2) hone
  simp only[Nat.add_zero] at hst
  simp [Builtin.clear_,run_underlying ht,hv,hst]
structure En where
 p:Pr
 x:Cr
 A:Option Addr
 c:Nat
def En.it (e:En):It:=(e.p,e.x)
def crC (x:Cr) (A:Option Addr) (c:Nat):List Value:=.string ⟨x.s.1.toArray⟩ :: .string ⟨x.s.2.toArray⟩ :: .int .i64 x.n :: .slice A x.b.length c :: ((key32 x.k).toList++[.int .i64 x.e])
def enC (e:En):List Value:=.string ⟨e.p.1.toArray⟩ :: .string ⟨e.p.2.toArray⟩ :: crC e.x e.A e.c
theorem crC_length (x:Cr) (A:Option Addr) (c:Nat):(crC x A c).length=37:=by simp [crC,key32_size]
theorem enC_length (e:En):(enC e).length=39:=by simp [enC,crC_length]
theorem crC_one (x:Cr) (A:Option Addr) (c:Nat):∀u∈crC x A c,u.oneCell'=true:=by
 intro u hu
 simp only[crC,List.mem_cons,List.mem_append,List.not_mem_nil,or_false] at hu
 rcases hu with h | h | h | h | h | h
 ·subst h;rfl
 ·subst h;rfl
 ·subst h;rfl
 ·subst h;rfl
 ·have:=one32 x.k
  rw[Array.all_eq_true_iff_forall_mem] at this
  exact this u (Array.mem_def.2 h)
 ·subst h;rfl
theorem enC_one (e:En):∀u∈enC e,u.oneCell'=true:=by
 intro u hu
 simp only[enC,List.mem_cons] at hu
 rcases hu with h | h | h
 ·subst h;rfl
 ·subst h;rfl
 ·exact crC_one _ _ _ u h
section
variable {w:World} {g o:Nat} {e:En} {x:Cr} {A:Option Addr} {c:Nat}
end
section
variable {w w':World} {B r:Nat} {v v':Value} {es es':List En} {S:Nat→Prop}
theorem rd_chg {A:Option Addr} {xs:List Value} (h:Rd w w.heap.size A xs) (hc:Chg S w w') (hs:∀a,A=some a→¬S a.block):Rd w' w'.heap.size A xs:=by
 rcases h with h | ⟨b,o,h1,h2,h3⟩
 ·exact .inl h
 ·exact .inr ⟨b,o,h1,Nat.lt_of_lt_of_le h2 hc.size,fun i u hu=>(World.cell?_of_block (a:=⟨b,o+i,none⟩) (hc.block b h2 (hs _ h1))).trans (h3 i u hu)⟩
end
end Go.Proofs.Ytlihoeipmjbnbaa.Ca
end

section
set_option linter.unusedVariables false
set_option linter.unusedSimpArgs false
namespace Go.Proofs.Ytlihoeipmjbnbaa.Ca
open Go.RowKit Go.Proofs.Ytlihoeipmjbnbaa.Mem Go.Proofs.Ytlihoeipmjbnbaa.Se
open Go.Proofs.Ytlihoeipmjbnbaa.Nm (L)
open Go.Proofs.Ytlihoeipmjbnbaa.Rg (Pr)
structure Own1 (a w:World) (A:Option Addr) (xs:List Value):Prop where
 rd:Rd w w.heap.size A xs
 lo:∀p,A=some p→a.heap.size≤p.block∧p.block<w.heap.size
 bk:∀p,A=some p→∃t cur,Blk w p.block t cur
theorem Own1.below {a w w':World} {A:Option Addr} {xs:List Value} (h:Own1 a w A xs) (hb:Below w.heap.size w w'):Own1 a w' A xs:=
 ⟨(h.1.below hb).more hb.size,fun p hp=>have q:=h.2 p hp;⟨q.1,Nat.lt_of_lt_of_le q.2 hb.size⟩,fun p hp=>by obtain⟨t,cur,q⟩:=h.3 p hp;exact⟨t,cur,q.below hb⟩⟩
theorem Own1.since {a b w:World} {A:Option Addr} {xs:List Value} (h:Own1 b w A xs) (hs:a.heap.size≤b.heap.size):Own1 a w A xs:=
 ⟨h.1,fun p hp=>have q:=h.2 p hp;⟨Nat.le_trans hs q.1,q.2⟩,h.3⟩
theorem Own1.chg {S:Nat→Prop} {a w w':World} {A:Option Addr} {xs:List Value} (h:Own1 a w A xs) (hc:Chg S w w') (hs:∀p,A=some p→¬S p.block):Own1 a w' A xs:=
 ⟨rd_chg h.1 hc hs,fun p hp=>have q:=h.2 p hp;⟨q.1,Nat.lt_of_lt_of_le q.2 hc.size⟩,fun p hp=>by obtain⟨t,cur,q⟩:=h.3 p hp;exact⟨t,cur,hc.blk q (hs p hp)⟩⟩
theorem Own1.none (a w:World):Own1 a w .none []:=⟨.inl rfl,(fun p hp=>by cases hp),(fun p hp=>by cases hp)⟩
theorem Own1.of_own {w w':World} {n:Nat} {v:Value} {t:TypeId} {xs:List Value} (h:w'.ownsRow w.heap.size t 1 v n xs):∃A c,v = .slice A n c∧Own1 w w' A xs∧n≤c:=by
 rcases h.2 with⟨h1,h2⟩ | ⟨g,cap,cur,h1,hg,hh,hc,hm,hq,hx⟩
 ·subst h2
  exact⟨_,0,h1,⟨Rd.of_own (n:=0) (cap:=0) (by rw[←h1];exact h),(fun p hp=>by cases hp),(fun p hp=>by cases hp)⟩,Nat.le_refl _⟩
 ·subst h1
  exact⟨_,cap,rfl,⟨Rd.of_own h,(fun p hp=>by injection hp with hp;subst hp;exact⟨hg,(Array.getElem?_eq_some_iff.1 hh).1⟩),(fun p hp=>by injection hp with hp;subst hp;exact⟨t,cur,hh⟩)⟩,hc⟩
set_option maxHeartbeats 1600000 in
set_option maxRecDepth 100000 in
theorem bclone_any (A:Option Addr) (c B:Nat) (l:L) (w:World) (hr:Rd w B A (bvs l)) (hB:B≤w.heap.size) (hl:l.length≤100000000000):Calls Try.prog 26 #[.slice A l.length c] w fun e w'=>∃A' c',e = .returned (.slice A' l.length c')∧Own1 w w' A' (bvs l)∧Below w.heap.size w w'∧l.length≤c':=by
 have hsn:=Lib.run_eql_slice_nil (P:=Try.prog) w 30 5 A l.length c 0 0 Try.underlying30
 obtain⟨n,en⟩:∃n,n=l.length:=⟨_,rfl⟩
 have EN:=Lib.hid en
 rw[←en] at hsn hl⊢
 cases A with
 |none=>
  have hl0:bvs l = []:=by
   rcases hr with h | ⟨b,o,h,_⟩
   ·exact h
   ·cases h
  have hn0:n=0:=by
   have:=congrArg List.length hl0
   rw[bvs_length] at this
   exact en.trans this
  rw[hl0]
  clear hr en hl0
  subst hn0
  go_enter Try.func26,Try.ntmps26
  go_wp2
  go_ret
  exact⟨none,0,rfl,Own1.none _ _,Below.refl _ _,Nat.le_refl _⟩
 |some a=>
  obtain⟨i0,hi0,hz0,hs0,hb0⟩:=info_parts Nm.u8_row
  have KI1:=Lib.hid hi0;have KI2:=Lib.hid hz0;have KI3:=Lib.hid hs0;have KI4:=Lib.hid hb0
  have HR:=Lib.hid hr
  have HBB:=Lib.hid hB
  have HL:=Lib.hid hl
  have hb1:Below w.heap.size w (w.alloc (.cells #[] 5)):=(Below.refl _ _).alloc (Nat.le_refl _) _
  have HB1:=Lib.hid hb1
  have HO:=Lib.hid (World.ownsRow_made (base:=w.heap.size) w (e:=5) (size:=1) #[] 0 (Nat.le_refl _) (by decide) rfl)
  clear hr en hi0 hz0 hs0 hb0 hB hl hb1
  go_enter Try.func26,Try.ntmps26
  go_wp2_with (first
   |(refine wpList_append_rd _ rfl (.tmp 5) (.tmp 6) 30 rfl w.heap.size 5 i0 _ 1 Try.underlying30 KI1.out KI2.out KI3.out KI4.out rfl _ 0 [] rfl HO.out B _ n c (bvs l) rfl (by rw[bvs_length];exact EN.out) (HR.out.below (HB1.out.mono HBB.out)) (bvs_one _) (by have:=HL.out;unfold maxLen;omega) (by have:=HL.out;omega) HB1.out.size ?_;intro v' w' ho hg hv;rw[Nat.zero_add,List.nil_append] at ho;have HO2:=Lib.hid ho;have HG2:=Lib.hid (below_g HB1.out hg HB1.out.size (Nat.le_refl _));clear ho hg hv)
   |fail)
  go_ret
  obtain⟨A',c',rfl,ho,hcap⟩:=Own1.of_own HO2.out
  exact⟨A',c',rfl,ho,HG2.out,hcap⟩
end Go.Proofs.Ytlihoeipmjbnbaa.Ca
end

section
set_option linter.unusedVariables false
namespace Go.Proofs.Ytlihoeipmjbnbaa.Reg
open Go.RowKit Go.Proofs.Ytlihoeipmjbnbaa.Mem
section
variable {P:Program} {ops:Array Oper} {Q:Exit→Act→World→Prop} {md:Region.Mode}
def Eff (P:Program) (md:Region.Mode) (ops:Array Oper) (Q:Exit→Act→World→Prop) (S:World→Prop) (fuel:Nat) (listed:Array Bool) (a:Act) (w:World) (i:Nat):Prop:=
 ∃(dst:Option Tmp) (op:Op) (ty:TypeId) (pos:String) (after:Array _) (guard:Option (Nat×Bool)) (v:Value) (w':World),ops[i]? = some ⟨dst,op,ty,pos,after,guard⟩∧Region.wanted ⟨dst,op,ty,pos,after,guard⟩ (yielded ops a.tmps)=true∧(execOp a.eval ⟨dst,op,ty,pos,after,guard⟩).run P w = .ok (.value v) w'∧S w'∧wpAnyH P md ops Q S fuel (listed.setIfInBounds i true) (a.put dst v) w'
end
end Go.Proofs.Ytlihoeipmjbnbaa.Reg
end

section
set_option linter.unusedVariables false
namespace Go.Proofs.Ytlihoeipmjbnbaa.Reg
open Go.RowKit Go.Proofs.Ytlihoeipmjbnbaa.Mem
section
variable {P:Program} {ops:Array Oper} {Q:Exit→Act→World→Prop} {md:Region.Mode} {S:World→Prop}
theorem any_begin (S:World→Prop) (n:Nat) {id:Nat} {a:Act} {w:World} (hn:ops.size=n) (hm:P.follows .mixedOrders=true) (hS:S w.drew) (h:wpAnyH P .any ops Q S n (Array.replicate n false) a w.drew):(Code.region id ops true).wp P Q a w:=by
 subst hn
 exact wp_region_held_drew hm hS (fun _=>h)
theorem any_take (i:Nat) {dst:Option Tmp} {op:Op} {ty:TypeId} {pos:String} {after:Array _} {guard:Option (Nat×Bool)} {v:Value} {fuel:Nat} {listed:Array Bool} {a:Act} {w:World} (hi:ops[i]? = some ⟨dst,op,ty,pos,after,guard⟩)
  (hs:Region.noSelect ops=true) (hf:Region.free md ops listed i=true) (hr:(Region.ready md ops listed).contains i=true)
  (hQ:∀c a w,Q (.panic c) (a.put dst v) w→Q (.panic c) a w) (hS:S w)
  (hw:Region.wanted ⟨dst,op,ty,pos,after,guard⟩ (yielded ops a.tmps)=true) (hy:∀w',S w'→(execOp a.eval ⟨dst,op,ty,pos,after,guard⟩).run P w' = .ok (.value v) w')
  (h:wpAnyH P md ops Q S fuel (listed.setIfInBounds i true) (a.put dst v) w):wpAnyH P md ops Q S (fuel+1) listed a w:=
 wpAnyH_take hi hs hf hr hQ (.inl ⟨hw,hy⟩) hS h
theorem any_store (i:Nat) {dst:Option Tmp} {op:Op} {ty:TypeId} {pos:String} {after:Array _} {guard:Option (Nat×Bool)} {fuel:Nat} {listed:Array Bool} {a:Act} {w:World} (w':World) (hi:ops[i]? = some ⟨dst,op,ty,pos,after,guard⟩)
  (hr:Region.ready md ops listed = [i]) (hw:Region.wanted ⟨dst,op,ty,pos,after,guard⟩ (yielded ops a.tmps)=true) (hx:(execOp a.eval ⟨dst,op,ty,pos,after,guard⟩).run P w = .ok .skip w') (hS:S w')
  (h:wpAnyH P md ops Q S fuel (listed.setIfInBounds i true) (a.put dst undef) w'):wpAnyH P md ops Q S (fuel+1) listed a w:=by
 refine wpAnyH_all hr (by simp) fun j hj=>?_
 obtain rfl:j=i:=by simpa using hj
 unfold wpOp
 simp only[hi]
 rw[if_pos hw]
 left
 unfold Oper.wp
 rw[hx]
 exact⟨hS,h⟩
end
end Go.Proofs.Ytlihoeipmjbnbaa.Reg
end

section
set_option linter.unusedVariables false
namespace Go.Proofs.Ytlihoeipmjbnbaa.Reg
open Go.RowKit Go.Proofs.Ytlihoeipmjbnbaa.Mem
section
variable {P:Program} {ops:Array Oper} {Q:Exit→Act→World→Prop} {md:Region.Mode}
def Ent (P:Program) (md:Region.Mode) (ops:Array Oper) (Q:Exit→Act→World→Prop) (S:World→Prop) (fuel:Nat) (listed:Array Bool) (a:Act) (w:World) (i:Nat):Prop:=
 ∃(dst:Option Tmp) (op:Op) (ty:TypeId) (pos:String) (after:Array _) (guard:Option (Nat×Bool)) (f:FuncId) (args:Array Value),ops[i]? = some ⟨dst,op,ty,pos,after,guard⟩∧Region.wanted ⟨dst,op,ty,pos,after,guard⟩ (yielded ops a.tmps)=true∧(execOp a.eval ⟨dst,op,ty,pos,after,guard⟩).run P w = .ok (.enter f args) w∧
  Calls P f args w fun e w'=>∃v,e = .returned v∧S w'∧wpAnyH P md ops Q S fuel (listed.setIfInBounds i true) (a.put dst v) w'
theorem both_all (is:List Nat) {S:World→Prop} {fuel:Nat} {listed:Array Bool} {a:Act} {w:World} (hr:Region.ready md ops listed=is) (hne:is≠[]) (h:∀j∈is,Eff P md ops Q S fuel listed a w j∨Ent P md ops Q S fuel listed a w j):wpAnyH P md ops Q S (fuel+1) listed a w:=by
 refine wpAnyH_all hr hne fun j hj=>?_
 rcases h j hj with⟨dst,op,ty,pos,after,guard,v,w',hi,hw,hx,hs,hh⟩ | ⟨dst,op,ty,pos,after,guard,f,args,hi,hw,hx,hh⟩
 ·unfold wpOp
  simp only[hi]
  rw[if_pos hw]
  left
  unfold Oper.wp
  rw[hx]
  exact⟨hs,hh⟩
 ·unfold wpOp
  simp only[hi]
  rw[if_pos hw]
  left
  unfold Oper.wp
  rw[hx]
  refine hh.mono ?_
  rintro e w' ⟨v,rfl,hs,hh⟩
  exact⟨hs,hh⟩
end
end Go.Proofs.Ytlihoeipmjbnbaa.Reg
end

section
set_option linter.unusedVariables false
namespace Go.Proofs.Ytlihoeipmjbnbaa.Reg
open Go.RowKit Go.Proofs.Ytlihoeipmjbnbaa.Mem
section
variable {P:Program} {ops:Array Oper} {Q:Exit→Act→World→Prop} {md:Region.Mode} {S:World→Prop}
theorem any_store_whole (i:Nat) {dst:Option Tmp} {sty:TypeId} {x y:Operand} {ty:TypeId} {pos:String} {after:Array _} {guard:Option (Nat×Bool)} {fuel:Nat} {listed:Array Bool} {a:Act} {w:World} (hi:ops[i]? = some ⟨dst,.store sty x y,ty,pos,after,guard⟩)
  (hr:Region.ready md ops listed = [i]) (hw:Region.wanted ⟨dst,.store sty x y,ty,pos,after,guard⟩ (yielded ops a.tmps)=true) (g:Nat) (t:TypeId) (old cells:Array Value) (hb:Blk w g t old) (hx:a.eval x = .pointer (some ⟨g,0,none⟩)) (hy:a.eval y = .agg cells) (hs:old.size=cells.size)
  (hI:(P.info? sty).map (·.size)=some cells.size) (h1:cells.all (·.oneCell')=true)
  (h:∀V,Blk V g t cells→w.grownBy V (some g)→S V∧wpAnyH P md ops Q S fuel (listed.setIfInBounds i true) (a.put dst undef) V):wpAnyH P md ops Q S (fuel+1) listed a w:=by
 have ht:w.there g 0 cells.size:=Wh.there_mid hb 0 _ (by omega)
 have hrun:(execOp a.eval ⟨dst,.store sty x y,ty,pos,after,guard⟩).run P w = .ok .skip (w.setCells g 0 cells.toList):=by
  unfold execOp
  simp only[hx,hy,Instr.storeAt,Instr.sureAddr,Sem.run_bind,Sem.run_pure,Result.andThen_ok,run_storeVar_mid w g 0 sty cells ht hI h1]
 obtain⟨h2,h3⟩:=h _ (Wh.blk_cells hb hs) (Wh.put_mid _ _ _ _)
 exact any_store i _ hi hr hw hrun h2 h3
theorem tk (i:Nat) {dst:Option Tmp} {op:Op} {ty:TypeId} {pos:String} {after:Array _} {guard:Option (Nat×Bool)} {v:Value} {fuel:Nat} {listed:Array Bool} {a:Act} {w:World} (hi:ops[i]? = some ⟨dst,op,ty,pos,after,guard⟩) (hS:S w)
  (hy:∀w',S w'→(execOp a.eval ⟨dst,op,ty,pos,after,guard⟩).run P w' = .ok (.value v) w')
  (h:wpAnyH P md ops Q S fuel (listed.setIfInBounds i true) (a.put dst v) w)
  (hs:Region.noSelect ops=true:=by kernel_rfl) (hf:Region.free md ops listed i=true:=by kernel_rfl) (hr:(Region.ready md ops listed).contains i=true:=by kernel_rfl)
  (hQ:∀c a w,Q (.panic c) (a.put dst v) w→Q (.panic c) a w:=by exact fun _ _ _ h=>h) (hw:Region.wanted ⟨dst,op,ty,pos,after,guard⟩ (yielded ops a.tmps)=true:=by rfl):wpAnyH P md ops Q S (fuel+1) listed a w:=
 any_take i hi hs hf hr hQ hS hw hy h
theorem s0 {α:Type} (l:List α) (i:Nat) (a:α):l.toArray.setIfInBounds i a=(l.set i a).toArray:=List.setIfInBounds_toArray ..
theorem s1 {α:Type} {x:α} {xs:List α} {a:α}:(x :: xs).set 0 a=a :: xs:=rfl
theorem s2 {α:Type} {x:α} {xs:List α} {n:Nat} {a:α}:(x :: xs).set (n+1) a=x :: xs.set n a:=rfl
end
end Go.Proofs.Ytlihoeipmjbnbaa.Reg
end

section
set_option linter.unusedVariables false
namespace Go.Proofs.Ytlihoeipmjbnbaa.Nt
open Go.RowKit Go.Proofs.Ytlihoeipmjbnbaa.Mem Go.Proofs.Ytlihoeipmjbnbaa.Se
open Go.Proofs.Ytlihoeipmjbnbaa.Nm (L)
open Go.Proofs.Ytlihoeipmjbnbaa.Ca (Own1 rd_chg row_blk row_mk)
open Go.Proofs.Ytlihoeipmjbnbaa.Rg (flat_len flat_at flat_one RdR own_rdr own_chg)
structure Pk where
 f:Int
 t:Int
 b:L
structure En where
 p:Pk
 A:Option Addr
 c:Nat
def pkC (p:Pk) (A:Option Addr) (c:Nat):List Value:=[.int .i64 p.f,.int .i64 p.t,.slice A p.b.length c]
def pkA (p:Pk) (A:Option Addr) (c:Nat):Array Value:=#[.int .i64 p.f,.int .i64 p.t,.slice A p.b.length c]
def enC (e:En):List Value:=pkC e.p e.A e.c
def iC (k:Nat):List Value:=[.int .i64 (k:Int)]
theorem pkA_size (p:Pk) (A:Option Addr) (c:Nat):(pkA p A c).size=3:=rfl
theorem pkA_toList (p:Pk) (A:Option Addr) (c:Nat):(pkA p A c).toList=pkC p A c:=rfl
theorem enC_length (e:En):(enC e).length=3:=rfl
theorem iC_length (k:Nat):(iC k).length=1:=rfl
theorem pkC_one (p:Pk) (A:Option Addr) (c:Nat):∀u∈pkC p A c,u.oneCell'=true:=by
 intro u hu
 simp only[pkC,List.mem_cons,List.not_mem_nil,or_false] at hu
 rcases hu with h | h | h<;>(subst h;rfl)
theorem pkA_one (p:Pk) (A:Option Addr) (c:Nat):(pkA p A c).all (·.oneCell')=true:=by
 rw[Array.all_eq_true_iff_forall_mem]
 intro u hu
 exact pkC_one p A c u (by simpa [pkA,pkC] using hu)
theorem enC_one (e:En):∀u∈enC e,u.oneCell'=true:=pkC_one _ _ _
theorem iC_one (k:Nat):∀u∈iC k,u.oneCell'=true:=by
 intro u hu
 simp only[iC,List.mem_cons,List.not_mem_nil,or_false] at hu
 subst hu;rfl
def pks (es:List En):List Pk:=es.map (·.p)
theorem pks_length (es:List En):(pks es).length=es.length:=by simp [pks]
structure Nt (w:World) (B r:Nat) (vs vw:Value) (es:List En) (ws:List Nat):Prop where
 blk:Blk w r 48 #[vs,vw]
 row:w.ownsRow B 32 3 vs es.length (es.flatMap enC)
 way:w.ownsRow B 3 1 vw ws.length (ws.flatMap iC)
 lo:B≤r
 vr:vs.ownBlock≠some r
 wr:vw.ownBlock≠some r
 sw:∀k,vs.ownBlock=some k→vw.ownBlock≠some k
 rd:∀e∈es,Rd w w.heap.size e.A (bvs e.p.b)
 off:∀e∈es,∀a,e.A=some a→B≤a.block∧a.block≠r∧vs.ownBlock≠some a.block∧vw.ownBlock≠some a.block∧a.block<w.heap.size
def NO (r:Nat) (vs vw:Value) (es:List En) (k:Nat):Prop:=k=r∨vs.ownBlock=some k∨vw.ownBlock=some k∨∃e∈es,∃a,e.A=some a∧a.block=k
def NT (r:Nat) (vs vw:Value) (k:Nat):Prop:=k=r∨vs.ownBlock=some k∨vw.ownBlock=some k
section
variable {w w':World} {B r:Nat} {vs vw vs' vw':Value} {es es':List En} {ws ws':List Nat} {S:Nat→Prop}
theorem nt_no {q:Nat} (h:NT r vs vw q):NO r vs vw es q:=by
 rcases h with h | h | h
 ·exact .inl h
 ·exact .inr (.inl h)
 ·exact .inr (.inr (.inl h))
theorem Nt.lt (h:Nt w B r vs vw es ws):r<w.heap.size:=h.blk.lt
theorem Nt.big (h:Nt w B r vs vw es ws):B≤w.heap.size:=by have:=h.lo;have:=h.lt;omega
theorem Nt.own_lo (h:Nt w B r vs vw es ws) {k:Nat} (hk:NO r vs vw es k):B≤k:=by
 rcases hk with hk | hk | hk | ⟨e,he,a,ha,hk⟩
 ·subst hk;exact h.lo
 ·exact(World.ownsRow.lt h.row k hk).1
 ·exact(World.ownsRow.lt h.way k hk).1
 ·exact hk▸(h.off e he a ha).1
theorem Nt.own_lt (h:Nt w B r vs vw es ws) {k:Nat} (hk:NO r vs vw es k):k<w.heap.size:=by
 rcases hk with hk | hk | hk | ⟨e,he,a,ha,hk⟩
 ·subst hk;exact h.lt
 ·exact(World.ownsRow.lt h.row k hk).2
 ·exact(World.ownsRow.lt h.way k hk).2
 ·exact hk▸(h.off e he a ha).2.2.2.2
theorem Nt.chg (h:Nt w B r vs vw es ws) (hc:Chg S w w') (hs:∀k,NO r vs vw es k→¬S k):Nt w' B r vs vw es ws:=
 ⟨hc.blk h.blk (hs r (.inl rfl)),own_chg hc h.row (fun k hk=>hs k (.inr (.inl hk))),own_chg hc h.way (fun k hk=>hs k (.inr (.inr (.inl hk)))),h.lo,h.vr,h.wr,h.sw,
  fun e he=>rd_chg (h.rd e he) hc (fun a ha=>hs _ (.inr (.inr (.inr ⟨e,he,a,ha,rfl⟩)))),
  fun e he a ha=>have q:=h.off e he a ha;⟨q.1,q.2.1,q.2.2.1,q.2.2.2.1,Nat.lt_of_lt_of_le q.2.2.2.2 hc.size⟩⟩
theorem Nt.below (h:Nt w B r vs vw es ws) (hb:Below w.heap.size w w'):Nt w' B r vs vw es ws:=h.chg (S:=fun _=>False) (Chg.of_below hb) (fun _ _ x=>x)
theorem Nt.drew (h:Nt w B r vs vw es ws):Nt w.drew B r vs vw es ws:=h.below (below_drewN (Below.refl _ _) 1)
theorem Nt.num (h:Nt w B r vs vw es ws):∃A c,vs = .slice A es.length c∧es.length≤c∧c≤maxLen∧RdR w w.heap.size A enC 3 es:=own_rdr enC_length h.row
theorem Nt.num2 (h:Nt w B r vs vw es ws):∃A c,vw = .slice A ws.length c∧ws.length≤c∧c≤maxLen∧RdR w w.heap.size A iC 1 ws:=own_rdr iC_length h.way
theorem Nt.c0 (h:Nt w B r vs vw es ws):w.cell? ⟨r,0,none⟩=some vs:=h.blk.cell 0
theorem Nt.c1 (h:Nt w B r vs vw es ws):w.cell? ⟨r,1,none⟩=some vw:=h.blk.cell 1
theorem Nt.not (h:Nt w B r vs vw es ws) {k:Nat} (hk:w.heap.size≤k):¬NO r vs vw es k:=fun x=>by have:=h.own_lt x;omega
theorem Nt.low (h:Nt w B r vs vw es ws) {k:Nat} (hk:k<B):¬NO r vs vw es k:=fun x=>by have:=h.own_lo x;omega
theorem rd_nt {A:Option Addr} {xs:List Value} (h:Rd w w.heap.size A xs) (hn:xs≠[]→∀a,A=some a→¬NT r vs vw a.block):∀w',Chg (NT r vs vw) w w'→Rd w' w'.heap.size A xs:=fun w' hc=>by
 by_cases hx:xs = []
 ·exact .inl hx
 ·exact rd_chg h hc (hn hx)
end
theorem way_at {w:World} {B:Nat} {A:Option Addr} {ws:List Nat} {i k:Nat} (h:RdR w B A iC 1 ws) (hi:ws[i]? = some k):∃g,A=some ⟨g,0,none⟩∧g<B∧w.cell? ⟨g,i,none⟩=some (.int .i64 (k:Int)):=by
 obtain⟨g,h1,h2,h3⟩:=h.at_ hi
 refine⟨g,h1,h2,?_⟩
 have:=h3 0 (.int .i64 (k:Int)) rfl
 rwa [Nat.mul_one,Nat.add_zero] at this
theorem flat_i (l:List Nat):l.flatMap iC=l.map (fun k:Nat=>Value.int .i64 (k:Int)):=by
 rw[List.flatMap_def]
 induction l with
 |nil=>rfl
 |cons a l ih=>rw[List.map_cons,List.flatten_cons,ih];rfl
section
variable {w0 w5 w6:World} {B r:Nat} {vs vw v6:Value} {es:List En} {ws ws6:List Nat} {e:En}
theorem nt_way (h:Nt w0 B r vs vw es ws) (hb:Below w0.heap.size w0 w5) (h5:Nt w5 B r vs vw es ws) (ho:w6.ownsRow B 3 1 v6 ws6.length (ws6.flatMap iC)) (hg:w5.grownBy w6 vw.ownBlock) (hv:v6.ownBlock=vw.ownBlock∨v6.ownBlock=some w5.heap.size) :
  Nt (w6.setCell ⟨r,1,none⟩ v6) B r vs v6 es ws6∧Chg (NT r vs vw) w0 (w6.setCell ⟨r,1,none⟩ v6)∧(∀q,NO r vs v6 es q→NO r vs vw es q∨w0.heap.size≤q):=by
 have hset:Chg (fun q=>q=r) w6 (w6.setCell ⟨r,1,none⟩ v6):=Chg.set (p:=⟨r,1,none⟩) (Chg.refl (fun q=>q=r) w6) (.inl rfl) v6
 have hg6:Chg (fun q=>vw.ownBlock=some q) w5 w6:=⟨hg.os,hg.tape,hg.output,hg.size,fun i hi hn=>hg.block i hi (fun e=>hn e.symm)⟩
 have hc5:Chg (fun q=>q=r∨vw.ownBlock=some q) w5 (w6.setCell ⟨r,1,none⟩ v6):=(hg6.mono (fun q _ x=>.inr x)).trans hset (fun q _ x=>.inl x)
 have hc:Chg (NT r vs vw) w0 (w6.setCell ⟨r,1,none⟩ v6):=(Chg.of_below hb).trans hc5 (fun q _ x=>x.elim .inl (fun y=>.inr (.inr y)))
 have hrl:=h.lt
 have hwr:v6.ownBlock≠some r:=fun x=>by
  rcases hv with g | g
  ·rw[g] at x;exact h.wr x
  ·rw[g] at x;injection x with x;have:=hb.size;omega
 refine⟨⟨(h5.blk.grown hg h5.wr).set 1 v6,own_chg hc5 h5.row (fun k hk x=>?_),own_chg hset ho (fun k hk x=>hwr (x▸hk)),h.lo,h.vr,hwr,fun k hk x=>?_,fun y hy=>?_,fun y hy a ha=>?_⟩,hc,fun q hq=>?_⟩
 ·rcases x with x | x
  ·exact h.vr (x▸hk)
  ·exact h.sw k hk x
 ·rcases hv with g | g
  ·rw[g] at x;exact h.sw k hk x
  ·rw[g] at x;injection x with x;have:=(World.ownsRow.lt h5.row k hk).2;omega
 ·exact rd_chg (h5.rd y hy) hc5 (fun a ha x=>by
   have q2:=h5.off y hy a ha
   rcases x with x | x
   ·exact q2.2.1 x
   ·exact q2.2.2.2.1 x)
 ·have q:=h5.off y hy a ha
  refine⟨q.1,q.2.1,q.2.2.1,fun x=>?_,Nat.lt_of_lt_of_le q.2.2.2.2 hc5.size⟩
  rcases hv with g | g
  ·rw[g] at x;exact q.2.2.2.1 x
  ·rw[g] at x;injection x with x;omega
 ·rcases hq with hq | hq | hq | hq
  ·exact .inl (.inl hq)
  ·exact .inl (.inr (.inl hq))
  ·rcases hv with g | g
   ·exact .inl (.inr (.inr (.inl (g▸hq))))
   ·rw[g] at hq;injection hq with hq;have:=hb.size;exact .inr (by omega)
  ·exact .inl (.inr (.inr (.inr hq)))
theorem nt_sent (h:Nt w0 B r vs vw es ws) (hb:Below w0.heap.size w0 w5) (h5:Nt w5 B r vs vw es ws) (hn:Own1 w0 w5 e.A (bvs e.p.b)) (ho:w6.ownsRow B 32 3 v6 (es++[e]).length ((es++[e]).flatMap enC)) (hg:w5.grownBy w6 vs.ownBlock) (hv:v6.ownBlock=vs.ownBlock∨v6.ownBlock=some w5.heap.size) :
  Nt (w6.setCell ⟨r,0,none⟩ v6) B r v6 vw (es++[e]) ws∧Chg (NT r vs vw) w0 (w6.setCell ⟨r,0,none⟩ v6)∧(∀q,NO r v6 vw (es++[e]) q→NO r vs vw es q∨w0.heap.size≤q):=by
 have hset:Chg (fun q=>q=r) w6 (w6.setCell ⟨r,0,none⟩ v6):=Chg.set (p:=⟨r,0,none⟩) (Chg.refl (fun q=>q=r) w6) (.inl rfl) v6
 have hg6:Chg (fun q=>vs.ownBlock=some q) w5 w6:=⟨hg.os,hg.tape,hg.output,hg.size,fun i hi hn=>hg.block i hi (fun e=>hn e.symm)⟩
 have hc5:Chg (fun q=>q=r∨vs.ownBlock=some q) w5 (w6.setCell ⟨r,0,none⟩ v6):=(hg6.mono (fun q _ x=>.inr x)).trans hset (fun q _ x=>.inl x)
 have hc:Chg (NT r vs vw) w0 (w6.setCell ⟨r,0,none⟩ v6):=(Chg.of_below hb).trans hc5 (fun q _ x=>x.elim .inl (fun y=>.inr (.inl y)))
 have hrl:=h.lt
 have hvr:v6.ownBlock≠some r:=fun x=>by
  rcases hv with g | g
  ·rw[g] at x;exact h.vr x
  ·rw[g] at x;injection x with x;have:=hb.size;omega
 have hmem:∀y,y∈es++[e]→y∈es∨y=e:=fun y hy=>by simpa using hy
 refine⟨⟨(h5.blk.grown hg h5.vr).set 0 v6,own_chg hset ho (fun k hk x=>hvr (x▸hk)),own_chg hc5 h5.way (fun k hk x=>?_),h.lo,hvr,h.wr,fun k hk x=>?_,fun y hy=>?_,fun y hy a ha=>?_⟩,hc,fun q hq=>?_⟩
 ·rcases x with x | x
  ·exact h.wr (x▸hk)
  ·exact h.sw k x hk
 ·rcases hv with g | g
  ·rw[g] at hk;exact h.sw k hk x
  ·rw[g] at hk;injection hk with hk;have:=(World.ownsRow.lt h5.way k x).2;omega
 ·rcases hmem y hy with hy | rfl
  ·exact rd_chg (h5.rd y hy) hc5 (fun a ha x=>by
    have q2:=h5.off y hy a ha
    rcases x with x | x
    ·exact q2.2.1 x
    ·exact q2.2.2.1 x)
  ·exact rd_chg hn.1 hc5 (fun a ha x=>by
    have q:=hn.2 a ha
    rcases x with x | x
    ·omega
    ·have:=(World.ownsRow.lt h.row _ x).2;omega)
 ·rcases hmem y hy with hy | rfl
  ·have q:=h5.off y hy a ha
   refine⟨q.1,q.2.1,fun x=>?_,q.2.2.2.1,Nat.lt_of_lt_of_le q.2.2.2.2 hc5.size⟩
   rcases hv with g | g
   ·rw[g] at x;exact q.2.2.1 x
   ·rw[g] at x;injection x with x;omega
  ·have q:=hn.2 a ha
   refine⟨Nat.le_trans h.big q.1,by omega,fun x=>?_,fun x=>?_,Nat.lt_of_lt_of_le q.2 hc5.size⟩
   ·rcases hv with g | g
    ·rw[g] at x;have:=(World.ownsRow.lt h.row _ x).2;omega
    ·rw[g] at x;injection x with x;omega
   ·have:=(World.ownsRow.lt h.way _ x).2;omega
 ·rcases hq with hq | hq | hq | ⟨y,hy,a,ha,hq⟩
  ·exact .inl (.inl hq)
  ·rcases hv with g | g
   ·exact .inl (.inr (.inl (g▸hq)))
   ·rw[g] at hq;injection hq with hq;have:=hb.size;exact .inr (by omega)
  ·exact .inl (.inr (.inr (.inl hq)))
  ·rcases hmem y hy with hy | rfl
   ·exact .inl (.inr (.inr (.inr ⟨y,hy,a,ha,hq⟩)))
   ·exact .inr (hq▸(hn.2 a ha).1)
end
theorem pk_info:(Try.prog.info? 32).map (·.size)=some 3:=by kernel_rfl
theorem pk_all:(Try.prog.info? 32).map (fun i=>(i.zero,i.size,i.bytes))=some (some (.agg #[.int .i64 0,.int .i64 0,.slice none 0 0]),3,40):=by kernel_rfl
theorem int_all:(Try.prog.info? 3).map (fun i=>(i.zero,i.size,i.bytes))=some (some (.int .i64 0),1,8):=by kernel_rfl
theorem run_build_int {P:Program} (w:World) (t e:TypeId) (k:Int) (ie:TypeInfo) (hu:P.underlying t=some (.slice e)) (hie:P.info? e=some ie) (hz:ie.zero=some (.int .i64 0)) (hs:ie.size=1) :
  (Instr.buildSlice t 1 #[(0,.int .i64 k)]).run P w = .ok (.slice (some ⟨w.heap.size,0,none⟩) 1 1) (w.alloc (.cells #[.int .i64 k] e)):=by
 refine run_buildSlice w t e 1 _ #[.int .i64 k] ie _ hu hie hz (by rw[hs];omega) (by rw[hs];omega) ?_
 rw[hs]
 simp only[Instr.fill,Value.cells]
 simp
 apply Array.ext_getElem?
 intro i
 rcases i with _ | i<;>simp
section
variable {P:Program} {a:Act} {w w':World} {ty:TypeId} {dst:Option Tmp} {pos:String} {after:Array _} {guard:Option (Nat×Bool)}
theorem exec_slice {t:TypeId} {x:Operand} {cs:Array Value} {s:Value} (hx:a.eval x = .agg cs) (h:(Instr.buildSlice t 1 #[(0,.agg cs)]).run P w = .ok s w'):(execOp a.eval ⟨dst,.buildSlice t 1 #[(0,x)],ty,pos,after,guard⟩).run P w = .ok (.value s) w':=by
 simp only[execOp,Sem.run_bind,List.map_toArray,List.map_cons,List.map_nil,hx,h,Result.andThen_ok,Sem.run_pure]
theorem exec_slice_int {t:TypeId} {x:Operand} {k:Int} {s:Value} (hx:a.eval x = .int .i64 k) (h:(Instr.buildSlice t 1 #[(0,.int .i64 k)]).run P w = .ok s w'):(execOp a.eval ⟨dst,.buildSlice t 1 #[(0,x)],ty,pos,after,guard⟩).run P w = .ok (.value s) w':=by
 simp only[execOp,Sem.run_bind,List.map_toArray,List.map_cons,List.map_nil,hx,h,Result.andThen_ok,Sem.run_pure]
theorem exec_app {t:TypeId} {x y:Operand} {u v s:Value} (hx:a.eval x=u) (hy:a.eval y=v) (h:(Builtin.append_ #[t,t] ty #[u,v]).run P w = .ok s w'):(execOp a.eval ⟨dst,.call {callee:=.builtin .append,args:=#[x,y],argTypes:=#[t,t]},ty,pos,after,guard⟩).run P w = .ok (.value s) w':=by
 simp only[execOp,resolve,invoke,builtin,Sem.run_bind,Sem.run_pure,Result.andThen_ok,List.map_toArray,List.map_cons,List.map_nil,hx,hy,h]
theorem exec_load_mid {g off:Nat} {t:TypeId} {cs:Array Value} {d:TypeDesc} (x:Operand) (hx:a.eval x = .pointer (some ⟨g,off,none⟩)) (h:w'.rangeAt g off cs.toList) (hu:P.underlying t=some d) (hd:d.isRow=true) (hi:(P.info? t).map (·.size)=some cs.size) :
  (execOp a.eval ⟨dst,.load t x,ty,pos,after,guard⟩).run P w' = .ok (.value (.agg cs)) w':=by
 have:=run_loadVar_mid (P:=P) w' g off t cs.toList d h hu hd (by simpa using hi)
 unfold execOp
 simp only[hx,Instr.loadAt,Instr.sureAddr,Sem.run_bind,Sem.run_pure,Result.andThen_ok,this]
end
end Go.Proofs.Ytlihoeipmjbnbaa.Nt
end

section
set_option linter.unusedVariables false
namespace Go.Proofs.Ytlihoeipmjbnbaa.OpenN
open Go.Joins Go.ChangeShapes Go.WideShapes Go.ChangeAt Go.RowKit Go.Deep Go.Proofs.Ytlihoeipmjbnbaa Go.Proofs.Ytlihoeipmjbnbaa.Mem Go.Proofs.Ytlihoeipmjbnbaa.Nt
section
variable {H:Type} {enc:TypeId×Value→H} {W:World}
theorem bytes_trod_k {t e:TypeId} {held:Bool} {fuel:Nat} {v:Value} {x:DataW H×List MemPlace} {P:Program} (ht:P.underlying t=some (.slice e)) (he:P.underlying e=some (.int .u8)) (hc:P.cellsOf e=1) (hb1:P.bytesOf e=1)
  (h:DataW.trod enc P W 0 (fun _=>true) held fuel t [v]=some x) (hw:∀n∈DataW.weights P t x.1,n≤reachBytes):∃A l c,v = .slice A (List.length l) c∧Rd W W.heap.size A (bvs l)∧l.length≤reachBytes:=by
 rcases open_ints ht he hc h with⟨hcs,_⟩ | ⟨a0,l,c,zs,hcs,_,hl,hm,hz,hdat,hcell,hwz⟩
 ·injection hcs with hcs
  exact⟨none,[],0,hcs,.inl rfl,Nat.zero_le _⟩
 ·injection hcs with hcs
  simp only[if_true] at hz
  obtain⟨bs,hbl,hb⟩:=Open.bytes_of_ints (k:=l) (zs:=zs) (by omega) hwz
  refine⟨some a0,bs,c,by rw[hbl];exact hcs,Open.rd_of_cells fun i u hu=>?_,?_⟩
  ·obtain⟨h1,h2⟩:=hb i u hu
   rw[hcell i h1,h2]
  ·have h1:=hw ((lits (H:=H) .u8 (zs.take l)).length+(lits (H:=H) .u8 (zs.drop l)).length) (by rw[hdat];simp [DataW.weights,ht,hb1])
   have h2:(lits (H:=H) .u8 (zs.take l)).length+(lits (H:=H) .u8 (zs.drop l)).length=zs.length:=by simp [lits];omega
   omega
theorem c_byt:Try.prog.cellsOf 30=1:=by kernel_rfl
theorem in_byt {n:Nat} {cs:List Value} {x:DataW H×List MemPlace} (hl:cs.length=1) (h:DataW.trod enc Try.prog W 0 (fun _=>true) true n 30 cs=some x) (hw:∀n∈DataW.weights Try.prog 30 x.1,n≤reachBytes):∃A l c,cs = [.slice A (List.length l) c]∧Rd W W.heap.size A (bvs l)∧l.length≤reachBytes:=by
 match cs,hl with
 | [u],_=>
  obtain⟨A,l,c,rfl,h1,h2⟩:=bytes_trod_k Try.underlying30 Try.underlying5 OpenP.c_u8 (by kernel_rfl) h hw
  exact⟨A,l,c,rfl,h1,h2⟩
theorem c_pk:Try.prog.cellsOf 32=3:=by kernel_rfl
set_option maxRecDepth 100000 in
theorem in_pk {n:Nat} {cs:List Value} {x:DataW H×List MemPlace} (h:DataW.trod enc Try.prog W 0 (fun _=>true) true n 32 cs=some x) (hw:∀n∈DataW.weights Try.prog 32 x.1,n≤reachBytes):∃(p:Pk) (A:Option Addr) (c:Nat),cs=pkC p A c∧Rd W W.heap.size A (bvs p.b)∧p.b.length≤reachBytes:=by
 obtain⟨xs,m,_,hx,hl,hxl,hf⟩:=DataW.trod_struct Try.underlying32 h
 rw[c_pk] at hl
 match xs,hxl with
 | [y0,y1,y2],_=>
  have fw:=fun(j:Nat) (t:TypeId) (d:DataW H) (ht:_[j]? = some t) (hd:[y0.1,y1.1,y2.1][j]? = some d) (n:Nat) (hn:n∈d.weights Try.prog t)=>hw n (by rw[hx];simp only[DataW.weights,Try.underlying32];exact DataW.weights_mem_each ht hd n hn)
  have h0:DataW.trod enc Try.prog W 0 (fun _=>true) true m 3 ((cs.drop 0).take (Try.prog.cellsOf 3))=some y0:=hf 0 _ rfl
  rw[OpenP.c_int] at h0
  obtain⟨l0,e0,b0⟩:=OpenP.in_int h0
  have q0:=OpenP.cut cs 0 1
  rw[e0] at q0
  have h1:DataW.trod enc Try.prog W 0 (fun _=>true) true m 3 ((cs.drop 1).take (Try.prog.cellsOf 3))=some y1:=hf 1 _ rfl
  rw[OpenP.c_int] at h1
  obtain⟨l1,e1,b1⟩:=OpenP.in_int h1
  have q1:=OpenP.cut cs 1 1
  rw[e1] at q1
  have h2:DataW.trod enc Try.prog W 0 (fun _=>true) true m 30 ((cs.drop 2).take (Try.prog.cellsOf 30))=some y2:=hf 2 _ rfl
  rw[c_byt] at h2
  obtain⟨A2,l2,k2,e2,r2,b2⟩:=in_byt (by rw[List.length_take,List.length_drop];omega) h2 (fw 2 _ _ rfl rfl)
  have q2:=OpenP.cut cs 2 1
  rw[e2] at q2
  have k:cs=cs.drop 0:=rfl
  rw[q0,show 0+1=1 from rfl] at k
  rw[q1,show 1+1=2 from rfl] at k
  rw[q2,show 2+1=3 from rfl] at k
  rw[show cs.drop 3 = [] from List.drop_of_length_le (by omega)] at k
  clear hf h h0 q0 e0 h1 q1 e1 h2 q2 e2
  exact⟨⟨l0,l1,l2⟩,A2,k2,k,r2,b2⟩
structure Ac where
 k:Int
 p:Pk
 A:Option Addr
 c:Nat
 n:Int
def aC (a:Ac):List Value:=[.int .i64 a.k,.int .i64 a.p.f,.int .i64 a.p.t,.slice a.A a.p.b.length a.c,.int .i64 a.n]
theorem aC_length (a:Ac):(aC a).length=5:=rfl
def AcR (w:World) (B:Nat) (a:Ac):Prop:=Rd w B a.A (bvs a.p.b)∧a.p.b.length≤reachBytes
def RdAc (w:World) (B:Nat) (A:Option Addr) (l:List Ac):Prop:=
 l = []∨∃g o,A=some ⟨g,o,none⟩∧g<B∧∀i x,l[i]? = some x→w.rangeAt g (o+i*5) (aC x)
theorem RdAc.keep {w w':World} {B:Nat} {A:Option Addr} {l:List Ac} (h:RdAc w B A l) (hb:Below B w w'):RdAc w' B A l:=by
 rcases h with h | ⟨g,o,h1,h2,h3⟩
 ·exact .inl h
 ·exact .inr ⟨g,o,h1,h2,fun i x hx j v hv=>(hb.cell (p:=⟨g,_,none⟩) h2).trans (h3 i x hx j v hv)⟩
theorem RdAc.at_ {w:World} {B:Nat} {A:Option Addr} {l:List Ac} {i:Nat} {x:Ac} (h:RdAc w B A l) (hx:l[i]? = some x):∃g o,A=some ⟨g,o,none⟩∧g<B∧w.rangeAt g (o+i*5) (aC x):=by
 rcases h with h | ⟨g,o,h1,h2,h3⟩
 ·subst h;simp at hx
 ·exact⟨g,o,h1,h2,h3 i x hx⟩
theorem mem_weightsAll {H:Type} {P:Program} {e:TypeId} {n:Nat}:∀{l:List (DataW H)} {d:DataW H},d∈l→n∈d.weights P e→n∈DataW.weightsAll P e l
 |x :: r,d,h,hn=>by
  rw[DataW.weightsAll]
  rcases List.mem_cons.1 h with h | h
  ·subst h;exact List.mem_append.2 (.inl hn)
  ·exact List.mem_append.2 (.inr (mem_weightsAll h hn))
theorem c_ac:Try.prog.cellsOf 34=5:=by kernel_rfl
set_option maxRecDepth 100000 in
theorem in_ac {n:Nat} {cs:List Value} {x:DataW H×List MemPlace} (h:DataW.trod enc Try.prog W 0 (fun _=>true) true n 34 cs=some x) (hw:∀n∈DataW.weights Try.prog 34 x.1,n≤reachBytes):∃a:Ac,cs=aC a∧AcR W W.heap.size a:=by
 obtain⟨xs,m,_,hx,hl,hxl,hf⟩:=DataW.trod_struct Try.underlying34 h
 rw[c_ac] at hl
 match xs,hxl with
 | [y0,y1,y2],_=>
  have fw:=fun(j:Nat) (t:TypeId) (d:DataW H) (ht:_[j]? = some t) (hd:[y0.1,y1.1,y2.1][j]? = some d) (n:Nat) (hn:n∈d.weights Try.prog t)=>hw n (by rw[hx];simp only[DataW.weights,Try.underlying34];exact DataW.weights_mem_each ht hd n hn)
  have h0:DataW.trod enc Try.prog W 0 (fun _=>true) true m 3 ((cs.drop 0).take (Try.prog.cellsOf 3))=some y0:=hf 0 _ rfl
  rw[OpenP.c_int] at h0
  obtain⟨l0,e0,b0⟩:=OpenP.in_int h0
  have q0:=OpenP.cut cs 0 1
  rw[e0] at q0
  have h1:DataW.trod enc Try.prog W 0 (fun _=>true) true m 32 ((cs.drop 1).take (Try.prog.cellsOf 32))=some y1:=hf 1 _ rfl
  rw[c_pk] at h1
  obtain⟨p1,A1,c1,e1,r1,b1⟩:=in_pk h1 (fw 1 _ _ rfl rfl)
  have q1:=OpenP.cut cs 1 3
  rw[e1] at q1
  have h3:DataW.trod enc Try.prog W 0 (fun _=>true) true m 3 ((cs.drop 4).take (Try.prog.cellsOf 3))=some y2:=hf 2 _ rfl
  rw[OpenP.c_int] at h3
  obtain⟨l3,e3,b3⟩:=OpenP.in_int h3
  have q3:=OpenP.cut cs 4 1
  rw[e3] at q3
  have k:cs=cs.drop 0:=rfl
  rw[q0,show 0+1=1 from rfl] at k
  rw[q1,show 1+3=4 from rfl] at k
  rw[q3,show 4+1=5 from rfl] at k
  rw[show cs.drop 5 = [] from List.drop_of_length_le (by omega)] at k
  clear hf h h0 q0 e0 h1 q1 e1 h3 q3 e3
  exact⟨⟨l0,p1,A1,c1,l3⟩,k,r1,b1⟩
set_option maxRecDepth 100000 in
theorem open_acts {v:Value} {d:DataW H} {ps:List MemPlace} (hv:∃A n c,v = .slice A n c) (h:DataW.Trod enc Try.prog W 0 (fun _=>true) true 22 v d ps) (hw:∀n∈DataW.weights Try.prog 22 d,n≤reachBytes) :
  ∃A l c,v = .slice A (List.length l) c∧RdAc W W.heap.size A l∧l.length≤c∧c≤maxLen∧∀(i:Nat) (x:Ac),l[i]? = some x→AcR W W.heap.size x:=by
 obtain⟨A,n,c,rfl⟩:=hv
 obtain⟨fuel,hf⟩:=h
 have ht:=Try.underlying22
 rcases DataW.trod_slice ht hf with⟨h0,_⟩ | ⟨a,len,cap,elems,rest,m,_,hv,hx,_,hl,hm,hlen,hel,_,_⟩
 ·injection h0 with h0
  exact⟨none,[],0,h0,.inl rfl,Nat.le_refl _,Nat.zero_le _,fun i x hx=>by simp at hx⟩
 ·injection hv with hv
  subst hlen
  have each:∀i,i<elems.length→∃x:Ac,(∀j u,(aC x)[j]? = some u→W.cell? (a.add (i*5+j))=some u)∧AcR W W.heap.size x:=by
   intro i hi
   have h1:=hel i hi
   rw[List.getElem?_eq_getElem hi,Option.bind_eq_some_iff] at h1
   obtain⟨cs,h2,h3⟩:=h1
   rw[c_ac] at h2
   obtain⟨_,h4,h5⟩:=World.cells?_some h2
   obtain⟨x,rfl,b1⟩:=in_ac h3 (fun n hn=>hw n (by
    have hd:d = .slice (elems.map (·.1)) (rest.map (·.1)):=congrArg Prod.fst hx
    rw[hd]
    simp only[DataW.weights,ht]
    exact List.mem_cons.2 (.inr (List.mem_append.2 (.inl (mem_weightsAll (List.mem_map.2 ⟨_,List.getElem_mem hi,rfl⟩) hn))))))
   refine⟨x,fun j u hu=>?_,b1⟩
   have hj:j<5:=by have:=(List.getElem?_eq_some_iff.1 hu).1;rw[aC_length] at this;exact this
   have h6:=h5 j hj
   rw[←hu,←h6]
   congr 1
   exact(Go.Deep.add_add a (i*5) j).symm
  obtain⟨l,hll,hp⟩:=OpenP.fn_list each
  have hv2:(Value.slice A n c) = .slice (some a) l.length cap:=by rw[hll];exact hv
  refine⟨some a,l,cap,hv2,?_,by omega,hm,fun i x hx=>?_⟩
  ·rcases Nat.eq_zero_or_pos l.length with g | g
   ·exact .inl (List.eq_nil_of_length_eq_zero g)
   ·have c0:=(hp 0 g).1 0 (.int .i64 l[0].k) rfl
    rw[show a.add (0*5+0)=a by simp [Addr.add]] at c0
    obtain⟨b,o,rfl⟩:=Open.addr_none c0
    refine .inr ⟨b,o,rfl,World.block_lt_of_cell? W _ c0,fun i x hx j u hu=>?_⟩
    obtain⟨hi,e⟩:=List.getElem?_eq_some_iff.1 hx
    have:=(hp i hi).1 j u (by rw[e];exact hu)
    rw[addr_add] at this
    rw[Nat.add_assoc]
    exact this
  ·obtain⟨hi,e⟩:=List.getElem?_eq_some_iff.1 hx
   rw[←e];exact(hp i hi).2
end
end Go.Proofs.Ytlihoeipmjbnbaa.OpenN
end

section
set_option linter.unusedVariables false
set_option linter.unusedSimpArgs false
namespace Go.Proofs.Ytlihoeipmjbnbaa.Nt
open Go.RowKit Go.Proofs.Ytlihoeipmjbnbaa.Mem Go.Proofs.Ytlihoeipmjbnbaa.Se Go.Proofs.Ytlihoeipmjbnbaa.OpenN
def aA (x:Ac):Array Value:=#[.int .i64 x.k,.int .i64 x.p.f,.int .i64 x.p.t,.slice x.A x.p.b.length x.c,.int .i64 x.n]
theorem aA_size (x:Ac):(aA x).size=5:=rfl
theorem aA_one (x:Ac):(aA x).all (·.oneCell')=true:=by
 rw[Array.all_eq_true_iff_forall_mem]
 intro u hu
 have hu:u∈aC x:=by simpa [aA,aC] using hu
 simp only[aC,List.mem_cons,List.not_mem_nil,or_false] at hu
 rcases hu with h | h | h | h | h<;>(subst h;rfl)
theorem ac_info:(Try.prog.info? 34).map (·.size)=some 5:=by kernel_rfl
theorem ac_pk {w:World} {g o:Nat} {x:Ac} (h:w.rangeAt g o (aC x)):w.rangeAt g (o+1) (pkA x.p x.A x.c).toList:=fun j u hu=>by
 have:=h (j+1) u (by
  rw[pkA_toList] at hu
  have hj:j<3:=(List.getElem?_eq_some_iff.1 hu).1
  rcases j with _ | _ | _ | j
  ·exact hu
  ·exact hu
  ·exact hu
  ·omega)
 rw[show o+1+j=o+(j+1) by omega]
 exact this
set_option maxRecDepth 100000 in
set_option maxHeartbeats 3200000 in
theorem nlong_any (A:Option Addr) (l:List Ac) (c:Nat) (w:World) (hr:RdAc w w.heap.size A l) (hz:∀(i:Nat) (x:Ac),l[i]? = some x→AcR w w.heap.size x) :
  Calls Try.prog 8 #[.slice A l.length c] w fun e w'=>∃b,e = .returned (.bool b)∧(b=false→∀(i:Nat) (x:Ac),i<80→l[i]? = some x→x.p.b.length≤20000)∧Below w.heap.size w w':=by
 obtain⟨n,en⟩:∃n,n=l.length:=⟨_,rfl⟩
 rw[←en]
 have EN:=Lib.hid en
 have HR:=Lib.hid hr
 have HZ:=Lib.hid hz
 have HB:=Lib.hid (Below.refl w.heap.size w)
 clear hr hz en
 go_enter Try.func8,Try.ntmps8
 go_wp2
 go_loopw [3,4] (fun sv iv wr=>∃i t:Nat,i≤n∧i≤80∧t≤20000∧iv = .int .i64 (i:Int)∧sv = .int .i64 (t:Int)∧(∀(j:Nat) (x:Ac),j<i→l[j]? = some x→x.p.b.length≤20000)∧Below w.heap.size w wr) (fun _ iv _=>n - (intOf iv).toNat)
 case atStart=>exact⟨0,0,Nat.zero_le _,by decide,by decide,rfl,rfl,fun j x hj=>absurd hj (Nat.not_lt_zero _),HB.out⟩
 case round=>
  clear HB
  obtain⟨i,t,hi,hi6,ht,rfl,rfl,hno,hb⟩:=hrel
  have HB:=Lib.hid hb;have HNO:=Lib.hid hno
  clear hb hno
  by_cases hlt:i<n
  ·have e1:decide ((i:Int)<(n:Int))=true:=by simp;omega
   by_cases h6:i<80
   ·have e2:decide ((i:Int)<80)=true:=by simp;omega
    have e3:(i:Int)<(n:Int):=by omega
    have e4:(0:Int)≤(i:Int):=by omega
    have e5:(i:Int)<80:=by omega
    have e6:(t:Int)≤20000:=by omega
    have e7:(0:Int)≤(t:Int):=by omega
    obtain⟨x,hx⟩:∃x,l[i]? = some x:=⟨l[i]'(by rw[←EN.out];exact hlt),List.getElem?_eq_getElem _⟩
    obtain⟨g,o,rfl,hg,hra⟩:=HR.out.at_ hx
    obtain⟨q,eq⟩:∃q,q=x.p.b.length:=⟨_,rfl⟩
    have k3:wr.cell? ⟨g,o+i*5+1+2,none⟩=some (.slice x.A q x.c):=by
     rw[eq]
     exact(HB.out.cell (p:=⟨g,_,none⟩) hg).trans (hra 3 _ rfl)
    obtain⟨_,z3⟩:=HZ.out i x hx
    have HX:=Lib.hid hx
    have EQ:=Lib.hid eq
    have z4:(q:Int)≤140737488351232:=by have h:x.p.b.length≤140737488351232:=z3;omega
    have w1:IntKind.i64.wrap ((t:Int)+1)=(t:Int)+1:=by rw[IntKind.wrap_i64];omega
    have w2:IntKind.i64.wrap ((t:Int)+1+(q:Int))=(t:Int)+1+(q:Int):=by rw[IntKind.wrap_i64];omega
    clear hra hx z3 eq hi hi6 ht
    by_cases hs:t+1+q≤20000
    ·have e8:decide ((20000:Int)<(t:Int)+1+(q:Int))=false:=by simp;omega
     have e9:¬((20000:Int)<(t:Int)+1+(q:Int)):=by omega
     have HS:=Lib.hid hs;clear hs
     go_wp2
     go_roundw
     case rel=>exact⟨i+1,t+1+q,by omega,by omega,HS.out,by go_num,by go_num,fun j y hj hy=>by
      by_cases q:j=i
      ·subst q
       rw[HX.out] at hy
       injection hy with hy
       subst hy
       have:=HS.out
       have:=EQ.out
       omega
      ·exact HNO.out j y (by omega) hy,HB.out⟩
     case measure=>simp [intOf];omega
    ·have e8:decide ((20000:Int)<(t:Int)+1+(q:Int))=true:=by simp;omega
     have e9:(20000:Int)<(t:Int)+1+(q:Int):=by omega
     clear hs
     go_wp2
     go_ret
     exact⟨true,rfl,(fun h=>by cases h),HB.out⟩
   ·have e2:decide ((i:Int)<80)=false:=by simp;omega
    obtain rfl:i=80:=by omega
    clear hi hi6 ht
    go_wp2
    go_ret
    exact⟨false,rfl,fun _ j x hj hx=>HNO.out j x hj hx,HB.out⟩
  ·have e1:decide ((i:Int)<(n:Int))=false:=by simp;omega
   obtain rfl:n=i:=by omega
   clear hi hi6 ht
   go_wp2
   go_ret
   exact⟨false,rfl,fun _ j x hj hx=>HNO.out j x (by rw[EN.out];exact(List.getElem?_eq_some_iff.1 hx).1) hx,HB.out⟩
end Go.Proofs.Ytlihoeipmjbnbaa.Nt
end
