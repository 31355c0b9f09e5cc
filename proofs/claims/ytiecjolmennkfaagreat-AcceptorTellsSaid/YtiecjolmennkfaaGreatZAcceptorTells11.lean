import Derived.Test.YtiecjolmennkfaaGreatZAcceptorTells10
set_option maxHeartbeats 25600000
set_option maxRecDepth 100000
set_option linter.unusedVariables false
set_option linter.unusedSimpArgs false
namespace Go.Proofs.YtiecjolmennkfaaGreat
namespace Kd
open Go.RowKit Af Se Nm
open Rg (It Ent Ring RO DRing DO its)
open Ms (Re Tg reC tgC)
open Rt (Tp kl)
theorem OG {l:L} (h:l.length=32):AQ (ksOf l)=(bvs l).toArray:=by
 show((List.range 32).map (fun i=>bv (ksOf l i))).toArray=(bvs l).toArray
 congr 1
 apply List.ext_getElem?;intro i;simp only[List.getElem?_map,bvs]
 by_cases g:i<32
 ·rw[List.getElem?_range g,List.getElem?_eq_getElem (by omega)]
  simp [ksOf,List.getD,h,g]
 ·rw[List.getElem?_eq_none (by simp;omega),List.getElem?_eq_none (by omega)]
  rfl
theorem Fm (w:World) (g o:Nat) (u:Value):Chg (fun j=>j=g) w (w.setCell ⟨g,o,none⟩ u):=(Chg.refl (fun j=>j=g) w).set (p:=⟨g,o,none⟩) (.inl rfl) u
def SlK (K:Nat->Prop) (w:World) (v:Value) (ls:List L):Prop:=∃A c,v=.slice A ls.length c/\ls.length<=c/\(ls = []\/∃b o,A=some ⟨b,o,none⟩/\K b/\∀i u,(strs ls)[i]? = some u->w.cell? ⟨b,o+i,none⟩=some u)
def SpK (K:Nat->Prop) (w:World) (v:Value) (P:List (L×L)):Prop:=∃A c,v=.slice A P.length c/\P.length<=c/\(P = []\/∃b o,A=some ⟨b,o,none⟩/\K b/\∀i,i<P.length->w.cell? ⟨b,o+i*2,none⟩=some (.string ⟨(kl P i).1.toArray⟩)/\w.cell? ⟨b,o+i*2+1,none⟩=some (.string ⟨(kl P i).2.toArray⟩))
structure TpK (K:Nat->Prop) (w:World) (v1 v2 v3:Value) (T:Tp):Prop where
 r:SlK K w v1 T.R
 k:SpK K w v2 T.K
 n:v3=.slice none 0 0
 p:T.P = []
section
variable {K K' S:Nat->Prop} {w w':World} {v v1 v2 v3:Value} {ls:List L} {P:List (L×L)} {T:Tp}
theorem SlK.keep (h:SlK K w v ls) (hk:∀b o,K b->w'.cell? ⟨b,o,none⟩=w.cell? ⟨b,o,none⟩) (hm:∀b,K b->K' b):SlK K' w' v ls:=by
 obtain⟨A,c,h1,h2,M⟩:=h;refine⟨A,c,h1,h2,?_⟩;rcases M with M | ⟨b,o,e,O,Z⟩
 ·exact .inl M
 ·exact .inr ⟨b,o,e,hm b O,fun i u hu=>(hk b _ O).trans (Z i u hu)⟩
theorem SpK.keep (h:SpK K w v P) (hk:∀b o,K b->w'.cell? ⟨b,o,none⟩=w.cell? ⟨b,o,none⟩) (hm:∀b,K b->K' b):SpK K' w' v P:=by
 obtain⟨A,c,h1,h2,M⟩:=h;refine⟨A,c,h1,h2,?_⟩;rcases M with M | ⟨b,o,e,O,Z⟩
 ·exact .inl M
 ·exact .inr ⟨b,o,e,hm b O,fun i hi=>⟨(hk b _ O).trans (Z i hi).1,(hk b _ O).trans (Z i hi).2⟩⟩
theorem TpK.keep (h:TpK K w v1 v2 v3 T) (hk:∀b o,K b->w'.cell? ⟨b,o,none⟩=w.cell? ⟨b,o,none⟩) (hm:∀b,K b->K' b):TpK K' w' v1 v2 v3 T:=⟨h.r.keep hk hm,h.k.keep hk hm,h.n,h.p⟩
theorem TpK.chg (h:TpK K w v1 v2 v3 T) (O:Chg S w w') (hs:∀b,K b->b<w.heap.size/\¬S b):TpK K w' v1 v2 v3 T:=
 h.keep (fun b o M=>World.cell?_of_block (a:=⟨b,o,none⟩) (O.block b (hs b M).1 (hs b M).2)) (fun _ x=>x)
theorem SlK.slv {B:Nat} (h:SlK K w v ls) (O:∀b,K b->b<B):Rt.SlV w B v ls:=by
 obtain⟨A,c,h1,h2,M⟩:=h;refine⟨A,c,h1,h2,?_⟩;rcases M with M | ⟨b,o,e,hb,Z⟩
 ·subst M;exact .inl rfl
 ·exact .inr ⟨b,o,e,O b hb,Z⟩
theorem SpK.slp {B:Nat} (h:SpK K w v P) (O:∀b,K b->b<B):Rt.SlP w B v P:=by
 obtain⟨A,c,h1,h2,M⟩:=h;refine⟨A,c,h1,h2,?_⟩;rcases M with M | ⟨b,o,e,hb,Z⟩
 ·exact .inl M
 ·exact .inr ⟨b,o,e,O b hb,Z⟩
theorem TpK.tpv {B:Nat} (h:TpK K w v1 v2 v3 T) (M:∀b,K b->b<B):Rt.TpV w B (.agg #[v1,v2,v3]) T:=
 ⟨v1,v2,v3,rfl,h.r.slv M,h.k.slp M,none,0,by rw[h.n,h.p];rfl,by rw[h.p];exact Nat.le_refl _,.inl h.p⟩
theorem TpK.sizes (h:TpK K w v1 v2 v3 T):∃A1 c1 A2 c2,v1=.slice A1 T.R.length c1/\v2=.slice A2 T.K.length c2/\v3=.slice none 0 0:=by
 obtain⟨A1,c1,O,_⟩:=h.r;obtain⟨A2,c2,M,_⟩:=h.k;exact⟨A1,c1,A2,c2,O,M,h.n⟩
end
def SlN (S:Nat->Prop) (w:World) (v:Value) (l:L):Prop:=∃A c,v=.slice A l.length c/\l.length<=c/\RdA S w A (bvs l)
section
variable {S S' T:Nat->Prop} {w w':World} {v:Value} {l:L}
theorem SlN.keep (h:SlN S w v l) (M:Chg T w w') (ht:∀i,i<w.heap.size->T i->S i) (hs:∀i,i<w.heap.size->S' i->S i):SlN S' w' v l:=by
 obtain⟨A,c,O,Z,h4⟩:=h;exact⟨A,c,O,Z,h4.keep M ht hs⟩
theorem SlN.below (h:SlN S w v l) (M:Below w.heap.size w w'):SlN S w' v l:=h.keep (Chg.of_below (S:=fun _=>False) M) (fun _ _ x=>x.elim) (fun _ _ x=>x)
theorem SlN.mono (h:SlN S w v l) (hs:∀i,i<w.heap.size->S' i->S i):SlN S' w v l:=h.keep (Chg.refl (fun _=>False) w) (fun _ _ x=>x.elim) hs
theorem SlN.sl (h:SlN S w v l):Ms.SlB w w.heap.size v l:=by
 obtain⟨A,c,Z,M,O⟩:=h;exact⟨A,c,Z,M,O.rd⟩
end
def ReN (S:Nat->Prop) (w:World) (cs:Array Value) (x:Re):Prop:=∃b a,cs=(reC x b a).toArray/\SlN S w b x.t.b/\SlN S w a x.b
def TgN (S:Nat->Prop) (w:World) (cs:Array Value) (x:Tg):Prop:=∃b a,cs=(tgC x b a).toArray/\SlN S w b x.t.b/\SlN S w a x.a
section
variable {S S' T:Nat->Prop} {w w':World} {cs:Array Value} {x:Re} {y:Tg}
theorem ReN.keep (h:ReN S w cs x) (M:Chg T w w') (O:∀i,i<w.heap.size->T i->S i) (hs:∀i,i<w.heap.size->S' i->S i):ReN S' w' cs x:=by
 obtain⟨b,a,h1,h2,Z⟩:=h;exact⟨b,a,h1,h2.keep M O hs,Z.keep M O hs⟩
theorem ReN.below (h:ReN S w cs x) (M:Below w.heap.size w w'):ReN S w' cs x:=h.keep (Chg.of_below (S:=fun _=>False) M) (fun _ _ x=>x.elim) (fun _ _ x=>x)
theorem TgN.keep (h:TgN S w cs y) (M:Chg T w w') (O:∀i,i<w.heap.size->T i->S i) (hs:∀i,i<w.heap.size->S' i->S i):TgN S' w' cs y:=by
 obtain⟨b,a,h1,h2,Z⟩:=h;exact⟨b,a,h1,h2.keep M O hs,Z.keep M O hs⟩
theorem TgN.below (h:TgN S w cs y) (M:Below w.heap.size w w'):TgN S w' cs y:=h.keep (Chg.of_below (S:=fun _=>False) M) (fun _ _ x=>x.elim) (fun _ _ x=>x)
end
structure KP where
 k:Nat
 r:Nat
 lo:Nat
 hi:Nat
 R:L
 T:Tp
 v:Value
 v1:Value
 v2:Value
 v3:Value
def KT (p:KP) (j:Nat):Prop:=p.lo<=j/\j<p.hi
def KO (p:KP) (es:List Ent) (j:Nat):Prop:=j=p.k\/RO p.r p.v es j
def KA (p:KP) (es:List Ent) (j:Nat):Prop:=KO p es j\/KT p j
section
variable {w w':World} {B:Nat} {p:KP} {es es':List Ent} {n i n' i':Nat} {S:Nat->Prop}
def New' (w:World) (p:KP) (es es':List Ent):Prop:=∀j,KO p es' j->KO p es j\/w.heap.size<=j
theorem New'.refl (w:World) (p:KP) (es:List Ent):New' w p es es:=fun _ h=>.inl h
theorem New'.trans {es2:List Ent} {a:World} (h:New' a p es es') (g:New' w p es' es2) (hs:a.heap.size<=w.heap.size):New' a p es es2:=fun j M=>by
 rcases g j M with x | x
 ·exact h j x
 ·exact .inr (by omega)
end
structure DP where
 x:Nat
 q:Nat
 lo:Nat
 hi:Nat
 R:L
 T:Tp
 v:Value
 v1:Value
 v2:Value
 v3:Value
section
variable {w w':World} {B:Nat} {p:DP} {l:List It} {n m:Nat} {S:Nat->Prop}
end
end Kd
namespace Reg
open Go.RowKit Af
section
variable {P:Program} {ops:Array Oper} {Q:Exit->Act->World->Prop} {md:Region.Mode} {S:World->Prop}
theorem BI (i:Nat) {dst:Option Tmp} {O:TypeId} {x y:Operand} {ty:TypeId} {pos:String} {after:Array _} {guard:Option (Nat×Bool)} {fuel:Nat} {M:Array Bool} {a:Act} {w:World} (hi:ops[i]? = some ⟨dst,.store O x y,ty,pos,after,guard⟩)
  (hr:Region.ready md ops M = [i]) (hw:Region.wanted ⟨dst,.store O x y,ty,pos,after,guard⟩ (yielded ops a.tmps)=true) (g:Nat) (t:TypeId) (old cells:Array Value) (hb:Blk w g t old) (hx:a.eval x=.pointer (some ⟨g,0,none⟩)) (hy:a.eval y=.agg cells) (hs:old.size=cells.size)
  (hI:(P.info? O).map (·.size)=some cells.size) (h1:cells.all (·.oneCell')=true)
  (h:∀V,Blk V g t cells->w.grownBy V (some g)->S V/\wpAnyH P md ops Q S fuel (M.setIfInBounds i true) (a.put dst undef) V):wpAnyH P md ops Q S (fuel+1) M a w:=by
 have ht:w.there g 0 cells.size:=Wh.Cx hb 0 _ (by omega);have Z:(execOp a.eval ⟨dst,.store O x y,ty,pos,after,guard⟩).run P w=.ok .skip (w.setCells g 0 cells.toList):=by
  unfold execOp;simp only[hx,hy,Instr.storeAt,Instr.sureAddr,Sem.run_bind,Sem.run_pure,Result.andThen_ok,run_storeVar_mid w g 0 O cells ht hI h1]
 obtain⟨h2,h3⟩:=h _ (Wh.AJ hb hs) (Wh.Fk _ _ _ _);exact BH i _ hi hr hw Z h2 h3
theorem tk (i:Nat) {dst:Option Tmp} {op:Op} {ty:TypeId} {pos:String} {after:Array _} {guard:Option (Nat×Bool)} {v:Value} {fuel:Nat} {M:Array Bool} {a:Act} {w:World} (hi:ops[i]? = some ⟨dst,op,ty,pos,after,guard⟩) (hS:S w)
  (O:∀w',S w'->(execOp a.eval ⟨dst,op,ty,pos,after,guard⟩).run P w'=.ok (.value v) w')
  (h:wpAnyH P md ops Q S fuel (M.setIfInBounds i true) (a.put dst v) w)
  (hs:Region.noSelect ops=true:=by kernel_rfl) (hf:Region.free md ops M i=true:=by kernel_rfl) (hr:(Region.ready md ops M).contains i=true:=by kernel_rfl)
  (hQ:∀c a w,Q (.panic c) (a.put dst v) w->Q (.panic c) a w:=by exact fun _ _ _ h=>h) (hw:Region.wanted ⟨dst,op,ty,pos,after,guard⟩ (yielded ops a.tmps)=true:=by rfl):wpAnyH P md ops Q S (fuel+1) M a w:=
 IM i hi hs hf hr hQ hS hw O h
theorem s0 {α:Type} (l:List α) (i:Nat) (a:α):l.toArray.setIfInBounds i a=(l.set i a).toArray:=List.setIfInBounds_toArray ..
theorem s1 {α:Type} {x:α} {xs:List α} {a:α}:(x :: xs).set 0 a=a :: xs:=rfl
theorem s2 {α:Type} {x:α} {xs:List α} {n:Nat} {a:α}:(x :: xs).set (n+1) a=x :: xs.set n a:=rfl
end
end Reg
namespace Kd
open Go.RowKit Af Se
open Ms (Pt Rp Re An Tk ptC reC anC tkC prC pr0)
abbrev prV (p:Nm.L×Nm.L):Value:=.agg #[.string ⟨p.1.toArray⟩,.string ⟨p.2.toArray⟩]
abbrev keyA (d:Nm.L):Array Value:=(bvs d).toArray
abbrev ptA (P:Pt):Array Value:=(ptC P).toArray
abbrev anA (a:An):Array Value:=(anC a).toArray
theorem LD {l:List Value} (h:∀v∈l,v.oneCell'=true):l.toArray.all (·.oneCell')=true:=by
 rw[List.all_toArray,List.all_eq_true];exact h
theorem Ux (p:Nm.L×Nm.L):∀v∈prC p,v.oneCell'=true:=by
 intro v M;simp only[prC,List.mem_cons,List.not_mem_nil,or_false] at M;rcases M with rfl | rfl<;>rfl
theorem Uy {d:Nm.L} (h:d.length=32):(keyA d).size=32:=by simp [bvs,h]
theorem IT {d:Nm.L} (h:d.length=32):(Tryz.prog.info? 24).map (·.size)=some (keyA d).size:=by rw[Uy h];kernel_rfl
theorem Hh {P:Pt} (h:P.ss.length=32):(ptA P).size=37:=by simp [ptC,prC,bvs,h]
theorem LF (P:Pt):(ptA P).all (·.oneCell')=true:=LD fun v M=>by
 simp only[ptC,List.mem_append,List.mem_cons,List.not_mem_nil,or_false] at M;rcases M with M | M | rfl | rfl | rfl
 ·exact Ux _ v M
 ·exact BD _ v M
 ·rfl
 ·rfl
 ·rfl
theorem LG {P:Pt} (h:P.ss.length=32):(Tryz.prog.info? 33).map (·.size)=some (ptA P).size:=by rw[Hh h];kernel_rfl
section
variable {w:World} {g:Nat} {t:TypeId} {P:Pt}
theorem dJ (h:P.ss.length=32) {o:Nat} {mid:List Value} (hb:Blk w g t (ptA P)) (M:∃pre post,ptC P=pre++(mid++post)/\o=pre.length):w.rangeAt g o mid:=by
 obtain⟨pre,post,O,Z⟩:=M;exact Wh.Ef (pre:=pre) (post:=post) hb (by rw[<-O]) o Z
theorem MS (h:P.ss.length=32) (M:Blk w g t (ptA P)):w.rangeAt g 2 (keyA P.ss).toList:=by
 refine dJ h M ⟨prC P.c,[.string ⟨P.tr.toArray⟩,.int .i64 P.st,.int .i64 P.en],?_,rfl⟩;simp [ptC]
theorem pt_0 (M:Blk w g t (ptA P)):w.cell? ⟨g,0,none⟩=some (.string ⟨P.c.1.toArray⟩):=by rw[M.cell];rfl
theorem pt_1 (M:Blk w g t (ptA P)):w.cell? ⟨g,1,none⟩=some (.string ⟨P.c.2.toArray⟩):=by rw[M.cell];rfl
theorem aM (h:P.ss.length=32) (M:Blk w g t (ptA P)):w.rangeAt g 34 [.string ⟨P.tr.toArray⟩,.int .i64 P.st,.int .i64 P.en]:=by
 refine dJ h M ⟨prC P.c++bvs P.ss,[],?_,?_⟩
 ·simp [ptC]
 ·simp [prC,bvs,h]
theorem pt_34 (h:P.ss.length=32) (M:Blk w g t (ptA P)):w.cell? ⟨g,34,none⟩=some (.string ⟨P.tr.toArray⟩):=aM h M 0 _ rfl
theorem dK (h:P.ss.length=32) (M:Blk w g t (ptA P)):w.cell? ⟨g,35,none⟩=some (.int .i64 P.st):=aM h M 1 _ rfl
theorem dL (h:P.ss.length=32) (M:Blk w g t (ptA P)):w.cell? ⟨g,36,none⟩=some (.int .i64 P.en):=aM h M 2 _ rfl
end
theorem Uz:Tryz.prog.built 33 []=some (ptA Ms.pt0):=by kernel_rfl
end Kd
namespace Kd
open Go.RowKit Af Nm Rt
theorem Qc (w : World) (base : Nat) (v : Value) (K : List (L × L)) (M : OwnP w base v K) (p : L × L) (g : Nat) (bb : w.cell? ⟨g, 0, none⟩ = some (.string ⟨p.1.toArray⟩)) (aw : w.cell? ⟨g, 1, none⟩ = some (.string ⟨p.2.toArray⟩)) (hl : K.length + 1 <= 1000000) (hb : base <= w.heap.size) :
    ∃v' w',(Builtin.append_ #[61,61] 61 #[v,.slice (some ⟨g,0,none⟩) 1 1]).run Tryz.prog w=.ok v' w'/\OwnP w' base v' (K++[p])/\Below base w w'/\w.grownBy w' v.ownBlock:=by
  obtain⟨i0,bq,Z,bn,av⟩:=info_parts Mu;obtain ⟨v', w', O, h2, h3, _, _⟩ := run_append_own_at (P := Tryz.prog) w base 61 61 121 i0 _ 2 32 Tryz.underlying61 bq Z bn av rfl (by omega) v K.length (prs K) M ⟨g, 0, none⟩ 1 1 (prs [p]) rfl (fun j u hu => by
      rw[addr_add,Nat.zero_add];have e:prs [p] = [.string ⟨p.1.toArray⟩,.string ⟨p.2.toArray⟩]:=rfl;rw[e] at hu;rcases j with _ | _ | j
      · simp only [List.getElem?_cons_zero, Option.some.injEq] at hu; rw [<- hu]; exact bb
      · simp only [List.getElem?_cons_succ, List.getElem?_cons_zero, Option.some.injEq] at hu; rw [<- hu]; exact aw
      · simp at hu) (Td _) (by unfold maxLen; omega) (by omega) hb
  exact⟨v',w',O,by rw[OwnP,List.length_append,Kn];exact h2,Ah.grown h3 hb (fun k hk=>(M.lt k hk).1),h3⟩
theorem Eg {a w c:World} {row:Option Nat} (h:a.grownBy w row) (k:Below a.heap.size w c):a.grownBy c row:=
 ⟨k.os.trans h.os,k.tape.trans h.tape,k.output.trans h.output,Nat.le_trans h.size k.size,fun i hi M=>(k.block i hi).trans (h.block i hi M)⟩
theorem Rh {w w':World} {base n size:Nat} {t:TypeId} {v:Value} {xs:List Value} (h:w.ownsRow base t size v n xs) (hk:∀g,v.ownBlock=some g->w'.heap[g]? = w.heap[g]?):w'.ownsRow base t size v n xs:=by
 refine⟨h.1,?_⟩;rcases h.2 with M | ⟨g,cap,cur,O,M,Z,h4⟩
 ·exact .inl M
 ·refine .inr ⟨g,cap,cur,O,M,?_,h4⟩
  subst O;rw[hk g rfl];exact Z
theorem aN {w w':World} {base n c hi:Nat} {A:Option Addr} {ls:List L} {K:Nat->Prop} (h:Own w base (.slice A n c) ls) (hl:∀k,(Value.slice A n c).ownBlock=some k->base<=k/\k<hi) (hK:∀k,base<=k->k<hi->K k) (hw:∀k o,base<=k->k<hi->w'.cell? ⟨k,o,none⟩=w.cell? ⟨k,o,none⟩):SlK K w' (.slice A n c) ls:=by
 have hc:ls.length<=c:=by
  rcases h.2 with⟨O,Z⟩ | ⟨g,cap,cur,O,hg,hh,hc,_⟩
  ·omega
  ·injection O with _ _ O
   omega
 obtain⟨A',c',e,hr⟩:=h.slice;injection e with e1 e2 e3;subst e1 e2 e3;refine⟨A,c,rfl,hc,?_⟩;rcases hr with hr | ⟨b,o,rfl,_,M⟩
 ·left
  have h9:=congrArg List.length hr;rw[DR] at h9;exact List.eq_nil_of_length_eq_zero h9
 ·obtain⟨O,Z⟩:=hl b rfl
  exact .inr ⟨b,o,rfl,hK b O Z,fun i u hu=>(hw b _ O Z).trans (M i u hu)⟩
theorem Xd {w w':World} {base n c:Nat} {A:Option Addr} {ls:List (L×L)} {K:Nat->Prop} (h:OwnP w base (.slice A n c) ls) (hK:∀k,base<=k->k<w.heap.size->K k) (hw:∀k o,base<=k->k<w.heap.size->w'.cell? ⟨k,o,none⟩=w.cell? ⟨k,o,none⟩):SpK K w' (.slice A n c) ls:=by
 have hl:=h.lt;obtain⟨A',c',e,hc,hr⟩:=h.slice;injection e with e1 e2 e3;subst e1 e2 e3;refine⟨A,c,rfl,hc,?_⟩;rcases hr with hr | ⟨b,o,rfl,_,M⟩
 ·exact .inl hr
 ·obtain⟨O,Z⟩:=hl b rfl
  exact .inr ⟨b,o,rfl,hK b O Z,fun i hi=>⟨(hw b _ O Z).trans (M i hi).1,(hw b _ O Z).trans (M i hi).2⟩⟩
theorem Hi {w:World} {base g j:Nat} {v u:Value} {K:List (L×L)} (h:OwnP w base v K) (O:g<base):OwnP (w.setCell ⟨g,j,none⟩ u) base v K:=
 Rh h fun b M=>Below.heap_setCell w _ u b (fun e=>by have Z:=(h.lt b M).1;simp only at e;omega)
theorem aO {P:List (L×L)} {j:Nat} (h:j<P.length):P.take (j+1)=P.take j++[kl P j]:=by
 rw[List.take_add_one,List.getElem?_eq_getElem h,Ge h];rfl
abbrev tpA (a b:Value):Array Value:=#[a,b,.slice none 0 0]
theorem UA (T:Tp) (hs:Sm T) (hp:T.P = []) (eb:∀x∈T.K,x.1.length<=3000/\x.2.length<=3000) (v1 v2:Value) (w:World) (h1:SlV w w.heap.size v1 T.R) (h2:SlP w w.heap.size v2 T.K) :
  Calls Tryz.prog 33 #[.agg (tpA v1 v2)] w fun e w'=>∃u1 u2,e=.returned (.agg (tpA u1 u2))/\TpK (fun b=>w.heap.size<=b/\b<w'.heap.size) w' u1 u2 (.slice none 0 0) T/\Below w.heap.size w w':=by
 obtain⟨A1,c1,rfl,er,r1⟩:=h1;obtain⟨A2,c2,rfl,ef,r2⟩:=h2;obtain⟨n,en⟩:=Ak (T.R.length);obtain⟨m,em⟩:=Ak (T.K.length);have hk:=hs.k;obtain⟨W,eW⟩:=Ak ((w.alloc (.cells (tpA (.slice A1 n c1) (.slice A2 m c2)) 64)).alloc (.cells (tpA (.slice none 0 0) (.slice none 0 0)) 64));have M:Below w.heap.size w W:=eW▸(Ah.alloc Ag _).alloc (by simp) _;have HT:=I (show Blk W w.heap.size 64 (tpA (.slice A1 n c1) (.slice A2 m c2)) from eW▸(Blk.new w _ _).alloc _);have HZ:=I (show Blk W (w.heap.size+1) 64 (tpA (.slice none 0 0) (.slice none 0 0)) by have:=Blk.new (w.alloc (.cells (tpA (.slice A1 n c1) (.slice A2 m c2)) 64)) 64 (tpA (.slice none 0 0) (.slice none 0 0));simp only[World.size_alloc] at this;exact eW▸this);have HB:=I M;have CC:=I (QZ T.R A1 c1 W (by have:=hs.r;omega) (fun x hx=>hs.rt x hx) ((r1.below M).more M.size));have cq:=I (r2.below M);rw[<-en] at CC;rw[<-em] at hk;have EM:=I em;have EN:=I en;have eg:=I hp;have ep:=I eb;rw[<-en,<-em];have ea:=I HZ.o.lt;clear M r1 r2 er ef hs hp eb en em;go_enter Tryz.func33,Tryz.ntmps33
 go_upto_region 1 with fail
 rw[<-eW];clear eW;have ej:=HT.o.cell 0
 go_upto_region 2 with(first
  |(go_at_call 70;refine Calls.mono CC.o ?_;rintro e w6 ⟨u1,rfl,ho,M⟩;clear CC ej;obtain⟨A6,c6,eu,_⟩:=ho.slice;rw[<-EN.o] at eu;subst eu;have HO:=I ho;have ei:=ho.lt;replace HT:=I (HT.o.below M);replace HZ:=I (HZ.o.below M);replace cq:=I (cq.o.below (M.mono HB.o.size));have HW:=I M.size;have eB:=I HB.o.size;replace HB:=HB.t M;clear ho M)
  |fail)
 obtain⟨w8,ck⟩:=Ak (w6.alloc (.cells (tpA (.slice A6 n c6) (.slice none 0 0)) 64));have M:Below w6.heap.size w6 w8:=ck▸Ah.alloc Ag _;have HX:=I (show Blk w8 w6.heap.size 64 (tpA (.slice A6 n c6) (.slice none 0 0)) from ck▸Blk.new w6 _ _);have bn:=I (show w6.heap.size<w8.heap.size by rw[ck];simp);replace HT:=I (HT.o.below M);replace HZ:=I (HZ.o.below M);replace HO:=I (HO.o.below M);replace cq:=I (cq.o.below (M.mono HB.o.size));replace HB:=HB.t M;have cT:=I (show ∀k,(Value.slice A6 n c6).ownBlock=some k->W.heap.size<=k/\k<w6.heap.size from ei);rw[<-ck];clear ck M;obtain⟨P3,cM⟩:=Ak (w6.heap.size);rw[<-cM] at HX bn cT⊢;have cn:=I (show w.heap.size+1<P3 by rw[cM];have:=ea.o;have:=HW.o;omega);clear cM;have et:=HT.o.cell 1
 go_upto_region 3 with fail
 clear et
 go_loopw [15] (fun iv wr=>∃(j:Nat) (vK:Value),j<=m/\iv=.int .i64 (j:Int)/\Blk wr P3 64 (tpA (.slice A6 n c6) vK)/\OwnP wr w8.heap.size vK (T.K.take j)/\w8.grownBy wr (some P3)) (fun iv _=>m - (intOf iv).toNat)
 case atStart=>exact⟨0,_,Nat.zero_le _,rfl,HX.o,OwnP.nil _ _,World.grownBy.refl _ _⟩
 case round=>
  obtain⟨j,vK,hj,rfl,hx,cP,hg⟩:=hrel;replace HX:=I hx;have Z:=I cP;have HG:=I hg;have O:=I hg.size;have cy:=cP.lt;clear hx cP hg;obtain⟨K,eK⟩:=Ak (T.K.take j);rw[<-eK] at Z;have cu:=I eK;clear eK;obtain⟨A8,c8,e8,_⟩:=Z.o.slice;subst e8
  by_cases hlt:j<m
  ·have e1:(j:Int)<(m:Int):=by omega
   have e2:(0:Int)<=(j:Int):=by omega
   have cf:j<T.K.length:=by rw[<-EM.o];exact hlt
   have cw:=I (show T.K.take (j+1)=K++[kl T.K j] from cu.o▸aO cf);have HL:=I (show K.length<=3000 by rw[cu.o,List.length_take];omega);have ev:=ep.o _ (Ym cf);have ec:=I (fun w1=>BZ (kl T.K j).1 w1 (by omega));have cA:=I (fun w1=>BZ (kl T.K j).2 w1 (by omega));have bx:=I (show ∀k,(Value.slice A8 K.length c8).ownBlock=some k->k<wr.heap.size from fun k hk=>(cy k hk).2);rcases cq.o with hz | ⟨bz,oz,ez,ew,cL⟩
   ·exact absurd cf (by rw[hz];simp)
   ·subst ez
    have cB:bz≠P3:=by have:=cn.o;omega
    have q0:wr.cell? ⟨bz,oz+j*2,none⟩=some (.string ⟨(kl T.K j).1.toArray⟩):=(World.cell?_of_block (a:=⟨bz,oz+j*2,none⟩) (HG.o.block bz (by have:=cn.o;have:=bn.o;omega) (fun e=>cB (by injection e)))).trans (cL j cf).1;have q1:wr.cell? ⟨bz,oz+j*2+1,none⟩=some (.string ⟨(kl T.K j).2.toArray⟩):=(World.cell?_of_block (a:=⟨bz,oz+j*2+1,none⟩) (HG.o.block bz (by have:=cn.o;have:=bn.o;omega) (fun e=>cB (by injection e)))).trans (cL j cf).2
    go_upto_region 5 with fail
    obtain⟨wt,ct⟩:=Ak (wr.alloc (.cells #[.string ⟨(kl T.K j).1.toArray⟩,.string ⟨(kl T.K j).2.toArray⟩] 121));have M:Below wr.heap.size wr wt:=ct▸Ah.alloc Ag _;have H5:=I (show Blk wt wr.heap.size 121 #[.string ⟨(kl T.K j).1.toArray⟩,.string ⟨(kl T.K j).2.toArray⟩] from ct▸Blk.new wr _ _);have cd:=I (show w8.heap.size<=wr.heap.size from O.o);rw[<-ct];clear ct q0 q1;replace HX:=I (HX.o.below M);replace Z:=I (Z.o.below M);replace HG:=I (Eg HG.o (M.mono O.o));replace O:=I (Nat.le_trans O.o M.size);have cr:=I (show P3<wr.heap.size by have:=bn.o;have:=cd.o;omega);clear M;obtain⟨PT,cX⟩:=Ak (wr.heap.size);rw[<-cX] at H5 cd bx cr⊢;clear cX cy ev cf cL ew cB;refine Reg.Bo (fun w'=>Blk w' PT 121 #[.string ⟨(kl T.K j).1.toArray⟩,.string ⟨(kl T.K j).2.toArray⟩]) 13 rfl (by kernel_rfl) (H5.o.drewN 1) ?_;replace HX:=I (show Blk wt.drew _ _ _ from HX.o.drewN 1);replace H5:=I (show Blk wt.drew _ _ _ from H5.o.drewN 1);replace Z:=I (show OwnP wt.drew _ _ _ from Z.o.below (below_drewN Ah 1));replace HG:=I (Bb HG.o);replace O:=I (show w8.heap.size<=wt.drew.heap.size from O.o);obtain⟨W9,cZ⟩:=Ak (wt.drew);rw[<-cZ] at HX H5 Z HG O⊢;clear cZ;refine Reg.ty 0 rfl H5.o ?_;refine Reg.ty 2 rfl H5.o ?_;refine Reg.tw 3 rfl H5.o (fun w' hS=>by have k1:=Blk.cell hS 0;go_simp<;>rfl) ?_;refine Reg.ty 5 rfl H5.o ?_;refine Reg.tw 6 rfl H5.o (fun w' hS=>by have k1:=Blk.cell hS 1;go_simp<;>rfl) ?_;refine Reg.b2 1 4 ?_ ?_
    ·left
     have k1:W9.cell? ⟨P3,1,none⟩=some (.slice A8 K.length c8):=HX.o.cell 1;refine⟨_,_,_,_,_,_,_,W9,rfl,by rfl,by(go_simp;rfl),H5.o,?_⟩;simp only[Act.put,U,Aa,Ab];clear k1;refine Reg.b1 4 ?_
     right
     refine⟨_,_,_,_,_,_,63,#[.string ⟨(kl T.K j).1.toArray⟩],rfl,by rfl,by go_simp,?_⟩;refine Aj (ec.o W9) ?_;rintro cm M;have M:=M;replace HX:=I (HX.o.below M);replace H5:=I (H5.o.below M);replace Z:=I (Z.o.below M);replace HG:=I (Eg HG.o (M.mono O.o));replace O:=I (Nat.le_trans O.o M.size);clear M;refine⟨_,rfl,H5.o,?_⟩;simp only[Act.put,U,Aa,Ab];refine Reg.b1 7 ?_
     right
     refine⟨_,_,_,_,_,_,63,#[.string ⟨(kl T.K j).2.toArray⟩],rfl,by rfl,by go_simp,?_⟩;refine Aj (cA.o cm) ?_;rintro av M;have M:=M;replace HX:=I (HX.o.below M);replace H5:=I (H5.o.below M);replace Z:=I (Z.o.below M);replace HG:=I (Eg HG.o (M.mono O.o));replace O:=I (Nat.le_trans O.o M.size);clear M;refine⟨_,rfl,H5.o,?_⟩;simp only[Act.put,U,Aa,Ab];refine Reg.ty 8 rfl H5.o ?_;refine Reg.b1 9 ?_
     left
     have M:Below av.heap.size av (av.alloc (.cells #[.string ⟨(kl T.K j).1.toArray⟩,.string ⟨(kl T.K j).2.toArray⟩] 121)):=Ah.alloc Ag _;have aw:=Blk.new av 121 #[.string ⟨(kl T.K j).1.toArray⟩,.string ⟨(kl T.K j).2.toArray⟩];refine⟨_,_,_,_,_,_,.slice (some ⟨av.heap.size,0,none⟩) 1 1,av.alloc (.cells #[.string ⟨(kl T.K j).1.toArray⟩,.string ⟨(kl T.K j).2.toArray⟩] 121),rfl,by rfl,(by go_simp<;>rfl),H5.o.below M,?_⟩;simp only[Act.put,U,Aa,Ab];obtain⟨wb,cc⟩:=Ak (av.alloc (.cells #[.string ⟨(kl T.K j).1.toArray⟩,.string ⟨(kl T.K j).2.toArray⟩] 121));rw[<-cc] at M aw⊢;clear cc;obtain⟨PB,cb⟩:=Ak (av.heap.size);rw[<-cb] at aw⊢;clear cb;have HN:=I aw;clear aw;have M:=M;replace HX:=I (HX.o.below M);replace H5:=I (H5.o.below M);replace Z:=I (Z.o.below M);replace HG:=I (Eg HG.o (M.mono O.o));replace O:=I (Nat.le_trans O.o M.size);clear M;refine Reg.b1 10 ?_
     left
     obtain⟨v9,w9,bq,bs,bb,ca⟩:=Qc wb w8.heap.size (.slice A8 K.length c8) K Z.o (kl T.K j) PB (HN.o.cell 0) (HN.o.cell 1) (by have:=HL.o;omega) O.o;have h5:Blk w9 PT 121 _:=H5.o.grown ca (fun e=>by have:=(bx.o PT e);have:=cd.o;omega);refine⟨_,_,_,_,_,_,v9,w9,rfl,by rfl,by(simp only[execOp,resolve,invoke,builtin,Sem.run_bind,Sem.run_pure,Result.andThen_ok,List.map_toArray,List.map_cons,List.map_nil,Act.eval];refine(congrArg (fun r=>Result.andThen r _) bq).trans ?_;rfl),h5,?_⟩;simp only[Act.put,U,Aa,Ab];replace H5:=I h5;replace HX:=I (show Blk w9 P3 64 _ from(bb.block _ bn.o).trans HX.o);replace HG:=I (Eg HG.o bb);replace O:=I (Nat.le_trans O.o bb.size);obtain⟨A7,c7,e7,_⟩:=bs.slice;rw[show(K++[kl T.K j]).length=K.length+1 by simp] at e7;subst e7;replace Z:=I bs;clear bq bs bb ca h5 HN bx;refine Reg.ty 11 rfl H5.o ?_;have f0:=HX.o.frozen 1;have k9:=HX.c1;refine Reg.BH 12 (w9.setCell ⟨P3,1,none⟩ (.slice A7 (K.length+1) c7)) rfl (by kernel_rfl) (by rfl) (by go_simp) (Si.Blk.far H5.o _ _ (show P3≠PT by have:=cd.o;have:=bn.o;have:=cr.o;omega)) ?_;simp only[Act.put,U,Aa,Ab];refine wpAnyH_done (by kernel_rfl) ?_ _;have cj:=I (HX.o.set 1 (.slice A7 (K.length+1) c7));have bB:=I (Hi (j:=1) (u:=.slice A7 (K.length+1) c7) Z.o (show P3<w8.heap.size from bn.o));have cg:=I (AM HG.o (p:=⟨P3,1,none⟩) (.inl rfl) (.slice A7 (K.length+1) c7));clear f0 k9;rw[<-cw.o] at bB
     go_wp2
     go_roundw
     case rel=>exact⟨j+1,_,by omega,by go_num,cj.o,bB.o,cg.o⟩
     case measure=>simp [intOf];omega
    ·right
     refine⟨_,_,_,_,_,_,63,#[.string ⟨(kl T.K j).1.toArray⟩],rfl,by rfl,by go_simp,?_⟩;refine Aj (ec.o W9) ?_;rintro cm M;have M:=M;replace HX:=I (HX.o.below M);replace H5:=I (H5.o.below M);replace Z:=I (Z.o.below M);replace HG:=I (Eg HG.o (M.mono O.o));replace O:=I (Nat.le_trans O.o M.size);clear M;refine⟨_,rfl,H5.o,?_⟩;simp only[Act.put,U,Aa,Ab];refine Reg.b2 1 7 ?_ ?_
     ·left
      have k1:=HX.c1;refine⟨_,_,_,_,_,_,_,cm,rfl,by rfl,by(go_simp;rfl),H5.o,?_⟩;simp only[Act.put,U,Aa,Ab];clear k1;refine Reg.b1 7 ?_
      right
      refine⟨_,_,_,_,_,_,63,#[.string ⟨(kl T.K j).2.toArray⟩],rfl,by rfl,by go_simp,?_⟩;refine Aj (cA.o cm) ?_;rintro av M;have M:=M;replace HX:=I (HX.o.below M);replace H5:=I (H5.o.below M);replace Z:=I (Z.o.below M);replace HG:=I (Eg HG.o (M.mono O.o));replace O:=I (Nat.le_trans O.o M.size);clear M;refine⟨_,rfl,H5.o,?_⟩;simp only[Act.put,U,Aa,Ab];refine Reg.ty 8 rfl H5.o ?_;refine Reg.b1 9 ?_
      left
      have M:Below av.heap.size av (av.alloc (.cells #[.string ⟨(kl T.K j).1.toArray⟩,.string ⟨(kl T.K j).2.toArray⟩] 121)):=Ah.alloc Ag _;have aw:=Blk.new av 121 #[.string ⟨(kl T.K j).1.toArray⟩,.string ⟨(kl T.K j).2.toArray⟩];refine⟨_,_,_,_,_,_,.slice (some ⟨av.heap.size,0,none⟩) 1 1,av.alloc (.cells #[.string ⟨(kl T.K j).1.toArray⟩,.string ⟨(kl T.K j).2.toArray⟩] 121),rfl,by rfl,(by go_simp<;>rfl),H5.o.below M,?_⟩;simp only[Act.put,U,Aa,Ab];obtain⟨wb,cc⟩:=Ak (av.alloc (.cells #[.string ⟨(kl T.K j).1.toArray⟩,.string ⟨(kl T.K j).2.toArray⟩] 121));rw[<-cc] at M aw⊢;clear cc;obtain⟨PB,cb⟩:=Ak (av.heap.size);rw[<-cb] at aw⊢;clear cb;have HN:=I aw;clear aw;have M:=M;replace HX:=I (HX.o.below M);replace H5:=I (H5.o.below M);replace Z:=I (Z.o.below M);replace HG:=I (Eg HG.o (M.mono O.o));replace O:=I (Nat.le_trans O.o M.size);clear M;refine Reg.b1 10 ?_
      left
      obtain⟨v9,w9,bq,bs,bb,ca⟩:=Qc wb w8.heap.size (.slice A8 K.length c8) K Z.o (kl T.K j) PB (HN.o.cell 0) (HN.o.cell 1) (by have:=HL.o;omega) O.o;have h5:Blk w9 PT 121 _:=H5.o.grown ca (fun e=>by have:=(bx.o PT e);have:=cd.o;omega);refine⟨_,_,_,_,_,_,v9,w9,rfl,by rfl,by(simp only[execOp,resolve,invoke,builtin,Sem.run_bind,Sem.run_pure,Result.andThen_ok,List.map_toArray,List.map_cons,List.map_nil,Act.eval];refine(congrArg (fun r=>Result.andThen r _) bq).trans ?_;rfl),h5,?_⟩;simp only[Act.put,U,Aa,Ab];replace H5:=I h5;replace HX:=I (show Blk w9 P3 64 _ from(bb.block _ bn.o).trans HX.o);replace HG:=I (Eg HG.o bb);replace O:=I (Nat.le_trans O.o bb.size);obtain⟨A7,c7,e7,_⟩:=bs.slice;rw[show(K++[kl T.K j]).length=K.length+1 by simp] at e7;subst e7;replace Z:=I bs;clear bq bs bb ca h5 HN bx;refine Reg.ty 11 rfl H5.o ?_;have f0:=HX.o.frozen 1;have k9:=HX.c1;refine Reg.BH 12 (w9.setCell ⟨P3,1,none⟩ (.slice A7 (K.length+1) c7)) rfl (by kernel_rfl) (by rfl) (by go_simp) (Si.Blk.far H5.o _ _ (show P3≠PT by have:=cd.o;have:=bn.o;have:=cr.o;omega)) ?_;simp only[Act.put,U,Aa,Ab];refine wpAnyH_done (by kernel_rfl) ?_ _;have cj:=I (HX.o.set 1 (.slice A7 (K.length+1) c7));have bB:=I (Hi (j:=1) (u:=.slice A7 (K.length+1) c7) Z.o (show P3<w8.heap.size from bn.o));have cg:=I (AM HG.o (p:=⟨P3,1,none⟩) (.inl rfl) (.slice A7 (K.length+1) c7));clear f0 k9;rw[<-cw.o] at bB
      go_wp2
      go_roundw
      case rel=>exact⟨j+1,_,by omega,by go_num,cj.o,bB.o,cg.o⟩
      case measure=>simp [intOf];omega
     ·right
      refine⟨_,_,_,_,_,_,63,#[.string ⟨(kl T.K j).2.toArray⟩],rfl,by rfl,by go_simp,?_⟩;refine Aj (cA.o cm) ?_;rintro av M;have M:=M;replace HX:=I (HX.o.below M);replace H5:=I (H5.o.below M);replace Z:=I (Z.o.below M);replace HG:=I (Eg HG.o (M.mono O.o));replace O:=I (Nat.le_trans O.o M.size);clear M;refine⟨_,rfl,H5.o,?_⟩;simp only[Act.put,U,Aa,Ab];refine Reg.ty 8 rfl H5.o ?_;refine Reg.b2 1 9 ?_ ?_
      ·left
       have k1:=HX.c1;refine⟨_,_,_,_,_,_,_,av,rfl,by rfl,by(go_simp;rfl),H5.o,?_⟩;simp only[Act.put,U,Aa,Ab];clear k1;refine Reg.b1 9 ?_
       left
       have M:Below av.heap.size av (av.alloc (.cells #[.string ⟨(kl T.K j).1.toArray⟩,.string ⟨(kl T.K j).2.toArray⟩] 121)):=Ah.alloc Ag _;have aw:=Blk.new av 121 #[.string ⟨(kl T.K j).1.toArray⟩,.string ⟨(kl T.K j).2.toArray⟩];refine⟨_,_,_,_,_,_,.slice (some ⟨av.heap.size,0,none⟩) 1 1,av.alloc (.cells #[.string ⟨(kl T.K j).1.toArray⟩,.string ⟨(kl T.K j).2.toArray⟩] 121),rfl,by rfl,(by go_simp<;>rfl),H5.o.below M,?_⟩;simp only[Act.put,U,Aa,Ab];obtain⟨wb,cc⟩:=Ak (av.alloc (.cells #[.string ⟨(kl T.K j).1.toArray⟩,.string ⟨(kl T.K j).2.toArray⟩] 121));rw[<-cc] at M aw⊢;clear cc;obtain⟨PB,cb⟩:=Ak (av.heap.size);rw[<-cb] at aw⊢;clear cb;have HN:=I aw;clear aw;have M:=M;replace HX:=I (HX.o.below M);replace H5:=I (H5.o.below M);replace Z:=I (Z.o.below M);replace HG:=I (Eg HG.o (M.mono O.o));replace O:=I (Nat.le_trans O.o M.size);clear M;refine Reg.b1 10 ?_
       left
       obtain⟨v9,w9,bq,bs,bb,ca⟩:=Qc wb w8.heap.size (.slice A8 K.length c8) K Z.o (kl T.K j) PB (HN.o.cell 0) (HN.o.cell 1) (by have:=HL.o;omega) O.o;have h5:Blk w9 PT 121 _:=H5.o.grown ca (fun e=>by have:=(bx.o PT e);have:=cd.o;omega);refine⟨_,_,_,_,_,_,v9,w9,rfl,by rfl,by(simp only[execOp,resolve,invoke,builtin,Sem.run_bind,Sem.run_pure,Result.andThen_ok,List.map_toArray,List.map_cons,List.map_nil,Act.eval];refine(congrArg (fun r=>Result.andThen r _) bq).trans ?_;rfl),h5,?_⟩;simp only[Act.put,U,Aa,Ab];replace H5:=I h5;replace HX:=I (show Blk w9 P3 64 _ from(bb.block _ bn.o).trans HX.o);replace HG:=I (Eg HG.o bb);replace O:=I (Nat.le_trans O.o bb.size);obtain⟨A7,c7,e7,_⟩:=bs.slice;rw[show(K++[kl T.K j]).length=K.length+1 by simp] at e7;subst e7;replace Z:=I bs;clear bq bs bb ca h5 HN bx;refine Reg.ty 11 rfl H5.o ?_;have f0:=HX.o.frozen 1;have k9:=HX.c1;refine Reg.BH 12 (w9.setCell ⟨P3,1,none⟩ (.slice A7 (K.length+1) c7)) rfl (by kernel_rfl) (by rfl) (by go_simp) (Si.Blk.far H5.o _ _ (show P3≠PT by have:=cd.o;have:=bn.o;have:=cr.o;omega)) ?_;simp only[Act.put,U,Aa,Ab];refine wpAnyH_done (by kernel_rfl) ?_ _;have cj:=I (HX.o.set 1 (.slice A7 (K.length+1) c7));have bB:=I (Hi (j:=1) (u:=.slice A7 (K.length+1) c7) Z.o (show P3<w8.heap.size from bn.o));have cg:=I (AM HG.o (p:=⟨P3,1,none⟩) (.inl rfl) (.slice A7 (K.length+1) c7));clear f0 k9;rw[<-cw.o] at bB
       go_wp2
       go_roundw
       case rel=>exact⟨j+1,_,by omega,by go_num,cj.o,bB.o,cg.o⟩
       case measure=>simp [intOf];omega
      ·left
       have M:Below av.heap.size av (av.alloc (.cells #[.string ⟨(kl T.K j).1.toArray⟩,.string ⟨(kl T.K j).2.toArray⟩] 121)):=Ah.alloc Ag _;have aw:=Blk.new av 121 #[.string ⟨(kl T.K j).1.toArray⟩,.string ⟨(kl T.K j).2.toArray⟩];refine⟨_,_,_,_,_,_,.slice (some ⟨av.heap.size,0,none⟩) 1 1,av.alloc (.cells #[.string ⟨(kl T.K j).1.toArray⟩,.string ⟨(kl T.K j).2.toArray⟩] 121),rfl,by rfl,(by go_simp<;>rfl),H5.o.below M,?_⟩;simp only[Act.put,U,Aa,Ab];obtain⟨wb,cc⟩:=Ak (av.alloc (.cells #[.string ⟨(kl T.K j).1.toArray⟩,.string ⟨(kl T.K j).2.toArray⟩] 121));rw[<-cc] at M aw⊢;clear cc;obtain⟨PB,cb⟩:=Ak (av.heap.size);rw[<-cb] at aw⊢;clear cb;have HN:=I aw;clear aw;have M:=M;replace HX:=I (HX.o.below M);replace H5:=I (H5.o.below M);replace Z:=I (Z.o.below M);replace HG:=I (Eg HG.o (M.mono O.o));replace O:=I (Nat.le_trans O.o M.size);clear M;refine Reg.b1 1 ?_
       left
       have k1:=HX.c1;refine⟨_,_,_,_,_,_,_,wb,rfl,by rfl,by(go_simp;rfl),H5.o,?_⟩;simp only[Act.put,U,Aa,Ab];clear k1;refine Reg.b1 10 ?_
       left
       obtain⟨v9,w9,bq,bs,bb,ca⟩:=Qc wb w8.heap.size (.slice A8 K.length c8) K Z.o (kl T.K j) PB (HN.o.cell 0) (HN.o.cell 1) (by have:=HL.o;omega) O.o;have h5:Blk w9 PT 121 _:=H5.o.grown ca (fun e=>by have:=(bx.o PT e);have:=cd.o;omega);refine⟨_,_,_,_,_,_,v9,w9,rfl,by rfl,by(simp only[execOp,resolve,invoke,builtin,Sem.run_bind,Sem.run_pure,Result.andThen_ok,List.map_toArray,List.map_cons,List.map_nil,Act.eval];refine(congrArg (fun r=>Result.andThen r _) bq).trans ?_;rfl),h5,?_⟩;simp only[Act.put,U,Aa,Ab];replace H5:=I h5;replace HX:=I (show Blk w9 P3 64 _ from(bb.block _ bn.o).trans HX.o);replace HG:=I (Eg HG.o bb);replace O:=I (Nat.le_trans O.o bb.size);obtain⟨A7,c7,e7,_⟩:=bs.slice;rw[show(K++[kl T.K j]).length=K.length+1 by simp] at e7;subst e7;replace Z:=I bs;clear bq bs bb ca h5 HN bx;refine Reg.ty 11 rfl H5.o ?_;have f0:=HX.o.frozen 1;have k9:=HX.c1;refine Reg.BH 12 (w9.setCell ⟨P3,1,none⟩ (.slice A7 (K.length+1) c7)) rfl (by kernel_rfl) (by rfl) (by go_simp) (Si.Blk.far H5.o _ _ (show P3≠PT by have:=cd.o;have:=bn.o;have:=cr.o;omega)) ?_;simp only[Act.put,U,Aa,Ab];refine wpAnyH_done (by kernel_rfl) ?_ _;have cj:=I (HX.o.set 1 (.slice A7 (K.length+1) c7));have bB:=I (Hi (j:=1) (u:=.slice A7 (K.length+1) c7) Z.o (show P3<w8.heap.size from bn.o));have cg:=I (AM HG.o (p:=⟨P3,1,none⟩) (.inl rfl) (.slice A7 (K.length+1) c7));clear f0 k9;rw[<-cw.o] at bB
       go_wp2
       go_roundw
       case rel=>exact⟨j+1,_,by omega,by go_num,cj.o,bB.o,cg.o⟩
       case measure=>simp [intOf];omega
  ·have e1:¬(j:Int)<(m:Int):=by omega
   have cf:T.K.length<=j:=by rw[<-EM.o];omega
   have ek:K=T.K:=by rw[cu.o,List.take_of_length_le cf]
   rw[ek] at Z;have cQ:=cn.o;have cR:=bn.o;have cp:=I (HZ.o.grown HG.o (fun e=>by injection e with e;omega));have eo:=I (HT.o.grown HG.o (fun e=>by injection e with e;omega));have eF:=eo.o.cell 2;have ey:=HX.o.cell 0;have eL:=HX.o.cell 1;have eE:=HX.o.cell 2;have eM:=cp.o.cell 0;have eN:=cp.o.cell 1;have eQ:=cp.o.cell 2;have fz:=cp.o.frozen;clear cQ cR ek cf
   go_wp2
   go_loopw [35] (fun iv wq=>iv=.int .i64 0/\wq=wr) (fun _ _=>0)
   case atStart=>exact⟨rfl,rfl⟩
   case round=>
    obtain⟨rfl,rfl⟩:=hrel
    go_wp2
    refine bodyPost_ret (v:=.agg (tpA (.slice A6 n c6) (.slice A8 K.length c8))) ?_ ?_ ?_
    ·exact Wh.Au (v:=.agg (tpA (.slice A6 n c6) (.slice A8 K.length c8))) 2 64 ⟨w.heap.size+1,0,none⟩ Tryz.results33 rfl (Wh.Ao (((cp.o.set 0 _).set 1 _).set 2 _) Tryz.underlying64 (by rfl) (by kernel_rfl))
    ·rfl
    ·have cQ:=cn.o;have cR:=bn.o;have eP:=HW.o;have eJ:=ea.o
     have cx:∀k,k≠w.heap.size+1->(((wr.setCell ⟨w.heap.size+1,0,none⟩ (.slice A6 n c6)).setCell ⟨w.heap.size+1,1,none⟩ (.slice A8 K.length c8)).setCell ⟨w.heap.size+1,2,none⟩ (.slice none 0 0)).heap[k]? = wr.heap[k]?:=fun k hk=>
      (Below.heap_setCell _ _ _ k (fun e=>by simp only at e;omega)).trans ((Below.heap_setCell _ _ _ k (fun e=>by simp only at e;omega)).trans (Below.heap_setCell _ _ _ k (fun e=>by simp only at e;omega)))
     have ed:K=T.K:=by rw[cu.o,List.take_of_length_le (by rw[<-EM.o];omega)]
     rw[<-ed] at Z;have cY:(((wr.setCell ⟨w.heap.size+1,0,none⟩ (.slice A6 n c6)).setCell ⟨w.heap.size+1,1,none⟩ (.slice A8 K.length c8)).setCell ⟨w.heap.size+1,2,none⟩ (.slice none 0 0)).heap.size=wr.heap.size:=by simp
     refine⟨_,_,rfl,⟨?_,?_,rfl,eg.o⟩,?_⟩
     ·refine aN HO.o cT.o (fun k h1 h2=>⟨by omega,by rw[cY];have:=O.o;omega⟩) (fun k o h1 h2=>World.cell?_of_block (a:=⟨k,o,none⟩) ((cx k (by omega)).trans (HG.o.block k (by omega) (fun e=>by injection e with e;omega))))
     ·rw[<-ed]
      refine Xd Z.o (fun k h1 h2=>⟨by omega,by rw[cY];omega⟩) (fun k o h1 h2=>World.cell?_of_block (a:=⟨k,o,none⟩) (cx k (by omega)))
     ·exact Si.AS (Si.AS (Si.AS (HB.o.grown HG.o (by omega) (fun k hk=>by injection hk with hk;omega)) (by simp) _) (by simp) _) (by simp) _
end Kd
namespace Kd
open Go.RowKit Af Se
open SeL (Cw BM Ue JF)
def Made (w w':World) (v:Value) (l:List UInt8):Prop:=SlN (fun j=>j<w.heap.size) w' v l
theorem Xe (w w':World):Made w w' (.slice none 0 0) []:=⟨none,0,rfl,Nat.le_refl _,.inl rfl⟩
theorem dM (ks:Nat->UInt8) (u N:Int) (A:Option Addr) (m c:Nat) (p:List UInt8) (w:World) (hm:m=p.length) (hr:Rd w w.heap.size A (bvs p)) :
  Calls Tryz.prog 19 #[.agg (AQ ks),.int .i64 u,.int .i64 N,.slice A m c] w fun e w'=>∃v,e=.returned (.tuple #[v,.int .i64 (Cw ks u N p).2])/\Made w w' v (Cw ks u N p).1/\Below w.heap.size w w':=by
 by_cases hx:0<=u/\u<=255/\0<=N/\N<=1099511627776/\m<=784
 ·obtain⟨u',rfl⟩:∃k:Nat,u=(k:Int):=⟨u.toNat,by omega⟩
  obtain⟨n',rfl⟩:∃k:Nat,N=(k:Int):=⟨N.toNat,by omega⟩;have e:Cw ks (u':Int) (n':Int) p=(Eo ks u' n' p,0):=by rw[Cw,if_pos (by omega)];rfl
  rw[e];refine(Uc ks u' n' A m c p w (by omega) (by omega) hm (by omega) hr).mono ?_;rintro e w' ⟨A2,c2,rfl,Z,h2,O,h4⟩;have M:(Eo ks u' n' p).length=m+16:=by rw[CG,hm]
  exact⟨_,rfl,⟨A2,c2,by rw[M],by rw[M];exact O,Z⟩,h2⟩
 ·have e:Cw ks u N p=([],1):=by rw[Cw,if_neg (by omega)]
  rw[e];refine(Ub ks u N A m c w hx).mono ?_;rintro e w' ⟨rfl,hb⟩;exact⟨_,rfl,Xe _ _,hb⟩
end Kd
namespace Kd
open Go.RowKit Af Se
open Rg (It Ent Ring RO its)
def Cz (es:List Ent) (c:Nat):Prop:=∀(j:Nat) (e:Ent),es[j]? = some e->e.a<=c/\e.o<=c/\e.r<=c
theorem Cz.mono {es:List Ent} {c c':Nat} (h:Cz es c) (M:c<=c'):Cz es c':=fun j e he=>by have:=h j e he;omega
theorem Cz.set {es:List Ent} {c q:Nat} {e:Ent} (h:Cz es c) (he:es[q]? = some e) {Z:Option Nat} {a o r:Nat} (h1:a<=e.a+1) (h2:o<=e.o+1) (h3:r<=e.r+1):Cz (es.set q ⟨e.it,e.b,Z,a,o,r⟩) (c+1):=fun j f M=>by
 have O:=(List.getElem?_eq_some_iff.1 he).1
 by_cases g:q=j
 ·subst g
  rw[List.getElem?_set_self O] at M;injection M with M;subst M;have:=h q e he;show a<=c+1/\o<=c+1/\r<=c+1;omega
 ·rw[List.getElem?_set_ne g] at M
  have:=h j f M;omega
def bts (es:List Ent):List (It×Nat):=es.map fun e=>(e.it,e.b)
theorem OH {es es':List Ent} (h:bts es'=bts es):its es'=its es:=by
 have O:its es'=(bts es').map Prod.fst:=by simp [its,bts]
 have M:its es=(bts es).map Prod.fst:=by simp [its,bts]
 rw[O,M,h]
theorem UB {es es':List Ent} (h:bts es'=bts es):es'.length=es.length:=by
 have:=congrArg List.length h
 simpa [bts] using this
theorem aP {es:List Ent} {q:Nat} {e:Ent} (he:es[q]? = some e) (M:Option Nat) (a o r:Nat):bts (es.set q ⟨e.it,e.b,M,a,o,r⟩)=bts es:=by
 have hi:=(List.getElem?_eq_some_iff.1 he).1;unfold bts;apply List.ext_getElem?;intro j;rw[List.getElem?_map,List.getElem?_map]
 by_cases g:q=j
 ·subst g;rw[List.getElem?_set_self hi,he];rfl
 ·rw[List.getElem?_set_ne g]
structure Ss where
 b:Nat
 ks:Nat->UInt8
 h:Option Nat
 a:Nat
 o:Nat
 r:Nat
def SO (s:Option Ss) (j:Nat):Prop:=∃z,s=some z/\Ow z.b z.h j
def RSO (rg:Nat) (rv:Value) (es:List Ent) (s:Option Ss) (j:Nat):Prop:=RO rg rv es j\/SO s j
structure RS (w:World) (B:Nat) (rg:Nat) (rv:Value) (es:List Ent) (s:Option Ss) (c:Nat):Prop where
 k:Ring w B rg rv es
 hB:B<=w.heap.size
 sx:∀z,s=some z->Box w z.b z.ks z.h z.a z.o z.r/\z.a<=c/\z.o<=c/\z.r<=c
 ap:∀j,SO s j->¬RO rg rv es j
 sl:∀j,SO s j->B<=j
 cz:Cz es c
structure Rn (w0 w:World) (B:Nat) (rg:Nat) (rv:Value) (es0:List Ent) (s0:Option Ss) (es:List Ent) (s:Option Ss) (c:Nat):Prop where
 st:RS w B rg rv es s c
 eq:bts es=bts es0
 sq:∀z0,s0=some z0->∃z,s=some z/\z.b=z0.b/\z.ks=z0.ks
 chg:Chg (RSO rg rv es0 s0) w0 w
 nw:∀j,RSO rg rv es s j->RSO rg rv es0 s0 j\/w0.heap.size<=j
section
variable {w0 w w':World} {B:Nat} {rg:Nat} {rv:Value} {es0 es es':List Ent} {s0 s s':Option Ss} {c c':Nat}
theorem RS.rso_lt (h:RS w B rg rv es s c) {j:Nat} (M:RSO rg rv es s j):j<w.heap.size:=by
 rcases M with M | ⟨z,O,M⟩
 ·exact h.k.own_lt M
 ·exact(h.sx z O).1.own_lt j M
theorem RS.rso_lo (h:RS w B rg rv es s c) {j:Nat} (M:RSO rg rv es s j):B<=j:=by
 rcases M with M | M
 ·exact h.k.own_lo M
 ·exact h.sl j M
theorem RS.below (h:RS w B rg rv es s c) (M:Below w.heap.size w w'):RS w' B rg rv es s c:=
 ⟨h.k.below M,Nat.le_trans h.hB M.size,fun z O=>⟨(h.sx z O).1.below M,(h.sx z O).2⟩,h.ap,h.sl,h.cz⟩
theorem RS.chg {S:Nat->Prop} (h:RS w B rg rv es s c) (O:Chg S w w') (hs:∀j,RO rg rv es j\/SO s j->¬S j):RS w' B rg rv es s c:=
 ⟨h.k.chg O (fun j M=>hs j (.inl M)),Nat.le_trans h.hB O.size,fun z Z=>⟨(h.sx z Z).1.chg O (fun j M=>hs j (.inr ⟨z,Z,M⟩)),(h.sx z Z).2⟩,h.ap,h.sl,h.cz⟩
theorem RS.more (h:RS w B rg rv es s c) (O:c<=c'):RS w B rg rv es s c':=⟨h.k,h.hB,fun z M=>⟨(h.sx z M).1,by have:=(h.sx z M).2;omega⟩,h.ap,h.sl,h.cz.mono O⟩
theorem RS.no_s (h:RS w B rg rv es s c):RS w B rg rv es none c:=⟨h.k,h.hB,fun z M=>(by cases M),fun j O=>(by obtain⟨z,M,_⟩:=O;cases M),fun j O=>(by obtain⟨z,M,_⟩:=O;cases M),h.cz⟩
theorem Rn.refl (h:RS w B rg rv es s c):Rn w w B rg rv es s es s c:=⟨h,rfl,fun z M=>⟨z,M,rfl,rfl⟩,Chg.refl _ _,fun _ x=>.inl x⟩
theorem Rn.below (h:Rn w0 w B rg rv es0 s0 es s c) (M:Below w.heap.size w w'):Rn w0 w' B rg rv es0 s0 es s c:=
 ⟨h.st.below M,h.eq,h.sq,h.chg.trans (Chg.of_below (S:=fun _=>False) M) (fun _ _ x=>x.elim),h.nw⟩
theorem Rn.start (h:RS w B rg rv es s c) (M:Below w.heap.size w w'):Rn w w' B rg rv es s es s c:=(Rn.refl h).below M
theorem Rn.size (h:Rn w0 w B rg rv es0 s0 es s c):w0.heap.size<=w.heap.size:=h.chg.size
theorem Rn.trans (h:Rn w0 w B rg rv es0 s0 es s c) (g:Rn w w' B rg rv es s es' s' c'):Rn w0 w' B rg rv es0 s0 es' s' c':=by
 refine⟨g.st,g.eq.trans h.eq,fun z0 M=>?_,h.chg.trans g.chg (fun j Z x=>?_),fun j Z=>?_⟩
 ·obtain⟨z,hz,h1,h2⟩:=h.sq z0 M
  obtain⟨z',O,h3,h4⟩:=g.sq z hz;exact⟨z',O,h3.trans h1,h4.trans h2⟩
 ·rcases h.nw j x with y | y
  ·exact y
  ·omega
 ·rcases g.nw j Z with y | y
  ·exact h.nw j y
  ·have:=h.size;exact .inr (by omega)
theorem Rn.blk {P:Nat} {t:TypeId} {cs:Array Value} (h:Rn w0 w B rg rv es0 s0 es s c) (O:Blk w0 P t cs) (M:¬RSO rg rv es0 s0 P):Blk w P t cs:=h.chg.blk O M
theorem Rn.not {P:Nat} (h:Rn w0 w B rg rv es0 s0 es s c) (M:¬RSO rg rv es0 s0 P) (O:P<w0.heap.size):¬RSO rg rv es s P:=fun x=>by
 rcases h.nw P x with y | y
 ·exact M y
 ·omega
theorem RS.fresh (h:RS w B rg rv es s c) {P:Nat} (M:w.heap.size<=P):¬RSO rg rv es s P:=fun x=>by have:=h.rso_lt x;omega
def OutR (w0:World) (rg:Nat) (rv:Value) (es:List Ent) (s:Option Ss) (j:Nat):Prop:=j<w0.heap.size\/RSO rg rv es s j
theorem Rn.o {v:Value} {l:Nm.L} {a:World} (h:Rn w0 w B rg rv es0 s0 es s c) (O:a.heap.size<=w0.heap.size) (hs:SlN (OutR a rg rv es0 s0) w0 v l):SlN (OutR a rg rv es s) w v l:=
 hs.keep h.chg (fun _ _ x=>.inr x) (fun j M x=>by
  rcases x with x | x
  ·exact .inl x
  ·rcases h.nw j x with y | y
   ·exact .inr y
   ·omega)
theorem OutR.new {A:Option Addr} {l:Nm.L} {m:Nat} {a:World} (h:RS w B rg rv es s c) (hw:Below w.heap.size w w') (O:a.heap.size<=w.heap.size) (hm:l.length<=m) (M:RdA (fun j=>j<w.heap.size) w' A (bvs l)):SlN (OutR a rg rv es s) w' (.slice A l.length m) l:=
 ⟨A,m,rfl,hm,M.mono (fun j _ x=>by
  rcases x with x | x
  ·omega
  ·exact h.rso_lt x)⟩
def Hdl (es:List Ent) (s:Option Ss) (x:Nat) (ks:Nat->UInt8):Prop:=(∃(q:Nat) (e:Ent),es[q]? = some e/\e.b=x/\e.it.k=ks)\/(∃z,s=some z/\z.b=x/\z.ks=ks)
theorem RS.use_r (h:RS w B rg rv es s c) {q:Nat} {e:Ent} (he:es[q]? = some e) {Z:Option Nat} {a o r:Nat} (hx:Box w' e.b e.it.k Z a o r) (hs:Dp w w' e.b e.h Z) (h1:a<=e.a+1) (h2:o<=e.o+1) (h3:r<=e.r+1) :
  Rn w w' B rg rv es s (es.set q ⟨e.it,e.b,Z,a,o,r⟩) s (c+1):=by
 have hr:=h.k.use he hx hs h.hB;have hn:=h.k.use_new he a o r hs;refine⟨⟨hr,Nat.le_trans h.hB hs.1.size,fun z O=>⟨(h.sx z O).1.chg hs.1 (fun j M x=>h.ap j ⟨z,O,M⟩ (Rg.aK he x)),by have:=(h.sx z O).2;omega⟩,fun j M x=>?_,h.sl,h.cz.set he h1 h2 h3⟩,aP he _ _ _ _,fun z O=>⟨z,O,rfl,rfl⟩,hs.1.mono (fun j _ x=>.inl (Rg.aK he x)),fun j M=>?_⟩
 ·rcases hn j x with y | y
  ·exact h.ap j M y
  ·obtain⟨z,O,M⟩:=M
   have:=(h.sx z O).1.own_lt j M;omega
 ·rcases M with M | M
  ·rcases hn j M with y | y
   ·exact .inl (.inl y)
   ·exact .inr y
  ·exact .inl (.inr M)
theorem RS.use_s {z:Ss} (h:RS w B rg rv es (some z) c) {h':Option Nat} {a o r:Nat} (hx:Box w' z.b z.ks h' a o r) (hs:Dp w w' z.b z.h h') (h1:a<=z.a+1) (h2:o<=z.o+1) (h3:r<=z.r+1) :
  Rn w w' B rg rv es (some z) es (some ⟨z.b,z.ks,h',a,o,r⟩) (c+1):=by
 have hz:=h.sx z rfl;have O:∀j,Ow z.b h' j->Ow z.b z.h j\/w.heap.size<=j:=fun j M=>by
  rcases Nat.lt_or_ge j w.heap.size with g | g
  ·exact .inl (hs.own j g M)
  ·exact .inr g
 have av:∀j,SO (some ⟨z.b,z.ks,h',a,o,r⟩) j->Ow z.b h' j:=fun j M=>by
  obtain⟨y,Z,M⟩:=M;injection Z with Z;subst Z;exact M
 refine⟨⟨h.k.chg hs.1 (fun j M x=>h.ap j ⟨z,rfl,x⟩ M),Nat.le_trans h.hB hs.1.size,fun y Z=>?_,fun j M x=>?_,fun j M=>?_,h.cz.mono (by omega)⟩,rfl,fun y Z=>?_,hs.1.mono (fun j _ x=>.inr ⟨z,rfl,x⟩),fun j M=>?_⟩
 ·injection Z with Z
  subst Z;refine⟨hx,?_,?_,?_⟩
  ·show a<=c+1;omega
  ·show o<=c+1;omega
  ·show r<=c+1;omega
 ·rcases O j (av j M) with y | y
  ·exact h.ap j ⟨z,rfl,y⟩ x
  ·have:=h.k.own_lt x;omega
 ·rcases O j (av j M) with y | y
  ·exact h.sl j ⟨z,rfl,y⟩
  ·have:=h.hB;omega
 ·injection Z with Z
  subst Z;exact⟨_,rfl,rfl,rfl⟩
 ·rcases M with M | M
  ·exact .inl (.inl M)
  ·rcases O j (av j M) with y | y
   ·exact .inl (.inr ⟨z,rfl,y⟩)
   ·exact .inr y
theorem Rn.drop (h:Rn w0 w B rg rv es0 none es s c):Rn w0 w B rg rv es0 none es none c:=
 ⟨h.st.no_s,h.eq,fun z M=>(by cases M),h.chg,fun j O=>h.nw j (by
  rcases O with O | ⟨z,M,_⟩
  ·exact .inl O
  ·cases M)⟩
theorem Rn.base (h:Rn w0 w B rg rv es0 s0 es s c) (hk:RS w0 B rg rv es0 s0 c'):Below B w0 w:=h.chg.below hk.hB (fun j _ M=>hk.rso_lo M)
end
open SeL (Cw BM Ns)
section
variable {w w':World} {B:Nat} {rg:Nat} {rv:Value} {es:List Ent} {s:Option Ss} {c:Nat}
theorem aQ {q:Nat} {e:Ent} (he:es[q]? = some e) {Z:Option Nat} {a o r j:Nat} (M:RSO rg rv (es.set q ⟨e.it,e.b,Z,a,o,r⟩) s j):RSO rg rv es s j\/Ow e.b Z j:=by
 have hq:=(List.getElem?_eq_some_iff.1 he).1;rcases M with(M | M | ⟨k,f,O,M⟩) | M
 ·exact .inl (.inl (.inl M))
 ·exact .inl (.inl (.inr (.inl M)))
 ·by_cases g:q=k
  ·subst g
   rw[List.getElem?_set_self hq] at O;injection O with O;subst O;exact .inr M
  ·rw[List.getElem?_set_ne g] at O
   exact .inl (.inl (.inr (.inr ⟨k,f,O,M⟩)))
 ·exact .inl (.inr M)
theorem MZ {x:Nat} {ks:Nat->UInt8} (h:RS w B rg rv es s c) (hh:Hdl es s x ks) (hc:c<1000000) (u:Int) (v:Value) (l:Nm.L) (hv:SlN (RSO rg rv es s) w v l) :
  Calls Tryz.prog 88 #[.pointer (some ⟨x,0,none⟩),.int .i64 u,v] w fun e w'=>∃v2 es' s',e=.returned (.tuple #[v2,.int .i64 (BM ks u l).2])/\SlN (OutR w rg rv es' s') w' v2 (BM ks u l).1/\Rn w w' B rg rv es s es' s' (c+1):=by
 obtain⟨A,m,rfl,O,hr⟩:=hv;rcases hh with⟨q,e,he,rfl,rfl⟩ | ⟨z,hz,rfl,rfl⟩
 ·have av:=h.cz q e he
  refine(MP e.b e.it.k e.h e.a e.o e.r u A l.length m l w (by omega) (by omega) rfl O (hr.mono fun j _ M=>.inl (Rg.aK he M)) (h.k.box q e he)).mono ?_;rintro e1 w1 ⟨A2,c2,h',o',r',rfl,h1,h2,Z,h4,h5,h6,h7⟩;refine⟨_,es.set q ⟨e.it,e.b,h',e.a,o',r'⟩,s,rfl,⟨A2,c2,rfl,h1,Z.mono fun j _ M=>?_⟩,h.use_r he h4 h5 (by omega) h6 h7⟩;rcases M with M | M
  ·exact .inl M
  ·rcases aQ he M with g | g
   ·exact .inl (h.rso_lt g)
   ·exact .inr g
 ·subst hz
  have hx:=h.sx z rfl;refine(MP z.b z.ks z.h z.a z.o z.r u A l.length m l w (by omega) (by omega) rfl O (hr.mono fun j _ M=>.inr ⟨z,rfl,M⟩) hx.1).mono ?_;rintro e1 w1 ⟨A2,c2,h',o',r',rfl,h1,h2,Z,h4,h5,h6,h7⟩;refine⟨_,es,some ⟨z.b,z.ks,h',z.a,o',r'⟩,rfl,⟨A2,c2,rfl,h1,Z.mono fun j _ M=>?_⟩,h.use_s h4 h5 (by omega) h6 h7⟩;rcases M with M | M | ⟨y,hy,M⟩
  ·exact .inl M
  ·exact .inl (h.k.own_lt M)
  ·injection hy with hy
   subst hy;exact .inr M
def OffR (rg:Nat) (rv:Value) (es:List Ent) (s:Option Ss) (g:Nat):Prop:=¬RSO rg rv es s g
theorem RS.offs (h:RS w B rg rv es s c) {g:Nat} (M:w.heap.size<=g):OffR rg rv es s g:=h.fresh M
theorem Rn.off {w0:World} {es0:List Ent} {s0:Option Ss} (h:Rn w0 w B rg rv es0 s0 es s c) {g:Nat} (M:OffR rg rv es0 s0 g) (O:g<w0.heap.size):OffR rg rv es s g:=h.not M O
theorem Rn.more {w0:World} {es0:List Ent} {s0:Option Ss} {c':Nat} (h:Rn w0 w B rg rv es0 s0 es s c) (M:c<=c'):Rn w0 w B rg rv es0 s0 es s c':=⟨h.st.more M,h.eq,h.sq,h.chg,h.nw⟩
theorem Rn.alloc {w0:World} {es0:List Ent} {s0:Option Ss} (h:Rn w0 w B rg rv es0 s0 es s c) (o:Obj):Rn w0 (w.alloc o) B rg rv es0 s0 es s c:=h.below (Ah.alloc Ag _)
theorem Rn.over {w0:World} {es0:List Ent} {s0:Option Ss} (h:Rn w0 w B rg rv es0 s0 es s c) {g:Nat} (Z:w0.heap.size<=g) (hk:OffR rg rv es s g) (hw:w.grownBy w' (some g)):Rn w0 w' B rg rv es0 s0 es s c:=by
 have M:Chg (fun j=>j=g) w w':=Chg.of_grown hw rfl;exact⟨h.st.chg M (fun j O e=>hk (e▸O)),h.eq,h.sq,h.chg.trans M (fun j O x=>by omega),h.nw⟩
end
end Kd
end Go.Proofs.YtiecjolmennkfaaGreat
