import Derived.BigFrame
import Derived.Deep.LoopGhost
import Derived.Deep.RegionHeld3
import Derived.Test.YtfcjeebnkigeaaaGreatZKdcNonces1
import Derived.Test.YtfcjeebnkigeaaaGreatZKdcNonces2
import Derived.Test.YtfcjeebnkigeaaaGreatZKdcNonces7
import Derived.Test.YtfcjeebnkigeaaaGreatZKdcNonces8
import Derived.Test.YtfcjeebnkigeaaaGreatZKdcNonces9
import Derived.Test.YtfcjeebnkigeaaaGreatZKdcNonces12
import Derived.Test.YtfcjeebnkigeaaaGreatZKdcNonces13
import Derived.Test.YtfcjeebnkigeaaaGreatZKdcNonces14
import Derived.Test.YtfcjeebnkigeaaaGreatZKdcNonces15
import Derived.Test.YtfcjeebnkigeaaaGreatZKdcNonces16
import Derived.Test.YtfcjeebnkigeaaaGreatZKdcNonces17
import Derived.Test.YtfcjeebnkigeaaaGreatZKdcNonces22
section
set_option linter.unusedVariables false
set_option linter.unusedSimpArgs false
namespace Go.Proofs.YtfcjeebnkigeaaaGreat.Mc
open Go.RowKit Go.Proofs.YtfcjeebnkigeaaaGreat.Mem Go.Proofs.YtfcjeebnkigeaaaGreat.DerP Go.Proofs.YtfcjeebnkigeaaaGreat.DerC Go.Proofs.YtfcjeebnkigeaaaGreat.Ms
def AsV (cs:Array Value) (q:As):Prop:=cs=(asC q).toArray
def FaV (cs:Array Value) (q:Fa):Prop:=cs=(faC q).toArray
def TgV (w:World) (B:Nat) (cs:Array Value) (q:Tg):Prop:=∃b a,cs=(tgC q b a).toArray∧SlB w B b q.t.b∧SlB w B a q.a
def ReV (w:World) (B:Nat) (cs:Array Value) (q:Re):Prop:=∃b a,cs=(reC q b a).toArray∧SlB w B b q.t.b∧SlB w B a q.b
def ApV (w:World) (B:Nat) (cs:Array Value) (q:Ap):Prop:=∃b a,cs=(apC q b a).toArray∧SlB w B b q.t.b∧SlB w B a q.a
section
variable {w w':World} {B B':Nat} {cs:Array Value}
theorem TgV.keep {q:Tg} (h:TgV w B cs q) (hb:Below B w w'):TgV w' B cs q:=by obtain⟨b,a,h1,h2,h3⟩:=h;exact⟨b,a,h1,h2.keep hb,h3.keep hb⟩
theorem ReV.keep {q:Re} (h:ReV w B cs q) (hb:Below B w w'):ReV w' B cs q:=by obtain⟨b,a,h1,h2,h3⟩:=h;exact⟨b,a,h1,h2.keep hb,h3.keep hb⟩
theorem ApV.keep {q:Ap} (h:ApV w B cs q) (hb:Below B w w'):ApV w' B cs q:=by obtain⟨b,a,h1,h2,h3⟩:=h;exact⟨b,a,h1,h2.keep hb,h3.keep hb⟩
theorem TgV.more {q:Tg} (h:TgV w B cs q) (hB:B≤B'):TgV w B' cs q:=by obtain⟨b,a,h1,h2,h3⟩:=h;exact⟨b,a,h1,h2.more hB,h3.more hB⟩
theorem ReV.more {q:Re} (h:ReV w B cs q) (hB:B≤B'):ReV w B' cs q:=by obtain⟨b,a,h1,h2,h3⟩:=h;exact⟨b,a,h1,h2.more hB,h3.more hB⟩
theorem ApV.more {q:Ap} (h:ApV w B cs q) (hB:B≤B'):ApV w B' cs q:=by obtain⟨b,a,h1,h2,h3⟩:=h;exact⟨b,a,h1,h2.more hB,h3.more hB⟩
theorem slb_one {v:Value} {l:L} (h:SlB w B v l):v.oneCell'=true:=by obtain⟨A,c,rfl,_⟩:=h;rfl
theorem AsV.size {q:As} (h:AsV cs q):cs.size=6:=by rw[h];rfl
theorem FaV.size {q:Fa} (h:FaV cs q):cs.size=2:=by rw[h];rfl
theorem TgV.size {q:Tg} (h:TgV w B cs q):cs.size=9:=by obtain⟨b,a,h1,_⟩:=h;rw[h1];rfl
theorem ReV.size {q:Re} (h:ReV w B cs q):cs.size=7:=by obtain⟨b,a,h1,_⟩:=h;rw[h1];rfl
theorem ApV.size {q:Ap} (h:ApV w B cs q):cs.size=5:=by obtain⟨b,a,h1,_⟩:=h;rw[h1];rfl
def One (cs:Array Value):Prop:=cs.all (·.oneCell')=true
theorem AsV.one {q:As} (h:AsV cs q):One cs:=by
 rw[h];refine all_oneCell_toArray fun v hv=>?_
 simp only[asC,List.mem_cons,List.not_mem_nil,or_false] at hv
 rcases hv with rfl | rfl | rfl | rfl | rfl | rfl<;>rfl
theorem FaV.one {q:Fa} (h:FaV cs q):One cs:=by
 rw[h];refine all_oneCell_toArray fun v hv=>?_
 simp only[faC,List.mem_cons,List.not_mem_nil,or_false] at hv
 rcases hv with rfl | rfl<;>rfl
theorem TgV.one {q:Tg} (h:TgV w B cs q):One cs:=by
 obtain⟨b,a,h1,h2,h3⟩:=h
 rw[h1];refine all_oneCell_toArray fun v hv=>?_
 simp only[tgC,tkC,List.mem_append,List.mem_cons,List.not_mem_nil,or_false] at hv
 rcases hv with(rfl | rfl | rfl | rfl) | rfl | rfl | rfl | rfl | rfl
 all_goals first | rfl | exact slb_one h2 | exact slb_one h3
theorem ReV.one {q:Re} (h:ReV w B cs q):One cs:=by
 obtain⟨b,a,h1,h2,h3⟩:=h
 rw[h1];refine all_oneCell_toArray fun v hv=>?_
 simp only[reC,prC,tkC,List.mem_append,List.mem_cons,List.not_mem_nil,or_false] at hv
 rcases hv with(rfl | rfl) | (rfl | rfl | rfl | rfl) | rfl
 all_goals first | rfl | exact slb_one h2 | exact slb_one h3
theorem ApV.one {q:Ap} (h:ApV w B cs q):One cs:=by
 obtain⟨b,a,h1,h2,h3⟩:=h
 rw[h1];refine all_oneCell_toArray fun v hv=>?_
 simp only[apC,tkC,List.mem_append,List.mem_cons,List.not_mem_nil,or_false] at hv
 rcases hv with(rfl | rfl | rfl | rfl) | rfl
 all_goals first | rfl | exact slb_one h2 | exact slb_one h3
end
def mgA (k:Int) (pa pt pr pp pf:Array Value):Array Value:=(Value.int .i64 k :: (pa.toList++(pt.toList++(pr.toList++(pp.toList++pf.toList))))).toArray
structure MgP (w:World) (B:Nat) (pa pt pr pp pf:Array Value) (m:Mg):Prop where
 a:AsV pa m.aq
 t:TgV w B pt m.tg
 r:ReV w B pr m.re
 p:ApV w B pp m.ap
 f:FaV pf m.fa
def MgV (w:World) (B:Nat) (cs:Array Value) (m:Mg):Prop:=∃pa pt pr pp pf,cs=mgA m.k pa pt pr pp pf∧MgP w B pa pt pr pp pf m
section
variable {w w':World} {B B':Nat} {cs pa pt pr pp pf:Array Value} {m:Mg}
theorem MgP.keep (h:MgP w B pa pt pr pp pf m) (hb:Below B w w'):MgP w' B pa pt pr pp pf m:=⟨h.a,h.t.keep hb,h.r.keep hb,h.p.keep hb,h.f⟩
theorem MgP.more (h:MgP w B pa pt pr pp pf m) (hB:B≤B'):MgP w B' pa pt pr pp pf m:=⟨h.a,h.t.more hB,h.r.more hB,h.p.more hB,h.f⟩
theorem MgV.keep (h:MgV w B cs m) (hb:Below B w w'):MgV w' B cs m:=by obtain⟨pa,pt,pr,pp,pf,h1,h2⟩:=h;exact⟨pa,pt,pr,pp,pf,h1,h2.keep hb⟩
theorem MgV.more (h:MgV w B cs m) (hB:B≤B'):MgV w B' cs m:=by obtain⟨pa,pt,pr,pp,pf,h1,h2⟩:=h;exact⟨pa,pt,pr,pp,pf,h1,h2.more hB⟩
theorem MgP.sizes (h:MgP w B pa pt pr pp pf m):pa.size=6∧pt.size=9∧pr.size=7∧pp.size=5∧pf.size=2:=⟨h.a.size,h.t.size,h.r.size,h.p.size,h.f.size⟩
theorem MgP.size (h:MgP w B pa pt pr pp pf m) (k:Int):(mgA k pa pt pr pp pf).size=30:=by
 obtain⟨h1,h2,h3,h4,h5⟩:=h.sizes
 simp [mgA,h1,h2,h3,h4,h5]
theorem MgP.one (h:MgP w B pa pt pr pp pf m) (k:Int):One (mgA k pa pt pr pp pf):=by
 refine all_oneCell_toArray fun v hv=>?_
 simp only[List.mem_cons,List.mem_append] at hv
 have key:∀{cs:Array Value},One cs→v∈cs.toList→v.oneCell'=true:=fun h1 h2=>Array.all_eq_true_iff_forall_mem.1 h1 v (by simpa using h2)
 rcases hv with rfl | hv | hv | hv | hv | hv
 ·rfl
 ·exact key h.a.one hv
 ·exact key h.t.one hv
 ·exact key h.r.one hv
 ·exact key h.p.one hv
 ·exact key h.f.one hv
theorem range_at {g:Nat} {t:TypeId} {pre mid post:List Value} (h:Blk w g t cs) (hc:cs.toList=pre++(mid++post)) (o:Nat) (ho:o=pre.length):w.rangeAt g o mid:=fun j v hv=>by
 subst ho
 have hj:j<mid.length:=(List.getElem?_eq_some_iff.1 hv).1
 rw[h.cell,←Array.getElem?_toList,hc,List.getElem?_append_right (by omega),Nat.add_sub_cancel_left,List.getElem?_append_left hj]
 exact hv
structure At (w:World) (g:Nat) (k:Int) (pa pt pr pp pf:Array Value):Prop where
 k:w.cell? ⟨g,0,none⟩=some (.int .i64 k)
 a:w.rangeAt g 1 pa.toList
 t:w.rangeAt g 7 pt.toList
 r:w.rangeAt g 16 pr.toList
 p:w.rangeAt g 23 pp.toList
 f:w.rangeAt g 28 pf.toList
theorem MgP.at_ (h:MgP w' B pa pt pr pp pf m) {g:Nat} {k:Int} {t:TypeId} (hb:Blk w g t (mgA k pa pt pr pp pf)):At w g k pa pt pr pp pf:=by
 obtain⟨h1,h2,h3,h4,h5⟩:=h.sizes
 refine⟨by rw[hb.cell];rfl,?_,?_,?_,?_,?_⟩
 ·exact range_at (pre:=[.int .i64 k]) (post:=pt.toList++(pr.toList++(pp.toList++pf.toList))) hb (by simp [mgA]) 1 rfl
 ·exact range_at (pre:=.int .i64 k :: pa.toList) (post:=pr.toList++(pp.toList++pf.toList)) hb (by simp [mgA]) 7 (by simp [h1])
 ·exact range_at (pre:=.int .i64 k :: (pa.toList++pt.toList)) (post:=pp.toList++pf.toList) hb (by simp [mgA]) 16 (by simp [h1,h2])
 ·exact range_at (pre:=.int .i64 k :: (pa.toList++(pt.toList++pr.toList))) (post:=pf.toList) hb (by simp [mgA]) 23 (by simp [h1,h2,h3])
 ·exact range_at (pre:=.int .i64 k :: (pa.toList++(pt.toList++(pr.toList++pp.toList)))) (post:=[]) hb (by simp [mgA]) 28 (by simp [h1,h2,h3,h4])
end
theorem as_info:(Tryz.prog.info? 29).map (·.size)=some 6:=by kernel_rfl
theorem tg_info:(Tryz.prog.info? 34).map (·.size)=some 9:=by kernel_rfl
theorem re_info:(Tryz.prog.info? 38).map (·.size)=some 7:=by kernel_rfl
theorem ap_info:(Tryz.prog.info? 89).map (·.size)=some 5:=by kernel_rfl
theorem fa_info:(Tryz.prog.info? 91).map (·.size)=some 2:=by kernel_rfl
theorem mg_info:(Tryz.prog.info? 93).map (·.size)=some 30:=by kernel_rfl
theorem load_g {P:Program} {ops:Array Oper} {rest:List Oper} {op:Oper} {a:Act} {w:World} {Q:Exit→Act→World→Prop} (hw:Region.wanted op (yielded ops a.tmps)=true) (ty:TypeId) (x:Operand) (ho:op.op = .load ty x)
  (g o:Nat) (hx:a.eval x = .pointer (some ⟨g,o,none⟩)) (cs:Array Value) (d:TypeDesc) (hc:w.rangeAt g o cs.toList)
  (hu:P.underlying ty=some d) (hd:d.isRow=true) (hi:(P.info? ty).map (·.size)=some cs.size)
  (h:wpList P ops Q rest (a.put op.dst (.agg cs)) w):wpList P ops Q (op :: rest) a w:=
 BigFrame.wpList_want hw fun _ hK=>wp_load_mid ty x ho g o hx cs.toList d hc hu hd (by rw[Array.length_toList];exact hi) (by simpa using hK _ _ h)
theorem blk_mid {w:World} {g o:Nat} {t:TypeId} {cs ps ds:Array Value} {pre mid post:List Value} (h:Blk w g t cs) (hc:cs.toList=pre++(mid++post)) (ho:o=pre.length) (hm:mid.length=ps.size) (hd:ds=(pre++(ps.toList++post)).toArray):Blk (w.setCells g o ps.toList) g t ds:=by
 subst ho
 have hs:cs.size=pre.length+(mid.length+post.length):=by rw[←Array.length_toList,hc];simp
 obtain⟨es,h1,h2,h3,h4⟩:=blk_cells_aux ps.toList pre.length w cs h (by simp;omega)
 have e:es=ds:=by
  apply Array.ext_getElem?
  intro i
  rw[hd,show(pre++(ps.toList++post)).toArray[i]? = (pre++(ps.toList++post))[i]? by simp]
  have hci:∀i,cs[i]? = (pre++(mid++post))[i]?:=fun i=>by rw[←hc,Array.getElem?_toList]
  by_cases hi:i<pre.length
  ·rw[h4 i (.inl hi),hci,List.getElem?_append_left hi,List.getElem?_append_left hi]
  ·by_cases hj:i<pre.length+ps.size
   ·rw[h3 i (by omega) (by simpa using hj),List.getElem?_append_right (by omega),List.getElem?_append_left (by simp;omega)]
   ·rw[h4 i (.inr (by simp;omega)),hci,List.getElem?_append_right (by omega),List.getElem?_append_right (by omega),List.getElem?_append_right (by omega),List.getElem?_append_right (by simp;omega),hm]
    simp
 rw[←e];exact h1
theorem there_mid {w:World} {g:Nat} {t:TypeId} {cs:Array Value} (h:Blk w g t cs) (o n:Nat) (hn:o+n≤cs.size):w.there g o n:=fun j hj=>by
 rw[h.cell,Array.getElem?_eq_getElem (by omega)]
 exact⟨rfl,h.frozen _⟩
theorem put_mid (w:World) (g o:Nat) (vs:List Value):w.grownBy (w.setCells g o vs) (some g):=g_cells (.inl rfl) vs o w (World.grownBy.refl _ _)
end Go.Proofs.YtfcjeebnkigeaaaGreat.Mc
end

section
set_option linter.unusedVariables false
set_option linter.unusedSimpArgs false
namespace Go.Proofs.YtfcjeebnkigeaaaGreat.Mc
open Go.RowKit Go.Proofs.YtfcjeebnkigeaaaGreat.Mem Go.Proofs.YtfcjeebnkigeaaaGreat.DerP Go.Proofs.YtfcjeebnkigeaaaGreat.Ms
theorem beq_any (a b:L) (A D:Option Addr) (c d B:Nat) (w:World) (h:Rd w B A (bvs a)) (g:Rd w B D (bvs b)):Calls Tryz.prog 181 #[.slice A a.length c,.slice D b.length d] w fun e w'=>e = .returned (.bool (decide (a=b)))∧w=w':=by
 have hcv1:=run_bytes_str (P:=Tryz.prog) w 30 5 Tryz.underlying30 Tryz.underlying5 h a.length c rfl 9 Tryz.underlying9
 have hcv2:=run_bytes_str (P:=Tryz.prog) w 30 5 Tryz.underlying30 Tryz.underlying5 g b.length d rfl 9 Tryz.underlying9
 clear h g
 by_cases e:a=b
 ·have t1:(a==b)=true:=by simpa using e
  have E:=Lib.hid (decide_eq_true e)
  clear e
  go_enter Tryz.func181,Tryz.ntmps181
  go_wp2
  go_ret
  exact⟨by rw[E.out];rfl,rfl⟩
 ·have t1:(a==b)=false:=by simpa using e
  have E:=Lib.hid (decide_eq_false e)
  clear e
  go_enter Tryz.func181,Tryz.ntmps181
  go_wp2
  go_ret
  exact⟨by rw[E.out];rfl,rfl⟩
set_option maxHeartbeats 3200000 in
theorem equalt_any (x y:Tk) (A1 D1:Option Addr) (c1 d1:Nat) (w:World) (h1:Rd w w.heap.size A1 (bvs x.b)) (g1:Rd w w.heap.size D1 (bvs y.b)) :
  Calls Tryz.prog 278 #[.agg #[.string ⟨x.s.1.toArray⟩,.string ⟨x.s.2.toArray⟩,.int .i64 x.k,.slice A1 x.b.length c1],.agg #[.string ⟨y.s.1.toArray⟩,.string ⟨y.s.2.toArray⟩,.int .i64 y.k,.slice D1 y.b.length d1]] w fun e w'=>e = .returned (.bool (decide (x=y)))∧Below w.heap.size w w':=by
 obtain⟨⟨r,n⟩,k,b⟩:=x
 obtain⟨⟨r2,n2⟩,k2,b2⟩:=y
 simp only at h1 g1⊢
 have HB:=Lib.hid (((Below.refl w.heap.size w).alloc (Nat.le_refl _) (.cells #[.string ⟨List.toArray r⟩,.string ⟨List.toArray n⟩,.int .i64 k,.slice A1 b.length c1] 32)).alloc (by simp) (.cells #[.string ⟨List.toArray r2⟩,.string ⟨List.toArray n2⟩,.int .i64 k2,.slice D1 b2.length d1] 32))
 have HX:=Lib.hid ((Blk.new w 32 #[.string ⟨List.toArray r⟩,.string ⟨List.toArray n⟩,.int .i64 k,.slice A1 b.length c1]).alloc (.cells #[.string ⟨List.toArray r2⟩,.string ⟨List.toArray n2⟩,.int .i64 k2,.slice D1 b2.length d1] 32))
 have hy:=Blk.new (w.alloc (.cells #[.string ⟨List.toArray r⟩,.string ⟨List.toArray n⟩,.int .i64 k,.slice A1 b.length c1] 32)) 32 #[.string ⟨List.toArray r2⟩,.string ⟨List.toArray n2⟩,.int .i64 k2,.slice D1 b2.length d1]
 rw[show(w.alloc (.cells #[.string ⟨List.toArray r⟩,.string ⟨List.toArray n⟩,.int .i64 k,.slice A1 b.length c1] 32)).heap.size=w.heap.size+1 by simp] at hy
 have HY:=Lib.hid hy
 clear hy
 have T1:=Lib.hid (fun w1 (h:Below w.heap.size w w1)=>beq_any b b2 A1 D1 c1 d1 w.heap.size w1 (h1.below h) (g1.below h))
 clear h1 g1
 by_cases e0a:r=r2
 ·subst e0a
  by_cases e0b:n=n2
  ·subst e0b
   by_cases e1:k=k2
   ·subst e1
    have t1:(k==k)=true:=by simp
    cases e2:decide (b=b2) with
    |false=>
     have E:=Lib.hid (show decide ((⟨(r,n),k,b⟩:Tk)=⟨(r,n),k,b2⟩)=false from decide_eq_false (fun h=>of_decide_eq_false e2 (congrArg Tk.b h)))
     rw[e2] at T1
     clear e2
     go_enter Tryz.func278,Tryz.ntmps278
     go_wp2_with (go_at_call 181;refine Calls.mono (T1.out _ HB.out) ?_;rintro e4 wb1 ⟨rfl,hw⟩;subst hw;clear T1)
     go_ret
     exact⟨by rw[E.out];rfl,HB.out⟩
    |true=>
     rw[e2] at T1
     have e2':=of_decide_eq_true e2
     clear e2
     subst e2'
     have E:=Lib.hid (show decide ((⟨(r,n),k,b⟩:Tk)=⟨(r,n),k,b⟩)=true from decide_eq_true rfl)
     go_enter Tryz.func278,Tryz.ntmps278
     go_wp2_with (go_at_call 181;refine Calls.mono (T1.out _ HB.out) ?_;rintro e4 wb1 ⟨rfl,hw⟩;subst hw;clear T1)
     go_ret
     exact⟨by rw[E.out];rfl,HB.out⟩
   ·have t1:(k==k2)=false:=by simpa using e1
    have E:=Lib.hid (show decide ((⟨(r,n),k,b⟩:Tk)=⟨(r,n),k2,b2⟩)=false from decide_eq_false (fun h=>e1 (congrArg Tk.k h)))
    go_enter Tryz.func278,Tryz.ntmps278
    go_wp2
    go_ret
    exact⟨by rw[E.out];rfl,HB.out⟩
  ·have E:=Lib.hid (show decide ((⟨(r,n),k,b⟩:Tk)=⟨(r,n2),k2,b2⟩)=false from decide_eq_false (fun h=>e0b (congrArg (fun t=>t.s.2) h)))
   go_enter Tryz.func278,Tryz.ntmps278
   go_wp2
   go_ret
   exact⟨by rw[E.out];rfl,HB.out⟩
 ·have E:=Lib.hid (show decide ((⟨(r,n),k,b⟩:Tk)=⟨(r2,n2),k2,b2⟩)=false from decide_eq_false (fun h=>e0a (congrArg (fun t=>t.s.1) h)))
  go_enter Tryz.func278,Tryz.ntmps278
  go_wp2
  go_ret
  exact⟨by rw[E.out];rfl,HB.out⟩
set_option maxHeartbeats 3200000 in
theorem equaltg_any (x y:Tg) (A1 A2 D1 D2:Option Addr) (c1 c2 d1 d2:Nat) (w:World) (h1:Rd w w.heap.size A1 (bvs x.t.b)) (g1:Rd w w.heap.size D1 (bvs y.t.b)) (h2:Rd w w.heap.size A2 (bvs x.a)) (g2:Rd w w.heap.size D2 (bvs y.a)) :
  Calls Tryz.prog 247 #[.agg #[.string ⟨x.t.s.1.toArray⟩,.string ⟨x.t.s.2.toArray⟩,.int .i64 x.t.k,.slice A1 x.t.b.length c1,.slice A2 x.a.length c2,.string ⟨x.s.1.toArray⟩,.string ⟨x.s.2.toArray⟩,.int .i64 x.u,.int .i64 x.no],.agg #[.string ⟨y.t.s.1.toArray⟩,.string ⟨y.t.s.2.toArray⟩,.int .i64 y.t.k,.slice D1 y.t.b.length d1,.slice D2 y.a.length d2,.string ⟨y.s.1.toArray⟩,.string ⟨y.s.2.toArray⟩,.int .i64 y.u,.int .i64 y.no]] w fun e w'=>e = .returned (.bool (decide (x=y)))∧Below w.heap.size w w':=by
 obtain⟨t,a,⟨r,n⟩,u,no⟩:=x
 obtain⟨t2,a2,⟨r2,n2⟩,u2,no2⟩:=y
 simp only at h1 g1 h2 g2⊢
 have HB:=Lib.hid (((Below.refl w.heap.size w).alloc (Nat.le_refl _) (.cells #[.string ⟨t.s.1.toArray⟩,.string ⟨t.s.2.toArray⟩,.int .i64 t.k,.slice A1 t.b.length c1,.slice A2 a.length c2,.string ⟨List.toArray r⟩,.string ⟨List.toArray n⟩,.int .i64 u,.int .i64 no] 34)).alloc (by simp) (.cells #[.string ⟨t2.s.1.toArray⟩,.string ⟨t2.s.2.toArray⟩,.int .i64 t2.k,.slice D1 t2.b.length d1,.slice D2 a2.length d2,.string ⟨List.toArray r2⟩,.string ⟨List.toArray n2⟩,.int .i64 u2,.int .i64 no2] 34))
 have HX:=Lib.hid ((Blk.new w 34 #[.string ⟨t.s.1.toArray⟩,.string ⟨t.s.2.toArray⟩,.int .i64 t.k,.slice A1 t.b.length c1,.slice A2 a.length c2,.string ⟨List.toArray r⟩,.string ⟨List.toArray n⟩,.int .i64 u,.int .i64 no]).alloc (.cells #[.string ⟨t2.s.1.toArray⟩,.string ⟨t2.s.2.toArray⟩,.int .i64 t2.k,.slice D1 t2.b.length d1,.slice D2 a2.length d2,.string ⟨List.toArray r2⟩,.string ⟨List.toArray n2⟩,.int .i64 u2,.int .i64 no2] 34))
 have hy:=Blk.new (w.alloc (.cells #[.string ⟨t.s.1.toArray⟩,.string ⟨t.s.2.toArray⟩,.int .i64 t.k,.slice A1 t.b.length c1,.slice A2 a.length c2,.string ⟨List.toArray r⟩,.string ⟨List.toArray n⟩,.int .i64 u,.int .i64 no] 34)) 34 #[.string ⟨t2.s.1.toArray⟩,.string ⟨t2.s.2.toArray⟩,.int .i64 t2.k,.slice D1 t2.b.length d1,.slice D2 a2.length d2,.string ⟨List.toArray r2⟩,.string ⟨List.toArray n2⟩,.int .i64 u2,.int .i64 no2]
 rw[show(w.alloc (.cells #[.string ⟨t.s.1.toArray⟩,.string ⟨t.s.2.toArray⟩,.int .i64 t.k,.slice A1 t.b.length c1,.slice A2 a.length c2,.string ⟨List.toArray r⟩,.string ⟨List.toArray n⟩,.int .i64 u,.int .i64 no] 34)).heap.size=w.heap.size+1 by simp] at hy
 have HY:=Lib.hid hy
 clear hy
 have T1:=Lib.hid (fun w1 (h:Below w.heap.size w w1)=>equalt_any t t2 A1 D1 c1 d1 w1 ((h1.below h).more h.size) ((g1.below h).more h.size))
 have T2:=Lib.hid (fun w1 (h:Below w.heap.size w w1)=>beq_any a a2 A2 D2 c2 d2 w.heap.size w1 (h2.below h) (g2.below h))
 clear h1 g1 h2 g2
 cases e0:decide (t=t2) with
 |false=>
  have E:=Lib.hid (show decide ((⟨t,a,(r,n),u,no⟩:Tg)=⟨t2,a2,(r2,n2),u2,no2⟩)=false from decide_eq_false (fun h=>of_decide_eq_false e0 (congrArg Tg.t h)))
  rw[e0] at T1
  clear e0
  go_enter Tryz.func247,Tryz.ntmps247
  go_wp2_with (go_at_call 278;refine Calls.mono (T1.out _ HB.out) ?_;rintro e3 w1 ⟨rfl,hb⟩;replace HX:=Lib.hid (HX.out.below hb);replace HY:=Lib.hid (HY.out.below hb);replace HB:=Lib.hid (HB.out.trans (hb.mono HB.out.size));clear hb T1;have kx4:w1.cell? ⟨w.heap.size,4,none⟩=some (.slice A2 a.length c2):=HX.out.cell 4;have ky4:w1.cell? ⟨w.heap.size+1,4,none⟩=some (.slice D2 a2.length d2):=HY.out.cell 4;have kx5:w1.cell? ⟨w.heap.size,5,none⟩=some (.string ⟨List.toArray r⟩):=HX.out.cell 5;have ky5:w1.cell? ⟨w.heap.size+1,5,none⟩=some (.string ⟨List.toArray r2⟩):=HY.out.cell 5;have kx6:w1.cell? ⟨w.heap.size,6,none⟩=some (.string ⟨List.toArray n⟩):=HX.out.cell 6;have ky6:w1.cell? ⟨w.heap.size+1,6,none⟩=some (.string ⟨List.toArray n2⟩):=HY.out.cell 6;have kx7:w1.cell? ⟨w.heap.size,7,none⟩=some (.int .i64 u):=HX.out.cell 7;have ky7:w1.cell? ⟨w.heap.size+1,7,none⟩=some (.int .i64 u2):=HY.out.cell 7;have kx8:w1.cell? ⟨w.heap.size,8,none⟩=some (.int .i64 no):=HX.out.cell 8;have ky8:w1.cell? ⟨w.heap.size+1,8,none⟩=some (.int .i64 no2):=HY.out.cell 8)
  go_ret
  exact⟨by rw[E.out];rfl,HB.out⟩
 |true=>
  rw[e0] at T1
  have e0':=of_decide_eq_true e0
  clear e0
  subst e0'
  cases e1:decide (a=a2) with
  |false=>
   have E:=Lib.hid (show decide ((⟨t,a,(r,n),u,no⟩:Tg)=⟨t,a2,(r2,n2),u2,no2⟩)=false from decide_eq_false (fun h=>of_decide_eq_false e1 (congrArg Tg.a h)))
   rw[e1] at T2
   clear e1
   go_enter Tryz.func247,Tryz.ntmps247
   go_wp2_with (first
    |(go_at_call 278;refine Calls.mono (T1.out _ HB.out) ?_;rintro e3 w1 ⟨rfl,hb⟩;replace HX:=Lib.hid (HX.out.below hb);replace HY:=Lib.hid (HY.out.below hb);replace HB:=Lib.hid (HB.out.trans (hb.mono HB.out.size));clear hb T1;have kx4:w1.cell? ⟨w.heap.size,4,none⟩=some (.slice A2 a.length c2):=HX.out.cell 4;have ky4:w1.cell? ⟨w.heap.size+1,4,none⟩=some (.slice D2 a2.length d2):=HY.out.cell 4;have kx5:w1.cell? ⟨w.heap.size,5,none⟩=some (.string ⟨List.toArray r⟩):=HX.out.cell 5;have ky5:w1.cell? ⟨w.heap.size+1,5,none⟩=some (.string ⟨List.toArray r2⟩):=HY.out.cell 5;have kx6:w1.cell? ⟨w.heap.size,6,none⟩=some (.string ⟨List.toArray n⟩):=HX.out.cell 6;have ky6:w1.cell? ⟨w.heap.size+1,6,none⟩=some (.string ⟨List.toArray n2⟩):=HY.out.cell 6;have kx7:w1.cell? ⟨w.heap.size,7,none⟩=some (.int .i64 u):=HX.out.cell 7;have ky7:w1.cell? ⟨w.heap.size+1,7,none⟩=some (.int .i64 u2):=HY.out.cell 7;have kx8:w1.cell? ⟨w.heap.size,8,none⟩=some (.int .i64 no):=HX.out.cell 8;have ky8:w1.cell? ⟨w.heap.size+1,8,none⟩=some (.int .i64 no2):=HY.out.cell 8)
    |(go_at_call 181;refine Calls.mono (T2.out _ HB.out) ?_;rintro e4 wb2 ⟨rfl,hw⟩;subst hw;clear T2))
   go_ret
   exact⟨by rw[E.out];rfl,HB.out⟩
  |true=>
   rw[e1] at T2
   have e1':=of_decide_eq_true e1
   clear e1
   subst e1'
   by_cases e2a:r=r2
   ·subst e2a
    by_cases e2b:n=n2
    ·subst e2b
     by_cases e3:u=u2
     ·subst e3
      have t3:(u==u)=true:=by simp
      by_cases e4:no=no2
      ·subst e4
       have t4:(no==no)=true:=by simp
       have E:=Lib.hid (show decide ((⟨t,a,(r,n),u,no⟩:Tg)=⟨t,a,(r,n),u,no⟩)=true from decide_eq_true rfl)
       go_enter Tryz.func247,Tryz.ntmps247
       go_wp2_with (first
        |(go_at_call 278;refine Calls.mono (T1.out _ HB.out) ?_;rintro e3 w1 ⟨rfl,hb⟩;replace HX:=Lib.hid (HX.out.below hb);replace HY:=Lib.hid (HY.out.below hb);replace HB:=Lib.hid (HB.out.trans (hb.mono HB.out.size));clear hb T1;have kx4:w1.cell? ⟨w.heap.size,4,none⟩=some (.slice A2 a.length c2):=HX.out.cell 4;have ky4:w1.cell? ⟨w.heap.size+1,4,none⟩=some (.slice D2 a.length d2):=HY.out.cell 4;have kx5:w1.cell? ⟨w.heap.size,5,none⟩=some (.string ⟨List.toArray r⟩):=HX.out.cell 5;have ky5:w1.cell? ⟨w.heap.size+1,5,none⟩=some (.string ⟨List.toArray r⟩):=HY.out.cell 5;have kx6:w1.cell? ⟨w.heap.size,6,none⟩=some (.string ⟨List.toArray n⟩):=HX.out.cell 6;have ky6:w1.cell? ⟨w.heap.size+1,6,none⟩=some (.string ⟨List.toArray n⟩):=HY.out.cell 6;have kx7:w1.cell? ⟨w.heap.size,7,none⟩=some (.int .i64 u):=HX.out.cell 7;have ky7:w1.cell? ⟨w.heap.size+1,7,none⟩=some (.int .i64 u):=HY.out.cell 7;have kx8:w1.cell? ⟨w.heap.size,8,none⟩=some (.int .i64 no):=HX.out.cell 8;have ky8:w1.cell? ⟨w.heap.size+1,8,none⟩=some (.int .i64 no):=HY.out.cell 8)
        |(go_at_call 181;refine Calls.mono (T2.out _ HB.out) ?_;rintro e4 wb2 ⟨rfl,hw⟩;subst hw;clear T2))
       go_ret
       exact⟨by rw[E.out];rfl,HB.out⟩
      ·have t4:(no==no2)=false:=by simpa using e4
       have E:=Lib.hid (show decide ((⟨t,a,(r,n),u,no⟩:Tg)=⟨t,a,(r,n),u,no2⟩)=false from decide_eq_false (fun h=>e4 (congrArg Tg.no h)))
       go_enter Tryz.func247,Tryz.ntmps247
       go_wp2_with (first
        |(go_at_call 278;refine Calls.mono (T1.out _ HB.out) ?_;rintro e3 w1 ⟨rfl,hb⟩;replace HX:=Lib.hid (HX.out.below hb);replace HY:=Lib.hid (HY.out.below hb);replace HB:=Lib.hid (HB.out.trans (hb.mono HB.out.size));clear hb T1;have kx4:w1.cell? ⟨w.heap.size,4,none⟩=some (.slice A2 a.length c2):=HX.out.cell 4;have ky4:w1.cell? ⟨w.heap.size+1,4,none⟩=some (.slice D2 a.length d2):=HY.out.cell 4;have kx5:w1.cell? ⟨w.heap.size,5,none⟩=some (.string ⟨List.toArray r⟩):=HX.out.cell 5;have ky5:w1.cell? ⟨w.heap.size+1,5,none⟩=some (.string ⟨List.toArray r⟩):=HY.out.cell 5;have kx6:w1.cell? ⟨w.heap.size,6,none⟩=some (.string ⟨List.toArray n⟩):=HX.out.cell 6;have ky6:w1.cell? ⟨w.heap.size+1,6,none⟩=some (.string ⟨List.toArray n⟩):=HY.out.cell 6;have kx7:w1.cell? ⟨w.heap.size,7,none⟩=some (.int .i64 u):=HX.out.cell 7;have ky7:w1.cell? ⟨w.heap.size+1,7,none⟩=some (.int .i64 u):=HY.out.cell 7;have kx8:w1.cell? ⟨w.heap.size,8,none⟩=some (.int .i64 no):=HX.out.cell 8;have ky8:w1.cell? ⟨w.heap.size+1,8,none⟩=some (.int .i64 no2):=HY.out.cell 8)
        |(go_at_call 181;refine Calls.mono (T2.out _ HB.out) ?_;rintro e4 wb2 ⟨rfl,hw⟩;subst hw;clear T2))
       go_ret
       exact⟨by rw[E.out];rfl,HB.out⟩
     ·have t3:(u==u2)=false:=by simpa using e3
      have E:=Lib.hid (show decide ((⟨t,a,(r,n),u,no⟩:Tg)=⟨t,a,(r,n),u2,no2⟩)=false from decide_eq_false (fun h=>e3 (congrArg Tg.u h)))
      go_enter Tryz.func247,Tryz.ntmps247
      go_wp2_with (first
       |(go_at_call 278;refine Calls.mono (T1.out _ HB.out) ?_;rintro e3 w1 ⟨rfl,hb⟩;replace HX:=Lib.hid (HX.out.below hb);replace HY:=Lib.hid (HY.out.below hb);replace HB:=Lib.hid (HB.out.trans (hb.mono HB.out.size));clear hb T1;have kx4:w1.cell? ⟨w.heap.size,4,none⟩=some (.slice A2 a.length c2):=HX.out.cell 4;have ky4:w1.cell? ⟨w.heap.size+1,4,none⟩=some (.slice D2 a.length d2):=HY.out.cell 4;have kx5:w1.cell? ⟨w.heap.size,5,none⟩=some (.string ⟨List.toArray r⟩):=HX.out.cell 5;have ky5:w1.cell? ⟨w.heap.size+1,5,none⟩=some (.string ⟨List.toArray r⟩):=HY.out.cell 5;have kx6:w1.cell? ⟨w.heap.size,6,none⟩=some (.string ⟨List.toArray n⟩):=HX.out.cell 6;have ky6:w1.cell? ⟨w.heap.size+1,6,none⟩=some (.string ⟨List.toArray n⟩):=HY.out.cell 6;have kx7:w1.cell? ⟨w.heap.size,7,none⟩=some (.int .i64 u):=HX.out.cell 7;have ky7:w1.cell? ⟨w.heap.size+1,7,none⟩=some (.int .i64 u2):=HY.out.cell 7;have kx8:w1.cell? ⟨w.heap.size,8,none⟩=some (.int .i64 no):=HX.out.cell 8;have ky8:w1.cell? ⟨w.heap.size+1,8,none⟩=some (.int .i64 no2):=HY.out.cell 8)
       |(go_at_call 181;refine Calls.mono (T2.out _ HB.out) ?_;rintro e4 wb2 ⟨rfl,hw⟩;subst hw;clear T2))
      go_ret
      exact⟨by rw[E.out];rfl,HB.out⟩
    ·have E:=Lib.hid (show decide ((⟨t,a,(r,n),u,no⟩:Tg)=⟨t,a,(r,n2),u2,no2⟩)=false from decide_eq_false (fun h=>e2b (congrArg (fun t=>t.s.2) h)))
     go_enter Tryz.func247,Tryz.ntmps247
     go_wp2_with (first
      |(go_at_call 278;refine Calls.mono (T1.out _ HB.out) ?_;rintro e3 w1 ⟨rfl,hb⟩;replace HX:=Lib.hid (HX.out.below hb);replace HY:=Lib.hid (HY.out.below hb);replace HB:=Lib.hid (HB.out.trans (hb.mono HB.out.size));clear hb T1;have kx4:w1.cell? ⟨w.heap.size,4,none⟩=some (.slice A2 a.length c2):=HX.out.cell 4;have ky4:w1.cell? ⟨w.heap.size+1,4,none⟩=some (.slice D2 a.length d2):=HY.out.cell 4;have kx5:w1.cell? ⟨w.heap.size,5,none⟩=some (.string ⟨List.toArray r⟩):=HX.out.cell 5;have ky5:w1.cell? ⟨w.heap.size+1,5,none⟩=some (.string ⟨List.toArray r⟩):=HY.out.cell 5;have kx6:w1.cell? ⟨w.heap.size,6,none⟩=some (.string ⟨List.toArray n⟩):=HX.out.cell 6;have ky6:w1.cell? ⟨w.heap.size+1,6,none⟩=some (.string ⟨List.toArray n2⟩):=HY.out.cell 6;have kx7:w1.cell? ⟨w.heap.size,7,none⟩=some (.int .i64 u):=HX.out.cell 7;have ky7:w1.cell? ⟨w.heap.size+1,7,none⟩=some (.int .i64 u2):=HY.out.cell 7;have kx8:w1.cell? ⟨w.heap.size,8,none⟩=some (.int .i64 no):=HX.out.cell 8;have ky8:w1.cell? ⟨w.heap.size+1,8,none⟩=some (.int .i64 no2):=HY.out.cell 8)
      |(go_at_call 181;refine Calls.mono (T2.out _ HB.out) ?_;rintro e4 wb2 ⟨rfl,hw⟩;subst hw;clear T2))
     go_ret
     exact⟨by rw[E.out];rfl,HB.out⟩
   ·have E:=Lib.hid (show decide ((⟨t,a,(r,n),u,no⟩:Tg)=⟨t,a,(r2,n2),u2,no2⟩)=false from decide_eq_false (fun h=>e2a (congrArg (fun t=>t.s.1) h)))
    go_enter Tryz.func247,Tryz.ntmps247
    go_wp2_with (first
     |(go_at_call 278;refine Calls.mono (T1.out _ HB.out) ?_;rintro e3 w1 ⟨rfl,hb⟩;replace HX:=Lib.hid (HX.out.below hb);replace HY:=Lib.hid (HY.out.below hb);replace HB:=Lib.hid (HB.out.trans (hb.mono HB.out.size));clear hb T1;have kx4:w1.cell? ⟨w.heap.size,4,none⟩=some (.slice A2 a.length c2):=HX.out.cell 4;have ky4:w1.cell? ⟨w.heap.size+1,4,none⟩=some (.slice D2 a.length d2):=HY.out.cell 4;have kx5:w1.cell? ⟨w.heap.size,5,none⟩=some (.string ⟨List.toArray r⟩):=HX.out.cell 5;have ky5:w1.cell? ⟨w.heap.size+1,5,none⟩=some (.string ⟨List.toArray r2⟩):=HY.out.cell 5;have kx6:w1.cell? ⟨w.heap.size,6,none⟩=some (.string ⟨List.toArray n⟩):=HX.out.cell 6;have ky6:w1.cell? ⟨w.heap.size+1,6,none⟩=some (.string ⟨List.toArray n2⟩):=HY.out.cell 6;have kx7:w1.cell? ⟨w.heap.size,7,none⟩=some (.int .i64 u):=HX.out.cell 7;have ky7:w1.cell? ⟨w.heap.size+1,7,none⟩=some (.int .i64 u2):=HY.out.cell 7;have kx8:w1.cell? ⟨w.heap.size,8,none⟩=some (.int .i64 no):=HX.out.cell 8;have ky8:w1.cell? ⟨w.heap.size+1,8,none⟩=some (.int .i64 no2):=HY.out.cell 8)
     |(go_at_call 181;refine Calls.mono (T2.out _ HB.out) ?_;rintro e4 wb2 ⟨rfl,hw⟩;subst hw;clear T2))
    go_ret
    exact⟨by rw[E.out];rfl,HB.out⟩
set_option maxHeartbeats 3200000 in
theorem equalre_any (x y:Re) (A1 A2 D1 D2:Option Addr) (c1 c2 d1 d2:Nat) (w:World) (h1:Rd w w.heap.size A1 (bvs x.t.b)) (g1:Rd w w.heap.size D1 (bvs y.t.b)) (h2:Rd w w.heap.size A2 (bvs x.b)) (g2:Rd w w.heap.size D2 (bvs y.b)) :
  Calls Tryz.prog 248 #[.agg #[.string ⟨x.c.1.toArray⟩,.string ⟨x.c.2.toArray⟩,.string ⟨x.t.s.1.toArray⟩,.string ⟨x.t.s.2.toArray⟩,.int .i64 x.t.k,.slice A1 x.t.b.length c1,.slice A2 x.b.length c2],.agg #[.string ⟨y.c.1.toArray⟩,.string ⟨y.c.2.toArray⟩,.string ⟨y.t.s.1.toArray⟩,.string ⟨y.t.s.2.toArray⟩,.int .i64 y.t.k,.slice D1 y.t.b.length d1,.slice D2 y.b.length d2]] w fun e w'=>e = .returned (.bool (decide (x=y)))∧Below w.heap.size w w':=by
 obtain⟨⟨r,n⟩,t,b⟩:=x
 obtain⟨⟨r2,n2⟩,t2,b2⟩:=y
 simp only at h1 g1 h2 g2⊢
 have HB:=Lib.hid (((Below.refl w.heap.size w).alloc (Nat.le_refl _) (.cells #[.string ⟨List.toArray r⟩,.string ⟨List.toArray n⟩,.string ⟨t.s.1.toArray⟩,.string ⟨t.s.2.toArray⟩,.int .i64 t.k,.slice A1 t.b.length c1,.slice A2 b.length c2] 38)).alloc (by simp) (.cells #[.string ⟨List.toArray r2⟩,.string ⟨List.toArray n2⟩,.string ⟨t2.s.1.toArray⟩,.string ⟨t2.s.2.toArray⟩,.int .i64 t2.k,.slice D1 t2.b.length d1,.slice D2 b2.length d2] 38))
 have HX:=Lib.hid ((Blk.new w 38 #[.string ⟨List.toArray r⟩,.string ⟨List.toArray n⟩,.string ⟨t.s.1.toArray⟩,.string ⟨t.s.2.toArray⟩,.int .i64 t.k,.slice A1 t.b.length c1,.slice A2 b.length c2]).alloc (.cells #[.string ⟨List.toArray r2⟩,.string ⟨List.toArray n2⟩,.string ⟨t2.s.1.toArray⟩,.string ⟨t2.s.2.toArray⟩,.int .i64 t2.k,.slice D1 t2.b.length d1,.slice D2 b2.length d2] 38))
 have hy:=Blk.new (w.alloc (.cells #[.string ⟨List.toArray r⟩,.string ⟨List.toArray n⟩,.string ⟨t.s.1.toArray⟩,.string ⟨t.s.2.toArray⟩,.int .i64 t.k,.slice A1 t.b.length c1,.slice A2 b.length c2] 38)) 38 #[.string ⟨List.toArray r2⟩,.string ⟨List.toArray n2⟩,.string ⟨t2.s.1.toArray⟩,.string ⟨t2.s.2.toArray⟩,.int .i64 t2.k,.slice D1 t2.b.length d1,.slice D2 b2.length d2]
 rw[show(w.alloc (.cells #[.string ⟨List.toArray r⟩,.string ⟨List.toArray n⟩,.string ⟨t.s.1.toArray⟩,.string ⟨t.s.2.toArray⟩,.int .i64 t.k,.slice A1 t.b.length c1,.slice A2 b.length c2] 38)).heap.size=w.heap.size+1 by simp] at hy
 have HY:=Lib.hid hy
 clear hy
 have T1:=Lib.hid (fun w1 (h:Below w.heap.size w w1)=>equalt_any t t2 A1 D1 c1 d1 w1 ((h1.below h).more h.size) ((g1.below h).more h.size))
 have T2:=Lib.hid (fun w1 (h:Below w.heap.size w w1)=>beq_any b b2 A2 D2 c2 d2 w.heap.size w1 (h2.below h) (g2.below h))
 clear h1 g1 h2 g2
 by_cases e0a:r=r2
 ·subst e0a
  by_cases e0b:n=n2
  ·subst e0b
   cases e1:decide (t=t2) with
   |false=>
    have E:=Lib.hid (show decide ((⟨(r,n),t,b⟩:Re)=⟨(r,n),t2,b2⟩)=false from decide_eq_false (fun h=>of_decide_eq_false e1 (congrArg Re.t h)))
    rw[e1] at T1
    clear e1
    go_enter Tryz.func248,Tryz.ntmps248
    go_wp2_with (go_at_call 278;refine Calls.mono (T1.out _ HB.out) ?_;rintro e3 w1 ⟨rfl,hb⟩;replace HX:=Lib.hid (HX.out.below hb);replace HY:=Lib.hid (HY.out.below hb);replace HB:=Lib.hid (HB.out.trans (hb.mono HB.out.size));clear hb T1;have kx6:w1.cell? ⟨w.heap.size,6,none⟩=some (.slice A2 b.length c2):=HX.out.cell 6;have ky6:w1.cell? ⟨w.heap.size+1,6,none⟩=some (.slice D2 b2.length d2):=HY.out.cell 6)
    go_ret
    exact⟨by rw[E.out];rfl,HB.out⟩
   |true=>
    rw[e1] at T1
    have e1':=of_decide_eq_true e1
    clear e1
    subst e1'
    cases e2:decide (b=b2) with
    |false=>
     have E:=Lib.hid (show decide ((⟨(r,n),t,b⟩:Re)=⟨(r,n),t,b2⟩)=false from decide_eq_false (fun h=>of_decide_eq_false e2 (congrArg Re.b h)))
     rw[e2] at T2
     clear e2
     go_enter Tryz.func248,Tryz.ntmps248
     go_wp2_with (first
      |(go_at_call 278;refine Calls.mono (T1.out _ HB.out) ?_;rintro e3 w1 ⟨rfl,hb⟩;replace HX:=Lib.hid (HX.out.below hb);replace HY:=Lib.hid (HY.out.below hb);replace HB:=Lib.hid (HB.out.trans (hb.mono HB.out.size));clear hb T1;have kx6:w1.cell? ⟨w.heap.size,6,none⟩=some (.slice A2 b.length c2):=HX.out.cell 6;have ky6:w1.cell? ⟨w.heap.size+1,6,none⟩=some (.slice D2 b2.length d2):=HY.out.cell 6)
      |(go_at_call 181;refine Calls.mono (T2.out _ HB.out) ?_;rintro e4 wb2 ⟨rfl,hw⟩;subst hw;clear T2))
     go_ret
     exact⟨by rw[E.out];rfl,HB.out⟩
    |true=>
     rw[e2] at T2
     have e2':=of_decide_eq_true e2
     clear e2
     subst e2'
     have E:=Lib.hid (show decide ((⟨(r,n),t,b⟩:Re)=⟨(r,n),t,b⟩)=true from decide_eq_true rfl)
     go_enter Tryz.func248,Tryz.ntmps248
     go_wp2_with (first
      |(go_at_call 278;refine Calls.mono (T1.out _ HB.out) ?_;rintro e3 w1 ⟨rfl,hb⟩;replace HX:=Lib.hid (HX.out.below hb);replace HY:=Lib.hid (HY.out.below hb);replace HB:=Lib.hid (HB.out.trans (hb.mono HB.out.size));clear hb T1;have kx6:w1.cell? ⟨w.heap.size,6,none⟩=some (.slice A2 b.length c2):=HX.out.cell 6;have ky6:w1.cell? ⟨w.heap.size+1,6,none⟩=some (.slice D2 b.length d2):=HY.out.cell 6)
      |(go_at_call 181;refine Calls.mono (T2.out _ HB.out) ?_;rintro e4 wb2 ⟨rfl,hw⟩;subst hw;clear T2))
     go_ret
     exact⟨by rw[E.out];rfl,HB.out⟩
  ·have E:=Lib.hid (show decide ((⟨(r,n),t,b⟩:Re)=⟨(r,n2),t2,b2⟩)=false from decide_eq_false (fun h=>e0b (congrArg (fun t=>t.c.2) h)))
   go_enter Tryz.func248,Tryz.ntmps248
   go_wp2
   go_ret
   exact⟨by rw[E.out];rfl,HB.out⟩
 ·have E:=Lib.hid (show decide ((⟨(r,n),t,b⟩:Re)=⟨(r2,n2),t2,b2⟩)=false from decide_eq_false (fun h=>e0a (congrArg (fun t=>t.c.1) h)))
  go_enter Tryz.func248,Tryz.ntmps248
  go_wp2
  go_ret
  exact⟨by rw[E.out];rfl,HB.out⟩
set_option maxHeartbeats 3200000 in
theorem equalap_any (x y:Ap) (A1 A2 D1 D2:Option Addr) (c1 c2 d1 d2:Nat) (w:World) (h1:Rd w w.heap.size A1 (bvs x.t.b)) (g1:Rd w w.heap.size D1 (bvs y.t.b)) (h2:Rd w w.heap.size A2 (bvs x.a)) (g2:Rd w w.heap.size D2 (bvs y.a)) :
  Calls Tryz.prog 249 #[.agg #[.string ⟨x.t.s.1.toArray⟩,.string ⟨x.t.s.2.toArray⟩,.int .i64 x.t.k,.slice A1 x.t.b.length c1,.slice A2 x.a.length c2],.agg #[.string ⟨y.t.s.1.toArray⟩,.string ⟨y.t.s.2.toArray⟩,.int .i64 y.t.k,.slice D1 y.t.b.length d1,.slice D2 y.a.length d2]] w fun e w'=>e = .returned (.bool (decide (x=y)))∧Below w.heap.size w w':=by
 obtain⟨t,a⟩:=x
 obtain⟨t2,a2⟩:=y
 simp only at h1 g1 h2 g2⊢
 have HB:=Lib.hid (((Below.refl w.heap.size w).alloc (Nat.le_refl _) (.cells #[.string ⟨t.s.1.toArray⟩,.string ⟨t.s.2.toArray⟩,.int .i64 t.k,.slice A1 t.b.length c1,.slice A2 a.length c2] 89)).alloc (by simp) (.cells #[.string ⟨t2.s.1.toArray⟩,.string ⟨t2.s.2.toArray⟩,.int .i64 t2.k,.slice D1 t2.b.length d1,.slice D2 a2.length d2] 89))
 have HX:=Lib.hid ((Blk.new w 89 #[.string ⟨t.s.1.toArray⟩,.string ⟨t.s.2.toArray⟩,.int .i64 t.k,.slice A1 t.b.length c1,.slice A2 a.length c2]).alloc (.cells #[.string ⟨t2.s.1.toArray⟩,.string ⟨t2.s.2.toArray⟩,.int .i64 t2.k,.slice D1 t2.b.length d1,.slice D2 a2.length d2] 89))
 have hy:=Blk.new (w.alloc (.cells #[.string ⟨t.s.1.toArray⟩,.string ⟨t.s.2.toArray⟩,.int .i64 t.k,.slice A1 t.b.length c1,.slice A2 a.length c2] 89)) 89 #[.string ⟨t2.s.1.toArray⟩,.string ⟨t2.s.2.toArray⟩,.int .i64 t2.k,.slice D1 t2.b.length d1,.slice D2 a2.length d2]
 rw[show(w.alloc (.cells #[.string ⟨t.s.1.toArray⟩,.string ⟨t.s.2.toArray⟩,.int .i64 t.k,.slice A1 t.b.length c1,.slice A2 a.length c2] 89)).heap.size=w.heap.size+1 by simp] at hy
 have HY:=Lib.hid hy
 clear hy
 have T1:=Lib.hid (fun w1 (h:Below w.heap.size w w1)=>equalt_any t t2 A1 D1 c1 d1 w1 ((h1.below h).more h.size) ((g1.below h).more h.size))
 have T2:=Lib.hid (fun w1 (h:Below w.heap.size w w1)=>beq_any a a2 A2 D2 c2 d2 w.heap.size w1 (h2.below h) (g2.below h))
 clear h1 g1 h2 g2
 cases e0:decide (t=t2) with
 |false=>
  have E:=Lib.hid (show decide ((⟨t,a⟩:Ap)=⟨t2,a2⟩)=false from decide_eq_false (fun h=>of_decide_eq_false e0 (congrArg Ap.t h)))
  rw[e0] at T1
  clear e0
  go_enter Tryz.func249,Tryz.ntmps249
  go_wp2_with (go_at_call 278;refine Calls.mono (T1.out _ HB.out) ?_;rintro e3 w1 ⟨rfl,hb⟩;replace HX:=Lib.hid (HX.out.below hb);replace HY:=Lib.hid (HY.out.below hb);replace HB:=Lib.hid (HB.out.trans (hb.mono HB.out.size));clear hb T1;have kx4:w1.cell? ⟨w.heap.size,4,none⟩=some (.slice A2 a.length c2):=HX.out.cell 4;have ky4:w1.cell? ⟨w.heap.size+1,4,none⟩=some (.slice D2 a2.length d2):=HY.out.cell 4)
  go_ret
  exact⟨by rw[E.out];rfl,HB.out⟩
 |true=>
  rw[e0] at T1
  have e0':=of_decide_eq_true e0
  clear e0
  subst e0'
  cases e1:decide (a=a2) with
  |false=>
   have E:=Lib.hid (show decide ((⟨t,a⟩:Ap)=⟨t,a2⟩)=false from decide_eq_false (fun h=>of_decide_eq_false e1 (congrArg Ap.a h)))
   rw[e1] at T2
   clear e1
   go_enter Tryz.func249,Tryz.ntmps249
   go_wp2_with (first
    |(go_at_call 278;refine Calls.mono (T1.out _ HB.out) ?_;rintro e3 w1 ⟨rfl,hb⟩;replace HX:=Lib.hid (HX.out.below hb);replace HY:=Lib.hid (HY.out.below hb);replace HB:=Lib.hid (HB.out.trans (hb.mono HB.out.size));clear hb T1;have kx4:w1.cell? ⟨w.heap.size,4,none⟩=some (.slice A2 a.length c2):=HX.out.cell 4;have ky4:w1.cell? ⟨w.heap.size+1,4,none⟩=some (.slice D2 a2.length d2):=HY.out.cell 4)
    |(go_at_call 181;refine Calls.mono (T2.out _ HB.out) ?_;rintro e4 wb2 ⟨rfl,hw⟩;subst hw;clear T2))
   go_ret
   exact⟨by rw[E.out];rfl,HB.out⟩
  |true=>
   rw[e1] at T2
   have e1':=of_decide_eq_true e1
   clear e1
   subst e1'
   have E:=Lib.hid (show decide ((⟨t,a⟩:Ap)=⟨t,a⟩)=true from decide_eq_true rfl)
   go_enter Tryz.func249,Tryz.ntmps249
   go_wp2_with (first
    |(go_at_call 278;refine Calls.mono (T1.out _ HB.out) ?_;rintro e3 w1 ⟨rfl,hb⟩;replace HX:=Lib.hid (HX.out.below hb);replace HY:=Lib.hid (HY.out.below hb);replace HB:=Lib.hid (HB.out.trans (hb.mono HB.out.size));clear hb T1;have kx4:w1.cell? ⟨w.heap.size,4,none⟩=some (.slice A2 a.length c2):=HX.out.cell 4;have ky4:w1.cell? ⟨w.heap.size+1,4,none⟩=some (.slice D2 a.length d2):=HY.out.cell 4)
    |(go_at_call 181;refine Calls.mono (T2.out _ HB.out) ?_;rintro e4 wb2 ⟨rfl,hw⟩;subst hw;clear T2))
   go_ret
   exact⟨by rw[E.out];rfl,HB.out⟩
end Go.Proofs.YtfcjeebnkigeaaaGreat.Mc
end

section
set_option linter.unusedVariables false
set_option linter.unusedSimpArgs false
namespace Go.Proofs.YtfcjeebnkigeaaaGreat.Ms
open Go.RowKit Go.Proofs.YtfcjeebnkigeaaaGreat.Mem Go.Proofs.YtfcjeebnkigeaaaGreat.DerP Go.Proofs.YtfcjeebnkigeaaaGreat.DerR
theorem results_pair {P:Program} {fn:Func} {tmps:Array Value} {w:World} {v u:Value} (t q:Nat) (ty:TypeId) (a:Addr) (hres:fn.results=#[.cell t ty,.tmp q]) (ht:tmps.getD t undef = .pointer (some a)) (hl:(loadVar ty a).run P w = .ok v w) (hq:tmps.getD q undef=u) :
  (results fn tmps).run P w = .ok (.tuple #[v,u]) w:=by
 have ht':tmps[t]?.getD undef = .pointer (some a):=by simpa using ht
 have hq':tmps[q]?.getD undef=u:=by simpa using hq
 simp [results,hres,ht',hq',asAddr,hl]
end Go.Proofs.YtfcjeebnkigeaaaGreat.Ms
end

section
set_option linter.unusedVariables false
set_option linter.unusedSimpArgs false
namespace Go.Proofs.YtfcjeebnkigeaaaGreat.Mc
open Go.RowKit Go.Proofs.YtfcjeebnkigeaaaGreat.Mem Go.Proofs.YtfcjeebnkigeaaaGreat.DerP Go.Proofs.YtfcjeebnkigeaaaGreat.DerC Go.Proofs.YtfcjeebnkigeaaaGreat.Ms
theorem stored_new (w:World) (t:TypeId) (lit cs:Array Value) (hs:lit.size=cs.size):Blk ((w.alloc (.cells lit t)).setCells w.heap.size 0 cs.toList) w.heap.size t cs∧Below w.heap.size w ((w.alloc (.cells lit t)).setCells w.heap.size 0 cs.toList):=
 ⟨blk_cells (Blk.new w t lit) hs,below_g ((Below.refl w.heap.size w).alloc (Nat.le_refl _) _) (put_cells _ _ _) (by simp) (Nat.le_refl _)⟩
end Go.Proofs.YtfcjeebnkigeaaaGreat.Mc
end
