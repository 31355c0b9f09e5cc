/-
  The statement of ReplayPlays: the walk's contract carried to the row: for every input the call answers true, and each argument reads as it did.
-/
import Derived.Deep.CutBlock
import Derived.Test.YtnmeicnppablkaaProg
import Derived.Deep.LoopGhost
import Derived.Laws.StructEq
import Derived.StillTailTactics
import Derived.BigQuiet
import Derived.Lib.MinMax
import Derived.Deep.RegionHeld3
import Derived.Test.YtnmeicnppablkaaRows
import Derived.WalkKit
import Derived.ProofKit
import Derived.OpenShut
import Derived.ShutString
import Derived.ChangeOld
import Derived.Below
import Derived.SizedLaws
import Derived.Test.YtnmeicnppablkaaZReplayPlays1
import Derived.Test.YtnmeicnppablkaaZReplayPlays2
import Derived.Test.YtnmeicnppablkaaZReplayPlays3
import Derived.Test.YtnmeicnppablkaaZReplayPlays4
section
set_option linter.unusedVariables false
namespace Go.Proofs.Ytnmeicnppablkaa.OpenA
open Go.Joins Go.ChangeShapes Go.WideShapes Go.ChangeAt Go.RowKit Go.Deep Go.Proofs.Ytnmeicnppablkaa Go.Proofs.Ytnmeicnppablkaa.Mem Go.Proofs.Ytnmeicnppablkaa.Rp
open Go.Proofs.Ytnmeicnppablkaa.Rg (Pr)
open Go.Proofs.Ytnmeicnppablkaa.Ms (An)
section
variable {H:Type} {enc:TypeId×Value→H} {W:World}
theorem c_an:Try.prog.cellsOf 31=4:=by kernel_rfl
set_option maxRecDepth 100000 in
theorem in_an {n:Nat} {cs:List Value} {x:DataW H×List MemPlace} (h:DataW.trod enc Try.prog W 0 (fun _=>true) true n 31 cs=some x) (hw:∀n∈DataW.weights Try.prog 31 x.1,n≤reachBytes):∃a:An,cs=anC a∧a.c.1.length≤reachBytes∧a.c.2.length≤reachBytes∧(Lit.int .i64 a.t).wf=true∧(Lit.int .i64 a.q).wf=true:=by
 obtain⟨xs,m,_,hx,hl,hxl,hf⟩:=DataW.trod_struct Try.underlying31 h
 rw[c_an] at hl
 match xs,hxl with
 | [y0,y1,y2],_=>
  have fw:=fun(j:Nat) (t:TypeId) (d:DataW H) (ht:_[j]? = some t) (hd:[y0.1,y1.1,y2.1][j]? = some d) (n:Nat) (hn:n∈d.weights Try.prog t)=>hw n (by rw[hx];simp only[DataW.weights,Try.underlying31];exact DataW.weights_mem_each ht hd n hn)
  have h0:DataW.trod enc Try.prog W 0 (fun _=>true) true m 29 ((cs.drop 0).take (Try.prog.cellsOf 29))=some y0:=hf 0 _ rfl
  rw[OpenP.c_pr] at h0
  obtain⟨l0,e0,b0,d0⟩:=OpenP.in_pr h0 (fw 0 _ _ rfl rfl)
  have q0:=OpenP.cut cs 0 2
  rw[e0] at q0
  have h1:DataW.trod enc Try.prog W 0 (fun _=>true) true m 3 ((cs.drop 2).take (Try.prog.cellsOf 3))=some y1:=hf 1 _ rfl
  rw[OpenP.c_int] at h1
  obtain⟨l1,e1,b1⟩:=OpenP.in_int h1
  have q1:=OpenP.cut cs 2 1
  rw[e1] at q1
  have h2:DataW.trod enc Try.prog W 0 (fun _=>true) true m 3 ((cs.drop 3).take (Try.prog.cellsOf 3))=some y2:=hf 2 _ rfl
  rw[OpenP.c_int] at h2
  obtain⟨l2,e2,b2⟩:=OpenP.in_int h2
  have q2:=OpenP.cut cs 3 1
  rw[e2] at q2
  have k:cs=cs.drop 0:=rfl
  rw[q0,show 0+2=2 from rfl] at k
  rw[q1,show 2+1=3 from rfl] at k
  rw[q2,show 3+1=4 from rfl] at k
  rw[show cs.drop 4 = [] from List.drop_of_length_le (by omega)] at k
  clear hf h h0 q0 e0 h1 q1 e1 h2 q2 e2
  exact⟨⟨l0,l1,l2⟩,k,b0,d0,b1,b2⟩
structure Ac where
 k:Int
 a:An
 b:Int
abbrev aC (x:Ac):List Value:=[.int .i64 x.k,.string ⟨x.a.c.1.toArray⟩,.string ⟨x.a.c.2.toArray⟩,.int .i64 x.a.t,.int .i64 x.a.q,.int .i64 x.b]
theorem aC_length (x:Ac):(aC x).length=6:=rfl
def AcR (x:Ac):Prop:=x.a.c.1.length≤reachBytes∧x.a.c.2.length≤reachBytes∧(Lit.int .i64 x.k).wf=true∧(Lit.int .i64 x.a.t).wf=true∧(Lit.int .i64 x.a.q).wf=true∧(Lit.int .i64 x.b).wf=true
def RdAc (w:World) (B:Nat) (A:Option Addr) (l:List Ac):Prop:=
 l = []∨∃g o,A=some ⟨g,o,none⟩∧g<B∧∀i x,l[i]? = some x→w.rangeAt g (o+i*6) (aC x)
theorem RdAc.keep {w w':World} {B:Nat} {A:Option Addr} {l:List Ac} (h:RdAc w B A l) (hb:Below B w w'):RdAc w' B A l:=by
 rcases h with h | ⟨g,o,h1,h2,h3⟩
 ·exact .inl h
 ·exact .inr ⟨g,o,h1,h2,fun i x hx j v hv=>(hb.cell (p:=⟨g,_,none⟩) h2).trans (h3 i x hx j v hv)⟩
theorem RdAc.at_ {w:World} {B:Nat} {A:Option Addr} {l:List Ac} {i:Nat} {x:Ac} (h:RdAc w B A l) (hx:l[i]? = some x):∃g o,A=some ⟨g,o,none⟩∧g<B∧w.rangeAt g (o+i*6) (aC x):=by
 rcases h with h | ⟨g,o,h1,h2,h3⟩
 ·subst h;simp at hx
 ·exact⟨g,o,h1,h2,h3 i x hx⟩
theorem mem_weightsAll {H:Type} {P:Program} {e:TypeId} {n:Nat}:∀{l:List (DataW H)} {d:DataW H},d∈l→n∈d.weights P e→n∈DataW.weightsAll P e l
 |x :: r,d,h,hn=>by
  rw[DataW.weightsAll]
  rcases List.mem_cons.1 h with h | h
  ·subst h;exact List.mem_append.2 (.inl hn)
  ·exact List.mem_append.2 (.inr (mem_weightsAll h hn))
theorem c_ac:Try.prog.cellsOf 33=6:=by kernel_rfl
set_option maxRecDepth 100000 in
theorem in_ac {n:Nat} {cs:List Value} {x:DataW H×List MemPlace} (h:DataW.trod enc Try.prog W 0 (fun _=>true) true n 33 cs=some x) (hw:∀n∈DataW.weights Try.prog 33 x.1,n≤reachBytes):∃a:Ac,cs=aC a∧AcR a:=by
 obtain⟨xs,m,_,hx,hl,hxl,hf⟩:=DataW.trod_struct Try.underlying33 h
 rw[c_ac] at hl
 match xs,hxl with
 | [y0,y1,y2],_=>
  have fw:=fun(j:Nat) (t:TypeId) (d:DataW H) (ht:_[j]? = some t) (hd:[y0.1,y1.1,y2.1][j]? = some d) (n:Nat) (hn:n∈d.weights Try.prog t)=>hw n (by rw[hx];simp only[DataW.weights,Try.underlying33];exact DataW.weights_mem_each ht hd n hn)
  have h0:DataW.trod enc Try.prog W 0 (fun _=>true) true m 3 ((cs.drop 0).take (Try.prog.cellsOf 3))=some y0:=hf 0 _ rfl
  rw[OpenP.c_int] at h0
  obtain⟨l0,e0,b0⟩:=OpenP.in_int h0
  have q0:=OpenP.cut cs 0 1
  rw[e0] at q0
  have h1:DataW.trod enc Try.prog W 0 (fun _=>true) true m 31 ((cs.drop 1).take (Try.prog.cellsOf 31))=some y1:=hf 1 _ rfl
  rw[c_an] at h1
  obtain⟨l1,e1,b1,d1,f1,g1⟩:=in_an h1 (fw 1 _ _ rfl rfl)
  have q1:=OpenP.cut cs 1 4
  rw[e1] at q1
  have h2:DataW.trod enc Try.prog W 0 (fun _=>true) true m 3 ((cs.drop 5).take (Try.prog.cellsOf 3))=some y2:=hf 2 _ rfl
  rw[OpenP.c_int] at h2
  obtain⟨l2,e2,b2⟩:=OpenP.in_int h2
  have q2:=OpenP.cut cs 5 1
  rw[e2] at q2
  have k:cs=cs.drop 0:=rfl
  rw[q0,show 0+1=1 from rfl] at k
  rw[q1,show 1+4=5 from rfl] at k
  rw[q2,show 5+1=6 from rfl] at k
  rw[show cs.drop 6 = [] from List.drop_of_length_le (by omega)] at k
  clear hf h h0 q0 e0 h1 q1 e1 h2 q2 e2
  exact⟨⟨l0,l1,l2⟩,k,b1,d1,b0,f1,g1,b2⟩
set_option maxRecDepth 100000 in
theorem open_acts {v:Value} {d:DataW H} {ps:List MemPlace} (hv:∃A n c,v = .slice A n c) (h:DataW.Trod enc Try.prog W 0 (fun _=>true) true 22 v d ps) (hw:∀n∈DataW.weights Try.prog 22 d,n≤reachBytes) :
  ∃A l c,v = .slice A (List.length l) c∧RdAc W W.heap.size A l∧l.length≤c∧c≤maxLen∧∀(i:Nat) (x:Ac),l[i]? = some x→AcR x:=by
 obtain⟨A,n,c,rfl⟩:=hv
 obtain⟨fuel,hf⟩:=h
 have ht:=Try.underlying22
 rcases DataW.trod_slice ht hf with⟨h0,_⟩ | ⟨a,len,cap,elems,rest,m,_,hv,hx,_,hl,hm,hlen,hel,_,_⟩
 ·injection h0 with h0
  exact⟨none,[],0,h0,.inl rfl,Nat.le_refl _,Nat.zero_le _,fun i x hx=>by simp at hx⟩
 ·injection hv with hv
  subst hlen
  have each:∀i,i<elems.length→∃x:Ac,(∀j u,(aC x)[j]? = some u→W.cell? (a.add (i*6+j))=some u)∧AcR x:=by
   intro i hi
   have h1:=hel i hi
   rw[List.getElem?_eq_getElem hi,Option.bind_eq_some_iff] at h1
   obtain⟨cs,h2,h3⟩:=h1
   rw[c_ac] at h2
   obtain⟨_,h4,h5⟩:=World.cells?_some h2
   obtain⟨x,rfl,b1⟩:=in_ac h3 (fun n hn=>hw n (by
    have hd:d = .slice (elems.map (·.1)) (rest.map (·.1)):=congrArg Prod.fst hx
    rw[hd]
    simp only[DataW.weights,ht]
    exact List.mem_cons.2 (.inr (List.mem_append.2 (.inl (mem_weightsAll (List.mem_map.2 ⟨_,List.getElem_mem hi,rfl⟩) hn))))))
   refine⟨x,fun j u hu=>?_,b1⟩
   have hj:j<6:=by have:=(List.getElem?_eq_some_iff.1 hu).1;rw[aC_length] at this;exact this
   have h6:=h5 j hj
   rw[←hu,←h6]
   congr 1
   exact(Go.Deep.add_add a (i*6) j).symm
  obtain⟨l,hll,hp⟩:=OpenP.fn_list each
  have hv2:(Value.slice A n c) = .slice (some a) l.length cap:=by rw[hll];exact hv
  refine⟨some a,l,cap,hv2,?_,by omega,hm,fun i x hx=>?_⟩
  ·rcases Nat.eq_zero_or_pos l.length with g | g
   ·exact .inl (List.eq_nil_of_length_eq_zero g)
   ·have c0:=(hp 0 g).1 0 (.int .i64 l[0].k) rfl
    rw[show a.add (0*6+0)=a by simp [Addr.add]] at c0
    obtain⟨b,o,rfl⟩:=Open.addr_none c0
    refine .inr ⟨b,o,rfl,World.block_lt_of_cell? W _ c0,fun i x hx j u hu=>?_⟩
    obtain⟨hi,e⟩:=List.getElem?_eq_some_iff.1 hx
    have:=(hp i hi).1 j u (by rw[e];exact hu)
    rw[addr_add] at this
    rw[Nat.add_assoc]
    exact this
  ·obtain⟨hi,e⟩:=List.getElem?_eq_some_iff.1 hx
   rw[←e];exact(hp i hi).2
end
end Go.Proofs.Ytnmeicnppablkaa.OpenA
end

section
set_option linter.unusedVariables false
set_option linter.unusedSimpArgs false
namespace Go.Proofs.Ytnmeicnppablkaa.Rp
open Go.RowKit Go.Proofs.Ytnmeicnppablkaa.Mem Go.Proofs.Ytnmeicnppablkaa.Se Go.Proofs.Ytnmeicnppablkaa.OpenA
open Go.Proofs.Ytnmeicnppablkaa.Ms (An)
def Sm (x:Ac):Prop:=x.a.c.1.length≤3000∧x.a.c.2.length≤3000∧0≤x.a.t∧x.a.t≤1073741824
set_option maxRecDepth 100000 in
set_option maxHeartbeats 3200000 in
theorem long_any (A:Option Addr) (l:List Ac) (c:Nat) (w:World) (hr:RdAc w w.heap.size A l) (hz:∀(i:Nat) (x:Ac),l[i]? = some x→AcR x) :
  Calls Try.prog 10 #[.slice A l.length c] w fun e w'=>∃b,e = .returned (.bool b)∧(b=false→∀(i:Nat) (x:Ac),i<80→l[i]? = some x→Sm x)∧Below w.heap.size w w':=by
 obtain⟨n,en⟩:∃n,n=l.length:=⟨_,rfl⟩
 rw[←en]
 have EN:=Lib.hid en
 have HR:=Lib.hid hr
 have HZ:=Lib.hid hz
 have HB:=Lib.hid (Below.refl w.heap.size w)
 clear hr hz en
 go_enter Try.func10,Try.ntmps10
 go_wp2
 go_loopw [3,4] (fun sv iv wr=>∃i t:Nat,i≤n∧i≤80∧t≤3000∧iv = .int .i64 (i:Int)∧sv = .int .i64 (t:Int)∧(∀(j:Nat) (x:Ac),j<i→l[j]? = some x→Sm x)∧Below w.heap.size w wr) (fun _ iv _=>n - (intOf iv).toNat)
 case atStart=>exact⟨0,0,Nat.zero_le _,by decide,by decide,rfl,rfl,fun j x hj=>absurd hj (Nat.not_lt_zero _),HB.out⟩
 case round=>
  clear HB
  obtain⟨i,t,hi,hi6,ht,rfl,rfl,hno,hb⟩:=hrel
  have HB:=Lib.hid hb;have HNO:=Lib.hid hno;have HI:=Lib.hid hi;have HI6:=Lib.hid hi6;have HT:=Lib.hid ht
  clear hb hno
  by_cases hlt:i<n
  ·have e1:decide ((i:Int)<(n:Int))=true:=by simp;omega
   by_cases h6:i<80
   ·have e2:decide ((i:Int)<80)=true:=by simp;omega
    have e3:(i:Int)<(n:Int):=by omega
    have e4:(0:Int)≤(i:Int):=by omega
    have e5:(i:Int)<80:=by omega
    have e6:(t:Int)≤3000:=by omega
    have e7:(0:Int)≤(t:Int):=by omega
    obtain⟨x,hx⟩:∃x,l[i]? = some x:=⟨l[i]'(by rw[←EN.out];exact hlt),List.getElem?_eq_getElem _⟩
    obtain⟨g,o,rfl,hg,hra⟩:=HR.out.at_ hx
    have hra2:wr.rangeAt g (o+i*6) (aC x):=fun j v hv=>(HB.out.cell (p:=⟨g,_,none⟩) hg).trans (hra j v hv)
    have k1:wr.cell? ⟨g,o+i*6+1,none⟩=some (.string ⟨x.a.c.1.toArray⟩):=hra2 1 _ rfl
    have k2:wr.cell? ⟨g,o+i*6+1+1,none⟩=some (.string ⟨x.a.c.2.toArray⟩):=hra2 2 _ rfl
    have k4:wr.cell? ⟨g,o+i*6+1+2,none⟩=some (.int .i64 x.a.t):=hra2 3 _ rfl
    obtain⟨z1,z2,_⟩:=HZ.out i x hx
    have HX:=Lib.hid hx
    have z1:x.a.c.1.length≤140737488351232:=z1
    have z2:x.a.c.2.length≤140737488351232:=z2
    have f1:(x.a.c.1.length:Int)≤140737488351232:=by omega
    have f2:(x.a.c.2.length:Int)≤140737488351232:=by omega
    have w1:IntKind.i64.wrap ((t:Int)+1)=(t:Int)+1:=by rw[IntKind.wrap_i64];omega
    have w2:IntKind.i64.wrap ((t:Int)+1+(x.a.c.2.length:Int))=(t:Int)+1+(x.a.c.2.length:Int):=by rw[IntKind.wrap_i64];omega
    have w3:IntKind.i64.wrap ((t:Int)+1+(x.a.c.2.length:Int)+(x.a.c.1.length:Int))=(t:Int)+1+(x.a.c.2.length:Int)+(x.a.c.1.length:Int):=by rw[IntKind.wrap_i64];omega
    clear hra hra2 hx z1 z2 hi hi6 ht
    by_cases hs:t+1+x.a.c.2.length+x.a.c.1.length≤3000
    ·have e8:decide ((3000:Int)<(t:Int)+1+(x.a.c.2.length:Int)+(x.a.c.1.length:Int))=false:=by simp;omega
     have HS:=Lib.hid hs;clear hs
     by_cases t1:x.a.t<0
     ·have d1:decide (x.a.t<0)=true:=decide_eq_true t1
      clear t1
      go_wp2
      go_quiet (fail)
      go_wp2
      go_ret
      exact⟨true,rfl,(fun h=>by cases h),below_drewN HB.out _⟩
     ·have d1:decide (x.a.t<0)=false:=decide_eq_false t1
      by_cases t2:1073741824<x.a.t
      ·have d2:decide (1073741824<x.a.t)=true:=decide_eq_true t2
       clear t1 t2
       go_wp2
       go_quiet (fail)
       go_wp2
       go_ret
       exact⟨true,rfl,(fun h=>by cases h),below_drewN HB.out _⟩
      ·have d2:decide (1073741824<x.a.t)=false:=decide_eq_false t2
       have HT1:=Lib.hid t1;have HT2:=Lib.hid t2
       clear t1 t2
       go_wp2
       go_quiet (fail)
       go_wp2
       go_roundw
       case rel=>exact⟨i+1,t+1+x.a.c.2.length+x.a.c.1.length,by omega,by omega,HS.out,by go_num,by go_num,fun j y hj hy=>by
        by_cases q:j=i
        ·subst q
         rw[HX.out] at hy
         injection hy with hy
         subst hy
         have:=HS.out;have:=HT1.out;have:=HT2.out
         clear w1 w2 w3
         exact⟨by omega,by omega,by omega,by omega⟩
        ·exact HNO.out j y (by omega) hy,below_drewN HB.out _⟩
       case measure=>simp [intOf];omega
    ·have e8:decide ((3000:Int)<(t:Int)+1+(x.a.c.2.length:Int)+(x.a.c.1.length:Int))=true:=by simp;omega
     clear hs
     go_wp2
     go_quiet (fail)
     go_wp2
     go_ret
     exact⟨true,rfl,(fun h=>by cases h),below_drewN HB.out _⟩
   ·have e2:decide ((i:Int)<80)=false:=by simp;omega
    obtain rfl:i=80:=by omega
    clear hi hi6 ht
    go_wp2
    go_ret
    exact⟨false,rfl,fun _ j x hj hx=>HNO.out j x hj hx,HB.out⟩
  ·have e1:decide ((i:Int)<(n:Int))=false:=by simp;omega
   obtain rfl:n=i:=by omega
   clear hi hi6 ht
   go_wp2
   go_ret
   exact⟨false,rfl,fun _ j x hj hx=>HNO.out j x (by rw[EN.out];exact(List.getElem?_eq_some_iff.1 hx).1) hx,HB.out⟩
end Go.Proofs.Ytnmeicnppablkaa.Rp
end

section
set_option linter.unusedVariables false
set_option linter.unusedSimpArgs false
namespace Go.Proofs.Ytnmeicnppablkaa.Rp
open Go.RowKit Go.Proofs.Ytnmeicnppablkaa.Mem Go.Proofs.Ytnmeicnppablkaa.Se Go.Proofs.Ytnmeicnppablkaa.OpenA
open Go.Proofs.Ytnmeicnppablkaa.Ms (An)
structure Two (w0 w:World) (B B1 r:Nat) (v:Value) (on:Bool) (st:Int) (l:List An) (B2 q:Nat) (u:Value) (on2:Bool) (st2:Int) (l2:List An):Prop where
 low:Below B w0 w
 b1:B≤B1
 b2:B≤B2
 rp:Rp w B1 r v on st l
 dr:DRp w B2 q u on2 st2 l2
 ap:∀k,RO r v k→¬RO q u k
section
variable {w0 w w':World} {B B1 B2 r q:Nat} {v v' u u':Value} {on on' on2 on2':Bool} {st st' st2 st2':Int} {l l' l2 l2':List An}
theorem Two.code (h:Two w0 w B B1 r v on st l B2 q u on2 st2 l2) (k:Stp w w' B1 r v v' on' st' l'):Two w0 w' B B1 r v' on' st' l' B2 q u on2 st2 l2:=
 ⟨h.low.trans ((k.low h.rp (Below.refl _ _)).mono h.b1),h.b1,h.b2,k.rp,h.dr.chg k.chg (fun j hj x=>h.ap j x hj),fun j hj x=>(k.new j hj).elim (fun y=>h.ap j y x) (fun y=>by have:=h.dr.own_lt x;omega)⟩
theorem Two.doc (h:Two w0 w B B1 r v on st l B2 q u on2 st2 l2) (k:DStp w w' B2 q u u' on2' st2' l2'):Two w0 w' B B1 r v on st l B2 q u' on2' st2' l2':=
 ⟨h.low.trans ((k.chg.below h.dr.big (fun i _ hi=>h.dr.own_lo hi)).mono h.b2),h.b1,h.b2,h.rp.chg k.chg (fun j hj x=>h.ap j hj x),k.rp,fun j hj x=>(k.new j x).elim (fun y=>h.ap j hj y) (fun y=>by have:=h.rp.own_lt hj;omega)⟩
theorem Two.below (h:Two w0 w B B1 r v on st l B2 q u on2 st2 l2) (hb:Below w.heap.size w w'):Two w0 w' B B1 r v on st l B2 q u on2 st2 l2:=
 ⟨h.low.trans (hb.mono (Nat.le_trans h.b1 h.rp.big)),h.b1,h.b2,h.rp.below hb,h.dr.below hb,h.ap⟩
end
theorem exec_load_at {P:Program} {w':World} {a:Act} {o:Oper} {g off:Nat} {ty:TypeId} {cs:Array Value} {d:TypeDesc} (x:Operand) (ho:o.op = .load ty x) (hx:a.eval x = .pointer (some ⟨g,off,none⟩)) (h:w'.rangeAt g off cs.toList) (hu:P.underlying ty=some d) (hd:d.isRow=true) (hi:(P.info? ty).map (·.size)=some cs.size) :
  (execOp a.eval o).run P w' = .ok (.value (.agg cs)) w':=by
 have:=run_loadVar_mid (P:=P) w' g off ty cs.toList d h hu hd (by simpa using hi)
 simp only[Array.toArray_toList] at this
 unfold execOp
 simp only[ho,hx,Instr.loadAt,Instr.sureAddr,Sem.run_bind,Sem.run_pure,Result.andThen_ok,this]
theorem low16 (n:Int):bits .and .i64 n 15=n % 16:=by
 have h3:(BitVec.ofInt 64 15).toNat=2 ^ 4 - 1:=by decide
 have key:(BitVec.ofInt 64 n &&& BitVec.ofInt 64 15).toNat=(n % ((2 ^ 64:Nat):Int)).toNat % 2 ^ 4:=by
  rw[BitVec.toNat_and,BitVec.toNat_ofInt,h3,Nat.and_two_pow_sub_one_eq_mod]
 show IntKind.i64.wrap ((BitVec.ofInt 64 n &&& BitVec.ofInt 64 15).toNat:Nat)=n % 16
 rw[key,IntKind.wrap_i64]
 omega
set_option maxRecDepth 100000 in
set_option maxHeartbeats 6400000 in
theorem plays_any (a0:Int) (A:Option Addr) (l:List Ac) (c:Nat) (w:World) (hr:RdAc w w.heap.size A l) (hz:∀(i:Nat) (x:Ac),l[i]? = some x→AcR x) :
  Calls Try.prog 3 #[.int .i64 a0,.slice A l.length c] w fun e w'=>e = .returned (.bool true)∧Below w.heap.size w w':=by
 have CLG:=Lib.hid (long_any A l c w hr hz)
 obtain⟨B,eB⟩:∃B,B=w.heap.size:=⟨_,rfl⟩
 have EB:=Lib.hid eB
 rw[←eB] at hr
 have HR:=Lib.hid hr
 have HZ:=Lib.hid hz
 obtain⟨n,en⟩:∃n,n=l.length:=⟨_,rfl⟩
 rw[←en] at CLG⊢
 have EN:=Lib.hid en
 have CK:=Lib.hid (fun w1=>known_any w1)
 clear hr hz en eB
 by_cases g0:a0<0
 ·have t0:decide (a0<0)=true:=decide_eq_true g0
  go_enter Try.func3,Try.ntmps3
  go_upto_region 1 with fail
  go_upto_if 18 with(first
   |(go_at_call 10;refine Calls.mono CLG.out ?_;rintro e w1 ⟨bl,rfl,hbl,hb⟩;have HBL:=Lib.hid hbl;have HB0:=Lib.hid (EB.out▸hb:Below B w w1);clear hb hbl CLG)
   |fail)
  all_goals
   go_wp2
   go_ret
   exact⟨rfl,by rw[←EB.out];exact HB0.out⟩
 ·have t0:decide (a0<0)=false:=decide_eq_false g0
  by_cases g1:1073741824<a0
  ·have t1:decide (1073741824<a0)=true:=decide_eq_true g1
   go_enter Try.func3,Try.ntmps3
   go_upto_region 1 with fail
   go_upto_if 18 with(first
    |(go_at_call 10;refine Calls.mono CLG.out ?_;rintro e w1 ⟨bl,rfl,hbl,hb⟩;have HBL:=Lib.hid hbl;have HB0:=Lib.hid (EB.out▸hb:Below B w w1);clear hb hbl CLG)
    |fail)
   all_goals
    go_wp2
    go_ret
    exact⟨rfl,by rw[←EB.out];exact HB0.out⟩
  ·have t1:decide (1073741824<a0)=false:=decide_eq_false g1
   go_enter Try.func3,Try.ntmps3
   go_upto_region 1 with fail
   go_upto_if 18 with(first
    |(go_at_call 10;refine Calls.mono CLG.out ?_;rintro e w1 ⟨bl,rfl,hbl,hb⟩;have HBL:=Lib.hid hbl;have HB0:=Lib.hid (EB.out▸hb:Below B w w1);clear hb hbl CLG)
    |fail)
   ·skip
    go_wp2
    go_ret
    exact⟨rfl,by rw[←EB.out];exact HB0.out⟩
   ·rename_i hbl
    obtain rfl:bl=false:=by simpa using hbl
    have HSM:=Lib.hid (HBL.out rfl)
    clear HBL hbl
    obtain⟨on0,eon⟩:∃b,b = !decide (a0=0):=⟨_,rfl⟩
    have c0:=new_any a0 w1
    have C0:=Lib.hid (fun w2=>dnew_any a0 w2)
    rw[←eon] at c0 C0
    clear eon
    go_wp2_with (first
     |(go_at_call 11;refine Calls.mono c0 ?_;rintro e w2 ⟨r,rfl,hk⟩;have HK:=Lib.hid hk;clear hk c0)
     |(go_at_call 12;refine Calls.mono (C0.out _) ?_;rintro e w3 ⟨q,rfl,hd,hb⟩;have HD:=Lib.hid hd;have HBD:=Lib.hid hb;clear hd hb C0)
     |fail)
    have HBW:=Lib.hid (show B≤w1.heap.size from Nat.le_trans (Nat.le_of_eq EB.out) HB0.out.size)
    have HT:=Lib.hid (⟨HB0.out.trans ((HK.out.low.mono HBW.out).trans (HBD.out.mono (Nat.le_trans HBW.out HK.out.low.size))),HBW.out,Nat.le_trans HBW.out HK.out.low.size,HK.out.rp.below HBD.out,HD.out,fun k hk x=>by
     have:=HK.out.rp.own_lt hk
     have:=HD.out.own_lo x
     omega⟩:Two w w3 B w1.heap.size r (.slice none 0 0) on0 a0 [] w2.heap.size q (.slice none 0 0) on0 a0 [])
    obtain⟨B1,eB1⟩:∃z,z=w1.heap.size:=⟨_,rfl⟩
    obtain⟨B2,eB2⟩:∃z,z=w2.heap.size:=⟨_,rfl⟩
    rw[←eB1,←eB2] at HT
    clear eB1 eB2 HK HD HBD
    go_loopw [7,8] (fun nv iv wr=>∃(i:Nat) (now st:Int) (on:Bool) (v u:Value) (ls:List An),i≤n∧i≤80∧iv = .int .i64 (i:Int)∧nv = .int .i64 now∧(0≤now∧now≤1073741824)∧(0≤st∧st≤1073741824)∧Two w wr B B1 r v on st ls B2 q u on st ls∧ls.length≤8) (fun _ iv _=>n - (intOf iv).toNat)
    case atStart=>exact⟨0,a0,a0,on0,_,_,[],Nat.zero_le _,Nat.zero_le _,rfl,rfl,⟨by omega,by omega⟩,⟨by omega,by omega⟩,HT.out,by simp⟩
    case round=>
     clear HT HB0
     obtain⟨i,now,st,on,v,u,ls,hi,hi6,rfl,rfl,hnow,hst,ht,hle⟩:=hrel
     have HT:=Lib.hid ht;have HLE:=Lib.hid hle;have HST:=Lib.hid hst
     clear ht hle hst
     by_cases hlt:i<n
     ·have e1:decide ((i:Int)<(n:Int))=true:=by simp;omega
      by_cases h6:i<80
      ·have e2:decide ((i:Int)<80)=true:=by simp;omega
       have e3:(i:Int)<(n:Int):=by omega
       have e4:(0:Int)≤(i:Int):=by omega
       have e5:(i:Int)<80:=by omega
       obtain⟨x,hx⟩:∃x,l[i]? = some x:=⟨l[i]'(by rw[←EN.out];exact hlt),List.getElem?_eq_getElem _⟩
       obtain⟨g,o,rfl,hg,hra⟩:=HR.out.at_ hx
       have HRG:=Lib.hid (fun(w9:World) (h:Below B w w9)=>((fun j u hu=>by
        have:=(h.cell (p:=⟨g,o+i*6+(j+1),none⟩) hg).trans (hra (j+1) u (by
         have hj:j<4:=by have:=(List.getElem?_eq_some_iff.1 hu).1;simpa using this
         rw[←hu]
         rcases j with _ | _ | _ | _ | j
         ·rfl
         ·rfl
         ·rfl
         ·rfl
         ·omega))
        rw[show o+i*6+1+j=o+i*6+(j+1) by omega]
        exact this):w9.rangeAt g (o+i*6+1) (anA x.a).toList))
       have k0:wr.cell? ⟨g,o+i*6,none⟩=some (.int .i64 x.k):=(HT.out.low.cell (p:=⟨g,_,none⟩) hg).trans (hra 0 _ rfl)
       have k5:wr.cell? ⟨g,o+i*6+5,none⟩=some (.int .i64 x.b):=(HT.out.low.cell (p:=⟨g,_,none⟩) hg).trans (hra 5 _ rfl)
       have hsm:=HSM.out i x h6 hx
       obtain⟨z,ez,hz⟩:∃z:Int,bits .and .i64 x.b 15=z∧0≤z∧z≤15:=⟨_,rfl,by rw[low16];omega⟩
       have u1:IntKind.i64.wrap (now+z)=now+z:=by rw[IntKind.wrap_i64];omega
       obtain⟨nw,enw⟩:∃nw,nw=min 1073741824 (now+z):=⟨_,rfl⟩
       have hnw:now≤nw∧0≤nw∧nw≤1073741824:=by clear u1;omega
       have HNW:=Lib.hid hnw
       have CS:=Lib.hid (fun(w3:World) (v3:Value) (h:Rp w3 B1 r v3 on st ls)=>see_any B1 r v3 on st ls x.a nw w3 h (by have:=HST.out;omega) (by have:=hsm.2.2;exact⟨this.1,by omega⟩) (by clear u1;omega) (by have:=hsm.1;omega) (by have:=hsm.2.1;omega) (by have:=HLE.out;omega))
       have CD:=Lib.hid (fun(w3:World) (v3:Value) (h:DRp w3 B2 q v3 on st ls)=>dsee_any B2 q v3 on st ls x.a nw w3 h (by have:=HST.out;omega) (by have:=hsm.2.2;exact⟨this.1,by omega⟩) (by clear u1;omega) (by have:=HLE.out;omega))
       have CR:=Lib.hid (restart_any nw HT.out.rp)
       have CE:=Lib.hid (fun(w3:World) (h:DRp w3 B2 q u on st ls)=>drestart_any nw h)
       have HLE2:=Lib.hid (see_le (on:=on) (st:=st) (now:=nw) (a:=x.a) HLE.out)
       obtain⟨z2,ez2⟩:∃z2,z2=seeE on st ls x.a nw:=⟨_,rfl⟩
       obtain⟨ls2,els2⟩:∃ls2,ls2=seeL on st ls x.a nw:=⟨_,rfl⟩
       rw[←ez2,←els2] at CS CD
       rw[←els2] at HLE2
       have ENW:=Lib.hid enw
       clear hra hx hsm hz hnw ez2 els2
       by_cases hk:x.k=2
       ·have q1:(x.k==2)=true:=by rw[hk];rfl
        clear hk
        go_upto_region 16 with(first
         |(go_at_call 13;rw[←enw];refine Calls.mono CR.out ?_;rintro e w3 ⟨rfl,hs⟩;replace HT:=Lib.hid (HT.out.code hs);clear hs CR k0 k5)
         |(go_at_call 14;rw[←enw];refine Calls.mono (CE.out _ HT.out.dr) ?_;rintro e w4 ⟨rfl,hs⟩;replace HT:=Lib.hid (HT.out.doc hs);clear hs CE)
         |fail)
        obtain⟨AD,cd,evd,_,_,_⟩:=HT.out.dr.num
        obtain⟨kk,ekk⟩:∃kk,kk=([]:List An).length:=⟨_,rfl⟩
        rw[←ekk] at evd
        have kd:w4.cell? ⟨q,0,none⟩=some (.slice AD kk cd):=by rw[←evd];exact HT.out.dr.blk.cell 0
        have CLN:=Lib.hid (fun(w9:World) {v9:Value} {on9:Bool} {st9:Int} (h:Rp w9 B1 r v9 on9 st9 ([]:List An))=>len_any h)
        rw[←ekk] at CLN
        have hne:((kk:Int) != (kk:Int))=false:=by simp
        clear ekk evd
        go_quiet ((go_at_call 17;refine(CLN.out _ (HT.out.below (below_drewN (Below.refl _ _) _)).rp).mono ?_;rintro e w8 ⟨rfl,rfl⟩;exact⟨rfl,_,rfl⟩))
        go_wp2
        go_roundw
        case rel=>exact⟨i+1,nw,nw,true,_,_,[],by omega,by omega,by go_num,by rw[ENW.out],HNW.out.2,HNW.out.2,HT.out.below (below_drewN (Below.refl _ _) _),by simp⟩
        case measure=>simp [intOf];omega
       ·have q1:(x.k==2)=false:=by simpa using hk
        clear hk
        go_upto_region 14 with fail
        rw[←enw]
        clear enw ez u1 k0 k5
        replace HT:=Lib.hid (HT.out.below (below_drewN (Below.refl _ _) 1))
        refine Reg.any_begin (fun w'=>Below B w w') 17 rfl (by kernel_rfl) HT.out.low ?_
        refine Reg.tk 0 (v:=?vp1) rfl HT.out.low (fun w' hS=>?hp1) ?rp1
        case hp1=>go_simp<;>rfl
        simp only[Act.put,Reg.s0,Reg.s1,Reg.s2]
        refine Reg.tk 1 (v:=?vp2) rfl HT.out.low (fun w' hS=>?hp2) ?rp2
        case hp2=>go_simp<;>rfl
        simp only[Act.put,Reg.s0,Reg.s1,Reg.s2]
        refine Reg.tk 2 (v:=?vp3) rfl HT.out.low (fun w' hS=>?hp3) ?rp3
        case hp3=>go_simp<;>rfl
        simp only[Act.put,Reg.s0,Reg.s1,Reg.s2]
        refine Reg.tk 3 (v:=?vp4) rfl HT.out.low (fun w' hS=>?hp4) ?rp4
        case hp4=>go_simp<;>rfl
        simp only[Act.put,Reg.s0,Reg.s1,Reg.s2]
        refine Reg.tk 4 (v:=?vp5) rfl HT.out.low (fun w' hS=>?hp5) ?rp5
        case hp5=>go_simp<;>rfl
        simp only[Act.put,Reg.s0,Reg.s1,Reg.s2]
        refine Reg.tk 5 (v:=.agg (anA x.a)) rfl HT.out.low (fun w' hS=>?hp6) ?rp6
        case hp6=>exact exec_load_at (.tmp 61) rfl rfl (HRG.out w' hS) Try.underlying31 rfl an_info
        simp only[Act.put,Reg.s0,Reg.s1,Reg.s2]
        refine Reg.tk 6 (v:=?vp7) rfl HT.out.low (fun w' hS=>?hp7) ?rp7
        case hp7=>go_simp<;>rfl
        simp only[Act.put,Reg.s0,Reg.s1,Reg.s2]
        refine Reg.tk 8 (v:=?vp8) rfl HT.out.low (fun w' hS=>?hp8) ?rp8
        case hp8=>go_simp<;>rfl
        simp only[Act.put,Reg.s0,Reg.s1,Reg.s2]
        refine Reg.tk 9 (v:=?vp9) rfl HT.out.low (fun w' hS=>?hp9) ?rp9
        case hp9=>go_simp<;>rfl
        simp only[Act.put,Reg.s0,Reg.s1,Reg.s2]
        refine Reg.tk 10 (v:=?vp10) rfl HT.out.low (fun w' hS=>?hp10) ?rp10
        case hp10=>go_simp<;>rfl
        simp only[Act.put,Reg.s0,Reg.s1,Reg.s2]
        refine Reg.tk 11 (v:=?vp11) rfl HT.out.low (fun w' hS=>?hp11) ?rp11
        case hp11=>go_simp<;>rfl
        simp only[Act.put,Reg.s0,Reg.s1,Reg.s2]
        refine Reg.tk 12 (v:=?vp12) rfl HT.out.low (fun w' hS=>?hp12) ?rp12
        case hp12=>go_simp<;>rfl
        simp only[Act.put,Reg.s0,Reg.s1,Reg.s2]
        refine Reg.tk 13 (v:=.agg (anA x.a)) rfl HT.out.low (fun w' hS=>?hp13) ?rp13
        case hp13=>exact exec_load_at (.tmp 69) rfl rfl (HRG.out w' hS) Try.underlying31 rfl an_info
        simp only[Act.put,Reg.s0,Reg.s1,Reg.s2]
        refine Reg.tk 14 (v:=?vp14) rfl HT.out.low (fun w' hS=>?hp14) ?rp14
        case hp14=>go_simp<;>rfl
        simp only[Act.put,Reg.s0,Reg.s1,Reg.s2]
        refine Reg.both_all [7] (by kernel_rfl) (by simp) ?_
        intro j0 hj0
        obtain rfl:j0=7:=by simpa using hj0
        clear hj0
        right
        refine⟨_,_,_,_,_,_,15,#[.pointer (some ⟨r,0,none⟩),.agg (anA x.a),.int .i64 nw],rfl,by rfl,(by go_simp),?_⟩
        refine(CS.out _ _ HT.out.rp).mono ?_
        rintro e wap15 ⟨rfl,v3,hs⟩
        replace HT:=Lib.hid (HT.out.code hs)
        clear hs CS
        refine⟨_,rfl,HT.out.low,?_⟩
        simp only[Act.put,Reg.s0,Reg.s1,Reg.s2]
        refine Reg.both_all [15] (by kernel_rfl) (by simp) ?_
        intro j0 hj0
        obtain rfl:j0=15:=by simpa using hj0
        clear hj0
        right
        refine⟨_,_,_,_,_,_,16,#[.pointer (some ⟨q,0,none⟩),.agg (anA x.a),.int .i64 nw],rfl,by rfl,(by go_simp),?_⟩
        refine(CD.out _ _ HT.out.dr).mono ?_
        rintro e wbp16 ⟨rfl,u3,hs⟩
        replace HT:=Lib.hid (HT.out.doc hs)
        clear hs CD
        refine⟨_,rfl,HT.out.low,?_⟩
        simp only[Act.put,Reg.s0,Reg.s1,Reg.s2]
        refine Reg.tk 16 (v:=?vp17) rfl HT.out.low (fun w' hS=>?hp17) ?rp17
        case hp17=>go_simp<;>rfl
        simp only[Act.put,Reg.s0,Reg.s1,Reg.s2]
        refine wpAnyH_done (by kernel_rfl) ?_ _
        have hqq:(z2 != z2)=false:=by simp
        go_upto_region 16 with fail
        clear hqq
        obtain⟨AD,cd,evd,_,_,_⟩:=HT.out.dr.num
        obtain⟨kk,ekk⟩:∃kk,kk=ls2.length:=⟨_,rfl⟩
        rw[←ekk] at evd
        have kd:wbp16.cell? ⟨q,0,none⟩=some (.slice AD kk cd):=by rw[←evd];exact HT.out.dr.blk.cell 0
        have CLN:=Lib.hid (fun(w9:World) {v9:Value} {on9:Bool} {st9:Int} (h:Rp w9 B1 r v9 on9 st9 ls2)=>len_any h)
        rw[←ekk] at CLN
        have hne:((kk:Int) != (kk:Int))=false:=by simp
        clear ekk evd
        go_quiet ((go_at_call 17;refine(CLN.out _ (HT.out.below (below_drewN (Below.refl _ _) _)).rp).mono ?_;rintro e w8 ⟨rfl,rfl⟩;exact⟨rfl,_,rfl⟩))
        go_wp2
        go_roundw
        case rel=>exact⟨i+1,nw,st,on,_,_,ls2,by omega,by omega,by go_num,by rw[ENW.out],HNW.out.2,HST.out,HT.out.below (below_drewN (Below.refl _ _) _),HLE2.out⟩
        case measure=>simp [intOf];omega
      ·have e2:decide ((i:Int)<80)=false:=by simp;omega
       obtain rfl:i=80:=by omega
       clear hi hi6
       go_wp2_with (first
        |(go_at_call 18;refine Calls.mono (CK.out _) ?_;rintro e w5 ⟨rfl,hb⟩;replace HT:=Lib.hid (HT.out.below hb);clear hb CK)
        |fail)
       go_ret
       exact⟨rfl,by rw[←EB.out];exact HT.out.low⟩
     ·have e1:decide ((i:Int)<(n:Int))=false:=by simp;omega
      obtain rfl:n=i:=by omega
      clear hi hi6
      go_wp2_with (first
       |(go_at_call 18;refine Calls.mono (CK.out _) ?_;rintro e w5 ⟨rfl,hb⟩;replace HT:=Lib.hid (HT.out.below hb);clear hb CK)
       |fail)
      go_ret
      exact⟨rfl,by rw[←EB.out];exact HT.out.low⟩
end Go.Proofs.Ytnmeicnppablkaa.Rp
end

section
namespace Go.Proofs.Ytnmeicnppablkaa.replayPlays
open Go.ChangeShapes Go.WideShapes Go.ChangeAt Go.RowKit Go.Proofs.Ytnmeicnppablkaa
open Go.ChangeMaps (open_string shut_string)
theorem own:ownKnob Try.prog.godebug=none:=by kernel_rfl
theorem laidOut:laidOutB Try.prog=true:=by kernel_rfl
set_option maxRecDepth 100000 in
theorem lifted (os:Os) (started:os.Started) (H:Type) (enc:TypeId×Value→H) :
  ReturnsInHanded {} Try.checked os 3 .any (Rows.replayPlaysSpec.pre6 enc Try.prog Try.f3 Rows.replayPlaysRow.domain false) (Rows.replayPlaysSpec.post enc Try.prog Try.f3 false true false false):=by
 refine returnsInHanded_of_change_sized (C:=Try.checked) own started (by kernel_rfl) Try.func3
  (ChangeSpec.witness6 (enc:=enc) (C:=Try.checked) false ⟨#[],#[.int .i64 0,.slice none 0 0],[]⟩ 8 (by kernel_rfl) (by kernel_rfl) (by kernel_rfl) (by kernel_rfl)) ?_
 intro W base args ds gs before hval0 hW hcnd hsz _
 have hval:∀(j:Nat) t v,Try.f3.params[j]? = some t→args[j]? = some v→Value.okWide Try.prog W .any base t v:=hval0
 have hW':=hW
 obtain⟨p,q,hA0,hV,rfl,hfz,hnd⟩:=hW
 have hA:DataW.TrodAll enc Try.prog W 0 (fun _=>true) true Try.f3.params.toList args.toList ds p:=hA0
 rw[Try.params3] at hA hval
 obtain⟨v0,vs0,d0,ds0,p0,q0,hargs,rfl,rfl,h0,r0⟩:=trodAll_cons hA
 obtain⟨v1,vs1,d1,ds1,p1,q1,rfl,rfl,rfl,h1,r1⟩:=trodAll_cons r0
 obtain⟨rfl,rfl,rfl⟩:=trodAll_nil r1
 obtain rfl:args=#[v0,v1]:=by cases args;simp_all
 obtain⟨rfl,rfl⟩:=trodVars_none hV
 obtain⟨a0,rfl,rfl,rfl,w0⟩:=open_int Try.underlying3 (hval 0 3 v0 rfl rfl) h0
 have k1:=h1
 have lt1:∀x∈p1,x.block<W.heap.size:=by obtain⟨m,hm⟩:=k1;exact DataW.trod_lt m _ _ _ hm
 have wt1:∀n∈DataW.weights Try.prog 22 d1,n≤reachBytes:=fun n hn=>by have:=List.all_eq_true.1 hsz n (DataW.weights_mem_each (j:=1) (t:=22) (d:=d1) (by rw[Try.params3];rfl) rfl n hn);simpa using this
 obtain⟨A1,l1,c1,rfl,w1,x1,y1,lp1⟩:=OpenA.open_acts (okWide_slice Try.underlying22 (hval 1 22 v1 rfl rfl)) h1 wt1
 clear hA0 hval0
 refine(Rp.plays_any a0 A1 l1 c1 W w1 lp1).mono fun e W' ⟨he,bel⟩=>?_
 subst he
 exact⟨_,rfl,_,_,_,[],_,[],hW',trodAll_mk1 (shut_bool Try.underlying4 _),(trodAll_cons_mk (shut_int Try.underlying3 w0) (trodAll_cons_mk (Below.trod laidOut (by kernel_rfl) (of_decide_eq_true (by kernel_rfl)) k1 bel lt1) trodAll_mk0)),rfl,bel.frame _,fun h=>by cases h⟩
theorem over:Rows.replayPlaysRow.holds Try.pinned (OpenSpec.ofChange Rows.replayPlaysSpec):=
 OpenClaim.holds_of_wide 3 Try.f3 rfl rfl rfl rfl rfl rfl rfl ⟨rfl,rfl,rfl,rfl,rfl⟩ rfl rfl rfl rfl rfl (by kernel_rfl) Try.func3 (by kernel_rfl)
  (of_decide_eq_true (by kernel_rfl)) (by unfold Func.isWrapper;first | (rw[if_pos (by decide +kernel)];kernel_rfl) | (rw[if_neg (by decide +kernel)];exact⟨rfl,rfl⟩))
  (fun os started H enc _=>lifted os started H enc)
theorem proved:Rows.ReplayPlaysSaid:=over
end Go.Proofs.Ytnmeicnppablkaa.replayPlays
end
