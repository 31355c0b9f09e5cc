import Derived.StillTailTactics
import Derived.Deep.CutBlock
import Derived.Deep.RegionHeld3
import Derived.Test.YtlacoakelliabaaProg
import Derived.Deep.LoopGhost
import Derived.Test.YtlacoakelliabaaZCachePlays1
import Derived.Test.YtlacoakelliabaaZCachePlays2
import Derived.Test.YtlacoakelliabaaZCachePlays3
import Derived.Test.YtlacoakelliabaaZCachePlays4
section
set_option linter.unusedVariables false
namespace Go.Proofs.Ytlacoakelliabaa.OpenK
open Go.Joins Go.ChangeShapes Go.WideShapes Go.ChangeAt Go.RowKit Go.Deep Go.Proofs.Ytlacoakelliabaa Go.Proofs.Ytlacoakelliabaa.Mem Go.Proofs.Ytlacoakelliabaa.Ca
open Go.Proofs.Ytlacoakelliabaa.Rg (Pr)
open Go.Proofs.Ytlacoakelliabaa.Se (key32 key32_size)
section
variable {H:Type} {enc:TypeId×Value→H} {W:World}
theorem bytes_trod_k {t e:TypeId} {held:Bool} {fuel:Nat} {v:Value} {x:DataW H×List MemPlace} {P:Program} (ht:P.underlying t=some (.slice e)) (he:P.underlying e=some (.int .u8)) (hc:P.cellsOf e=1) (hb1:P.bytesOf e=1)
  (h:DataW.trod enc P W 0 (fun _=>true) held fuel t [v]=some x) (hw:∀n∈DataW.weights P t x.1,n≤reachBytes):∃A l c,v = .slice A (List.length l) c∧Rd W W.heap.size A (bvs l)∧l.length≤reachBytes:=by
 rcases open_ints ht he hc h with⟨hcs,_⟩ | ⟨a0,l,c,zs,hcs,_,hl,hm,hz,hdat,hcell,hwz⟩
 ·injection hcs with hcs
  exact⟨none,[],0,hcs,.inl rfl,Nat.zero_le _⟩
 ·injection hcs with hcs
  simp only[if_true] at hz
  obtain⟨bs,hbl,hb⟩:=Open.bytes_of_ints (k:=l) (zs:=zs) (by omega) hwz
  refine⟨some a0,bs,c,by rw[hbl];exact hcs,Open.rd_of_cells fun i u hu=>?_,?_⟩
  ·obtain⟨h1,h2⟩:=hb i u hu
   rw[hcell i h1,h2]
  ·have h1:=hw ((lits (H:=H) .u8 (zs.take l)).length+(lits (H:=H) .u8 (zs.drop l)).length) (by rw[hdat];simp [DataW.weights,ht,hb1])
   have h2:(lits (H:=H) .u8 (zs.take l)).length+(lits (H:=H) .u8 (zs.drop l)).length=zs.length:=by simp [lits];omega
   omega
theorem c_byt:Try.prog.cellsOf 32=1:=by kernel_rfl
theorem in_byt {n:Nat} {cs:List Value} {x:DataW H×List MemPlace} (hl:cs.length=1) (h:DataW.trod enc Try.prog W 0 (fun _=>true) true n 32 cs=some x) (hw:∀n∈DataW.weights Try.prog 32 x.1,n≤reachBytes):∃A l c,cs = [.slice A (List.length l) c]∧Rd W W.heap.size A (bvs l)∧l.length≤reachBytes:=by
 match cs,hl with
 | [u],_=>
  obtain⟨A,l,c,rfl,h1,h2⟩:=bytes_trod_k Try.underlying32 Try.underlying5 OpenP.c_u8 (by kernel_rfl) h hw
  exact⟨A,l,c,rfl,h1,h2⟩
theorem c_tk:Try.prog.cellsOf 34=4:=by kernel_rfl
set_option maxRecDepth 100000 in
theorem in_tk {n:Nat} {cs:List Value} {x:DataW H×List MemPlace} (h:DataW.trod enc Try.prog W 0 (fun _=>true) true n 34 cs=some x) (hw:∀n∈DataW.weights Try.prog 34 x.1,n≤reachBytes):∃(s:Pr) (n:Int) (l:List UInt8) (A:Option Addr) (c:Nat),cs = [.string ⟨s.1.toArray⟩,.string ⟨s.2.toArray⟩,.int .i64 n,.slice A l.length c]∧Rd W W.heap.size A (bvs l)∧s.1.length≤reachBytes∧s.2.length≤reachBytes∧l.length≤reachBytes:=by
 obtain⟨xs,m,_,hx,hl,hxl,hf⟩:=DataW.trod_struct Try.underlying34 h
 rw[c_tk] at hl
 match xs,hxl with
 | [y0,y1,y2],_=>
  have fw:=fun(j:Nat) (t:TypeId) (d:DataW H) (ht:_[j]? = some t) (hd:[y0.1,y1.1,y2.1][j]? = some d) (n:Nat) (hn:n∈d.weights Try.prog t)=>hw n (by rw[hx];simp only[DataW.weights,Try.underlying34];exact DataW.weights_mem_each ht hd n hn)
  have h0:DataW.trod enc Try.prog W 0 (fun _=>true) true m 31 ((cs.drop 0).take (Try.prog.cellsOf 31))=some y0:=hf 0 _ rfl
  rw[OpenP.c_pr] at h0
  obtain⟨l0,e0,b0,d0⟩:=OpenP.in_pr h0 (fw 0 _ _ rfl rfl)
  have q0:=OpenP.cut cs 0 2
  rw[e0] at q0
  have h1:DataW.trod enc Try.prog W 0 (fun _=>true) true m 3 ((cs.drop 2).take (Try.prog.cellsOf 3))=some y1:=hf 1 _ rfl
  rw[OpenP.c_int] at h1
  obtain⟨l1,e1,b1⟩:=OpenP.in_int h1
  have q1:=OpenP.cut cs 2 1
  rw[e1] at q1
  have h2:DataW.trod enc Try.prog W 0 (fun _=>true) true m 32 ((cs.drop 3).take (Try.prog.cellsOf 32))=some y2:=hf 2 _ rfl
  rw[c_byt] at h2
  obtain⟨A2,l2,k2,e2,r2,b2⟩:=in_byt (by rw[List.length_take,List.length_drop];omega) h2 (fw 2 _ _ rfl rfl)
  have q2:=OpenP.cut cs 3 1
  rw[e2] at q2
  have k:cs=cs.drop 0:=rfl
  rw[q0,show 0+2=2 from rfl] at k
  rw[q1,show 2+1=3 from rfl] at k
  rw[q2,show 3+1=4 from rfl] at k
  rw[show cs.drop 4 = [] from List.drop_of_length_le (by omega)] at k
  clear hf h h0 q0 e0 h1 q1 e1 h2 q2 e2
  exact⟨l0,l1,l2,A2,k2,k,r2,b0,d0,b2⟩
theorem c_cr:Try.prog.cellsOf 38=37:=by kernel_rfl
set_option maxRecDepth 100000 in
theorem in_cr {n:Nat} {cs:List Value} {x:DataW H×List MemPlace} (h:DataW.trod enc Try.prog W 0 (fun _=>true) true n 38 cs=some x) (hw:∀n∈DataW.weights Try.prog 38 x.1,n≤reachBytes):∃(z:Cr) (A:Option Addr) (c:Nat),cs=crC z A c∧Rd W W.heap.size A (bvs z.b)∧z.s.1.length≤reachBytes∧z.s.2.length≤reachBytes∧z.b.length≤reachBytes∧(Lit.int .i64 z.e).wf=true:=by
 obtain⟨xs,m,_,hx,hl,hxl,hf⟩:=DataW.trod_struct Try.underlying38 h
 rw[c_cr] at hl
 match xs,hxl with
 | [y0,y1,y2],_=>
  have fw:=fun(j:Nat) (t:TypeId) (d:DataW H) (ht:_[j]? = some t) (hd:[y0.1,y1.1,y2.1][j]? = some d) (n:Nat) (hn:n∈d.weights Try.prog t)=>hw n (by rw[hx];simp only[DataW.weights,Try.underlying38];exact DataW.weights_mem_each ht hd n hn)
  have h0:DataW.trod enc Try.prog W 0 (fun _=>true) true m 34 ((cs.drop 0).take (Try.prog.cellsOf 34))=some y0:=hf 0 _ rfl
  rw[c_tk] at h0
  obtain⟨s0,n0,l0,A0,k0,e0,r0,b0,d0,f0⟩:=in_tk h0 (fw 0 _ _ rfl rfl)
  have q0:=OpenP.cut cs 0 4
  rw[e0] at q0
  have h1:DataW.trod enc Try.prog W 0 (fun _=>true) true m 36 ((cs.drop 4).take (Try.prog.cellsOf 36))=some y1:=hf 1 _ rfl
  rw[OpenP.c_key] at h1
  obtain⟨l1,e1⟩:=OpenP.in_key h1
  have q1:=OpenP.cut cs 4 32
  rw[e1] at q1
  have h2:DataW.trod enc Try.prog W 0 (fun _=>true) true m 3 ((cs.drop 36).take (Try.prog.cellsOf 3))=some y2:=hf 2 _ rfl
  rw[OpenP.c_int] at h2
  obtain⟨l2,e2,b2⟩:=OpenP.in_int h2
  have q2:=OpenP.cut cs 36 1
  rw[e2] at q2
  have k:cs=cs.drop 0:=rfl
  rw[q0,show 0+4=4 from rfl] at k
  rw[q1,show 4+32=36 from rfl] at k
  rw[q2,show 36+1=37 from rfl] at k
  rw[show cs.drop 37 = [] from List.drop_of_length_le (by omega)] at k
  clear hf h h0 q0 e0 h1 q1 e1 h2 q2 e2
  refine⟨⟨s0,n0,l0,l1,l2⟩,A0,k0,k.trans ?_,r0,b0,d0,f0,b2⟩
  simp [crC,key32]
structure Ac where
 k:Int
 p:Pr
 x:Cr
 A:Option Addr
 c:Nat
 t:Int
def aC (a:Ac):List Value:=.int .i64 a.k :: .string ⟨a.p.1.toArray⟩ :: .string ⟨a.p.2.toArray⟩ :: (crC a.x a.A a.c++[.int .i64 a.t])
theorem aC_length (a:Ac):(aC a).length=41:=by simp [aC,crC_length]
def AcR (w:World) (B:Nat) (a:Ac):Prop:=Rd w B a.A (bvs a.x.b)∧a.p.1.length≤reachBytes∧a.p.2.length≤reachBytes∧a.x.s.1.length≤reachBytes∧a.x.s.2.length≤reachBytes∧a.x.b.length≤reachBytes
def RdAc (w:World) (B:Nat) (A:Option Addr) (l:List Ac):Prop:=
 l = []∨∃g o,A=some ⟨g,o,none⟩∧g<B∧∀i x,l[i]? = some x→w.rangeAt g (o+i*41) (aC x)
theorem RdAc.keep {w w':World} {B:Nat} {A:Option Addr} {l:List Ac} (h:RdAc w B A l) (hb:Below B w w'):RdAc w' B A l:=by
 rcases h with h | ⟨g,o,h1,h2,h3⟩
 ·exact .inl h
 ·exact .inr ⟨g,o,h1,h2,fun i x hx j v hv=>(hb.cell (p:=⟨g,_,none⟩) h2).trans (h3 i x hx j v hv)⟩
theorem RdAc.at_ {w:World} {B:Nat} {A:Option Addr} {l:List Ac} {i:Nat} {x:Ac} (h:RdAc w B A l) (hx:l[i]? = some x):∃g o,A=some ⟨g,o,none⟩∧g<B∧w.rangeAt g (o+i*41) (aC x):=by
 rcases h with h | ⟨g,o,h1,h2,h3⟩
 ·subst h;simp at hx
 ·exact⟨g,o,h1,h2,h3 i x hx⟩
theorem mem_weightsAll {H:Type} {P:Program} {e:TypeId} {n:Nat}:∀{l:List (DataW H)} {d:DataW H},d∈l→n∈d.weights P e→n∈DataW.weightsAll P e l
 |x :: r,d,h,hn=>by
  rw[DataW.weightsAll]
  rcases List.mem_cons.1 h with h | h
  ·subst h;exact List.mem_append.2 (.inl hn)
  ·exact List.mem_append.2 (.inr (mem_weightsAll h hn))
theorem c_ac:Try.prog.cellsOf 40=41:=by kernel_rfl
set_option maxRecDepth 100000 in
theorem in_ac {n:Nat} {cs:List Value} {x:DataW H×List MemPlace} (h:DataW.trod enc Try.prog W 0 (fun _=>true) true n 40 cs=some x) (hw:∀n∈DataW.weights Try.prog 40 x.1,n≤reachBytes):∃a:Ac,cs=aC a∧AcR W W.heap.size a:=by
 obtain⟨xs,m,_,hx,hl,hxl,hf⟩:=DataW.trod_struct Try.underlying40 h
 rw[c_ac] at hl
 match xs,hxl with
 | [y0,y1,y2,y3],_=>
  have fw:=fun(j:Nat) (t:TypeId) (d:DataW H) (ht:_[j]? = some t) (hd:[y0.1,y1.1,y2.1,y3.1][j]? = some d) (n:Nat) (hn:n∈d.weights Try.prog t)=>hw n (by rw[hx];simp only[DataW.weights,Try.underlying40];exact DataW.weights_mem_each ht hd n hn)
  have h0:DataW.trod enc Try.prog W 0 (fun _=>true) true m 3 ((cs.drop 0).take (Try.prog.cellsOf 3))=some y0:=hf 0 _ rfl
  rw[OpenP.c_int] at h0
  obtain⟨l0,e0,b0⟩:=OpenP.in_int h0
  have q0:=OpenP.cut cs 0 1
  rw[e0] at q0
  have h1:DataW.trod enc Try.prog W 0 (fun _=>true) true m 31 ((cs.drop 1).take (Try.prog.cellsOf 31))=some y1:=hf 1 _ rfl
  rw[OpenP.c_pr] at h1
  obtain⟨l1,e1,b1,d1⟩:=OpenP.in_pr h1 (fw 1 _ _ rfl rfl)
  have q1:=OpenP.cut cs 1 2
  rw[e1] at q1
  have h2:DataW.trod enc Try.prog W 0 (fun _=>true) true m 38 ((cs.drop 3).take (Try.prog.cellsOf 38))=some y2:=hf 2 _ rfl
  rw[c_cr] at h2
  obtain⟨l2,A2,k2,e2,r2,b2,d2,f2,g2⟩:=in_cr h2 (fw 2 _ _ rfl rfl)
  have q2:=OpenP.cut cs 3 37
  rw[e2] at q2
  have h3:DataW.trod enc Try.prog W 0 (fun _=>true) true m 3 ((cs.drop 40).take (Try.prog.cellsOf 3))=some y3:=hf 3 _ rfl
  rw[OpenP.c_int] at h3
  obtain⟨l3,e3,b3⟩:=OpenP.in_int h3
  have q3:=OpenP.cut cs 40 1
  rw[e3] at q3
  have k:cs=cs.drop 0:=rfl
  rw[q0,show 0+1=1 from rfl] at k
  rw[q1,show 1+2=3 from rfl] at k
  rw[q2,show 3+37=40 from rfl] at k
  rw[q3,show 40+1=41 from rfl] at k
  rw[show cs.drop 41 = [] from List.drop_of_length_le (by omega)] at k
  clear hf h h0 q0 e0 h1 q1 e1 h2 q2 e2 h3 q3 e3
  refine⟨⟨l0,l1,l2,A2,k2,l3⟩,k.trans ?_,r2,b1,d1,b2,d2,f2⟩
  simp [aC]
set_option maxRecDepth 100000 in
theorem open_acts {v:Value} {d:DataW H} {ps:List MemPlace} (hv:∃A n c,v = .slice A n c) (h:DataW.Trod enc Try.prog W 0 (fun _=>true) true 22 v d ps) (hw:∀n∈DataW.weights Try.prog 22 d,n≤reachBytes) :
  ∃A l c,v = .slice A (List.length l) c∧RdAc W W.heap.size A l∧l.length≤c∧c≤maxLen∧∀(i:Nat) (x:Ac),l[i]? = some x→AcR W W.heap.size x:=by
 obtain⟨A,n,c,rfl⟩:=hv
 obtain⟨fuel,hf⟩:=h
 have ht:=Try.underlying22
 rcases DataW.trod_slice ht hf with⟨h0,_⟩ | ⟨a,len,cap,elems,rest,m,_,hv,hx,_,hl,hm,hlen,hel,_,_⟩
 ·injection h0 with h0
  exact⟨none,[],0,h0,.inl rfl,Nat.le_refl _,Nat.zero_le _,fun i x hx=>by simp at hx⟩
 ·injection hv with hv
  subst hlen
  have each:∀i,i<elems.length→∃x:Ac,(∀j u,(aC x)[j]? = some u→W.cell? (a.add (i*41+j))=some u)∧AcR W W.heap.size x:=by
   intro i hi
   have h1:=hel i hi
   rw[List.getElem?_eq_getElem hi,Option.bind_eq_some_iff] at h1
   obtain⟨cs,h2,h3⟩:=h1
   rw[c_ac] at h2
   obtain⟨_,h4,h5⟩:=World.cells?_some h2
   obtain⟨x,rfl,b1⟩:=in_ac h3 (fun n hn=>hw n (by
    have hd:d = .slice (elems.map (·.1)) (rest.map (·.1)):=congrArg Prod.fst hx
    rw[hd]
    simp only[DataW.weights,ht]
    exact List.mem_cons.2 (.inr (List.mem_append.2 (.inl (mem_weightsAll (List.mem_map.2 ⟨_,List.getElem_mem hi,rfl⟩) hn))))))
   refine⟨x,fun j u hu=>?_,b1⟩
   have hj:j<41:=by have:=(List.getElem?_eq_some_iff.1 hu).1;rw[aC_length] at this;exact this
   have h6:=h5 j hj
   rw[←hu,←h6]
   congr 1
   exact(Go.Deep.add_add a (i*41) j).symm
  obtain⟨l,hll,hp⟩:=OpenP.fn_list each
  have hv2:(Value.slice A n c) = .slice (some a) l.length cap:=by rw[hll];exact hv
  refine⟨some a,l,cap,hv2,?_,by omega,hm,fun i x hx=>?_⟩
  ·rcases Nat.eq_zero_or_pos l.length with g | g
   ·exact .inl (List.eq_nil_of_length_eq_zero g)
   ·have c0:=(hp 0 g).1 0 (.int .i64 l[0].k) rfl
    rw[show a.add (0*41+0)=a by simp [Addr.add]] at c0
    obtain⟨b,o,rfl⟩:=Open.addr_none c0
    refine .inr ⟨b,o,rfl,World.block_lt_of_cell? W _ c0,fun i x hx j u hu=>?_⟩
    obtain⟨hi,e⟩:=List.getElem?_eq_some_iff.1 hx
    have:=(hp i hi).1 j u (by rw[e];exact hu)
    rw[addr_add] at this
    rw[Nat.add_assoc]
    exact this
  ·obtain⟨hi,e⟩:=List.getElem?_eq_some_iff.1 hx
   rw[←e];exact(hp i hi).2
end
end Go.Proofs.Ytlacoakelliabaa.OpenK
end

section
set_option linter.unusedVariables false
set_option linter.unusedSimpArgs false
namespace Go.Proofs.Ytlacoakelliabaa.Ca
open Go.RowKit Go.Proofs.Ytlacoakelliabaa.Mem Go.Proofs.Ytlacoakelliabaa.Se Go.Proofs.Ytlacoakelliabaa.OpenK
open Go.Proofs.Ytlacoakelliabaa.Rg (Pr prV pr_info)
def aA (x:Ac):Array Value:=(aC x).toArray
theorem aA_size (x:Ac):(aA x).size=41:=by simp [aA,aC_length]
theorem aA_toList (x:Ac):(aA x).toList=aC x:=by simp [aA]
theorem aC_one (x:Ac):∀u∈aC x,u.oneCell'=true:=by
 intro u hu
 simp only[aC,List.mem_cons,List.mem_append,List.not_mem_nil,or_false] at hu
 rcases hu with h | h | h | h | h
 ·subst h;rfl
 ·subst h;rfl
 ·subst h;rfl
 ·exact crC_one _ _ _ u h
 ·subst h;rfl
theorem aA_one (x:Ac):(aA x).all (·.oneCell')=true:=by
 rw[Array.all_eq_true_iff_forall_mem]
 intro u hu
 exact aC_one x u (by simpa [aA] using hu)
theorem ac_info:(Try.prog.info? 40).map (·.size)=some 41:=by kernel_rfl
section
variable {w:World} {g o:Nat} {x:Ac}
theorem ac_k (h:w.rangeAt g o (aC x)):w.cell? ⟨g,o,none⟩=some (.int .i64 x.k):=h 0 _ rfl
theorem ac_p1 (h:w.rangeAt g o (aC x)):w.cell? ⟨g,o+1,none⟩=some (.string ⟨x.p.1.toArray⟩):=h 1 _ rfl
theorem ac_p2 (h:w.rangeAt g o (aC x)):w.cell? ⟨g,o+1+1,none⟩=some (.string ⟨x.p.2.toArray⟩):=h 2 _ rfl
theorem ac_cr (h:w.rangeAt g o (aC x)):w.rangeAt g (o+3) (crC x.x x.A x.c):=fun j u hu=>by
 have hj:j<(crC x.x x.A x.c).length:=(List.getElem?_eq_some_iff.1 hu).1
 have:=h (j+3) u (by rw[aC];simp only[List.getElem?_cons_succ];rw[List.getElem?_append_left hj];exact hu)
 rw[show o+3+j=o+(j+3) by omega]
 exact this
theorem ac_t (h:w.rangeAt g o (aC x)):w.cell? ⟨g,o+40,none⟩=some (.int .i64 x.t):=by
 refine h 40 _ ?_
 rw[aC]
 simp only[List.getElem?_cons_succ]
 rw[List.getElem?_append_right (by rw[crC_length];omega),crC_length]
 rfl
theorem ac_pr (h:w.rangeAt g o (aC x)):w.rangeAt g (o+1) (#[.string ⟨x.p.1.toArray⟩,.string ⟨x.p.2.toArray⟩]:Array Value).toList:=fun j u hu=>by
 have hj:j<2:=by have:=(List.getElem?_eq_some_iff.1 hu).1;simpa using this
 have:=h (j+1) u (by
  rw[←hu]
  rcases j with _ | _ | j
  ·rfl
  ·rfl
  ·omega)
 rw[show o+1+j=o+(j+1) by omega]
 exact this
theorem blk_ac {t:TypeId} (h:Blk w g t (aA x)):w.rangeAt g 0 (aC x):=by
 have:=Wh.range_blk h
 rwa [aA_toList] at this
end
set_option maxRecDepth 100000 in
set_option maxHeartbeats 3200000 in
theorem clong_any (A:Option Addr) (l:List Ac) (c:Nat) (w:World) (hr:RdAc w w.heap.size A l) (hz:∀(i:Nat) (x:Ac),l[i]? = some x→AcR w w.heap.size x) :
  Calls Try.prog 9 #[.slice A l.length c] w fun e w'=>∃b,e = .returned (.bool b)∧(b=false→∀(i:Nat) (x:Ac),i<60→l[i]? = some x→x.p.1.length≤6000∧x.p.2.length≤6000∧x.x.b.length≤6000∧x.x.s.2.length≤6000∧x.x.s.1.length≤6000)∧Below w.heap.size w w':=by
 obtain⟨n,en⟩:∃n,n=l.length:=⟨_,rfl⟩
 rw[←en]
 have EN:=Lib.hid en
 have HR:=Lib.hid hr
 have HZ:=Lib.hid hz
 have HB:=Lib.hid (Below.refl w.heap.size w)
 clear hr hz en
 go_enter Try.func9,Try.ntmps9
 go_wp2
 go_loopw [3,4] (fun sv iv wr=>∃i t:Nat,i≤n∧i≤60∧t≤6000∧iv = .int .i64 (i:Int)∧sv = .int .i64 (t:Int)∧(∀(j:Nat) (x:Ac),j<i→l[j]? = some x→x.p.1.length≤6000∧x.p.2.length≤6000∧x.x.b.length≤6000∧x.x.s.2.length≤6000∧x.x.s.1.length≤6000)∧Below w.heap.size w wr) (fun _ iv _=>n - (intOf iv).toNat)
 case atStart=>exact⟨0,0,Nat.zero_le _,by decide,by decide,rfl,rfl,fun j x hj=>absurd hj (Nat.not_lt_zero _),HB.out⟩
 case round=>
  clear HB
  obtain⟨i,t,hi,hi6,ht,rfl,rfl,hno,hb⟩:=hrel
  have HB:=Lib.hid hb;have HNO:=Lib.hid hno;have HI:=Lib.hid hi;have HI6:=Lib.hid hi6;have HT:=Lib.hid ht
  clear hb hno
  by_cases hlt:i<n
  ·have e1:decide ((i:Int)<(n:Int))=true:=by simp;omega
   by_cases h6:i<60
   ·have e2:decide ((i:Int)<60)=true:=by simp;omega
    have e3:(i:Int)<(n:Int):=by omega
    have e4:(0:Int)≤(i:Int):=by omega
    have e5:(i:Int)<60:=by omega
    have e6:(t:Int)≤6000:=by omega
    have e7:(0:Int)≤(t:Int):=by omega
    obtain⟨x,hx⟩:∃x,l[i]? = some x:=⟨l[i]'(by rw[←EN.out];exact hlt),List.getElem?_eq_getElem _⟩
    obtain⟨g,o,rfl,hg,hra⟩:=HR.out.at_ hx
    have hra2:wr.rangeAt g (o+i*41) (aC x):=fun j v hv=>(HB.out.cell (p:=⟨g,_,none⟩) hg).trans (hra j v hv)
    have k1:=ac_p1 hra2
    have k2:=ac_p2 hra2
    have k3:=cr_b (ac_cr hra2)
    have k4:=cr_s2 (ac_cr hra2)
    have k5:=cr_s1 (ac_cr hra2)
    obtain⟨_,z1,z2,z5,z4,z3⟩:=HZ.out i x hx
    have HX:=Lib.hid hx
    have z1:x.p.1.length≤140737488351232:=z1
    have z2:x.p.2.length≤140737488351232:=z2
    have z3:x.x.b.length≤140737488351232:=z3
    have z4:x.x.s.2.length≤140737488351232:=z4
    have z5:x.x.s.1.length≤140737488351232:=z5
    have f1:(x.p.1.length:Int)≤140737488351232:=by omega
    have f2:(x.p.2.length:Int)≤140737488351232:=by omega
    have f3:(x.x.b.length:Int)≤140737488351232:=by omega
    have f4:(x.x.s.2.length:Int)≤140737488351232:=by omega
    have f5:(x.x.s.1.length:Int)≤140737488351232:=by omega
    have w1:IntKind.i64.wrap ((t:Int)+1)=(t:Int)+1:=by rw[IntKind.wrap_i64];omega
    have w2:IntKind.i64.wrap ((t:Int)+1+(x.p.1.length:Int))=(t:Int)+1+(x.p.1.length:Int):=by rw[IntKind.wrap_i64];omega
    have w3:IntKind.i64.wrap ((t:Int)+1+(x.p.1.length:Int)+(x.p.2.length:Int))=(t:Int)+1+(x.p.1.length:Int)+(x.p.2.length:Int):=by rw[IntKind.wrap_i64];omega
    have w4:IntKind.i64.wrap ((t:Int)+1+(x.p.1.length:Int)+(x.p.2.length:Int)+(x.x.b.length:Int))=(t:Int)+1+(x.p.1.length:Int)+(x.p.2.length:Int)+(x.x.b.length:Int):=by rw[IntKind.wrap_i64];omega
    have w5:IntKind.i64.wrap ((t:Int)+1+(x.p.1.length:Int)+(x.p.2.length:Int)+(x.x.b.length:Int)+(x.x.s.2.length:Int))=(t:Int)+1+(x.p.1.length:Int)+(x.p.2.length:Int)+(x.x.b.length:Int)+(x.x.s.2.length:Int):=by rw[IntKind.wrap_i64];omega
    have w6:IntKind.i64.wrap ((t:Int)+1+(x.p.1.length:Int)+(x.p.2.length:Int)+(x.x.b.length:Int)+(x.x.s.2.length:Int)+(x.x.s.1.length:Int))=(t:Int)+1+(x.p.1.length:Int)+(x.p.2.length:Int)+(x.x.b.length:Int)+(x.x.s.2.length:Int)+(x.x.s.1.length:Int):=by rw[IntKind.wrap_i64];omega
    clear hra hra2 hx z1 z2 z3 z4 z5 hi hi6 ht
    by_cases hs:t+1+x.p.1.length+x.p.2.length+x.x.b.length+x.x.s.2.length+x.x.s.1.length≤6000
    ·have e8:decide ((6000:Int)<(t:Int)+1+(x.p.1.length:Int)+(x.p.2.length:Int)+(x.x.b.length:Int)+(x.x.s.2.length:Int)+(x.x.s.1.length:Int))=false:=by simp;omega
     have e9:¬((6000:Int)<(t:Int)+1+(x.p.1.length:Int)+(x.p.2.length:Int)+(x.x.b.length:Int)+(x.x.s.2.length:Int)+(x.x.s.1.length:Int)):=by omega
     have HS:=Lib.hid hs;clear hs
     go_wp2
     go_quiet (fail)
     go_wp2
     go_roundw
     case rel=>exact⟨i+1,t+1+x.p.1.length+x.p.2.length+x.x.b.length+x.x.s.2.length+x.x.s.1.length,by omega,by omega,HS.out,by go_num,by go_num,fun j y hj hy=>by
      by_cases q:j=i
      ·subst q
       rw[HX.out] at hy
       injection hy with hy
       subst hy
       have:=HS.out
       exact⟨by omega,by omega,by omega,by omega,by omega⟩
      ·exact HNO.out j y (by omega) hy,below_drewN HB.out _⟩
     case measure=>simp [intOf];omega
    ·have e8:decide ((6000:Int)<(t:Int)+1+(x.p.1.length:Int)+(x.p.2.length:Int)+(x.x.b.length:Int)+(x.x.s.2.length:Int)+(x.x.s.1.length:Int))=true:=by simp;omega
     have e9:(6000:Int)<(t:Int)+1+(x.p.1.length:Int)+(x.p.2.length:Int)+(x.x.b.length:Int)+(x.x.s.2.length:Int)+(x.x.s.1.length:Int):=by omega
     clear hs
     go_wp2
     go_quiet (fail)
     go_wp2
     go_ret
     exact⟨true,rfl,(fun h=>by cases h),below_drewN HB.out _⟩
   ·have e2:decide ((i:Int)<60)=false:=by simp;omega
    obtain rfl:i=60:=by omega
    clear hi hi6 ht
    go_wp2
    go_ret
    exact⟨false,rfl,fun _ j x hj hx=>HNO.out j x hj hx,HB.out⟩
  ·have e1:decide ((i:Int)<(n:Int))=false:=by simp;omega
   obtain rfl:n=i:=by omega
   clear hi hi6 ht
   go_wp2
   go_ret
   exact⟨false,rfl,fun _ j x hj hx=>HNO.out j x (by rw[EN.out];exact(List.getElem?_eq_some_iff.1 hx).1) hx,HB.out⟩
end Go.Proofs.Ytlacoakelliabaa.Ca
end

section
set_option linter.unusedVariables false
set_option linter.unusedSimpArgs false
namespace Go.Proofs.Ytlacoakelliabaa.Ca
open Go.RowKit Go.Proofs.Ytlacoakelliabaa.Mem Go.Proofs.Ytlacoakelliabaa.Se
open Go.Proofs.Ytlacoakelliabaa.Nm (L)
open Go.Proofs.Ytlacoakelliabaa.Rg (Pr prV pr_info RdR own_rdr own_chg chg_row eql_pr_yes eql_pr_no)
def DO (q:Nat) (v:Value) (k:Nat):Prop:=k=q∨v.ownBlock=some k
structure DCa (w:World) (N B q:Nat) (v:Value) (es:List En):Prop where
 blk:Blk w q 29 #[v]
 row:w.ownsRow B 65 39 v es.length (es.flatMap enC)
 lo:B≤q
 vq:v.ownBlock≠some q
 nb:N≤B
 rd:∀e∈es,Rd w N e.A (bvs e.x.b)
section
variable {w w':World} {N B q:Nat} {v v':Value} {es es':List En} {S:Nat→Prop}
theorem DCa.lt (h:DCa w N B q v es):q<w.heap.size:=h.blk.lt
theorem DCa.big (h:DCa w N B q v es):B≤w.heap.size:=by have:=h.lo;have:=h.lt;omega
theorem DCa.own_lo (h:DCa w N B q v es) {k:Nat} (hk:PT q v k):B≤k:=by
 rcases hk with hk | hk
 ·subst hk;exact h.lo
 ·exact(World.ownsRow.lt h.row k hk).1
theorem DCa.own_lt (h:DCa w N B q v es) {k:Nat} (hk:PT q v k):k<w.heap.size:=by
 rcases hk with hk | hk
 ·subst hk;exact h.lt
 ·exact(World.ownsRow.lt h.row k hk).2
theorem DCa.chg (h:DCa w N B q v es) (hc:Chg S w w') (hs:∀k,PT q v k→¬S k) (hn:∀k,k<w.heap.size→S k→N≤k):DCa w' N B q v es:=
 ⟨hc.blk h.blk (hs q (.inl rfl)),own_chg hc h.row (fun k hk=>hs k (.inr hk)),h.lo,h.vq,h.nb,fun e he=>(h.rd e he).below (hc.below (Nat.le_trans h.nb h.big) hn)⟩
theorem DCa.below (h:DCa w N B q v es) (hb:Below w.heap.size w w'):DCa w' N B q v es:=h.chg (S:=fun _=>False) (Chg.of_below hb) (fun _ _ x=>x) (fun _ _ x=>x.elim)
theorem DCa.num (h:DCa w N B q v es):∃A c,v = .slice A es.length c∧es.length≤c∧c≤maxLen∧RdR w w.heap.size A enC 39 es:=own_rdr enC_length h.row
theorem row_more {t:TypeId} {n m:Nat} {xs:List Value} {B':Nat} (h:w.ownsRow B' t n v m xs) (hB:B≤B'):w.ownsRow B t n v m xs:=by
 refine⟨h.1,?_⟩
 rcases h.2 with h2 | ⟨g,cap,cur,h2,h3,h4⟩
 ·exact .inl h2
 ·exact .inr ⟨g,cap,cur,h2,Nat.le_trans hB h3,h4⟩
end
theorem item_info:(Try.prog.info? 65).map (·.size)=some 39:=by kernel_rfl
theorem item_all:(Try.prog.info? 65).map (fun i=>(i.zero,i.size,i.bytes))=some (some (.agg (enA ⟨([],[]),⟨([],[]),0,[],fun _=>0,0⟩,none,0⟩)),39,136):=by kernel_rfl
theorem built_item (p:Pr) (x:Cr) (A:Option Addr) (c:Nat):Try.prog.built 65 [(0,prV p),(1,.agg (crA x A c))]=some (enA ⟨p,x,A,c⟩):=by
 kernel_rfl
theorem wpl_build {P:Program} {ops:Array Oper} {rest:List Oper} {o:Oper} {a:Act} {w:World} {Q:Exit→Act→World→Prop} (hg:o.guard=none) (t:TypeId) (parts:Array (Nat×Operand)) (ho:o.op = .build t parts) {vs:List (Nat×Value)} {cells:Array Value}
  (hv:(parts.map fun x=>(x.1,a.eval x.2)).toList=vs) (h:P.built t vs=some cells) (hk:wpList P ops Q rest (a.put o.dst (.agg cells)) w):wpList P ops Q (o :: rest) a w:=by
 refine wpList_plain hg fun _ hK=>?_
 have:=run_build (P:=P) w t (parts.map fun x=>(x.1,a.eval x.2)) cells (by rw[hv];exact h)
 unfold Oper.wp execOp
 simp only[ho,Sem.run_bind,this,Result.andThen_ok]
 exact hK _ _ hk
def anewE (y e:En):En:=if e.p=y.p then y else e
def liveE (t:Int) (es:List En):List En:=es.filter (fun e=>!decide (e.x.e<t))
def accE (y:En) (t:Int) (es:List En):List En:=(liveE t es).map (anewE y)
def hadE (p:Pr) (t:Int) (es:List En):Bool:=(liveE t es).any (fun e=>decide (e.p=p))
theorem its_live (t:Int) (es:List En):its (liveE t es)=live (its es) t:=by
 unfold its liveE live
 rw[List.filter_map]
 rfl
theorem had_live (p:Pr) (t:Int) (es:List En):hadE p t es=had (live (its es) t) p:=by
 rw[←its_live]
 unfold hadE had its
 rw[List.any_map]
 rfl
theorem its_acc (y:En) (t:Int) (es:List En):its (accE y t es)=(live (its es) t).map (anew y.p y.x):=by
 rw[←its_live]
 unfold accE its
 rw[List.map_map,List.map_map]
 congr 1
 funext e
 show En.it (if e.p=y.p then y else e)=if e.p=y.p then (y.p,y.x) else (e.p,e.x)
 by_cases h:e.p=y.p
 ·rw[if_pos h,if_pos h];rfl
 ·rw[if_neg h,if_neg h];rfl
theorem live_take {t:Int} {es:List En} {i:Nat} {x:En} (hx:es[i]? = some x):liveE t (es.take (i+1))=if x.x.e<t then liveE t (es.take i) else liveE t (es.take i)++[x]:=by
 rw[List.take_add_one,hx,liveE,List.filter_append]
 by_cases h:x.x.e<t<;>simp [liveE,h]
theorem acc_not {y:En} {t:Int} {es:List En} (h:hadE y.p t es=false):accE y t es=liveE t es:=by
 unfold accE
 conv=>rhs;rw[←List.map_id (liveE t es)]
 refine List.map_congr_left fun e he=>?_
 have:=List.any_eq_false.1 h e he
 unfold anewE
 rw[if_neg (by simpa using this)]
 rfl
theorem acc_mem {y e:En} {t:Int} {es:List En} (h:e∈accE y t es):e=y∨e∈es:=by
 obtain⟨z,hz,rfl⟩:=List.mem_map.1 h
 unfold anewE
 by_cases g:z.p=y.p
 ·rw[if_pos g];exact .inl rfl
 ·rw[if_neg g];exact .inr (List.mem_filter.1 hz).1
theorem acc_len (y:En) (t:Int) (es:List En):(accE y t es).length≤es.length:=by
 unfold accE liveE
 rw[List.length_map]
 exact List.length_filter_le _ _
theorem dca_set {w wr:World} {N B q M:Nat} {v v' u:Value} {es es':List En} (h:DCa w N B q v es) (hM:w.heap.size≤M) (hc:Chg (PT q v) w wr) (hu:Blk wr q 29 #[u]) (ho:wr.ownsRow M 65 39 v' es'.length (es'.flatMap enC)) (hr:∀e∈es',Rd w N e.A (bvs e.x.b)) :
  DCa (wr.setCell ⟨q,0,none⟩ v') N B q v' es'∧Chg (PT q v) w (wr.setCell ⟨q,0,none⟩ v')∧(∀k,DO q v' k→DO q v k∨w.heap.size≤k):=by
 have hql:=h.lt
 have hvq:v'.ownBlock≠some q:=fun x=>by have:=(World.ownsRow.lt ho _ x).1;omega
 have hset:Chg (fun k=>k=q) wr (wr.setCell ⟨q,0,none⟩ v'):=Chg.set (p:=⟨q,0,none⟩) (Chg.refl (fun k=>k=q) wr) (.inl rfl) v'
 have hc2:Chg (PT q v) w (wr.setCell ⟨q,0,none⟩ v'):=hc.trans hset (fun k _ x=>.inl x)
 refine⟨⟨hu.set 0 v',row_more (own_chg hset ho (fun k hk x=>hvq (x▸hk))) (Nat.le_trans h.big hM),h.lo,hvq,h.nb,fun e he=>(hr e he).below (hc2.below (Nat.le_trans h.nb h.big) (fun k _ x=>Nat.le_trans h.nb (h.own_lo x)))⟩,hc2,fun k hk=>?_⟩
 rcases hk with hk | hk
 ·exact .inl (.inl hk)
 ·exact .inr (Nat.le_trans hM (World.ownsRow.lt ho _ hk).1)
set_option maxRecDepth 100000 in
set_option maxHeartbeats 6400000 in
theorem dput_any (N B q:Nat) (v:Value) (es:List En) (p:Pr) (x:Cr) (A:Option Addr) (c:Nat) (t:Int) (w:World) (h:DCa w N B q v es) (hx:Rd w N A (bvs x.b)) (hl:es.length≤1000) :
  Calls Try.prog 12 #[.pointer (some ⟨q,0,none⟩),prV p,.agg (crA x A c),.int .i64 t] w fun e w'=>e = .returned (.int .i64 (docE (its es) p t:Int))∧∃v' es',DCa w' N B q v' es'∧its es'=docL (its es) p x t∧Chg (PT q v) w w'∧(∀k,DO q v' k→DO q v k∨w.heap.size≤k):=by
 obtain⟨A0,c0,rfl,_,_,hr⟩:=h.num
 obtain⟨n,en⟩:∃n,n=es.length:=⟨_,rfl⟩
 have EN:=Lib.hid en
 have hb0:=h.blk
 rw[←en] at hb0 hl
 obtain⟨xs,exs⟩:∃xs,xs=crA x A c:=⟨_,rfl⟩
 rw[←exs]
 have HXI:=Lib.hid (show(Try.prog.info? 38).map (·.size)=some xs.size by rw[exs,crA_size];exact cr_info)
 obtain⟨y,ey⟩:∃y:En,y=⟨p,x,A,c⟩:=⟨_,rfl⟩
 have EY:=Lib.hid ey
 have HYP:=Lib.hid (show y.p=p by rw[ey])
 obtain⟨ys,eys⟩:∃ys,ys=enA y:=⟨_,rfl⟩
 have YS:=Lib.hid eys
 obtain⟨M,eM⟩:∃M,M=w.heap.size:=⟨_,rfl⟩
 obtain⟨W,eW⟩:∃W,W=(w.alloc (.cells #[.string ⟨p.1.toArray⟩,.string ⟨p.2.toArray⟩] 31)).alloc (.cells xs 38):=⟨_,rfl⟩
 have hb:Below w.heap.size w W:=eW▸((Below.refl _ _).alloc (Nat.le_refl _) _).alloc (by simp) _
 have hp:Blk W w.heap.size 31 #[.string ⟨p.1.toArray⟩,.string ⟨p.2.toArray⟩]:=eW▸(Blk.new w _ _).alloc _
 have hxb:Blk W (w.heap.size+1) 38 xs:=by have:=Blk.new (w.alloc (.cells #[.string ⟨p.1.toArray⟩,.string ⟨p.2.toArray⟩] 31)) 38 xs;simp only[World.size_alloc] at this;exact eW▸this
 have hql:=h.lt
 have hqc:=hb0.cell 0
 rw[←eM] at hb hp hxb hr hql
 have HB:=Lib.hid hb
 have HP:=Lib.hid hp
 have HX:=Lib.hid hxb
 have HR:=Lib.hid hr
 have HQ:=Lib.hid hql
 have HH:=Lib.hid h
 have HXR:=Lib.hid hx
 have EM:=Lib.hid eM
 have HM:=Lib.hid (show ∀w1:World,Below M w w1→M≤w1.heap.size from fun w1 h=>by rw[eM];exact h.size)
 have BI:=Lib.hid (show Try.prog.built 65 [(0,prV p),(1,.agg xs)]=some ys by rw[eys,exs,ey];exact built_item p x A c)
 have HL:=Lib.hid hl
 have KQ:=Lib.hid (fun(w1:World) (hb:Below M w w1)=>((hb.cell (p:=⟨q,0,none⟩) hql).trans hqc:w1.cell? ⟨q,0,none⟩=some (.slice A0 n c0)))
 obtain⟨iE,hiE,hzE,hsE,hbE⟩:=info_parts item_all
 have KI1:=Lib.hid hiE;have KI2:=Lib.hid hzE;have KI3:=Lib.hid hsE;have KI4:=Lib.hid hbE
 clear h hx hb hp hxb hql hqc hr hb0 en exs ey eys hl hiE hzE hsE hbE
 have k0:=KQ.out W HB.out
 go_enter Try.func12,Try.ntmps12
 go_upto_region 1 with fail
 rw[←eW,←eM]
 clear eW eM
 go_wp2
 go_loopw [9,10,11] (fun lv hv iv wr=>∃(i:Nat) (acc:List En) (hd:Bool),i≤n∧iv = .int .i64 (i:Int)∧hv = .bool hd∧hd=hadE p t (es.take i)∧acc=accE y t (es.take i)∧wr.ownsRow (M+2) 65 39 lv acc.length (acc.flatMap enC)∧Below M w wr∧Blk wr M 31 #[.string ⟨p.1.toArray⟩,.string ⟨p.2.toArray⟩]∧Blk wr (M+1) 38 xs) (fun _ _ iv _=>n - (intOf iv).toNat)
 case atStart=>exact⟨0,[],false,Nat.zero_le _,rfl,rfl,rfl,rfl,World.ownsRow_nil _ _ _ _,HB.out,HP.out,HX.out⟩
 case round=>
  clear HB HP HX k0
  obtain⟨i,acc,hd,hi,rfl,rfl,hhd,hacc,ho,hb,hp,hxb⟩:=hrel
  have HD:=Lib.hid hhd;have HA:=Lib.hid hacc;have HO:=Lib.hid ho;have HB:=Lib.hid hb;have HP:=Lib.hid hp;have HX:=Lib.hid hxb
  have k0:=KQ.out wr hb
  clear hhd hacc ho hb hp hxb
  by_cases hlt:i<n
  ·have e1:(i:Int)<(n:Int):=by omega
   have e2:(0:Int)≤(i:Int):=by omega
   have e8:(i:Int)≤1000:=by have:=HL.out;omega
   obtain⟨z,hz⟩:∃z,es[i]? = some z:=⟨es[i]'(by rw[←EN.out];exact hlt),List.getElem?_eq_getElem _⟩
   obtain⟨g,rfl,hgM,hra⟩:=(HR.out.keep HB.out).at_ hz
   have hra0:=fun(w1:World) (h:Below wr.heap.size wr w1)=>(fun j v hv=>((h.mono (Nat.le_refl _)).cell (p:=⟨g,_,none⟩) (Nat.lt_of_lt_of_le hgM (by have:=HB.out.size;rw[EM.out];exact this))).trans (hra j v hv):w1.rangeAt g (i*39) (enC z))
   have HRA:=Lib.hid hra0
   have ke:wr.cell? ⟨g,i*39+38,none⟩=some (.int .i64 z.x.e):=en_end hra
   have HZ:=Lib.hid hz
   clear hra hra0 hz
   by_cases h1:z.x.e<t
   ·have t1:decide (z.x.e<t)=true:=decide_eq_true h1
    have hlv:=live_take (t:=t) HZ.out
    rw[if_pos h1] at hlv
    have HLV:=Lib.hid hlv
    clear h1 hlv
    go_wp2
    go_roundw
    case rel=>exact⟨i+1,acc,hd,by omega,by go_num,rfl,by rw[HD.out,hadE,hadE,HLV.out],by rw[HA.out,accE,accE,HLV.out],HO.out,HB.out,HP.out,HX.out⟩
    case measure=>simp [intOf];omega
   ·have t1:decide (z.x.e<t)=false:=decide_eq_false h1
    have hlv:=live_take (t:=t) HZ.out
    rw[if_neg h1] at hlv
    have HLV:=Lib.hid hlv
    clear h1 hlv
    go_upto_region 7 with fail
    clear ke k0
    have HAL:=Lib.hid (show acc.length+1≤100000 by have:=acc_len y t (es.take i);rw[←HA.out,List.length_take] at this;have:=HL.out;omega)
    obtain⟨zs,ezs⟩:∃zs,zs=enA z:=⟨_,rfl⟩
    have ZS:=Lib.hid ezs
    clear ezs
    have kq0:wr.cell? ⟨g,i*39,none⟩=some (.string ⟨z.p.1.toArray⟩):=(HRA.out wr (Below.refl _ _)) 0 _ rfl
    have kq1:wr.cell? ⟨g,i*39+1,none⟩=some (.string ⟨z.p.2.toArray⟩):=(HRA.out wr (Below.refl _ _)) 1 _ rfl
    have kp0:wr.cell? ⟨M,0,none⟩=some (.string ⟨p.1.toArray⟩):=HP.out.cell 0
    have kp1:wr.cell? ⟨M,1,none⟩=some (.string ⟨p.2.toArray⟩):=HP.out.cell 1
    have k0:=KQ.out wr HB.out
    by_cases h2:z.p=p
    ·have q1:=eql_pr_yes h2
     have HEQ:=Lib.hid h2
     clear h2
     go_quiet (fail)
     obtain⟨W7,eW7⟩:∃W7,W7=wr.drewN nq:=⟨_,rfl⟩
     have hb7:Below wr.heap.size wr W7:=eW7▸below_drewN (Below.refl _ _) _
     rw[←eW7]
     clear eW7 k0 kq0 kq1 kp0 kp1
     replace HO:=Lib.hid (own_kept HO.out hb7)
     replace HB:=Lib.hid (HB.out.trans (hb7.mono (HM.out _ HB.out)))
     replace HP:=Lib.hid (HP.out.below hb7)
     replace HX:=Lib.hid (HX.out.below hb7)
     have HRZ:=Lib.hid (HRA.out W7 hb7)
     have k0:=KQ.out W7 HB.out
     have kp0:W7.cell? ⟨M,0,none⟩=some (.string ⟨p.1.toArray⟩):=HP.out.cell 0
     have kp1:W7.cell? ⟨M,1,none⟩=some (.string ⟨p.2.toArray⟩):=HP.out.cell 1
     clear hb7
     go_wp2_with (first
      |(refine Wh.load_g (by rfl) 38 (.tmp 6) (by rfl) _ 0 (by rfl) xs _ (Wh.range_blk HX.out) Try.underlying38 (by rfl) HXI.out ?_)
      |(refine wpl_build (by rfl) 65 #[(0,.tmp 43),(1,.tmp 44)] (by rfl) (vs:=[(0,prV p),(1,.agg xs)]) (by go_simp) BI.out ?_)
      |(refine Wh.build_one (by rfl) 27 65 (.tmp 45) (by rfl) ys (by rfl) iE _ Try.underlying27 KI1.out KI2.out (by rw[KI3.out,YS.out,enA_size]) (by rw[YS.out,enA_size];omega) (by rw[YS.out,enA_size];omega) ?_;intro W8 e8;have hb8:Below W7.heap.size W7 W8:=e8▸(Below.refl _ _).alloc (Nat.le_refl _) _;have HNB:=Lib.hid (show Blk W8 W7.heap.size 65 ys from e8▸Blk.new _ _ _);clear e8;replace HO:=Lib.hid (own_kept HO.out hb8);replace HB:=Lib.hid (HB.out.trans (hb8.mono (HM.out _ HB.out)));replace HP:=Lib.hid (HP.out.below hb8);replace HX:=Lib.hid (HX.out.below hb8);clear hb8)
      |(at_builtin;refine Wh.app_one enC 39 136 enC_length enC_one (by rfl) (.tmp 42) (.tmp 46) 27 65 (by rfl) iE _ Try.underlying27 KI1.out KI2.out KI3.out KI4.out (enA_size _) (by omega) (by omega) (M+2) _ acc (by rfl) HO.out y W7.heap.size (by rfl) (by rw[show(enC y).toArray=ys from YS.out.symm];exact HNB.out) (by have:=HAL.out;omega) HX.out.lt ?_;intro v9 w9 ho9 hg9 hv9;replace HB:=Lib.hid (HB.out.grown hg9 (Nat.le_trans (by omega) (Nat.le_of_lt HX.out.lt)) (fun k hk=>Nat.le_trans (by omega) (World.ownsRow.lt HO.out k hk).1));replace HP:=Lib.hid (HP.out.grown hg9 (fun x=>by have:=(World.ownsRow.lt HO.out _ x).1;omega));replace HX:=Lib.hid (HX.out.grown hg9 (fun x=>by have:=(World.ownsRow.lt HO.out _ x).1;omega));replace HO:=Lib.hid ho9;clear ho9 hg9 hv9)
      |fail)
     go_roundw
     case rel=>exact⟨i+1,acc++[y],true,by omega,by go_num,rfl,by rw[hadE,HLV.out,List.any_append];simp [HEQ.out],by rw[HA.out,accE,accE,HLV.out,List.map_append,List.map_singleton,anewE,if_pos (by rw[HYP.out];exact HEQ.out)],HO.out,HB.out,HP.out,HX.out⟩
     case measure=>simp [intOf];omega
    ·have q1:=eql_pr_no h2
     have HEQ:=Lib.hid h2
     clear h2
     go_quiet (fail)
     obtain⟨W7,eW7⟩:∃W7,W7=wr.drewN nq:=⟨_,rfl⟩
     have hb7:Below wr.heap.size wr W7:=eW7▸below_drewN (Below.refl _ _) _
     rw[←eW7]
     clear eW7 k0 kq0 kq1 kp0 kp1
     replace HO:=Lib.hid (own_kept HO.out hb7)
     replace HB:=Lib.hid (HB.out.trans (hb7.mono (HM.out _ HB.out)))
     replace HP:=Lib.hid (HP.out.below hb7)
     replace HX:=Lib.hid (HX.out.below hb7)
     have HRZ:=Lib.hid (HRA.out W7 hb7)
     have k0:=KQ.out W7 HB.out
     have kp0:W7.cell? ⟨M,0,none⟩=some (.string ⟨p.1.toArray⟩):=HP.out.cell 0
     have kp1:W7.cell? ⟨M,1,none⟩=some (.string ⟨p.2.toArray⟩):=HP.out.cell 1
     clear hb7
     go_wp2_with (first
      |(refine Wh.load_g (by rfl) 65 (.tmp 54) (by rfl) g _ (by rfl) zs _ (by rw[ZS.out,enA_toList];exact HRZ.out) Try.underlying65 (by rfl) (by rw[ZS.out,enA_size];exact item_info) ?_)
      |(refine Wh.build_one (by rfl) 27 65 (.tmp 55) (by rfl) zs (by rfl) iE _ Try.underlying27 KI1.out KI2.out (by rw[KI3.out,ZS.out,enA_size]) (by rw[ZS.out,enA_size];omega) (by rw[ZS.out,enA_size];omega) ?_;intro W8 e8;have hb8:Below W7.heap.size W7 W8:=e8▸(Below.refl _ _).alloc (Nat.le_refl _) _;have HNB:=Lib.hid (show Blk W8 W7.heap.size 65 zs from e8▸Blk.new _ _ _);clear e8;replace HO:=Lib.hid (own_kept HO.out hb8);replace HB:=Lib.hid (HB.out.trans (hb8.mono (HM.out _ HB.out)));replace HP:=Lib.hid (HP.out.below hb8);replace HX:=Lib.hid (HX.out.below hb8);clear hb8)
      |(at_builtin;refine Wh.app_one enC 39 136 enC_length enC_one (by rfl) (.tmp 48) (.tmp 56) 27 65 (by rfl) iE _ Try.underlying27 KI1.out KI2.out KI3.out KI4.out (enA_size _) (by omega) (by omega) (M+2) _ acc (by rfl) HO.out z W7.heap.size (by rfl) (by rw[show(enC z).toArray=zs from ZS.out.symm];exact HNB.out) (by have:=HAL.out;omega) HX.out.lt ?_;intro v9 w9 ho9 hg9 hv9;replace HB:=Lib.hid (HB.out.grown hg9 (Nat.le_trans (by omega) (Nat.le_of_lt HX.out.lt)) (fun k hk=>Nat.le_trans (by omega) (World.ownsRow.lt HO.out k hk).1));replace HP:=Lib.hid (HP.out.grown hg9 (fun x=>by have:=(World.ownsRow.lt HO.out _ x).1;omega));replace HX:=Lib.hid (HX.out.grown hg9 (fun x=>by have:=(World.ownsRow.lt HO.out _ x).1;omega));replace HO:=Lib.hid ho9;clear ho9 hg9 hv9)
      |fail)
     go_roundw
     case rel=>exact⟨i+1,acc++[z],hd,by omega,by go_num,rfl,by rw[HD.out,hadE,hadE,HLV.out,List.any_append];simp [HEQ.out],by rw[HA.out,accE,accE,HLV.out,List.map_append,List.map_singleton,anewE,if_neg (by rw[HYP.out];exact HEQ.out)],HO.out,HB.out,HP.out,HX.out⟩
     case measure=>simp [intOf];omega
  ·have e1:¬(i:Int)<(n:Int):=by omega
   obtain rfl:n=i:=by omega
   have hfull:es.take n=es:=by rw[EN.out];exact List.take_length ..
   rw[hfull] at HD HA
   have HAL:=Lib.hid (show acc.length+1≤100000 by have:=acc_len y t es;rw[←HA.out,←EN.out] at this;have:=HL.out;omega)
   obtain⟨A2,c2,rfl,_,_,_⟩:=own_rdr enC_length HO.out
   have hrd:∀e∈acc,Rd w N e.A (bvs e.x.b):=fun e he=>by
    rw[HA.out] at he
    rcases acc_mem he with rfl | he
    ·rw[EY.out];exact HXR.out
    ·exact HH.out.rd e he
   have hry:Rd w N y.A (bvs y.x.b):=by rw[EY.out];exact HXR.out
   have HRD:=Lib.hid hrd;have HRY:=Lib.hid hry
   have hqb:Blk wr q 29 #[.slice A0 es.length c0]:=(HB.out.block q HQ.out).trans HH.out.blk
   have hc0:Chg (PT q (.slice A0 es.length c0)) w wr:=Chg.of_below (by rw[←EM.out];exact HB.out)
   have f0:=hqb.frozen 0
   obtain⟨m,em⟩:∃m,m=acc.length:=⟨_,rfl⟩
   have hset:=dca_set HH.out (by rw[←EM.out];exact Nat.le_add_right _ _) hc0 hqb HO.out hrd
   have hdoc1:docE (its es) p t=if hd=true then 0 else if (live (its es) t).length<10 then 0 else 13:=by rw[docE,HD.out,had_live]
   have hdoc2:docL (its es) p x t=if hd=true then its acc else if (live (its es) t).length<10 then live (its es) t++[(p,x)] else live (its es) t:=by
    rw[docL,HD.out,had_live,HA.out,its_acc,EY.out]
   have hnot:hd=false→its acc=live (its es) t:=fun h=>by rw[HA.out,acc_not (by rw[HYP.out,←HD.out,h]),its_live]
   rw[←em] at HO hset⊢
   obtain⟨W1,eW1⟩:∃W1,W1=wr.setCell ⟨q,0,none⟩ (.slice A2 m c2):=⟨_,rfl⟩
   rw[←eW1] at hset
   have HS:=Lib.hid hset
   have ED:=Lib.hid hdoc1;have EL:=Lib.hid hdoc2
   have EMM:=Lib.hid em
   have HQB:=Lib.hid hqb
   cases hd with
   |true=>
    clear hnot hdoc1 hdoc2 hset hrd hry hc0 hqb hfull em
    go_upto_region 12 with fail
    rw[←eW1]
    clear eW1 k0 f0
    go_wp2
    go_ret
    exact⟨by rw[ED.out];rfl,_,acc,HS.out.1,by rw[EL.out];simp,HS.out.2.1,HS.out.2.2⟩
   |false=>
    have hil:=hnot rfl
    have hll:(live (its es) t).length=m:=by rw[←hil,its_length,em]
    have HIL:=Lib.hid hil;have HLL:=Lib.hid hll
    by_cases h10:m<10
    ·have t2:decide ((10:Int)≤(m:Int))=false:=by simp;omega
     have H10:=Lib.hid h10
     clear hnot hdoc1 hdoc2 hset hrd hry hc0 hqb hfull hil hll h10 em
     go_upto_region 12 with fail
     rw[←eW1]
     have hbw:Chg (fun k=>k=q) wr W1:=eW1▸Chg.set (p:=⟨q,0,none⟩) (Chg.refl (fun k=>k=q) wr) (.inl rfl) _
     clear eW1 k0 f0
     have hqm:q<M:=by have:=HQ.out;exact this
     replace HP:=Lib.hid (hbw.blk HP.out (by omega))
     replace HX:=Lib.hid (hbw.blk HX.out (by omega))
     replace HO:=Lib.hid (own_chg hbw HO.out (fun k hk x=>by have:=(World.ownsRow.lt HO.out k hk).1;omega))
     have HC:=Lib.hid HS.out.2.1
     have HQ1:=Lib.hid HS.out.1.blk
     have kp0:W1.cell? ⟨M,0,none⟩=some (.string ⟨p.1.toArray⟩):=HP.out.cell 0
     have kp1:W1.cell? ⟨M,1,none⟩=some (.string ⟨p.2.toArray⟩):=HP.out.cell 1
     clear hbw
     go_wp2_with (first
      |(refine Wh.load_g (by rfl) 38 (.tmp 6) (by rfl) _ 0 (by rfl) xs _ (Wh.range_blk HX.out) Try.underlying38 (by rfl) HXI.out ?_)
      |(refine wpl_build (by rfl) 65 #[(0,.tmp 68),(1,.tmp 69)] (by rfl) (vs:=[(0,prV p),(1,.agg xs)]) (by go_simp) BI.out ?_)
      |(refine Wh.build_one (by rfl) 27 65 (.tmp 70) (by rfl) ys (by rfl) iE _ Try.underlying27 KI1.out KI2.out (by rw[KI3.out,YS.out,enA_size]) (by rw[YS.out,enA_size];omega) (by rw[YS.out,enA_size];omega) ?_;intro W8 e8;have hb8:Below W1.heap.size W1 W8:=e8▸(Below.refl _ _).alloc (Nat.le_refl _) _;have HNB:=Lib.hid (show Blk W8 W1.heap.size 65 ys from e8▸Blk.new _ _ _);clear e8;replace HO:=Lib.hid (own_kept HO.out hb8);replace HC:=Lib.hid (HC.out.trans (Chg.of_below hb8) (fun _ _ x=>x));replace HQ1:=Lib.hid (HQ1.out.below hb8);replace HX:=Lib.hid (HX.out.below hb8);clear hb8)
      |(at_builtin;refine Wh.app_one enC 39 136 enC_length enC_one (by rfl) (.tmp 67) (.tmp 71) 27 65 (by rfl) iE _ Try.underlying27 KI1.out KI2.out KI3.out KI4.out (enA_size _) (by omega) (by omega) (M+2) (.slice A2 m c2) acc (by rfl) (by rw[←EMM.out];exact HO.out) y W1.heap.size (by rfl) (by rw[show(enC y).toArray=ys from YS.out.symm];exact HNB.out) (by have:=HAL.out;omega) HX.out.lt ?_;intro v9 w9 ho9 hg9 hv9;have hqn:(Value.slice A2 m c2).ownBlock≠some q:=fun x=>(by have:=(World.ownsRow.lt HO.out _ x).1;omega);have HC9:=Lib.hid (HC.out.trans (chg_row hg9) (fun k hk x=>by have:=(World.ownsRow.lt HO.out _ x).1;have:=EM.out;omega));have HQ9:=Lib.hid (HQ1.out.grown hg9 hqn);have f9:=HQ9.out.frozen 0;have k9:w9.cell? ⟨q,0,none⟩=some (.slice A2 m c2):=HQ9.out.cell 0;obtain⟨A9,c9,rfl,_⟩:=own_rdr enC_length ho9;obtain⟨m9,em9⟩:∃m9,m9=(acc++[y]).length:=⟨_,rfl⟩;rw[←em9] at ho9⊢;have HO9:=Lib.hid ho9;have EM9:=Lib.hid em9;clear em9;clear ho9 hg9 hv9 hqn)
      |fail)
     go_ret
     have hfin:=dca_set (M:=M+2) HH.out (by rw[←EM.out];exact Nat.le_add_right _ _) HC9.out HQ9.out (by rw[←EM9.out];exact HO9.out) (fun e he=>by
      rcases List.mem_append.1 he with he | he
      ·exact HRD.out e he
      ·rw[List.mem_singleton] at he;subst he;exact HRY.out)
     exact⟨by rw[ED.out,if_neg (by simp),if_pos (by rw[HLL.out];exact H10.out)];rfl,_,acc++[y],hfin.1,by rw[EL.out,if_neg (by simp),if_pos (by rw[HLL.out];exact H10.out),←HIL.out,EY.out];simp [its,En.it],hfin.2.1,hfin.2.2⟩
    ·have t2:decide ((10:Int)≤(m:Int))=true:=by simp;omega
     have H10:=Lib.hid h10
     clear hnot hdoc1 hdoc2 hset hrd hry hc0 hqb hfull hil hll h10 em
     go_upto_region 12 with fail
     rw[←eW1]
     clear eW1 k0 f0
     go_wp2
     go_ret
     exact⟨by rw[ED.out,if_neg (by simp),if_neg (by rw[HLL.out];exact H10.out)];rfl,_,acc,HS.out.1,by rw[EL.out,if_neg (by simp),if_neg (by rw[HLL.out];exact H10.out),HIL.out],HS.out.2.1,HS.out.2.2⟩
end Go.Proofs.Ytlacoakelliabaa.Ca
end
