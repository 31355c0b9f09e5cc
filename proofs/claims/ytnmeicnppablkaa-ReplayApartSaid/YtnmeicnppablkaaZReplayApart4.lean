/-
  The statement of ReplayApart: the walk's contract carried to the row: for every input the call answers true, and each argument reads as it did.
-/
import Derived.Test.YtnmeicnppablkaaRows
import Derived.WalkKit
import Derived.ProofKit
import Derived.OpenShut
import Derived.ShutString
import Derived.ChangeOld
import Derived.Below
import Derived.SizedLaws
import Derived.Laws.StructEq
import Derived.Deep.CutBlock
import Derived.Test.YtnmeicnppablkaaProg
import Derived.Deep.RegionHeld3
import Derived.StillTailTactics
import Derived.Deep.LoopGhost
import Derived.Deep.Matrix
import Derived.Deep.Slices
import Derived.Test.YtnmeicnppablkaaZReplayApart1
import Derived.Test.YtnmeicnppablkaaZReplayApart2
import Derived.Test.YtnmeicnppablkaaZReplayApart3
section
namespace Go.Proofs.Ytnmeicnppablkaa.replayApart
open Go.ChangeShapes Go.WideShapes Go.ChangeAt Go.RowKit Go.Proofs.Ytnmeicnppablkaa
open Go.ChangeMaps (open_string shut_string)
theorem own:ownKnob Try.prog.godebug=none:=by kernel_rfl
theorem laidOut:laidOutB Try.prog=true:=by kernel_rfl
set_option maxRecDepth 100000 in
theorem lifted (os:Os) (started:os.Started) (H:Type) (enc:TypeId×Value→H) :
  ReturnsInHanded {} Try.checked os 8 .any (Rows.replayApartSpec.pre6 enc Try.prog Try.f8 Rows.replayApartRow.domain false) (Rows.replayApartSpec.post enc Try.prog Try.f8 false true false false):=by
 refine returnsInHanded_of_change_sized (C:=Try.checked) own started (by kernel_rfl) Try.func8
  (ChangeSpec.witness6 (enc:=enc) (C:=Try.checked) false ⟨#[],#[.agg #[.string ⟨#[]⟩,.string ⟨#[]⟩,.int .i64 0,.int .i64 0],.agg #[.string ⟨#[]⟩,.string ⟨#[]⟩,.int .i64 0,.int .i64 0]],[]⟩ 8 (by kernel_rfl) (by kernel_rfl) (by kernel_rfl) (by kernel_rfl)) ?_
 intro W base args ds gs before hval0 hW hcnd hsz _
 have hval:∀(j:Nat) t v,Try.f8.params[j]? = some t→args[j]? = some v→Value.okWide Try.prog W .any base t v:=hval0
 have hW':=hW
 obtain⟨p,q,hA0,hV,rfl,hfz,hnd⟩:=hW
 have hA:DataW.TrodAll enc Try.prog W 0 (fun _=>true) true Try.f8.params.toList args.toList ds p:=hA0
 rw[Try.params8] at hA hval
 obtain⟨v0,vs0,d0,ds0,p0,q0,hargs,rfl,rfl,h0,r0⟩:=trodAll_cons hA
 obtain⟨v1,vs1,d1,ds1,p1,q1,rfl,rfl,rfl,h1,r1⟩:=trodAll_cons r0
 obtain⟨rfl,rfl,rfl⟩:=trodAll_nil r1
 obtain rfl:args=#[v0,v1]:=by cases args;simp_all
 obtain⟨rfl,rfl⟩:=trodVars_none hV
 have k0:=h0
 have lt0:∀x∈p0,x.block<W.heap.size:=by obtain⟨m,hm⟩:=k0;exact DataW.trod_lt m _ _ _ hm
 have wt0:∀n∈DataW.weights Try.prog 31 d0,n≤reachBytes:=fun n hn=>by have:=List.all_eq_true.1 hsz n (DataW.weights_mem_each (j:=0) (t:=31) (d:=d0) (by rw[Try.params8];rfl) rfl n hn);simpa using this
 obtain⟨cs0,n0,rfl,f0⟩:=OpenP.open_st Try.underlying31 (hval 0 31 v0 rfl rfl) h0
 obtain⟨x0,e0,lp0,lq0,wa0,wb0⟩:=OpenA.in_an f0 (wt0)
 obtain rfl:cs0=Rp.anA x0:=by rw[←Array.toArray_toList (xs:=cs0),e0]
 have k1:=h1
 have lt1:∀x∈p1,x.block<W.heap.size:=by obtain⟨m,hm⟩:=k1;exact DataW.trod_lt m _ _ _ hm
 have wt1:∀n∈DataW.weights Try.prog 31 d1,n≤reachBytes:=fun n hn=>by have:=List.all_eq_true.1 hsz n (DataW.weights_mem_each (j:=1) (t:=31) (d:=d1) (by rw[Try.params8];rfl) rfl n hn);simpa using this
 obtain⟨cs1,n1,rfl,f1⟩:=OpenP.open_st Try.underlying31 (hval 1 31 v1 rfl rfl) h1
 obtain⟨x1,e1,lp1,lq1,wa1,wb1⟩:=OpenA.in_an f1 (wt1)
 obtain rfl:cs1=Rp.anA x1:=by rw[←Array.toArray_toList (xs:=cs1),e1]
 clear hA0 hval0
 refine(Rp.apart_any x0 x1 W lp0 lq0 lp1 lq1).mono fun e W' ⟨he,bel⟩=>?_
 subst he
 exact⟨_,rfl,_,_,_,[],_,[],hW',trodAll_mk1 (shut_bool Try.underlying4 _),(trodAll_cons_mk (Below.trod laidOut (by kernel_rfl) (of_decide_eq_true (by kernel_rfl)) k0 bel lt0) (trodAll_cons_mk (Below.trod laidOut (by kernel_rfl) (of_decide_eq_true (by kernel_rfl)) k1 bel lt1) trodAll_mk0)),rfl,bel.frame _,fun h=>by cases h⟩
theorem over:Rows.replayApartRow.holds Try.pinned (OpenSpec.ofChange Rows.replayApartSpec):=
 OpenClaim.holds_of_wide 8 Try.f8 rfl rfl rfl rfl rfl rfl rfl ⟨rfl,rfl,rfl,rfl,rfl⟩ rfl rfl rfl rfl rfl (by kernel_rfl) Try.func8 (by kernel_rfl)
  (of_decide_eq_true (by kernel_rfl)) (by unfold Func.isWrapper;first | (rw[if_pos (by decide +kernel)];kernel_rfl) | (rw[if_neg (by decide +kernel)];exact⟨rfl,rfl⟩))
  (fun os started H enc _=>lifted os started H enc)
theorem proved:Rows.ReplayApartSaid:=over
end Go.Proofs.Ytnmeicnppablkaa.replayApart
end
