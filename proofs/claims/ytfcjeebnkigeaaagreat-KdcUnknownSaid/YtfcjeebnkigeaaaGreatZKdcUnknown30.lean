/-
  The statement of KdcUnknown: the walk's contract carried to the row: for every input the call answers true, and each argument reads as it did.
-/
import Derived.Test.YtfcjeebnkigeaaaGreatRows
import Derived.WalkKit
import Derived.ProofKit
import Derived.OpenShut
import Derived.ShutString
import Derived.ChangeOld
import Derived.Below
import Derived.SizedLaws
import Derived.DeepKeys
import Derived.Laws.StructEq
import Derived.BigQuiet
import Derived.Deep.QuietTactic
import Derived.StillTailTactics
import Derived.Deep.LoopGhost
import Derived.Deep.RegionHeld3
import Derived.Lib.MinMax
import Derived.Laws.OwnMore
import Derived.Test.YtfcjeebnkigeaaaGreatZKdcUnknown1
import Derived.Test.YtfcjeebnkigeaaaGreatZKdcUnknown2
import Derived.Test.YtfcjeebnkigeaaaGreatZKdcUnknown3
import Derived.Test.YtfcjeebnkigeaaaGreatZKdcUnknown4
import Derived.Test.YtfcjeebnkigeaaaGreatZKdcUnknown5
import Derived.Test.YtfcjeebnkigeaaaGreatZKdcUnknown6
import Derived.Test.YtfcjeebnkigeaaaGreatZKdcUnknown7
import Derived.Test.YtfcjeebnkigeaaaGreatZKdcUnknown8
import Derived.Test.YtfcjeebnkigeaaaGreatZKdcUnknown9
import Derived.Test.YtfcjeebnkigeaaaGreatZKdcUnknown10
import Derived.Test.YtfcjeebnkigeaaaGreatZKdcUnknown11
import Derived.Test.YtfcjeebnkigeaaaGreatZKdcUnknown12
import Derived.Test.YtfcjeebnkigeaaaGreatZKdcUnknown13
import Derived.Test.YtfcjeebnkigeaaaGreatZKdcUnknown14
import Derived.Test.YtfcjeebnkigeaaaGreatZKdcUnknown15
import Derived.Test.YtfcjeebnkigeaaaGreatZKdcUnknown16
import Derived.Test.YtfcjeebnkigeaaaGreatZKdcUnknown17
import Derived.Test.YtfcjeebnkigeaaaGreatZKdcUnknown18
import Derived.Test.YtfcjeebnkigeaaaGreatZKdcUnknown19
import Derived.Test.YtfcjeebnkigeaaaGreatZKdcUnknown20
import Derived.Test.YtfcjeebnkigeaaaGreatZKdcUnknown21
import Derived.Test.YtfcjeebnkigeaaaGreatZKdcUnknown22
import Derived.Test.YtfcjeebnkigeaaaGreatZKdcUnknown23
import Derived.Test.YtfcjeebnkigeaaaGreatZKdcUnknown24
import Derived.Test.YtfcjeebnkigeaaaGreatZKdcUnknown25
import Derived.Test.YtfcjeebnkigeaaaGreatZKdcUnknown26
import Derived.Test.YtfcjeebnkigeaaaGreatZKdcUnknown27
import Derived.Test.YtfcjeebnkigeaaaGreatZKdcUnknown28
import Derived.Test.YtfcjeebnkigeaaaGreatZKdcUnknown29
section
namespace Go.Proofs.YtfcjeebnkigeaaaGreat.kdcUnknown
open Go.ChangeShapes Go.WideShapes Go.ChangeAt Go.RowKit Go.Proofs.YtfcjeebnkigeaaaGreat
open Go.ChangeMaps (open_string shut_string)
theorem own:ownKnob Tryz.prog.godebug=none:=by kernel_rfl
theorem laidOut:laidOutB Tryz.prog=true:=by kernel_rfl
set_option maxRecDepth 100000 in
theorem lifted (os:Os) (started:os.Started) (H:Type) (enc:TypeId×Value→H) :
  ReturnsInHanded {} Tryz.checked os 12 .any (Rows.kdcUnknownSpec.pre6 enc Tryz.prog Tryz.f12 Rows.kdcUnknownRow.domain false) (Rows.kdcUnknownSpec.post enc Tryz.prog Tryz.f12 false true false false):=by
 refine returnsInHanded_of_change_sized (C:=Tryz.checked) own started (by kernel_rfl) Tryz.func12
  (ChangeSpec.witness6 (enc:=enc) (C:=Tryz.checked) false ⟨#[],#[.agg #[.string ⟨#[]⟩,.string ⟨#[]⟩],.agg #[.string ⟨#[]⟩,.string ⟨#[]⟩]],[]⟩ 8 (by kernel_rfl) (by kernel_rfl) (by kernel_rfl) (by kernel_rfl)) ?_
 intro W base args ds gs before hval0 hW hcnd hsz _
 have hval:∀(j:Nat) t v,Tryz.f12.params[j]? = some t→args[j]? = some v→Value.okWide Tryz.prog W .any base t v:=hval0
 have hW':=hW
 obtain⟨p,q,hA0,hV,rfl,hfz,hnd⟩:=hW
 have hA:DataW.TrodAll enc Tryz.prog W 0 (fun _=>true) true Tryz.f12.params.toList args.toList ds p:=hA0
 rw[Tryz.params12] at hA hval
 obtain⟨v0,vs0,d0,ds0,p0,q0,hargs,rfl,rfl,h0,r0⟩:=trodAll_cons hA
 obtain⟨v1,vs1,d1,ds1,p1,q1,rfl,rfl,rfl,h1,r1⟩:=trodAll_cons r0
 obtain⟨rfl,rfl,rfl⟩:=trodAll_nil r1
 obtain rfl:args=#[v0,v1]:=by cases args;simp_all
 obtain⟨rfl,rfl⟩:=trodVars_none hV
 have k0:=h0
 have lt0:∀x∈p0,x.block<W.heap.size:=by obtain⟨m,hm⟩:=k0;exact DataW.trod_lt m _ _ _ hm
 have wt0:∀n∈DataW.weights Tryz.prog 27 d0,n≤reachBytes:=fun n hn=>by have:=List.all_eq_true.1 hsz n (DataW.weights_mem_each (j:=0) (t:=27) (d:=d0) (by rw[Tryz.params12];rfl) rfl n hn);simpa using this
 obtain⟨cs0,n0,rfl,f0⟩:=OpenP.open_st Tryz.underlying27 (hval 0 27 v0 rfl rfl) h0
 obtain⟨x0,e0,lp0,lq0⟩:=OpenP.in_pr f0 (wt0)
 obtain rfl:cs0=#[.string ⟨x0.1.toArray⟩,.string ⟨x0.2.toArray⟩]:=by rw[←Array.toArray_toList (xs:=cs0),e0]
 have k1:=h1
 have lt1:∀x∈p1,x.block<W.heap.size:=by obtain⟨m,hm⟩:=k1;exact DataW.trod_lt m _ _ _ hm
 have wt1:∀n∈DataW.weights Tryz.prog 27 d1,n≤reachBytes:=fun n hn=>by have:=List.all_eq_true.1 hsz n (DataW.weights_mem_each (j:=1) (t:=27) (d:=d1) (by rw[Tryz.params12];rfl) rfl n hn);simpa using this
 obtain⟨cs1,n1,rfl,f1⟩:=OpenP.open_st Tryz.underlying27 (hval 1 27 v1 rfl rfl) h1
 obtain⟨x1,e1,lp1,lq1⟩:=OpenP.in_pr f1 (wt1)
 obtain rfl:cs1=#[.string ⟨x1.1.toArray⟩,.string ⟨x1.2.toArray⟩]:=by rw[←Array.toArray_toList (xs:=cs1),e1]
 clear hA0 hval0
 refine(Kd.unk x0 x1 W lp0 lq0 lp1 lq1).mono fun e W' ⟨he,bel⟩=>?_
 subst he
 exact⟨_,rfl,_,_,_,[],_,[],hW',trodAll_mk1 (shut_bool Tryz.underlying4 _),(trodAll_cons_mk (Below.trod laidOut (by kernel_rfl) (of_decide_eq_true (by kernel_rfl)) k0 bel lt0) (trodAll_cons_mk (Below.trod laidOut (by kernel_rfl) (of_decide_eq_true (by kernel_rfl)) k1 bel lt1) trodAll_mk0)),rfl,bel.frame _,fun h=>by cases h⟩
set_option maxRecDepth 100000 in
set_option maxHeartbeats 6400000 in
theorem joined:joinedFacts Tryz.pinned.checked.prog 12 Tryz.f12 Rows.kdcUnknownSpec Rows.kdcUnknownRow=true:=by
 simp only[joinedFacts,Bool.and_eq_true]
 repeat' apply And.intro
 all_goals as_aux_lemma=>kernel_rfl
theorem over:Rows.kdcUnknownRow.holds Tryz.pinned (OpenSpec.ofChange Rows.kdcUnknownSpec):=
 OpenClaim.holds_of_wide 12 Tryz.f12 rfl rfl rfl rfl rfl rfl rfl ⟨rfl,rfl,rfl,rfl,rfl⟩ rfl rfl rfl rfl rfl (by kernel_rfl) Tryz.func12 joined
  (of_decide_eq_true (by kernel_rfl)) (by unfold Func.isWrapper;first | (rw[if_pos (by decide +kernel)];kernel_rfl) | (rw[if_neg (by decide +kernel)];exact⟨rfl,rfl⟩))
  (fun os started H enc _=>lifted os started H enc)
theorem proved:Rows.KdcUnknownSaid:=over
end Go.Proofs.YtfcjeebnkigeaaaGreat.kdcUnknown
end
