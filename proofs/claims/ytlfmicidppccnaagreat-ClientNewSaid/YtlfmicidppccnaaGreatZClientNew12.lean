/-
  The statement of ClientNew: the walk's contract carried to the row: for every input the call answers true, and each argument reads as it did.
-/
import Derived.Test.YtlfmicidppccnaaGreatZClientNew11
set_option maxHeartbeats 25600000
set_option maxRecDepth 100000
set_option linter.unusedVariables false
set_option linter.unusedSimpArgs false
namespace Go.Proofs.YtlfmicidppccnaaGreat
end Go.Proofs.YtlfmicidppccnaaGreat
section
namespace Go.Proofs.YtlfmicidppccnaaGreat.clientNew
open Go.ChangeShapes Go.WideShapes Go.ChangeAt Go.RowKit Go.Proofs.YtlfmicidppccnaaGreat
open Go.ChangeMaps (open_string shut_string)
theorem own:ownKnob Tryz.prog.godebug=none:=by kernel_rfl
theorem laidOut:laidOutB Tryz.prog=true:=by kernel_rfl
theorem lifted (os:Os) (started:os.Started) (H:Type) (enc:TypeId×Value→H) :
  ReturnsInHanded {} Tryz.checked os 9 .any (Rows.clientNewSpec.pre6 enc Tryz.prog Tryz.f9 Rows.clientNewRow.domain false) (Rows.clientNewSpec.post enc Tryz.prog Tryz.f9 false true false false):=by
 refine returnsInHanded_of_change_sized (C:=Tryz.checked) own started (by kernel_rfl) Tryz.func9
  (ChangeSpec.witness6 (enc:=enc) (C:=Tryz.checked) false ⟨#[],#[.agg #[.string ⟨#[]⟩,.string ⟨#[]⟩],.agg #[.string ⟨#[]⟩,.string ⟨#[]⟩],.int .i64 0],[]⟩ 8 (by kernel_rfl) (by kernel_rfl) (by kernel_rfl) (by kernel_rfl)) ?_
 intro W base args ds gs before hval0 hW hcnd hsz _;have hval:∀(j:Nat) t v,Tryz.f9.params[j]? = some t→args[j]? = some v→Value.okWide Tryz.prog W .any base t v:=hval0;have hW':=hW;obtain⟨p,q,hA0,hV,rfl,hfz,hnd⟩:=hW;have hA:DataW.TrodAll enc Tryz.prog W 0 (fun _=>true) true Tryz.f9.params.toList args.toList ds p:=hA0;rw[Tryz.params9] at hA hval;obtain⟨v0,vs0,d0,ds0,p0,q0,hargs,rfl,rfl,h0,r0⟩:=trodAll_cons hA;obtain⟨v1,vs1,d1,ds1,p1,q1,rfl,rfl,rfl,h1,r1⟩:=trodAll_cons r0;obtain⟨v2,vs2,d2,ds2,p2,q2,rfl,rfl,rfl,h2,r2⟩:=trodAll_cons r1;obtain⟨rfl,rfl,rfl⟩:=trodAll_nil r2;obtain rfl:args=#[v0,v1,v2]:=by cases args;simp_all
 obtain⟨rfl,rfl⟩:=trodVars_none hV;have k0:=h0;have lt0:∀x∈p0,x.block<W.heap.size:=by obtain⟨m,hm⟩:=k0;exact DataW.trod_lt m _ _ _ hm
 have wt0:∀n∈DataW.weights Tryz.prog 40 d0,n≤reachBytes:=fun n hn=>by have:=List.all_eq_true.1 hsz n (DataW.weights_mem_each (j:=0) (t:=40) (d:=d0) (by rw[Tryz.params9];rfl) rfl n hn);simpa using this
 obtain⟨cs0,n0,rfl,f0⟩:=OpenP.Gg Tryz.underlying40 (hval 0 40 v0 rfl rfl) h0;obtain⟨x0,e0,lp0,lq0⟩:=OpenP.Kb f0 (wt0);obtain rfl:cs0=#[.string ⟨x0.1.toArray⟩,.string ⟨x0.2.toArray⟩]:=by rw[←Array.toArray_toList (xs:=cs0),e0]
 have k1:=h1;have lt1:∀x∈p1,x.block<W.heap.size:=by obtain⟨m,hm⟩:=k1;exact DataW.trod_lt m _ _ _ hm
 have wt1:∀n∈DataW.weights Tryz.prog 40 d1,n≤reachBytes:=fun n hn=>by have:=List.all_eq_true.1 hsz n (DataW.weights_mem_each (j:=1) (t:=40) (d:=d1) (by rw[Tryz.params9];rfl) rfl n hn);simpa using this
 obtain⟨cs1,n1,rfl,f1⟩:=OpenP.Gg Tryz.underlying40 (hval 1 40 v1 rfl rfl) h1;obtain⟨x1,e1,lp1,lq1⟩:=OpenP.Kb f1 (wt1);obtain rfl:cs1=#[.string ⟨x1.1.toArray⟩,.string ⟨x1.2.toArray⟩]:=by rw[←Array.toArray_toList (xs:=cs1),e1]
 obtain⟨a2,rfl,rfl,rfl,w2⟩:=open_int Tryz.underlying3 (hval 2 3 v2 rfl rfl) h2;clear hA0 hval0;refine(Cln.DN x0 x1 a2 W lp0 lq0 lp1 lq1).mono fun e W' ⟨he,bel⟩=>?_
 subst he;exact⟨_,rfl,_,_,_,[],_,[],hW',trodAll_mk1 (shut_bool Tryz.underlying4 _),(trodAll_cons_mk (Below.trod laidOut (by kernel_rfl) (of_decide_eq_true (by kernel_rfl)) k0 bel lt0) (trodAll_cons_mk (Below.trod laidOut (by kernel_rfl) (of_decide_eq_true (by kernel_rfl)) k1 bel lt1) (trodAll_cons_mk (shut_int Tryz.underlying3 w2) trodAll_mk0))),rfl,bel.frame _,fun h=>by cases h⟩
theorem joined:joinedFacts Tryz.pinned.checked.prog 9 Tryz.f9 Rows.clientNewSpec Rows.clientNewRow=true:=by
 simp only[joinedFacts,Bool.and_eq_true]
 repeat' apply And.intro
 all_goals as_aux_lemma=>kernel_rfl
theorem over:Rows.clientNewRow.holds Tryz.pinned (OpenSpec.ofChange Rows.clientNewSpec):=
 OpenClaim.holds_of_wide 9 Tryz.f9 rfl rfl rfl rfl rfl rfl rfl ⟨rfl,rfl,rfl,rfl,rfl⟩ rfl rfl rfl rfl rfl (by kernel_rfl) Tryz.func9 joined
  (of_decide_eq_true (by kernel_rfl)) (by unfold Func.isWrapper;first | (rw[if_pos (by decide +kernel)];kernel_rfl) | (rw[if_neg (by decide +kernel)];exact⟨rfl,rfl⟩))
  (fun os started H enc _=>lifted os started H enc)
theorem proved:Rows.ClientNewSaid:=over
end Go.Proofs.YtlfmicidppccnaaGreat.clientNew
end
