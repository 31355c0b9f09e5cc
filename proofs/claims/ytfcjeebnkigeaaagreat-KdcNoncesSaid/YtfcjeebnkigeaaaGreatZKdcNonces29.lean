/-
  The statement of KdcNonces: the walk's contract carried to the row: for every input the call answers true, and each argument reads as it did.
-/
import Derived.Deep.Grids
import Derived.Test.YtfcjeebnkigeaaaGreatRows
import Derived.WalkKit
import Derived.ProofKit
import Derived.OpenShut
import Derived.ShutString
import Derived.ChangeOld
import Derived.Below
import Derived.SizedLaws
import Derived.Deep.LoopGhost
import Derived.StillTailTactics
import Derived.BigQuiet
import Derived.Deep.QuietTactic
import Derived.Deep.RegionHeld3
import Derived.DeepKeys
import Derived.Laws.StructEq
import Derived.Laws.OwnMore
import Derived.Lib.SmallJoins
import Derived.Deep.Strs
import Derived.ChangeSame
import Derived.Lib.MinMax
import Derived.Test.YtfcjeebnkigeaaaGreatZKdcNonces1
import Derived.Test.YtfcjeebnkigeaaaGreatZKdcNonces2
import Derived.Test.YtfcjeebnkigeaaaGreatZKdcNonces3
import Derived.Test.YtfcjeebnkigeaaaGreatZKdcNonces4
import Derived.Test.YtfcjeebnkigeaaaGreatZKdcNonces5
import Derived.Test.YtfcjeebnkigeaaaGreatZKdcNonces6
import Derived.Test.YtfcjeebnkigeaaaGreatZKdcNonces7
import Derived.Test.YtfcjeebnkigeaaaGreatZKdcNonces8
import Derived.Test.YtfcjeebnkigeaaaGreatZKdcNonces9
import Derived.Test.YtfcjeebnkigeaaaGreatZKdcNonces10
import Derived.Test.YtfcjeebnkigeaaaGreatZKdcNonces11
import Derived.Test.YtfcjeebnkigeaaaGreatZKdcNonces12
import Derived.Test.YtfcjeebnkigeaaaGreatZKdcNonces13
import Derived.Test.YtfcjeebnkigeaaaGreatZKdcNonces14
import Derived.Test.YtfcjeebnkigeaaaGreatZKdcNonces15
import Derived.Test.YtfcjeebnkigeaaaGreatZKdcNonces16
import Derived.Test.YtfcjeebnkigeaaaGreatZKdcNonces17
import Derived.Test.YtfcjeebnkigeaaaGreatZKdcNonces18
import Derived.Test.YtfcjeebnkigeaaaGreatZKdcNonces19
import Derived.Test.YtfcjeebnkigeaaaGreatZKdcNonces20
import Derived.Test.YtfcjeebnkigeaaaGreatZKdcNonces21
import Derived.Test.YtfcjeebnkigeaaaGreatZKdcNonces22
import Derived.Test.YtfcjeebnkigeaaaGreatZKdcNonces23
import Derived.Test.YtfcjeebnkigeaaaGreatZKdcNonces24
import Derived.Test.YtfcjeebnkigeaaaGreatZKdcNonces25
import Derived.Test.YtfcjeebnkigeaaaGreatZKdcNonces26
import Derived.Test.YtfcjeebnkigeaaaGreatZKdcNonces27
import Derived.Test.YtfcjeebnkigeaaaGreatZKdcNonces28
section
namespace Go.Proofs.YtfcjeebnkigeaaaGreat.OpenL
open Go.ChangeShapes Go.WideShapes Go.ChangeAt Go.RowKit Go.Deep Go.Proofs.YtfcjeebnkigeaaaGreat.Mem Go.Proofs.YtfcjeebnkigeaaaGreat.Open
section
variable {H:Type} {enc:TypeId×Value→H} {P:Program} {W:World}
theorem open_bls {t e:TypeId} {v:Value} {d:DataW H} {ps:List MemPlace} (ht:P.underlying t=some (.slice e)) (he:P.underlying e=some .bool) (hc:P.cellsOf e=1)
  (hv:∃A n c,v = .slice A n c) (h:DataW.Trod enc P W 0 (fun _=>true) true t v d ps):∃A l c,v = .slice A (List.length l) c∧Rd W W.heap.size A (l.map Value.bool)∧l.length≤c∧c≤maxLen:=by
 obtain⟨A,n,c,rfl⟩:=hv
 obtain⟨fuel,hf⟩:=h
 rcases open_bools ht he hc hf with⟨hcs,_⟩ | ⟨x,l,c',B,hcs,_,hl,hm,_,hcell⟩
 ·injection hcs with hcs
  exact⟨none,[],0,hcs,.inl rfl,Nat.le_refl _,Nat.zero_le _⟩
 ·injection hcs with hcs
  refine⟨some x,(List.range l).map B,c',by rw[List.length_map,List.length_range];exact hcs,rd_of_cells fun i u hu=>?_,by rw[List.length_map,List.length_range];exact hl,hm⟩
  simp only[List.map_map,List.getElem?_map] at hu
  by_cases hi:i<l
  ·rw[List.getElem?_range hi] at hu
   injection hu with hu
   rw[←hu]
   exact hcell i (by omega)
  ·rw[List.getElem?_eq_none (by simp;omega)] at hu
   cases hu
end
end Go.Proofs.YtfcjeebnkigeaaaGreat.OpenL
end

section
namespace Go.Proofs.YtfcjeebnkigeaaaGreat.kdcNonces
open Go.ChangeShapes Go.WideShapes Go.ChangeAt Go.RowKit Go.Proofs.YtfcjeebnkigeaaaGreat
open Go.ChangeMaps (open_string shut_string)
theorem own:ownKnob Tryz.prog.godebug=none:=by kernel_rfl
theorem laidOut:laidOutB Tryz.prog=true:=by kernel_rfl
set_option maxRecDepth 100000 in
theorem lifted (os:Os) (started:os.Started) (H:Type) (enc:TypeId×Value→H) :
  ReturnsInHanded {} Tryz.checked os 11 .any (Rows.kdcNoncesSpec.pre6 enc Tryz.prog Tryz.f11 Rows.kdcNoncesRow.domain false) (Rows.kdcNoncesSpec.post enc Tryz.prog Tryz.f11 false true false false):=by
 refine returnsInHanded_of_change (C:=Tryz.checked) own started (by kernel_rfl) Tryz.func11
  (ChangeSpec.witness6 (enc:=enc) (C:=Tryz.checked) false ⟨#[],#[.slice none 0 0],[]⟩ 8 (by kernel_rfl) (by kernel_rfl) (by kernel_rfl) (by kernel_rfl)) ?_
 intro W base args ds gs before hval0 hW hcnd _
 have hval:∀(j:Nat) t v,Tryz.f11.params[j]? = some t→args[j]? = some v→Value.okWide Tryz.prog W .any base t v:=hval0
 have hW':=hW
 obtain⟨p,q,hA0,hV,rfl,hfz,hnd⟩:=hW
 have hA:DataW.TrodAll enc Tryz.prog W 0 (fun _=>true) true Tryz.f11.params.toList args.toList ds p:=hA0
 rw[Tryz.params11] at hA hval
 obtain⟨v0,vs0,d0,ds0,p0,q0,hargs,rfl,rfl,h0,r0⟩:=trodAll_cons hA
 obtain⟨rfl,rfl,rfl⟩:=trodAll_nil r0
 obtain rfl:args=#[v0]:=by cases args;simp_all
 obtain⟨rfl,rfl⟩:=trodVars_none hV
 have k0:=h0
 have lt0:∀x∈p0,x.block<W.heap.size:=by obtain⟨m,hm⟩:=k0;exact DataW.trod_lt m _ _ _ hm
 obtain⟨A0,l0,c0,rfl,w0,x0,y0⟩:=OpenL.open_bls Tryz.underlying104 Tryz.underlying4 (by kernel_rfl) (okWide_slice Tryz.underlying104 (hval 0 104 v0 rfl rfl)) h0
 clear hA0 hval0
 refine(Kd.non l0 A0 c0 W w0).mono fun e W' ⟨he,bel⟩=>?_
 subst he
 exact⟨_,rfl,_,_,_,[],_,[],hW',trodAll_mk1 (shut_bool Tryz.underlying4 _),(trodAll_cons_mk (Below.trod laidOut (by kernel_rfl) (of_decide_eq_true (by kernel_rfl)) k0 bel lt0) trodAll_mk0),rfl,bel.frame _,fun h=>by cases h⟩
set_option maxRecDepth 100000 in
set_option maxHeartbeats 6400000 in
theorem joined:joinedFacts Tryz.pinned.checked.prog 11 Tryz.f11 Rows.kdcNoncesSpec Rows.kdcNoncesRow=true:=by
 simp only[joinedFacts,Bool.and_eq_true]
 repeat' apply And.intro
 all_goals as_aux_lemma=>kernel_rfl
theorem over:Rows.kdcNoncesRow.holds Tryz.pinned (OpenSpec.ofChange Rows.kdcNoncesSpec):=
 OpenClaim.holds_of_wide 11 Tryz.f11 rfl rfl rfl rfl rfl rfl rfl ⟨rfl,rfl,rfl,rfl,rfl⟩ rfl rfl rfl rfl rfl (by kernel_rfl) Tryz.func11 joined
  (of_decide_eq_true (by kernel_rfl)) (by unfold Func.isWrapper;first | (rw[if_pos (by decide +kernel)];kernel_rfl) | (rw[if_neg (by decide +kernel)];exact⟨rfl,rfl⟩))
  (fun os started H enc _=>lifted os started H enc)
theorem proved:Rows.KdcNoncesSaid:=over
end Go.Proofs.YtfcjeebnkigeaaaGreat.kdcNonces
end
