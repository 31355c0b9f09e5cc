/-
  The statement of ReplayOnce: the walk's contract carried to the row: for every input the call answers true, and each argument reads as it did.
-/
import Derived.Test.YtnmeicnppablkaaRows
import Derived.Maps.OwnSet
import Derived.DeepKeys4
import Derived.OpenShut
import Derived.Test.YtnmeicnppablkaaProg
import Derived.Deep.LoopGhost
import Derived.StillTailTactics
import Derived.Deep.CutBlock
import Derived.Laws.StructEq
import Derived.Lib.MinMax
import Derived.BigQuiet
import Derived.Deep.RegionHeld3
import Derived.WalkKit
import Derived.ProofKit
import Derived.ShutString
import Derived.ChangeOld
import Derived.Below
import Derived.SizedLaws
import Derived.Test.YtnmeicnppablkaaZReplayOnce1
import Derived.Test.YtnmeicnppablkaaZReplayOnce2
import Derived.Test.YtnmeicnppablkaaZReplayOnce3
section
set_option linter.unusedVariables false
set_option linter.unusedSimpArgs false
namespace Go.Proofs.Ytnmeicnppablkaa.Rp
open Go.RowKit Go.Proofs.Ytnmeicnppablkaa.Mem Go.Proofs.Ytnmeicnppablkaa.Se
open Go.Proofs.Ytnmeicnppablkaa.Ms (An)
open Go.Maps (Keyed)
theorem rp_laid:laidOutB Try.prog=true:=by kernel_rfl
theorem an_row:31<Try.prog.types.size:=of_decide_eq_true (by kernel_rfl)
theorem an_wide:(match Try.prog.underlying 31 with | some (.array _ _) | some (.struct _)=>true | _=>false)=true:=by kernel_rfl
theorem an_law:Keyed Try.prog 31:=Keyed.of_law (deep_law_laid rp_laid (m:=3) (by omega) an_row (by kernel_rfl) an_wide)
theorem an_many:2≤Try.prog.types.size:=of_decide_eq_true (by kernel_rfl)
theorem c_an:Try.prog.cellsOf 31=4:=by kernel_rfl
theorem c_pr:Try.prog.cellsOf 29=2:=by kernel_rfl
theorem c_str:Try.prog.cellsOf 9=1:=by kernel_rfl
theorem c_int:Try.prog.cellsOf 3=1:=by kernel_rfl
theorem lits_int {m:Nat} {n:Int} (h:(Lit.int .i64 n).wf=true):Try.prog.keyLits (m+1) 3 [.int .i64 n]=some [.int .i64 n]:=by
 unfold Program.keyLits
 simp only[Try.underlying3]
 simp [h]
theorem lits_str {m:Nat} {s:List UInt8} (h:s.length≤maxLen):Try.prog.keyLits (m+1) 9 [.string ⟨s.toArray⟩]=some [.string s]:=by
 unfold Program.keyLits
 simp only[Try.underlying9]
 have hs:(⟨s.toArray⟩:ByteArray).size=s.length:=by simp [ByteArray.size]
 simp [hs,h]
theorem key_an (a:An) (h1:a.c.1.length≤maxLen) (h2:a.c.2.length≤maxLen) (ht:(Lit.int .i64 a.t).wf=true) (hq:(Lit.int .i64 a.q).wf=true):∃l,keyOf Try.prog 31 (.agg (anA a))=some l:=by
 obtain⟨m,hm⟩:=Nat.exists_eq_add_of_le an_many
 have hl:Try.prog.keyLits (Try.prog.types.size+1) 31 (anC a)=some ([[.string a.c.1,.string a.c.2],[.int .i64 a.t],[.int .i64 a.q]]:List (List Lit)).flatten:=by
  have hp:Try.prog.keyLits (m+2) 29 [.string ⟨a.c.1.toArray⟩,.string ⟨a.c.2.toArray⟩]=some ([[.string a.c.1],[.string a.c.2]]:List (List Lit)).flatten:=by
   unfold Program.keyLits
   simp only[Try.underlying29]
   rw[if_pos ⟨by rw[c_pr];rfl,by simp⟩]
   simp [c_str,lits_str h1,lits_str h2]
  rw[show Try.prog.types.size+1=(m+2)+1 by omega]
  unfold Program.keyLits
  simp only[Try.underlying31]
  rw[if_pos ⟨by rw[c_an];rfl,by simp⟩]
  simp [c_pr,c_int,hp,lits_int ht,lits_int hq]
 unfold keyOf
 rw[Try.underlying31]
 simp only
 rw[if_pos (by rw[show Try.prog.keyType 31=true by kernel_rfl];simp [Value.formed,Try.underlying31,c_an])]
 rw[show(Value.agg (anA a)).cells.toList=anC a from rfl,hl]
 exact⟨_,rfl⟩
def Ky (a:An):Prop:=a.c.1.length≤maxLen∧a.c.2.length≤maxLen∧(Lit.int .i64 a.t).wf=true∧(Lit.int .i64 a.q).wf=true
theorem an_inj {a b:An} (h:(Value.agg (anA a)) = .agg (anA b)):a=b:=by
 obtain⟨⟨a1,a2⟩,a3,a4⟩:=a
 obtain⟨⟨b1,b2⟩,b3,b4⟩:=b
 simp only[anA,Value.agg.injEq,Array.mk.injEq,List.cons.injEq,Value.string.injEq,ByteArray.mk.injEq,Value.int.injEq] at h
 obtain⟨h1,h2,⟨_,h3⟩,⟨_,h4⟩,_⟩:=h
 subst h1 h2 h3 h4
 rfl
def SeenM (w:World) (b n:Nat) (S:List An):Prop:=∃D:DataW Unit,w.ownsMap Try.prog 31 (plainElem Try.prog 4) b n D∧∀kl,(∀a∈S,keyOf Try.prog 31 (.agg (anA a))≠some kl)→∀z,D.atKey kl z=z
theorem SeenM.made (w:World):SeenM (w.alloc (.map #[] 0)) w.heap.size 0 []:=⟨_,World.ownsMap_made _ _ _ _,fun kl _ z=>rfl⟩
theorem SeenM.kept {w w':World} {b n:Nat} {S:List An} {row:Option Nat} (h:SeenM w b n S) (hg:w.grownBy w' row) (hne:some b≠row):SeenM w' b n S:=by
 obtain⟨D,h1,h2⟩:=h
 exact⟨D,h1.kept hg hne,h2⟩
theorem SeenM.chg {w w':World} {b n:Nat} {S:List An} {T:Nat→Prop} (h:SeenM w b n S) (hc:Chg T w w') (hn:¬T b):SeenM w' b n S:=by
 obtain⟨D,⟨es,clock,hb,F,hs,hD⟩,h2⟩:=h
 exact⟨D,⟨es,clock,(hc.block b (Array.getElem?_eq_some_iff.1 hb).1 hn).trans hb,F,hs,hD⟩,h2⟩
theorem SeenM.lt {w:World} {b n:Nat} {S:List An} (h:SeenM w b n S):b<w.heap.size:=by
 obtain⟨D,h1,_⟩:=h
 exact h1.lt
theorem bool_zero (w:World):(zeroValue 4).run Try.prog w = .ok (.bool false) w:=by kernel_rfl
theorem plain_bool_inv {v:Value} {z:DataW Unit×List MemPlace} (h:plainElem Try.prog 4 v=some z):∃x,v = .bool x∧z=(.lit (.bool x),[]):=by
 unfold plainElem at h
 rw[Try.underlying4] at h
 cases v<;>simp at h
 exact⟨_,rfl,h.symm⟩
theorem SeenM.look {w:World} {b n:Nat} {S:List An} (h:SeenM w b n S) {a:An} (ha:Ky a) (hS:∀x∈S,Ky x) (hn:¬a∈S):(Instr.lookup 44 (.map (some b)) (.agg (anA a)) false).run Try.prog w = .ok (.bool false) w:=by
 obtain⟨D,h1,h2⟩:=h
 obtain⟨kl,hk⟩:=key_an a ha.1 ha.2.1 ha.2.2.1 ha.2.2.2
 obtain⟨v,ps,hrun,hv⟩:=h1.lookup an_law Try.underlying44 (bool_zero w) (plainElem_bool Try.underlying4 false) hk
 rw[h2 kl (fun x hx hkx=>hn (by rw[show a=x from an_inj (an_law.inj hk hkx)];exact hx))] at hv
 obtain⟨x,rfl,hx⟩:=plain_bool_inv hv
 injection hx with hx _
 injection hx with hx
 injection hx with hx
 subst hx
 exact hrun
theorem SeenM.put {w:World} {b n:Nat} {S:List An} (h:SeenM w b n S) {a:An} (ha:Ky a) (hn:n<maxLen):∃w',(Instr.mapUpdate 44 (.map (some b)) (.agg (anA a)) (.bool true)).run Try.prog w = .ok () w'∧SeenM w' b (n+1) (a :: S)∧w.grownBy w' (some b):=by
 obtain⟨D,h1,h2⟩:=h
 obtain⟨kl,hk⟩:=key_an a ha.1 ha.2.1 ha.2.2.1 ha.2.2.2
 obtain⟨w',hrun,k1,k2⟩:=h1.update an_law Try.underlying44 hn hk (plainElem_bool Try.underlying4 true)
 refine⟨w',hrun,⟨_,k1,fun kl' hkl z=>?_⟩,k2⟩
 have hne:kl'≠kl:=fun e=>hkl a (by simp) (e▸hk)
 rw[Maps.atKey_put_other hne]
 exact h2 kl' (fun x hx=>hkl x (by simp [hx])) z
theorem wpl_put {w:World} {ops:Array Oper} {rest:List Oper} {o:Oper} {a:Act} {Q:Exit→Act→World→Prop} (hg:o.guard=none) (m x v:Operand) (hop:o.op=Op.mapUpdate 44 m x v) (b n:Nat) (S:List An) (y:An) (hm:a.eval m = .map (some b)) (hx:a.eval x = .agg (anA y)) (hv:a.eval v = .bool true)
  (h:SeenM w b n S) (hy:Ky y) (hn:n<maxLen) (hK:∀w',SeenM w' b (n+1) (y :: S)→w.grownBy w' (some b)→wpList Try.prog ops Q rest (a.put o.dst undef) w'):wpList Try.prog ops Q (o :: rest) a w:=by
 refine wpList_plain hg fun K' hK'=>?_
 obtain⟨w',hrun,r1,r2⟩:=h.put hy hn
 unfold Oper.wp
 simp only[execOp,hop,hm,hx,hv,hrun,Sem.run_bind,Result.andThen_ok,Sem.run_pure]
 exact hK' _ _ (hK w' r1 r2)
end Go.Proofs.Ytnmeicnppablkaa.Rp
end

section
set_option linter.unusedVariables false
set_option linter.unusedSimpArgs false
namespace Go.Proofs.Ytnmeicnppablkaa.Rp
open Go.RowKit Go.Proofs.Ytnmeicnppablkaa.Mem Go.Proofs.Ytnmeicnppablkaa.Se Go.Proofs.Ytnmeicnppablkaa.OpenA
open Go.Proofs.Ytnmeicnppablkaa.Ms (An)
def Inv (on:Bool) (st:Int) (l S:List An) (now:Int):Prop:=∀a∈S,a.t≤now+5∧(a∈l∨a.t+5<now∨(on=true∧a.t≤st+5))
theorem inv_start (on:Bool) (st:Int) (l:List An) (now:Int):Inv on st l [] now:=fun a ha=>by cases ha
theorem inv_restart {on:Bool} {st now now':Int} {l S:List An} (h:Inv on st l S now) (hn:now≤now'):Inv true now' [] S now':=fun a ha=>
 ⟨by have:=(h a ha).1;omega,.inr (.inr ⟨rfl,by have:=(h a ha).1;omega⟩)⟩
theorem inv_new {on:Bool} {st now now':Int} {l S:List An} {a:An} (h:Inv on st l S now) (hn:now≤now') (hs:seeE on st l a now'=0):¬a∈S:=fun ha=>by
 have h1:=h a ha
 have hk:skw on st a.t now'=false:=by
  cases hk:skw on st a.t now' with
  |false=>rfl
  |true=>rw[seeE,if_pos hk] at hs;cases hs
 have hnk:¬a∈keepL now' l:=fun hm=>by
  rw[seeE,if_neg (by rw[hk];simp),if_pos hm] at hs
  cases hs
 unfold skw old at hk
 simp only[Bool.or_eq_false_iff,Bool.and_eq_false_iff,decide_eq_false_iff_not,Bool.not_eq_false',decide_eq_true_eq] at hk
 obtain⟨k1,k2,k3⟩:=hk
 rcases h1.2 with h2 | h2 | ⟨h2,h3⟩
 ·exact hnk (List.mem_filter.2 ⟨h2,by simp [old];omega⟩)
 ·omega
 ·rcases k3 with k3 | k3
  ·rw[h2] at k3;cases k3
  ·omega
theorem inv_see {on:Bool} {st now now':Int} {l S:List An} {a:An} (h:Inv on st l S now) (hn:now≤now'):Inv on st (seeL on st l a now') S now':=fun x hx=>by
 have h1:=h x hx
 refine⟨by omega,?_⟩
 rcases h1.2 with h2 | h2 | h2
 ·by_cases ho:x.t+5<now'
  ·exact .inr (.inl ho)
  ·left
   have hk:x∈keepL now' l:=List.mem_filter.2 ⟨h2,by simp [old];omega⟩
   unfold seeL
   split
   ·exact h2
   ·split
    ·exact hk
    ·exact List.mem_append_left _ hk
 ·exact .inr (.inl (by omega))
 ·exact .inr (.inr h2)
theorem inv_put {on:Bool} {st now now':Int} {l S:List An} {a:An} (h:Inv on st l S now) (hn:now≤now') (hs:seeE on st l a now'=0):Inv on st (seeL on st l a now') (a :: S) now':=fun x hx=>by
 rcases List.mem_cons.1 hx with rfl | hx
 ·have hk:skw on st x.t now'=false:=by
   cases hk:skw on st x.t now' with
   |false=>rfl
   |true=>rw[seeE,if_pos hk] at hs;cases hs
  refine⟨?_,.inl ?_⟩
  ·unfold skw old at hk
   simp only[Bool.or_eq_false_iff,decide_eq_false_iff_not] at hk
   omega
  ·rw[seeE,if_neg (by rw[hk];simp)] at hs
   rw[seeL,if_neg (by rw[hk];simp)]
   split at hs
   ·cases hs
   ·rename_i h1
    split at hs
    ·cases hs
    ·rename_i h2
     rw[if_neg (fun z=>z.elim h1 h2)]
     simp
 ·exact inv_see h hn x hx
theorem low4 (n:Int):bits .and .i64 n 15=n % 16:=by
 have h3:(BitVec.ofInt 64 15).toNat=2 ^ 4 - 1:=by decide
 have key:(BitVec.ofInt 64 n &&& BitVec.ofInt 64 15).toNat=(n % ((2 ^ 64:Nat):Int)).toNat % 2 ^ 4:=by
  rw[BitVec.toNat_and,BitVec.toNat_ofInt,h3,Nat.and_two_pow_sub_one_eq_mod]
 show IntKind.i64.wrap ((BitVec.ofInt 64 n &&& BitVec.ofInt 64 15).toNat:Nat)=n % 16
 rw[key,IntKind.wrap_i64]
 omega
set_option maxRecDepth 100000 in
set_option maxHeartbeats 6400000 in
theorem once_any (a0:Int) (A:Option Addr) (l:List Ac) (c:Nat) (w:World) (hr:RdAc w w.heap.size A l) (hz:∀(i:Nat) (x:Ac),l[i]? = some x→AcR x) :
  Calls Try.prog 4 #[.int .i64 a0,.slice A l.length c] w fun e w'=>e = .returned (.bool true)∧Below w.heap.size w w':=by
 have CLG:=Lib.hid (long_any A l c w hr hz)
 obtain⟨B,eB⟩:∃B,B=w.heap.size:=⟨_,rfl⟩
 have EB:=Lib.hid eB
 rw[←eB] at hr
 have HR:=Lib.hid hr
 have HZ:=Lib.hid hz
 obtain⟨n,en⟩:∃n,n=l.length:=⟨_,rfl⟩
 rw[←en] at CLG⊢
 have EN:=Lib.hid en
 have CK:=Lib.hid (fun w1=>known_any w1)
 have hmm:=@run_makeMap Try.prog
 clear hr hz en eB
 by_cases g0:a0<0
 ·have t0:decide (a0<0)=true:=decide_eq_true g0
  go_enter Try.func4,Try.ntmps4
  go_upto_region 1 with fail
  go_upto_if 18 with(first
   |(go_at_call 10;refine Calls.mono CLG.out ?_;rintro e w1 ⟨bl,rfl,hbl,hb⟩;have HBL:=Lib.hid hbl;have HB0:=Lib.hid (EB.out▸hb:Below B w w1);clear hb hbl CLG)
   |fail)
  all_goals
   go_wp2
   go_ret
   exact⟨rfl,by rw[←EB.out];exact HB0.out⟩
 ·have t0:decide (a0<0)=false:=decide_eq_false g0
  by_cases g1:1073741824<a0
  ·have t1:decide (1073741824<a0)=true:=decide_eq_true g1
   go_enter Try.func4,Try.ntmps4
   go_upto_region 1 with fail
   go_upto_if 18 with(first
    |(go_at_call 10;refine Calls.mono CLG.out ?_;rintro e w1 ⟨bl,rfl,hbl,hb⟩;have HBL:=Lib.hid hbl;have HB0:=Lib.hid (EB.out▸hb:Below B w w1);clear hb hbl CLG)
    |fail)
   all_goals
    go_wp2
    go_ret
    exact⟨rfl,by rw[←EB.out];exact HB0.out⟩
  ·have t1:decide (1073741824<a0)=false:=decide_eq_false g1
   go_enter Try.func4,Try.ntmps4
   go_upto_region 1 with fail
   go_upto_if 18 with(first
    |(go_at_call 10;refine Calls.mono CLG.out ?_;rintro e w1 ⟨bl,rfl,hbl,hb⟩;have HBL:=Lib.hid hbl;have HB0:=Lib.hid (EB.out▸hb:Below B w w1);clear hb hbl CLG)
    |fail)
   ·go_wp2
    go_ret
    exact⟨rfl,by rw[←EB.out];exact HB0.out⟩
   ·rename_i hbl
    obtain rfl:bl=false:=by simpa using hbl
    have HSM:=Lib.hid (HBL.out rfl)
    clear HBL hbl
    obtain⟨B1,eB1⟩:∃B1,B1=w1.heap.size:=⟨_,rfl⟩
    have c0:=new_b (B:=B1) a0 (!decide (a0=0)) rfl w1 eB1.symm
    have HBB:=Lib.hid (show B≤B1 by rw[eB1,EB.out];rw[←EB.out];exact Nat.le_trans (Nat.le_of_eq EB.out) HB0.out.size)
    have HE1:=Lib.hid eB1
    obtain⟨on0,eon⟩:∃b,b = !decide (a0=0):=⟨_,rfl⟩
    rw[←eon] at c0
    clear eB1 eon
    go_wp2_with (first
     |(go_at_call 11;refine Calls.mono c0 ?_;rintro e w2 ⟨r,rfl,hp,hb⟩;have HP0:=Lib.hid hp;have HB1:=Lib.hid hb;clear hp hb c0)
     |fail)
    obtain⟨m,em⟩:∃m,m=w2.heap.size:=⟨_,rfl⟩
    obtain⟨W3,eW3⟩:∃W3,W3=w2.alloc (.map #[] 0):=⟨_,rfl⟩
    have hal:Below w2.heap.size w2 W3:=eW3▸(Below.refl _ _).alloc (Nat.le_refl _) _
    have HB:=Lib.hid (HB0.out.trans ((HB1.out.mono (Nat.le_refl _)).mono HBB.out |>.trans (hal.mono (Nat.le_trans HBB.out HP0.out.big))))
    have HS:=Lib.hid (show SeenM W3 m 0 [] by rw[eW3,em];exact SeenM.made w2)
    have HNM:=Lib.hid (show ¬RO r (.slice none 0 0) m from fun x=>by have:=HP0.out.own_lt x;omega)
    have HP:=Lib.hid (HP0.out.below hal)
    have HMB:=Lib.hid (show B1≤m by rw[em];exact HP0.out.big)
    rw[←eW3,←em]
    clear eW3 em hal HP0 HB1 HB0
    go_loopw [6,8] (fun nv iv wr=>∃(i:Nat) (now st:Int) (on:Bool) (v:Value) (ls S:List An),i≤n∧i≤80∧iv = .int .i64 (i:Int)∧nv = .int .i64 now∧(0≤now∧now≤1073741824)∧(0≤st∧st≤1073741824)∧Below B w wr∧Rp wr B1 r v on st ls∧ls.length≤8∧SeenM wr m i S∧(∀x∈S,Ky x)∧¬RO r v m∧Inv on st ls S now) (fun _ iv _=>n - (intOf iv).toNat)
    case atStart=>exact⟨0,a0,a0,on0,_,[],[],Nat.zero_le _,Nat.zero_le _,rfl,rfl,⟨by omega,by omega⟩,⟨by omega,by omega⟩,HB.out,HP.out,by simp,HS.out,by simp,HNM.out,inv_start _ _ _ _⟩
    case round=>
     clear HB HP HS HNM
     obtain⟨i,now,st,on,v,ls,S,hi,hi6,rfl,rfl,hnow,hst,hb,hp,hle,hs,hky,hnm,hinv⟩:=hrel
     have HB:=Lib.hid hb;have HP:=Lib.hid hp;have HLE:=Lib.hid hle;have HS:=Lib.hid hs;have HKY:=Lib.hid hky;have HNM:=Lib.hid hnm;have HINV:=Lib.hid hinv;have HST:=Lib.hid hst
     clear hb hp hle hs hky hnm hinv hst
     by_cases hlt:i<n
     ·have e1:decide ((i:Int)<(n:Int))=true:=by simp;omega
      by_cases h6:i<80
      ·have e2:decide ((i:Int)<80)=true:=by simp;omega
       have e3:(i:Int)<(n:Int):=by omega
       have e4:(0:Int)≤(i:Int):=by omega
       have e5:(i:Int)<80:=by omega
       obtain⟨x,hx⟩:∃x,l[i]? = some x:=⟨l[i]'(by rw[←EN.out];exact hlt),List.getElem?_eq_getElem _⟩
       obtain⟨g,o,rfl,hg,hra⟩:=HR.out.at_ hx
       have HRG:=Lib.hid (fun(w9:World) (h:Below B w w9)=>((fun j u hu=>by
        have:=(h.cell (p:=⟨g,o+i*6+(j+1),none⟩) hg).trans (hra (j+1) u (by
         have hj:j<4:=by have:=(List.getElem?_eq_some_iff.1 hu).1;simpa using this
         rw[←hu]
         rcases j with _ | _ | _ | _ | j
         ·rfl
         ·rfl
         ·rfl
         ·rfl
         ·omega))
        rw[show o+i*6+1+j=o+i*6+(j+1) by omega]
        exact this):w9.rangeAt g (o+i*6+1) (anA x.a).toList))
       have k0:wr.cell? ⟨g,o+i*6,none⟩=some (.int .i64 x.k):=(HB.out.cell (p:=⟨g,_,none⟩) hg).trans (hra 0 _ rfl)
       have k5:wr.cell? ⟨g,o+i*6+5,none⟩=some (.int .i64 x.b):=(HB.out.cell (p:=⟨g,_,none⟩) hg).trans (hra 5 _ rfl)
       have hsm:=HSM.out i x h6 hx
       have hac:=HZ.out i x hx
       have HKX:=Lib.hid (show Ky x.a from⟨by have:=hsm.1;unfold maxLen;omega,by have:=hsm.2.1;unfold maxLen;omega,hac.2.2.2.1,hac.2.2.2.2.1⟩)
       obtain⟨z,ez,hz⟩:∃z:Int,bits .and .i64 x.b 15=z∧0≤z∧z≤15:=⟨_,rfl,by rw[low4];omega⟩
       have u1:IntKind.i64.wrap (now+z)=now+z:=by rw[IntKind.wrap_i64];omega
       obtain⟨nw,enw⟩:∃nw,nw=min 1073741824 (now+z):=⟨_,rfl⟩
       have hnw:now≤nw∧0≤nw∧nw≤1073741824:=by clear u1;omega
       have HNW:=Lib.hid hnw
       have CS:=Lib.hid (see_any B1 r v on st ls x.a nw wr HP.out (by have:=HST.out;omega) (by have:=hsm.2.2;exact⟨this.1,by omega⟩) (by clear u1;omega) (by have:=hsm.1;omega) (by have:=hsm.2.1;omega) (by have:=HLE.out;omega))
       have CR:=Lib.hid (restart_any nw HP.out)
       have INV0:=Lib.hid (inv_restart HINV.out hnw.1)
       have INV1:=Lib.hid (inv_see (a:=x.a) HINV.out hnw.1)
       have INV2:=Lib.hid (fun h=>inv_put (a:=x.a) HINV.out hnw.1 h)
       have INV3:=Lib.hid (fun h=>inv_new (a:=x.a) HINV.out hnw.1 h)
       have HLE2:=Lib.hid (see_le (on:=on) (st:=st) (now:=nw) (a:=x.a) HLE.out)
       obtain⟨q,eq⟩:∃q,q=seeE on st ls x.a nw:=⟨_,rfl⟩
       obtain⟨ls2,els2⟩:∃ls2,ls2=seeL on st ls x.a nw:=⟨_,rfl⟩
       rw[←eq,←els2] at CS
       rw[←els2] at INV1 HLE2
       rw[←eq,←els2] at INV2
       rw[←eq] at INV3
       have HBP:=Lib.hid (fun(w9:World) (v':Value) (on':Bool) (st':Int) (l':List An) (h:Stp wr w9 B1 r v v' on' st' l')=>(HB.out.trans ((h.low HP.out (Below.refl _ _)).mono HBB.out):Below B w w9))
       have HMP:=Lib.hid (fun(w9:World) (v':Value) (on':Bool) (st':Int) (l':List An) (h:Stp wr w9 B1 r v v' on' st' l')=>(⟨HS.out.chg h.chg HNM.out,fun y=>by
        rcases h.new m y with y | y
        ·exact HNM.out y
        ·have:=HS.out.lt;omega⟩:SeenM w9 m i S∧¬RO r v' m))
       have HEQ:=Lib.hid els2
       clear hra hx hsm hac hz hnw eq els2 HINV
       by_cases hk:x.k=2
       ·have q1:(x.k==2)=true:=by rw[hk];rfl
        clear hk
        go_wp2_with (first
         |(go_at_call 13;rw[←enw];refine Calls.mono CR.out ?_;rintro e w3 ⟨rfl,hs⟩;have HS3:=Lib.hid hs;clear hs CR)
         |fail)
        go_roundw
        case rel=>exact⟨i+1,nw,nw,true,_,[],S,by omega,by omega,by go_num,by rw[enw],HNW.out.2,HNW.out.2,HBP.out _ _ _ _ _ HS3.out,HS3.out.rp,by simp,by
         obtain⟨D,h1,h2⟩:=(HMP.out _ _ _ _ _ HS3.out).1
         exact⟨D,h1.mono (by omega),h2⟩,HKY.out,(HMP.out _ _ _ _ _ HS3.out).2,INV0.out⟩
        case measure=>simp [intOf];omega
       ·have q1:(x.k==2)=false:=by simpa using hk
        clear hk
        have HRA:=Lib.hid (HRG.out wr HB.out)
        by_cases hq:q=0
        ·have q2:(q==0)=true:=by rw[hq];rfl
         have HQ:=Lib.hid hq
         clear hq
         go_wp2_with (first
          |(refine Wh.load_g (by rfl) 31 (.tmp 57) (by rfl) g _ (by rfl) (anA x.a) _ HRA.out Try.underlying31 (by rfl) an_info ?_)
          |(go_at_call 15;rw[←enw];refine Calls.mono CS.out ?_;rintro e w3 ⟨rfl,v3,hs⟩;have HS3:=Lib.hid hs;have HR3:=Lib.hid (HRG.out w3 (HBP.out _ _ _ _ _ hs));have hlk:=(HMP.out _ _ _ _ _ hs).1.look HKX.out HKY.out (INV3.out HQ.out);have HM3:=Lib.hid (HMP.out _ _ _ _ _ hs).1;clear hs CS HRA k0 k5)
          |(refine Wh.load_g (by rfl) 31 (.tmp 66) (by rfl) g _ (by rfl) (anA x.a) _ HR3.out Try.underlying31 (by rfl) an_info ?_)
          |(refine Wh.load_g (by rfl) 31 (.tmp 73) (by rfl) g _ (by rfl) (anA x.a) _ HR3.out Try.underlying31 (by rfl) an_info ?_)
          |(at_mapUpdate;refine wpl_put (by rfl) (.tmp 69) (.tmp 74) _ (by rfl) m i S x.a (by rfl) (by rfl) (by rfl) HM3.out HKX.out (by unfold maxLen;omega) ?_;intro w4 hm4 hg4;have HM4:=Lib.hid hm4;have HG4:=Lib.hid hg4;clear hm4 hg4 hlk)
          |fail)
         go_roundw
         case rel=>
          have hnm:=(HMP.out _ _ _ _ _ HS3.out).2
          have hc:Chg (fun k=>k=m) w3 w4:=(chg_row HG4.out).mono (fun k _ h=>by injection h with h;exact h.symm)
          exact⟨i+1,nw,st,on,v3,ls2,x.a :: S,by omega,by omega,by go_num,by rw[enw],HNW.out.2,HST.out,(HBP.out _ _ _ _ _ HS3.out).trans (hc.below (B:=B) (Nat.le_trans HBB.out HS3.out.rp.big) (fun k hk h=>by subst h;exact Nat.le_trans HBB.out HMB.out)),HS3.out.rp.chg hc (fun k hk h=>hnm (h▸hk)),HLE2.out,HM4.out,fun y hy=>by
           rcases List.mem_cons.1 hy with rfl | hy
           ·exact HKX.out
           ·exact HKY.out y hy,hnm,INV2.out HQ.out⟩
         case measure=>simp [intOf];omega
        ·have q2:(q==0)=false:=by simpa using hq
         clear hq
         go_wp2_with (first
          |(refine Wh.load_g (by rfl) 31 (.tmp 57) (by rfl) g _ (by rfl) (anA x.a) _ HRA.out Try.underlying31 (by rfl) an_info ?_)
          |(go_at_call 15;rw[←enw];refine Calls.mono CS.out ?_;rintro e w3 ⟨rfl,v3,hs⟩;have HS3:=Lib.hid hs;clear hs CS HRA k0 k5)
          |fail)
         go_roundw
         case rel=>exact⟨i+1,nw,st,on,v3,ls2,S,by omega,by omega,by go_num,by rw[enw],HNW.out.2,HST.out,HBP.out _ _ _ _ _ HS3.out,HS3.out.rp,HLE2.out,by
          obtain⟨D,h1,h2⟩:=(HMP.out _ _ _ _ _ HS3.out).1
          exact⟨D,h1.mono (by omega),h2⟩,HKY.out,(HMP.out _ _ _ _ _ HS3.out).2,INV1.out⟩
         case measure=>simp [intOf];omega
      ·have e2:decide ((i:Int)<80)=false:=by simp;omega
       obtain rfl:i=80:=by omega
       clear hi hi6
       go_wp2_with (first
        |(go_at_call 18;refine Calls.mono (CK.out _) ?_;rintro e w5 ⟨rfl,hb⟩;replace HB:=Lib.hid (HB.out.trans (hb.mono (Nat.le_trans HBB.out HP.out.big)));clear hb CK)
        |fail)
       go_ret
       exact⟨rfl,by rw[←EB.out];exact HB.out⟩
     ·have e1:decide ((i:Int)<(n:Int))=false:=by simp;omega
      obtain rfl:n=i:=by omega
      clear hi hi6
      go_wp2_with (first
       |(go_at_call 18;refine Calls.mono (CK.out _) ?_;rintro e w5 ⟨rfl,hb⟩;replace HB:=Lib.hid (HB.out.trans (hb.mono (Nat.le_trans HBB.out HP.out.big)));clear hb CK)
       |fail)
      go_ret
      exact⟨rfl,by rw[←EB.out];exact HB.out⟩
end Go.Proofs.Ytnmeicnppablkaa.Rp
end

section
namespace Go.Proofs.Ytnmeicnppablkaa.replayOnce
open Go.ChangeShapes Go.WideShapes Go.ChangeAt Go.RowKit Go.Proofs.Ytnmeicnppablkaa
open Go.ChangeMaps (open_string shut_string)
theorem own:ownKnob Try.prog.godebug=none:=by kernel_rfl
theorem laidOut:laidOutB Try.prog=true:=by kernel_rfl
set_option maxRecDepth 100000 in
theorem lifted (os:Os) (started:os.Started) (H:Type) (enc:TypeId×Value→H) :
  ReturnsInHanded {} Try.checked os 4 .any (Rows.replayOnceSpec.pre6 enc Try.prog Try.f4 Rows.replayOnceRow.domain false) (Rows.replayOnceSpec.post enc Try.prog Try.f4 false true false false):=by
 refine returnsInHanded_of_change_sized (C:=Try.checked) own started (by kernel_rfl) Try.func4
  (ChangeSpec.witness6 (enc:=enc) (C:=Try.checked) false ⟨#[],#[.int .i64 0,.slice none 0 0],[]⟩ 8 (by kernel_rfl) (by kernel_rfl) (by kernel_rfl) (by kernel_rfl)) ?_
 intro W base args ds gs before hval0 hW hcnd hsz _
 have hval:∀(j:Nat) t v,Try.f4.params[j]? = some t→args[j]? = some v→Value.okWide Try.prog W .any base t v:=hval0
 have hW':=hW
 obtain⟨p,q,hA0,hV,rfl,hfz,hnd⟩:=hW
 have hA:DataW.TrodAll enc Try.prog W 0 (fun _=>true) true Try.f4.params.toList args.toList ds p:=hA0
 rw[Try.params4] at hA hval
 obtain⟨v0,vs0,d0,ds0,p0,q0,hargs,rfl,rfl,h0,r0⟩:=trodAll_cons hA
 obtain⟨v1,vs1,d1,ds1,p1,q1,rfl,rfl,rfl,h1,r1⟩:=trodAll_cons r0
 obtain⟨rfl,rfl,rfl⟩:=trodAll_nil r1
 obtain rfl:args=#[v0,v1]:=by cases args;simp_all
 obtain⟨rfl,rfl⟩:=trodVars_none hV
 obtain⟨a0,rfl,rfl,rfl,w0⟩:=open_int Try.underlying3 (hval 0 3 v0 rfl rfl) h0
 have k1:=h1
 have lt1:∀x∈p1,x.block<W.heap.size:=by obtain⟨m,hm⟩:=k1;exact DataW.trod_lt m _ _ _ hm
 have wt1:∀n∈DataW.weights Try.prog 22 d1,n≤reachBytes:=fun n hn=>by have:=List.all_eq_true.1 hsz n (DataW.weights_mem_each (j:=1) (t:=22) (d:=d1) (by rw[Try.params4];rfl) rfl n hn);simpa using this
 obtain⟨A1,l1,c1,rfl,w1,x1,y1,lp1⟩:=OpenA.open_acts (okWide_slice Try.underlying22 (hval 1 22 v1 rfl rfl)) h1 wt1
 clear hA0 hval0
 refine(Rp.once_any a0 A1 l1 c1 W w1 lp1).mono fun e W' ⟨he,bel⟩=>?_
 subst he
 exact⟨_,rfl,_,_,_,[],_,[],hW',trodAll_mk1 (shut_bool Try.underlying4 _),(trodAll_cons_mk (shut_int Try.underlying3 w0) (trodAll_cons_mk (Below.trod laidOut (by kernel_rfl) (of_decide_eq_true (by kernel_rfl)) k1 bel lt1) trodAll_mk0)),rfl,bel.frame _,fun h=>by cases h⟩
theorem over:Rows.replayOnceRow.holds Try.pinned (OpenSpec.ofChange Rows.replayOnceSpec):=
 OpenClaim.holds_of_wide 4 Try.f4 rfl rfl rfl rfl rfl rfl rfl ⟨rfl,rfl,rfl,rfl,rfl⟩ rfl rfl rfl rfl rfl (by kernel_rfl) Try.func4 (by kernel_rfl)
  (of_decide_eq_true (by kernel_rfl)) (by unfold Func.isWrapper;first | (rw[if_pos (by decide +kernel)];kernel_rfl) | (rw[if_neg (by decide +kernel)];exact⟨rfl,rfl⟩))
  (fun os started H enc _=>lifted os started H enc)
theorem proved:Rows.ReplayOnceSaid:=over
end Go.Proofs.Ytnmeicnppablkaa.replayOnce
end
