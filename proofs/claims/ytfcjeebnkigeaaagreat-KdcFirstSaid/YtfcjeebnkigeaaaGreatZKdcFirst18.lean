import Derived.Test.YtfcjeebnkigeaaaGreatZKdcFirst17
set_option maxHeartbeats 25600000
set_option maxRecDepth 100000
set_option linter.unusedVariables false
set_option linter.unusedSimpArgs false
namespace Go.Proofs.YtfcjeebnkigeaaaGreat
section
namespace Mc
open Go.RowKit Af DerP Ms
def trB (l:L):Bool:=decide (l.length≤300)&&txtB l
def ptB' (p:Pt):Bool:=prB p.c&&(trB p.tr&&(tmB p.st&&tmB p.en))
theorem Yf (p:Pt):ptB' p=ptB p:=by
 unfold ptB' ptB trB;cases txtB p.tr<;>cases prB p.c<;>cases decide (p.tr.length≤300)<;>rfl
theorem txtf {l:L} {k:Nat} (h:k<l.length) (hb:l[k].toNat<32∨126<l[k].toNat):txtB l=false:=Mq h hb
section
attribute [local go_sem] Eg List.getElem_cons_zero List.getElem_cons_succ
theorem Kq (l:L) (w:World) (ht:l.length≤1000000000):Calls Tryz.prog 215 #[.string ⟨l.toArray⟩] w fun e w'=>e = .returned (.bool (trB l))∧w=w':=by
 by_cases h3:l.length≤300
 ·have g3:decide ((300:Int)<(l.length:Int))=false:=decide_eq_false (by omega)
  have E3:=I (show trB l=txtB l by rw[trB,decide_eq_true h3];rfl);rw[E3.o];clear h3;go_enter Tryz.func215,Tryz.ntmps215
  go_wp2
  go_loop [9] (fun iv=>∃k:Nat,k≤l.length∧iv = .int .i64 (k:Int)∧FitT l k) (fun iv=>l.length - (intOf iv).toNat)
  case atStart=>exact⟨0,Nat.zero_le _,rfl,fun i _ h=>by omega⟩
  case round=>
   obtain⟨k,hk2,rfl,hf⟩:=hrel;have HF:=I hf;clear hf
   by_cases hlt:k<l.length
   ·have e1:(k:Int)<(l.length:Int):=by omega
    by_cases b1:l[k].toNat<32
    ·have E:=I (txtf hlt (Or.inl b1))
     have b1':decide ((l[k].toNat:Int)<32)=true:=by simp;omega
     clear b1
     go_wp2
     go_ret;exact⟨by rw[E.o];rfl,rfl⟩
    ·have b1':decide ((l[k].toNat:Int)<32)=false:=by simp;omega
     by_cases b2:126<l[k].toNat
     ·have E:=I (txtf hlt (Or.inr b2))
      have b2':decide (126<(l[k].toNat:Int))=true:=by simp;omega
      clear b1 b2
      go_wp2
      go_ret;exact⟨by rw[E.o];rfl,rfl⟩
     ·have b2':decide (126<(l[k].toNat:Int))=false:=by simp;omega
      have HP:=I (show 32≤l[k].toNat∧l[k].toNat≤126 from⟨by omega,by omega⟩);clear b1 b2
      go_wp2
      go_round
      case rel=>exact⟨k+1,by omega,by go_num,fun i hi hik=>by
       by_cases q:i=k
       ·subst q;exact HP.o
       ·exact HF.o i hi (by omega)⟩
      case measure=>simp [intOf];omega
   ·have HT:=I (Ru (fun i hi _=>HF.o i hi (by omega)))
    have e1:¬(k:Int)<(l.length:Int):=by omega
    clear HF
    go_wp2
    go_ret;exact⟨by rw[HT.o];rfl,rfl⟩
 ·have g3:decide ((300:Int)<(l.length:Int))=true:=decide_eq_true (by omega)
  have E:=I (show trB l=false by rw[trB,decide_eq_false h3];rfl);clear h3;go_enter Tryz.func215,Tryz.ntmps215
  go_wp2
  go_ret;exact⟨by rw[E.o];rfl,rfl⟩
end
theorem RY (p:Rp) (w:World) (hk:p.ss.length=32) (hs:pSm p.s):Calls Tryz.prog 157 #[.agg (rpC p).toArray] w fun e w'=>e = .returned (.bool (rpB p))∧Below w.heap.size w w':=by
 have HI:=I (show(Tryz.prog.info? 75).map (·.size)=some (rpC p).toArray.size by rw[FO hk];kernel_rfl);have CF:=I (show ∀w':World,Blk w' w.heap.size 75 (rpC p).toArray→w'.cell? ⟨w.heap.size,32,none⟩=some (.string ⟨p.s.1.toArray⟩)∧w'.cell? ⟨w.heap.size,33,none⟩=some (.string ⟨p.s.2.toArray⟩)∧w'.cell? ⟨w.heap.size,34,none⟩=some (.int .i64 p.st)∧w'.cell? ⟨w.heap.size,35,none⟩=some (.int .i64 p.en)∧w'.cell? ⟨w.heap.size,36,none⟩=some (.int .i64 p.no) from fun w' h=>Dl hk h);obtain⟨cs,ecs⟩:∃cs,cs=(rpC p).toArray:=⟨_,rfl⟩;rw[←ecs] at HI CF⊢;clear ecs;have HB:=I ((Below.refl w.heap.size w).alloc (Nat.le_refl _) (.cells cs 75));have HK:=I (Blk.new w 75 cs);have T1:=I (fun w1=>AX p.s w1 hs.1 hs.2);have T2:=I (fun w1=>Fq p.st w1);have T3:=I (fun w1=>Fq p.en w1);have T4:=I (fun w1=>Gv p.no w1);obtain⟨k0,k1,k2,k3,k4⟩:=CF.o _ HK.o;cases h1:prB p.s with
 |false=>
  rw[h1] at T1;have E:=I (show rpB p=false by rw[rpB,h1];rfl);clear h1;go_enter Tryz.func157,Tryz.ntmps157
  go_wp2_with (go_at_call 99;(with_reducible refine Calls.mono (T1.o _) ?_);rintro e w1 ⟨rfl,hb⟩;replace HK:=I (HK.o.below hb);replace HB:=HB.t hb;clear hb T1;(try clear k0 k1 k2 k3 k4);obtain⟨k0,k1,k2,k3,k4⟩:=CF.o _ HK.o)
  go_ret;exact⟨by rw[E.o];rfl,HB.o⟩
 |true=>
  rw[h1] at T1;cases h2:tmB p.st with
  |false=>
   rw[h2] at T2;have E:=I (show rpB p=false by rw[rpB,h1,h2];rfl);clear h1 h2;go_enter Tryz.func157,Tryz.ntmps157
   go_wp2_with (first
    |(go_at_call 99;(with_reducible refine Calls.mono (T1.o _) ?_);rintro e w1 ⟨rfl,hb⟩;replace HK:=I (HK.o.below hb);replace HB:=HB.t hb;clear hb T1;(try clear k0 k1 k2 k3 k4);obtain⟨k0,k1,k2,k3,k4⟩:=CF.o _ HK.o)
    |(go_at_call 216;(with_reducible refine Calls.mono (T2.o _) ?_);rintro e w2 ⟨rfl,hw⟩;subst hw;clear T2))
   go_ret;exact⟨by rw[E.o];rfl,HB.o⟩
  |true=>
   rw[h2] at T2;cases h3:tmB p.en with
   |false=>
    rw[h3] at T3;have E:=I (show rpB p=false by rw[rpB,h1,h2,h3];rfl);clear h1 h2 h3;go_enter Tryz.func157,Tryz.ntmps157
    go_wp2_with (first
     |(go_at_call 99;(with_reducible refine Calls.mono (T1.o _) ?_);rintro e w1 ⟨rfl,hb⟩;replace HK:=I (HK.o.below hb);replace HB:=HB.t hb;clear hb T1;(try clear k0 k1 k2 k3 k4);obtain⟨k0,k1,k2,k3,k4⟩:=CF.o _ HK.o)
     |(go_at_call 216;(with_reducible refine Calls.mono (T2.o _) ?_);rintro e w2 ⟨rfl,hw⟩;subst hw;clear T2)
     |(go_at_call 216;(with_reducible refine Calls.mono (T3.o _) ?_);rintro e w3 ⟨rfl,hw⟩;subst hw;clear T3))
    go_ret;exact⟨by rw[E.o];rfl,HB.o⟩
   |true=>
    rw[h3] at T3;have E:=I (show rpB p=tmB p.no by rw[rpB,h1,h2,h3];rfl);clear h1 h2 h3;go_enter Tryz.func157,Tryz.ntmps157
    go_wp2_with (first
     |(go_at_call 99;(with_reducible refine Calls.mono (T1.o _) ?_);rintro e w1 ⟨rfl,hb⟩;replace HK:=I (HK.o.below hb);replace HB:=HB.t hb;clear hb T1;(try clear k0 k1 k2 k3 k4);obtain⟨k0,k1,k2,k3,k4⟩:=CF.o _ HK.o)
     |(go_at_call 216;(with_reducible refine Calls.mono (T2.o _) ?_);rintro e w2 ⟨rfl,hw⟩;subst hw;clear T2)
     |(go_at_call 216;(with_reducible refine Calls.mono (T3.o _) ?_);rintro e w3 ⟨rfl,hw⟩;subst hw;clear T3)
     |(go_at_call 222;(with_reducible refine Calls.mono (T4.o _) ?_);rintro e w4 ⟨rfl,hw⟩;subst hw;clear T4))
    go_ret;exact⟨by rw[E.o];rfl,HB.o⟩
theorem MF (p:Pt) (w:World) (hk:p.ss.length=32) (hs:pSm p.c) (ht:p.tr.length≤1000000000):Calls Tryz.prog 155 #[.agg (ptC p).toArray] w fun e w'=>e = .returned (.bool (ptB' p))∧Below w.heap.size w w':=by
 have HI:=I (show(Tryz.prog.info? 71).map (·.size)=some (ptC p).toArray.size by rw[EJ hk];kernel_rfl);have CF:=I (show ∀w':World,Blk w' w.heap.size 71 (ptC p).toArray→w'.cell? ⟨w.heap.size,0,none⟩=some (.string ⟨p.c.1.toArray⟩)∧w'.cell? ⟨w.heap.size,1,none⟩=some (.string ⟨p.c.2.toArray⟩)∧w'.cell? ⟨w.heap.size,34,none⟩=some (.string ⟨p.tr.toArray⟩)∧w'.cell? ⟨w.heap.size,35,none⟩=some (.int .i64 p.st)∧w'.cell? ⟨w.heap.size,36,none⟩=some (.int .i64 p.en) from fun w' h=>DY hk h);obtain⟨cs,ecs⟩:∃cs,cs=(ptC p).toArray:=⟨_,rfl⟩;rw[←ecs] at HI CF⊢;clear ecs;have HB:=I ((Below.refl w.heap.size w).alloc (Nat.le_refl _) (.cells cs 71));have HK:=I (Blk.new w 71 cs);have T1:=I (fun w1=>AX p.c w1 hs.1 hs.2);have T2:=I (fun w1=>Kq p.tr w1 ht);have T3:=I (fun w1=>Fq p.st w1);have T4:=I (fun w1=>Fq p.en w1);obtain⟨k0,k1,k2,k3,k4⟩:=CF.o _ HK.o;cases h1:prB p.c with
 |false=>
  rw[h1] at T1;have E:=I (show ptB' p=false by rw[ptB',h1];rfl);clear h1;go_enter Tryz.func155,Tryz.ntmps155
  go_wp2_with (go_at_call 99;(with_reducible refine Calls.mono (T1.o _) ?_);rintro e w1 ⟨rfl,hb⟩;replace HK:=I (HK.o.below hb);replace HB:=HB.t hb;clear hb T1;(try clear k0 k1 k2 k3 k4);obtain⟨k0,k1,k2,k3,k4⟩:=CF.o _ HK.o)
  go_ret;exact⟨by rw[E.o];rfl,HB.o⟩
 |true=>
  rw[h1] at T1;cases h2:trB p.tr with
  |false=>
   rw[h2] at T2;have E:=I (show ptB' p=false by rw[ptB',h1,h2];rfl);clear h1 h2;go_enter Tryz.func155,Tryz.ntmps155
   go_wp2_with (first
    |(go_at_call 99;(with_reducible refine Calls.mono (T1.o _) ?_);rintro e w1 ⟨rfl,hb⟩;replace HK:=I (HK.o.below hb);replace HB:=HB.t hb;clear hb T1;(try clear k0 k1 k2 k3 k4);obtain⟨k0,k1,k2,k3,k4⟩:=CF.o _ HK.o)
    |(go_at_call 215;(with_reducible refine Calls.mono (T2.o _) ?_);rintro e w2 ⟨rfl,hw⟩;subst hw;clear T2))
   go_ret;exact⟨by rw[E.o];rfl,HB.o⟩
  |true=>
   rw[h2] at T2;cases h3:tmB p.st with
   |false=>
    rw[h3] at T3;have E:=I (show ptB' p=false by rw[ptB',h1,h2,h3];rfl);clear h1 h2 h3;go_enter Tryz.func155,Tryz.ntmps155
    go_wp2_with (first
     |(go_at_call 99;(with_reducible refine Calls.mono (T1.o _) ?_);rintro e w1 ⟨rfl,hb⟩;replace HK:=I (HK.o.below hb);replace HB:=HB.t hb;clear hb T1;(try clear k0 k1 k2 k3 k4);obtain⟨k0,k1,k2,k3,k4⟩:=CF.o _ HK.o)
     |(go_at_call 215;(with_reducible refine Calls.mono (T2.o _) ?_);rintro e w2 ⟨rfl,hw⟩;subst hw;clear T2)
     |(go_at_call 216;(with_reducible refine Calls.mono (T3.o _) ?_);rintro e w3 ⟨rfl,hw⟩;subst hw;clear T3))
    go_ret;exact⟨by rw[E.o];rfl,HB.o⟩
   |true=>
    rw[h3] at T3;have E:=I (show ptB' p=tmB p.en by rw[ptB',h1,h2,h3];rfl);clear h1 h2 h3;go_enter Tryz.func155,Tryz.ntmps155
    go_wp2_with (first
     |(go_at_call 99;(with_reducible refine Calls.mono (T1.o _) ?_);rintro e w1 ⟨rfl,hb⟩;replace HK:=I (HK.o.below hb);replace HB:=HB.t hb;clear hb T1;(try clear k0 k1 k2 k3 k4);obtain⟨k0,k1,k2,k3,k4⟩:=CF.o _ HK.o)
     |(go_at_call 215;(with_reducible refine Calls.mono (T2.o _) ?_);rintro e w2 ⟨rfl,hw⟩;subst hw;clear T2)
     |(go_at_call 216;(with_reducible refine Calls.mono (T3.o _) ?_);rintro e w3 ⟨rfl,hw⟩;subst hw;clear T3)
     |(go_at_call 216;(with_reducible refine Calls.mono (T4.o _) ?_);rintro e w4 ⟨rfl,hw⟩;subst hw;clear T4))
    go_ret;exact⟨by rw[E.o];rfl,HB.o⟩
theorem Ps (p:Pt) (w:World) (hk:p.ss.length=32) (hs:pSm p.c) (ht:p.tr.length≤1000000000):Calls Tryz.prog 155 #[.agg (ptC p).toArray] w fun e w'=>e = .returned (.bool (ptB p))∧Below w.heap.size w w':=by
 rw[←Yf];exact MF p w hk hs ht
end Mc
end
section
namespace Mc
open Go.RowKit Af DerP DerR Ms
theorem GU (l:L) (A:Option Addr) (n c:Nat) (w:World) (hn:n=l.length) (h:l.length≤2000):Calls Tryz.prog 128 #[.slice A n c] w fun e w'=>e = .returned (.tuple #[.slice A n c,.int .i64 0])∧w=w':=by
 subst hn;have t1:decide ((2000:Int)<(l.length:Int))=false:=decide_eq_false (by omega);clear h;go_enter Tryz.func128,Tryz.ntmps128
 go_wp2
 go_ret2
 exact⟨rfl,rfl⟩
theorem Yg {p:Rp} (hk:p.ss.length=32) (hx:rpB p=true):(rpE p).length≤2000:=by
 have hp:prB p.s=true:=(show prB p.s=true∧tmB p.st=true∧tmB p.en=true∧tmB p.no=true by simpa [rpB] using hx).1;have b1:=(Bn hp).1;have b2:=AG p.st;have b3:=AG p.en;have b4:=AG p.no;have b5:=Av 4 p.ss;have:=Av 122 [elem 4 p.ss,prE p.s,encI p.st,encI p.en,encI p.no].flatten;rw[rpE];rw[DC] at this⊢;simp only[List.length_append] at this;omega
theorem Yh {p:Pt} (hk:p.ss.length=32) (hx:ptB p=true):(ptE p).length≤2000:=by
 have hp:=(Dh hx).2.1;have h3:=(Dh hx).2.2.1;have b1:=(Bn hp).1;have b2:=AG p.st;have b3:=AG p.en;have b4:=Av 27 p.tr;have b5:=Av 4 p.ss;have:=Av 99 [prE p.c,elem 4 p.ss,elem 27 p.tr,encI p.st,encI p.en].flatten;rw[ptE];rw[DC] at this⊢;simp only[List.length_append] at this;omega
theorem Pu (p:Rp) (w:World) (hk:p.ss.length=32) (hs:pSm p.s):Calls Tryz.prog 108 #[.agg (rpC p).toArray] w (EncR w (rpO p)):=by
 have HI:=I (show(Tryz.prog.info? 75).map (·.size)=some ((rpC p).toArray:Array Value).size by rw[FO hk];kernel_rfl);have I1:=I (fun w1=>RY p w1 hk hs);have T0:=I (fun(hx:rpB p=true)=>fun w1=>Pq p w1 hk hx);have HLEN:=I (fun(hx:rpB p=true)=>Yg hk hx);obtain⟨cs,ecs⟩:∃cs:Array Value,cs=(rpC p).toArray:=⟨_,rfl⟩;rw[←ecs] at HI I1 T0⊢;clear ecs;have HB:=I ((Below.refl w.heap.size w).alloc (Nat.le_refl _) (.cells cs 75));have HK:=I (Blk.new w 75 cs);cases hx:rpB p with
 |false=>
  rw[hx] at I1;have E:=I (show rpO p=none by unfold rpO limO;rw[hx];rfl);rw[E.o];clear hx E T0 HLEN hs hk;go_enter Tryz.func108,Tryz.ntmps108
  go_wp2_with (first
   |(refine Ae (by rfl) 75 (.tmp 1) (by rfl) w.heap.size 0 (by rfl) cs _ (Ag HK.o) Tryz.underlying75 (by rfl) HI.o ?_)
   |(go_at_call 157;refine Calls.mono (I1.o _) ?_;rintro e w1 ⟨rfl,hb⟩;replace HB:=HB.t hb;clear hb I1)
   |fail)
  go_ret2
  exact Gp HB.o
 |true=>
  rw[hx] at I1;have T1:=I (T0.o hx);have hlm:=HLEN.o hx;have E:=I (show rpO p=some (rpE p) from FL.2 ⟨hx,hlm,rfl⟩);rw[E.o];obtain⟨l,el⟩:∃l,l=rpE p:=⟨_,rfl⟩;rw[←el] at T1 hlm⊢;have LM:=I (fun A c w1=>GU l A _ c w1 rfl hlm);clear hx E el hlm T0 HLEN hs hk;go_enter Tryz.func108,Tryz.ntmps108
  go_wp2_with (first
   |(refine Ae (by rfl) 75 (.tmp 1) (by rfl) w.heap.size 0 (by rfl) cs _ (Ag HK.o) Tryz.underlying75 (by rfl) HI.o ?_)
   |(go_at_call 157;refine Calls.mono (I1.o _) ?_;rintro e w1 ⟨rfl,hb⟩;replace HK:=I (HK.o.below hb);replace HB:=HB.t hb;clear hb I1)
   |(go_at_call 158;refine Calls.mono (T1.o _) ?_;rintro e w2 ⟨⟨g,c,rfl,h2,h3,h4⟩,hb⟩;have HG:=I (Bc (l:=l) ⟨⟨g,c,rfl,h2,h3,h4⟩,hb⟩ HB.o);clear h2 h3 h4 hb T1)
   |(go_at_call 128;refine Calls.mono (LM.o _ _ _) ?_;rintro e wy ⟨rfl,rfl⟩;clear LM)
   |fail)
  go_ret2
  exact Gq HG.o
theorem MG (p:Pt) (w:World) (hk:p.ss.length=32) (hs:pSm p.c) (ht:p.tr.length≤1000000000):Calls Tryz.prog 107 #[.agg (ptC p).toArray] w (EncR w (ptO p)):=by
 have HI:=I (show(Tryz.prog.info? 71).map (·.size)=some ((ptC p).toArray:Array Value).size by rw[EJ hk];kernel_rfl);have I1:=I (fun w1=>Ps p w1 hk hs ht);have T0:=I (fun(hx:ptB p=true)=>fun w1=>MD p w1 hk hx);have HLEN:=I (fun(hx:ptB p=true)=>Yh hk hx);obtain⟨cs,ecs⟩:∃cs:Array Value,cs=(ptC p).toArray:=⟨_,rfl⟩;rw[←ecs] at HI I1 T0⊢;clear ecs;have HB:=I ((Below.refl w.heap.size w).alloc (Nat.le_refl _) (.cells cs 71));have HK:=I (Blk.new w 71 cs);cases hx:ptB p with
 |false=>
  rw[hx] at I1;have E:=I (show ptO p=none by unfold ptO limO;rw[hx];rfl);rw[E.o];clear hx E T0 HLEN hs hk ht;go_enter Tryz.func107,Tryz.ntmps107
  go_wp2_with (first
   |(refine Ae (by rfl) 71 (.tmp 1) (by rfl) w.heap.size 0 (by rfl) cs _ (Ag HK.o) Tryz.underlying71 (by rfl) HI.o ?_)
   |(go_at_call 155;refine Calls.mono (I1.o _) ?_;rintro e w1 ⟨rfl,hb⟩;replace HB:=HB.t hb;clear hb I1)
   |fail)
  go_ret2
  exact Gp HB.o
 |true=>
  rw[hx] at I1;have T1:=I (T0.o hx);have hlm:=HLEN.o hx;have E:=I (show ptO p=some (ptE p) from FL.2 ⟨hx,hlm,rfl⟩);rw[E.o];obtain⟨l,el⟩:∃l,l=ptE p:=⟨_,rfl⟩;rw[←el] at T1 hlm⊢;have LM:=I (fun A c w1=>GU l A _ c w1 rfl hlm);clear hx E el hlm T0 HLEN hs hk ht;go_enter Tryz.func107,Tryz.ntmps107
  go_wp2_with (first
   |(refine Ae (by rfl) 71 (.tmp 1) (by rfl) w.heap.size 0 (by rfl) cs _ (Ag HK.o) Tryz.underlying71 (by rfl) HI.o ?_)
   |(go_at_call 155;refine Calls.mono (I1.o _) ?_;rintro e w1 ⟨rfl,hb⟩;replace HK:=I (HK.o.below hb);replace HB:=HB.t hb;clear hb I1)
   |(go_at_call 156;refine Calls.mono (T1.o _) ?_;rintro e w2 ⟨⟨g,c,rfl,h2,h3,h4⟩,hb⟩;have HG:=I (Bc (l:=l) ⟨⟨g,c,rfl,h2,h3,h4⟩,hb⟩ HB.o);clear h2 h3 h4 hb T1)
   |(go_at_call 128;refine Calls.mono (LM.o _ _ _) ?_;rintro e wy ⟨rfl,rfl⟩;clear LM)
   |fail)
  go_ret2
  exact Gq HG.o
end Mc
end
section
namespace Mc
open DerP Ms
def prQ (c:Option L):Pr×Option L:=(prI (AF 48 c),AZ 48 c)
end Mc
end
section
namespace Mc
open Go.RowKit Af DerP Ms
theorem Yi (x y:Fa) (w:World):(Op.equalIn 10000 91 (.agg #[.int .i64 x.e,.int .i64 x.no]) (.agg #[.int .i64 y.e,.int .i64 y.no])).run Tryz.prog w = .ok (decide (x=y)) w:=by
 obtain⟨e,no⟩:=x;obtain⟨e2,no2⟩:=y;simp only
 by_cases h0:e=e2
 ·subst h0
  by_cases h1:no=no2
  ·subst h1
   rw[decide_eq_true rfl]
   go_simp
  ·rw[decide_eq_false (fun h=>h1 (congrArg (fun z=>z.no) h))]
   go_simp
 ·rw[decide_eq_false (fun h=>h0 (congrArg (fun z=>z.e) h))]
  go_simp
theorem Yj (x y:As) (w:World):(Op.equalIn 10000 29 (.agg #[.string ⟨x.c.1.toArray⟩,.string ⟨x.c.2.toArray⟩,.string ⟨x.s.1.toArray⟩,.string ⟨x.s.2.toArray⟩,.int .i64 x.t,.int .i64 x.no]) (.agg #[.string ⟨y.c.1.toArray⟩,.string ⟨y.c.2.toArray⟩,.string ⟨y.s.1.toArray⟩,.string ⟨y.s.2.toArray⟩,.int .i64 y.t,.int .i64 y.no])).run Tryz.prog w = .ok (decide (x=y)) w:=by
 obtain⟨⟨a,b⟩,⟨c,d⟩,t,no⟩:=x;obtain⟨⟨a2,b2⟩,⟨c2,d2⟩,t2,no2⟩:=y;simp only
 by_cases h0:a=a2
 ·subst h0
  by_cases h1:b=b2
  ·subst h1
   by_cases h2:c=c2
   ·subst h2
    by_cases h3:d=d2
    ·subst h3
     by_cases h4:t=t2
     ·subst h4
      by_cases h5:no=no2
      ·subst h5
       rw[decide_eq_true rfl]
       go_simp
      ·rw[decide_eq_false (fun h=>h5 (congrArg (fun z=>z.no) h))]
       go_simp
     ·rw[decide_eq_false (fun h=>h4 (congrArg (fun z=>z.t) h))]
      go_simp
    ·rw[decide_eq_false (fun h=>h3 (congrArg (fun z=>z.s.2) h))]
     go_simp
   ·rw[decide_eq_false (fun h=>h2 (congrArg (fun z=>z.s.1) h))]
    go_simp
  ·rw[decide_eq_false (fun h=>h1 (congrArg (fun z=>z.c.2) h))]
   go_simp
 ·rw[decide_eq_false (fun h=>h0 (congrArg (fun z=>z.c.1) h))]
  go_simp
end Mc
end
section
namespace Mc
open Go.RowKit Af DerP Ms
theorem Kr (a b:L) (A D:Option Addr) (c d B:Nat) (w:World) (h:Rd w B A (bvs a)) (g:Rd w B D (bvs b)):Calls Tryz.prog 181 #[.slice A a.length c,.slice D b.length d] w fun e w'=>e = .returned (.bool (decide (a=b)))∧w=w':=by
 have hcv1:=AJ (P:=Tryz.prog) w 30 5 Tryz.underlying30 Tryz.underlying5 h a.length c rfl 9 Tryz.underlying9;have hcv2:=AJ (P:=Tryz.prog) w 30 5 Tryz.underlying30 Tryz.underlying5 g b.length d rfl 9 Tryz.underlying9;clear h g
 by_cases e:a=b
 ·have t1:(a==b)=true:=by simpa using e
  have E:=I (decide_eq_true e);clear e;go_enter Tryz.func181,Tryz.ntmps181
  go_wp2
  go_ret;exact⟨by rw[E.o];rfl,rfl⟩
 ·have t1:(a==b)=false:=by simpa using e
  have E:=I (decide_eq_false e);clear e;go_enter Tryz.func181,Tryz.ntmps181
  go_wp2
  go_ret;exact⟨by rw[E.o];rfl,rfl⟩
theorem GV (x y:Tk) (A1 D1:Option Addr) (c1 d1:Nat) (w:World) (h1:Rd w w.heap.size A1 (bvs x.b)) (g1:Rd w w.heap.size D1 (bvs y.b)) :
  Calls Tryz.prog 278 #[.agg #[.string ⟨x.s.1.toArray⟩,.string ⟨x.s.2.toArray⟩,.int .i64 x.k,.slice A1 x.b.length c1],.agg #[.string ⟨y.s.1.toArray⟩,.string ⟨y.s.2.toArray⟩,.int .i64 y.k,.slice D1 y.b.length d1]] w fun e w'=>e = .returned (.bool (decide (x=y)))∧Below w.heap.size w w':=by
 obtain⟨⟨r,n⟩,k,b⟩:=x;obtain⟨⟨r2,n2⟩,k2,b2⟩:=y;simp only at h1 g1⊢;have HB:=I (((Below.refl w.heap.size w).alloc (Nat.le_refl _) (.cells #[.string ⟨List.toArray r⟩,.string ⟨List.toArray n⟩,.int .i64 k,.slice A1 b.length c1] 32)).alloc (by simp) (.cells #[.string ⟨List.toArray r2⟩,.string ⟨List.toArray n2⟩,.int .i64 k2,.slice D1 b2.length d1] 32));have HX:=I ((Blk.new w 32 #[.string ⟨List.toArray r⟩,.string ⟨List.toArray n⟩,.int .i64 k,.slice A1 b.length c1]).alloc (.cells #[.string ⟨List.toArray r2⟩,.string ⟨List.toArray n2⟩,.int .i64 k2,.slice D1 b2.length d1] 32));have hy:=Blk.new (w.alloc (.cells #[.string ⟨List.toArray r⟩,.string ⟨List.toArray n⟩,.int .i64 k,.slice A1 b.length c1] 32)) 32 #[.string ⟨List.toArray r2⟩,.string ⟨List.toArray n2⟩,.int .i64 k2,.slice D1 b2.length d1];rw[show(w.alloc (.cells #[.string ⟨List.toArray r⟩,.string ⟨List.toArray n⟩,.int .i64 k,.slice A1 b.length c1] 32)).heap.size=w.heap.size+1 by simp] at hy;have HY:=I hy;clear hy;have T1:=I (fun w1 (h:Below w.heap.size w w1)=>Kr b b2 A1 D1 c1 d1 w.heap.size w1 (h1.below h) (g1.below h));clear h1 g1
 by_cases e0a:r=r2
 ·subst e0a
  by_cases e0b:n=n2
  ·subst e0b
   by_cases e1:k=k2
   ·subst e1
    have t1:(k==k)=true:=by simp
    cases e2:decide (b=b2) with
    |false=>
     have E:=I (show decide ((⟨(r,n),k,b⟩:Tk)=⟨(r,n),k,b2⟩)=false from decide_eq_false (fun h=>of_decide_eq_false e2 (congrArg Tk.b h)));rw[e2] at T1;clear e2;go_enter Tryz.func278,Tryz.ntmps278
     go_wp2_with (go_at_call 181;refine Calls.mono (T1.o _ HB.o) ?_;rintro e4 wb1 ⟨rfl,hw⟩;subst hw;clear T1)
     go_ret;exact⟨by rw[E.o];rfl,HB.o⟩
    |true=>
     rw[e2] at T1;have e2':=of_decide_eq_true e2;clear e2;subst e2';have E:=I (show decide ((⟨(r,n),k,b⟩:Tk)=⟨(r,n),k,b⟩)=true from decide_eq_true rfl);go_enter Tryz.func278,Tryz.ntmps278
     go_wp2_with (go_at_call 181;refine Calls.mono (T1.o _ HB.o) ?_;rintro e4 wb1 ⟨rfl,hw⟩;subst hw;clear T1)
     go_ret;exact⟨by rw[E.o];rfl,HB.o⟩
   ·have t1:(k==k2)=false:=by simpa using e1
    have E:=I (show decide ((⟨(r,n),k,b⟩:Tk)=⟨(r,n),k2,b2⟩)=false from decide_eq_false (fun h=>e1 (congrArg Tk.k h)));go_enter Tryz.func278,Tryz.ntmps278
    go_wp2
    go_ret;exact⟨by rw[E.o];rfl,HB.o⟩
  ·have E:=I (show decide ((⟨(r,n),k,b⟩:Tk)=⟨(r,n2),k2,b2⟩)=false from decide_eq_false (fun h=>e0b (congrArg (fun t=>t.s.2) h)))
   go_enter Tryz.func278,Tryz.ntmps278
   go_wp2
   go_ret;exact⟨by rw[E.o];rfl,HB.o⟩
 ·have E:=I (show decide ((⟨(r,n),k,b⟩:Tk)=⟨(r2,n2),k2,b2⟩)=false from decide_eq_false (fun h=>e0a (congrArg (fun t=>t.s.1) h)))
  go_enter Tryz.func278,Tryz.ntmps278
  go_wp2
  go_ret;exact⟨by rw[E.o];rfl,HB.o⟩
theorem MH (x y:Tg) (A1 A2 D1 D2:Option Addr) (c1 c2 d1 d2:Nat) (w:World) (h1:Rd w w.heap.size A1 (bvs x.t.b)) (g1:Rd w w.heap.size D1 (bvs y.t.b)) (h2:Rd w w.heap.size A2 (bvs x.a)) (g2:Rd w w.heap.size D2 (bvs y.a)) :
  Calls Tryz.prog 247 #[.agg #[.string ⟨x.t.s.1.toArray⟩,.string ⟨x.t.s.2.toArray⟩,.int .i64 x.t.k,.slice A1 x.t.b.length c1,.slice A2 x.a.length c2,.string ⟨x.s.1.toArray⟩,.string ⟨x.s.2.toArray⟩,.int .i64 x.u,.int .i64 x.no],.agg #[.string ⟨y.t.s.1.toArray⟩,.string ⟨y.t.s.2.toArray⟩,.int .i64 y.t.k,.slice D1 y.t.b.length d1,.slice D2 y.a.length d2,.string ⟨y.s.1.toArray⟩,.string ⟨y.s.2.toArray⟩,.int .i64 y.u,.int .i64 y.no]] w fun e w'=>e = .returned (.bool (decide (x=y)))∧Below w.heap.size w w':=by
 obtain⟨t,a,⟨r,n⟩,u,no⟩:=x;obtain⟨t2,a2,⟨r2,n2⟩,u2,no2⟩:=y;simp only at h1 g1 h2 g2⊢;have HB:=I (((Below.refl w.heap.size w).alloc (Nat.le_refl _) (.cells #[.string ⟨t.s.1.toArray⟩,.string ⟨t.s.2.toArray⟩,.int .i64 t.k,.slice A1 t.b.length c1,.slice A2 a.length c2,.string ⟨List.toArray r⟩,.string ⟨List.toArray n⟩,.int .i64 u,.int .i64 no] 34)).alloc (by simp) (.cells #[.string ⟨t2.s.1.toArray⟩,.string ⟨t2.s.2.toArray⟩,.int .i64 t2.k,.slice D1 t2.b.length d1,.slice D2 a2.length d2,.string ⟨List.toArray r2⟩,.string ⟨List.toArray n2⟩,.int .i64 u2,.int .i64 no2] 34));have HX:=I ((Blk.new w 34 #[.string ⟨t.s.1.toArray⟩,.string ⟨t.s.2.toArray⟩,.int .i64 t.k,.slice A1 t.b.length c1,.slice A2 a.length c2,.string ⟨List.toArray r⟩,.string ⟨List.toArray n⟩,.int .i64 u,.int .i64 no]).alloc (.cells #[.string ⟨t2.s.1.toArray⟩,.string ⟨t2.s.2.toArray⟩,.int .i64 t2.k,.slice D1 t2.b.length d1,.slice D2 a2.length d2,.string ⟨List.toArray r2⟩,.string ⟨List.toArray n2⟩,.int .i64 u2,.int .i64 no2] 34));have hy:=Blk.new (w.alloc (.cells #[.string ⟨t.s.1.toArray⟩,.string ⟨t.s.2.toArray⟩,.int .i64 t.k,.slice A1 t.b.length c1,.slice A2 a.length c2,.string ⟨List.toArray r⟩,.string ⟨List.toArray n⟩,.int .i64 u,.int .i64 no] 34)) 34 #[.string ⟨t2.s.1.toArray⟩,.string ⟨t2.s.2.toArray⟩,.int .i64 t2.k,.slice D1 t2.b.length d1,.slice D2 a2.length d2,.string ⟨List.toArray r2⟩,.string ⟨List.toArray n2⟩,.int .i64 u2,.int .i64 no2];rw[show(w.alloc (.cells #[.string ⟨t.s.1.toArray⟩,.string ⟨t.s.2.toArray⟩,.int .i64 t.k,.slice A1 t.b.length c1,.slice A2 a.length c2,.string ⟨List.toArray r⟩,.string ⟨List.toArray n⟩,.int .i64 u,.int .i64 no] 34)).heap.size=w.heap.size+1 by simp] at hy;have HY:=I hy;clear hy;have T1:=I (fun w1 (h:Below w.heap.size w w1)=>GV t t2 A1 D1 c1 d1 w1 ((h1.below h).more h.size) ((g1.below h).more h.size));have T2:=I (fun w1 (h:Below w.heap.size w w1)=>Kr a a2 A2 D2 c2 d2 w.heap.size w1 (h2.below h) (g2.below h));clear h1 g1 h2 g2;cases e0:decide (t=t2) with
 |false=>
  have E:=I (show decide ((⟨t,a,(r,n),u,no⟩:Tg)=⟨t2,a2,(r2,n2),u2,no2⟩)=false from decide_eq_false (fun h=>of_decide_eq_false e0 (congrArg Tg.t h)));rw[e0] at T1;clear e0;go_enter Tryz.func247,Tryz.ntmps247
  go_wp2_with (go_at_call 278;refine Calls.mono (T1.o _ HB.o) ?_;rintro e3 w1 ⟨rfl,hb⟩;replace HX:=I (HX.o.below hb);replace HY:=I (HY.o.below hb);replace HB:=HB.t hb;clear hb T1;have kx4:w1.cell? ⟨w.heap.size,4,none⟩=some (.slice A2 a.length c2):=HX.o.cell 4;have ky4:w1.cell? ⟨w.heap.size+1,4,none⟩=some (.slice D2 a2.length d2):=HY.o.cell 4;have kx5:w1.cell? ⟨w.heap.size,5,none⟩=some (.string ⟨List.toArray r⟩):=HX.o.cell 5;have ky5:w1.cell? ⟨w.heap.size+1,5,none⟩=some (.string ⟨List.toArray r2⟩):=HY.o.cell 5;have kx6:w1.cell? ⟨w.heap.size,6,none⟩=some (.string ⟨List.toArray n⟩):=HX.o.cell 6;have ky6:w1.cell? ⟨w.heap.size+1,6,none⟩=some (.string ⟨List.toArray n2⟩):=HY.o.cell 6;have kx7:w1.cell? ⟨w.heap.size,7,none⟩=some (.int .i64 u):=HX.o.cell 7;have ky7:w1.cell? ⟨w.heap.size+1,7,none⟩=some (.int .i64 u2):=HY.o.cell 7;have kx8:w1.cell? ⟨w.heap.size,8,none⟩=some (.int .i64 no):=HX.o.cell 8;have ky8:w1.cell? ⟨w.heap.size+1,8,none⟩=some (.int .i64 no2):=HY.o.cell 8)
  go_ret;exact⟨by rw[E.o];rfl,HB.o⟩
 |true=>
  rw[e0] at T1;have e0':=of_decide_eq_true e0;clear e0;subst e0';cases e1:decide (a=a2) with
  |false=>
   have E:=I (show decide ((⟨t,a,(r,n),u,no⟩:Tg)=⟨t,a2,(r2,n2),u2,no2⟩)=false from decide_eq_false (fun h=>of_decide_eq_false e1 (congrArg Tg.a h)));rw[e1] at T2;clear e1;go_enter Tryz.func247,Tryz.ntmps247
   go_wp2_with (first
    |(go_at_call 278;refine Calls.mono (T1.o _ HB.o) ?_;rintro e3 w1 ⟨rfl,hb⟩;replace HX:=I (HX.o.below hb);replace HY:=I (HY.o.below hb);replace HB:=HB.t hb;clear hb T1;have kx4:w1.cell? ⟨w.heap.size,4,none⟩=some (.slice A2 a.length c2):=HX.o.cell 4;have ky4:w1.cell? ⟨w.heap.size+1,4,none⟩=some (.slice D2 a2.length d2):=HY.o.cell 4;have kx5:w1.cell? ⟨w.heap.size,5,none⟩=some (.string ⟨List.toArray r⟩):=HX.o.cell 5;have ky5:w1.cell? ⟨w.heap.size+1,5,none⟩=some (.string ⟨List.toArray r2⟩):=HY.o.cell 5;have kx6:w1.cell? ⟨w.heap.size,6,none⟩=some (.string ⟨List.toArray n⟩):=HX.o.cell 6;have ky6:w1.cell? ⟨w.heap.size+1,6,none⟩=some (.string ⟨List.toArray n2⟩):=HY.o.cell 6;have kx7:w1.cell? ⟨w.heap.size,7,none⟩=some (.int .i64 u):=HX.o.cell 7;have ky7:w1.cell? ⟨w.heap.size+1,7,none⟩=some (.int .i64 u2):=HY.o.cell 7;have kx8:w1.cell? ⟨w.heap.size,8,none⟩=some (.int .i64 no):=HX.o.cell 8;have ky8:w1.cell? ⟨w.heap.size+1,8,none⟩=some (.int .i64 no2):=HY.o.cell 8)
    |(go_at_call 181;refine Calls.mono (T2.o _ HB.o) ?_;rintro e4 wb2 ⟨rfl,hw⟩;subst hw;clear T2))
   go_ret;exact⟨by rw[E.o];rfl,HB.o⟩
  |true=>
   rw[e1] at T2;have e1':=of_decide_eq_true e1;clear e1;subst e1'
   by_cases e2a:r=r2
   ·subst e2a
    by_cases e2b:n=n2
    ·subst e2b
     by_cases e3:u=u2
     ·subst e3
      have t3:(u==u)=true:=by simp
      by_cases e4:no=no2
      ·subst e4
       have t4:(no==no)=true:=by simp
       have E:=I (show decide ((⟨t,a,(r,n),u,no⟩:Tg)=⟨t,a,(r,n),u,no⟩)=true from decide_eq_true rfl);go_enter Tryz.func247,Tryz.ntmps247
       go_wp2_with (first
        |(go_at_call 278;refine Calls.mono (T1.o _ HB.o) ?_;rintro e3 w1 ⟨rfl,hb⟩;replace HX:=I (HX.o.below hb);replace HY:=I (HY.o.below hb);replace HB:=HB.t hb;clear hb T1;have kx4:w1.cell? ⟨w.heap.size,4,none⟩=some (.slice A2 a.length c2):=HX.o.cell 4;have ky4:w1.cell? ⟨w.heap.size+1,4,none⟩=some (.slice D2 a.length d2):=HY.o.cell 4;have kx5:w1.cell? ⟨w.heap.size,5,none⟩=some (.string ⟨List.toArray r⟩):=HX.o.cell 5;have ky5:w1.cell? ⟨w.heap.size+1,5,none⟩=some (.string ⟨List.toArray r⟩):=HY.o.cell 5;have kx6:w1.cell? ⟨w.heap.size,6,none⟩=some (.string ⟨List.toArray n⟩):=HX.o.cell 6;have ky6:w1.cell? ⟨w.heap.size+1,6,none⟩=some (.string ⟨List.toArray n⟩):=HY.o.cell 6;have kx7:w1.cell? ⟨w.heap.size,7,none⟩=some (.int .i64 u):=HX.o.cell 7;have ky7:w1.cell? ⟨w.heap.size+1,7,none⟩=some (.int .i64 u):=HY.o.cell 7;have kx8:w1.cell? ⟨w.heap.size,8,none⟩=some (.int .i64 no):=HX.o.cell 8;have ky8:w1.cell? ⟨w.heap.size+1,8,none⟩=some (.int .i64 no):=HY.o.cell 8)
        |(go_at_call 181;refine Calls.mono (T2.o _ HB.o) ?_;rintro e4 wb2 ⟨rfl,hw⟩;subst hw;clear T2))
       go_ret;exact⟨by rw[E.o];rfl,HB.o⟩
      ·have t4:(no==no2)=false:=by simpa using e4
       have E:=I (show decide ((⟨t,a,(r,n),u,no⟩:Tg)=⟨t,a,(r,n),u,no2⟩)=false from decide_eq_false (fun h=>e4 (congrArg Tg.no h)));go_enter Tryz.func247,Tryz.ntmps247
       go_wp2_with (first
        |(go_at_call 278;refine Calls.mono (T1.o _ HB.o) ?_;rintro e3 w1 ⟨rfl,hb⟩;replace HX:=I (HX.o.below hb);replace HY:=I (HY.o.below hb);replace HB:=HB.t hb;clear hb T1;have kx4:w1.cell? ⟨w.heap.size,4,none⟩=some (.slice A2 a.length c2):=HX.o.cell 4;have ky4:w1.cell? ⟨w.heap.size+1,4,none⟩=some (.slice D2 a.length d2):=HY.o.cell 4;have kx5:w1.cell? ⟨w.heap.size,5,none⟩=some (.string ⟨List.toArray r⟩):=HX.o.cell 5;have ky5:w1.cell? ⟨w.heap.size+1,5,none⟩=some (.string ⟨List.toArray r⟩):=HY.o.cell 5;have kx6:w1.cell? ⟨w.heap.size,6,none⟩=some (.string ⟨List.toArray n⟩):=HX.o.cell 6;have ky6:w1.cell? ⟨w.heap.size+1,6,none⟩=some (.string ⟨List.toArray n⟩):=HY.o.cell 6;have kx7:w1.cell? ⟨w.heap.size,7,none⟩=some (.int .i64 u):=HX.o.cell 7;have ky7:w1.cell? ⟨w.heap.size+1,7,none⟩=some (.int .i64 u):=HY.o.cell 7;have kx8:w1.cell? ⟨w.heap.size,8,none⟩=some (.int .i64 no):=HX.o.cell 8;have ky8:w1.cell? ⟨w.heap.size+1,8,none⟩=some (.int .i64 no2):=HY.o.cell 8)
        |(go_at_call 181;refine Calls.mono (T2.o _ HB.o) ?_;rintro e4 wb2 ⟨rfl,hw⟩;subst hw;clear T2))
       go_ret;exact⟨by rw[E.o];rfl,HB.o⟩
     ·have t3:(u==u2)=false:=by simpa using e3
      have E:=I (show decide ((⟨t,a,(r,n),u,no⟩:Tg)=⟨t,a,(r,n),u2,no2⟩)=false from decide_eq_false (fun h=>e3 (congrArg Tg.u h)));go_enter Tryz.func247,Tryz.ntmps247
      go_wp2_with (first
       |(go_at_call 278;refine Calls.mono (T1.o _ HB.o) ?_;rintro e3 w1 ⟨rfl,hb⟩;replace HX:=I (HX.o.below hb);replace HY:=I (HY.o.below hb);replace HB:=HB.t hb;clear hb T1;have kx4:w1.cell? ⟨w.heap.size,4,none⟩=some (.slice A2 a.length c2):=HX.o.cell 4;have ky4:w1.cell? ⟨w.heap.size+1,4,none⟩=some (.slice D2 a.length d2):=HY.o.cell 4;have kx5:w1.cell? ⟨w.heap.size,5,none⟩=some (.string ⟨List.toArray r⟩):=HX.o.cell 5;have ky5:w1.cell? ⟨w.heap.size+1,5,none⟩=some (.string ⟨List.toArray r⟩):=HY.o.cell 5;have kx6:w1.cell? ⟨w.heap.size,6,none⟩=some (.string ⟨List.toArray n⟩):=HX.o.cell 6;have ky6:w1.cell? ⟨w.heap.size+1,6,none⟩=some (.string ⟨List.toArray n⟩):=HY.o.cell 6;have kx7:w1.cell? ⟨w.heap.size,7,none⟩=some (.int .i64 u):=HX.o.cell 7;have ky7:w1.cell? ⟨w.heap.size+1,7,none⟩=some (.int .i64 u2):=HY.o.cell 7;have kx8:w1.cell? ⟨w.heap.size,8,none⟩=some (.int .i64 no):=HX.o.cell 8;have ky8:w1.cell? ⟨w.heap.size+1,8,none⟩=some (.int .i64 no2):=HY.o.cell 8)
       |(go_at_call 181;refine Calls.mono (T2.o _ HB.o) ?_;rintro e4 wb2 ⟨rfl,hw⟩;subst hw;clear T2))
      go_ret;exact⟨by rw[E.o];rfl,HB.o⟩
    ·have E:=I (show decide ((⟨t,a,(r,n),u,no⟩:Tg)=⟨t,a,(r,n2),u2,no2⟩)=false from decide_eq_false (fun h=>e2b (congrArg (fun t=>t.s.2) h)))
     go_enter Tryz.func247,Tryz.ntmps247
     go_wp2_with (first
      |(go_at_call 278;refine Calls.mono (T1.o _ HB.o) ?_;rintro e3 w1 ⟨rfl,hb⟩;replace HX:=I (HX.o.below hb);replace HY:=I (HY.o.below hb);replace HB:=HB.t hb;clear hb T1;have kx4:w1.cell? ⟨w.heap.size,4,none⟩=some (.slice A2 a.length c2):=HX.o.cell 4;have ky4:w1.cell? ⟨w.heap.size+1,4,none⟩=some (.slice D2 a.length d2):=HY.o.cell 4;have kx5:w1.cell? ⟨w.heap.size,5,none⟩=some (.string ⟨List.toArray r⟩):=HX.o.cell 5;have ky5:w1.cell? ⟨w.heap.size+1,5,none⟩=some (.string ⟨List.toArray r⟩):=HY.o.cell 5;have kx6:w1.cell? ⟨w.heap.size,6,none⟩=some (.string ⟨List.toArray n⟩):=HX.o.cell 6;have ky6:w1.cell? ⟨w.heap.size+1,6,none⟩=some (.string ⟨List.toArray n2⟩):=HY.o.cell 6;have kx7:w1.cell? ⟨w.heap.size,7,none⟩=some (.int .i64 u):=HX.o.cell 7;have ky7:w1.cell? ⟨w.heap.size+1,7,none⟩=some (.int .i64 u2):=HY.o.cell 7;have kx8:w1.cell? ⟨w.heap.size,8,none⟩=some (.int .i64 no):=HX.o.cell 8;have ky8:w1.cell? ⟨w.heap.size+1,8,none⟩=some (.int .i64 no2):=HY.o.cell 8)
      |(go_at_call 181;refine Calls.mono (T2.o _ HB.o) ?_;rintro e4 wb2 ⟨rfl,hw⟩;subst hw;clear T2))
     go_ret;exact⟨by rw[E.o];rfl,HB.o⟩
   ·have E:=I (show decide ((⟨t,a,(r,n),u,no⟩:Tg)=⟨t,a,(r2,n2),u2,no2⟩)=false from decide_eq_false (fun h=>e2a (congrArg (fun t=>t.s.1) h)))
    go_enter Tryz.func247,Tryz.ntmps247
    go_wp2_with (first
     |(go_at_call 278;refine Calls.mono (T1.o _ HB.o) ?_;rintro e3 w1 ⟨rfl,hb⟩;replace HX:=I (HX.o.below hb);replace HY:=I (HY.o.below hb);replace HB:=HB.t hb;clear hb T1;have kx4:w1.cell? ⟨w.heap.size,4,none⟩=some (.slice A2 a.length c2):=HX.o.cell 4;have ky4:w1.cell? ⟨w.heap.size+1,4,none⟩=some (.slice D2 a.length d2):=HY.o.cell 4;have kx5:w1.cell? ⟨w.heap.size,5,none⟩=some (.string ⟨List.toArray r⟩):=HX.o.cell 5;have ky5:w1.cell? ⟨w.heap.size+1,5,none⟩=some (.string ⟨List.toArray r2⟩):=HY.o.cell 5;have kx6:w1.cell? ⟨w.heap.size,6,none⟩=some (.string ⟨List.toArray n⟩):=HX.o.cell 6;have ky6:w1.cell? ⟨w.heap.size+1,6,none⟩=some (.string ⟨List.toArray n2⟩):=HY.o.cell 6;have kx7:w1.cell? ⟨w.heap.size,7,none⟩=some (.int .i64 u):=HX.o.cell 7;have ky7:w1.cell? ⟨w.heap.size+1,7,none⟩=some (.int .i64 u2):=HY.o.cell 7;have kx8:w1.cell? ⟨w.heap.size,8,none⟩=some (.int .i64 no):=HX.o.cell 8;have ky8:w1.cell? ⟨w.heap.size+1,8,none⟩=some (.int .i64 no2):=HY.o.cell 8)
     |(go_at_call 181;refine Calls.mono (T2.o _ HB.o) ?_;rintro e4 wb2 ⟨rfl,hw⟩;subst hw;clear T2))
    go_ret;exact⟨by rw[E.o];rfl,HB.o⟩
theorem MI (x y:Re) (A1 A2 D1 D2:Option Addr) (c1 c2 d1 d2:Nat) (w:World) (h1:Rd w w.heap.size A1 (bvs x.t.b)) (g1:Rd w w.heap.size D1 (bvs y.t.b)) (h2:Rd w w.heap.size A2 (bvs x.b)) (g2:Rd w w.heap.size D2 (bvs y.b)) :
  Calls Tryz.prog 248 #[.agg #[.string ⟨x.c.1.toArray⟩,.string ⟨x.c.2.toArray⟩,.string ⟨x.t.s.1.toArray⟩,.string ⟨x.t.s.2.toArray⟩,.int .i64 x.t.k,.slice A1 x.t.b.length c1,.slice A2 x.b.length c2],.agg #[.string ⟨y.c.1.toArray⟩,.string ⟨y.c.2.toArray⟩,.string ⟨y.t.s.1.toArray⟩,.string ⟨y.t.s.2.toArray⟩,.int .i64 y.t.k,.slice D1 y.t.b.length d1,.slice D2 y.b.length d2]] w fun e w'=>e = .returned (.bool (decide (x=y)))∧Below w.heap.size w w':=by
 obtain⟨⟨r,n⟩,t,b⟩:=x;obtain⟨⟨r2,n2⟩,t2,b2⟩:=y;simp only at h1 g1 h2 g2⊢;have HB:=I (((Below.refl w.heap.size w).alloc (Nat.le_refl _) (.cells #[.string ⟨List.toArray r⟩,.string ⟨List.toArray n⟩,.string ⟨t.s.1.toArray⟩,.string ⟨t.s.2.toArray⟩,.int .i64 t.k,.slice A1 t.b.length c1,.slice A2 b.length c2] 38)).alloc (by simp) (.cells #[.string ⟨List.toArray r2⟩,.string ⟨List.toArray n2⟩,.string ⟨t2.s.1.toArray⟩,.string ⟨t2.s.2.toArray⟩,.int .i64 t2.k,.slice D1 t2.b.length d1,.slice D2 b2.length d2] 38));have HX:=I ((Blk.new w 38 #[.string ⟨List.toArray r⟩,.string ⟨List.toArray n⟩,.string ⟨t.s.1.toArray⟩,.string ⟨t.s.2.toArray⟩,.int .i64 t.k,.slice A1 t.b.length c1,.slice A2 b.length c2]).alloc (.cells #[.string ⟨List.toArray r2⟩,.string ⟨List.toArray n2⟩,.string ⟨t2.s.1.toArray⟩,.string ⟨t2.s.2.toArray⟩,.int .i64 t2.k,.slice D1 t2.b.length d1,.slice D2 b2.length d2] 38));have hy:=Blk.new (w.alloc (.cells #[.string ⟨List.toArray r⟩,.string ⟨List.toArray n⟩,.string ⟨t.s.1.toArray⟩,.string ⟨t.s.2.toArray⟩,.int .i64 t.k,.slice A1 t.b.length c1,.slice A2 b.length c2] 38)) 38 #[.string ⟨List.toArray r2⟩,.string ⟨List.toArray n2⟩,.string ⟨t2.s.1.toArray⟩,.string ⟨t2.s.2.toArray⟩,.int .i64 t2.k,.slice D1 t2.b.length d1,.slice D2 b2.length d2];rw[show(w.alloc (.cells #[.string ⟨List.toArray r⟩,.string ⟨List.toArray n⟩,.string ⟨t.s.1.toArray⟩,.string ⟨t.s.2.toArray⟩,.int .i64 t.k,.slice A1 t.b.length c1,.slice A2 b.length c2] 38)).heap.size=w.heap.size+1 by simp] at hy;have HY:=I hy;clear hy;have T1:=I (fun w1 (h:Below w.heap.size w w1)=>GV t t2 A1 D1 c1 d1 w1 ((h1.below h).more h.size) ((g1.below h).more h.size));have T2:=I (fun w1 (h:Below w.heap.size w w1)=>Kr b b2 A2 D2 c2 d2 w.heap.size w1 (h2.below h) (g2.below h));clear h1 g1 h2 g2
 by_cases e0a:r=r2
 ·subst e0a
  by_cases e0b:n=n2
  ·subst e0b
   cases e1:decide (t=t2) with
   |false=>
    have E:=I (show decide ((⟨(r,n),t,b⟩:Re)=⟨(r,n),t2,b2⟩)=false from decide_eq_false (fun h=>of_decide_eq_false e1 (congrArg Re.t h)));rw[e1] at T1;clear e1;go_enter Tryz.func248,Tryz.ntmps248
    go_wp2_with (go_at_call 278;refine Calls.mono (T1.o _ HB.o) ?_;rintro e3 w1 ⟨rfl,hb⟩;replace HX:=I (HX.o.below hb);replace HY:=I (HY.o.below hb);replace HB:=HB.t hb;clear hb T1;have kx6:w1.cell? ⟨w.heap.size,6,none⟩=some (.slice A2 b.length c2):=HX.o.cell 6;have ky6:w1.cell? ⟨w.heap.size+1,6,none⟩=some (.slice D2 b2.length d2):=HY.o.cell 6)
    go_ret;exact⟨by rw[E.o];rfl,HB.o⟩
   |true=>
    rw[e1] at T1;have e1':=of_decide_eq_true e1;clear e1;subst e1';cases e2:decide (b=b2) with
    |false=>
     have E:=I (show decide ((⟨(r,n),t,b⟩:Re)=⟨(r,n),t,b2⟩)=false from decide_eq_false (fun h=>of_decide_eq_false e2 (congrArg Re.b h)));rw[e2] at T2;clear e2;go_enter Tryz.func248,Tryz.ntmps248
     go_wp2_with (first
      |(go_at_call 278;refine Calls.mono (T1.o _ HB.o) ?_;rintro e3 w1 ⟨rfl,hb⟩;replace HX:=I (HX.o.below hb);replace HY:=I (HY.o.below hb);replace HB:=HB.t hb;clear hb T1;have kx6:w1.cell? ⟨w.heap.size,6,none⟩=some (.slice A2 b.length c2):=HX.o.cell 6;have ky6:w1.cell? ⟨w.heap.size+1,6,none⟩=some (.slice D2 b2.length d2):=HY.o.cell 6)
      |(go_at_call 181;refine Calls.mono (T2.o _ HB.o) ?_;rintro e4 wb2 ⟨rfl,hw⟩;subst hw;clear T2))
     go_ret;exact⟨by rw[E.o];rfl,HB.o⟩
    |true=>
     rw[e2] at T2;have e2':=of_decide_eq_true e2;clear e2;subst e2';have E:=I (show decide ((⟨(r,n),t,b⟩:Re)=⟨(r,n),t,b⟩)=true from decide_eq_true rfl);go_enter Tryz.func248,Tryz.ntmps248
     go_wp2_with (first
      |(go_at_call 278;refine Calls.mono (T1.o _ HB.o) ?_;rintro e3 w1 ⟨rfl,hb⟩;replace HX:=I (HX.o.below hb);replace HY:=I (HY.o.below hb);replace HB:=HB.t hb;clear hb T1;have kx6:w1.cell? ⟨w.heap.size,6,none⟩=some (.slice A2 b.length c2):=HX.o.cell 6;have ky6:w1.cell? ⟨w.heap.size+1,6,none⟩=some (.slice D2 b.length d2):=HY.o.cell 6)
      |(go_at_call 181;refine Calls.mono (T2.o _ HB.o) ?_;rintro e4 wb2 ⟨rfl,hw⟩;subst hw;clear T2))
     go_ret;exact⟨by rw[E.o];rfl,HB.o⟩
  ·have E:=I (show decide ((⟨(r,n),t,b⟩:Re)=⟨(r,n2),t2,b2⟩)=false from decide_eq_false (fun h=>e0b (congrArg (fun t=>t.c.2) h)))
   go_enter Tryz.func248,Tryz.ntmps248
   go_wp2
   go_ret;exact⟨by rw[E.o];rfl,HB.o⟩
 ·have E:=I (show decide ((⟨(r,n),t,b⟩:Re)=⟨(r2,n2),t2,b2⟩)=false from decide_eq_false (fun h=>e0a (congrArg (fun t=>t.c.1) h)))
  go_enter Tryz.func248,Tryz.ntmps248
  go_wp2
  go_ret;exact⟨by rw[E.o];rfl,HB.o⟩
theorem MJ (x y:Ap) (A1 A2 D1 D2:Option Addr) (c1 c2 d1 d2:Nat) (w:World) (h1:Rd w w.heap.size A1 (bvs x.t.b)) (g1:Rd w w.heap.size D1 (bvs y.t.b)) (h2:Rd w w.heap.size A2 (bvs x.a)) (g2:Rd w w.heap.size D2 (bvs y.a)) :
  Calls Tryz.prog 249 #[.agg #[.string ⟨x.t.s.1.toArray⟩,.string ⟨x.t.s.2.toArray⟩,.int .i64 x.t.k,.slice A1 x.t.b.length c1,.slice A2 x.a.length c2],.agg #[.string ⟨y.t.s.1.toArray⟩,.string ⟨y.t.s.2.toArray⟩,.int .i64 y.t.k,.slice D1 y.t.b.length d1,.slice D2 y.a.length d2]] w fun e w'=>e = .returned (.bool (decide (x=y)))∧Below w.heap.size w w':=by
 obtain⟨t,a⟩:=x;obtain⟨t2,a2⟩:=y;simp only at h1 g1 h2 g2⊢;have HB:=I (((Below.refl w.heap.size w).alloc (Nat.le_refl _) (.cells #[.string ⟨t.s.1.toArray⟩,.string ⟨t.s.2.toArray⟩,.int .i64 t.k,.slice A1 t.b.length c1,.slice A2 a.length c2] 89)).alloc (by simp) (.cells #[.string ⟨t2.s.1.toArray⟩,.string ⟨t2.s.2.toArray⟩,.int .i64 t2.k,.slice D1 t2.b.length d1,.slice D2 a2.length d2] 89));have HX:=I ((Blk.new w 89 #[.string ⟨t.s.1.toArray⟩,.string ⟨t.s.2.toArray⟩,.int .i64 t.k,.slice A1 t.b.length c1,.slice A2 a.length c2]).alloc (.cells #[.string ⟨t2.s.1.toArray⟩,.string ⟨t2.s.2.toArray⟩,.int .i64 t2.k,.slice D1 t2.b.length d1,.slice D2 a2.length d2] 89));have hy:=Blk.new (w.alloc (.cells #[.string ⟨t.s.1.toArray⟩,.string ⟨t.s.2.toArray⟩,.int .i64 t.k,.slice A1 t.b.length c1,.slice A2 a.length c2] 89)) 89 #[.string ⟨t2.s.1.toArray⟩,.string ⟨t2.s.2.toArray⟩,.int .i64 t2.k,.slice D1 t2.b.length d1,.slice D2 a2.length d2];rw[show(w.alloc (.cells #[.string ⟨t.s.1.toArray⟩,.string ⟨t.s.2.toArray⟩,.int .i64 t.k,.slice A1 t.b.length c1,.slice A2 a.length c2] 89)).heap.size=w.heap.size+1 by simp] at hy;have HY:=I hy;clear hy;have T1:=I (fun w1 (h:Below w.heap.size w w1)=>GV t t2 A1 D1 c1 d1 w1 ((h1.below h).more h.size) ((g1.below h).more h.size));have T2:=I (fun w1 (h:Below w.heap.size w w1)=>Kr a a2 A2 D2 c2 d2 w.heap.size w1 (h2.below h) (g2.below h));clear h1 g1 h2 g2;cases e0:decide (t=t2) with
 |false=>
  have E:=I (show decide ((⟨t,a⟩:Ap)=⟨t2,a2⟩)=false from decide_eq_false (fun h=>of_decide_eq_false e0 (congrArg Ap.t h)));rw[e0] at T1;clear e0;go_enter Tryz.func249,Tryz.ntmps249
  go_wp2_with (go_at_call 278;refine Calls.mono (T1.o _ HB.o) ?_;rintro e3 w1 ⟨rfl,hb⟩;replace HX:=I (HX.o.below hb);replace HY:=I (HY.o.below hb);replace HB:=HB.t hb;clear hb T1;have kx4:w1.cell? ⟨w.heap.size,4,none⟩=some (.slice A2 a.length c2):=HX.o.cell 4;have ky4:w1.cell? ⟨w.heap.size+1,4,none⟩=some (.slice D2 a2.length d2):=HY.o.cell 4)
  go_ret;exact⟨by rw[E.o];rfl,HB.o⟩
 |true=>
  rw[e0] at T1;have e0':=of_decide_eq_true e0;clear e0;subst e0';cases e1:decide (a=a2) with
  |false=>
   have E:=I (show decide ((⟨t,a⟩:Ap)=⟨t,a2⟩)=false from decide_eq_false (fun h=>of_decide_eq_false e1 (congrArg Ap.a h)));rw[e1] at T2;clear e1;go_enter Tryz.func249,Tryz.ntmps249
   go_wp2_with (first
    |(go_at_call 278;refine Calls.mono (T1.o _ HB.o) ?_;rintro e3 w1 ⟨rfl,hb⟩;replace HX:=I (HX.o.below hb);replace HY:=I (HY.o.below hb);replace HB:=HB.t hb;clear hb T1;have kx4:w1.cell? ⟨w.heap.size,4,none⟩=some (.slice A2 a.length c2):=HX.o.cell 4;have ky4:w1.cell? ⟨w.heap.size+1,4,none⟩=some (.slice D2 a2.length d2):=HY.o.cell 4)
    |(go_at_call 181;refine Calls.mono (T2.o _ HB.o) ?_;rintro e4 wb2 ⟨rfl,hw⟩;subst hw;clear T2))
   go_ret;exact⟨by rw[E.o];rfl,HB.o⟩
  |true=>
   rw[e1] at T2;have e1':=of_decide_eq_true e1;clear e1;subst e1';have E:=I (show decide ((⟨t,a⟩:Ap)=⟨t,a⟩)=true from decide_eq_true rfl);go_enter Tryz.func249,Tryz.ntmps249
   go_wp2_with (first
    |(go_at_call 278;refine Calls.mono (T1.o _ HB.o) ?_;rintro e3 w1 ⟨rfl,hb⟩;replace HX:=I (HX.o.below hb);replace HY:=I (HY.o.below hb);replace HB:=HB.t hb;clear hb T1;have kx4:w1.cell? ⟨w.heap.size,4,none⟩=some (.slice A2 a.length c2):=HX.o.cell 4;have ky4:w1.cell? ⟨w.heap.size+1,4,none⟩=some (.slice D2 a.length d2):=HY.o.cell 4)
    |(go_at_call 181;refine Calls.mono (T2.o _ HB.o) ?_;rintro e4 wb2 ⟨rfl,hw⟩;subst hw;clear T2))
   go_ret;exact⟨by rw[E.o];rfl,HB.o⟩
end Mc
end
end Go.Proofs.YtfcjeebnkigeaaaGreat
