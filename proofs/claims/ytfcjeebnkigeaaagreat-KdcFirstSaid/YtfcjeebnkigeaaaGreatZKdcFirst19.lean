import Derived.Test.YtfcjeebnkigeaaaGreatZKdcFirst17
set_option maxHeartbeats 25600000
set_option maxRecDepth 100000
set_option linter.unusedVariables false
set_option linter.unusedSimpArgs false
namespace Go.Proofs.YtfcjeebnkigeaaaGreat
section
namespace Kd
open Go.RowKit Af Se
open Rg (It Ent Ring RO DRing DO its prV Cc BB numO Lp JB)
open Ms (tmB inB)
open Rg (Ah)
open Nm (krb)
theorem IV (n:Int) (w:World):Calls Tryz.prog 47 #[.int .i64 n] w fun e w'=>e = .returned (.bool (tmB n))∧w=w':=by
 by_cases h1:0≤n
 ·by_cases h2:n≤1073741824
  ·have t1:decide ((0:Int)≤n)=true:=decide_eq_true h1
   have t2:decide (n≤1073741824)=true:=decide_eq_true h2;have E:=I (show tmB n=true by simp [tmB,inB,h1,h2]);rw[E.o];clear h1 h2;go_enter Tryz.func47,Tryz.ntmps47
   go_wp2
   go_ret;exact⟨rfl,rfl⟩
  ·have t1:decide ((0:Int)≤n)=true:=decide_eq_true h1
   have t2:decide (n≤1073741824)=false:=decide_eq_false h2;have E:=I (show tmB n=false by simp [tmB,inB,h1,h2]);rw[E.o];clear h1 h2;go_enter Tryz.func47,Tryz.ntmps47
   go_wp2
   go_ret;exact⟨rfl,rfl⟩
 ·have t1:decide ((0:Int)≤n)=false:=decide_eq_false h1
  have E:=I (show tmB n=false by simp [tmB,inB,h1]);rw[E.o];clear h1;go_enter Tryz.func47,Tryz.ntmps47
  go_wp2
  go_ret;exact⟨rfl,rfl⟩
theorem Da:(Tryz.prog.info? 27).map (·.size)=some 2:=by kernel_rfl
theorem RZ:(Tryz.prog.info? 127).map (·.size)=some 4:=by kernel_rfl
abbrev hoA (q:Rg.Pr) (b:Option Addr) (k:Int):Array Value:=#[.string ⟨q.1.toArray⟩,.string ⟨q.2.toArray⟩,.pointer b,.int .i64 k]
section
variable {w:World} {B:Nat} {p:KP} {es:List Ent} {n i:Nat}
theorem NU {q:Rg.Pr} {j:Nat} {x:Ent} (h:KD w B p es n i) (hl:es.length≤1000) (hf:Cc (its es) q=some j) (hx:es[j]? = some x) :
  Calls Tryz.prog 49 #[.pointer (some ⟨p.k,0,none⟩),prV q] w fun e w'=>e = .returned (.tuple #[.agg (hoA q (some ⟨x.b,0,none⟩) (x.it.n:Int)),.bool true])∧Below w.heap.size w w':=by
 obtain⟨W,eW⟩:∃W,W=(w.alloc (.cells #[.string ⟨q.1.toArray⟩,.string ⟨q.2.toArray⟩] 27)).alloc (.cells #[.string ⟨#[]⟩,.string ⟨#[]⟩,.pointer none,.int .i64 0] 127):=⟨_,rfl⟩;have hb:Below w.heap.size w W:=eW▸((Below.refl _ _).alloc (Nat.le_refl _) _).alloc (by simp) _;have HP:=I (show Blk W w.heap.size 27 #[.string ⟨q.1.toArray⟩,.string ⟨q.2.toArray⟩] from eW▸(Blk.new w _ _).alloc _);have HO:=I (show Blk W (w.heap.size+1) 127 #[.string ⟨#[]⟩,.string ⟨#[]⟩,.pointer none,.int .i64 0] by have:=Blk.new (w.alloc (.cells #[.string ⟨q.1.toArray⟩,.string ⟨q.2.toArray⟩] 27)) 127 #[.string ⟨#[]⟩,.string ⟨#[]⟩,.pointer none,.int .i64 0];simp only[World.size_alloc] at this;exact eW▸this);have HB:=I hb;have HK:=I (h.below hb);have C1:=I (fun(w1:World) (h1:Ring w1 B p.r p.v es)=>Lp h1 hl hf hx);clear h hl hf hx hb;go_enter Tryz.func49,Tryz.ntmps49
 go_upto_region 1 with fail
 rw[←eW];clear eW;replace HP:=I (show Blk W.drew _ _ _ from HP.o.drewN 1);replace HO:=I (show Blk W.drew _ _ _ from HO.o.drewN 1);replace HB:=I (show Below _ _ W.drew from below_drewN HB.o 1);replace HK:=I HK.o.drew
 go_region_held3 (fun w'=>w'.cell? ⟨p.k,4,none⟩=some (.pointer (some ⟨p.r,0,none⟩))∧w'.cell? ⟨w.heap.size,0,none⟩=some (.string ⟨q.1.toArray⟩)∧w'.cell? ⟨w.heap.size,1,none⟩=some (.string ⟨q.2.toArray⟩)) (exact⟨HK.o.blk.cell 4,HP.o.cell 0,HP.o.cell 1⟩) ((go_at_call 105;refine Calls.mono (C1.o _ HK.o.ring) ?_;rintro e w1 ⟨rfl,hb⟩;clear C1;replace HP:=I (HP.o.below hb);replace HO:=I (HO.o.below hb);replace HB:=HB.t hb;replace HK:=I (HK.o.below hb);clear hb))
 have k0:w1.cell? ⟨w.heap.size,0,none⟩=some (.string ⟨q.1.toArray⟩):=HP.o.cell 0;have k1:w1.cell? ⟨w.heap.size,1,none⟩=some (.string ⟨q.2.toArray⟩):=HP.o.cell 1;have ko0:w1.cell? ⟨w.heap.size+1,0,none⟩=some (.string ⟨#[]⟩):=HO.o.cell 0;have ko1:w1.cell? ⟨w.heap.size+1,1,none⟩=some (.string ⟨#[]⟩):=HO.o.cell 1;have ko2:w1.cell? ⟨w.heap.size+1,2,none⟩=some (.pointer none):=HO.o.cell 2;have ko3:w1.cell? ⟨w.heap.size+1,3,none⟩=some (.int .i64 0):=HO.o.cell 3;have fz:=HO.o.frozen
 go_wp2
 have hv:=(((HO.o.set 0 (.string ⟨q.1.toArray⟩)).set 1 (.string ⟨q.2.toArray⟩)).set 2 (.pointer (some ⟨x.b,0,none⟩))).set 3 (.int .i64 (x.it.n:Int));refine bodyPost_ret (v:=.tuple #[.agg (hoA q (some ⟨x.b,0,none⟩) (x.it.n:Int)),.bool true]) ?_ ?_ ?_
 ·exact Ah (v:=.agg (hoA q (some ⟨x.b,0,none⟩) (x.it.n:Int))) 4 5 127 ⟨w.heap.size+1,0,none⟩ Tryz.results49 rfl (Wh.Ak hv Tryz.underlying127 (by rfl) RZ) rfl
 ·rfl
 ·exact⟨rfl,Si.Am (Si.Am (Si.Am (Si.Am HB.o (by simp) _) (by simp) _) (by simp) _) (by simp) _⟩
theorem Lr {q:Rg.Pr} (h:KD w B p es n i) (hl:es.length≤1000) (hf:Cc (its es) q=none) :
  Calls Tryz.prog 49 #[.pointer (some ⟨p.k,0,none⟩),prV q] w fun e w'=>e = .returned (.tuple #[.agg (hoA ([],[]) none 0),.bool false])∧Below w.heap.size w w':=by
 obtain⟨W,eW⟩:∃W,W=(w.alloc (.cells #[.string ⟨q.1.toArray⟩,.string ⟨q.2.toArray⟩] 27)).alloc (.cells #[.string ⟨#[]⟩,.string ⟨#[]⟩,.pointer none,.int .i64 0] 127):=⟨_,rfl⟩;have hb:Below w.heap.size w W:=eW▸((Below.refl _ _).alloc (Nat.le_refl _) _).alloc (by simp) _;have HP:=I (show Blk W w.heap.size 27 #[.string ⟨q.1.toArray⟩,.string ⟨q.2.toArray⟩] from eW▸(Blk.new w _ _).alloc _);have HO:=I (show Blk W (w.heap.size+1) 127 #[.string ⟨#[]⟩,.string ⟨#[]⟩,.pointer none,.int .i64 0] by have:=Blk.new (w.alloc (.cells #[.string ⟨q.1.toArray⟩,.string ⟨q.2.toArray⟩] 27)) 127 #[.string ⟨#[]⟩,.string ⟨#[]⟩,.pointer none,.int .i64 0];simp only[World.size_alloc] at this;exact eW▸this);have HB:=I hb;have HK:=I (h.below hb);have C1:=I (fun(w1:World) (h1:Ring w1 B p.r p.v es)=>JB h1 hl hf);clear h hl hf hb;go_enter Tryz.func49,Tryz.ntmps49
 go_upto_region 1 with fail
 rw[←eW];clear eW;replace HP:=I (show Blk W.drew _ _ _ from HP.o.drewN 1);replace HO:=I (show Blk W.drew _ _ _ from HO.o.drewN 1);replace HB:=I (show Below _ _ W.drew from below_drewN HB.o 1);replace HK:=I HK.o.drew
 go_region_held3 (fun w'=>w'.cell? ⟨p.k,4,none⟩=some (.pointer (some ⟨p.r,0,none⟩))∧w'.cell? ⟨w.heap.size,0,none⟩=some (.string ⟨q.1.toArray⟩)∧w'.cell? ⟨w.heap.size,1,none⟩=some (.string ⟨q.2.toArray⟩)) (exact⟨HK.o.blk.cell 4,HP.o.cell 0,HP.o.cell 1⟩) ((go_at_call 105;refine Calls.mono (C1.o _ HK.o.ring) ?_;rintro e w1 ⟨rfl,hb⟩;clear C1;replace HP:=I (HP.o.below hb);replace HO:=I (HO.o.below hb);replace HB:=HB.t hb;replace HK:=I (HK.o.below hb);clear hb))
 have ko0:w1.cell? ⟨w.heap.size+1,0,none⟩=some (.string ⟨#[]⟩):=HO.o.cell 0;have ko1:w1.cell? ⟨w.heap.size+1,1,none⟩=some (.string ⟨#[]⟩):=HO.o.cell 1;have ko2:w1.cell? ⟨w.heap.size+1,2,none⟩=some (.pointer none):=HO.o.cell 2;have ko3:w1.cell? ⟨w.heap.size+1,3,none⟩=some (.int .i64 0):=HO.o.cell 3;have fz:=HO.o.frozen
 go_wp2
 have hv:=(((HO.o.set 0 (.string ⟨#[]⟩)).set 1 (.string ⟨#[]⟩)).set 2 (.pointer none)).set 3 (.int .i64 0);refine bodyPost_ret (v:=.tuple #[.agg (hoA ([],[]) none 0),.bool false]) ?_ ?_ ?_
 ·exact Ah (v:=.agg (hoA ([],[]) none 0)) 4 5 127 ⟨w.heap.size+1,0,none⟩ Tryz.results49 rfl (Wh.Ak hv Tryz.underlying127 (by rfl) RZ) rfl
 ·rfl
 ·exact⟨rfl,Si.Am (Si.Am (Si.Am (Si.Am HB.o (by simp) _) (by simp) _) (by simp) _) (by simp) _⟩
theorem Uk {r:Nm.L} (h:KD w B p es n i) (hr:r.length≤1000000) :
  Calls Tryz.prog 50 #[.pointer (some ⟨p.k,0,none⟩),.string ⟨r.toArray⟩] w fun e w'=>e = .returned (prV (kr p.R r))∧Below w.heap.size w w':=by
 obtain⟨W,eW⟩:∃W,W=w.alloc (.cells #[.string ⟨#[]⟩,.string ⟨#[]⟩] 27):=⟨_,rfl⟩;have hb:Below w.heap.size w W:=eW▸(Below.refl _ _).alloc (Nat.le_refl _) _;have HP:=I (show Blk W w.heap.size 27 #[.string ⟨#[]⟩,.string ⟨#[]⟩] from eW▸Blk.new w _ _);have HB:=I hb;have HK:=I (h.below hb);have hlt:=h.lt;have C1:=I (fun(w1:World)=>Nm.Ol r w1 (by omega));clear h hr hb;go_enter Tryz.func50,Tryz.ntmps50
 go_upto_region 1 with fail
 rw[←eW];clear eW;replace HP:=I (show Blk W.drew _ _ _ from HP.o.drewN 1);replace HB:=I (show Below _ _ W.drew from below_drewN HB.o 1);replace HK:=I HK.o.drew;have kz0:W.drew.cell? ⟨w.heap.size,0,none⟩=some (.string ⟨#[]⟩):=HP.o.cell 0;have kz1:W.drew.cell? ⟨w.heap.size,1,none⟩=some (.string ⟨#[]⟩):=HP.o.cell 1;have fz:=HP.o.frozen;have hp0:Blk W w.heap.size 27 #[.string ⟨#[]⟩,.string ⟨#[]⟩]:=HP.o;have ky0:=hp0.cell 0;have ky1:W.cell? ⟨w.heap.size,1,none⟩=some (.string ⟨#[]⟩):=hp0.cell 1;have fy:=hp0.frozen;clear hp0;have k0:W.drew.cell? ⟨p.k,0,none⟩=some (.string ⟨p.R.toArray⟩):=HK.o.blk.cell 0;refine wp_region_still_tail 7 (by kernel_rfl) (by kernel_rfl) ?_;simp only[List.take_succ_cons,List.take_zero,List.drop_succ_cons,List.drop_zero];change wpStill _ _ W.drew _ _ _
 repeat still_step
 still_call ((C1.o _).mono (fun _ _ h=>⟨h.1,h.2.symm⟩))
 repeat still_step
 refine wpStill_nil ?_;change wpList _ _ _ _ _ W.drew
 go_wp2
 have hv:=(HP.o.set 0 (.string ⟨p.R.toArray⟩)).set 1 (.string ⟨(krb++r).toArray⟩);refine bodyPost_ret (v:=prV (kr p.R r)) ?_ ?_ ?_
 ·exact Wh.An (v:=prV (kr p.R r)) 4 27 ⟨w.heap.size,0,none⟩ Tryz.results50 (by rfl) (Wh.Ak hv Tryz.underlying27 (by rfl) Da)
 ·rfl
 ·exact⟨rfl,Si.Am (Si.Am HB.o (by simp) _) (by simp) _⟩
end
theorem NV (p:Rg.Pr) (w:World) (h1:p.1.length≤1000000000) (h2:p.2.length≤1000000000):Calls Tryz.prog 109 #[prV p] w fun e w'=>e = .returned (prV p)∧Below w.heap.size w w':=by
 have C1:=I (fun w1=>Nm.Bv p.1 w1 h1);have C2:=I (fun w1=>Nm.Bv p.2 w1 h2);go_enter Tryz.func109,Tryz.ntmps109
 go_upto_region 1 with fail
 obtain⟨W,eW⟩:∃W,W=(w.alloc (.cells #[.string ⟨p.1.toArray⟩,.string ⟨p.2.toArray⟩] 27)).alloc (.cells #[.string ⟨#[]⟩,.string ⟨#[]⟩] 27):=⟨_,rfl⟩;have hq:=Blk.new (w.alloc (.cells #[.string ⟨p.1.toArray⟩,.string ⟨p.2.toArray⟩] 27)) 27 #[.string ⟨#[]⟩,.string ⟨#[]⟩];rw[show(w.alloc (.cells #[.string ⟨p.1.toArray⟩,.string ⟨p.2.toArray⟩] 27)).heap.size=w.heap.size+1 by simp,←eW] at hq;have HK:=I (show Blk W w.heap.size 27 #[.string ⟨p.1.toArray⟩,.string ⟨p.2.toArray⟩] by rw[eW];exact(Blk.new _ _ _).alloc _);have HZ:=I hq;have HB:=I (show Below w.heap.size w W by rw[eW];exact((Below.refl _ _).alloc (Nat.le_refl _) _).alloc (by simp) _);rw[←eW];clear eW hq;replace HK:=I (show Blk W.drew _ _ _ from HK.o.drewN 1);replace HZ:=I (show Blk W.drew _ _ _ from HZ.o.drewN 1);replace HB:=I (show Below _ _ W.drew from below_drewN HB.o 1)
 go_region_held3 (fun w'=>w'.cell? ⟨w.heap.size,0,none⟩=some (.string ⟨p.1.toArray⟩)∧w'.cell? ⟨w.heap.size,1,none⟩=some (.string ⟨p.2.toArray⟩)) (first | exact⟨HK.o.cell 0,HK.o.cell 1⟩ | exact⟨(Si.Blk.far (Si.Blk.far HK.o _ _ (by simp)) _ _ (by simp)).cell 0,(Si.Blk.far (Si.Blk.far HK.o _ _ (by simp)) _ _ (by simp)).cell 1⟩) ((first
  |(go_at_call 94;(with_reducible refine Calls.mono (C1.o _) ?_);rintro e w1 ⟨rfl,hb⟩;clear C1;replace HK:=I (HK.o.below hb);replace HZ:=I (HZ.o.below hb);replace HB:=HB.t hb;have kz0:w1.cell? ⟨w.heap.size+1,0,none⟩=some (.string ⟨#[]⟩):=HZ.o.cell 0;have kz1:w1.cell? ⟨w.heap.size+1,1,none⟩=some (.string ⟨#[]⟩):=HZ.o.cell 1;have fz:=HZ.o.frozen;clear hb)
  |(go_at_call 94;(with_reducible refine Calls.mono (C2.o _) ?_);rintro e w2 ⟨rfl,hb⟩;clear C2 kz0 kz1 fz;replace HK:=I (HK.o.below hb);replace HZ:=I (HZ.o.below hb);replace HB:=HB.t hb;have kz0:w2.cell? ⟨w.heap.size+1,0,none⟩=some (.string ⟨#[]⟩):=HZ.o.cell 0;have kz1:w2.cell? ⟨w.heap.size+1,1,none⟩=some (.string ⟨#[]⟩):=HZ.o.cell 1;have fz:=HZ.o.frozen;clear hb)))
 go_wp2
 have hz:=(HZ.o.set 0 (.string ⟨p.1.toArray⟩)).set 1 (.string ⟨p.2.toArray⟩);rw[show(((#[.string ⟨#[]⟩,.string ⟨#[]⟩]:Array Value).setIfInBounds 0 (.string ⟨p.1.toArray⟩)).setIfInBounds 1 (.string ⟨p.2.toArray⟩))=#[.string ⟨p.1.toArray⟩,.string ⟨p.2.toArray⟩] from rfl] at hz;refine bodyPost_ret (v:=prV p) ?_ ?_ ?_
 ·exact Wh.An (v:=prV p) 2 27 ⟨w.heap.size+1,0,none⟩ Tryz.results109 (by rfl) (Wh.Ak hz Tryz.underlying27 (by rfl) Da)
 ·rfl
 ·exact⟨rfl,Si.Am (Si.Am HB.o (by simp) _) (by simp) _⟩
end Kd
end
section
namespace DerR
open Go.RowKit Af DerP Reg
def Ints (w:World) (B g:Nat) (c:Option L) (e:Ending) (w':World):Prop:=
 e = .returned (.int .i64 ((intC c).1:Int))∧RC w' B g (intC c).2∧w.grownBy w' (some g)
theorem Sa {c:Option L} (h:AF 2 c=none∨∃p,AF 2 c=some p∧numL p=none):intC c=(0,none):=by
 rcases h with h | ⟨p,h,h2⟩
 ·simp [intC,h]
 ·simp [intC,h,h2]
theorem Gw {w0 w:World} {B g:Nat} {c:Option L} {A:Option Addr} {n cap:Nat} {e:Bool} (hb:Blk w g 175 #[.slice A n cap,.bool e]) (h:AF 2 c=none∨∃p,AF 2 c=some p∧numL p=none) (hg:w0.grownBy w (some g)) :
  Ints w0 B g c (.returned (.int .i64 0)) (w.setCell ⟨g,1,none⟩ (.bool true)):=by
 unfold Ints;rw[Sa h];exact⟨rfl,⟨A,n,cap,true,hb.set 1 (.bool true),rfl⟩,Ay hg (.inl rfl) _⟩
theorem Sb (B g : Nat) (c : Option L) (w : World) (h : RC w B g c) (hB : B ≤ w.heap.size) (hBg : B ≤ g) (hu : (c.getD []).length ≤ 100000) (hn : AF 2 c = none) :
    Calls Tryz.prog 78 #[.pointer (some ⟨g,0,none⟩)] w (Ints w B g c):=by
  have HT:=I (Ey 2 B g w c h hB hBg hu);have HN:=I hn;clear h hB hBg hu hn;go_enter Tryz.func78,Tryz.ntmps78
  go_wp2_with (go_at_call 135; refine HT.o.mono ?_; rintro e w1 ⟨⟨A', cap', rfl, hcap, hrd⟩, hrc, hg⟩
               rw[Gc 2 c HN.o] at hrc;obtain⟨A,n,cap,e,hb,rfl⟩:=hrc;have HB:=I hb;have h1:w1.cell? ⟨g,1,none⟩=some (.bool true):=hb.cell 1;have f1:=hb.frozen 1;clear hb hcap hrd)
  go_ret;exact Gw HB.o (.inl HN.o) hg
theorem JC (B g:Nat) (c:Option L) (w:World) (h:RC w B g c) (hB:B≤w.heap.size) (hBg:B≤g) (hu:(c.getD []).length≤100000) (p r:L) (hp:AF 2 c=some p) (hr:AZ 2 c=some r) :
  Calls Tryz.prog 135 #[.pointer (some ⟨g,0,none⟩),.int .u8 2] w fun e w'=>
   (∃A' cap' A n cap,e = .returned (.slice A' p.length cap')∧Rd w' B A' (bvs p)∧Blk w' g 175 #[.slice A n cap,.bool false]∧RS w' B A n cap false (some r))∧w.grownBy w' (some g):=by
 refine(Ey 2 B g w c h hB hBg hu).mono ?_;rintro e w' ⟨⟨A',cap',rfl,_,hrd⟩,hrc,hg⟩;rw[hp] at hrd;rw[hr] at hrc;obtain⟨A,n,cap,e,hb,rfl,h2⟩:=hrc;rw[hp];exact⟨⟨A',cap',A,n,cap,rfl,hrd,hb,rfl,h2⟩,hg⟩
theorem Ul (B g : Nat) (c : Option L) (w : World) (h : RC w B g c) (hB : B ≤ w.heap.size) (hBg : B ≤ g) (hu : (c.getD []).length ≤ 100000) (p r : L) (hp : AF 2 c = some p) (hr : AZ 2 c = some r) (hn : numL p = none) (hl : p.length = 0 ∨ 9 < p.length) :
    Calls Tryz.prog 78 #[.pointer (some ⟨g,0,none⟩)] w (Ints w B g c):=by
  have HT:=I (JC B g c w h hB hBg hu p r hp hr);have HN:=I (show AF 2 c=none∨∃p,AF 2 c=some p∧numL p=none from .inr ⟨p,hp,hn⟩);have go : ∀ b1 b2 : Bool, ((p.length : Int) == 0) = b1 → decide ((9 : Int) < (p.length : Int)) = b2 → (b1 || b2) = true →
      Calls Tryz.prog 78 #[.pointer (some ⟨g,0,none⟩)] w (Ints w B g c):=by
    intro b1 b2 g1 g2 hor;clear h hB hBg hu hn hp hr hl;cases b1<;>cases b2<;>first
      |(exact(Bool.false_ne_true hor).elim)
      | (clear hor
         go_enter Tryz.func78,Tryz.ntmps78
         go_wp2_with (go_at_call 135; refine HT.o.mono ?_; rintro e w1 ⟨⟨A', cap', A, n, cap, rfl, hrd, hb, hrs⟩, hg⟩
                      have HB:=I hb;have h1:w1.cell? ⟨g,1,none⟩=some (.bool false):=hb.cell 1;have f1:=hb.frozen 1;clear hb hrs hrd)
         go_ret;exact Gw HB.o HN.o hg)
  refine go _ _ rfl rfl ?_;rcases hl with hl | hl
  · simp [hl]
  · simp; omega
theorem Jk {p:L} (h:numL p≠none) (i:Nat):val (p.take i)<9223372036854775808:=by
 cases p with
 |nil=>exact absurd rfl h
 |cons a r=>
  by_cases hc:7<r.length∨128≤a.toNat
  ·exact absurd (En (.inl hc)) h
  ·exact Ic (by omega) (by omega) i
theorem NW (x y:Int) : -9223372036854775808≤bits .or .i64 x y∧bits .or .i64 x y≤9223372036854775807:=by
 show -9223372036854775808≤IntKind.i64.wrap _∧IntKind.i64.wrap _≤9223372036854775807;rw[IntKind.wrap_i64];omega
theorem Pv {p:L} {v:Int} (hp:p.length≤65535) (h0:0≤v) (h1:v≤4611686018427387904) (h:encI v=elem 2 p):numL p=some v.toNat:=by
 have e:=Nd (t:=2) (p:=dig (BC v)) (q:=p) (r1:=[]) (r2:=[]) (by have:=Hl v;omega) hp (by rw[List.append_nil,List.append_nil];exact h);rw[←e.1,PQ _ (El v),Ib v h0 h1]
theorem Sd (B g : Nat) (c : Option L) (w : World) (h : RC w B g c) (hB : B ≤ w.heap.size) (hBg : B ≤ g) (hu : (c.getD []).length ≤ 100000) (p r : L) (hp : AF 2 c = some p) (hr : AZ 2 c = some r) (hl0 : p.length ≠ 0) (hl : p.length ≤ 9) :
    Calls Tryz.prog 78 #[.pointer (some ⟨g,0,none⟩)] w (Ints w B g c):=by
  have HT:=I (JC B g c w h hB hBg hu p r hp hr);have HP:=I hp;have HRR:=I hr;have HBB:=I hB;have HBG:=I hBg;have HL:=I hl;have g1:((p.length:Int)==0)=false:=by simp only[beq_eq_false_iff_ne,ne_eq];omega
  have g2:decide ((9:Int)<(p.length:Int))=false:=by simp;omega
  have hlu:(p.length:Int)≤9:=by omega
  clear h hB hBg hu hp hr hl0 hl;go_enter Tryz.func78,Tryz.ntmps78
  go_wp2_with (go_at_call 135; refine HT.o.mono ?_; rintro e w1 ⟨⟨A', cap', A, n, cap, rfl, hrd, hb, hrs⟩, hg⟩
               have HB:=I hb;have HRD:=I hrd;have HRS:=I hrs;have h1:w1.cell? ⟨g,1,none⟩=some (.bool false):=hb.cell 1;have f1:=hb.frozen 1;clear hb hrs hrd)
  go_loop [4,5] (fun nv i=>∃(j:Nat) (v:Int),j≤p.length∧i = .int .i64 (j:Int)∧nv = .int .i64 v∧-9223372036854775808≤v∧v≤9223372036854775807∧(numL p≠none→v=(val (p.take j):Int))) (fun _ i=>p.length - (intOf i).toNat)
  case atStart=>exact⟨0,0,by omega,rfl,rfl,by omega,by omega,fun _=>by simp [val]⟩
  case round=>
    obtain⟨j,v,hj,rfl,rfl,hv0,hv1,hval⟩:=hrel;have HV:=I hval;clear hval
    by_cases hlt:j<p.length
    · obtain ⟨b, o, rfl, hbB, hcell⟩ := HRD.o.at_ (Dw hlt)
      have hc1:w1.cell? ⟨b,o+j,none⟩=some (.int .u8 ((p[j]).toNat:Int)):=hcell;have hb255:=Br p[j];have HSN:=I (DN p j hlt);have HSM:=I (Jk (p:=p));have HLT:=I (p[j]).toNat_lt;clear hcell
      go_wp2
      refine⟨⟨j+1,_,by omega,by go_num,rfl,(NW _ _).1,(NW _ _).2,fun hne=>?_⟩,by simp [intOf];omega⟩;have e1:=HV.o hne;have e2:=HSM.o hne (j+1);have e3:=HSN.o;rw[e3] at e2⊢;have e4:=GY (val (p.take j)) (p[j]).toNat HLT.o (by omega);have e5:wrap64 (v*256)=((val (p.take j):Nat):Int)*256:=by
        rw[e1];exact IntWalk.wrap64_in _ (by omega)
      rw[e5,e4];omega
    · obtain rfl : j = p.length := by omega
      clear hj hlt;rw[List.take_length] at HV
      by_cases hneg:v<0
      · have g3 : decide (v < 0) = true := by simp only [decide_eq_true_eq]; omega
        have HN:=I (show AF 2 c=none∨∃p,AF 2 c=some p∧numL p=none from .inr ⟨p,HP.o,by
          cases hx:numL p with
          |none=>rfl
          |some y=>have:=HV.o (by rw[hx];simp);omega⟩)
        clear hneg
        go_wp2
        go_quiet (fail)
        go_wp2
        go_ret;exact Gw (HB.o.drewN _) HN.o (FE hg _)
      · have g3 : decide (v < 0) = false := by simp only [decide_eq_false_iff_not]; omega
        by_cases hbig:4611686018427387904<v
        · have g4 : decide (4611686018427387904 < v) = true := by simp only [decide_eq_true_eq]; omega
          have HN:=I (show AF 2 c=none∨∃p,AF 2 c=some p∧numL p=none from .inr ⟨p,HP.o,by
            cases hx:numL p with
            |none=>rfl
            |some y=>have:=HV.o (by rw[hx];simp);have:=(Ep hx).1;have:=(Ep hx).2.1;omega⟩)
          clear hneg hbig
          go_wp2
          go_quiet (fail)
          go_wp2
          go_ret;exact Gw (HB.o.drewN _) HN.o (FE hg _)
        · have g4 : decide (4611686018427387904 < v) = false := by simp only [decide_eq_false_iff_not]; omega
          by_cases heq:encI v=elem 2 p
          · have HEQ := I heq
            have HNUM:=I (Pv (by have:=HL.o;omega) (by omega) (by omega) heq);have HV0:=I (show ¬v<0 from hneg);clear heq
            go_wp2
            refine Cf 15 rfl (by kernel_rfl) ?_;refine Ax 0 (v:=?ve0) rfl (by kernel_rfl) (by kernel_rfl) (by kernel_rfl) (fun _ _ _ h=>h) (by rfl) (fun w' hS=>?hye0) ?reste0
            case hye0=>go_simp;rfl
            simp only[Act.put,U,Aa,Ab];refine Ax 1 (v:=?ve1) rfl (by kernel_rfl) (by kernel_rfl) (by kernel_rfl) (fun _ _ _ h=>h) (by rfl) (fun w' hS=>?hye1) ?reste1
            case hye1=>go_simp;rfl
            simp only[Act.put,U,Aa,Ab];refine Ax 2 (v:=?ve2) rfl (by kernel_rfl) (by kernel_rfl) (by kernel_rfl) (fun _ _ _ h=>h) (by rfl) (fun w' hS=>?hye2) ?reste2
            case hye2=>go_simp;rfl
            simp only[Act.put,U,Aa,Ab];refine Ax 3 (v:=?ve3) rfl (by kernel_rfl) (by kernel_rfl) (by kernel_rfl) (fun _ _ _ h=>h) (by rfl) (fun w' hS=>?hye3) ?reste3
            case hye3=>go_simp;rfl
            simp only[Act.put,U,Aa,Ab];refine Ax 4 (v:=?ve4) rfl (by kernel_rfl) (by kernel_rfl) (by kernel_rfl) (fun _ _ _ h=>h) (by rfl) (fun w' hS=>?hye4) ?reste4
            case hye4=>go_simp;rfl
            simp only[Act.put,U,Aa,Ab];refine Ax 5 (v:=?ve5) rfl (by kernel_rfl) (by kernel_rfl) (by kernel_rfl) (fun _ _ _ h=>h) (by rfl) (fun w' hS=>?hye5) ?reste5
            case hye5=>go_simp;rfl
            simp only[Act.put,U,Aa,Ab];refine Ax 6 (v:=?ve6) rfl (by kernel_rfl) (by kernel_rfl) (by kernel_rfl) (fun _ _ _ h=>h) (by rfl) (fun w' hS=>?hye6) ?reste6
            case hye6=>go_simp;rfl
            simp only[Act.put,U,Aa,Ab];refine Ax 7 (v:=?ve7) rfl (by kernel_rfl) (by kernel_rfl) (by kernel_rfl) (fun _ _ _ h=>h) (by rfl) (fun w' hS=>?hye7) ?reste7
            case hye7=>go_simp;rfl
            simp only[Act.put,U,Aa,Ab];refine Ax 10 (v:=?ve10) rfl (by kernel_rfl) (by kernel_rfl) (by kernel_rfl) (fun _ _ _ h=>h) (by rfl) (fun w' hS=>?hye10) ?reste10
            case hye10=>go_simp;rfl
            simp only[Act.put,U,Aa,Ab];refine Dr 8 rfl (by kernel_rfl) (by rfl) 89 #[.int .i64 v] (by go_simp) ?_;refine Calls.mono (DerR.Dq v w1.drew) ?_;rintro e w2 ⟨⟨q2,d2,rfl,hq2,hd2,hrd2⟩,hb2⟩;refine⟨_,rfl,hb2,?_⟩;have HRD2:=I hrd2;have B2:Below w1.heap.size w1 w2:=bt (Below.refl _ _).drew hb2;clear hrd2;simp only[Act.put,U,Aa,Ab];refine Ax 9 (v:=?ve9) rfl (by kernel_rfl) (by kernel_rfl) (by kernel_rfl) (fun _ _ _ h=>h) (by rfl) (fun w' hS=>?hye9) ?reste9
            case hye9=>have hh:=Gm (P:=Tryz.prog) Tryz.underlying30 Tryz.underlying5 Tryz.underlying9 (n:=(encI v).length) (c:=d2) HRD2.o (Nat.le_refl _) rfl w' hS;go_simp;rfl
            simp only[Act.put,U,Aa,Ab];refine Dr 11 rfl (by kernel_rfl) (by rfl) 137 #[.int .u8 2,.slice A' p.length cap'] (by go_simp) ?_;refine Calls.mono (DerR.DR 2 p A' p.length cap' B w2 (HRD.o.below (B2.mono (Nat.le_trans HBB.o hg.size))) rfl (Nat.le_trans (Nat.le_trans HBB.o hg.size) B2.size) (by have:=HL.o;omega)) ?_;rintro e w3 ⟨⟨q3,d3,rfl,hq3,hd3,hrd3⟩,hb3⟩;refine⟨_,rfl,hb3,?_⟩;have HRD3:=I hrd3;have B3:Below w1.heap.size w1 w3:=bt B2 hb3;clear hrd3;rw[←HEQ.o] at HRD3;rw[←HEQ.o];simp only[Act.put,U,Aa,Ab];refine Ax 12 (v:=?ve12) rfl (by kernel_rfl) (by kernel_rfl) (by kernel_rfl) (fun _ _ _ h=>h) (by rfl) (fun w' hS=>?hye12) ?reste12
            case hye12=>have hh:=Gm (P:=Tryz.prog) Tryz.underlying30 Tryz.underlying5 Tryz.underlying9 (n:=(encI v).length) (c:=d3) HRD3.o (Nat.le_refl _) rfl w' hS;go_simp;rfl
            simp only[Act.put,U,Aa,Ab];refine Ax 13 (v:=?ve13) rfl (by kernel_rfl) (by kernel_rfl) (by kernel_rfl) (fun _ _ _ h=>h) (by rfl) (fun w' hS=>?hye13) ?reste13
            case hye13=>go_simp;rfl
            simp only[Act.put,U,Aa,Ab];refine Ax 14 (v:=?ve14) rfl (by kernel_rfl) (by kernel_rfl) (by kernel_rfl) (fun _ _ _ h=>h) (by rfl) (fun w' hS=>?hye14) ?reste14
            case hye14=>go_simp;rfl
            simp only[Act.put,U,Aa,Ab];refine wpAnyH_done (by kernel_rfl) ?_ _;have hc1:=HRS.o;have h1':w3.cell? ⟨g,1,none⟩=some (.bool false):=(HB.o.below B3).cell 1
            go_wp2
            go_ret;have hI:intC c=(v.toNat,some r):=by simp only[intC,HP.o,HNUM.o,HRR.o]
            unfold Ints;rw[hI];have hv0':=HV0.o;have hvv:((v.toNat:Nat):Int)=v:=by omega
            exact⟨by show Ending.returned (.int .i64 v) = .returned (.int .i64 ((v.toNat:Nat):Int));rw[hvv],⟨A,n,cap,false,HB.o.below B3,rfl,HRS.o.2.1,HRS.o.2.2.1,HRS.o.2.2.2.below (B3.mono (Nat.le_trans HBB.o hg.size))⟩,Hv hg B3⟩
          · have HNE := I heq
            have HN:=I (show AF 2 c=none∨∃p,AF 2 c=some p∧numL p=none from .inr ⟨p,HP.o,by
              cases hx:numL p with
              |none=>rfl
              |some y=>
                have e1:=HV.o (by rw[hx];simp);obtain⟨e2,e3,_⟩:=Ep hx;refine absurd ?_ heq;rw[encI,Ib v (by omega) (by omega),show v.toNat=y by omega,Vu hx]⟩)
            have hbeq:(encI v==elem 2 p)=false:=by simp only[beq_eq_false_iff_ne,ne_eq];exact heq
            clear heq
            go_wp2
            refine Cf 15 rfl (by kernel_rfl) ?_;refine Ax 0 (v:=?vf0) rfl (by kernel_rfl) (by kernel_rfl) (by kernel_rfl) (fun _ _ _ h=>h) (by rfl) (fun w' hS=>?hyf0) ?restf0
            case hyf0=>go_simp;rfl
            simp only[Act.put,U,Aa,Ab];refine Ax 1 (v:=?vf1) rfl (by kernel_rfl) (by kernel_rfl) (by kernel_rfl) (fun _ _ _ h=>h) (by rfl) (fun w' hS=>?hyf1) ?restf1
            case hyf1=>go_simp;rfl
            simp only[Act.put,U,Aa,Ab];refine Ax 2 (v:=?vf2) rfl (by kernel_rfl) (by kernel_rfl) (by kernel_rfl) (fun _ _ _ h=>h) (by rfl) (fun w' hS=>?hyf2) ?restf2
            case hyf2=>go_simp;rfl
            simp only[Act.put,U,Aa,Ab];refine Ax 3 (v:=?vf3) rfl (by kernel_rfl) (by kernel_rfl) (by kernel_rfl) (fun _ _ _ h=>h) (by rfl) (fun w' hS=>?hyf3) ?restf3
            case hyf3=>go_simp;rfl
            simp only[Act.put,U,Aa,Ab];refine Ax 4 (v:=?vf4) rfl (by kernel_rfl) (by kernel_rfl) (by kernel_rfl) (fun _ _ _ h=>h) (by rfl) (fun w' hS=>?hyf4) ?restf4
            case hyf4=>go_simp;rfl
            simp only[Act.put,U,Aa,Ab];refine Ax 5 (v:=?vf5) rfl (by kernel_rfl) (by kernel_rfl) (by kernel_rfl) (fun _ _ _ h=>h) (by rfl) (fun w' hS=>?hyf5) ?restf5
            case hyf5=>go_simp;rfl
            simp only[Act.put,U,Aa,Ab];refine Ax 6 (v:=?vf6) rfl (by kernel_rfl) (by kernel_rfl) (by kernel_rfl) (fun _ _ _ h=>h) (by rfl) (fun w' hS=>?hyf6) ?restf6
            case hyf6=>go_simp;rfl
            simp only[Act.put,U,Aa,Ab];refine Ax 7 (v:=?vf7) rfl (by kernel_rfl) (by kernel_rfl) (by kernel_rfl) (fun _ _ _ h=>h) (by rfl) (fun w' hS=>?hyf7) ?restf7
            case hyf7=>go_simp;rfl
            simp only[Act.put,U,Aa,Ab];refine Ax 10 (v:=?vf10) rfl (by kernel_rfl) (by kernel_rfl) (by kernel_rfl) (fun _ _ _ h=>h) (by rfl) (fun w' hS=>?hyf10) ?restf10
            case hyf10=>go_simp;rfl
            simp only[Act.put,U,Aa,Ab];refine Dr 8 rfl (by kernel_rfl) (by rfl) 89 #[.int .i64 v] (by go_simp) ?_;refine Calls.mono (DerR.Dq v w1.drew) ?_;rintro e w2 ⟨⟨q2,d2,rfl,hq2,hd2,hrd2⟩,hb2⟩;refine⟨_,rfl,hb2,?_⟩;have HRD2:=I hrd2;have B2:Below w1.heap.size w1 w2:=bt (Below.refl _ _).drew hb2;clear hrd2;simp only[Act.put,U,Aa,Ab];refine Ax 9 (v:=?vf9) rfl (by kernel_rfl) (by kernel_rfl) (by kernel_rfl) (fun _ _ _ h=>h) (by rfl) (fun w' hS=>?hyf9) ?restf9
            case hyf9=>have hh:=Gm (P:=Tryz.prog) Tryz.underlying30 Tryz.underlying5 Tryz.underlying9 (n:=(encI v).length) (c:=d2) HRD2.o (Nat.le_refl _) rfl w' hS;go_simp;rfl
            simp only[Act.put,U,Aa,Ab];refine Dr 11 rfl (by kernel_rfl) (by rfl) 137 #[.int .u8 2,.slice A' p.length cap'] (by go_simp) ?_;refine Calls.mono (DerR.DR 2 p A' p.length cap' B w2 (HRD.o.below (B2.mono (Nat.le_trans HBB.o hg.size))) rfl (Nat.le_trans (Nat.le_trans HBB.o hg.size) B2.size) (by have:=HL.o;omega)) ?_;rintro e w3 ⟨⟨q3,d3,rfl,hq3,hd3,hrd3⟩,hb3⟩;refine⟨_,rfl,hb3,?_⟩;have HRD3:=I hrd3;have B3:Below w1.heap.size w1 w3:=bt B2 hb3;clear hrd3;simp only[Act.put,U,Aa,Ab];refine Ax 12 (v:=?vf12) rfl (by kernel_rfl) (by kernel_rfl) (by kernel_rfl) (fun _ _ _ h=>h) (by rfl) (fun w' hS=>?hyf12) ?restf12
            case hyf12=>have hh:=Gm (P:=Tryz.prog) Tryz.underlying30 Tryz.underlying5 Tryz.underlying9 (n:=(elem 2 p).length) (c:=d3) HRD3.o (Nat.le_refl _) rfl w' hS;go_simp;rfl
            simp only[Act.put,U,Aa,Ab];refine Ax 13 (v:=?vf13) rfl (by kernel_rfl) (by kernel_rfl) (by kernel_rfl) (fun _ _ _ h=>h) (by rfl) (fun w' hS=>?hyf13) ?restf13
            case hyf13=>go_simp;rfl
            simp only[Act.put,U,Aa,Ab];refine Ax 14 (v:=?vf14) rfl (by kernel_rfl) (by kernel_rfl) (by kernel_rfl) (fun _ _ _ h=>h) (by rfl) (fun w' hS=>?hyf14) ?restf14
            case hyf14=>go_simp;rfl
            simp only[Act.put,U,Aa,Ab];refine wpAnyH_done (by kernel_rfl) ?_ _;have h1':w3.cell? ⟨g,1,none⟩=some (.bool false):=(HB.o.below B3).cell 1;have f1':=(HB.o.below B3).frozen 1
            go_wp2
            go_ret;exact Gw (HB.o.below B3) HN.o (Hv hg B3)
theorem Gx (B g:Nat) (c:Option L) (w:World) (h:RC w B g c) (hB:B≤w.heap.size) (hBg:B≤g) (hu:(c.getD []).length≤100000) :
  Calls Tryz.prog 78 #[.pointer (some ⟨g,0,none⟩)] w (Ints w B g c):=by
 cases hp:AF 2 c with
 |none=>exact Sb B g c w h hB hBg hu hp
 |some p=>
  obtain⟨r,hr⟩:∃r,AZ 2 c=some r:=by
   cases c with
   |none=>simp [AF] at hp
   |some s=>
    cases hs:Ba 2 s with
    |none=>rw[(Bd hs).1] at hp;cases hp
    |some x=>exact⟨_,(CX (b:=x.1) (r:=x.2) hs).2⟩
  by_cases hl:p.length=0∨9<p.length
  ·have hn:numL p=none:=by
    cases hx:numL p with
    |none=>rfl
    |some y=>obtain⟨_,_,h1,h2,_⟩:=Ep hx;omega
   exact Ul B g c w h hB hBg hu p r hp hr hn hl
  ·exact Sd B g c w h hB hBg hu p r hp hr (by omega) (by omega)
end DerR
end
section
namespace DerR
open Go.RowKit Af DerP Reg
theorem ML (B g:Nat) (c:Option L) (w:World) (h:RC w B g c) (hB:B≤w.heap.size) (hBg:B≤g) (hu:(c.getD []).length≤100000) :
  Calls Tryz.prog 84 #[.pointer (some ⟨g,0,none⟩)] w (Took w B g 4 c):=by
 have HT:=I (Ey 4 B g w c h hB hBg hu);clear h hB hBg hu;go_enter Tryz.func84,Tryz.ntmps84
 go_wp2_with (go_at_call 135;refine HT.o.mono ?_;rintro e w1 ⟨⟨A',cap',rfl,hcap,hrd⟩,hrc,hg⟩)
 go_ret;exact⟨⟨A',cap',rfl,hcap,hrd⟩,hrc,hg⟩
theorem IW (B g : Nat) (c : Option L) (w : World) (h : RC w B g c) (hB : B ≤ w.heap.size) (hBg : B ≤ g) (hu : (c.getD []).length ≤ 100000) :
    Calls Tryz.prog 77 #[.pointer (some ⟨g,0,none⟩)] w fun e w'=>e = .returned (.string ⟨((AF 27 c).getD []).toArray⟩)∧RC w' B g (AZ 27 c)∧w.grownBy w' (some g):=by
  have HT:=I (Ey 27 B g w c h hB hBg hu);clear h hB hBg hu;go_enter Tryz.func77,Tryz.ntmps77
  go_wp2_with (go_at_call 135; refine HT.o.mono ?_; rintro e w1 ⟨⟨A', cap', rfl, hcap, hrd⟩, hrc, hg⟩
               have hcv:=AJ (P:=Tryz.prog) w1 30 5 Tryz.underlying30 Tryz.underlying5 hrd ((AF 27 c).getD []).length cap' rfl 9 Tryz.underlying9)
  go_ret;exact⟨rfl,hrc,hg⟩
theorem Jl {t:UInt8} {c:Option L} {p:L} (h:AF t c=some p):∃r,AZ t c=some r:=by
 cases c with
 |none=>simp [AF] at h
 |some s=>
  cases hs:Ba t s with
  |none=>rw[(Bd hs).1] at h;cases h
  |some x=>exact⟨_,(CX (b:=x.1) (r:=x.2) hs).2⟩
theorem IX (t : UInt8) (B g : Nat) (c : Option L) (w : World) (h : RC w B g c) (hB : B ≤ w.heap.size) (hBg : B ≤ g) (hu : (c.getD []).length ≤ 100000) :
    Calls Tryz.prog 74 #[.pointer (some ⟨g,0,none⟩),.int .u8 t.toNat] w fun e w'=>
      (∃g',e = .returned (.pointer (some ⟨g',0,none⟩))∧w.heap.size≤g'∧RC w' B g' (AF t c))∧RC w' B g (AZ t c)∧w.grownBy w' (some g):=by
  have HT:=I (Ey t B g w c h hB hBg hu);have HB:=I hB;cases hb:AF t c with
  |none=>
    have hn:=Gc t c hb;unfold Took at HT;rw[hb,hn] at HT;rw[hn];clear h hB hBg hu hb hn;go_enter Tryz.func74,Tryz.ntmps74
    go_wp2_with (go_at_call 135; refine HT.o.mono ?_; rintro e w1 ⟨⟨A', cap', rfl, hcap, hrd⟩, ⟨A, n, cap, e, hb, rfl⟩, hg⟩
                 have HBK:=I hb;have h1:w1.cell? ⟨g,1,none⟩=some (.bool true):=hb.cell 1;clear hb)
    go_ret;exact⟨⟨_,rfl,hg.size,_,_,_,true,Blk.new w1 _ _,rfl⟩,⟨A,n,cap,true,HBK.o.alloc _,rfl⟩,FF hg _⟩
  |some p=>
    obtain⟨r,hn⟩:=Jl hb;unfold Took at HT;rw[hb,hn] at HT;rw[hn];clear h hB hBg hu hb hn;go_enter Tryz.func74,Tryz.ntmps74
    go_wp2_with (go_at_call 135; refine HT.o.mono ?_; rintro e w1 ⟨⟨A', cap', rfl, hcap, hrd⟩, ⟨A, n, cap, e, hb, rfl, hrs⟩, hg⟩
                 have HBK:=I hb;have HRS:=I hrs;have HRD:=I hrd;have HCP:=I hcap;have h1:w1.cell? ⟨g,1,none⟩=some (.bool false):=hb.cell 1;clear hb hrs hrd hcap)
    go_ret;have hs:=Nat.le_trans HB.o hg.size;exact⟨⟨_,rfl,hg.size,_,_,_,false,Blk.new w1 _ _,rfl,rfl,HCP.o,HRD.o.alloc hs _⟩,⟨A,n,cap,false,HBK.o.alloc _,rfl,HRS.o.1,HRS.o.2.1,HRS.o.2.2.alloc hs _⟩,FF hg _⟩
theorem Pw (B g:Nat) (c:Option L) (w:World) (h:RC w B g c):Calls Tryz.prog 136 #[.pointer (some ⟨g,0,none⟩)] w fun e w'=>e = .returned (.bool (DerC.Nf c))∧w=w':=by
 obtain⟨A,n,cap,e,hb,hrs⟩:=h;have h0:w.cell? ⟨g,0,none⟩=some (.slice A n cap):=hb.cell 0;have h1:w.cell? ⟨g,1,none⟩=some (.bool e):=hb.cell 1;cases c with
 |none=>
  obtain rfl:e=true:=hrs;clear hb;go_enter Tryz.func136,Tryz.ntmps136
  go_wp2
  go_ret;exact⟨rfl,rfl⟩
 |some l=>
  obtain⟨rfl,hn,_⟩:=hrs;clear hb
  by_cases hz:n=0
  ·have hl:DerC.Nf (some l)=true:=by
    have:l = []:=List.length_eq_zero_iff.1 (by omega);subst this;rfl
   subst hz;rw[hl];clear hl hn;go_enter Tryz.func136,Tryz.ntmps136
   go_wp2
   go_ret;exact⟨rfl,rfl⟩
  ·have hl:DerC.Nf (some l)=false:=by
    cases l with
    |nil=>exact absurd hn hz
    |cons a r=>rfl
   have g0:((n:Int)==0)=false:=by simp only[beq_eq_false_iff_ne,ne_eq];omega
   rw[hl];clear hl hn hz;go_enter Tryz.func136,Tryz.ntmps136
   go_wp2
   go_ret;exact⟨rfl,rfl⟩
end DerR
end
end Go.Proofs.YtfcjeebnkigeaaaGreat
