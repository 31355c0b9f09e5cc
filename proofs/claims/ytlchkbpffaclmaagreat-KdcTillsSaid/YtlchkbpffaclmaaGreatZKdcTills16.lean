import Derived.Test.YtlchkbpffaclmaaGreatZKdcTills3
import Derived.Test.YtlchkbpffaclmaaGreatZKdcTills14
set_option maxHeartbeats 25600000
set_option maxRecDepth 100000
set_option linter.unusedVariables false
set_option linter.unusedSimpArgs false
namespace Go.Proofs.YtlchkbpffaclmaaGreat
namespace Kd
open Go.RowKit Af Se
open Rg (It Ent Ring RO DRing DO its prV Bz Bw numO Me Kf Ad)
open Ms (tmB inB)
open Nm (krb)
theorem Ec (n:Int) (w:World):Calls Tryz.prog 24 #[.int .i64 n] w fun e w'=>e=.returned (.bool (tmB n))/\w=w':=by
 by_cases h1:0<=n
 ·by_cases h2:n<=1073741824
  ·have t1:decide ((0:Int)<=n)=true:=decide_eq_true h1
   have t2:decide (n<=1073741824)=true:=decide_eq_true h2;have E:=I (show tmB n=true by simp [tmB,inB,h1,h2]);rw[E.o];clear h1 h2;go_enter Tryz.func24,Tryz.ntmps24
   go_wp2
   go_ret;exact⟨rfl,rfl⟩
  ·have t1:decide ((0:Int)<=n)=true:=decide_eq_true h1
   have t2:decide (n<=1073741824)=false:=decide_eq_false h2;have E:=I (show tmB n=false by simp [tmB,inB,h1,h2]);rw[E.o];clear h1 h2;go_enter Tryz.func24,Tryz.ntmps24
   go_wp2
   go_ret;exact⟨rfl,rfl⟩
 ·have t1:decide ((0:Int)<=n)=false:=decide_eq_false h1
  have E:=I (show tmB n=false by simp [tmB,inB,h1]);rw[E.o];clear h1;go_enter Tryz.func24,Tryz.ntmps24
  go_wp2
  go_ret;exact⟨rfl,rfl⟩
theorem Cy:(Tryz.prog.info? 25).map (·.size)=some 2:=by kernel_rfl
theorem Lc:(Tryz.prog.info? 98).map (·.size)=some 4:=by kernel_rfl
abbrev hoA (q:Rg.Pr) (b:Option Addr) (k:Int):Array Value:=#[.string ⟨q.1.toArray⟩,.string ⟨q.2.toArray⟩,.pointer b,.int .i64 k]
section
variable {w:World} {B:Nat} {p:KP} {es:List Ent} {n i:Nat}
theorem Ld {q:Rg.Pr} {j:Nat} {x:Ent} (h:KD w B p es n i) (hl:es.length<=1000) (hf:Bz (its es) q=some j) (hx:es[j]? = some x) :
  Calls Tryz.prog 68 #[.pointer (some ⟨p.k,0,none⟩),prV q] w fun e w'=>e=.returned (.tuple #[.agg (hoA q (some ⟨x.b,0,none⟩) (x.it.n:Int)),.bool true])/\Below w.heap.size w w':=by
 obtain⟨W,eW⟩:=Ak ((w.alloc (.cells #[.string ⟨q.1.toArray⟩,.string ⟨q.2.toArray⟩] 25)).alloc (.cells #[.string ⟨#[]⟩,.string ⟨#[]⟩,.pointer none,.int .i64 0] 98));have hb:Below w.heap.size w W:=eW▸(Ah.alloc Ag _).alloc (by simp) _;have HP:=I (show Blk W w.heap.size 25 #[.string ⟨q.1.toArray⟩,.string ⟨q.2.toArray⟩] from eW▸(Blk.new w _ _).alloc _);have HO:=I (show Blk W (w.heap.size+1) 98 #[.string ⟨#[]⟩,.string ⟨#[]⟩,.pointer none,.int .i64 0] by have:=Blk.new (w.alloc (.cells #[.string ⟨q.1.toArray⟩,.string ⟨q.2.toArray⟩] 25)) 98 #[.string ⟨#[]⟩,.string ⟨#[]⟩,.pointer none,.int .i64 0];simp only[World.size_alloc] at this;exact eW▸this);have HB:=I hb;have HK:=I (h.below hb);have C1:=I (fun(w1:World) (h1:Ring w1 B p.r p.v es)=>Me h1 hl hf hx);clear h hl hf hx hb;go_enter Tryz.func68,Tryz.ntmps68
 go_upto_region 1 with fail
 rw[<-eW];clear eW;replace HP:=I (show Blk W.drew _ _ _ from HP.o.drewN 1);replace HO:=I (show Blk W.drew _ _ _ from HO.o.drewN 1);replace HB:=I (show Below _ _ W.drew from below_drewN HB.o 1);replace HK:=I HK.o.drew
 go_region_held3 (fun w'=>w'.cell? ⟨p.k,4,none⟩=some (.pointer (some ⟨p.r,0,none⟩))/\w'.cell? ⟨w.heap.size,0,none⟩=some (.string ⟨q.1.toArray⟩)/\w'.cell? ⟨w.heap.size,1,none⟩=some (.string ⟨q.2.toArray⟩)) (exact⟨HK.o.blk.cell 4,HP.o.cell 0,HP.o.cell 1⟩) ((go_at_call 113;refine Aj (C1.o _ HK.o.ring) ?_;rintro w1 hb;clear C1;replace HP:=I (HP.o.below hb);replace HO:=I (HO.o.below hb);replace HB:=HB.t hb;replace HK:=I (HK.o.below hb);clear hb))
 have k0:w1.cell? ⟨w.heap.size,0,none⟩=some (.string ⟨q.1.toArray⟩):=HP.o.cell 0;have k1:w1.cell? ⟨w.heap.size,1,none⟩=some (.string ⟨q.2.toArray⟩):=HP.o.cell 1;have ko0:w1.cell? ⟨w.heap.size+1,0,none⟩=some (.string ⟨#[]⟩):=HO.o.cell 0;have ko1:w1.cell? ⟨w.heap.size+1,1,none⟩=some (.string ⟨#[]⟩):=HO.o.cell 1;have ko2:w1.cell? ⟨w.heap.size+1,2,none⟩=some (.pointer none):=HO.o.cell 2;have ko3:w1.cell? ⟨w.heap.size+1,3,none⟩=some (.int .i64 0):=HO.o.cell 3;have fz:=HO.o.frozen
 go_wp2
 have hv:=(((HO.o.set 0 (.string ⟨q.1.toArray⟩)).set 1 (.string ⟨q.2.toArray⟩)).set 2 (.pointer (some ⟨x.b,0,none⟩))).set 3 (.int .i64 (x.it.n:Int));refine bodyPost_ret (v:=.tuple #[.agg (hoA q (some ⟨x.b,0,none⟩) (x.it.n:Int)),.bool true]) ?_ ?_ ?_
 ·exact Ad (v:=.agg (hoA q (some ⟨x.b,0,none⟩) (x.it.n:Int))) 4 5 98 ⟨w.heap.size+1,0,none⟩ Tryz.results68 rfl (Wh.Al hv Tryz.underlying98 (by rfl) Lc) rfl
 ·rfl
 ·exact⟨rfl,Si.Ay (Si.Ay (Si.Ay (Si.Ay HB.o (by simp) _) (by simp) _) (by simp) _) (by simp) _⟩
theorem Jy {q:Rg.Pr} (h:KD w B p es n i) (hl:es.length<=1000) (hf:Bz (its es) q=none) :
  Calls Tryz.prog 68 #[.pointer (some ⟨p.k,0,none⟩),prV q] w fun e w'=>e=.returned (.tuple #[.agg (hoA ([],[]) none 0),.bool false])/\Below w.heap.size w w':=by
 obtain⟨W,eW⟩:=Ak ((w.alloc (.cells #[.string ⟨q.1.toArray⟩,.string ⟨q.2.toArray⟩] 25)).alloc (.cells #[.string ⟨#[]⟩,.string ⟨#[]⟩,.pointer none,.int .i64 0] 98));have hb:Below w.heap.size w W:=eW▸(Ah.alloc Ag _).alloc (by simp) _;have HP:=I (show Blk W w.heap.size 25 #[.string ⟨q.1.toArray⟩,.string ⟨q.2.toArray⟩] from eW▸(Blk.new w _ _).alloc _);have HO:=I (show Blk W (w.heap.size+1) 98 #[.string ⟨#[]⟩,.string ⟨#[]⟩,.pointer none,.int .i64 0] by have:=Blk.new (w.alloc (.cells #[.string ⟨q.1.toArray⟩,.string ⟨q.2.toArray⟩] 25)) 98 #[.string ⟨#[]⟩,.string ⟨#[]⟩,.pointer none,.int .i64 0];simp only[World.size_alloc] at this;exact eW▸this);have HB:=I hb;have HK:=I (h.below hb);have C1:=I (fun(w1:World) (h1:Ring w1 B p.r p.v es)=>Kf h1 hl hf);clear h hl hf hb;go_enter Tryz.func68,Tryz.ntmps68
 go_upto_region 1 with fail
 rw[<-eW];clear eW;replace HP:=I (show Blk W.drew _ _ _ from HP.o.drewN 1);replace HO:=I (show Blk W.drew _ _ _ from HO.o.drewN 1);replace HB:=I (show Below _ _ W.drew from below_drewN HB.o 1);replace HK:=I HK.o.drew
 go_region_held3 (fun w'=>w'.cell? ⟨p.k,4,none⟩=some (.pointer (some ⟨p.r,0,none⟩))/\w'.cell? ⟨w.heap.size,0,none⟩=some (.string ⟨q.1.toArray⟩)/\w'.cell? ⟨w.heap.size,1,none⟩=some (.string ⟨q.2.toArray⟩)) (exact⟨HK.o.blk.cell 4,HP.o.cell 0,HP.o.cell 1⟩) ((go_at_call 113;refine Aj (C1.o _ HK.o.ring) ?_;rintro w1 hb;clear C1;replace HP:=I (HP.o.below hb);replace HO:=I (HO.o.below hb);replace HB:=HB.t hb;replace HK:=I (HK.o.below hb);clear hb))
 have ko0:w1.cell? ⟨w.heap.size+1,0,none⟩=some (.string ⟨#[]⟩):=HO.o.cell 0;have ko1:w1.cell? ⟨w.heap.size+1,1,none⟩=some (.string ⟨#[]⟩):=HO.o.cell 1;have ko2:w1.cell? ⟨w.heap.size+1,2,none⟩=some (.pointer none):=HO.o.cell 2;have ko3:w1.cell? ⟨w.heap.size+1,3,none⟩=some (.int .i64 0):=HO.o.cell 3;have fz:=HO.o.frozen
 go_wp2
 have hv:=(((HO.o.set 0 (.string ⟨#[]⟩)).set 1 (.string ⟨#[]⟩)).set 2 (.pointer none)).set 3 (.int .i64 0);refine bodyPost_ret (v:=.tuple #[.agg (hoA ([],[]) none 0),.bool false]) ?_ ?_ ?_
 ·exact Ad (v:=.agg (hoA ([],[]) none 0)) 4 5 98 ⟨w.heap.size+1,0,none⟩ Tryz.results68 rfl (Wh.Al hv Tryz.underlying98 (by rfl) Lc) rfl
 ·rfl
 ·exact⟨rfl,Si.Ay (Si.Ay (Si.Ay (Si.Ay HB.o (by simp) _) (by simp) _) (by simp) _) (by simp) _⟩
theorem Vg {r:Nm.L} (h:KD w B p es n i) (hr:r.length<=1000000) :
  Calls Tryz.prog 70 #[.pointer (some ⟨p.k,0,none⟩),.string ⟨r.toArray⟩] w fun e w'=>e=.returned (prV (kr p.R r))/\Below w.heap.size w w':=by
 obtain⟨W,eW⟩:=Ak (w.alloc (.cells #[.string ⟨#[]⟩,.string ⟨#[]⟩] 25));have hb:Below w.heap.size w W:=eW▸Ah.alloc Ag _;have HP:=I (show Blk W w.heap.size 25 #[.string ⟨#[]⟩,.string ⟨#[]⟩] from eW▸Blk.new w _ _);have HB:=I hb;have HK:=I (h.below hb);have hlt:=h.lt;have C1:=I (fun(w1:World)=>Nm.JP r w1 (by omega));clear h hr hb;go_enter Tryz.func70,Tryz.ntmps70
 go_upto_region 1 with fail
 rw[<-eW];clear eW;replace HP:=I (show Blk W.drew _ _ _ from HP.o.drewN 1);replace HB:=I (show Below _ _ W.drew from below_drewN HB.o 1);replace HK:=I HK.o.drew;have kz0:W.drew.cell? ⟨w.heap.size,0,none⟩=some (.string ⟨#[]⟩):=HP.o.cell 0;have kz1:W.drew.cell? ⟨w.heap.size,1,none⟩=some (.string ⟨#[]⟩):=HP.o.cell 1;have fz:=HP.o.frozen;have hp0:Blk W w.heap.size 25 #[.string ⟨#[]⟩,.string ⟨#[]⟩]:=HP.o;have ky0:=hp0.cell 0;have ky1:W.cell? ⟨w.heap.size,1,none⟩=some (.string ⟨#[]⟩):=hp0.cell 1;have fy:=hp0.frozen;clear hp0;have k0:W.drew.cell? ⟨p.k,0,none⟩=some (.string ⟨p.R.toArray⟩):=HK.o.blk.cell 0;refine wp_region_still_tail 7 (by kernel_rfl) (by kernel_rfl) ?_;simp only[List.take_succ_cons,List.take_zero,List.drop_succ_cons,List.drop_zero];change wpStill _ _ W.drew _ _ _
 repeat still_step
 still_call ((C1.o _).mono (fun _ _ h=>⟨h.1,h.2.symm⟩))
 repeat still_step
 refine wpStill_nil ?_;change wpList _ _ _ _ _ W.drew
 go_wp2
 have hv:=(HP.o.set 0 (.string ⟨p.R.toArray⟩)).set 1 (.string ⟨(krb++r).toArray⟩);refine bodyPost_ret (v:=prV (kr p.R r)) ?_ ?_ ?_
 ·exact Wh.Au (v:=prV (kr p.R r)) 4 25 ⟨w.heap.size,0,none⟩ Tryz.results70 (by rfl) (Wh.Al hv Tryz.underlying25 (by rfl) Cy)
 ·rfl
 ·exact⟨rfl,Si.Ay (Si.Ay HB.o (by simp) _) (by simp) _⟩
end
theorem OJ (p:Rg.Pr) (w:World) (h1:p.1.length<=1000000000) (h2:p.2.length<=1000000000):Calls Tryz.prog 74 #[prV p] w fun e w'=>e=.returned (prV p)/\Below w.heap.size w w':=by
 have C1:=I (fun w1=>Nm.BO p.1 w1 h1);have C2:=I (fun w1=>Nm.BO p.2 w1 h2);go_enter Tryz.func74,Tryz.ntmps74
 go_upto_region 1 with fail
 obtain⟨W,eW⟩:=Ak ((w.alloc (.cells #[.string ⟨p.1.toArray⟩,.string ⟨p.2.toArray⟩] 25)).alloc (.cells #[.string ⟨#[]⟩,.string ⟨#[]⟩] 25));have hq:=Blk.new (w.alloc (.cells #[.string ⟨p.1.toArray⟩,.string ⟨p.2.toArray⟩] 25)) 25 #[.string ⟨#[]⟩,.string ⟨#[]⟩];rw[show(w.alloc (.cells #[.string ⟨p.1.toArray⟩,.string ⟨p.2.toArray⟩] 25)).heap.size=w.heap.size+1 by simp,<-eW] at hq;have HK:=I (show Blk W w.heap.size 25 #[.string ⟨p.1.toArray⟩,.string ⟨p.2.toArray⟩] by rw[eW];exact(Blk.new _ _ _).alloc _);have HZ:=I hq;have HB:=I (show Below w.heap.size w W by rw[eW];exact(Ah.alloc Ag _).alloc (by simp) _);rw[<-eW];clear eW hq;replace HK:=I (show Blk W.drew _ _ _ from HK.o.drewN 1);replace HZ:=I (show Blk W.drew _ _ _ from HZ.o.drewN 1);replace HB:=I (show Below _ _ W.drew from below_drewN HB.o 1)
 go_region_held3 (fun w'=>w'.cell? ⟨w.heap.size,0,none⟩=some (.string ⟨p.1.toArray⟩)/\w'.cell? ⟨w.heap.size,1,none⟩=some (.string ⟨p.2.toArray⟩)) (first | exact⟨HK.o.cell 0,HK.o.cell 1⟩ | exact⟨(Si.Blk.far (Si.Blk.far HK.o _ _ (by simp)) _ _ (by simp)).cell 0,(Si.Blk.far (Si.Blk.far HK.o _ _ (by simp)) _ _ (by simp)).cell 1⟩) ((first
  |(go_at_call 49;(with_reducible refine Calls.mono (C1.o _) ?_);rintro e w1 ⟨rfl,hb⟩;clear C1;replace HK:=I (HK.o.below hb);replace HZ:=I (HZ.o.below hb);replace HB:=HB.t hb;have kz0:w1.cell? ⟨w.heap.size+1,0,none⟩=some (.string ⟨#[]⟩):=HZ.o.cell 0;have kz1:w1.cell? ⟨w.heap.size+1,1,none⟩=some (.string ⟨#[]⟩):=HZ.o.cell 1;have fz:=HZ.o.frozen;clear hb)
  |(go_at_call 49;(with_reducible refine Calls.mono (C2.o _) ?_);rintro e w2 ⟨rfl,hb⟩;clear C2 kz0 kz1 fz;replace HK:=I (HK.o.below hb);replace HZ:=I (HZ.o.below hb);replace HB:=HB.t hb;have kz0:w2.cell? ⟨w.heap.size+1,0,none⟩=some (.string ⟨#[]⟩):=HZ.o.cell 0;have kz1:w2.cell? ⟨w.heap.size+1,1,none⟩=some (.string ⟨#[]⟩):=HZ.o.cell 1;have fz:=HZ.o.frozen;clear hb)))
 go_wp2
 have hz:=(HZ.o.set 0 (.string ⟨p.1.toArray⟩)).set 1 (.string ⟨p.2.toArray⟩);rw[show(((#[.string ⟨#[]⟩,.string ⟨#[]⟩]:Array Value).setIfInBounds 0 (.string ⟨p.1.toArray⟩)).setIfInBounds 1 (.string ⟨p.2.toArray⟩))=#[.string ⟨p.1.toArray⟩,.string ⟨p.2.toArray⟩] from rfl] at hz;refine bodyPost_ret (v:=prV p) ?_ ?_ ?_
 ·exact Wh.Au (v:=prV p) 2 25 ⟨w.heap.size+1,0,none⟩ Tryz.results74 (by rfl) (Wh.Al hz Tryz.underlying25 (by rfl) Cy)
 ·rfl
 ·exact⟨rfl,Si.Ay (Si.Ay HB.o (by simp) _) (by simp) _⟩
end Kd
namespace DerR
open Go.RowKit Af DerP Reg
def Ints (w:World) (B g:Nat) (c:Option L) (e:Ending) (w':World):Prop:=
 e=.returned (.int .i64 ((intC c).1:Int))/\RC w' B g (intC c).2/\w.grownBy w' (some g)
theorem SW {c:Option L} (h:AJ 2 c=none\/∃p,AJ 2 c=some p/\numL p=none):intC c=(0,none):=by
 rcases h with h | ⟨p,h,h2⟩
 ·simp [intC,h]
 ·simp [intC,h,h2]
theorem GX {w0 w:World} {B g:Nat} {c:Option L} {A:Option Addr} {n cap:Nat} {e:Bool} (hb:Blk w g 112 #[.slice A n cap,.bool e]) (h:AJ 2 c=none\/∃p,AJ 2 c=some p/\numL p=none) (hg:w0.grownBy w (some g)) :
  Ints w0 B g c (.returned (.int .i64 0)) (w.setCell ⟨g,1,none⟩ (.bool true)):=by
 unfold Ints;rw[SW h];exact⟨rfl,⟨A,n,cap,true,hb.set 1 (.bool true),rfl⟩,AE hg (.inl rfl) _⟩
theorem SX (B g : Nat) (c : Option L) (w : World) (h : RC w B g c) (hB : B <= w.heap.size) (hBg : B <= g) (hu : (c.getD []).length <= 100000) (hn : AJ 2 c = none) :
    Calls Tryz.prog 41 #[.pointer (some ⟨g,0,none⟩)] w (Ints w B g c):=by
  have HT:=I (Fo 2 B g w c h hB hBg hu);have HN:=I hn;clear h hB hBg hu hn;go_enter Tryz.func41,Tryz.ntmps41
  go_wp2_with (go_at_call 82; refine HT.o.mono ?_; rintro e w1 ⟨⟨A', cap', rfl, hcap, hrd⟩, hrc, hg⟩
               rw[GH 2 c HN.o] at hrc;obtain⟨A,n,cap,e,hb,rfl⟩:=hrc;have HB:=I hb;have h1:w1.cell? ⟨g,1,none⟩=some (.bool true):=hb.cell 1;have f1:=hb.frozen 1;clear hb hcap hrd)
  go_ret;exact GX HB.o (.inl HN.o) hg
theorem Kg (B g:Nat) (c:Option L) (w:World) (h:RC w B g c) (hB:B<=w.heap.size) (hBg:B<=g) (hu:(c.getD []).length<=100000) (p r:L) (hp:AJ 2 c=some p) (hr:AQ 2 c=some r) :
  Calls Tryz.prog 82 #[.pointer (some ⟨g,0,none⟩),.int .u8 2] w fun e w'=>
   (∃A' cap' A n cap,e=.returned (.slice A' p.length cap')/\Rd w' B A' (bvs p)/\Blk w' g 112 #[.slice A n cap,.bool false]/\RS w' B A n cap false (some r))/\w.grownBy w' (some g):=by
 refine(Fo 2 B g w c h hB hBg hu).mono ?_;rintro e w' ⟨⟨A',cap',rfl,_,hrd⟩,hrc,hg⟩;rw[hp] at hrd;rw[hr] at hrc;obtain⟨A,n,cap,e,hb,rfl,h2⟩:=hrc;rw[hp];exact⟨⟨A',cap',A,n,cap,rfl,hrd,hb,rfl,h2⟩,hg⟩
theorem Vh (B g : Nat) (c : Option L) (w : World) (h : RC w B g c) (hB : B <= w.heap.size) (hBg : B <= g) (hu : (c.getD []).length <= 100000) (p r : L) (hp : AJ 2 c = some p) (hr : AQ 2 c = some r) (hn : numL p = none) (hl : p.length = 0 \/ 9 < p.length) :
    Calls Tryz.prog 41 #[.pointer (some ⟨g,0,none⟩)] w (Ints w B g c):=by
  have HT:=I (Kg B g c w h hB hBg hu p r hp hr);have HN:=I (show AJ 2 c=none\/∃p,AJ 2 c=some p/\numL p=none from .inr ⟨p,hp,hn⟩);have go : ∀ b1 b2 : Bool, ((p.length : Int) == 0) = b1 -> decide ((9 : Int) < (p.length : Int)) = b2 -> (b1 || b2) = true ->
      Calls Tryz.prog 41 #[.pointer (some ⟨g,0,none⟩)] w (Ints w B g c):=by
    intro b1 b2 g1 g2 hor;clear h hB hBg hu hn hp hr hl;cases b1<;>cases b2<;>first
      |(exact(Bool.false_ne_true hor).elim)
      | (clear hor
         go_enter Tryz.func41,Tryz.ntmps41
         go_wp2_with (go_at_call 82; refine HT.o.mono ?_; rintro e w1 ⟨⟨A', cap', A, n, cap, rfl, hrd, hb, hrs⟩, hg⟩
                      have HB:=I hb;have h1:w1.cell? ⟨g,1,none⟩=some (.bool false):=hb.cell 1;have f1:=hb.frozen 1;clear hb hrs hrd)
         go_ret;exact GX HB.o HN.o hg)
  refine go _ _ rfl rfl ?_;rcases hl with hl | hl
  · simp [hl]
  · simp; omega
theorem JK {p:L} (h:numL p≠none) (i:Nat):val (p.take i)<9223372036854775808:=by
 cases p with
 |nil=>exact absurd rfl h
 |cons a r=>
  by_cases hc:7<r.length\/128<=a.toNat
  ·exact absurd (Fc (.inl hc)) h
  ·exact IM (by omega) (by omega) i
theorem ON (x y:Int) : -9223372036854775808<=bits .or .i64 x y/\bits .or .i64 x y<=9223372036854775807:=by
 show -9223372036854775808<=IntKind.i64.wrap _/\IntKind.i64.wrap _<=9223372036854775807;rw[IntKind.wrap_i64];omega
theorem Qi {p:L} {v:Int} (hp:p.length<=65535) (h0:0<=v) (h1:v<=4611686018427387904) (h:encI v=elem 2 p):numL p=some v.toNat:=by
 have e:=NR (t:=2) (p:=dig (BV v)) (q:=p) (r1:=[]) (r2:=[]) (by have:=Im v;omega) hp (by rw[List.append_nil,List.append_nil];exact h);rw[<-e.1,QH _ (EW v),IL v h0 h1]
theorem SY (B g : Nat) (c : Option L) (w : World) (h : RC w B g c) (hB : B <= w.heap.size) (hBg : B <= g) (hu : (c.getD []).length <= 100000) (p r : L) (hp : AJ 2 c = some p) (hr : AQ 2 c = some r) (hl0 : p.length ≠ 0) (hl : p.length <= 9) :
    Calls Tryz.prog 41 #[.pointer (some ⟨g,0,none⟩)] w (Ints w B g c):=by
  have HT:=I (Kg B g c w h hB hBg hu p r hp hr);have HP:=I hp;have HRR:=I hr;have HBB:=I hB;have HBG:=I hBg;have HL:=I hl;have g1:((p.length:Int)==0)=false:=by simp only[beq_eq_false_iff_ne,ne_eq];omega
  have g2:decide ((9:Int)<(p.length:Int))=false:=by simp;omega
  have hlu:(p.length:Int)<=9:=by omega
  clear h hB hBg hu hp hr hl0 hl;go_enter Tryz.func41,Tryz.ntmps41
  go_wp2_with (go_at_call 82; refine HT.o.mono ?_; rintro e w1 ⟨⟨A', cap', A, n, cap, rfl, hrd, hb, hrs⟩, hg⟩
               have HB:=I hb;have HRD:=I hrd;have HRS:=I hrs;have h1:w1.cell? ⟨g,1,none⟩=some (.bool false):=hb.cell 1;have f1:=hb.frozen 1;clear hb hrs hrd)
  go_loop [4,5] (fun nv i=>∃(j:Nat) (v:Int),j<=p.length/\i=.int .i64 (j:Int)/\nv=.int .i64 v/\-9223372036854775808<=v/\v<=9223372036854775807/\(numL p≠none->v=(val (p.take j):Int))) (fun _ i=>p.length - (intOf i).toNat)
  case atStart=>exact⟨0,0,by omega,rfl,rfl,by omega,by omega,fun _=>by simp [val]⟩
  case round=>
    obtain⟨j,v,hj,rfl,rfl,hv0,hv1,hval⟩:=hrel;have HV:=I hval;clear hval
    by_cases hlt:j<p.length
    · obtain ⟨b, o, rfl, hbB, hcell⟩ := HRD.o.at_ (Dy hlt)
      have hc1:w1.cell? ⟨b,o+j,none⟩=some (.int .u8 ((p[j]).toNat:Int)):=hcell;have hb255:=BC p[j];have HSN:=I (Ef p j hlt);have HSM:=I (JK (p:=p));have HLT:=I (p[j]).toNat_lt;clear hcell
      go_wp2
      refine⟨⟨j+1,_,by omega,by go_num,rfl,(ON _ _).1,(ON _ _).2,fun hne=>?_⟩,by simp [intOf];omega⟩;have e1:=HV.o hne;have e2:=HSM.o hne (j+1);have e3:=HSN.o;rw[e3] at e2⊢;have e4:=Hx (val (p.take j)) (p[j]).toNat HLT.o (by omega);have e5:wrap64 (v*256)=((val (p.take j):Nat):Int)*256:=by
        rw[e1];exact IntWalk.wrap64_in _ (by omega)
      rw[e5,e4];omega
    · obtain rfl : j = p.length := by omega
      clear hj hlt;rw[List.take_length] at HV
      by_cases hneg:v<0
      · have g3 : decide (v < 0) = true := by simp only [decide_eq_true_eq]; omega
        have HN:=I (show AJ 2 c=none\/∃p,AJ 2 c=some p/\numL p=none from .inr ⟨p,HP.o,by
          cases hx:numL p with
          |none=>rfl
          |some y=>have:=HV.o (by rw[hx];simp);omega⟩)
        clear hneg
        go_wp2
        go_quiet (fail)
        go_wp2
        go_ret;exact GX (HB.o.drewN _) HN.o (Ey hg _)
      · have g3 : decide (v < 0) = false := by simp only [decide_eq_false_iff_not]; omega
        by_cases hbig:4611686018427387904<v
        · have g4 : decide (4611686018427387904 < v) = true := by simp only [decide_eq_true_eq]; omega
          have HN:=I (show AJ 2 c=none\/∃p,AJ 2 c=some p/\numL p=none from .inr ⟨p,HP.o,by
            cases hx:numL p with
            |none=>rfl
            |some y=>have:=HV.o (by rw[hx];simp);have:=(Ff hx).1;have:=(Ff hx).2.1;omega⟩)
          clear hneg hbig
          go_wp2
          go_quiet (fail)
          go_wp2
          go_ret;exact GX (HB.o.drewN _) HN.o (Ey hg _)
        · have g4 : decide (4611686018427387904 < v) = false := by simp only [decide_eq_false_iff_not]; omega
          by_cases heq:encI v=elem 2 p
          · have HEQ := I heq
            have HNUM:=I (Qi (by have:=HL.o;omega) (by omega) (by omega) heq);have HV0:=I (show ¬v<0 from hneg);clear heq
            go_wp2
            refine Cq 15 rfl (by kernel_rfl) ?_;refine Reg.tz 0 rfl ?_;refine Reg.tz 1 rfl ?_;refine Reg.tz 2 rfl ?_;refine Reg.tz 3 rfl ?_;refine Reg.tz 4 rfl ?_;refine Reg.tz 5 rfl ?_;refine Reg.tz 6 rfl ?_;refine Reg.tz 7 rfl ?_;refine Reg.tz 10 rfl ?_;refine DQ 8 rfl (by kernel_rfl) (by rfl) 59 #[.int .i64 v] (by go_simp) ?_;refine Calls.mono (DerR.CR v w1.drew) ?_;rintro e w2 ⟨⟨q2,d2,rfl,hq2,hd2,hrd2⟩,hb2⟩;refine⟨_,rfl,hb2,?_⟩;have HRD2:=I hrd2;have B2:Below w1.heap.size w1 w2:=bt Ah.drew hb2;clear hrd2;simp only[Act.put,U,Aa,Ab];refine Reg.tx 9 rfl (fun w' hS=>by have hh:=GN (P:=Tryz.prog) Tryz.underlying26 Tryz.underlying5 Tryz.underlying9 (n:=(encI v).length) (c:=d2) HRD2.o Ag rfl w' hS;go_simp;rfl) ?_;refine DQ 11 rfl (by kernel_rfl) (by rfl) 85 #[.int .u8 2,.slice A' p.length cap'] (by go_simp) ?_;refine Calls.mono (DerR.Ei 2 p A' p.length cap' B w2 (HRD.o.below (B2.mono (Nat.le_trans HBB.o hg.size))) rfl (Nat.le_trans (Nat.le_trans HBB.o hg.size) B2.size) (by have:=HL.o;omega)) ?_;rintro e w3 ⟨⟨q3,d3,rfl,hq3,hd3,hrd3⟩,hb3⟩;refine⟨_,rfl,hb3,?_⟩;have HRD3:=I hrd3;have B3:Below w1.heap.size w1 w3:=bt B2 hb3;clear hrd3;rw[<-HEQ.o] at HRD3;rw[<-HEQ.o];simp only[Act.put,U,Aa,Ab];refine Reg.tx 12 rfl (fun w' hS=>by have hh:=GN (P:=Tryz.prog) Tryz.underlying26 Tryz.underlying5 Tryz.underlying9 (n:=(encI v).length) (c:=d3) HRD3.o Ag rfl w' hS;go_simp;rfl) ?_;refine Reg.tz 13 rfl ?_;refine Reg.tz 14 rfl ?_;refine wpAnyH_done (by kernel_rfl) ?_ _;have hc1:=HRS.o;have h1':w3.cell? ⟨g,1,none⟩=some (.bool false):=(HB.o.below B3).cell 1
            go_wp2
            go_ret;have hI:intC c=(v.toNat,some r):=by simp only[intC,HP.o,HNUM.o,HRR.o]
            unfold Ints;rw[hI];have hv0':=HV0.o;have hvv:((v.toNat:Nat):Int)=v:=by omega
            exact⟨by show Ending.returned (.int .i64 v)=.returned (.int .i64 ((v.toNat:Nat):Int));rw[hvv],⟨A,n,cap,false,HB.o.below B3,rfl,HRS.o.2.1,HRS.o.2.2.1,HRS.o.2.2.2.below (B3.mono (Nat.le_trans HBB.o hg.size))⟩,IB hg B3⟩
          · have HNE := I heq
            have HN:=I (show AJ 2 c=none\/∃p,AJ 2 c=some p/\numL p=none from .inr ⟨p,HP.o,by
              cases hx:numL p with
              |none=>rfl
              |some y=>
                have e1:=HV.o (by rw[hx];simp);obtain⟨e2,e3,_⟩:=Ff hx;refine absurd ?_ heq;rw[encI,IL v (by omega) (by omega),show v.toNat=y by omega,WE hx]⟩)
            have hbeq:(encI v==elem 2 p)=false:=by simp only[beq_eq_false_iff_ne,ne_eq];exact heq
            clear heq
            go_wp2
            refine Cq 15 rfl (by kernel_rfl) ?_;refine Reg.tz 0 rfl ?_;refine Reg.tz 1 rfl ?_;refine Reg.tz 2 rfl ?_;refine Reg.tz 3 rfl ?_;refine Reg.tz 4 rfl ?_;refine Reg.tz 5 rfl ?_;refine Reg.tz 6 rfl ?_;refine Reg.tz 7 rfl ?_;refine Reg.tz 10 rfl ?_;refine DQ 8 rfl (by kernel_rfl) (by rfl) 59 #[.int .i64 v] (by go_simp) ?_;refine Calls.mono (DerR.CR v w1.drew) ?_;rintro e w2 ⟨⟨q2,d2,rfl,hq2,hd2,hrd2⟩,hb2⟩;refine⟨_,rfl,hb2,?_⟩;have HRD2:=I hrd2;have B2:Below w1.heap.size w1 w2:=bt Ah.drew hb2;clear hrd2;simp only[Act.put,U,Aa,Ab];refine Reg.tx 9 rfl (fun w' hS=>by have hh:=GN (P:=Tryz.prog) Tryz.underlying26 Tryz.underlying5 Tryz.underlying9 (n:=(encI v).length) (c:=d2) HRD2.o Ag rfl w' hS;go_simp;rfl) ?_;refine DQ 11 rfl (by kernel_rfl) (by rfl) 85 #[.int .u8 2,.slice A' p.length cap'] (by go_simp) ?_;refine Calls.mono (DerR.Ei 2 p A' p.length cap' B w2 (HRD.o.below (B2.mono (Nat.le_trans HBB.o hg.size))) rfl (Nat.le_trans (Nat.le_trans HBB.o hg.size) B2.size) (by have:=HL.o;omega)) ?_;rintro e w3 ⟨⟨q3,d3,rfl,hq3,hd3,hrd3⟩,hb3⟩;refine⟨_,rfl,hb3,?_⟩;have HRD3:=I hrd3;have B3:Below w1.heap.size w1 w3:=bt B2 hb3;clear hrd3;simp only[Act.put,U,Aa,Ab];refine Reg.tx 12 rfl (fun w' hS=>by have hh:=GN (P:=Tryz.prog) Tryz.underlying26 Tryz.underlying5 Tryz.underlying9 (n:=(elem 2 p).length) (c:=d3) HRD3.o Ag rfl w' hS;go_simp;rfl) ?_;refine Reg.tz 13 rfl ?_;refine Reg.tz 14 rfl ?_;refine wpAnyH_done (by kernel_rfl) ?_ _;have h1':w3.cell? ⟨g,1,none⟩=some (.bool false):=(HB.o.below B3).cell 1;have f1':=(HB.o.below B3).frozen 1
            go_wp2
            go_ret;exact GX (HB.o.below B3) HN.o (IB hg B3)
theorem OO (B g:Nat) (c:Option L) (w:World) (h:RC w B g c) (hB:B<=w.heap.size) (hBg:B<=g) (hu:(c.getD []).length<=100000) :
  Calls Tryz.prog 41 #[.pointer (some ⟨g,0,none⟩)] w (Ints w B g c):=by
 cases hp:AJ 2 c with
 |none=>exact SX B g c w h hB hBg hu hp
 |some p=>
  obtain⟨r,hr⟩:∃r,AQ 2 c=some r:=by
   cases c with
   |none=>simp [AJ] at hp
   |some s=>
    cases hs:Be 2 s with
    |none=>rw[(Bj hs).1] at hp;cases hp
    |some x=>exact⟨_,(Dr (b:=x.1) (r:=x.2) hs).2⟩
  by_cases hl:p.length=0\/9<p.length
  ·have hn:numL p=none:=by
    cases hx:numL p with
    |none=>rfl
    |some y=>obtain⟨_,_,h1,h2,_⟩:=Ff hx;omega
   exact Vh B g c w h hB hBg hu p r hp hr hn hl
  ·exact SY B g c w h hB hBg hu p r hp hr (by omega) (by omega)
theorem Ny (B g:Nat) (c:Option L) (w:World) (h:RC w B g c) (hB:B<=w.heap.size) (hBg:B<=g) (hu:(c.getD []).length<=100000) :
  Calls Tryz.prog 84 #[.pointer (some ⟨g,0,none⟩)] w (Took w B g 4 c):=by
 have HT:=I (Fo 4 B g w c h hB hBg hu);clear h hB hBg hu;go_enter Tryz.func84,Tryz.ntmps84
 go_wp2_with (go_at_call 82;refine HT.o.mono ?_;rintro e w1 ⟨⟨A',cap',rfl,hcap,hrd⟩,hrc,hg⟩)
 go_ret;exact⟨⟨A',cap',rfl,hcap,hrd⟩,hrc,hg⟩
theorem Jz (B g : Nat) (c : Option L) (w : World) (h : RC w B g c) (hB : B <= w.heap.size) (hBg : B <= g) (hu : (c.getD []).length <= 100000) :
    Calls Tryz.prog 40 #[.pointer (some ⟨g,0,none⟩)] w fun e w'=>e=.returned (.string ⟨((AJ 27 c).getD []).toArray⟩)/\RC w' B g (AQ 27 c)/\w.grownBy w' (some g):=by
  have HT:=I (Fo 27 B g w c h hB hBg hu);clear h hB hBg hu;go_enter Tryz.func40,Tryz.ntmps40
  go_wp2_with (go_at_call 82; refine HT.o.mono ?_; rintro e w1 ⟨⟨A', cap', rfl, hcap, hrd⟩, hrc, hg⟩
               have hcv:=AW (P:=Tryz.prog) w1 26 5 Tryz.underlying26 Tryz.underlying5 hrd ((AJ 27 c).getD []).length cap' rfl 9 Tryz.underlying9)
  go_ret;exact⟨rfl,hrc,hg⟩
theorem JL {t:UInt8} {c:Option L} {p:L} (h:AJ t c=some p):∃r,AQ t c=some r:=by
 cases c with
 |none=>simp [AJ] at h
 |some s=>
  cases hs:Be t s with
  |none=>rw[(Bj hs).1] at h;cases h
  |some x=>exact⟨_,(Dr (b:=x.1) (r:=x.2) hs).2⟩
theorem Mj (t : UInt8) (B g : Nat) (c : Option L) (w : World) (h : RC w B g c) (hB : B <= w.heap.size) (hBg : B <= g) (hu : (c.getD []).length <= 100000) :
    Calls Tryz.prog 37 #[.pointer (some ⟨g,0,none⟩),.int .u8 t.toNat] w fun e w'=>
      (∃g',e=.returned (.pointer (some ⟨g',0,none⟩))/\w.heap.size<=g'/\RC w' B g' (AJ t c))/\RC w' B g (AQ t c)/\w.grownBy w' (some g):=by
  have HT:=I (Fo t B g w c h hB hBg hu);have HB:=I hB;cases hb:AJ t c with
  |none=>
    have hn:=GH t c hb;unfold Took at HT;rw[hb,hn] at HT;rw[hn];clear h hB hBg hu hb hn;go_enter Tryz.func37,Tryz.ntmps37
    go_wp2_with (go_at_call 82; refine HT.o.mono ?_; rintro e w1 ⟨⟨A', cap', rfl, hcap, hrd⟩, ⟨A, n, cap, e, hb, rfl⟩, hg⟩
                 have HBK:=I hb;have h1:w1.cell? ⟨g,1,none⟩=some (.bool true):=hb.cell 1;clear hb)
    go_ret;exact⟨⟨_,rfl,hg.size,_,_,_,true,Blk.new w1 _ _,rfl⟩,⟨A,n,cap,true,HBK.o.alloc _,rfl⟩,Dp hg _⟩
  |some p=>
    obtain⟨r,hn⟩:=JL hb;unfold Took at HT;rw[hb,hn] at HT;rw[hn];clear h hB hBg hu hb hn;go_enter Tryz.func37,Tryz.ntmps37
    go_wp2_with (go_at_call 82; refine HT.o.mono ?_; rintro e w1 ⟨⟨A', cap', rfl, hcap, hrd⟩, ⟨A, n, cap, e, hb, rfl, hrs⟩, hg⟩
                 have HBK:=I hb;have HRS:=I hrs;have HRD:=I hrd;have HCP:=I hcap;have h1:w1.cell? ⟨g,1,none⟩=some (.bool false):=hb.cell 1;clear hb hrs hrd hcap)
    go_ret;have hs:=Nat.le_trans HB.o hg.size;exact⟨⟨_,rfl,hg.size,_,_,_,false,Blk.new w1 _ _,rfl,rfl,HCP.o,HRD.o.alloc hs _⟩,⟨A,n,cap,false,HBK.o.alloc _,rfl,HRS.o.1,HRS.o.2.1,HRS.o.2.2.alloc hs _⟩,Dp hg _⟩
theorem Qj (B g:Nat) (c:Option L) (w:World) (h:RC w B g c):Calls Tryz.prog 83 #[.pointer (some ⟨g,0,none⟩)] w fun e w'=>e=.returned (.bool (DerC.NS c))/\w=w':=by
 obtain⟨A,n,cap,e,hb,hrs⟩:=h;have h0:w.cell? ⟨g,0,none⟩=some (.slice A n cap):=hb.cell 0;have h1:w.cell? ⟨g,1,none⟩=some (.bool e):=hb.cell 1;cases c with
 |none=>
  obtain rfl:e=true:=hrs;clear hb;go_enter Tryz.func83,Tryz.ntmps83
  go_wp2
  go_ret;exact⟨rfl,rfl⟩
 |some l=>
  obtain⟨rfl,hn,_⟩:=hrs;clear hb
  by_cases hz:n=0
  ·have hl:DerC.NS (some l)=true:=by
    have:l = []:=List.length_eq_zero_iff.1 (by omega);subst this;rfl
   subst hz;rw[hl];clear hl hn;go_enter Tryz.func83,Tryz.ntmps83
   go_wp2
   go_ret;exact⟨rfl,rfl⟩
  ·have hl:DerC.NS (some l)=false:=by
    cases l with
    |nil=>exact absurd hn hz
    |cons a r=>rfl
   have g0:((n:Int)==0)=false:=by simp only[beq_eq_false_iff_ne,ne_eq];omega
   rw[hl];clear hl hn hz;go_enter Tryz.func83,Tryz.ntmps83
   go_wp2
   go_ret;exact⟨rfl,rfl⟩
end DerR
end Go.Proofs.YtlchkbpffaclmaaGreat
