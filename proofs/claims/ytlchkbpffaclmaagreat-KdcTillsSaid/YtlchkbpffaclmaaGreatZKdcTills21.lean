import Derived.Test.YtlchkbpffaclmaaGreatZKdcTills20
set_option maxHeartbeats 25600000
set_option maxRecDepth 100000
set_option linter.unusedVariables false
set_option linter.unusedSimpArgs false
namespace Go.Proofs.YtlchkbpffaclmaaGreat
namespace Kd
open Go.RowKit Af Se
open Rg (It Ad)
open Ms (Re As Tg Pt An pSm reC ptO anO)
open SeL (Bd)
abbrev tgZ:Array Value:=#[.string ⟨#[]⟩,.string ⟨#[]⟩,.int .i64 0,.slice none 0 0,.slice none 0 0,.string ⟨#[]⟩,.string ⟨#[]⟩,.int .i64 0,.int .i64 0]
theorem Yl (a:An):(Tryz.prog.info? 41).map (·.size)=some (anA a).size:=by
 show _=some 4
 kernel_rfl
theorem Vr (s t:Nm.L×Nm.L) (A3 A4:Option Addr) (n3 c3 n4 c4:Nat) (u:Int):Tryz.prog.built 30 [(0,.agg #[.string ⟨s.1.toArray⟩,.string ⟨s.2.toArray⟩,.int .i64 1,.slice A3 n3 c3]),(1,.slice A4 n4 c4),(2,prV t),(3,.int .i64 u),(4,.int .i64 4)]=some #[.string ⟨s.1.toArray⟩,.string ⟨s.2.toArray⟩,.int .i64 1,.slice A3 n3 c3,.slice A4 n4 c4,.string ⟨t.1.toArray⟩,.string ⟨t.2.toArray⟩,.int .i64 u,.int .i64 4]:=by kernel_rfl
theorem OQ {ks:Nat->UInt8} {u N:Int} {p x:Nm.L} {cK:Array Value} {v:Value} {w:World} {S:Nat->Prop} (eK:cK=AO ks) (ex:Bd ks u N p=(x,0)) (hv:SlN S w v p) :
  Calls Tryz.prog 22 #[.agg cK,.int .i64 u,.int .i64 N,v] w fun e w'=>∃v2,e=.returned (.tuple #[v2,.int .i64 0])/\SlN (fun j=>j<w.heap.size) w' v2 x/\Below w.heap.size w w':=by
 subst eK;obtain⟨A,c,rfl,hc,hr⟩:=hv.sl;refine(ZE ks u N A p.length c p w rfl hr).mono ?_;rintro e w' ⟨v2,rfl,h1,h2⟩;rw[ex] at h1⊢;exact⟨v2,rfl,h1,h2⟩
theorem an (s t:Nm.L×Nm.L) {ks:Nat->UInt8} {p:Pt} {a:An} (u:Int) (w:World) (hk:p.ss.length=32) (hs1:pSm p.c) (htr:p.tr.length<=1000000) (hs2:pSm a.c) {cK cP cA:Array Value} (eK:cK=AO ks) (eP:cP=ptA p) (eA:cA=anA a) {b1 b2 x1 x2:Nm.L} (hp:ptO p=some b1) (ha:anO a=some b2) (h1:Bd ks 2 77 b1=(x1,0)) (h2:Bd (ksOf p.ss) 7 78 b2=(x2,0)) :
  Calls Tryz.prog 5 #[prV s,.agg cK,.agg cP,.agg cA,prV t,.int .i64 u] w fun e w'=>∃v1 v2,e=.returned (.tuple #[.agg #[.string ⟨s.1.toArray⟩,.string ⟨s.2.toArray⟩,.int .i64 1,v1,v2,.string ⟨t.1.toArray⟩,.string ⟨t.2.toArray⟩,.int .i64 u,.int .i64 4],.bool true])/\SlN (fun j=>j<w.heap.size) w' v1 x1/\SlN (fun j=>j<w.heap.size) w' v2 x2/\Below w.heap.size w w':=by
 obtain⟨W,eW⟩:=Ak (((((((w.alloc (.cells #[.string ⟨s.1.toArray⟩,.string ⟨s.2.toArray⟩] 25)).alloc (.cells cK 35)).alloc (.cells cP 39)).alloc (.cells cA 41)).alloc (.cells #[.string ⟨t.1.toArray⟩,.string ⟨t.2.toArray⟩] 25)).alloc (.cells tgZ 30)));have hb:Below w.heap.size w W:=eW▸((((((Below.refl w.heap.size w).alloc (by first | exact Nat.le_refl _ | (simp;done) | (simp;omega)) _).alloc (by first | exact Nat.le_refl _ | (simp;done) | (simp;omega)) _).alloc (by first | exact Nat.le_refl _ | (simp;done) | (simp;omega)) _).alloc (by first | exact Nat.le_refl _ | (simp;done) | (simp;omega)) _).alloc (by first | exact Nat.le_refl _ | (simp;done) | (simp;omega)) _).alloc (by first | exact Nat.le_refl _ | (simp;done) | (simp;omega)) _;have HS:=I (show Blk W (w.heap.size) 25 #[.string ⟨s.1.toArray⟩,.string ⟨s.2.toArray⟩] by have:=((((((Blk.new w 25 #[.string ⟨s.1.toArray⟩,.string ⟨s.2.toArray⟩]).alloc (.cells cK 35)).alloc (.cells cP 39)).alloc (.cells cA 41)).alloc (.cells #[.string ⟨t.1.toArray⟩,.string ⟨t.2.toArray⟩] 25)).alloc (.cells tgZ 30));(try simp only[World.size_alloc] at this);exact eW▸this);have HK:=I (show Blk W (w.heap.size+1) 35 cK by have:=(((((Blk.new (w.alloc (.cells #[.string ⟨s.1.toArray⟩,.string ⟨s.2.toArray⟩] 25)) 35 cK).alloc (.cells cP 39)).alloc (.cells cA 41)).alloc (.cells #[.string ⟨t.1.toArray⟩,.string ⟨t.2.toArray⟩] 25)).alloc (.cells tgZ 30));(try simp only[World.size_alloc] at this);exact eW▸this);have HP:=I (show Blk W (w.heap.size+1+1) 39 cP by have:=((((Blk.new ((w.alloc (.cells #[.string ⟨s.1.toArray⟩,.string ⟨s.2.toArray⟩] 25)).alloc (.cells cK 35)) 39 cP).alloc (.cells cA 41)).alloc (.cells #[.string ⟨t.1.toArray⟩,.string ⟨t.2.toArray⟩] 25)).alloc (.cells tgZ 30));(try simp only[World.size_alloc] at this);exact eW▸this);have HA:=I (show Blk W (w.heap.size+1+1+1) 41 cA by have:=(((Blk.new (((w.alloc (.cells #[.string ⟨s.1.toArray⟩,.string ⟨s.2.toArray⟩] 25)).alloc (.cells cK 35)).alloc (.cells cP 39)) 41 cA).alloc (.cells #[.string ⟨t.1.toArray⟩,.string ⟨t.2.toArray⟩] 25)).alloc (.cells tgZ 30));(try simp only[World.size_alloc] at this);exact eW▸this);have HT:=I (show Blk W (w.heap.size+1+1+1+1) 25 #[.string ⟨t.1.toArray⟩,.string ⟨t.2.toArray⟩] by have:=((Blk.new ((((w.alloc (.cells #[.string ⟨s.1.toArray⟩,.string ⟨s.2.toArray⟩] 25)).alloc (.cells cK 35)).alloc (.cells cP 39)).alloc (.cells cA 41)) 25 #[.string ⟨t.1.toArray⟩,.string ⟨t.2.toArray⟩]).alloc (.cells tgZ 30));(try simp only[World.size_alloc] at this);exact eW▸this);have HR:=I (show Blk W (w.heap.size+1+1+1+1+1) 30 tgZ by have:=(Blk.new (((((w.alloc (.cells #[.string ⟨s.1.toArray⟩,.string ⟨s.2.toArray⟩] 25)).alloc (.cells cK 35)).alloc (.cells cP 39)).alloc (.cells cA 41)).alloc (.cells #[.string ⟨t.1.toArray⟩,.string ⟨t.2.toArray⟩] 25)) 30 tgZ);(try simp only[World.size_alloc] at this);exact eW▸this);have HB:=I hb;clear hb;have C1:=I (show ∀w1:World,Calls Tryz.prog 20 #[.agg cP] w1 fun e w'=>∃v,e=.returned (.tuple #[v,.int .i64 0])/\SlN (fun j=>j<w1.heap.size) w' v b1/\Below w1.heap.size w1 w' from by intro w1;rw[eP];exact(Ms.Ih p w1 hk hs1 (by omega)).mono fun e w' h=>Gw (hp▸h));have C2:=I (show ∀w1:World,Calls Tryz.prog 21 #[.agg cA] w1 fun e w'=>∃v,e=.returned (.tuple #[v,.int .i64 0])/\SlN (fun j=>j<w1.heap.size) w' v b2/\Below w1.heap.size w1 w' from by intro w1;rw[eA];exact(Ms.KV a w1 hs2).mono fun e w' h=>Gw (ha▸h));have S1:=I (fun(w1:World) (v:Value) (S:Nat->Prop) (h:SlN S w1 v b1)=>OQ (cK:=cK) eK h1 h);have S2:=I (fun(w1:World) (v:Value) (S:Nat->Prop) (h:SlN S w1 v b2)=>OQ (cK:=keyA p.ss) (Jv hk).symm h2 h);have HKI:=I (show(Tryz.prog.info? 35).map (·.size)=some cK.size by rw[eK];exact Fv _);have HPI:=I (show(Tryz.prog.info? 39).map (·.size)=some cP.size by rw[eP];exact FA hk);have HAI:=I (show(Tryz.prog.info? 41).map (·.size)=some cA.size by rw[eA];exact Yl a);have HSI:=I (show(Tryz.prog.info? 35).map (·.size)=some (keyA p.ss).size from BQ hk)
 have HPR:=I (fun(w1:World) (h:Blk w1 (w.heap.size+1+1) 39 cP)=>Ka hk (eP▸h));obtain⟨cQ,ecQ⟩:=Ak (keyA p.ss);rw[<-ecQ] at S2 HSI HPR;clear hk hs1 htr hs2 eK eP eA hp ha h1 h2 ecQ;go_enter Tryz.func5,Tryz.ntmps5
 go_upto_region 1 with fail
 rw[<-eW];clear eW
 go_upto_region 5 with(first
  |(refine Wh.Ax (by rfl) 39 (.tmp 8) (by rfl) (w.heap.size+1+1) 0 (by rfl) cP _ (Wh.Ae HP.o) Tryz.underlying39 (by rfl) HPI.o ?_)
  |(go_at_call 20;refine Calls.mono (C1.o _) ?_;rintro e w1 ⟨v1,rfl,hs,hb⟩;clear C1;replace HS:=I (HS.o.below hb);replace HK:=I (HK.o.below hb);replace HP:=I (HP.o.below hb);replace HA:=I (HA.o.below hb);replace HT:=I (HT.o.below hb);replace HR:=I (HR.o.below hb);replace HB:=HB.t hb;have V1:=I hs;clear hs hb)
  |(refine Wh.Ax (by rfl) 41 (.tmp 9) (by rfl) (w.heap.size+1+1+1) 0 (by rfl) cA _ (Wh.Ae HA.o) Tryz.underlying41 (by rfl) HAI.o ?_)
  |(go_at_call 21;refine Calls.mono (C2.o _) ?_;rintro e w2 ⟨v2,rfl,hs,hb⟩;clear C2;replace HS:=I (HS.o.below hb);replace HK:=I (HK.o.below hb);replace HP:=I (HP.o.below hb);replace HA:=I (HA.o.below hb);replace HT:=I (HT.o.below hb);replace HR:=I (HR.o.below hb);replace V1:=I (V1.o.below hb);replace HB:=HB.t hb;have V2:=I hs;clear hs hb)
  |(refine Wh.Ax (by rfl) 35 (.tmp 7) (by rfl) (w.heap.size+1) 0 (by rfl) cK _ (Wh.Ae HK.o) Tryz.underlying35 (by rfl) HKI.o ?_)
  |(go_at_call 22;refine Calls.mono (S1.o _ _ _ V1.o) ?_;rintro e w3 ⟨v3,rfl,hs,hb⟩;clear S1;have hrl:=HR.o.lt;have V3:=I (hs.mono (S':=fun j=>j<w.heap.size+6) (fun j _ x=>by omega));clear hrl;replace HS:=I (HS.o.below hb);replace HK:=I (HK.o.below hb);replace HP:=I (HP.o.below hb);replace HA:=I (HA.o.below hb);replace HT:=I (HT.o.below hb);replace HR:=I (HR.o.below hb);replace V2:=I (V2.o.below hb);replace HB:=HB.t hb;clear hs hb V1)
  |(refine Wh.Ax (by rfl) 35 (.tmp 39) (by rfl) (w.heap.size+1+1) 2 (by rfl) cQ _ (HPR.o _ HP.o) Tryz.underlying35 (by rfl) HSI.o ?_)
  |(go_at_call 22;refine Calls.mono (S2.o _ _ _ V2.o) ?_;rintro e w4 ⟨v4,rfl,hs,hb⟩;clear S2;have hrl:=HR.o.lt;have V4:=I (hs.mono (S':=fun j=>j<w.heap.size+6) (fun j _ x=>by omega));clear hrl;replace HS:=I (HS.o.below hb);replace HK:=I (HK.o.below hb);replace HP:=I (HP.o.below hb);replace HA:=I (HA.o.below hb);replace HT:=I (HT.o.below hb);replace HR:=I (HR.o.below hb);replace V3:=I (V3.o.below hb);replace HB:=HB.t hb;clear hs hb V2)
  |fail)
 have ks0:=HS.o.cell 0;have ks1:=HS.o.cell 1;have kt0:=HT.o.cell 0;have kt1:=HT.o.cell 1;obtain⟨A3,c3,e3,_⟩:=V3.o.sl;obtain⟨A4,c4,e4,_⟩:=V4.o.sl;subst e3 e4;obtain⟨n3,en3⟩:=Ak (x1.length);obtain⟨n4,en4⟩:=Ak (x2.length);rw[<-en3] at V3⊢;rw[<-en4] at V4⊢;have EN3:=I en3;have EN4:=I en4;clear en3 en4;obtain⟨cR,ecR⟩:∃z:Array Value,z=#[.string ⟨s.1.toArray⟩,.string ⟨s.2.toArray⟩,.int .i64 1,.slice A3 n3 c3,.slice A4 n4 c4,.string ⟨t.1.toArray⟩,.string ⟨t.2.toArray⟩,.int .i64 u,.int .i64 4]:=⟨_,rfl⟩;have HBR:=I (Vr s t A3 A4 n3 c3 n4 c4 u);rw[<-ecR] at HBR;have HRS:=I (show cR.size=9/\cR.all (·.oneCell')=true by rw[ecR];exact⟨rfl,by simp [Value.oneCell']⟩);have ECR:=I ecR;clear ecR
 go_wp2_with (first
  |(refine Mc.AA (by rfl) 30 #[(0,.tmp 47),(1,.tmp 48),(2,.tmp 49),(3,.tmp 50),(4,.const (.int .i64 4))] (by rfl) cR (by simp only[List.map_toArray,List.map_cons,List.map_nil];exact HBR.o) ?_;clear HBR)
  |(refine Wh.Bh (by rfl) 30 (.tmp 12) (.tmp 51) (by rfl) _ 30 _ HR.o cR (by rfl) (by rfl) (by rw[HRS.o.1];rfl) (by rw[HRS.o.1];exact Bs) HRS.o.2 ?_;rintro V hV hg;have HV:=I hV;have HG:=I hg;clear hV hg)
  |fail)
 refine bodyPost_ret (v:=.tuple #[.agg cR,.bool true]) ?_ ?_ ?_
 ·exact Ad (v:=.agg cR) 12 13 30 ⟨w.heap.size+1+1+1+1+1,0,none⟩ Tryz.results5 rfl (Wh.Al HV.o Tryz.underlying30 (by rfl) (by rw[HRS.o.1];exact Bs)) rfl
 ·rfl
 ·rw[ECR.o]
  have hr0:w.heap.size<=w.heap.size+1+1+1+1+1:=by omega
  rw[EN3.o] at V3;rw[EN4.o] at V4;refine⟨_,_,rfl,?_,?_,HB.o.grown HG.o HB.o.size (fun k hk=>by injection hk with hk;omega)⟩
  ·rw[EN3.o];exact V3.o.keep (FF HG.o) (fun j hj e=>by omega) (fun j hj x=>by omega)
  ·rw[EN4.o];exact V4.o.keep (FF HG.o) (fun j hj e=>by omega) (fun j hj x=>by omega)
end Kd
namespace Kd
open Go.RowKit Af Se
open Nm (krb strs)
open Rt (SlV SlP RdP kl)
theorem Wn (w:World):Calls Tryz.prog 18 #[] w fun e w'=>∃v1 v2,e=.returned (.agg (tpA v1 v2))/\TpK (fun b=>w.heap.size<=b/\b<w'.heap.size) w' v1 v2 (.slice none 0 0) tT/\Below w.heap.size w w':=by
 obtain⟨W,eW⟩:=Ak (w.alloc (.cells (tpA (.slice none 0 0) (.slice none 0 0)) 74));have HZ:=I (show Blk W w.heap.size 74 (tpA (.slice none 0 0) (.slice none 0 0)) from eW▸Blk.new w _ _);have HB:=I (show Below w.heap.size w W from eW▸Ah.alloc Ag _);have HWS:=I (show W.heap.size=w.heap.size+1 by rw[eW];simp);go_enter Tryz.func18,Tryz.ntmps18
 go_upto_region 1 with fail
 rw[<-eW];clear eW;have kz0:=HZ.o.cell 0;have kz1:=HZ.o.cell 1;have kz2:=HZ.o.cell 2;have fz:=HZ.o.frozen;have lz:=HZ.o.lt;have lz2:w.heap.size<W.heap.size+1:=by omega
 go_wp2
 obtain⟨X,eX⟩:=Ak (((W.setCell ⟨w.heap.size,0,none⟩ (.slice (some ⟨W.heap.size,0,none⟩) 3 3)).setCell ⟨w.heap.size,1,none⟩ (.slice (some ⟨W.heap.size+1,0,none⟩) 4 4)).setCell ⟨w.heap.size,2,none⟩ (.slice none 0 0));have hx:Blk X w.heap.size 74 (tpA (.slice (some ⟨W.heap.size,0,none⟩) 3 3) (.slice (some ⟨W.heap.size+1,0,none⟩) 4 4)):=eX▸((HZ.o.set 0 (.slice (some ⟨W.heap.size,0,none⟩) 3 3)).set 1 (.slice (some ⟨W.heap.size+1,0,none⟩) 4 4)).set 2 (.slice none 0 0);have hxs:X.heap.size=W.heap.size:=by rw[eX];simp
 have hbx:Below w.heap.size w X:=eX▸Si.Ay (Si.Ay (Si.Ay HB.o (by simp) _) (by simp) _) (by simp) _;rw[<-eX];clear eX kz0 kz1 kz2 fz;obtain⟨V,eV⟩:=Ak ((X.alloc (.cells #[.string ⟨#[65,46,69,68,85]⟩,.string ⟨#[69,68,85]⟩,.string ⟨#[66,46,69,68,85]⟩] 9)).alloc (.cells #[.string ⟨#[65,46,69,68,85]⟩,.string ⟨#[69,68,85]⟩,.string ⟨#[69,68,85]⟩,.string ⟨#[65,46,69,68,85]⟩,.string ⟨#[69,68,85]⟩,.string ⟨#[66,46,69,68,85]⟩,.string ⟨#[66,46,69,68,85]⟩,.string ⟨#[69,68,85]⟩] 138));have hb:Below X.heap.size X V:=eV▸(Ah.alloc Ag _).alloc (by simp) _;have hr3:Blk V W.heap.size 9 #[.string ⟨#[65,46,69,68,85]⟩,.string ⟨#[69,68,85]⟩,.string ⟨#[66,46,69,68,85]⟩]:=by rw[<-hxs];exact eV▸(Blk.new X _ _).alloc _
 have hk3:Blk V (W.heap.size+1) 138 #[.string ⟨#[65,46,69,68,85]⟩,.string ⟨#[69,68,85]⟩,.string ⟨#[69,68,85]⟩,.string ⟨#[65,46,69,68,85]⟩,.string ⟨#[69,68,85]⟩,.string ⟨#[66,46,69,68,85]⟩,.string ⟨#[66,46,69,68,85]⟩,.string ⟨#[69,68,85]⟩]:=by have:=Blk.new (X.alloc (.cells #[.string ⟨#[65,46,69,68,85]⟩,.string ⟨#[69,68,85]⟩,.string ⟨#[66,46,69,68,85]⟩] 9)) 138 #[.string ⟨#[65,46,69,68,85]⟩,.string ⟨#[69,68,85]⟩,.string ⟨#[69,68,85]⟩,.string ⟨#[65,46,69,68,85]⟩,.string ⟨#[69,68,85]⟩,.string ⟨#[66,46,69,68,85]⟩,.string ⟨#[66,46,69,68,85]⟩,.string ⟨#[69,68,85]⟩];simp only[World.size_alloc] at this;rw[<-hxs];exact eV▸this
 have hz:=hx.below hb;rw[<-eV];clear eV;refine bodyPost_ret (v:=.agg (tpA (.slice (some ⟨W.heap.size,0,none⟩) 3 3) (.slice (some ⟨W.heap.size+1,0,none⟩) 4 4))) ?_ ?_ ?_
 ·exact Wh.Au (v:=.agg (tpA (.slice (some ⟨W.heap.size,0,none⟩) 3 3) (.slice (some ⟨W.heap.size+1,0,none⟩) 4 4))) 0 74 ⟨w.heap.size,0,none⟩ Tryz.results18 (by rfl) (Wh.Al hz Tryz.underlying74 (by rfl) (by kernel_rfl))
 ·rfl
 ·have h1:=hr3.lt
  have h2:=hk3.lt;refine⟨_,_,rfl,⟨⟨_,3,rfl,Nat.le_refl _,.inr ⟨_,0,rfl,⟨by omega,h1⟩,fun i u hu=>?_⟩⟩,⟨_,4,rfl,Nat.le_refl _,.inr ⟨_,0,rfl,⟨by omega,h2⟩,fun i hi=>?_⟩⟩,rfl,rfl⟩,hbx.trans (hb.mono hbx.size)⟩
  ·rw[Nat.zero_add,hr3.cell]
   have e:(strs tT.R)[i]? = (strs tT.R).toArray[i]?:=by simp
   rw[e] at hu;exact hu
  ·have hi:i<4:=hi
   rw[Nat.zero_add]
   match i,hi with
   |0,_=>exact⟨hk3.cell 0,hk3.cell 1⟩
   |1,_=>exact⟨hk3.cell 2,hk3.cell 3⟩
   |2,_=>exact⟨hk3.cell 4,hk3.cell 5⟩
   |3,_=>exact⟨hk3.cell 6,hk3.cell 7⟩
theorem tT_kt:∀x∈tT.K,x.1.length<=3000/\x.2.length<=3000:=by decide
end Kd
namespace Kd
open Go.RowKit Af Se
open Rg (It Ent Ring RO its Ad)
section
variable {w:World} {B:Nat} {p:KP} {es:List Ent} {n i c:Nat}
theorem Ym (h:KD w B p es n i) (hi:i<1000000000):Calls Tryz.prog 33 #[.pointer (some ⟨p.k,0,none⟩)] w fun e w'=>e=.returned (.int .i64 (i:Int))/\w=w':=by
 have k6:w.cell? ⟨p.k,6,none⟩=some (.int .i64 (i:Int)):=h.blk.cell 6;have c1:=Se.PU ⟨p.k,6,none⟩ i w k6;clear h;go_enter Tryz.func33,Tryz.ntmps33
 go_wp2_with (first
  |(go_at_call 77;refine Aj c1 ?_;rintro w1 hw;clear c1;have hw:=hw.symm;subst hw)
  |fail)
 go_ret;exact⟨by go_num,rfl⟩
end
end Kd
namespace Rt
open Go.RowKit Af Nm
theorem Ed (ls:List L) (A:Option Addr) (c B:Nat) (r:L) (w:World) (hl:ls.length<=9000000000000000) (hr:Rd w B A (strs ls)) :
  Calls Tryz.prog 52 #[.slice A ls.length c,.string ⟨r.toArray⟩] w fun e w'=>e=.returned (.int .i64 (Tr.ixL r ls))/\w=w':=by
 have HR:=I hr;clear hr;obtain⟨n,en⟩:=Ak (ls.length);rw[<-en] at hl⊢;have EN:=I en;clear en;go_enter Tryz.func52,Tryz.ntmps52
 go_wp2
 go_loop [5] (fun iv=>∃i:Nat,i<=n/\iv=.int .i64 (i:Int)/\∀k,k<i->pl ls k≠r) (fun iv=>n - (intOf iv).toNat)
 case atStart=>exact⟨0,Nat.zero_le _,rfl,fun k h=>absurd h (Nat.not_lt_zero k)⟩
 case round=>
  obtain⟨i,hi,rfl,hn⟩:=hrel;have HN:=I hn;clear hn
  by_cases hlt:i<n
  ·have e1:(i:Int)<(n:Int):=by omega
   have e2:(0:Int)<=(i:Int):=by omega
   obtain⟨b,o,rfl,_,h1⟩:=EJ HR.o (i:=i) (by rw[<-EN.o];exact hlt)
   by_cases hx:pl ls i=r
   ·have t1:(pl ls i==r)=true:=by simpa using hx
    have E:=I (Tr.Oa (by rw[<-EN.o];exact hlt) hx HN.o);clear hx
    go_wp2
    go_ret;exact⟨by rw[E.o];rfl,rfl⟩
   ·have t1:(pl ls i==r)=false:=by simpa using hx
    have HX:=I hx;clear hx
    go_wp2
    go_round
    case rel=>exact⟨i+1,by omega,by go_num,fun k hk=>by
     by_cases q:k=i
     ·rw[q];exact HX.o
     ·exact HN.o k (by omega)⟩
    case measure=>simp [intOf];omega
  ·have e1:¬(i:Int)<(n:Int):=by omega
   have E:=I (Tr.QW (ls:=ls) (r:=r) fun k hk=>HN.o k (by have:=EN.o;omega))
   go_wp2
   go_ret;exact⟨by rw[E.o];rfl,rfl⟩
theorem Di {ls:List L} {r:L} (h:r∈ls):∃z:Int,z=Tr.ixL r ls/\0<=z:=⟨_,rfl,by have:=Tr.WM r ls;simpa [h] using this⟩
theorem Dw {ls:List L} {r:L} (h:r∉ls):∃z:Int,z=Tr.ixL r ls/\z<0:=⟨_,rfl,by have:=Tr.WM r ls;simpa [h] using this⟩
theorem Ty {w:World} {B b o i:Nat} {ls:List L} (h:Rd w B (some ⟨b,o,none⟩) (strs ls)) (hi:i<ls.length):w.cell? ⟨b,o+i,none⟩=some (.string ⟨(pl ls i).toArray⟩):=by
 obtain⟨b',o',e,_,h1⟩:=EJ h hi;injection e with e;injection e with e1 e2;subst e1;subst e2;exact h1
theorem NI (ls:List L) (A:Option Addr) (c B:Nat) (w:World) (hl:ls.length<=1000000) (hc:ls.length<=c) (hr:Rd w B A (strs ls)) (hB:B<=w.heap.size) (hs:∀i,i<ls.length->(pl ls i).length<=1000000000) :
  Calls Tryz.prog 98 #[.slice A ls.length c] w fun e w'=>e=.returned (.bool (BA ls&&(decide (1<=ls.length)&&decide (ls.length<=6))))/\Below w.heap.size w w':=by
 obtain⟨N,eN⟩:=Ak (w.heap.size);rw[<-eN] at hB⊢;have HB0:=I (show Below N w w from Below.refl _ _);have EN0:=I eN;clear eN;have HSZ:=I (show ∀w1:World,Below N w w1->N<=w1.heap.size from fun w1 h=>by have:=h.size;have:=EN0.o;omega);have HR:=I hr;clear hr;have IS:=I (fun(i:Nat) (h:i<ls.length) w1=>Mz (pl ls i) w1 (hs i h));have PL:=I (fun(i:Nat) (hi:i<ls.length) w1 (h:Rd w1 B A (strs ls))=>Ed (ls.take i) A c B (pl ls i) w1 (by simp;omega) (IZ h (by omega)));have EQ:=I (show BA ls=(ls.all isL&&decide ls.Nodup) from rfl);obtain⟨n,en⟩:=Ak (ls.length);rw[<-en] at hl hc⊢;have EN:=I en;clear en hs;go_enter Tryz.func98,Tryz.ntmps98
 go_wp2
 go_loopw [3] (fun iv wr=>∃i:Nat,i<=n/\iv=.int .i64 (i:Int)/\(ls.take i).all isL=true/\(ls.take i).Nodup/\Below N w wr) (fun iv _=>n - (intOf iv).toNat)
 case atStart=>exact⟨0,Nat.zero_le _,rfl,by simp,by simp,HB0.o⟩
 case round=>
  obtain⟨i,hi,rfl,hn,hd,hb⟩:=hrel;have HN:=I hn;clear hn;have HD:=I hd;clear hd;have HB:=I hb;clear hb
  by_cases hlt:i<n
  ·have e1:(i:Int)<(n:Int):=by omega
   have e2:(0:Int)<=(i:Int):=by omega
   have e3:(i:Int)<=(c:Int):=by omega
   have him:i<ls.length:=by rw[<-EN.o];exact hlt
   have hlen:(ls.take i).length=i:=by simp;omega
   have c1:=IS.o i him;have c2:=PL.o i him;rw[hlen] at c2;have hal:=all_succ (p:=isL) him;rw[HN.o,Bool.true_and,<-EI him] at hal;have hnd:=Dl him;rw[<-EI him] at hnd;have HR2:=I (HR.o.below (HB.o.mono hB));obtain⟨b,o,eA,_,h1⟩:=EJ HR2.o him;subst eA;cases hx:isL (pl ls i) with
   |false=>
    rw[hx] at c1;have E:=I (show BA ls=false by
     rw[EQ.o,all_false him (by rw[<-EI him];exact hx)];rfl)
    clear c2 hal hnd hx
    go_wp2
    replace HB:=I (below_drewN HB.o 1);have HC:=I (show ∀w',Reg.DN wr.drew w'->w'.cell? ⟨b,o+i,none⟩=some (.string ⟨(pl ls i).toArray⟩) from fun w' hS=>Ty ((HR2.o.drewN 1).below (w':=w') (hS.mono (Nat.le_trans hB (HSZ.o _ HB.o)))) him);clear h1 him hlen;refine Reg.Cq 17 rfl (by kernel_rfl) ?_;refine Reg.tz 0 rfl ?_;refine Reg.tz 1 rfl ?_;refine Reg.tz 2 rfl ?_;refine Reg.tx 3 rfl (fun w' hS=>by have hh:=HC.o w' hS;go_simp;rfl) ?_;refine Reg.DQ 4 rfl (by kernel_rfl) (by rfl) 90 #[.string ⟨(pl ls i).toArray⟩] (by go_simp) ?_;refine Aj (c1 _) ?_;rintro w1 hb;refine⟨_,rfl,hb,?_⟩;have H1:=I (HB.o.trans (hb.mono (HSZ.o _ HB.o)));clear hb;simp only[Act.put,U,Aa,Ab];refine Reg.tz 5 rfl ?_;refine Reg.tz 6 rfl ?_;refine Reg.sk 7 rfl ?_;refine Reg.sk 8 rfl ?_;refine Reg.sk 9 rfl ?_;refine Reg.sk 10 rfl ?_;refine Reg.sk 11 rfl ?_;refine Reg.sk 12 rfl ?_;refine Reg.sk 13 rfl ?_;refine Reg.sk 14 rfl ?_;refine Reg.sk 15 rfl ?_;refine Reg.tz 16 rfl ?_;refine wpAnyH_done (by kernel_rfl) ?_ _
    go_wp2
    go_ret;exact⟨by rw[E.o];rfl,H1.o⟩
   |true=>
    rw[hx] at c1;have C1:=I c1;have C2:=I c2;clear c1 c2;have HC:=I (fun w' (h:Rd w' B (some ⟨b,o,none⟩) (strs ls))=>Ty h him)
    by_cases hy:pl ls i∈ls.take i
    ·obtain⟨z,ez,hz⟩:=Di hy
     rw[<-ez] at C2;have z1:decide (0<=z)=true:=decide_eq_true hz;have E:=I (show BA ls=false by
      rw[EQ.o,decide_eq_false (fun h=>(hnd.1 (FL h)).2 hy)];simp)
     clear ez hy hz hx hal hnd him hlen
     go_wp2
     replace HB:=I (below_drewN HB.o 1);replace HR2:=I (HR2.o.drewN 1)
     go_region_held3 (fun w'=>w'.cell? ⟨b,o+i,none⟩=some (.string ⟨(pl ls i).toArray⟩)) (exact HC.o _ HR2.o) ((first
      |(go_at_call 90;refine Aj (C1.o _) ?_;rintro w1 hb;replace HR2:=I (HR2.o.below (hb.mono (Nat.le_trans hB (HSZ.o _ HB.o))));replace HB:=I (HB.o.trans (hb.mono (HSZ.o _ HB.o)));clear hb)
      |(go_at_call 52;refine Aj (C2.o _ HR2.o) ?_;rintro w2 rfl)))
     go_wp2
     go_ret;exact⟨by rw[E.o];rfl,HB.o⟩
    ·obtain⟨z,ez,hz⟩:=Dw hy
     rw[<-ez] at C2;have z1:decide (0<=z)=false:=decide_eq_false (by omega);have E:=I (hal.trans hx);have E2:=I (hnd.2 ⟨HD.o,hy⟩);clear ez hy hz hx hal hnd him hlen
     go_wp2
     replace HB:=I (below_drewN HB.o 1);replace HR2:=I (HR2.o.drewN 1)
     go_region_held3 (fun w'=>w'.cell? ⟨b,o+i,none⟩=some (.string ⟨(pl ls i).toArray⟩)) (exact HC.o _ HR2.o) ((first
      |(go_at_call 90;refine Aj (C1.o _) ?_;rintro w1 hb;replace HR2:=I (HR2.o.below (hb.mono (Nat.le_trans hB (HSZ.o _ HB.o))));replace HB:=I (HB.o.trans (hb.mono (HSZ.o _ HB.o)));clear hb)
      |(go_at_call 52;refine Aj (C2.o _ HR2.o) ?_;rintro w2 rfl)))
     go_wp2
     go_roundw
     case rel=>exact⟨i+1,by omega,by go_num,E.o,E2.o,HB.o⟩
     case measure=>simp [intOf];omega
  ·have e1:¬(i:Int)<(n:Int):=by omega
   have hiP:ls.length<=i:=by have:=EN.o;omega
   have E:=I (show BA ls=true by
    have h:=HD.o;rw[List.take_of_length_le hiP] at h;rw[EQ.o,Dg hiP HN.o,decide_eq_true h];rfl)
   by_cases q1:1<=n
   ·have t1:decide ((1:Int)<=(n:Int))=true:=by simp;omega
    by_cases q2:n<=6
    ·have t2:decide ((n:Int)<=6)=true:=by simp;omega
     have E2:=I (show(BA ls&&(decide (1<=n)&&decide (n<=6)))=true by rw[E.o,decide_eq_true q1,decide_eq_true q2];rfl);clear q1 q2
     go_wp2
     go_ret;exact⟨by rw[E2.o];rfl,HB.o⟩
    ·have t2:decide ((n:Int)<=6)=false:=by simp;omega
     have E2:=I (show(BA ls&&(decide (1<=n)&&decide (n<=6)))=false by rw[decide_eq_false q2];simp);clear q1 q2
     go_wp2
     go_ret;exact⟨by rw[E2.o];rfl,HB.o⟩
   ·have t1:decide ((1:Int)<=(n:Int))=false:=by simp;omega
    have E2:=I (show(BA ls&&(decide (1<=n)&&decide (n<=6)))=false by rw[decide_eq_false q1];simp);clear q1
    go_wp2
    go_ret;exact⟨by rw[E2.o];rfl,HB.o⟩
theorem Tz (p:Pa) (T:Tp) (v u:Value) (B:Nat) (w:World) (hs:Sm T) (hp:p.v.length<=3000) (hv:TpV w B v T) (hu:PaV w B u p) (hB:B<=w.heap.size) (hq:CJ T.R (p.f,p.t)=true) (h4:p.v.length<=4) :
  Calls Tryz.prog 99 #[v,u] w fun e w'=>e=.returned (.bool (viaB T.R p))/\Below w.heap.size w w':=by
 obtain⟨v1,v2,v3,rfl,⟨A1,d1,rfl,hc1,r1⟩,⟨A2,d2,rfl,hc2,r2⟩,⟨A3,d3,rfl,hc3,r3⟩⟩:=hv;obtain⟨u1,rfl,⟨A5,d5,rfl,hc5,r5⟩⟩:=hu;have hb1:=(Below.refl w.heap.size w).alloc Ag (.cells #[.slice A1 T.R.length d1,.slice A2 T.K.length d2,.slice A3 T.P.length d3] 74);have hb2:=hb1.alloc hb1.size (.cells #[.string ⟨p.f.toArray⟩,.string ⟨p.t.toArray⟩,.slice A5 p.v.length d5] 205);have HB:=I hb2;have HK2:=I (Blk.new (w.alloc (.cells #[.slice A1 T.R.length d1,.slice A2 T.K.length d2,.slice A3 T.P.length d3] 74)) 205 #[.string ⟨p.f.toArray⟩,.string ⟨p.t.toArray⟩,.slice A5 p.v.length d5]);have HK1:=I ((Blk.new w 74 #[.slice A1 T.R.length d1,.slice A2 T.K.length d2,.slice A3 T.P.length d3]).alloc (.cells #[.string ⟨p.f.toArray⟩,.string ⟨p.t.toArray⟩,.slice A5 p.v.length d5] 205));have HR:=I (r1.below (hb2.mono hB));have HV:=I (r5.below (hb2.mono hB));have PR:=I (fun x w1 (h:Rd w1 B A1 (strs T.R))=>Ed T.R A1 d1 B x w1 (by have:=hs.r;omega) h);have PV:=I (fun(i:Nat) (hi:i<p.v.length) w1 (h:Rd w1 B A5 (strs p.v))=>Ed (p.v.take i) A5 d5 B (pl p.v i) w1 (by simp;omega) (IZ h (by omega)));rw[CJ,Bool.and_eq_true,Bool.and_eq_true,decide_eq_true_eq,decide_eq_true_eq,decide_eq_true_eq] at hq;obtain⟨hft,hf,ht⟩:=hq;simp only at hft hf ht;have t1:(p.f==p.t)=false:=by simpa using hft
 obtain⟨z1,ez1,hz1⟩:=Di hf;obtain⟨z2,ez2,hz2⟩:=Di ht;have c1:=PR.o p.f;have c2:=PR.o p.t;rw[<-ez1] at c1;rw[<-ez2] at c2;have s1:decide (z1<0)=false:=decide_eq_false (by omega);have s2:decide (z2<0)=false:=decide_eq_false (by omega);have EQ:=I (show viaB T.R p=(p.v.all (onB T.R p)&&decide p.v.Nodup) by rw[viaB,decide_eq_true h4];rfl);obtain⟨n,en⟩:=Ak (p.v.length);obtain⟨m,em⟩:=Ak (T.R.length);clear hb1 hb2;rw[<-en] at HB HK1 HK2 HR HV hc5 h4 hp;rw[<-em] at HB HK1 HK2 HR HV PR c1 c2;rw[<-en,<-em];have s3:decide (4<(n:Int))=false:=by simp;omega
 have EN:=I en;clear en em ez1 ez2 hz1 hz2 hft hf ht r1 r2 r3 r5 hB hs hc1 hc2 hc3 h4;have C1:=I c1;have C2:=I c2;clear c1 c2;go_enter Tryz.func99,Tryz.ntmps99
 go_wp2_with (first
  |(go_at_call 52;with_reducible refine Aj (C1.o _ HR.o) ?_;rintro w1 rfl;clear C1)
  |(go_at_call 52;with_reducible refine Aj (C2.o _ HR.o) ?_;rintro w1 rfl;clear C2))
 obtain⟨W,eW⟩:=Ak ((w.alloc (.cells #[.slice A1 m d1,.slice A2 T.K.length d2,.slice A3 T.P.length d3] 74)).alloc (.cells #[.string ⟨p.f.toArray⟩,.string ⟨p.t.toArray⟩,.slice A5 n d5] 205));rw[<-eW] at HB HK1 HK2 HR HV⊢;clear eW;have hsz:(w.alloc (.cells #[.slice A1 m d1,.slice A2 T.K.length d2,.slice A3 T.P.length d3] 74)).heap.size=w.heap.size+1:=by simp
 rw[hsz] at HK2;clear hsz
 go_loopw [5] (fun iv wr=>∃i:Nat,i<=n/\iv=.int .i64 (i:Int)/\(p.v.take i).all (onB T.R p)=true/\(p.v.take i).Nodup/\AS W wr) (fun iv _=>n - (intOf iv).toNat)
 case atStart=>exact⟨0,Nat.zero_le _,rfl,by simp,by simp,AS.refl _⟩
 case round=>
  obtain⟨i,hi,rfl,hn,hnd,hd⟩:=hrel;have HN:=I hn;clear hn;have HND:=I hnd;clear hnd;have HRW:=I (show Rd wr B A1 (strs T.R) by obtain⟨q,rfl⟩:=hd;exact HR.o.drewN q);have HVW:=I (show Rd wr B A5 (strs p.v) by obtain⟨q,rfl⟩:=hd;exact HV.o.drewN q);have k0:wr.cell? ⟨w.heap.size,0,none⟩=some (.slice A1 m d1):=by obtain⟨q,rfl⟩:=hd;exact HK1.o.cell 0
  have k1:wr.cell? ⟨w.heap.size+1,0,none⟩=some (.string ⟨p.f.toArray⟩):=by obtain⟨q,rfl⟩:=hd;exact HK2.o.cell 0
  have k2:wr.cell? ⟨w.heap.size+1,1,none⟩=some (.string ⟨p.t.toArray⟩):=by obtain⟨q,rfl⟩:=hd;exact HK2.o.cell 1
  have k3:wr.cell? ⟨w.heap.size+1,2,none⟩=some (.slice A5 n d5):=by obtain⟨q,rfl⟩:=hd;exact HK2.o.cell 2
  have HDR:=I hd;clear hd
  by_cases hlt:i<n
  ·have e1:(i:Int)<(n:Int):=by omega
   have e2:(0:Int)<=(i:Int):=by omega
   have e3:(i:Int)<=(d5:Int):=by omega
   have him:i<p.v.length:=by rw[<-EN.o];exact hlt
   have hlen:(p.v.take i).length=i:=by simp;omega
   have C4:=I (PV.o i him);rw[hlen] at C4;have hal:=all_succ (p:=onB T.R p) him;rw[HN.o,Bool.true_and,<-EI him] at hal;have haf:=all_false (p:=onB T.R p) him;rw[<-EI him] at haf;have hnd:=Dl him;rw[<-EI him] at hnd;obtain⟨b,o,eA,_,h1⟩:=EJ HVW.o him;subst eA;obtain⟨x,ex⟩:=Ak (pl p.v i);rw[<-ex] at hal haf hnd h1 C4;have C3:=I (PR.o x);have HAL:=I hal;have HAF:=I haf;have HNDS:=I hnd;clear ex him hlen hal haf hnd
   by_cases q1:x∈T.R
   ·obtain⟨y1,ey1,hy1⟩:=Di q1
    rw[<-ey1] at C3;have s4:decide (y1<0)=false:=decide_eq_false (by omega);have Q1:=I q1;clear ey1 hy1 q1
    by_cases q2:x∈p.v.take i
    ·obtain⟨y2,ey2,hy2⟩:=Di q2
     rw[<-ey2] at C4;have s5:decide (0<=y2)=true:=decide_eq_true hy2;have E:=I (show viaB T.R p=false by rw[EQ.o,decide_eq_false (fun h=>(HNDS.o.1 (FL h)).2 q2)];simp);clear ey2 hy2 q2
     go_wp2
     go_quiet (first
      |(go_at_call 52;with_reducible refine Aj (C3.o _ (HRW.o.drewN _)) ?_;rintro w9 rfl;exact⟨rfl,_,rfl⟩)
      |(go_at_call 52;with_reducible refine Aj (C4.o _ (HVW.o.drewN _)) ?_;rintro w9 rfl;exact⟨rfl,_,rfl⟩))
     go_wp2
     go_ret;exact⟨by rw[E.o];rfl,HB.o.trans ((HDR.o.trans ⟨_,rfl⟩).below.mono HB.o.size)⟩
    ·obtain⟨y2,ey2,hy2⟩:=Dw q2
     rw[<-ey2] at C4;have s5:decide (0<=y2)=false:=decide_eq_false (by omega);have E2:=I (HNDS.o.2 ⟨HND.o,q2⟩);clear ey2 hy2 q2
     by_cases q3:x=p.f
     ·have t3:(x==p.f)=true:=by simpa using q3
      have E:=I (show viaB T.R p=false by rw[EQ.o,HAF.o (by rw[onB,decide_eq_false (fun h=>h q3)];rfl)];rfl);clear q3
      go_wp2
      go_quiet (first
       |(go_at_call 52;with_reducible refine Aj (C3.o _ (HRW.o.drewN _)) ?_;rintro w9 rfl;exact⟨rfl,_,rfl⟩)
       |(go_at_call 52;with_reducible refine Aj (C4.o _ (HVW.o.drewN _)) ?_;rintro w9 rfl;exact⟨rfl,_,rfl⟩))
      go_wp2
      go_ret;exact⟨by rw[E.o];rfl,HB.o.trans ((HDR.o.trans ⟨_,rfl⟩).below.mono HB.o.size)⟩
     ·have t3:(x==p.f)=false:=by simpa using q3
      by_cases q4:x=p.t
      ·have t4:(x==p.t)=true:=by simpa using q4
       have E:=I (show viaB T.R p=false by rw[EQ.o,HAF.o (by rw[onB,decide_eq_false (p:=x≠p.t) (fun h=>h q4)];simp)];rfl);clear q3 q4
       go_wp2
       go_quiet (first
        |(go_at_call 52;with_reducible refine Aj (C3.o _ (HRW.o.drewN _)) ?_;rintro w9 rfl;exact⟨rfl,_,rfl⟩)
        |(go_at_call 52;with_reducible refine Aj (C4.o _ (HVW.o.drewN _)) ?_;rintro w9 rfl;exact⟨rfl,_,rfl⟩))
       go_wp2
       go_ret;exact⟨by rw[E.o];rfl,HB.o.trans ((HDR.o.trans ⟨_,rfl⟩).below.mono HB.o.size)⟩
      ·have t4:(x==p.t)=false:=by simpa using q4
       have E:=I (HAL.o.trans (show onB T.R p x=true by rw[onB,decide_eq_true q3,decide_eq_true q4,decide_eq_true Q1.o];rfl));clear q3 q4
       go_wp2
       go_quiet (first
        |(go_at_call 52;with_reducible refine Aj (C3.o _ (HRW.o.drewN _)) ?_;rintro w9 rfl;exact⟨rfl,_,rfl⟩)
        |(go_at_call 52;with_reducible refine Aj (C4.o _ (HVW.o.drewN _)) ?_;rintro w9 rfl;exact⟨rfl,_,rfl⟩))
       go_wp2
       go_roundw
       case rel=>exact⟨i+1,by omega,by go_num,E.o,E2.o,HDR.o.trans ⟨_,rfl⟩⟩
       case measure=>simp [intOf];omega
   ·obtain⟨y1,ey1,hy1⟩:=Dw q1
    rw[<-ey1] at C3;have s4:decide (y1<0)=true:=decide_eq_true hy1;have E:=I (show viaB T.R p=false by rw[EQ.o,HAF.o (by rw[onB,decide_eq_false q1];simp)];rfl);clear ey1 hy1 q1
    go_wp2
    go_quiet (first
     |(go_at_call 52;with_reducible refine Aj (C3.o _ (HRW.o.drewN _)) ?_;rintro w9 rfl;exact⟨rfl,_,rfl⟩))
    go_wp2
    go_ret;exact⟨by rw[E.o];rfl,HB.o.trans ((HDR.o.trans ⟨_,rfl⟩).below.mono HB.o.size)⟩
  ·have e1:¬(i:Int)<(n:Int):=by omega
   have hiP:p.v.length<=i:=by have:=EN.o;omega
   have E:=I (show viaB T.R p=true by
    have h:=HND.o;rw[List.take_of_length_le hiP] at h;rw[EQ.o,Dg hiP HN.o,decide_eq_true h];rfl)
   go_wp2
   go_ret;exact⟨by rw[E.o];rfl,HB.o.trans (HDR.o.below.mono HB.o.size)⟩
theorem Yn {R:List L} {p:Pa} (h:CJ R (p.f,p.t)=true):Ev R p=viaB R p:=by rw[Ev,h];rfl
theorem ao {R:List L} {p:Pa} (h:p.f∉R):Ev R p=false:=by rw[Ev,CJ];simp [h]
theorem ar {R:List L} {p:Pa} (h:p.t∉R):Ev R p=false:=by rw[Ev,CJ];simp [h]
theorem au {R:List L} {p:Pa} (h:p.f=p.t):Ev R p=false:=by rw[Ev,CJ];simp [h]
theorem ax {R:List L} {p:Pa} (h:¬p.v.length<=4):Ev R p=false:=by rw[Ev,viaB,decide_eq_false h];simp
theorem TA (p:Pa) (T:Tp) (v u:Value) (B:Nat) (w:World) (hs:Sm T) (hp:p.v.length<=3000) (hv:TpV w B v T) (hu:PaV w B u p) (hB:B<=w.heap.size) :
  Calls Tryz.prog 99 #[v,u] w fun e w'=>e=.returned (.bool (Ev T.R p))/\Below w.heap.size w w':=by
 by_cases hgood:CJ T.R (p.f,p.t)=true/\p.v.length<=4
 ·rw[Yn hgood.1]
  exact Tz p T v u B w hs hp hv hu hB hgood.1 hgood.2
 obtain⟨v1,v2,v3,rfl,⟨A1,d1,rfl,hc1,r1⟩,⟨A2,d2,rfl,hc2,r2⟩,⟨A3,d3,rfl,hc3,r3⟩⟩:=hv;obtain⟨u1,rfl,⟨A5,d5,rfl,hc5,r5⟩⟩:=hu;have hb1:=(Below.refl w.heap.size w).alloc Ag (.cells #[.slice A1 T.R.length d1,.slice A2 T.K.length d2,.slice A3 T.P.length d3] 74);have hb2:=hb1.alloc hb1.size (.cells #[.string ⟨p.f.toArray⟩,.string ⟨p.t.toArray⟩,.slice A5 p.v.length d5] 205);have HB:=I hb2;have HR:=I (r1.below (hb2.mono hB));have PR:=I (fun x w1 (h:Rd w1 B A1 (strs T.R))=>Ed T.R A1 d1 B x w1 (by have:=hs.r;omega) h);have c1:=PR.o p.f;have c2:=PR.o p.t;have EA:=I (@ao T.R p);have EB:=I (@ar T.R p);have EC:=I (@au T.R p);have ED:=I (@ax T.R p);have HG:=I (show ¬(p.f∈T.R/\p.t∈T.R/\p.f≠p.t/\p.v.length<=4) from fun h=>hgood ⟨by rw[CJ];simp [h.1,h.2.1,h.2.2.1],h.2.2.2⟩);obtain⟨n,en⟩:=Ak (p.v.length);obtain⟨m,em⟩:=Ak (T.R.length);clear hb1 hb2 hgood;rw[<-en] at HB HR ED HG hp;rw[<-em] at HB HR PR c1 c2;rw[<-en,<-em];clear en em r1 r2 r3 r5 hB hs hc1 hc2 hc3 hc5
 by_cases q1:p.f∈T.R
 ·obtain⟨z1,ez1,hz1⟩:=Di q1
  rw[<-ez1] at c1;have s1:decide (z1<0)=false:=decide_eq_false (by omega);have C1:=I c1;clear c1 ez1 hz1
  by_cases q2:p.t∈T.R
  ·obtain⟨z2,ez2,hz2⟩:=Di q2
   rw[<-ez2] at c2;have s2:decide (z2<0)=false:=decide_eq_false (by omega);have C2:=I c2;clear c2 ez2 hz2
   by_cases q3:p.f=p.t
   ·have t3:(p.f==p.t)=true:=by simpa using q3
    have E:=I (EC.o q3);clear q1 q2 q3;go_enter Tryz.func99,Tryz.ntmps99
    go_wp2_with (first
     |(go_at_call 52;with_reducible refine Aj (C1.o _ HR.o) ?_;rintro w1 rfl;clear C1)
     |(go_at_call 52;with_reducible refine Aj (C2.o _ HR.o) ?_;rintro w1 rfl;clear C2))
    go_ret;exact⟨by rw[E.o];rfl,HB.o⟩
   ·have t3:(p.f==p.t)=false:=by simpa using q3
    have h4:¬n<=4:=fun h=>HG.o ⟨q1,q2,q3,h⟩
    have s3:decide (4<(n:Int))=true:=by simp;omega
    have E:=I (ED.o h4);clear q1 q2 q3 h4;go_enter Tryz.func99,Tryz.ntmps99
    go_wp2_with (first
     |(go_at_call 52;with_reducible refine Aj (C1.o _ HR.o) ?_;rintro w1 rfl;clear C1)
     |(go_at_call 52;with_reducible refine Aj (C2.o _ HR.o) ?_;rintro w1 rfl;clear C2))
    go_ret;exact⟨by rw[E.o];rfl,HB.o⟩
  ·obtain⟨z2,ez2,hz2⟩:=Dw q2
   rw[<-ez2] at c2;have s2:decide (z2<0)=true:=decide_eq_true hz2;have C2:=I c2;clear c2 ez2 hz2;have E:=I (EB.o q2);clear q1 q2;go_enter Tryz.func99,Tryz.ntmps99
   go_wp2_with (first
    |(go_at_call 52;with_reducible refine Aj (C1.o _ HR.o) ?_;rintro w1 rfl;clear C1)
    |(go_at_call 52;with_reducible refine Aj (C2.o _ HR.o) ?_;rintro w1 rfl;clear C2))
   go_ret;exact⟨by rw[E.o];rfl,HB.o⟩
 ·obtain⟨z1,ez1,hz1⟩:=Dw q1
  rw[<-ez1] at c1;have s1:decide (z1<0)=true:=decide_eq_true hz1;have C1:=I c1;clear c1 c2 ez1 hz1;have E:=I (EA.o q1);clear q1;go_enter Tryz.func99,Tryz.ntmps99
  go_wp2_with (go_at_call 52;with_reducible refine Aj (C1.o _ HR.o) ?_;rintro w1 rfl;clear C1)
  go_ret;exact⟨by rw[E.o];rfl,HB.o⟩
theorem isr_k {T:Tp} {i:Nat} (hi:i<T.K.length) (h:CJ T.R (kl T.K i)=false):isT T=false:=by
 rw[Ga hi] at h;exact WU (by rw[Cu,all_false hi h];rfl)
theorem ay {T:Tp} {i k:Nat} (hi:i<T.K.length) (hk:k<i) (h:kl T.K k=kl T.K i):isT T=false:=by
 refine WU ?_;rw[Cu,decide_eq_false,Bool.and_false];intro hn;rw[List.nodup_iff_pairwise_ne,List.pairwise_iff_getElem] at hn;rw[Ga hi,Ga (by omega)] at h;exact hn k i (by omega) hi hk h
theorem Wo {T:Tp} (h:Gf T.P T.R=false):isT T=false:=by rw[isT,h];simp
theorem isr_p {T:Tp} {i:Nat} (hi:i<T.P.length) (h:Ev T.R (al T.P i)=false):isT T=false:=by
 rw[MQ hi] at h;exact Wo (by rw[KE,all_false hi h];rfl)
theorem Li {P:List Pa} {i:Nat} (hi:i<P.length):(DY P)[i]'(by rw[BB];exact hi)=((al P i).f,(al P i).t):=by
 simp [DY,MQ hi]
theorem az {T:Tp} {i k:Nat} (hi:i<T.P.length) (hk:k<i) (h1:(al T.P k).f=(al T.P i).f) (h2:(al T.P k).t=(al T.P i).t):isT T=false:=by
 refine Wo ?_;rw[KE,decide_eq_false,Bool.and_false];intro hn;rw[List.nodup_iff_pairwise_ne,List.pairwise_iff_getElem] at hn;refine hn k i (by rw[BB];omega) (by rw[BB];exact hi) hk ?_;rw[Li hi,Li (by omega),h1,h2]
theorem Yo {T:Tp} (h:(BA T.R&&(decide (1<=T.R.length)&&decide (T.R.length<=6)))=true) (h3:T.K.length<=20) (h4:T.P.length<=8) (h5:T.K.all (CJ T.R)=true) (h6:T.K.Nodup) (h7:T.P.all (Ev T.R)=true) (h8:(DY T.P).Nodup):isT T=true:=by
 rw[Bool.and_eq_true,Bool.and_eq_true] at h;rw[isT,h.1,h.2.1,h.2.2,decide_eq_true h3,decide_eq_true h4,Cu,h5,decide_eq_true h6,KE,h7,decide_eq_true h8];rfl
theorem isr_a {T:Tp} (h:(BA T.R&&(decide (1<=T.R.length)&&decide (T.R.length<=6)))=false):isT T=false:=by
 rw[isT];cases h1:BA T.R
 ·simp
 ·rw[h1,Bool.true_and] at h
  rw[h];rfl
theorem JE {α:Type} {l:List α} {i:Nat} (hi:i<l.length) (h:∀k (hk:k<i),l[k]'(by omega)≠l[i]):l[i]∉l.take i:=by
 intro hm;obtain⟨k,hk,e⟩:=List.getElem_of_mem hm;simp only[List.length_take] at hk;rw[List.getElem_take] at e;exact h k (by omega) e
theorem aA {K:List Pr} {i:Nat} (hi:i<K.length) (h:(K.take i).Nodup) (hn:∀q,q<i->kl K q≠kl K i):(K.take (i+1)).Nodup:=by
 rw[Dl hi];refine⟨h,JE hi fun k hk e=>hn k hk ?_⟩;rw[Ga hi,Ga (by omega)];exact e
theorem aB {P:List Pa} {i:Nat} (hi:i<P.length) (h:((DY P).take i).Nodup) (hn:∀q,q<i->¬((al P q).f=(al P i).f/\(al P q).t=(al P i).t)):((DY P).take (i+1)).Nodup:=by
 have hi':i<(DY P).length:=by rw[BB];exact hi
 rw[Dl hi'];refine⟨h,JE hi' fun k hk e=>hn k hk ?_⟩;rw[Li hi,Li (by omega)] at e;exact Prod.mk.inj e
theorem Vs (T:Tp) (v:Value) (B:Nat) (w:World) (hs:Sm T) (hv:TpV w B v T) (hB:B<=w.heap.size) :
  Calls Tryz.prog 51 #[v] w fun e w'=>e=.returned (.bool (isT T))/\Below w.heap.size w w':=by
 have hv':=hv;obtain⟨v1,v2,v3,rfl,⟨A1,d1,rfl,hc1,r1⟩,⟨A2,d2,rfl,hc2,r2⟩,⟨A3,d3,rfl,hc3,r3⟩⟩:=hv';obtain⟨N,eN⟩:=Ak (w.heap.size);have hb:=(Below.refl w.heap.size w).alloc Ag (.cells #[.slice A1 T.R.length d1,.slice A2 T.K.length d2,.slice A3 T.P.length d3] 74);have HB:=I hb;have HK:=I (Blk.new w 74 #[.slice A1 T.R.length d1,.slice A2 T.K.length d2,.slice A3 T.P.length d3]);have c1:=NI T.R A1 d1 B _ (by have:=hs.r;omega) hc1 (r1.below (hb.mono hB)) (Nat.le_trans hB hb.size) (fun i hi=>by have:=hs.rt _ (JO hi);omega);have KB:=I (fun w1 (h:Below N w w1)=>r2.below (h.mono (by omega)));have AB:=I (fun w1 (h:Below N w w1)=>r3.below (h.mono (by omega)));have PL:=I (fun x w1 (h:Below N w w1)=>Ed T.R A1 d1 B x w1 (by have:=hs.r;omega) (r1.below (h.mono (by omega))));have RP:=I (fun(i:Nat) (hi:i<T.P.length) u w1 (h:Below N w w1) (hu:PaV w1 B u (al T.P i))=>TA (al T.P i) T _ u B w1 hs (hs.v _ (VK hi)) (hv.below (h.mono (by omega))) hu (Nat.le_trans hB (by have:=h.size;omega)));rw[<-eN] at HB;have EN0:=I eN;have hBN:=I (show B<=N by omega);rw[<-eN];have HSZ:=I (show ∀w1:World,Below N w w1->N<=w1.heap.size from fun w1 h=>by have:=h.size;have:=EN0.o;omega);have s2:=hs.k;have s3:=hs.p;have IA:=I (@isr_a T);have IK:=I (fun i=>@isr_k T i);have IK2:=I (fun i k=>@ay T i k);have IP:=I (fun i=>@isr_p T i);have IP2:=I (fun i k=>@az T i k);have IY:=I (@Yo T);have IC:=I (@YJ T);have ID:=I (@YK T);obtain⟨Q,eQ⟩:=Ak ((BA T.R&&(decide (1<=T.R.length)&&decide (T.R.length<=6))));rw[<-eQ] at c1 IA IY;obtain⟨n,en⟩:=Ak (T.R.length);obtain⟨m,em⟩:=Ak (T.K.length);obtain⟨k,ek⟩:=Ak (T.P.length);clear hb hv;rw[<-en,<-em,<-ek] at HK HB c1 RP;rw[<-en] at PL;rw[<-em] at s2 IC IY;rw[<-ek] at s3 ID IY;rw[<-en,<-em,<-ek];have EM:=I em;have EK:=I ek;clear en em ek eQ eN hs r1 r2 r3 hc1 hc2 hc3 hB;cases Q with
 |false=>
  have E:=I (IA.o rfl);go_enter Tryz.func51,Tryz.ntmps51
  go_wp2_with (go_at_call 98;refine Aj c1 ?_;rintro w1 hb;clear c1;replace HB:=I (HB.o.trans (hb.mono (HSZ.o _ HB.o)));clear hb)
  go_ret;exact⟨by rw[E.o];rfl,HB.o⟩
 |true=>
  by_cases q1:m<=20
  ·have t1:decide (20<(m:Int))=false:=by simp;omega
   by_cases q2:k<=8
   ·have t2:decide (8<(k:Int))=false:=by simp;omega
    have IY2:=I (IY.o rfl q1 q2);go_enter Tryz.func51,Tryz.ntmps51
    go_wp2_with (go_at_call 98;refine Aj c1 ?_;rintro w1 hb;clear c1;replace HK:=I (HK.o.below hb);replace HB:=I (HB.o.trans (hb.mono (HSZ.o _ HB.o)));clear hb;have k0:=HK.o.cell 0;have k1:=HK.o.cell 1;have k2:=HK.o.cell 2;simp only[List.getElem?_toArray,List.getElem?_cons_zero,List.getElem?_cons_succ] at k0 k1 k2)
    clear IA IC ID IY;obtain⟨W1,eW1⟩:=Ak (w1);rw[<-eW1] at HK HB k0 k1 k2⊢;clear eW1
    go_loopw [3] (fun iv wr=>∃i:Nat,i<=m/\iv=.int .i64 (i:Int)/\(T.K.take i).all (CJ T.R)=true/\(T.K.take i).Nodup/\Below W1.heap.size W1 wr) (fun iv _=>m - (intOf iv).toNat)
    case atStart=>exact⟨0,Nat.zero_le _,rfl,by simp,by simp,Below.refl _ _⟩
    case round=>
     obtain⟨i,hi,rfl,hn,hnd,hbw⟩:=hrel;have HN:=I hn;clear hn;have HND:=I hnd;clear hnd;have HBW:=I hbw;clear hbw;have HBN:=I (HB.o.trans (HBW.o.mono (HSZ.o _ HB.o)));clear k0 k1 k2;have HKr:=I (HK.o.below HBW.o);have k0:=HKr.o.cell 0;have k1:=HKr.o.cell 1;have k2:=HKr.o.cell 2;simp only[List.getElem?_toArray,List.getElem?_cons_zero,List.getElem?_cons_succ] at k0 k1 k2
     by_cases hlt:i<m
     ·have e1:(i:Int)<(m:Int):=by omega
      have e2:(0:Int)<=(i:Int):=by omega
      have him:i<T.K.length:=by rw[<-EM.o];exact hlt
      have hal:=all_succ (p:=CJ T.R) him;rw[HN.o,Bool.true_and,<-Ga him] at hal;have hnd:=aA him HND.o;have ik:=IK.o i him;have IK3:=I (fun q=>IK2.o i q him);obtain⟨b,o,eA,_,h1,h2⟩:=Lx (KB.o _ HBN.o) him;have KBB:=I (fun w1 (h:Below N w w1) j (hj:j<i)=>Lx (KB.o w1 h) (Nat.lt_trans hj him));subst eA;obtain⟨x,ex⟩:=Ak (kl T.K i);rw[<-ex] at hnd;rw[<-ex] at hal ik h1 h2 IK3;have HALL:=I hal;have HNS:=I hnd;have IKI:=I ik;have C3:=I (PL.o x.1);have C4:=I (PL.o x.2);clear ex him hal hnd ik;have HA:=I (Blk.new wr 138 #[.string ⟨x.1.toArray⟩,.string ⟨x.2.toArray⟩]);have HAB:=I ((Below.refl wr.heap.size wr).alloc Ag (.cells #[.string ⟨x.1.toArray⟩,.string ⟨x.2.toArray⟩] 138));have H2:=I (HBN.o.trans (HAB.o.mono (HSZ.o _ HBN.o)));have H3:=I (HBW.o.trans (HAB.o.mono HBW.o.size));have HKA:=HKr.o.below HAB.o;have ka:=HKA.cell 0;simp only[List.getElem?_toArray,List.getElem?_cons_zero] at ka;clear HKA
      by_cases g1:x.1∈T.R
      ·obtain⟨z1,ez1,hz1⟩:=Di g1
       rw[<-ez1] at C3;have s4:decide (z1<0)=false:=decide_eq_false (by omega)
       by_cases g2:x.2∈T.R
       ·obtain⟨z2,ez2,hz2⟩:=Di g2
        rw[<-ez2] at C4;have s5:decide (z2<0)=false:=decide_eq_false (by omega)
        by_cases g3:x.1=x.2
        ·have t3:(x.1==x.2)=true:=by simpa using g3
         have E:=I (IKI.o (by rw[CJ,decide_eq_false (fun h=>h g3)];rfl));clear g1 g2 g3 ez1 ez2 hz1 hz2
         go_wp2_with (first
         |(go_at_call 52;with_reducible refine Aj (C3.o _ H2.o) ?_;rintro w9 rfl;clear C3)
         |(go_at_call 52;with_reducible refine Aj (C4.o _ H2.o) ?_;rintro w9 rfl;clear C4))
         go_ret;exact⟨by rw[E.o];rfl,H2.o⟩
        ·have t3:(x.1==x.2)=false:=by simpa using g3
         have E:=I (HALL.o.trans (show CJ T.R x=true by rw[CJ,decide_eq_true g1,decide_eq_true g2,decide_eq_true g3];rfl));clear g1 g2 g3 ez1 ez2 hz1 hz2
         go_wp2_with (first
         |(go_at_call 52;with_reducible refine Aj (C3.o _ H2.o) ?_;rintro w9 rfl;clear C3)
         |(go_at_call 52;with_reducible refine Aj (C4.o _ H2.o) ?_;rintro w9 rfl;clear C4))
         obtain⟨W2,eW2⟩:=Ak (wr.alloc (.cells #[.string ⟨x.1.toArray⟩,.string ⟨x.2.toArray⟩] 138));rw[<-eW2] at HA HAB H2 H3⊢;clear eW2;have HKw:=I (HKr.o.below HAB.o);obtain⟨W0,eW0⟩:=Ak (wr);rw[<-eW0] at HA⊢;clear eW0;clear k0 k1 k2 ka h1 h2
         go_loopw [5] (fun jv wq=>∃j:Nat,j<=i/\jv=.int .i64 (j:Int)/\(∀q,q<j->kl T.K q≠x)/\AS W2 wq) (fun jv _=>i - (intOf jv).toNat)
         case atStart=>exact⟨0,Nat.zero_le _,rfl,fun q hq=>absurd hq (Nat.not_lt_zero q),AS.refl _⟩
         case round=>
          obtain⟨j,hj,rfl,hnq,hd⟩:=hrel;have HNQ:=I hnq;clear hnq;have k0:wr.cell? ⟨w.heap.size,0,none⟩=some (.slice A1 n d1):=by obtain⟨q,rfl⟩:=hd;exact HKw.o.cell 0
          have k1:wr.cell? ⟨w.heap.size,1,none⟩=some (.slice (some ⟨b,o,none⟩) m d2):=by obtain⟨q,rfl⟩:=hd;exact HKw.o.cell 1
          have y0:wr.cell? ⟨W0.heap.size,0,none⟩=some (.string ⟨x.1.toArray⟩):=by obtain⟨q,rfl⟩:=hd;exact HA.o.cell 0
          have y1:wr.cell? ⟨W0.heap.size,1,none⟩=some (.string ⟨x.2.toArray⟩):=by obtain⟨q,rfl⟩:=hd;exact HA.o.cell 1
          have HDB:=I (H2.o.trans (hd.below.mono (HSZ.o _ H2.o)));have HDB3:=I (H3.o.trans (hd.below.mono H3.o.size));have HDR:=I hd;clear hd
          by_cases hlj:j<i
          ·have f1:(j:Int)<(i:Int):=by omega
           have f2:(0:Int)<=(j:Int):=by omega
           have f3:(j:Int)<(m:Int):=by omega
           obtain⟨b',o',eA,_,h1,h2⟩:=KBB.o _ HDB.o j hlj;injection eA with eA;injection eA with eb eo;subst eb;subst eo
           by_cases hx:kl T.K j=x
           ·have t4:=Rc (kl T.K j) x hx
            have E2:=I (IK3.o j hlj hx);clear hx
            go_wp2
            go_quiet (fail)
            go_wp2
            go_ret;exact⟨by rw[E2.o];rfl,below_drewN HDB.o _⟩
           ·have t4:=VL (kl T.K j) x hx
            have HX:=I hx;clear hx
            go_wp2
            go_quiet (fail)
            go_wp2
            go_roundw
            case rel=>exact⟨j+1,by omega,by go_num,fun q hq=>by
             by_cases e:q=j
             ·rw[e];exact HX.o
             ·exact HNQ.o q (by omega),HDR.o.trans ⟨_,rfl⟩⟩
            case measure=>simp [intOf];omega
          ·have f1:¬(j:Int)<(i:Int):=by omega
           have E2:=I (HNS.o fun q hq=>HNQ.o q (by omega))
           go_wp2
           go_roundw
           case rel=>exact⟨i+1,by omega,by go_num,E.o,E2.o,HDB3.o⟩
           case measure=>simp [intOf];omega
       ·obtain⟨z2,ez2,hz2⟩:=Dw g2
        rw[<-ez2] at C4;have s5:decide (z2<0)=true:=decide_eq_true hz2;have E:=I (IKI.o (by rw[CJ,decide_eq_false g2];simp));clear g1 g2 ez1 ez2 hz1 hz2
        go_wp2_with (first
         |(go_at_call 52;with_reducible refine Aj (C3.o _ H2.o) ?_;rintro w9 rfl;clear C3)
         |(go_at_call 52;with_reducible refine Aj (C4.o _ H2.o) ?_;rintro w9 rfl;clear C4))
        go_ret;exact⟨by rw[E.o];rfl,H2.o⟩
      ·obtain⟨z1,ez1,hz1⟩:=Dw g1
       rw[<-ez1] at C3;have s4:decide (z1<0)=true:=decide_eq_true hz1;have E:=I (IKI.o (by rw[CJ,decide_eq_false g1];simp));clear g1 ez1 hz1
       go_wp2_with (go_at_call 52;with_reducible refine Aj (C3.o _ H2.o) ?_;rintro w9 rfl;clear C3)
       go_ret;exact⟨by rw[E.o];rfl,H2.o⟩
     ·have e1:¬(i:Int)<(m:Int):=by omega
      have hiP:T.K.length<=i:=by have:=EM.o;omega
      have IY3:=I (IY2.o (Dg hiP HN.o) (by have h:=HND.o;rwa [List.take_of_length_le hiP] at h));clear IY2 HN HND IK IK2 hiP
      go_wp2
      obtain⟨W3,eW3⟩:=Ak (wr);rw[<-eW3] at HKr HBN⊢;clear eW3 k0 k1 k2 HK HB HBW KB hi hlt e1
      go_loopw [6] (fun iv wr=>∃i:Nat,i<=k/\iv=.int .i64 (i:Int)/\(T.P.take i).all (Ev T.R)=true/\((DY T.P).take i).Nodup/\Below W3.heap.size W3 wr) (fun iv _=>k - (intOf iv).toNat)
      case atStart=>exact⟨0,Nat.zero_le _,rfl,by simp,by simp,Below.refl _ _⟩
      case round=>
       have HK:=HKr;have HB:=HBN;clear HKr HBN;obtain⟨i,hi,rfl,hn,hnd,hbw⟩:=hrel;have HN:=I hn;clear hn;have HND:=I hnd;clear hnd;have HBW:=I hbw;clear hbw;have HBN:=I (HB.o.trans (HBW.o.mono (HSZ.o _ HB.o)));have HKr:=I (HK.o.below HBW.o);have k0:=HKr.o.cell 0;have k1:=HKr.o.cell 1;have k2:=HKr.o.cell 2;simp only[List.getElem?_toArray,List.getElem?_cons_zero,List.getElem?_cons_succ] at k0 k1 k2
       by_cases hlt:i<k
       ·have e1:(i:Int)<(k:Int):=by omega
        have e2:(0:Int)<=(i:Int):=by omega
        have him:i<T.P.length:=by rw[<-EK.o];exact hlt
        have hal:=all_succ (p:=Ev T.R) him;rw[HN.o,Bool.true_and,<-MQ him] at hal;have hnd:=aB him HND.o;have ik:=IP.o i him;have IK3:=I (fun q=>IP2.o i q him);obtain⟨b,o,eA,hbB,h1,h2,u,h3,h4⟩:=Ra (AB.o _ HBN.o) him;have KBB:=I (fun w1 (h:Below N w w1) j (hj:j<i)=>Ra (AB.o w1 h) (Nat.lt_trans hj him));have RPI:=I (RP.o i hlt);subst eA;obtain⟨x,ex⟩:=Ak (al T.P i);rw[<-ex] at hnd hal ik IK3 h1 h2 h4 RPI;have HALL:=I hal;have HNS:=I hnd;have IKI:=I ik;have h4':=h4;obtain⟨A5,d5,eu,_⟩:=h4';subst eu;obtain⟨k5,ek5⟩:∃k,k=x.v.length:=⟨_,rfl⟩;rw[<-ek5] at h3 h4;have c5:=RPI.o _ wr.drew (below_drewN HBN.o 1) ⟨_,rfl,h4.below (B:=B) (w':=wr.drew) (below_drewN (Below.refl B wr) 1)⟩;have HBB:=I (show b<wr.heap.size from Nat.lt_of_lt_of_le hbB (Nat.le_trans hBN.o (HSZ.o _ HBN.o)));have HP0:=I (show wr.drew.cell? ⟨b,o+i*3,none⟩=_ from h1);have HP1:=I (show wr.drew.cell? ⟨b,o+i*3+1,none⟩=_ from h2);have HP2:=I (show wr.drew.cell? ⟨b,o+i*3+2,none⟩=_ from h3);have HX2:=I (show x.f=(al T.P i).f/\x.t=(al T.P i).t from by rw[ex];exact⟨rfl,rfl⟩);clear ex him hal hnd ik h1 h2 h3 h4 ek5 hbB;cases hpx:Ev T.R x with
        |false=>
         rw[hpx] at c5;have E:=I (IKI.o hpx);clear hpx
         go_wp2
         clear k0 k1 k2;replace HKr:=I (HKr.o.drewN 1);replace HBN:=I (below_drewN HBN.o 1);replace HBW:=I (below_drewN HBW.o 1)
         go_region_held3 (fun w'=>w'.cell? ⟨w.heap.size,0,none⟩=some (.slice A1 n d1)/\w'.cell? ⟨w.heap.size,1,none⟩=some (.slice A2 m d2)/\w'.cell? ⟨w.heap.size,2,none⟩=some (.slice (some ⟨b,o,none⟩) k d3)/\w'.cell? ⟨b,o+i*3,none⟩=some (.string ⟨x.f.toArray⟩)/\w'.cell? ⟨b,o+i*3+1,none⟩=some (.string ⟨x.t.toArray⟩)/\w'.cell? ⟨b,o+i*3+2,none⟩=some (.slice A5 k5 d5)) (exact⟨HKr.o.cell 0,HKr.o.cell 1,HKr.o.cell 2,HP0.o,HP1.o,HP2.o⟩) ((go_at_call 99;refine Aj c5 ?_;rintro w9 hb;clear c5;replace HKr:=I (HKr.o.below hb);replace HP0:=I ((hb.cell HBB.o).trans HP0.o);replace HP1:=I ((hb.cell HBB.o).trans HP1.o);replace HP2:=I ((hb.cell HBB.o).trans HP2.o);replace HBN:=I (HBN.o.trans (hb.mono (HSZ.o _ HBN.o)));replace HBW:=HBW.t hb;clear hb))
         go_wp2
         go_ret;exact⟨by rw[E.o];rfl,HBN.o⟩
        |true=>
         rw[hpx] at c5;have E:=I (HALL.o.trans hpx);clear hpx
         go_wp2
         clear k0 k1 k2;replace HKr:=I (HKr.o.drewN 1);replace HBN:=I (below_drewN HBN.o 1);replace HBW:=I (below_drewN HBW.o 1)
         go_region_held3 (fun w'=>w'.cell? ⟨w.heap.size,0,none⟩=some (.slice A1 n d1)/\w'.cell? ⟨w.heap.size,1,none⟩=some (.slice A2 m d2)/\w'.cell? ⟨w.heap.size,2,none⟩=some (.slice (some ⟨b,o,none⟩) k d3)/\w'.cell? ⟨b,o+i*3,none⟩=some (.string ⟨x.f.toArray⟩)/\w'.cell? ⟨b,o+i*3+1,none⟩=some (.string ⟨x.t.toArray⟩)/\w'.cell? ⟨b,o+i*3+2,none⟩=some (.slice A5 k5 d5)) (exact⟨HKr.o.cell 0,HKr.o.cell 1,HKr.o.cell 2,HP0.o,HP1.o,HP2.o⟩) ((go_at_call 99;refine Aj c5 ?_;rintro w9 hb;clear c5;replace HKr:=I (HKr.o.below hb);replace HP0:=I ((hb.cell HBB.o).trans HP0.o);replace HP1:=I ((hb.cell HBB.o).trans HP1.o);replace HP2:=I ((hb.cell HBB.o).trans HP2.o);replace HBN:=I (HBN.o.trans (hb.mono (HSZ.o _ HBN.o)));replace HBW:=HBW.t hb;clear hb))
         go_wp2
         obtain⟨W4,eW4⟩:=Ak (w9);rw[<-eW4] at HKr HBN HBW HP0 HP1 HP2⊢;clear eW4;have hik:(i:Int)<(k:Int):=e1
         go_loopw [7] (fun jv wq=>∃j:Nat,j<=i/\jv=.int .i64 (j:Int)/\(∀q,q<j->¬((al T.P q).f=x.f/\(al T.P q).t=x.t))/\AS W4 wq) (fun jv _=>i - (intOf jv).toNat)
         case atStart=>exact⟨0,Nat.zero_le _,rfl,fun q hq=>absurd hq (Nat.not_lt_zero q),AS.refl _⟩
         case round=>
          obtain⟨j,hj,rfl,hnq,hd⟩:=hrel;have HNQ:=I hnq;clear hnq;have k0:wr.cell? ⟨w.heap.size,0,none⟩=some (.slice A1 n d1):=by obtain⟨q,rfl⟩:=hd;exact HKr.o.cell 0
          have k2:wr.cell? ⟨w.heap.size,2,none⟩=some (.slice (some ⟨b,o,none⟩) k d3):=by obtain⟨q,rfl⟩:=hd;exact HKr.o.cell 2
          have x0:wr.cell? ⟨b,o+i*3,none⟩=some (.string ⟨x.f.toArray⟩):=by obtain⟨q,rfl⟩:=hd;exact HP0.o
          have x1:wr.cell? ⟨b,o+i*3+1,none⟩=some (.string ⟨x.t.toArray⟩):=by obtain⟨q,rfl⟩:=hd;exact HP1.o
          have HDB:=I (HBN.o.trans (hd.below.mono (HSZ.o _ HBN.o)));have HDB3:=I (HBW.o.trans (hd.below.mono HBW.o.size));have HDR:=I hd;clear hd
          by_cases hlj:j<i
          ·have f1:(j:Int)<(i:Int):=by omega
           have f2:(0:Int)<=(j:Int):=by omega
           have f3:(j:Int)<(k:Int):=by omega
           obtain⟨b',o',eA,_,h1,h2,u9,h3,h4⟩:=KBB.o _ HDB.o j hlj;injection eA with eA;injection eA with eb eo;subst eb;subst eo;clear h3 h4
           by_cases g1:(al T.P j).f=x.f
           ·have t3:((al T.P j).f==x.f)=true:=by simpa using g1
            by_cases g2:(al T.P j).t=x.t
            ·have t4:((al T.P j).t==x.t)=true:=by simpa using g2
             have E2:=I (IK3.o j hlj g1 g2);clear g1 g2
             go_wp2
             go_quiet (fail)
             go_wp2
             go_ret;exact⟨by rw[E2.o];rfl,below_drewN HDB.o _⟩
            ·have t4:((al T.P j).t==x.t)=false:=by simpa using g2
             have HX:=I (show ¬((al T.P j).f=x.f/\(al T.P j).t=x.t) from fun h=>g2 h.2);clear g1 g2
             go_wp2
             go_quiet (fail)
             go_wp2
             go_roundw
             case rel=>exact⟨j+1,by omega,by go_num,fun q hq=>by
              by_cases e:q=j
              ·rw[e];exact HX.o
              ·exact HNQ.o q (by omega),HDR.o.trans ⟨_,rfl⟩⟩
             case measure=>simp [intOf];omega
           ·have t3:((al T.P j).f==x.f)=false:=by simpa using g1
            have HX:=I (show ¬((al T.P j).f=x.f/\(al T.P j).t=x.t) from fun h=>g1 h.1);clear g1
            go_wp2
            go_quiet (fail)
            go_wp2
            go_roundw
            case rel=>exact⟨j+1,by omega,by go_num,fun q hq=>by
             by_cases e:q=j
             ·rw[e];exact HX.o
             ·exact HNQ.o q (by omega),HDR.o.trans ⟨_,rfl⟩⟩
            case measure=>simp [intOf];omega
          ·have f1:¬(j:Int)<(i:Int):=by omega
           have E2:=I (HNS.o fun q hq=>HNQ.o q (by omega))
           go_wp2
           go_roundw
           case rel=>exact⟨i+1,by omega,by go_num,E.o,E2.o,HDB3.o⟩
           case measure=>simp [intOf];omega
       ·have e1:¬(i:Int)<(k:Int):=by omega
        have hiP:T.P.length<=i:=by have:=EK.o;omega
        have E:=I (IY3.o (Dg hiP HN.o) (by have h:=HND.o;rwa [List.take_of_length_le (by rw[BB];exact hiP)] at h));clear hiP
        go_wp2
        go_ret;exact⟨by rw[E.o];rfl,HBN.o⟩
   ·have t2:decide (8<(k:Int))=true:=by simp;omega
    have E:=I (ID.o q2);clear q1 q2;go_enter Tryz.func51,Tryz.ntmps51
    go_wp2_with (go_at_call 98;refine Aj c1 ?_;rintro w1 hb;clear c1;replace HK:=I (HK.o.below hb);replace HB:=I (HB.o.trans (hb.mono (HSZ.o _ HB.o)));clear hb;have k0:=HK.o.cell 0;have k1:=HK.o.cell 1;have k2:=HK.o.cell 2;simp only[List.getElem?_toArray,List.getElem?_cons_zero,List.getElem?_cons_succ] at k0 k1 k2)
    go_ret;exact⟨by rw[E.o];rfl,HB.o⟩
  ·have t1:decide (20<(m:Int))=true:=by simp;omega
   have E:=I (IC.o q1);clear q1;go_enter Tryz.func51,Tryz.ntmps51
   go_wp2_with (go_at_call 98;refine Aj c1 ?_;rintro w1 hb;clear c1;replace HK:=I (HK.o.below hb);replace HB:=I (HB.o.trans (hb.mono (HSZ.o _ HB.o)));clear hb;have k0:=HK.o.cell 0;have k1:=HK.o.cell 1;have k2:=HK.o.cell 2;simp only[List.getElem?_toArray,List.getElem?_cons_zero,List.getElem?_cons_succ] at k0 k1 k2)
   go_ret;exact⟨by rw[E.o];rfl,HB.o⟩
end Rt
end Go.Proofs.YtlchkbpffaclmaaGreat
