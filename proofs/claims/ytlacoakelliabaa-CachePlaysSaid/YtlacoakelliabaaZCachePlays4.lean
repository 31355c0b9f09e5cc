import Derived.StillTailTactics
import Derived.Deep.CutBlock
import Derived.Deep.RegionHeld3
import Derived.Test.YtlacoakelliabaaProg
import Derived.Deep.LoopGhost
import Derived.Test.YtlacoakelliabaaZCachePlays1
import Derived.Test.YtlacoakelliabaaZCachePlays2
import Derived.Test.YtlacoakelliabaaZCachePlays3
section
set_option linter.unusedVariables false
set_option linter.unusedSimpArgs false
namespace Go.Proofs.Ytlacoakelliabaa.Ca
open Go.RowKit Go.Proofs.Ytlacoakelliabaa.Mem Go.Proofs.Ytlacoakelliabaa.Se
open Go.Proofs.Ytlacoakelliabaa.Nm (L)
open Go.Proofs.Ytlacoakelliabaa.Rg (Pr prV pr_info RdR own_rdr own_chg chg_row)
theorem its_rest (p:Pr) (t:Int) (es:List En):its (restE p t es)=rest (its es) p t:=by
 unfold its restE rest
 rw[List.filter_map]
 rfl
section
variable {w0 W w2 w5 w6:World} {B r:Nat} {v v1 v6:Value} {es es1:List En} {p:Pr} {t:Int} {e:En}
theorem ca_rest (h:Ca W B r v es) (hg:W.grownBy w2 v.ownBlock) (ho:w2.ownsRow B 60 39 v1 (restE p t es).length ((restE p t es).flatMap enC)) (hv:v1.ownBlock=v.ownBlock) :
  Ca (w2.setCell ⟨r,0,none⟩ v1) B r v1 (restE p t es)∧Chg (PT r v) W (w2.setCell ⟨r,0,none⟩ v1)∧(∀q,CO r v1 (restE p t es) q→CO r v es q):=by
 have hset:Chg (fun q=>q=r) w2 (w2.setCell ⟨r,0,none⟩ v1):=Chg.set (p:=⟨r,0,none⟩) (Chg.refl (fun q=>q=r) w2) (.inl rfl) v1
 have hc:Chg (PT r v) W (w2.setCell ⟨r,0,none⟩ v1):=((chg_row hg).mono (fun q _ x=>.inr x)).trans hset (fun q _ x=>.inl x)
 have hvr:v1.ownBlock≠some r:=by rw[hv];exact h.vr
 have hsub:∀y,y∈restE p t es→y∈es:=fun y hy=>(List.mem_filter.1 hy).1
 refine⟨⟨(h.blk.grown hg h.vr).set 0 v1,own_chg hset ho (fun k hk x=>hvr (x▸hk)),h.lo,hvr,fun y hy=>?_,fun y hy a ha=>?_⟩,hc,fun q hq=>?_⟩
 ·have q:=h.off y (hsub y hy)
  exact rd_chg (h.rd y (hsub y hy)) hc (fun a ha x=>by
   have q2:=q a ha
   rcases x with x | x
   ·exact q2.2.1 x
   ·exact q2.2.2.1 x)
 ·have q:=h.off y (hsub y hy) a ha
  exact⟨q.1,q.2.1,by rw[hv];exact q.2.2.1,Nat.lt_of_lt_of_le q.2.2.2 hc.size⟩
 ·rcases hq with hq | hq | ⟨y,hy,a,ha,hq⟩
  ·exact .inl hq
  ·exact .inr (.inl (hv▸hq))
  ·exact .inr (.inr ⟨y,hsub y hy,a,ha,hq⟩)
theorem ca_put (h:Ca w0 B r v es1) (hb:Below w0.heap.size w0 w5) (h5:Ca w5 B r v es1) (hn:Own1 w0 w5 e.A (bvs e.x.b)) (ho:w6.ownsRow B 60 39 v6 (es1++[e]).length ((es1++[e]).flatMap enC)) (hg:w5.grownBy w6 v.ownBlock) (hv:v6.ownBlock=v.ownBlock∨v6.ownBlock=some w5.heap.size) :
  Ca (w6.setCell ⟨r,0,none⟩ v6) B r v6 (es1++[e])∧Chg (PT r v) w0 (w6.setCell ⟨r,0,none⟩ v6)∧(∀q,CO r v6 (es1++[e]) q→CO r v es1 q∨w0.heap.size≤q):=by
 have hset:Chg (fun q=>q=r) w6 (w6.setCell ⟨r,0,none⟩ v6):=Chg.set (p:=⟨r,0,none⟩) (Chg.refl (fun q=>q=r) w6) (.inl rfl) v6
 have hc5:Chg (PT r v) w5 (w6.setCell ⟨r,0,none⟩ v6):=((chg_row hg).mono (fun q _ x=>.inr x)).trans hset (fun q _ x=>.inl x)
 have hc:Chg (PT r v) w0 (w6.setCell ⟨r,0,none⟩ v6):=(Chg.of_below hb).trans hc5 (fun q _ x=>x)
 have hrl:=h.lt
 have hvr:v6.ownBlock≠some r:=fun x=>by
  rcases hv with g | g
  ·rw[g] at x;exact h.vr x
  ·rw[g] at x;injection x with x;have:=hb.size;omega
 have hnot:∀a,e.A=some a→¬PT r v a.block:=fun a ha x=>by
  have q:=hn.2 a ha
  rcases x with x | x
  ·omega
  ·have:=(World.ownsRow.lt h.row _ x).2;omega
 have hmem:∀y,y∈es1++[e]→y∈es1∨y=e:=fun y hy=>by simpa using hy
 refine⟨⟨(h5.blk.grown hg h5.vr).set 0 v6,own_chg hset ho (fun k hk x=>hvr (x▸hk)),h.lo,hvr,fun y hy=>?_,fun y hy a ha=>?_⟩,hc,fun q hq=>?_⟩
 ·rcases hmem y hy with hy | rfl
  ·exact rd_chg (h5.rd y hy) hc5 (fun a ha x=>by
    have q2:=h5.off y hy a ha
    rcases x with x | x
    ·exact q2.2.1 x
    ·exact q2.2.2.1 x)
  ·exact rd_chg hn.1 hc5 hnot
 ·rcases hmem y hy with hy | rfl
  ·have q:=h5.off y hy a ha
   refine⟨q.1,q.2.1,fun x=>?_,Nat.lt_of_lt_of_le q.2.2.2 hc5.size⟩
   rcases hv with g | g
   ·rw[g] at x;exact q.2.2.1 x
   ·rw[g] at x;injection x with x;omega
  ·have q:=hn.2 a ha
   refine⟨Nat.le_trans h.big q.1,by omega,fun x=>?_,Nat.lt_of_lt_of_le q.2 hc5.size⟩
   rcases hv with g | g
   ·rw[g] at x;have:=(World.ownsRow.lt h.row _ x).2;omega
   ·rw[g] at x;injection x with x;omega
 ·rcases hq with hq | hq | ⟨y,hy,a,ha,hq⟩
  ·exact .inl (.inl hq)
  ·rcases hv with g | g
   ·exact .inl (.inr (.inl (g▸hq)))
   ·rw[g] at hq;injection hq with hq;have:=hb.size;exact .inr (by omega)
  ·rcases hmem y hy with hy | rfl
   ·exact .inl (.inr (.inr ⟨y,hy,a,ha,hq⟩))
   ·exact .inr (hq▸(hn.2 a ha).1)
end
theorem built_en (p:Pr) (x:Cr) (A:Option Addr) (c:Nat):Try.prog.built 60 [(0,prV p),(1,.agg (crA x A c))]=some (enA ⟨p,x,A,c⟩):=by
 kernel_rfl
theorem put_begin (B r:Nat) (v:Value) (es:List En) (p:Pr) (xs:Array Value) (t:Int) (w W:World) (h:Ca w B r v es) (eW:W=((w.alloc (.cells #[.string ⟨p.1.toArray⟩,.string ⟨p.2.toArray⟩] 31)).alloc (.cells xs 38)).alloc (.cells #[.int .i64 t] 3)) :
  Below w.heap.size w W∧Ca W B r v es∧Blk W w.heap.size 31 #[.string ⟨p.1.toArray⟩,.string ⟨p.2.toArray⟩]∧Blk W (w.heap.size+1) 38 xs∧W.cell? ⟨w.heap.size+2,0,none⟩=some (.int .i64 t)∧(∀k,w.heap.size≤k→v.ownBlock≠some k)∧(∀k,w.heap.size≤k→k≠r):=by
 have hb:Below w.heap.size w W:=eW▸(((Below.refl _ _).alloc (Nat.le_refl _) _).alloc (by simp) _).alloc (by simp;omega) _
 refine⟨hb,h.below hb,eW▸((Blk.new w _ _).alloc _).alloc _,?_,?_,fun k hk x=>?_,fun k hk x=>?_⟩
 ·have:=Blk.new (w.alloc (.cells #[.string ⟨p.1.toArray⟩,.string ⟨p.2.toArray⟩] 31)) 38 xs
  simp only[World.size_alloc] at this
  exact eW▸this.alloc _
 ·have:=Blk.new ((w.alloc (.cells #[.string ⟨p.1.toArray⟩,.string ⟨p.2.toArray⟩] 31)).alloc (.cells xs 38)) 3 #[.int .i64 t]
  simp only[World.size_alloc] at this
  rw[eW]
  exact this.cell 0
 ·have:=(World.ownsRow.lt h.row _ x).2;omega
 ·have:=h.lt;omega
set_option maxRecDepth 100000 in
set_option maxHeartbeats 3200000 in
theorem put_ok (B r:Nat) (v:Value) (es:List En) (p:Pr) (x:Cr) (A:Option Addr) (c:Nat) (t:Int) (w:World) (h:Ca w B r v es) (hxp:∀w',Chg (PT r v) w w'→Rd w' w'.heap.size A (bvs x.b)) (h1:p.1.length≤140737488351232) (h2:p.2.length≤140737488351232) (h3:x.s.1.length≤140737488351232) (h4:x.s.2.length≤140737488351232) (h5:x.b.length≤100000000000)
  (hl:es.length≤1000) (hlt:(restE p t es).length<10) :
  Calls Try.prog 11 #[.pointer (some ⟨r,0,none⟩),prV p,.agg (crA x A c),.int .i64 t] w fun e w'=>e = .returned (.int .i64 0)∧∃v' A' c',Ca w' B r v' (restE p t es++[⟨p,x,A',c'⟩])∧Chg (PT r v) w w'∧(∀q,CO r v' (restE p t es++[⟨p,x,A',c'⟩]) q→CO r v es q∨w.heap.size≤q):=by
 obtain⟨A0,c0,rfl,_,_,_⟩:=h.num
 obtain⟨n,en⟩:∃n,n=es.length:=⟨_,rfl⟩
 obtain⟨v,ev⟩:∃v,v=Value.slice A0 es.length c0:=⟨_,rfl⟩
 rw[←ev] at h hxp⊢
 have EV:=Lib.hid ev
 have CP:=Lib.hid (fun w1=>clone_cp p w1 h1 h2)
 have CX:=Lib.hid (fun(w1:World) (h:Rd w1 w1.heap.size A (bvs x.b))=>ccr_any x A c w1.heap.size w1 h (Nat.le_refl _) h3 h4 h5)
 obtain⟨xs,exs⟩:∃xs,xs=crA x A c:=⟨_,rfl⟩
 rw[←exs] at CX⊢
 have HXI:=Lib.hid (show(Try.prog.info? 38).map (·.size)=some xs.size by rw[exs,crA_size];exact cr_info)
 obtain⟨W,eW⟩:∃W,W=((w.alloc (.cells #[.string ⟨p.1.toArray⟩,.string ⟨p.2.toArray⟩] 31)).alloc (.cells xs 38)).alloc (.cells #[.int .i64 t] 3):=⟨_,rfl⟩
 obtain⟨hb,hca,hp,hxx,ht,hvo,hro⟩:=put_begin B r v es p xs t w W h eW
 have CD:=delf_any es p t (w.heap.size+2) w.heap.size B v W hca.row hca.big ht hp (hvo _ (by omega)) (hvo _ (Nat.le_refl _)) hl
 have HVO:=Lib.hid hvo;have HRO:=Lib.hid hro
 obtain⟨es1,ees⟩:∃es1,es1=restE p t es:=⟨_,rfl⟩
 have EES:=Lib.hid ees
 rw[←ees] at CD hlt⊢
 have HW:=Lib.hid h;have HCW:=Lib.hid hca
 have HBW:=Lib.hid hb
 have HP0:=Lib.hid hp;have HX0:=Lib.hid hxx
 have HXP:=Lib.hid hxp
 have HL:=Lib.hid hlt
 have k0:W.cell? ⟨r,0,none⟩=some (.slice A0 n c0):=by rw[en,←ev];exact hca.blk.cell 0
 have ev2:v = .slice A0 n c0:=by rw[ev,en]
 rw[ev2] at CD
 rw[←ev2] at CD
 have HVN:=Lib.hid ev2
 obtain⟨iE,hiE,hzE,hsE,hbE⟩:=info_parts en_all
 have KI1:=Lib.hid hiE;have KI2:=Lib.hid hzE;have KI3:=Lib.hid hsE;have KI4:=Lib.hid hbE
 have SL1:=Lib.hid (fun(w1:World) (A':Option Addr) (c':Nat)=>Wh.run_build_one (P:=Try.prog) w1 55 60 (enA ⟨p,x,A',c'⟩) iE _ Try.underlying55 hiE hzE (by rw[hsE,enA_size]) (by rw[enA_size];omega) (by rw[enA_size];omega))
 rw[ev2] at CD
 clear hb hca hp hxx ht hvo hro h hxp h1 h2 h3 h4 h5 hl hlt exs en ev ev2 ees hiE hzE hsE hbE
 go_enter Try.func11,Try.ntmps11
 go_upto_region 1 with fail
 rw[←eW]
 clear eW
 go_upto_region 4 with(first
  |(go_at_call 19;refine Calls.mono CD ?_;rintro e w2 ⟨v1,rfl,ho,hg,hv⟩;obtain⟨A1,c1,rfl,_⟩:=own_rdr enC_length ho;rw[←HVN.out] at hg hv;have HG:=Lib.hid hg;have HV:=Lib.hid hv;have HO:=Lib.hid ho;clear hg hv ho CD k0;have hr2:=HCW.out.blk.grown HG.out HCW.out.vr;have f0:=hr2.frozen 0;have k0:w2.cell? ⟨r,0,none⟩=some v:=hr2.cell 0;clear hr2)
  |fail)
 obtain⟨m,em⟩:∃m,m=es1.length:=⟨_,rfl⟩
 rw[←em] at HO HV⊢
 have hq:=ca_rest (p:=p) (t:=t) HCW.out HG.out (by rw[←EES.out,←em];exact HO.out) HV.out
 rw[←EES.out] at hq
 obtain⟨hca,hcg,hnw⟩:=hq
 have HNP:=Lib.hid (show ¬((Value.slice A1 m c1).ownBlock=some w.heap.size∨(Value.slice A1 m c1).ownBlock=some (w.heap.size+1)) from fun x=>by
  rw[HV.out] at x
  rcases x with x | x
  ·exact HVO.out _ (Nat.le_refl _) x
  ·exact HVO.out _ (by omega) x)
 have HNR:=Lib.hid (show r≠w.heap.size∧r≠w.heap.size+1 from⟨fun x=>HRO.out _ (Nat.le_refl _) x.symm,fun x=>HRO.out _ (by omega) x.symm⟩)
 have hnp:∀k,w.heap.size≤k→¬PT r v k:=fun k hk x=>by
  rcases x with x | x
  ·exact HRO.out k hk x
  ·exact HVO.out k hk x
 obtain⟨W3,eW3⟩:∃W3,W3=w2.setCell ⟨r,0,none⟩ (.slice A1 m c1):=⟨_,rfl⟩
 rw[←eW3] at hca hcg
 have HP3:=Lib.hid (hcg.blk HP0.out (hnp _ (Nat.le_refl _)))
 have HX3:=Lib.hid (hcg.blk HX0.out (hnp _ (by omega)))
 have HCG:=Lib.hid ((Chg.of_below HBW.out).trans hcg (fun q _ x=>x):Chg (PT r v) w W3)
 have HR3:=Lib.hid (HXP.out W3 HCG.out)
 have HNW:=Lib.hid (fun(q:Nat) (hq:CO r (.slice A1 m c1) es1 q)=>(.inl (hnw q hq):CO r v es q∨w.heap.size≤q))
 have HWC:=Lib.hid hca
 have HV1:=Lib.hid HV.out
 have t2:decide ((10:Int)≤(m:Int))=false:=by simp;have:=HL.out;omega
 have k1:W3.cell? ⟨r,0,none⟩=some (.slice A1 m c1):=hca.blk.cell 0
 have EM:=Lib.hid em
 rw[←eW3]
 clear hca hcg hnw hnp HP0 HX0 HXP HG HV HO em eW3 f0 k0 HCW HVO HRO
 go_upto_region 6 with fail
 clear k1
 have hdr:Below W3.heap.size W3 W3.drew:=below_drewN (Below.refl _ _) 1
 have HB:=Lib.hid hdr
 have HCA:=Lib.hid (HWC.out.below hdr)
 have HP:=Lib.hid (HP3.out.below hdr)
 have HX:=Lib.hid (HX3.out.below hdr)
 have HR:=Lib.hid ((HR3.out.below hdr).more hdr.size)
 obtain⟨N,eN⟩:∃N,N=w.heap.size:=⟨_,rfl⟩
 rw[←eN] at HP HX HNP HNR⊢
 clear hdr eN HP3 HX3 HR3
 refine Reg.any_begin (fun w'=>Blk w' N 31 #[.string ⟨p.1.toArray⟩,.string ⟨p.2.toArray⟩]∧Blk w' (N+1) 38 xs) 15 rfl (by kernel_rfl) ⟨HP.out,HX.out⟩ ?_
 refine Reg.tk 0 (v:=?vq1) rfl ⟨HP.out,HX.out⟩ (fun w' hS=>?hq1) ?rq1
 case hq1=>go_simp<;>rfl
 simp only[Act.put,Reg.s0,Reg.s1,Reg.s2]
 refine Reg.tk 1 (v:=?vq2) rfl ⟨HP.out,HX.out⟩ (fun w' hS=>?hq2) ?rq2
 case hq2=>go_simp<;>rfl
 simp only[Act.put,Reg.s0,Reg.s1,Reg.s2]
 refine Reg.tk 2 (v:=?vq3) rfl ⟨HP.out,HX.out⟩ (fun w' hS=>?hq3) ?rq3
 case hq3=>go_simp<;>rfl
 simp only[Act.put,Reg.s0,Reg.s1,Reg.s2]
 refine Reg.tk 3 (v:=?vq4) rfl ⟨HP.out,HX.out⟩ (fun w' hS=>?hq4) ?rq4
 case hq4=>go_simp<;>rfl
 simp only[Act.put,Reg.s0,Reg.s1,Reg.s2]
 refine Reg.tk 5 (v:=.agg #[.string ⟨p.1.toArray⟩,.string ⟨p.2.toArray⟩]) rfl ⟨HP.out,HX.out⟩ (fun w' hS=>?hq5) ?rq5
 case hq5=>exact Wh.exec_load (.tmp 5) rfl rfl hS.1 Try.underlying31 rfl pr_info
 simp only[Act.put,Reg.s0,Reg.s1,Reg.s2]
 refine Reg.tk 7 (v:=.agg xs) rfl ⟨HP.out,HX.out⟩ (fun w' hS=>?hq6) ?rq6
 case hq6=>exact Wh.exec_load (.tmp 6) rfl rfl hS.2 Try.underlying38 rfl HXI.out
 simp only[Act.put,Reg.s0,Reg.s1,Reg.s2]
 refine Reg.both_all [4,6] (by kernel_rfl) (by simp) ?_
 intro j0 hj0
 have hj0:j0=4∨j0=6:=by simpa using hj0
 rcases hj0 with rfl | rfl
 ·left
  have kr:W3.drew.cell? ⟨r,0,none⟩=some (.slice A1 m c1):=HCA.out.blk.cell 0
  refine⟨_,_,_,_,_,_,_,_,rfl,by rfl,by(go_simp;rfl),⟨HP.out,HX.out⟩,?_⟩
  simp only[Act.put,Reg.s0,Reg.s1,Reg.s2]
  clear kr
  refine Reg.both_all [6] (by kernel_rfl) (by simp) ?_
  intro j0 hj0
  obtain rfl:j0=6:=by simpa using hj0
  clear hj0
  right
  refine⟨_,_,_,_,_,_,21,#[prV p],rfl,by rfl,by go_simp,?_⟩
  refine(CP.out _).mono ?_
  rintro e waq7 ⟨rfl,hb⟩
  replace HB:=Lib.hid (HB.out.trans (hb.mono HB.out.size))
  replace HCA:=Lib.hid (HCA.out.below hb)
  replace HP:=Lib.hid (HP.out.below hb)
  replace HX:=Lib.hid (HX.out.below hb)
  replace HR:=Lib.hid ((HR.out.below hb).more hb.size)
  clear hb
  refine⟨_,rfl,⟨HP.out,HX.out⟩,?_⟩
  simp only[Act.put,Reg.s0,Reg.s1,Reg.s2]
  refine Reg.both_all [8] (by kernel_rfl) (by simp) ?_
  intro j0 hj0
  obtain rfl:j0=8:=by simpa using hj0
  clear hj0
  right
  refine⟨_,_,_,_,_,_,22,#[.agg xs],rfl,by rfl,by go_simp,?_⟩
  refine(CX.out _ HR.out).mono ?_
  rintro e wbq8 ⟨A',c',rfl,ho,hb⟩
  have HOW:=Lib.hid (ho.since HB.out.size)
  replace HB:=Lib.hid (HB.out.trans (hb.mono HB.out.size))
  replace HCA:=Lib.hid (HCA.out.below hb)
  replace HP:=Lib.hid (HP.out.below hb)
  replace HX:=Lib.hid (HX.out.below hb)
  clear hb ho
  refine⟨_,rfl,⟨HP.out,HX.out⟩,?_⟩
  simp only[Act.put,Reg.s0,Reg.s1,Reg.s2]
  refine Reg.tk 9 (v:=.agg (enA (⟨p,x,A',c'⟩:En))) rfl ⟨HP.out,HX.out⟩ (fun w' hS=>?hq9) ?rq9
  case hq9=>exact Rg.exec_build (by go_simp) (built_en p x A' c')
  simp only[Act.put,Reg.s0,Reg.s1,Reg.s2]
  refine Reg.both_all [10] (by kernel_rfl) (by simp) ?_
  intro j0 hj0
  obtain rfl:j0=10:=by simpa using hj0
  clear hj0
  left
  have hb:Below wbq8.heap.size wbq8 (wbq8.alloc (.cells (enA (⟨p,x,A',c'⟩:En)) 60)):=(Below.refl _ _).alloc (Nat.le_refl _) _
  refine⟨_,_,_,_,_,_,.slice (some ⟨wbq8.heap.size,0,none⟩) 1 1,(wbq8.alloc (.cells (enA (⟨p,x,A',c'⟩:En)) 60)),rfl,by rfl,Rg.exec_slice rfl (SL1.out _ A' c'),⟨HP.out.below hb,HX.out.below hb⟩,?_⟩
  simp only[Act.put,Reg.s0,Reg.s1,Reg.s2]
  have HNB:=Lib.hid (Blk.new wbq8 60 (enA (⟨p,x,A',c'⟩:En)))
  replace HOW:=Lib.hid (HOW.out.below hb)
  replace HB:=Lib.hid (HB.out.trans (hb.mono HB.out.size))
  replace HCA:=Lib.hid (HCA.out.below hb)
  replace HP:=Lib.hid (HP.out.below hb)
  replace HX:=Lib.hid (HX.out.below hb)
  clear hb
  obtain⟨Wq10,eWq10⟩:∃z,z=(wbq8.alloc (.cells (enA (⟨p,x,A',c'⟩:En)) 60)):=⟨_,rfl⟩
  rw[←eWq10] at HNB HOW HB HCA HP HX⊢
  clear eWq10
  refine Reg.both_all [11] (by kernel_rfl) (by simp) ?_
  intro j0 hj0
  obtain rfl:j0=11:=by simpa using hj0
  clear hj0
  left
  obtain⟨v6,w6,hrun,ho6,hg6,hv6⟩:=Wh.app_run (P:=Try.prog) enC 39 136 enC_length enC_one Wq10 55 55 60 iE _ Try.underlying55 KI1.out KI2.out KI3.out KI4.out (enA_size _) (by omega) B _ es1 HCA.out.row (⟨p,x,A',c'⟩:En) wbq8.heap.size HNB.out (by have:=EM.out;have:=HL.out;omega) (by omega) HCA.out.big
  have hfin:=ca_put HWC.out HB.out HCA.out HOW.out ho6 hg6 hv6 (w0:=W3)
  have hr6:=HCA.out.blk.grown hg6 HCA.out.vr
  replace HP:=Lib.hid (HP.out.grown hg6 (fun x=>HNP.out (Or.inl x)))
  replace HX:=Lib.hid (HX.out.grown hg6 (fun x=>HNP.out (Or.inr x)))
  refine⟨_,_,_,_,_,_,v6,w6,rfl,by rfl,Rg.exec_app rfl rfl hrun,⟨HP.out,HX.out⟩,?_⟩
  simp only[Act.put,Reg.s0,Reg.s1,Reg.s2]
  refine Reg.tk 12 (v:=?vq11) rfl ⟨HP.out,HX.out⟩ (fun w' hS=>?hq11) ?rq11
  case hq11=>go_simp<;>rfl
  simp only[Act.put,Reg.s0,Reg.s1,Reg.s2]
  refine Reg.tk 13 (v:=?vq12) rfl ⟨HP.out,HX.out⟩ (fun w' hS=>?hq12) ?rq12
  case hq12=>go_simp<;>rfl
  simp only[Act.put,Reg.s0,Reg.s1,Reg.s2]
  obtain⟨A7,c7,e7,_⟩:=own_rdr enC_length ho6
  obtain⟨m7,em7⟩:∃m7,m7=(es1++[(⟨p,x,A',c'⟩:En)]).length:=⟨_,rfl⟩
  rw[←em7] at e7
  subst e7
  have f0:=hr6.frozen 0
  have k6:w6.cell? ⟨r,0,none⟩=some _:=hr6.cell 0
  refine Reg.any_store 14 (w6.setCell ⟨r,0,none⟩ (.slice A7 m7 c7)) rfl (by kernel_rfl) (by rfl) (by go_simp) ⟨Si.Blk.far HP.out _ _ HNR.out.1,Si.Blk.far HX.out _ _ HNR.out.2⟩ ?_
  simp only[Act.put,Reg.s0,Reg.s1,Reg.s2]
  clear f0 k6 hr6 ho6 hg6 hv6 hrun em7 HP HX HCA HNB HOW HB
  refine wpAnyH_done (by kernel_rfl) ?_ _
  have HFIN:=Lib.hid hfin
  clear hfin
  go_wp2
  go_ret
  exact⟨rfl,_,A',c',HFIN.out.1,HCG.out.trans HFIN.out.2.1 (fun q _ hq=>hq.imp id (fun z=>HV1.out.symm.trans z)),fun q hq=>by
  rcases HFIN.out.2.2 q hq with k | k
  ·exact HNW.out q k
  ·exact .inr (Nat.le_trans HCG.out.size k)⟩
 ·right
  refine⟨_,_,_,_,_,_,21,#[prV p],rfl,by rfl,by go_simp,?_⟩
  refine(CP.out _).mono ?_
  rintro e waq13 ⟨rfl,hb⟩
  replace HB:=Lib.hid (HB.out.trans (hb.mono HB.out.size))
  replace HCA:=Lib.hid (HCA.out.below hb)
  replace HP:=Lib.hid (HP.out.below hb)
  replace HX:=Lib.hid (HX.out.below hb)
  replace HR:=Lib.hid ((HR.out.below hb).more hb.size)
  clear hb
  refine⟨_,rfl,⟨HP.out,HX.out⟩,?_⟩
  simp only[Act.put,Reg.s0,Reg.s1,Reg.s2]
  refine Reg.both_all [4,8] (by kernel_rfl) (by simp) ?_
  intro j0 hj0
  have hj0:j0=4∨j0=8:=by simpa using hj0
  rcases hj0 with rfl | rfl
  ·left
   have kr:waq13.cell? ⟨r,0,none⟩=some (.slice A1 m c1):=HCA.out.blk.cell 0
   refine⟨_,_,_,_,_,_,_,_,rfl,by rfl,by(go_simp;rfl),⟨HP.out,HX.out⟩,?_⟩
   simp only[Act.put,Reg.s0,Reg.s1,Reg.s2]
   clear kr
   refine Reg.both_all [8] (by kernel_rfl) (by simp) ?_
   intro j0 hj0
   obtain rfl:j0=8:=by simpa using hj0
   clear hj0
   right
   refine⟨_,_,_,_,_,_,22,#[.agg xs],rfl,by rfl,by go_simp,?_⟩
   refine(CX.out _ HR.out).mono ?_
   rintro e wbq14 ⟨A',c',rfl,ho,hb⟩
   have HOW:=Lib.hid (ho.since HB.out.size)
   replace HB:=Lib.hid (HB.out.trans (hb.mono HB.out.size))
   replace HCA:=Lib.hid (HCA.out.below hb)
   replace HP:=Lib.hid (HP.out.below hb)
   replace HX:=Lib.hid (HX.out.below hb)
   clear hb ho
   refine⟨_,rfl,⟨HP.out,HX.out⟩,?_⟩
   simp only[Act.put,Reg.s0,Reg.s1,Reg.s2]
   refine Reg.tk 9 (v:=.agg (enA (⟨p,x,A',c'⟩:En))) rfl ⟨HP.out,HX.out⟩ (fun w' hS=>?hq15) ?rq15
   case hq15=>exact Rg.exec_build (by go_simp) (built_en p x A' c')
   simp only[Act.put,Reg.s0,Reg.s1,Reg.s2]
   refine Reg.both_all [10] (by kernel_rfl) (by simp) ?_
   intro j0 hj0
   obtain rfl:j0=10:=by simpa using hj0
   clear hj0
   left
   have hb:Below wbq14.heap.size wbq14 (wbq14.alloc (.cells (enA (⟨p,x,A',c'⟩:En)) 60)):=(Below.refl _ _).alloc (Nat.le_refl _) _
   refine⟨_,_,_,_,_,_,.slice (some ⟨wbq14.heap.size,0,none⟩) 1 1,(wbq14.alloc (.cells (enA (⟨p,x,A',c'⟩:En)) 60)),rfl,by rfl,Rg.exec_slice rfl (SL1.out _ A' c'),⟨HP.out.below hb,HX.out.below hb⟩,?_⟩
   simp only[Act.put,Reg.s0,Reg.s1,Reg.s2]
   have HNB:=Lib.hid (Blk.new wbq14 60 (enA (⟨p,x,A',c'⟩:En)))
   replace HOW:=Lib.hid (HOW.out.below hb)
   replace HB:=Lib.hid (HB.out.trans (hb.mono HB.out.size))
   replace HCA:=Lib.hid (HCA.out.below hb)
   replace HP:=Lib.hid (HP.out.below hb)
   replace HX:=Lib.hid (HX.out.below hb)
   clear hb
   obtain⟨Wq16,eWq16⟩:∃z,z=(wbq14.alloc (.cells (enA (⟨p,x,A',c'⟩:En)) 60)):=⟨_,rfl⟩
   rw[←eWq16] at HNB HOW HB HCA HP HX⊢
   clear eWq16
   refine Reg.both_all [11] (by kernel_rfl) (by simp) ?_
   intro j0 hj0
   obtain rfl:j0=11:=by simpa using hj0
   clear hj0
   left
   obtain⟨v6,w6,hrun,ho6,hg6,hv6⟩:=Wh.app_run (P:=Try.prog) enC 39 136 enC_length enC_one Wq16 55 55 60 iE _ Try.underlying55 KI1.out KI2.out KI3.out KI4.out (enA_size _) (by omega) B _ es1 HCA.out.row (⟨p,x,A',c'⟩:En) wbq14.heap.size HNB.out (by have:=EM.out;have:=HL.out;omega) (by omega) HCA.out.big
   have hfin:=ca_put HWC.out HB.out HCA.out HOW.out ho6 hg6 hv6 (w0:=W3)
   have hr6:=HCA.out.blk.grown hg6 HCA.out.vr
   replace HP:=Lib.hid (HP.out.grown hg6 (fun x=>HNP.out (Or.inl x)))
   replace HX:=Lib.hid (HX.out.grown hg6 (fun x=>HNP.out (Or.inr x)))
   refine⟨_,_,_,_,_,_,v6,w6,rfl,by rfl,Rg.exec_app rfl rfl hrun,⟨HP.out,HX.out⟩,?_⟩
   simp only[Act.put,Reg.s0,Reg.s1,Reg.s2]
   refine Reg.tk 12 (v:=?vq17) rfl ⟨HP.out,HX.out⟩ (fun w' hS=>?hq17) ?rq17
   case hq17=>go_simp<;>rfl
   simp only[Act.put,Reg.s0,Reg.s1,Reg.s2]
   refine Reg.tk 13 (v:=?vq18) rfl ⟨HP.out,HX.out⟩ (fun w' hS=>?hq18) ?rq18
   case hq18=>go_simp<;>rfl
   simp only[Act.put,Reg.s0,Reg.s1,Reg.s2]
   obtain⟨A7,c7,e7,_⟩:=own_rdr enC_length ho6
   obtain⟨m7,em7⟩:∃m7,m7=(es1++[(⟨p,x,A',c'⟩:En)]).length:=⟨_,rfl⟩
   rw[←em7] at e7
   subst e7
   have f0:=hr6.frozen 0
   have k6:w6.cell? ⟨r,0,none⟩=some _:=hr6.cell 0
   refine Reg.any_store 14 (w6.setCell ⟨r,0,none⟩ (.slice A7 m7 c7)) rfl (by kernel_rfl) (by rfl) (by go_simp) ⟨Si.Blk.far HP.out _ _ HNR.out.1,Si.Blk.far HX.out _ _ HNR.out.2⟩ ?_
   simp only[Act.put,Reg.s0,Reg.s1,Reg.s2]
   clear f0 k6 hr6 ho6 hg6 hv6 hrun em7 HP HX HCA HNB HOW HB
   refine wpAnyH_done (by kernel_rfl) ?_ _
   have HFIN:=Lib.hid hfin
   clear hfin
   go_wp2
   go_ret
   exact⟨rfl,_,A',c',HFIN.out.1,HCG.out.trans HFIN.out.2.1 (fun q _ hq=>hq.imp id (fun z=>HV1.out.symm.trans z)),fun q hq=>by
  rcases HFIN.out.2.2 q hq with k | k
  ·exact HNW.out q k
  ·exact .inr (Nat.le_trans HCG.out.size k)⟩
  ·right
   refine⟨_,_,_,_,_,_,22,#[.agg xs],rfl,by rfl,by go_simp,?_⟩
   refine(CX.out _ HR.out).mono ?_
   rintro e wbq19 ⟨A',c',rfl,ho,hb⟩
   have HOW:=Lib.hid (ho.since HB.out.size)
   replace HB:=Lib.hid (HB.out.trans (hb.mono HB.out.size))
   replace HCA:=Lib.hid (HCA.out.below hb)
   replace HP:=Lib.hid (HP.out.below hb)
   replace HX:=Lib.hid (HX.out.below hb)
   clear hb ho
   refine⟨_,rfl,⟨HP.out,HX.out⟩,?_⟩
   simp only[Act.put,Reg.s0,Reg.s1,Reg.s2]
   refine Reg.tk 9 (v:=.agg (enA (⟨p,x,A',c'⟩:En))) rfl ⟨HP.out,HX.out⟩ (fun w' hS=>?hq20) ?rq20
   case hq20=>exact Rg.exec_build (by go_simp) (built_en p x A' c')
   simp only[Act.put,Reg.s0,Reg.s1,Reg.s2]
   refine Reg.both_all [4,10] (by kernel_rfl) (by simp) ?_
   intro j0 hj0
   have hj0:j0=4∨j0=10:=by simpa using hj0
   rcases hj0 with rfl | rfl
   ·left
    have kr:wbq19.cell? ⟨r,0,none⟩=some (.slice A1 m c1):=HCA.out.blk.cell 0
    refine⟨_,_,_,_,_,_,_,_,rfl,by rfl,by(go_simp;rfl),⟨HP.out,HX.out⟩,?_⟩
    simp only[Act.put,Reg.s0,Reg.s1,Reg.s2]
    clear kr
    refine Reg.both_all [10] (by kernel_rfl) (by simp) ?_
    intro j0 hj0
    obtain rfl:j0=10:=by simpa using hj0
    clear hj0
    left
    have hb:Below wbq19.heap.size wbq19 (wbq19.alloc (.cells (enA (⟨p,x,A',c'⟩:En)) 60)):=(Below.refl _ _).alloc (Nat.le_refl _) _
    refine⟨_,_,_,_,_,_,.slice (some ⟨wbq19.heap.size,0,none⟩) 1 1,(wbq19.alloc (.cells (enA (⟨p,x,A',c'⟩:En)) 60)),rfl,by rfl,Rg.exec_slice rfl (SL1.out _ A' c'),⟨HP.out.below hb,HX.out.below hb⟩,?_⟩
    simp only[Act.put,Reg.s0,Reg.s1,Reg.s2]
    have HNB:=Lib.hid (Blk.new wbq19 60 (enA (⟨p,x,A',c'⟩:En)))
    replace HOW:=Lib.hid (HOW.out.below hb)
    replace HB:=Lib.hid (HB.out.trans (hb.mono HB.out.size))
    replace HCA:=Lib.hid (HCA.out.below hb)
    replace HP:=Lib.hid (HP.out.below hb)
    replace HX:=Lib.hid (HX.out.below hb)
    clear hb
    obtain⟨Wq21,eWq21⟩:∃z,z=(wbq19.alloc (.cells (enA (⟨p,x,A',c'⟩:En)) 60)):=⟨_,rfl⟩
    rw[←eWq21] at HNB HOW HB HCA HP HX⊢
    clear eWq21
    refine Reg.both_all [11] (by kernel_rfl) (by simp) ?_
    intro j0 hj0
    obtain rfl:j0=11:=by simpa using hj0
    clear hj0
    left
    obtain⟨v6,w6,hrun,ho6,hg6,hv6⟩:=Wh.app_run (P:=Try.prog) enC 39 136 enC_length enC_one Wq21 55 55 60 iE _ Try.underlying55 KI1.out KI2.out KI3.out KI4.out (enA_size _) (by omega) B _ es1 HCA.out.row (⟨p,x,A',c'⟩:En) wbq19.heap.size HNB.out (by have:=EM.out;have:=HL.out;omega) (by omega) HCA.out.big
    have hfin:=ca_put HWC.out HB.out HCA.out HOW.out ho6 hg6 hv6 (w0:=W3)
    have hr6:=HCA.out.blk.grown hg6 HCA.out.vr
    replace HP:=Lib.hid (HP.out.grown hg6 (fun x=>HNP.out (Or.inl x)))
    replace HX:=Lib.hid (HX.out.grown hg6 (fun x=>HNP.out (Or.inr x)))
    refine⟨_,_,_,_,_,_,v6,w6,rfl,by rfl,Rg.exec_app rfl rfl hrun,⟨HP.out,HX.out⟩,?_⟩
    simp only[Act.put,Reg.s0,Reg.s1,Reg.s2]
    refine Reg.tk 12 (v:=?vq22) rfl ⟨HP.out,HX.out⟩ (fun w' hS=>?hq22) ?rq22
    case hq22=>go_simp<;>rfl
    simp only[Act.put,Reg.s0,Reg.s1,Reg.s2]
    refine Reg.tk 13 (v:=?vq23) rfl ⟨HP.out,HX.out⟩ (fun w' hS=>?hq23) ?rq23
    case hq23=>go_simp<;>rfl
    simp only[Act.put,Reg.s0,Reg.s1,Reg.s2]
    obtain⟨A7,c7,e7,_⟩:=own_rdr enC_length ho6
    obtain⟨m7,em7⟩:∃m7,m7=(es1++[(⟨p,x,A',c'⟩:En)]).length:=⟨_,rfl⟩
    rw[←em7] at e7
    subst e7
    have f0:=hr6.frozen 0
    have k6:w6.cell? ⟨r,0,none⟩=some _:=hr6.cell 0
    refine Reg.any_store 14 (w6.setCell ⟨r,0,none⟩ (.slice A7 m7 c7)) rfl (by kernel_rfl) (by rfl) (by go_simp) ⟨Si.Blk.far HP.out _ _ HNR.out.1,Si.Blk.far HX.out _ _ HNR.out.2⟩ ?_
    simp only[Act.put,Reg.s0,Reg.s1,Reg.s2]
    clear f0 k6 hr6 ho6 hg6 hv6 hrun em7 HP HX HCA HNB HOW HB
    refine wpAnyH_done (by kernel_rfl) ?_ _
    have HFIN:=Lib.hid hfin
    clear hfin
    go_wp2
    go_ret
    exact⟨rfl,_,A',c',HFIN.out.1,HCG.out.trans HFIN.out.2.1 (fun q _ hq=>hq.imp id (fun z=>HV1.out.symm.trans z)),fun q hq=>by
  rcases HFIN.out.2.2 q hq with k | k
  ·exact HNW.out q k
  ·exact .inr (Nat.le_trans HCG.out.size k)⟩
   ·left
    have hb:Below wbq19.heap.size wbq19 (wbq19.alloc (.cells (enA (⟨p,x,A',c'⟩:En)) 60)):=(Below.refl _ _).alloc (Nat.le_refl _) _
    refine⟨_,_,_,_,_,_,.slice (some ⟨wbq19.heap.size,0,none⟩) 1 1,(wbq19.alloc (.cells (enA (⟨p,x,A',c'⟩:En)) 60)),rfl,by rfl,Rg.exec_slice rfl (SL1.out _ A' c'),⟨HP.out.below hb,HX.out.below hb⟩,?_⟩
    simp only[Act.put,Reg.s0,Reg.s1,Reg.s2]
    have HNB:=Lib.hid (Blk.new wbq19 60 (enA (⟨p,x,A',c'⟩:En)))
    replace HOW:=Lib.hid (HOW.out.below hb)
    replace HB:=Lib.hid (HB.out.trans (hb.mono HB.out.size))
    replace HCA:=Lib.hid (HCA.out.below hb)
    replace HP:=Lib.hid (HP.out.below hb)
    replace HX:=Lib.hid (HX.out.below hb)
    clear hb
    obtain⟨Wq24,eWq24⟩:∃z,z=(wbq19.alloc (.cells (enA (⟨p,x,A',c'⟩:En)) 60)):=⟨_,rfl⟩
    rw[←eWq24] at HNB HOW HB HCA HP HX⊢
    clear eWq24
    refine Reg.both_all [4] (by kernel_rfl) (by simp) ?_
    intro j0 hj0
    obtain rfl:j0=4:=by simpa using hj0
    clear hj0
    left
    have kr:Wq24.cell? ⟨r,0,none⟩=some (.slice A1 m c1):=HCA.out.blk.cell 0
    refine⟨_,_,_,_,_,_,_,_,rfl,by rfl,by(go_simp;rfl),⟨HP.out,HX.out⟩,?_⟩
    simp only[Act.put,Reg.s0,Reg.s1,Reg.s2]
    clear kr
    refine Reg.both_all [11] (by kernel_rfl) (by simp) ?_
    intro j0 hj0
    obtain rfl:j0=11:=by simpa using hj0
    clear hj0
    left
    obtain⟨v6,w6,hrun,ho6,hg6,hv6⟩:=Wh.app_run (P:=Try.prog) enC 39 136 enC_length enC_one Wq24 55 55 60 iE _ Try.underlying55 KI1.out KI2.out KI3.out KI4.out (enA_size _) (by omega) B _ es1 HCA.out.row (⟨p,x,A',c'⟩:En) wbq19.heap.size HNB.out (by have:=EM.out;have:=HL.out;omega) (by omega) HCA.out.big
    have hfin:=ca_put HWC.out HB.out HCA.out HOW.out ho6 hg6 hv6 (w0:=W3)
    have hr6:=HCA.out.blk.grown hg6 HCA.out.vr
    replace HP:=Lib.hid (HP.out.grown hg6 (fun x=>HNP.out (Or.inl x)))
    replace HX:=Lib.hid (HX.out.grown hg6 (fun x=>HNP.out (Or.inr x)))
    refine⟨_,_,_,_,_,_,v6,w6,rfl,by rfl,Rg.exec_app rfl rfl hrun,⟨HP.out,HX.out⟩,?_⟩
    simp only[Act.put,Reg.s0,Reg.s1,Reg.s2]
    refine Reg.tk 12 (v:=?vq25) rfl ⟨HP.out,HX.out⟩ (fun w' hS=>?hq25) ?rq25
    case hq25=>go_simp<;>rfl
    simp only[Act.put,Reg.s0,Reg.s1,Reg.s2]
    refine Reg.tk 13 (v:=?vq26) rfl ⟨HP.out,HX.out⟩ (fun w' hS=>?hq26) ?rq26
    case hq26=>go_simp<;>rfl
    simp only[Act.put,Reg.s0,Reg.s1,Reg.s2]
    obtain⟨A7,c7,e7,_⟩:=own_rdr enC_length ho6
    obtain⟨m7,em7⟩:∃m7,m7=(es1++[(⟨p,x,A',c'⟩:En)]).length:=⟨_,rfl⟩
    rw[←em7] at e7
    subst e7
    have f0:=hr6.frozen 0
    have k6:w6.cell? ⟨r,0,none⟩=some _:=hr6.cell 0
    refine Reg.any_store 14 (w6.setCell ⟨r,0,none⟩ (.slice A7 m7 c7)) rfl (by kernel_rfl) (by rfl) (by go_simp) ⟨Si.Blk.far HP.out _ _ HNR.out.1,Si.Blk.far HX.out _ _ HNR.out.2⟩ ?_
    simp only[Act.put,Reg.s0,Reg.s1,Reg.s2]
    clear f0 k6 hr6 ho6 hg6 hv6 hrun em7 HP HX HCA HNB HOW HB
    refine wpAnyH_done (by kernel_rfl) ?_ _
    have HFIN:=Lib.hid hfin
    clear hfin
    go_wp2
    go_ret
    exact⟨rfl,_,A',c',HFIN.out.1,HCG.out.trans HFIN.out.2.1 (fun q _ hq=>hq.imp id (fun z=>HV1.out.symm.trans z)),fun q hq=>by
  rcases HFIN.out.2.2 q hq with k | k
  ·exact HNW.out q k
  ·exact .inr (Nat.le_trans HCG.out.size k)⟩
set_option maxRecDepth 100000 in
set_option maxHeartbeats 3200000 in
theorem put_full (B r:Nat) (v:Value) (es:List En) (p:Pr) (x:Cr) (A:Option Addr) (c:Nat) (t:Int) (w:World) (h:Ca w B r v es) (hxp:∀w',Chg (PT r v) w w'→Rd w' w'.heap.size A (bvs x.b)) (h1:p.1.length≤140737488351232) (h2:p.2.length≤140737488351232) (h3:x.s.1.length≤140737488351232) (h4:x.s.2.length≤140737488351232) (h5:x.b.length≤100000000000)
  (hl:es.length≤1000) (hlt:10≤(restE p t es).length) :
  Calls Try.prog 11 #[.pointer (some ⟨r,0,none⟩),prV p,.agg (crA x A c),.int .i64 t] w fun e w'=>e = .returned (.int .i64 13)∧∃v',Ca w' B r v' (restE p t es)∧Chg (PT r v) w w'∧(∀q,CO r v' (restE p t es) q→CO r v es q∨w.heap.size≤q):=by
 obtain⟨A0,c0,rfl,_,_,_⟩:=h.num
 obtain⟨n,en⟩:∃n,n=es.length:=⟨_,rfl⟩
 obtain⟨v,ev⟩:∃v,v=Value.slice A0 es.length c0:=⟨_,rfl⟩
 rw[←ev] at h hxp⊢
 have EV:=Lib.hid ev
 have CP:=Lib.hid (fun w1=>clone_cp p w1 h1 h2)
 have CX:=Lib.hid (fun(w1:World) (h:Rd w1 w1.heap.size A (bvs x.b))=>ccr_any x A c w1.heap.size w1 h (Nat.le_refl _) h3 h4 h5)
 obtain⟨xs,exs⟩:∃xs,xs=crA x A c:=⟨_,rfl⟩
 rw[←exs] at CX⊢
 have HXI:=Lib.hid (show(Try.prog.info? 38).map (·.size)=some xs.size by rw[exs,crA_size];exact cr_info)
 obtain⟨W,eW⟩:∃W,W=((w.alloc (.cells #[.string ⟨p.1.toArray⟩,.string ⟨p.2.toArray⟩] 31)).alloc (.cells xs 38)).alloc (.cells #[.int .i64 t] 3):=⟨_,rfl⟩
 obtain⟨hb,hca,hp,hxx,ht,hvo,hro⟩:=put_begin B r v es p xs t w W h eW
 have CD:=delf_any es p t (w.heap.size+2) w.heap.size B v W hca.row hca.big ht hp (hvo _ (by omega)) (hvo _ (Nat.le_refl _)) hl
 have HVO:=Lib.hid hvo;have HRO:=Lib.hid hro
 obtain⟨es1,ees⟩:∃es1,es1=restE p t es:=⟨_,rfl⟩
 have EES:=Lib.hid ees
 rw[←ees] at CD hlt⊢
 have HW:=Lib.hid h;have HCW:=Lib.hid hca
 have HBW:=Lib.hid hb
 have HP0:=Lib.hid hp;have HX0:=Lib.hid hxx
 have HXP:=Lib.hid hxp
 have HL:=Lib.hid hlt
 have k0:W.cell? ⟨r,0,none⟩=some (.slice A0 n c0):=by rw[en,←ev];exact hca.blk.cell 0
 have ev2:v = .slice A0 n c0:=by rw[ev,en]
 rw[ev2] at CD
 rw[←ev2] at CD
 have HVN:=Lib.hid ev2
 obtain⟨iE,hiE,hzE,hsE,hbE⟩:=info_parts en_all
 have KI1:=Lib.hid hiE;have KI2:=Lib.hid hzE;have KI3:=Lib.hid hsE;have KI4:=Lib.hid hbE
 have SL1:=Lib.hid (fun(w1:World) (A':Option Addr) (c':Nat)=>Wh.run_build_one (P:=Try.prog) w1 55 60 (enA ⟨p,x,A',c'⟩) iE _ Try.underlying55 hiE hzE (by rw[hsE,enA_size]) (by rw[enA_size];omega) (by rw[enA_size];omega))
 rw[ev2] at CD
 clear hb hca hp hxx ht hvo hro h hxp h1 h2 h3 h4 h5 hl hlt exs en ev ev2 ees hiE hzE hsE hbE
 go_enter Try.func11,Try.ntmps11
 go_upto_region 1 with fail
 rw[←eW]
 clear eW
 go_upto_region 4 with(first
  |(go_at_call 19;refine Calls.mono CD ?_;rintro e w2 ⟨v1,rfl,ho,hg,hv⟩;obtain⟨A1,c1,rfl,_⟩:=own_rdr enC_length ho;rw[←HVN.out] at hg hv;have HG:=Lib.hid hg;have HV:=Lib.hid hv;have HO:=Lib.hid ho;clear hg hv ho CD k0;have hr2:=HCW.out.blk.grown HG.out HCW.out.vr;have f0:=hr2.frozen 0;have k0:w2.cell? ⟨r,0,none⟩=some v:=hr2.cell 0;clear hr2)
  |fail)
 obtain⟨m,em⟩:∃m,m=es1.length:=⟨_,rfl⟩
 rw[←em] at HO HV⊢
 have hq:=ca_rest (p:=p) (t:=t) HCW.out HG.out (by rw[←EES.out,←em];exact HO.out) HV.out
 rw[←EES.out] at hq
 obtain⟨hca,hcg,hnw⟩:=hq
 have HNP:=Lib.hid (show ¬((Value.slice A1 m c1).ownBlock=some w.heap.size∨(Value.slice A1 m c1).ownBlock=some (w.heap.size+1)) from fun x=>by
  rw[HV.out] at x
  rcases x with x | x
  ·exact HVO.out _ (Nat.le_refl _) x
  ·exact HVO.out _ (by omega) x)
 have HNR:=Lib.hid (show r≠w.heap.size∧r≠w.heap.size+1 from⟨fun x=>HRO.out _ (Nat.le_refl _) x.symm,fun x=>HRO.out _ (by omega) x.symm⟩)
 have hnp:∀k,w.heap.size≤k→¬PT r v k:=fun k hk x=>by
  rcases x with x | x
  ·exact HRO.out k hk x
  ·exact HVO.out k hk x
 obtain⟨W3,eW3⟩:∃W3,W3=w2.setCell ⟨r,0,none⟩ (.slice A1 m c1):=⟨_,rfl⟩
 rw[←eW3] at hca hcg
 have HP3:=Lib.hid (hcg.blk HP0.out (hnp _ (Nat.le_refl _)))
 have HX3:=Lib.hid (hcg.blk HX0.out (hnp _ (by omega)))
 have HCG:=Lib.hid ((Chg.of_below HBW.out).trans hcg (fun q _ x=>x):Chg (PT r v) w W3)
 have HR3:=Lib.hid (HXP.out W3 HCG.out)
 have HNW:=Lib.hid (fun(q:Nat) (hq:CO r (.slice A1 m c1) es1 q)=>(.inl (hnw q hq):CO r v es q∨w.heap.size≤q))
 have HWC:=Lib.hid hca
 have HV1:=Lib.hid HV.out
 have t2:decide ((10:Int)≤(m:Int))=true:=by simp;have:=HL.out;omega
 have k1:W3.cell? ⟨r,0,none⟩=some (.slice A1 m c1):=hca.blk.cell 0
 have EM:=Lib.hid em
 rw[←eW3]
 clear hca hcg hnw hnp HP0 HX0 HXP HG HV HO em eW3 f0 k0 HCW HVO HRO
 go_wp2
 go_ret
 exact⟨rfl,_,HWC.out,HCG.out,HNW.out⟩
theorem put_any (B r:Nat) (v:Value) (es:List En) (p:Pr) (x:Cr) (A:Option Addr) (c:Nat) (t:Int) (w:World) (h:Ca w B r v es) (hxp:∀w',Chg (PT r v) w w'→Rd w' w'.heap.size A (bvs x.b)) (h1:p.1.length≤140737488351232) (h2:p.2.length≤140737488351232) (h3:x.s.1.length≤140737488351232) (h4:x.s.2.length≤140737488351232) (h5:x.b.length≤100000000000)
  (hl:es.length≤1000) :
  Calls Try.prog 11 #[.pointer (some ⟨r,0,none⟩),prV p,.agg (crA x A c),.int .i64 t] w fun e w'=>e = .returned (.int .i64 (putE (its es) p t:Int))∧∃v' es',Ca w' B r v' es'∧its es'=putL (its es) p x t∧Chg (PT r v) w w'∧(∀q,CO r v' es' q→CO r v es q∨w.heap.size≤q):=by
 have hln:(rest (its es) p t).length=(restE p t es).length:=by rw[←its_rest,its_length]
 by_cases hlt:(restE p t es).length<10
 ·refine(put_ok B r v es p x A c t w h hxp h1 h2 h3 h4 h5 hl hlt).mono ?_
  rintro e w' ⟨rfl,v',A',c',k1,k2,k3⟩
  refine⟨by rw[putE,if_pos (by omega)];rfl,v',_,k1,?_,k2,k3⟩
  rw[putL,if_pos (by omega),←its_rest]
  simp [its,En.it]
 ·refine(put_full B r v es p x A c t w h hxp h1 h2 h3 h4 h5 hl (by omega)).mono ?_
  rintro e w' ⟨rfl,v',k1,k2,k3⟩
  refine⟨by rw[putE,if_neg (by omega)];rfl,v',_,k1,?_,k2,k3⟩
  rw[putL,if_neg (by omega),←its_rest]
end Go.Proofs.Ytlacoakelliabaa.Ca
end

section
set_option linter.unusedVariables false
set_option linter.unusedSimpArgs false
namespace Go.Proofs.Ytlacoakelliabaa.Ca
open Go.RowKit Go.Proofs.Ytlacoakelliabaa.Mem Go.Proofs.Ytlacoakelliabaa.Se
open Go.Proofs.Ytlacoakelliabaa.Nm (L)
open Go.Proofs.Ytlacoakelliabaa.Rg (Pr prV pr_info RdR own_rdr own_chg chg_row eql_pr_yes eql_pr_no)
theorem results_pair {P:Program} {fn:Func} {tmps:Array Value} {w:World} {v u:Value} (t q:Nat) (ty:TypeId) (a:Addr) (hres:fn.results=#[.cell t ty,.tmp q]) (ht:tmps.getD t undef = .pointer (some a)) (hl:(loadVar ty a).run P w = .ok v w) (hq:tmps.getD q undef=u) :
  (results fn tmps).run P w = .ok (.tuple #[v,u]) w:=by
 have ht':tmps[t]?.getD undef = .pointer (some a):=by simpa using ht
 have hq':tmps[q]?.getD undef=u:=by simpa using hq
 simp [results,hres,ht',hq',asAddr,hl]
theorem ca_new (B:Nat) (w:World) (hB:B≤w.heap.size):Calls Try.prog 10 #[] w fun e w'=>e = .returned (.pointer (some ⟨w.heap.size,0,none⟩))∧Ca w' B w.heap.size (.slice none 0 0) []∧Below w.heap.size w w'∧w'.heap.size=w.heap.size+1:=by
 have h1:Ca (w.alloc (.cells #[.slice none 0 0] 57)) B w.heap.size (.slice none 0 0) []:=
  ⟨Blk.new _ _ _,World.ownsRow_nil _ _ _ _,hB,(fun h=>by cases h),(fun e he=>by cases he),(fun e he=>by cases he)⟩
 have H1:=Lib.hid h1
 have H2:=Lib.hid ((Below.refl w.heap.size w).alloc (Nat.le_refl _) (.cells #[.slice none 0 0] 57))
 clear h1
 go_enter Try.func10,Try.ntmps10
 go_wp2
 go_ret
 exact⟨rfl,H1.out,H2.out,by simp⟩
theorem ca_len (B r:Nat) (v:Value) (es:List En) (w:World) (h:Ca w B r v es):Calls Try.prog 17 #[.pointer (some ⟨r,0,none⟩)] w fun e w'=>e = .returned (.int .i64 (es.length:Int))∧w'=w:=by
 obtain⟨A,c,rfl,_⟩:=h.num
 obtain⟨n,en⟩:∃n,n=es.length:=⟨_,rfl⟩
 have hb0:=h.blk
 rw[←en] at hb0⊢
 have k0:w.cell? ⟨r,0,none⟩=some (.slice A n c):=hb0.cell 0
 clear h hb0 en
 go_enter Try.func17,Try.ntmps17
 go_wp2
 go_ret
 exact⟨rfl,rfl⟩
theorem ca_clear (B r:Nat) (v:Value) (es:List En) (w:World) (h:Ca w B r v es):Calls Try.prog 16 #[.pointer (some ⟨r,0,none⟩)] w fun e w'=>e = .returned (.tuple #[])∧Ca w' B r (.slice none 0 0) []∧Chg (PT r v) w w':=by
 have k0:w.cell? ⟨r,0,none⟩=some v:=h.blk.cell 0
 have f0:=h.blk.frozen 0
 have hs:=h.blk.set 0 (.slice none 0 0)
 have hc:Chg (PT r v) w (w.setCell ⟨r,0,none⟩ (.slice none 0 0)):=Chg.set (Chg.refl (PT r v) w) (.inl (.inl rfl)) _
 have H1:=Lib.hid (⟨hs,World.ownsRow_nil _ _ _ _,h.lo,(fun h=>by cases h),(fun e he=>by cases he),(fun e he=>by cases he)⟩:Ca (w.setCell ⟨r,0,none⟩ (.slice none 0 0)) B r (.slice none 0 0) [])
 have H2:=Lib.hid hc
 clear h hs hc
 go_enter Try.func16,Try.ntmps16
 go_wp2
 go_end0
 exact⟨rfl,H1.out,H2.out⟩
def Fit (x:Cr):Prop:=x.s.1.length≤140737488351232∧x.s.2.length≤140737488351232∧x.b.length≤100000000000
def Fits (l:List It):Prop:=∀i∈l,Fit i.2
theorem fits_put {l:List It} {p:Pr} {x:Cr} {t:Int} (h:Fits l) (hx:Fit x):Fits (putL l p x t):=by
 have hr:Fits (rest l p t):=fun i hi=>h i (List.mem_filter.1 hi).1
 unfold putL
 split
 ·intro i hi
  rcases List.mem_append.1 hi with g | g
  ·exact hr i g
  ·rw[List.mem_singleton] at g;subst g;exact hx
 ·exact hr
theorem fits_nil:Fits []:=fun i hi=>by cases hi
def getX:Option It→Cr
 |none=>zeroX
 |some i=>i.2
theorem getO_hit {l:List It} {p:Pr} {t:Int} {i:Nat} {x:It} (hx:l[i]? = some x) (hh:hitG p t x=true) (hn:∀j y,j<i→l[j]? = some y→hitG p t y=false):getO l p t=some x:=by
 obtain⟨h1,h2⟩:=List.getElem?_eq_some_iff.1 hx
 unfold getO
 rw[List.find?_eq_some_iff_getElem]
 refine⟨hh,i,h1,h2,fun j hj=>?_⟩
 have:=hn j _ hj (List.getElem?_eq_getElem (by omega))
 simp [this]
theorem getO_none {l:List It} {p:Pr} {t:Int} (hn:∀j y,j<l.length→l[j]? = some y→hitG p t y=false):getO l p t=none:=by
 unfold getO
 rw[List.find?_eq_none]
 intro x hx
 obtain⟨j,hj1,hj2⟩:=List.getElem_of_mem hx
 have:=hn j x hj1 (by rw[←hj2];exact List.getElem?_eq_getElem hj1)
 simp [this]
theorem its_of {es:List En} {i:Nat} {x:It} (h:(its es)[i]? = some x):∃e,es[i]? = some e∧e.it=x:=by simpa [its] using h
theorem its_at {es:List En} {i:Nat} {e:En} (h:es[i]? = some e):(its es)[i]? = some e.it:=by simp [its,h]
set_option maxHeartbeats 3200000 in
set_option maxRecDepth 100000 in
theorem get_any (B r:Nat) (v:Value) (es:List En) (p:Pr) (t:Int) (w:World) (h:Ca w B r v es) (hf:Fits (its es)) (hl:es.length≤1000) :
  Calls Try.prog 13 #[.pointer (some ⟨r,0,none⟩),prV p,.int .i64 t] w fun e w'=>∃A c,e = .returned (.tuple #[.agg (crA (getX (getO (its es) p t)) A c),.bool (getO (its es) p t).isSome])∧Own1 w w' A (bvs (getX (getO (its es) p t)).b)∧Below w.heap.size w w':=by
 obtain⟨o,eo⟩:∃o,o=getO (its es) p t:=⟨_,rfl⟩
 rw[←eo]
 have EO:=Lib.hid eo
 obtain⟨A0,c0,rfl,_,_,hr⟩:=h.num
 have hb0:=h.blk
 obtain⟨n,en⟩:∃n,n=es.length:=⟨_,rfl⟩
 have EN:=Lib.hid en
 rw[←en] at hb0 hl
 have CX:=Lib.hid (fun(x:En) (hx:x∈es) (w1:World) (hb:Below w.heap.size w w1)=>have q:=hf x.it (List.mem_map.2 ⟨x,hx,rfl⟩);ccr_any x.x x.A x.c w1.heap.size w1 (((h.rd x hx).below hb).more hb.size) (Nat.le_refl _) q.1 q.2.1 q.2.2)
 have HR:=Lib.hid hr
 have hrl:=h.lt
 obtain⟨zs,ezs⟩:∃zs,zs=crA zeroX none 0:=⟨_,rfl⟩
 have EZS:=Lib.hid ezs
 have EZ2:=Lib.hid (ezs.trans zero_cr)
 have HZS:=Lib.hid (show zs.size=37 by rw[ezs,crA_size])
 have HZI:=Lib.hid (show(Try.prog.info? 38).map (·.size)=some zs.size by rw[ezs,crA_size];exact cr_info)
 have HZ1:=Lib.hid (show zs.all (·.oneCell')=true by rw[ezs];exact crA_one _ _ _)
 obtain⟨W,eW⟩:∃W,W=(w.alloc (.cells #[.string ⟨p.1.toArray⟩,.string ⟨p.2.toArray⟩] 31)).alloc (.cells zs 38):=⟨_,rfl⟩
 have hb:Below w.heap.size w W:=eW▸((Below.refl _ _).alloc (Nat.le_refl _) _).alloc (by simp) _
 have HP:=Lib.hid (show Blk W w.heap.size 31 #[.string ⟨p.1.toArray⟩,.string ⟨p.2.toArray⟩] from eW▸(Blk.new w _ _).alloc _)
 have HZ:=Lib.hid (show Blk W (w.heap.size+1) 38 zs by have:=Blk.new (w.alloc (.cells #[.string ⟨p.1.toArray⟩,.string ⟨p.2.toArray⟩] 31)) 38 zs;simp only[World.size_alloc] at this;exact eW▸this)
 have HB:=Lib.hid hb
 have k0:W.cell? ⟨r,0,none⟩=some (.slice A0 n c0):=(hb.cell (p:=⟨r,0,none⟩) hrl).trans (hb0.cell 0)
 clear h hf hb hb0 hr eo en ezs hrl
 go_enter Try.func13,Try.ntmps13
 go_upto_region 1 with fail
 rw[←EZ2.out,←eW]
 clear eW EZ2
 go_wp2
 go_loopw [18] (fun iv wr=>∃i:Nat,i≤n∧iv = .int .i64 (i:Int)∧Below w.heap.size w wr∧Blk wr w.heap.size 31 #[.string ⟨p.1.toArray⟩,.string ⟨p.2.toArray⟩]∧Blk wr (w.heap.size+1) 38 zs∧∀j x,j<i→es[j]? = some x→hitG p t x.it=false) (fun iv _=>n - (intOf iv).toNat)
 case atStart=>exact⟨0,Nat.zero_le _,rfl,HB.out,HP.out,HZ.out,fun j x hj=>absurd hj (Nat.not_lt_zero _)⟩
 case round=>
  clear HB HP HZ k0
  obtain⟨i,hi,rfl,hb,hp,hz,hno⟩:=hrel
  have HB:=Lib.hid hb;have HP:=Lib.hid hp;have HZ:=Lib.hid hz;have HNO:=Lib.hid hno
  have HRR:=Lib.hid (HR.out.keep hb)
  clear hb hp hz hno
  by_cases hlt:i<n
  ·have e1:(i:Int)<(n:Int):=by omega
   have e2:(0:Int)≤(i:Int):=by omega
   obtain⟨x,hx⟩:∃x,es[i]? = some x:=⟨es[i]'(by rw[←EN.out];exact hlt),List.getElem?_eq_getElem _⟩
   obtain⟨g,rfl,hgN,hra⟩:=HRR.out.at_ hx
   rw[←enA_toList] at hra
   have HRA:=Lib.hid hra
   have his:=en_info
   rw[←enA_size x] at his
   have HIS:=Lib.hid his
   have H1X:=Lib.hid (enA_one x)
   have HX:=Lib.hid hx
   have HM:=Lib.hid (List.mem_of_getElem? hx)
   have CC:=Lib.hid (CX.out x HM.out)
   obtain⟨xs,exs⟩:∃xs,xs=crA x.x x.A x.c:=⟨_,rfl⟩
   rw[←exs] at CC
   have HXI:=Lib.hid (show(Try.prog.info? 38).map (·.size)=some xs.size by rw[exs,crA_size];exact cr_info)
   have EXS:=Lib.hid exs
   obtain⟨ds,eds⟩:∃ds,ds=enA x:=⟨_,rfl⟩
   rw[←eds] at HRA HIS H1X
   have EDS:=Lib.hid eds
   have HDS:=Lib.hid (show #[Value.string ⟨#[]⟩].size=1 from rfl)
   clear hra his hx eds exs
   have hhit:hitG p t x.it=(decide (x.p=p)&&decide (t≤x.x.e)):=rfl
   have HHIT:=Lib.hid hhit
   clear hhit
   by_cases hq:x.p=p
   ·have t1:=eql_pr_yes hq
    rw[decide_eq_true hq] at HHIT
    clear hq
    by_cases ht:t≤x.x.e
    ·have t2:decide (t≤x.x.e)=true:=decide_eq_true ht
     rw[t2] at HHIT
     clear ht
     go_wp2_with (first
      |(refine Wh.load_g (by rfl) 60 (.tmp 20) (by rfl) g _ (by rfl) ds _ HRA.out Try.underlying60 (by rfl) HIS.out ?_)
      |(refine Wh.store_new (by rfl) 60 (.tmp 9) (.tmp 21) (by rfl) 60 rfl ds (by rfl) (by rfl) (by rw[EDS.out,enA_size];rfl) HIS.out H1X.out ?_;rintro V hV hb;replace HB:=Lib.hid (HB.out.trans (hb.mono HB.out.size));replace HP:=Lib.hid (HP.out.below hb);replace HZ:=Lib.hid (HZ.out.below hb);have hen:=blk_en (EDS.out▸hV);have HEN:=Lib.hid hen;have HPR:=Lib.hid (Wh.range_blk HP.out);have ke:V.cell? ⟨wr.heap.size,38,none⟩=some (.int .i64 x.x.e):=en_end (o:=0) hen;have HCRED:=Lib.hid (en_cr hen);clear hV hb hen)
      |(refine Wh.load_g (by rfl) 31 (.tmp 22) (by rfl) _ 0 (by rfl) _ _ (en_pr HEN.out) Try.underlying31 (by rfl) pr_info ?_)
      |(refine Wh.load_g (by rfl) 31 (.tmp 4) (by rfl) _ 0 (by rfl) _ _ HPR.out Try.underlying31 (by rfl) pr_info ?_)
      |(refine Wh.load_g (by rfl) 38 (.tmp 33) (by rfl) _ 2 (by rfl) xs _ (by rw[EXS.out,crA_toList];exact HCRED.out) Try.underlying38 (by rfl) HXI.out ?_)
      |(go_at_call 22;refine Calls.mono (CC.out _ HB.out) ?_;rintro e w2 ⟨A',c',rfl,ho,hb⟩;have HNE:=Lib.hid (show ∀p,A'=some p→p.block≠w.heap.size+1 from fun p hp=>by have:=HZ.out.lt;have:=(ho.2 p hp).1;omega);replace HZ:=Lib.hid (HZ.out.below hb);have HO:=Lib.hid (ho.since HB.out.size);replace HB:=Lib.hid (HB.out.trans (hb.mono HB.out.size));obtain⟨rs,ers⟩:∃rs,rs=crA x.x A' c':=⟨_,rfl⟩;rw[←ers];have ERS:=Lib.hid ers;have HRS:=Lib.hid (show rs.size=37 by rw[ers,crA_size]);have HRI:=Lib.hid (show(Try.prog.info? 38).map (·.size)=some rs.size by rw[ers,crA_size];exact cr_info);have HR1:=Lib.hid (show rs.all (·.oneCell')=true by rw[ers];exact crA_one _ _ _);clear ho hb ers ke)
      |(refine Wh.store_over (by rfl) 38 (.tmp 6) (.tmp 35) (by rfl) (w.heap.size+1) 38 _ HZ.out rs (by rfl) (by rfl) (by rw[HZS.out,HRS.out]) HRI.out HR1.out ?_;rintro V2 hV2 hg;have HV:=Lib.hid hV2;replace HB:=Lib.hid (btg HB.out hg (by omega));replace HO:=Lib.hid (HO.out.chg (Chg.of_grown (S:=fun k=>k=w.heap.size+1) hg rfl) (fun p hp=>HNE.out p hp));clear hV2 hg)
      |fail)
     have ho:o=some x.it:=by
      rw[EO.out]
      refine getO_hit (its_at HX.out) (HHIT.out.trans rfl) (fun j y hj hy=>?_)
      obtain⟨e,he,rfl⟩:=its_of hy
      exact HNO.out j e hj he
     clear EO
     subst ho
     refine bodyPost_ret (v:=.tuple #[.agg rs,.bool true]) ?_ ?_ ?_
     ·exact results_pair 6 7 38 ⟨w.heap.size+1,0,none⟩ Try.results13 (by rfl) (Wh.load_blk HV.out Try.underlying38 (by rfl) HRI.out) (by rfl)
     ·rfl
     ·exact⟨A',c',by rw[ERS.out];rfl,HO.out,HB.out⟩
    ·have t2:decide (t≤x.x.e)=false:=decide_eq_false ht
     rw[t2] at HHIT
     clear ht
     go_wp2_with (first
      |(refine Wh.load_g (by rfl) 60 (.tmp 20) (by rfl) g _ (by rfl) ds _ HRA.out Try.underlying60 (by rfl) HIS.out ?_)
      |(refine Wh.store_new (by rfl) 60 (.tmp 9) (.tmp 21) (by rfl) 60 rfl ds (by rfl) (by rfl) (by rw[EDS.out,enA_size];rfl) HIS.out H1X.out ?_;rintro V hV hb;replace HB:=Lib.hid (HB.out.trans (hb.mono HB.out.size));replace HP:=Lib.hid (HP.out.below hb);replace HZ:=Lib.hid (HZ.out.below hb);have hen:=blk_en (EDS.out▸hV);have HEN:=Lib.hid hen;have HPR:=Lib.hid (Wh.range_blk HP.out);have ke:V.cell? ⟨wr.heap.size,38,none⟩=some (.int .i64 x.x.e):=en_end (o:=0) hen;have HCRED:=Lib.hid (en_cr hen);clear hV hb hen)
      |(refine Wh.load_g (by rfl) 31 (.tmp 22) (by rfl) _ 0 (by rfl) _ _ (en_pr HEN.out) Try.underlying31 (by rfl) pr_info ?_)
      |(refine Wh.load_g (by rfl) 31 (.tmp 4) (by rfl) _ 0 (by rfl) _ _ HPR.out Try.underlying31 (by rfl) pr_info ?_)
      |fail)
     go_roundw
     case rel=>exact⟨i+1,by omega,by go_num,HB.out,HP.out,HZ.out,fun j y hj hy=>by
      rcases Nat.lt_or_eq_of_le (Nat.le_of_lt_succ hj) with g | g
      ·exact HNO.out j y g hy
      ·rw[g,HX.out] at hy
       injection hy with hy
       rw[←hy]
       exact HHIT.out.trans rfl⟩
     case measure=>simp [intOf];omega
   ·have t1:=eql_pr_no hq
    rw[decide_eq_false hq] at HHIT
    clear hq
    go_wp2_with (first
     |(refine Wh.load_g (by rfl) 60 (.tmp 20) (by rfl) g _ (by rfl) ds _ HRA.out Try.underlying60 (by rfl) HIS.out ?_)
     |(refine Wh.store_new (by rfl) 60 (.tmp 9) (.tmp 21) (by rfl) 60 rfl ds (by rfl) (by rfl) (by rw[EDS.out,enA_size];rfl) HIS.out H1X.out ?_;rintro V hV hb;replace HB:=Lib.hid (HB.out.trans (hb.mono HB.out.size));replace HP:=Lib.hid (HP.out.below hb);replace HZ:=Lib.hid (HZ.out.below hb);have hen:=blk_en (EDS.out▸hV);have HEN:=Lib.hid hen;have HPR:=Lib.hid (Wh.range_blk HP.out);have ke:V.cell? ⟨wr.heap.size,38,none⟩=some (.int .i64 x.x.e):=en_end (o:=0) hen;have HCRED:=Lib.hid (en_cr hen);clear hV hb hen)
     |(refine Wh.load_g (by rfl) 31 (.tmp 22) (by rfl) _ 0 (by rfl) _ _ (en_pr HEN.out) Try.underlying31 (by rfl) pr_info ?_)
     |(refine Wh.load_g (by rfl) 31 (.tmp 4) (by rfl) _ 0 (by rfl) _ _ HPR.out Try.underlying31 (by rfl) pr_info ?_)
     |fail)
    go_roundw
    case rel=>exact⟨i+1,by omega,by go_num,HB.out,HP.out,HZ.out,fun j y hj hy=>by
     rcases Nat.lt_or_eq_of_le (Nat.le_of_lt_succ hj) with g | g
     ·exact HNO.out j y g hy
     ·rw[g,HX.out] at hy
      injection hy with hy
      rw[←hy]
      exact HHIT.out.trans rfl⟩
    case measure=>simp [intOf];omega
  ·have e1:¬(i:Int)<(n:Int):=by omega
   obtain rfl:n=i:=by omega
   have ho:o=none:=by
    rw[EO.out]
    refine getO_none (fun j y hj hy=>?_)
    rw[its_length,←EN.out] at hj
    obtain⟨e,he,rfl⟩:=its_of hy
    exact HNO.out j e hj he
   clear EO
   subst ho
   go_wp2_with (first
    |(refine Wh.store_over (by rfl) 38 (.tmp 6) (.tmp 37) (by rfl) (w.heap.size+1) 38 zs HZ.out (crA zeroX none 0) (by rfl) (by rfl) (by rw[HZS.out,crA_size]) (by rw[crA_size];exact cr_info) (crA_one _ _ _) ?_;rintro V2 hV2 hg;have HV:=Lib.hid hV2;replace HB:=Lib.hid (btg HB.out hg (by omega));clear hV2 hg)
    |fail)
   refine bodyPost_ret (v:=.tuple #[.agg (crA zeroX none 0),.bool false]) ?_ ?_ ?_
   ·exact results_pair 6 7 38 ⟨w.heap.size+1,0,none⟩ Try.results13 (by rfl) (Wh.load_blk HV.out Try.underlying38 (by rfl) (by rw[crA_size];exact cr_info)) (by rfl)
   ·rfl
   ·first
    |exact⟨none,⟨0,rfl⟩,Own1.none _ _,HB.out⟩
    |exact⟨none,0,rfl,Own1.none _ _,HB.out⟩
end Go.Proofs.Ytlacoakelliabaa.Ca
end
