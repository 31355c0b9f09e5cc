import Derived.Deep.RegionHeld3
import Derived.Deep.MidRow
import Derived.Deep.LoopGhost
import Derived.Test.YtfcjeebnkigeaaaGreatZKdcNonces1
import Derived.Test.YtfcjeebnkigeaaaGreatZKdcNonces2
import Derived.Test.YtfcjeebnkigeaaaGreatZKdcNonces7
import Derived.Test.YtfcjeebnkigeaaaGreatZKdcNonces8
import Derived.Test.YtfcjeebnkigeaaaGreatZKdcNonces9
import Derived.Test.YtfcjeebnkigeaaaGreatZKdcNonces12
import Derived.Test.YtfcjeebnkigeaaaGreatZKdcNonces13
import Derived.Test.YtfcjeebnkigeaaaGreatZKdcNonces14
import Derived.Test.YtfcjeebnkigeaaaGreatZKdcNonces15
section
set_option linter.unusedVariables false
set_option linter.unusedSimpArgs false
namespace Go.Proofs.YtfcjeebnkigeaaaGreat.Mc
open Go.RowKit Go.Proofs.YtfcjeebnkigeaaaGreat.Mem Go.Proofs.YtfcjeebnkigeaaaGreat.DerP Go.Proofs.YtfcjeebnkigeaaaGreat.DerR Go.Proofs.YtfcjeebnkigeaaaGreat.Ms
theorem elem_pos (t:UInt8) (p:L):0<(elem t p).length:=by rw[length_elem];omega
theorem ltext_any (l:L) (w:World) (hl:l.length≤65535):Calls Tryz.prog 220 #[.string ⟨l.toArray⟩] w (Gives w (elem 27 l)):=
 (DerW.text_any l w hl).mono fun e w' h=>by obtain⟨v,rfl,h1,h2⟩:=h;exact gives_own h1 (elem_pos _ _) h2
theorem lint_any (n:Int) (w:World):Calls Tryz.prog 221 #[.int .i64 n] w (Gives w (encI n)):=
 (DerW.int_any n w).mono fun e w' h=>by obtain⟨v,rfl,h1,h2⟩:=h;exact gives_own h1 (elem_pos _ _) h2
theorem loctets_any (l:L) (A:Option Addr) (n c B:Nat) (w:World) (hr:Rd w B A (bvs l)) (hn:n=l.length) (hB:B≤w.heap.size) (hl:l.length≤65535):Calls Tryz.prog 219 #[.slice A n c] w (Gives w (elem 4 l)):=
 (DerW.octets_any l A n c B w hr hn hB hl).mono fun e w' h=>by obtain⟨v,rfl,h1,h2⟩:=h;exact gives_own h1 (elem_pos _ _) h2
theorem lwrap_any (t:UInt8) (ls:List L) (A:Option Addr) (m c B:Nat) (w:World) (hr:DerW.Rds w B A ls) (hm:m=ls.length) (hB:B≤w.heap.size) (hl:ls.flatten.length≤65535) (hc:ls.length≤1000000) :
  Calls Tryz.prog 217 #[.int .u8 t.toNat,.slice A m c] w (Gives w (elem t ls.flatten)):=
 (DerW.wrap_any t ls A m c B w hr hm hB hl hc).mono fun e w' h=>by obtain⟨v,rfl,h1,h2⟩:=h;exact gives_own h1 (elem_pos _ _) h2
set_option maxHeartbeats 3200000 in
theorem layprinc_any (p:Pr) (w:World) (hp:prB p=true):Calls Tryz.prog 218 #[.agg #[.string ⟨p.1.toArray⟩,.string ⟨p.2.toArray⟩]] w (Gives w (prE p)):=by
 have HB:=Lib.hid ((Below.refl w.heap.size w).alloc (Nat.le_refl _) (.cells #[.string ⟨p.1.toArray⟩,.string ⟨p.2.toArray⟩] 27))
 have HK:=Lib.hid (Blk.new w 27 #[.string ⟨p.1.toArray⟩,.string ⟨p.2.toArray⟩])
 have b1:=pr_len hp
 have b2:=elem_len 27 p.1
 have b3:=elem_len 27 p.2
 have T1:=Lib.hid (fun w1=>ltext_any p.1 w1 (by omega))
 have T2:=Lib.hid (fun w1=>ltext_any p.2 w1 (by omega))
 have HL:=Lib.hid (show [elem 27 p.1,elem 27 p.2].flatten.length≤65535 by rw[flat2];simp only[List.length_append];omega)
 have HE:=Lib.hid (show prE p=elem 48 [elem 27 p.1,elem 27 p.2].flatten from rfl)
 obtain⟨l1,el1⟩:∃l,l=elem 27 p.1:=⟨_,rfl⟩
 obtain⟨l2,el2⟩:∃l,l=elem 27 p.2:=⟨_,rfl⟩
 rw[←el1] at T1 HL HE
 rw[←el2] at T2 HL HE
 rw[HE.out,flat2]
 clear HE el1 el2 b1 b2 b3 hp
 go_enter Tryz.func218,Tryz.ntmps218
 go_wp2
 obtain⟨W,eW⟩:∃W,W=w.alloc (.cells #[.string ⟨p.1.toArray⟩,.string ⟨p.2.toArray⟩] 27):=⟨_,rfl⟩
 rw[←eW] at HB HK⊢
 clear eW
 replace HK:=Lib.hid (show Blk W.drew _ _ _ from HK.out.drewN 1)
 replace HB:=Lib.hid (show Below _ _ W.drew from below_drewN HB.out 1)
 go_region_held3 (fun w'=>w'.cell? ⟨w.heap.size,0,none⟩=some (.string ⟨p.1.toArray⟩)∧w'.cell? ⟨w.heap.size,1,none⟩=some (.string ⟨p.2.toArray⟩)) (first | exact⟨HK.out.cell 0,HK.out.cell 1⟩ | exact⟨(HK.out.alloc _).cell 0,(HK.out.alloc _).cell 1⟩) ((first
  |(go_at_call 220;(with_reducible refine Calls.mono (T1.out _) ?_);rintro e w1 ⟨⟨g1,c1,rfl,hg1,hc1,hr1⟩,hb⟩;clear T1;have HR1:=Lib.hid hr1;replace HK:=Lib.hid (HK.out.below hb);replace HB:=Lib.hid (HB.out.trans (hb.mono HB.out.size));clear hb hr1 hg1 hc1)
  |(go_at_call 220;(with_reducible refine Calls.mono (T2.out _) ?_);rintro e w2 ⟨⟨g2,c2,rfl,hg2,hc2,hr2⟩,hb⟩;clear T2;replace HR1:=Lib.hid (rd_on HR1.out hb);have HR2:=Lib.hid hr2;replace HK:=Lib.hid (HK.out.below hb);replace HB:=Lib.hid (HB.out.trans (hb.mono HB.out.size));clear hb hr2 hg2 hc2)
  |(go_at_call 217;refine Calls.mono (lwrap_any 48 [l1,l2] _ 2 2 (w2.heap.size+1) _ (lay_two HR1.out HR2.out) rfl (by simp) HL.out (by simp)) ?_;rintro e wz ⟨⟨gz,cz,rfl,hgz,hcz,hrz⟩,hb⟩;have hal:=(Below.refl w2.heap.size w2).alloc (Nat.le_refl _) (.cells #[.slice (some ⟨g1,0,none⟩) l1.length c1,.slice (some ⟨g2,0,none⟩) l2.length c2] 30);have HG:=Lib.hid (gives_on (l:=elem 48 [l1,l2].flatten) ⟨⟨gz,cz,rfl,hgz,hcz,hrz⟩,hb⟩ (HB.out.trans (hal.mono HB.out.size)));rw[flat2] at HG;replace HK:=Lib.hid ((HK.out.alloc (.cells #[.slice (some ⟨g1,0,none⟩) l1.length c1,.slice (some ⟨g2,0,none⟩) l2.length c2] 30)).below hb);clear hal hgz hcz hrz hb)))
 go_wp2
 go_ret
 exact HG.out
set_option maxHeartbeats 3200000 in
theorem layticket_any (t:Tk) (A:Option Addr) (c:Nat) (w:World) (ht:tkB t=true) (hr:Rd w w.heap.size A (bvs t.b)):Calls Tryz.prog 253 #[.agg #[.string ⟨t.s.1.toArray⟩,.string ⟨t.s.2.toArray⟩,.int .i64 t.k,.slice A t.b.length c]] w (Gives w (tkE t)):=by
 have HB:=Lib.hid ((Below.refl w.heap.size w).alloc (Nat.le_refl _) (.cells #[.string ⟨t.s.1.toArray⟩,.string ⟨t.s.2.toArray⟩,.int .i64 t.k,.slice A t.b.length c] 32))
 have HK:=Lib.hid (Blk.new w 32 #[.string ⟨t.s.1.toArray⟩,.string ⟨t.s.2.toArray⟩,.int .i64 t.k,.slice A t.b.length c])
 have hp:=tk_parts ht
 have b1:=(prE_len hp.1).1
 have b2:=encI_le t.k
 have b3:=elem_len 4 t.b
 have T1:=Lib.hid (fun w1=>layprinc_any t.s w1 hp.1)
 have T2:=Lib.hid (fun w1=>lint_any t.k w1)
 have T3:=Lib.hid (fun w1 (h:Below w.heap.size w w1)=>loctets_any t.b A t.b.length c w1.heap.size w1 ((hr.below h).more h.size) rfl (Nat.le_refl _) (by omega))
 have HL:=Lib.hid (show [prE t.s,encI t.k,elem 4 t.b].flatten.length≤65535 by rw[flat3];simp only[List.length_append];omega)
 have HE:=Lib.hid (show tkE t=elem 97 [prE t.s,encI t.k,elem 4 t.b].flatten from rfl)
 obtain⟨l1,el1⟩:∃l,l=prE t.s:=⟨_,rfl⟩
 obtain⟨l2,el2⟩:∃l,l=encI t.k:=⟨_,rfl⟩
 obtain⟨l3,el3⟩:∃l,l=elem 4 t.b:=⟨_,rfl⟩
 rw[←el1] at T1 HL HE
 rw[←el2] at T2 HL HE
 rw[←el3] at T3 HL HE
 rw[HE.out,flat3]
 clear HE el1 el2 el3 hp b1 b2 b3 ht hr
 go_enter Tryz.func253,Tryz.ntmps253
 go_wp2
 obtain⟨W,eW⟩:∃W,W=w.alloc (.cells #[.string ⟨t.s.1.toArray⟩,.string ⟨t.s.2.toArray⟩,.int .i64 t.k,.slice A t.b.length c] 32):=⟨_,rfl⟩
 rw[←eW] at HB HK⊢
 clear eW
 replace HK:=Lib.hid (show Blk W.drew _ _ _ from HK.out.drewN 1)
 replace HB:=Lib.hid (show Below _ _ W.drew from below_drewN HB.out 1)
 go_region_held3 (fun w'=>w'.cell? ⟨w.heap.size,0,none⟩=some (.string ⟨t.s.1.toArray⟩)∧w'.cell? ⟨w.heap.size,1,none⟩=some (.string ⟨t.s.2.toArray⟩)∧w'.cell? ⟨w.heap.size,2,none⟩=some (.int .i64 t.k)∧w'.cell? ⟨w.heap.size,3,none⟩=some (.slice A t.b.length c)) (first | exact⟨HK.out.cell 0,HK.out.cell 1,HK.out.cell 2,HK.out.cell 3⟩ | exact⟨(HK.out.alloc _).cell 0,(HK.out.alloc _).cell 1,(HK.out.alloc _).cell 2,(HK.out.alloc _).cell 3⟩) ((first
  |(go_at_call 218;(with_reducible refine Calls.mono (T1.out _) ?_);rintro e w1 ⟨⟨g1,c1,rfl,hg1,hc1,hr1⟩,hb⟩;clear T1;have HR1:=Lib.hid hr1;replace HK:=Lib.hid (HK.out.below hb);replace HB:=Lib.hid (HB.out.trans (hb.mono HB.out.size));clear hb hr1 hg1 hc1)
  |(go_at_call 221;(with_reducible refine Calls.mono (T2.out _) ?_);rintro e w2 ⟨⟨g2,c2,rfl,hg2,hc2,hr2⟩,hb⟩;clear T2;replace HR1:=Lib.hid (rd_on HR1.out hb);have HR2:=Lib.hid hr2;replace HK:=Lib.hid (HK.out.below hb);replace HB:=Lib.hid (HB.out.trans (hb.mono HB.out.size));clear hb hr2 hg2 hc2)
  |(go_at_call 219;(with_reducible refine Calls.mono (T3.out _ HB.out) ?_);rintro e w3 ⟨⟨g3,c3,rfl,hg3,hc3,hr3⟩,hb⟩;clear T3;replace HR1:=Lib.hid (rd_on HR1.out hb);replace HR2:=Lib.hid (rd_on HR2.out hb);have HR3:=Lib.hid hr3;replace HK:=Lib.hid (HK.out.below hb);replace HB:=Lib.hid (HB.out.trans (hb.mono HB.out.size));clear hb hr3 hg3 hc3)
  |(go_at_call 217;refine Calls.mono (lwrap_any 97 [l1,l2,l3] _ 3 3 (w3.heap.size+1) _ (lay_three HR1.out HR2.out HR3.out) rfl (by simp) HL.out (by simp)) ?_;rintro e wz ⟨⟨gz,cz,rfl,hgz,hcz,hrz⟩,hb⟩;have hal:=(Below.refl w3.heap.size w3).alloc (Nat.le_refl _) (.cells #[.slice (some ⟨g1,0,none⟩) l1.length c1,.slice (some ⟨g2,0,none⟩) l2.length c2,.slice (some ⟨g3,0,none⟩) l3.length c3] 30);have HG:=Lib.hid (gives_on (l:=elem 97 [l1,l2,l3].flatten) ⟨⟨gz,cz,rfl,hgz,hcz,hrz⟩,hb⟩ (HB.out.trans (hal.mono HB.out.size)));rw[flat3] at HG;replace HK:=Lib.hid ((HK.out.alloc (.cells #[.slice (some ⟨g1,0,none⟩) l1.length c1,.slice (some ⟨g2,0,none⟩) l2.length c2,.slice (some ⟨g3,0,none⟩) l3.length c3] 30)).below hb);clear hal hgz hcz hrz hb)))
 go_wp2
 go_ret
 exact HG.out
set_option maxHeartbeats 3200000 in
theorem layas_any (q:As) (w:World) (ha:asB q=true):Calls Tryz.prog 196 #[.agg #[.string ⟨q.c.1.toArray⟩,.string ⟨q.c.2.toArray⟩,.string ⟨q.s.1.toArray⟩,.string ⟨q.s.2.toArray⟩,.int .i64 q.t,.int .i64 q.no]] w (Gives w (asE q)):=by
 have HB:=Lib.hid ((Below.refl w.heap.size w).alloc (Nat.le_refl _) (.cells #[.string ⟨q.c.1.toArray⟩,.string ⟨q.c.2.toArray⟩,.string ⟨q.s.1.toArray⟩,.string ⟨q.s.2.toArray⟩,.int .i64 q.t,.int .i64 q.no] 29))
 have HK:=Lib.hid (Blk.new w 29 #[.string ⟨q.c.1.toArray⟩,.string ⟨q.c.2.toArray⟩,.string ⟨q.s.1.toArray⟩,.string ⟨q.s.2.toArray⟩,.int .i64 q.t,.int .i64 q.no])
 have hp:prB q.c=true∧prB q.s=true∧tmB q.t=true∧tmB q.no=true:=by simpa [asB] using ha
 have b1:=(prE_len hp.1).1
 have b2:=(prE_len hp.2.1).1
 have b3:=encI_le q.t
 have b4:=encI_le q.no
 have T1:=Lib.hid (fun w1=>layprinc_any q.c w1 hp.1)
 have T2:=Lib.hid (fun w1=>layprinc_any q.s w1 hp.2.1)
 have T3:=Lib.hid (fun w1=>lint_any q.t w1)
 have T4:=Lib.hid (fun w1=>lint_any q.no w1)
 have HL:=Lib.hid (show [prE q.c,prE q.s,encI q.t,encI q.no].flatten.length≤65535 by rw[flat4];simp only[List.length_append];omega)
 have HE:=Lib.hid (show asE q=elem 106 [prE q.c,prE q.s,encI q.t,encI q.no].flatten from rfl)
 obtain⟨l1,el1⟩:∃l,l=prE q.c:=⟨_,rfl⟩
 obtain⟨l2,el2⟩:∃l,l=prE q.s:=⟨_,rfl⟩
 obtain⟨l3,el3⟩:∃l,l=encI q.t:=⟨_,rfl⟩
 obtain⟨l4,el4⟩:∃l,l=encI q.no:=⟨_,rfl⟩
 rw[←el1] at T1 HL HE
 rw[←el2] at T2 HL HE
 rw[←el3] at T3 HL HE
 rw[←el4] at T4 HL HE
 rw[HE.out,flat4]
 clear HE el1 el2 el3 el4 hp b1 b2 b3 b4 ha
 go_enter Tryz.func196,Tryz.ntmps196
 go_wp2
 obtain⟨W,eW⟩:∃W,W=w.alloc (.cells #[.string ⟨q.c.1.toArray⟩,.string ⟨q.c.2.toArray⟩,.string ⟨q.s.1.toArray⟩,.string ⟨q.s.2.toArray⟩,.int .i64 q.t,.int .i64 q.no] 29):=⟨_,rfl⟩
 rw[←eW] at HB HK⊢
 clear eW
 replace HK:=Lib.hid (show Blk W.drew _ _ _ from HK.out.drewN 1)
 replace HB:=Lib.hid (show Below _ _ W.drew from below_drewN HB.out 1)
 go_region_held3 (fun w'=>w'.cell? ⟨w.heap.size,0,none⟩=some (.string ⟨q.c.1.toArray⟩)∧w'.cell? ⟨w.heap.size,1,none⟩=some (.string ⟨q.c.2.toArray⟩)∧w'.cell? ⟨w.heap.size,2,none⟩=some (.string ⟨q.s.1.toArray⟩)∧w'.cell? ⟨w.heap.size,3,none⟩=some (.string ⟨q.s.2.toArray⟩)∧w'.cell? ⟨w.heap.size,4,none⟩=some (.int .i64 q.t)∧w'.cell? ⟨w.heap.size,5,none⟩=some (.int .i64 q.no)) (first | exact⟨HK.out.cell 0,HK.out.cell 1,HK.out.cell 2,HK.out.cell 3,HK.out.cell 4,HK.out.cell 5⟩ | exact⟨(HK.out.alloc _).cell 0,(HK.out.alloc _).cell 1,(HK.out.alloc _).cell 2,(HK.out.alloc _).cell 3,(HK.out.alloc _).cell 4,(HK.out.alloc _).cell 5⟩) ((first
  |(go_at_call 218;(with_reducible refine Calls.mono (T1.out _) ?_);rintro e w1 ⟨⟨g1,c1,rfl,hg1,hc1,hr1⟩,hb⟩;clear T1;have HR1:=Lib.hid hr1;replace HK:=Lib.hid (HK.out.below hb);replace HB:=Lib.hid (HB.out.trans (hb.mono HB.out.size));clear hb hr1 hg1 hc1)
  |(go_at_call 218;(with_reducible refine Calls.mono (T2.out _) ?_);rintro e w2 ⟨⟨g2,c2,rfl,hg2,hc2,hr2⟩,hb⟩;clear T2;replace HR1:=Lib.hid (rd_on HR1.out hb);have HR2:=Lib.hid hr2;replace HK:=Lib.hid (HK.out.below hb);replace HB:=Lib.hid (HB.out.trans (hb.mono HB.out.size));clear hb hr2 hg2 hc2)
  |(go_at_call 221;(with_reducible refine Calls.mono (T3.out _) ?_);rintro e w3 ⟨⟨g3,c3,rfl,hg3,hc3,hr3⟩,hb⟩;clear T3;replace HR1:=Lib.hid (rd_on HR1.out hb);replace HR2:=Lib.hid (rd_on HR2.out hb);have HR3:=Lib.hid hr3;replace HK:=Lib.hid (HK.out.below hb);replace HB:=Lib.hid (HB.out.trans (hb.mono HB.out.size));clear hb hr3 hg3 hc3)
  |(go_at_call 221;(with_reducible refine Calls.mono (T4.out _) ?_);rintro e w4 ⟨⟨g4,c4,rfl,hg4,hc4,hr4⟩,hb⟩;clear T4;replace HR1:=Lib.hid (rd_on HR1.out hb);replace HR2:=Lib.hid (rd_on HR2.out hb);replace HR3:=Lib.hid (rd_on HR3.out hb);have HR4:=Lib.hid hr4;replace HK:=Lib.hid (HK.out.below hb);replace HB:=Lib.hid (HB.out.trans (hb.mono HB.out.size));clear hb hr4 hg4 hc4)
  |(go_at_call 217;refine Calls.mono (lwrap_any 106 [l1,l2,l3,l4] _ 4 4 (w4.heap.size+1) _ (lay_four HR1.out HR2.out HR3.out HR4.out) rfl (by simp) HL.out (by simp)) ?_;rintro e wz ⟨⟨gz,cz,rfl,hgz,hcz,hrz⟩,hb⟩;have hal:=(Below.refl w4.heap.size w4).alloc (Nat.le_refl _) (.cells #[.slice (some ⟨g1,0,none⟩) l1.length c1,.slice (some ⟨g2,0,none⟩) l2.length c2,.slice (some ⟨g3,0,none⟩) l3.length c3,.slice (some ⟨g4,0,none⟩) l4.length c4] 30);have HG:=Lib.hid (gives_on (l:=elem 106 [l1,l2,l3,l4].flatten) ⟨⟨gz,cz,rfl,hgz,hcz,hrz⟩,hb⟩ (HB.out.trans (hal.mono HB.out.size)));rw[flat4] at HG;replace HK:=Lib.hid ((HK.out.alloc (.cells #[.slice (some ⟨g1,0,none⟩) l1.length c1,.slice (some ⟨g2,0,none⟩) l2.length c2,.slice (some ⟨g3,0,none⟩) l3.length c3,.slice (some ⟨g4,0,none⟩) l4.length c4] 30)).below hb);clear hal hgz hcz hrz hb)))
 go_wp2
 go_ret
 exact HG.out
set_option maxHeartbeats 3200000 in
theorem laytg_any (q:Tg) (A1 A2:Option Addr) (c1 c2:Nat) (w:World) (ha:tgB q=true) (hr1:Rd w w.heap.size A1 (bvs q.t.b)) (hr2:Rd w w.heap.size A2 (bvs q.a)):Calls Tryz.prog 197 #[.agg #[.string ⟨q.t.s.1.toArray⟩,.string ⟨q.t.s.2.toArray⟩,.int .i64 q.t.k,.slice A1 q.t.b.length c1,.slice A2 q.a.length c2,.string ⟨q.s.1.toArray⟩,.string ⟨q.s.2.toArray⟩,.int .i64 q.u,.int .i64 q.no]] w (Gives w (tgE q)):=by
 have HB:=Lib.hid ((Below.refl w.heap.size w).alloc (Nat.le_refl _) (.cells #[.string ⟨q.t.s.1.toArray⟩,.string ⟨q.t.s.2.toArray⟩,.int .i64 q.t.k,.slice A1 q.t.b.length c1,.slice A2 q.a.length c2,.string ⟨q.s.1.toArray⟩,.string ⟨q.s.2.toArray⟩,.int .i64 q.u,.int .i64 q.no] 34))
 have HK:=Lib.hid (Blk.new w 34 #[.string ⟨q.t.s.1.toArray⟩,.string ⟨q.t.s.2.toArray⟩,.int .i64 q.t.k,.slice A1 q.t.b.length c1,.slice A2 q.a.length c2,.string ⟨q.s.1.toArray⟩,.string ⟨q.s.2.toArray⟩,.int .i64 q.u,.int .i64 q.no])
 have hp:tkB q.t=true∧blobB q.a=true∧prB q.s=true∧tmB q.u=true∧tmB q.no=true:=by simpa [tgB] using ha
 have b1:=(tkE_len hp.1).1
 have b2:=elem_len 4 q.a
 have b3:=(prE_len hp.2.2.1).1
 have b4:=encI_le q.u
 have b5:=encI_le q.no
 have b6:=blob_parts hp.2.1
 have T1:=Lib.hid (fun w1 (h:Below w.heap.size w w1)=>layticket_any q.t A1 c1 w1 hp.1 ((hr1.below h).more h.size))
 have T2:=Lib.hid (fun w1 (h:Below w.heap.size w w1)=>loctets_any q.a A2 q.a.length c2 w1.heap.size w1 ((hr2.below h).more h.size) rfl (Nat.le_refl _) (by omega))
 have T3:=Lib.hid (fun w1=>layprinc_any q.s w1 hp.2.2.1)
 have T4:=Lib.hid (fun w1=>lint_any q.u w1)
 have T5:=Lib.hid (fun w1=>lint_any q.no w1)
 have HL:=Lib.hid (show [tkE q.t,elem 4 q.a,prE q.s,encI q.u,encI q.no].flatten.length≤65535 by rw[flat5];simp only[List.length_append];omega)
 have HE:=Lib.hid (show tgE q=elem 108 [tkE q.t,elem 4 q.a,prE q.s,encI q.u,encI q.no].flatten from rfl)
 obtain⟨l1,el1⟩:∃l,l=tkE q.t:=⟨_,rfl⟩
 obtain⟨l2,el2⟩:∃l,l=elem 4 q.a:=⟨_,rfl⟩
 obtain⟨l3,el3⟩:∃l,l=prE q.s:=⟨_,rfl⟩
 obtain⟨l4,el4⟩:∃l,l=encI q.u:=⟨_,rfl⟩
 obtain⟨l5,el5⟩:∃l,l=encI q.no:=⟨_,rfl⟩
 rw[←el1] at T1 HL HE
 rw[←el2] at T2 HL HE
 rw[←el3] at T3 HL HE
 rw[←el4] at T4 HL HE
 rw[←el5] at T5 HL HE
 rw[HE.out,flat5]
 clear HE el1 el2 el3 el4 el5 hp b1 b2 b3 b4 b5 b6 ha hr1 hr2
 go_enter Tryz.func197,Tryz.ntmps197
 go_wp2
 obtain⟨W,eW⟩:∃W,W=w.alloc (.cells #[.string ⟨q.t.s.1.toArray⟩,.string ⟨q.t.s.2.toArray⟩,.int .i64 q.t.k,.slice A1 q.t.b.length c1,.slice A2 q.a.length c2,.string ⟨q.s.1.toArray⟩,.string ⟨q.s.2.toArray⟩,.int .i64 q.u,.int .i64 q.no] 34):=⟨_,rfl⟩
 rw[←eW] at HB HK⊢
 clear eW
 replace HK:=Lib.hid (show Blk W.drew _ _ _ from HK.out.drewN 1)
 replace HB:=Lib.hid (show Below _ _ W.drew from below_drewN HB.out 1)
 go_region_held3 (fun w'=>w'.cell? ⟨w.heap.size,0,none⟩=some (.string ⟨q.t.s.1.toArray⟩)∧w'.cell? ⟨w.heap.size,1,none⟩=some (.string ⟨q.t.s.2.toArray⟩)∧w'.cell? ⟨w.heap.size,2,none⟩=some (.int .i64 q.t.k)∧w'.cell? ⟨w.heap.size,3,none⟩=some (.slice A1 q.t.b.length c1)∧w'.cell? ⟨w.heap.size,4,none⟩=some (.slice A2 q.a.length c2)∧w'.cell? ⟨w.heap.size,5,none⟩=some (.string ⟨q.s.1.toArray⟩)∧w'.cell? ⟨w.heap.size,6,none⟩=some (.string ⟨q.s.2.toArray⟩)∧w'.cell? ⟨w.heap.size,7,none⟩=some (.int .i64 q.u)∧w'.cell? ⟨w.heap.size,8,none⟩=some (.int .i64 q.no)) (first | exact⟨HK.out.cell 0,HK.out.cell 1,HK.out.cell 2,HK.out.cell 3,HK.out.cell 4,HK.out.cell 5,HK.out.cell 6,HK.out.cell 7,HK.out.cell 8⟩ | exact⟨(HK.out.alloc _).cell 0,(HK.out.alloc _).cell 1,(HK.out.alloc _).cell 2,(HK.out.alloc _).cell 3,(HK.out.alloc _).cell 4,(HK.out.alloc _).cell 5,(HK.out.alloc _).cell 6,(HK.out.alloc _).cell 7,(HK.out.alloc _).cell 8⟩) ((first
  |(go_at_call 253;(with_reducible refine Calls.mono (T1.out _ HB.out) ?_);rintro e w1 ⟨⟨g1,c1,rfl,hg1,hc1,hr1⟩,hb⟩;clear T1;have HR1:=Lib.hid hr1;replace HK:=Lib.hid (HK.out.below hb);replace HB:=Lib.hid (HB.out.trans (hb.mono HB.out.size));clear hb hr1 hg1 hc1)
  |(go_at_call 219;(with_reducible refine Calls.mono (T2.out _ HB.out) ?_);rintro e w2 ⟨⟨g2,c2,rfl,hg2,hc2,hr2⟩,hb⟩;clear T2;replace HR1:=Lib.hid (rd_on HR1.out hb);have HR2:=Lib.hid hr2;replace HK:=Lib.hid (HK.out.below hb);replace HB:=Lib.hid (HB.out.trans (hb.mono HB.out.size));clear hb hr2 hg2 hc2)
  |(go_at_call 218;(with_reducible refine Calls.mono (T3.out _) ?_);rintro e w3 ⟨⟨g3,c3,rfl,hg3,hc3,hr3⟩,hb⟩;clear T3;replace HR1:=Lib.hid (rd_on HR1.out hb);replace HR2:=Lib.hid (rd_on HR2.out hb);have HR3:=Lib.hid hr3;replace HK:=Lib.hid (HK.out.below hb);replace HB:=Lib.hid (HB.out.trans (hb.mono HB.out.size));clear hb hr3 hg3 hc3)
  |(go_at_call 221;(with_reducible refine Calls.mono (T4.out _) ?_);rintro e w4 ⟨⟨g4,c4,rfl,hg4,hc4,hr4⟩,hb⟩;clear T4;replace HR1:=Lib.hid (rd_on HR1.out hb);replace HR2:=Lib.hid (rd_on HR2.out hb);replace HR3:=Lib.hid (rd_on HR3.out hb);have HR4:=Lib.hid hr4;replace HK:=Lib.hid (HK.out.below hb);replace HB:=Lib.hid (HB.out.trans (hb.mono HB.out.size));clear hb hr4 hg4 hc4)
  |(go_at_call 221;(with_reducible refine Calls.mono (T5.out _) ?_);rintro e w5 ⟨⟨g5,c5,rfl,hg5,hc5,hr5⟩,hb⟩;clear T5;replace HR1:=Lib.hid (rd_on HR1.out hb);replace HR2:=Lib.hid (rd_on HR2.out hb);replace HR3:=Lib.hid (rd_on HR3.out hb);replace HR4:=Lib.hid (rd_on HR4.out hb);have HR5:=Lib.hid hr5;replace HK:=Lib.hid (HK.out.below hb);replace HB:=Lib.hid (HB.out.trans (hb.mono HB.out.size));clear hb hr5 hg5 hc5)
  |(go_at_call 217;refine Calls.mono (lwrap_any 108 [l1,l2,l3,l4,l5] _ 5 5 (w5.heap.size+1) _ (lay_five HR1.out HR2.out HR3.out HR4.out HR5.out) rfl (by simp) HL.out (by simp)) ?_;rintro e wz ⟨⟨gz,cz,rfl,hgz,hcz,hrz⟩,hb⟩;have hal:=(Below.refl w5.heap.size w5).alloc (Nat.le_refl _) (.cells #[.slice (some ⟨g1,0,none⟩) l1.length c1,.slice (some ⟨g2,0,none⟩) l2.length c2,.slice (some ⟨g3,0,none⟩) l3.length c3,.slice (some ⟨g4,0,none⟩) l4.length c4,.slice (some ⟨g5,0,none⟩) l5.length c5] 30);have HG:=Lib.hid (gives_on (l:=elem 108 [l1,l2,l3,l4,l5].flatten) ⟨⟨gz,cz,rfl,hgz,hcz,hrz⟩,hb⟩ (HB.out.trans (hal.mono HB.out.size)));rw[flat5] at HG;replace HK:=Lib.hid ((HK.out.alloc (.cells #[.slice (some ⟨g1,0,none⟩) l1.length c1,.slice (some ⟨g2,0,none⟩) l2.length c2,.slice (some ⟨g3,0,none⟩) l3.length c3,.slice (some ⟨g4,0,none⟩) l4.length c4,.slice (some ⟨g5,0,none⟩) l5.length c5] 30)).below hb);clear hal hgz hcz hrz hb)))
 go_wp2
 go_ret
 exact HG.out
set_option maxHeartbeats 3200000 in
theorem layre_any (q:Re) (A1 A2:Option Addr) (c1 c2:Nat) (w:World) (ha:reB q=true) (hr1:Rd w w.heap.size A1 (bvs q.t.b)) (hr2:Rd w w.heap.size A2 (bvs q.b)):Calls Tryz.prog 198 #[.agg #[.string ⟨q.c.1.toArray⟩,.string ⟨q.c.2.toArray⟩,.string ⟨q.t.s.1.toArray⟩,.string ⟨q.t.s.2.toArray⟩,.int .i64 q.t.k,.slice A1 q.t.b.length c1,.slice A2 q.b.length c2]] w (Gives w (reE q)):=by
 have HB:=Lib.hid ((Below.refl w.heap.size w).alloc (Nat.le_refl _) (.cells #[.string ⟨q.c.1.toArray⟩,.string ⟨q.c.2.toArray⟩,.string ⟨q.t.s.1.toArray⟩,.string ⟨q.t.s.2.toArray⟩,.int .i64 q.t.k,.slice A1 q.t.b.length c1,.slice A2 q.b.length c2] 38))
 have HK:=Lib.hid (Blk.new w 38 #[.string ⟨q.c.1.toArray⟩,.string ⟨q.c.2.toArray⟩,.string ⟨q.t.s.1.toArray⟩,.string ⟨q.t.s.2.toArray⟩,.int .i64 q.t.k,.slice A1 q.t.b.length c1,.slice A2 q.b.length c2])
 have hp:prB q.c=true∧tkB q.t=true∧blobB q.b=true:=by simpa [reB] using ha
 have b1:=(prE_len hp.1).1
 have b2:=(tkE_len hp.2.1).1
 have b3:=elem_len 4 q.b
 have b6:=blob_parts hp.2.2
 have T1:=Lib.hid (fun w1=>layprinc_any q.c w1 hp.1)
 have T2:=Lib.hid (fun w1 (h:Below w.heap.size w w1)=>layticket_any q.t A1 c1 w1 hp.2.1 ((hr1.below h).more h.size))
 have T3:=Lib.hid (fun w1 (h:Below w.heap.size w w1)=>loctets_any q.b A2 q.b.length c2 w1.heap.size w1 ((hr2.below h).more h.size) rfl (Nat.le_refl _) (by omega))
 have HL:=Lib.hid (show [prE q.c,tkE q.t,elem 4 q.b].flatten.length≤65535 by rw[flat3];simp only[List.length_append];omega)
 have HE:=Lib.hid (show reE q=elem 107 [prE q.c,tkE q.t,elem 4 q.b].flatten from rfl)
 obtain⟨l1,el1⟩:∃l,l=prE q.c:=⟨_,rfl⟩
 obtain⟨l2,el2⟩:∃l,l=tkE q.t:=⟨_,rfl⟩
 obtain⟨l3,el3⟩:∃l,l=elem 4 q.b:=⟨_,rfl⟩
 rw[←el1] at T1 HL HE
 rw[←el2] at T2 HL HE
 rw[←el3] at T3 HL HE
 rw[HE.out,flat3]
 clear HE el1 el2 el3 hp b1 b2 b3 b6 ha hr1 hr2
 go_enter Tryz.func198,Tryz.ntmps198
 go_wp2
 obtain⟨W,eW⟩:∃W,W=w.alloc (.cells #[.string ⟨q.c.1.toArray⟩,.string ⟨q.c.2.toArray⟩,.string ⟨q.t.s.1.toArray⟩,.string ⟨q.t.s.2.toArray⟩,.int .i64 q.t.k,.slice A1 q.t.b.length c1,.slice A2 q.b.length c2] 38):=⟨_,rfl⟩
 rw[←eW] at HB HK⊢
 clear eW
 replace HK:=Lib.hid (show Blk W.drew _ _ _ from HK.out.drewN 1)
 replace HB:=Lib.hid (show Below _ _ W.drew from below_drewN HB.out 1)
 go_region_held3 (fun w'=>w'.cell? ⟨w.heap.size,0,none⟩=some (.string ⟨q.c.1.toArray⟩)∧w'.cell? ⟨w.heap.size,1,none⟩=some (.string ⟨q.c.2.toArray⟩)∧w'.cell? ⟨w.heap.size,2,none⟩=some (.string ⟨q.t.s.1.toArray⟩)∧w'.cell? ⟨w.heap.size,3,none⟩=some (.string ⟨q.t.s.2.toArray⟩)∧w'.cell? ⟨w.heap.size,4,none⟩=some (.int .i64 q.t.k)∧w'.cell? ⟨w.heap.size,5,none⟩=some (.slice A1 q.t.b.length c1)∧w'.cell? ⟨w.heap.size,6,none⟩=some (.slice A2 q.b.length c2)) (first | exact⟨HK.out.cell 0,HK.out.cell 1,HK.out.cell 2,HK.out.cell 3,HK.out.cell 4,HK.out.cell 5,HK.out.cell 6⟩ | exact⟨(HK.out.alloc _).cell 0,(HK.out.alloc _).cell 1,(HK.out.alloc _).cell 2,(HK.out.alloc _).cell 3,(HK.out.alloc _).cell 4,(HK.out.alloc _).cell 5,(HK.out.alloc _).cell 6⟩) ((first
  |(go_at_call 218;(with_reducible refine Calls.mono (T1.out _) ?_);rintro e w1 ⟨⟨g1,c1,rfl,hg1,hc1,hr1⟩,hb⟩;clear T1;have HR1:=Lib.hid hr1;replace HK:=Lib.hid (HK.out.below hb);replace HB:=Lib.hid (HB.out.trans (hb.mono HB.out.size));clear hb hr1 hg1 hc1)
  |(go_at_call 253;(with_reducible refine Calls.mono (T2.out _ HB.out) ?_);rintro e w2 ⟨⟨g2,c2,rfl,hg2,hc2,hr2⟩,hb⟩;clear T2;replace HR1:=Lib.hid (rd_on HR1.out hb);have HR2:=Lib.hid hr2;replace HK:=Lib.hid (HK.out.below hb);replace HB:=Lib.hid (HB.out.trans (hb.mono HB.out.size));clear hb hr2 hg2 hc2)
  |(go_at_call 219;(with_reducible refine Calls.mono (T3.out _ HB.out) ?_);rintro e w3 ⟨⟨g3,c3,rfl,hg3,hc3,hr3⟩,hb⟩;clear T3;replace HR1:=Lib.hid (rd_on HR1.out hb);replace HR2:=Lib.hid (rd_on HR2.out hb);have HR3:=Lib.hid hr3;replace HK:=Lib.hid (HK.out.below hb);replace HB:=Lib.hid (HB.out.trans (hb.mono HB.out.size));clear hb hr3 hg3 hc3)
  |(go_at_call 217;refine Calls.mono (lwrap_any 107 [l1,l2,l3] _ 3 3 (w3.heap.size+1) _ (lay_three HR1.out HR2.out HR3.out) rfl (by simp) HL.out (by simp)) ?_;rintro e wz ⟨⟨gz,cz,rfl,hgz,hcz,hrz⟩,hb⟩;have hal:=(Below.refl w3.heap.size w3).alloc (Nat.le_refl _) (.cells #[.slice (some ⟨g1,0,none⟩) l1.length c1,.slice (some ⟨g2,0,none⟩) l2.length c2,.slice (some ⟨g3,0,none⟩) l3.length c3] 30);have HG:=Lib.hid (gives_on (l:=elem 107 [l1,l2,l3].flatten) ⟨⟨gz,cz,rfl,hgz,hcz,hrz⟩,hb⟩ (HB.out.trans (hal.mono HB.out.size)));rw[flat3] at HG;replace HK:=Lib.hid ((HK.out.alloc (.cells #[.slice (some ⟨g1,0,none⟩) l1.length c1,.slice (some ⟨g2,0,none⟩) l2.length c2,.slice (some ⟨g3,0,none⟩) l3.length c3] 30)).below hb);clear hal hgz hcz hrz hb)))
 go_wp2
 go_ret
 exact HG.out
set_option maxHeartbeats 3200000 in
theorem layap_any (q:Ap) (A1 A2:Option Addr) (c1 c2:Nat) (w:World) (ha:apB q=true) (hr1:Rd w w.heap.size A1 (bvs q.t.b)) (hr2:Rd w w.heap.size A2 (bvs q.a)):Calls Tryz.prog 199 #[.agg #[.string ⟨q.t.s.1.toArray⟩,.string ⟨q.t.s.2.toArray⟩,.int .i64 q.t.k,.slice A1 q.t.b.length c1,.slice A2 q.a.length c2]] w (Gives w (apE q)):=by
 have HB:=Lib.hid ((Below.refl w.heap.size w).alloc (Nat.le_refl _) (.cells #[.string ⟨q.t.s.1.toArray⟩,.string ⟨q.t.s.2.toArray⟩,.int .i64 q.t.k,.slice A1 q.t.b.length c1,.slice A2 q.a.length c2] 89))
 have HK:=Lib.hid (Blk.new w 89 #[.string ⟨q.t.s.1.toArray⟩,.string ⟨q.t.s.2.toArray⟩,.int .i64 q.t.k,.slice A1 q.t.b.length c1,.slice A2 q.a.length c2])
 have hp:tkB q.t=true∧blobB q.a=true:=by simpa [apB] using ha
 have b2:=(tkE_len hp.1).1
 have b3:=elem_len 4 q.a
 have b6:=blob_parts hp.2
 have T1:=Lib.hid (fun w1 (h:Below w.heap.size w w1)=>layticket_any q.t A1 c1 w1 hp.1 ((hr1.below h).more h.size))
 have T2:=Lib.hid (fun w1 (h:Below w.heap.size w w1)=>loctets_any q.a A2 q.a.length c2 w1.heap.size w1 ((hr2.below h).more h.size) rfl (Nat.le_refl _) (by omega))
 have HL:=Lib.hid (show [tkE q.t,elem 4 q.a].flatten.length≤65535 by rw[flat2];simp only[List.length_append];omega)
 have HE:=Lib.hid (show apE q=elem 110 [tkE q.t,elem 4 q.a].flatten from rfl)
 obtain⟨l1,el1⟩:∃l,l=tkE q.t:=⟨_,rfl⟩
 obtain⟨l2,el2⟩:∃l,l=elem 4 q.a:=⟨_,rfl⟩
 rw[←el1] at T1 HL HE
 rw[←el2] at T2 HL HE
 rw[HE.out,flat2]
 clear HE el1 el2 hp b2 b3 b6 ha hr1 hr2
 go_enter Tryz.func199,Tryz.ntmps199
 go_wp2
 obtain⟨W,eW⟩:∃W,W=w.alloc (.cells #[.string ⟨q.t.s.1.toArray⟩,.string ⟨q.t.s.2.toArray⟩,.int .i64 q.t.k,.slice A1 q.t.b.length c1,.slice A2 q.a.length c2] 89):=⟨_,rfl⟩
 rw[←eW] at HB HK⊢
 clear eW
 replace HK:=Lib.hid (show Blk W.drew _ _ _ from HK.out.drewN 1)
 replace HB:=Lib.hid (show Below _ _ W.drew from below_drewN HB.out 1)
 go_region_held3 (fun w'=>w'.cell? ⟨w.heap.size,0,none⟩=some (.string ⟨q.t.s.1.toArray⟩)∧w'.cell? ⟨w.heap.size,1,none⟩=some (.string ⟨q.t.s.2.toArray⟩)∧w'.cell? ⟨w.heap.size,2,none⟩=some (.int .i64 q.t.k)∧w'.cell? ⟨w.heap.size,3,none⟩=some (.slice A1 q.t.b.length c1)∧w'.cell? ⟨w.heap.size,4,none⟩=some (.slice A2 q.a.length c2)) (first | exact⟨HK.out.cell 0,HK.out.cell 1,HK.out.cell 2,HK.out.cell 3,HK.out.cell 4⟩ | exact⟨(HK.out.alloc _).cell 0,(HK.out.alloc _).cell 1,(HK.out.alloc _).cell 2,(HK.out.alloc _).cell 3,(HK.out.alloc _).cell 4⟩) ((first
  |(go_at_call 253;(with_reducible refine Calls.mono (T1.out _ HB.out) ?_);rintro e w1 ⟨⟨g1,c1,rfl,hg1,hc1,hr1⟩,hb⟩;clear T1;have HR1:=Lib.hid hr1;replace HK:=Lib.hid (HK.out.below hb);replace HB:=Lib.hid (HB.out.trans (hb.mono HB.out.size));clear hb hr1 hg1 hc1)
  |(go_at_call 219;(with_reducible refine Calls.mono (T2.out _ HB.out) ?_);rintro e w2 ⟨⟨g2,c2,rfl,hg2,hc2,hr2⟩,hb⟩;clear T2;replace HR1:=Lib.hid (rd_on HR1.out hb);have HR2:=Lib.hid hr2;replace HK:=Lib.hid (HK.out.below hb);replace HB:=Lib.hid (HB.out.trans (hb.mono HB.out.size));clear hb hr2 hg2 hc2)
  |(go_at_call 217;refine Calls.mono (lwrap_any 110 [l1,l2] _ 2 2 (w2.heap.size+1) _ (lay_two HR1.out HR2.out) rfl (by simp) HL.out (by simp)) ?_;rintro e wz ⟨⟨gz,cz,rfl,hgz,hcz,hrz⟩,hb⟩;have hal:=(Below.refl w2.heap.size w2).alloc (Nat.le_refl _) (.cells #[.slice (some ⟨g1,0,none⟩) l1.length c1,.slice (some ⟨g2,0,none⟩) l2.length c2] 30);have HG:=Lib.hid (gives_on (l:=elem 110 [l1,l2].flatten) ⟨⟨gz,cz,rfl,hgz,hcz,hrz⟩,hb⟩ (HB.out.trans (hal.mono HB.out.size)));rw[flat2] at HG;replace HK:=Lib.hid ((HK.out.alloc (.cells #[.slice (some ⟨g1,0,none⟩) l1.length c1,.slice (some ⟨g2,0,none⟩) l2.length c2] 30)).below hb);clear hal hgz hcz hrz hb)))
 go_wp2
 go_ret
 exact HG.out
set_option maxHeartbeats 3200000 in
theorem layfa_any (q:Fa) (w:World):Calls Tryz.prog 200 #[.agg #[.int .i64 q.e,.int .i64 q.no]] w (Gives w (faE q)):=by
 have HB:=Lib.hid ((Below.refl w.heap.size w).alloc (Nat.le_refl _) (.cells #[.int .i64 q.e,.int .i64 q.no] 91))
 have HK:=Lib.hid (Blk.new w 91 #[.int .i64 q.e,.int .i64 q.no])
 have b1:=encI_le q.e
 have b2:=encI_le q.no
 have T1:=Lib.hid (fun w1=>lint_any q.e w1)
 have T2:=Lib.hid (fun w1=>lint_any q.no w1)
 have HL:=Lib.hid (show [encI q.e,encI q.no].flatten.length≤65535 by rw[flat2];simp only[List.length_append];omega)
 have HE:=Lib.hid (show faE q=elem 126 [encI q.e,encI q.no].flatten from rfl)
 obtain⟨l1,el1⟩:∃l,l=encI q.e:=⟨_,rfl⟩
 obtain⟨l2,el2⟩:∃l,l=encI q.no:=⟨_,rfl⟩
 rw[←el1] at T1 HL HE
 rw[←el2] at T2 HL HE
 rw[HE.out,flat2]
 clear HE el1 el2 b1 b2
 go_enter Tryz.func200,Tryz.ntmps200
 go_wp2
 obtain⟨W,eW⟩:∃W,W=w.alloc (.cells #[.int .i64 q.e,.int .i64 q.no] 91):=⟨_,rfl⟩
 rw[←eW] at HB HK⊢
 clear eW
 replace HK:=Lib.hid (show Blk W.drew _ _ _ from HK.out.drewN 1)
 replace HB:=Lib.hid (show Below _ _ W.drew from below_drewN HB.out 1)
 go_region_held3 (fun w'=>w'.cell? ⟨w.heap.size,0,none⟩=some (.int .i64 q.e)∧w'.cell? ⟨w.heap.size,1,none⟩=some (.int .i64 q.no)) (first | exact⟨HK.out.cell 0,HK.out.cell 1⟩ | exact⟨(HK.out.alloc _).cell 0,(HK.out.alloc _).cell 1⟩) ((first
  |(go_at_call 221;(with_reducible refine Calls.mono (T1.out _) ?_);rintro e w1 ⟨⟨g1,c1,rfl,hg1,hc1,hr1⟩,hb⟩;clear T1;have HR1:=Lib.hid hr1;replace HK:=Lib.hid (HK.out.below hb);replace HB:=Lib.hid (HB.out.trans (hb.mono HB.out.size));clear hb hr1 hg1 hc1)
  |(go_at_call 221;(with_reducible refine Calls.mono (T2.out _) ?_);rintro e w2 ⟨⟨g2,c2,rfl,hg2,hc2,hr2⟩,hb⟩;clear T2;replace HR1:=Lib.hid (rd_on HR1.out hb);have HR2:=Lib.hid hr2;replace HK:=Lib.hid (HK.out.below hb);replace HB:=Lib.hid (HB.out.trans (hb.mono HB.out.size));clear hb hr2 hg2 hc2)
  |(go_at_call 217;refine Calls.mono (lwrap_any 126 [l1,l2] _ 2 2 (w2.heap.size+1) _ (lay_two HR1.out HR2.out) rfl (by simp) HL.out (by simp)) ?_;rintro e wz ⟨⟨gz,cz,rfl,hgz,hcz,hrz⟩,hb⟩;have hal:=(Below.refl w2.heap.size w2).alloc (Nat.le_refl _) (.cells #[.slice (some ⟨g1,0,none⟩) l1.length c1,.slice (some ⟨g2,0,none⟩) l2.length c2] 30);have HG:=Lib.hid (gives_on (l:=elem 126 [l1,l2].flatten) ⟨⟨gz,cz,rfl,hgz,hcz,hrz⟩,hb⟩ (HB.out.trans (hal.mono HB.out.size)));rw[flat2] at HG;replace HK:=Lib.hid ((HK.out.alloc (.cells #[.slice (some ⟨g1,0,none⟩) l1.length c1,.slice (some ⟨g2,0,none⟩) l2.length c2] 30)).below hb);clear hal hgz hcz hrz hb)))
 go_wp2
 go_ret
 exact HG.out
set_option maxHeartbeats 3200000 in
theorem layrep_any (p:Rp) (w:World) (hk:p.ss.length=32) (hx:rpB p=true):Calls Tryz.prog 158 #[.agg (rpC p).toArray] w (Gives w (rpE p)):=by
 have HI:=Lib.hid (show(Tryz.prog.info? 75).map (·.size)=some (rpC p).toArray.size by rw[rp_size hk];kernel_rfl)
 have CF:=Lib.hid (show ∀w':World,Blk w' w.heap.size 75 (rpC p).toArray→w'.cell? ⟨w.heap.size,32,none⟩=some (.string ⟨p.s.1.toArray⟩)∧w'.cell? ⟨w.heap.size,33,none⟩=some (.string ⟨p.s.2.toArray⟩)∧w'.cell? ⟨w.heap.size,34,none⟩=some (.int .i64 p.st)∧w'.cell? ⟨w.heap.size,35,none⟩=some (.int .i64 p.en)∧w'.cell? ⟨w.heap.size,36,none⟩=some (.int .i64 p.no) from fun w' h=>rp_cells hk h)
 have T1:=Lib.hid (fun w1 (h:Blk w1 w.heap.size 75 (rpC p).toArray)=>loctets_any p.ss (some ⟨w.heap.size,0,none⟩) 32 32 w1.heap.size w1 (rp_key hk h) hk.symm (Nat.le_refl _) (by omega))
 obtain⟨cs,ecs⟩:∃cs,cs=(rpC p).toArray:=⟨_,rfl⟩
 rw[←ecs] at HI CF T1⊢
 clear ecs
 have HB:=Lib.hid ((Below.refl w.heap.size w).alloc (Nat.le_refl _) (.cells cs 75))
 have HK:=Lib.hid (Blk.new w 75 cs)
 have hp:prB p.s=true:=(show prB p.s=true∧tmB p.st=true∧tmB p.en=true∧tmB p.no=true by simpa [rpB] using hx).1
 have b1:=(prE_len hp).1
 have b2:=encI_le p.st
 have b3:=encI_le p.en
 have b4:=encI_le p.no
 have b5:=elem_len 4 p.ss
 have T2:=Lib.hid (fun w1=>layprinc_any p.s w1 hp)
 have T3:=Lib.hid (fun w1=>lint_any p.st w1)
 have T4:=Lib.hid (fun w1=>lint_any p.en w1)
 have T5:=Lib.hid (fun w1=>lint_any p.no w1)
 have HL:=Lib.hid (show [elem 4 p.ss,prE p.s,encI p.st,encI p.en,encI p.no].flatten.length≤65535 by rw[flat5];simp only[List.length_append];omega)
 have HE:=Lib.hid (show rpE p=elem 122 [elem 4 p.ss,prE p.s,encI p.st,encI p.en,encI p.no].flatten from rfl)
 obtain⟨l1,el1⟩:∃l,l=elem 4 p.ss:=⟨_,rfl⟩
 obtain⟨l2,el2⟩:∃l,l=prE p.s:=⟨_,rfl⟩
 obtain⟨l3,el3⟩:∃l,l=encI p.st:=⟨_,rfl⟩
 obtain⟨l4,el4⟩:∃l,l=encI p.en:=⟨_,rfl⟩
 obtain⟨l5,el5⟩:∃l,l=encI p.no:=⟨_,rfl⟩
 rw[←el1] at T1 HL HE
 rw[←el2] at T2 HL HE
 rw[←el3] at T3 HL HE
 rw[←el4] at T4 HL HE
 rw[←el5] at T5 HL HE
 rw[HE.out,flat5]
 clear HE el1 el2 el3 el4 el5 hp b1 b2 b3 b4 b5 hk hx
 go_enter Tryz.func158,Tryz.ntmps158
 go_wp2
 obtain⟨W,eW⟩:∃W,W=w.alloc (.cells cs 75):=⟨_,rfl⟩
 rw[←eW] at HB HK⊢
 clear eW
 replace HK:=Lib.hid (show Blk W.drew _ _ _ from HK.out.drewN 1)
 replace HB:=Lib.hid (show Below _ _ W.drew from below_drewN HB.out 1)
 go_region_held3 (fun w'=>w'.cell? ⟨w.heap.size,32,none⟩=some (.string ⟨p.s.1.toArray⟩)∧w'.cell? ⟨w.heap.size,33,none⟩=some (.string ⟨p.s.2.toArray⟩)∧w'.cell? ⟨w.heap.size,34,none⟩=some (.int .i64 p.st)∧w'.cell? ⟨w.heap.size,35,none⟩=some (.int .i64 p.en)∧w'.cell? ⟨w.heap.size,36,none⟩=some (.int .i64 p.no)) (first | exact CF.out _ HK.out | exact CF.out _ (HK.out.alloc _)) ((first
  |(go_at_call 219;(with_reducible refine Calls.mono (T1.out _ HK.out) ?_);rintro e w1 ⟨⟨g1,c1,rfl,hg1,hc1,hr1⟩,hb⟩;clear T1;have HR1:=Lib.hid hr1;replace HK:=Lib.hid (HK.out.below hb);replace HB:=Lib.hid (HB.out.trans (hb.mono HB.out.size));clear hb hr1 hg1 hc1)
  |(go_at_call 218;(with_reducible refine Calls.mono (T2.out _) ?_);rintro e w2 ⟨⟨g2,c2,rfl,hg2,hc2,hr2⟩,hb⟩;clear T2;replace HR1:=Lib.hid (rd_on HR1.out hb);have HR2:=Lib.hid hr2;replace HK:=Lib.hid (HK.out.below hb);replace HB:=Lib.hid (HB.out.trans (hb.mono HB.out.size));clear hb hr2 hg2 hc2)
  |(go_at_call 221;(with_reducible refine Calls.mono (T3.out _) ?_);rintro e w3 ⟨⟨g3,c3,rfl,hg3,hc3,hr3⟩,hb⟩;clear T3;replace HR1:=Lib.hid (rd_on HR1.out hb);replace HR2:=Lib.hid (rd_on HR2.out hb);have HR3:=Lib.hid hr3;replace HK:=Lib.hid (HK.out.below hb);replace HB:=Lib.hid (HB.out.trans (hb.mono HB.out.size));clear hb hr3 hg3 hc3)
  |(go_at_call 221;(with_reducible refine Calls.mono (T4.out _) ?_);rintro e w4 ⟨⟨g4,c4,rfl,hg4,hc4,hr4⟩,hb⟩;clear T4;replace HR1:=Lib.hid (rd_on HR1.out hb);replace HR2:=Lib.hid (rd_on HR2.out hb);replace HR3:=Lib.hid (rd_on HR3.out hb);have HR4:=Lib.hid hr4;replace HK:=Lib.hid (HK.out.below hb);replace HB:=Lib.hid (HB.out.trans (hb.mono HB.out.size));clear hb hr4 hg4 hc4)
  |(go_at_call 221;(with_reducible refine Calls.mono (T5.out _) ?_);rintro e w5 ⟨⟨g5,c5,rfl,hg5,hc5,hr5⟩,hb⟩;clear T5;replace HR1:=Lib.hid (rd_on HR1.out hb);replace HR2:=Lib.hid (rd_on HR2.out hb);replace HR3:=Lib.hid (rd_on HR3.out hb);replace HR4:=Lib.hid (rd_on HR4.out hb);have HR5:=Lib.hid hr5;replace HK:=Lib.hid (HK.out.below hb);replace HB:=Lib.hid (HB.out.trans (hb.mono HB.out.size));clear hb hr5 hg5 hc5)
  |(go_at_call 217;refine Calls.mono (lwrap_any 122 [l1,l2,l3,l4,l5] _ 5 5 (w5.heap.size+1) _ (lay_five HR1.out HR2.out HR3.out HR4.out HR5.out) rfl (by simp) HL.out (by simp)) ?_;rintro e wz ⟨⟨gz,cz,rfl,hgz,hcz,hrz⟩,hb⟩;have hal:=(Below.refl w5.heap.size w5).alloc (Nat.le_refl _) (.cells #[.slice (some ⟨g1,0,none⟩) l1.length c1,.slice (some ⟨g2,0,none⟩) l2.length c2,.slice (some ⟨g3,0,none⟩) l3.length c3,.slice (some ⟨g4,0,none⟩) l4.length c4,.slice (some ⟨g5,0,none⟩) l5.length c5] 30);have HG:=Lib.hid (gives_on (l:=elem 122 [l1,l2,l3,l4,l5].flatten) ⟨⟨gz,cz,rfl,hgz,hcz,hrz⟩,hb⟩ (HB.out.trans (hal.mono HB.out.size)));rw[flat5] at HG;replace HK:=Lib.hid ((HK.out.alloc (.cells #[.slice (some ⟨g1,0,none⟩) l1.length c1,.slice (some ⟨g2,0,none⟩) l2.length c2,.slice (some ⟨g3,0,none⟩) l3.length c3,.slice (some ⟨g4,0,none⟩) l4.length c4,.slice (some ⟨g5,0,none⟩) l5.length c5] 30)).below hb);clear hal hgz hcz hrz hb)))
 go_wp2
 go_ret
 exact HG.out
set_option maxHeartbeats 3200000 in
theorem laypart_any (p:Pt) (w:World) (hk:p.ss.length=32) (hx:ptB p=true):Calls Tryz.prog 156 #[.agg (ptC p).toArray] w (Gives w (ptE p)):=by
 have HI:=Lib.hid (show(Tryz.prog.info? 71).map (·.size)=some (ptC p).toArray.size by rw[pt_size hk];kernel_rfl)
 have CF:=Lib.hid (show ∀w':World,Blk w' w.heap.size 71 (ptC p).toArray→w'.cell? ⟨w.heap.size,0,none⟩=some (.string ⟨p.c.1.toArray⟩)∧w'.cell? ⟨w.heap.size,1,none⟩=some (.string ⟨p.c.2.toArray⟩)∧w'.cell? ⟨w.heap.size,34,none⟩=some (.string ⟨p.tr.toArray⟩)∧w'.cell? ⟨w.heap.size,35,none⟩=some (.int .i64 p.st)∧w'.cell? ⟨w.heap.size,36,none⟩=some (.int .i64 p.en) from fun w' h=>pt_cells hk h)
 have T2:=Lib.hid (fun w1 (h:Blk w1 w.heap.size 71 (ptC p).toArray)=>loctets_any p.ss (some ⟨w.heap.size,2,none⟩) 32 32 w1.heap.size w1 (pt_key h) hk.symm (Nat.le_refl _) (by omega))
 obtain⟨cs,ecs⟩:∃cs,cs=(ptC p).toArray:=⟨_,rfl⟩
 rw[←ecs] at HI CF T2⊢
 clear ecs
 have HB:=Lib.hid ((Below.refl w.heap.size w).alloc (Nat.le_refl _) (.cells cs 71))
 have HK:=Lib.hid (Blk.new w 71 cs)
 have hp:=(pt_parts hx).2.1
 have h3:=(pt_parts hx).2.2.1
 have b1:=(prE_len hp).1
 have b2:=encI_le p.st
 have b3:=encI_le p.en
 have b4:=elem_len 27 p.tr
 have b5:=elem_len 4 p.ss
 have T1:=Lib.hid (fun w1=>layprinc_any p.c w1 hp)
 have T3:=Lib.hid (fun w1=>ltext_any p.tr w1 (by omega))
 have T4:=Lib.hid (fun w1=>lint_any p.st w1)
 have T5:=Lib.hid (fun w1=>lint_any p.en w1)
 have HL:=Lib.hid (show [prE p.c,elem 4 p.ss,elem 27 p.tr,encI p.st,encI p.en].flatten.length≤65535 by rw[flat5];simp only[List.length_append];omega)
 have HE:=Lib.hid (show ptE p=elem 99 [prE p.c,elem 4 p.ss,elem 27 p.tr,encI p.st,encI p.en].flatten from rfl)
 obtain⟨l1,el1⟩:∃l,l=prE p.c:=⟨_,rfl⟩
 obtain⟨l2,el2⟩:∃l,l=elem 4 p.ss:=⟨_,rfl⟩
 obtain⟨l3,el3⟩:∃l,l=elem 27 p.tr:=⟨_,rfl⟩
 obtain⟨l4,el4⟩:∃l,l=encI p.st:=⟨_,rfl⟩
 obtain⟨l5,el5⟩:∃l,l=encI p.en:=⟨_,rfl⟩
 rw[←el1] at T1 HL HE
 rw[←el2] at T2 HL HE
 rw[←el3] at T3 HL HE
 rw[←el4] at T4 HL HE
 rw[←el5] at T5 HL HE
 rw[HE.out,flat5]
 clear HE el1 el2 el3 el4 el5 hp h3 b1 b2 b3 b4 b5 hk hx
 go_enter Tryz.func156,Tryz.ntmps156
 go_wp2
 obtain⟨W,eW⟩:∃W,W=w.alloc (.cells cs 71):=⟨_,rfl⟩
 rw[←eW] at HB HK⊢
 clear eW
 replace HK:=Lib.hid (show Blk W.drew _ _ _ from HK.out.drewN 1)
 replace HB:=Lib.hid (show Below _ _ W.drew from below_drewN HB.out 1)
 go_region_held3 (fun w'=>w'.cell? ⟨w.heap.size,0,none⟩=some (.string ⟨p.c.1.toArray⟩)∧w'.cell? ⟨w.heap.size,1,none⟩=some (.string ⟨p.c.2.toArray⟩)∧w'.cell? ⟨w.heap.size,34,none⟩=some (.string ⟨p.tr.toArray⟩)∧w'.cell? ⟨w.heap.size,35,none⟩=some (.int .i64 p.st)∧w'.cell? ⟨w.heap.size,36,none⟩=some (.int .i64 p.en)) (first | exact CF.out _ HK.out | exact CF.out _ (HK.out.alloc _)) ((first
  |(go_at_call 218;(with_reducible refine Calls.mono (T1.out _) ?_);rintro e w1 ⟨⟨g1,c1,rfl,hg1,hc1,hr1⟩,hb⟩;clear T1;have HR1:=Lib.hid hr1;replace HK:=Lib.hid (HK.out.below hb);replace HB:=Lib.hid (HB.out.trans (hb.mono HB.out.size));clear hb hr1 hg1 hc1)
  |(go_at_call 219;(with_reducible refine Calls.mono (T2.out _ HK.out) ?_);rintro e w2 ⟨⟨g2,c2,rfl,hg2,hc2,hr2⟩,hb⟩;clear T2;replace HR1:=Lib.hid (rd_on HR1.out hb);have HR2:=Lib.hid hr2;replace HK:=Lib.hid (HK.out.below hb);replace HB:=Lib.hid (HB.out.trans (hb.mono HB.out.size));clear hb hr2 hg2 hc2)
  |(go_at_call 220;(with_reducible refine Calls.mono (T3.out _) ?_);rintro e w3 ⟨⟨g3,c3,rfl,hg3,hc3,hr3⟩,hb⟩;clear T3;replace HR1:=Lib.hid (rd_on HR1.out hb);replace HR2:=Lib.hid (rd_on HR2.out hb);have HR3:=Lib.hid hr3;replace HK:=Lib.hid (HK.out.below hb);replace HB:=Lib.hid (HB.out.trans (hb.mono HB.out.size));clear hb hr3 hg3 hc3)
  |(go_at_call 221;(with_reducible refine Calls.mono (T4.out _) ?_);rintro e w4 ⟨⟨g4,c4,rfl,hg4,hc4,hr4⟩,hb⟩;clear T4;replace HR1:=Lib.hid (rd_on HR1.out hb);replace HR2:=Lib.hid (rd_on HR2.out hb);replace HR3:=Lib.hid (rd_on HR3.out hb);have HR4:=Lib.hid hr4;replace HK:=Lib.hid (HK.out.below hb);replace HB:=Lib.hid (HB.out.trans (hb.mono HB.out.size));clear hb hr4 hg4 hc4)
  |(go_at_call 221;(with_reducible refine Calls.mono (T5.out _) ?_);rintro e w5 ⟨⟨g5,c5,rfl,hg5,hc5,hr5⟩,hb⟩;clear T5;replace HR1:=Lib.hid (rd_on HR1.out hb);replace HR2:=Lib.hid (rd_on HR2.out hb);replace HR3:=Lib.hid (rd_on HR3.out hb);replace HR4:=Lib.hid (rd_on HR4.out hb);have HR5:=Lib.hid hr5;replace HK:=Lib.hid (HK.out.below hb);replace HB:=Lib.hid (HB.out.trans (hb.mono HB.out.size));clear hb hr5 hg5 hc5)
  |(go_at_call 217;refine Calls.mono (lwrap_any 99 [l1,l2,l3,l4,l5] _ 5 5 (w5.heap.size+1) _ (lay_five HR1.out HR2.out HR3.out HR4.out HR5.out) rfl (by simp) HL.out (by simp)) ?_;rintro e wz ⟨⟨gz,cz,rfl,hgz,hcz,hrz⟩,hb⟩;have hal:=(Below.refl w5.heap.size w5).alloc (Nat.le_refl _) (.cells #[.slice (some ⟨g1,0,none⟩) l1.length c1,.slice (some ⟨g2,0,none⟩) l2.length c2,.slice (some ⟨g3,0,none⟩) l3.length c3,.slice (some ⟨g4,0,none⟩) l4.length c4,.slice (some ⟨g5,0,none⟩) l5.length c5] 30);have HG:=Lib.hid (gives_on (l:=elem 99 [l1,l2,l3,l4,l5].flatten) ⟨⟨gz,cz,rfl,hgz,hcz,hrz⟩,hb⟩ (HB.out.trans (hal.mono HB.out.size)));rw[flat5] at HG;replace HK:=Lib.hid ((HK.out.alloc (.cells #[.slice (some ⟨g1,0,none⟩) l1.length c1,.slice (some ⟨g2,0,none⟩) l2.length c2,.slice (some ⟨g3,0,none⟩) l3.length c3,.slice (some ⟨g4,0,none⟩) l4.length c4,.slice (some ⟨g5,0,none⟩) l5.length c5] 30)).below hb);clear hal hgz hcz hrz hb)))
 go_wp2
 go_ret
 exact HG.out
end Go.Proofs.YtfcjeebnkigeaaaGreat.Mc
end
