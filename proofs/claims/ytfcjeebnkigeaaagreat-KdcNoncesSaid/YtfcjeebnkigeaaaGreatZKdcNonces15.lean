import Derived.Deep.RegionHeld3
import Derived.Deep.LoopGhost
import Derived.StillTailTactics
import Derived.DeepKeys
import Derived.Laws.StructEq
import Derived.Laws.OwnMore
import Derived.Deep.MidRow
import Derived.Test.YtfcjeebnkigeaaaGreatZKdcNonces1
import Derived.Test.YtfcjeebnkigeaaaGreatZKdcNonces2
import Derived.Test.YtfcjeebnkigeaaaGreatZKdcNonces3
import Derived.Test.YtfcjeebnkigeaaaGreatZKdcNonces4
import Derived.Test.YtfcjeebnkigeaaaGreatZKdcNonces5
import Derived.Test.YtfcjeebnkigeaaaGreatZKdcNonces6
import Derived.Test.YtfcjeebnkigeaaaGreatZKdcNonces7
import Derived.Test.YtfcjeebnkigeaaaGreatZKdcNonces8
import Derived.Test.YtfcjeebnkigeaaaGreatZKdcNonces9
import Derived.Test.YtfcjeebnkigeaaaGreatZKdcNonces11
import Derived.Test.YtfcjeebnkigeaaaGreatZKdcNonces12
import Derived.Test.YtfcjeebnkigeaaaGreatZKdcNonces13
import Derived.Test.YtfcjeebnkigeaaaGreatZKdcNonces14
section
set_option linter.unusedVariables false
set_option linter.unusedSimpArgs false
namespace Go.Proofs.YtfcjeebnkigeaaaGreat.Mc
open Go.RowKit Go.Proofs.YtfcjeebnkigeaaaGreat.Mem Go.Proofs.YtfcjeebnkigeaaaGreat.DerP Go.Proofs.YtfcjeebnkigeaaaGreat.Ms
theorem isprinc_any (p:Pr) (w:World) (h1:p.1.length≤1000000000) (h2:p.2.length≤1000000000):Calls Tryz.prog 99 #[prV p] w fun e w'=>e = .returned (.bool (prB p))∧Below w.heap.size w w':=Nm.isprinc_any p.1 p.2 w h1 h2
theorem within_any (n a b:Int) (w:World):Calls Tryz.prog 252 #[.int .i64 n,.int .i64 a,.int .i64 b] w fun e w'=>e = .returned (.bool (inB n a b))∧w=w':=by
 cases h1:decide (a≤n) with
 |false=>
  go_enter Tryz.func252,Tryz.ntmps252
  go_wp2
  go_ret
  exact⟨by rw[inB,h1];rfl,rfl⟩
 |true=>
  go_enter Tryz.func252,Tryz.ntmps252
  go_wp2
  go_ret
  exact⟨by rw[inB,h1];rfl,rfl⟩
theorem time_any (n:Int) (w:World):Calls Tryz.prog 216 #[.int .i64 n] w fun e w'=>e = .returned (.bool (tmB n))∧w=w':=by
 have c1:=within_any n 0 1073741824 w
 rw[show inB n 0 1073741824=tmB n from rfl] at c1
 go_enter Tryz.func216,Tryz.ntmps216
 go_wp2_with (go_at_call 252;refine Calls.mono c1 ?_;rintro e w1 ⟨rfl,rfl⟩)
 go_ret
 exact⟨rfl,rfl⟩
theorem nonce_any (n:Int) (w:World):Calls Tryz.prog 222 #[.int .i64 n] w fun e w'=>e = .returned (.bool (tmB n))∧w=w':=by
 have c1:=within_any n 0 1073741824 w
 rw[show inB n 0 1073741824=tmB n from rfl] at c1
 go_enter Tryz.func222,Tryz.ntmps222
 go_wp2_with (go_at_call 252;refine Calls.mono c1 ?_;rintro e w1 ⟨rfl,rfl⟩)
 go_ret
 exact⟨rfl,rfl⟩
theorem isblob_any (b:L) (A:Option Addr) (c:Nat) (w:World):Calls Tryz.prog 251 #[.slice A b.length c] w fun e w'=>e = .returned (.bool (blobB b))∧w=w':=by
 have c1:=within_any (b.length:Int) 1 800 w
 rw[blob_in] at c1
 go_enter Tryz.func251,Tryz.ntmps251
 go_wp2_with (go_at_call 252;refine Calls.mono c1 ?_;rintro e w1 ⟨rfl,rfl⟩)
 go_ret
 exact⟨rfl,rfl⟩
set_option maxHeartbeats 3200000 in
theorem isticket_any (t:Tk) (A:Option Addr) (c:Nat) (w:World) (hs:pSm t.s):Calls Tryz.prog 250 #[.agg #[.string ⟨t.s.1.toArray⟩,.string ⟨t.s.2.toArray⟩,.int .i64 t.k,.slice A t.b.length c]] w fun e w'=>e = .returned (.bool (tkB t))∧Below w.heap.size w w':=by
 have hb0:=(Below.refl w.heap.size w).alloc (Nat.le_refl _) (.cells #[.string ⟨t.s.1.toArray⟩,.string ⟨t.s.2.toArray⟩,.int .i64 t.k,.slice A t.b.length c] 32)
 have HB:=Lib.hid hb0
 have HK:=Lib.hid (Blk.new w 32 #[.string ⟨t.s.1.toArray⟩,.string ⟨t.s.2.toArray⟩,.int .i64 t.k,.slice A t.b.length c])
 clear hb0
 have T1:=Lib.hid (fun w1=>isprinc_any t.s w1 hs.1 hs.2)
 have T2:=Lib.hid (fun w1=>within_any t.k 1 255 w1)
 have T3:=Lib.hid (fun w1=>isblob_any t.b A c w1)
 cases h1:prB t.s with
 |false=>
  rw[h1] at T1
  have E:=Lib.hid (show tkB t=false by rw[tkB,h1];rfl)
  clear h1
  go_enter Tryz.func250,Tryz.ntmps250
  go_wp2_with (go_at_call 99;(with_reducible refine Calls.mono (T1.out _) ?_);rintro e w1 ⟨rfl,hb⟩;replace HK:=Lib.hid (HK.out.below hb);replace HB:=Lib.hid (HB.out.trans (hb.mono HB.out.size));clear hb T1;(try clear k0 k1 k2 k3);have k0:=HK.out.cell 0;have k1:=HK.out.cell 1;have k2:=HK.out.cell 2;have k3:=HK.out.cell 3;simp only[List.getElem?_toArray,List.getElem?_cons_zero,List.getElem?_cons_succ] at k0 k1 k2 k3)
  go_ret
  exact⟨by rw[E.out];rfl,HB.out⟩
 |true=>
  rw[h1] at T1
  cases h2:inB t.k 1 255 with
  |false=>
   rw[h2] at T2
   have E:=Lib.hid (show tkB t=false by rw[tkB,h1,h2];rfl)
   clear h1 h2
   go_enter Tryz.func250,Tryz.ntmps250
   go_wp2_with (first
    |(go_at_call 99;(with_reducible refine Calls.mono (T1.out _) ?_);rintro e w1 ⟨rfl,hb⟩;replace HK:=Lib.hid (HK.out.below hb);replace HB:=Lib.hid (HB.out.trans (hb.mono HB.out.size));clear hb T1;(try clear k0 k1 k2 k3);have k0:=HK.out.cell 0;have k1:=HK.out.cell 1;have k2:=HK.out.cell 2;have k3:=HK.out.cell 3;simp only[List.getElem?_toArray,List.getElem?_cons_zero,List.getElem?_cons_succ] at k0 k1 k2 k3)
    |(go_at_call 252;(with_reducible refine Calls.mono (T2.out _) ?_);rintro e w2 ⟨rfl,hw⟩;subst hw;clear T2))
   go_ret
   exact⟨by rw[E.out];rfl,HB.out⟩
  |true=>
   rw[h2] at T2
   have E:=Lib.hid (show tkB t=blobB t.b by rw[tkB,h1,h2];rfl)
   clear h1 h2
   go_enter Tryz.func250,Tryz.ntmps250
   go_wp2_with (first
    |(go_at_call 99;(with_reducible refine Calls.mono (T1.out _) ?_);rintro e w1 ⟨rfl,hb⟩;replace HK:=Lib.hid (HK.out.below hb);replace HB:=Lib.hid (HB.out.trans (hb.mono HB.out.size));clear hb T1;(try clear k0 k1 k2 k3);have k0:=HK.out.cell 0;have k1:=HK.out.cell 1;have k2:=HK.out.cell 2;have k3:=HK.out.cell 3;simp only[List.getElem?_toArray,List.getElem?_cons_zero,List.getElem?_cons_succ] at k0 k1 k2 k3)
    |(go_at_call 252;(with_reducible refine Calls.mono (T2.out _) ?_);rintro e w2 ⟨rfl,hw⟩;subst hw;clear T2)
    |(go_at_call 251;(with_reducible refine Calls.mono (T3.out _) ?_);rintro e w3 ⟨rfl,hw⟩;subst hw;clear T3))
   go_ret
   exact⟨by rw[E.out];rfl,HB.out⟩
set_option maxHeartbeats 3200000 in
theorem isas_any (q:As) (w:World) (hs:pSm q.c) (hs2:pSm q.s):Calls Tryz.prog 191 #[.agg #[.string ⟨q.c.1.toArray⟩,.string ⟨q.c.2.toArray⟩,.string ⟨q.s.1.toArray⟩,.string ⟨q.s.2.toArray⟩,.int .i64 q.t,.int .i64 q.no]] w fun e w'=>e = .returned (.bool (asB q))∧Below w.heap.size w w':=by
 have hb0:=(Below.refl w.heap.size w).alloc (Nat.le_refl _) (.cells #[.string ⟨q.c.1.toArray⟩,.string ⟨q.c.2.toArray⟩,.string ⟨q.s.1.toArray⟩,.string ⟨q.s.2.toArray⟩,.int .i64 q.t,.int .i64 q.no] 29)
 have HB:=Lib.hid hb0
 have HK:=Lib.hid (Blk.new w 29 #[.string ⟨q.c.1.toArray⟩,.string ⟨q.c.2.toArray⟩,.string ⟨q.s.1.toArray⟩,.string ⟨q.s.2.toArray⟩,.int .i64 q.t,.int .i64 q.no])
 clear hb0
 have T1:=Lib.hid (fun w1=>isprinc_any q.c w1 hs.1 hs.2)
 have T2:=Lib.hid (fun w1=>isprinc_any q.s w1 hs2.1 hs2.2)
 have T3:=Lib.hid (fun w1=>time_any q.t w1)
 have T4:=Lib.hid (fun w1=>nonce_any q.no w1)
 cases h1:prB q.c with
 |false=>
  rw[h1] at T1
  have E:=Lib.hid (show asB q=false by rw[asB,h1];rfl)
  clear h1
  go_enter Tryz.func191,Tryz.ntmps191
  go_wp2_with (go_at_call 99;(with_reducible refine Calls.mono (T1.out _) ?_);rintro e w1 ⟨rfl,hb⟩;replace HK:=Lib.hid (HK.out.below hb);replace HB:=Lib.hid (HB.out.trans (hb.mono HB.out.size));clear hb T1;(try clear k0 k1 k2 k3 k4 k5);have k0:=HK.out.cell 0;have k1:=HK.out.cell 1;have k2:=HK.out.cell 2;have k3:=HK.out.cell 3;have k4:=HK.out.cell 4;have k5:=HK.out.cell 5;simp only[List.getElem?_toArray,List.getElem?_cons_zero,List.getElem?_cons_succ] at k0 k1 k2 k3 k4 k5)
  go_ret
  exact⟨by rw[E.out];rfl,HB.out⟩
 |true=>
  rw[h1] at T1
  cases h2:prB q.s with
  |false=>
   rw[h2] at T2
   have E:=Lib.hid (show asB q=false by rw[asB,h1,h2];rfl)
   clear h1 h2
   go_enter Tryz.func191,Tryz.ntmps191
   go_wp2_with (first
    |(go_at_call 99;(with_reducible refine Calls.mono (T1.out _) ?_);rintro e w1 ⟨rfl,hb⟩;replace HK:=Lib.hid (HK.out.below hb);replace HB:=Lib.hid (HB.out.trans (hb.mono HB.out.size));clear hb T1;(try clear k0 k1 k2 k3 k4 k5);have k0:=HK.out.cell 0;have k1:=HK.out.cell 1;have k2:=HK.out.cell 2;have k3:=HK.out.cell 3;have k4:=HK.out.cell 4;have k5:=HK.out.cell 5;simp only[List.getElem?_toArray,List.getElem?_cons_zero,List.getElem?_cons_succ] at k0 k1 k2 k3 k4 k5)
    |(go_at_call 99;(with_reducible refine Calls.mono (T2.out _) ?_);rintro e w2 ⟨rfl,hb⟩;replace HK:=Lib.hid (HK.out.below hb);replace HB:=Lib.hid (HB.out.trans (hb.mono HB.out.size));clear hb T2;(try clear k0 k1 k2 k3 k4 k5);have k0:=HK.out.cell 0;have k1:=HK.out.cell 1;have k2:=HK.out.cell 2;have k3:=HK.out.cell 3;have k4:=HK.out.cell 4;have k5:=HK.out.cell 5;simp only[List.getElem?_toArray,List.getElem?_cons_zero,List.getElem?_cons_succ] at k0 k1 k2 k3 k4 k5))
   go_ret
   exact⟨by rw[E.out];rfl,HB.out⟩
  |true=>
   rw[h2] at T2
   cases h3:tmB q.t with
   |false=>
    rw[h3] at T3
    have E:=Lib.hid (show asB q=false by rw[asB,h1,h2,h3];rfl)
    clear h1 h2 h3
    go_enter Tryz.func191,Tryz.ntmps191
    go_wp2_with (first
     |(go_at_call 99;(with_reducible refine Calls.mono (T1.out _) ?_);rintro e w1 ⟨rfl,hb⟩;replace HK:=Lib.hid (HK.out.below hb);replace HB:=Lib.hid (HB.out.trans (hb.mono HB.out.size));clear hb T1;(try clear k0 k1 k2 k3 k4 k5);have k0:=HK.out.cell 0;have k1:=HK.out.cell 1;have k2:=HK.out.cell 2;have k3:=HK.out.cell 3;have k4:=HK.out.cell 4;have k5:=HK.out.cell 5;simp only[List.getElem?_toArray,List.getElem?_cons_zero,List.getElem?_cons_succ] at k0 k1 k2 k3 k4 k5)
     |(go_at_call 99;(with_reducible refine Calls.mono (T2.out _) ?_);rintro e w2 ⟨rfl,hb⟩;replace HK:=Lib.hid (HK.out.below hb);replace HB:=Lib.hid (HB.out.trans (hb.mono HB.out.size));clear hb T2;(try clear k0 k1 k2 k3 k4 k5);have k0:=HK.out.cell 0;have k1:=HK.out.cell 1;have k2:=HK.out.cell 2;have k3:=HK.out.cell 3;have k4:=HK.out.cell 4;have k5:=HK.out.cell 5;simp only[List.getElem?_toArray,List.getElem?_cons_zero,List.getElem?_cons_succ] at k0 k1 k2 k3 k4 k5)
     |(go_at_call 216;(with_reducible refine Calls.mono (T3.out _) ?_);rintro e w3 ⟨rfl,hw⟩;subst hw;clear T3))
    go_ret
    exact⟨by rw[E.out];rfl,HB.out⟩
   |true=>
    rw[h3] at T3
    have E:=Lib.hid (show asB q=tmB q.no by rw[asB,h1,h2,h3];rfl)
    clear h1 h2 h3
    go_enter Tryz.func191,Tryz.ntmps191
    go_wp2_with (first
     |(go_at_call 99;(with_reducible refine Calls.mono (T1.out _) ?_);rintro e w1 ⟨rfl,hb⟩;replace HK:=Lib.hid (HK.out.below hb);replace HB:=Lib.hid (HB.out.trans (hb.mono HB.out.size));clear hb T1;(try clear k0 k1 k2 k3 k4 k5);have k0:=HK.out.cell 0;have k1:=HK.out.cell 1;have k2:=HK.out.cell 2;have k3:=HK.out.cell 3;have k4:=HK.out.cell 4;have k5:=HK.out.cell 5;simp only[List.getElem?_toArray,List.getElem?_cons_zero,List.getElem?_cons_succ] at k0 k1 k2 k3 k4 k5)
     |(go_at_call 99;(with_reducible refine Calls.mono (T2.out _) ?_);rintro e w2 ⟨rfl,hb⟩;replace HK:=Lib.hid (HK.out.below hb);replace HB:=Lib.hid (HB.out.trans (hb.mono HB.out.size));clear hb T2;(try clear k0 k1 k2 k3 k4 k5);have k0:=HK.out.cell 0;have k1:=HK.out.cell 1;have k2:=HK.out.cell 2;have k3:=HK.out.cell 3;have k4:=HK.out.cell 4;have k5:=HK.out.cell 5;simp only[List.getElem?_toArray,List.getElem?_cons_zero,List.getElem?_cons_succ] at k0 k1 k2 k3 k4 k5)
     |(go_at_call 216;(with_reducible refine Calls.mono (T3.out _) ?_);rintro e w3 ⟨rfl,hw⟩;subst hw;clear T3)
     |(go_at_call 222;(with_reducible refine Calls.mono (T4.out _) ?_);rintro e w4 ⟨rfl,hw⟩;subst hw;clear T4))
    go_ret
    exact⟨by rw[E.out];rfl,HB.out⟩
set_option maxHeartbeats 3200000 in
theorem istgs_any (q:Tg) (A1 A2:Option Addr) (c1 c2:Nat) (w:World) (hs:pSm q.t.s) (hs2:pSm q.s):Calls Tryz.prog 192 #[.agg #[.string ⟨q.t.s.1.toArray⟩,.string ⟨q.t.s.2.toArray⟩,.int .i64 q.t.k,.slice A1 q.t.b.length c1,.slice A2 q.a.length c2,.string ⟨q.s.1.toArray⟩,.string ⟨q.s.2.toArray⟩,.int .i64 q.u,.int .i64 q.no]] w fun e w'=>e = .returned (.bool (tgB q))∧Below w.heap.size w w':=by
 have hb0:=(Below.refl w.heap.size w).alloc (Nat.le_refl _) (.cells #[.string ⟨q.t.s.1.toArray⟩,.string ⟨q.t.s.2.toArray⟩,.int .i64 q.t.k,.slice A1 q.t.b.length c1,.slice A2 q.a.length c2,.string ⟨q.s.1.toArray⟩,.string ⟨q.s.2.toArray⟩,.int .i64 q.u,.int .i64 q.no] 34)
 have HB:=Lib.hid hb0
 have HK:=Lib.hid (Blk.new w 34 #[.string ⟨q.t.s.1.toArray⟩,.string ⟨q.t.s.2.toArray⟩,.int .i64 q.t.k,.slice A1 q.t.b.length c1,.slice A2 q.a.length c2,.string ⟨q.s.1.toArray⟩,.string ⟨q.s.2.toArray⟩,.int .i64 q.u,.int .i64 q.no])
 clear hb0
 have T1:=Lib.hid (fun w1=>isticket_any q.t A1 c1 w1 hs)
 have T2:=Lib.hid (fun w1=>isblob_any q.a A2 c2 w1)
 have T3:=Lib.hid (fun w1=>isprinc_any q.s w1 hs2.1 hs2.2)
 have T4:=Lib.hid (fun w1=>time_any q.u w1)
 have T5:=Lib.hid (fun w1=>nonce_any q.no w1)
 cases h1:tkB q.t with
 |false=>
  rw[h1] at T1
  have E:=Lib.hid (show tgB q=false by rw[tgB,h1];rfl)
  clear h1
  go_enter Tryz.func192,Tryz.ntmps192
  go_wp2_with (go_at_call 250;(with_reducible refine Calls.mono (T1.out _) ?_);rintro e w1 ⟨rfl,hb⟩;replace HK:=Lib.hid (HK.out.below hb);replace HB:=Lib.hid (HB.out.trans (hb.mono HB.out.size));clear hb T1;(try clear k0 k1 k2 k3 k4 k5 k6 k7 k8);have k0:=HK.out.cell 0;have k1:=HK.out.cell 1;have k2:=HK.out.cell 2;have k3:=HK.out.cell 3;have k4:=HK.out.cell 4;have k5:=HK.out.cell 5;have k6:=HK.out.cell 6;have k7:=HK.out.cell 7;have k8:=HK.out.cell 8;simp only[List.getElem?_toArray,List.getElem?_cons_zero,List.getElem?_cons_succ] at k0 k1 k2 k3 k4 k5 k6 k7 k8)
  go_ret
  exact⟨by rw[E.out];rfl,HB.out⟩
 |true=>
  rw[h1] at T1
  cases h2:blobB q.a with
  |false=>
   rw[h2] at T2
   have E:=Lib.hid (show tgB q=false by rw[tgB,h1,h2];rfl)
   clear h1 h2
   go_enter Tryz.func192,Tryz.ntmps192
   go_wp2_with (first
    |(go_at_call 250;(with_reducible refine Calls.mono (T1.out _) ?_);rintro e w1 ⟨rfl,hb⟩;replace HK:=Lib.hid (HK.out.below hb);replace HB:=Lib.hid (HB.out.trans (hb.mono HB.out.size));clear hb T1;(try clear k0 k1 k2 k3 k4 k5 k6 k7 k8);have k0:=HK.out.cell 0;have k1:=HK.out.cell 1;have k2:=HK.out.cell 2;have k3:=HK.out.cell 3;have k4:=HK.out.cell 4;have k5:=HK.out.cell 5;have k6:=HK.out.cell 6;have k7:=HK.out.cell 7;have k8:=HK.out.cell 8;simp only[List.getElem?_toArray,List.getElem?_cons_zero,List.getElem?_cons_succ] at k0 k1 k2 k3 k4 k5 k6 k7 k8)
    |(go_at_call 251;(with_reducible refine Calls.mono (T2.out _) ?_);rintro e w2 ⟨rfl,hw⟩;subst hw;clear T2))
   go_ret
   exact⟨by rw[E.out];rfl,HB.out⟩
  |true=>
   rw[h2] at T2
   cases h3:prB q.s with
   |false=>
    rw[h3] at T3
    have E:=Lib.hid (show tgB q=false by rw[tgB,h1,h2,h3];rfl)
    clear h1 h2 h3
    go_enter Tryz.func192,Tryz.ntmps192
    go_wp2_with (first
     |(go_at_call 250;(with_reducible refine Calls.mono (T1.out _) ?_);rintro e w1 ⟨rfl,hb⟩;replace HK:=Lib.hid (HK.out.below hb);replace HB:=Lib.hid (HB.out.trans (hb.mono HB.out.size));clear hb T1;(try clear k0 k1 k2 k3 k4 k5 k6 k7 k8);have k0:=HK.out.cell 0;have k1:=HK.out.cell 1;have k2:=HK.out.cell 2;have k3:=HK.out.cell 3;have k4:=HK.out.cell 4;have k5:=HK.out.cell 5;have k6:=HK.out.cell 6;have k7:=HK.out.cell 7;have k8:=HK.out.cell 8;simp only[List.getElem?_toArray,List.getElem?_cons_zero,List.getElem?_cons_succ] at k0 k1 k2 k3 k4 k5 k6 k7 k8)
     |(go_at_call 251;(with_reducible refine Calls.mono (T2.out _) ?_);rintro e w2 ⟨rfl,hw⟩;subst hw;clear T2)
     |(go_at_call 99;(with_reducible refine Calls.mono (T3.out _) ?_);rintro e w3 ⟨rfl,hb⟩;replace HK:=Lib.hid (HK.out.below hb);replace HB:=Lib.hid (HB.out.trans (hb.mono HB.out.size));clear hb T3;(try clear k0 k1 k2 k3 k4 k5 k6 k7 k8);have k0:=HK.out.cell 0;have k1:=HK.out.cell 1;have k2:=HK.out.cell 2;have k3:=HK.out.cell 3;have k4:=HK.out.cell 4;have k5:=HK.out.cell 5;have k6:=HK.out.cell 6;have k7:=HK.out.cell 7;have k8:=HK.out.cell 8;simp only[List.getElem?_toArray,List.getElem?_cons_zero,List.getElem?_cons_succ] at k0 k1 k2 k3 k4 k5 k6 k7 k8))
    go_ret
    exact⟨by rw[E.out];rfl,HB.out⟩
   |true=>
    rw[h3] at T3
    cases h4:tmB q.u with
    |false=>
     rw[h4] at T4
     have E:=Lib.hid (show tgB q=false by rw[tgB,h1,h2,h3,h4];rfl)
     clear h1 h2 h3 h4
     go_enter Tryz.func192,Tryz.ntmps192
     go_wp2_with (first
      |(go_at_call 250;(with_reducible refine Calls.mono (T1.out _) ?_);rintro e w1 ⟨rfl,hb⟩;replace HK:=Lib.hid (HK.out.below hb);replace HB:=Lib.hid (HB.out.trans (hb.mono HB.out.size));clear hb T1;(try clear k0 k1 k2 k3 k4 k5 k6 k7 k8);have k0:=HK.out.cell 0;have k1:=HK.out.cell 1;have k2:=HK.out.cell 2;have k3:=HK.out.cell 3;have k4:=HK.out.cell 4;have k5:=HK.out.cell 5;have k6:=HK.out.cell 6;have k7:=HK.out.cell 7;have k8:=HK.out.cell 8;simp only[List.getElem?_toArray,List.getElem?_cons_zero,List.getElem?_cons_succ] at k0 k1 k2 k3 k4 k5 k6 k7 k8)
      |(go_at_call 251;(with_reducible refine Calls.mono (T2.out _) ?_);rintro e w2 ⟨rfl,hw⟩;subst hw;clear T2)
      |(go_at_call 99;(with_reducible refine Calls.mono (T3.out _) ?_);rintro e w3 ⟨rfl,hb⟩;replace HK:=Lib.hid (HK.out.below hb);replace HB:=Lib.hid (HB.out.trans (hb.mono HB.out.size));clear hb T3;(try clear k0 k1 k2 k3 k4 k5 k6 k7 k8);have k0:=HK.out.cell 0;have k1:=HK.out.cell 1;have k2:=HK.out.cell 2;have k3:=HK.out.cell 3;have k4:=HK.out.cell 4;have k5:=HK.out.cell 5;have k6:=HK.out.cell 6;have k7:=HK.out.cell 7;have k8:=HK.out.cell 8;simp only[List.getElem?_toArray,List.getElem?_cons_zero,List.getElem?_cons_succ] at k0 k1 k2 k3 k4 k5 k6 k7 k8)
      |(go_at_call 216;(with_reducible refine Calls.mono (T4.out _) ?_);rintro e w4 ⟨rfl,hw⟩;subst hw;clear T4))
     go_ret
     exact⟨by rw[E.out];rfl,HB.out⟩
    |true=>
     rw[h4] at T4
     have E:=Lib.hid (show tgB q=tmB q.no by rw[tgB,h1,h2,h3,h4];rfl)
     clear h1 h2 h3 h4
     go_enter Tryz.func192,Tryz.ntmps192
     go_wp2_with (first
      |(go_at_call 250;(with_reducible refine Calls.mono (T1.out _) ?_);rintro e w1 ⟨rfl,hb⟩;replace HK:=Lib.hid (HK.out.below hb);replace HB:=Lib.hid (HB.out.trans (hb.mono HB.out.size));clear hb T1;(try clear k0 k1 k2 k3 k4 k5 k6 k7 k8);have k0:=HK.out.cell 0;have k1:=HK.out.cell 1;have k2:=HK.out.cell 2;have k3:=HK.out.cell 3;have k4:=HK.out.cell 4;have k5:=HK.out.cell 5;have k6:=HK.out.cell 6;have k7:=HK.out.cell 7;have k8:=HK.out.cell 8;simp only[List.getElem?_toArray,List.getElem?_cons_zero,List.getElem?_cons_succ] at k0 k1 k2 k3 k4 k5 k6 k7 k8)
      |(go_at_call 251;(with_reducible refine Calls.mono (T2.out _) ?_);rintro e w2 ⟨rfl,hw⟩;subst hw;clear T2)
      |(go_at_call 99;(with_reducible refine Calls.mono (T3.out _) ?_);rintro e w3 ⟨rfl,hb⟩;replace HK:=Lib.hid (HK.out.below hb);replace HB:=Lib.hid (HB.out.trans (hb.mono HB.out.size));clear hb T3;(try clear k0 k1 k2 k3 k4 k5 k6 k7 k8);have k0:=HK.out.cell 0;have k1:=HK.out.cell 1;have k2:=HK.out.cell 2;have k3:=HK.out.cell 3;have k4:=HK.out.cell 4;have k5:=HK.out.cell 5;have k6:=HK.out.cell 6;have k7:=HK.out.cell 7;have k8:=HK.out.cell 8;simp only[List.getElem?_toArray,List.getElem?_cons_zero,List.getElem?_cons_succ] at k0 k1 k2 k3 k4 k5 k6 k7 k8)
      |(go_at_call 216;(with_reducible refine Calls.mono (T4.out _) ?_);rintro e w4 ⟨rfl,hw⟩;subst hw;clear T4)
      |(go_at_call 222;(with_reducible refine Calls.mono (T5.out _) ?_);rintro e w5 ⟨rfl,hw⟩;subst hw;clear T5))
     go_ret
     exact⟨by rw[E.out];rfl,HB.out⟩
set_option maxHeartbeats 3200000 in
theorem isre_any (q:Re) (A1 A2:Option Addr) (c1 c2:Nat) (w:World) (hs:pSm q.t.s) (hs2:pSm q.c):Calls Tryz.prog 193 #[.agg #[.string ⟨q.c.1.toArray⟩,.string ⟨q.c.2.toArray⟩,.string ⟨q.t.s.1.toArray⟩,.string ⟨q.t.s.2.toArray⟩,.int .i64 q.t.k,.slice A1 q.t.b.length c1,.slice A2 q.b.length c2]] w fun e w'=>e = .returned (.bool (reB q))∧Below w.heap.size w w':=by
 have hb0:=(Below.refl w.heap.size w).alloc (Nat.le_refl _) (.cells #[.string ⟨q.c.1.toArray⟩,.string ⟨q.c.2.toArray⟩,.string ⟨q.t.s.1.toArray⟩,.string ⟨q.t.s.2.toArray⟩,.int .i64 q.t.k,.slice A1 q.t.b.length c1,.slice A2 q.b.length c2] 38)
 have HB:=Lib.hid hb0
 have HK:=Lib.hid (Blk.new w 38 #[.string ⟨q.c.1.toArray⟩,.string ⟨q.c.2.toArray⟩,.string ⟨q.t.s.1.toArray⟩,.string ⟨q.t.s.2.toArray⟩,.int .i64 q.t.k,.slice A1 q.t.b.length c1,.slice A2 q.b.length c2])
 clear hb0
 have T1:=Lib.hid (fun w1=>isprinc_any q.c w1 hs2.1 hs2.2)
 have T2:=Lib.hid (fun w1=>isticket_any q.t A1 c1 w1 hs)
 have T3:=Lib.hid (fun w1=>isblob_any q.b A2 c2 w1)
 cases h1:prB q.c with
 |false=>
  rw[h1] at T1
  have E:=Lib.hid (show reB q=false by rw[reB,h1];rfl)
  clear h1
  go_enter Tryz.func193,Tryz.ntmps193
  go_wp2_with (go_at_call 99;(with_reducible refine Calls.mono (T1.out _) ?_);rintro e w1 ⟨rfl,hb⟩;replace HK:=Lib.hid (HK.out.below hb);replace HB:=Lib.hid (HB.out.trans (hb.mono HB.out.size));clear hb T1;(try clear k0 k1 k2 k3 k4 k5 k6);have k0:=HK.out.cell 0;have k1:=HK.out.cell 1;have k2:=HK.out.cell 2;have k3:=HK.out.cell 3;have k4:=HK.out.cell 4;have k5:=HK.out.cell 5;have k6:=HK.out.cell 6;simp only[List.getElem?_toArray,List.getElem?_cons_zero,List.getElem?_cons_succ] at k0 k1 k2 k3 k4 k5 k6)
  go_ret
  exact⟨by rw[E.out];rfl,HB.out⟩
 |true=>
  rw[h1] at T1
  cases h2:tkB q.t with
  |false=>
   rw[h2] at T2
   have E:=Lib.hid (show reB q=false by rw[reB,h1,h2];rfl)
   clear h1 h2
   go_enter Tryz.func193,Tryz.ntmps193
   go_wp2_with (first
    |(go_at_call 99;(with_reducible refine Calls.mono (T1.out _) ?_);rintro e w1 ⟨rfl,hb⟩;replace HK:=Lib.hid (HK.out.below hb);replace HB:=Lib.hid (HB.out.trans (hb.mono HB.out.size));clear hb T1;(try clear k0 k1 k2 k3 k4 k5 k6);have k0:=HK.out.cell 0;have k1:=HK.out.cell 1;have k2:=HK.out.cell 2;have k3:=HK.out.cell 3;have k4:=HK.out.cell 4;have k5:=HK.out.cell 5;have k6:=HK.out.cell 6;simp only[List.getElem?_toArray,List.getElem?_cons_zero,List.getElem?_cons_succ] at k0 k1 k2 k3 k4 k5 k6)
    |(go_at_call 250;(with_reducible refine Calls.mono (T2.out _) ?_);rintro e w2 ⟨rfl,hb⟩;replace HK:=Lib.hid (HK.out.below hb);replace HB:=Lib.hid (HB.out.trans (hb.mono HB.out.size));clear hb T2;(try clear k0 k1 k2 k3 k4 k5 k6);have k0:=HK.out.cell 0;have k1:=HK.out.cell 1;have k2:=HK.out.cell 2;have k3:=HK.out.cell 3;have k4:=HK.out.cell 4;have k5:=HK.out.cell 5;have k6:=HK.out.cell 6;simp only[List.getElem?_toArray,List.getElem?_cons_zero,List.getElem?_cons_succ] at k0 k1 k2 k3 k4 k5 k6))
   go_ret
   exact⟨by rw[E.out];rfl,HB.out⟩
  |true=>
   rw[h2] at T2
   have E:=Lib.hid (show reB q=blobB q.b by rw[reB,h1,h2];rfl)
   clear h1 h2
   go_enter Tryz.func193,Tryz.ntmps193
   go_wp2_with (first
    |(go_at_call 99;(with_reducible refine Calls.mono (T1.out _) ?_);rintro e w1 ⟨rfl,hb⟩;replace HK:=Lib.hid (HK.out.below hb);replace HB:=Lib.hid (HB.out.trans (hb.mono HB.out.size));clear hb T1;(try clear k0 k1 k2 k3 k4 k5 k6);have k0:=HK.out.cell 0;have k1:=HK.out.cell 1;have k2:=HK.out.cell 2;have k3:=HK.out.cell 3;have k4:=HK.out.cell 4;have k5:=HK.out.cell 5;have k6:=HK.out.cell 6;simp only[List.getElem?_toArray,List.getElem?_cons_zero,List.getElem?_cons_succ] at k0 k1 k2 k3 k4 k5 k6)
    |(go_at_call 250;(with_reducible refine Calls.mono (T2.out _) ?_);rintro e w2 ⟨rfl,hb⟩;replace HK:=Lib.hid (HK.out.below hb);replace HB:=Lib.hid (HB.out.trans (hb.mono HB.out.size));clear hb T2;(try clear k0 k1 k2 k3 k4 k5 k6);have k0:=HK.out.cell 0;have k1:=HK.out.cell 1;have k2:=HK.out.cell 2;have k3:=HK.out.cell 3;have k4:=HK.out.cell 4;have k5:=HK.out.cell 5;have k6:=HK.out.cell 6;simp only[List.getElem?_toArray,List.getElem?_cons_zero,List.getElem?_cons_succ] at k0 k1 k2 k3 k4 k5 k6)
    |(go_at_call 251;(with_reducible refine Calls.mono (T3.out _) ?_);rintro e w3 ⟨rfl,hw⟩;subst hw;clear T3))
   go_ret
   exact⟨by rw[E.out];rfl,HB.out⟩
set_option maxHeartbeats 3200000 in
theorem isap_any (q:Ap) (A1 A2:Option Addr) (c1 c2:Nat) (w:World) (hs:pSm q.t.s):Calls Tryz.prog 194 #[.agg #[.string ⟨q.t.s.1.toArray⟩,.string ⟨q.t.s.2.toArray⟩,.int .i64 q.t.k,.slice A1 q.t.b.length c1,.slice A2 q.a.length c2]] w fun e w'=>e = .returned (.bool (apB q))∧Below w.heap.size w w':=by
 have hb0:=(Below.refl w.heap.size w).alloc (Nat.le_refl _) (.cells #[.string ⟨q.t.s.1.toArray⟩,.string ⟨q.t.s.2.toArray⟩,.int .i64 q.t.k,.slice A1 q.t.b.length c1,.slice A2 q.a.length c2] 89)
 have HB:=Lib.hid hb0
 have HK:=Lib.hid (Blk.new w 89 #[.string ⟨q.t.s.1.toArray⟩,.string ⟨q.t.s.2.toArray⟩,.int .i64 q.t.k,.slice A1 q.t.b.length c1,.slice A2 q.a.length c2])
 clear hb0
 have T1:=Lib.hid (fun w1=>isticket_any q.t A1 c1 w1 hs)
 have T2:=Lib.hid (fun w1=>isblob_any q.a A2 c2 w1)
 cases h1:tkB q.t with
 |false=>
  rw[h1] at T1
  have E:=Lib.hid (show apB q=false by rw[apB,h1];rfl)
  clear h1
  go_enter Tryz.func194,Tryz.ntmps194
  go_wp2_with (go_at_call 250;(with_reducible refine Calls.mono (T1.out _) ?_);rintro e w1 ⟨rfl,hb⟩;replace HK:=Lib.hid (HK.out.below hb);replace HB:=Lib.hid (HB.out.trans (hb.mono HB.out.size));clear hb T1;(try clear k0 k1 k2 k3 k4);have k0:=HK.out.cell 0;have k1:=HK.out.cell 1;have k2:=HK.out.cell 2;have k3:=HK.out.cell 3;have k4:=HK.out.cell 4;simp only[List.getElem?_toArray,List.getElem?_cons_zero,List.getElem?_cons_succ] at k0 k1 k2 k3 k4)
  go_ret
  exact⟨by rw[E.out];rfl,HB.out⟩
 |true=>
  rw[h1] at T1
  have E:=Lib.hid (show apB q=blobB q.a by rw[apB,h1];rfl)
  clear h1
  go_enter Tryz.func194,Tryz.ntmps194
  go_wp2_with (first
   |(go_at_call 250;(with_reducible refine Calls.mono (T1.out _) ?_);rintro e w1 ⟨rfl,hb⟩;replace HK:=Lib.hid (HK.out.below hb);replace HB:=Lib.hid (HB.out.trans (hb.mono HB.out.size));clear hb T1;(try clear k0 k1 k2 k3 k4);have k0:=HK.out.cell 0;have k1:=HK.out.cell 1;have k2:=HK.out.cell 2;have k3:=HK.out.cell 3;have k4:=HK.out.cell 4;simp only[List.getElem?_toArray,List.getElem?_cons_zero,List.getElem?_cons_succ] at k0 k1 k2 k3 k4)
   |(go_at_call 251;(with_reducible refine Calls.mono (T2.out _) ?_);rintro e w2 ⟨rfl,hw⟩;subst hw;clear T2))
  go_ret
  exact⟨by rw[E.out];rfl,HB.out⟩
set_option maxHeartbeats 3200000 in
theorem isfa_any (q:Fa) (w:World):Calls Tryz.prog 195 #[.agg #[.int .i64 q.e,.int .i64 q.no]] w fun e w'=>e = .returned (.bool (faB q))∧Below w.heap.size w w':=by
 have hb0:=(Below.refl w.heap.size w).alloc (Nat.le_refl _) (.cells #[.int .i64 q.e,.int .i64 q.no] 91)
 have HB:=Lib.hid hb0
 have HK:=Lib.hid (Blk.new w 91 #[.int .i64 q.e,.int .i64 q.no])
 clear hb0
 have T1:=Lib.hid (fun w1=>within_any q.e 1 255 w1)
 have T2:=Lib.hid (fun w1=>nonce_any q.no w1)
 cases h1:inB q.e 1 255 with
 |false=>
  rw[h1] at T1
  have E:=Lib.hid (show faB q=false by rw[faB,h1];rfl)
  clear h1
  go_enter Tryz.func195,Tryz.ntmps195
  go_wp2_with (go_at_call 252;(with_reducible refine Calls.mono (T1.out _) ?_);rintro e w1 ⟨rfl,hw⟩;subst hw;clear T1)
  go_ret
  exact⟨by rw[E.out];rfl,HB.out⟩
 |true=>
  rw[h1] at T1
  have E:=Lib.hid (show faB q=tmB q.no by rw[faB,h1];rfl)
  clear h1
  go_enter Tryz.func195,Tryz.ntmps195
  go_wp2_with (first
   |(go_at_call 252;(with_reducible refine Calls.mono (T1.out _) ?_);rintro e w1 ⟨rfl,hw⟩;subst hw;clear T1)
   |(go_at_call 222;(with_reducible refine Calls.mono (T2.out _) ?_);rintro e w2 ⟨rfl,hw⟩;subst hw;clear T2))
  go_ret
  exact⟨by rw[E.out];rfl,HB.out⟩
end Go.Proofs.YtfcjeebnkigeaaaGreat.Mc
end

section
set_option linter.unusedVariables false
set_option linter.unusedSimpArgs false
namespace Go.Proofs.YtfcjeebnkigeaaaGreat.Kd
open Go.RowKit Go.Proofs.YtfcjeebnkigeaaaGreat.Mem Go.Proofs.YtfcjeebnkigeaaaGreat.Se
open Go.Proofs.YtfcjeebnkigeaaaGreat.Rg (It Ent Ring RO DRing DO its prV lastI lastN numO lastp_hit lastp_miss)
open Go.Proofs.YtfcjeebnkigeaaaGreat.Ms (tmB inB)
open Go.Proofs.YtfcjeebnkigeaaaGreat.Rg (results_pair)
open Go.Proofs.YtfcjeebnkigeaaaGreat.Nm (krb)
theorem ktime_any (n:Int) (w:World):Calls Tryz.prog 47 #[.int .i64 n] w fun e w'=>e = .returned (.bool (tmB n))∧w=w':=by
 by_cases h1:0≤n
 ·by_cases h2:n≤1073741824
  ·have t1:decide ((0:Int)≤n)=true:=decide_eq_true h1
   have t2:decide (n≤1073741824)=true:=decide_eq_true h2
   have E:=Lib.hid (show tmB n=true by simp [tmB,inB,h1,h2])
   rw[E.out]
   clear h1 h2
   go_enter Tryz.func47,Tryz.ntmps47
   go_wp2
   go_ret
   exact⟨rfl,rfl⟩
  ·have t1:decide ((0:Int)≤n)=true:=decide_eq_true h1
   have t2:decide (n≤1073741824)=false:=decide_eq_false h2
   have E:=Lib.hid (show tmB n=false by simp [tmB,inB,h1,h2])
   rw[E.out]
   clear h1 h2
   go_enter Tryz.func47,Tryz.ntmps47
   go_wp2
   go_ret
   exact⟨rfl,rfl⟩
 ·have t1:decide ((0:Int)≤n)=false:=decide_eq_false h1
  have E:=Lib.hid (show tmB n=false by simp [tmB,inB,h1])
  rw[E.out]
  clear h1
  go_enter Tryz.func47,Tryz.ntmps47
  go_wp2
  go_ret
  exact⟨rfl,rfl⟩
theorem pr_info:(Tryz.prog.info? 27).map (·.size)=some 2:=by kernel_rfl
theorem ho_info:(Tryz.prog.info? 127).map (·.size)=some 4:=by kernel_rfl
abbrev hoA (q:Rg.Pr) (b:Option Addr) (k:Int):Array Value:=#[.string ⟨q.1.toArray⟩,.string ⟨q.2.toArray⟩,.pointer b,.int .i64 k]
section
variable {w:World} {B:Nat} {p:KP} {es:List Ent} {n i:Nat}
set_option maxHeartbeats 1600000 in
theorem find_hit {q:Rg.Pr} {j:Nat} {x:Ent} (h:KD w B p es n i) (hl:es.length≤1000) (hf:lastI (its es) q=some j) (hx:es[j]? = some x) :
  Calls Tryz.prog 49 #[.pointer (some ⟨p.k,0,none⟩),prV q] w fun e w'=>e = .returned (.tuple #[.agg (hoA q (some ⟨x.b,0,none⟩) (x.it.n:Int)),.bool true])∧Below w.heap.size w w':=by
 obtain⟨W,eW⟩:∃W,W=(w.alloc (.cells #[.string ⟨q.1.toArray⟩,.string ⟨q.2.toArray⟩] 27)).alloc (.cells #[.string ⟨#[]⟩,.string ⟨#[]⟩,.pointer none,.int .i64 0] 127):=⟨_,rfl⟩
 have hb:Below w.heap.size w W:=eW▸((Below.refl _ _).alloc (Nat.le_refl _) _).alloc (by simp) _
 have HP:=Lib.hid (show Blk W w.heap.size 27 #[.string ⟨q.1.toArray⟩,.string ⟨q.2.toArray⟩] from eW▸(Blk.new w _ _).alloc _)
 have HO:=Lib.hid (show Blk W (w.heap.size+1) 127 #[.string ⟨#[]⟩,.string ⟨#[]⟩,.pointer none,.int .i64 0] by have:=Blk.new (w.alloc (.cells #[.string ⟨q.1.toArray⟩,.string ⟨q.2.toArray⟩] 27)) 127 #[.string ⟨#[]⟩,.string ⟨#[]⟩,.pointer none,.int .i64 0];simp only[World.size_alloc] at this;exact eW▸this)
 have HB:=Lib.hid hb
 have HK:=Lib.hid (h.below hb)
 have C1:=Lib.hid (fun(w1:World) (h1:Ring w1 B p.r p.v es)=>lastp_hit h1 hl hf hx)
 clear h hl hf hx hb
 go_enter Tryz.func49,Tryz.ntmps49
 go_upto_region 1 with fail
 rw[←eW]
 clear eW
 replace HP:=Lib.hid (show Blk W.drew _ _ _ from HP.out.drewN 1)
 replace HO:=Lib.hid (show Blk W.drew _ _ _ from HO.out.drewN 1)
 replace HB:=Lib.hid (show Below _ _ W.drew from below_drewN HB.out 1)
 replace HK:=Lib.hid HK.out.drew
 go_region_held3 (fun w'=>w'.cell? ⟨p.k,4,none⟩=some (.pointer (some ⟨p.r,0,none⟩))∧w'.cell? ⟨w.heap.size,0,none⟩=some (.string ⟨q.1.toArray⟩)∧w'.cell? ⟨w.heap.size,1,none⟩=some (.string ⟨q.2.toArray⟩)) (exact⟨HK.out.blk.cell 4,HP.out.cell 0,HP.out.cell 1⟩) ((go_at_call 105;refine Calls.mono (C1.out _ HK.out.ring) ?_;rintro e w1 ⟨rfl,hb⟩;clear C1;replace HP:=Lib.hid (HP.out.below hb);replace HO:=Lib.hid (HO.out.below hb);replace HB:=Lib.hid (HB.out.trans (hb.mono HB.out.size));replace HK:=Lib.hid (HK.out.below hb);clear hb))
 have k0:w1.cell? ⟨w.heap.size,0,none⟩=some (.string ⟨q.1.toArray⟩):=HP.out.cell 0
 have k1:w1.cell? ⟨w.heap.size,1,none⟩=some (.string ⟨q.2.toArray⟩):=HP.out.cell 1
 have ko0:w1.cell? ⟨w.heap.size+1,0,none⟩=some (.string ⟨#[]⟩):=HO.out.cell 0
 have ko1:w1.cell? ⟨w.heap.size+1,1,none⟩=some (.string ⟨#[]⟩):=HO.out.cell 1
 have ko2:w1.cell? ⟨w.heap.size+1,2,none⟩=some (.pointer none):=HO.out.cell 2
 have ko3:w1.cell? ⟨w.heap.size+1,3,none⟩=some (.int .i64 0):=HO.out.cell 3
 have fz:=HO.out.frozen
 go_wp2
 have hv:=(((HO.out.set 0 (.string ⟨q.1.toArray⟩)).set 1 (.string ⟨q.2.toArray⟩)).set 2 (.pointer (some ⟨x.b,0,none⟩))).set 3 (.int .i64 (x.it.n:Int))
 refine bodyPost_ret (v:=.tuple #[.agg (hoA q (some ⟨x.b,0,none⟩) (x.it.n:Int)),.bool true]) ?_ ?_ ?_
 ·exact results_pair (v:=.agg (hoA q (some ⟨x.b,0,none⟩) (x.it.n:Int))) 4 5 127 ⟨w.heap.size+1,0,none⟩ Tryz.results49 rfl (Wh.load_blk hv Tryz.underlying127 (by rfl) ho_info) rfl
 ·rfl
 ·exact⟨rfl,Si.below_set (Si.below_set (Si.below_set (Si.below_set HB.out (by simp) _) (by simp) _) (by simp) _) (by simp) _⟩
set_option maxHeartbeats 1600000 in
theorem find_miss {q:Rg.Pr} (h:KD w B p es n i) (hl:es.length≤1000) (hf:lastI (its es) q=none) :
  Calls Tryz.prog 49 #[.pointer (some ⟨p.k,0,none⟩),prV q] w fun e w'=>e = .returned (.tuple #[.agg (hoA ([],[]) none 0),.bool false])∧Below w.heap.size w w':=by
 obtain⟨W,eW⟩:∃W,W=(w.alloc (.cells #[.string ⟨q.1.toArray⟩,.string ⟨q.2.toArray⟩] 27)).alloc (.cells #[.string ⟨#[]⟩,.string ⟨#[]⟩,.pointer none,.int .i64 0] 127):=⟨_,rfl⟩
 have hb:Below w.heap.size w W:=eW▸((Below.refl _ _).alloc (Nat.le_refl _) _).alloc (by simp) _
 have HP:=Lib.hid (show Blk W w.heap.size 27 #[.string ⟨q.1.toArray⟩,.string ⟨q.2.toArray⟩] from eW▸(Blk.new w _ _).alloc _)
 have HO:=Lib.hid (show Blk W (w.heap.size+1) 127 #[.string ⟨#[]⟩,.string ⟨#[]⟩,.pointer none,.int .i64 0] by have:=Blk.new (w.alloc (.cells #[.string ⟨q.1.toArray⟩,.string ⟨q.2.toArray⟩] 27)) 127 #[.string ⟨#[]⟩,.string ⟨#[]⟩,.pointer none,.int .i64 0];simp only[World.size_alloc] at this;exact eW▸this)
 have HB:=Lib.hid hb
 have HK:=Lib.hid (h.below hb)
 have C1:=Lib.hid (fun(w1:World) (h1:Ring w1 B p.r p.v es)=>lastp_miss h1 hl hf)
 clear h hl hf hb
 go_enter Tryz.func49,Tryz.ntmps49
 go_upto_region 1 with fail
 rw[←eW]
 clear eW
 replace HP:=Lib.hid (show Blk W.drew _ _ _ from HP.out.drewN 1)
 replace HO:=Lib.hid (show Blk W.drew _ _ _ from HO.out.drewN 1)
 replace HB:=Lib.hid (show Below _ _ W.drew from below_drewN HB.out 1)
 replace HK:=Lib.hid HK.out.drew
 go_region_held3 (fun w'=>w'.cell? ⟨p.k,4,none⟩=some (.pointer (some ⟨p.r,0,none⟩))∧w'.cell? ⟨w.heap.size,0,none⟩=some (.string ⟨q.1.toArray⟩)∧w'.cell? ⟨w.heap.size,1,none⟩=some (.string ⟨q.2.toArray⟩)) (exact⟨HK.out.blk.cell 4,HP.out.cell 0,HP.out.cell 1⟩) ((go_at_call 105;refine Calls.mono (C1.out _ HK.out.ring) ?_;rintro e w1 ⟨rfl,hb⟩;clear C1;replace HP:=Lib.hid (HP.out.below hb);replace HO:=Lib.hid (HO.out.below hb);replace HB:=Lib.hid (HB.out.trans (hb.mono HB.out.size));replace HK:=Lib.hid (HK.out.below hb);clear hb))
 have ko0:w1.cell? ⟨w.heap.size+1,0,none⟩=some (.string ⟨#[]⟩):=HO.out.cell 0
 have ko1:w1.cell? ⟨w.heap.size+1,1,none⟩=some (.string ⟨#[]⟩):=HO.out.cell 1
 have ko2:w1.cell? ⟨w.heap.size+1,2,none⟩=some (.pointer none):=HO.out.cell 2
 have ko3:w1.cell? ⟨w.heap.size+1,3,none⟩=some (.int .i64 0):=HO.out.cell 3
 have fz:=HO.out.frozen
 go_wp2
 have hv:=(((HO.out.set 0 (.string ⟨#[]⟩)).set 1 (.string ⟨#[]⟩)).set 2 (.pointer none)).set 3 (.int .i64 0)
 refine bodyPost_ret (v:=.tuple #[.agg (hoA ([],[]) none 0),.bool false]) ?_ ?_ ?_
 ·exact results_pair (v:=.agg (hoA ([],[]) none 0)) 4 5 127 ⟨w.heap.size+1,0,none⟩ Tryz.results49 rfl (Wh.load_blk hv Tryz.underlying127 (by rfl) ho_info) rfl
 ·rfl
 ·exact⟨rfl,Si.below_set (Si.below_set (Si.below_set (Si.below_set HB.out (by simp) _) (by simp) _) (by simp) _) (by simp) _⟩
set_option maxRecDepth 100000 in
set_option maxHeartbeats 1600000 in
theorem krbtgt_k {r:Nm.L} (h:KD w B p es n i) (hr:r.length≤1000000) :
  Calls Tryz.prog 50 #[.pointer (some ⟨p.k,0,none⟩),.string ⟨r.toArray⟩] w fun e w'=>e = .returned (prV (kr p.R r))∧Below w.heap.size w w':=by
 obtain⟨W,eW⟩:∃W,W=w.alloc (.cells #[.string ⟨#[]⟩,.string ⟨#[]⟩] 27):=⟨_,rfl⟩
 have hb:Below w.heap.size w W:=eW▸(Below.refl _ _).alloc (Nat.le_refl _) _
 have HP:=Lib.hid (show Blk W w.heap.size 27 #[.string ⟨#[]⟩,.string ⟨#[]⟩] from eW▸Blk.new w _ _)
 have HB:=Lib.hid hb
 have HK:=Lib.hid (h.below hb)
 have hlt:=h.lt
 have C1:=Lib.hid (fun(w1:World)=>Nm.krbtgt_any r w1 (by omega))
 clear h hr hb
 go_enter Tryz.func50,Tryz.ntmps50
 go_upto_region 1 with fail
 rw[←eW]
 clear eW
 replace HP:=Lib.hid (show Blk W.drew _ _ _ from HP.out.drewN 1)
 replace HB:=Lib.hid (show Below _ _ W.drew from below_drewN HB.out 1)
 replace HK:=Lib.hid HK.out.drew
 have kz0:W.drew.cell? ⟨w.heap.size,0,none⟩=some (.string ⟨#[]⟩):=HP.out.cell 0
 have kz1:W.drew.cell? ⟨w.heap.size,1,none⟩=some (.string ⟨#[]⟩):=HP.out.cell 1
 have fz:=HP.out.frozen
 have hp0:Blk W w.heap.size 27 #[.string ⟨#[]⟩,.string ⟨#[]⟩]:=HP.out
 have ky0:=hp0.cell 0
 have ky1:W.cell? ⟨w.heap.size,1,none⟩=some (.string ⟨#[]⟩):=hp0.cell 1
 have fy:=hp0.frozen
 clear hp0
 have k0:W.drew.cell? ⟨p.k,0,none⟩=some (.string ⟨p.R.toArray⟩):=HK.out.blk.cell 0
 refine wp_region_still_tail 7 (by kernel_rfl) (by kernel_rfl) ?_
 simp only[List.take_succ_cons,List.take_zero,List.drop_succ_cons,List.drop_zero]
 change wpStill _ _ W.drew _ _ _
 repeat still_step
 still_call ((C1.out _).mono (fun _ _ h=>⟨h.1,h.2.symm⟩))
 repeat still_step
 refine wpStill_nil ?_
 change wpList _ _ _ _ _ W.drew
 go_wp2
 have hv:=(HP.out.set 0 (.string ⟨p.R.toArray⟩)).set 1 (.string ⟨(krb++r).toArray⟩)
 refine bodyPost_ret (v:=prV (kr p.R r)) ?_ ?_ ?_
 ·exact Wh.results_cell (v:=prV (kr p.R r)) 4 27 ⟨w.heap.size,0,none⟩ Tryz.results50 (by rfl) (Wh.load_blk hv Tryz.underlying27 (by rfl) pr_info)
 ·rfl
 ·exact⟨rfl,Si.below_set (Si.below_set HB.out (by simp) _) (by simp) _⟩
end
set_option maxHeartbeats 1600000 in
theorem clone_kp (p:Rg.Pr) (w:World) (h1:p.1.length≤1000000000) (h2:p.2.length≤1000000000):Calls Tryz.prog 109 #[prV p] w fun e w'=>e = .returned (prV p)∧Below w.heap.size w w':=by
 have C1:=Lib.hid (fun w1=>Nm.clone_any p.1 w1 h1)
 have C2:=Lib.hid (fun w1=>Nm.clone_any p.2 w1 h2)
 go_enter Tryz.func109,Tryz.ntmps109
 go_upto_region 1 with fail
 obtain⟨W,eW⟩:∃W,W=(w.alloc (.cells #[.string ⟨p.1.toArray⟩,.string ⟨p.2.toArray⟩] 27)).alloc (.cells #[.string ⟨#[]⟩,.string ⟨#[]⟩] 27):=⟨_,rfl⟩
 have hq:=Blk.new (w.alloc (.cells #[.string ⟨p.1.toArray⟩,.string ⟨p.2.toArray⟩] 27)) 27 #[.string ⟨#[]⟩,.string ⟨#[]⟩]
 rw[show(w.alloc (.cells #[.string ⟨p.1.toArray⟩,.string ⟨p.2.toArray⟩] 27)).heap.size=w.heap.size+1 by simp,←eW] at hq
 have HK:=Lib.hid (show Blk W w.heap.size 27 #[.string ⟨p.1.toArray⟩,.string ⟨p.2.toArray⟩] by rw[eW];exact(Blk.new _ _ _).alloc _)
 have HZ:=Lib.hid hq
 have HB:=Lib.hid (show Below w.heap.size w W by rw[eW];exact((Below.refl _ _).alloc (Nat.le_refl _) _).alloc (by simp) _)
 rw[←eW]
 clear eW hq
 replace HK:=Lib.hid (show Blk W.drew _ _ _ from HK.out.drewN 1)
 replace HZ:=Lib.hid (show Blk W.drew _ _ _ from HZ.out.drewN 1)
 replace HB:=Lib.hid (show Below _ _ W.drew from below_drewN HB.out 1)
 go_region_held3 (fun w'=>w'.cell? ⟨w.heap.size,0,none⟩=some (.string ⟨p.1.toArray⟩)∧w'.cell? ⟨w.heap.size,1,none⟩=some (.string ⟨p.2.toArray⟩)) (first | exact⟨HK.out.cell 0,HK.out.cell 1⟩ | exact⟨(Si.Blk.far (Si.Blk.far HK.out _ _ (by simp)) _ _ (by simp)).cell 0,(Si.Blk.far (Si.Blk.far HK.out _ _ (by simp)) _ _ (by simp)).cell 1⟩) ((first
  |(go_at_call 94;(with_reducible refine Calls.mono (C1.out _) ?_);rintro e w1 ⟨rfl,hb⟩;clear C1;replace HK:=Lib.hid (HK.out.below hb);replace HZ:=Lib.hid (HZ.out.below hb);replace HB:=Lib.hid (HB.out.trans (hb.mono HB.out.size));have kz0:w1.cell? ⟨w.heap.size+1,0,none⟩=some (.string ⟨#[]⟩):=HZ.out.cell 0;have kz1:w1.cell? ⟨w.heap.size+1,1,none⟩=some (.string ⟨#[]⟩):=HZ.out.cell 1;have fz:=HZ.out.frozen;clear hb)
  |(go_at_call 94;(with_reducible refine Calls.mono (C2.out _) ?_);rintro e w2 ⟨rfl,hb⟩;clear C2 kz0 kz1 fz;replace HK:=Lib.hid (HK.out.below hb);replace HZ:=Lib.hid (HZ.out.below hb);replace HB:=Lib.hid (HB.out.trans (hb.mono HB.out.size));have kz0:w2.cell? ⟨w.heap.size+1,0,none⟩=some (.string ⟨#[]⟩):=HZ.out.cell 0;have kz1:w2.cell? ⟨w.heap.size+1,1,none⟩=some (.string ⟨#[]⟩):=HZ.out.cell 1;have fz:=HZ.out.frozen;clear hb)))
 go_wp2
 have hz:=(HZ.out.set 0 (.string ⟨p.1.toArray⟩)).set 1 (.string ⟨p.2.toArray⟩)
 rw[show(((#[.string ⟨#[]⟩,.string ⟨#[]⟩]:Array Value).setIfInBounds 0 (.string ⟨p.1.toArray⟩)).setIfInBounds 1 (.string ⟨p.2.toArray⟩))=#[.string ⟨p.1.toArray⟩,.string ⟨p.2.toArray⟩] from rfl] at hz
 refine bodyPost_ret (v:=prV p) ?_ ?_ ?_
 ·exact Wh.results_cell (v:=prV p) 2 27 ⟨w.heap.size+1,0,none⟩ Tryz.results109 (by rfl) (Wh.load_blk hz Tryz.underlying27 (by rfl) pr_info)
 ·rfl
 ·exact⟨rfl,Si.below_set (Si.below_set HB.out (by simp) _) (by simp) _⟩
end Go.Proofs.YtfcjeebnkigeaaaGreat.Kd
end

section
set_option linter.unusedVariables false
set_option linter.unusedSimpArgs false
namespace Go.Proofs.YtfcjeebnkigeaaaGreat.Ms
open Go.RowKit Go.Proofs.YtfcjeebnkigeaaaGreat.Mem Go.Proofs.YtfcjeebnkigeaaaGreat.DerP
theorem rp_cells {p:Rp} (hk:p.ss.length=32) {g:Nat} {t:TypeId} {w':World} (h:Blk w' g t (rpC p).toArray):w'.cell? ⟨g,32,none⟩=some (.string ⟨p.s.1.toArray⟩)∧w'.cell? ⟨g,33,none⟩=some (.string ⟨p.s.2.toArray⟩)∧w'.cell? ⟨g,34,none⟩=some (.int .i64 p.st)∧w'.cell? ⟨g,35,none⟩=some (.int .i64 p.en)∧w'.cell? ⟨g,36,none⟩=some (.int .i64 p.no):=by
 have hl:(bvs p.ss).length=32:=by rw[bvs_length];exact hk
 have key:∀j,w'.cell? ⟨g,32+j,none⟩=(prC p.s++[.int .i64 p.st,.int .i64 p.en,.int .i64 p.no])[j]?:=fun j=>by
  rw[h.cell,List.getElem?_toArray,rpC,List.getElem?_append_right (by omega),hl,Nat.add_sub_cancel_left]
 exact⟨key 0,key 1,key 2,key 3,key 4⟩
theorem rp_size {p:Rp} (hk:p.ss.length=32):(rpC p).toArray.size=37:=by
 simp [rpC,prC,bvs_length,hk]
end Go.Proofs.YtfcjeebnkigeaaaGreat.Ms
end

section
set_option linter.unusedVariables false
set_option linter.unusedSimpArgs false
namespace Go.Proofs.YtfcjeebnkigeaaaGreat.Ms
open Go.RowKit Go.Proofs.YtfcjeebnkigeaaaGreat.Mem Go.Proofs.YtfcjeebnkigeaaaGreat.DerP Go.Proofs.YtfcjeebnkigeaaaGreat.DerR
theorem rp_key {p:Rp} (hk:p.ss.length=32) {g:Nat} {t:TypeId} {w':World} (h:Blk w' g t (rpC p).toArray):Rd w' w'.heap.size (some ⟨g,0,none⟩) (bvs p.ss):=by
 refine .inr ⟨g,0,rfl,h.lt,fun i u hu=>?_⟩
 rw[Nat.zero_add,h.cell,List.getElem?_toArray,rpC]
 have hi:i<(bvs p.ss).length:=(List.getElem?_eq_some_iff.1 hu).1
 rw[List.getElem?_append_left hi];exact hu
end Go.Proofs.YtfcjeebnkigeaaaGreat.Ms
end

section
set_option linter.unusedVariables false
set_option linter.unusedSimpArgs false
namespace Go.Proofs.YtfcjeebnkigeaaaGreat.Ms
open Go.RowKit Go.Proofs.YtfcjeebnkigeaaaGreat.Mem Go.Proofs.YtfcjeebnkigeaaaGreat.DerP
def FitT (l:L) (k:Nat):Prop:=∀i (h:i<l.length),i<k→32≤l[i].toNat∧l[i].toNat≤126
theorem txt_all {l:L} (h:FitT l l.length):txtB l=true:=by
 rw[txtB,List.all_eq_true]
 intro x hx
 obtain⟨i,hi,rfl⟩:=List.getElem_of_mem hx
 have:=h i hi hi
 simp [this.1,this.2]
theorem txt_bad {l:L} {k:Nat} (hk:k<l.length) (h:l[k].toNat<32∨126<l[k].toNat):txtB l=false:=by
 rw[txtB,List.all_eq_false]
 refine⟨l[k],List.getElem_mem hk,?_⟩
 simp;omega
theorem pt_cells {p:Pt} (hk:p.ss.length=32) {g:Nat} {t:TypeId} {w':World} (h:Blk w' g t (ptC p).toArray):w'.cell? ⟨g,0,none⟩=some (.string ⟨p.c.1.toArray⟩)∧w'.cell? ⟨g,1,none⟩=some (.string ⟨p.c.2.toArray⟩)∧w'.cell? ⟨g,34,none⟩=some (.string ⟨p.tr.toArray⟩)∧w'.cell? ⟨g,35,none⟩=some (.int .i64 p.st)∧w'.cell? ⟨g,36,none⟩=some (.int .i64 p.en):=by
 have hl:(bvs p.ss).length=32:=by rw[bvs_length];exact hk
 have key:∀j,w'.cell? ⟨g,34+j,none⟩=([.string ⟨p.tr.toArray⟩,.int .i64 p.st,.int .i64 p.en]:List Value)[j]?:=fun j=>by
  rw[h.cell,List.getElem?_toArray,ptC,List.getElem?_append_right (by simp [prC];omega),List.getElem?_append_right (by simp [prC];omega)]
  congr 1
  simp [prC,hl];omega
 refine⟨by rw[h.cell];rfl,by rw[h.cell];rfl,key 0,key 1,key 2⟩
theorem pt_size {p:Pt} (hk:p.ss.length=32):(ptC p).toArray.size=37:=by
 simp [ptC,prC,bvs_length,hk]
attribute [local go_sem] mk_at List.getElem_cons_zero List.getElem_cons_succ
end Go.Proofs.YtfcjeebnkigeaaaGreat.Ms
end

section
set_option linter.unusedVariables false
set_option linter.unusedSimpArgs false
namespace Go.Proofs.YtfcjeebnkigeaaaGreat.Ms
open Go.RowKit Go.Proofs.YtfcjeebnkigeaaaGreat.Mem Go.Proofs.YtfcjeebnkigeaaaGreat.DerP Go.Proofs.YtfcjeebnkigeaaaGreat.DerR
theorem pt_key {p:Pt} {g:Nat} {t:TypeId} {w':World} (h:Blk w' g t (ptC p).toArray):Rd w' w'.heap.size (some ⟨g,2,none⟩) (bvs p.ss):=by
 refine .inr ⟨g,2,rfl,h.lt,fun i u hu=>?_⟩
 have hi:i<(bvs p.ss).length:=(List.getElem?_eq_some_iff.1 hu).1
 rw[h.cell,List.getElem?_toArray,ptC,List.getElem?_append_right (by simp [prC]),List.getElem?_append_left (by simp [prC];exact hi)]
 simpa [prC] using hu
end Go.Proofs.YtfcjeebnkigeaaaGreat.Ms
end
