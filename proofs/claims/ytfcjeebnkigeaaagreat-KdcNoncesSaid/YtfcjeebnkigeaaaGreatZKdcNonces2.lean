import Derived.Deep.LoopGhost
import Derived.Lib.ItoaNum
import Derived.Test.YtfcjeebnkigeaaaGreatZKdcNonces1
section
set_option linter.unusedVariables false
namespace Go.Proofs.YtfcjeebnkigeaaaGreat.Nm
open Go.RowKit Go.Proofs.YtfcjeebnkigeaaaGreat.Mem
attribute [local go_sem] mk_at List.getElem_cons_zero List.getElem_cons_succ ext_tail ext_drop ext_mid ext_take
theorem Drawn.trans {a b c:World} (h:Drawn a b) (k:Drawn b c):Drawn a c:=by
 obtain⟨n,rfl⟩:=h
 obtain⟨m,rfl⟩:=k
 exact⟨n+m,by simp [World.drewN_drewN]⟩
set_option maxHeartbeats 800000 in
theorem arelabels_any (l:L) (b:UInt8) (w:World) (hs:l.length≤1000000000):Calls Tryz.prog 255 #[.string ⟨l.toArray⟩,.string ⟨#[b]⟩] w fun e w'=>e = .returned (.bool (areL b 4 l))∧Drawn w w':=by
 have HS:=Lib.hid hs;clear hs
 go_enter Tryz.func255,Tryz.ntmps255
 go_wp2
 go_loopw [0,8] (fun sv iv wr=>∃(k:Nat) (s:L),k≤4∧sv = .string ⟨s.toArray⟩∧iv = .int .i64 (k:Int)∧areL b (4 - k) s=areL b 4 l∧s.length≤l.length∧Drawn w wr) (fun _ iv _=>4 - (intOf iv).toNat)
 case atStart=>exact⟨0,l,by omega,rfl,rfl,rfl,Nat.le_refl _,Drawn.refl _⟩
 case round=>
  obtain⟨k,s,hk,rfl,rfl,ha,hl,hd⟩:=hrel
  have HL:=Lib.hid hl;clear hl
  have HD:=Lib.hid hd;clear hd
  by_cases hlt:k<4
  ·have e1:(k:Int)<4:=by omega
   have hsl:s.length≤1000000000:=Nat.le_trans HL.out HS.out
   have c1:=cut_one s b wr hsl
   have c2:=fun w1=>isword_cap (bef b s) w1 (by have:=bef_len b s;omega)
   have C2:=Lib.hid c2;clear c2
   have ea:areL b (4 - k) s=(wordL capB (bef b s)&&(if hasC b s then areL b (4 - (k+1)) (aft b s) else true)):=by
    rw[show 4 - k=(4 - (k+1))+1 by omega];rfl
   rw[ea] at ha
   have hal:(aft b s).length≤l.length:=by have:=aft_len b s;have:=HL.out;omega
   have HAL:=Lib.hid hal;clear hal ea hsl
   cases hw:wordL capB (bef b s) with
   |false=>
    rw[hw,Bool.false_and] at ha
    have HA:=Lib.hid ha;clear ha
    have HW:=Lib.hid hw;clear hw
    go_wp2_with (first
     |(go_at_call 238;refine Calls.mono c1 ?_;rintro e w1 ⟨rfl,hd⟩;clear c1;have c2:=C2.out w1;rw[HW.out] at c2;have H1:=Lib.hid hd;clear hd)
     |(go_at_call 151;refine Calls.mono c2 ?_;rintro e w2 ⟨rfl,rfl⟩;clear c2))
    go_ret
    exact⟨by rw[←HA.out];rfl,HD.out.trans H1.out⟩
   |true=>
    rw[hw,Bool.true_and] at ha
    have HW:=Lib.hid hw;clear hw
    cases hc:hasC b s with
    |false=>
     rw[hc,if_neg (by simp)] at ha
     rw[hc] at c1
     have HA:=Lib.hid ha;clear ha
     have HC:=Lib.hid hc;clear hc
     go_wp2_with (first
      |(go_at_call 238;refine Calls.mono c1 ?_;rintro e w1 ⟨rfl,hd⟩;clear c1;have c2:=C2.out w1;rw[HW.out] at c2;have H1:=Lib.hid hd;clear hd)
      |(go_at_call 151;refine Calls.mono c2 ?_;rintro e w2 ⟨rfl,rfl⟩;clear c2))
     go_ret
     exact⟨by rw[←HA.out];rfl,HD.out.trans H1.out⟩
    |true=>
     rw[hc,if_pos rfl] at ha
     rw[hc] at c1
     have HA:=Lib.hid ha;clear ha
     have HC:=Lib.hid hc;clear hc
     go_wp2_with (first
      |(go_at_call 238;refine Calls.mono c1 ?_;rintro e w1 ⟨rfl,hd⟩;clear c1;have c2:=C2.out w1;rw[HW.out] at c2;have H1:=Lib.hid hd;clear hd)
      |(go_at_call 151;refine Calls.mono c2 ?_;rintro e w2 ⟨rfl,rfl⟩;clear c2))
     go_roundw
     case rel=>exact⟨k+1,aft b s,by omega,rfl,by go_num,HA.out,HAL.out,HD.out.trans H1.out⟩
     case measure=>simp [intOf];omega
  ·have e1:¬(k:Int)<4:=by omega
   obtain rfl:k=4:=by omega
   have HA:=Lib.hid (show areL b 4 l=false by rw[←ha];rfl);clear ha
   go_wp2
   go_ret
   exact⟨by rw[HA.out];rfl,HD.out⟩
theorem sl_pre (l:L):slL l=(preL [47] l&&labsL (split 47 (cpL [47] l))):=by
 cases l with
 |nil=>rfl
 |cons x r=>
  rw[slL,cpL]
  by_cases h:x=47
  ·subst h
   have e:preL [47] (47 :: r)=true:=by simp [preL]
   rw[e];simp
  ·have e:preL [47] (x :: r)=false:=by
    cases q:preL [47] (x :: r) with
    |false=>rfl
    |true=>have:=congrArg List.head? (pre_iff.1 q);simp at this;exact absurd this h
   rw[e];simp [h]
theorem cp_len (p l:L):(cpL p l).length≤l.length:=by rw[cpL];split<;>simp
set_option maxHeartbeats 800000 in
theorem kind_any (l:L) (w:World) (hs:l.length≤1000000000):Calls Tryz.prog 212 #[.string ⟨l.toArray⟩] w fun e w'=>e = .returned (.int .i64 (kindL l:Int))∧Drawn w w':=by
 have c1:=arelabels_any l 46 w hs
 rw[areL_labs] at c1
 have C2:=Lib.hid (fun w1=>cutprefix_any l [47] w1 hs (by decide))
 have c3:=fun w1=>arelabels_any (cpL [47] l) 47 w1 (by have:=cp_len [47] l;omega)
 rw[areL_labs] at c3
 have C3:=Lib.hid c3;clear c3 hs
 have ek:=kind_order l
 rw[sl_pre] at ek
 cases h1:labsL (split 46 l) with
 |true=>
  rw[h1] at c1
  have E:=Lib.hid (show kindL l=1 by rw[ek,h1];rfl);clear ek h1
  go_enter Tryz.func212,Tryz.ntmps212
  go_wp2_with (go_at_call 255;refine Calls.mono c1 ?_;rintro e w1 ⟨rfl,hd⟩;clear c1;have H1:=Lib.hid hd;clear hd)
  go_ret
  exact⟨by rw[E.out];rfl,H1.out⟩
 |false=>
  rw[h1] at c1
  rw[h1,if_neg (by simp)] at ek
  cases h2:preL [47] l with
  |false=>
   have E:=Lib.hid (show kindL l=0 by rw[ek,h2];rfl)
   have H2:=Lib.hid h2
   clear ek h1 h2
   go_enter Tryz.func212,Tryz.ntmps212
   go_wp2_with (first
    |(go_at_call 255;refine Calls.mono c1 ?_;rintro e w1 ⟨rfl,hd⟩;clear c1;have H1:=Lib.hid hd;clear hd;have c2:=C2.out w1;rw[H2.out] at c2)
    |(go_at_call 213;refine Calls.mono c2 ?_;rintro e w2 ⟨rfl,rfl⟩;clear c2))
   go_ret
   exact⟨by rw[E.out];rfl,H1.out⟩
  |true=>
   rw[h2,Bool.true_and] at ek
   have H2:=Lib.hid h2
   cases h3:labsL (split 47 (cpL [47] l)) with
   |false=>
    have E:=Lib.hid (show kindL l=0 by rw[ek,h3];rfl)
    have H3:=Lib.hid h3
    clear ek h1 h2 h3
    go_enter Tryz.func212,Tryz.ntmps212
    go_wp2_with (first
     |(go_at_call 255;refine Calls.mono c1 ?_;rintro e w1 ⟨rfl,hd⟩;clear c1;have H1:=Lib.hid hd;clear hd;have c2:=C2.out w1;rw[H2.out] at c2)
     |(go_at_call 213;refine Calls.mono c2 ?_;rintro e w2 ⟨rfl,rfl⟩;clear c2;have c4:=C3.out w1;rw[H3.out] at c4)
     |(go_at_call 255;refine Calls.mono c4 ?_;rintro e w3 ⟨rfl,hd⟩;clear c4;have H4:=Lib.hid hd;clear hd))
    go_ret
    exact⟨by rw[E.out];rfl,H1.out.trans H4.out⟩
   |true=>
    have E:=Lib.hid (show kindL l=2 by rw[ek,h3];rfl)
    have H3:=Lib.hid h3
    clear ek h1 h2 h3
    go_enter Tryz.func212,Tryz.ntmps212
    go_wp2_with (first
     |(go_at_call 255;refine Calls.mono c1 ?_;rintro e w1 ⟨rfl,hd⟩;clear c1;have H1:=Lib.hid hd;clear hd;have c2:=C2.out w1;rw[H2.out] at c2)
     |(go_at_call 213;refine Calls.mono c2 ?_;rintro e w2 ⟨rfl,rfl⟩;clear c2;have c4:=C3.out w1;rw[H3.out] at c4)
     |(go_at_call 255;refine Calls.mono c4 ?_;rintro e w3 ⟨rfl,hd⟩;clear c4;have H4:=Lib.hid hd;clear hd))
    go_ret
    exact⟨by rw[E.out];rfl,H1.out.trans H4.out⟩
theorem is_any (l:L) (w:World) (hs:l.length≤1000000000):Calls Tryz.prog 149 #[.string ⟨l.toArray⟩] w fun e w'=>e = .returned (.bool (isL l))∧Drawn w w':=by
 have c1:=kind_any l w hs
 by_cases h:1≤kindL l
 ·have E:=Lib.hid (show isL l=true by simp [isL,h])
  have t:((kindL l:Int) != 0)=true:=by simp;omega
  clear h
  go_enter Tryz.func149,Tryz.ntmps149
  go_wp2_with (go_at_call 212;refine Calls.mono c1 ?_;rintro e w1 ⟨rfl,hd⟩;clear c1;have H1:=Lib.hid hd;clear hd)
  go_ret
  exact⟨by rw[E.out];rfl,H1.out⟩
 ·have E:=Lib.hid (show isL l=false by simp [isL];omega)
  have e0:kindL l=0:=by omega
  rw[e0] at c1
  clear h e0
  go_enter Tryz.func149,Tryz.ntmps149
  go_wp2_with (go_at_call 212;refine Calls.mono c1 ?_;rintro e w1 ⟨rfl,hd⟩;clear c1;have H1:=Lib.hid hd;clear hd)
  go_ret
  exact⟨by rw[E.out];rfl,H1.out⟩
end Go.Proofs.YtfcjeebnkigeaaaGreat.Nm
end

section
set_option linter.unusedVariables false
namespace Go.Proofs.YtfcjeebnkigeaaaGreat.Nm
open Go.RowKit Go.Proofs.YtfcjeebnkigeaaaGreat.Mem
theorem mk_append (a b:L):ByteArray.mk a.toArray++ByteArray.mk b.toArray=ByteArray.mk (a++b).toArray:=by
 apply ByteArray.ext
 simp
attribute [local go_sem] mk_at List.getElem_cons_zero List.getElem_cons_succ ext_tail ext_drop ext_mid ext_take
def krb:L:=[107,114,98,116,103,116,47]
def tgL (n:L):Bool:=preL krb n&&isL (cpL krb n)
def tgR (n:L):L:=if tgL n then n.drop 7 else []
def princL (r n:L):Bool:=isL r&&(tgL n||wordL wordB n)
theorem krbtgt_any (l:L) (w:World) (hs:l.length≤1000000000):Calls Tryz.prog 106 #[.string ⟨l.toArray⟩] w fun e w'=>e = .returned (.string ⟨(krb++l).toArray⟩)∧w=w':=by
 have E:=Lib.hid (mk_append krb l)
 go_enter Tryz.func106,Tryz.ntmps106
 go_wp2
 go_ret
 exact⟨by rw[←E.out];rfl,rfl⟩
theorem rkrbtgt_any (l:L) (w:World) (hs:l.length≤1000000000):Calls Tryz.prog 54 #[.string ⟨l.toArray⟩] w fun e w'=>e = .returned (.string ⟨(krb++l).toArray⟩)∧w=w':=by
 have E:=Lib.hid (mk_append krb l)
 go_enter Tryz.func54,Tryz.ntmps54
 go_wp2
 go_ret
 exact⟨by rw[←E.out];rfl,rfl⟩
set_option maxHeartbeats 800000 in
theorem target_any (n:L) (w:World) (hs:n.length≤1000000000):Calls Tryz.prog 150 #[.string ⟨n.toArray⟩] w fun e w'=>e = .returned (.tuple #[.string ⟨(tgR n).toArray⟩,.bool (tgL n)])∧Below w.heap.size w w':=by
 have c1:=cutprefix_any n krb w hs (by decide)
 have hcl:=cp_len krb n
 have c2:=is_any (cpL krb n) w (by omega)
 have C3:=Lib.hid (fun w1=>clone_any (cpL krb n) w1 (by omega))
 have HB0:=Lib.hid (Below.refl w.heap.size w)
 cases h1:preL krb n with
 |false=>
  have E1:=Lib.hid (show tgL n=false by rw[tgL,h1];rfl)
  have E2:=Lib.hid (show tgR n = [] by rw[tgR,E1.out];rfl)
  rw[h1] at c1
  clear h1 hs hcl c2
  go_enter Tryz.func150,Tryz.ntmps150
  go_wp2_with (go_at_call 213;refine Calls.mono c1 ?_;rintro e w1 ⟨rfl,rfl⟩;clear c1)
  go_ret2
  exact⟨by rw[E1.out,E2.out];rfl,HB0.out⟩
 |true=>
  cases h2:isL (cpL krb n) with
  |false=>
   have E1:=Lib.hid (show tgL n=false by rw[tgL,h1,h2];rfl)
   have E2:=Lib.hid (show tgR n = [] by rw[tgR,E1.out];rfl)
   rw[h1] at c1
   rw[h2] at c2
   clear h1 h2 hs hcl
   go_enter Tryz.func150,Tryz.ntmps150
   go_wp2_with (first
    |(go_at_call 213;refine Calls.mono c1 ?_;rintro e w1 ⟨rfl,rfl⟩;clear c1)
    |(go_at_call 149;refine Calls.mono c2 ?_;rintro e w2 ⟨rfl,hd⟩;clear c2;have H2:=Lib.hid hd.below;clear hd))
   go_ret2
   exact⟨by rw[E1.out,E2.out];rfl,H2.out⟩
  |true=>
   have E1:=Lib.hid (show tgL n=true by rw[tgL,h1,h2];rfl)
   have E2:=Lib.hid (show tgR n=cpL krb n by rw[tgR,E1.out,cpL,h1];rfl)
   rw[h1] at c1
   rw[h2] at c2
   clear h1 h2 hs hcl
   go_enter Tryz.func150,Tryz.ntmps150
   go_wp2_with (first
    |(go_at_call 213;refine Calls.mono c1 ?_;rintro e w1 ⟨rfl,rfl⟩;clear c1)
    |(go_at_call 149;refine Calls.mono c2 ?_;rintro e w2 ⟨rfl,hd⟩;clear c2;have H2:=Lib.hid hd.below;clear hd;have c3:=C3.out w2)
    |(go_at_call 94;refine Calls.mono c3 ?_;rintro e w3 ⟨rfl,hb⟩;clear c3;have H3:=Lib.hid (H2.out.trans (hb.mono H2.out.size));clear hb))
   go_ret2
   exact⟨by rw[E1.out,E2.out];rfl,H3.out⟩
set_option maxHeartbeats 800000 in
theorem isprinc_any (r n:L) (w:World) (hs:r.length≤1000000000) (hs2:n.length≤1000000000):Calls Tryz.prog 99 #[.agg #[.string ⟨r.toArray⟩,.string ⟨n.toArray⟩]] w fun e w'=>e = .returned (.bool (princL r n))∧Below w.heap.size w w':=by
 have c1:=is_any r (w.alloc (.cells #[.string ⟨r.toArray⟩,.string ⟨n.toArray⟩] 27)) hs
 have hk:=Blk.new w 27 #[.string ⟨r.toArray⟩,.string ⟨n.toArray⟩]
 have hb0:=(Below.refl w.heap.size w).alloc (Nat.le_refl _) (.cells #[.string ⟨r.toArray⟩,.string ⟨n.toArray⟩] 27)
 have hsz:w.heap.size<(w.alloc (.cells #[.string ⟨r.toArray⟩,.string ⟨n.toArray⟩] 27)).heap.size:=by simp
 obtain⟨N,eN⟩:∃N,N=w.heap.size:=⟨_,rfl⟩
 have C2:=Lib.hid (fun w1=>target_any n w1 hs2)
 have C3:=Lib.hid (fun w1=>isword_sd n w1 hs2)
 have E1:=Lib.hid (show princL r n=(isL r&&(tgL n||wordL wordB n)) from rfl)
 rw[←eN] at hk hb0 hsz⊢
 have EN:=Lib.hid eN;clear eN
 have HK:=Lib.hid hk;clear hk
 have HB0:=Lib.hid hb0;clear hb0
 have HSZ:=Lib.hid hsz;clear hsz hs hs2
 cases h1:isL r with
 |false=>
  rw[h1] at c1
  have E:=Lib.hid (show princL r n=false by rw[E1.out,h1];rfl)
  clear h1
  go_enter Tryz.func99,Tryz.ntmps99
  go_wp2_with (go_at_call 149;refine Calls.mono c1 ?_;rintro e w1 ⟨rfl,hd⟩;clear c1;have H1:=Lib.hid (HB0.out.trans (hd.below.mono (Nat.le_of_lt HSZ.out)));clear hd)
  go_ret
  exact⟨by rw[E.out];rfl,H1.out⟩
 |true=>
  rw[h1] at c1
  have C2':=Lib.hid (fun w1=>C2.out w1)
  cases h2:tgL n with
  |true=>
   have E:=Lib.hid (show princL r n=true by rw[E1.out,h1,h2];rfl)
   have HT:=Lib.hid h2
   clear h1 h2
   go_enter Tryz.func99,Tryz.ntmps99
   go_wp2_with (first
    |(go_at_call 149;refine Calls.mono c1 ?_;rintro e w1 ⟨rfl,hd⟩;clear c1;have H1:=Lib.hid (HB0.out.trans (hd.below.mono (Nat.le_of_lt HSZ.out)));have hk1:=(HK.out.below hd.below).cell 1;have hs1:N<w1.heap.size:=(by have:=hd.below.size;have:=HSZ.out;omega);have HS1:=Lib.hid hs1;rw[EN.out] at hk1;clear hd hs1;have c2:=C2.out w1;rw[HT.out] at c2)
    |(go_at_call 150;refine Calls.mono c2 ?_;rintro e w2 ⟨rfl,hb⟩;clear c2;have H2:=Lib.hid (H1.out.trans (hb.mono (Nat.le_of_lt HS1.out)));clear hb))
   go_ret
   exact⟨by rw[E.out];rfl,H2.out⟩
  |false=>
   have E:=Lib.hid (show princL r n=wordL wordB n by rw[E1.out,h1,h2];rfl)
   have HT:=Lib.hid h2
   clear h1 h2
   go_enter Tryz.func99,Tryz.ntmps99
   go_wp2_with (first
    |(go_at_call 149;refine Calls.mono c1 ?_;rintro e w1 ⟨rfl,hd⟩;clear c1;have H1:=Lib.hid (HB0.out.trans (hd.below.mono (Nat.le_of_lt HSZ.out)));have hkk:=HK.out.below hd.below;have HKK:=Lib.hid hkk;have hk1:=hkk.cell 1;have hs1:N<w1.heap.size:=(by have:=hd.below.size;have:=HSZ.out;omega);have HS1:=Lib.hid hs1;rw[EN.out] at hk1;clear hd hs1 hkk;have c2:=C2.out w1;rw[HT.out] at c2)
    |(go_at_call 150;refine Calls.mono c2 ?_;rintro e w2 ⟨rfl,hb⟩;clear c2 hk1;have H2:=Lib.hid (H1.out.trans (hb.mono (Nat.le_of_lt HS1.out)));have hk2:=(HKK.out.below hb).cell 1;rw[EN.out] at hk2;clear hb;have c3:=C3.out w2)
    |(go_at_call 151;refine Calls.mono c3 ?_;rintro e w3 ⟨rfl,rfl⟩;clear c3))
   go_ret
   exact⟨by rw[E.out];rfl,H2.out⟩
end Go.Proofs.YtfcjeebnkigeaaaGreat.Nm
end

section
set_option linter.unusedVariables false
namespace Go.Proofs.YtfcjeebnkigeaaaGreat.Rg
open Go.Proofs.YtfcjeebnkigeaaaGreat.Nm (princL L)
abbrev Pr:=L×L
def prB (p:Pr):Bool:=princL p.1 p.2
structure It where
 p:Pr
 n:Nat
 k:Nat→UInt8
def hit (i:It) (p:Pr) (n:Int):Bool:=decide (i.p=p)&&decide ((i.n:Int)=n)
def lastTo (l:List It) (p:Pr):Nat→Option Nat
 |0=>none
 |i+1=>if (l[i]?).map (·.p)=some p then some i else lastTo l p i
def lastI (l:List It) (p:Pr):Option Nat:=lastTo l p l.length
def numO (l:List It):Option Nat→Nat
 |none=>0
 |some i=>((l[i]?).map (·.n)).getD 0
def lastN (l:List It) (p:Pr):Nat:=numO l (lastI l p)
def Num (l:List It):Prop:=∀j i,l[j]? = some i→i.n=numO l (lastTo l i.p j)+1
def addN (l:List It) (p:Pr):Nat:=if prB p=true then (if l.length<40 then lastN l p+1 else 0) else 0
def addE (l:List It) (p:Pr):Nat:=if prB p=true then (if l.length<40 then 0 else 13) else 1
def addL (l:List It) (p:Pr) (k:Nat→UInt8):List It:=if prB p=true then (if l.length<40 then l++[⟨p,lastN l p+1,k⟩] else l) else l
theorem lastTo_some {l:List It} {p:Pr}:∀{i j:Nat},lastTo l p i=some j→j<i∧∃x,l[j]? = some x∧x.p=p
 |0,j,h=>by cases h
 |i+1,j,h=>by
  unfold lastTo at h
  split at h
  ·rename_i e
   injection h with h
   subst h
   obtain⟨x,h1,h2⟩:=Option.map_eq_some_iff.1 e
   exact⟨Nat.lt_succ_self _,x,h1,h2⟩
  ·obtain⟨h1,h2⟩:=lastTo_some h
   exact⟨Nat.lt_succ_of_lt h1,h2⟩
theorem lastTo_app {l m:List It} {p:Pr}:∀{i:Nat},i≤l.length→lastTo (l++m) p i=lastTo l p i
 |0,_=>rfl
 |i+1,h=>by unfold lastTo;rw[List.getElem?_append_left (by omega),lastTo_app (by omega)]
theorem num_to_le {l:List It} (h:Num l) (p:Pr):∀i,numO l (lastTo l p i)≤i
 |0=>Nat.le_refl _
 |i+1=>by
  unfold lastTo
  split
  ·rename_i e
   obtain⟨x,h1,h2⟩:=Option.map_eq_some_iff.1 e
   have h3:=h i x h1
   have h4:=num_to_le h p i
   rw[h2] at h3
   simp only[numO,h1,Option.map_some,Option.getD_some]
   omega
  ·have:=num_to_le h p i;omega
theorem last_le {l:List It} (h:Num l) (p:Pr):lastN l p≤l.length:=num_to_le h p _
end Go.Proofs.YtfcjeebnkigeaaaGreat.Rg
end

section
namespace Go.Proofs.YtfcjeebnkigeaaaGreat.DerP
abbrev L:=List UInt8
def szL (n:Nat):L:=if n<128 then [UInt8.ofNat n] else if n≤255 then [129,UInt8.ofNat n] else [130,UInt8.ofNat (n / 256),UInt8.ofNat n]
def elem (t:UInt8) (p:L):L:=t :: (szL p.length++p)
def lenR:L→Nat×Nat×Bool
 | []=>(0,0,false)
 |a :: r=>
  if a.toNat<128 then (a.toNat,1,true)
  else if a.toNat=129 then
   match r with
   | []=>(0,0,false)
   |b :: _=>(b.toNat,2,decide (128≤b.toNat))
  else if a.toNat=130 then
   match r with
   |b :: c :: _=>(b.toNat*256+c.toNat,3,decide (255<b.toNat*256+c.toNat))
   |_=>(0,0,false)
  else (0,0,false)
def splitL (t:UInt8):L→Option (L×L)
 | []=>none
 |a :: s=>
  if a=t∧(lenR s).2.2=true∧(lenR s).1+(lenR s).2.1≤s.length
  then some ((s.drop (lenR s).2.1).take (lenR s).1,(s.drop (lenR s).2.1).drop (lenR s).1) else none
def nextC (t:UInt8) (c:Option L):Option L:=(c.bind (splitL t)).map (·.2)
def bodyC (t:UInt8) (c:Option L):Option L:=(c.bind (splitL t)).map (·.1)
theorem body_none {t:UInt8} {s:L} (h:splitL t s=none):bodyC t (some s)=none∧nextC t (some s)=none:=by simp [bodyC,nextC,h]
theorem body_some {t:UInt8} {s b r:L} (h:splitL t s=some (b,r)):bodyC t (some s)=some b∧nextC t (some s)=some r:=by simp [bodyC,nextC,h]
def val (l:L):Nat:=l.foldl (fun a b=>a*256+b.toNat) 0
def headSmall:L→Bool
 | []=>false
 |b :: _=>decide (b.toNat<128)
def numL:L→Option Nat
 | []=>none
 |a :: r=>
  if 7<r.length∨128≤a.toNat then none
  else if a.toNat=0∧headSmall r=true then none
  else if 4611686018427387904<val (a :: r) then none
  else some (val (a :: r))
def digK:Nat→Nat→L
 |0,_=>[]
 |k+1,n=>digK k (n / 256)++[UInt8.ofNat n]
def dig (n:Nat):L:=digK (Lib.bitLen n / 8+1) n
def clampN (n:Int):Nat:=(min (max n 0) 4611686018427387904).toNat
def encI (n:Int):L:=elem 2 (dig (clampN n))
def intC (c:Option L):Nat×Option L:=
 match bodyC 2 c with
 |none=>(0,none)
 |some b=>match numL b with
  |none=>(0,none)
  |some n=>(n,nextC 2 c)
theorem clampN_le (n:Int):clampN n≤4611686018427387904:=by unfold clampN;omega
theorem clampN_int (n:Int):((clampN n:Nat):Int)=min (max n 0) 4611686018427387904:=by unfold clampN;omega
theorem length_digK (k n:Nat):(digK k n).length=k:=by
 induction k generalizing n with
 |zero=>rfl
 |succ k ih=>simp [digK,ih]
theorem val_snoc (l:L) (b:UInt8):val (l++[b])=val l*256+b.toNat:=by simp [val]
theorem val_digK (k n:Nat):val (digK k n)=n % 256 ^ k:=by
 induction k generalizing n with
 |zero=>simp [digK,val,Nat.mod_one]
 |succ k ih=>
  rw[digK,val_snoc,ih]
  have h1:(UInt8.ofNat n).toNat=n % 256:=by simp
  rw[h1,Nat.pow_succ,Nat.mul_comm (256 ^ k) 256,Nat.mod_mul]
  omega
theorem snoc_cases (l:L) (k:Nat) (h:l.length=k+1):∃m b,l=m++[b]∧m.length=k:=by
 refine⟨l.take k,l[k]'(by omega),?_,by simp;omega⟩
 rw[List.take_append_getElem]
 rw[List.take_of_length_le (by omega)]
theorem digK_val (k:Nat) (l:L) (h:l.length=k):digK k (val l)=l:=by
 induction k generalizing l with
 |zero=>rw[List.length_eq_zero_iff.1 h];rfl
 |succ k ih=>
  obtain⟨m,b,rfl,hm⟩:=snoc_cases l k h
  rw[digK,val_snoc]
  have hb:=b.toNat_lt
  have e:(val m*256+b.toNat) / 256=val m:=by omega
  rw[e,ih m hm]
  congr 1
  simp only[List.cons.injEq,and_true]
  apply UInt8.toNat_inj.1
  simp
theorem digK_at (k n j:Nat) (h:j<k):(digK k n)[j]? = some (UInt8.ofNat (n / 256 ^ (k - 1 - j))):=by
 induction k generalizing n with
 |zero=>omega
 |succ k ih=>
  rw[digK]
  by_cases hj:j<k
  ·rw[List.getElem?_append_left (by rw[length_digK];exact hj),ih _ hj]
   congr 2
   rw[Nat.div_div_eq_div_mul]
   congr 1
   rw[show k+1 - 1 - j=(k - 1 - j)+1 by omega,Nat.pow_succ,Nat.mul_comm]
  ·obtain rfl:j=k:=by omega
   rw[List.getElem?_append_right (by rw[length_digK];omega),length_digK]
   simp
theorem drop_step (l:L) (j:Nat) (b:UInt8) (h:l[j]? = some b):l.drop j=b :: l.drop (j+1):=by
 obtain⟨hj,e⟩:=List.getElem?_eq_some_iff.1 h
 rw[List.drop_eq_getElem_cons hj,e]
theorem val_lt (l:L):val l<256 ^ l.length:=by
 have h:=val_digK l.length (val l)
 rw[digK_val l.length l rfl] at h
 have hp:0<256 ^ l.length:=Nat.pow_pos (by omega)
 rw[h];exact Nat.mod_lt _ hp
theorem val_foldl (l:L) (x:Nat):l.foldl (fun a b=>a*256+b.toNat) x=x*256 ^ l.length+val l:=by
 induction l generalizing x with
 |nil=>simp [val]
 |cons a r ih=>
  have e:val (a :: r)=a.toNat*256 ^ r.length+val r:=by
   show List.foldl _ (0*256+a.toNat) r=_
   rw[ih];simp
  rw[List.foldl_cons,ih,e,List.length_cons,Nat.pow_succ,Nat.add_mul,Nat.mul_assoc,Nat.mul_comm 256,Nat.add_assoc]
theorem val_cons (a:UInt8) (r:L):val (a :: r)=a.toNat*256 ^ r.length+val r:=by
 show List.foldl _ (0*256+a.toNat) r=_
 rw[val_foldl];simp
theorem bitLen_ge (x:Nat) (hx:x<18446744073709551616) (k:Nat) (h:2 ^ k≤x):k+1≤Lib.bitLen x:=by
 have h0:x≠0:=by
  have:=Nat.pow_pos (n:=k) (show 0<2 by omega);omega
 obtain⟨_,_,h3⟩:=Lib.bitLenAux_bounds 64 x (by simpa using hx) h0
 have h4:2 ^ k<2 ^ Lib.bitLen x:=Nat.lt_of_le_of_lt h h3
 have:=(Nat.pow_lt_pow_iff_right (a:=2) (by omega)).1 h4
 omega
theorem bitLen_bound (x k:Nat) (hk:k≤64) (h:x<2 ^ k):Lib.bitLen x≤k:=Lib.bitLen_le x k hk h
theorem bitLen_62 (n:Nat) (h:n≤4611686018427387904):Lib.bitLen n≤63:=bitLen_bound n 63 (by omega) (by omega)
theorem length_dig (n:Nat):(dig n).length=Lib.bitLen n / 8+1:=length_digK _ _
theorem dig_len (n:Nat) (h:n≤4611686018427387904):(dig n).length≤8:=by
 rw[length_dig];have:=bitLen_62 n h;omega
theorem pow256 (k:Nat):256 ^ k=2 ^ (8*k):=by rw[Nat.pow_mul]
theorem val_take_snoc (l:L) (i:Nat) (h:i<l.length):val (l.take (i+1))=val (l.take i)*256+(l[i]).toNat:=by
 rw[List.take_succ_eq_append_getElem h,val_snoc]
theorem val_take_lt {a:UInt8} {r:L} (ha:a.toNat<128) (hr:r.length≤7) (i:Nat):val ((a :: r).take i)<9223372036854775808:=by
 cases i with
 |zero=>simp [val]
 |succ i=>
  rw[List.take_succ_cons,val_cons]
  have h1:=val_lt (r.take i)
  have h2:(r.take i).length≤7:=by have:=List.length_take_le i r;have:=List.length_take_le' i r;omega
  have h3:256 ^ (r.take i).length≤256 ^ 7:=Nat.pow_le_pow_right (by omega) h2
  have h4:(a.toNat+1)*256 ^ (r.take i).length≤128*256 ^ 7:=Nat.mul_le_mul (by omega) h3
  rw[Nat.add_mul] at h4
  have h5:(128:Nat)*256 ^ 7=9223372036854775808:=by decide
  omega
def numR (s:L):Nat×Bool:=((numL s).getD 0,(numL s).isSome)
theorem numL_none {a:UInt8} {r:L} (h:(7<r.length∨128≤a.toNat)∨(a.toNat=0∧headSmall r=true)∨4611686018427387904<val (a :: r)):numL (a :: r)=none:=by
 rw[numL]
 by_cases h1:7<r.length∨128≤a.toNat
 ·rw[if_pos h1]
 ·rw[if_neg h1]
  by_cases h2:a.toNat=0∧headSmall r=true
  ·rw[if_pos h2]
  ·rw[if_neg h2]
   rcases h with h | h | h
   ·exact absurd h h1
   ·exact absurd h h2
   ·rw[if_pos h]
theorem numR_none {s:L} (h:numL s=none):numR s=(0,false):=by rw[numR,h];rfl
theorem numR_long {a:UInt8} {r:L} (h:7<r.length):numR (a :: r)=(0,false):=numR_none (numL_none (.inl (.inl h)))
theorem numR_high {a:UInt8} {r:L} (h:128≤a.toNat):numR (a :: r)=(0,false):=numR_none (numL_none (.inl (.inr h)))
theorem numR_lead {a b:UInt8} {r:L} (h:a.toNat=0) (hb:b.toNat<128):numR (a :: b :: r)=(0,false):=numR_none (numL_none (.inr (.inl ⟨h,by simpa [headSmall] using hb⟩)))
theorem numR_great {a:UInt8} {r:L} (h:4611686018427387904<val (a :: r)):numR (a :: r)=(0,false):=numR_none (numL_none (.inr (.inr h)))
theorem numR_good {a:UInt8} {r:L} (h1:r.length≤7) (h2:a.toNat<128) (h3:¬(a.toNat=0∧headSmall r=true)) (h4:val (a :: r)≤4611686018427387904):numR (a :: r)=(val (a :: r),true):=by
 simp only[numR,numL]
 rw[if_neg (by omega),if_neg h3,if_neg (by omega)];rfl
theorem lenR_small {a:UInt8} {r:L} (h:a.toNat<128):lenR (a :: r)=(a.toNat,1,true):=by simp [lenR,h]
theorem lenR_129_nil {a:UInt8} (h:a.toNat=129):lenR [a]=(0,0,false):=by simp [lenR,h]
theorem lenR_129 {a b:UInt8} {r:L} (h:a.toNat=129):lenR (a :: b :: r)=(b.toNat,2,decide (128≤b.toNat)):=by simp [lenR,h]
theorem lenR_130_nil {a:UInt8} (h:a.toNat=130):lenR [a]=(0,0,false):=by simp [lenR,h]
theorem lenR_130_one {a b:UInt8} (h:a.toNat=130):lenR [a,b]=(0,0,false):=by simp [lenR,h]
theorem lenR_130 {a b c:UInt8} {r:L} (h:a.toNat=130):lenR (a :: b :: c :: r)=(b.toNat*256+c.toNat,3,decide (255<b.toNat*256+c.toNat)):=by simp [lenR,h]
theorem lenR_else {a:UInt8} {r:L} (h1:¬a.toNat<128) (h2:¬a.toNat=129) (h3:¬a.toNat=130):lenR (a :: r)=(0,0,false):=by simp [lenR,h1,h2,h3]
theorem lenR_le (s:L):(lenR s).1≤65535∧(lenR s).2.1≤3:=by
 cases s with
 |nil=>simp [lenR]
 |cons a r=>
  have ha:=a.toNat_lt
  by_cases h1:a.toNat<128
  ·rw[lenR_small h1];simp;omega
  ·by_cases h2:a.toNat=129
   ·cases r with
    |nil=>rw[lenR_129_nil h2];simp
    |cons b q=>rw[lenR_129 h2];have:=b.toNat_lt;simp;omega
   ·by_cases h3:a.toNat=130
    ·rcases r with _ | ⟨b,_ | ⟨c,q⟩⟩
     ·rw[lenR_130_nil h3];simp
     ·rw[lenR_130_one h3];simp
     ·rw[lenR_130 h3];have:=b.toNat_lt;have:=c.toNat_lt;simp;omega
    ·rw[lenR_else h1 h2 h3];simp
theorem length_szL (n:Nat):(szL n).length=if n<128 then 1 else if n≤255 then 2 else 3:=by
 unfold szL;split
 ·rfl
 ·split<;>rfl
theorem length_elem (t:UInt8) (p:L):(elem t p).length=1+(szL p.length).length+p.length:=by
 simp [elem];omega
theorem lenR_szL (n:Nat) (h:n≤65535) (r:L):lenR (szL n++r)=(n,(szL n).length,true):=by
 unfold szL
 by_cases h1:n<128
 ·have e:n % 256=n:=by omega
  simp [h1,lenR,e]
 ·by_cases h2:n≤255
  ·have e:(UInt8.ofNat n).toNat=n:=by simp;omega
   simp [h1,h2,lenR]
   omega
  ·have e1:(UInt8.ofNat (n / 256)).toNat=n / 256:=by simp;omega
   have e2:(UInt8.ofNat n).toNat=n % 256:=by simp
   have e3:n / 256 % 256*256+n % 256=n:=by omega
   simp [h1,h2,lenR,e3]
   omega
theorem szL_of_lenR {s:L} (h:(lenR s).2.2=true):szL (lenR s).1=s.take (lenR s).2.1∧(lenR s).2.1=(szL (lenR s).1).length∧(lenR s).2.1≤s.length∧(lenR s).1≤65535:=by
 have key:∀a:UInt8,UInt8.ofNat a.toNat=a:=fun a=>by simp
 cases s with
 |nil=>simp [lenR] at h
 |cons a r=>
  have ha:=a.toNat_lt
  by_cases h1:a.toNat<128
  ·simp [lenR,h1,szL];omega
  ·by_cases h2:a.toNat=129
   ·cases r with
    |nil=>simp [lenR,h2] at h
    |cons b q=>
     have hb:=b.toNat_lt
     have hae:a=129:=UInt8.toNat_inj.1 h2
     subst hae
     simp [lenR] at h
     have h3:¬b.toNat<128:=by omega
     have h4:b.toNat≤255:=by omega
     simp [lenR,szL,h3,h4]
     omega
   ·by_cases h3:a.toNat=130
    ·rcases r with _ | ⟨b,_ | ⟨c,q⟩⟩
     ·simp [lenR,h3] at h
     ·simp [lenR,h3] at h
     ·have hb:=b.toNat_lt
      have hc:=c.toNat_lt
      have hae:a=130:=UInt8.toNat_inj.1 h3
      subst hae
      simp [lenR] at h
      have g1:¬b.toNat*256+c.toNat<128:=by omega
      have g2:¬b.toNat*256+c.toNat≤255:=by omega
      have e1:UInt8.ofNat ((b.toNat*256+c.toNat) / 256)=b:=by
       rw[show(b.toNat*256+c.toNat) / 256=b.toNat by omega];simp
      have e2:UInt8.ofNat (b.toNat*256+c.toNat)=c:=by
       apply UInt8.toNat_inj.1;simp
      simp only[lenR,szL]
      simp [g1,g2,e1,e2]
      omega
    ·simp [lenR,h1,h2,h3] at h
theorem split_elem (t:UInt8) (p r:L) (h:p.length≤65535):splitL t (elem t p++r)=some (p,r):=by
 show splitL t (t :: (szL p.length++p++r))=_
 rw[List.append_assoc,splitL,lenR_szL _ h]
 simp
 omega
theorem split_sound {t:UInt8} {s b r:L} (h:splitL t s=some (b,r)):s=elem t b++r∧b.length≤65535:=by
 cases s with
 |nil=>simp [splitL] at h
 |cons a s=>
  simp only[splitL] at h
  by_cases hc:a=t∧(lenR s).2.2=true∧(lenR s).1+(lenR s).2.1≤s.length
  ·rw[if_pos hc] at h
   obtain⟨rfl,h1,h2⟩:=hc
   obtain⟨g1,g2,g3,g4⟩:=szL_of_lenR h1
   injection h with h
   injection h with hb hr
   have hl:b.length=(lenR s).1:=by rw[←hb];simp;omega
   refine⟨?_,by omega⟩
   rw[elem,hl,g1,←hb,←hr,List.cons_append,List.append_assoc,List.take_append_drop,List.take_append_drop]
  ·rw[if_neg hc] at h;cases h
theorem elem_inj {t:UInt8} {p q r1 r2:L} (hp:p.length≤65535) (hq:q.length≤65535) (h:elem t p++r1=elem t q++r2):p=q∧r1=r2:=by
 have h1:=split_elem t p r1 hp
 rw[h,split_elem t q r2 hq] at h1
 injection h1 with h1
 injection h1 with h1 h2
 exact⟨h1.symm,h2.symm⟩
theorem split_cut (t:UInt8) (p:L) (hp:p.length≤65535) (k:Nat) (hk:k<(elem t p).length):splitL t ((elem t p).take k)=none:=by
 cases h:splitL t ((elem t p).take k) with
 |none=>rfl
 |some x=>
  obtain⟨b,r⟩:=x
  obtain⟨h1,h2⟩:=split_sound h
  have h3:elem t p++[]=elem t b++(r++(elem t p).drop k):=by
   rw[←List.append_assoc,←h1,List.take_append_drop,List.append_nil]
  obtain⟨_,h4⟩:=elem_inj hp h2 h3
  have h5:=congrArg List.length h4
  simp at h5
  omega
theorem split_len {t:UInt8} {s b r:L} (h:splitL t s=some (b,r)):b.length≤s.length∧r.length≤s.length:=by
 have:=congrArg List.length (split_sound h).1
 simp [length_elem] at this
 omega
theorem body_len (t:UInt8) (c:Option L):((bodyC t c).getD []).length≤(c.getD []).length∧((nextC t c).getD []).length≤(c.getD []).length:=by
 cases c with
 |none=>simp [bodyC,nextC]
 |some s=>
  cases h:splitL t s with
  |none=>obtain⟨e1,e2⟩:=body_none h;rw[e1,e2];simp
  |some x=>
   obtain⟨b,r⟩:=x
   obtain⟨e1,e2⟩:=body_some h
   rw[e1,e2]
   exact split_len h
theorem body_next (t:UInt8) (c:Option L) (h:bodyC t c=none):nextC t c=none:=by
 unfold bodyC at h
 unfold nextC
 rw[Option.map_eq_none_iff] at h⊢
 exact h
theorem encI_len (n:Int):(dig (clampN n)).length≤8:=dig_len _ (clampN_le n)
end Go.Proofs.YtfcjeebnkigeaaaGreat.DerP
end

section
namespace Go.Proofs.YtfcjeebnkigeaaaGreat.Tr
open Go.Proofs.YtfcjeebnkigeaaaGreat.Nm
theorem split_sum (c:UInt8) (l:L):((split c l).map fun p=>p.length+1).sum=l.length+1:=by
 induction l with
 |nil=>simp [split]
 |cons y r ih=>
  rw[split]
  by_cases e:y=c
  ·rw[if_pos e];simp [ih];omega
  ·rw[if_neg e]
   cases hs:split c r with
   |nil=>exact absurd hs (split_ne c r)
   |cons a t=>
    rw[hs] at ih
    simp only[List.map_cons,List.sum_cons,List.length_cons] at ih⊢
    omega
theorem sum_le {ls:List L} (h:ls.all (wordL capB)=true):(ls.map fun p=>p.length+1).sum≤9*ls.length:=by
 induction ls with
 |nil=>simp
 |cons a t ih=>
  simp only[List.all_cons,Bool.and_eq_true] at h
  have h1:=((wordL_iff _ _).1 h.1).2.1
  have:=ih h.2
  simp only[List.map_cons,List.sum_cons,List.length_cons]
  omega
theorem labs_len {c:UInt8} {l:L} (h:labsL (split c l)=true):l.length≤35:=by
 have h1:=(labsL_iff _).1 h
 have h2:=sum_le h1.2.2
 have h3:=split_sum c l
 omega
theorem kind_two' {l:L} (h:kindL l=2):∃t,l=47 :: t∧labsL (split 47 t)=true:=by
 have h1:=kind_two h
 simp only[slL,Bool.and_eq_true,decide_eq_true_eq] at h1
 cases l with
 |nil=>simp at h1
 |cons x t=>
  simp only[List.head?_cons,Option.some.injEq,List.tail_cons] at h1
  exact⟨t,by rw[h1.1],h1.2⟩
theorem kind_cases {l:L} (h:kindL l≠0):kindL l=1∨kindL l=2:=by have:=kind_le l;omega
theorem real_len {l:L} (h:kindL l≠0):l.length≤36:=by
 rcases kind_cases h with h | h
 ·have:=labs_len (kind_one h);omega
 ·obtain⟨t,rfl,ht⟩:=kind_two' h
  have:=labs_len ht
  simp only[List.length_cons];omega
def sufL (p l:L):Bool:=p.isSuffixOf l
theorem suf_iff {p l:L}:sufL p l=true↔∃u,l=u++p:=by
 rw[sufL,List.isSuffixOf_iff_suffix]
 exact⟨fun⟨t,e⟩=>⟨t,e.symm⟩,fun⟨t,e⟩=>⟨t,e.symm⟩⟩
def preB (p l:L):Bool:=p.isPrefixOf l
theorem preB_iff {p l:L}:preB p l=true↔∃u,l=p++u:=by
 rw[preB,List.isPrefixOf_iff_prefix]
 exact⟨fun⟨t,e⟩=>⟨t,e.symm⟩,fun⟨t,e⟩=>⟨t,e.symm⟩⟩
def toldL (f p:L):L:=if sufL [46] f then f++p else if preB [47] f&&decide (kindL p=2) then p++f else if preB [32,47] f then f.drop 1 else f
end Go.Proofs.YtfcjeebnkigeaaaGreat.Tr
end

section
set_option linter.unusedVariables false
namespace Go.Proofs.YtfcjeebnkigeaaaGreat.Ms
open Go.Proofs.YtfcjeebnkigeaaaGreat.DerP
open Go.Proofs.YtfcjeebnkigeaaaGreat.Nm (princL isL tgL wordL wordB kindL)
abbrev Pr:=L×L
structure Tk where
 s:Pr
 k:Int
 b:L
deriving DecidableEq
structure Pt where
 c:Pr
 ss:L
 tr:L
 st:Int
 en:Int
deriving DecidableEq
structure Rp where
 ss:L
 s:Pr
 st:Int
 en:Int
 no:Int
deriving DecidableEq
structure As where
 c:Pr
 s:Pr
 t:Int
 no:Int
deriving DecidableEq
structure Tg where
 t:Tk
 a:L
 s:Pr
 u:Int
 no:Int
deriving DecidableEq
structure Re where
 c:Pr
 t:Tk
 b:L
deriving DecidableEq
structure Ap where
 t:Tk
 a:L
deriving DecidableEq
structure Fa where
 e:Int
 no:Int
deriving DecidableEq
structure Mg where
 k:Int
 aq:As
 tg:Tg
 re:Re
 ap:Ap
 fa:Fa
deriving DecidableEq
def pr0:Pr:=([],[])
def tk0:Tk:=⟨pr0,0,[]⟩
def as0:As:=⟨pr0,pr0,0,0⟩
def tg0:Tg:=⟨tk0,[],pr0,0,0⟩
def re0:Re:=⟨pr0,tk0,[]⟩
def ap0:Ap:=⟨tk0,[]⟩
def fa0:Fa:=⟨0,0⟩
def inB (n a b:Int):Bool:=decide (a≤n)&&decide (n≤b)
def blobB (b:L):Bool:=decide (1≤b.length)&&decide (b.length≤800)
def prB (p:Pr):Bool:=princL p.1 p.2
def tmB (n:Int):Bool:=inB n 0 1073741824
def tkB (t:Tk):Bool:=prB t.s&&(inB t.k 1 255&&blobB t.b)
def txtB (l:L):Bool:=l.all fun x=>decide (32≤x.toNat)&&decide (x.toNat≤126)
def ptB (p:Pt):Bool:=txtB p.tr&&(prB p.c&&(decide (p.tr.length≤300)&&(tmB p.st&&tmB p.en)))
def rpB (p:Rp):Bool:=prB p.s&&(tmB p.st&&(tmB p.en&&tmB p.no))
def asB (q:As):Bool:=prB q.c&&(prB q.s&&(tmB q.t&&tmB q.no))
def tgB (q:Tg):Bool:=tkB q.t&&(blobB q.a&&(prB q.s&&(tmB q.u&&tmB q.no)))
def reB (q:Re):Bool:=prB q.c&&(tkB q.t&&blobB q.b)
def apB (q:Ap):Bool:=tkB q.t&&blobB q.a
def faB (q:Fa):Bool:=inB q.e 1 255&&tmB q.no
def mgB (m:Mg):Bool:=
 if m.k=1 then asB m.aq&&decide (m=⟨1,m.aq,tg0,re0,ap0,fa0⟩)
 else if m.k=2 then tgB m.tg&&decide (m=⟨2,as0,m.tg,re0,ap0,fa0⟩)
 else if m.k=3 then reB m.re&&decide (m=⟨3,as0,tg0,m.re,ap0,fa0⟩)
 else if m.k=4 then apB m.ap&&decide (m=⟨4,as0,tg0,re0,m.ap,fa0⟩)
 else if m.k=5 then faB m.fa&&decide (m=⟨5,as0,tg0,re0,ap0,m.fa⟩)
 else false
def prE (p:Pr):L:=elem 48 [elem 27 p.1,elem 27 p.2].flatten
def tkE (t:Tk):L:=elem 97 [prE t.s,encI t.k,elem 4 t.b].flatten
def ptE (p:Pt):L:=elem 99 [prE p.c,elem 4 p.ss,elem 27 p.tr,encI p.st,encI p.en].flatten
def rpE (p:Rp):L:=elem 122 [elem 4 p.ss,prE p.s,encI p.st,encI p.en,encI p.no].flatten
def asE (q:As):L:=elem 106 [prE q.c,prE q.s,encI q.t,encI q.no].flatten
def tgE (q:Tg):L:=elem 108 [tkE q.t,elem 4 q.a,prE q.s,encI q.u,encI q.no].flatten
def reE (q:Re):L:=elem 107 [prE q.c,tkE q.t,elem 4 q.b].flatten
def apE (q:Ap):L:=elem 110 [tkE q.t,elem 4 q.a].flatten
def faE (q:Fa):L:=elem 126 [encI q.e,encI q.no].flatten
def mgE (m:Mg):L:=if m.k=1 then asE m.aq else if m.k=2 then tgE m.tg else if m.k=3 then reE m.re else if m.k=4 then apE m.ap else faE m.fa
def limO (ok:Bool) (l:L):Option L:=if ok=true∧l.length≤2000 then some l else none
def mgO (m:Mg):Option L:=limO (mgB m) (mgE m)
def ptO (p:Pt):Option L:=limO (ptB p) (ptE p)
def rpO (p:Rp):Option L:=limO (rpB p) (rpE p)
theorem elem_len (t:UInt8) (p:L):(elem t p).length≤p.length+4:=by
 rw[length_elem,length_szL];split
 ·omega
 ·split<;>omega
theorem encI_le (n:Int):(encI n).length≤12:=by
 have:=elem_len 2 (dig (clampN n));have:=encI_len n;rw[encI];omega
theorem name_len {n:L} (h:(tgL n||wordL wordB n)=true):n.length≤43:=by
 rw[Bool.or_eq_true] at h
 rcases h with h | h
 ·rw[Nm.tgL,Bool.and_eq_true] at h
  have h1:kindL (Nm.cpL Nm.krb n)≠0:=by have:=h.2;simp only[isL,decide_eq_true_eq] at this;omega
  have h2:=Tr.real_len h1
  have h3:Nm.cpL Nm.krb n=n.drop 7:=by rw[Nm.cpL,h.1];rfl
  rw[h3,List.length_drop] at h2
  omega
 ·have:=(Nm.wordL_iff _ _).1 h
  omega
theorem pr_len {p:Pr} (h:prB p=true):p.1.length≤36∧p.2.length≤43:=by
 rw[prB,princL,Bool.and_eq_true] at h
 refine⟨Tr.real_len ?_,name_len h.2⟩
 have:=h.1
 simp only[isL,decide_eq_true_eq] at this
 omega
theorem flat2 (a b:L):[a,b].flatten=a++b:=by simp
theorem flat3 (a b c:L):[a,b,c].flatten=a++(b++c):=by simp
theorem flat4 (a b c d:L):[a,b,c,d].flatten=a++(b++(c++d)):=by simp
theorem flat5 (a b c d e:L):[a,b,c,d,e].flatten=a++(b++(c++(d++e))):=by simp
theorem prE_len {p:Pr} (h:prB p=true):(prE p).length≤91∧[elem 27 p.1,elem 27 p.2].flatten.length≤87:=by
 have h1:=pr_len h
 have h2:=elem_len 27 p.1
 have h3:=elem_len 27 p.2
 have h4:=elem_len 48 [elem 27 p.1,elem 27 p.2].flatten
 have h5:[elem 27 p.1,elem 27 p.2].flatten.length=(elem 27 p.1).length+(elem 27 p.2).length:=by simp
 rw[prE];omega
theorem tk_parts {t:Tk} (h:tkB t=true):prB t.s=true∧(1≤t.k∧t.k≤255)∧(1≤t.b.length∧t.b.length≤800):=by
 simpa [tkB,inB,blobB] using h
theorem tkE_len {t:Tk} (h:tkB t=true):(tkE t).length≤911∧[prE t.s,encI t.k,elem 4 t.b].flatten.length≤907:=by
 obtain⟨h1,_,h2⟩:=tk_parts h
 have h3:=(prE_len h1).1
 have h4:=encI_le t.k
 have h5:=elem_len 4 t.b
 have h6:=elem_len 97 [prE t.s,encI t.k,elem 4 t.b].flatten
 have h7:[prE t.s,encI t.k,elem 4 t.b].flatten.length=(prE t.s).length+((encI t.k).length+(elem 4 t.b).length):=by simp
 rw[tkE];omega
section
variable {t:UInt8} {p r:L}
end
theorem pt_parts {p:Pt} (h:ptB p=true):txtB p.tr=true∧prB p.c=true∧p.tr.length≤300∧tmB p.st=true∧tmB p.en=true:=by
 simpa [ptB] using h
theorem blob_parts {b:L} (h:blobB b=true):1≤b.length∧b.length≤800:=by simpa [blobB] using h
theorem mg_cases {m:Mg} (h:mgB m=true) :
  (asB m.aq=true∧m=⟨1,m.aq,tg0,re0,ap0,fa0⟩)∨(tgB m.tg=true∧m=⟨2,as0,m.tg,re0,ap0,fa0⟩)∨(reB m.re=true∧m=⟨3,as0,tg0,m.re,ap0,fa0⟩)∨
  (apB m.ap=true∧m=⟨4,as0,tg0,re0,m.ap,fa0⟩)∨(faB m.fa=true∧m=⟨5,as0,tg0,re0,ap0,m.fa⟩):=by
 unfold mgB at h
 split at h
 ·rw[Bool.and_eq_true,decide_eq_true_eq] at h;exact .inl h
 ·split at h
  ·rw[Bool.and_eq_true,decide_eq_true_eq] at h;exact .inr (.inl h)
  ·split at h
   ·rw[Bool.and_eq_true,decide_eq_true_eq] at h;exact .inr (.inr (.inl h))
   ·split at h
    ·rw[Bool.and_eq_true,decide_eq_true_eq] at h;exact .inr (.inr (.inr (.inl h)))
    ·split at h
     ·rw[Bool.and_eq_true,decide_eq_true_eq] at h;exact .inr (.inr (.inr (.inr h)))
     ·cases h
theorem lim_iff {ok:Bool} {l b:L}:limO ok l=some b↔ok=true∧l.length≤2000∧l=b:=by
 unfold limO
 split
 ·rename_i h
  exact⟨fun e=>⟨h.1,h.2,Option.some.inj e⟩,fun e=>by rw[e.2.2]⟩
 ·rename_i h
  exact⟨fun e=>by(cases e),fun e=>False.elim (h (And.intro e.1 e.2.1))⟩
end Go.Proofs.YtfcjeebnkigeaaaGreat.Ms
end

section
namespace Go.Proofs.YtfcjeebnkigeaaaGreat.Rt
open Go.Proofs.YtfcjeebnkigeaaaGreat.Nm
abbrev Pr:=L×L
structure Pa where
 f:L
 t:L
 v:List L
structure Tp where
 R:List L
 K:List Pr
 P:List Pa
def kl (K:List Pr) (i:Nat):Pr:=K.getD i ([],[])
def al (P:List Pa) (i:Nat):Pa:=P.getD i ⟨[],[],[]⟩
theorem kl_lt {K:List Pr} {i:Nat} (h:i<K.length):kl K i=K[i]:=by simp [kl,h]
theorem al_lt {P:List Pa} {i:Nat} (h:i<P.length):al P i=P[i]:=by simp [al,h]
theorem kl_mem {K:List Pr} {i:Nat} (h:i<K.length):kl K i∈K:=by rw[kl_lt h];exact List.getElem_mem h
theorem mem_kl {K:List Pr} {x:Pr} (h:x∈K):∃i,i<K.length∧kl K i=x:=by
 obtain⟨i,hi,e⟩:=List.getElem_of_mem h
 exact⟨i,hi,by rw[kl_lt hi];exact e⟩
theorem al_mem {P:List Pa} {i:Nat} (h:i<P.length):al P i∈P:=by rw[al_lt h];exact List.getElem_mem h
section
variable {α:Type}
theorem take_succ {l:List α} {i:Nat} (h:i<l.length):l.take (i+1)=l.take i++[l[i]]:=List.take_succ_eq_append_getElem h
theorem nodup_succ {l:List α} {i:Nat} (h:i<l.length):(l.take (i+1)).Nodup↔(l.take i).Nodup∧l[i]∉l.take i:=by
 rw[take_succ h,List.nodup_append]
 constructor
 ·rintro⟨h1,_,h3⟩
  exact⟨h1,fun hm=>h3 _ hm _ (by simp) rfl⟩
 ·rintro⟨h1,h2⟩
  refine⟨h1,by simp,fun a ha b hb=>?_⟩
  rw[List.mem_singleton] at hb
  subst hb
  rintro rfl
  exact h2 ha
theorem nodup_take {l:List α} {i:Nat} (h:l.Nodup):(l.take i).Nodup:=h.sublist (List.take_sublist _ _)
theorem all_succ {l:List α} {p:α→Bool} {i:Nat} (h:i<l.length):(l.take (i+1)).all p=((l.take i).all p&&p l[i]):=by
 rw[take_succ h,List.all_append,List.all_cons,List.all_nil,Bool.and_true]
theorem all_false {l:List α} {p:α→Bool} {i:Nat} (h:i<l.length) (hp:p l[i]=false):l.all p=false:=by
 cases q:l.all p with
 |false=>rfl
 |true=>rw[List.all_eq_true] at q;rw[q _ (List.getElem_mem h)] at hp;cases hp
theorem all_take {l:List α} {p:α→Bool} {i:Nat} (h:l.length≤i) (hp:(l.take i).all p=true):l.all p=true:=by
 rwa [List.take_of_length_le h] at hp
end
def realmsB (R:List L):Bool:=R.all isL&&decide R.Nodup
def pairB (R:List L) (p:Pr):Bool:=decide (p.1≠p.2)&&(decide (p.1∈R)&&decide (p.2∈R))
def pairsB (K:List Pr) (R:List L):Bool:=K.all (pairB R)&&decide K.Nodup
def onB (R:List L) (p:Pa) (r:L):Bool:=decide (r≠p.f)&&(decide (r≠p.t)&&decide (r∈R))
def viaB (R:List L) (p:Pa):Bool:=decide (p.v.length≤4)&&(p.v.all (onB R p)&&decide p.v.Nodup)
def endsL (P:List Pa):List Pr:=P.map fun p=>(p.f,p.t)
def pathsB (P:List Pa) (R:List L):Bool:=P.all (viaB R)&&pairsB (endsL P) R
def isT (T:Tp):Bool:=(decide (1≤T.R.length)&&decide (T.R.length≤6))&&((decide (T.K.length≤20)&&decide (T.P.length≤8))&&(realmsB T.R&&(pairsB T.K T.R&&pathsB T.P T.R)))
def pathB (R:List L) (p:Pa):Bool:=pairB R (p.f,p.t)&&viaB R p
theorem paths_eq (P:List Pa) (R:List L):pathsB P R=(P.all (pathB R)&&decide (endsL P).Nodup):=by
 rw[pathsB,pairsB,←Bool.and_assoc]
 congr 1
 induction P with
 |nil=>rfl
 |cons a t ih=>
  simp only[List.all_cons,endsL,List.map_cons,pathB] at ih⊢
  rw[←ih]
  cases viaB R a<;>cases pairB R (a.f,a.t)<;>simp
def isP (a b:L) (p:Pa):Bool:=decide (p.f=a)&&decide (p.t=b)
def laidI (T:Tp) (a b:L):Nat:=T.P.findIdx (isP a b)
def laidB (T:Tp) (a b:L):Bool:=decide (laidI T a b<T.P.length)
def vL (T:Tp) (a b:L):List L:=(al T.P (laidI T a b)).v
theorem laid_at {T:Tp} {a b:L} {i:Nat} (hi:i<T.P.length) (h:isP a b (al T.P i)=true) (hn:∀k,k<i→isP a b (al T.P k)=false):laidI T a b=i:=by
 rcases Nat.lt_trichotomy (laidI T a b) i with g | g | g
 ·have h1:=List.findIdx_getElem (p:=isP a b) (xs:=T.P) (w:=Nat.lt_trans g hi)
  have h2:=hn _ g
  rw[al_lt (Nat.lt_trans g hi)] at h2
  exact absurd (h1.symm.trans h2) (by simp)
 ·exact g
 ·have h1:=List.not_of_lt_findIdx g
  rw[al_lt hi] at h
  simp [h] at h1
theorem laid_none {T:Tp} {a b:L} (hn:∀k,k<T.P.length→isP a b (al T.P k)=false):laidI T a b=T.P.length:=by
 have h1:laidI T a b≤T.P.length:=List.findIdx_le_length
 rcases Nat.lt_or_ge (laidI T a b) T.P.length with g | g
 ·have h2:=List.findIdx_getElem (p:=isP a b) (xs:=T.P) (w:=g)
  have h3:=hn _ g
  rw[al_lt g] at h3
  exact absurd (h2.symm.trans h3) (by simp)
 ·omega
end Go.Proofs.YtfcjeebnkigeaaaGreat.Rt
end

section
namespace Go.Proofs.YtfcjeebnkigeaaaGreat.Tr
open Go.Proofs.YtfcjeebnkigeaaaGreat.Nm
def lastL (p:L) (m:List L):L:=if m = [] then p else pl m (m.length - 1)
def addL (l:List L) (r:L):List L:=if r∈l then l else l++[r]
end Go.Proofs.YtfcjeebnkigeaaaGreat.Tr
end

section
namespace Go.Proofs.YtfcjeebnkigeaaaGreat.Sp
open Go.RowKit Go.Proofs.YtfcjeebnkigeaaaGreat.Mem
abbrev Wd:=BitVec 32
def rot (v:Wd) (s:Nat):Wd:=(v <<< s) ||| (v >>> (32 - s))
abbrev wv (v:Wd):Value:=.int .u32 (v.toNat:Int)
theorem wd_lt (v:Wd):v.toNat<4294967296:=v.isLt
theorem u32_word (n:Nat):IntKind.u32.wrap (n:Int)=((BitVec.ofNat 32 n).toNat:Int):=by
 rw[IntKind.wrap_u32,BitVec.toNat_ofNat];omega
theorem xor_w (x y:Wd):bits .xor .u32 (x.toNat:Int) (y.toNat:Int)=((x ^^^ y).toNat:Int):=by
 rw[u32_xor_nat _ _ x.isLt y.isLt,BitVec.toNat_xor]
theorem add_w (x y:Wd):((x.toNat:Int)+(y.toNat:Int)) % 4294967296=((x+y).toNat:Int):=by
 rw[BitVec.toNat_add];omega
theorem rot_nat (v:Wd) (s:Nat):(rot v s).toNat=(v.toNat*2 ^ s % 4294967296) ||| (v.toNat / 2 ^ (32 - s)):=by
 simp [rot,BitVec.toNat_or,BitVec.toNat_shiftLeft,BitVec.toNat_ushiftRight,Nat.shiftLeft_eq,Nat.shiftRight_eq_div_pow]
theorem or_rot (v:Wd) (a b:Nat) (s:Nat) (ha:a=v.toNat*2 ^ s % 4294967296) (hb:b=v.toNat / 2 ^ (32 - s)):bits .or .u32 (a:Int) (b:Int)=((rot v s).toNat:Int):=by
 rw[u32_or_nat a b (by omega) (by have:=wd_lt v;have:=Nat.div_le_self v.toNat (2 ^ (32 - s));omega),rot_nat,ha,hb]
theorem or3 (v:Wd):bits .or .u32 ((v.toNat:Int)*8 % 4294967296) ((v.toNat:Int) / 536870912)=((rot v 3).toNat:Int):=or_rot v _ _ 3 rfl rfl
theorem or24 (v:Wd):bits .or .u32 ((v.toNat:Int)*16777216 % 4294967296) ((v.toNat:Int) / 256)=((rot v 24).toNat:Int):=or_rot v _ _ 24 rfl rfl
def step (k:Wd) (p:Wd×Wd):Wd×Wd:=((rot p.1 24+p.2) ^^^ k,rot p.2 3 ^^^ ((rot p.1 24+p.2) ^^^ k))
def turnN (K:Nat→Wd):Nat→Wd×Wd→Wd×Wd
 |0,p=>p
 |n+1,p=>step (K n) (turnN K n p)
def blockK (K:Nat→Wd) (p:Wd×Wd):Wd×Wd:=turnN K 27 p
def le4 (a b c d:UInt8):Wd:=BitVec.ofNat 32 (a.toNat+b.toNat*256+c.toNat*65536+d.toNat*16777216)
theorem le4_nat (a b c d:UInt8):(le4 a b c d).toNat=a.toNat+b.toNat*256+c.toNat*65536+d.toNat*16777216:=by
 have:=a.toNat_lt;have:=b.toNat_lt;have:=c.toNat_lt;have:=d.toNat_lt
 rw[le4,BitVec.toNat_ofNat];omega
theorem le4_or (a b c d:UInt8):bits .or .u32 (bits .or .u32 (bits .or .u32 (a.toNat:Int) ((b.toNat:Int)*256 % 4294967296)) ((c.toNat:Int)*65536 % 4294967296)) ((d.toNat:Int)*16777216 % 4294967296)=((le4 a b c d).toNat:Int):=by
 have ha:=a.toNat_lt;have hb:=b.toNat_lt;have hc:=c.toNat_lt;have hd:=d.toNat_lt
 have eb:(b.toNat:Int)*256 % 4294967296=((b.toNat*256:Nat):Int):=by omega
 have ec:(c.toNat:Int)*65536 % 4294967296=((c.toNat*65536:Nat):Int):=by omega
 have ed:(d.toNat:Int)*16777216 % 4294967296=((d.toNat*16777216:Nat):Int):=by omega
 have j1:a.toNat ||| b.toNat*256=b.toNat*256+a.toNat:=by rw[Nat.or_comm];exact nat_join 8 _ _ (by omega) (by omega)
 have j2:(b.toNat*256+a.toNat) ||| c.toNat*65536=c.toNat*65536+(b.toNat*256+a.toNat):=by rw[Nat.or_comm];exact nat_join 16 _ _ (by omega) (by omega)
 have j3:(c.toNat*65536+(b.toNat*256+a.toNat)) ||| d.toNat*16777216=d.toNat*16777216+(c.toNat*65536+(b.toNat*256+a.toNat)):=by rw[Nat.or_comm];exact nat_join 24 _ _ (by omega) (by omega)
 rw[eb,ec,ed,u32_or_nat _ _ (by omega) (by omega),j1,u32_or_nat _ _ (by omega) (by omega),j2,u32_or_nat _ _ (by omega) (by omega),j3,le4_nat]
 omega
def kword (ks:Nat→UInt8) (i:Nat):Wd:=le4 (ks (4*i)) (ks (4*i+1)) (ks (4*i+2)) (ks (4*i+3))
structure Sch where
 k:Wd
 a:Wd
 b:Wd
 c:Wd
def nextL (i:Nat) (s:Sch):Wd:=(s.k+rot s.a 24) ^^^ BitVec.ofNat 32 i
def sch (ks:Nat→UInt8):Nat→Sch
 |0=>⟨kword ks 0,kword ks 1,kword ks 2,kword ks 3⟩
 |i+1=>⟨rot (sch ks i).k 3 ^^^ nextL i (sch ks i),(sch ks i).b,(sch ks i).c,nextL i (sch ks i)⟩
def kw (ks:Nat→UInt8) (i:Nat):Wd:=(sch ks i).k
def lw (ks:Nat→UInt8) (i:Nat):Wd:=(sch ks i).a
theorem lw_3 (ks:Nat→UInt8) (i:Nat):lw ks (i+3)=(kw ks i+rot (lw ks i) 24) ^^^ BitVec.ofNat 32 i:=rfl
theorem kw_next (ks:Nat→UInt8) (i:Nat):kw ks (i+1)=rot (kw ks i) 3 ^^^ lw ks (i+3):=rfl
def blk64 (K:Nat→Wd) (up lo:Wd) (i:Nat):Nat:=(blockK K (up,lo+BitVec.ofNat 32 i)).1.toNat+4294967296*(blockK K (up,lo+BitVec.ofNat 32 i)).2.toNat
def sbyte (K:Nat→Wd) (up lo:Wd) (j:Nat):UInt8:=UInt8.ofNat (blk64 K up lo (j / 8) / 256 ^ (j % 8))
def strm (K:Nat→Wd) (up lo:Wd) (n:Nat):List UInt8:=(List.range n).map (sbyte K up lo)
theorem strm_length (K:Nat→Wd) (up lo:Wd) (n:Nat):(strm K up lo n).length=n:=by simp [strm]
end Go.Proofs.YtfcjeebnkigeaaaGreat.Sp
end
