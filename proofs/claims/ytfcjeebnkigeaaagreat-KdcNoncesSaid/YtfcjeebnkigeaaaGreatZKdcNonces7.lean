import Derived.ProofKit
import Derived.OpenShut
import Derived.ShutString
import Derived.ChangeOld
import Derived.Deep.Matrix
import Derived.Deep.Slices
import Derived.Deep.QuietTactic
import Derived.BigQuiet
import Derived.StillTailTactics
import Derived.Deep.CutBlock
import Derived.Laws.Bits64
import Derived.Deep.AppendLies
import Derived.Deep.RegionLaw
import Derived.RegionTactic
import Derived.Deep.RegionHeld3
import Derived.Lib.SlBytesConst
import Derived.Laws.OwnMore
import Derived.Deep.LoopGhost
import Derived.Test.YtfcjeebnkigeaaaGreatProg
import Derived.Test.YtfcjeebnkigeaaaGreatZKdcNonces1
import Derived.Test.YtfcjeebnkigeaaaGreatZKdcNonces2
import Derived.Test.YtfcjeebnkigeaaaGreatZKdcNonces3
import Derived.Test.YtfcjeebnkigeaaaGreatZKdcNonces4
import Derived.Test.YtfcjeebnkigeaaaGreatZKdcNonces5
import Derived.Test.YtfcjeebnkigeaaaGreatZKdcNonces6
section
set_option linter.unusedVariables false
namespace Go.Proofs.YtfcjeebnkigeaaaGreat.Se
open Go.RowKit Go.Proofs.YtfcjeebnkigeaaaGreat.Mem
theorem own_rda {S:Nat→Prop} {w:World} {base n:Nat} {v:Value} {xs:List Value} {t:TypeId} (h:w.ownsRow base t 1 v n xs) (hs:∀k,v.ownBlock=some k→¬S k):∃A c,v = .slice A n c∧n≤c∧c≤maxLen∧RdA S w A xs:=by
 have h0:=h
 obtain⟨hl,⟨rfl,hn⟩ | ⟨g,cap,cur,rfl,_,hh,hcap,hml,_⟩⟩:=h
 ·subst hn
  exact⟨none,0,rfl,Nat.le_refl _,Nat.zero_le _,.inl (List.eq_nil_of_length_eq_zero (by simpa using hl))⟩
 ·refine⟨_,cap,rfl,hcap,hml,.inr ⟨g,0,rfl,(Array.getElem?_eq_some_iff.1 hh).1,hs g rfl,fun i u hu=>?_⟩⟩
  have:=h0.cells (g:=g) rfl i u hu
  rwa [addr_add] at this
theorem Box.seals {w:World} {b:Nat} {ks:Nat→UInt8} {g a o r:Nat} (h:Box w b ks (some g) a o r) (a':Nat):Box (w.setCell ⟨b,52,none⟩ (.int .i64 (a':Int))) b ks (some g) a' o r:=by
 obtain⟨h1,h2,m,h3⟩:=h
 exact⟨h1.set_a a',h2,m,Key.far h3 _ _ (fun e=>h2 e.symm)⟩
theorem chg_own {w w':World} {v:Value} (h:w.grownBy w' v.ownBlock):Chg (fun i=>v.ownBlock=some i) w w':=
 ⟨h.os,h.tape,h.output,h.size,fun k hk hne=>h.block k hk (fun e=>hne e.symm)⟩
theorem Step.same {w w':World} {b g g2:Nat} (h:Step w w' b (some g) g2):g=g2:=by
 rcases h.2 with h1 | ⟨h1,_⟩
 ·injection h1
 ·cases h1
def NewRow (B:Nat) (v:Value):Prop:=∀k,v.ownBlock=some k→B≤k
theorem own_new {w:World} {B n:Nat} {v:Value} {xs:List Value} {t:TypeId} (h:w.ownsRow B t 1 v n xs):NewRow B v:=fun k hk=>(h.lt k hk).1
theorem seal_a {B b:Nat} {ks:Nat→UInt8} {h:Option Nat} {a o r:Nat} {A:Option Addr} {xs:List Value} {w W w2:World} {v0:Value} (eB:B=w.heap.size) (hK:Box w b ks h a o r) (hR:RdA (Ow b h) w A xs) (hal:Below B w W) (hv:NewRow B v0) (hc:Chg (fun i=>v0.ownBlock=some i) W w2) :
  Box w2 b ks h a o r∧RdA (Ow b h) w2 A xs∧Chg (Aw b h B) w w2:=by
 subst eB
 have h1:Chg (fun i=>w.heap.size≤i) w w2:=(Chg.of_below hal).trans hc fun i _ hx=>hv i hx
 exact⟨hK.chg h1 (fun i hi hx=>by have:=hK.own_lt i hi;omega),hR.keep h1 (fun i hi hx=>by omega) (fun i _ hx=>hx),h1.mono fun i _ hx=>.inr hx⟩
theorem seal_b {B b g n:Nat} {h:Option Nat} {w2 w3:World} {v1:Value} {xs:List Value} {t:TypeId} (hOL:∀i,Ow b h i→i<B) (hB:B≤w2.heap.size) (ho:w2.ownsRow B t 1 v1 n xs) (hs:Step w2 w3 b h g) :
  w3.ownsRow B t 1 v1 n xs∧(∀i,Ow b (some g) i→¬v1.ownBlock=some i)∧Aw b h B g:=by
 refine⟨hs.1.own ho (fun k hk hx=>by have:=hOL k hx;have:=(ho.lt k hk).1;omega),fun i hi hk=>?_,hs.aw_g hB⟩
 have h1:=ho.lt i hk
 rcases hi with hi | hi
 ·have:=hOL i (.inl hi);omega
 ·injection hi with hi
  rcases hs.2 with h2 | ⟨_,h2⟩
  ·have:=hOL i (.inr (hi▸h2));omega
  ·omega
theorem seal_c {b g:Nat} {ks:Nat→UInt8} {a o r:Nat} {w3 w4:World} {v1 v4:Value} (hK:Box w3 b ks (some g) a o r) (hn:∀i,Ow b (some g) i→¬v1.ownBlock=some i) (hg:w3.grownBy w4 v1.ownBlock) (hat:v4.ownBlock=v1.ownBlock∨v4.ownBlock=some w3.heap.size) :
  Box w4 b ks (some g) a o r∧(∀i,v4.ownBlock=some i→¬Ow b (some g) i):=by
 refine⟨hK.chg (chg_own hg) hn,fun i hk hi=>?_⟩
 rcases hat with h | h
 ·exact hn i hi (h▸hk)
 ·rw[h] at hk
  injection hk with hk
  have:=hK.own_lt i hi
  omega
set_option maxRecDepth 100000 in
set_option maxHeartbeats 3200000 in
theorem seal_ok (b:Nat) (ks:Nat→UInt8) (h:Option Nat) (a o r u n:Nat) (A:Option Addr) (m c:Nat) (p:List UInt8) (w:World) (ha:a<1000000) (hu:u≤255) (hn:n≤1099511627776) (hm:m=p.length) (hm2:m≤784) (hr:RdA (Ow b h) w A (bvs p)) (hK:Box w b ks h a o r) :
  Calls Tryz.prog 159 #[.pointer (some ⟨b,0,none⟩),.int .i64 (u:Int),.int .i64 (n:Int),.slice A m c] w fun e w'=>∃g Aq cq,e = .returned (.tuple #[.slice Aq (m+16) cq,.int .i64 0])∧m+16≤cq∧cq≤maxLen∧RdA (Nw w.heap.size g) w' Aq (bvs (sealL ks u n p))∧Box w' b ks (some g) (a+1) o r∧Step w w' b h g:=by
 obtain⟨ib,hi0,hz0,hs0,hb0⟩:=info_parts Si.u8_info
 have hmk:=fun W=>run_make_room (P:=Tryz.prog) (t:=30) (e:=5) Tryz.underlying30 hi0 hz0 hs0 hb0 ((m:Int)+16) (m+16) (by omega) (by omega) W
 have f1:=fit_usage (u:Int) true (by simp;omega)
 have f2:=fit_nonce n true (by simp;omega)
 obtain⟨B,eB⟩:∃B,B=w.heap.size:=⟨_,rfl⟩
 have hown:=World.ownsRow_made (e:=5) (base:=B) (size:=1) w (zeros (m+16)) (m+16) (by omega) (by unfold maxLen;omega) (by rw[zeros_size,Nat.mul_one])
 have c1:=add_word B _ 0 n [] _ (by omega) (by decide) (by simp;omega) hown
 rw[Nat.zero_add,List.nil_append] at c1
 have hal:Below B w (w.alloc (.cells (zeros (m+16)) 5)):=eB▸(Below.refl _ _).alloc (Nat.le_refl _) _
 have hol:∀i,Ow b h i→i<B:=fun i hi=>eB▸hK.own_lt i hi
 have hnr:=own_new hown
 have HNR:=Lib.hid hnr;clear hnr
 have HK:=Lib.hid hK;clear hK
 have HR:=Lib.hid hr;clear hr
 have AL:=Lib.hid hal;clear hal
 have OL:=Lib.hid hol;clear hol
 have EB:=Lib.hid eB
 have q1:(n:Int)≤1099511627776:=by omega
 have q2:(0:Int)≤(n:Int):=by omega
 have q3:(m:Int)≤784:=by omega
 have q4:IntKind.u64.wrap (n:Int)=(n:Int):=by rw[IntKind.wrap_u64];omega
 have q5:IntKind.i64.wrap ((m:Int)+16)=(m:Int)+16:=by rw[IntKind.wrap_i64];omega
 have q6:decide ((n:Int)<0)=false:=by simp
 have q7:decide (784<(m:Int))=false:=by simp;omega
 obtain⟨L,eL⟩:∃L,L=aheadL ks u n p:=⟨_,rfl⟩
 have hEL:bvs (w8 n)++bvs (mixL ks u n p)=bvs L:=by rw[eL,aheadL,bvs_append]
 have hLL:8+m=L.length:=by rw[eL,aheadL_length,←hm]
 obtain⟨T,eT⟩:∃T,T=tagL ks u L:=⟨_,rfl⟩
 have hTL:T<18446744073709551616:=by rw[eT];exact tagL_lt _ _ _
 have hFin:bvs (L++w8 T)=bvs (sealL ks u n p):=by rw[eT,eL];rfl
 have EL:=Lib.hid hEL;clear hEL
 have LL:=Lib.hid hLL;clear hLL
 have TL:=Lib.hid hTL;clear hTL
 have FIN:=Lib.hid hFin;clear hFin
 have ET:=Lib.hid eT;clear eT
 clear eL
 have HA:=Lib.hid ha;clear ha
 have HU:=Lib.hid hu;clear hu
 have HN:=Lib.hid hn;clear hn
 have HM:=Lib.hid hm;clear hm
 have HM2:=Lib.hid hm2;clear hm2
 have C1:=Lib.hid c1;clear c1
 clear hown eB
 go_enter Tryz.func159,Tryz.ntmps159
 go_wp2_with (first
  |(go_at_call 161;refine Calls.mono (f1 _) ?_;rintro e wq ⟨rfl,hw⟩;have hw:=hw.symm;subst hw;clear f1)
  |(go_at_call 223;refine Calls.mono (f2 _) ?_;rintro e wq ⟨rfl,hw⟩;have hw:=hw.symm;subst hw;clear f2)
  |(go_at_call 224;refine Calls.mono C1.out ?_;rintro e w2 ⟨v1,rfl,hown1,hch1,hnew1⟩;clear C1 hmk;obtain⟨hb2,hr2,hc2⟩:=seal_a EB.out HK.out HR.out AL.out HNR.out hch1;have ct:=turn_any b ks h a o r u n A m c p w2 HU.out (by have:=HN.out;omega) HM.out (by have:=HM2.out;omega) hr2 hb2;have O1:=Lib.hid hown1;have C2:=Lib.hid hc2;have W2:=Lib.hid hc2.size;clear hown1 hch1 hnew1 hb2 hr2 hc2)
  |(go_at_call 163;refine Calls.mono ct ?_;rintro e w3 ⟨g,Aq,cq,rfl,hcq1,hcq2,hrq,hb3,hs3⟩;clear ct;obtain⟨ho3,hn3,hg3⟩:=seal_b OL.out (by have:=W2.out;have:=EB.out;omega) O1.out hs3;have O3:=Lib.hid ho3;have N3:=Lib.hid hn3;have G3:=Lib.hid hg3;have Q3:=Lib.hid hrq;have B3:=Lib.hid hb3;have S3:=Lib.hid hs3;have W3:=Lib.hid hs3.1.size;clear hcq1 hcq2 hrq hb3 hs3 ho3 hn3 hg3)
  |(at_builtin;refine wpList_append_rd _ (by rfl) (.tmp 41) (.tmp 47) 30 (by rfl) B 5 ib _ 1 Tryz.underlying30 hi0 hz0 hs0 hb0 (by rfl) v1 8 (bvs (w8 n)) (by rfl) O3.out w3.heap.size Aq m cq (bvs (mixL ks u n p)) (by rfl) (by rw[bvs_length,mixL_length];exact HM.out) Q3.out.rd (bvs_one _) (by have:=HM2.out;unfold maxLen;omega) (by have:=HM2.out;omega) (by have:=W2.out;have:=W3.out;have:=EB.out;omega) ?_;intro v4 w4 hown4 hgrow4 hat4;obtain⟨hb4,hn4⟩:=seal_c B3.out N3.out hgrow4 hat4;rw[EL.out] at hown4;obtain⟨A4,c4,hv4,hc4,_,hr4⟩:=own_rda hown4 hn4;subst hv4;have ctg:=tag_any b ks (some g) a o r u A4 (8+m) c4 L w4 HU.out LL.out (by have:=HM2.out;omega) hr4 hb4;rw[←ET.out] at ctg;have O4:=Lib.hid hown4;have N4:=Lib.hid hn4;have G4:=Lib.hid hgrow4;have NR4:=Lib.hid (own_new hown4);have W4:=Lib.hid hgrow4.size;clear hown4 hgrow4 hat4 hb4 hn4 hr4 hc4)
  |(go_at_call 225;refine Calls.mono ctg ?_;rintro e w5 ⟨g2,rfl,hb5,hs5⟩;clear ctg;have hgg:=hs5.same;subst hgg;have ho5:=hs5.1.own O4.out N4.out;have c6:=add_word B _ (8+m) T L w5 TL.out (by have:=HM2.out;omega) (by have:=W2.out;have:=W3.out;have:=W4.out;have:=hs5.1.size;have:=EB.out;omega) ho5;have B5:=Lib.hid hb5;have S5:=Lib.hid hs5;clear ho5 hb5 hs5)
  |(go_at_call 224;refine Calls.mono c6 ?_;rintro e w6 ⟨v6,rfl,hown6,hch6,hnew6⟩;clear c6;have hb6:=B5.out.chg hch6 (fun i hi hk=>N4.out i hk hi);have cadd:=add_one ⟨b,52,none⟩ a w6 HA.out hb6.1.ca (hb6.1.fz 52);have O6:=Lib.hid hown6;have C6:=Lib.hid hch6;have N6:=Lib.hid hnew6;have B6:=Lib.hid hb6;clear hown6 hch6 hnew6 hb6)
  |(go_at_call 111;refine Calls.mono cadd ?_;rintro e w7 ⟨rfl,hw7⟩;clear cadd;have HW7:=Lib.hid hw7;clear hw7)
  |fail)
 have hnb:∀k,v6.ownBlock=some k→B≤k∧k≠g∧k≠b:=fun k hk=>by
  have h1:=own_new O6.out k hk
  have h2:=OL.out b (.inl rfl)
  refine⟨h1,fun e=>?_,by omega⟩
  rcases N6.out k hk with h3 | h3
  ·exact N4.out k h3 (.inr (by rw[e]))
  ·have:=B5.out.lt_g;omega
 have hsz:w.heap.size≤w7.heap.size:=by
  have e:w7.heap.size=w6.heap.size:=by rw[HW7.out];simp [World.setCell]
  have:=W2.out;have:=W3.out;have:=W4.out;have:=S5.out.1.size;have:=C6.out.size
  omega
 have ho7:w7.ownsRow B 5 1 v6 (8+m+8) (bvs (L++w8 T)):=by
  rw[HW7.out]
  exact((Chg.refl (fun i=>i=b) w6).set (.inl rfl) _).own O6.out (fun k hk=>(hnb k hk).2.2)
 rw[FIN.out] at ho7
 obtain⟨A7,c7,hv7,hc7,hm7,hr7⟩:=own_rda (S:=Nw w.heap.size g) ho7 (fun k hk hx=>by
  have h1:=hnb k hk
  have:=EB.out
  rcases hx with hx | hx
  ·omega
  ·exact h1.2.1 hx)
 have hch:Chg (Aw b h w.heap.size) w w7:=by
  rw[←EB.out]
  have hawn:∀i,Ow b (some g) i→Aw b h B i:=fun i hi=>by
   rcases hi with hi | hi
   ·exact .inl (.inl hi)
   ·injection hi with hi;exact hi▸G3.out
  have h4:Chg (Aw b h B) w3 w4:=(chg_own G4.out).mono fun i _ hx=>.inr ((own_new O3.out) i hx)
  have h5:Chg (Aw b h B) w4 w5:=S5.out.1.mono fun i _ hx=>hawn i hx
  have h6:Chg (Aw b h B) w5 w6:=C6.out.mono fun i _ hx=>.inr (NR4.out i hx)
  have h7:Chg (Aw b h B) w6 w7:=by rw[HW7.out];exact(Chg.refl _ w6).set (.inl (.inl (.inl rfl))) _
  exact((((C2.out.then S3.out.aw).then h4).then h5).then h6).then h7
 have B7:Box w7 b ks (some g) (a+1) o r:=by rw[HW7.out];exact B6.out.seals (a+1)
 clear HW7
 subst hv7
 go_wp2_with fail
 go_ret2
 rw[show 8+m+8=m+16 by omega] at hc7
 exact⟨g,A7,c7,by show Ending.returned (.tuple #[.slice A7 (8+m+8) c7,.int .i64 0])=_;rw[show 8+m+8=m+16 by omega],hc7,hm7,hr7,B7,hch.step (S3.out.2.imp id (fun hx=>⟨hx.1,by have:=W2.out;omega⟩))⟩
end Go.Proofs.YtfcjeebnkigeaaaGreat.Se
end

section
namespace Go.Proofs.YtfcjeebnkigeaaaGreat.Open
open Go.ChangeShapes Go.WideShapes Go.ChangeAt Go.RowKit Go.Deep Go.Proofs.YtfcjeebnkigeaaaGreat.Mem
theorem i64_of_wf {n:Int} (h:(Lit.int .i64 n).wf=true) : -9223372036854775808≤n∧n≤9223372036854775807:=by
 simpa [Lit.wf,IntKind.min,IntKind.max,IntKind.signed,IntKind.bits] using h
theorem addr_none {w:World} {x:Addr} {v:Value} (h:w.cell? x=some v):∃b o,x=⟨b,o,none⟩:=by
 obtain⟨b,o,s⟩:=x
 have:=World.cell?_spot h
 exact⟨b,o,by rw[show s=none from this]⟩
theorem rd_of_cells {w:World} {x:Addr} {xs:List Value} (h:∀i u,xs[i]? = some u→w.cell? (x.add i)=some u):Rd w w.heap.size (some x) xs:=by
 cases xs with
 |nil=>exact .inl rfl
 |cons a r=>
  have h0:=h 0 a rfl
  rw[show x.add 0=x by simp [Addr.add]] at h0
  obtain⟨b,o,rfl⟩:=addr_none h0
  exact .inr ⟨b,o,rfl,World.block_lt_of_cell? w _ h0,fun i u hu=>by have:=h i u hu;rwa [addr_add] at this⟩
section
variable {H:Type} {enc:TypeId×Value→H} {P:Program} {W:World}
end
end Go.Proofs.YtfcjeebnkigeaaaGreat.Open
end

section
set_option linter.unusedVariables false
namespace Go.Proofs.YtfcjeebnkigeaaaGreat.Se
open Go.RowKit Go.Proofs.YtfcjeebnkigeaaaGreat.Mem
set_option maxRecDepth 100000 in
set_option maxHeartbeats 1600000 in
theorem seal_bad (b:Nat) (u N:Int) (A:Option Addr) (m c:Nat) (w:World) (wN:(Lit.int .i64 N).wf=true) (hm:m≤maxLen) (hx:¬(0≤u∧u≤255∧0≤N∧N≤1099511627776∧m≤784)) :
  Calls Tryz.prog 159 #[.pointer (some ⟨b,0,none⟩),.int .i64 u,.int .i64 N,.slice A m c] w fun e w'=>e = .returned (.tuple #[.slice none 0 0,.int .i64 1])∧w'=w:=by
 by_cases h1:0≤u∧u≤255
 ·have f1:=fit_usage u true (by simp;omega)
  by_cases h2:N<0
  ·have t2:decide (N<0)=true:=by simpa using h2
   clear hx h1 wN hm
   go_enter Tryz.func159,Tryz.ntmps159
   go_wp2_with (go_at_call 161;refine Calls.mono (f1 _) ?_;rintro e wq ⟨rfl,hw⟩;have hw:=hw.symm;subst hw;clear f1)
   go_ret2
   exact⟨rfl,rfl⟩
  ·obtain⟨n,rfl⟩:∃n:Nat,N=(n:Int):=⟨N.toNat,by omega⟩
   have hn63:n<9223372036854775808:=by
    have:=Open.i64_of_wf wN
    omega
   have t2:decide ((n:Int)<0)=false:=by simp
   have q4:IntKind.u64.wrap (n:Int)=(n:Int):=by rw[IntKind.wrap_u64];omega
   by_cases h3:n≤1099511627776
   ·have f2:=fit_nonce n true (by simp;omega)
    have t3:decide (784<(m:Int))=true:=by simp;omega
    have q1:(n:Int)≤1099511627776:=by omega
    clear hx h1 h2 wN
    go_enter Tryz.func159,Tryz.ntmps159
    go_wp2_with (first
     |(go_at_call 161;refine Calls.mono (f1 _) ?_;rintro e wq ⟨rfl,hw⟩;have hw:=hw.symm;subst hw;clear f1)
     |(go_at_call 223;refine Calls.mono (f2 _) ?_;rintro e wq ⟨rfl,hw⟩;have hw:=hw.symm;subst hw;clear f2))
    go_ret2
    exact⟨rfl,rfl⟩
   ·have f2:=fit_nonce n false (by simp;omega)
    clear hx h1 h2 wN
    go_enter Tryz.func159,Tryz.ntmps159
    go_wp2_with (first
     |(go_at_call 161;refine Calls.mono (f1 _) ?_;rintro e wq ⟨rfl,hw⟩;have hw:=hw.symm;subst hw;clear f1)
     |(go_at_call 223;refine Calls.mono (f2 _) ?_;rintro e wq ⟨rfl,hw⟩;have hw:=hw.symm;subst hw;clear f2))
    go_ret2
    exact⟨rfl,rfl⟩
 ·have f1:=fit_usage u false (by
   rw[eq_comm,Bool.and_eq_false_iff]
   rcases Int.lt_or_le u 0 with h | h
   ·exact .inl (by simp;omega)
   ·exact .inr (by simp;omega))
  clear hx h1 wN
  go_enter Tryz.func159,Tryz.ntmps159
  go_wp2_with (go_at_call 161;refine Calls.mono (f1 _) ?_;rintro e wq ⟨rfl,hw⟩;have hw:=hw.symm;subst hw;clear f1)
  go_ret2
  exact⟨rfl,rfl⟩
def StepO (w w':World) (b:Nat) (h h':Option Nat):Prop:=Chg (Ow b h) w w'∧(h'=h∨(h=none∧∃g,h'=some g∧w.heap.size≤g))
theorem StepO.refl (w:World) (b:Nat) (h:Option Nat):StepO w w b h h:=⟨Chg.refl _ _,.inl rfl⟩
theorem Step.o {w w':World} {b g:Nat} {h:Option Nat} (hs:Step w w' b h g):StepO w w' b h (some g):=
 ⟨hs.1,hs.2.imp (fun e=>e.symm) (fun e=>⟨e.1,g,rfl,e.2⟩)⟩
theorem StepO.own {w w':World} {b:Nat} {h h':Option Nat} (hs:StepO w w' b h h'):∀i,i<w.heap.size→Ow b h' i→Ow b h i:=by
 intro i hi hx
 rcases hs.2 with rfl | ⟨_,g,rfl,hg⟩
 ·exact hx
 ·rcases hx with hx | hx
  ·exact .inl hx
  ·injection hx with hx;omega
theorem StepO.trans {a w c:World} {b:Nat} {h h1 h2:Option Nat} (s1:StepO a w b h h1) (s2:StepO w c b h1 h2):StepO a c b h h2:=by
 refine⟨s1.1.trans s2.1 s1.own,?_⟩
 rcases s1.2 with rfl | ⟨e,g,rfl,hg⟩
 ·rcases s2.2 with rfl | ⟨e,g,rfl,hg⟩
  ·exact .inl rfl
  ·exact .inr ⟨e,g,rfl,Nat.le_trans s1.1.size hg⟩
 ·rcases s2.2 with rfl | ⟨e2,_⟩
  ·exact .inr ⟨e,g,rfl,hg⟩
  ·cases e2
theorem StepO.drewN {w w':World} {b:Nat} {h h':Option Nat} (hs:StepO w w' b h h') (k:Nat):StepO w (w'.drewN k) b h h':=⟨⟨hs.1.os,hs.1.tape,hs.1.output,hs.1.size,hs.1.block⟩,hs.2⟩
theorem chg_drewN (S:Nat→Prop) (w:World) (k:Nat):Chg S w (w.drewN k):=⟨rfl,rfl,rfl,Nat.le_refl _,fun _ _ _=>rfl⟩
theorem rd_nil_16 {l:List UInt8} {n:Nat} {P:Prop} (hn:n=l.length) (h:8≤n) (hx:bvs l = []):P:=by
 have:=bvs_length l;rw[hx] at this;simp at this;omega
theorem RdA.take {S:Nat→Prop} {w:World} {A:Option Addr} {l:List UInt8} (h:RdA S w A (bvs l)) (k:Nat):RdA S w A (bvs (l.take k)):=by
 rcases h with h | ⟨b,o,h1,h2,h3,h4⟩
 ·left
  have:l = []:=List.map_eq_nil_iff.1 h
  rw[this,List.take_nil];rfl
 ·refine .inr ⟨b,o,h1,h2,h3,fun i u hu=>h4 i u ?_⟩
  unfold bvs at hu⊢
  rw[List.map_take,List.getElem?_take] at hu
  split at hu
  ·exact hu
  ·cases hu
theorem RdA.drop {S:Nat→Prop} {w:World} {b o:Nat} {l:List UInt8} (h:RdA S w (some ⟨b,o,none⟩) (bvs l)) (k:Nat):RdA S w (some ⟨b,o+k,none⟩) (bvs (l.drop k)):=by
 rcases h with h | ⟨b',o',h1,h2,h3,h4⟩
 ·left
  have:l = []:=List.map_eq_nil_iff.1 h
  rw[this,List.drop_nil];rfl
 ·injection h1 with h1
  injection h1 with e1 e2
  subst e1 e2
  refine .inr ⟨b,o+k,rfl,h2,h3,fun i u hu=>?_⟩
  unfold bvs at hu
  rw[List.map_drop,List.getElem?_drop] at hu
  have:=h4 (k+i) u hu
  rwa [←Nat.add_assoc] at this
theorem isL_short {ks:Nat→UInt8} {u:Nat} {l:List UInt8} (h:l.length<16∨800<l.length∨1099511627776<n8 l):isL ks u l=false:=by
 unfold isL
 rcases h with h | h | h
 ·rw[show decide (16≤l.length)=false by simp;omega];simp
 ·rw[show decide (l.length≤800)=false by simp;omega];simp
 ·rw[show decide (n8 l≤1099511627776)=false by simp;omega];simp
theorem isL_long {ks:Nat→UInt8} {u:Nat} {l:List UInt8} (h1:16≤l.length) (h2:l.length≤800) (h3:n8 l≤1099511627776):isL ks u l=decide (tagL ks u (headL l)=n8 (lastL l)):=by
 unfold isL
 rw[show decide (16≤l.length)=true by simpa using h1,show decide (l.length≤800)=true by simpa using h2,show decide (n8 l≤1099511627776)=true by simpa using h3];simp
set_option maxRecDepth 100000 in
set_option maxHeartbeats 1600000 in
theorem is_short (b u:Nat) (ks:Nat→UInt8) (A:Option Addr) (n c:Nat) (l:List UInt8) (w:World) (hn:n=l.length) (hc:n≤c) (hm:c≤maxLen) (hr:Rd w w.heap.size A (bvs l)) (hx:l.length<16∨800<l.length∨1099511627776<n8 l) :
  Calls Tryz.prog 162 #[.pointer (some ⟨b,0,none⟩),.int .i64 (u:Int),.slice A n c] w fun e w'=>e = .returned (.bool false)∧w'=w:=by
 by_cases h1:n<16
 ·have t1:decide ((n:Int)<16)=true:=by simp;omega
  clear hx hr hn hc hm h1
  go_enter Tryz.func162,Tryz.ntmps162
  go_wp2
  go_ret
  exact⟨rfl,rfl⟩
 ·have t1:decide ((n:Int)<16)=false:=by simp;omega
  by_cases h2:800<n
  ·have t2:decide (800<(n:Int))=true:=by simp;omega
   clear hx hr hn hc hm h1 h2
   go_enter Tryz.func162,Tryz.ntmps162
   go_wp2
   go_ret
   exact⟨rfl,rfl⟩
  ·have t2:decide (800<(n:Int))=false:=by simp;omega
   have h3:1099511627776<n8 l:=by omega
   have cw:=word_any w.heap.size A n c l w hn (by omega) hc hr
   have f2:=fit_nonce (n8 l) false (by simp;omega)
   obtain⟨N,eN⟩:∃N,N=n8 l:=⟨_,rfl⟩
   rw[←eN] at cw f2
   clear hx hr hn hc hm h1 h2 h3 eN
   go_enter Tryz.func162,Tryz.ntmps162
   go_wp2_with (first
    |(go_at_call 164;refine Calls.mono cw ?_;rintro e wq ⟨rfl,hw⟩;have hw:=hw.symm;subst hw;clear cw)
    |(go_at_call 223;refine Calls.mono (f2 _) ?_;rintro e wq ⟨rfl,hw⟩;have hw:=hw.symm;subst hw;clear f2))
   go_ret
   exact⟨rfl,rfl⟩
set_option maxRecDepth 100000 in
set_option maxHeartbeats 1600000 in
theorem is_long (b:Nat) (ks:Nat→UInt8) (h:Option Nat) (a o r u:Nat) (A:Option Addr) (n c:Nat) (l:List UInt8) (w:World) (hu:u≤255) (hn:n=l.length) (hc:n≤c) (hm:c≤maxLen) (hr:RdA (Ow b h) w A (bvs l)) (hK:Box w b ks h a o r) (h1:16≤l.length) (h2:l.length≤800) (h3:n8 l≤1099511627776) :
  Calls Tryz.prog 162 #[.pointer (some ⟨b,0,none⟩),.int .i64 (u:Int),.slice A n c] w fun e w'=>e = .returned (.bool (decide (tagL ks u (headL l)=n8 (lastL l))))∧∃g,Box w' b ks (some g) a o r∧Step w w' b h g:=by
 have cw:=word_any w.heap.size A n c l w hn (by omega) hc hr.rd
 have f2:=fit_nonce (n8 l) true (by simp;omega)
 obtain⟨b2,o2,rfl⟩:∃b2 o2,A=some ⟨b2,o2,none⟩:=by
  rcases hr with hx | ⟨b2,o2,h4,_⟩
  ·exact rd_nil_16 hn (by omega) hx
  ·exact⟨b2,o2,h4⟩
 obtain⟨k,hk⟩:∃k,n=k+8:=⟨n - 8,by omega⟩
 have hk8:n - 8=k:=by omega
 have hhd:headL l=l.take k:=by unfold headL;rw[←hn,hk8]
 have hla:lastL l=l.drop k:=by unfold lastL;rw[←hn,hk8]
 have ct:=fun(q:Nat)=>tag_any b ks h a o r u (some ⟨b2,o2,none⟩) k c (headL l) (w.drewN q) hu (by rw[hhd,List.length_take];omega) (by omega) ((hhd▸hr.take k).keep (chg_drewN (fun _=>False) w q) (fun _ _ x=>x.elim) (fun _ _ x=>x)) (hK.chg (chg_drewN (fun _=>False) w q) (fun _ _ x=>x))
 have cl:=fun(w2:World) (hw:RdA (Aw b h w.heap.size) w2 (some ⟨b2,o2+k,none⟩) (bvs (lastL l))) (c2:Nat) (hc2:8≤c2)=>word_any w2.heap.size (some ⟨b2,o2+k,none⟩) 8 c2 (lastL l) w2 (by rw[hla,List.length_drop];omega) (Nat.le_refl _) hc2 hw.rd
 have hrl:RdA (Aw b h w.heap.size) w (some ⟨b2,o2+k,none⟩) (bvs (lastL l)):=hla▸(hr.drop k).aw (Nat.le_refl _)
 obtain⟨N,eN⟩:∃N,N=n8 l:=⟨_,rfl⟩
 obtain⟨M,eM⟩:∃M,M=n8 (lastL l):=⟨_,rfl⟩
 obtain⟨T,eT⟩:∃T,T=tagL ks u (headL l):=⟨_,rfl⟩
 rw[←eN] at cw f2
 rw[←eM] at cl⊢
 rw[←eT] at ct⊢
 have HRL:=Lib.hid hrl;clear hrl
 have t1:decide ((n:Int)<16)=false:=by simp;omega
 have t2:decide (800<(n:Int))=false:=by simp;omega
 have s1:(k:Int)≤792:=by omega
 have s2:(0:Int)≤(k:Int):=by omega
 have s3:(k:Int)≤(c:Int):=by omega
 have s4:(k:Int)≤(n:Int):=by omega
 have s5:(n:Int)≤(c:Int):=by omega
 have s6:(n:Int) - 8=(k:Int):=by omega
 have s7:IntKind.i64.wrap (k:Int)=(k:Int):=by rw[IntKind.wrap_i64];omega
 have s9:n - k=8:=by omega
 have s10:k≤c:=by omega
 have s11:k≤n:=by omega
 have HKN:=Lib.hid hk;clear hk
 have HC:=Lib.hid hc;clear hc
 have CL:=Lib.hid cl;clear cl
 clear hK hr hn hm h1 h2 h3 eN eM eT hhd hla hu hk8
 go_enter Tryz.func162,Tryz.ntmps162
 go_wp2_with (first
  |(go_at_call 164;refine Calls.mono cw ?_;rintro e wq ⟨rfl,hw⟩;have hw:=hw.symm;subst hw;clear cw)
  |(go_at_call 223;refine Calls.mono (f2 _) ?_;rintro e wq ⟨rfl,hw⟩;have hw:=hw.symm;subst hw;clear f2))
 go_quiet (fail)
 have ct2:=ct nq
 clear ct
 go_wp2_with (first
  |(go_at_call 225;refine Calls.mono ct2 ?_;rintro e w3 ⟨g,rfl,hb3,hs3⟩;clear ct2;have hr3:=HRL.out.go ((chg_drewN (Aw b h w.heap.size) w nq).then hs3.aw);have cl2:=CL.out w3 hr3 (c - k) (by have:=HKN.out;have:=HC.out;omega);have B3:=Lib.hid hb3;have S3:=Lib.hid hs3;clear hb3 hs3 hr3 CL)
  |(go_at_call 164;refine Calls.mono cl2 ?_;rintro e wq ⟨rfl,hw⟩;have hw:=hw.symm;subst hw;clear cl2))
 go_ret
 refine⟨?_,g,B3.out,⟨⟨S3.out.1.os,S3.out.1.tape,S3.out.1.output,S3.out.1.size,S3.out.1.block⟩,S3.out.2⟩⟩
 show Ending.returned (.bool (decide ((T:Int)=(M:Int))))=_
 congr 3
 exact propext ⟨by omega,by omega⟩
end Go.Proofs.YtfcjeebnkigeaaaGreat.Se
end

section
set_option linter.unusedVariables false
namespace Go.Proofs.YtfcjeebnkigeaaaGreat.Se
open Go.RowKit Go.Proofs.YtfcjeebnkigeaaaGreat.Mem
theorem is_any (b:Nat) (ks:Nat→UInt8) (h:Option Nat) (a o r u:Nat) (A:Option Addr) (n c:Nat) (l:List UInt8) (w:World) (hu:u≤255) (hn:n=l.length) (hc:n≤c) (hm:c≤maxLen) (hr:RdA (Ow b h) w A (bvs l)) (hK:Box w b ks h a o r) :
  Calls Tryz.prog 162 #[.pointer (some ⟨b,0,none⟩),.int .i64 (u:Int),.slice A n c] w fun e w'=>e = .returned (.bool (isL ks u l))∧∃h',Box w' b ks h' a o r∧StepO w w' b h h':=by
 by_cases hx:l.length<16∨800<l.length∨1099511627776<n8 l
 ·refine(is_short b u ks A n c l w hn hc hm hr.rd hx).mono ?_
  rintro e w' ⟨rfl,hw⟩
  subst hw
  exact⟨by rw[isL_short hx],h,hK,StepO.refl _ _ _⟩
 ·refine(is_long b ks h a o r u A n c l w hu hn hc hm hr hK (by omega) (by omega) (by omega)).mono ?_
  rintro e w' ⟨rfl,g,h1,h2⟩
  exact⟨by rw[isL_long (by omega) (by omega) (by omega)],some g,h1,h2.o⟩
theorem StepO.aw {w w':World} {b n:Nat} {h h':Option Nat} (hs:StepO w w' b h h'):Chg (Aw b h n) w w':=hs.1.mono fun i _ hx=>.inl hx
end Go.Proofs.YtfcjeebnkigeaaaGreat.Se
end

section
set_option linter.unusedVariables false
namespace Go.Proofs.YtfcjeebnkigeaaaGreat.Sp
open Go.RowKit Go.Proofs.YtfcjeebnkigeaaaGreat.Mem
def ksOf (l:List UInt8) (i:Nat):UInt8:=l.getD i 0
end Go.Proofs.YtfcjeebnkigeaaaGreat.Sp
end

section
set_option linter.unusedVariables false
namespace Go.Proofs.YtfcjeebnkigeaaaGreat.Sp
open Go.RowKit Go.Proofs.YtfcjeebnkigeaaaGreat.Mem
theorem rd_words (w:World) (t:TypeId) (cs:Array Value) (l:List Value) (h:cs.toList=l) (N:Nat) (hN:w.heap.size=N):Rd (w.alloc (.cells cs t)) (N+1) (some ⟨N,0,none⟩) l:=by
 subst hN
 refine .inr ⟨w.heap.size,0,rfl,by omega,fun i u hu=>?_⟩
 rw[Nat.zero_add,(Blk.new w t cs).cell i]
 rw[←h] at hu
 simpa using hu
theorem own_push {w w':World} {base:Nat} {t:TypeId} {v:Value} {n:Nat} {xs:List Value} {o:Obj} (h:w.ownsRow base t 1 v n xs) (e:w'.heap=w.heap.push o):w'.ownsRow base t 1 v n xs:=by
 obtain⟨hl,h | ⟨g,cap,cur,hv,hg,hcur,hr⟩⟩:=h
 ·exact⟨hl,.inl h⟩
 ·refine⟨hl,.inr ⟨g,cap,cur,hv,hg,?_,hr⟩⟩
  have hlt:=Blk.lt (t:=t) (cs:=cur) hcur
  rw[e,Array.getElem?_push_lt hlt,←Array.getElem?_eq_getElem hlt]
  exact hcur
theorem range_blk {w:World} {g:Nat} {t:TypeId} {cs:Array Value} (h:Blk w g t cs):w.rangeAt g 0 cs.toList:=fun j v hv=>by
 rw[Nat.zero_add,h.cell];simpa using hv
theorem there_blk {w:World} {g:Nat} {t:TypeId} {cs:Array Value} (h:Blk w g t cs):w.there g 0 cs.size:=fun j hj=>by
 rw[Nat.zero_add]
 exact⟨by rw[h.cell,Array.getElem?_eq_getElem hj];rfl,h.frozen j⟩
end Go.Proofs.YtfcjeebnkigeaaaGreat.Sp
end

section
set_option linter.unusedVariables false
namespace Go.Proofs.YtfcjeebnkigeaaaGreat.SpL
open Go.RowKit Go.Proofs.YtfcjeebnkigeaaaGreat.Mem Go.Proofs.YtfcjeebnkigeaaaGreat.Sp
def Stands (w:World) (g:Nat) (cs:Array Value):Prop:=w.rangeAt g 0 cs.toList
theorem Stands.grown {w w':World} {g:Nat} {cs:Array Value} {row:Option Nat} (h:Stands w g cs) (hg:g<w.heap.size) (hb:w.grownBy w' row) (hr:row≠some g):Stands w' g cs:=fun j v hv=>
 (World.cell?_of_block (a:=⟨g,0+j,none⟩) (hb.block g hg (fun e=>hr e.symm))).trans (h j v hv)
theorem Stands.below {w w':World} {g:Nat} {cs:Array Value} (h:Stands w g cs) (hg:g<w.heap.size) (hb:Below w.heap.size w w'):Stands w' g cs:=h.grown hg (g_of_below hb none) (by simp)
end Go.Proofs.YtfcjeebnkigeaaaGreat.SpL
end

section
set_option linter.unusedVariables false
namespace Go.Proofs.YtfcjeebnkigeaaaGreat.SpL
open Go.RowKit Go.Proofs.YtfcjeebnkigeaaaGreat.Mem Go.Proofs.YtfcjeebnkigeaaaGreat.Sp
theorem Rd.take {w:World} {B:Nat} {A:Option Addr} {xs:List Value} (h:Rd w B A xs) (m:Nat):Rd w B A (xs.take m):=by
 rcases h with h | ⟨b,o,h1,h2,h3⟩
 ·rw[h];exact .inl (by simp)
 ·refine .inr ⟨b,o,h1,h2,fun i u hu=>h3 i u ?_⟩
  rw[List.getElem?_take] at hu
  split at hu
  ·exact hu
  ·cases hu
end Go.Proofs.YtfcjeebnkigeaaaGreat.SpL
end

section
set_option linter.unusedVariables false
namespace Go.Proofs.YtfcjeebnkigeaaaGreat.Se
open Go.RowKit Go.Proofs.YtfcjeebnkigeaaaGreat.Mem
def hk (f:Nat→UInt8) (i j:Nat):UInt8:=if j<i then f j else 0
end Go.Proofs.YtfcjeebnkigeaaaGreat.Se
end

section
set_option linter.unusedVariables false
namespace Go.Proofs.YtfcjeebnkigeaaaGreat.Reg
open Go.RowKit Go.Proofs.YtfcjeebnkigeaaaGreat.Mem
section
variable {P:Program} {ops:Array Oper} {Q:Exit→Act→World→Prop} {md:Region.Mode}
theorem held_mono {S1 S2:World→Prop} (hS:∀w,S2 w→S1 w):∀(f:Nat) (l:Array Bool) (a:Act) (w:World),wpAnyH P md ops Q S2 f l a w→wpAnyH P md ops Q S1 f l a w
 |0,_,_,_,h=>h
 |f+1,_,_,_,h=>⟨h.1,fun i hi=>wpOp_mono (fun a' w' hh=>⟨hS w' hh.1,held_mono hS f _ a' w' hh.2⟩) (h.2 i hi)⟩
def Since (W w:World):Prop:=Below W.heap.size W w
theorem held_on {W w:World} {f:Nat} {l:Array Bool} {a:Act} (hb:Below W.heap.size W w) (h:wpAnyH P md ops Q (Since w) f l a w):wpAnyH P md ops Q (Since W) f l a w:=
 held_mono (fun _ h'=>bt hb h') f l a w h
theorem region_begin (n:Nat) {id:Nat} {a:Act} {w:World} (hn:ops.size=n) (hm:P.follows .mixedOrders=true) (h:wpAnyH P .any ops Q (Since w.drew) n (Array.replicate n false) a w.drew):(Code.region id ops true).wp P Q a w:=by
 subst hn
 exact wp_region_held_drew hm (Below.refl _ _) (fun _=>h)
theorem take_op (i:Nat) {dst:Option Tmp} {op:Op} {ty:TypeId} {pos:String} {after:Array _} {guard:Option (Nat×Bool)} {v:Value} {fuel:Nat} {listed:Array Bool} {a:Act} {w:World} (hi:ops[i]? = some ⟨dst,op,ty,pos,after,guard⟩)
  (hs:Region.noSelect ops=true) (hf:Region.free md ops listed i=true) (hr:(Region.ready md ops listed).contains i=true)
  (hQ:∀c a w,Q (.panic c) (a.put dst v) w→Q (.panic c) a w)
  (hw:Region.wanted ⟨dst,op,ty,pos,after,guard⟩ (yielded ops a.tmps)=true) (hy:∀w',Since w w'→(execOp a.eval ⟨dst,op,ty,pos,after,guard⟩).run P w' = .ok (.value v) w')
  (h:wpAnyH P md ops Q (Since w) fuel (listed.setIfInBounds i true) (a.put dst v) w):wpAnyH P md ops Q (Since w) (fuel+1) listed a w:=
 wpAnyH_take hi hs hf hr hQ (.inl ⟨hw,hy⟩) (Below.refl _ _) h
theorem skip_op (i:Nat) {dst:Option Tmp} {op:Op} {ty:TypeId} {pos:String} {after:Array _} {guard:Option (Nat×Bool)} {fuel:Nat} {listed:Array Bool} {a:Act} {w:World} (hi:ops[i]? = some ⟨dst,op,ty,pos,after,guard⟩)
  (hs:Region.noSelect ops=true) (hf:Region.free md ops listed i=true) (hr:(Region.ready md ops listed).contains i=true)
  (hQ:∀c a w,Q (.panic c) (a.put dst undef) w→Q (.panic c) a w)
  (hw:Region.wanted ⟨dst,op,ty,pos,after,guard⟩ (yielded ops a.tmps)=false)
  (h:wpAnyH P md ops Q (Since w) fuel (listed.setIfInBounds i true) (a.put dst undef) w):wpAnyH P md ops Q (Since w) (fuel+1) listed a w:=
 wpAnyH_take hi hs hf hr hQ (.inr ⟨hw,rfl⟩) (Below.refl _ _) h
theorem call_op (i:Nat) {dst:Option Tmp} {op:Op} {ty:TypeId} {pos:String} {after:Array _} {guard:Option (Nat×Bool)} {fuel:Nat} {listed:Array Bool} {a:Act} {w:World} (hi:ops[i]? = some ⟨dst,op,ty,pos,after,guard⟩)
  (hr:Region.ready md ops listed = [i]) (hw:Region.wanted ⟨dst,op,ty,pos,after,guard⟩ (yielded ops a.tmps)=true) (f:FuncId) (args:Array Value)
  (hx:(execOp a.eval ⟨dst,op,ty,pos,after,guard⟩).run P w = .ok (.enter f args) w)
  (h:Calls P f args w fun e w'=>∃v,e = .returned v∧Below w.heap.size w w'∧wpAnyH P md ops Q (Since w') fuel (listed.setIfInBounds i true) (a.put dst v) w'):wpAnyH P md ops Q (Since w) (fuel+1) listed a w:=by
 refine wpAnyH_all hr (by simp) fun j hj=>?_
 obtain rfl:j=i:=by simpa using hj
 unfold wpOp
 simp only[hi]
 rw[if_pos hw]
 left
 unfold Oper.wp
 rw[hx]
 exact h.mono fun e w' hh=>by
  obtain⟨v,rfl,hb,hh⟩:=hh
  exact⟨hb,held_on hb hh⟩
end
end Go.Proofs.YtfcjeebnkigeaaaGreat.Reg
end

section
set_option linter.unusedVariables false
namespace Go.Proofs.YtfcjeebnkigeaaaGreat.Se
open Go.RowKit Go.Proofs.YtfcjeebnkigeaaaGreat.Mem
def ksOf (l:List UInt8) (i:Nat):UInt8:=l.getD i 0
end Go.Proofs.YtfcjeebnkigeaaaGreat.Se
end

section
set_option linter.unusedVariables false
namespace Go.Proofs.YtfcjeebnkigeaaaGreat.Se
open Go.RowKit Go.Proofs.YtfcjeebnkigeaaaGreat.Mem
theorem RdA.out {w w':World} {b g:Nat} {h:Option Nat} {A:Option Addr} {xs:List Value} {ks:Nat→UInt8} {a o r:Nat} (hr:RdA (Nw w.heap.size g) w' A xs) (hK:Box w b ks h a o r):RdA (Ow b (some g)) w' A xs:=hr.mono fun i _ hx=>by
 rcases hx with hx | hx
 ·exact .inl (hx▸hK.lt)
 ·injection hx with hx;exact .inr hx.symm
def k1:Nat→UInt8:=fun i=>if i=0 then 1 else 0
end Go.Proofs.YtfcjeebnkigeaaaGreat.Se
end

section
set_option linter.unusedVariables false
namespace Go.Proofs.YtfcjeebnkigeaaaGreat.SeL
open Go.RowKit Go.Proofs.YtfcjeebnkigeaaaGreat.Mem Go.Proofs.YtfcjeebnkigeaaaGreat.Se
theorem Ow_some {b g i:Nat} (h:Ow b (some g) i):i=b∨i=g:=by
 rcases h with h | h
 ·exact .inl h
 ·injection h with h;exact .inr h.symm
theorem Step.ge {w w':World} {b g:Nat} (h:Step w w' b none g):w.heap.size≤g:=by
 rcases h.2 with h | ⟨_,h⟩
 ·cases h
 ·exact h
end Go.Proofs.YtfcjeebnkigeaaaGreat.SeL
end

section
set_option linter.unusedVariables false
namespace Go.Proofs.YtfcjeebnkigeaaaGreat.SeL
open Go.RowKit Go.Proofs.YtfcjeebnkigeaaaGreat.Mem Go.Proofs.YtfcjeebnkigeaaaGreat.Se
def sealR (ks:Nat→UInt8) (u n:Int) (p:List UInt8):List UInt8×Int:=
 if 0≤u∧u≤255∧0≤n∧n≤1099511627776∧p.length≤784 then (sealL ks u.toNat n.toNat p,0) else ([],1)
def Ns (n b:Nat) (h:Option Nat) (i:Nat):Prop:=i<n∨Ow b h i
theorem nw_ns {n b g:Nat} {w:World} {A:Option Addr} {xs:List Value} (hr:RdA (Nw n g) w A xs) (hb:b<n):RdA (Ns n b (some g)) w A xs:=hr.mono fun i _ hx=>by
 rcases hx with hx | hx
 ·exact .inl hx
 ·rcases Ow_some hx with h | h
  ·exact .inl (by omega)
  ·exact .inr h
theorem seal_res (b:Nat) (ks:Nat→UInt8) (h:Option Nat) (a o r:Nat) (u N:Int) (A:Option Addr) (m c:Nat) (p:List UInt8) (w:World) (ha:a<1000000) (wN:(Lit.int .i64 N).wf=true) (hm:m=p.length) (hml:m≤maxLen) (hr:RdA (Ow b h) w A (bvs p)) (hK:Box w b ks h a o r) :
  Calls Tryz.prog 159 #[.pointer (some ⟨b,0,none⟩),.int .i64 u,.int .i64 N,.slice A m c] w fun e w'=>∃A2 c2 h' a',e = .returned (.tuple #[.slice A2 (sealR ks u N p).1.length c2,.int .i64 (sealR ks u N p).2])∧(sealR ks u N p).1.length≤c2∧c2≤maxLen∧RdA (Ns w.heap.size b h') w' A2 (bvs (sealR ks u N p).1)∧Box w' b ks h' a' o r∧StepO w w' b h h'∧a'≤a+1:=by
 by_cases hx:0≤u∧u≤255∧0≤N∧N≤1099511627776∧m≤784
 ·obtain⟨u',rfl⟩:∃k:Nat,u=(k:Int):=⟨u.toNat,by omega⟩
  obtain⟨n',rfl⟩:∃k:Nat,N=(k:Int):=⟨N.toNat,by omega⟩
  have e:sealR ks (u':Int) (n':Int) p=(sealL ks u' n' p,0):=by rw[sealR,if_pos (by omega)];rfl
  rw[e]
  refine(seal_ok b ks h a o r u' n' A m c p w ha (by omega) (by omega) hm (by omega) hr hK).mono ?_
  rintro e w' ⟨g,A2,c2,rfl,h1,h2,h3,h4,h5⟩
  exact⟨A2,c2,some g,a+1,by rw[sealL_length,hm],by rw[sealL_length,←hm];exact h1,h2,nw_ns h3 hK.lt,h4,h5.o,Nat.le_refl _⟩
 ·have e:sealR ks u N p=([],1):=by rw[sealR,if_neg (by omega)]
  rw[e]
  refine(seal_bad b u N A m c w wN hml hx).mono ?_
  rintro e w' ⟨rfl,hw⟩
  subst hw
  exact⟨none,0,h,a,rfl,Nat.le_refl _,Nat.zero_le _,.inl rfl,hK,StepO.refl _ _ _,by omega⟩
end Go.Proofs.YtfcjeebnkigeaaaGreat.SeL
end

section
set_option linter.unusedVariables false
namespace Go.Proofs.YtfcjeebnkigeaaaGreat.Kd
open Go.Proofs.YtfcjeebnkigeaaaGreat.Mem Go.Proofs.YtfcjeebnkigeaaaGreat.Se
open Go.Proofs.YtfcjeebnkigeaaaGreat.Nm (krb L)
open Go.Proofs.YtfcjeebnkigeaaaGreat.Rg (It lastI lastN numO)
open Go.Proofs.YtfcjeebnkigeaaaGreat.Ms (Pr Tk Pt Rp As Tg Re Ap Fa Mg ptB rpB asB tgB tmB ptE rpE mgE mgO ptO rpO pr0 tk0 re0 as0 tg0 ap0 fa0)
open Go.Proofs.YtfcjeebnkigeaaaGreat.SeL (sealR)
open Go.Proofs.YtfcjeebnkigeaaaGreat.Rt (Tp)
def kr (R x:L):Pr:=(R,krb++x)
def hasL (l:List It) (p:Pr):Bool:=(lastI l p).isSome
def keyO (l:List It):Option Nat→Nat→UInt8
 |none=>fun _=>0
 |some i=>((l[i]?).map (·.k)).getD fun _=>0
def keyL (l:List It) (p:Pr):Nat→UInt8:=keyO l (lastI l p)
def rpOf (P:Pt) (s:Pr) (no:Int):Rp:=⟨P.ss,s,P.st,P.en,no⟩
def ansL (l:List It) (n:Nat) (c s:Pr) (P:Pt) (no:Int) (ks:Nat→UInt8) (u:Int):Int×Re:=
 if (ptO P).isSome&&(rpO (rpOf P s no)).isSome then
  (0,⟨c,⟨s,lastN l s,(sealR (keyL l s) 2 ((n+1:Nat):Int) ((ptO P).getD [])).1⟩,(sealR ks u ((n+1+1:Nat):Int) ((rpO (rpOf P s no)).getD [])).1⟩)
 else (2,re0)
def mxL:Int:=1000
def asL (R:L) (l:List It) (n:Nat) (q:As) (now:Int) (d:L):Int×Re:=
 if tmB now&&asB q then
  if q.c.1=R∧hasL l q.c=true then
   if q.s=kr R R∧hasL l q.s=true then
    if q.t<now then (7,re0)
    else ansL l n q.c q.s ⟨q.c,d,[],now,min q.t (now+mxL)⟩ q.no (keyL l q.c) 3
   else (6,re0)
  else (5,re0)
 else (1,re0)
def cnt (e:Int):Nat:=if e=0 then 1 else 0
end Go.Proofs.YtfcjeebnkigeaaaGreat.Kd
end

section
namespace Go.Proofs.YtfcjeebnkigeaaaGreat.DerC
open Go.RowKit Go.Proofs.YtfcjeebnkigeaaaGreat.Mem Go.Proofs.YtfcjeebnkigeaaaGreat.DerP
attribute [local go_sem] mk_at List.getElem_cons_zero List.getElem_cons_succ ext_tail ext_drop ext_mid
def Drawn (w w':World):Prop:=∃n,w'=w.drewN n
theorem Drawn.refl (w:World):Drawn w w:=⟨0,rfl⟩
def curCells:Option L→Array Value
 |none=>#[.string ⟨([]:List UInt8).toArray⟩,.bool true]
 |some s=>#[.string ⟨s.toArray⟩,.bool false]
def Cur (w:World) (g:Nat) (c:Option L):Prop:=Blk w g 344 (curCells c)
set_option maxRecDepth 100000 in
set_option maxHeartbeats 400000 in
theorem len_any (s:L) (w:World):Calls Tryz.prog 296 #[.string ⟨s.toArray⟩] w fun e w'=>
  e = .returned (.tuple #[.int .i64 ((lenR s).1:Int),.int .i64 ((lenR s).2.1:Int),.bool (lenR s).2.2])∧Drawn w w':=by
 cases s with
 |nil=>
  go_enter Tryz.func296,Tryz.ntmps296
  go_wp2
  go_ret3
  exact⟨rfl,Drawn.refl _⟩
 |cons a r=>
  by_cases h1:a.toNat<128
  ·have g1:decide ((a.toNat:Int)<128)=true:=by simp;omega
   have E:Hid (lenR (a :: r)=(a.toNat,1,true)):=lenR_small h1
   have H:=Lib.hid h1;clear h1
   have ha:=u8_le a
   go_enter Tryz.func296,Tryz.ntmps296
   go_wp2
   go_ret3
   exact⟨by rw[E.out];rfl,Drawn.refl _⟩
  ·have g1:decide ((a.toNat:Int)<128)=false:=by simp;omega
   by_cases h2:a.toNat=129
   ·have g2:((a.toNat:Int)==129)=true:=by simp;omega
    have g3:((a.toNat:Int)==130)=false:=by simp;omega
    have H1:=Lib.hid h1;clear h1
    have H2:=Lib.hid h2;clear h2
    cases r with
    |nil=>
     have E:Hid (lenR [a]=(0,0,false)):=lenR_129_nil H2.out
     go_enter Tryz.func296,Tryz.ntmps296
     go_wp2
     go_ret3
     exact⟨by rw[E.out];rfl,Drawn.refl _⟩
    |cons b q=>
     have hb:=u8_le b
     have E:Hid (lenR (a :: b :: q)=(b.toNat,2,decide (128≤b.toNat))):=lenR_129 H2.out
     have F:Hid (decide ((128:Int)≤(b.toNat:Int))=decide (128≤b.toNat)):=by show _=_;simp;omega
     go_enter Tryz.func296,Tryz.ntmps296
     go_wp2
     go_ret3
     exact⟨by rw[E.out,←F.out];rfl,Drawn.refl _⟩
   ·have g2:((a.toNat:Int)==129)=false:=by simp;omega
    by_cases h3:a.toNat=130
    ·have g3:((a.toNat:Int)==130)=true:=by simp;omega
     have H1:=Lib.hid h1;clear h1
     have H2:=Lib.hid h2;clear h2
     have H3:=Lib.hid h3;clear h3
     rcases r with _ | ⟨b,_ | ⟨c,q⟩⟩
     ·have E:Hid (lenR [a]=(0,0,false)):=lenR_130_nil H3.out
      go_enter Tryz.func296,Tryz.ntmps296
      go_wp2
      go_ret3
      exact⟨by rw[E.out];rfl,Drawn.refl _⟩
     ·have E:Hid (lenR [a,b]=(0,0,false)):=lenR_130_one H3.out
      go_enter Tryz.func296,Tryz.ntmps296
      go_wp2
      go_ret3
      exact⟨by rw[E.out];rfl,Drawn.refl _⟩
     ·have hb:=u8_le b
      have hc:=u8_le c
      have E:Hid (lenR (a :: b :: c :: q)=(b.toNat*256+c.toNat,3,decide (255<b.toNat*256+c.toNat))):=lenR_130 H3.out
      go_enter Tryz.func296,Tryz.ntmps296
      go_wp2
      go_quiet (fail)
      go_wp2
      go_ret3
      have F:(decide ((255:Int)<(b.toNat:Int)*256+(c.toNat:Int)))=decide (255<b.toNat*256+c.toNat):=by simp;omega
      have G:=or_low b.toNat c.toNat (by omega) (by omega)
      exact⟨by rw[E.out,←F,←G];simp [G],⟨_,rfl⟩⟩
    ·have g3:((a.toNat:Int)==130)=false:=by simp;omega
     have E:Hid (lenR (a :: r)=(0,0,false)):=lenR_else h1 h2 h3
     have H1:=Lib.hid h1;clear h1
     have H2:=Lib.hid h2;clear h2
     have H3:=Lib.hid h3;clear h3
     go_enter Tryz.func296,Tryz.ntmps296
     go_wp2
     go_ret3
     exact⟨by rw[E.out];rfl,Drawn.refl _⟩
set_option maxRecDepth 100000 in
set_option maxHeartbeats 400000 in
theorem good_nil (w:World):Calls Tryz.prog 276 #[.pointer none] w fun e w'=>e = .returned (.bool false)∧w=w':=by
 go_enter Tryz.func276,Tryz.ntmps276
 go_wp2
 go_ret
 exact⟨rfl,rfl⟩
theorem cur_cells {w:World} {g:Nat} {c:Option L} (h:Cur w g c):w.cell? ⟨g,0,none⟩=some (.string ⟨(c.getD []).toArray⟩)∧w.cell? ⟨g,1,none⟩=some (.bool (!c.isSome)):=by
 have h0:=h.cell 0
 have h1:=h.cell 1
 cases c<;>exact⟨h0,h1⟩
theorem cur_frozen {w:World} {g:Nat} {c:Option L} (h:Cur w g c):w.frozen? ⟨g,0,none⟩=false∧w.frozen? ⟨g,1,none⟩=false:=⟨h.frozen 0,h.frozen 1⟩
theorem good_any (g:Nat) (c:Option L) (w:World) (h:Cur w g c):Calls Tryz.prog 276 #[.pointer (some ⟨g,0,none⟩)] w fun e w'=>e = .returned (.bool c.isSome)∧w=w':=by
 obtain⟨_,h1⟩:=cur_cells h
 go_enter Tryz.func276,Tryz.ntmps276
 go_wp2
 go_ret
 exact⟨by simp,rfl⟩
theorem fail_any (g:Nat) (c:Option L) (w:World) (h:Cur w g c):Calls Tryz.prog 266 #[.pointer (some ⟨g,0,none⟩)] w fun e w'=>e = .returned (.tuple #[])∧Cur w' g none∧w.grownBy w' (some g):=by
 obtain⟨h0,h1⟩:=cur_cells h
 obtain⟨f0,f1⟩:=cur_frozen h
 go_enter Tryz.func266,Tryz.ntmps266
 go_wp2
 go_end0
 exact⟨rfl,by have:=(h.set 0 (.string ⟨#[]⟩)).set 1 (.bool true);cases c<;>exact this,by repeat (first | exact World.grownBy.refl _ _ | refine g_set ?_ (.inl rfl) _)⟩
theorem split_nil (t:UInt8) (w:World):Calls Tryz.prog 277 #[.string ⟨([]:List UInt8).toArray⟩,.int .u8 t.toNat] w fun e w'=>
  e = .returned (.tuple #[.string ⟨([]:List UInt8).toArray⟩,.string ⟨([]:List UInt8).toArray⟩,.bool false])∧Drawn w w':=by
 go_enter Tryz.func277,Tryz.ntmps277
 go_wp2
 go_ret3
 exact⟨rfl,Drawn.refl _⟩
theorem split_other (a t:UInt8) (r:L) (w:World) (hne:a≠t):Calls Tryz.prog 277 #[.string ⟨(a :: r).toArray⟩,.int .u8 t.toNat] w fun e w'=>
  e = .returned (.tuple #[.string ⟨([]:List UInt8).toArray⟩,.string ⟨([]:List UInt8).toArray⟩,.bool false])∧Drawn w w':=by
 have h1:((a.toNat:Int)==(t.toNat:Int))=false:=by simp;exact fun g=>hne (UInt8.toNat_inj.1 (by omega))
 have h2:((a.toNat:Int) != (t.toNat:Int))=true:=by simp;exact fun g=>hne (UInt8.toNat_inj.1 (by omega))
 have H:=Lib.hid hne;clear hne
 go_enter Tryz.func277,Tryz.ntmps277
 go_wp2
 go_ret3
 exact⟨rfl,Drawn.refl _⟩
theorem split_some (t:UInt8) (r:L) (w:World) (hs:(r.length:Int)≤100000) (hk:(lenR r).2.2=true) (hf:(lenR r).1+(lenR r).2.1≤r.length):Calls Tryz.prog 277 #[.string ⟨(t :: r).toArray⟩,.int .u8 t.toNat] w fun e w'=>
  e = .returned (.tuple #[.string ⟨((r.drop (lenR r).2.1).take (lenR r).1).toArray⟩,.string ⟨((r.drop (lenR r).2.1).drop (lenR r).1).toArray⟩,.bool true])∧Drawn w w':=by
 have hl:=lenR_le r
 generalize hx:lenR r=x at *
 obtain⟨n,k,ok⟩:=x
 simp only at hk hf hl⊢
 have hf1:((r.length:Int) - (k:Int)<(n:Int))=False:=by simp;omega
 have hf2:decide ((r.length:Int) - (k:Int)<(n:Int))=false:=by simp;omega
 have hf3:(k:Int)+(n:Int)≤(r.length:Int):=by omega
 have hl1:(n:Int)≤65535:=by omega
 have hl2:(k:Int)≤3:=by omega
 have hc:∀W,Calls Tryz.prog 296 #[.string ⟨r.toArray⟩] W fun e w'=>e = .returned (.tuple #[.int .i64 (n:Int),.int .i64 (k:Int),.bool true])∧Drawn W w':=by
  intro W
  have:=len_any r W
  rw[hx] at this
  subst hk
  exact this
 have HC:=Lib.hid hc;clear hc
 have HX:=Lib.hid hx;clear hx
 have HK:=Lib.hid hk;clear hk
 clear hf hl
 go_enter Tryz.func277,Tryz.ntmps277
 go_wp2_with (go_at_call 296;refine(HC.out _).mono ?_;rintro e w' ⟨rfl,q,rfl⟩)
 go_quiet (fail)
 go_wp2
 go_ret3
 exact⟨by rw[←ext_mid r k n,List.drop_drop];rfl,⟨_,World.drewN_drewN _ _ _⟩⟩
theorem split_bad (t:UInt8) (r:L) (w:World) (hk:(lenR r).2.2=false):Calls Tryz.prog 277 #[.string ⟨(t :: r).toArray⟩,.int .u8 t.toNat] w fun e w'=>
  e = .returned (.tuple #[.string ⟨([]:List UInt8).toArray⟩,.string ⟨([]:List UInt8).toArray⟩,.bool false])∧Drawn w w':=by
 have hc:∀W,Calls Tryz.prog 296 #[.string ⟨r.toArray⟩] W fun e w'=>e = .returned (.tuple #[.int .i64 ((lenR r).1:Int),.int .i64 ((lenR r).2.1:Int),.bool false])∧Drawn W w':=by
  intro W
  have:=len_any r W
  rw[hk] at this
  exact this
 have HC:=Lib.hid hc;clear hc
 have HK:=Lib.hid hk;clear hk
 go_enter Tryz.func277,Tryz.ntmps277
 go_wp2_with (go_at_call 296;refine(HC.out _).mono ?_;rintro e w' ⟨rfl,q,rfl⟩)
 go_ret3
 exact⟨rfl,⟨_,rfl⟩⟩
theorem split_short (t:UInt8) (r:L) (w:World) (hs:(r.length:Int)≤100000) (hk:(lenR r).2.2=true) (hf:¬(lenR r).1+(lenR r).2.1≤r.length):Calls Tryz.prog 277 #[.string ⟨(t :: r).toArray⟩,.int .u8 t.toNat] w fun e w'=>
  e = .returned (.tuple #[.string ⟨([]:List UInt8).toArray⟩,.string ⟨([]:List UInt8).toArray⟩,.bool false])∧Drawn w w':=by
 have hl:=lenR_le r
 have hc:∀W,Calls Tryz.prog 296 #[.string ⟨r.toArray⟩] W fun e w'=>e = .returned (.tuple #[.int .i64 ((lenR r).1:Int),.int .i64 ((lenR r).2.1:Int),.bool true])∧Drawn W w':=by
  intro W
  have:=len_any r W
  rw[hk] at this
  exact this
 have HC:=Lib.hid hc;clear hc
 have HK:=Lib.hid hk;clear hk
 generalize (lenR r).1=n at *
 generalize (lenR r).2.1=k at *
 have hf2:decide ((r.length:Int) - (k:Int)<(n:Int))=true:=by simp;omega
 have hl1:(n:Int)≤65535:=by omega
 have hl2:(k:Int)≤3:=by omega
 clear hf hl
 go_enter Tryz.func277,Tryz.ntmps277
 go_wp2_with (go_at_call 296;refine(HC.out _).mono ?_;rintro e w' ⟨rfl,q,rfl⟩)
 go_ret3
 exact⟨rfl,⟨_,rfl⟩⟩
def splitV (o:Option (L×L)):Value:=.tuple #[.string ⟨((o.map (·.1)).getD []).toArray⟩,.string ⟨((o.map (·.2)).getD []).toArray⟩,.bool o.isSome]
theorem split_any (t:UInt8) (s:L) (w:World) (hs:(s.length:Int)≤100000):Calls Tryz.prog 277 #[.string ⟨s.toArray⟩,.int .u8 t.toNat] w fun e w'=>
  e = .returned (splitV (splitL t s))∧Drawn w w':=by
 cases s with
 |nil=>exact split_nil t w
 |cons a r=>
  simp only[List.length_cons] at hs
  by_cases h1:a=t
  ·subst h1
   cases hk:(lenR r).2.2 with
   |false=>
    rw[show splitL a (a :: r)=none by simp [splitL,hk]]
    exact split_bad a r w hk
   |true=>
    by_cases hf:(lenR r).1+(lenR r).2.1≤r.length
    ·rw[show splitL a (a :: r)=some ((r.drop (lenR r).2.1).take (lenR r).1,(r.drop (lenR r).2.1).drop (lenR r).1) by rw[splitL,if_pos ⟨rfl,hk,hf⟩]]
     exact split_some a r w (by omega) hk hf
    ·rw[show splitL a (a :: r)=none by rw[splitL,if_neg (fun h=>hf h.2.2)]]
     exact split_short a r w (by omega) hk hf
  ·rw[show splitL t (a :: r)=none by rw[splitL,if_neg (fun h=>h1 h.1)]]
   exact split_other a t r w h1
theorem take_nil (t:UInt8) (w:World):Calls Tryz.prog 244 #[.pointer none,.int .u8 t.toNat] w fun e w'=>
  e = .returned (.tuple #[.string ⟨([]:List UInt8).toArray⟩,.bool false])∧w=w':=by
 go_enter Tryz.func244,Tryz.ntmps244
 go_wp2_with (go_at_call 276;refine(good_nil _).mono ?_;rintro e w' ⟨rfl,rfl⟩)
 go_ret2
 exact⟨rfl,rfl⟩
theorem take_any (t:UInt8) (g:Nat) (c:Option L) (w:World) (h:Cur w g c) (hs:((c.getD []).length:Int)≤100000):Calls Tryz.prog 244 #[.pointer (some ⟨g,0,none⟩),.int .u8 t.toNat] w fun e w'=>
  e = .returned (.tuple #[.string ⟨((bodyC t c).getD []).toArray⟩,.bool (bodyC t c).isSome])∧Cur w' g (nextC t c)∧w.grownBy w' (some g):=by
 obtain⟨h0,h1⟩:=cur_cells h
 obtain⟨f0,f1⟩:=cur_frozen h
 cases c with
 |none=>
  go_enter Tryz.func244,Tryz.ntmps244
  go_wp2_with (go_at_call 276;refine(good_any _ _ _ h).mono ?_;rintro e w' ⟨rfl,rfl⟩)
  go_ret2
  exact⟨rfl,h,World.grownBy.refl _ _⟩
 |some s=>
  have hc:∀W,Calls Tryz.prog 277 #[.string ⟨s.toArray⟩,.int .u8 t.toNat] W fun e w'=>e = .returned (splitV (splitL t s))∧Drawn W w':=fun W=>split_any t s W hs
  cases hx:splitL t s with
  |none=>
   rw[hx] at hc
   simp only[splitV,Option.map_none,Option.getD_none,Option.isSome_none] at hc
   have HC:=Lib.hid hc;clear hc
   have HX:=Lib.hid hx;clear hx
   go_enter Tryz.func244,Tryz.ntmps244
   go_wp2_with (first
    |(go_at_call 276;refine(good_any _ _ _ h).mono ?_;rintro e w' ⟨rfl,rfl⟩)
    |(go_at_call 277;refine(HC.out _).mono ?_;rintro e w' ⟨rfl,q,rfl⟩)
    |(go_at_call 266;refine(fail_any _ _ _ (h.drewN q)).mono ?_;rintro e w' ⟨rfl,hc1,hg1⟩))
   go_ret2
   obtain⟨e1,e2⟩:=body_none HX.out
   rw[e1,e2]
   exact⟨rfl,hc1,(g_drewN (World.grownBy.refl w _) q).trans hg1⟩
  |some x=>
   obtain⟨b,r⟩:=x
   rw[hx] at hc
   simp only[splitV,Option.map_some,Option.getD_some,Option.isSome_some] at hc
   have HC:=Lib.hid hc;clear hc
   have HX:=Lib.hid hx;clear hx
   go_enter Tryz.func244,Tryz.ntmps244
   go_wp2_with (first
    |(go_at_call 276;refine(good_any _ _ _ h).mono ?_;rintro e w' ⟨rfl,rfl⟩)
    |(go_at_call 277;refine(HC.out _).mono ?_;rintro e w' ⟨rfl,q,rfl⟩))
   go_ret2
   obtain⟨e1,e2⟩:=body_some HX.out
   rw[e1,e2]
   exact⟨rfl,(h.drewN q).set 0 (.string ⟨r.toArray⟩),g_set (g_drewN (World.grownBy.refl w _) q) (.inl rfl) _⟩
end Go.Proofs.YtfcjeebnkigeaaaGreat.DerC
end
