/-
  The statement of NetOwn: the walk's contract carried to the row: for every input the call answers true, and each argument reads as it did.
-/
import Derived.Lib.SlBytesConst
import Derived.Test.YtlihoeipmjbnbaaProg
import Derived.Deep.LoopGhost
import Derived.StillTailTactics
import Derived.Deep.RegionHeld3
import Derived.Laws.StructEq
import Derived.Deep.CutBlock
import Derived.Test.YtlihoeipmjbnbaaRows
import Derived.WalkKit
import Derived.ProofKit
import Derived.OpenShut
import Derived.ShutString
import Derived.ChangeOld
import Derived.Below
import Derived.Test.YtlihoeipmjbnbaaZNetOwn1
import Derived.Test.YtlihoeipmjbnbaaZNetOwn2
import Derived.Test.YtlihoeipmjbnbaaZNetOwn3
import Derived.Test.YtlihoeipmjbnbaaZNetOwn4
section
set_option linter.unusedVariables false
set_option linter.unusedSimpArgs false
namespace Go.Proofs.Ytlihoeipmjbnbaa.Nt
open Go.RowKit Go.Proofs.Ytlihoeipmjbnbaa.Mem Go.Proofs.Ytlihoeipmjbnbaa.Se
open Go.Proofs.Ytlihoeipmjbnbaa.Nm (L)
open Go.Proofs.Ytlihoeipmjbnbaa.Ca (Own1 rd_chg row_blk row_mk)
open Go.Proofs.Ytlihoeipmjbnbaa.Rg (flat_at flat_one RdR own_rdr own_chg)
structure Sp (w w':World) (B r:Nat) (vs vw vs' vw':Value) (es es':List En) (ws':List Nat):Prop where
 nt:Nt w' B r vs' vw' es' ws'
 chg:Chg (NO r vs vw es) w w'
 new:∀q,NO r vs' vw' es' q→NO r vs vw es q∨w.heap.size≤q
section
variable {w w' w2:World} {B r:Nat} {vs vw vs' vw' vs2 vw2:Value} {es es' es2:List En} {ws ws' ws2:List Nat}
theorem Sp.low (h:Sp w w' B r vs vw vs' vw' es es' ws') (hn:Nt w B r vs vw es ws):Below B w w':=h.chg.below hn.big (fun k _ hk=>hn.own_lo hk)
theorem Sp.not (h:Sp w w' B r vs vw vs' vw' es es' ws') {k:Nat} (hk:¬NO r vs vw es k) (hl:k<w.heap.size):¬NO r vs' vw' es' k:=fun x=>by
 rcases h.new k x with y | y
 ·exact hk y
 ·omega
theorem Sp.of_below (hn:Nt w B r vs vw es ws) (hb:Below w.heap.size w w'):Sp w w' B r vs vw vs vw es es ws:=⟨hn.below hb,Chg.of_below hb,fun q hq=>.inl hq⟩
theorem Sp.after (hb:Below w.heap.size w w2) (h:Sp w2 w' B r vs vw vs' vw' es es' ws'):Sp w w' B r vs vw vs' vw' es es' ws':=
 ⟨h.nt,(Chg.of_below hb).trans h.chg (fun _ _ x=>x),fun q hq=>(h.new q hq).imp id (fun y=>Nat.le_trans hb.size y)⟩
end
def SentP (w:World) (B r:Nat) (vs vw:Value) (es:List En) (ws:List Nat) (p:Pk) (e:Ending) (w':World):Prop:=
 e = .returned (.bool true)∧∃vs' vw' A' c',Sp w w' B r vs vw vs' vw' es (es++[⟨p,A',c'⟩]) (ws++[es.length])
section
variable {w:World} {B r:Nat} {vs vw:Value} {es:List En} {ws:List Nat}
theorem send_b (h:Nt w B r vs vw es ws) (p:Pk) (A:Option Addr) (c:Nat) (hr:Rd w w.heap.size A (bvs p.b)) (hn:bvs p.b≠[]→∀a,A=some a→¬NO r vs vw es a.block) (h1:ws.length<32) (h2:1≤p.b.length) (h3:p.b.length≤2000) (h4:es.length≤50000) :
  Calls Try.prog 10 #[.pointer (some ⟨r,0,none⟩),.agg (pkA p A c)] w (SentP w B r vs vw es ws p):=by
 refine(send_ok B r vs vw es ws p A c w h (rd_nt hr (fun hx a ha x=>hn hx a ha (nt_no x))) h1 h2 h3 h4).mono ?_
 rintro e w' ⟨rfl,vs',vw',A',c',k1,k2,k3⟩
 exact⟨rfl,vs',vw',A',c',⟨k1,k2.mono (fun q _ x=>nt_no x),k3⟩⟩
theorem send_lit (h:Nt w B r vs vw es ws) (f t:Int) (b:UInt8) (m:Nat×Nat) (h1:ws.length<32) (h4:es.length≤50000) :
  Calls Try.prog 10 #[.pointer (some ⟨r,0,none⟩),.agg #[.int .i64 f,.int .i64 t,.slice (some ⟨w.heap.size,0,none⟩) 1 1]] (w.alloc (.cells #[bv b] 5 m)) (SentP w B r vs vw es ws ⟨f,t,[b]⟩):=by
 have hb:Below w.heap.size w (w.alloc (.cells #[bv b] 5 m)):=(Below.refl _ _).alloc (Nat.le_refl _) _
 have hnew:=heap_alloc_new w (.cells #[bv b] 5 m)
 have hbk:=fun i=>cell_of_row (w.alloc (.cells #[bv b] 5 m)) w.heap.size i #[bv b] 5 m hnew
 refine(send_b (h.below hb) ⟨f,t,[b]⟩ (some ⟨w.heap.size,0,none⟩) 1 (.inr ⟨w.heap.size,0,rfl,by simp,fun i u hu=>?_⟩) (fun _ a ha x=>?_) h1 (by simp) (by simp) h4).mono ?_
 ·rw[Nat.zero_add,hbk i]
  simpa [bvs] using hu
 ·injection ha with ha
  subst ha
  exact h.not (Nat.le_refl _) x
 ·rintro e w' ⟨rfl,vs',vw',A',c',k⟩
  exact⟨rfl,vs',vw',A',c',k.after hb⟩
theorem twice_b (h:Nt w B r vs vw es ws) (i k:Nat) (hi:ws[i]? = some k) (h1:ws.length<32) :
  Calls Try.prog 15 #[.pointer (some ⟨r,0,none⟩),.int .i64 (i:Int)] w fun e w'=>e = .returned (.bool true)∧∃vw',Sp w w' B r vs vw vs vw' es es (ws++[k]):=by
 refine(twice_ok B r vs vw es ws i k w h hi h1).mono ?_
 rintro e w' ⟨rfl,vw',k1,k2,k3⟩
 exact⟨rfl,vw',⟨k1,k2.mono (fun q _ x=>nt_no x),k3⟩⟩
theorem pull_b (h:Nt w B r vs vw es ws) (i k:Nat) (x:En) (hi:ws[i]? = some k) (hx:es[k]? = some x) (hl:x.p.b.length≤100000000000) (hn:ws.length≤1000) :
  Calls Try.prog 12 #[.pointer (some ⟨r,0,none⟩),.int .i64 (i:Int)] w fun e w'=>∃A' c' vw',e = .returned (.tuple #[.agg (pkA x.p A' c'),.bool true])∧Own1 w w' A' (bvs x.p.b)∧Sp w w' B r vs vw vs vw' es es (ws.eraseIdx i):=by
 refine(pull_ok B r vs vw es ws i k x w h hi hx hl hn).mono ?_
 rintro e w' ⟨A',c',vw',rfl,k0,k1,k2,k3⟩
 refine⟨A',c',vw',rfl,k0,⟨k1,k2.mono (fun q _ x=>nt_no x),fun q hq=>.inl ?_⟩⟩
 rcases hq with hq | hq | hq | hq
 ·exact .inl hq
 ·exact .inr (.inl hq)
 ·exact .inr (.inr (.inl (k3▸hq)))
 ·exact .inr (.inr (.inr hq))
end
set_option maxHeartbeats 1600000 in
set_option maxRecDepth 100000 in
theorem known_any (w:World):Calls Try.prog 21 #[] w fun e w'=>e = .returned (.bool true)∧Below w.heap.size w w':=by
 have C0:=Lib.hid (nt_new w.heap.size w (Nat.le_refl _))
 have HL:=Lib.hid (fun(r:Nat) (w1:World) (vs vw:Value) (h:Nt w1 w.heap.size r vs vw [] [])=>send_lit h 0 1 120 (1,2) (by simp) (by simp))
 have HT:=Lib.hid (fun(r:Nat) (w1:World) (vs vw:Value) (x:En) (h:Nt w1 w.heap.size r vs vw [x] [0])=>twice_b h 0 0 rfl (by simp))
 have HS:=Lib.hid (fun(r:Nat) (w1:World) (vs vw:Value) (x:En) (h:Nt w1 w.heap.size r vs vw [x] [0,0])=>send_no w.heap.size r vs vw [x] [0,0] ⟨0,1,[]⟩ none 0 w1 h (by simp))
 have HE:=Lib.hid (fun(r:Nat) (w1:World) (vs vw:Value) (x:En) (h:Nt w1 w.heap.size r vs vw [x] [0,0])=>nt_len w.heap.size r vs vw [x] [0,0] w1 h)
 have HV:=Lib.hid (fun(r:Nat) (w1:World) (vs vw:Value) (x:En) (h:Nt w1 w.heap.size r vs vw [x] [0,0]) (hx:x.p.b.length≤2000)=>seen_any w.heap.size r vs vw [x] [0,0] w1 h (fun e he=>by rw[List.mem_singleton] at he;subst he;exact hx) (by simp))
 have kc:=fun(w:World) (C:Array Value) (n c:Nat)=>Lib.run_convert_bytes_const (P:=Try.prog) w 30 5 C n c Try.underlying30 Try.underlying5
 go_enter Try.func21,Try.ntmps21
 go_wp2_with (first
  |(go_at_call 9;refine Calls.mono C0.out ?_;rintro e w1 ⟨rfl,hn,hb,hsz⟩;clear C0;have HN1:=Lib.hid hn;have HB1:=Lib.hid hb;clear hn hb hsz)
  |(go_at_call 10;refine Calls.mono (HL.out _ _ _ _ HN1.out) ?_;rintro e w2 ⟨rfl,vs2,vw2,A2,c2,hs⟩;clear HL;have HN2:=Lib.hid hs.nt;have HB2:=Lib.hid (HB1.out.trans (hs.low HN1.out));clear hs HN1 HB1)
  |(go_at_call 15;refine Calls.mono (HT.out _ _ _ _ _ HN2.out) ?_;rintro e w3 ⟨rfl,vw3,hs⟩;clear HT;have HN3:=Lib.hid hs.nt;have HB3:=Lib.hid (HB2.out.trans (hs.low HN2.out));clear hs HN2 HB2)
  |(go_at_call 10;refine Calls.mono (HS.out _ _ _ _ _ HN3.out) ?_;rintro e w4 ⟨rfl,hb⟩;clear HS;have HN4:=Lib.hid (HN3.out.below hb);have HB4:=Lib.hid (HB3.out.trans (hb.mono HB3.out.size));clear hb HN3 HB3)
  |(go_at_call 19;refine Calls.mono (HE.out _ _ _ _ _ HN4.out) ?_;rintro e w5 ⟨rfl,hw⟩;have hw:=hw.symm;subst hw;clear HE)
  |(go_at_call 20;refine Calls.mono (HV.out _ _ _ _ _ HN4.out (by simp)) ?_;rintro e w6 ⟨v6,fs6,rfl,hls,hfs,hb⟩;clear HV;obtain⟨A6,c6,e6,_⟩:=own_rdr enC_length hls.row;have h1:fs6.length=1:=(by have:=congrArg List.length hfs;rw[pks_length] at this;exact this);rw[h1] at e6;subst e6;have HB6:=Lib.hid (HB4.out.trans (hb.mono HB4.out.size));clear hb hls hfs h1)
  |fail)
 go_ret
 exact⟨rfl,HB6.out⟩
end Go.Proofs.Ytlihoeipmjbnbaa.Nt
end

section
set_option linter.unusedVariables false
set_option linter.unusedSimpArgs false
namespace Go.Proofs.Ytlihoeipmjbnbaa.Nt
open Go.RowKit Go.Proofs.Ytlihoeipmjbnbaa.Mem Go.Proofs.Ytlihoeipmjbnbaa.Se
open Go.Proofs.Ytlihoeipmjbnbaa.Nm (L)
open Go.Proofs.Ytlihoeipmjbnbaa.Ca (Own1 rd_chg row_blk row_mk)
open Go.Proofs.Ytlihoeipmjbnbaa.Rg (flat_at flat_one RdR own_rdr own_chg)
theorem own1_head {a w:World} {A:Option Addr} {l r:L} {b0:UInt8} (h:Own1 a w A (bvs l)) (e:l=b0 :: r):∃g o,A=some ⟨g,o,none⟩∧w.cell? ⟨g,o,none⟩=some (.int .u8 (b0.toNat:Int))∧w.frozen? ⟨g,o,none⟩=false∧a.heap.size≤g∧g<w.heap.size:=by
 subst e
 rcases h.rd with h0 | ⟨b,o,h1,h2,h3⟩
 ·cases h0
 ·refine⟨b,o,h1,?_,?_,(h.lo _ h1).1,h2⟩
  ·have:=h3 0 (bv b0) rfl
   rwa [Nat.add_zero] at this
  ·obtain⟨t,cur,hb⟩:=h.bk _ h1
   exact hb.frozen o
theorem one_pk {fs:List En} {x:En} (h:pks fs=pks [x]):∃f,fs = [f]∧f.p=x.p:=by
 unfold pks at h
 cases fs with
 |nil=>cases h
 |cons f t=>
  cases t with
  |nil=>exact⟨f,rfl,by simpa using h⟩
  |cons g t=>simp at h
theorem set_chg (w:World) (g o:Nat) (u:Value):Chg (fun q=>q=g) w (w.setCell ⟨g,o,none⟩ u):=Chg.set (p:=⟨g,o,none⟩) (Chg.refl (fun q=>q=g) w) (.inl rfl) u
set_option maxRecDepth 100000 in
theorem own_no (A:Option Addr) (l c:Nat) (w:World) (h:¬(1≤l∧l≤500)):Calls Try.prog 6 #[.slice A l c] w fun e w'=>e = .returned (.bool true)∧Below w.heap.size w w':=by
 by_cases h1:(l:Int)<1
 ·have t1:decide ((l:Int)<1)=true:=decide_eq_true h1
  clear h
  go_enter Try.func6,Try.ntmps6
  go_wp2
  go_ret
  exact⟨rfl,Below.refl _ _⟩
 ·have t1:decide ((l:Int)<1)=false:=decide_eq_false h1
  have t2:decide ((500:Int)<(l:Int))=true:=decide_eq_true (by omega)
  clear h
  go_enter Try.func6,Try.ntmps6
  go_wp2
  go_ret
  exact⟨rfl,Below.refl _ _⟩
set_option maxRecDepth 100000 in
set_option maxHeartbeats 6400000 in
theorem own_in (A:Option Addr) (l:L) (c:Nat) (w:World) (h1:1≤l.length) (h2:l.length≤500) (hr:Rd w w.heap.size A (bvs l)) :
  Calls Try.prog 6 #[.slice A l.length c] w fun e w'=>e = .returned (.bool true)∧Below w.heap.size w w':=by
 obtain⟨b0,r,el⟩:∃b0 r,l=b0 :: r:=by
  cases l with
  |nil=>simp at h1
  |cons a r=>exact⟨a,r,rfl⟩
 have EL:=Lib.hid el
 obtain⟨B,eB⟩:∃B,B=w.heap.size:=⟨_,rfl⟩
 have c1:=nt_new B w (Nat.le_of_eq eB)
 rw[←eB] at c1 hr
 obtain⟨n,en⟩:∃n,n=l.length:=⟨_,rfl⟩
 have EN:=Lib.hid en
 rw[←en] at h1 h2⊢
 have HR:=Lib.hid hr
 have H2:=Lib.hid h2
 have CK:=Lib.hid (fun w1=>known_any w1)
 have EB:=Lib.hid eB
 have HB:=Lib.hid (show Below B w w from eB▸Below.refl _ _)
 obtain⟨i0,hi0,hz0,hs0,hb0⟩:=info_parts Nm.u8_row
 have KI1:=Lib.hid hi0;have KI2:=Lib.hid hz0;have KI3:=Lib.hid hs0;have KI4:=Lib.hid hb0
 have CV:=Lib.hid (fun(w1:World) (A1:Option Addr) (c1:Nat) (hr:Rd w1 w1.heap.size A1 (bvs l))=>run_bytes_str (P:=Try.prog) w1 30 5 Try.underlying30 Try.underlying5 hr n c1 en 9 Try.underlying9)
 have CS:=Lib.hid (fun(w1:World) (vs vw:Value) (A1:Option Addr) (c1:Nat) (h:Nt w1 B B vs vw [] []) (hr:Rd w1 w1.heap.size A1 (bvs l)) (hn:∀a,A1=some a→¬NO B vs vw [] a.block)=>(show Calls Try.prog 10 #[.pointer (some ⟨B,0,none⟩),.agg #[.int .i64 0,.int .i64 0,.slice A1 n c1]] w1 (SentP w1 B B vs vw [] [] ⟨0,0,l⟩) by
  have h:=send_b h ⟨0,0,l⟩ A1 c1 hr (fun _ a ha=>hn a ha) (by simp) (by rw[←en];exact h1) (by rw[←en];omega) (by simp)
  unfold pkA at h
  simp only at h
  rw[←en] at h
  exact h))
 have t1:decide ((n:Int)<1)=false:=by simp;omega
 have t2:decide ((500:Int)<(n:Int))=false:=by simp;omega
 have t3:((n:Int)==0)=false:=by simp;omega
 have t4:(0:Int)<(n:Int):=by omega
 clear el eB en hr h1 h2 hi0 hz0 hs0 hb0
 go_enter Try.func6,Try.ntmps6
 go_upto_region 9 with(first
  |(go_at_call 9;refine Calls.mono c1 ?_;rintro e1 w1 ⟨rfl,hn,hb,hsz⟩;clear c1;have HN:=Lib.hid hn;have HB1:=Lib.hid (show w.heap.size≤w1.heap.size from hb.size);replace HB:=Lib.hid hb;have hcv:=CV.out w1 A c ((HR.out.below hb).more hn.big);have hb2:Below w1.heap.size w1 (w1.alloc (.cells #[] 5)):=(Below.refl _ _).alloc (Nat.le_refl _) _;have HO:=Lib.hid (World.ownsRow_made (base:=w1.heap.size) w1 (e:=5) (size:=1) #[] 0 (Nat.le_refl _) (by decide) rfl);have HB2:=Lib.hid hb2;have HR2:=Lib.hid (((HR.out.below hb).more hn.big).below hb2);clear hb hn hsz hb2)
  |(refine wpList_append_rd _ rfl (.tmp 27) (.tmp 28) 30 rfl w1.heap.size 5 i0 _ 1 Try.underlying30 KI1.out KI2.out KI3.out KI4.out rfl _ 0 [] rfl HO.out w1.heap.size _ n c (bvs l) rfl (by rw[bvs_length];exact EN.out) HR2.out (bvs_one _) (by have:=H2.out;unfold maxLen;omega) (by have:=H2.out;omega) HB2.out.size ?_;intro v5 w2 ho hg hv;rw[Nat.zero_add,List.nil_append] at ho;obtain⟨A5,c5,rfl,ho5,_⟩:=Own1.of_own ho;have hb3:=below_g HB2.out hg HB2.out.size (Nat.le_refl _);have HO5:=Lib.hid ho5;have HNO5:=Lib.hid (show ∀a,A5=some a→¬NO B (.slice none 0 0) (.slice none 0 0) [] a.block from fun a ha=>HN.out.not (ho5.lo a ha).1);replace HN:=Lib.hid (HN.out.below hb3);replace HB:=Lib.hid (HB.out.trans (hb3.mono (show B≤w1.heap.size from HB.out.size |> fun h=>Nat.le_trans (Nat.le_of_eq EB.out) h)));clear ho hg hv ho5 hcv hb3 HO HB2 HR2)
  |(go_at_call 10;refine Calls.mono (CS.out _ _ _ A5 c5 HN.out HO5.out.rd HNO5.out) ?_;rintro e w3 ⟨rfl,vs3,vw3,A3,d3,hs⟩;clear CS;have HN3:=Lib.hid hs.nt;have HB3:=Lib.hid (HB.out.trans (hs.low HN.out));have HO3:=Lib.hid (HO5.out.chg hs.chg (fun p hp x=>HNO5.out p hp x));have HNO3:=Lib.hid (show ∀a,A5=some a→¬NO B vs3 vw3 _ a.block from fun a ha=>hs.not (HNO5.out a ha) (HO5.out.lo a ha).2);clear hs HN HB HO5 HNO5)
  |fail)
 obtain⟨x,ex⟩:∃x:En,x=⟨⟨0,0,l⟩,A3,d3⟩:=⟨_,rfl⟩
 have hn3:Nt w3 B B vs3 vw3 [x] [0]:=by rw[ex];exact HN3.out
 obtain⟨g5,o5,rfl,k5,f5,hl5,_⟩:=own1_head HO3.out EL.out
 have LO5:B≤g5:=Nat.le_trans (Nat.le_of_eq EB.out) (Nat.le_trans HB1.out hl5)
 have HNO4:=Lib.hid (show ¬NO B vs3 vw3 [x] g5 by rw[ex];exact HNO3.out _ rfl)
 have HXP:=Lib.hid (show x.p=⟨0,0,l⟩ by rw[ex])
 replace HN3:=Lib.hid hn3
 clear hn3 ex HNO3 HO3
 go_upto_region 10 with fail
 obtain⟨W4,eW4⟩:∃W4,W4=w3.setCell ⟨g5,o5,none⟩ (.int .u8 (bits .xor .u8 (b0.toNat:Int) 1)):=⟨_,rfl⟩
 have hc4:Chg (fun q=>q=g5) w3 W4:=eW4▸set_chg w3 g5 o5 _
 have HN4:=Lib.hid (HN3.out.chg hc4 (fun k hk e=>HNO4.out (e▸hk)))
 have HB4:=Lib.hid (show Below B w W4 from HB3.out.trans (hc4.below HN3.out.big (fun q _ hq=>hq▸LO5)))
 have CA:=Lib.hid (at_ok B B vs3 vw3 [x] [0] 0 0 x W4 HN4.out rfl rfl (by rw[HXP.out];have:=H2.out;rw[EN.out] at this;simp only;omega))
 have N46:=Lib.hid (fun(q:Nat) (hq:W4.heap.size≤q)=>HN4.out.not hq)
 have LB4:=Lib.hid HN4.out.big
 rw[←eW4]
 clear eW4 hc4 k5 f5 HN3 HB3
 go_upto_region 13 with(first
  |(go_at_call 17;refine Calls.mono CA.out ?_;rintro e w5 ⟨A6,d6,rfl,ho,hb⟩;clear CA;have HN5:=Lib.hid (HN4.out.below hb);have HB5:=Lib.hid (HB4.out.trans (hb.mono HN4.out.big));rw[HXP.out] at ho;obtain⟨g6,o6,eg6,_,_,hl6,hu6⟩:=own1_head ho EL.out;have HL6:=Lib.hid hl6;have HU6:=Lib.hid hu6;have HS5:=Lib.hid hb.size;have HO6:=Lib.hid ho;obtain⟨xs,exs⟩:∃xs,xs=pkA x.p A6 d6:=⟨_,rfl⟩;rw[←exs];have HXS:=Lib.hid (show xs.size=3 by rw[exs,pkA_size]);have HXI:=Lib.hid (show(Try.prog.info? 32).map (·.size)=some xs.size by rw[exs];exact pk_info);have HX1:=Lib.hid (show xs.all (·.oneCell')=true by rw[exs];exact pkA_one _ _ _);have HXC:=Lib.hid (show xs[2]? = some (.slice (some ⟨g6,o6,none⟩) n d6) by rw[exs,HXP.out,EN.out,eg6];rfl);have EXS:=Lib.hid (show xs=pkA ⟨0,0,l⟩ (some ⟨g6,o6,none⟩) d6 by rw[exs,HXP.out,eg6]);subst eg6;clear ho hb exs HN4 HB4 hl6 hu6)
  |(refine Wh.store_new (by rfl) 32 (.tmp 6) (.tmp 42) (by rfl) 32 rfl xs (by rfl) (by rfl) (by rw[HXS.out];rfl) HXI.out HX1.out ?_;rintro V hV hb;have HP6:=Lib.hid hV;have k62:V.cell? ⟨w5.heap.size,2,none⟩=some (.slice (some ⟨g6,o6,none⟩) n d6):=(hV.cell 2).trans HXC.out;have HNP6:=Lib.hid (HN5.out.not (Nat.le_refl w5.heap.size));have HN6:=Lib.hid (HN5.out.below hb);have HB6:=Lib.hid (HB5.out.trans (hb.mono HN5.out.big));replace HO6:=Lib.hid (HO6.out.below hb);have hcv:=CV.out V _ d6 HO6.out.rd;clear hV hb HN5 HB5)
  |fail)
 obtain⟨_,_,eg6,k6,f6,_,_⟩:=own1_head HO6.out EL.out
 injection eg6 with eg6
 injection eg6 with eg6 eo6
 subst eg6 eo6
 obtain⟨P6,eP6⟩:∃P6,P6=w5.heap.size:=⟨_,rfl⟩
 rw[←eP6] at HP6 HNP6 HU6 k62⊢
 clear eP6
 go_upto_region 14 with fail
 obtain⟨W6,eW6⟩:∃W6,W6=V.setCell ⟨g6,o6,none⟩ (.int .u8 (bits .xor .u8 (b0.toNat:Int) 1)):=⟨_,rfl⟩
 have hc6:Chg (fun q=>q=g6) V W6:=eW6▸set_chg V g6 o6 _
 have HG6:=Lib.hid (show ¬NO B vs3 vw3 [x] g6 from N46.out g6 HL6.out)
 have HN7:=Lib.hid (HN6.out.chg hc6 (fun k hk e=>HG6.out (e▸hk)))
 have HB7:=Lib.hid (show Below B w W6 from HB6.out.trans (hc6.below HN6.out.big (fun q _ hq=>hq▸Nat.le_trans LB4.out HL6.out)))
 have HP7:=Lib.hid (hc6.blk HP6.out (fun e=>by have:=HU6.out;omega))
 have CSE:=Lib.hid (seen_any B B vs3 vw3 [x] [0] W6 HN7.out (fun e he=>by rw[List.mem_singleton] at he;subst he;rw[HXP.out];have:=H2.out;rw[EN.out] at this;simp only;omega) (by simp))
 rw[←eW6]
 clear eW6 hc6 k6 f6 hcv HN6 HB6 HP6 k62
 go_upto_region 17 with(first
  |(go_at_call 20;refine Calls.mono CSE.out ?_;rintro e w8 ⟨v8,fs8,rfl,hls,hfs,hb⟩;clear CSE;obtain⟨f8,ef8,hf8⟩:=one_pk hfs;subst ef8;obtain⟨A8,c8,e8,_,_,hr8⟩:=own_rdr enC_length hls.row;obtain⟨gs,eA8,hgs,hra8⟩:=hr8.at_ (i:=0) rfl;subst eA8;have e8:=e8;subst e8;have ho8:=hls.rd f8 (List.mem_singleton.2 rfl);rw[hf8,HXP.out] at ho8;obtain⟨g8,o8,eg8,k8,f8z,hl8,hu8⟩:=own1_head ho8 EL.out;have k82:w8.cell? ⟨gs,2,none⟩=some (.slice (some ⟨g8,o8,none⟩) n f8.c):=(by have:=hra8 2 (.slice f8.A f8.p.b.length f8.c) rfl;rw[eg8,hf8,HXP.out,←EN.out] at this;exact this);rw[eg8] at ho8;have hcv:=CV.out w8 _ f8.c ho8.rd;have HN8:=Lib.hid (HN7.out.below hb);have HB8:=Lib.hid (HB7.out.trans (hb.mono HN7.out.big));have HP8:=Lib.hid (HP7.out.below hb);have HL8:=Lib.hid (show P6<g8 from Nat.lt_of_lt_of_le HP7.out.lt hl8);have HG8:=Lib.hid (show ¬NO B vs3 vw3 [x] g8 from HN7.out.not hl8);have LB8:=Lib.hid (show B≤g8 from Nat.le_trans HN7.out.big hl8);clear hls hfs hb hf8 hr8 hgs hra8 ho8 eg8 hl8 hu8 HN7 HB7 HP7)
  |fail)
 go_upto_region 18 with fail
 obtain⟨W8,eW8⟩:∃W8,W8=w8.setCell ⟨g8,o8,none⟩ (.int .u8 (bits .xor .u8 (b0.toNat:Int) 1)):=⟨_,rfl⟩
 have hc8:Chg (fun q=>q=g8) w8 W8:=eW8▸set_chg w8 g8 o8 _
 have HN9:=Lib.hid (HN8.out.chg hc8 (fun k hk e=>HG8.out (e▸hk)))
 have HB9:=Lib.hid (show Below B w W8 from HB8.out.trans (hc8.below HN8.out.big (fun q _ hq=>hq▸LB8.out)))
 have HP9:=Lib.hid (hc8.blk HP8.out (fun e=>by have:=HL8.out;omega))
 have CPU:=Lib.hid (pull_b HN9.out 0 0 x rfl rfl (by rw[HXP.out];have:=H2.out;rw[EN.out] at this;simp only;omega) (by simp))
 have CPN:=Lib.hid (fun w1=>pull_nil 0 w1)
 have CSN:=Lib.hid (fun w1=>send_nil ⟨0,0,l⟩ (some ⟨g6,o6,none⟩) d6 w1)
 rw[←EXS.out] at CSN
 have CTN:=Lib.hid (fun w1=>twice_nil 0 w1)
 have CLN:=Lib.hid (fun w1=>len_nil w1)
 have CEN:=Lib.hid (fun w1=>seen_nil w1)
 obtain⟨zs,ezs⟩:∃zs,zs=pkA pk0 none 0:=⟨_,rfl⟩
 have HZS:=Lib.hid (show zs.size=3 by rw[ezs,pkA_size])
 have HZI:=Lib.hid (show(Try.prog.info? 32).map (·.size)=some zs.size by rw[ezs];exact pk_info)
 have HZ1:=Lib.hid (show zs.all (·.oneCell')=true by rw[ezs];exact pkA_one _ _ _)
 rw[←ezs] at CPN
 rw[←eW8]
 clear eW8 hc8 k8 f8z hcv HN8 HB8 HP8 k82 ezs
 go_wp2_with (first
  |(go_at_call 12;refine Calls.mono CPU.out ?_;rintro e w9 ⟨A9,d9,vw9,rfl,ho,hs⟩;clear CPU;rw[HXP.out] at ho;have hp9:=hs.chg.blk HP9.out HNP6.out;have HB10:=Lib.hid (HB9.out.trans (hs.low HN9.out));have HN10:=Lib.hid hs.nt;have HO9:=Lib.hid ho;have HP10:=Lib.hid hp9;obtain⟨ys,eys⟩:∃ys,ys=pkA x.p A9 d9:=⟨_,rfl⟩;rw[←eys];have HYS:=Lib.hid (show ys.size=3 by rw[eys,pkA_size]);have HYI:=Lib.hid (show(Try.prog.info? 32).map (·.size)=some ys.size by rw[eys];exact pk_info);have HY1:=Lib.hid (show ys.all (·.oneCell')=true by rw[eys];exact pkA_one _ _ _);have HYC:=Lib.hid (show ys[2]? = some (.slice A9 n d9) by rw[eys,HXP.out,EN.out];rfl);clear ho hs hp9 eys HN9 HB9 HP9)
  |(refine Wh.store_new (by rfl) 32 (.tmp 9) (.tmp 98) (by rfl) 32 rfl ys (by rfl) (by rfl) (by rw[HYS.out];rfl) HYI.out HY1.out ?_;rintro V2 hV hb;have HQ:=Lib.hid hV;have HP11:=Lib.hid (HP10.out.below hb);have HN11:=Lib.hid (HN10.out.below hb);have HB11:=Lib.hid (HB10.out.trans (hb.mono HN10.out.big));have HO11:=Lib.hid (HO9.out.below hb);clear hV hb HN10 HB10 HP10 HO9)
  |(go_at_call 12;refine Calls.mono (CPN.out _) ?_;rintro e w12 ⟨rfl,hb⟩;clear CPN;have HP12:=Lib.hid (HP11.out.below hb);have HN12:=Lib.hid (HN11.out.below hb);have HB12:=Lib.hid (HB11.out.trans (hb.mono HN11.out.big));have HO12:=Lib.hid (HO11.out.below hb);have HQ12:=Lib.hid (HQ.out.below hb);clear hb HN11 HB11 HP11 HO11 HQ)
  |(refine Wh.store_new (by rfl) 32 (.tmp 12) (.tmp 103) (by rfl) 32 rfl zs (by rfl) (by rfl) (by rw[HZS.out];rfl) HZI.out HZ1.out ?_;rintro V3 hV hb;have HP13:=Lib.hid (HP12.out.below hb);have HN13:=Lib.hid (HN12.out.below hb);have HB13:=Lib.hid (HB12.out.trans (hb.mono HN12.out.big));have k92:=((HQ12.out.below hb).cell 2).trans HYC.out;have hcv:=CV.out V3 A9 d9 (HO12.out.below hb).rd;clear hV hb HN12 HB12 HP12 HO12 HQ12)
  |(refine Wh.load_g (by rfl) 32 (.tmp 6) (by rfl) P6 0 (by rfl) xs _ (Wh.range_blk HP13.out) Try.underlying32 (by rfl) HXI.out ?_)
  |(go_at_call 10;refine Calls.mono (CSN.out _) ?_;rintro e w14 ⟨rfl,hb⟩;clear CSN k92 hcv;have HB14:=Lib.hid (HB13.out.trans (hb.mono HN13.out.big));have HZ14:=Lib.hid (Nat.le_trans HN13.out.big hb.size);clear hb HB13 HN13 HP13)
  |(go_at_call 15;refine Calls.mono (CTN.out _) ?_;rintro e w15 ⟨rfl,hw⟩;have hw:=hw.symm;subst hw;clear CTN)
  |(go_at_call 19;refine Calls.mono (CLN.out _) ?_;rintro e w15 ⟨rfl,hw⟩;have hw:=hw.symm;subst hw;clear CLN)
  |(go_at_call 20;refine Calls.mono (CEN.out _) ?_;rintro e w15 ⟨rfl,hw⟩;have hw:=hw.symm;subst hw;clear CEN)
  |(go_at_call 21;refine Calls.mono (CK.out _) ?_;rintro e w16 ⟨rfl,hb⟩;have HB16:=Lib.hid (HB14.out.trans (hb.mono HZ14.out));clear hb)
  |fail)
 go_ret
 exact⟨rfl,by have h:=HB16.out;rw[EB.out] at h;exact h⟩
theorem own_law (A:Option Addr) (l:L) (c:Nat) (w:World) (hr:Rd w w.heap.size A (bvs l)) :
  Calls Try.prog 6 #[.slice A l.length c] w fun e w'=>e = .returned (.bool true)∧Below w.heap.size w w':=by
 by_cases h:1≤l.length∧l.length≤500
 ·exact own_in A l c w h.1 h.2 hr
 ·exact own_no A l.length c w h
end Go.Proofs.Ytlihoeipmjbnbaa.Nt
end

section
namespace Go.Proofs.Ytlihoeipmjbnbaa.netOwn
open Go.ChangeShapes Go.WideShapes Go.ChangeAt Go.RowKit
open Go.ChangeMaps (open_string shut_string)
theorem own:ownKnob Try.prog.godebug=none:=by kernel_rfl
theorem laidOut:laidOutB Try.prog=true:=by kernel_rfl
set_option maxRecDepth 100000 in
theorem lifted (os:Os) (started:os.Started) (H:Type) (enc:TypeId×Value→H) :
  ReturnsInHanded {} Try.checked os 6 .any (Rows.netOwnSpec.pre6 enc Try.prog Try.f6 Rows.netOwnRow.domain false) (Rows.netOwnSpec.post enc Try.prog Try.f6 false true false false):=by
 refine returnsInHanded_of_change (C:=Try.checked) own started (by kernel_rfl) Try.func6
  (ChangeSpec.witness6 (enc:=enc) (C:=Try.checked) false ⟨#[],#[.slice none 0 0],[]⟩ 8 (by kernel_rfl) (by kernel_rfl) (by kernel_rfl) (by kernel_rfl)) ?_
 intro W base args ds gs before hval0 hW hcnd _
 have hval:∀(j:Nat) t v,Try.f6.params[j]? = some t→args[j]? = some v→Value.okWide Try.prog W .any base t v:=hval0
 have hW':=hW
 obtain⟨p,q,hA0,hV,rfl,hfz,hnd⟩:=hW
 have hA:DataW.TrodAll enc Try.prog W 0 (fun _=>true) true Try.f6.params.toList args.toList ds p:=hA0
 rw[Try.params6] at hA hval
 obtain⟨v0,vs0,d0,ds0,p0,q0,hargs,rfl,rfl,h0,r0⟩:=trodAll_cons hA
 obtain⟨rfl,rfl,rfl⟩:=trodAll_nil r0
 obtain rfl:args=#[v0]:=by cases args;simp_all
 obtain⟨rfl,rfl⟩:=trodVars_none hV
 have k0:=h0
 have lt0:∀x∈p0,x.block<W.heap.size:=by obtain⟨m,hm⟩:=k0;exact DataW.trod_lt m _ _ _ hm
 obtain⟨A0,l0,c0,rfl,w0,x0,y0⟩:=Open.open_bytes Try.underlying30 Try.underlying5 (by kernel_rfl) (okWide_slice Try.underlying30 (hval 0 30 v0 rfl rfl)) h0
 clear hA0 hval0
 refine(Nt.own_law A0 l0 c0 W w0).mono fun e W' ⟨he,bel⟩=>?_
 subst he
 exact⟨_,rfl,_,_,_,[],_,[],hW',trodAll_mk1 (shut_bool Try.underlying4 _),(trodAll_cons_mk (Below.trod laidOut (by kernel_rfl) (of_decide_eq_true (by kernel_rfl)) k0 bel lt0) trodAll_mk0),rfl,bel.frame _,fun h=>by cases h⟩
theorem over:Rows.netOwnRow.holds Try.pinned (OpenSpec.ofChange Rows.netOwnSpec):=
 OpenClaim.holds_of_wide 6 Try.f6 rfl rfl rfl rfl rfl rfl rfl ⟨rfl,rfl,rfl,rfl,rfl⟩ rfl rfl rfl rfl rfl (by kernel_rfl) Try.func6 (by kernel_rfl)
  (of_decide_eq_true (by kernel_rfl)) (by unfold Func.isWrapper;first | (rw[if_pos (by decide +kernel)];kernel_rfl) | (rw[if_neg (by decide +kernel)];exact⟨rfl,rfl⟩))
  (fun os started H enc _=>lifted os started H enc)
theorem proved:Rows.NetOwnSaid:=over
end Go.Proofs.Ytlihoeipmjbnbaa.netOwn
end
