/-
  The statement of NetOrder: the walk's contract carried to the row: for every input the call answers true, and each argument reads as it did.
-/
import Derived.Lib.SlBytesConst
import Derived.Deep.RegionHeld3
import Derived.Test.YtlihoeipmjbnbaaProg
import Derived.Deep.LoopGhost
import Derived.StillTailTactics
import Derived.Deep.CutBlock
import Derived.Laws.StructEq
import Derived.Deep.Slices
import Derived.Test.YtlihoeipmjbnbaaRows
import Derived.WalkKit
import Derived.ProofKit
import Derived.OpenShut
import Derived.ShutString
import Derived.ChangeOld
import Derived.Below
import Derived.Test.YtlihoeipmjbnbaaZNetOrder1
import Derived.Test.YtlihoeipmjbnbaaZNetOrder2
import Derived.Test.YtlihoeipmjbnbaaZNetOrder3
import Derived.Test.YtlihoeipmjbnbaaZNetOrder4
section
set_option linter.unusedVariables false
set_option linter.unusedSimpArgs false
namespace Go.Proofs.Ytlihoeipmjbnbaa.Nt
open Go.RowKit Go.Proofs.Ytlihoeipmjbnbaa.Mem Go.Proofs.Ytlihoeipmjbnbaa.Se
open Go.Proofs.Ytlihoeipmjbnbaa.Nm (L)
open Go.Proofs.Ytlihoeipmjbnbaa.Ca (Own1 rd_chg row_blk row_mk)
open Go.Proofs.Ytlihoeipmjbnbaa.Rg (flat_at flat_one RdR own_rdr own_chg)
structure Sp (w w':World) (B r:Nat) (vs vw vs' vw':Value) (es es':List En) (ws':List Nat):Prop where
 nt:Nt w' B r vs' vw' es' ws'
 chg:Chg (NO r vs vw es) w w'
 new:∀q,NO r vs' vw' es' q→NO r vs vw es q∨w.heap.size≤q
section
variable {w w' w2:World} {B r:Nat} {vs vw vs' vw' vs2 vw2:Value} {es es' es2:List En} {ws ws' ws2:List Nat}
theorem Sp.low (h:Sp w w' B r vs vw vs' vw' es es' ws') (hn:Nt w B r vs vw es ws):Below B w w':=h.chg.below hn.big (fun k _ hk=>hn.own_lo hk)
theorem Sp.not (h:Sp w w' B r vs vw vs' vw' es es' ws') {k:Nat} (hk:¬NO r vs vw es k) (hl:k<w.heap.size):¬NO r vs' vw' es' k:=fun x=>by
 rcases h.new k x with y | y
 ·exact hk y
 ·omega
theorem Sp.of_below (hn:Nt w B r vs vw es ws) (hb:Below w.heap.size w w'):Sp w w' B r vs vw vs vw es es ws:=⟨hn.below hb,Chg.of_below hb,fun q hq=>.inl hq⟩
theorem Sp.after (hb:Below w.heap.size w w2) (h:Sp w2 w' B r vs vw vs' vw' es es' ws'):Sp w w' B r vs vw vs' vw' es es' ws':=
 ⟨h.nt,(Chg.of_below hb).trans h.chg (fun _ _ x=>x),fun q hq=>(h.new q hq).imp id (fun y=>Nat.le_trans hb.size y)⟩
end
def SentP (w:World) (B r:Nat) (vs vw:Value) (es:List En) (ws:List Nat) (p:Pk) (e:Ending) (w':World):Prop:=
 e = .returned (.bool true)∧∃vs' vw' A' c',Sp w w' B r vs vw vs' vw' es (es++[⟨p,A',c'⟩]) (ws++[es.length])
section
variable {w:World} {B r:Nat} {vs vw:Value} {es:List En} {ws:List Nat}
theorem send_b (h:Nt w B r vs vw es ws) (p:Pk) (A:Option Addr) (c:Nat) (hr:Rd w w.heap.size A (bvs p.b)) (hn:bvs p.b≠[]→∀a,A=some a→¬NO r vs vw es a.block) (h1:ws.length<32) (h2:1≤p.b.length) (h3:p.b.length≤2000) (h4:es.length≤50000) :
  Calls Try.prog 10 #[.pointer (some ⟨r,0,none⟩),.agg (pkA p A c)] w (SentP w B r vs vw es ws p):=by
 refine(send_ok B r vs vw es ws p A c w h (rd_nt hr (fun hx a ha x=>hn hx a ha (nt_no x))) h1 h2 h3 h4).mono ?_
 rintro e w' ⟨rfl,vs',vw',A',c',k1,k2,k3⟩
 exact⟨rfl,vs',vw',A',c',⟨k1,k2.mono (fun q _ x=>nt_no x),k3⟩⟩
theorem send_lit (h:Nt w B r vs vw es ws) (f t:Int) (b:UInt8) (m:Nat×Nat) (h1:ws.length<32) (h4:es.length≤50000) :
  Calls Try.prog 10 #[.pointer (some ⟨r,0,none⟩),.agg #[.int .i64 f,.int .i64 t,.slice (some ⟨w.heap.size,0,none⟩) 1 1]] (w.alloc (.cells #[bv b] 5 m)) (SentP w B r vs vw es ws ⟨f,t,[b]⟩):=by
 have hb:Below w.heap.size w (w.alloc (.cells #[bv b] 5 m)):=(Below.refl _ _).alloc (Nat.le_refl _) _
 have hnew:=heap_alloc_new w (.cells #[bv b] 5 m)
 have hbk:=fun i=>cell_of_row (w.alloc (.cells #[bv b] 5 m)) w.heap.size i #[bv b] 5 m hnew
 refine(send_b (h.below hb) ⟨f,t,[b]⟩ (some ⟨w.heap.size,0,none⟩) 1 (.inr ⟨w.heap.size,0,rfl,by simp,fun i u hu=>?_⟩) (fun _ a ha x=>?_) h1 (by simp) (by simp) h4).mono ?_
 ·rw[Nat.zero_add,hbk i]
  simpa [bvs] using hu
 ·injection ha with ha
  subst ha
  exact h.not (Nat.le_refl _) x
 ·rintro e w' ⟨rfl,vs',vw',A',c',k⟩
  exact⟨rfl,vs',vw',A',c',k.after hb⟩
theorem twice_b (h:Nt w B r vs vw es ws) (i k:Nat) (hi:ws[i]? = some k) (h1:ws.length<32) :
  Calls Try.prog 15 #[.pointer (some ⟨r,0,none⟩),.int .i64 (i:Int)] w fun e w'=>e = .returned (.bool true)∧∃vw',Sp w w' B r vs vw vs vw' es es (ws++[k]):=by
 refine(twice_ok B r vs vw es ws i k w h hi h1).mono ?_
 rintro e w' ⟨rfl,vw',k1,k2,k3⟩
 exact⟨rfl,vw',⟨k1,k2.mono (fun q _ x=>nt_no x),k3⟩⟩
theorem pull_b (h:Nt w B r vs vw es ws) (i k:Nat) (x:En) (hi:ws[i]? = some k) (hx:es[k]? = some x) (hl:x.p.b.length≤100000000000) (hn:ws.length≤1000) :
  Calls Try.prog 12 #[.pointer (some ⟨r,0,none⟩),.int .i64 (i:Int)] w fun e w'=>∃A' c' vw',e = .returned (.tuple #[.agg (pkA x.p A' c'),.bool true])∧Own1 w w' A' (bvs x.p.b)∧Sp w w' B r vs vw vs vw' es es (ws.eraseIdx i):=by
 refine(pull_ok B r vs vw es ws i k x w h hi hx hl hn).mono ?_
 rintro e w' ⟨A',c',vw',rfl,k0,k1,k2,k3⟩
 refine⟨A',c',vw',rfl,k0,⟨k1,k2.mono (fun q _ x=>nt_no x),fun q hq=>.inl ?_⟩⟩
 rcases hq with hq | hq | hq | hq
 ·exact .inl hq
 ·exact .inr (.inl hq)
 ·exact .inr (.inr (.inl (k3▸hq)))
 ·exact .inr (.inr (.inr hq))
end
set_option maxHeartbeats 1600000 in
set_option maxRecDepth 100000 in
theorem known_any (w:World):Calls Try.prog 21 #[] w fun e w'=>e = .returned (.bool true)∧Below w.heap.size w w':=by
 have C0:=Lib.hid (nt_new w.heap.size w (Nat.le_refl _))
 have HL:=Lib.hid (fun(r:Nat) (w1:World) (vs vw:Value) (h:Nt w1 w.heap.size r vs vw [] [])=>send_lit h 0 1 120 (1,2) (by simp) (by simp))
 have HT:=Lib.hid (fun(r:Nat) (w1:World) (vs vw:Value) (x:En) (h:Nt w1 w.heap.size r vs vw [x] [0])=>twice_b h 0 0 rfl (by simp))
 have HS:=Lib.hid (fun(r:Nat) (w1:World) (vs vw:Value) (x:En) (h:Nt w1 w.heap.size r vs vw [x] [0,0])=>send_no w.heap.size r vs vw [x] [0,0] ⟨0,1,[]⟩ none 0 w1 h (by simp))
 have HE:=Lib.hid (fun(r:Nat) (w1:World) (vs vw:Value) (x:En) (h:Nt w1 w.heap.size r vs vw [x] [0,0])=>nt_len w.heap.size r vs vw [x] [0,0] w1 h)
 have HV:=Lib.hid (fun(r:Nat) (w1:World) (vs vw:Value) (x:En) (h:Nt w1 w.heap.size r vs vw [x] [0,0]) (hx:x.p.b.length≤2000)=>seen_any w.heap.size r vs vw [x] [0,0] w1 h (fun e he=>by rw[List.mem_singleton] at he;subst he;exact hx) (by simp))
 have kc:=fun(w:World) (C:Array Value) (n c:Nat)=>Lib.run_convert_bytes_const (P:=Try.prog) w 30 5 C n c Try.underlying30 Try.underlying5
 go_enter Try.func21,Try.ntmps21
 go_wp2_with (first
  |(go_at_call 9;refine Calls.mono C0.out ?_;rintro e w1 ⟨rfl,hn,hb,hsz⟩;clear C0;have HN1:=Lib.hid hn;have HB1:=Lib.hid hb;clear hn hb hsz)
  |(go_at_call 10;refine Calls.mono (HL.out _ _ _ _ HN1.out) ?_;rintro e w2 ⟨rfl,vs2,vw2,A2,c2,hs⟩;clear HL;have HN2:=Lib.hid hs.nt;have HB2:=Lib.hid (HB1.out.trans (hs.low HN1.out));clear hs HN1 HB1)
  |(go_at_call 15;refine Calls.mono (HT.out _ _ _ _ _ HN2.out) ?_;rintro e w3 ⟨rfl,vw3,hs⟩;clear HT;have HN3:=Lib.hid hs.nt;have HB3:=Lib.hid (HB2.out.trans (hs.low HN2.out));clear hs HN2 HB2)
  |(go_at_call 10;refine Calls.mono (HS.out _ _ _ _ _ HN3.out) ?_;rintro e w4 ⟨rfl,hb⟩;clear HS;have HN4:=Lib.hid (HN3.out.below hb);have HB4:=Lib.hid (HB3.out.trans (hb.mono HB3.out.size));clear hb HN3 HB3)
  |(go_at_call 19;refine Calls.mono (HE.out _ _ _ _ _ HN4.out) ?_;rintro e w5 ⟨rfl,hw⟩;have hw:=hw.symm;subst hw;clear HE)
  |(go_at_call 20;refine Calls.mono (HV.out _ _ _ _ _ HN4.out (by simp)) ?_;rintro e w6 ⟨v6,fs6,rfl,hls,hfs,hb⟩;clear HV;obtain⟨A6,c6,e6,_⟩:=own_rdr enC_length hls.row;have h1:fs6.length=1:=(by have:=congrArg List.length hfs;rw[pks_length] at this;exact this);rw[h1] at e6;subst e6;have HB6:=Lib.hid (HB4.out.trans (hb.mono HB4.out.size));clear hb hls hfs h1)
  |fail)
 go_ret
 exact⟨rfl,HB6.out⟩
end Go.Proofs.Ytlihoeipmjbnbaa.Nt
end

section
set_option linter.unusedVariables false
set_option linter.unusedSimpArgs false
namespace Go.Proofs.Ytlihoeipmjbnbaa.Nt
open Go.RowKit Go.Proofs.Ytlihoeipmjbnbaa.Mem Go.Proofs.Ytlihoeipmjbnbaa.Se
open Go.Proofs.Ytlihoeipmjbnbaa.Nm (L)
open Go.Proofs.Ytlihoeipmjbnbaa.Ca (Own1 rd_chg row_blk row_mk)
open Go.Proofs.Ytlihoeipmjbnbaa.Rg (flat_at flat_one RdR own_rdr own_chg)
theorem ls_num {a w:World} {v:Value} {fs es:List En} {n:Nat} (h:Ls a w v fs) (he:pks fs=pks es) (hn:es.length=n):∃A c,v = .slice A n c:=by
 obtain⟨A,c,e,_⟩:=own_rdr enC_length h.row
 have:fs.length=n:=by have:=congrArg List.length he;rw[pks_length,pks_length] at this;omega
 rw[this] at e
 exact⟨A,c,e⟩
end Go.Proofs.Ytlihoeipmjbnbaa.Nt
end

section
set_option linter.unusedVariables false
set_option linter.unusedSimpArgs false
namespace Go.Proofs.Ytlihoeipmjbnbaa.Nt
open Go.RowKit Go.Proofs.Ytlihoeipmjbnbaa.Mem Go.Proofs.Ytlihoeipmjbnbaa.Se
open Go.Proofs.Ytlihoeipmjbnbaa.Nm (L)
open Go.Proofs.Ytlihoeipmjbnbaa.Ca (Own1 rd_chg row_blk row_mk)
open Go.Proofs.Ytlihoeipmjbnbaa.Rg (flat_at flat_one RdR own_rdr own_chg)
def pkO (k:Nat):Pk:=⟨0,(k:Int),[1]⟩
theorem at_eo {es:List En} {n k:Nat} (h:pks es=(List.range n).map pkO) (hk:k<n):∃x,es[k]? = some x∧x.p=pkO k:=by
 have h1:(pks es)[k]? = some (pkO k):=by rw[h];simp [hk]
 unfold pks at h1
 rw[List.getElem?_map] at h1
 cases hx:es[k]? with
 |none=>rw[hx] at h1;cases h1
 |some x=>rw[hx] at h1;injection h1 with h1;exact⟨x,rfl,h1⟩
theorem eo_small {es:List En} {n:Nat} (h:pks es=(List.range n).map pkO):∀e∈es,e.p.b.length≤2000:=by
 intro e he
 have:e.p∈pks es:=List.mem_map.2 ⟨e,he,rfl⟩
 rw[h] at this
 obtain⟨k,_,hk⟩:=List.mem_map.1 this
 rw[←hk]
 simp [pkO]
theorem eo_len {es:List En} {n:Nat} (h:pks es=(List.range n).map pkO):es.length=n:=by
 have:=congrArg List.length h
 rw[pks_length] at this
 simpa using this
def Apt (wv:Value) (r:Nat) (vs vw:Value) (es:List En):Prop:=∀k,wv.ownBlock=some k→¬NO r vs vw es k
section
variable {w w':World} {B r:Nat} {vs vw vs' vw' wv wv':Value} {es es':List En} {ws ws' xs:List Nat}
theorem apt_sp (ha:Apt wv r vs vw es) (hw:w.ownsRow B 3 1 wv xs.length (xs.flatMap iC)) (h:Sp w w' B r vs vw vs' vw' es es' ws'):w'.ownsRow B 3 1 wv xs.length (xs.flatMap iC)∧Apt wv r vs' vw' es':=
 ⟨own_chg h.chg hw (fun k hk x=>ha k hk x),fun k hk=>h.not (ha k hk) (World.ownsRow.lt hw k hk).2⟩
theorem apt_below (hw:w.ownsRow B 3 1 wv xs.length (xs.flatMap iC)) (h:Below w.heap.size w w'):w'.ownsRow B 3 1 wv xs.length (xs.flatMap iC):=own_chg (S:=fun _=>False) (Chg.of_below h) hw (fun _ _ x=>x)
theorem apt_grown (ha:Apt wv r vs vw es) (hn:Nt w B r vs vw es ws) (hg:w.grownBy w' wv.ownBlock):Nt w' B r vs vw es ws:=
 hn.chg (S:=fun q=>wv.ownBlock=some q) ⟨hg.os,hg.tape,hg.output,hg.size,fun i hi h=>hg.block i hi (fun e=>h e.symm)⟩ (fun k hk x=>ha k x hk)
end
theorem rd_take {w:World} {B c:Nat} {v:Value} {A:Option Addr} {ws:List Nat} (h:w.ownsRow B 3 1 v ws.length (ws.flatMap iC)) (e:v = .slice A ws.length c) (p:Nat):Rd w w.heap.size A ((ws.take p).flatMap iC):=by
 subst e
 have hr:=Rd.of_own (n:=ws.length) (cap:=c) h
 rcases hr with hr | ⟨b,o,h1,h2,h3⟩
 ·rw[flat_i] at hr
  have:ws = []:=List.map_eq_nil_iff.1 hr
  subst this
  exact .inl (by simp)
 ·refine .inr ⟨b,o,h1,h2,fun i u hu=>h3 i u ?_⟩
  rw[flat_i] at hu⊢
  rw[List.getElem?_map,List.getElem?_take] at hu
  by_cases hi:i<p
  ·rw[if_pos hi] at hu;rw[List.getElem?_map];exact hu
  ·rw[if_neg hi] at hu;cases hu
theorem rd_drop {w:World} {B g c p:Nat} {v:Value} {AD:Addr} {ws:List Nat} (h:w.ownsRow B 3 1 v ws.length (ws.flatMap iC)) (e:v = .slice (some ⟨g,0,none⟩) ws.length c) (hc:ws.length≤c) (ha:(if c=p+1 then some (⟨g,0,none⟩:Addr) else some ⟨g,p+1,none⟩)=some AD):Rd w w.heap.size (some AD) ((ws.drop (p+1)).flatMap iC):=by
 subst e
 have hr:=Rd.of_own (n:=ws.length) (cap:=c) h
 by_cases hd:ws.length≤p+1
 ·exact .inl (by rw[List.drop_of_length_le hd];rfl)
 ·rw[if_neg (by omega)] at ha
  injection ha with ha
  subst ha
  rcases hr with hr | ⟨b,o,h1,h2,h3⟩
  ·rw[flat_i] at hr
   have:ws = []:=List.map_eq_nil_iff.1 hr
   subst this
   exact .inl (by simp)
  ·injection h1 with h1
   injection h1 with h1 h4
   subst h1 h4
   refine .inr ⟨g,p+1,rfl,h2,fun i u hu=>?_⟩
   have:=h3 (p+1+i) u (by rw[←flat_drop];exact hu)
   rwa [Nat.zero_add] at this
theorem erase_eq {ws:List Nat} {p:Nat}:ws.take p++ws.drop (p+1)=ws.eraseIdx p:=(List.eraseIdx_eq_take_drop_succ ws p).symm
set_option maxRecDepth 100000 in
set_option maxHeartbeats 1600000 in
theorem order_no (n:Int) (A:Option Addr) (l c:Nat) (w:World) (h:¬(0≤n∧n≤32∧l≤60)):Calls Try.prog 5 #[.int .i64 n,.slice A l c] w fun e w'=>e = .returned (.bool true)∧Below w.heap.size w w':=by
 by_cases h0:n<0
 ·have t0:decide (n<0)=true:=decide_eq_true h0
  clear h
  go_enter Try.func5,Try.ntmps5
  go_wp2
  go_ret
  exact⟨rfl,Below.refl _ _⟩
 have t0:decide (n<0)=false:=decide_eq_false h0
 by_cases h1:32<n
 ·have t1:decide (32<n)=true:=decide_eq_true h1
  clear h
  go_enter Try.func5,Try.ntmps5
  go_wp2
  go_ret
  exact⟨rfl,Below.refl _ _⟩
 have t1:decide (32<n)=false:=decide_eq_false h1
 by_cases h2:(60:Int)<(l:Int)
 ·have t2:decide ((60:Int)<(l:Int))=true:=decide_eq_true h2
  clear h
  go_enter Try.func5,Try.ntmps5
  go_wp2
  go_ret
  exact⟨rfl,Below.refl _ _⟩
 have t2:decide ((60:Int)<(l:Int))=false:=decide_eq_false h2
 exact absurd ⟨by omega,by omega,by omega⟩ h
set_option maxRecDepth 100000 in
set_option maxHeartbeats 6400000 in
theorem order_in (m : Nat) (A : Option Addr) (l : List Int) (c : Nat) (w : World) (hm : m ≤ 32) (hl : l.length ≤ 60) (hr : Rd w w.heap.size A (l.map (Value.int .i64))) :
    Calls Try.prog 5 #[.int .i64 (m : Int), .slice A l.length c] w fun e w' => e = .returned (.bool true) ∧ Below w.heap.size w w' := by
  obtain ⟨B, eB⟩ : ∃ B, B = w.heap.size := ⟨_, rfl⟩
  have c1 := nt_new B w (Nat.le_of_eq eB)
  rw [← eB] at c1 hr
  obtain ⟨nl, enl⟩ : ∃ nl, nl = l.length := ⟨_, rfl⟩
  have ENL := Lib.hid enl
  rw [← enl] at hl ⊢
  have HM := Lib.hid hm
  have HL := Lib.hid hl
  have HR := Lib.hid hr
  have CK := Lib.hid (fun w1 => known_any w1)
  have EB := Lib.hid eB
  have HB := Lib.hid (show Below B w w from eB ▸ Below.refl _ _)
  obtain ⟨iI, hiI, hzI, hsI, hbI⟩ := info_parts int_all
  have KI1 := Lib.hid hiI; have KI2 := Lib.hid hzI; have KI3 := Lib.hid hsI; have KI4 := Lib.hid hbI
  have t1 : decide ((m : Int) < 0) = false := by simp
  have t2 : decide ((32 : Int) < (m : Int)) = false := by simp; omega
  have t3 : decide ((60 : Int) < (nl : Int)) = false := by simp; omega
  clear eB hm hl hr enl hiI hzI hsI hbI
  go_enter Try.func5, Try.ntmps5
  go_wp2_with (first
    | (go_at_call 9; refine Calls.mono c1 ?_; rintro e1 w1 ⟨rfl, hn, hb, hsz⟩; clear c1; have HN := Lib.hid hn; replace HB := Lib.hid hb; clear hb hn hsz)
    | fail)
  clear t1 t2 t3
  go_loopw [7, 6] (fun iv wv wr => ∃ (j : Nat) (vs vw : Value) (es : List En), j ≤ m ∧ iv = .int .i64 (j : Int) ∧ Below B w wr ∧ Nt wr B B vs vw es (List.range j) ∧ pks es = (List.range j).map pkO ∧ wr.ownsRow B 3 1 wv (List.range j).length ((List.range j).flatMap iC) ∧ Apt wv B vs vw es) (fun iv wv _ => m - (intOf iv).toNat)
  case atStart => exact ⟨0, _, _, [], Nat.zero_le _, rfl, HB.out, HN.out, rfl, World.ownsRow_nil _ _ _ _, fun k hk => by cases hk⟩
  case round =>
    clear HB HN
    obtain ⟨j, vs, vw, es, hj, rfl, hb, hn, hes, hwv, hap⟩ := hrel
    have HB := Lib.hid hb; have HN := Lib.hid hn; have HES := Lib.hid hes; have HWV := Lib.hid hwv; have HAP := Lib.hid hap
    have HLE := Lib.hid (eo_len hes)
    clear hb hn hes hwv hap
    by_cases hlt : j < m
    · have e1 : (j : Int) < (m : Int) := by omega
      have e9 : (j : Int) ≤ 50 := by have := HM.out; omega
      have c2 := send_lit HN.out 0 (j : Int) 1 (0, 0) (by have := HM.out; rw [List.length_range]; omega) (by have := HLE.out; have := HM.out; omega)
      go_wp2_with (first
        | (go_at_call 10; refine Calls.mono c2 ?_; rintro e w2 ⟨rfl, vs2, vw2, A2, c2', hs⟩; clear c2; rw [HLE.out, ← List.range_succ] at hs; have HN2 := Lib.hid hs.nt; have HB2 := Lib.hid (HB.out.trans (hs.low HN.out)); have HW2 := Lib.hid (apt_sp HAP.out HWV.out hs); clear hs)
        | (refine Wh.app_one (P := Try.prog) iC 1 8 iC_length iC_one (by rfl) (.tmp 35) (.tmp 37) 44 3 (by rfl) iI _ Try.underlying44 KI1.out KI2.out KI3.out KI4.out (by rfl) (by omega) (by omega) B u6 (List.range j) (by rfl) (apt_below HW2.out.1 ((Below.refl _ _).alloc (Nat.le_refl _) _)) j w2.heap.size (by rfl) (Blk.new w2 _ _) (by rw [List.length_range]; have := HM.out; omega) (Nat.le_trans HN2.out.big (by simp)) ?_; intro v6 w6 ho6 hg6 hv6; have hna := HN2.out.below ((Below.refl w2.heap.size w2).alloc (Nat.le_refl _) (.cells #[.int .i64 (j : Int)] 3)); have HN6 := Lib.hid (apt_grown HW2.out.2 hna hg6); rw [← List.range_succ] at ho6; have HO6 := Lib.hid ho6; have HA6 := Lib.hid (show Apt v6 B vs2 vw2 _ from fun k hk x => by
            rcases hv6 with g | g
            · exact HW2.out.2 k (g ▸ hk) x
            · rw [g] at hk; injection hk with hk; have := hna.own_lt x; omega); have HB6 := Lib.hid ((HB2.out.trans (((Below.refl w2.heap.size w2).alloc (Nat.le_refl _) (.cells #[.int .i64 (j : Int)] 3)).mono HN2.out.big)).grown hg6 hna.big (fun k hk => (World.ownsRow.lt HW2.out.1 k hk).1)); clear ho6 hg6 hv6 hna)
        | fail)
      go_roundw
      case rel => exact ⟨j + 1, vs2, vw2, _, by omega, by go_num, HB6.out, HN6.out, by rw [List.range_succ, List.map_append, ← HES.out]; simp [pks, pkO], HO6.out, HA6.out⟩
      case measure => simp [intOf]; omega
    · have e1 : ¬ (j : Int) < (m : Int) := by omega
      obtain rfl : m = j := by omega
      have CL := Lib.hid (fun (vw' : Value) (ws' : List Nat) (w1 : World) (h : Nt w1 B B vs vw' es ws') => nt_len B B vs vw' es ws' w1 h)
      have CV := Lib.hid (fun (vw' : Value) (ws' : List Nat) (w1 : World) (h : Nt w1 B B vs vw' es ws') => seen_any B B vs vw' es ws' w1 h (eo_small HES.out) (by have := HLE.out; have := HM.out; omega))
      clear hlt hj e1
      go_wp2
      go_loopw [8, 6] (fun iv wv wx => ∃ (i : Nat) (vw' : Value) (ws : List Nat), i ≤ nl ∧ iv = .int .i64 (i : Int) ∧ Below B w wx ∧ Nt wx B B vs vw' es ws ∧ (∀ k ∈ ws, k < m) ∧ ws.length ≤ 32 ∧ wx.ownsRow B 3 1 wv ws.length (ws.flatMap iC) ∧ Apt wv B vs vw' es) (fun iv wv _ => nl - (intOf iv).toNat)
      case atStart => exact ⟨0, _, List.range m, Nat.zero_le _, rfl, HB.out, HN.out, fun k hk => List.mem_range.1 hk, by rw [List.length_range]; exact HM.out, HWV.out, HAP.out⟩
      case round =>
        clear HB HN HWV HAP
        obtain ⟨i, vw2, ws, hi, rfl, hb, hn, hws, hwl, hwv, hap⟩ := hrel
        have HB := Lib.hid hb; have HN := Lib.hid hn; have HWS := Lib.hid hws; have HWL := Lib.hid hwl; have HWV := Lib.hid hwv; have HAP := Lib.hid hap
        obtain ⟨Av2, cv2, elv2, hcv, _⟩ := own_rdr iC_length hwv
        have ELV := Lib.hid elv2
        obtain ⟨nw, enw⟩ : ∃ nw, nw = ws.length := ⟨_, rfl⟩
        have ENW := Lib.hid enw
        rw [← enw] at elv2 hcv
        have HCV := Lib.hid hcv
        have EV6 := Lib.hid elv2
        clear hb hn hws hwl hwv hap enw hcv
        by_cases hlt : i < nl
        · have e1 : (i : Int) < (nl : Int) := by omega
          have e2 : (0 : Int) ≤ (i : Int) := by omega
          have e9 : (i : Int) ≤ 60 := by have := HL.out; omega
          obtain ⟨z, hz⟩ : ∃ z, l[i]? = some z := ⟨l[i]'(by rw [← ENL.out]; exact hlt), List.getElem?_eq_getElem _⟩
          obtain ⟨ga, oa, rfl, hga, hcz⟩ := HR.out.at_ (show (l.map (Value.int .i64))[i]? = some (.int .i64 z) by rw [List.getElem?_map, hz]; rfl)
          have HGA := Lib.hid hga
          have HCZ := Lib.hid (show ∀ w1, Below B w w1 → w1.cell? ⟨ga, oa + i, none⟩ = some (.int .i64 z) from fun w1 hb => (hb.cell (p := ⟨ga, _, none⟩) HGA.out).trans hcz)
          have kz := HCZ.out _ HB.out
          clear hz hga hcz
          by_cases hok : 0 ≤ z ∧ z < (nw : Int)
          · obtain ⟨p, rfl⟩ := Int.eq_ofNat_of_zero_le hok.1
            have hp : p < ws.length := by have := ENW.out; omega
            obtain ⟨k, hk⟩ : ∃ k, ws[p]? = some k := ⟨ws[p]'hp, List.getElem?_eq_getElem _⟩
            have hkm : k < m := HWS.out k (List.mem_of_getElem? hk)
            obtain ⟨x, hx, hxp⟩ := at_eo HES.out hkm
            have cp := pull_b HN.out p k x hk hx (by rw [hxp]; simp [pkO]) (by have := HWL.out; omega)
            have HXT := Lib.hid (show x.p.t = (k : Int) by rw [hxp]; rfl)
            have f1 : (0 : Int) ≤ (p : Int) := by omega
            have f2 : (p : Int) < (nw : Int) := hok.2
            have HK := Lib.hid hk
            have HPW := Lib.hid hp
            clear hok hx hxp hk hkm hp
            go_upto_region 19 with (first
              | (go_at_call 12; refine Calls.mono cp ?_; rintro e w3 ⟨A1, d1, vw3, rfl, ho, hs⟩; clear cp kz; have HN3 := Lib.hid hs.nt; have HB3 := Lib.hid (HB.out.trans (hs.low HN.out)); have kz := HCZ.out _ HB3.out; have HW3 := Lib.hid (apt_sp HAP.out HWV.out hs); obtain ⟨xs, exs⟩ : ∃ xs, xs = pkA x.p A1 d1 := ⟨_, rfl⟩; rw [← exs]; have HXS := Lib.hid (show xs.size = 3 by rw [exs, pkA_size]); have HXI := Lib.hid (show (Try.prog.info? 32).map (·.size) = some xs.size by rw [exs]; exact pk_info); have HX1 := Lib.hid (show xs.all (·.oneCell') = true by rw [exs]; exact pkA_one _ _ _); have HXC := Lib.hid (show xs[1]? = some (.int .i64 (k : Int)) by rw [exs, ← HXT.out]; rfl); clear ho hs exs HN HB HWV)
              | (refine Wh.store_new (by rfl) 32 (.tmp 9) (.tmp 52) (by rfl) 32 rfl xs (by rfl) (by rfl) (by rw [HXS.out]; rfl) HXI.out HX1.out ?_; rintro V hV hb; clear kz; have HP := Lib.hid hV; have HN4 := Lib.hid (HN3.out.below hb); have HB4 := Lib.hid (HB3.out.trans (hb.mono HN3.out.big)); have kz := HCZ.out _ HB4.out; have HW4 := Lib.hid (apt_below HW3.out.1 hb); have HA4 := Lib.hid HW3.out.2; clear hV hb HN3 HB3 HW3)
              | fail)
            have HWC := Lib.hid (show ∀ (w1 : World), w1.ownsRow B 3 1 u6 ws.length (ws.flatMap iC) → ∃ g, Av2 = some ⟨g, 0, none⟩ ∧ w1.cell? ⟨g, p, none⟩ = some (.int .i64 (k : Int)) from fun w1 h1 => by
              obtain ⟨A3, c3, e3, _, _, hr3⟩ := own_rdr iC_length h1
              obtain ⟨g, rfl, _, hc3⟩ := way_at hr3 HK.out
              rw [ELV.out] at e3
              injection e3 with ea _ _
              exact ⟨g, ea, hc3⟩)
            obtain ⟨gv, rfl, _⟩ := HWC.out _ HW4.out
            replace HWC := Lib.hid (show ∀ (w1 : World), w1.ownsRow B 3 1 u6 ws.length (ws.flatMap iC) → w1.cell? ⟨gv, p, none⟩ = some (.int .i64 (k : Int)) from fun w1 h1 => by
              obtain ⟨g, ea, hc3⟩ := HWC.out w1 h1
              injection ea with ea
              injection ea with ea
              rw [ea]; exact hc3)
            clear kz
            have hb : Below V.heap.size V V.drew := below_drewN (Below.refl _ _) 1
            replace HP := Lib.hid (HP.out.below hb)
            replace HB4 := Lib.hid (HB4.out.trans (hb.mono HN4.out.big))
            replace HW4 := Lib.hid (apt_below HW4.out hb)
            replace HN4 := Lib.hid (HN4.out.below hb)
            clear hb
            obtain ⟨wdp, ewd⟩ : ∃ z, z = V.drew := ⟨_, rfl⟩
            refine Reg.any_begin (fun w' => w'.cell? ⟨w3.heap.size, 1, none⟩ = some (.int .i64 (k : Int)) ∧ w'.cell? ⟨ga, oa + i, none⟩ = some (.int .i64 (p : Int)) ∧ w'.cell? ⟨gv, p, none⟩ = some (.int .i64 (k : Int))) 10 rfl (by kernel_rfl) ⟨(HP.out.cell 1).trans HXC.out, HCZ.out _ HB4.out, HWC.out _ HW4.out⟩ ?_
            rw [← ewd] at HP HB4 HW4 HN4 ⊢
            clear ewd
            refine Reg.tk 0 (v := ?vp1) rfl ⟨(HP.out.cell 1).trans HXC.out, HCZ.out _ HB4.out, HWC.out _ HW4.out⟩ (fun w' hS => ?hp1) ?rp1
            case hp1 => go_simp <;> rfl
            simp only [Act.put, Reg.s0, Reg.s1, Reg.s2]
            refine Reg.tk 1 (v := ?vp2) rfl ⟨(HP.out.cell 1).trans HXC.out, HCZ.out _ HB4.out, HWC.out _ HW4.out⟩ (fun w' hS => ?hp2) ?rp2
            case hp2 => obtain ⟨q1, q2, q3⟩ := hS; (go_simp <;> rfl)
            simp only [Act.put, Reg.s0, Reg.s1, Reg.s2]
            refine Reg.tk 2 (v := ?vp3) rfl ⟨(HP.out.cell 1).trans HXC.out, HCZ.out _ HB4.out, HWC.out _ HW4.out⟩ (fun w' hS => ?hp3) ?rp3
            case hp3 => go_simp <;> rfl
            simp only [Act.put, Reg.s0, Reg.s1, Reg.s2]
            refine Reg.tk 3 (v := ?vp4) rfl ⟨(HP.out.cell 1).trans HXC.out, HCZ.out _ HB4.out, HWC.out _ HW4.out⟩ (fun w' hS => ?hp4) ?rp4
            case hp4 => go_simp <;> rfl
            simp only [Act.put, Reg.s0, Reg.s1, Reg.s2]
            refine Reg.tk 4 (v := ?vp5) rfl ⟨(HP.out.cell 1).trans HXC.out, HCZ.out _ HB4.out, HWC.out _ HW4.out⟩ (fun w' hS => ?hp5) ?rp5
            case hp5 => go_simp <;> rfl
            simp only [Act.put, Reg.s0, Reg.s1, Reg.s2]
            refine Reg.tk 5 (v := ?vp6) rfl ⟨(HP.out.cell 1).trans HXC.out, HCZ.out _ HB4.out, HWC.out _ HW4.out⟩ (fun w' hS => ?hp6) ?rp6
            case hp6 => go_simp <;> rfl
            simp only [Act.put, Reg.s0, Reg.s1, Reg.s2]
            refine Reg.tk 6 (v := ?vp7) rfl ⟨(HP.out.cell 1).trans HXC.out, HCZ.out _ HB4.out, HWC.out _ HW4.out⟩ (fun w' hS => ?hp7) ?rp7
            case hp7 => obtain ⟨q1, q2, q3⟩ := hS; (go_simp <;> rfl)
            simp only [Act.put, Reg.s0, Reg.s1, Reg.s2]
            refine Reg.tk 7 (v := ?vp8) rfl ⟨(HP.out.cell 1).trans HXC.out, HCZ.out _ HB4.out, HWC.out _ HW4.out⟩ (fun w' hS => ?hp8) ?rp8
            case hp8 => go_simp <;> rfl
            simp only [Act.put, Reg.s0, Reg.s1, Reg.s2]
            refine Reg.tk 8 (v := ?vp9) rfl ⟨(HP.out.cell 1).trans HXC.out, HCZ.out _ HB4.out, HWC.out _ HW4.out⟩ (fun w' hS => ?hp9) ?rp9
            case hp9 => obtain ⟨q1, q2, q3⟩ := hS; (go_simp <;> rfl)
            simp only [Act.put, Reg.s0, Reg.s1, Reg.s2]
            refine Reg.tk 9 (v := ?vp10) rfl ⟨(HP.out.cell 1).trans HXC.out, HCZ.out _ HB4.out, HWC.out _ HW4.out⟩ (fun w' hS => ?hp10) ?rp10
            case hp10 => go_simp <;> rfl
            simp only [Act.put, Reg.s0, Reg.s1, Reg.s2]
            refine wpAnyH_done (by kernel_rfl) ?_ _
            go_upto_region 21 with fail
            obtain ⟨AD, hAD⟩ : ∃ AD : Addr, (if cv2 = p + 1 then some (⟨gv, 0, none⟩ : Addr) else some ⟨gv, p + 1, none⟩) = some AD := by
              by_cases hc : cv2 = p + 1
              · exact ⟨_, if_pos hc⟩
              · exact ⟨_, if_neg hc⟩
            have HAD := Lib.hid hAD
            have g1 : (p : Int) + 1 ≤ (nw : Int) := by omega
            have g2 : (0 : Int) ≤ (p : Int) + 1 := by omega
            have g8 : IntKind.i64.wrap ((p : Int) + 1) = (p : Int) + 1 := by rw [IntKind.wrap_i64]; have := HWL.out; have := ENW.out; omega
            have g3 : p ≤ cv2 := by have := HCV.out; omega
            have g4 : p + 1 ≤ cv2 := by have := HCV.out; omega
            have g5 : p + 1 ≤ nw := by omega
            have g6 : (p : Int) ≤ (cv2 : Int) := by omega
            have g7 : (p : Int) ≤ 60 := by have := HWL.out; have := ENW.out; omega
            clear HP HXC
            have hb : Below wdp.heap.size wdp wdp.drew := below_drewN (Below.refl _ _) 1
            replace HB4 := Lib.hid (HB4.out.trans (hb.mono HN4.out.big))
            replace HW4 := Lib.hid (apt_below HW4.out hb)
            replace HN4 := Lib.hid (HN4.out.below hb)
            clear hb
            obtain ⟨wdq, ewd⟩ : ∃ z, z = wdp.drew := ⟨_, rfl⟩
            refine Reg.any_begin (fun w' => w'.cell? ⟨ga, oa + i, none⟩ = some (.int .i64 (p : Int))) 17 rfl (by kernel_rfl) (HCZ.out _ HB4.out) ?_
            rw [← ewd] at HB4 HW4 HN4 ⊢
            clear ewd
            refine Reg.tk 1 (v := ?vq11) rfl (HCZ.out _ HB4.out) (fun w' hS => ?hq11) ?rq11
            case hq11 => go_simp <;> rfl
            simp only [Act.put, Reg.s0, Reg.s1, Reg.s2]
            refine Reg.tk 2 (v := ?vq12) rfl (HCZ.out _ HB4.out) (fun w' hS => ?hq12) ?rq12
            case hq12 => go_simp <;> rfl
            simp only [Act.put, Reg.s0, Reg.s1, Reg.s2]
            refine Reg.tk 3 (v := ?vq13) rfl (HCZ.out _ HB4.out) (fun w' hS => ?hq13) ?rq13
            case hq13 => go_simp <;> rfl
            simp only [Act.put, Reg.s0, Reg.s1, Reg.s2]
            refine Reg.tk 4 (v := ?vq14) rfl (HCZ.out _ HB4.out) (fun w' hS => ?hq14) ?rq14
            case hq14 => go_simp <;> rfl
            simp only [Act.put, Reg.s0, Reg.s1, Reg.s2]
            refine Reg.tk 5 (v := ?vq15) rfl (HCZ.out _ HB4.out) (fun w' hS => ?hq15) ?rq15
            case hq15 => have kz := hS; (go_simp <;> rfl)
            simp only [Act.put, Reg.s0, Reg.s1, Reg.s2]
            refine Reg.tk 6 (v := ?vq16) rfl (HCZ.out _ HB4.out) (fun w' hS => ?hq16) ?rq16
            case hq16 => go_simp <;> rfl
            simp only [Act.put, Reg.s0, Reg.s1, Reg.s2]
            refine Reg.tk 8 (v := ?vq17) rfl (HCZ.out _ HB4.out) (fun w' hS => ?hq17) ?rq17
            case hq17 => go_simp <;> rfl
            simp only [Act.put, Reg.s0, Reg.s1, Reg.s2]
            refine Reg.tk 9 (v := ?vq18) rfl (HCZ.out _ HB4.out) (fun w' hS => ?hq18) ?rq18
            case hq18 => go_simp <;> rfl
            simp only [Act.put, Reg.s0, Reg.s1, Reg.s2]
            refine Reg.tk 10 (v := ?vq19) rfl (HCZ.out _ HB4.out) (fun w' hS => ?hq19) ?rq19
            case hq19 => go_simp <;> rfl
            simp only [Act.put, Reg.s0, Reg.s1, Reg.s2]
            refine Reg.tk 11 (v := ?vq20) rfl (HCZ.out _ HB4.out) (fun w' hS => ?hq20) ?rq20
            case hq20 => go_simp <;> rfl
            simp only [Act.put, Reg.s0, Reg.s1, Reg.s2]
            refine Reg.tk 12 (v := ?vq21) rfl (HCZ.out _ HB4.out) (fun w' hS => ?hq21) ?rq21
            case hq21 => have kz := hS; (go_simp <;> rfl)
            simp only [Act.put, Reg.s0, Reg.s1, Reg.s2]
            refine Reg.tk 13 (v := ?vq22) rfl (HCZ.out _ HB4.out) (fun w' hS => ?hq22) ?rq22
            case hq22 => go_simp <;> rfl
            simp only [Act.put, Reg.s0, Reg.s1, Reg.s2]
            refine Reg.tk 14 (v := ?vq23) rfl (HCZ.out _ HB4.out) (fun w' hS => ?hq23) ?rq23
            case hq23 => go_simp <;> rfl
            simp only [Act.put, Reg.s0, Reg.s1, Reg.s2]
            refine Reg.both_all [0] (by kernel_rfl) (by simp) ?_
            intro j0 hj0
            obtain rfl : j0 = 0 := by simpa using hj0
            clear hj0
            left
            have hb : Below wdq.heap.size wdq (wdq.alloc (.cells #[] 3)) := (Below.refl _ _).alloc (Nat.le_refl _) _
            have HO0 := Lib.hid (World.ownsRow_made (base := B) wdq (e := 3) (size := 1) #[] 0 HN4.out.big (by decide) rfl)
            have HG0 := Lib.hid (show ∀ k, (Value.slice (some ⟨wdq.heap.size, 0, none⟩) 0 0).ownBlock = some k → wdq.heap.size ≤ k from fun k hk => by have h2 : some wdq.heap.size = some k := hk; injection h2 with h2; omega)
            have HNR := Lib.hid (show ∀ k, wdq.heap.size ≤ k → ¬ NO B vs vw3 es k from fun k hk => HN4.out.not hk)
            have HNV := Lib.hid (show ∀ k, u6.ownBlock = some k → k < wdq.heap.size from fun k hk => (World.ownsRow.lt HW4.out k hk).2)
            have HBB := Lib.hid (show B ≤ wdq.heap.size from HN4.out.big)
            refine ⟨_, _, _, _, _, _, .slice (some ⟨wdq.heap.size, 0, none⟩) 0 0, (wdq.alloc (.cells #[] 3)), rfl, by rfl, (by go_simp <;> rfl), HCZ.out _ (HB4.out.trans (hb.mono HN4.out.big)), ?_⟩
            simp only [Act.put, Reg.s0, Reg.s1, Reg.s2]
            replace HB4 := Lib.hid (HB4.out.trans (hb.mono HN4.out.big))
            replace HW4 := Lib.hid (apt_below HW4.out hb)
            replace HN4 := Lib.hid (HN4.out.below hb)
            clear hb
            obtain ⟨wq24, ewq24⟩ : ∃ z, z = (wdq.alloc (.cells #[] 3)) := ⟨_, rfl⟩
            rw [← ewq24] at HO0 HB4 HW4 HN4 ⊢
            clear ewq24
            obtain ⟨G0, eG0⟩ : ∃ z, z = wdq.heap.size := ⟨_, rfl⟩
            rw [← eG0] at HO0 HG0 HNR HNV HBB ⊢
            clear eG0
            refine Reg.both_all [7] (by kernel_rfl) (by simp) ?_
            intro j0 hj0
            obtain rfl : j0 = 7 := by simpa using hj0
            clear hj0
            left
            obtain ⟨v1, wq25, hrun, ho1, hg1, hv1⟩ := run_append_rd (P := Try.prog) wq24 B 44 44 3 iI _ 8 Try.underlying44 KI1.out KI2.out KI3.out KI4.out (by rfl) _ 0 [] HO0.out wq24.heap.size (some ⟨gv, 0, none⟩) p cv2 ((ws.take p).flatMap iC) (by rw [flat_i, List.length_map, List.length_take]; have := HPW.out; omega) (rd_take HW4.out ELV.out p) (flat_one iC iC_one _) (by have := HPW.out; have := HWL.out; unfold maxLen; omega) (by have := HPW.out; have := HWL.out; omega) HN4.out.big
            have HV1 := Lib.hid (show ∀ k, v1.ownBlock = some k → G0 ≤ k from fun k hk => by
              rcases hv1 with g | g
              · exact HG0.out k (g ▸ hk)
              · rw [g] at hk; injection hk with hk; have := (World.ownsRow.lt HO0.out G0 rfl).2; omega)
            have hc1 : Chg (fun q => G0 ≤ q) wq24 wq25 := ⟨hg1.os, hg1.tape, hg1.output, hg1.size, fun i hi hn => hg1.block i hi (fun e => hn (HG0.out i e.symm))⟩
            rw [Nat.zero_add, List.nil_append] at ho1
            have hbw := HN4.out.big
            have HGW := Lib.hid (Nat.lt_of_lt_of_le (World.ownsRow.lt HO0.out G0 rfl).2 hc1.size)
            replace HN4 := Lib.hid (HN4.out.chg hc1 (fun k hk x => HNR.out k x hk))
            replace HW4 := Lib.hid (own_chg hc1 HW4.out (fun k hk x => by have := HNV.out k hk; omega))
            replace HB4 := Lib.hid (HB4.out.trans (hc1.below hbw (fun q _ hq => Nat.le_trans HBB.out hq)))
            have HO1 := Lib.hid ho1
            refine ⟨_, _, _, _, _, _, v1, wq25, rfl, by rfl, exec_app rfl rfl hrun, HCZ.out _ HB4.out, ?_⟩
            simp only [Act.put, Reg.s0, Reg.s1, Reg.s2]
            clear hbw hrun ho1 hg1 hv1 hc1 HO0
            refine Reg.both_all [15] (by kernel_rfl) (by simp) ?_
            intro j0 hj0
            obtain rfl : j0 = 15 := by simpa using hj0
            clear hj0
            left
            obtain ⟨v2, wq26, hrun, ho2, hg2, hv2⟩ := run_append_rd (P := Try.prog) wq25 B 44 44 3 iI _ 8 Try.underlying44 KI1.out KI2.out KI3.out KI4.out (by rfl) v1 p ((ws.take p).flatMap iC) HO1.out wq25.heap.size (some AD) (nw - (p + 1)) (cv2 - (p + 1)) ((ws.drop (p + 1)).flatMap iC) (by rw [drop_len, ENW.out]) (rd_drop HW4.out ELV.out (by have := HCV.out; rw [ENW.out] at this; exact this) HAD.out) (flat_one iC iC_one _) (by have := HPW.out; have := HWL.out; have := ENW.out; unfold maxLen; omega) (by have := HPW.out; have := HWL.out; have := ENW.out; omega) HN4.out.big
            have hc2 : Chg (fun q => G0 ≤ q) wq25 wq26 := ⟨hg2.os, hg2.tape, hg2.output, hg2.size, fun i hi hn => hg2.block i hi (fun e => hn (HV1.out i e.symm))⟩
            have HV2 := Lib.hid (show ∀ k, v2.ownBlock = some k → G0 ≤ k from fun k hk => by
              rcases hv2 with g | g
              · exact HV1.out k (g ▸ hk)
              · rw [g] at hk; injection hk with hk; have := HGW.out; omega)
            have hbw := HN4.out.big
            replace HN4 := Lib.hid (HN4.out.chg hc2 (fun k hk x => HNR.out k x hk))
            replace HB4 := Lib.hid (HB4.out.trans (hc2.below hbw (fun q _ hq => Nat.le_trans HBB.out hq)))
            have HO2 := Lib.hid ho2
            refine ⟨_, _, _, _, _, _, v2, wq26, rfl, by rfl, exec_app rfl rfl hrun, HCZ.out _ HB4.out, ?_⟩
            simp only [Act.put, Reg.s0, Reg.s1, Reg.s2]
            clear hbw hrun ho2 hg2 hv2 hc2 HO1 HW4
            refine Reg.tk 16 (v := ?vq27) rfl (HCZ.out _ HB4.out) (fun w' hS => ?hq27) ?rq27
            case hq27 => go_simp <;> rfl
            simp only [Act.put, Reg.s0, Reg.s1, Reg.s2]
            refine wpAnyH_done (by kernel_rfl) ?_ _
            go_wp2
            go_roundw
            case rel => exact ⟨i + 1, vw3, ws.eraseIdx p, by omega, by go_num, HB4.out, HN4.out, fun k hk => HWS.out k (List.mem_of_mem_eraseIdx hk), by rw [List.length_eraseIdx]; have := HWL.out; split <;> omega, (by have h := HO2.out; rw [← List.flatMap_append, erase_eq] at h; rw [List.length_eraseIdx, if_pos HPW.out, ← ENW.out]; have hh : p + (nw - (p + 1)) = nw - 1 := (by have := HPW.out; have := ENW.out; omega); rw [hh] at h; exact h), fun k hk => HNR.out k (HV2.out k hk)⟩
            case measure => simp [intOf]; omega
          · have hno : hasB ws.length z = false := by
              unfold hasB
              rw [← ENW.out, Bool.eq_false_iff]
              intro hx
              simp only [Bool.and_eq_true, decide_eq_true_eq] at hx
              exact hok hx
            have cp := pull_no B B vs vw2 es ws z _ HN.out hno
            obtain ⟨xs, exs⟩ : ∃ xs, xs = pkA pk0 none 0 := ⟨_, rfl⟩
            rw [← exs] at cp
            have HXS := Lib.hid (show xs.size = 3 by rw [exs, pkA_size])
            have HXI := Lib.hid (show (Try.prog.info? 32).map (·.size) = some xs.size by rw [exs]; exact pk_info)
            have HX1 := Lib.hid (show xs.all (·.oneCell') = true by rw [exs]; exact pkA_one _ _ _)
            have HOK := Lib.hid hok
            clear hok hno exs
            by_cases z0 : 0 ≤ z
            · have b0 : decide (0 ≤ z) = true := decide_eq_true z0
              have b1 : decide (z < (nw : Int)) = false := decide_eq_false (fun h => HOK.out ⟨z0, h⟩)
              go_wp2_with (first
                | (go_at_call 12; refine Calls.mono cp ?_; rintro e w3 ⟨rfl, hb⟩; clear cp kz; have HN3 := Lib.hid (HN.out.below hb); have HB3 := Lib.hid (HB.out.trans (hb.mono HN.out.big)); have kz := HCZ.out _ HB3.out; have HW3 := Lib.hid (apt_below HWV.out hb); clear hb HN HB HWV)
                | (refine Wh.store_new (by rfl) 32 (.tmp 9) (.tmp 52) (by rfl) 32 rfl xs (by rfl) (by rfl) (by rw [HXS.out]; rfl) HXI.out HX1.out ?_; rintro V hV hb; clear kz; have HN4 := Lib.hid (HN3.out.below hb); have HB4 := Lib.hid (HB3.out.trans (hb.mono HN3.out.big)); have kz := HCZ.out _ HB4.out; have HW4 := Lib.hid (apt_below HW3.out hb); clear hV hb HN3 HB3 HW3)
                | fail)
              go_roundw
              case rel => exact ⟨i + 1, vw2, ws, by omega, by go_num, HB4.out, HN4.out, HWS.out, HWL.out, (by rw [← EV6.out]; exact HW4.out), (by rw [← EV6.out]; exact HAP.out)⟩
              case measure => simp [intOf]; omega
            · have b0 : decide (0 ≤ z) = false := decide_eq_false z0
              go_wp2_with (first
                | (go_at_call 12; refine Calls.mono cp ?_; rintro e w3 ⟨rfl, hb⟩; clear cp kz; have HN3 := Lib.hid (HN.out.below hb); have HB3 := Lib.hid (HB.out.trans (hb.mono HN.out.big)); have kz := HCZ.out _ HB3.out; have HW3 := Lib.hid (apt_below HWV.out hb); clear hb HN HB HWV)
                | (refine Wh.store_new (by rfl) 32 (.tmp 9) (.tmp 52) (by rfl) 32 rfl xs (by rfl) (by rfl) (by rw [HXS.out]; rfl) HXI.out HX1.out ?_; rintro V hV hb; clear kz; have HN4 := Lib.hid (HN3.out.below hb); have HB4 := Lib.hid (HB3.out.trans (hb.mono HN3.out.big)); have kz := HCZ.out _ HB4.out; have HW4 := Lib.hid (apt_below HW3.out hb); clear hV hb HN3 HB3 HW3)
                | fail)
              go_roundw
              case rel => exact ⟨i + 1, vw2, ws, by omega, by go_num, HB4.out, HN4.out, HWS.out, HWL.out, (by rw [← EV6.out]; exact HW4.out), (by rw [← EV6.out]; exact HAP.out)⟩
              case measure => simp [intOf]; omega
        · have e1 : ¬ (i : Int) < (nl : Int) := by omega
          obtain rfl : nl = i := by omega
          go_wp2_with (first
            | (go_at_call 19; refine Calls.mono (CL.out _ _ _ HN.out) ?_; rintro e w7 ⟨rfl, hw⟩; have hw := hw.symm; subst hw; rw [← ENW.out]; clear CL)
            | (go_at_call 20; refine Calls.mono (CV.out _ _ _ HN.out) ?_; rintro e w8 ⟨v8, fs8, rfl, hls, hfs, hb⟩; clear CV; obtain ⟨A8, c8, rfl⟩ := ls_num hls hfs HLE.out; have HB8 := Lib.hid (HB.out.trans (hb.mono HN.out.big)); have HS8 := Lib.hid (Nat.le_trans HN.out.big hb.size); clear hb hls hfs)
            | (go_at_call 21; refine Calls.mono (CK.out _) ?_; rintro e w9 ⟨rfl, hb⟩; have HB9 := Lib.hid (HB8.out.trans (hb.mono HS8.out)); clear hb)
            | fail)
          go_ret
          exact ⟨rfl, by have h := HB9.out; rw [EB.out] at h; exact h⟩
theorem order_law (n:Int) (A:Option Addr) (l:List Int) (c:Nat) (w:World) (hr:Rd w w.heap.size A (l.map (Value.int .i64))) :
  Calls Try.prog 5 #[.int .i64 n,.slice A l.length c] w fun e w'=>e = .returned (.bool true)∧Below w.heap.size w w':=by
 by_cases h:0≤n∧n≤32∧l.length≤60
 ·obtain⟨m,rfl⟩:=Int.eq_ofNat_of_zero_le h.1
  exact order_in m A l c w (by omega) h.2.2 hr
 ·exact order_no n A l.length c w h
end Go.Proofs.Ytlihoeipmjbnbaa.Nt
end

section
namespace Go.Proofs.Ytlihoeipmjbnbaa.Open
open Go.ChangeShapes Go.WideShapes Go.ChangeAt Go.RowKit Go.Deep Go.Proofs.Ytlihoeipmjbnbaa.Mem
section
variable {H:Type} {enc:TypeId×Value→H} {P:Program} {W:World}
theorem open_i64s {t e:TypeId} {v:Value} {d:DataW H} {ps:List MemPlace} (ht:P.underlying t=some (.slice e)) (he:P.underlying e=some (.int .i64)) (hc:P.cellsOf e=1)
  (hv:∃A n c,v = .slice A n c) (h:DataW.Trod enc P W 0 (fun _=>true) true t v d ps):∃A zs c,v = .slice A (List.length zs) c∧Rd W W.heap.size A (zs.map (Value.int .i64))∧(∀z∈zs,(Lit.int .i64 z).wf=true)∧zs.length≤c∧c≤maxLen:=by
 obtain⟨A,n,c,rfl⟩:=hv
 obtain⟨fuel,hf⟩:=h
 rcases open_ints ht he hc hf with⟨hcs,_⟩ | ⟨x,l,c,zs,hcs,_,hl,hm,hz,_,hcell,hwz⟩
 ·injection hcs with hcs
  exact⟨none,[],0,hcs,.inl rfl,by simp,Nat.le_refl _,Nat.zero_le _⟩
 ·injection hcs with hcs
  simp only[if_true] at hz
  refine⟨some x,zs.take l,c,by rw[List.length_take,Nat.min_eq_left (by omega)];exact hcs,rd_of_cells fun i u hu=>?_,fun z hz'=>hwz z (List.mem_of_mem_take hz'),by rw[List.length_take];omega,hm⟩
  have hi:i<l:=by
   rcases Nat.lt_or_ge i l with g | g
   ·exact g
   ·rw[List.getElem?_eq_none (by simp;omega)] at hu;cases hu
  have hz2:i<zs.length:=by omega
  rw[hcell i hz2]
  simp only[List.getElem?_map,List.getElem?_take,if_pos hi,List.getElem?_eq_getElem hz2,Option.map_some] at hu
  rw[←hu,List.getD,List.getElem?_eq_getElem hz2,Option.getD_some]
end
end Go.Proofs.Ytlihoeipmjbnbaa.Open
end

section
namespace Go.Proofs.Ytlihoeipmjbnbaa.netOrder
open Go.ChangeShapes Go.WideShapes Go.ChangeAt Go.RowKit
open Go.ChangeMaps (open_string shut_string)
theorem own:ownKnob Try.prog.godebug=none:=by kernel_rfl
theorem laidOut:laidOutB Try.prog=true:=by kernel_rfl
set_option maxRecDepth 100000 in
theorem lifted (os:Os) (started:os.Started) (H:Type) (enc:TypeId×Value→H) :
  ReturnsInHanded {} Try.checked os 5 .any (Rows.netOrderSpec.pre6 enc Try.prog Try.f5 Rows.netOrderRow.domain false) (Rows.netOrderSpec.post enc Try.prog Try.f5 false true false false):=by
 refine returnsInHanded_of_change (C:=Try.checked) own started (by kernel_rfl) Try.func5
  (ChangeSpec.witness6 (enc:=enc) (C:=Try.checked) false ⟨#[],#[.int .i64 0,.slice none 0 0],[]⟩ 8 (by kernel_rfl) (by kernel_rfl) (by kernel_rfl) (by kernel_rfl)) ?_
 intro W base args ds gs before hval0 hW hcnd _
 have hval:∀(j:Nat) t v,Try.f5.params[j]? = some t→args[j]? = some v→Value.okWide Try.prog W .any base t v:=hval0
 have hW':=hW
 obtain⟨p,q,hA0,hV,rfl,hfz,hnd⟩:=hW
 have hA:DataW.TrodAll enc Try.prog W 0 (fun _=>true) true Try.f5.params.toList args.toList ds p:=hA0
 rw[Try.params5] at hA hval
 obtain⟨v0,vs0,d0,ds0,p0,q0,hargs,rfl,rfl,h0,r0⟩:=trodAll_cons hA
 obtain⟨v1,vs1,d1,ds1,p1,q1,rfl,rfl,rfl,h1,r1⟩:=trodAll_cons r0
 obtain⟨rfl,rfl,rfl⟩:=trodAll_nil r1
 obtain rfl:args=#[v0,v1]:=by cases args;simp_all
 obtain⟨rfl,rfl⟩:=trodVars_none hV
 obtain⟨a0,rfl,rfl,rfl,w0⟩:=open_int Try.underlying3 (hval 0 3 v0 rfl rfl) h0
 have k1:=h1
 have lt1:∀x∈p1,x.block<W.heap.size:=by obtain⟨m,hm⟩:=k1;exact DataW.trod_lt m _ _ _ hm
 obtain⟨A1,l1,c1,rfl,w1,z1,x1,y1⟩:=Open.open_i64s Try.underlying44 Try.underlying3 (by kernel_rfl) (okWide_slice Try.underlying44 (hval 1 44 v1 rfl rfl)) h1
 clear hA0 hval0
 refine(Nt.order_law a0 A1 l1 c1 W w1).mono fun e W' ⟨he,bel⟩=>?_
 subst he
 exact⟨_,rfl,_,_,_,[],_,[],hW',trodAll_mk1 (shut_bool Try.underlying4 _),(trodAll_cons_mk (shut_int Try.underlying3 w0) (trodAll_cons_mk (Below.trod laidOut (by kernel_rfl) (of_decide_eq_true (by kernel_rfl)) k1 bel lt1) trodAll_mk0)),rfl,bel.frame _,fun h=>by cases h⟩
theorem over:Rows.netOrderRow.holds Try.pinned (OpenSpec.ofChange Rows.netOrderSpec):=
 OpenClaim.holds_of_wide 5 Try.f5 rfl rfl rfl rfl rfl rfl rfl ⟨rfl,rfl,rfl,rfl,rfl⟩ rfl rfl rfl rfl rfl (by kernel_rfl) Try.func5 (by kernel_rfl)
  (of_decide_eq_true (by kernel_rfl)) (by unfold Func.isWrapper;first | (rw[if_pos (by decide +kernel)];kernel_rfl) | (rw[if_neg (by decide +kernel)];exact⟨rfl,rfl⟩))
  (fun os started H enc _=>lifted os started H enc)
theorem proved:Rows.NetOrderSaid:=over
end Go.Proofs.Ytlihoeipmjbnbaa.netOrder
end
