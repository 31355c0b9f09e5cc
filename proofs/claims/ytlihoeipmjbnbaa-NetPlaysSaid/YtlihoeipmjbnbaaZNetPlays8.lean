import Derived.Lib.SlBytesConst
import Derived.Test.YtlihoeipmjbnbaaProg
import Derived.StillTailTactics
import Derived.Deep.CutBlock
import Derived.Laws.StructEq
import Derived.Deep.RegionHeld3
import Derived.Deep.LoopGhost
import Derived.Test.YtlihoeipmjbnbaaZNetPlays1
import Derived.Test.YtlihoeipmjbnbaaZNetPlays2
import Derived.Test.YtlihoeipmjbnbaaZNetPlays3
import Derived.Test.YtlihoeipmjbnbaaZNetPlays4
section
set_option linter.unusedVariables false
set_option linter.unusedSimpArgs false
namespace Go.Proofs.Ytlihoeipmjbnbaa.Nt
open Go.RowKit Go.Proofs.Ytlihoeipmjbnbaa.Mem Go.Proofs.Ytlihoeipmjbnbaa.Se
open Go.Proofs.Ytlihoeipmjbnbaa.Nm (L)
open Go.Proofs.Ytlihoeipmjbnbaa.Ca (Own1 rd_chg row_blk row_mk)
open Go.Proofs.Ytlihoeipmjbnbaa.Rg (flat_len flat_at flat_one RdR own_rdr own_chg)
structure Sp (w w':World) (B r:Nat) (vs vw vs' vw':Value) (es es':List En) (ws':List Nat):Prop where
 nt:Nt w' B r vs' vw' es' ws'
 chg:Chg (NO r vs vw es) w w'
 new:∀q,NO r vs' vw' es' q→NO r vs vw es q∨w.heap.size≤q
section
variable {w w' w2:World} {B r:Nat} {vs vw vs' vw' vs2 vw2:Value} {es es' es2:List En} {ws ws' ws2:List Nat}
theorem Sp.low (h:Sp w w' B r vs vw vs' vw' es es' ws') (hn:Nt w B r vs vw es ws):Below B w w':=h.chg.below hn.big (fun k _ hk=>hn.own_lo hk)
theorem Sp.not (h:Sp w w' B r vs vw vs' vw' es es' ws') {k:Nat} (hk:¬NO r vs vw es k) (hl:k<w.heap.size):¬NO r vs' vw' es' k:=fun x=>by
 rcases h.new k x with y | y
 ·exact hk y
 ·omega
theorem Sp.of_below (hn:Nt w B r vs vw es ws) (hb:Below w.heap.size w w'):Sp w w' B r vs vw vs vw es es ws:=⟨hn.below hb,Chg.of_below hb,fun q hq=>.inl hq⟩
theorem Sp.after (hb:Below w.heap.size w w2) (h:Sp w2 w' B r vs vw vs' vw' es es' ws'):Sp w w' B r vs vw vs' vw' es es' ws':=
 ⟨h.nt,(Chg.of_below hb).trans h.chg (fun _ _ x=>x),fun q hq=>(h.new q hq).imp id (fun y=>Nat.le_trans hb.size y)⟩
end
def SentP (w:World) (B r:Nat) (vs vw:Value) (es:List En) (ws:List Nat) (p:Pk) (e:Ending) (w':World):Prop:=
 e = .returned (.bool true)∧∃vs' vw' A' c',Sp w w' B r vs vw vs' vw' es (es++[⟨p,A',c'⟩]) (ws++[es.length])
section
variable {w:World} {B r:Nat} {vs vw:Value} {es:List En} {ws:List Nat}
theorem send_b (h:Nt w B r vs vw es ws) (p:Pk) (A:Option Addr) (c:Nat) (hr:Rd w w.heap.size A (bvs p.b)) (hn:bvs p.b≠[]→∀a,A=some a→¬NO r vs vw es a.block) (h1:ws.length<32) (h2:1≤p.b.length) (h3:p.b.length≤2000) (h4:es.length≤50000) :
  Calls Try.prog 10 #[.pointer (some ⟨r,0,none⟩),.agg (pkA p A c)] w (SentP w B r vs vw es ws p):=by
 refine(send_ok B r vs vw es ws p A c w h (rd_nt hr (fun hx a ha x=>hn hx a ha (nt_no x))) h1 h2 h3 h4).mono ?_
 rintro e w' ⟨rfl,vs',vw',A',c',k1,k2,k3⟩
 exact⟨rfl,vs',vw',A',c',⟨k1,k2.mono (fun q _ x=>nt_no x),k3⟩⟩
theorem send_lit (h:Nt w B r vs vw es ws) (f t:Int) (b:UInt8) (m:Nat×Nat) (h1:ws.length<32) (h4:es.length≤50000) :
  Calls Try.prog 10 #[.pointer (some ⟨r,0,none⟩),.agg #[.int .i64 f,.int .i64 t,.slice (some ⟨w.heap.size,0,none⟩) 1 1]] (w.alloc (.cells #[bv b] 5 m)) (SentP w B r vs vw es ws ⟨f,t,[b]⟩):=by
 have hb:Below w.heap.size w (w.alloc (.cells #[bv b] 5 m)):=(Below.refl _ _).alloc (Nat.le_refl _) _
 have hnew:=heap_alloc_new w (.cells #[bv b] 5 m)
 have hbk:=fun i=>cell_of_row (w.alloc (.cells #[bv b] 5 m)) w.heap.size i #[bv b] 5 m hnew
 refine(send_b (h.below hb) ⟨f,t,[b]⟩ (some ⟨w.heap.size,0,none⟩) 1 (.inr ⟨w.heap.size,0,rfl,by simp,fun i u hu=>?_⟩) (fun _ a ha x=>?_) h1 (by simp) (by simp) h4).mono ?_
 ·rw[Nat.zero_add,hbk i]
  simpa [bvs] using hu
 ·injection ha with ha
  subst ha
  exact h.not (Nat.le_refl _) x
 ·rintro e w' ⟨rfl,vs',vw',A',c',k⟩
  exact⟨rfl,vs',vw',A',c',k.after hb⟩
theorem twice_b (h:Nt w B r vs vw es ws) (i k:Nat) (hi:ws[i]? = some k) (h1:ws.length<32) :
  Calls Try.prog 15 #[.pointer (some ⟨r,0,none⟩),.int .i64 (i:Int)] w fun e w'=>e = .returned (.bool true)∧∃vw',Sp w w' B r vs vw vs vw' es es (ws++[k]):=by
 refine(twice_ok B r vs vw es ws i k w h hi h1).mono ?_
 rintro e w' ⟨rfl,vw',k1,k2,k3⟩
 exact⟨rfl,vw',⟨k1,k2.mono (fun q _ x=>nt_no x),k3⟩⟩
theorem pull_b (h:Nt w B r vs vw es ws) (i k:Nat) (x:En) (hi:ws[i]? = some k) (hx:es[k]? = some x) (hl:x.p.b.length≤100000000000) (hn:ws.length≤1000) :
  Calls Try.prog 12 #[.pointer (some ⟨r,0,none⟩),.int .i64 (i:Int)] w fun e w'=>∃A' c' vw',e = .returned (.tuple #[.agg (pkA x.p A' c'),.bool true])∧Own1 w w' A' (bvs x.p.b)∧Sp w w' B r vs vw vs vw' es es (ws.eraseIdx i):=by
 refine(pull_ok B r vs vw es ws i k x w h hi hx hl hn).mono ?_
 rintro e w' ⟨A',c',vw',rfl,k0,k1,k2,k3⟩
 refine⟨A',c',vw',rfl,k0,⟨k1,k2.mono (fun q _ x=>nt_no x),fun q hq=>.inl ?_⟩⟩
 rcases hq with hq | hq | hq | hq
 ·exact .inl hq
 ·exact .inr (.inl hq)
 ·exact .inr (.inr (.inl (k3▸hq)))
 ·exact .inr (.inr (.inr hq))
end
set_option maxHeartbeats 1600000 in
set_option maxRecDepth 100000 in
theorem known_any (w:World):Calls Try.prog 21 #[] w fun e w'=>e = .returned (.bool true)∧Below w.heap.size w w':=by
 have C0:=Lib.hid (nt_new w.heap.size w (Nat.le_refl _))
 have HL:=Lib.hid (fun(r:Nat) (w1:World) (vs vw:Value) (h:Nt w1 w.heap.size r vs vw [] [])=>send_lit h 0 1 120 (1,2) (by simp) (by simp))
 have HT:=Lib.hid (fun(r:Nat) (w1:World) (vs vw:Value) (x:En) (h:Nt w1 w.heap.size r vs vw [x] [0])=>twice_b h 0 0 rfl (by simp))
 have HS:=Lib.hid (fun(r:Nat) (w1:World) (vs vw:Value) (x:En) (h:Nt w1 w.heap.size r vs vw [x] [0,0])=>send_no w.heap.size r vs vw [x] [0,0] ⟨0,1,[]⟩ none 0 w1 h (by simp))
 have HE:=Lib.hid (fun(r:Nat) (w1:World) (vs vw:Value) (x:En) (h:Nt w1 w.heap.size r vs vw [x] [0,0])=>nt_len w.heap.size r vs vw [x] [0,0] w1 h)
 have HV:=Lib.hid (fun(r:Nat) (w1:World) (vs vw:Value) (x:En) (h:Nt w1 w.heap.size r vs vw [x] [0,0]) (hx:x.p.b.length≤2000)=>seen_any w.heap.size r vs vw [x] [0,0] w1 h (fun e he=>by rw[List.mem_singleton] at he;subst he;exact hx) (by simp))
 have kc:=fun(w:World) (C:Array Value) (n c:Nat)=>Lib.run_convert_bytes_const (P:=Try.prog) w 30 5 C n c Try.underlying30 Try.underlying5
 go_enter Try.func21,Try.ntmps21
 go_wp2_with (first
  |(go_at_call 9;refine Calls.mono C0.out ?_;rintro e w1 ⟨rfl,hn,hb,hsz⟩;clear C0;have HN1:=Lib.hid hn;have HB1:=Lib.hid hb;clear hn hb hsz)
  |(go_at_call 10;refine Calls.mono (HL.out _ _ _ _ HN1.out) ?_;rintro e w2 ⟨rfl,vs2,vw2,A2,c2,hs⟩;clear HL;have HN2:=Lib.hid hs.nt;have HB2:=Lib.hid (HB1.out.trans (hs.low HN1.out));clear hs HN1 HB1)
  |(go_at_call 15;refine Calls.mono (HT.out _ _ _ _ _ HN2.out) ?_;rintro e w3 ⟨rfl,vw3,hs⟩;clear HT;have HN3:=Lib.hid hs.nt;have HB3:=Lib.hid (HB2.out.trans (hs.low HN2.out));clear hs HN2 HB2)
  |(go_at_call 10;refine Calls.mono (HS.out _ _ _ _ _ HN3.out) ?_;rintro e w4 ⟨rfl,hb⟩;clear HS;have HN4:=Lib.hid (HN3.out.below hb);have HB4:=Lib.hid (HB3.out.trans (hb.mono HB3.out.size));clear hb HN3 HB3)
  |(go_at_call 19;refine Calls.mono (HE.out _ _ _ _ _ HN4.out) ?_;rintro e w5 ⟨rfl,hw⟩;have hw:=hw.symm;subst hw;clear HE)
  |(go_at_call 20;refine Calls.mono (HV.out _ _ _ _ _ HN4.out (by simp)) ?_;rintro e w6 ⟨v6,fs6,rfl,hls,hfs,hb⟩;clear HV;obtain⟨A6,c6,e6,_⟩:=own_rdr enC_length hls.row;have h1:fs6.length=1:=(by have:=congrArg List.length hfs;rw[pks_length] at this;exact this);rw[h1] at e6;subst e6;have HB6:=Lib.hid (HB4.out.trans (hb.mono HB4.out.size));clear hb hls hfs h1)
  |fail)
 go_ret
 exact⟨rfl,HB6.out⟩
end Go.Proofs.Ytlihoeipmjbnbaa.Nt
end

section
set_option linter.unusedVariables false
set_option linter.unusedSimpArgs false
namespace Go.Proofs.Ytlihoeipmjbnbaa.Nt
open Go.RowKit Go.Proofs.Ytlihoeipmjbnbaa.Mem Go.Proofs.Ytlihoeipmjbnbaa.Se
open Go.Proofs.Ytlihoeipmjbnbaa.Nm (L)
open Go.Proofs.Ytlihoeipmjbnbaa.Ca (Own1 rd_chg row_blk row_mk)
open Go.Proofs.Ytlihoeipmjbnbaa.Rg (flat_len flat_at flat_one RdR own_rdr own_chg)
theorem ls_num {a w:World} {v:Value} {fs es:List En} {n:Nat} (h:Ls a w v fs) (he:pks fs=pks es) (hn:es.length=n):∃A c,v = .slice A n c:=by
 obtain⟨A,c,e,_⟩:=own_rdr enC_length h.row
 have:fs.length=n:=by have:=congrArg List.length he;rw[pks_length,pks_length] at this;omega
 rw[this] at e
 exact⟨A,c,e⟩
end Go.Proofs.Ytlihoeipmjbnbaa.Nt
end
