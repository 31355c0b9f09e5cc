/-
  The statement of NetFull: the walk's contract carried to the row: for every input the call answers true, and each argument reads as it did.
-/
import Derived.Test.YtlihoeipmjbnbaaProg
import Derived.Deep.RegionHeld3
import Derived.StillTailTactics
import Derived.Deep.CutBlock
import Derived.OwnWalk
import Derived.ProofKit
import Derived.OpenShut
import Derived.ShutString
import Derived.ChangeOld
import Derived.Deep.Matrix
import Derived.Deep.Slices
import Derived.Deep.LoopGhost
import Derived.Laws.StructEq
import Derived.Lib.SlBytesConst
import Derived.Test.YtlihoeipmjbnbaaRows
import Derived.WalkKit
import Derived.Below
import Derived.Test.YtlihoeipmjbnbaaZNetFull1
import Derived.Test.YtlihoeipmjbnbaaZNetFull2
import Derived.Test.YtlihoeipmjbnbaaZNetFull3
section
set_option linter.unusedVariables false
set_option linter.unusedSimpArgs false
namespace Go.Proofs.Ytlihoeipmjbnbaa.Nt
open Go.RowKit Go.Proofs.Ytlihoeipmjbnbaa.Mem Go.Proofs.Ytlihoeipmjbnbaa.Se
open Go.Proofs.Ytlihoeipmjbnbaa.Nm (L)
open Go.Proofs.Ytlihoeipmjbnbaa.Ca (Own1 rd_chg)
open Go.Proofs.Ytlihoeipmjbnbaa.Rg (flat_at RdR own_rdr own_chg)
structure Ls (a w:World) (v:Value) (fs:List En):Prop where
 row:w.ownsRow a.heap.size 32 3 v fs.length (fs.flatMap enC)
 rd:∀f∈fs,Own1 a w f.A (bvs f.p.b)
 off:∀f∈fs,∀p,f.A=some p→v.ownBlock≠some p.block
section
variable {a w w' w5 w6:World} {v v6:Value} {fs:List En} {e:En}
theorem Ls.below (h:Ls a w v fs) (hb:Below w.heap.size w w'):Ls a w' v fs:=
 ⟨own_chg (S:=fun _=>False) (Chg.of_below hb) h.row (fun _ _ x=>x),fun f hf=>(h.rd f hf).below hb,h.off⟩
theorem ls_add (h:Ls a w5 v fs) (hn:Own1 a w5 e.A (bvs e.p.b)) (hne:∀p,e.A=some p→v.ownBlock≠some p.block) (ho:w6.ownsRow a.heap.size 32 3 v6 (fs++[e]).length ((fs++[e]).flatMap enC)) (hg:w5.grownBy w6 v.ownBlock) (hv:v6.ownBlock=v.ownBlock∨v6.ownBlock=some w5.heap.size) :
  Ls a w6 v6 (fs++[e]):=by
 have hc:Chg (fun q=>v.ownBlock=some q) w5 w6:=⟨hg.os,hg.tape,hg.output,hg.size,fun i hi hn=>hg.block i hi (fun e=>hn e.symm)⟩
 have hmem:∀y,y∈fs++[e]→y∈fs∨y=e:=fun y hy=>by simpa using hy
 refine⟨ho,fun f hf=>?_,fun f hf p hp x=>?_⟩
 ·rcases hmem f hf with hf | rfl
  ·exact(h.rd f hf).chg hc (fun p hp x=>h.off f hf p hp x)
  ·exact hn.chg hc (fun p hp x=>hne p hp x)
 ·rcases hmem f hf with hf | rfl
  ·rcases hv with g | g
   ·rw[g] at x;exact h.off f hf p hp x
   ·rw[g] at x;injection x with x;have:=((h.rd f hf).2 p hp).2;omega
  ·rcases hv with g | g
   ·rw[g] at x;exact hne p hp x
   ·rw[g] at x;injection x with x;have:=(hn.2 p hp).2;omega
end
theorem pks_take {fs es:List En} {i:Nat} {x e:En} (h:pks fs=(pks es).take i) (hx:es[i]? = some x) (he:e.p=x.p):pks (fs++[e])=(pks es).take (i+1):=by
 have h2:(pks es)[i]? = some x.p:=by simp [pks,hx]
 rw[List.take_add_one,h2,←h]
 simp [pks,he]
set_option maxHeartbeats 3200000 in
set_option maxRecDepth 100000 in
theorem seen_any (B r:Nat) (vs vw:Value) (es:List En) (ws:List Nat) (w:World) (h:Nt w B r vs vw es ws) (hsz:∀e∈es,e.p.b.length≤2000) (hl:es.length≤50000) :
  Calls Try.prog 20 #[.pointer (some ⟨r,0,none⟩)] w fun e w'=>∃v fs,e = .returned v∧Ls w w' v fs∧pks fs=pks es∧Below w.heap.size w w':=by
 obtain⟨A0,c0,evs,_,_,hrs⟩:=h.num
 obtain⟨n,en⟩:∃n,n=es.length:=⟨_,rfl⟩
 have EN:=Lib.hid en
 have k0:=h.c0
 rw[evs,←en] at k0
 have HR:=Lib.hid hrs
 have HSZ:=Lib.hid hsz
 have HN:=Lib.hid h
 rw[←en] at hl
 have HL:=Lib.hid hl
 obtain⟨iP,hiP,hzP,hsP,hbP⟩:=info_parts pk_all
 have KP1:=Lib.hid hiP;have KP2:=Lib.hid hzP;have KP3:=Lib.hid hsP;have KP4:=Lib.hid hbP
 clear h evs hrs en hsz hl hiP hzP hsP hbP
 obtain⟨N,eN⟩:∃N,N=w.heap.size:=⟨_,rfl⟩
 have EN2:=Lib.hid eN
 go_enter Try.func20,Try.ntmps20
 go_upto_region 4 with(first
  |(refine wpList_make_own _ rfl (.const (.int .i64 0)) (.tmp 12) 27 rfl w.heap.size 32 iP _ 3 Try.underlying27 KP1.out KP2.out KP3.out .i64 .i64 (n:Int) n (by rfl) (by rfl) rfl (by rw[KP4.out];have:=HL.out;omega) (by have:=HL.out;unfold maxLen;omega) (Nat.le_refl _) ?_;intro w1 ho hg;have HB:=Lib.hid (below_of_g hg);have HLS:=Lib.hid (⟨ho,(fun f hf=>by cases hf),(fun f hf=>by cases hf)⟩:Ls w w1 (.slice (some ⟨w.heap.size,0,none⟩) 0 n) []);replace k0:=(HB.out.cell (p:=⟨r,0,none⟩) HN.out.lt).trans k0;clear ho hg)
  |fail)
 go_wp2
 go_loopw [19,3] (fun iv lv wr=>∃(i:Nat) (fs:List En),i≤n∧iv = .int .i64 (i:Int)∧Below w.heap.size w wr∧Ls w wr lv fs∧pks fs=(pks es).take i) (fun iv lv _=>n - (intOf iv).toNat)
 case atStart=>exact⟨0,[],Nat.zero_le _,rfl,HB.out,HLS.out,rfl⟩
 case round=>
  clear HB HLS k0
  obtain⟨i,fs,hi,rfl,hb,hls,hfs⟩:=hrel
  have HB:=Lib.hid hb;have HLS:=Lib.hid hls;have HFS:=Lib.hid hfs
  obtain⟨Av,cv,elv,_⟩:=own_rdr enC_length hls.row
  have HFL:=Lib.hid (show fs.length=i by have:=congrArg List.length hfs;rw[pks_length,List.length_take,pks_length,←EN.out] at this;omega)
  have ELV:=Lib.hid elv
  clear hb hls hfs
  by_cases hlt:i<n
  ·have e1:(i:Int)<(n:Int):=by omega
   have e2:(0:Int)≤(i:Int):=by omega
   have e9:(i:Int)<50000:=by have:=HL.out;omega
   obtain⟨x,hx⟩:∃x,es[i]? = some x:=⟨es[i]'(by rw[←EN.out];exact hlt),List.getElem?_eq_getElem _⟩
   have HX:=Lib.hid hx
   have HM:=Lib.hid (List.mem_of_getElem? hx)
   obtain⟨gs,rfl,hgl,hra0⟩:=HR.out.at_ hx
   obtain⟨xs,exs⟩:∃xs,xs=pkA x.p x.A x.c:=⟨_,rfl⟩
   have HRA:=Lib.hid (show wr.rangeAt gs (i*3) xs.toList from fun j u hu=>(HB.out.cell (p:=⟨gs,_,none⟩) hgl).trans (hra0 j u (by rw[exs] at hu;exact hu)))
   have HXS:=Lib.hid (show xs.size=3 by rw[exs];rfl)
   have HXI:=Lib.hid (show(Try.prog.info? 32).map (·.size)=some xs.size by rw[exs];exact pk_info)
   have HX1:=Lib.hid (show xs.all (·.oneCell')=true by rw[exs];exact pkA_one _ _ _)
   have CX:=Lib.hid (fun(w1:World) (hb:Below w.heap.size w w1)=>clone_pk x.p x.A x.c w1.heap.size w1 ((HN.out.below hb).rd x HM.out) (Nat.le_refl _) (by have:=HSZ.out x HM.out;omega))
   rw[←exs] at CX
   have SP:=Lib.hid (fun(w1:World) (A':Option Addr) (c':Nat)=>Wh.run_build_one (P:=Try.prog) w1 27 32 (pkA x.p A' c') iP _ Try.underlying27 KP1.out KP2.out (by rw[KP3.out];rfl) (by rw[pkA_size];omega) (by rw[pkA_size];omega))
   clear hx hra0 exs hlt
   go_wp2_with (first
    |(refine Wh.load_g (by rfl) 32 (.tmp 21) (by rfl) gs _ (by rfl) xs _ HRA.out Try.underlying32 (by rfl) HXI.out ?_)
    |(refine Wh.store_new (by rfl) 32 (.tmp 5) (.tmp 22) (by rfl) 32 rfl xs (by rfl) (by rfl) (by rw[HXS.out];rfl) HXI.out HX1.out ?_;rintro V hV hb;have HP:=Lib.hid hV;replace HLS:=Lib.hid (HLS.out.below hb);replace HB:=Lib.hid (HB.out.trans (hb.mono HB.out.size));clear hV hb)
    |(refine Wh.load_g (by rfl) 32 (.tmp 5) (by rfl) _ 0 (by rfl) xs _ (Wh.range_blk HP.out) Try.underlying32 (by rfl) HXI.out ?_)
    |(go_at_call 23;refine Calls.mono (CX.out _ HB.out) ?_;rintro e w2 ⟨A',c',rfl,ho,hb⟩;have HO:=Lib.hid (ho.since HB.out.size);have HNE:=Lib.hid (show ∀p,A'=some p→u3.ownBlock≠some p.block from fun p hp x=>by have h1:=(World.ownsRow.lt HLS.out.row _ x).2;have h2:=(ho.2 p hp).1;omega);replace HLS:=Lib.hid (HLS.out.below hb);replace HB:=Lib.hid (HB.out.trans (hb.mono HB.out.size));obtain⟨ys,eys⟩:∃ys,ys=pkA x.p A' c':=⟨_,rfl⟩;rw[←eys];have EYS:=Lib.hid eys;have HYS:=Lib.hid (show ys.size=3 by rw[eys];rfl);have HNL:=Lib.hid (show ∀p,A'=some p→p.block<w2.heap.size from fun p hp=>(HO.out.2 p hp).2);clear ho hb CX eys)
    |(refine Wh.build_one (by rfl) 27 32 (.tmp 25) (by rfl) ys (by rfl) iP _ Try.underlying27 KP1.out KP2.out (by rw[KP3.out,HYS.out]) (by rw[HYS.out];omega) (by rw[HYS.out];omega) ?_;rintro W3 hW;have hb:Below w2.heap.size w2 W3:=hW▸(Below.refl _ _).alloc (Nat.le_refl _) _;have HNB:=Lib.hid (show Blk W3 w2.heap.size 32 (enC (⟨x.p,A',c'⟩:En)).toArray from(EYS.out▸hW▸Blk.new w2 _ ys:Blk W3 w2.heap.size 32 (pkA x.p A' c')));replace HLS:=Lib.hid (HLS.out.below hb);replace HO:=Lib.hid (HO.out.below hb);replace HB:=Lib.hid (HB.out.trans (hb.mono HB.out.size));clear hb hW)
    |(refine Wh.app_one (P:=Try.prog) enC 3 40 enC_length enC_one (by rfl) (.tmp 23) (.tmp 26) 27 32 (by rfl) iP _ Try.underlying27 KP1.out KP2.out KP3.out KP4.out (by rfl) (by omega) (by omega) w.heap.size u3 fs (by rw[ELV.out];rfl) HLS.out.row (⟨x.p,A',c'⟩:En) w2.heap.size (by rfl) HNB.out (by have:=HFL.out;have:=HL.out;omega) HB.out.size ?_;intro v6 w6 ho6 hg6 hv6;have HL6:=Lib.hid (ls_add (e:=⟨x.p,A',c'⟩) HLS.out HO.out HNE.out ho6 hg6 hv6);have HB6:=Lib.hid (HB.out.trans (⟨hg6.os,hg6.tape,hg6.output,hg6.size,fun i hi=>hg6.block i (Nat.lt_of_lt_of_le hi HB.out.size) (fun e=>by have:=(World.ownsRow.lt HLS.out.row _ e.symm).1;omega)⟩:Below w.heap.size W3 w6));clear ho6 hg6 hv6)
    |fail)
   go_roundw
   case rel=>exact⟨i+1,fs++[(⟨x.p,A',c'⟩:En)],by omega,by go_num,HB6.out,HL6.out,pks_take HFS.out HX.out rfl⟩
   case measure=>simp [intOf];omega
  ·have e1:¬(i:Int)<(n:Int):=by omega
   obtain rfl:n=i:=by omega
   go_wp2
   go_ret
   exact⟨_,rfl,fs,(by rw[←ELV.out];exact HLS.out),by rw[HFS.out,EN.out,←pks_length,List.take_length],HB.out⟩
end Go.Proofs.Ytlihoeipmjbnbaa.Nt
end

section
set_option linter.unusedVariables false
set_option linter.unusedSimpArgs false
namespace Go.Proofs.Ytlihoeipmjbnbaa.Nt
open Go.RowKit Go.Proofs.Ytlihoeipmjbnbaa.Mem Go.Proofs.Ytlihoeipmjbnbaa.Se
open Go.Proofs.Ytlihoeipmjbnbaa.Nm (L)
open Go.Proofs.Ytlihoeipmjbnbaa.Ca (Own1 rd_chg)
open Go.Proofs.Ytlihoeipmjbnbaa.Rg (flat_at RdR own_rdr own_chg)
structure Sp (w w':World) (B r:Nat) (vs vw vs' vw':Value) (es es':List En) (ws':List Nat):Prop where
 nt:Nt w' B r vs' vw' es' ws'
 chg:Chg (NO r vs vw es) w w'
 new:∀q,NO r vs' vw' es' q→NO r vs vw es q∨w.heap.size≤q
section
variable {w w' w2:World} {B r:Nat} {vs vw vs' vw' vs2 vw2:Value} {es es' es2:List En} {ws ws' ws2:List Nat}
theorem Sp.low (h:Sp w w' B r vs vw vs' vw' es es' ws') (hn:Nt w B r vs vw es ws):Below B w w':=h.chg.below hn.big (fun k _ hk=>hn.own_lo hk)
theorem Sp.not (h:Sp w w' B r vs vw vs' vw' es es' ws') {k:Nat} (hk:¬NO r vs vw es k) (hl:k<w.heap.size):¬NO r vs' vw' es' k:=fun x=>by
 rcases h.new k x with y | y
 ·exact hk y
 ·omega
theorem Sp.of_below (hn:Nt w B r vs vw es ws) (hb:Below w.heap.size w w'):Sp w w' B r vs vw vs vw es es ws:=⟨hn.below hb,Chg.of_below hb,fun q hq=>.inl hq⟩
theorem Sp.after (hb:Below w.heap.size w w2) (h:Sp w2 w' B r vs vw vs' vw' es es' ws'):Sp w w' B r vs vw vs' vw' es es' ws':=
 ⟨h.nt,(Chg.of_below hb).trans h.chg (fun _ _ x=>x),fun q hq=>(h.new q hq).imp id (fun y=>Nat.le_trans hb.size y)⟩
end
def SentP (w:World) (B r:Nat) (vs vw:Value) (es:List En) (ws:List Nat) (p:Pk) (e:Ending) (w':World):Prop:=
 e = .returned (.bool true)∧∃vs' vw' A' c',Sp w w' B r vs vw vs' vw' es (es++[⟨p,A',c'⟩]) (ws++[es.length])
section
variable {w:World} {B r:Nat} {vs vw:Value} {es:List En} {ws:List Nat}
theorem send_b (h:Nt w B r vs vw es ws) (p:Pk) (A:Option Addr) (c:Nat) (hr:Rd w w.heap.size A (bvs p.b)) (hn:bvs p.b≠[]→∀a,A=some a→¬NO r vs vw es a.block) (h1:ws.length<32) (h2:1≤p.b.length) (h3:p.b.length≤2000) (h4:es.length≤50000) :
  Calls Try.prog 10 #[.pointer (some ⟨r,0,none⟩),.agg (pkA p A c)] w (SentP w B r vs vw es ws p):=by
 refine(send_ok B r vs vw es ws p A c w h (rd_nt hr (fun hx a ha x=>hn hx a ha (nt_no x))) h1 h2 h3 h4).mono ?_
 rintro e w' ⟨rfl,vs',vw',A',c',k1,k2,k3⟩
 exact⟨rfl,vs',vw',A',c',⟨k1,k2.mono (fun q _ x=>nt_no x),k3⟩⟩
theorem send_lit (h:Nt w B r vs vw es ws) (f t:Int) (b:UInt8) (m:Nat×Nat) (h1:ws.length<32) (h4:es.length≤50000) :
  Calls Try.prog 10 #[.pointer (some ⟨r,0,none⟩),.agg #[.int .i64 f,.int .i64 t,.slice (some ⟨w.heap.size,0,none⟩) 1 1]] (w.alloc (.cells #[bv b] 5 m)) (SentP w B r vs vw es ws ⟨f,t,[b]⟩):=by
 have hb:Below w.heap.size w (w.alloc (.cells #[bv b] 5 m)):=(Below.refl _ _).alloc (Nat.le_refl _) _
 have hnew:=heap_alloc_new w (.cells #[bv b] 5 m)
 have hbk:=fun i=>cell_of_row (w.alloc (.cells #[bv b] 5 m)) w.heap.size i #[bv b] 5 m hnew
 refine(send_b (h.below hb) ⟨f,t,[b]⟩ (some ⟨w.heap.size,0,none⟩) 1 (.inr ⟨w.heap.size,0,rfl,by simp,fun i u hu=>?_⟩) (fun _ a ha x=>?_) h1 (by simp) (by simp) h4).mono ?_
 ·rw[Nat.zero_add,hbk i]
  simpa [bvs] using hu
 ·injection ha with ha
  subst ha
  exact h.not (Nat.le_refl _) x
 ·rintro e w' ⟨rfl,vs',vw',A',c',k⟩
  exact⟨rfl,vs',vw',A',c',k.after hb⟩
theorem twice_b (h:Nt w B r vs vw es ws) (i k:Nat) (hi:ws[i]? = some k) (h1:ws.length<32) :
  Calls Try.prog 15 #[.pointer (some ⟨r,0,none⟩),.int .i64 (i:Int)] w fun e w'=>e = .returned (.bool true)∧∃vw',Sp w w' B r vs vw vs vw' es es (ws++[k]):=by
 refine(twice_ok B r vs vw es ws i k w h hi h1).mono ?_
 rintro e w' ⟨rfl,vw',k1,k2,k3⟩
 exact⟨rfl,vw',⟨k1,k2.mono (fun q _ x=>nt_no x),k3⟩⟩
end
set_option maxHeartbeats 1600000 in
set_option maxRecDepth 100000 in
theorem known_any (w:World):Calls Try.prog 21 #[] w fun e w'=>e = .returned (.bool true)∧Below w.heap.size w w':=by
 have C0:=Lib.hid (nt_new w.heap.size w (Nat.le_refl _))
 have HL:=Lib.hid (fun(r:Nat) (w1:World) (vs vw:Value) (h:Nt w1 w.heap.size r vs vw [] [])=>send_lit h 0 1 120 (1,2) (by simp) (by simp))
 have HT:=Lib.hid (fun(r:Nat) (w1:World) (vs vw:Value) (x:En) (h:Nt w1 w.heap.size r vs vw [x] [0])=>twice_b h 0 0 rfl (by simp))
 have HS:=Lib.hid (fun(r:Nat) (w1:World) (vs vw:Value) (x:En) (h:Nt w1 w.heap.size r vs vw [x] [0,0])=>send_no w.heap.size r vs vw [x] [0,0] ⟨0,1,[]⟩ none 0 w1 h (by simp))
 have HE:=Lib.hid (fun(r:Nat) (w1:World) (vs vw:Value) (x:En) (h:Nt w1 w.heap.size r vs vw [x] [0,0])=>nt_len w.heap.size r vs vw [x] [0,0] w1 h)
 have HV:=Lib.hid (fun(r:Nat) (w1:World) (vs vw:Value) (x:En) (h:Nt w1 w.heap.size r vs vw [x] [0,0]) (hx:x.p.b.length≤2000)=>seen_any w.heap.size r vs vw [x] [0,0] w1 h (fun e he=>by rw[List.mem_singleton] at he;subst he;exact hx) (by simp))
 have kc:=fun(w:World) (C:Array Value) (n c:Nat)=>Lib.run_convert_bytes_const (P:=Try.prog) w 30 5 C n c Try.underlying30 Try.underlying5
 go_enter Try.func21,Try.ntmps21
 go_wp2_with (first
  |(go_at_call 9;refine Calls.mono C0.out ?_;rintro e w1 ⟨rfl,hn,hb,hsz⟩;clear C0;have HN1:=Lib.hid hn;have HB1:=Lib.hid hb;clear hn hb hsz)
  |(go_at_call 10;refine Calls.mono (HL.out _ _ _ _ HN1.out) ?_;rintro e w2 ⟨rfl,vs2,vw2,A2,c2,hs⟩;clear HL;have HN2:=Lib.hid hs.nt;have HB2:=Lib.hid (HB1.out.trans (hs.low HN1.out));clear hs HN1 HB1)
  |(go_at_call 15;refine Calls.mono (HT.out _ _ _ _ _ HN2.out) ?_;rintro e w3 ⟨rfl,vw3,hs⟩;clear HT;have HN3:=Lib.hid hs.nt;have HB3:=Lib.hid (HB2.out.trans (hs.low HN2.out));clear hs HN2 HB2)
  |(go_at_call 10;refine Calls.mono (HS.out _ _ _ _ _ HN3.out) ?_;rintro e w4 ⟨rfl,hb⟩;clear HS;have HN4:=Lib.hid (HN3.out.below hb);have HB4:=Lib.hid (HB3.out.trans (hb.mono HB3.out.size));clear hb HN3 HB3)
  |(go_at_call 19;refine Calls.mono (HE.out _ _ _ _ _ HN4.out) ?_;rintro e w5 ⟨rfl,hw⟩;have hw:=hw.symm;subst hw;clear HE)
  |(go_at_call 20;refine Calls.mono (HV.out _ _ _ _ _ HN4.out (by simp)) ?_;rintro e w6 ⟨v6,fs6,rfl,hls,hfs,hb⟩;clear HV;obtain⟨A6,c6,e6,_⟩:=own_rdr enC_length hls.row;have h1:fs6.length=1:=(by have:=congrArg List.length hfs;rw[pks_length] at this;exact this);rw[h1] at e6;subst e6;have HB6:=Lib.hid (HB4.out.trans (hb.mono HB4.out.size));clear hb hls hfs h1)
  |fail)
 go_ret
 exact⟨rfl,HB6.out⟩
end Go.Proofs.Ytlihoeipmjbnbaa.Nt
end

section
set_option linter.unusedVariables false
set_option linter.unusedSimpArgs false
namespace Go.Proofs.Ytlihoeipmjbnbaa.Nt
open Go.RowKit Go.Proofs.Ytlihoeipmjbnbaa.Mem Go.Proofs.Ytlihoeipmjbnbaa.Se
open Go.Proofs.Ytlihoeipmjbnbaa.Nm (L)
open Go.Proofs.Ytlihoeipmjbnbaa.Ca (Own1 rd_chg)
open Go.Proofs.Ytlihoeipmjbnbaa.Rg (flat_at RdR own_rdr own_chg)
def zer (s:Nat):L:=List.replicate s 0
theorem zer_length (s:Nat):(zer s).length=s:=by simp [zer]
theorem zer_bvs (s:Nat):(bvs (zer s)).toArray=zeros s:=by simp [bvs,zer,zeros]
theorem send_zeros {w:World} {B r:Nat} {vs vw:Value} {es:List En} {ws:List Nat} (h:Nt w B r vs vw es ws) (s:Nat) (h4:es.length≤50000) :
  Calls Try.prog 10 #[.pointer (some ⟨r,0,none⟩),.agg #[.int .i64 0,.int .i64 0,.slice (some ⟨w.heap.size,0,none⟩) s s]] (w.alloc (.cells (zeros s) 5)) fun e w'=>e = .returned (.bool (decide (ws.length<32)&&(decide (1≤s)&&decide (s≤2000))))∧Below B w w':=by
 have hb:Below w.heap.size w (w.alloc (.cells (zeros s) 5)):=(Below.refl _ _).alloc (Nat.le_refl _) _
 have hbk:=Blk.new w 5 (zeros s)
 have e:pkA ⟨0,0,zer s⟩ (some ⟨w.heap.size,0,none⟩) s=#[.int .i64 0,.int .i64 0,.slice (some ⟨w.heap.size,0,none⟩) s s]:=by
  unfold pkA;simp only[zer_length]
 rw[←e]
 by_cases hok:ws.length<32∧1≤s∧s≤2000
 ·refine(send_b (h.below hb) ⟨0,0,zer s⟩ (some ⟨w.heap.size,0,none⟩) s (.inr ⟨w.heap.size,0,rfl,hbk.lt,fun i u hu=>?_⟩) (fun _ a ha x=>?_) hok.1 (by simp only[zer_length];omega) (by simp only[zer_length];omega) h4).mono ?_
  ·rw[Nat.zero_add,hbk.cell i,←zer_bvs]
   simpa using hu
  ·injection ha with ha
   subst ha
   exact h.not (Nat.le_refl _) x
  ·rintro e w' ⟨rfl,vs',vw',A',c',k⟩
   refine⟨by simp [hok.1,hok.2.1,hok.2.2],(k.after hb).low h⟩
 ·refine(send_no B r vs vw es ws ⟨0,0,zer s⟩ (some ⟨w.heap.size,0,none⟩) s _ (h.below hb) (by simp only[zer_length];exact hok)).mono ?_
  rintro e w' ⟨rfl,hb2⟩
  refine⟨?_,(hb.mono h.big).trans (hb2.mono (Nat.le_trans h.big hb.size))⟩
  have:(decide (ws.length<32)&&(decide (1≤s)&&decide (s≤2000)))=false:=by
   rw[Bool.eq_false_iff]
   intro hx
   simp only[Bool.and_eq_true,decide_eq_true_eq] at hx
   exact hok hx
  rw[this]
set_option maxRecDepth 100000 in
set_option maxHeartbeats 1600000 in
theorem full_no (n s:Int) (w:World) (h:¬(0≤n∧n≤50∧0≤s∧s≤3000)):Calls Try.prog 4 #[.int .i64 n,.int .i64 s] w fun e w'=>e = .returned (.bool true)∧Below w.heap.size w w':=by
 by_cases h0:n<0
 ·have t0:decide (n<0)=true:=decide_eq_true h0
  clear h h0
  go_enter Try.func4,Try.ntmps4
  go_wp2
  go_ret
  exact⟨rfl,Below.refl _ _⟩
 have t0:decide (n<0)=false:=decide_eq_false h0
 by_cases h1:50<n
 ·have t1:decide (50<n)=true:=decide_eq_true h1
  clear h h1
  go_enter Try.func4,Try.ntmps4
  go_wp2
  go_ret
  exact⟨rfl,Below.refl _ _⟩
 have t1:decide (50<n)=false:=decide_eq_false h1
 by_cases h2:s<0
 ·have t2:decide (s<0)=true:=decide_eq_true h2
  clear h h2
  go_enter Try.func4,Try.ntmps4
  go_wp2
  go_ret
  exact⟨rfl,Below.refl _ _⟩
 have t2:decide (s<0)=false:=decide_eq_false h2
 by_cases h3:3000<s
 ·have t3:decide (3000<s)=true:=decide_eq_true h3
  clear h h3
  go_enter Try.func4,Try.ntmps4
  go_wp2
  go_ret
  exact⟨rfl,Below.refl _ _⟩
 have t3:decide (3000<s)=false:=decide_eq_false h3
 exact absurd ⟨by omega,by omega,by omega,by omega⟩ h
set_option maxRecDepth 100000 in
set_option maxHeartbeats 3200000 in
theorem full_in (m s:Nat) (w:World) (hm:m≤50) (hs:s≤3000):Calls Try.prog 4 #[.int .i64 (m:Int),.int .i64 (s:Int)] w fun e w'=>e = .returned (.bool true)∧Below w.heap.size w w':=by
 obtain⟨B,eB⟩:∃B,B=w.heap.size:=⟨_,rfl⟩
 have c1:=nt_new B w (Nat.le_of_eq eB)
 rw[←eB] at c1
 have HM:=Lib.hid hm
 have HS:=Lib.hid hs
 have CK:=Lib.hid (fun w1=>known_any w1)
 have EB:=Lib.hid eB
 have HB:=Lib.hid (show Below B w w from eB▸Below.refl _ _)
 have t1:decide ((m:Int)<0)=false:=by simp
 have t2:decide ((50:Int)<(m:Int))=false:=by simp;omega
 have t3:decide ((s:Int)<0)=false:=by simp
 have t4:decide ((3000:Int)<(s:Int))=false:=by simp;omega
 clear eB hm hs
 go_enter Try.func4,Try.ntmps4
 go_wp2_with (first
  |(go_at_call 9;refine Calls.mono c1 ?_;rintro e1 w1 ⟨rfl,hn,hb,hsz⟩;clear c1;have HN:=Lib.hid hn;replace HB:=Lib.hid hb;clear hb hn hsz)
  |fail)
 clear t1 t2 t3 t4
 go_loopw [6] (fun iv wr=>∃(i:Nat) (vs vw:Value) (es:List En) (ws:List Nat),i≤m∧iv = .int .i64 (i:Int)∧Below B w wr∧Nt wr B B vs vw es ws∧es.length=min i 32∧ws.length=min i 32) (fun iv _=>m - (intOf iv).toNat)
 case atStart=>exact⟨0,_,_,[],[],Nat.zero_le _,rfl,HB.out,HN.out,by simp,by simp⟩
 case round=>
  clear HB HN
  obtain⟨i,vs,vw,es,ws,hi,rfl,hb,hn,hes,hws⟩:=hrel
  have HB:=Lib.hid hb;have HN:=Lib.hid hn;have HES:=Lib.hid hes;have HWS:=Lib.hid hws
  clear hb hn hes hws
  by_cases hlt:i<m
  ·have e1:(i:Int)<(m:Int):=by omega
   have e9:(i:Int)≤50:=by have:=HM.out;omega
   by_cases g:i<32
   ·have g1:(i:Int)<32:=by omega
    have c2:=send_lit HN.out 0 (i:Int) 1 (0,0) (by have:=HWS.out;omega) (by have:=HES.out;omega)
    go_wp2_with (first
     |(go_at_call 10;refine Calls.mono c2 ?_;rintro e w2 ⟨rfl,vs2,vw2,A2,c2',hs⟩;clear c2;have HN2:=Lib.hid hs.nt;have HB2:=Lib.hid (HB.out.trans (hs.low HN.out));clear hs)
     |fail)
    go_roundw
    case rel=>exact⟨i+1,vs2,vw2,_,_,by omega,by go_num,HB2.out,HN2.out,by rw[List.length_append,HES.out];simp;omega,by rw[List.length_append,HWS.out];simp;omega⟩
    case measure=>simp [intOf];omega
   ·have g1:¬(i:Int)<32:=by omega
    have hb1:Below wr.heap.size wr (wr.alloc (.cells #[.int .u8 1] 5)):=(Below.refl _ _).alloc (Nat.le_refl _) _
    have c2:=send_no B B vs vw es ws ⟨0,(i:Int),[1]⟩ (some ⟨wr.heap.size,0,none⟩) 1 _ (HN.out.below hb1) (by have:=HWS.out;omega)
    have HB1:=Lib.hid hb1
    clear hb1
    go_wp2_with (first
     |(go_at_call 10;refine Calls.mono c2 ?_;rintro e w2 ⟨rfl,hb⟩;clear c2;have HN2:=Lib.hid (HN.out.below (HB1.out.trans (hb.mono HB1.out.size)));have HB2:=Lib.hid (HB.out.trans ((HB1.out.trans (hb.mono HB1.out.size)).mono HN.out.big));clear hb)
     |fail)
    go_roundw
    case rel=>exact⟨i+1,vs,vw,es,ws,by omega,by go_num,HB2.out,HN2.out,by rw[HES.out];omega,by rw[HWS.out];omega⟩
    case measure=>simp [intOf];omega
  ·have e1:¬(i:Int)<(m:Int):=by omega
   obtain rfl:m=i:=by omega
   have hmk:=Nm.room_any s (by have:=HS.out;omega) wr
   have c3:=send_zeros HN.out s (by have:=HES.out;omega)
   obtain⟨ok,eok⟩:∃ok,ok=(decide (ws.length<32)&&(decide (1≤s)&&decide (s≤2000))):=⟨_,rfl⟩
   rw[←eok] at c3
   have EOK:=Lib.hid eok
   clear eok
   by_cases a1:m<32
   ·have f1:(m:Int)<32:=by omega
    by_cases a2:1≤s
    ·have f2:(1:Int)≤(s:Int):=by omega
     by_cases a3:s≤2000
     ·have f3:(s:Int)≤2000:=by omega
      have hok:ok=true:=by rw[EOK.out];have h:=HWS.out;simp only[Bool.and_eq_true,decide_eq_true_eq];omega
      subst hok
      clear a1 a2 a3
      go_wp2_with (first
       |(go_at_call 10;refine Calls.mono c3 ?_;rintro e w2 ⟨rfl,hb⟩;clear c3;have HB2:=Lib.hid (HB.out.trans hb);have HS2:=Lib.hid (show B≤w2.heap.size from Nat.le_trans HN.out.big hb.size);clear hb)
       |(go_at_call 21;refine Calls.mono (CK.out _) ?_;rintro e w3 ⟨rfl,hb⟩;have HB3:=Lib.hid (HB2.out.trans (hb.mono HS2.out));clear hb)
       |fail)
      go_ret
      exact⟨rfl,by have h:=HB3.out;rw[EB.out] at h;exact h⟩
     ·have f3:¬(s:Int)≤2000:=by omega
      have f4:decide ((s:Int)≤2000)=false:=decide_eq_false f3
      have hok:ok=false:=by rw[EOK.out];simp [a3]
      subst hok
      clear a1 a2 a3
      go_wp2_with (first
       |(go_at_call 10;refine Calls.mono c3 ?_;rintro e w2 ⟨rfl,hb⟩;clear c3;have HB2:=Lib.hid (HB.out.trans hb);have HS2:=Lib.hid (show B≤w2.heap.size from Nat.le_trans HN.out.big hb.size);clear hb)
       |(go_at_call 21;refine Calls.mono (CK.out _) ?_;rintro e w3 ⟨rfl,hb⟩;have HB3:=Lib.hid (HB2.out.trans (hb.mono HS2.out));clear hb)
       |fail)
      go_ret
      exact⟨rfl,by have h:=HB3.out;rw[EB.out] at h;exact h⟩
    ·have f2:¬(1:Int)≤(s:Int):=by omega
     have hok:ok=false:=by rw[EOK.out];simp [a2]
     subst hok
     clear a1 a2
     go_wp2_with (first
      |(go_at_call 10;refine Calls.mono c3 ?_;rintro e w2 ⟨rfl,hb⟩;clear c3;have HB2:=Lib.hid (HB.out.trans hb);have HS2:=Lib.hid (show B≤w2.heap.size from Nat.le_trans HN.out.big hb.size);clear hb)
      |(go_at_call 21;refine Calls.mono (CK.out _) ?_;rintro e w3 ⟨rfl,hb⟩;have HB3:=Lib.hid (HB2.out.trans (hb.mono HS2.out));clear hb)
      |fail)
     go_ret
     exact⟨rfl,by have h:=HB3.out;rw[EB.out] at h;exact h⟩
   ·have f1:¬(m:Int)<32:=by omega
    have hok:ok=false:=by
     rw[EOK.out,HWS.out]
     have:¬min m 32<32:=by omega
     simp [this]
    subst hok
    clear a1
    go_wp2_with (first
     |(go_at_call 10;refine Calls.mono c3 ?_;rintro e w2 ⟨rfl,hb⟩;clear c3;have HB2:=Lib.hid (HB.out.trans hb);have HS2:=Lib.hid (show B≤w2.heap.size from Nat.le_trans HN.out.big hb.size);clear hb)
     |(go_at_call 21;refine Calls.mono (CK.out _) ?_;rintro e w3 ⟨rfl,hb⟩;have HB3:=Lib.hid (HB2.out.trans (hb.mono HS2.out));clear hb)
     |fail)
    go_ret
    exact⟨rfl,by have h:=HB3.out;rw[EB.out] at h;exact h⟩
theorem full_law (n s:Int) (w:World):Calls Try.prog 4 #[.int .i64 n,.int .i64 s] w fun e w'=>e = .returned (.bool true)∧Below w.heap.size w w':=by
 by_cases h:0≤n∧n≤50∧0≤s∧s≤3000
 ·obtain⟨m,rfl⟩:=Int.eq_ofNat_of_zero_le h.1
  obtain⟨k,rfl⟩:=Int.eq_ofNat_of_zero_le h.2.2.1
  exact full_in m k w (by omega) (by omega)
 ·exact full_no n s w h
end Go.Proofs.Ytlihoeipmjbnbaa.Nt
end

section
namespace Go.Proofs.Ytlihoeipmjbnbaa.netFull
open Go.ChangeShapes Go.WideShapes Go.ChangeAt Go.RowKit
open Go.ChangeMaps (open_string shut_string)
theorem own:ownKnob Try.prog.godebug=none:=by kernel_rfl
theorem laidOut:laidOutB Try.prog=true:=by kernel_rfl
set_option maxRecDepth 100000 in
theorem lifted (os:Os) (started:os.Started) (H:Type) (enc:TypeId×Value→H) :
  ReturnsInHanded {} Try.checked os 4 .any (Rows.netFullSpec.pre6 enc Try.prog Try.f4 Rows.netFullRow.domain false) (Rows.netFullSpec.post enc Try.prog Try.f4 false true false false):=by
 refine returnsInHanded_of_change (C:=Try.checked) own started (by kernel_rfl) Try.func4
  (ChangeSpec.witness6 (enc:=enc) (C:=Try.checked) false ⟨#[],#[.int .i64 0,.int .i64 0],[]⟩ 8 (by kernel_rfl) (by kernel_rfl) (by kernel_rfl) (by kernel_rfl)) ?_
 intro W base args ds gs before hval0 hW hcnd _
 have hval:∀(j:Nat) t v,Try.f4.params[j]? = some t→args[j]? = some v→Value.okWide Try.prog W .any base t v:=hval0
 have hW':=hW
 obtain⟨p,q,hA0,hV,rfl,hfz,hnd⟩:=hW
 have hA:DataW.TrodAll enc Try.prog W 0 (fun _=>true) true Try.f4.params.toList args.toList ds p:=hA0
 rw[Try.params4] at hA hval
 obtain⟨v0,vs0,d0,ds0,p0,q0,hargs,rfl,rfl,h0,r0⟩:=trodAll_cons hA
 obtain⟨v1,vs1,d1,ds1,p1,q1,rfl,rfl,rfl,h1,r1⟩:=trodAll_cons r0
 obtain⟨rfl,rfl,rfl⟩:=trodAll_nil r1
 obtain rfl:args=#[v0,v1]:=by cases args;simp_all
 obtain⟨rfl,rfl⟩:=trodVars_none hV
 obtain⟨a0,rfl,rfl,rfl,w0⟩:=open_int Try.underlying3 (hval 0 3 v0 rfl rfl) h0
 obtain⟨a1,rfl,rfl,rfl,w1⟩:=open_int Try.underlying3 (hval 1 3 v1 rfl rfl) h1
 clear hA0 hval0
 refine(Nt.full_law a0 a1 W).mono fun e W' ⟨he,bel⟩=>?_
 subst he
 exact⟨_,rfl,_,_,_,[],_,[],hW',trodAll_mk1 (shut_bool Try.underlying4 _),(trodAll_cons_mk (shut_int Try.underlying3 w0) (trodAll_cons_mk (shut_int Try.underlying3 w1) trodAll_mk0)),rfl,bel.frame _,fun h=>by cases h⟩
theorem over:Rows.netFullRow.holds Try.pinned (OpenSpec.ofChange Rows.netFullSpec):=
 OpenClaim.holds_of_wide 4 Try.f4 rfl rfl rfl rfl rfl rfl rfl ⟨rfl,rfl,rfl,rfl,rfl⟩ rfl rfl rfl rfl rfl (by kernel_rfl) Try.func4 (by kernel_rfl)
  (of_decide_eq_true (by kernel_rfl)) (by unfold Func.isWrapper;first | (rw[if_pos (by decide +kernel)];kernel_rfl) | (rw[if_neg (by decide +kernel)];exact⟨rfl,rfl⟩))
  (fun os started H enc _=>lifted os started H enc)
theorem proved:Rows.NetFullSaid:=over
end Go.Proofs.Ytlihoeipmjbnbaa.netFull
end
