/-
  The statement of CacheAnew: the walk's contract carried to the row: for every input the call answers true, and each argument reads as it did.
-/
import Derived.Test.YtlacoakelliabaaProg
import Derived.Deep.CutBlock
import Derived.Deep.LoopGhost
import Derived.StillTailTactics
import Derived.Deep.RegionHeld3
import Derived.DeepKeys
import Derived.Laws.StructEq
import Derived.SizedLaws
import Derived.Test.YtlacoakelliabaaRows
import Derived.Lib.SmallJoins
import Derived.Deep.Strs
import Derived.ChangeSame
import Derived.WalkKit
import Derived.ProofKit
import Derived.OpenShut
import Derived.ShutString
import Derived.ChangeOld
import Derived.Below
import Derived.Test.YtlacoakelliabaaZCacheAnew1
import Derived.Test.YtlacoakelliabaaZCacheAnew2
import Derived.Test.YtlacoakelliabaaZCacheAnew3
import Derived.Test.YtlacoakelliabaaZCacheAnew4
section
set_option linter.unusedVariables false
set_option linter.unusedSimpArgs false
namespace Go.Proofs.Ytlacoakelliabaa.Ca
open Go.RowKit Go.Proofs.Ytlacoakelliabaa.Mem Go.Proofs.Ytlacoakelliabaa.Se
open Go.Proofs.Ytlacoakelliabaa.Nm (L)
open Go.Proofs.Ytlacoakelliabaa.Rg (Pr prV pr_info RdR own_rdr own_chg chg_row)
section
variable {a w w':World} {B r g:Nat} {v v':Value} {es es':List En} {t:TypeId} {cs:Array Value}
theorem blk_ca (h:Blk w g t cs) (hn:¬CO r v es g) (hc:Chg (PT r v) w w'):Blk w' g t cs:=hc.blk h (fun x=>hn (pt_co x))
theorem ca_below (h:Below B a w) (hr:Ca w B r v es) (hc:Chg (PT r v) w w'):Below B a w':=h.trans (hc.below hr.big (fun i _ hx=>hr.own_lo (pt_co hx)))
theorem old_co (h:Ca w B r v es) (hg:w.heap.size≤g):¬CO r v es g:=fun x=>by have:=h.own_lt x;omega
theorem low_co (h:Ca w B r v es) (hg:g<B):¬CO r v es g:=fun x=>by have:=h.own_lo x;omega
end
abbrev xE (e:Int):Cr:=⟨([],[]),0,[],zeroK,e⟩
theorem xE_lit (e:Int):crA (xE e) none 0=#[.string ⟨#[]⟩,.string ⟨#[]⟩,.int .i64 0,.slice none 0 0,.int .u8 0,.int .u8 0,.int .u8 0,.int .u8 0,.int .u8 0,.int .u8 0,.int .u8 0,.int .u8 0,.int .u8 0,.int .u8 0,.int .u8 0,.int .u8 0,.int .u8 0,.int .u8 0,.int .u8 0,.int .u8 0,.int .u8 0,.int .u8 0,.int .u8 0,.int .u8 0,.int .u8 0,.int .u8 0,.int .u8 0,.int .u8 0,.int .u8 0,.int .u8 0,.int .u8 0,.int .u8 0,.int .u8 0,.int .u8 0,.int .u8 0,.int .u8 0,.int .i64 e]:=by rfl
theorem fit_e (e:Int):Fit (xE e):=⟨by simp,by simp,by simp⟩
theorem fits_one {p:Pr} {x:Cr} (h:Fit x):Fits [(p,x)]:=fun i hi=>by rw[List.mem_singleton] at hi;subst hi;exact h
theorem get_one (p:Pr) (x:Cr) (t:Int):getO [(p,x)] p t=if t≤x.e then some (p,x) else none:=by
 unfold getO
 by_cases h:t≤x.e
 ·rw[if_pos h,List.find?_cons_of_pos (by simp [hitG,h])]
 ·rw[if_neg h,List.find?_cons_of_neg (by simp [hitG,h])];rfl
theorem put_one (p:Pr) (x:Cr) (t:Int):putL [] p x t = [(p,x)]:=rfl
def GotP (w:World) (o:Option It) (e:Ending) (w':World):Prop:=
 ∃A c rs,rs=crA (getX o) A c∧e = .returned (.tuple #[.agg rs,.bool o.isSome])∧rs.size=37∧(Try.prog.info? 38).map (·.size)=some rs.size∧rs.all (·.oneCell')=true∧Own1 w w' A (bvs (getX o).b)∧Below w.heap.size w w'
theorem get_b {B r:Nat} {v:Value} {es:List En} {w:World} (p:Pr) (t:Int) (h:Ca w B r v es) (hf:Fits (its es)) (hl:es.length≤1000) {o:Option It} (ho:getO (its es) p t=o) :
  Calls Try.prog 13 #[.pointer (some ⟨r,0,none⟩),prV p,.int .i64 t] w (GotP w o):=by
 refine(get_any B r v es p t w h hf hl).mono ?_
 rintro e w' ⟨A,c,rfl,h1,h2⟩
 rw[ho] at h1⊢
 exact⟨A,c,_,rfl,rfl,crA_size _ _ _,by rw[crA_size];exact cr_info,crA_one _ _ _,h1,h2⟩
def PutP (w:World) (B r:Nat) (v:Value) (es:List En) (l:List It) (z:Nat) (e:Ending) (w':World):Prop:=
 e = .returned (.int .i64 (z:Int))∧∃v' es',Ca w' B r v' es'∧its es'=l∧Chg (PT r v) w w'∧(∀q,CO r v' es' q→CO r v es q∨w.heap.size≤q)
theorem put_b {B r:Nat} {v:Value} {es:List En} {w:World} (p:Pr) (x:Cr) (A:Option Addr) (c:Nat) (t:Int) (h:Ca w B r v es) (hx:Rd w w.heap.size A (bvs x.b)) (hxo:∀a,A=some a→x.b≠[]→¬CO r v es a.block) (h1:p.1.length≤140737488351232) (h2:p.2.length≤140737488351232) (hf:Fit x)
  (hl:es.length≤1000) {l:List It} {z:Nat} (el:putL (its es) p x t=l) (ez:putE (its es) p t=z) :
  Calls Try.prog 11 #[.pointer (some ⟨r,0,none⟩),prV p,.agg (crA x A c),.int .i64 t] w (PutP w B r v es l z):=by
 have hxp:∀w',Chg (PT r v) w w'→Rd w' w'.heap.size A (bvs x.b):=fun w' hc=>by
  by_cases hn:x.b = []
  ·rw[hn];exact .inl rfl
  ·exact rd_chg hx hc (fun a ha q=>hxo a ha hn (pt_co q))
 refine(put_any B r v es p x A c t w h hxp h1 h2 hf.1 hf.2.1 hf.2.2 hl).mono ?_
 rintro e w' ⟨rfl,v',es',k1,k2,k3,k4⟩
 rw[el] at k2
 rw[ez]
 exact⟨rfl,v',es',k1,k2,k3,k4⟩
theorem its_len {es:List En} {l:List It} (h:its es=l):es.length=l.length:=by rw[←h,its_length]
abbrev p1:Pr:=([65],[120])
set_option maxRecDepth 100000 in
set_option maxHeartbeats 3200000 in
theorem cknown_any (w:World):Calls Try.prog 18 #[] w fun e w'=>e = .returned (.bool true)∧Below w.heap.size w w':=by
 obtain⟨B,eB⟩:∃B,B=w.heap.size:=⟨_,rfl⟩
 have c1:=ca_new B w (Nat.le_of_eq eB)
 rw[←eB] at c1
 have C2:=Lib.hid (fun(w1:World) (h:Ca w1 B B (.slice none 0 0) [])=>put_b p1 (xE 5) none 0 0 h (.inl rfl) (fun a ha=>by cases ha) (by decide) (by decide) (fit_e 5) (by decide) (put_one p1 (xE 5) 0) (show putE [] p1 0=0 from rfl))
 have C3:=Lib.hid (fun(w1:World) (v:Value) (es:List En) (h:Ca w1 B B v es) (hi:its es = [(p1,xE 5)])=>get_b p1 5 h (by rw[hi];exact fits_one (fit_e 5)) (by rw[its_len hi];decide) (show getO (its es) p1 5=some (p1,xE 5) by rw[hi,get_one];rfl))
 have C4:=Lib.hid (fun(w1:World) (v:Value) (es:List En) (h:Ca w1 B B v es) (hi:its es = [(p1,xE 5)])=>get_b p1 6 h (by rw[hi];exact fits_one (fit_e 5)) (by rw[its_len hi];decide) (show getO (its es) p1 6=none by rw[hi,get_one];rfl))
 have C5:=Lib.hid (fun(w1:World) (v:Value) (es:List En) (h:Ca w1 B B v es)=>ca_len B B v es w1 h)
 simp only[xE_lit] at C2
 have EB:=Lib.hid eB
 have HB:=Lib.hid (show Below B w w from eB▸Below.refl _ _)
 clear eB
 go_enter Try.func18,Try.ntmps18
 go_wp2_with (first
  |(go_at_call 10;refine Calls.mono c1 ?_;rintro e w1 ⟨rfl,hca,hb,hsz⟩;clear c1;have hal:=(Below.refl w1.heap.size w1).alloc (Nat.le_refl _) (.cells #[.string ⟨#[65]⟩,.string ⟨#[120]⟩] 31);have HCA:=Lib.hid (hca.below hal);have HP:=Lib.hid (Blk.new w1 31 #[.string ⟨#[65]⟩,.string ⟨#[120]⟩]);have HNP:=Lib.hid (old_co hca (Nat.le_refl _));replace HB:=Lib.hid ((hb.trans (hal.mono (Nat.le_trans (Nat.le_of_eq EB.out) hb.size)):Below B w _));have c2:=C2.out _ HCA.out;clear hb hca hal hsz)
  |(go_at_call 11;refine Calls.mono c2 ?_;rintro e w2 ⟨rfl,v2,es2,hca,hi,hc,hnw⟩;clear c2;replace HB:=Lib.hid (ca_below HB.out HCA.out hc);have HP2:=Lib.hid (blk_ca HP.out HNP.out hc);have HCA2:=Lib.hid hca;have HI:=Lib.hid hi;have k0:w2.cell? ⟨w1.heap.size,0,none⟩=some (.string ⟨#[65]⟩):=HP2.out.cell 0;have k1:w2.cell? ⟨w1.heap.size,1,none⟩=some (.string ⟨#[120]⟩):=HP2.out.cell 1;have c3:=C3.out _ _ _ HCA2.out HI.out;clear hca hi hc hnw)
  |(go_at_call 13;refine Calls.mono c3 ?_;rintro e w3 ⟨A3,d3,rs,hrx,rfl,hrs,hri,hr1,_,hb⟩;clear hrx c3 k0 k1;replace HB:=Lib.hid (HB.out.trans (hb.mono HCA2.out.big));have HP3:=Lib.hid (HP2.out.below hb);have HCA3:=Lib.hid (HCA2.out.below hb);have HRS:=Lib.hid hrs;have HRI:=Lib.hid hri;have HR1:=Lib.hid hr1;clear hrs hri hr1 hb)
  |(refine Wh.store_new (by rfl) 38 (.tmp 3) (.tmp 22) (by rfl) 38 rfl rs (by rfl) (by rfl) (by rw[HRS.out];rfl) HRI.out HR1.out ?_;rintro V hV hb;replace HB:=Lib.hid (HB.out.trans (hb.mono HCA3.out.big));have HP4:=Lib.hid (HP3.out.below hb);have HCA4:=Lib.hid (HCA3.out.below hb);have k0:V.cell? ⟨w1.heap.size,0,none⟩=some (.string ⟨#[65]⟩):=HP4.out.cell 0;have k1:V.cell? ⟨w1.heap.size,1,none⟩=some (.string ⟨#[120]⟩):=HP4.out.cell 1;have c4:=C4.out _ _ _ HCA4.out HI.out;clear hV hb HRS HRI HR1)
  |(go_at_call 13;refine Calls.mono c4 ?_;rintro e w5 ⟨A5,d5,ss,hrx,rfl,hrs,hri,hr1,_,hb⟩;clear hrx c4 k0 k1;replace HB:=Lib.hid (HB.out.trans (hb.mono HCA4.out.big));have HCA5:=Lib.hid (HCA4.out.below hb);have HSS:=Lib.hid hrs;have HSI:=Lib.hid hri;have HS1:=Lib.hid hr1;clear hrs hri hr1 hb)
  |(refine Wh.store_new (by rfl) 38 (.tmp 5) (.tmp 28) (by rfl) 38 rfl ss (by rfl) (by rfl) (by rw[HSS.out];rfl) HSI.out HS1.out ?_;rintro V2 hV hb;replace HB:=Lib.hid (HB.out.trans (hb.mono HCA5.out.big));have HCA6:=Lib.hid (HCA5.out.below hb);have c5:=C5.out _ _ _ HCA6.out;rw[its_len HI.out] at c5;clear hV hb)
  |(go_at_call 17;refine Calls.mono c5 ?_;rintro e w7 ⟨rfl,hw⟩;have hw:=hw.symm;subst hw;clear c5)
  |fail)
 go_ret
 exact⟨rfl,by rw[←EB.out];exact HB.out⟩
end Go.Proofs.Ytlacoakelliabaa.Ca
end

section
set_option linter.unusedVariables false
set_option linter.unusedSimpArgs false
namespace Go.Proofs.Ytlacoakelliabaa.Rg
open Go.RowKit Go.Proofs.Ytlacoakelliabaa.Mem Go.Proofs.Ytlacoakelliabaa.Se
abbrev p1:Pr:=([65],[120])
end Go.Proofs.Ytlacoakelliabaa.Rg
end

section
set_option linter.unusedVariables false
namespace Go.Proofs.Ytlacoakelliabaa.Rg
open Go.RowKit Go.Proofs.Ytlacoakelliabaa.Mem Go.Proofs.Ytlacoakelliabaa.Se
theorem mapM_each {α β:Type} (g:α→Option β) (h:α→β):∀l:List α,(∀i∈l,g i=some (h i))→l.mapM g=some (l.map h)
 | [],_=>rfl
 |a :: l,hh=>by
  rw[List.mapM_cons,hh a (by simp),mapM_each g h l (fun i hi=>hh i (by simp [hi]))]
  rfl
theorem flatten_one {α β:Type} (g:α→β):∀l:List α,(l.map fun i=>[g i]).flatten=l.map g
 | []=>rfl
 |a :: l=>by rw[List.map_cons,List.flatten_cons,flatten_one g l,List.map_cons];rfl
def klits (f:Nat→UInt8):List Lit:=(List.range 32).map fun i=>Lit.int .u8 ((f i).toNat:Int)
theorem klits_of (f:Nat→UInt8):Try.prog.keyLits 5 36 (key32 f).toList=some (klits f):=by
 have hu26:=Try.underlying36
 have hu5:=Try.underlying5
 have c26:Try.prog.cellsOf 36=32:=by kernel_rfl
 have c5:Try.prog.cellsOf 5=1:=by kernel_rfl
 have one:∀b:UInt8,Try.prog.keyLits 4 5 [bv b]=some [Lit.int .u8 (b.toNat:Int)]:=fun b=>by
  have hw:(Lit.int .u8 (b.toNat:Int)).wf=true:=by
   have:=b.toNat_lt
   simp [Lit.wf,IntKind.min,IntKind.max,IntKind.signed,IntKind.bits]
   omega
  unfold Program.keyLits bv
  simp only[hu5,hw,and_self,if_true]
 unfold Program.keyLits
 simp only[hu26]
 have hl:(key32 f).toList.length=Try.prog.cellsOf 36:=by rw[c26,Array.length_toList,key32_size]
 rw[if_pos hl]
 have hm:=mapM_each (fun i=>Try.prog.keyLits 4 5 (((key32 f).toList.drop (i*Try.prog.cellsOf 5)).take (Try.prog.cellsOf 5))) (fun i=>[Lit.int .u8 ((f i).toNat:Int)]) (List.range 32) (fun i hi=>by
  have h32:i<32:=List.mem_range.1 hi
  have hlt:i<(key32 f).toList.length:=by rw[Array.length_toList,key32_size];exact h32
  rw[c5,Nat.mul_one,List.drop_eq_getElem_cons hlt,List.take_succ_cons,List.take_zero]
  have e:(key32 f).toList[i]=bv (f i):=by simp [key32]
  rw[e]
  exact one (f i))
 rw[hm]
 show some ((List.range 32).map fun i=>[Lit.int .u8 ((f i).toNat:Int)]).flatten=_
 rw[flatten_one];rfl
theorem eql_key_same (f:Nat→UInt8) (w:World):(Op.equalIn 10000 36 (.agg (key32 f)) (.agg (key32 f))).run Try.prog w = .ok true w:=by
 have h:=run_equalIn_deep (P:=Try.prog) 9998 2 36 (by kernel_rfl)
 obtain⟨r,h1,h2⟩:=h w 5 5 (.agg (key32 f)) (.agg (key32 f)) (klits f) (klits f) (by kernel_rfl) (by kernel_rfl) (klits_of f) (klits_of f)
 rw[h1,h2.2 rfl]
end Go.Proofs.Ytlacoakelliabaa.Rg
end

section
set_option linter.unusedVariables false
set_option linter.unusedSimpArgs false
namespace Go.Proofs.Ytlacoakelliabaa.Ca
open Go.RowKit Go.Proofs.Ytlacoakelliabaa.Mem Go.Proofs.Ytlacoakelliabaa.Se
open Go.Proofs.Ytlacoakelliabaa.Nm (L)
open Go.Proofs.Ytlacoakelliabaa.Rg (Pr prV pr_info RdR own_rdr own_chg chg_row eql_pr_yes)
abbrev tkC (s:Pr) (n:Int) (b:L) (A:Option Addr) (c:Nat):Array Value:=#[.string ⟨s.1.toArray⟩,.string ⟨s.2.toArray⟩,.int .i64 n,.slice A b.length c]
theorem tk_info:(Try.prog.info? 34).map (·.size)=some 4:=by kernel_rfl
set_option maxHeartbeats 1600000 in
theorem samet_yes (s:Pr) (n:Int) (b:L) (A A2:Option Addr) (c c2 B:Nat) (w:World) (hr:Rd w B A (bvs b)) (hr2:Rd w B A2 (bvs b)) (hB:B≤w.heap.size):Calls Try.prog 27 #[.agg (tkC s n b A c),.agg (tkC s n b A2 c2)] w fun e w'=>e = .returned (.bool true)∧Below w.heap.size w w':=by
 have hb:=((Below.refl w.heap.size w).alloc (Nat.le_refl _) (.cells (tkC s n b A c) 34)).alloc (by simp) (.cells (tkC s n b A2 c2) 34)
 have HB:=Lib.hid hb
 have hcv1:=run_bytes_str (P:=Try.prog) ((w.alloc (.cells (tkC s n b A c) 34)).alloc (.cells (tkC s n b A2 c2) 34)) 32 5 Try.underlying32 Try.underlying5 (hr.below (hb.mono hB)) b.length c rfl 9 Try.underlying9
 have hcv2:=run_bytes_str (P:=Try.prog) ((w.alloc (.cells (tkC s n b A c) 34)).alloc (.cells (tkC s n b A2 c2) 34)) 32 5 Try.underlying32 Try.underlying5 (hr2.below (hb.mono hB)) b.length c2 rfl 9 Try.underlying9
 have t3:(n==n)=true:=by simp
 have t4:(b==b)=true:=by simp
 clear hr hr2 hB hb
 go_enter Try.func27,Try.ntmps27
 go_wp2
 go_ret
 exact⟨rfl,HB.out⟩
set_option maxHeartbeats 1600000 in
theorem samett_yes (s:Pr) (n:Int) (b:L) (A A2:Option Addr) (c c2 B:Nat) (w:World) (hr:Rd w B A (bvs b)) (hr2:Rd w B A2 (bvs b)) (hB:B≤w.heap.size):Calls Try.prog 23 #[.agg (tkC s n b A c),.agg (tkC s n b A2 c2)] w fun e w'=>e = .returned (.bool true)∧Below w.heap.size w w':=by
 have hb:=((Below.refl w.heap.size w).alloc (Nat.le_refl _) (.cells (tkC s n b A c) 34)).alloc (by simp) (.cells (tkC s n b A2 c2) 34)
 have HB:=Lib.hid hb
 have c1:=samet_yes s n b A A2 c c2 B ((w.alloc (.cells (tkC s n b A c) 34)).alloc (.cells (tkC s n b A2 c2) 34)) (hr.below (hb.mono hB)) (hr2.below (hb.mono hB)) (Nat.le_trans hB hb.size)
 clear hr hr2 hB hb
 go_enter Try.func23,Try.ntmps23
 go_wp2_with (first
  |(go_at_call 27;refine Calls.mono c1 ?_;rintro e w1 ⟨rfl,hb⟩;replace HB:=Lib.hid (HB.out.trans (hb.mono HB.out.size));clear c1 hb)
  |fail)
 go_ret
 exact⟨rfl,HB.out⟩
set_option maxHeartbeats 1600000 in
set_option maxRecDepth 100000 in
theorem same_yes (x:Cr) (A A2:Option Addr) (c c2 B:Nat) (w:World) (hr:Rd w B A (bvs x.b)) (hr2:Rd w B A2 (bvs x.b)) (hB:B≤w.heap.size):Calls Try.prog 15 #[.agg (crA x A c),.agg (crA x A2 c2)] w fun e w'=>e = .returned (.bool true)∧Below w.heap.size w w':=by
 have CS:=Lib.hid (fun(w1:World) (h:Below w.heap.size w w1)=>samett_yes x.s x.n x.b A A2 c c2 B w1 (hr.below (h.mono hB)) (hr2.below (h.mono hB)) (Nat.le_trans hB h.size))
 have QK:=Lib.hid (fun w1=>Rg.eql_key_same x.k w1)
 have KI:=Lib.hid (info32 x.k)
 obtain⟨ks,eks⟩:∃ks,ks=key32 x.k:=⟨_,rfl⟩
 rw[←eks] at QK KI
 obtain⟨xs,exs⟩:∃xs,xs=crA x A c:=⟨_,rfl⟩
 obtain⟨ys,eys⟩:∃ys,ys=crA x A2 c2:=⟨_,rfl⟩
 rw[←exs,←eys]
 obtain⟨W,eW⟩:∃W,W=(w.alloc (.cells xs 38)).alloc (.cells ys 38):=⟨_,rfl⟩
 have HB:=Lib.hid (show Below w.heap.size w W from eW▸((Below.refl _ _).alloc (Nat.le_refl _) _).alloc (by simp) _)
 have HX:=Lib.hid (show Blk W w.heap.size 38 (crA x A c) from eW▸exs▸(Blk.new w _ _).alloc _)
 have HY:=Lib.hid (show Blk W (w.heap.size+1) 38 (crA x A2 c2) by have:=Blk.new (w.alloc (.cells xs 38)) 38 ys;simp only[World.size_alloc] at this;rw[eW,←eys];exact this)
 have EKS:=Lib.hid eks
 have t3:(x.e==x.e)=true:=by simp
 clear hr hr2 hB eks exs eys
 go_enter Try.func15,Try.ntmps15
 go_upto_region 1 with fail
 rw[←eW]
 clear eW
 go_wp2_with (first
  |(refine Wh.load_g (by rfl) 34 (.tmp 5) (by rfl) _ 0 (by rfl) (tkC x.s x.n x.b A c) _ (cr_tk (blk_cr HX.out)) Try.underlying34 (by rfl) tk_info ?_)
  |(refine Wh.load_g (by rfl) 34 (.tmp 7) (by rfl) _ 0 (by rfl) (tkC x.s x.n x.b A2 c2) _ (cr_tk (blk_cr HY.out)) Try.underlying34 (by rfl) tk_info ?_)
  |(go_at_call 23;refine Calls.mono (CS.out _ HB.out) ?_;rintro e w1 ⟨rfl,hb⟩;replace HB:=Lib.hid (HB.out.trans (hb.mono HB.out.size));replace HX:=Lib.hid (HX.out.below hb);replace HY:=Lib.hid (HY.out.below hb);have kx:w1.cell? ⟨w.heap.size,36,none⟩=some (.int .i64 x.e):=cr_end (o:=0) (blk_cr HX.out);have ky:w1.cell? ⟨w.heap.size+1,36,none⟩=some (.int .i64 x.e):=cr_end (o:=0) (blk_cr HY.out);have qk:=QK.out;clear hb)
  |(refine Wh.load_g (by rfl) 36 (.tmp 11) (by rfl) _ 4 (by rfl) ks _ (by rw[EKS.out];exact cr_k (o:=0) (blk_cr HX.out)) Try.underlying36 (by rfl) KI.out ?_)
  |(refine Wh.load_g (by rfl) 36 (.tmp 13) (by rfl) _ 4 (by rfl) ks _ (by rw[EKS.out];exact cr_k (o:=0) (blk_cr HY.out)) Try.underlying36 (by rfl) KI.out ?_)
  |fail)
 go_ret
 exact⟨rfl,HB.out⟩
end Go.Proofs.Ytlacoakelliabaa.Ca
end

section
set_option linter.unusedVariables false
set_option linter.unusedSimpArgs false
namespace Go.Proofs.Ytlacoakelliabaa.Ca
open Go.RowKit Go.Proofs.Ytlacoakelliabaa.Mem Go.Proofs.Ytlacoakelliabaa.Se
open Go.Proofs.Ytlacoakelliabaa.Nm (L)
open Go.Proofs.Ytlacoakelliabaa.Rg (Pr prV pr_info RdR own_rdr own_chg chg_row)
theorem rest_one (p:Pr) (x:Cr) (t:Int):rest [(p,x)] p t = []:=by simp [rest,del]
theorem put_anew (p:Pr) (x y:Cr) (t:Int):putL [(p,x)] p y t = [(p,y)]∧putE [(p,x)] p t=0:=by
 unfold putL putE
 rw[rest_one]
 exact⟨rfl,rfl⟩
theorem anew_begin (p:Pr) (xs ys:Array Value) (w W:World) (eW:W=((w.alloc (.cells #[.string ⟨p.1.toArray⟩,.string ⟨p.2.toArray⟩] 31)).alloc (.cells xs 38)).alloc (.cells ys 38)) :
  Below w.heap.size w W∧Blk W w.heap.size 31 #[.string ⟨p.1.toArray⟩,.string ⟨p.2.toArray⟩]∧Blk W (w.heap.size+1) 38 xs∧Blk W (w.heap.size+2) 38 ys:=by
 refine⟨eW▸(((Below.refl _ _).alloc (Nat.le_refl _) _).alloc (by simp) _).alloc (by simp;omega) _,eW▸((Blk.new w _ _).alloc _).alloc _,?_,?_⟩
 ·have:=Blk.new (w.alloc (.cells #[.string ⟨p.1.toArray⟩,.string ⟨p.2.toArray⟩] 31)) 38 xs
  simp only[World.size_alloc] at this
  exact eW▸this.alloc _
 ·have:=Blk.new ((w.alloc (.cells #[.string ⟨p.1.toArray⟩,.string ⟨p.2.toArray⟩] 31)).alloc (.cells xs 38)) 38 ys
  simp only[World.size_alloc] at this
  exact eW▸this
set_option maxRecDepth 100000 in
set_option maxHeartbeats 6400000 in
theorem anew_any (p:Pr) (x y:Cr) (A A2:Option Addr) (c c2:Nat) (w:World) (hx:Rd w w.heap.size A (bvs x.b)) (hy:Rd w w.heap.size A2 (bvs y.b)) (p1:p.1.length≤140737488351232) (p2:p.2.length≤140737488351232) (x1:x.s.1.length≤140737488351232) (x2:x.s.2.length≤140737488351232) (x3:x.b.length≤140737488351232) (y1:y.s.1.length≤140737488351232) (y2:y.s.2.length≤140737488351232) (y3:y.b.length≤140737488351232) :
  Calls Try.prog 5 #[prV p,.agg (crA x A c),.agg (crA y A2 c2)] w fun e w'=>e = .returned (.bool true)∧Below w.heap.size w w':=by
 obtain⟨xs,exs⟩:∃xs,xs=crA x A c:=⟨_,rfl⟩
 obtain⟨ys,eys⟩:∃ys,ys=crA y A2 c2:=⟨_,rfl⟩
 obtain⟨W,eW⟩:∃W,W=((w.alloc (.cells #[.string ⟨p.1.toArray⟩,.string ⟨p.2.toArray⟩] 31)).alloc (.cells xs 38)).alloc (.cells ys 38):=⟨_,rfl⟩
 obtain⟨hb,hp,hbx,hby⟩:=anew_begin p xs ys w W eW
 have kx3:W.cell? ⟨w.heap.size+1,3,none⟩=some (.slice A x.b.length c):=cr_b (o:=0) (blk_cr (exs▸hbx))
 have ky3:W.cell? ⟨w.heap.size+2,3,none⟩=some (.slice A2 y.b.length c2):=cr_b (o:=0) (blk_cr (eys▸hby))
 have kxe:W.cell? ⟨w.heap.size+1,36,none⟩=some (.int .i64 x.e):=cr_end (o:=0) (blk_cr (exs▸hbx))
 have kye:W.cell? ⟨w.heap.size+2,36,none⟩=some (.int .i64 y.e):=cr_end (o:=0) (blk_cr (eys▸hby))
 have kp0:W.cell? ⟨w.heap.size,0,none⟩=some (.string ⟨p.1.toArray⟩):=hp.cell 0
 have kp1:W.cell? ⟨w.heap.size,1,none⟩=some (.string ⟨p.2.toArray⟩):=hp.cell 1
 have i1:(p.1.length:Int)≤140737488351232:=by omega
 have i2:(p.2.length:Int)≤140737488351232:=by omega
 have i3:(x.b.length:Int)≤140737488351232:=by omega
 have i4:(y.b.length:Int)≤140737488351232:=by omega
 have HB:=Lib.hid hb
 by_cases hbig:(2000:Int)<(p.1.length:Int)+(p.2.length:Int)+(x.b.length:Int)+(y.b.length:Int)
 ·have t1:decide ((2000:Int)<(p.1.length:Int)+(p.2.length:Int)+(x.b.length:Int)+(y.b.length:Int))=true:=decide_eq_true hbig
  rw[←exs,←eys]
  clear hx hy p1 p2 x1 x2 x3 y1 y2 y3 exs eys hb hp hbx hby hbig
  go_enter Try.func5,Try.ntmps5
  go_upto_region 1 with fail
  rw[←eW]
  clear eW
  go_wp2
  go_ret
  exact⟨rfl,HB.out⟩
 have t1:decide ((2000:Int)<(p.1.length:Int)+(p.2.length:Int)+(x.b.length:Int)+(y.b.length:Int))=false:=decide_eq_false hbig
 by_cases hxe:x.e<0
 ·have t2:decide (x.e<0)=true:=decide_eq_true hxe
  rw[←exs,←eys]
  clear hx hy p1 p2 x1 x2 x3 y1 y2 y3 exs eys hb hp hbx hby hbig hxe
  go_enter Try.func5,Try.ntmps5
  go_upto_region 1 with fail
  rw[←eW]
  clear eW
  go_wp2
  go_ret
  exact⟨rfl,HB.out⟩
 have t2:decide (x.e<0)=false:=decide_eq_false hxe
 by_cases hye:y.e<0
 ·have t3:decide (y.e<0)=true:=decide_eq_true hye
  rw[←exs,←eys]
  clear hx hy p1 p2 x1 x2 x3 y1 y2 y3 exs eys hb hp hbx hby hbig hxe hye
  go_enter Try.func5,Try.ntmps5
  go_upto_region 1 with fail
  rw[←eW]
  clear eW
  go_wp2
  go_ret
  exact⟨rfl,HB.out⟩
 have t3:decide (y.e<0)=false:=decide_eq_false hye
 obtain⟨B,eB⟩:∃B,B=W.heap.size:=⟨_,rfl⟩
 have c1:=ca_new B W (Nat.le_of_eq eB)
 rw[←eB] at c1
 have fx:Fit x:=⟨x1,x2,by omega⟩
 have fy:Fit y:=⟨y1,y2,by omega⟩
 have HRX:=Lib.hid (show Rd W B A (bvs x.b) from eB▸(hx.below hb).more hb.size)
 have HRY:=Lib.hid (show Rd W B A2 (bvs y.b) from eB▸(hy.below hb).more hb.size)
 have LOX:=Lib.hid (show ∀a,A=some a→x.b≠[]→a.block<B from fun a ha hn=>by
  rcases HRX.out with h | ⟨g,o,h1,h2,_⟩
  ·exact absurd (List.map_eq_nil_iff.1 h) hn
  ·rw[h1] at ha;injection ha with ha;subst ha;exact h2)
 have LOY:=Lib.hid (show ∀a,A2=some a→y.b≠[]→a.block<B from fun a ha hn=>by
  rcases HRY.out with h | ⟨g,o,h1,h2,_⟩
  ·exact absurd (List.map_eq_nil_iff.1 h) hn
  ·rw[h1] at ha;injection ha with ha;subst ha;exact h2)
 have C2:=Lib.hid (fun(w1:World) (hb:Below B W w1) (h:Ca w1 B B (.slice none 0 0) [])=>put_b p x A c 0 h ((HRX.out.below hb).more h.big) (fun a ha hn=>low_co h (LOX.out a ha hn)) p1 p2 fx (by decide) (put_one p x 0) (show putE [] p 0=0 from rfl))
 have C3:=Lib.hid (fun(w1:World) (hb:Below B W w1) (v:Value) (es:List En) (h:Ca w1 B B v es) (hi:its es = [(p,x)])=>put_b p y A2 c2 0 h ((HRY.out.below hb).more h.big) (fun a ha hn=>low_co h (LOY.out a ha hn)) p1 p2 fy (by rw[its_len hi];simp) (show putL (its es) p y 0 = [(p,y)] by rw[hi];exact(put_anew p x y 0).1) (show putE (its es) p 0=0 by rw[hi];exact(put_anew p x y 0).2))
 have C4:=Lib.hid (fun(w1:World) (v:Value) (es:List En) (h:Ca w1 B B v es) (hi:its es = [(p,y)])=>get_b p 0 h (by rw[hi];exact fits_one fy) (by rw[its_len hi];simp) (show getO (its es) p 0=some (p,y) by rw[hi,get_one,if_pos (by omega)]))
 have C5:=Lib.hid (fun(w1:World) (v:Value) (es:List En) (h:Ca w1 B B v es)=>ca_len B B v es w1 h)
 have CS:=Lib.hid (fun(w1:World) (hb:Below B W w1) (hB:B≤w1.heap.size) (A3:Option Addr) (d3:Nat) (h:Rd w1 w1.heap.size A3 (bvs y.b))=>same_yes y A3 A2 d3 c2 w1.heap.size w1 h ((HRY.out.below hb).more hB) (Nat.le_refl _))
 have CK:=Lib.hid (fun w1=>cknown_any w1)
 have hpl:=hp.lt;have hxl:=hbx.lt;have hyl:=hby.lt
 rw[←eB] at hpl hxl hyl
 have PB:=Lib.hid (fun(w1:World) (h:Below B W w1)=>((h.block _ hpl).trans hp:Blk w1 w.heap.size 31 #[.string ⟨p.1.toArray⟩,.string ⟨p.2.toArray⟩]))
 have XBK:=Lib.hid (fun(w1:World) (h:Below B W w1)=>((h.block _ hxl).trans hbx:Blk w1 (w.heap.size+1) 38 xs))
 have YBK:=Lib.hid (fun(w1:World) (h:Below B W w1)=>((h.block _ hyl).trans hby:Blk w1 (w.heap.size+2) 38 ys))
 have XI:=Lib.hid (show(Try.prog.info? 38).map (·.size)=some xs.size by rw[exs,crA_size];exact cr_info)
 have YI:=Lib.hid (show(Try.prog.info? 38).map (·.size)=some ys.size by rw[eys,crA_size];exact cr_info)
 rw[←exs] at C2
 rw[←eys] at C3 CS
 have HB2:=Lib.hid (Below.refl B W)
 have HBW:=Lib.hid (show w.heap.size≤B from eB▸hb.size)
 rw[←exs,←eys]
 clear hx hy p1 p2 x1 x2 x3 y1 y2 y3 exs eys hb hp hbx hby hbig hxe hye eB fx fy hpl hxl hyl
 go_enter Try.func5,Try.ntmps5
 go_upto_region 1 with fail
 rw[←eW]
 clear eW
 go_upto_region 3 with fail
 clear kx3 ky3 kxe kye kp0 kp1 t1 t2 t3 i1 i2 i3 i4
 go_wp2_with (first
  |(go_at_call 10;refine Calls.mono c1 ?_;rintro e1 w1 ⟨rfl,hca,hb,hsz⟩;clear c1;have HCA:=Lib.hid hca;replace HB2:=Lib.hid (HB2.out.trans hb);have c2:=C2.out _ HB2.out HCA.out;clear hb hca hsz)
  |(refine Wh.load_g (by rfl) 31 (.tmp 3) (by rfl) _ 0 (by rfl) _ _ (Wh.range_blk (PB.out _ HB2.out)) Try.underlying31 (by rfl) pr_info ?_)
  |(refine Wh.load_g (by rfl) 38 (.tmp 4) (by rfl) _ 0 (by rfl) xs _ (Wh.range_blk (XBK.out _ HB2.out)) Try.underlying38 (by rfl) XI.out ?_)
  |(refine Wh.load_g (by rfl) 38 (.tmp 5) (by rfl) _ 0 (by rfl) ys _ (Wh.range_blk (YBK.out _ HB2.out)) Try.underlying38 (by rfl) YI.out ?_)
  |(go_at_call 11;refine Calls.mono c2 ?_;rintro e2 w2 ⟨rfl,v2,es2,hca,hi,hc,hnw⟩;clear c2;replace HB2:=Lib.hid (ca_below HB2.out HCA.out hc);have HCA2:=Lib.hid hca;have HI:=Lib.hid hi;have c3:=C3.out _ HB2.out _ _ HCA2.out HI.out;clear hca hi hc hnw)
  |(go_at_call 11;refine Calls.mono c3 ?_;rintro e3 w3 ⟨rfl,v3,es3,hca,hi,hc,hnw⟩;clear c3;replace HB2:=Lib.hid (ca_below HB2.out HCA2.out hc);have HCA3:=Lib.hid hca;have HI3:=Lib.hid hi;have c4:=C4.out _ _ _ HCA3.out HI3.out;clear hca hi hc hnw)
  |(go_at_call 13;refine Calls.mono c4 ?_;rintro e4 w4 ⟨A3,d3,rs,hrx,rfl,hrs,hri,hr1,ho,hb⟩;clear c4;have HRXX:=Lib.hid hrx;replace HB2:=Lib.hid (HB2.out.trans (hb.mono HCA3.out.big));have HCA4:=Lib.hid (HCA3.out.below hb);have HO:=Lib.hid ho;have HRS:=Lib.hid hrs;have HRI:=Lib.hid hri;have HR1:=Lib.hid hr1;clear hrx hrs hri hr1 hb ho)
  |(refine Wh.store_new (by rfl) 38 (.tmp 10) (.tmp 55) (by rfl) 38 rfl rs (by rfl) (by rfl) (by rw[HRS.out];rfl) HRI.out HR1.out ?_;rintro V hV hb;have HV:=Lib.hid hV;replace HB2:=Lib.hid (HB2.out.trans (hb.mono HCA4.out.big));replace HCA4:=Lib.hid (HCA4.out.below hb);replace HO:=Lib.hid (HO.out.below hb);have cs:=CS.out V HB2.out HCA4.out.big A3 d3 HO.out.1;rw[show crA y A3 d3=rs from HRXX.out.symm] at cs;clear hV hb)
  |(refine Wh.load_g (by rfl) 38 (.tmp 10) (by rfl) _ 0 (by rfl) rs _ (Wh.range_blk HV.out) Try.underlying38 (by rfl) HRI.out ?_)
  |(go_at_call 15;refine Calls.mono cs ?_;rintro e5 w5 ⟨rfl,hb⟩;clear cs;replace HB2:=Lib.hid (HB2.out.trans (hb.mono HCA4.out.big));replace HCA4:=Lib.hid (HCA4.out.below hb);have c5:=C5.out _ _ _ HCA4.out;rw[its_len HI3.out] at c5;clear hb)
  |(go_at_call 17;refine Calls.mono c5 ?_;rintro e7 w7 ⟨rfl,hw⟩;have hw:=hw.symm;subst hw;clear c5)
  |(go_at_call 18;refine Calls.mono (CK.out _) ?_;rintro e8 w8 ⟨rfl,hb⟩;replace HB2:=Lib.hid (HB2.out.trans (hb.mono HCA4.out.big));clear hb)
  |fail)
 go_ret
 exact⟨rfl,HB.out.trans (HB2.out.mono HBW.out)⟩
end Go.Proofs.Ytlacoakelliabaa.Ca
end

section
set_option linter.unusedVariables false
namespace Go.Proofs.Ytlacoakelliabaa.OpenP
open Go.Joins Go.ChangeShapes Go.WideShapes Go.ChangeAt Go.RowKit Go.Deep Go.Proofs.Ytlacoakelliabaa Go.Proofs.Ytlacoakelliabaa.Mem Go.Proofs.Ytlacoakelliabaa.Rg
theorem cut {α:Type} (cs:List α) (o c:Nat):cs.drop o=(cs.drop o).take c++cs.drop (o+c):=by
 rw[←List.drop_drop];exact(List.take_append_drop c _).symm
section
variable {H:Type} {enc:TypeId×Value→H} {W:World}
theorem c_str:Try.prog.cellsOf 9=1:=by kernel_rfl
theorem c_int:Try.prog.cellsOf 3=1:=by kernel_rfl
theorem c_u8:Try.prog.cellsOf 5=1:=by kernel_rfl
theorem c_pr:Try.prog.cellsOf 31=2:=by kernel_rfl
theorem in_str {n:Nat} {cs:List Value} {x:DataW H×List MemPlace} (h:DataW.trod enc Try.prog W 0 (fun _=>true) true n 9 cs=some x) (hw:∀n∈DataW.weights Try.prog 9 x.1,n≤reachBytes):∃l:List UInt8,cs = [.string ⟨l.toArray⟩]∧l.length≤reachBytes:=by
 obtain⟨s,hs,hx,hz⟩:=DataW.trod_string Try.underlying9 h
 exact⟨s.data.toList,by rw[hs,←Mem.bytes_eta s],hw _ (by rw[hx];simp [DataW.weights])⟩
theorem in_int {n:Nat} {cs:List Value} {x:DataW H×List MemPlace} (h:DataW.trod enc Try.prog W 0 (fun _=>true) true n 3 cs=some x):∃i:Int,cs = [.int .i64 i]∧(Lit.int .i64 i).wf=true:=by
 obtain⟨i,h1,_,h2⟩:=DataW.trod_int Try.underlying3 h
 exact⟨i,h1,h2⟩
theorem in_pr {n:Nat} {cs:List Value} {x:DataW H×List MemPlace} (h:DataW.trod enc Try.prog W 0 (fun _=>true) true n 31 cs=some x) (hw:∀n∈DataW.weights Try.prog 31 x.1,n≤reachBytes):∃p:Pr,cs = [.string ⟨p.1.toArray⟩,.string ⟨p.2.toArray⟩]∧p.1.length≤reachBytes∧p.2.length≤reachBytes:=by
 obtain⟨y0,y1,m,hx,hl,h0,h1⟩:=trod_struct2 Try.underlying31 h
 simp only[c_str] at h0 h1
 have fw:=fun(j:Nat) (t:TypeId) (d:DataW H) (ht:[9,9][j]? = some t) (hd:[y0.1,y1.1][j]? = some d) (n:Nat) (hn:n∈d.weights Try.prog t)=>hw n (by rw[hx];simp only[DataW.weights,Try.underlying31];exact DataW.weights_mem_each ht hd n hn)
 obtain⟨l0,e0,b0⟩:=in_str h0 (fw 0 _ _ rfl rfl)
 obtain⟨l1,e1,b1⟩:=in_str h1 (fw 1 _ _ rfl rfl)
 rw[c_pr] at hl
 refine⟨(l0,l1),?_,b0,b1⟩
 have k0:=cut cs 0 1
 have k1:=cut cs 1 1
 rw[e0] at k0
 rw[show 0+1=1 from rfl,k1,e1,List.drop_of_length_le (show cs.length≤1+1 by omega)] at k0
 exact k0
theorem fn_list {α:Type} {n:Nat} {p:Nat→α→Prop} (h:∀i,i<n→∃a,p i a):∃l:List α,l.length=n∧∀i (hi:i<l.length),p i l[i]:=by
 induction n with
 |zero=>exact⟨[],rfl,fun i hi=>by simp at hi⟩
 |succ n ih=>
  obtain⟨l,hl,hp⟩:=ih fun i hi=>h i (by omega)
  obtain⟨a,ha⟩:=h n (by omega)
  refine⟨l++[a],by simp [hl],fun i hi=>?_⟩
  rw[List.length_append,List.length_singleton] at hi
  by_cases g:i<l.length
  ·rw[List.getElem_append_left g];exact hp i g
  ·obtain rfl:i=l.length:=by omega
   rw[List.getElem_append_right (Nat.le_refl _)]
   simp only[Nat.sub_self,List.getElem_cons_zero]
   rw[hl];exact ha
theorem c_key:Try.prog.cellsOf 36=32:=by kernel_rfl
theorem in_key {n:Nat} {cs:List Value} {x:DataW H×List MemPlace} (h:DataW.trod enc Try.prog W 0 (fun _=>true) true n 36 cs=some x):∃k:Nat→UInt8,cs=(List.range 32).map (fun i=>bv (k i)):=by
 obtain⟨xs,m,_,hx,hl,hxl,hxs⟩:=DataW.trod_array Try.underlying36 h
 rw[c_key] at hl
 have each:∀i,i<32→∃b:UInt8,cs[i]? = some (bv b):=by
  intro i hi
  have g:=hxs i (by omega)
  rw[c_u8,Nat.mul_one,List.getElem?_eq_getElem (by omega)] at g
  obtain⟨v,h1,_,h2⟩:=DataW.trod_int Try.underlying5 g
  obtain⟨b,rfl⟩:=Open.u8_of_wf h2
  refine⟨b,?_⟩
  have e:=congrArg (fun l:List Value=>l[0]?) h1
  simp only[List.getElem?_cons_zero] at e
  rw[List.getElem?_take_of_lt (by omega),List.getElem?_drop,Nat.add_zero] at e
  exact e
 obtain⟨k,hk,hp⟩:=fn_list each
 refine⟨fun i=>k.getD i 0,List.ext_getElem? fun i=>?_⟩
 by_cases hi:i<32
 ·rw[hp i (by omega)]
  simp [hi,List.getD,List.getElem?_eq_getElem (show i<k.length by omega)]
 ·rw[List.getElem?_eq_none (by omega),List.getElem?_eq_none (by simp;omega)]
theorem open_st {P:Program} {t:TypeId} {fs:Array Field} (ht:P.underlying t=some (.struct fs)) {r:Reach} {b0:Nat} {v:Value} {d:DataW H} {ps:List MemPlace} (hv:Value.okWide P W r b0 t v) (h:DataW.Trod enc P W 0 (fun _=>true) true t v d ps) :
  ∃cs:Array Value,∃n:Nat,v=Value.agg cs∧DataW.trod enc P W 0 (fun _=>true) true n t cs.toList=some (d,ps):=by
 obtain⟨cs,hcs,_⟩:=okWide_struct ht hv
 obtain⟨n,hf⟩:=h
 rw[hcs] at hf
 exact⟨cs,n,hcs,hf⟩
end
end Go.Proofs.Ytlacoakelliabaa.OpenP
end

section
set_option linter.unusedVariables false
namespace Go.Proofs.Ytlacoakelliabaa.OpenK
open Go.Joins Go.ChangeShapes Go.WideShapes Go.ChangeAt Go.RowKit Go.Deep Go.Proofs.Ytlacoakelliabaa Go.Proofs.Ytlacoakelliabaa.Mem Go.Proofs.Ytlacoakelliabaa.Ca
open Go.Proofs.Ytlacoakelliabaa.Rg (Pr)
open Go.Proofs.Ytlacoakelliabaa.Se (key32 key32_size)
section
variable {H:Type} {enc:TypeId×Value→H} {W:World}
theorem bytes_trod_k {t e:TypeId} {held:Bool} {fuel:Nat} {v:Value} {x:DataW H×List MemPlace} {P:Program} (ht:P.underlying t=some (.slice e)) (he:P.underlying e=some (.int .u8)) (hc:P.cellsOf e=1) (hb1:P.bytesOf e=1)
  (h:DataW.trod enc P W 0 (fun _=>true) held fuel t [v]=some x) (hw:∀n∈DataW.weights P t x.1,n≤reachBytes):∃A l c,v = .slice A (List.length l) c∧Rd W W.heap.size A (bvs l)∧l.length≤reachBytes:=by
 rcases open_ints ht he hc h with⟨hcs,_⟩ | ⟨a0,l,c,zs,hcs,_,hl,hm,hz,hdat,hcell,hwz⟩
 ·injection hcs with hcs
  exact⟨none,[],0,hcs,.inl rfl,Nat.zero_le _⟩
 ·injection hcs with hcs
  simp only[if_true] at hz
  obtain⟨bs,hbl,hb⟩:=Open.bytes_of_ints (k:=l) (zs:=zs) (by omega) hwz
  refine⟨some a0,bs,c,by rw[hbl];exact hcs,Open.rd_of_cells fun i u hu=>?_,?_⟩
  ·obtain⟨h1,h2⟩:=hb i u hu
   rw[hcell i h1,h2]
  ·have h1:=hw ((lits (H:=H) .u8 (zs.take l)).length+(lits (H:=H) .u8 (zs.drop l)).length) (by rw[hdat];simp [DataW.weights,ht,hb1])
   have h2:(lits (H:=H) .u8 (zs.take l)).length+(lits (H:=H) .u8 (zs.drop l)).length=zs.length:=by simp [lits];omega
   omega
theorem c_byt:Try.prog.cellsOf 32=1:=by kernel_rfl
theorem in_byt {n:Nat} {cs:List Value} {x:DataW H×List MemPlace} (hl:cs.length=1) (h:DataW.trod enc Try.prog W 0 (fun _=>true) true n 32 cs=some x) (hw:∀n∈DataW.weights Try.prog 32 x.1,n≤reachBytes):∃A l c,cs = [.slice A (List.length l) c]∧Rd W W.heap.size A (bvs l)∧l.length≤reachBytes:=by
 match cs,hl with
 | [u],_=>
  obtain⟨A,l,c,rfl,h1,h2⟩:=bytes_trod_k Try.underlying32 Try.underlying5 OpenP.c_u8 (by kernel_rfl) h hw
  exact⟨A,l,c,rfl,h1,h2⟩
theorem c_tk:Try.prog.cellsOf 34=4:=by kernel_rfl
set_option maxRecDepth 100000 in
theorem in_tk {n:Nat} {cs:List Value} {x:DataW H×List MemPlace} (h:DataW.trod enc Try.prog W 0 (fun _=>true) true n 34 cs=some x) (hw:∀n∈DataW.weights Try.prog 34 x.1,n≤reachBytes):∃(s:Pr) (n:Int) (l:List UInt8) (A:Option Addr) (c:Nat),cs = [.string ⟨s.1.toArray⟩,.string ⟨s.2.toArray⟩,.int .i64 n,.slice A l.length c]∧Rd W W.heap.size A (bvs l)∧s.1.length≤reachBytes∧s.2.length≤reachBytes∧l.length≤reachBytes:=by
 obtain⟨xs,m,_,hx,hl,hxl,hf⟩:=DataW.trod_struct Try.underlying34 h
 rw[c_tk] at hl
 match xs,hxl with
 | [y0,y1,y2],_=>
  have fw:=fun(j:Nat) (t:TypeId) (d:DataW H) (ht:_[j]? = some t) (hd:[y0.1,y1.1,y2.1][j]? = some d) (n:Nat) (hn:n∈d.weights Try.prog t)=>hw n (by rw[hx];simp only[DataW.weights,Try.underlying34];exact DataW.weights_mem_each ht hd n hn)
  have h0:DataW.trod enc Try.prog W 0 (fun _=>true) true m 31 ((cs.drop 0).take (Try.prog.cellsOf 31))=some y0:=hf 0 _ rfl
  rw[OpenP.c_pr] at h0
  obtain⟨l0,e0,b0,d0⟩:=OpenP.in_pr h0 (fw 0 _ _ rfl rfl)
  have q0:=OpenP.cut cs 0 2
  rw[e0] at q0
  have h1:DataW.trod enc Try.prog W 0 (fun _=>true) true m 3 ((cs.drop 2).take (Try.prog.cellsOf 3))=some y1:=hf 1 _ rfl
  rw[OpenP.c_int] at h1
  obtain⟨l1,e1,b1⟩:=OpenP.in_int h1
  have q1:=OpenP.cut cs 2 1
  rw[e1] at q1
  have h2:DataW.trod enc Try.prog W 0 (fun _=>true) true m 32 ((cs.drop 3).take (Try.prog.cellsOf 32))=some y2:=hf 2 _ rfl
  rw[c_byt] at h2
  obtain⟨A2,l2,k2,e2,r2,b2⟩:=in_byt (by rw[List.length_take,List.length_drop];omega) h2 (fw 2 _ _ rfl rfl)
  have q2:=OpenP.cut cs 3 1
  rw[e2] at q2
  have k:cs=cs.drop 0:=rfl
  rw[q0,show 0+2=2 from rfl] at k
  rw[q1,show 2+1=3 from rfl] at k
  rw[q2,show 3+1=4 from rfl] at k
  rw[show cs.drop 4 = [] from List.drop_of_length_le (by omega)] at k
  clear hf h h0 q0 e0 h1 q1 e1 h2 q2 e2
  exact⟨l0,l1,l2,A2,k2,k,r2,b0,d0,b2⟩
theorem c_cr:Try.prog.cellsOf 38=37:=by kernel_rfl
set_option maxRecDepth 100000 in
theorem in_cr {n:Nat} {cs:List Value} {x:DataW H×List MemPlace} (h:DataW.trod enc Try.prog W 0 (fun _=>true) true n 38 cs=some x) (hw:∀n∈DataW.weights Try.prog 38 x.1,n≤reachBytes):∃(z:Cr) (A:Option Addr) (c:Nat),cs=crC z A c∧Rd W W.heap.size A (bvs z.b)∧z.s.1.length≤reachBytes∧z.s.2.length≤reachBytes∧z.b.length≤reachBytes∧(Lit.int .i64 z.e).wf=true:=by
 obtain⟨xs,m,_,hx,hl,hxl,hf⟩:=DataW.trod_struct Try.underlying38 h
 rw[c_cr] at hl
 match xs,hxl with
 | [y0,y1,y2],_=>
  have fw:=fun(j:Nat) (t:TypeId) (d:DataW H) (ht:_[j]? = some t) (hd:[y0.1,y1.1,y2.1][j]? = some d) (n:Nat) (hn:n∈d.weights Try.prog t)=>hw n (by rw[hx];simp only[DataW.weights,Try.underlying38];exact DataW.weights_mem_each ht hd n hn)
  have h0:DataW.trod enc Try.prog W 0 (fun _=>true) true m 34 ((cs.drop 0).take (Try.prog.cellsOf 34))=some y0:=hf 0 _ rfl
  rw[c_tk] at h0
  obtain⟨s0,n0,l0,A0,k0,e0,r0,b0,d0,f0⟩:=in_tk h0 (fw 0 _ _ rfl rfl)
  have q0:=OpenP.cut cs 0 4
  rw[e0] at q0
  have h1:DataW.trod enc Try.prog W 0 (fun _=>true) true m 36 ((cs.drop 4).take (Try.prog.cellsOf 36))=some y1:=hf 1 _ rfl
  rw[OpenP.c_key] at h1
  obtain⟨l1,e1⟩:=OpenP.in_key h1
  have q1:=OpenP.cut cs 4 32
  rw[e1] at q1
  have h2:DataW.trod enc Try.prog W 0 (fun _=>true) true m 3 ((cs.drop 36).take (Try.prog.cellsOf 3))=some y2:=hf 2 _ rfl
  rw[OpenP.c_int] at h2
  obtain⟨l2,e2,b2⟩:=OpenP.in_int h2
  have q2:=OpenP.cut cs 36 1
  rw[e2] at q2
  have k:cs=cs.drop 0:=rfl
  rw[q0,show 0+4=4 from rfl] at k
  rw[q1,show 4+32=36 from rfl] at k
  rw[q2,show 36+1=37 from rfl] at k
  rw[show cs.drop 37 = [] from List.drop_of_length_le (by omega)] at k
  clear hf h h0 q0 e0 h1 q1 e1 h2 q2 e2
  refine⟨⟨s0,n0,l0,l1,l2⟩,A0,k0,k.trans ?_,r0,b0,d0,f0,b2⟩
  simp [crC,key32]
structure Ac where
 k:Int
 p:Pr
 x:Cr
 A:Option Addr
 c:Nat
 t:Int
def aC (a:Ac):List Value:=.int .i64 a.k :: .string ⟨a.p.1.toArray⟩ :: .string ⟨a.p.2.toArray⟩ :: (crC a.x a.A a.c++[.int .i64 a.t])
def RdAc (w:World) (B:Nat) (A:Option Addr) (l:List Ac):Prop:=
 l = []∨∃g o,A=some ⟨g,o,none⟩∧g<B∧∀i x,l[i]? = some x→w.rangeAt g (o+i*41) (aC x)
theorem RdAc.keep {w w':World} {B:Nat} {A:Option Addr} {l:List Ac} (h:RdAc w B A l) (hb:Below B w w'):RdAc w' B A l:=by
 rcases h with h | ⟨g,o,h1,h2,h3⟩
 ·exact .inl h
 ·exact .inr ⟨g,o,h1,h2,fun i x hx j v hv=>(hb.cell (p:=⟨g,_,none⟩) h2).trans (h3 i x hx j v hv)⟩
theorem RdAc.at_ {w:World} {B:Nat} {A:Option Addr} {l:List Ac} {i:Nat} {x:Ac} (h:RdAc w B A l) (hx:l[i]? = some x):∃g o,A=some ⟨g,o,none⟩∧g<B∧w.rangeAt g (o+i*41) (aC x):=by
 rcases h with h | ⟨g,o,h1,h2,h3⟩
 ·subst h;simp at hx
 ·exact⟨g,o,h1,h2,h3 i x hx⟩
end
end Go.Proofs.Ytlacoakelliabaa.OpenK
end

section
namespace Go.Proofs.Ytlacoakelliabaa.cacheAnew
open Go.ChangeShapes Go.WideShapes Go.ChangeAt Go.RowKit Go.Proofs.Ytlacoakelliabaa
open Go.ChangeMaps (open_string shut_string)
theorem own:ownKnob Try.prog.godebug=none:=by kernel_rfl
theorem laidOut:laidOutB Try.prog=true:=by kernel_rfl
set_option maxRecDepth 100000 in
theorem lifted (os:Os) (started:os.Started) (H:Type) (enc:TypeId×Value→H) :
  ReturnsInHanded {} Try.checked os 5 .any (Rows.cacheAnewSpec.pre6 enc Try.prog Try.f5 Rows.cacheAnewRow.domain false) (Rows.cacheAnewSpec.post enc Try.prog Try.f5 false true false false):=by
 refine returnsInHanded_of_change_sized (C:=Try.checked) own started (by kernel_rfl) Try.func5
  (ChangeSpec.witness6 (enc:=enc) (C:=Try.checked) false ⟨#[],#[.agg #[.string ⟨#[]⟩,.string ⟨#[]⟩],.agg #[.string ⟨#[]⟩,.string ⟨#[]⟩,.int .i64 0,.slice none 0 0,.int .u8 0,.int .u8 0,.int .u8 0,.int .u8 0,.int .u8 0,.int .u8 0,.int .u8 0,.int .u8 0,.int .u8 0,.int .u8 0,.int .u8 0,.int .u8 0,.int .u8 0,.int .u8 0,.int .u8 0,.int .u8 0,.int .u8 0,.int .u8 0,.int .u8 0,.int .u8 0,.int .u8 0,.int .u8 0,.int .u8 0,.int .u8 0,.int .u8 0,.int .u8 0,.int .u8 0,.int .u8 0,.int .u8 0,.int .u8 0,.int .u8 0,.int .u8 0,.int .i64 0],.agg #[.string ⟨#[]⟩,.string ⟨#[]⟩,.int .i64 0,.slice none 0 0,.int .u8 0,.int .u8 0,.int .u8 0,.int .u8 0,.int .u8 0,.int .u8 0,.int .u8 0,.int .u8 0,.int .u8 0,.int .u8 0,.int .u8 0,.int .u8 0,.int .u8 0,.int .u8 0,.int .u8 0,.int .u8 0,.int .u8 0,.int .u8 0,.int .u8 0,.int .u8 0,.int .u8 0,.int .u8 0,.int .u8 0,.int .u8 0,.int .u8 0,.int .u8 0,.int .u8 0,.int .u8 0,.int .u8 0,.int .u8 0,.int .u8 0,.int .u8 0,.int .i64 0]],[]⟩ 8 (by kernel_rfl) (by kernel_rfl) (by kernel_rfl) (by kernel_rfl)) ?_
 intro W base args ds gs before hval0 hW hcnd hsz _
 have hval:∀(j:Nat) t v,Try.f5.params[j]? = some t→args[j]? = some v→Value.okWide Try.prog W .any base t v:=hval0
 have hW':=hW
 obtain⟨p,q,hA0,hV,rfl,hfz,hnd⟩:=hW
 have hA:DataW.TrodAll enc Try.prog W 0 (fun _=>true) true Try.f5.params.toList args.toList ds p:=hA0
 rw[Try.params5] at hA hval
 obtain⟨v0,vs0,d0,ds0,p0,q0,hargs,rfl,rfl,h0,r0⟩:=trodAll_cons hA
 obtain⟨v1,vs1,d1,ds1,p1,q1,rfl,rfl,rfl,h1,r1⟩:=trodAll_cons r0
 obtain⟨v2,vs2,d2,ds2,p2,q2,rfl,rfl,rfl,h2,r2⟩:=trodAll_cons r1
 obtain⟨rfl,rfl,rfl⟩:=trodAll_nil r2
 obtain rfl:args=#[v0,v1,v2]:=by cases args;simp_all
 obtain⟨rfl,rfl⟩:=trodVars_none hV
 have k0:=h0
 have lt0:∀x∈p0,x.block<W.heap.size:=by obtain⟨m,hm⟩:=k0;exact DataW.trod_lt m _ _ _ hm
 have wt0:∀n∈DataW.weights Try.prog 31 d0,n≤reachBytes:=fun n hn=>by have:=List.all_eq_true.1 hsz n (DataW.weights_mem_each (j:=0) (t:=31) (d:=d0) (by rw[Try.params5];rfl) rfl n hn);simpa using this
 obtain⟨cs0,n0,rfl,f0⟩:=OpenP.open_st Try.underlying31 (hval 0 31 v0 rfl rfl) h0
 obtain⟨x0,e0,lp0,lq0⟩:=OpenP.in_pr f0 (wt0)
 obtain rfl:cs0=#[.string ⟨x0.1.toArray⟩,.string ⟨x0.2.toArray⟩]:=by rw[←Array.toArray_toList (xs:=cs0),e0]
 have k1:=h1
 have lt1:∀x∈p1,x.block<W.heap.size:=by obtain⟨m,hm⟩:=k1;exact DataW.trod_lt m _ _ _ hm
 have wt1:∀n∈DataW.weights Try.prog 38 d1,n≤reachBytes:=fun n hn=>by have:=List.all_eq_true.1 hsz n (DataW.weights_mem_each (j:=1) (t:=38) (d:=d1) (by rw[Try.params5];rfl) rfl n hn);simpa using this
 obtain⟨cs1,n1,rfl,f1⟩:=OpenP.open_st Try.underlying38 (hval 1 38 v1 rfl rfl) h1
 obtain⟨x1,A1,c1,e1,rr1,pa1,pb1,pc1,_⟩:=OpenK.in_cr f1 (wt1)
 obtain rfl:cs1=Ca.crA x1 A1 c1:=by rw[←Array.toArray_toList (xs:=cs1),e1];rfl
 have k2:=h2
 have lt2:∀x∈p2,x.block<W.heap.size:=by obtain⟨m,hm⟩:=k2;exact DataW.trod_lt m _ _ _ hm
 have wt2:∀n∈DataW.weights Try.prog 38 d2,n≤reachBytes:=fun n hn=>by have:=List.all_eq_true.1 hsz n (DataW.weights_mem_each (j:=2) (t:=38) (d:=d2) (by rw[Try.params5];rfl) rfl n hn);simpa using this
 obtain⟨cs2,n2,rfl,f2⟩:=OpenP.open_st Try.underlying38 (hval 2 38 v2 rfl rfl) h2
 obtain⟨x2,A2,c2,e2,rr2,pa2,pb2,pc2,_⟩:=OpenK.in_cr f2 (wt2)
 obtain rfl:cs2=Ca.crA x2 A2 c2:=by rw[←Array.toArray_toList (xs:=cs2),e2];rfl
 clear hA0 hval0
 refine(Ca.anew_any x0 x1 x2 A1 A2 c1 c2 W rr1 rr2 lp0 lq0 pa1 pb1 pc1 pa2 pb2 pc2).mono fun e W' ⟨he,bel⟩=>?_
 subst he
 exact⟨_,rfl,_,_,_,[],_,[],hW',trodAll_mk1 (shut_bool Try.underlying4 _),(trodAll_cons_mk (Below.trod laidOut (by kernel_rfl) (of_decide_eq_true (by kernel_rfl)) k0 bel lt0) (trodAll_cons_mk (Below.trod laidOut (by kernel_rfl) (of_decide_eq_true (by kernel_rfl)) k1 bel lt1) (trodAll_cons_mk (Below.trod laidOut (by kernel_rfl) (of_decide_eq_true (by kernel_rfl)) k2 bel lt2) trodAll_mk0))),rfl,bel.frame _,fun h=>by cases h⟩
theorem over:Rows.cacheAnewRow.holds Try.pinned (OpenSpec.ofChange Rows.cacheAnewSpec):=
 OpenClaim.holds_of_wide 5 Try.f5 rfl rfl rfl rfl rfl rfl rfl ⟨rfl,rfl,rfl,rfl,rfl⟩ rfl rfl rfl rfl rfl (by kernel_rfl) Try.func5 (by kernel_rfl)
  (of_decide_eq_true (by kernel_rfl)) (by unfold Func.isWrapper;first | (rw[if_pos (by decide +kernel)];kernel_rfl) | (rw[if_neg (by decide +kernel)];exact⟨rfl,rfl⟩))
  (fun os started H enc _=>lifted os started H enc)
theorem proved:Rows.CacheAnewSaid:=over
end Go.Proofs.Ytlacoakelliabaa.cacheAnew
end
