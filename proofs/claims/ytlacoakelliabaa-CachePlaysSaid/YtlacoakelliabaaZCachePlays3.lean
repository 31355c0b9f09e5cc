import Derived.Lib.SliceRun
import Derived.Deep.RegionHeld3
import Derived.StillTailTactics
import Derived.Deep.CutBlock
import Derived.Test.YtlacoakelliabaaProg
import Derived.Deep.LoopGhost
import Derived.Test.YtlacoakelliabaaZCachePlays1
import Derived.Test.YtlacoakelliabaaZCachePlays2
section
set_option linter.unusedVariables false
set_option linter.unusedSimpArgs false
namespace Go.Proofs.Ytlacoakelliabaa.Ca
open Go.RowKit Go.Proofs.Ytlacoakelliabaa.Mem Go.Proofs.Ytlacoakelliabaa.Se
open Go.Proofs.Ytlacoakelliabaa.Nm (L)
open Go.Proofs.Ytlacoakelliabaa.Rg (Pr prV pr_info)
theorem room_big (n:Nat) (hn:n≤140737488351232) (w:World):(Instr.makeSlice 32 (.int .i64 (n:Int)) (.int .i64 (n:Int))).run Try.prog w = .ok (.slice (some ⟨w.heap.size,0,none⟩) n n) (w.alloc (.cells (zeros n) 5)):=by
 obtain⟨i0,hi,hz,hs,hb⟩:=info_parts Nm.u8_row
 have h:=run_make (P:=Try.prog) w 32 5 i0 _ Try.underlying32 hi hz .i64 .i64 (n:Int) (n:Int) (by omega) (by omega) (by rw[hb];omega) (by omega)
 have e:madeCells (Value.int .u8 0).cells (((n:Int)).toNat*i0.size)=zeros n:=by
  rw[hs,Nat.mul_one,Int.toNat_natCast]
  refine Array.toList_inj.1 ?_
  show(madeCells #[Value.int .u8 0] n).toList=_
  rw[toList_madeCells_one];simp [zeros,bv]
 rw[e] at h
 simpa using h
theorem told_big (s:L) (h0:s≠[]) (hs:s.length≤140737488351232) (w:World):(Builtin.unsafeString_ #[70,3] 9 #[.pointer (some ⟨w.heap.size,0,none⟩),.int .i64 (s.length:Int)]).run Try.prog (w.alloc (.cells (bvs s).toArray 5)) = .ok (.string ⟨s.toArray⟩) ((w.alloc (.cells (bvs s).toArray 5)).freeze ⟨w.heap.size,0,none⟩ s.length):=by
 obtain⟨i0,hi,_,hz,_⟩:=info_parts Nm.u8_row
 have hk:=Blk.new w 5 (bvs s).toArray
 refine Lib.run_unsafeString_row (P:=Try.prog) _ _ _ _ 5 Try.underlying70 (by simp [Program.cellsOf,hi,hz]) w.heap.size s.length ?_ s h0 (Nat.le_refl _) (by omega) fun j x hx=>?_
 ·unfold World.shape?
  rw[show(w.alloc (.cells (bvs s).toArray 5)).heap[w.heap.size]? = _ from hk]
  simp [bvs_length]
 ·obtain⟨hj,e⟩:=List.getElem?_eq_some_iff.1 hx
  rw[addr_add,Nat.zero_add,hk.cell,List.getElem?_toArray,bvs_at hj,e];rfl
set_option maxHeartbeats 800000 in
set_option maxRecDepth 100000 in
theorem lclone_big (s:L) (w:World) (hlim:s.length≤140737488351232):Calls Try.prog 28 #[.string ⟨s.toArray⟩] w fun e w'=>e = .returned (.string ⟨s.toArray⟩)∧Below w.heap.size w w':=by
 by_cases h0:s = []
 ·subst h0
  go_enter Try.func28,Try.ntmps28
  go_wp2
  go_ret
  exact⟨rfl,Below.refl _ _⟩
 ·have hmk:=room_big s.length hlim w
  have hcp:=Nm.laid_any s w
  have hus:=told_big s h0 hlim w
  have hl:1≤s.length:=by
   cases s with
   |nil=>exact absurd rfl h0
   |cons a r=>simp
  have t0:((s.length:Int)==0)=false:=by simp;omega
  have HB:=Lib.hid (Lib.below_freeze ((Below.refl w.heap.size w).alloc (Nat.le_refl _) (.cells (bvs s).toArray 5)) (p:=⟨w.heap.size,0,none⟩) (Nat.le_refl _) s.length)
  clear h0
  go_enter Try.func28,Try.ntmps28
  go_wp2
  go_ret
  exact⟨rfl,HB.out⟩
theorem sclone_big (s:L) (w:World) (hlim:s.length≤140737488351232):Calls Try.prog 25 #[.string ⟨s.toArray⟩] w fun e w'=>e = .returned (.string ⟨s.toArray⟩)∧Below w.heap.size w w':=by
 have c1:=lclone_big s w hlim
 go_enter Try.func25,Try.ntmps25
 go_wp2_with (go_at_call 28;refine Calls.mono c1 ?_;rintro e w' ⟨rfl,hb⟩)
 go_ret
 exact⟨rfl,hb⟩
set_option maxHeartbeats 1600000 in
theorem clone_cp (p:Pr) (w:World) (h1:p.1.length≤140737488351232) (h2:p.2.length≤140737488351232):Calls Try.prog 21 #[prV p] w fun e w'=>e = .returned (prV p)∧Below w.heap.size w w':=by
 have C1:=Lib.hid (fun w1=>sclone_big p.1 w1 h1)
 have C2:=Lib.hid (fun w1=>sclone_big p.2 w1 h2)
 go_enter Try.func21,Try.ntmps21
 go_upto_region 1 with fail
 obtain⟨W,eW⟩:∃W,W=(w.alloc (.cells #[.string ⟨p.1.toArray⟩,.string ⟨p.2.toArray⟩] 31)).alloc (.cells #[.string ⟨#[]⟩,.string ⟨#[]⟩] 31):=⟨_,rfl⟩
 have hq:=Blk.new (w.alloc (.cells #[.string ⟨p.1.toArray⟩,.string ⟨p.2.toArray⟩] 31)) 31 #[.string ⟨#[]⟩,.string ⟨#[]⟩]
 rw[show(w.alloc (.cells #[.string ⟨p.1.toArray⟩,.string ⟨p.2.toArray⟩] 31)).heap.size=w.heap.size+1 by simp,←eW] at hq
 have HK:=Lib.hid (show Blk W w.heap.size 31 #[.string ⟨p.1.toArray⟩,.string ⟨p.2.toArray⟩] by rw[eW];exact(Blk.new _ _ _).alloc _)
 have HZ:=Lib.hid hq
 have HB:=Lib.hid (show Below w.heap.size w W by rw[eW];exact((Below.refl _ _).alloc (Nat.le_refl _) _).alloc (by simp) _)
 rw[←eW]
 clear eW hq
 replace HK:=Lib.hid (show Blk W.drew _ _ _ from HK.out.drewN 1)
 replace HZ:=Lib.hid (show Blk W.drew _ _ _ from HZ.out.drewN 1)
 replace HB:=Lib.hid (show Below _ _ W.drew from below_drewN HB.out 1)
 go_region_held3 (fun w'=>w'.cell? ⟨w.heap.size,0,none⟩=some (.string ⟨p.1.toArray⟩)∧w'.cell? ⟨w.heap.size,1,none⟩=some (.string ⟨p.2.toArray⟩)) (first | exact⟨HK.out.cell 0,HK.out.cell 1⟩ | exact⟨(Si.Blk.far (Si.Blk.far HK.out _ _ (by simp)) _ _ (by simp)).cell 0,(Si.Blk.far (Si.Blk.far HK.out _ _ (by simp)) _ _ (by simp)).cell 1⟩) ((first
  |(go_at_call 25;(with_reducible refine Calls.mono (C1.out _) ?_);rintro e w1 ⟨rfl,hb⟩;clear C1;replace HK:=Lib.hid (HK.out.below hb);replace HZ:=Lib.hid (HZ.out.below hb);replace HB:=Lib.hid (HB.out.trans (hb.mono HB.out.size));have kz0:w1.cell? ⟨w.heap.size+1,0,none⟩=some (.string ⟨#[]⟩):=HZ.out.cell 0;have kz1:w1.cell? ⟨w.heap.size+1,1,none⟩=some (.string ⟨#[]⟩):=HZ.out.cell 1;have fz:=HZ.out.frozen;clear hb)
  |(go_at_call 25;(with_reducible refine Calls.mono (C2.out _) ?_);rintro e w2 ⟨rfl,hb⟩;clear C2 kz0 kz1 fz;replace HK:=Lib.hid (HK.out.below hb);replace HZ:=Lib.hid (HZ.out.below hb);replace HB:=Lib.hid (HB.out.trans (hb.mono HB.out.size));have kz0:w2.cell? ⟨w.heap.size+1,0,none⟩=some (.string ⟨#[]⟩):=HZ.out.cell 0;have kz1:w2.cell? ⟨w.heap.size+1,1,none⟩=some (.string ⟨#[]⟩):=HZ.out.cell 1;have fz:=HZ.out.frozen;clear hb)))
 go_wp2
 have hz:=(HZ.out.set 0 (.string ⟨p.1.toArray⟩)).set 1 (.string ⟨p.2.toArray⟩)
 rw[show(((#[.string ⟨#[]⟩,.string ⟨#[]⟩]:Array Value).setIfInBounds 0 (.string ⟨p.1.toArray⟩)).setIfInBounds 1 (.string ⟨p.2.toArray⟩))=#[.string ⟨p.1.toArray⟩,.string ⟨p.2.toArray⟩] from rfl] at hz
 refine bodyPost_ret (v:=prV p) ?_ ?_ ?_
 ·exact Wh.results_cell (v:=prV p) 2 31 ⟨w.heap.size+1,0,none⟩ Try.results21 (by rfl) (Wh.load_blk hz Try.underlying31 (by rfl) pr_info)
 ·rfl
 ·exact⟨rfl,Si.below_set (Si.below_set HB.out (by simp) _) (by simp) _⟩
structure Own1 (a w:World) (A:Option Addr) (xs:List Value):Prop where
 rd:Rd w w.heap.size A xs
 lo:∀p,A=some p→a.heap.size≤p.block∧p.block<w.heap.size
 bk:∀p,A=some p→∃t cur,Blk w p.block t cur
theorem Own1.below {a w w':World} {A:Option Addr} {xs:List Value} (h:Own1 a w A xs) (hb:Below w.heap.size w w'):Own1 a w' A xs:=
 ⟨(h.1.below hb).more hb.size,fun p hp=>have q:=h.2 p hp;⟨q.1,Nat.lt_of_lt_of_le q.2 hb.size⟩,fun p hp=>by obtain⟨t,cur,q⟩:=h.3 p hp;exact⟨t,cur,q.below hb⟩⟩
theorem Own1.since {a b w:World} {A:Option Addr} {xs:List Value} (h:Own1 b w A xs) (hs:a.heap.size≤b.heap.size):Own1 a w A xs:=
 ⟨h.1,fun p hp=>have q:=h.2 p hp;⟨Nat.le_trans hs q.1,q.2⟩,h.3⟩
theorem Own1.chg {S:Nat→Prop} {a w w':World} {A:Option Addr} {xs:List Value} (h:Own1 a w A xs) (hc:Chg S w w') (hs:∀p,A=some p→¬S p.block):Own1 a w' A xs:=
 ⟨rd_chg h.1 hc hs,fun p hp=>have q:=h.2 p hp;⟨q.1,Nat.lt_of_lt_of_le q.2 hc.size⟩,fun p hp=>by obtain⟨t,cur,q⟩:=h.3 p hp;exact⟨t,cur,hc.blk q (hs p hp)⟩⟩
theorem Own1.none (a w:World):Own1 a w .none []:=⟨.inl rfl,(fun p hp=>by cases hp),(fun p hp=>by cases hp)⟩
theorem Own1.of_own {w w':World} {n:Nat} {v:Value} {t:TypeId} {xs:List Value} (h:w'.ownsRow w.heap.size t 1 v n xs):∃A c,v = .slice A n c∧Own1 w w' A xs:=by
 rcases h.2 with⟨h1,h2⟩ | ⟨g,cap,cur,h1,hg,hh,hc,hm,hq,hx⟩
 ·subst h2
  exact⟨_,0,h1,Rd.of_own (n:=0) (cap:=0) (by rw[←h1];exact h),(fun p hp=>by cases hp),(fun p hp=>by cases hp)⟩
 ·subst h1
  exact⟨_,cap,rfl,Rd.of_own h,(fun p hp=>by injection hp with hp;subst hp;exact⟨hg,(Array.getElem?_eq_some_iff.1 hh).1⟩),(fun p hp=>by injection hp with hp;subst hp;exact⟨t,cur,hh⟩)⟩
set_option maxHeartbeats 1600000 in
set_option maxRecDepth 100000 in
theorem bclone_any (A:Option Addr) (c B:Nat) (l:L) (w:World) (hr:Rd w B A (bvs l)) (hB:B≤w.heap.size) (hl:l.length≤100000000000):Calls Try.prog 26 #[.slice A l.length c] w fun e w'=>∃A' c',e = .returned (.slice A' l.length c')∧Own1 w w' A' (bvs l)∧Below w.heap.size w w':=by
 have hsn:=Lib.run_eql_slice_nil (P:=Try.prog) w 32 5 A l.length c 0 0 Try.underlying32
 obtain⟨n,en⟩:∃n,n=l.length:=⟨_,rfl⟩
 have EN:=Lib.hid en
 rw[←en] at hsn hl⊢
 cases A with
 |none=>
  have hl0:bvs l = []:=by
   rcases hr with h | ⟨b,o,h,_⟩
   ·exact h
   ·cases h
  have hn0:n=0:=by
   have:=congrArg List.length hl0
   rw[bvs_length] at this
   exact en.trans this
  rw[hl0]
  clear hr en hl0
  subst hn0
  go_enter Try.func26,Try.ntmps26
  go_wp2
  go_ret
  exact⟨none,0,rfl,Own1.none _ _,Below.refl _ _⟩
 |some a=>
  obtain⟨i0,hi0,hz0,hs0,hb0⟩:=info_parts Nm.u8_row
  have KI1:=Lib.hid hi0;have KI2:=Lib.hid hz0;have KI3:=Lib.hid hs0;have KI4:=Lib.hid hb0
  have HR:=Lib.hid hr
  have HBB:=Lib.hid hB
  have HL:=Lib.hid hl
  have hb1:Below w.heap.size w (w.alloc (.cells #[] 5)):=(Below.refl _ _).alloc (Nat.le_refl _) _
  have HB1:=Lib.hid hb1
  have HO:=Lib.hid (World.ownsRow_made (base:=w.heap.size) w (e:=5) (size:=1) #[] 0 (Nat.le_refl _) (by decide) rfl)
  clear hr en hi0 hz0 hs0 hb0 hB hl hb1
  go_enter Try.func26,Try.ntmps26
  go_wp2_with (first
   |(refine wpList_append_rd _ rfl (.tmp 5) (.tmp 6) 32 rfl w.heap.size 5 i0 _ 1 Try.underlying32 KI1.out KI2.out KI3.out KI4.out rfl _ 0 [] rfl HO.out B _ n c (bvs l) rfl (by rw[bvs_length];exact EN.out) (HR.out.below (HB1.out.mono HBB.out)) (bvs_one _) (by have:=HL.out;unfold maxLen;omega) (by have:=HL.out;omega) HB1.out.size ?_;intro v' w' ho hg hv;rw[Nat.zero_add,List.nil_append] at ho;have HO2:=Lib.hid ho;have HG2:=Lib.hid (below_g HB1.out hg HB1.out.size (Nat.le_refl _));clear ho hg hv)
   |fail)
  go_ret
  obtain⟨A',c',rfl,ho⟩:=Own1.of_own HO2.out
  exact⟨A',c',rfl,ho,HG2.out⟩
end Go.Proofs.Ytlacoakelliabaa.Ca
end

section
set_option linter.unusedVariables false
set_option linter.unusedSimpArgs false
namespace Go.Proofs.Ytlacoakelliabaa.Ca
open Go.RowKit Go.Proofs.Ytlacoakelliabaa.Mem Go.Proofs.Ytlacoakelliabaa.Se
open Go.Proofs.Ytlacoakelliabaa.Nm (L)
open Go.Proofs.Ytlacoakelliabaa.Rg (Pr prV pr_info)
theorem cr_info:(Try.prog.info? 38).map (·.size)=some 37:=by kernel_rfl
def zeroK (i:Nat):UInt8:=0
def zeroX:Cr:=⟨([],[]),0,[],zeroK,0⟩
theorem zero_cr:crA zeroX none 0=#[.string ⟨#[]⟩,.string ⟨#[]⟩,.int .i64 0,.slice none 0 0,.int .u8 0,.int .u8 0,.int .u8 0,.int .u8 0,.int .u8 0,.int .u8 0,.int .u8 0,.int .u8 0,.int .u8 0,.int .u8 0,.int .u8 0,.int .u8 0,.int .u8 0,.int .u8 0,.int .u8 0,.int .u8 0,.int .u8 0,.int .u8 0,.int .u8 0,.int .u8 0,.int .u8 0,.int .u8 0,.int .u8 0,.int .u8 0,.int .u8 0,.int .u8 0,.int .u8 0,.int .u8 0,.int .u8 0,.int .u8 0,.int .u8 0,.int .u8 0,.int .i64 0]:=by rfl
theorem blk_same {w:World} {g o:Nat} {t:TypeId} {cs:Array Value} {vs:List Value} (h:Blk w g t cs) (hl:o+vs.length≤cs.size) (hs:∀i u,vs[i]? = some u→cs[o+i]? = some u):Blk (w.setCells g o vs) g t cs:=by
 obtain⟨ds,h1,h2,h3,h4⟩:=Wh.blk_cells_aux vs o w cs h hl
 have e:ds=cs:=by
  apply Array.ext_getElem?
  intro i
  by_cases g:o≤i∧i<o+vs.length
  ·rw[h3 i g.1 g.2]
   have hi:i - o<vs.length:=by omega
   have:=hs (i - o) _ (List.getElem?_eq_getElem hi)
   rw[show o+(i - o)=i by omega] at this
   rw[List.getElem?_eq_getElem hi,this]
  ·exact h4 i (by omega)
 exact e▸h1
theorem store_same {P:Program} {ops:Array Oper} {rest:List Oper} {op:Oper} {a:Act} {w:World} {Q:Exit→Act→World→Prop} (hgd:op.guard=none) (ty:TypeId) (x y:Operand) (ho:op.op = .store ty x y) (g o:Nat) (t:TypeId) (cs:Array Value) (hb:Blk w g t cs)
  (cells:Array Value) (hx:a.eval x = .pointer (some ⟨g,o,none⟩)) (hy:a.eval y = .agg cells) (hs:o+cells.size≤cs.size) (hi:(P.info? ty).map (·.size)=some cells.size) (h1:cells.all (·.oneCell')=true)
  (hsame:∀i u,cells.toList[i]? = some u→cs[o+i]? = some u) (h:∀V,Blk V g t cs→w.grownBy V (some g)→wpList P ops Q rest (a.put op.dst undef) V):wpList P ops Q (op :: rest) a w:=
 wpList_store_mid hgd ty x y ho g o cells hx hy (Wh.there_mid hb _ _ hs) hi h1 (h _ (blk_same hb (by simpa using hs) hsame) (Wh.put_mid _ _ _ _))
theorem crA_set (x:Cr) (A A':Option Addr) (c c':Nat):(crA x A c).setIfInBounds 3 (.slice A' x.b.length c')=crA x A' c':=by
 simp [crA,crC]
set_option maxHeartbeats 1600000 in
set_option maxRecDepth 100000 in
theorem ccr_any (x:Cr) (A:Option Addr) (c B:Nat) (w:World) (hr:Rd w B A (bvs x.b)) (hB:B≤w.heap.size) (h1:x.s.1.length≤140737488351232) (h2:x.s.2.length≤140737488351232) (h3:x.b.length≤100000000000) :
  Calls Try.prog 22 #[.agg (crA x A c)] w fun e w'=>∃A' c',e = .returned (.agg (crA x A' c'))∧Own1 w w' A' (bvs x.b)∧Below w.heap.size w w':=by
 have C1:=Lib.hid (fun w1=>clone_cp x.s w1 h1 h2)
 have C2:=Lib.hid (fun(w1:World) (h:Rd w1 B A (bvs x.b)) (hB:B≤w1.heap.size)=>bclone_any A c B x.b w1 h hB h3)
 obtain⟨cs,ecs⟩:∃cs,cs=crA x A c:=⟨_,rfl⟩
 have ECS:=Lib.hid ecs
 obtain⟨zs,ezs⟩:∃zs,zs=crA zeroX none 0:=⟨_,rfl⟩
 have EZS:=Lib.hid ezs
 have EZ2:=Lib.hid (ezs.trans zero_cr)
 rw[←ecs]
 obtain⟨W,eW⟩:∃W,W=(w.alloc (.cells cs 38)).alloc (.cells zs 38):=⟨_,rfl⟩
 have HK:=Lib.hid (show Blk W w.heap.size 38 cs by rw[eW];exact(Blk.new _ _ _).alloc _)
 have hq:=Blk.new (w.alloc (.cells cs 38)) 38 zs
 rw[show(w.alloc (.cells cs 38)).heap.size=w.heap.size+1 by simp,←eW] at hq
 have HZ:=Lib.hid hq
 have hb:Below w.heap.size w W:=eW▸((Below.refl _ _).alloc (Nat.le_refl _) _).alloc (by simp) _
 have HB:=Lib.hid hb
 have HR:=Lib.hid (hr.below (hb.mono hB))
 have HBB:=Lib.hid hB
 have HSZ:=Lib.hid (show cs.size=37 by rw[ecs,crA_size])
 have HZS:=Lib.hid (show zs.size=37 by rw[ezs,crA_size])
 have HPR:=Lib.hid (fun(w1:World) (g:Nat) (h:Blk w1 g 38 cs)=>(cr_sv (blk_cr (show Blk w1 g 38 (crA x A c) by rw[←ecs];exact h)):w1.rangeAt g 0 (#[.string ⟨x.s.1.toArray⟩,.string ⟨x.s.2.toArray⟩]:Array Value).toList))
 have HBS:=Lib.hid (fun(w1:World) (g:Nat) (h:Blk w1 g 38 cs)=>(cr_b (o:=0) (blk_cr (show Blk w1 g 38 (crA x A c) by rw[←ecs];exact h)):w1.cell? ⟨g,3,none⟩=some (.slice A x.b.length c)))
 have HS2:=Lib.hid (show ∀(i:Nat) (u:Value),(#[.string ⟨x.s.1.toArray⟩,.string ⟨x.s.2.toArray⟩]:Array Value).toList[i]? = some u→cs[0+i]? = some u by
  intro i u hu
  rw[ecs,crA,List.getElem?_toArray,Nat.zero_add]
  have hj:i<2:=by have:=(List.getElem?_eq_some_iff.1 hu).1;simpa using this
  rw[←hu]
  rcases i with _ | _ | i
  ·rfl
  ·rfl
  ·omega)
 have k3:=HBS.out _ _ HK.out
 clear hr hB h1 h2 h3 ecs ezs hq hb
 go_enter Try.func22,Try.ntmps22
 go_upto_region 1 with fail
 rw[←EZ2.out,←eW]
 clear eW EZ2
 go_upto_region 2 with(first
  |(refine Wh.load_g (by rfl) 31 (.tmp 4) (by rfl) _ 0 (by rfl) _ _ (HPR.out _ _ HK.out) Try.underlying31 (by rfl) pr_info ?_)
  |(go_at_call 21;refine Calls.mono (C1.out _) ?_;rintro e w1 ⟨rfl,hb⟩;replace HK:=Lib.hid (HK.out.below hb);replace HZ:=Lib.hid (HZ.out.below hb);replace HR:=Lib.hid (HR.out.below (hb.mono (Nat.le_trans HBB.out HB.out.size)));replace HB:=Lib.hid (HB.out.trans (hb.mono HB.out.size));clear hb k3)
  |(refine store_same (by rfl) 31 (.tmp 8) (.tmp 6) (by rfl) w.heap.size 0 38 cs HK.out (#[.string ⟨x.s.1.toArray⟩,.string ⟨x.s.2.toArray⟩]:Array Value) (by rfl) (by rfl) (by rw[HSZ.out];simp) pr_info (by simp [Value.oneCell']) HS2.out ?_;intro W1 hk2 hg;replace HK:=Lib.hid hk2;replace HZ:=Lib.hid (HZ.out.grown hg (by simp));replace HR:=Lib.hid (HR.out.grown hg (Nat.le_trans HBB.out HB.out.size) (fun k hk=>by injection hk with hk;have:=HBB.out;omega));replace HB:=Lib.hid (btg HB.out hg (Nat.le_refl _));clear hg hk2)
  |fail)
 have k3:=HBS.out _ _ HK.out
 have f3:=HK.out.frozen 3
 go_upto_region 3 with(first
  |(go_at_call 26;refine Calls.mono (C2.out _ HR.out (Nat.le_trans HBB.out HB.out.size)) ?_;rintro e w2 ⟨A',c',rfl,ho,hb⟩;clear k3 f3;have HO:=Lib.hid ho;replace HK:=Lib.hid (HK.out.below hb);have HNE:=Lib.hid (show ∀p,A'=some p→p.block≠w.heap.size∧p.block≠w.heap.size+1 from fun p hp=>by have:=HZ.out.lt;have:=(ho.2 p hp).1;omega);replace HZ:=Lib.hid (HZ.out.below hb);replace HO:=Lib.hid (ho.since HB.out.size);replace HB:=Lib.hid (HB.out.trans (hb.mono HB.out.size));have k3:=HBS.out _ _ HK.out;have f3:=HK.out.frozen 3;clear hb ho)
  |fail)
 obtain⟨W2,eW2⟩:∃W2,W2=w2.setCell ⟨w.heap.size,3,none⟩ (.slice A' x.b.length c'):=⟨_,rfl⟩
 have hk2:=HK.out.set 3 (.slice A' x.b.length c')
 rw[ECS.out,crA_set,←eW2] at hk2
 have hg:w2.grownBy W2 (some w.heap.size):=eW2▸g_set (World.grownBy.refl w2 _) (p:=⟨w.heap.size,3,none⟩) (.inl rfl) _
 have hc:Chg (fun k=>k=w.heap.size) w2 W2:=Chg.of_grown hg rfl
 replace HO:=Lib.hid (HO.out.chg hc (fun p hp=>(HNE.out p hp).1))
 replace HZ:=Lib.hid (HZ.out.grown hg (by simp))
 replace HB:=Lib.hid (btg HB.out hg (Nat.le_refl _))
 rw[←eW2]
 clear k3 f3 HK hg hc HSZ HPR HBS HS2 C1 C2 eW2
 obtain⟨ds,eds⟩:∃ds,ds=crA x A' c':=⟨_,rfl⟩
 rw[←eds] at hk2
 have HK:=Lib.hid hk2
 have HDS:=Lib.hid (show ds.size=37 by rw[eds,crA_size])
 have HDI:=Lib.hid (show(Try.prog.info? 38).map (·.size)=some ds.size by rw[eds,crA_size];exact cr_info)
 have HD1:=Lib.hid (show ds.all (·.oneCell')=true by rw[eds];exact crA_one _ _ _)
 have EDS:=Lib.hid eds
 clear hk2 eds
 go_wp2_with (first
  |(refine Wh.load_g (by rfl) 38 (.tmp 1) (by rfl) _ 0 (by rfl) ds _ (Wh.range_blk HK.out) Try.underlying38 (by rfl) HDI.out ?_)
  |(refine Wh.store_over (by rfl) 38 (.tmp 2) (.tmp 15) (by rfl) (w.heap.size+1) 38 _ HZ.out ds (by rfl) (by rfl) (by rw[HZS.out,HDS.out]) HDI.out HD1.out ?_;rintro V2 hV2 hg;have HV:=Lib.hid hV2;replace HB:=Lib.hid (btg HB.out hg (by omega));replace HO:=Lib.hid (HO.out.chg (Chg.of_grown (S:=fun k=>k=w.heap.size+1) hg rfl) (fun p hp=>(HNE.out p hp).2));clear hV2 hg)
  |fail)
 refine bodyPost_ret (v:=.agg ds) ?_ ?_ ?_
 ·exact Wh.results_cell (v:=.agg ds) 2 38 ⟨w.heap.size+1,0,none⟩ Try.results22 (by rfl) (Wh.load_blk HV.out Try.underlying38 (by rfl) HDI.out)
 ·rfl
 ·exact⟨A',c',by rw[EDS.out],HO.out,HB.out⟩
end Go.Proofs.Ytlacoakelliabaa.Ca
end

section
set_option linter.unusedVariables false
set_option linter.unusedSimpArgs false
namespace Go.Proofs.Ytlacoakelliabaa.Rg
open Go.RowKit Go.Proofs.Ytlacoakelliabaa.Mem Go.Proofs.Ytlacoakelliabaa.Se
def kC (k:Nat→UInt8):List Value:=(key32 k).toList
def OwnK (w:World) (base:Nat) (v:Value) (K:List (Nat→UInt8)):Prop:=w.ownsRow base 36 32 v K.length (K.flatMap kC)
theorem OwnK.below {w w':World} {base:Nat} {v:Value} {K:List (Nat→UInt8)} (h:OwnK w base v K) (hb:Below w.heap.size w w'):OwnK w' base v K:=own_kept h hb
end Go.Proofs.Ytlacoakelliabaa.Rg
end

section
set_option linter.unusedVariables false
namespace Go.Proofs.Ytlacoakelliabaa.Reg
open Go.RowKit Go.Proofs.Ytlacoakelliabaa.Mem
section
variable {P:Program} {ops:Array Oper} {Q:Exit→Act→World→Prop} {md:Region.Mode}
def Eff (P:Program) (md:Region.Mode) (ops:Array Oper) (Q:Exit→Act→World→Prop) (S:World→Prop) (fuel:Nat) (listed:Array Bool) (a:Act) (w:World) (i:Nat):Prop:=
 ∃(dst:Option Tmp) (op:Op) (ty:TypeId) (pos:String) (after:Array _) (guard:Option (Nat×Bool)) (v:Value) (w':World),ops[i]? = some ⟨dst,op,ty,pos,after,guard⟩∧Region.wanted ⟨dst,op,ty,pos,after,guard⟩ (yielded ops a.tmps)=true∧(execOp a.eval ⟨dst,op,ty,pos,after,guard⟩).run P w = .ok (.value v) w'∧S w'∧wpAnyH P md ops Q S fuel (listed.setIfInBounds i true) (a.put dst v) w'
end
end Go.Proofs.Ytlacoakelliabaa.Reg
end

section
set_option linter.unusedVariables false
namespace Go.Proofs.Ytlacoakelliabaa.Reg
open Go.RowKit Go.Proofs.Ytlacoakelliabaa.Mem
section
variable {P:Program} {ops:Array Oper} {Q:Exit→Act→World→Prop} {md:Region.Mode} {S:World→Prop}
theorem any_begin (S:World→Prop) (n:Nat) {id:Nat} {a:Act} {w:World} (hn:ops.size=n) (hm:P.follows .mixedOrders=true) (hS:S w.drew) (h:wpAnyH P .any ops Q S n (Array.replicate n false) a w.drew):(Code.region id ops true).wp P Q a w:=by
 subst hn
 exact wp_region_held_drew hm hS (fun _=>h)
theorem any_take (i:Nat) {dst:Option Tmp} {op:Op} {ty:TypeId} {pos:String} {after:Array _} {guard:Option (Nat×Bool)} {v:Value} {fuel:Nat} {listed:Array Bool} {a:Act} {w:World} (hi:ops[i]? = some ⟨dst,op,ty,pos,after,guard⟩)
  (hs:Region.noSelect ops=true) (hf:Region.free md ops listed i=true) (hr:(Region.ready md ops listed).contains i=true)
  (hQ:∀c a w,Q (.panic c) (a.put dst v) w→Q (.panic c) a w) (hS:S w)
  (hw:Region.wanted ⟨dst,op,ty,pos,after,guard⟩ (yielded ops a.tmps)=true) (hy:∀w',S w'→(execOp a.eval ⟨dst,op,ty,pos,after,guard⟩).run P w' = .ok (.value v) w')
  (h:wpAnyH P md ops Q S fuel (listed.setIfInBounds i true) (a.put dst v) w):wpAnyH P md ops Q S (fuel+1) listed a w:=
 wpAnyH_take hi hs hf hr hQ (.inl ⟨hw,hy⟩) hS h
theorem any_store (i:Nat) {dst:Option Tmp} {op:Op} {ty:TypeId} {pos:String} {after:Array _} {guard:Option (Nat×Bool)} {fuel:Nat} {listed:Array Bool} {a:Act} {w:World} (w':World) (hi:ops[i]? = some ⟨dst,op,ty,pos,after,guard⟩)
  (hr:Region.ready md ops listed = [i]) (hw:Region.wanted ⟨dst,op,ty,pos,after,guard⟩ (yielded ops a.tmps)=true) (hx:(execOp a.eval ⟨dst,op,ty,pos,after,guard⟩).run P w = .ok .skip w') (hS:S w')
  (h:wpAnyH P md ops Q S fuel (listed.setIfInBounds i true) (a.put dst undef) w'):wpAnyH P md ops Q S (fuel+1) listed a w:=by
 refine wpAnyH_all hr (by simp) fun j hj=>?_
 obtain rfl:j=i:=by simpa using hj
 unfold wpOp
 simp only[hi]
 rw[if_pos hw]
 left
 unfold Oper.wp
 rw[hx]
 exact⟨hS,h⟩
end
end Go.Proofs.Ytlacoakelliabaa.Reg
end

section
set_option linter.unusedVariables false
namespace Go.Proofs.Ytlacoakelliabaa.Reg
open Go.RowKit Go.Proofs.Ytlacoakelliabaa.Mem
section
variable {P:Program} {ops:Array Oper} {Q:Exit→Act→World→Prop} {md:Region.Mode}
def Ent (P:Program) (md:Region.Mode) (ops:Array Oper) (Q:Exit→Act→World→Prop) (S:World→Prop) (fuel:Nat) (listed:Array Bool) (a:Act) (w:World) (i:Nat):Prop:=
 ∃(dst:Option Tmp) (op:Op) (ty:TypeId) (pos:String) (after:Array _) (guard:Option (Nat×Bool)) (f:FuncId) (args:Array Value),ops[i]? = some ⟨dst,op,ty,pos,after,guard⟩∧Region.wanted ⟨dst,op,ty,pos,after,guard⟩ (yielded ops a.tmps)=true∧(execOp a.eval ⟨dst,op,ty,pos,after,guard⟩).run P w = .ok (.enter f args) w∧
  Calls P f args w fun e w'=>∃v,e = .returned v∧S w'∧wpAnyH P md ops Q S fuel (listed.setIfInBounds i true) (a.put dst v) w'
theorem both_all (is:List Nat) {S:World→Prop} {fuel:Nat} {listed:Array Bool} {a:Act} {w:World} (hr:Region.ready md ops listed=is) (hne:is≠[]) (h:∀j∈is,Eff P md ops Q S fuel listed a w j∨Ent P md ops Q S fuel listed a w j):wpAnyH P md ops Q S (fuel+1) listed a w:=by
 refine wpAnyH_all hr hne fun j hj=>?_
 rcases h j hj with⟨dst,op,ty,pos,after,guard,v,w',hi,hw,hx,hs,hh⟩ | ⟨dst,op,ty,pos,after,guard,f,args,hi,hw,hx,hh⟩
 ·unfold wpOp
  simp only[hi]
  rw[if_pos hw]
  left
  unfold Oper.wp
  rw[hx]
  exact⟨hs,hh⟩
 ·unfold wpOp
  simp only[hi]
  rw[if_pos hw]
  left
  unfold Oper.wp
  rw[hx]
  refine hh.mono ?_
  rintro e w' ⟨v,rfl,hs,hh⟩
  exact⟨hs,hh⟩
end
end Go.Proofs.Ytlacoakelliabaa.Reg
end

section
set_option linter.unusedVariables false
set_option linter.unusedSimpArgs false
namespace Go.Proofs.Ytlacoakelliabaa.Rg
open Go.RowKit Go.Proofs.Ytlacoakelliabaa.Mem Go.Proofs.Ytlacoakelliabaa.Se
theorem chg_row {w w':World} {row:Option Nat} (h:w.grownBy w' row):Chg (fun q=>row=some q) w w':=⟨h.os,h.tape,h.output,h.size,fun i hi hn=>h.block i hi (fun e=>hn e.symm)⟩
section
variable {P:Program} {w w':World} {a:Act} {dst:Option Tmp} {ty:TypeId} {pos:String} {after:Array _} {guard:Option (Nat×Bool)}
theorem exec_build {t:TypeId} {parts:Array (Nat×Operand)} {vs:List (Nat×Value)} {cells:Array Value} (hv:(parts.map fun x=>(x.1,a.eval x.2)).toList=vs) (h:P.built t vs=some cells) :
  (execOp a.eval ⟨dst,.build t parts,ty,pos,after,guard⟩).run P w = .ok (.value (.agg cells)) w:=by
 have:=run_build (P:=P) w t (parts.map fun x=>(x.1,a.eval x.2)) cells (by rw[hv];exact h)
 simp only[execOp,Sem.run_bind,this,Result.andThen_ok,Sem.run_pure]
theorem exec_slice {t:TypeId} {x:Operand} {cs:Array Value} {s:Value} (hx:a.eval x = .agg cs) (h:(Instr.buildSlice t 1 #[(0,.agg cs)]).run P w = .ok s w') :
  (execOp a.eval ⟨dst,.buildSlice t 1 #[(0,x)],ty,pos,after,guard⟩).run P w = .ok (.value s) w':=by
 simp only[execOp,Sem.run_bind,List.map_toArray,List.map_cons,List.map_nil,hx,h,Result.andThen_ok,Sem.run_pure]
theorem exec_app {t:TypeId} {x y:Operand} {u v s:Value} (hx:a.eval x=u) (hy:a.eval y=v) (h:(Builtin.append_ #[t,t] ty #[u,v]).run P w = .ok s w') :
  (execOp a.eval ⟨dst,.call {callee:=.builtin .append,args:=#[x,y],argTypes:=#[t,t]},ty,pos,after,guard⟩).run P w = .ok (.value s) w':=by
 simp only[execOp,resolve,invoke,builtin,Sem.run_bind,Sem.run_pure,Result.andThen_ok,List.map_toArray,List.map_cons,List.map_nil,hx,hy,h]
end
end Go.Proofs.Ytlacoakelliabaa.Rg
end

section
set_option linter.unusedVariables false
namespace Go.Proofs.Ytlacoakelliabaa.Reg
open Go.RowKit Go.Proofs.Ytlacoakelliabaa.Mem
section
variable {P:Program} {ops:Array Oper} {Q:Exit→Act→World→Prop} {md:Region.Mode} {S:World→Prop}
theorem tk (i:Nat) {dst:Option Tmp} {op:Op} {ty:TypeId} {pos:String} {after:Array _} {guard:Option (Nat×Bool)} {v:Value} {fuel:Nat} {listed:Array Bool} {a:Act} {w:World} (hi:ops[i]? = some ⟨dst,op,ty,pos,after,guard⟩) (hS:S w)
  (hy:∀w',S w'→(execOp a.eval ⟨dst,op,ty,pos,after,guard⟩).run P w' = .ok (.value v) w')
  (h:wpAnyH P md ops Q S fuel (listed.setIfInBounds i true) (a.put dst v) w)
  (hs:Region.noSelect ops=true:=by kernel_rfl) (hf:Region.free md ops listed i=true:=by kernel_rfl) (hr:(Region.ready md ops listed).contains i=true:=by kernel_rfl)
  (hQ:∀c a w,Q (.panic c) (a.put dst v) w→Q (.panic c) a w:=by exact fun _ _ _ h=>h) (hw:Region.wanted ⟨dst,op,ty,pos,after,guard⟩ (yielded ops a.tmps)=true:=by rfl):wpAnyH P md ops Q S (fuel+1) listed a w:=
 any_take i hi hs hf hr hQ hS hw hy h
theorem s0 {α:Type} (l:List α) (i:Nat) (a:α):l.toArray.setIfInBounds i a=(l.set i a).toArray:=List.setIfInBounds_toArray ..
theorem s1 {α:Type} {x:α} {xs:List α} {a:α}:(x :: xs).set 0 a=a :: xs:=rfl
theorem s2 {α:Type} {x:α} {xs:List α} {n:Nat} {a:α}:(x :: xs).set (n+1) a=x :: xs.set n a:=rfl
end
end Go.Proofs.Ytlacoakelliabaa.Reg
end
