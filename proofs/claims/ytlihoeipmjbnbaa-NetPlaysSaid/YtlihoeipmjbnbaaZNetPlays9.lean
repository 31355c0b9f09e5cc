import Derived.Test.YtlihoeipmjbnbaaProg
import Derived.Deep.CutBlock
import Derived.Deep.RegionHeld3
import Derived.StillTailTactics
import Derived.Laws.StructEq
import Derived.Deep.LoopGhost
import Derived.Test.YtlihoeipmjbnbaaZNetPlays1
import Derived.Test.YtlihoeipmjbnbaaZNetPlays2
import Derived.Test.YtlihoeipmjbnbaaZNetPlays3
import Derived.Test.YtlihoeipmjbnbaaZNetPlays4
import Derived.Test.YtlihoeipmjbnbaaZNetPlays5
import Derived.Test.YtlihoeipmjbnbaaZNetPlays6
import Derived.Test.YtlihoeipmjbnbaaZNetPlays7
import Derived.Test.YtlihoeipmjbnbaaZNetPlays8
section
set_option linter.unusedVariables false
set_option linter.unusedSimpArgs false
namespace Go.Proofs.Ytlihoeipmjbnbaa.Nt
open Go.RowKit Go.Proofs.Ytlihoeipmjbnbaa.Mem Go.Proofs.Ytlihoeipmjbnbaa.Se Go.Proofs.Ytlihoeipmjbnbaa.OpenN
open Go.Proofs.Ytlihoeipmjbnbaa.Nm (L)
open Go.Proofs.Ytlihoeipmjbnbaa.Ca (Own1 rd_chg row_blk row_mk)
open Go.Proofs.Ytlihoeipmjbnbaa.Rg (flat_len flat_at flat_one RdR own_rdr own_chg)
structure Two (w:World) (B r:Nat) (vs vw:Value) (es:List En) (ws:List Nat) (q:Nat) (dvs dvw:Value) (ss ls:List En):Prop where
 nt:Nt w B r vs vw es ws
 dn:DN w B q dvs dvw ss ls
 ap:∀k,DO q dvs dvw ss k→¬NO r vs vw es k
section
variable {w w':World} {B r q:Nat} {vs vw vs' vw' dvs dvw dvs' dvw':Value} {es es' ss ss' ls ls':List En} {ws ws':List Nat} {k:Nat}
theorem Two.code (h:Two w B r vs vw es ws q dvs dvw ss ls) (s:Sp w w' B r vs vw vs' vw' es es' ws'):Two w' B r vs' vw' es' ws' q dvs dvw ss ls:=
 ⟨s.nt,h.dn.chg s.chg (fun k hk x=>h.ap k hk x),fun k hk=>s.not (h.ap k hk) (h.dn.own_lt hk)⟩
theorem Two.doc (h:Two w B r vs vw es ws q dvs dvw ss ls) (s:DSp w w' B q dvs dvw dvs' dvw' ss ss' ls'):Two w' B r vs vw es ws q dvs' dvw' ss' ls':=
 ⟨h.nt.chg s.chg (fun k hk x=>h.ap k x hk),s.nt,fun k hk x=>by
  rcases s.new k hk with y | y
  ·exact h.ap k y x
  ·have:=h.nt.own_lt x;omega⟩
theorem Two.below (h:Two w B r vs vw es ws q dvs dvw ss ls) (hb:Below w.heap.size w w'):Two w' B r vs vw es ws q dvs dvw ss ls:=⟨h.nt.below hb,h.dn.below hb,h.ap⟩
def Nei (r:Nat) (vs vw:Value) (es:List En) (q:Nat) (dvs dvw:Value) (ss:List En) (k:Nat):Prop:=¬NO r vs vw es k∧¬DO q dvs dvw ss k
theorem Two.nei (h:Two w B r vs vw es ws q dvs dvw ss ls) (hk:w.heap.size≤k):Nei r vs vw es q dvs dvw ss k:=⟨h.nt.not hk,fun x=>by have:=h.dn.own_lt x;omega⟩
theorem Nei.code (h:Nei r vs vw es q dvs dvw ss k) (s:Sp w w' B r vs vw vs' vw' es es' ws') (hl:k<w.heap.size):Nei r vs' vw' es' q dvs dvw ss k:=⟨s.not h.1 hl,h.2⟩
theorem Nei.doc (h:Nei r vs vw es q dvs dvw ss k) (s:DSp w w' B q dvs dvw dvs' dvw' ss ss' ls') (hl:k<w.heap.size):Nei r vs vw es q dvs' dvw' ss' k:=⟨h.1,s.not h.2 hl⟩
end
def look (S:List Pk) (k:Nat):Pk:=(S[k]?).getD pk0
structure PS (es:List En) (ws:List Nat) (ss ls:List En) (i:Nat):Prop where
 pss:pks ss=pks es
 pls:pks ls=ws.map (look (pks es))
 pl:∀k∈ws,k<es.length
 wl:ws.length≤32
 el:es.length≤i
 sz:∀e∈es,e.p.b.length≤2000
 sub:∀e∈ls,e∈ss
theorem map_erase {α β:Type} (f:α→β) (l:List α) (j:Nat):(l.eraseIdx j).map f=(l.map f).eraseIdx j:=by
 rw[List.eraseIdx_eq_take_drop_succ,List.eraseIdx_eq_take_drop_succ,List.map_append,List.map_take,List.map_drop]
section
variable {es ss ls:List En} {ws:List Nat} {i:Nat}
theorem PS.len (h:PS es ws ss ls i):ls.length=ws.length:=by have:=congrArg List.length h.pls;simpa [pks] using this
theorem PS.slen (h:PS es ws ss ls i):ss.length=es.length:=by have:=congrArg List.length h.pss;simpa [pks] using this
theorem PS.step (h:PS es ws ss ls i):PS es ws ss ls (i+1):=⟨h.pss,h.pls,h.pl,h.wl,Nat.le_succ_of_le h.el,h.sz,h.sub⟩
theorem look_app {S:List Pk} {k:Nat} (x:Pk) (h:k<S.length):look (S++[x]) k=look S k:=by
 unfold look;rw[List.getElem?_append_left h]
theorem PS.send (h:PS es ws ss ls i) (p:Pk) (A A':Option Addr) (c c':Nat) (h1:ws.length<32) (h2:p.b.length≤2000):PS (es++[⟨p,A,c⟩]) (ws++[es.length]) (ss++[⟨p,A',c'⟩]) (ls++[⟨p,A',c'⟩]) (i+1):=by
 have e1:pks (es++[⟨p,A,c⟩])=pks es++[p]:=by simp [pks]
 refine⟨by rw[e1,←h.pss];simp [pks],?_,fun k hk=>?_,by simp;omega,by have:=h.el;simp;omega,fun e he=>?_,fun e he=>?_⟩
 ·rw[e1,List.map_append,show pks (ls++[(⟨p,A',c'⟩:En)])=pks ls++[p] by simp [pks],h.pls]
  congr 1
  ·exact List.map_congr_left fun k hk=>(look_app p (by rw[pks_length];exact h.pl k hk)).symm
  ·simp [look,pks]
 ·rcases List.mem_append.1 hk with g | g
  ·have:=h.pl k g;simp;omega
  ·rw[List.mem_singleton] at g;subst g;simp
 ·rcases List.mem_append.1 he with g | g
  ·exact h.sz e g
  ·rw[List.mem_singleton] at g;subst g;exact h2
 ·rcases List.mem_append.1 he with g | g
  ·exact List.mem_append.2 (.inl (h.sub e g))
  ·exact List.mem_append.2 (.inr g)
theorem PS.twice (h:PS es ws ss ls i) {j k:Nat} {z:En} (hk:ws[j]? = some k) (hz:ls[j]? = some z) (h1:ws.length<32):PS es (ws++[k]) ss (ls++[z]) (i+1):=by
 have hzp:z.p=look (pks es) k:=by
  have h2:(pks ls)[j]? = some z.p:=by simp [pks,hz]
  rw[h.pls,List.getElem?_map,hk] at h2
  injection h2 with h2
  exact h2.symm
 refine⟨h.pss,?_,fun m hm=>?_,by simp;omega,Nat.le_succ_of_le h.el,h.sz,fun e he=>?_⟩
 ·rw[List.map_append,←h.pls];simp [pks,hzp]
 ·rcases List.mem_append.1 hm with g | g
  ·exact h.pl m g
  ·rw[List.mem_singleton] at g;subst g;exact h.pl _ (List.mem_of_getElem? hk)
 ·rcases List.mem_append.1 he with g | g
  ·exact h.sub e g
  ·rw[List.mem_singleton] at g;subst g;exact h.sub _ (List.mem_of_getElem? hz)
theorem PS.pull (h:PS es ws ss ls i) (j:Nat):PS es (ws.eraseIdx j) ss (ls.eraseIdx j) (i+1):=by
 refine⟨h.pss,?_,fun m hm=>h.pl m (List.mem_of_mem_eraseIdx hm),by rw[List.length_eraseIdx];have:=h.wl;split<;>omega,Nat.le_succ_of_le h.el,h.sz,fun e he=>h.sub e (List.mem_of_mem_eraseIdx he)⟩
 rw[map_erase,←h.pls]
 exact map_erase _ _ _
theorem PS.at_ (h:PS es ws ss ls i) {j:Nat} (hj:j<ws.length):∃k y z,ws[j]? = some k∧es[k]? = some y∧ls[j]? = some z∧z.p=y.p∧y.p.b.length≤2000∧z∈ss:=by
 obtain⟨k,hk⟩:∃k,ws[j]? = some k:=⟨_,List.getElem?_eq_getElem hj⟩
 have hkl:=h.pl k (List.mem_of_getElem? hk)
 obtain⟨y,hy⟩:∃y,es[k]? = some y:=⟨_,List.getElem?_eq_getElem hkl⟩
 obtain⟨z,hz⟩:∃z,ls[j]? = some z:=⟨_,List.getElem?_eq_getElem (by rw[h.len];exact hj)⟩
 refine⟨k,y,z,hk,hy,hz,?_,h.sz y (List.mem_of_getElem? hy),h.sub z (List.mem_of_getElem? hz)⟩
 have h2:(pks ls)[j]? = some z.p:=by simp [pks,hz]
 rw[h.pls,List.getElem?_map,hk] at h2
 injection h2 with h2
 rw[←h2]
 simp [look,pks,hy]
end
theorem rd_low {w w1:World} {B:Nat} {A:Option Addr} {xs:List Value} (h:Rd w B A xs) (hb:Below B w w1) (hB:B≤w1.heap.size):Rd w1 w1.heap.size A xs:=(h.below hb).more hB
theorem low_no {w w1:World} {B r:Nat} {vs vw:Value} {es:List En} {ws:List Nat} {A:Option Addr} {xs:List Value} (h:Rd w B A xs) (hn:Nt w1 B r vs vw es ws):xs≠[]→∀a,A=some a→¬NO r vs vw es a.block:=fun hx a ha=>by
 rcases h with h | ⟨b,o,h1,h2,_⟩
 ·exact absurd h hx
 ·rw[h1] at ha;injection ha with ha;subst ha;exact hn.low h2
set_option maxRecDepth 100000 in
set_option maxHeartbeats 12800000 in
theorem plays_any (A:Option Addr) (l:List Ac) (c:Nat) (w:World) (hr:RdAc w w.heap.size A l) (hz:∀(i:Nat) (x:Ac),l[i]? = some x→AcR w w.heap.size x) :
  Calls Try.prog 3 #[.slice A l.length c] w fun e w'=>e = .returned (.bool true)∧Below w.heap.size w w':=by
 have CLG:=Lib.hid (nlong_any A l c w hr hz)
 obtain⟨B,eB⟩:∃B,B=w.heap.size:=⟨_,rfl⟩
 have EB:=Lib.hid eB
 rw[←eB] at hr hz
 have HR:=Lib.hid hr
 have HZ:=Lib.hid hz
 obtain⟨n,en⟩:∃n,n=l.length:=⟨_,rfl⟩
 rw[←en] at CLG⊢
 have EN:=Lib.hid en
 have CK:=Lib.hid (fun w1=>known_any w1)
 clear hr hz en eB
 go_enter Try.func3,Try.ntmps3
 go_upto_region 1 with fail
 go_upto_if 18 with(go_at_call 8;refine Calls.mono CLG.out ?_;rintro e w1 ⟨bl,rfl,hbl,hb⟩;have HBL:=Lib.hid hbl;have HB0:=Lib.hid (EB.out▸hb:Below B w w1);have c2:=nt_new B w1 (Nat.le_trans (Nat.le_of_eq EB.out) hb.size);clear hb hbl CLG)
 cases bl with
 |true=>
  clear c2 HBL
  go_wp2
  go_ret
  exact⟨rfl,by have h:=HB0.out;rw[EB.out] at h;exact h⟩
 |false=>
  have HSM:=Lib.hid (HBL.out rfl)
  clear HBL
  go_wp2_with (first
   |(go_at_call 9;refine Calls.mono c2 ?_;rintro e w2 ⟨rfl,hn,hb,hsz⟩;clear c2;have HN0:=Lib.hid hn;have HB1:=Lib.hid (HB0.out.trans (hb.mono (Nat.le_trans (Nat.le_of_eq EB.out) HB0.out.size)));clear hb hn hsz)
   |fail)
  have hal:=(Below.refl w2.heap.size w2).alloc (Nat.le_refl _) (.cells #[.slice none 0 0,.slice none 0 0] 29)
  have hqb:B≤w2.heap.size:=HN0.out.big
  have hdn:DN (w2.alloc (.cells #[.slice none 0 0,.slice none 0 0] 29)) B w2.heap.size (.slice none 0 0) (.slice none 0 0) [] []:=⟨Blk.new w2 _ _,World.ownsRow_nil _ _ _ _,World.ownsRow_nil _ _ _ _,hqb,(fun h=>by cases h),(fun h=>by cases h),(fun k h=>by cases h),(fun e he=>by cases he),(fun e he=>by cases he)⟩
  have ht0:Two (w2.alloc (.cells #[.slice none 0 0,.slice none 0 0] 29)) B w1.heap.size (.slice none 0 0) (.slice none 0 0) [] [] w2.heap.size (.slice none 0 0) (.slice none 0 0) [] []:=⟨HN0.out.below hal,hdn,fun k hk x=>by
   have h1:=HN0.out.own_lt x
   rcases hk with hk | hk | hk | ⟨e,he,_⟩
   ·omega
   ·cases hk
   ·cases hk
   ·cases he⟩
  have HB:=Lib.hid (HB1.out.trans (hal.mono hqb))
  obtain⟨W3,eW3⟩:∃W3,W3=w2.alloc (.cells #[.slice none 0 0,.slice none 0 0] 29):=⟨_,rfl⟩
  obtain⟨q,eq⟩:∃q,q=w2.heap.size:=⟨_,rfl⟩
  obtain⟨r,er⟩:∃r,r=w1.heap.size:=⟨_,rfl⟩
  rw[←eW3] at HB ht0⊢
  rw[←eq,←er] at ht0⊢
  have HT:=Lib.hid ht0
  have HPS:=Lib.hid (⟨rfl,rfl,(fun k hk=>by cases hk),by simp,Nat.le_refl _,(fun e he=>by cases he),(fun e he=>by cases he)⟩:PS [] [] [] [] 0)
  clear ht0 hdn hal hqb eW3 eq er HN0 HB1 HB0
  go_loopw [5] (fun iv wr=>∃(i:Nat) (vs vw dvs dvw:Value) (es ss ls:List En) (ws:List Nat),i≤n∧i≤80∧iv = .int .i64 (i:Int)∧Below B w wr∧Two wr B r vs vw es ws q dvs dvw ss ls∧PS es ws ss ls i) (fun iv _=>n - (intOf iv).toNat)
  case atStart=>exact⟨0,_,_,_,_,[],[],[],[],Nat.zero_le _,Nat.zero_le _,rfl,HB.out,HT.out,HPS.out⟩
  case round=>
   clear HB HT HPS
   obtain⟨i,vs,vw,dvs,dvw,es,ss,ls,ws,hi,hi8,rfl,hb,ht,hps⟩:=hrel
   have HB:=Lib.hid hb;have HT:=Lib.hid ht;have HPS:=Lib.hid hps
   clear hb ht hps
   by_cases hlt:i<n
   ·have e1:decide ((i:Int)<(n:Int))=true:=by simp;omega
    by_cases h8:i<80
    ·have e2:decide ((i:Int)<80)=true:=by simp;omega
     have e3:(i:Int)<(n:Int):=by omega
     have e4:(0:Int)≤(i:Int):=by omega
     have e5:(i:Int)<80:=by omega
     obtain⟨x,hx⟩:∃x,l[i]? = some x:=⟨l[i]'(by rw[←EN.out];exact hlt),List.getElem?_eq_getElem _⟩
     obtain⟨ga,oa,rfl,hga,hra⟩:=HR.out.at_ hx
     obtain⟨zc,ezc⟩:∃zc,zc=aA x:=⟨_,rfl⟩
     have HRA:=Lib.hid (show wr.rangeAt ga (oa+i*5) zc.toList from fun j v hv=>(HB.out.cell (p:=⟨ga,_,none⟩) hga).trans (hra j v (by rw[ezc] at hv;exact hv)))
     have HSX:=Lib.hid (HSM.out i x h8 hx)
     have HRX:=Lib.hid (HZ.out i x hx).1
     have HZS:=Lib.hid (show zc.size=5 by rw[ezc];rfl)
     have HAI:=Lib.hid (show(Try.prog.info? 34).map (·.size)=some zc.size by rw[ezc,aA_size];exact ac_info)
     have HA1:=Lib.hid (show zc.all (·.oneCell')=true by rw[ezc];exact aA_one x)
     have HAC:=Lib.hid (show ∀(w1:World) (g:Nat),Blk w1 g 34 zc→w1.cell? ⟨g,0,none⟩=some (.int .i64 x.k)∧w1.rangeAt g 1 (pkA x.p x.A x.c).toList∧w1.cell? ⟨g,4,none⟩=some (.int .i64 x.n) from fun w1 g h=>by
      rw[ezc] at h
      have h2:=ac_pk (x:=x) (o:=0) (Wh.range_blk h)
      exact⟨h.cell 0,h2,h.cell 4⟩)
     obtain⟨xs,exs⟩:∃xs,xs=pkA x.p x.A x.c:=⟨_,rfl⟩
     have EXS:=Lib.hid exs
     have HXI:=Lib.hid (show(Try.prog.info? 32).map (·.size)=some xs.size by rw[exs];exact pk_info)
     rw[←exs] at HAC
     have HI:=Lib.hid hi;have HI8:=Lib.hid hi8
     clear hra hx hga ezc exs hi hi8
     go_upto_region 10 with(first
      |(refine Wh.load_g (by rfl) 34 (.tmp 36) (by rfl) ga _ (by rfl) zc _ HRA.out Try.underlying34 (by rfl) HAI.out ?_)
      |(refine Wh.store_new (by rfl) 34 (.tmp 6) (.tmp 37) (by rfl) 34 rfl zc (by rfl) (by rfl) (by rw[HZS.out];rfl) HAI.out HA1.out ?_;rintro V hV hb;have HG:=Lib.hid hV;have HNG:=Lib.hid (HT.out.nei (Nat.le_refl wr.heap.size));replace HB:=Lib.hid (HB.out.trans (hb.mono HT.out.nt.big));replace HT:=Lib.hid (HT.out.below hb);clear hV hb)
      |fail)
     obtain⟨G,eG⟩:∃G,G=wr.heap.size:=⟨_,rfl⟩
     rw[←eG] at HG HNG⊢
     clear eG HRA
     have ka:V.cell? ⟨G,0,none⟩=some (.int .i64 x.k):=(HAC.out V G HG.out).1
     have kn:V.cell? ⟨G,4,none⟩=some (.int .i64 x.n):=(HAC.out V G HG.out).2.2
     by_cases k1:x.k=1
     ·rw[k1] at ka
      go_upto_region 16 with fail
      clear ka kn
      by_cases hok:ws.length<32∧1≤x.p.b.length∧x.p.b.length≤2000
      ·skip
       have hb:Below V.heap.size V V.drew:=below_drewN (Below.refl _ _) 1
       replace HG:=Lib.hid (HG.out.below hb)
       replace HB:=Lib.hid (HB.out.trans (hb.mono HT.out.nt.big))
       replace HT:=Lib.hid (HT.out.below hb)
       clear hb
       obtain⟨wdy,ewd⟩:∃z,z=V.drew:=⟨_,rfl⟩
       refine Reg.any_begin (fun w'=>Blk w' G 34 zc) 9 rfl (by kernel_rfl) HG.out ?_
       rw[←ewd] at HG HT HB⊢
       clear ewd
       refine Reg.tk 0 (v:=?vy1) rfl HG.out (fun w' hS=>?hy1) ?ry1
       case hy1=>go_simp<;>rfl
       simp only[Act.put,Reg.s0,Reg.s1,Reg.s2]
       refine Reg.tk 1 (v:=?vy2) rfl HG.out (fun w' hS=>?hy2) ?ry2
       case hy2=>go_simp<;>rfl
       simp only[Act.put,Reg.s0,Reg.s1,Reg.s2]
       refine Reg.tk 2 (v:=.agg xs) rfl HG.out (fun w' hS=>?hy3) ?ry3
       case hy3=>exact exec_load_mid (.tmp 66) rfl (HAC.out w' G hS).2.1 Try.underlying32 rfl HXI.out
       simp only[Act.put,Reg.s0,Reg.s1,Reg.s2]
       refine Reg.tk 4 (v:=?vy4) rfl HG.out (fun w' hS=>?hy4) ?ry4
       case hy4=>go_simp<;>rfl
       simp only[Act.put,Reg.s0,Reg.s1,Reg.s2]
       refine Reg.tk 5 (v:=?vy5) rfl HG.out (fun w' hS=>?hy5) ?ry5
       case hy5=>go_simp<;>rfl
       simp only[Act.put,Reg.s0,Reg.s1,Reg.s2]
       refine Reg.tk 6 (v:=.agg xs) rfl HG.out (fun w' hS=>?hy6) ?ry6
       case hy6=>exact exec_load_mid (.tmp 70) rfl (HAC.out w' G hS).2.1 Try.underlying32 rfl HXI.out
       simp only[Act.put,Reg.s0,Reg.s1,Reg.s2]
       refine Reg.both_all [3] (by kernel_rfl) (by simp) ?_
       intro j0 hj0
       obtain rfl:j0=3:=by simpa using hj0
       clear hj0
       right
       refine⟨_,_,_,_,_,_,10,#[.pointer (some ⟨r,0,none⟩),.agg xs],rfl,by rfl,(by go_simp<;>first | rfl | exact⟨rfl,rfl⟩),?_⟩
       refine Calls.mono (show Calls _ _ #[.pointer (some ⟨r,0,none⟩),.agg xs] _ _ by rw[EXS.out];exact send_b HT.out.nt x.p x.A x.c (rd_low HRX.out HB.out HT.out.nt.big) (low_no HRX.out HT.out.nt) hok.1 hok.2.1 hok.2.2 (by have:=HPS.out.el;omega)) ?_
       rintro e wy7 ⟨rfl,vs2,vw2,A2,c2,hs⟩
       have hgl:=HG.out.lt
       replace HG:=Lib.hid (hs.chg.blk HG.out HNG.out.1)
       replace HB:=Lib.hid (HB.out.trans (hs.low HT.out.nt))
       replace HNG:=Lib.hid (HNG.out.code hs hgl)
       replace HT:=Lib.hid (HT.out.code hs)
       clear hs hgl
       refine⟨_,rfl,HG.out,?_⟩
       simp only[Act.put,Reg.s0,Reg.s1,Reg.s2]
       refine Reg.both_all [7] (by kernel_rfl) (by simp) ?_
       intro j0 hj0
       obtain rfl:j0=7:=by simpa using hj0
       clear hj0
       right
       refine⟨_,_,_,_,_,_,11,#[.pointer (some ⟨q,0,none⟩),.agg xs],rfl,by rfl,(by go_simp<;>first | rfl | exact⟨rfl,rfl⟩),?_⟩
       refine Calls.mono (show Calls _ _ #[.pointer (some ⟨q,0,none⟩),.agg xs] _ _ by rw[EXS.out];exact dsend_ok B q dvs dvw ss ls x.p x.A x.c _ HT.out.dn (rd_low HRX.out HB.out HT.out.nt.big) (by rw[HPS.out.len];exact hok.1) hok.2.1 hok.2.2 (by rw[HPS.out.slen];have:=HPS.out.el;omega)) ?_
       rintro e wy8 ⟨rfl,dvs2,dvw2,A3,c3,hs⟩
       have hgl:=HG.out.lt
       replace HG:=Lib.hid (hs.chg.blk HG.out HNG.out.2)
       replace HB:=Lib.hid (HB.out.trans (hs.low HT.out.dn))
       replace HNG:=Lib.hid (HNG.out.doc hs hgl)
       replace HT:=Lib.hid (HT.out.doc hs)
       clear hs hgl
       refine⟨_,rfl,HG.out,?_⟩
       simp only[Act.put,Reg.s0,Reg.s1,Reg.s2]
       refine Reg.tk 8 (v:=?vy9) rfl HG.out (fun w' hS=>?hy9) ?ry9
       case hy9=>go_simp<;>rfl
       simp only[Act.put,Reg.s0,Reg.s1,Reg.s2]
       refine wpAnyH_done (by kernel_rfl) ?_ _
       go_upto_region 26 with fail
       have HPS2:=Lib.hid (HPS.out.send x.p A2 A3 c2 c3 hok.1 hok.2.2)
       obtain⟨AL,cL,elv,_⟩:=HT.out.dn.num2
       obtain⟨nL,enl⟩:∃nL,nL=(ls++[(⟨x.p,A3,c3⟩:En)]).length:=⟨_,rfl⟩
       rw[←enl] at elv
       have ELV:=Lib.hid elv
       have hlen:(ws++[es.length]).length=nL:=by rw[enl,HPS2.out.len]
       clear elv enl
       have hb:Below wy8.heap.size wy8 wy8.drew:=below_drewN (Below.refl _ _) 1
       replace HG:=Lib.hid (HG.out.below hb)
       replace HB:=Lib.hid (HB.out.trans (hb.mono HT.out.nt.big))
       replace HT:=Lib.hid (HT.out.below hb)
       clear hb
       obtain⟨wdz,ewd⟩:∃z,z=wy8.drew:=⟨_,rfl⟩
       refine Reg.any_begin (fun w'=>w'.cell? ⟨q,0,none⟩=some (.slice AL nL cL)) 8 rfl (by kernel_rfl) (by rw[←ELV.out];exact HT.out.dn.c0) ?_
       rw[←ewd] at HG HT HB⊢
       clear ewd
       refine Reg.tk 0 (v:=?vz10) rfl (by rw[←ELV.out];exact HT.out.dn.c0) (fun w' hS=>?hz10) ?rz10
       case hz10=>go_simp<;>rfl
       simp only[Act.put,Reg.s0,Reg.s1,Reg.s2]
       refine Reg.tk 2 (v:=?vz11) rfl (by rw[←ELV.out];exact HT.out.dn.c0) (fun w' hS=>?hz11) ?rz11
       case hz11=>go_simp<;>rfl
       simp only[Act.put,Reg.s0,Reg.s1,Reg.s2]
       refine Reg.tk 3 (v:=?vz12) rfl (by rw[←ELV.out];exact HT.out.dn.c0) (fun w' hS=>?hz12) ?rz12
       case hz12=>go_simp<;>rfl
       simp only[Act.put,Reg.s0,Reg.s1,Reg.s2]
       refine Reg.tk 4 (v:=?vz13) rfl (by rw[←ELV.out];exact HT.out.dn.c0) (fun w' hS=>?hz13) ?rz13
       case hz13=>go_simp<;>rfl
       simp only[Act.put,Reg.s0,Reg.s1,Reg.s2]
       refine Reg.tk 5 (v:=?vz14) rfl (by rw[←ELV.out];exact HT.out.dn.c0) (fun w' hS=>?hz14) ?rz14
       case hz14=>go_simp<;>rfl
       simp only[Act.put,Reg.s0,Reg.s1,Reg.s2]
       refine Reg.tk 6 (v:=?vz15) rfl (by rw[←ELV.out];exact HT.out.dn.c0) (fun w' hS=>?hz15) ?rz15
       case hz15=>go_simp<;>rfl
       simp only[Act.put,Reg.s0,Reg.s1,Reg.s2]
       refine Reg.both_all [1] (by kernel_rfl) (by simp) ?_
       intro j0 hj0
       obtain rfl:j0=1:=by simpa using hj0
       clear hj0
       right
       refine⟨_,_,_,_,_,_,19,#[.pointer (some ⟨r,0,none⟩)],rfl,by rfl,(by go_simp<;>first | rfl | exact⟨rfl,rfl⟩),?_⟩
       refine Calls.mono (nt_len _ _ _ _ _ _ _ HT.out.nt) ?_
       rintro e wl ⟨rfl,hw⟩
       have hw:=hw.symm
       subst hw
       rw[hlen]
       refine⟨_,rfl,(by rw[←ELV.out];exact HT.out.dn.c0),?_⟩
       simp only[Act.put,Reg.s0,Reg.s1,Reg.s2]
       refine Reg.tk 7 (v:=?vz16) rfl (by rw[←ELV.out];exact HT.out.dn.c0) (fun w' hS=>?hz16) ?rz16
       case hz16=>go_simp<;>rfl
       simp only[Act.put,Reg.s0,Reg.s1,Reg.s2]
       refine wpAnyH_done (by kernel_rfl) ?_ _
       clear hlen
       go_wp2
       go_roundw
       case rel=>exact⟨i+1,vs2,vw2,dvs2,dvw2,es++[(⟨x.p,A2,c2⟩:En)],ss++[(⟨x.p,A3,c3⟩:En)],ls++[(⟨x.p,A3,c3⟩:En)],ws++[es.length],by omega,by omega,by go_num,HB.out,HT.out,HPS2.out⟩
       case measure=>simp [intOf];omega
      ·skip
       have hb:Below V.heap.size V V.drew:=below_drewN (Below.refl _ _) 1
       replace HG:=Lib.hid (HG.out.below hb)
       replace HB:=Lib.hid (HB.out.trans (hb.mono HT.out.nt.big))
       replace HT:=Lib.hid (HT.out.below hb)
       clear hb
       obtain⟨wdy,ewd⟩:∃z,z=V.drew:=⟨_,rfl⟩
       refine Reg.any_begin (fun w'=>Blk w' G 34 zc) 9 rfl (by kernel_rfl) HG.out ?_
       rw[←ewd] at HG HT HB⊢
       clear ewd
       refine Reg.tk 0 (v:=?vy17) rfl HG.out (fun w' hS=>?hy17) ?ry17
       case hy17=>go_simp<;>rfl
       simp only[Act.put,Reg.s0,Reg.s1,Reg.s2]
       refine Reg.tk 1 (v:=?vy18) rfl HG.out (fun w' hS=>?hy18) ?ry18
       case hy18=>go_simp<;>rfl
       simp only[Act.put,Reg.s0,Reg.s1,Reg.s2]
       refine Reg.tk 2 (v:=.agg xs) rfl HG.out (fun w' hS=>?hy19) ?ry19
       case hy19=>exact exec_load_mid (.tmp 66) rfl (HAC.out w' G hS).2.1 Try.underlying32 rfl HXI.out
       simp only[Act.put,Reg.s0,Reg.s1,Reg.s2]
       refine Reg.tk 4 (v:=?vy20) rfl HG.out (fun w' hS=>?hy20) ?ry20
       case hy20=>go_simp<;>rfl
       simp only[Act.put,Reg.s0,Reg.s1,Reg.s2]
       refine Reg.tk 5 (v:=?vy21) rfl HG.out (fun w' hS=>?hy21) ?ry21
       case hy21=>go_simp<;>rfl
       simp only[Act.put,Reg.s0,Reg.s1,Reg.s2]
       refine Reg.tk 6 (v:=.agg xs) rfl HG.out (fun w' hS=>?hy22) ?ry22
       case hy22=>exact exec_load_mid (.tmp 70) rfl (HAC.out w' G hS).2.1 Try.underlying32 rfl HXI.out
       simp only[Act.put,Reg.s0,Reg.s1,Reg.s2]
       refine Reg.both_all [3] (by kernel_rfl) (by simp) ?_
       intro j0 hj0
       obtain rfl:j0=3:=by simpa using hj0
       clear hj0
       right
       refine⟨_,_,_,_,_,_,10,#[.pointer (some ⟨r,0,none⟩),.agg xs],rfl,by rfl,(by go_simp<;>first | rfl | exact⟨rfl,rfl⟩),?_⟩
       refine Calls.mono (show Calls _ _ #[.pointer (some ⟨r,0,none⟩),.agg xs] _ _ by rw[EXS.out];exact send_no B r vs vw es ws x.p x.A x.c _ HT.out.nt hok) ?_
       rintro e wy23 ⟨rfl,hb⟩
       replace HG:=Lib.hid (HG.out.below hb)
       replace HB:=Lib.hid (HB.out.trans (hb.mono HT.out.nt.big))
       replace HT:=Lib.hid (HT.out.below hb)
       clear hb
       refine⟨_,rfl,HG.out,?_⟩
       simp only[Act.put,Reg.s0,Reg.s1,Reg.s2]
       refine Reg.both_all [7] (by kernel_rfl) (by simp) ?_
       intro j0 hj0
       obtain rfl:j0=7:=by simpa using hj0
       clear hj0
       right
       refine⟨_,_,_,_,_,_,11,#[.pointer (some ⟨q,0,none⟩),.agg xs],rfl,by rfl,(by go_simp<;>first | rfl | exact⟨rfl,rfl⟩),?_⟩
       refine Calls.mono (show Calls _ _ #[.pointer (some ⟨q,0,none⟩),.agg xs] _ _ by rw[EXS.out];exact dsend_no B q dvs dvw ss ls x.p x.A x.c _ HT.out.dn (by rw[HPS.out.len];exact hok)) ?_
       rintro e wy24 ⟨rfl,hb⟩
       replace HG:=Lib.hid (HG.out.below hb)
       replace HB:=Lib.hid (HB.out.trans (hb.mono HT.out.nt.big))
       replace HT:=Lib.hid (HT.out.below hb)
       clear hb
       refine⟨_,rfl,HG.out,?_⟩
       simp only[Act.put,Reg.s0,Reg.s1,Reg.s2]
       refine Reg.tk 8 (v:=?vy25) rfl HG.out (fun w' hS=>?hy25) ?ry25
       case hy25=>go_simp<;>rfl
       simp only[Act.put,Reg.s0,Reg.s1,Reg.s2]
       refine wpAnyH_done (by kernel_rfl) ?_ _
       go_upto_region 26 with fail
       have HPS2:=Lib.hid (HPS.out.step)
       obtain⟨AL,cL,elv,_⟩:=HT.out.dn.num2
       obtain⟨nL,enl⟩:∃nL,nL=(ls).length:=⟨_,rfl⟩
       rw[←enl] at elv
       have ELV:=Lib.hid elv
       have hlen:(ws).length=nL:=by rw[enl,HPS2.out.len]
       clear elv enl
       have hb:Below wy24.heap.size wy24 wy24.drew:=below_drewN (Below.refl _ _) 1
       replace HG:=Lib.hid (HG.out.below hb)
       replace HB:=Lib.hid (HB.out.trans (hb.mono HT.out.nt.big))
       replace HT:=Lib.hid (HT.out.below hb)
       clear hb
       obtain⟨wdz,ewd⟩:∃z,z=wy24.drew:=⟨_,rfl⟩
       refine Reg.any_begin (fun w'=>w'.cell? ⟨q,0,none⟩=some (.slice AL nL cL)) 8 rfl (by kernel_rfl) (by rw[←ELV.out];exact HT.out.dn.c0) ?_
       rw[←ewd] at HG HT HB⊢
       clear ewd
       refine Reg.tk 0 (v:=?vz26) rfl (by rw[←ELV.out];exact HT.out.dn.c0) (fun w' hS=>?hz26) ?rz26
       case hz26=>go_simp<;>rfl
       simp only[Act.put,Reg.s0,Reg.s1,Reg.s2]
       refine Reg.tk 2 (v:=?vz27) rfl (by rw[←ELV.out];exact HT.out.dn.c0) (fun w' hS=>?hz27) ?rz27
       case hz27=>go_simp<;>rfl
       simp only[Act.put,Reg.s0,Reg.s1,Reg.s2]
       refine Reg.tk 3 (v:=?vz28) rfl (by rw[←ELV.out];exact HT.out.dn.c0) (fun w' hS=>?hz28) ?rz28
       case hz28=>go_simp<;>rfl
       simp only[Act.put,Reg.s0,Reg.s1,Reg.s2]
       refine Reg.tk 4 (v:=?vz29) rfl (by rw[←ELV.out];exact HT.out.dn.c0) (fun w' hS=>?hz29) ?rz29
       case hz29=>go_simp<;>rfl
       simp only[Act.put,Reg.s0,Reg.s1,Reg.s2]
       refine Reg.tk 5 (v:=?vz30) rfl (by rw[←ELV.out];exact HT.out.dn.c0) (fun w' hS=>?hz30) ?rz30
       case hz30=>go_simp<;>rfl
       simp only[Act.put,Reg.s0,Reg.s1,Reg.s2]
       refine Reg.tk 6 (v:=?vz31) rfl (by rw[←ELV.out];exact HT.out.dn.c0) (fun w' hS=>?hz31) ?rz31
       case hz31=>go_simp<;>rfl
       simp only[Act.put,Reg.s0,Reg.s1,Reg.s2]
       refine Reg.both_all [1] (by kernel_rfl) (by simp) ?_
       intro j0 hj0
       obtain rfl:j0=1:=by simpa using hj0
       clear hj0
       right
       refine⟨_,_,_,_,_,_,19,#[.pointer (some ⟨r,0,none⟩)],rfl,by rfl,(by go_simp<;>first | rfl | exact⟨rfl,rfl⟩),?_⟩
       refine Calls.mono (nt_len _ _ _ _ _ _ _ HT.out.nt) ?_
       rintro e wl ⟨rfl,hw⟩
       have hw:=hw.symm
       subst hw
       rw[hlen]
       refine⟨_,rfl,(by rw[←ELV.out];exact HT.out.dn.c0),?_⟩
       simp only[Act.put,Reg.s0,Reg.s1,Reg.s2]
       refine Reg.tk 7 (v:=?vz32) rfl (by rw[←ELV.out];exact HT.out.dn.c0) (fun w' hS=>?hz32) ?rz32
       case hz32=>go_simp<;>rfl
       simp only[Act.put,Reg.s0,Reg.s1,Reg.s2]
       refine wpAnyH_done (by kernel_rfl) ?_ _
       clear hlen
       go_wp2
       go_roundw
       case rel=>exact⟨i+1,vs,vw,dvs,dvw,es,ss,ls,ws,by omega,by omega,by go_num,HB.out,HT.out,HPS2.out⟩
       case measure=>simp [intOf];omega
     ·have d1:(x.k==1)=false:=by simpa using k1
      by_cases k2:x.k=2
      ·rw[k2] at ka
       have HTD:=Lib.hid (fun(k:Nat) (hk:DO q dvs dvw ss k)=>HT.out.dn.own_lt hk)
       by_cases hin:hasB ws.length x.n=true
       ·skip
        obtain⟨j,hj⟩:∃j:Nat,x.n=(j:Int):=⟨x.n.toNat,by unfold hasB at hin;simp at hin;omega⟩
        have hjl:j<ws.length:=by unfold hasB at hin;simp at hin;omega
        obtain⟨k,y,z,hk,hy,hzl,hzy,hyl,hzs⟩:=HPS.out.at_ hjl
        have HNJ:=Lib.hid hj
        have HK:=Lib.hid hk;have HY:=Lib.hid hy;have HZL:=Lib.hid hzl;have HZY:=Lib.hid hzy;have HYL:=Lib.hid hyl;have HZM:=Lib.hid hzs
        rw[hj] at kn
        clear hin hj hjl hk hy hzl hzy hyl hzs
        go_upto_region 26 with(first
         |(go_at_call 12;refine Calls.mono (pull_b HT.out.nt j k y HK.out HY.out (by have:=HYL.out;omega) (by have:=HPS.out.wl;omega)) ?_;rintro e w3 ⟨A2,c2,vw2,rfl,ho,hs⟩;clear kn ka;have HNO:=Lib.hid (show ∀p,A2=some p→¬DO q dvs dvw ss p.block from fun p hp x=>by have h1:=(ho.lo p hp).1;have h2:=HTD.out _ x;omega);have HO:=Lib.hid ho;have HSC:=Lib.hid hs;replace HB:=Lib.hid (HB.out.trans (hs.low HT.out.nt));have hgl:=HG.out.lt;have hg2:=hs.chg.blk HG.out HNG.out.1;replace HG:=Lib.hid hg2;replace HNG:=Lib.hid (HNG.out.code hs hgl);replace HT:=Lib.hid (HT.out.code hs);clear hs hg2 HSC hgl;obtain⟨ys,eys⟩:∃ys,ys=pkA y.p A2 c2:=⟨_,rfl⟩;rw[←eys];have EYS:=Lib.hid eys;have HYS:=Lib.hid (show ys.size=3 by rw[eys];rfl);have HYI:=Lib.hid (show(Try.prog.info? 32).map (·.size)=some ys.size by rw[eys];exact pk_info);have HY1:=Lib.hid (show ys.all (·.oneCell')=true by rw[eys];exact pkA_one _ _ _);clear eys ho)
         |(refine Wh.store_new (by rfl) 32 (.tmp 7) (.tmp 81) (by rfl) 32 rfl ys (by rfl) (by rfl) (by rw[HYS.out];rfl) HYI.out HY1.out ?_;rintro V1 hV hb;have HP1:=Lib.hid hV;have HNP1:=Lib.hid (HT.out.nei (Nat.le_refl w3.heap.size));replace HB:=Lib.hid (HB.out.trans (hb.mono HT.out.nt.big));replace HG:=Lib.hid (HG.out.below hb);replace HT:=Lib.hid (HT.out.below hb);replace HO:=Lib.hid (HO.out.below hb);have kn:=(HAC.out _ G HG.out).2.2;rw[HNJ.out] at kn;clear hV hb)
         |(go_at_call 13;refine Calls.mono (dpull_ok B q dvs dvw ss ls j z _ HT.out.dn HZL.out (by rw[HPS.out.len];have:=HPS.out.wl;omega)) ?_;rintro e w4 ⟨dvw2,rfl,hs⟩;clear kn;replace HO:=Lib.hid (HO.out.chg hs.chg (fun p hp x=>HNO.out p hp x));have hp2:=hs.chg.blk HP1.out HNP1.out.2;replace HP1:=Lib.hid hp2;replace HB:=Lib.hid (HB.out.trans (hs.low HT.out.dn));replace HT:=Lib.hid (HT.out.doc hs);clear hs hp2;obtain⟨us,eus⟩:∃us,us=pkA z.p z.A z.c:=⟨_,rfl⟩;rw[←eus];have EUS:=Lib.hid eus;have HUS:=Lib.hid (show us.size=3 by rw[eus];rfl);have HUI:=Lib.hid (show(Try.prog.info? 32).map (·.size)=some us.size by rw[eus];exact pk_info);have HU1:=Lib.hid (show us.all (·.oneCell')=true by rw[eus];exact pkA_one _ _ _);clear eus HG HNP1)
         |(refine Wh.store_new (by rfl) 32 (.tmp 9) (.tmp 88) (by rfl) 32 rfl us (by rfl) (by rfl) (by rw[HUS.out];rfl) HUI.out HU1.out ?_;rintro V2 hV hb;have HP2:=Lib.hid hV;replace HP1:=Lib.hid (HP1.out.below hb);replace HB:=Lib.hid (HB.out.trans (hb.mono HT.out.nt.big));replace HT:=Lib.hid (HT.out.below hb);replace HO:=Lib.hid (HO.out.below hb);have CSM:=Lib.hid (show Calls Try.prog 14 #[.agg ys,.agg us] V2 _ by rw[EYS.out,EUS.out];exact same_pk _ _ _ _ _ _ V2 HZY.out.symm HO.out.rd (HT.out.dn.rd z HZM.out));clear hV hb)
         |(refine Wh.load_g (by rfl) 32 (.tmp 7) (by rfl) _ 0 (by rfl) ys _ (Wh.range_blk HP1.out) Try.underlying32 (by rfl) HYI.out ?_)
         |(refine Wh.load_g (by rfl) 32 (.tmp 9) (by rfl) _ 0 (by rfl) us _ (Wh.range_blk HP2.out) Try.underlying32 (by rfl) HUI.out ?_)
         |(go_at_call 14;refine Calls.mono CSM.out ?_;rintro e w5 ⟨rfl,hb⟩;clear CSM;replace HB:=Lib.hid (HB.out.trans (hb.mono HT.out.nt.big));replace HT:=Lib.hid (HT.out.below hb);clear hb)
         |fail)
        clear HP1 HP2
        have HPS2:=Lib.hid (HPS.out.pull j)
        obtain⟨AL,cL,elv,_⟩:=HT.out.dn.num2
        obtain⟨nL,enl⟩:∃nL,nL=(ls.eraseIdx j).length:=⟨_,rfl⟩
        rw[←enl] at elv
        have ELV:=Lib.hid elv
        have hlen:(ws.eraseIdx j).length=nL:=by rw[enl,HPS2.out.len]
        clear elv enl
        have hb:Below w5.heap.size w5 w5.drew:=below_drewN (Below.refl _ _) 1
        replace HB:=Lib.hid (HB.out.trans (hb.mono HT.out.nt.big))
        replace HT:=Lib.hid (HT.out.below hb)
        clear hb
        obtain⟨wdz,ewd⟩:∃z,z=w5.drew:=⟨_,rfl⟩
        refine Reg.any_begin (fun w'=>w'.cell? ⟨q,0,none⟩=some (.slice AL nL cL)) 8 rfl (by kernel_rfl) (by rw[←ELV.out];exact HT.out.dn.c0) ?_
        rw[←ewd] at HT HB⊢
        clear ewd
        refine Reg.tk 0 (v:=?vz65) rfl (by rw[←ELV.out];exact HT.out.dn.c0) (fun w' hS=>?hz65) ?rz65
        case hz65=>go_simp<;>rfl
        simp only[Act.put,Reg.s0,Reg.s1,Reg.s2]
        refine Reg.tk 2 (v:=?vz66) rfl (by rw[←ELV.out];exact HT.out.dn.c0) (fun w' hS=>?hz66) ?rz66
        case hz66=>go_simp<;>rfl
        simp only[Act.put,Reg.s0,Reg.s1,Reg.s2]
        refine Reg.tk 3 (v:=?vz67) rfl (by rw[←ELV.out];exact HT.out.dn.c0) (fun w' hS=>?hz67) ?rz67
        case hz67=>go_simp<;>rfl
        simp only[Act.put,Reg.s0,Reg.s1,Reg.s2]
        refine Reg.tk 4 (v:=?vz68) rfl (by rw[←ELV.out];exact HT.out.dn.c0) (fun w' hS=>?hz68) ?rz68
        case hz68=>go_simp<;>rfl
        simp only[Act.put,Reg.s0,Reg.s1,Reg.s2]
        refine Reg.tk 5 (v:=?vz69) rfl (by rw[←ELV.out];exact HT.out.dn.c0) (fun w' hS=>?hz69) ?rz69
        case hz69=>go_simp<;>rfl
        simp only[Act.put,Reg.s0,Reg.s1,Reg.s2]
        refine Reg.tk 6 (v:=?vz70) rfl (by rw[←ELV.out];exact HT.out.dn.c0) (fun w' hS=>?hz70) ?rz70
        case hz70=>go_simp<;>rfl
        simp only[Act.put,Reg.s0,Reg.s1,Reg.s2]
        refine Reg.both_all [1] (by kernel_rfl) (by simp) ?_
        intro j0 hj0
        obtain rfl:j0=1:=by simpa using hj0
        clear hj0
        right
        refine⟨_,_,_,_,_,_,19,#[.pointer (some ⟨r,0,none⟩)],rfl,by rfl,(by go_simp<;>first | rfl | exact⟨rfl,rfl⟩),?_⟩
        refine Calls.mono (nt_len _ _ _ _ _ _ _ HT.out.nt) ?_
        rintro e wl ⟨rfl,hw⟩
        have hw:=hw.symm
        subst hw
        rw[hlen]
        refine⟨_,rfl,(by rw[←ELV.out];exact HT.out.dn.c0),?_⟩
        simp only[Act.put,Reg.s0,Reg.s1,Reg.s2]
        refine Reg.tk 7 (v:=?vz71) rfl (by rw[←ELV.out];exact HT.out.dn.c0) (fun w' hS=>?hz71) ?rz71
        case hz71=>go_simp<;>rfl
        simp only[Act.put,Reg.s0,Reg.s1,Reg.s2]
        refine wpAnyH_done (by kernel_rfl) ?_ _
        clear hlen
        go_wp2
        go_roundw
        case rel=>exact⟨i+1,vs,vw2,dvs,dvw2,es,ss,ls.eraseIdx j,ws.eraseIdx j,by omega,by omega,by go_num,HB.out,HT.out,HPS2.out⟩
        case measure=>simp [intOf];omega
       ·have hno:hasB ws.length x.n=false:=by simpa using hin
        clear hin
        go_upto_region 26 with(first
         |(go_at_call 12;refine Calls.mono (pull_no B r vs vw es ws x.n _ HT.out.nt hno) ?_;rintro e w3 ⟨rfl,hb⟩;clear kn ka;replace HB:=Lib.hid (HB.out.trans (hb.mono HT.out.nt.big));replace HG:=Lib.hid (HG.out.below hb);replace HT:=Lib.hid (HT.out.below hb);clear hb;obtain⟨ys,eys⟩:∃ys,ys=pkA pk0 none 0:=⟨_,rfl⟩;rw[←eys];have EYS:=Lib.hid eys;have HYS:=Lib.hid (show ys.size=3 by rw[eys];rfl);have HYI:=Lib.hid (show(Try.prog.info? 32).map (·.size)=some ys.size by rw[eys];exact pk_info);have HY1:=Lib.hid (show ys.all (·.oneCell')=true by rw[eys];exact pkA_one _ _ _);clear eys)
         |(refine Wh.store_new (by rfl) 32 (.tmp 7) (.tmp 81) (by rfl) 32 rfl ys (by rfl) (by rfl) (by rw[HYS.out];rfl) HYI.out HY1.out ?_;rintro V1 hV hb;have HP1:=Lib.hid hV;have HNP1:=Lib.hid (HT.out.nei (Nat.le_refl w3.heap.size));replace HB:=Lib.hid (HB.out.trans (hb.mono HT.out.nt.big));replace HG:=Lib.hid (HG.out.below hb);replace HT:=Lib.hid (HT.out.below hb);have kn:=(HAC.out _ G HG.out).2.2;clear hV hb)
         |(go_at_call 13;refine Calls.mono (dpull_no B q dvs dvw ss ls x.n _ HT.out.dn (by rw[HPS.out.len];exact hno)) ?_;rintro e w4 ⟨rfl,hb⟩;clear kn;replace HP1:=Lib.hid (HP1.out.below hb);replace HB:=Lib.hid (HB.out.trans (hb.mono HT.out.nt.big));replace HT:=Lib.hid (HT.out.below hb);clear hb;obtain⟨us,eus⟩:∃us,us=pkA pk0 none 0:=⟨_,rfl⟩;rw[←eus];have EUS:=Lib.hid eus;have HUS:=Lib.hid (show us.size=3 by rw[eus];rfl);have HUI:=Lib.hid (show(Try.prog.info? 32).map (·.size)=some us.size by rw[eus];exact pk_info);have HU1:=Lib.hid (show us.all (·.oneCell')=true by rw[eus];exact pkA_one _ _ _);clear eus HG HNP1)
         |(refine Wh.store_new (by rfl) 32 (.tmp 9) (.tmp 88) (by rfl) 32 rfl us (by rfl) (by rfl) (by rw[HUS.out];rfl) HUI.out HU1.out ?_;rintro V2 hV hb;have HP2:=Lib.hid hV;replace HP1:=Lib.hid (HP1.out.below hb);replace HB:=Lib.hid (HB.out.trans (hb.mono HT.out.nt.big));replace HT:=Lib.hid (HT.out.below hb);have CSM:=Lib.hid (show Calls Try.prog 14 #[.agg ys,.agg us] V2 _ by rw[EYS.out,EUS.out];exact same_pk _ _ _ _ _ _ V2 rfl (.inl rfl) (.inl rfl));clear hV hb)
         |(refine Wh.load_g (by rfl) 32 (.tmp 7) (by rfl) _ 0 (by rfl) ys _ (Wh.range_blk HP1.out) Try.underlying32 (by rfl) HYI.out ?_)
         |(refine Wh.load_g (by rfl) 32 (.tmp 9) (by rfl) _ 0 (by rfl) us _ (Wh.range_blk HP2.out) Try.underlying32 (by rfl) HUI.out ?_)
         |(go_at_call 14;refine Calls.mono CSM.out ?_;rintro e w5 ⟨rfl,hb⟩;clear CSM;replace HB:=Lib.hid (HB.out.trans (hb.mono HT.out.nt.big));replace HT:=Lib.hid (HT.out.below hb);clear hb)
         |fail)
        clear HP1 HP2
        have HPS2:=Lib.hid (HPS.out.step)
        obtain⟨AL,cL,elv,_⟩:=HT.out.dn.num2
        obtain⟨nL,enl⟩:∃nL,nL=(ls).length:=⟨_,rfl⟩
        rw[←enl] at elv
        have ELV:=Lib.hid elv
        have hlen:(ws).length=nL:=by rw[enl,HPS2.out.len]
        clear elv enl
        have hb:Below w5.heap.size w5 w5.drew:=below_drewN (Below.refl _ _) 1
        replace HB:=Lib.hid (HB.out.trans (hb.mono HT.out.nt.big))
        replace HT:=Lib.hid (HT.out.below hb)
        clear hb
        obtain⟨wdz,ewd⟩:∃z,z=w5.drew:=⟨_,rfl⟩
        refine Reg.any_begin (fun w'=>w'.cell? ⟨q,0,none⟩=some (.slice AL nL cL)) 8 rfl (by kernel_rfl) (by rw[←ELV.out];exact HT.out.dn.c0) ?_
        rw[←ewd] at HT HB⊢
        clear ewd
        refine Reg.tk 0 (v:=?vz72) rfl (by rw[←ELV.out];exact HT.out.dn.c0) (fun w' hS=>?hz72) ?rz72
        case hz72=>go_simp<;>rfl
        simp only[Act.put,Reg.s0,Reg.s1,Reg.s2]
        refine Reg.tk 2 (v:=?vz73) rfl (by rw[←ELV.out];exact HT.out.dn.c0) (fun w' hS=>?hz73) ?rz73
        case hz73=>go_simp<;>rfl
        simp only[Act.put,Reg.s0,Reg.s1,Reg.s2]
        refine Reg.tk 3 (v:=?vz74) rfl (by rw[←ELV.out];exact HT.out.dn.c0) (fun w' hS=>?hz74) ?rz74
        case hz74=>go_simp<;>rfl
        simp only[Act.put,Reg.s0,Reg.s1,Reg.s2]
        refine Reg.tk 4 (v:=?vz75) rfl (by rw[←ELV.out];exact HT.out.dn.c0) (fun w' hS=>?hz75) ?rz75
        case hz75=>go_simp<;>rfl
        simp only[Act.put,Reg.s0,Reg.s1,Reg.s2]
        refine Reg.tk 5 (v:=?vz76) rfl (by rw[←ELV.out];exact HT.out.dn.c0) (fun w' hS=>?hz76) ?rz76
        case hz76=>go_simp<;>rfl
        simp only[Act.put,Reg.s0,Reg.s1,Reg.s2]
        refine Reg.tk 6 (v:=?vz77) rfl (by rw[←ELV.out];exact HT.out.dn.c0) (fun w' hS=>?hz77) ?rz77
        case hz77=>go_simp<;>rfl
        simp only[Act.put,Reg.s0,Reg.s1,Reg.s2]
        refine Reg.both_all [1] (by kernel_rfl) (by simp) ?_
        intro j0 hj0
        obtain rfl:j0=1:=by simpa using hj0
        clear hj0
        right
        refine⟨_,_,_,_,_,_,19,#[.pointer (some ⟨r,0,none⟩)],rfl,by rfl,(by go_simp<;>first | rfl | exact⟨rfl,rfl⟩),?_⟩
        refine Calls.mono (nt_len _ _ _ _ _ _ _ HT.out.nt) ?_
        rintro e wl ⟨rfl,hw⟩
        have hw:=hw.symm
        subst hw
        rw[hlen]
        refine⟨_,rfl,(by rw[←ELV.out];exact HT.out.dn.c0),?_⟩
        simp only[Act.put,Reg.s0,Reg.s1,Reg.s2]
        refine Reg.tk 7 (v:=?vz78) rfl (by rw[←ELV.out];exact HT.out.dn.c0) (fun w' hS=>?hz78) ?rz78
        case hz78=>go_simp<;>rfl
        simp only[Act.put,Reg.s0,Reg.s1,Reg.s2]
        refine wpAnyH_done (by kernel_rfl) ?_ _
        clear hlen
        go_wp2
        go_roundw
        case rel=>exact⟨i+1,vs,vw,dvs,dvw,es,ss,ls,ws,by omega,by omega,by go_num,HB.out,HT.out,HPS2.out⟩
        case measure=>simp [intOf];omega
      ·have d2:(x.k==2)=false:=by simpa using k2
       by_cases k3:x.k=3
       ·rw[k3] at ka
        go_upto_region 24 with fail
        clear ka kn
        by_cases hok:hasB ws.length x.n=true∧ws.length<32
        ·have hin:=hok.1
         have hlt32:=hok.2
         obtain⟨j,hj⟩:∃j:Nat,x.n=(j:Int):=⟨x.n.toNat,by unfold hasB at hin;simp at hin;omega⟩
         have hjl:j<ws.length:=by unfold hasB at hin;simp at hin;omega
         obtain⟨k,y,z,hk,hy,hzl,hzy,hyl,hzs⟩:=HPS.out.at_ hjl
         have HNJ:=Lib.hid hj
         have HK:=Lib.hid hk;have HY:=Lib.hid hy;have HZL:=Lib.hid hzl;have HZY:=Lib.hid hzy;have HYL:=Lib.hid hyl;have HZM:=Lib.hid hzs
         clear hok hin hj hjl hk hy hzl hzy hyl hzs
         have hb:Below V.heap.size V V.drew:=below_drewN (Below.refl _ _) 1
         replace HG:=Lib.hid (HG.out.below hb)
         replace HB:=Lib.hid (HB.out.trans (hb.mono HT.out.nt.big))
         replace HT:=Lib.hid (HT.out.below hb)
         clear hb
         obtain⟨wdy,ewd⟩:∃z,z=V.drew:=⟨_,rfl⟩
         refine Reg.any_begin (fun w'=>Blk w' G 34 zc) 9 rfl (by kernel_rfl) HG.out ?_
         rw[←ewd] at HG HT HB⊢
         clear ewd
         refine Reg.tk 0 (v:=?vy33) rfl HG.out (fun w' hS=>?hy33) ?ry33
         case hy33=>go_simp<;>rfl
         simp only[Act.put,Reg.s0,Reg.s1,Reg.s2]
         refine Reg.tk 1 (v:=?vy34) rfl HG.out (fun w' hS=>?hy34) ?ry34
         case hy34=>go_simp<;>rfl
         simp only[Act.put,Reg.s0,Reg.s1,Reg.s2]
         refine Reg.tk 2 (v:=.int .i64 (j:Int)) rfl HG.out (fun w' hS=>?hy35) ?ry35
         case hy35=>have kt:=(HAC.out w' G hS).2.2;rw[HNJ.out] at kt;(go_simp<;>rfl)
         simp only[Act.put,Reg.s0,Reg.s1,Reg.s2]
         refine Reg.tk 4 (v:=?vy36) rfl HG.out (fun w' hS=>?hy36) ?ry36
         case hy36=>go_simp<;>rfl
         simp only[Act.put,Reg.s0,Reg.s1,Reg.s2]
         refine Reg.tk 5 (v:=?vy37) rfl HG.out (fun w' hS=>?hy37) ?ry37
         case hy37=>go_simp<;>rfl
         simp only[Act.put,Reg.s0,Reg.s1,Reg.s2]
         refine Reg.tk 6 (v:=.int .i64 (j:Int)) rfl HG.out (fun w' hS=>?hy38) ?ry38
         case hy38=>have kt:=(HAC.out w' G hS).2.2;rw[HNJ.out] at kt;(go_simp<;>rfl)
         simp only[Act.put,Reg.s0,Reg.s1,Reg.s2]
         refine Reg.both_all [3] (by kernel_rfl) (by simp) ?_
         intro j0 hj0
         obtain rfl:j0=3:=by simpa using hj0
         clear hj0
         right
         refine⟨_,_,_,_,_,_,15,#[.pointer (some ⟨r,0,none⟩),.int .i64 (j:Int)],rfl,by rfl,(by go_simp<;>first | rfl | exact⟨rfl,rfl⟩),?_⟩
         refine Calls.mono (twice_b HT.out.nt j k HK.out hlt32) ?_
         rintro e wy39 ⟨rfl,vw2,hs⟩
         have hgl:=HG.out.lt
         replace HG:=Lib.hid (hs.chg.blk HG.out HNG.out.1)
         replace HB:=Lib.hid (HB.out.trans (hs.low HT.out.nt))
         replace HNG:=Lib.hid (HNG.out.code hs hgl)
         replace HT:=Lib.hid (HT.out.code hs)
         clear hs hgl
         refine⟨_,rfl,HG.out,?_⟩
         simp only[Act.put,Reg.s0,Reg.s1,Reg.s2]
         refine Reg.both_all [7] (by kernel_rfl) (by simp) ?_
         intro j0 hj0
         obtain rfl:j0=7:=by simpa using hj0
         clear hj0
         right
         refine⟨_,_,_,_,_,_,16,#[.pointer (some ⟨q,0,none⟩),.int .i64 (j:Int)],rfl,by rfl,(by go_simp<;>first | rfl | exact⟨rfl,rfl⟩),?_⟩
         refine Calls.mono (dtwice_ok B q dvs dvw ss ls j z _ HT.out.dn HZL.out (by rw[HPS.out.len];exact hlt32)) ?_
         rintro e wy40 ⟨rfl,dvw2,hs⟩
         have hgl:=HG.out.lt
         replace HG:=Lib.hid (hs.chg.blk HG.out HNG.out.2)
         replace HB:=Lib.hid (HB.out.trans (hs.low HT.out.dn))
         replace HNG:=Lib.hid (HNG.out.doc hs hgl)
         replace HT:=Lib.hid (HT.out.doc hs)
         clear hs hgl
         refine⟨_,rfl,HG.out,?_⟩
         simp only[Act.put,Reg.s0,Reg.s1,Reg.s2]
         refine Reg.tk 8 (v:=?vy41) rfl HG.out (fun w' hS=>?hy41) ?ry41
         case hy41=>go_simp<;>rfl
         simp only[Act.put,Reg.s0,Reg.s1,Reg.s2]
         refine wpAnyH_done (by kernel_rfl) ?_ _
         go_upto_region 26 with fail
         have HPS2:=Lib.hid (HPS.out.twice HK.out HZL.out hlt32)
         obtain⟨AL,cL,elv,_⟩:=HT.out.dn.num2
         obtain⟨nL,enl⟩:∃nL,nL=(ls++[z]).length:=⟨_,rfl⟩
         rw[←enl] at elv
         have ELV:=Lib.hid elv
         have hlen:(ws++[k]).length=nL:=by rw[enl,HPS2.out.len]
         clear elv enl
         have hb:Below wy40.heap.size wy40 wy40.drew:=below_drewN (Below.refl _ _) 1
         replace HG:=Lib.hid (HG.out.below hb)
         replace HB:=Lib.hid (HB.out.trans (hb.mono HT.out.nt.big))
         replace HT:=Lib.hid (HT.out.below hb)
         clear hb
         obtain⟨wdz,ewd⟩:∃z,z=wy40.drew:=⟨_,rfl⟩
         refine Reg.any_begin (fun w'=>w'.cell? ⟨q,0,none⟩=some (.slice AL nL cL)) 8 rfl (by kernel_rfl) (by rw[←ELV.out];exact HT.out.dn.c0) ?_
         rw[←ewd] at HG HT HB⊢
         clear ewd
         refine Reg.tk 0 (v:=?vz42) rfl (by rw[←ELV.out];exact HT.out.dn.c0) (fun w' hS=>?hz42) ?rz42
         case hz42=>go_simp<;>rfl
         simp only[Act.put,Reg.s0,Reg.s1,Reg.s2]
         refine Reg.tk 2 (v:=?vz43) rfl (by rw[←ELV.out];exact HT.out.dn.c0) (fun w' hS=>?hz43) ?rz43
         case hz43=>go_simp<;>rfl
         simp only[Act.put,Reg.s0,Reg.s1,Reg.s2]
         refine Reg.tk 3 (v:=?vz44) rfl (by rw[←ELV.out];exact HT.out.dn.c0) (fun w' hS=>?hz44) ?rz44
         case hz44=>go_simp<;>rfl
         simp only[Act.put,Reg.s0,Reg.s1,Reg.s2]
         refine Reg.tk 4 (v:=?vz45) rfl (by rw[←ELV.out];exact HT.out.dn.c0) (fun w' hS=>?hz45) ?rz45
         case hz45=>go_simp<;>rfl
         simp only[Act.put,Reg.s0,Reg.s1,Reg.s2]
         refine Reg.tk 5 (v:=?vz46) rfl (by rw[←ELV.out];exact HT.out.dn.c0) (fun w' hS=>?hz46) ?rz46
         case hz46=>go_simp<;>rfl
         simp only[Act.put,Reg.s0,Reg.s1,Reg.s2]
         refine Reg.tk 6 (v:=?vz47) rfl (by rw[←ELV.out];exact HT.out.dn.c0) (fun w' hS=>?hz47) ?rz47
         case hz47=>go_simp<;>rfl
         simp only[Act.put,Reg.s0,Reg.s1,Reg.s2]
         refine Reg.both_all [1] (by kernel_rfl) (by simp) ?_
         intro j0 hj0
         obtain rfl:j0=1:=by simpa using hj0
         clear hj0
         right
         refine⟨_,_,_,_,_,_,19,#[.pointer (some ⟨r,0,none⟩)],rfl,by rfl,(by go_simp<;>first | rfl | exact⟨rfl,rfl⟩),?_⟩
         refine Calls.mono (nt_len _ _ _ _ _ _ _ HT.out.nt) ?_
         rintro e wl ⟨rfl,hw⟩
         have hw:=hw.symm
         subst hw
         rw[hlen]
         refine⟨_,rfl,(by rw[←ELV.out];exact HT.out.dn.c0),?_⟩
         simp only[Act.put,Reg.s0,Reg.s1,Reg.s2]
         refine Reg.tk 7 (v:=?vz48) rfl (by rw[←ELV.out];exact HT.out.dn.c0) (fun w' hS=>?hz48) ?rz48
         case hz48=>go_simp<;>rfl
         simp only[Act.put,Reg.s0,Reg.s1,Reg.s2]
         refine wpAnyH_done (by kernel_rfl) ?_ _
         clear hlen
         go_wp2
         go_roundw
         case rel=>exact⟨i+1,vs,vw2,dvs,dvw2,es,ss,ls++[z],ws++[k],by omega,by omega,by go_num,HB.out,HT.out,HPS2.out⟩
         case measure=>simp [intOf];omega
        ·skip
         have hb:Below V.heap.size V V.drew:=below_drewN (Below.refl _ _) 1
         replace HG:=Lib.hid (HG.out.below hb)
         replace HB:=Lib.hid (HB.out.trans (hb.mono HT.out.nt.big))
         replace HT:=Lib.hid (HT.out.below hb)
         clear hb
         obtain⟨wdy,ewd⟩:∃z,z=V.drew:=⟨_,rfl⟩
         refine Reg.any_begin (fun w'=>Blk w' G 34 zc) 9 rfl (by kernel_rfl) HG.out ?_
         rw[←ewd] at HG HT HB⊢
         clear ewd
         refine Reg.tk 0 (v:=?vy49) rfl HG.out (fun w' hS=>?hy49) ?ry49
         case hy49=>go_simp<;>rfl
         simp only[Act.put,Reg.s0,Reg.s1,Reg.s2]
         refine Reg.tk 1 (v:=?vy50) rfl HG.out (fun w' hS=>?hy50) ?ry50
         case hy50=>go_simp<;>rfl
         simp only[Act.put,Reg.s0,Reg.s1,Reg.s2]
         refine Reg.tk 2 (v:=.int .i64 x.n) rfl HG.out (fun w' hS=>?hy51) ?ry51
         case hy51=>have kt:=(HAC.out w' G hS).2.2;(go_simp<;>rfl)
         simp only[Act.put,Reg.s0,Reg.s1,Reg.s2]
         refine Reg.tk 4 (v:=?vy52) rfl HG.out (fun w' hS=>?hy52) ?ry52
         case hy52=>go_simp<;>rfl
         simp only[Act.put,Reg.s0,Reg.s1,Reg.s2]
         refine Reg.tk 5 (v:=?vy53) rfl HG.out (fun w' hS=>?hy53) ?ry53
         case hy53=>go_simp<;>rfl
         simp only[Act.put,Reg.s0,Reg.s1,Reg.s2]
         refine Reg.tk 6 (v:=.int .i64 x.n) rfl HG.out (fun w' hS=>?hy54) ?ry54
         case hy54=>have kt:=(HAC.out w' G hS).2.2;(go_simp<;>rfl)
         simp only[Act.put,Reg.s0,Reg.s1,Reg.s2]
         refine Reg.both_all [3] (by kernel_rfl) (by simp) ?_
         intro j0 hj0
         obtain rfl:j0=3:=by simpa using hj0
         clear hj0
         right
         refine⟨_,_,_,_,_,_,15,#[.pointer (some ⟨r,0,none⟩),.int .i64 x.n],rfl,by rfl,(by go_simp<;>first | rfl | exact⟨rfl,rfl⟩),?_⟩
         refine Calls.mono (twice_no B r vs vw es ws x.n _ HT.out.nt hok) ?_
         rintro e wy55 ⟨rfl,hw⟩
         have hw:=hw.symm
         subst hw
         refine⟨_,rfl,HG.out,?_⟩
         simp only[Act.put,Reg.s0,Reg.s1,Reg.s2]
         refine Reg.both_all [7] (by kernel_rfl) (by simp) ?_
         intro j0 hj0
         obtain rfl:j0=7:=by simpa using hj0
         clear hj0
         right
         refine⟨_,_,_,_,_,_,16,#[.pointer (some ⟨q,0,none⟩),.int .i64 x.n],rfl,by rfl,(by go_simp<;>first | rfl | exact⟨rfl,rfl⟩),?_⟩
         refine Calls.mono (dtwice_no B q dvs dvw ss ls x.n _ HT.out.dn (by rw[HPS.out.len];exact hok)) ?_
         rintro e wy56 ⟨rfl,hb⟩
         replace HG:=Lib.hid (HG.out.below hb)
         replace HB:=Lib.hid (HB.out.trans (hb.mono HT.out.nt.big))
         replace HT:=Lib.hid (HT.out.below hb)
         clear hb
         refine⟨_,rfl,HG.out,?_⟩
         simp only[Act.put,Reg.s0,Reg.s1,Reg.s2]
         refine Reg.tk 8 (v:=?vy57) rfl HG.out (fun w' hS=>?hy57) ?ry57
         case hy57=>go_simp<;>rfl
         simp only[Act.put,Reg.s0,Reg.s1,Reg.s2]
         refine wpAnyH_done (by kernel_rfl) ?_ _
         go_upto_region 26 with fail
         have HPS2:=Lib.hid (HPS.out.step)
         obtain⟨AL,cL,elv,_⟩:=HT.out.dn.num2
         obtain⟨nL,enl⟩:∃nL,nL=(ls).length:=⟨_,rfl⟩
         rw[←enl] at elv
         have ELV:=Lib.hid elv
         have hlen:(ws).length=nL:=by rw[enl,HPS2.out.len]
         clear elv enl
         have hb:Below wy56.heap.size wy56 wy56.drew:=below_drewN (Below.refl _ _) 1
         replace HG:=Lib.hid (HG.out.below hb)
         replace HB:=Lib.hid (HB.out.trans (hb.mono HT.out.nt.big))
         replace HT:=Lib.hid (HT.out.below hb)
         clear hb
         obtain⟨wdz,ewd⟩:∃z,z=wy56.drew:=⟨_,rfl⟩
         refine Reg.any_begin (fun w'=>w'.cell? ⟨q,0,none⟩=some (.slice AL nL cL)) 8 rfl (by kernel_rfl) (by rw[←ELV.out];exact HT.out.dn.c0) ?_
         rw[←ewd] at HG HT HB⊢
         clear ewd
         refine Reg.tk 0 (v:=?vz58) rfl (by rw[←ELV.out];exact HT.out.dn.c0) (fun w' hS=>?hz58) ?rz58
         case hz58=>go_simp<;>rfl
         simp only[Act.put,Reg.s0,Reg.s1,Reg.s2]
         refine Reg.tk 2 (v:=?vz59) rfl (by rw[←ELV.out];exact HT.out.dn.c0) (fun w' hS=>?hz59) ?rz59
         case hz59=>go_simp<;>rfl
         simp only[Act.put,Reg.s0,Reg.s1,Reg.s2]
         refine Reg.tk 3 (v:=?vz60) rfl (by rw[←ELV.out];exact HT.out.dn.c0) (fun w' hS=>?hz60) ?rz60
         case hz60=>go_simp<;>rfl
         simp only[Act.put,Reg.s0,Reg.s1,Reg.s2]
         refine Reg.tk 4 (v:=?vz61) rfl (by rw[←ELV.out];exact HT.out.dn.c0) (fun w' hS=>?hz61) ?rz61
         case hz61=>go_simp<;>rfl
         simp only[Act.put,Reg.s0,Reg.s1,Reg.s2]
         refine Reg.tk 5 (v:=?vz62) rfl (by rw[←ELV.out];exact HT.out.dn.c0) (fun w' hS=>?hz62) ?rz62
         case hz62=>go_simp<;>rfl
         simp only[Act.put,Reg.s0,Reg.s1,Reg.s2]
         refine Reg.tk 6 (v:=?vz63) rfl (by rw[←ELV.out];exact HT.out.dn.c0) (fun w' hS=>?hz63) ?rz63
         case hz63=>go_simp<;>rfl
         simp only[Act.put,Reg.s0,Reg.s1,Reg.s2]
         refine Reg.both_all [1] (by kernel_rfl) (by simp) ?_
         intro j0 hj0
         obtain rfl:j0=1:=by simpa using hj0
         clear hj0
         right
         refine⟨_,_,_,_,_,_,19,#[.pointer (some ⟨r,0,none⟩)],rfl,by rfl,(by go_simp<;>first | rfl | exact⟨rfl,rfl⟩),?_⟩
         refine Calls.mono (nt_len _ _ _ _ _ _ _ HT.out.nt) ?_
         rintro e wl ⟨rfl,hw⟩
         have hw:=hw.symm
         subst hw
         rw[hlen]
         refine⟨_,rfl,(by rw[←ELV.out];exact HT.out.dn.c0),?_⟩
         simp only[Act.put,Reg.s0,Reg.s1,Reg.s2]
         refine Reg.tk 7 (v:=?vz64) rfl (by rw[←ELV.out];exact HT.out.dn.c0) (fun w' hS=>?hz64) ?rz64
         case hz64=>go_simp<;>rfl
         simp only[Act.put,Reg.s0,Reg.s1,Reg.s2]
         refine wpAnyH_done (by kernel_rfl) ?_ _
         clear hlen
         go_wp2
         go_roundw
         case rel=>exact⟨i+1,vs,vw,dvs,dvw,es,ss,ls,ws,by omega,by omega,by go_num,HB.out,HT.out,HPS2.out⟩
         case measure=>simp [intOf];omega
       ·have d3:(x.k==3)=false:=by simpa using k3
        have HTD:=Lib.hid (fun(k:Nat) (hk:DO q dvs dvw ss k)=>HT.out.dn.own_lt hk)
        by_cases hin:hasB ws.length x.n=true
        ·skip
         obtain⟨j,hj⟩:∃j:Nat,x.n=(j:Int):=⟨x.n.toNat,by unfold hasB at hin;simp at hin;omega⟩
         have hjl:j<ws.length:=by unfold hasB at hin;simp at hin;omega
         obtain⟨k,y,z,hk,hy,hzl,hzy,hyl,hzs⟩:=HPS.out.at_ hjl
         have HNJ:=Lib.hid hj
         have HK:=Lib.hid hk;have HY:=Lib.hid hy;have HZL:=Lib.hid hzl;have HZY:=Lib.hid hzy;have HYL:=Lib.hid hyl;have HZM:=Lib.hid hzs
         rw[hj] at kn
         clear hin hj hjl hk hy hzl hzy hyl hzs
         go_upto_region 26 with(first
          |(go_at_call 17;refine Calls.mono (at_ok B r vs vw es ws j k y _ HT.out.nt HK.out HY.out (by have:=HYL.out;omega)) ?_;rintro e w3 ⟨A2,c2,rfl,ho,hb⟩;clear kn ka;have HO:=Lib.hid ho;replace HB:=Lib.hid (HB.out.trans (hb.mono HT.out.nt.big));replace HG:=Lib.hid (HG.out.below hb);replace HT:=Lib.hid (HT.out.below hb);clear hb;obtain⟨ys,eys⟩:∃ys,ys=pkA y.p A2 c2:=⟨_,rfl⟩;rw[←eys];have EYS:=Lib.hid eys;have HYS:=Lib.hid (show ys.size=3 by rw[eys];rfl);have HYI:=Lib.hid (show(Try.prog.info? 32).map (·.size)=some ys.size by rw[eys];exact pk_info);have HY1:=Lib.hid (show ys.all (·.oneCell')=true by rw[eys];exact pkA_one _ _ _);clear eys ho)
          |(refine Wh.store_new (by rfl) 32 (.tmp 11) (.tmp 45) (by rfl) 32 rfl ys (by rfl) (by rfl) (by rw[HYS.out];rfl) HYI.out HY1.out ?_;rintro V1 hV hb;have HP1:=Lib.hid hV;have HNP1:=Lib.hid (HT.out.nei (Nat.le_refl w3.heap.size));replace HB:=Lib.hid (HB.out.trans (hb.mono HT.out.nt.big));replace HG:=Lib.hid (HG.out.below hb);replace HT:=Lib.hid (HT.out.below hb);replace HO:=Lib.hid (HO.out.below hb);have kn:=(HAC.out _ G HG.out).2.2;rw[HNJ.out] at kn;clear hV hb)
          |(go_at_call 18;refine Calls.mono (dat_ok B q dvs dvw ss ls j z _ HT.out.dn HZL.out) ?_;rintro e w4 ⟨rfl,hb⟩;clear kn;replace HO:=Lib.hid (HO.out.below hb);replace HP1:=Lib.hid (HP1.out.below hb);replace HB:=Lib.hid (HB.out.trans (hb.mono HT.out.nt.big));replace HT:=Lib.hid (HT.out.below hb);clear hb;obtain⟨us,eus⟩:∃us,us=pkA z.p z.A z.c:=⟨_,rfl⟩;rw[←eus];have EUS:=Lib.hid eus;have HUS:=Lib.hid (show us.size=3 by rw[eus];rfl);have HUI:=Lib.hid (show(Try.prog.info? 32).map (·.size)=some us.size by rw[eus];exact pk_info);have HU1:=Lib.hid (show us.all (·.oneCell')=true by rw[eus];exact pkA_one _ _ _);clear eus HG HNP1)
          |(refine Wh.store_new (by rfl) 32 (.tmp 13) (.tmp 52) (by rfl) 32 rfl us (by rfl) (by rfl) (by rw[HUS.out];rfl) HUI.out HU1.out ?_;rintro V2 hV hb;have HP2:=Lib.hid hV;replace HP1:=Lib.hid (HP1.out.below hb);replace HB:=Lib.hid (HB.out.trans (hb.mono HT.out.nt.big));replace HT:=Lib.hid (HT.out.below hb);replace HO:=Lib.hid (HO.out.below hb);have CSM:=Lib.hid (show Calls Try.prog 14 #[.agg ys,.agg us] V2 _ by rw[EYS.out,EUS.out];exact same_pk _ _ _ _ _ _ V2 HZY.out.symm HO.out.rd (HT.out.dn.rd z HZM.out));clear hV hb)
          |(refine Wh.load_g (by rfl) 32 (.tmp 11) (by rfl) _ 0 (by rfl) ys _ (Wh.range_blk HP1.out) Try.underlying32 (by rfl) HYI.out ?_)
          |(refine Wh.load_g (by rfl) 32 (.tmp 13) (by rfl) _ 0 (by rfl) us _ (Wh.range_blk HP2.out) Try.underlying32 (by rfl) HUI.out ?_)
          |(go_at_call 14;refine Calls.mono CSM.out ?_;rintro e w5 ⟨rfl,hb⟩;clear CSM;replace HB:=Lib.hid (HB.out.trans (hb.mono HT.out.nt.big));replace HT:=Lib.hid (HT.out.below hb);clear hb)
          |fail)
         clear HP1 HP2
         have HPS2:=Lib.hid (HPS.out.step)
         obtain⟨AL,cL,elv,_⟩:=HT.out.dn.num2
         obtain⟨nL,enl⟩:∃nL,nL=(ls).length:=⟨_,rfl⟩
         rw[←enl] at elv
         have ELV:=Lib.hid elv
         have hlen:(ws).length=nL:=by rw[enl,HPS2.out.len]
         clear elv enl
         have hb:Below w5.heap.size w5 w5.drew:=below_drewN (Below.refl _ _) 1
         replace HB:=Lib.hid (HB.out.trans (hb.mono HT.out.nt.big))
         replace HT:=Lib.hid (HT.out.below hb)
         clear hb
         obtain⟨wdz,ewd⟩:∃z,z=w5.drew:=⟨_,rfl⟩
         refine Reg.any_begin (fun w'=>w'.cell? ⟨q,0,none⟩=some (.slice AL nL cL)) 8 rfl (by kernel_rfl) (by rw[←ELV.out];exact HT.out.dn.c0) ?_
         rw[←ewd] at HT HB⊢
         clear ewd
         refine Reg.tk 0 (v:=?vz79) rfl (by rw[←ELV.out];exact HT.out.dn.c0) (fun w' hS=>?hz79) ?rz79
         case hz79=>go_simp<;>rfl
         simp only[Act.put,Reg.s0,Reg.s1,Reg.s2]
         refine Reg.tk 2 (v:=?vz80) rfl (by rw[←ELV.out];exact HT.out.dn.c0) (fun w' hS=>?hz80) ?rz80
         case hz80=>go_simp<;>rfl
         simp only[Act.put,Reg.s0,Reg.s1,Reg.s2]
         refine Reg.tk 3 (v:=?vz81) rfl (by rw[←ELV.out];exact HT.out.dn.c0) (fun w' hS=>?hz81) ?rz81
         case hz81=>go_simp<;>rfl
         simp only[Act.put,Reg.s0,Reg.s1,Reg.s2]
         refine Reg.tk 4 (v:=?vz82) rfl (by rw[←ELV.out];exact HT.out.dn.c0) (fun w' hS=>?hz82) ?rz82
         case hz82=>go_simp<;>rfl
         simp only[Act.put,Reg.s0,Reg.s1,Reg.s2]
         refine Reg.tk 5 (v:=?vz83) rfl (by rw[←ELV.out];exact HT.out.dn.c0) (fun w' hS=>?hz83) ?rz83
         case hz83=>go_simp<;>rfl
         simp only[Act.put,Reg.s0,Reg.s1,Reg.s2]
         refine Reg.tk 6 (v:=?vz84) rfl (by rw[←ELV.out];exact HT.out.dn.c0) (fun w' hS=>?hz84) ?rz84
         case hz84=>go_simp<;>rfl
         simp only[Act.put,Reg.s0,Reg.s1,Reg.s2]
         refine Reg.both_all [1] (by kernel_rfl) (by simp) ?_
         intro j0 hj0
         obtain rfl:j0=1:=by simpa using hj0
         clear hj0
         right
         refine⟨_,_,_,_,_,_,19,#[.pointer (some ⟨r,0,none⟩)],rfl,by rfl,(by go_simp<;>first | rfl | exact⟨rfl,rfl⟩),?_⟩
         refine Calls.mono (nt_len _ _ _ _ _ _ _ HT.out.nt) ?_
         rintro e wl ⟨rfl,hw⟩
         have hw:=hw.symm
         subst hw
         rw[hlen]
         refine⟨_,rfl,(by rw[←ELV.out];exact HT.out.dn.c0),?_⟩
         simp only[Act.put,Reg.s0,Reg.s1,Reg.s2]
         refine Reg.tk 7 (v:=?vz85) rfl (by rw[←ELV.out];exact HT.out.dn.c0) (fun w' hS=>?hz85) ?rz85
         case hz85=>go_simp<;>rfl
         simp only[Act.put,Reg.s0,Reg.s1,Reg.s2]
         refine wpAnyH_done (by kernel_rfl) ?_ _
         clear hlen
         go_wp2
         go_roundw
         case rel=>exact⟨i+1,vs,vw,dvs,dvw,es,ss,ls,ws,by omega,by omega,by go_num,HB.out,HT.out,HPS2.out⟩
         case measure=>simp [intOf];omega
        ·have hno:hasB ws.length x.n=false:=by simpa using hin
         clear hin
         go_upto_region 26 with(first
          |(go_at_call 17;refine Calls.mono (at_no B r vs vw es ws x.n _ HT.out.nt hno) ?_;rintro e w3 ⟨rfl,hb⟩;clear kn ka;replace HB:=Lib.hid (HB.out.trans (hb.mono HT.out.nt.big));replace HG:=Lib.hid (HG.out.below hb);replace HT:=Lib.hid (HT.out.below hb);clear hb;obtain⟨ys,eys⟩:∃ys,ys=pkA pk0 none 0:=⟨_,rfl⟩;rw[←eys];have EYS:=Lib.hid eys;have HYS:=Lib.hid (show ys.size=3 by rw[eys];rfl);have HYI:=Lib.hid (show(Try.prog.info? 32).map (·.size)=some ys.size by rw[eys];exact pk_info);have HY1:=Lib.hid (show ys.all (·.oneCell')=true by rw[eys];exact pkA_one _ _ _);clear eys)
          |(refine Wh.store_new (by rfl) 32 (.tmp 11) (.tmp 45) (by rfl) 32 rfl ys (by rfl) (by rfl) (by rw[HYS.out];rfl) HYI.out HY1.out ?_;rintro V1 hV hb;have HP1:=Lib.hid hV;have HNP1:=Lib.hid (HT.out.nei (Nat.le_refl w3.heap.size));replace HB:=Lib.hid (HB.out.trans (hb.mono HT.out.nt.big));replace HG:=Lib.hid (HG.out.below hb);replace HT:=Lib.hid (HT.out.below hb);have kn:=(HAC.out _ G HG.out).2.2;clear hV hb)
          |(go_at_call 18;refine Calls.mono (dat_no B q dvs dvw ss ls x.n _ HT.out.dn (by rw[HPS.out.len];exact hno)) ?_;rintro e w4 ⟨rfl,hb⟩;clear kn;replace HP1:=Lib.hid (HP1.out.below hb);replace HB:=Lib.hid (HB.out.trans (hb.mono HT.out.nt.big));replace HT:=Lib.hid (HT.out.below hb);clear hb;obtain⟨us,eus⟩:∃us,us=pkA pk0 none 0:=⟨_,rfl⟩;rw[←eus];have EUS:=Lib.hid eus;have HUS:=Lib.hid (show us.size=3 by rw[eus];rfl);have HUI:=Lib.hid (show(Try.prog.info? 32).map (·.size)=some us.size by rw[eus];exact pk_info);have HU1:=Lib.hid (show us.all (·.oneCell')=true by rw[eus];exact pkA_one _ _ _);clear eus HG HNP1)
          |(refine Wh.store_new (by rfl) 32 (.tmp 13) (.tmp 52) (by rfl) 32 rfl us (by rfl) (by rfl) (by rw[HUS.out];rfl) HUI.out HU1.out ?_;rintro V2 hV hb;have HP2:=Lib.hid hV;replace HP1:=Lib.hid (HP1.out.below hb);replace HB:=Lib.hid (HB.out.trans (hb.mono HT.out.nt.big));replace HT:=Lib.hid (HT.out.below hb);have CSM:=Lib.hid (show Calls Try.prog 14 #[.agg ys,.agg us] V2 _ by rw[EYS.out,EUS.out];exact same_pk _ _ _ _ _ _ V2 rfl (.inl rfl) (.inl rfl));clear hV hb)
          |(refine Wh.load_g (by rfl) 32 (.tmp 11) (by rfl) _ 0 (by rfl) ys _ (Wh.range_blk HP1.out) Try.underlying32 (by rfl) HYI.out ?_)
          |(refine Wh.load_g (by rfl) 32 (.tmp 13) (by rfl) _ 0 (by rfl) us _ (Wh.range_blk HP2.out) Try.underlying32 (by rfl) HUI.out ?_)
          |(go_at_call 14;refine Calls.mono CSM.out ?_;rintro e w5 ⟨rfl,hb⟩;clear CSM;replace HB:=Lib.hid (HB.out.trans (hb.mono HT.out.nt.big));replace HT:=Lib.hid (HT.out.below hb);clear hb)
          |fail)
         clear HP1 HP2
         have HPS2:=Lib.hid (HPS.out.step)
         obtain⟨AL,cL,elv,_⟩:=HT.out.dn.num2
         obtain⟨nL,enl⟩:∃nL,nL=(ls).length:=⟨_,rfl⟩
         rw[←enl] at elv
         have ELV:=Lib.hid elv
         have hlen:(ws).length=nL:=by rw[enl,HPS2.out.len]
         clear elv enl
         have hb:Below w5.heap.size w5 w5.drew:=below_drewN (Below.refl _ _) 1
         replace HB:=Lib.hid (HB.out.trans (hb.mono HT.out.nt.big))
         replace HT:=Lib.hid (HT.out.below hb)
         clear hb
         obtain⟨wdz,ewd⟩:∃z,z=w5.drew:=⟨_,rfl⟩
         refine Reg.any_begin (fun w'=>w'.cell? ⟨q,0,none⟩=some (.slice AL nL cL)) 8 rfl (by kernel_rfl) (by rw[←ELV.out];exact HT.out.dn.c0) ?_
         rw[←ewd] at HT HB⊢
         clear ewd
         refine Reg.tk 0 (v:=?vz86) rfl (by rw[←ELV.out];exact HT.out.dn.c0) (fun w' hS=>?hz86) ?rz86
         case hz86=>go_simp<;>rfl
         simp only[Act.put,Reg.s0,Reg.s1,Reg.s2]
         refine Reg.tk 2 (v:=?vz87) rfl (by rw[←ELV.out];exact HT.out.dn.c0) (fun w' hS=>?hz87) ?rz87
         case hz87=>go_simp<;>rfl
         simp only[Act.put,Reg.s0,Reg.s1,Reg.s2]
         refine Reg.tk 3 (v:=?vz88) rfl (by rw[←ELV.out];exact HT.out.dn.c0) (fun w' hS=>?hz88) ?rz88
         case hz88=>go_simp<;>rfl
         simp only[Act.put,Reg.s0,Reg.s1,Reg.s2]
         refine Reg.tk 4 (v:=?vz89) rfl (by rw[←ELV.out];exact HT.out.dn.c0) (fun w' hS=>?hz89) ?rz89
         case hz89=>go_simp<;>rfl
         simp only[Act.put,Reg.s0,Reg.s1,Reg.s2]
         refine Reg.tk 5 (v:=?vz90) rfl (by rw[←ELV.out];exact HT.out.dn.c0) (fun w' hS=>?hz90) ?rz90
         case hz90=>go_simp<;>rfl
         simp only[Act.put,Reg.s0,Reg.s1,Reg.s2]
         refine Reg.tk 6 (v:=?vz91) rfl (by rw[←ELV.out];exact HT.out.dn.c0) (fun w' hS=>?hz91) ?rz91
         case hz91=>go_simp<;>rfl
         simp only[Act.put,Reg.s0,Reg.s1,Reg.s2]
         refine Reg.both_all [1] (by kernel_rfl) (by simp) ?_
         intro j0 hj0
         obtain rfl:j0=1:=by simpa using hj0
         clear hj0
         right
         refine⟨_,_,_,_,_,_,19,#[.pointer (some ⟨r,0,none⟩)],rfl,by rfl,(by go_simp<;>first | rfl | exact⟨rfl,rfl⟩),?_⟩
         refine Calls.mono (nt_len _ _ _ _ _ _ _ HT.out.nt) ?_
         rintro e wl ⟨rfl,hw⟩
         have hw:=hw.symm
         subst hw
         rw[hlen]
         refine⟨_,rfl,(by rw[←ELV.out];exact HT.out.dn.c0),?_⟩
         simp only[Act.put,Reg.s0,Reg.s1,Reg.s2]
         refine Reg.tk 7 (v:=?vz92) rfl (by rw[←ELV.out];exact HT.out.dn.c0) (fun w' hS=>?hz92) ?rz92
         case hz92=>go_simp<;>rfl
         simp only[Act.put,Reg.s0,Reg.s1,Reg.s2]
         refine wpAnyH_done (by kernel_rfl) ?_ _
         clear hlen
         go_wp2
         go_roundw
         case rel=>exact⟨i+1,vs,vw,dvs,dvw,es,ss,ls,ws,by omega,by omega,by go_num,HB.out,HT.out,HPS2.out⟩
         case measure=>simp [intOf];omega
    ·obtain rfl:i=80:=by omega
     have e3:(80:Int)<(n:Int):=by omega
     clear hlt
     have HNB:=Lib.hid (show es.length≤80 from Nat.le_trans HPS.out.el hi8)
     have CSE:=Lib.hid (seen_any B r vs vw es ws _ HT.out.nt HPS.out.sz (by have:=HPS.out.el;omega))
     obtain⟨AS,cS,esv,_,_,hrS⟩:=HT.out.dn.num
     obtain⟨nS,ens⟩:∃nS,nS=ss.length:=⟨_,rfl⟩
     rw[←ens] at esv
     have ESV:=Lib.hid esv
     have ENS:=Lib.hid ens
     have HLS0:=Lib.hid (show es.length=nS by rw[ens,HPS.out.slen])
     clear esv ens hrS
     go_upto_region 29 with(first
      |(go_at_call 20;refine Calls.mono CSE.out ?_;rintro e w6 ⟨v6,fs,rfl,hls,hfs,hb⟩;clear CSE;have HLS:=Lib.hid hls;have HFS:=Lib.hid hfs;obtain⟨A6,c6,e6⟩:=ls_num hls hfs HLS0.out;replace HB:=Lib.hid (HB.out.trans (hb.mono HT.out.nt.big));replace HT:=Lib.hid (HT.out.below hb);have E6:=Lib.hid e6;have kq:=(ESV.out▸HT.out.dn.c1:w6.cell? ⟨q,1,none⟩=some (.slice AS nS cS));clear hls hfs hb)
      |fail)
     subst e6
     go_wp2
     clear kq
     go_loopw [16] (fun iv wx=>∃j:Nat,j≤nS∧iv = .int .i64 (j:Int)∧Below B w wx∧Two wx B r vs vw es ws q dvs dvw ss ls∧∃a:World,Ls a wx (.slice A6 nS c6) fs) (fun iv _=>nS - (intOf iv).toNat)
     case atStart=>exact⟨0,Nat.zero_le _,rfl,HB.out,HT.out,_,HLS.out⟩
     case round=>
      clear HB HT HLS
      obtain⟨j,hj,rfl,hb,ht,a0,hls⟩:=hrel
      have HB:=Lib.hid hb;have HT:=Lib.hid ht;have HLS:=Lib.hid hls
      clear hb ht hls
      by_cases hjn:j<nS
      ·have f1:(j:Int)<(nS:Int):=by omega
       have f2:(0:Int)≤(j:Int):=by omega
       have f3:(j:Int)<100:=by have:=HNB.out;have:=HLS0.out;omega
       obtain⟨z,hz⟩:∃z,ss[j]? = some z:=⟨ss[j]'(by rw[←ENS.out];exact hjn),List.getElem?_eq_getElem _⟩
       obtain⟨f,hf⟩:∃f,fs[j]? = some f:=⟨fs[j]'(by have:=congrArg List.length HFS.out;rw[pks_length,pks_length,HLS0.out] at this;omega),List.getElem?_eq_getElem _⟩
       have hfz:f.p=z.p:=by
        have h1:(pks fs)[j]? = some f.p:=by simp [pks,hf]
        have h2:(pks ss)[j]? = some z.p:=by simp [pks,hz]
        rw[HPS.out.pss] at h2
        rw[HFS.out,h2] at h1
        injection h1 with h1
        exact h1.symm
       obtain⟨xf,exf⟩:∃xf,xf=pkA f.p f.A f.c:=⟨_,rfl⟩
       obtain⟨xz,exz⟩:∃xz,xz=pkA z.p z.A z.c:=⟨_,rfl⟩
       have HFI:=Lib.hid (show(Try.prog.info? 32).map (·.size)=some xf.size by rw[exf];exact pk_info)
       have HZI:=Lib.hid (show(Try.prog.info? 32).map (·.size)=some xz.size by rw[exz];exact pk_info)
       have CSM:=Lib.hid (show ∀w1,Two w1 B r vs vw es ws q dvs dvw ss ls→Ls a0 w1 (.slice A6 nS c6) fs→Calls Try.prog 14 #[.agg xf,.agg xz] w1 _ from fun w1 h1 h2=>by rw[exf,exz];exact same_pk _ _ _ _ _ _ w1 hfz (h2.rd f (List.mem_of_getElem? hf)).rd (h1.dn.rd z (List.mem_of_getElem? hz)))
       obtain⟨B6,c7,e7,_,_,hr6⟩:=own_rdr enC_length HLS.out.row
       injection e7 with e7 _ _
       subst e7
       obtain⟨g6,rfl,_,_⟩:=hr6.at_ hf
       obtain⟨BS,cS2,e8,_,_,hrS⟩:=HT.out.dn.num
       rw[ESV.out] at e8
       injection e8 with e8 _ _
       subst e8
       obtain⟨gS,rfl,_,_⟩:=hrS.at_ hz
       have HS6:=Lib.hid (show ∀w1,Two w1 B r vs vw es ws q dvs dvw ss ls→Ls a0 w1 (.slice (some ⟨g6,0,none⟩) nS c6) fs→w1.cell? ⟨q,1,none⟩=some (.slice (some ⟨gS,0,none⟩) nS cS)∧w1.rangeAt g6 (j*3) xf.toList∧w1.rangeAt gS (j*3) xz.toList from fun w1 h1 h2=>by
        refine⟨ESV.out▸h1.dn.c1,?_,?_⟩
        ·obtain⟨B9,c9,e9,_,_,hr9⟩:=own_rdr enC_length h2.row
         injection e9 with e9 _ _
         subst e9
         obtain⟨g9,e9,_,hra⟩:=hr9.at_ hf
         injection e9 with e9
         injection e9 with e9
         rw[e9,exf];exact hra
        ·obtain⟨B9,c9,e9,_,_,hr9⟩:=h1.dn.num
         rw[ESV.out] at e9
         injection e9 with e9 _ _
         subst e9
         obtain⟨g9,e9,_,hra⟩:=hr9.at_ hz
         injection e9 with e9
         injection e9 with e9
         rw[e9,exz];exact hra)
       clear hz hf hfz exf exz hr6 hrS
       go_upto_region 34 with fail
       have hb:Below wr.heap.size wr wr.drew:=below_drewN (Below.refl _ _) 1
       replace HLS:=Lib.hid (HLS.out.below hb)
       replace HB:=Lib.hid (HB.out.trans (hb.mono HT.out.nt.big))
       replace HT:=Lib.hid (HT.out.below hb)
       clear hb
       obtain⟨wds,ewd⟩:∃z,z=wr.drew:=⟨_,rfl⟩
       refine Reg.any_begin (fun w'=>w'.cell? ⟨q,1,none⟩=some (.slice (some ⟨gS,0,none⟩) nS cS)∧w'.rangeAt g6 (j*3) xf.toList∧w'.rangeAt gS (j*3) xz.toList) 13 rfl (by kernel_rfl) (HS6.out _ HT.out HLS.out) ?_
       rw[←ewd] at HT HLS HB⊢
       clear ewd
       refine Reg.tk 0 (v:=?vs93) rfl (HS6.out _ HT.out HLS.out) (fun w' hS=>?hs93) ?rs93
       case hs93=>go_simp<;>rfl
       simp only[Act.put,Reg.s0,Reg.s1,Reg.s2]
       refine Reg.tk 1 (v:=?vs94) rfl (HS6.out _ HT.out HLS.out) (fun w' hS=>?hs94) ?rs94
       case hs94=>go_simp<;>rfl
       simp only[Act.put,Reg.s0,Reg.s1,Reg.s2]
       refine Reg.tk 2 (v:=?vs95) rfl (HS6.out _ HT.out HLS.out) (fun w' hS=>?hs95) ?rs95
       case hs95=>go_simp<;>rfl
       simp only[Act.put,Reg.s0,Reg.s1,Reg.s2]
       refine Reg.tk 3 (v:=.agg xf) rfl (HS6.out _ HT.out HLS.out) (fun w' hS=>?hs96) ?rs96
       case hs96=>obtain⟨q1,q2,q3⟩:=hS;exact exec_load_mid (.tmp 136) rfl q2 Try.underlying32 rfl HFI.out
       simp only[Act.put,Reg.s0,Reg.s1,Reg.s2]
       refine Reg.tk 4 (v:=?vs97) rfl (HS6.out _ HT.out HLS.out) (fun w' hS=>?hs97) ?rs97
       case hs97=>go_simp<;>rfl
       simp only[Act.put,Reg.s0,Reg.s1,Reg.s2]
       refine Reg.tk 5 (v:=?vs98) rfl (HS6.out _ HT.out HLS.out) (fun w' hS=>?hs98) ?rs98
       case hs98=>go_simp<;>rfl
       simp only[Act.put,Reg.s0,Reg.s1,Reg.s2]
       refine Reg.tk 6 (v:=?vs99) rfl (HS6.out _ HT.out HLS.out) (fun w' hS=>?hs99) ?rs99
       case hs99=>go_simp<;>rfl
       simp only[Act.put,Reg.s0,Reg.s1,Reg.s2]
       refine Reg.tk 7 (v:=?vs100) rfl (HS6.out _ HT.out HLS.out) (fun w' hS=>?hs100) ?rs100
       case hs100=>obtain⟨q1,q2,q3⟩:=hS;(go_simp<;>rfl)
       simp only[Act.put,Reg.s0,Reg.s1,Reg.s2]
       refine Reg.tk 8 (v:=?vs101) rfl (HS6.out _ HT.out HLS.out) (fun w' hS=>?hs101) ?rs101
       case hs101=>go_simp<;>rfl
       simp only[Act.put,Reg.s0,Reg.s1,Reg.s2]
       refine Reg.tk 9 (v:=?vs102) rfl (HS6.out _ HT.out HLS.out) (fun w' hS=>?hs102) ?rs102
       case hs102=>go_simp<;>rfl
       simp only[Act.put,Reg.s0,Reg.s1,Reg.s2]
       refine Reg.tk 10 (v:=.agg xz) rfl (HS6.out _ HT.out HLS.out) (fun w' hS=>?hs103) ?rs103
       case hs103=>obtain⟨q1,q2,q3⟩:=hS;exact exec_load_mid (.tmp 143) rfl q3 Try.underlying32 rfl HZI.out
       simp only[Act.put,Reg.s0,Reg.s1,Reg.s2]
       refine Reg.both_all [11] (by kernel_rfl) (by simp) ?_
       intro j0 hj0
       obtain rfl:j0=11:=by simpa using hj0
       clear hj0
       right
       refine⟨_,_,_,_,_,_,14,#[.agg xf,.agg xz],rfl,by rfl,(by go_simp<;>first | rfl | exact⟨rfl,rfl⟩),?_⟩
       refine Calls.mono (CSM.out _ HT.out HLS.out) ?_
       rintro e ws104 ⟨rfl,hb⟩
       replace HLS:=Lib.hid (HLS.out.below hb)
       replace HB:=Lib.hid (HB.out.trans (hb.mono HT.out.nt.big))
       replace HT:=Lib.hid (HT.out.below hb)
       clear hb
       refine⟨_,rfl,(HS6.out _ HT.out HLS.out),?_⟩
       simp only[Act.put,Reg.s0,Reg.s1,Reg.s2]
       refine Reg.tk 12 (v:=?vs105) rfl (HS6.out _ HT.out HLS.out) (fun w' hS=>?hs105) ?rs105
       case hs105=>go_simp<;>rfl
       simp only[Act.put,Reg.s0,Reg.s1,Reg.s2]
       refine wpAnyH_done (by kernel_rfl) ?_ _
       go_wp2
       go_roundw
       case rel=>exact⟨j+1,by omega,by go_num,HB.out,HT.out,_,HLS.out⟩
       case measure=>simp [intOf];omega
      ·have f1:¬(j:Int)<(nS:Int):=by omega
       obtain rfl:nS=j:=by omega
       go_wp2_with (first
        |(go_at_call 21;refine Calls.mono (CK.out _) ?_;rintro e w9 ⟨rfl,hb⟩;replace HB:=Lib.hid (HB.out.trans (hb.mono HT.out.nt.big));clear hb)
        |fail)
       go_ret
       exact⟨rfl,by have h:=HB.out;rw[EB.out] at h;exact h⟩
   ·have e1:decide ((i:Int)<(n:Int))=false:=by simp;omega
    have HNB:=Lib.hid (show es.length≤80 from Nat.le_trans HPS.out.el hi8)
    have CSE:=Lib.hid (seen_any B r vs vw es ws _ HT.out.nt HPS.out.sz (by have:=HPS.out.el;omega))
    obtain⟨AS,cS,esv,_,_,hrS⟩:=HT.out.dn.num
    obtain⟨nS,ens⟩:∃nS,nS=ss.length:=⟨_,rfl⟩
    rw[←ens] at esv
    have ESV:=Lib.hid esv
    have ENS:=Lib.hid ens
    have HLS0:=Lib.hid (show es.length=nS by rw[ens,HPS.out.slen])
    clear esv ens hrS
    go_upto_region 29 with(first
     |(go_at_call 20;refine Calls.mono CSE.out ?_;rintro e w6 ⟨v6,fs,rfl,hls,hfs,hb⟩;clear CSE;have HLS:=Lib.hid hls;have HFS:=Lib.hid hfs;obtain⟨A6,c6,e6⟩:=ls_num hls hfs HLS0.out;replace HB:=Lib.hid (HB.out.trans (hb.mono HT.out.nt.big));replace HT:=Lib.hid (HT.out.below hb);have E6:=Lib.hid e6;have kq:=(ESV.out▸HT.out.dn.c1:w6.cell? ⟨q,1,none⟩=some (.slice AS nS cS));clear hls hfs hb)
     |fail)
    subst e6
    go_wp2
    clear kq
    go_loopw [16] (fun iv wx=>∃j:Nat,j≤nS∧iv = .int .i64 (j:Int)∧Below B w wx∧Two wx B r vs vw es ws q dvs dvw ss ls∧∃a:World,Ls a wx (.slice A6 nS c6) fs) (fun iv _=>nS - (intOf iv).toNat)
    case atStart=>exact⟨0,Nat.zero_le _,rfl,HB.out,HT.out,_,HLS.out⟩
    case round=>
     clear HB HT HLS
     obtain⟨j,hj,rfl,hb,ht,a0,hls⟩:=hrel
     have HB:=Lib.hid hb;have HT:=Lib.hid ht;have HLS:=Lib.hid hls
     clear hb ht hls
     by_cases hjn:j<nS
     ·have f1:(j:Int)<(nS:Int):=by omega
      have f2:(0:Int)≤(j:Int):=by omega
      have f3:(j:Int)<100:=by have:=HNB.out;have:=HLS0.out;omega
      obtain⟨z,hz⟩:∃z,ss[j]? = some z:=⟨ss[j]'(by rw[←ENS.out];exact hjn),List.getElem?_eq_getElem _⟩
      obtain⟨f,hf⟩:∃f,fs[j]? = some f:=⟨fs[j]'(by have:=congrArg List.length HFS.out;rw[pks_length,pks_length,HLS0.out] at this;omega),List.getElem?_eq_getElem _⟩
      have hfz:f.p=z.p:=by
       have h1:(pks fs)[j]? = some f.p:=by simp [pks,hf]
       have h2:(pks ss)[j]? = some z.p:=by simp [pks,hz]
       rw[HPS.out.pss] at h2
       rw[HFS.out,h2] at h1
       injection h1 with h1
       exact h1.symm
      obtain⟨xf,exf⟩:∃xf,xf=pkA f.p f.A f.c:=⟨_,rfl⟩
      obtain⟨xz,exz⟩:∃xz,xz=pkA z.p z.A z.c:=⟨_,rfl⟩
      have HFI:=Lib.hid (show(Try.prog.info? 32).map (·.size)=some xf.size by rw[exf];exact pk_info)
      have HZI:=Lib.hid (show(Try.prog.info? 32).map (·.size)=some xz.size by rw[exz];exact pk_info)
      have CSM:=Lib.hid (show ∀w1,Two w1 B r vs vw es ws q dvs dvw ss ls→Ls a0 w1 (.slice A6 nS c6) fs→Calls Try.prog 14 #[.agg xf,.agg xz] w1 _ from fun w1 h1 h2=>by rw[exf,exz];exact same_pk _ _ _ _ _ _ w1 hfz (h2.rd f (List.mem_of_getElem? hf)).rd (h1.dn.rd z (List.mem_of_getElem? hz)))
      obtain⟨B6,c7,e7,_,_,hr6⟩:=own_rdr enC_length HLS.out.row
      injection e7 with e7 _ _
      subst e7
      obtain⟨g6,rfl,_,_⟩:=hr6.at_ hf
      obtain⟨BS,cS2,e8,_,_,hrS⟩:=HT.out.dn.num
      rw[ESV.out] at e8
      injection e8 with e8 _ _
      subst e8
      obtain⟨gS,rfl,_,_⟩:=hrS.at_ hz
      have HS6:=Lib.hid (show ∀w1,Two w1 B r vs vw es ws q dvs dvw ss ls→Ls a0 w1 (.slice (some ⟨g6,0,none⟩) nS c6) fs→w1.cell? ⟨q,1,none⟩=some (.slice (some ⟨gS,0,none⟩) nS cS)∧w1.rangeAt g6 (j*3) xf.toList∧w1.rangeAt gS (j*3) xz.toList from fun w1 h1 h2=>by
       refine⟨ESV.out▸h1.dn.c1,?_,?_⟩
       ·obtain⟨B9,c9,e9,_,_,hr9⟩:=own_rdr enC_length h2.row
        injection e9 with e9 _ _
        subst e9
        obtain⟨g9,e9,_,hra⟩:=hr9.at_ hf
        injection e9 with e9
        injection e9 with e9
        rw[e9,exf];exact hra
       ·obtain⟨B9,c9,e9,_,_,hr9⟩:=h1.dn.num
        rw[ESV.out] at e9
        injection e9 with e9 _ _
        subst e9
        obtain⟨g9,e9,_,hra⟩:=hr9.at_ hz
        injection e9 with e9
        injection e9 with e9
        rw[e9,exz];exact hra)
      clear hz hf hfz exf exz hr6 hrS
      go_upto_region 34 with fail
      have hb:Below wr.heap.size wr wr.drew:=below_drewN (Below.refl _ _) 1
      replace HLS:=Lib.hid (HLS.out.below hb)
      replace HB:=Lib.hid (HB.out.trans (hb.mono HT.out.nt.big))
      replace HT:=Lib.hid (HT.out.below hb)
      clear hb
      obtain⟨wds,ewd⟩:∃z,z=wr.drew:=⟨_,rfl⟩
      refine Reg.any_begin (fun w'=>w'.cell? ⟨q,1,none⟩=some (.slice (some ⟨gS,0,none⟩) nS cS)∧w'.rangeAt g6 (j*3) xf.toList∧w'.rangeAt gS (j*3) xz.toList) 13 rfl (by kernel_rfl) (HS6.out _ HT.out HLS.out) ?_
      rw[←ewd] at HT HLS HB⊢
      clear ewd
      refine Reg.tk 0 (v:=?vs106) rfl (HS6.out _ HT.out HLS.out) (fun w' hS=>?hs106) ?rs106
      case hs106=>go_simp<;>rfl
      simp only[Act.put,Reg.s0,Reg.s1,Reg.s2]
      refine Reg.tk 1 (v:=?vs107) rfl (HS6.out _ HT.out HLS.out) (fun w' hS=>?hs107) ?rs107
      case hs107=>go_simp<;>rfl
      simp only[Act.put,Reg.s0,Reg.s1,Reg.s2]
      refine Reg.tk 2 (v:=?vs108) rfl (HS6.out _ HT.out HLS.out) (fun w' hS=>?hs108) ?rs108
      case hs108=>go_simp<;>rfl
      simp only[Act.put,Reg.s0,Reg.s1,Reg.s2]
      refine Reg.tk 3 (v:=.agg xf) rfl (HS6.out _ HT.out HLS.out) (fun w' hS=>?hs109) ?rs109
      case hs109=>obtain⟨q1,q2,q3⟩:=hS;exact exec_load_mid (.tmp 136) rfl q2 Try.underlying32 rfl HFI.out
      simp only[Act.put,Reg.s0,Reg.s1,Reg.s2]
      refine Reg.tk 4 (v:=?vs110) rfl (HS6.out _ HT.out HLS.out) (fun w' hS=>?hs110) ?rs110
      case hs110=>go_simp<;>rfl
      simp only[Act.put,Reg.s0,Reg.s1,Reg.s2]
      refine Reg.tk 5 (v:=?vs111) rfl (HS6.out _ HT.out HLS.out) (fun w' hS=>?hs111) ?rs111
      case hs111=>go_simp<;>rfl
      simp only[Act.put,Reg.s0,Reg.s1,Reg.s2]
      refine Reg.tk 6 (v:=?vs112) rfl (HS6.out _ HT.out HLS.out) (fun w' hS=>?hs112) ?rs112
      case hs112=>go_simp<;>rfl
      simp only[Act.put,Reg.s0,Reg.s1,Reg.s2]
      refine Reg.tk 7 (v:=?vs113) rfl (HS6.out _ HT.out HLS.out) (fun w' hS=>?hs113) ?rs113
      case hs113=>obtain⟨q1,q2,q3⟩:=hS;(go_simp<;>rfl)
      simp only[Act.put,Reg.s0,Reg.s1,Reg.s2]
      refine Reg.tk 8 (v:=?vs114) rfl (HS6.out _ HT.out HLS.out) (fun w' hS=>?hs114) ?rs114
      case hs114=>go_simp<;>rfl
      simp only[Act.put,Reg.s0,Reg.s1,Reg.s2]
      refine Reg.tk 9 (v:=?vs115) rfl (HS6.out _ HT.out HLS.out) (fun w' hS=>?hs115) ?rs115
      case hs115=>go_simp<;>rfl
      simp only[Act.put,Reg.s0,Reg.s1,Reg.s2]
      refine Reg.tk 10 (v:=.agg xz) rfl (HS6.out _ HT.out HLS.out) (fun w' hS=>?hs116) ?rs116
      case hs116=>obtain⟨q1,q2,q3⟩:=hS;exact exec_load_mid (.tmp 143) rfl q3 Try.underlying32 rfl HZI.out
      simp only[Act.put,Reg.s0,Reg.s1,Reg.s2]
      refine Reg.both_all [11] (by kernel_rfl) (by simp) ?_
      intro j0 hj0
      obtain rfl:j0=11:=by simpa using hj0
      clear hj0
      right
      refine⟨_,_,_,_,_,_,14,#[.agg xf,.agg xz],rfl,by rfl,(by go_simp<;>first | rfl | exact⟨rfl,rfl⟩),?_⟩
      refine Calls.mono (CSM.out _ HT.out HLS.out) ?_
      rintro e ws117 ⟨rfl,hb⟩
      replace HLS:=Lib.hid (HLS.out.below hb)
      replace HB:=Lib.hid (HB.out.trans (hb.mono HT.out.nt.big))
      replace HT:=Lib.hid (HT.out.below hb)
      clear hb
      refine⟨_,rfl,(HS6.out _ HT.out HLS.out),?_⟩
      simp only[Act.put,Reg.s0,Reg.s1,Reg.s2]
      refine Reg.tk 12 (v:=?vs118) rfl (HS6.out _ HT.out HLS.out) (fun w' hS=>?hs118) ?rs118
      case hs118=>go_simp<;>rfl
      simp only[Act.put,Reg.s0,Reg.s1,Reg.s2]
      refine wpAnyH_done (by kernel_rfl) ?_ _
      go_wp2
      go_roundw
      case rel=>exact⟨j+1,by omega,by go_num,HB.out,HT.out,_,HLS.out⟩
      case measure=>simp [intOf];omega
     ·have f1:¬(j:Int)<(nS:Int):=by omega
      obtain rfl:nS=j:=by omega
      go_wp2_with (first
       |(go_at_call 21;refine Calls.mono (CK.out _) ?_;rintro e w9 ⟨rfl,hb⟩;replace HB:=Lib.hid (HB.out.trans (hb.mono HT.out.nt.big));clear hb)
       |fail)
      go_ret
      exact⟨rfl,by have h:=HB.out;rw[EB.out] at h;exact h⟩
end Go.Proofs.Ytlihoeipmjbnbaa.Nt
end
