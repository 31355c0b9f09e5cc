import Derived.Deep.LoopGhost
import Derived.Lib.AppendStr
import Derived.StillTailTactics
import Derived.BigQuiet
import Derived.Deep.QuietTactic
import Derived.Deep.RegionHeld3
import Derived.DeepKeys
import Derived.Laws.StructEq
import Derived.Laws.OwnMore
import Derived.Lib.MinMax
import Derived.Test.YtfcjeebnkigeaaaGreatZKdcNonces1
import Derived.Test.YtfcjeebnkigeaaaGreatZKdcNonces2
import Derived.Test.YtfcjeebnkigeaaaGreatZKdcNonces3
import Derived.Test.YtfcjeebnkigeaaaGreatZKdcNonces4
import Derived.Test.YtfcjeebnkigeaaaGreatZKdcNonces5
import Derived.Test.YtfcjeebnkigeaaaGreatZKdcNonces6
import Derived.Test.YtfcjeebnkigeaaaGreatZKdcNonces7
import Derived.Test.YtfcjeebnkigeaaaGreatZKdcNonces8
import Derived.Test.YtfcjeebnkigeaaaGreatZKdcNonces9
import Derived.Test.YtfcjeebnkigeaaaGreatZKdcNonces10
import Derived.Test.YtfcjeebnkigeaaaGreatZKdcNonces11
import Derived.Test.YtfcjeebnkigeaaaGreatZKdcNonces12
import Derived.Test.YtfcjeebnkigeaaaGreatZKdcNonces13
import Derived.Test.YtfcjeebnkigeaaaGreatZKdcNonces14
import Derived.Test.YtfcjeebnkigeaaaGreatZKdcNonces15
import Derived.Test.YtfcjeebnkigeaaaGreatZKdcNonces16
import Derived.Test.YtfcjeebnkigeaaaGreatZKdcNonces17
import Derived.Test.YtfcjeebnkigeaaaGreatZKdcNonces22
import Derived.Test.YtfcjeebnkigeaaaGreatZKdcNonces23
import Derived.Test.YtfcjeebnkigeaaaGreatZKdcNonces24
import Derived.Test.YtfcjeebnkigeaaaGreatZKdcNonces25
section
set_option linter.unusedVariables false
namespace Go.Proofs.YtfcjeebnkigeaaaGreat.Tr
open Go.RowKit Go.Proofs.YtfcjeebnkigeaaaGreat.Mem Go.Proofs.YtfcjeebnkigeaaaGreat.Nm
attribute [local go_sem] mk_at List.getElem_cons_zero List.getElem_cons_succ ext_tail ext_drop ext_mid ext_take
theorem told_dot {f p:L} (h:sufL [46] f=true):toldL f p=f++p:=by rw[toldL,if_pos h]
theorem told_sl {f p:L} (h:sufL [46] f=false) (h1:preB [47] f=true) (h2:kindL p=2):toldL f p=p++f:=by rw[toldL,h,h1,h2];rfl
theorem told_bl {f p:L} (h:sufL [46] f=false) (h1:preB [47] f=false∨kindL p≠2) (h2:preB [32,47] f=true):toldL f p=f.drop 1:=by
 rw[toldL,h,h2]
 rcases h1 with h1 | h1
 ·rw[h1];rfl
 ·rw[decide_eq_false h1];simp
theorem told_as {f p:L} (h:sufL [46] f=false) (h1:preB [47] f=false∨kindL p≠2) (h2:preB [32,47] f=false):toldL f p=f:=by
 rw[toldL,h,h2]
 rcases h1 with h1 | h1
 ·rw[h1];rfl
 ·rw[decide_eq_false h1];simp
theorem tp_blank {f:L} (h:preB [32,47] f=true):tpL [32] f=f.drop 1:=by
 obtain⟨u,rfl⟩:=preB_iff.1 h
 rw[tpL,if_pos (show preB [32] ([32,47]++u)=true from preB_iff.2 ⟨47 :: u,rfl⟩)];rfl
set_option maxHeartbeats 800000 in
theorem told_any (f p:L) (w:World) (hs:f.length≤100000) (hp:p.length≤100000):Calls Tryz.prog 239 #[.string ⟨f.toArray⟩,.string ⟨p.toArray⟩] w fun e w'=>
  e = .returned (.string ⟨(toldL f p).toArray⟩)∧Drawn w w':=by
 have c1:=shassuffix_any f [46] w (by omega) (by decide)
 have HD:=Lib.hid (Drawn.refl w)
 cases h:sufL [46] f with
 |true=>
  have E:=Lib.hid ((mk_append f p).trans (by rw[←told_dot (p:=p) h]))
  rw[h] at c1
  clear h
  go_enter Tryz.func239,Tryz.ntmps239
  go_wp2_with (go_at_call 272;refine Calls.mono c1 ?_;rintro e w1 ⟨rfl,rfl⟩)
  go_ret
  exact⟨by rw[←E.out];rfl,HD.out⟩
 |false=>
  rw[h] at c1
  have c2:=shasprefix_any f [47] w (by omega) (by decide)
  have C3:=Lib.hid (fun w1=>shasprefix_any f [32,47] w1 (by omega) (by decide))
  have C4:=Lib.hid (fun w1=>trimprefix_any f [32] w1 (by omega) (by decide))
  have c5:=kind_any p w (by omega)
  cases h1:preB [47] f with
  |true=>
   rw[h1] at c2
   by_cases h2:kindL p=2
   ·have E:=Lib.hid ((mk_append p f).trans (by rw[←told_sl h h1 h2]))
    rw[h2] at c5
    clear h h1 h2 C3 C4
    go_enter Tryz.func239,Tryz.ntmps239
    go_wp2_with (first
     |(go_at_call 272;refine Calls.mono c1 ?_;rintro e w1 ⟨rfl,rfl⟩)
     |(go_at_call 273;refine Calls.mono c2 ?_;rintro e w1 ⟨rfl,rfl⟩)
     |(go_at_call 212;refine Calls.mono c5 ?_;rintro e w2 ⟨rfl,hd⟩;have H2:=Lib.hid hd;clear hd c5))
    go_ret
    exact⟨by rw[←E.out];rfl,H2.out⟩
   ·have t:((kindL p:Int)==2)=false:=by simp;omega
    cases h3:preB [32,47] f with
    |true=>
     exfalso
     obtain⟨u,e⟩:=preB_iff.1 h1
     obtain⟨v,g⟩:=preB_iff.1 h3
     rw[e] at g
     have:=congrArg List.head? g
     revert this;simp
    |false=>
     have c3:=fun w1=>C3.out w1
     rw[h3] at c3
     have C3':=Lib.hid c3
     have E:=Lib.hid (told_as h (.inr h2) h3)
     clear h h1 h2 h3 C3 C4 c3
     go_enter Tryz.func239,Tryz.ntmps239
     go_wp2_with (first
      |(go_at_call 272;refine Calls.mono c1 ?_;rintro e w1 ⟨rfl,rfl⟩)
      |(go_at_call 273;refine Calls.mono c2 ?_;rintro e w1 ⟨rfl,rfl⟩;clear c2)
      |(go_at_call 212;refine Calls.mono c5 ?_;rintro e w2 ⟨rfl,hd⟩;have H2:=Lib.hid hd;clear hd c5;have c3:=C3'.out w2)
      |(go_at_call 273;refine Calls.mono c3 ?_;rintro e w3 ⟨rfl,rfl⟩))
     go_ret
     exact⟨by rw[E.out];rfl,H2.out⟩
  |false=>
   rw[h1] at c2
   cases h3:preB [32,47] f with
   |true=>
    have c3:=C3.out w
    rw[h3] at c3
    have c4:=C4.out w
    rw[tp_blank h3,←told_bl (p:=p) h (.inl h1) h3] at c4
    clear h h1 h3 C3 C4
    go_enter Tryz.func239,Tryz.ntmps239
    go_wp2_with (first
     |(go_at_call 272;refine Calls.mono c1 ?_;rintro e w1 ⟨rfl,rfl⟩)
     |(go_at_call 273;refine Calls.mono c2 ?_;rintro e w1 ⟨rfl,rfl⟩;clear c2)
     |(go_at_call 273;refine Calls.mono c3 ?_;rintro e w3 ⟨rfl,rfl⟩)
     |(go_at_call 274;refine Calls.mono c4 ?_;rintro e w3 ⟨rfl,rfl⟩))
    go_ret
    exact⟨rfl,HD.out⟩
   |false=>
    have c3:=C3.out w
    rw[h3] at c3
    have E:=Lib.hid (told_as (p:=p) h (.inl h1) h3)
    clear h h1 h3 C3 C4
    go_enter Tryz.func239,Tryz.ntmps239
    go_wp2_with (first
     |(go_at_call 272;refine Calls.mono c1 ?_;rintro e w1 ⟨rfl,rfl⟩)
     |(go_at_call 273;refine Calls.mono c2 ?_;rintro e w1 ⟨rfl,rfl⟩;clear c2)
     |(go_at_call 273;refine Calls.mono c3 ?_;rintro e w3 ⟨rfl,rfl⟩))
    go_ret
    exact⟨by rw[E.out];rfl,HD.out⟩
end Go.Proofs.YtfcjeebnkigeaaaGreat.Tr
end

section
set_option linter.unusedVariables false
namespace Go.Proofs.YtfcjeebnkigeaaaGreat.Tr
open Go.RowKit Go.Proofs.YtfcjeebnkigeaaaGreat.Mem Go.Proofs.YtfcjeebnkigeaaaGreat.Nm
attribute [local go_sem] mk_at List.getElem_cons_zero List.getElem_cons_succ ext_tail ext_drop ext_mid ext_take
def OwnB (w:World) (base:Nat) (v:Value) (l:L):Prop:=w.ownsRow base 5 1 v l.length (bvs l)
theorem OwnB.nil (w:World) (base:Nat):OwnB w base (.slice none 0 0) []:=World.ownsRow_nil w base _ 1
theorem OwnB.below {w w':World} {base:Nat} {v:Value} {l:L} (h:OwnB w base v l) (hb:Below w.heap.size w w'):OwnB w' base v l:=own_kept h hb
theorem OwnB.slice {w:World} {base:Nat} {v:Value} {l:L} (h:OwnB w base v l):∃A c,v = .slice A l.length c∧Rd w w.heap.size A (bvs l):=by
 have h':=h
 rcases h.2 with⟨h1,h2⟩ | ⟨g,cap,cur,h1,_⟩
 ·have e:l = []:=List.eq_nil_of_length_eq_zero h2
  subst e
  exact⟨none,0,h1,.inl rfl⟩
 ·subst h1
  exact⟨_,cap,rfl,Rd.of_own (n:=l.length) (cap:=cap) h'⟩
section
variable {w:World} {ops:Array Oper} {rest:List Oper} {o:Oper} {a:Act} {Q:Exit→Act→World→Prop}
end
theorem all_take {ls:List L} {i:Nat} (h:(ls.take i).all isL=true) (hi:i<ls.length) (hx:isL (pl ls i)=true):(ls.take (i+1)).all isL=true:=by
 rw[take_succ_pl hi,List.all_append,h];simp [hx]
end Go.Proofs.YtfcjeebnkigeaaaGreat.Tr
end

section
set_option linter.unusedVariables false
set_option linter.unusedSimpArgs false
namespace Go.Proofs.YtfcjeebnkigeaaaGreat.Kd
open Go.RowKit Go.Proofs.YtfcjeebnkigeaaaGreat.Mem Go.Proofs.YtfcjeebnkigeaaaGreat.Se
open Go.Proofs.YtfcjeebnkigeaaaGreat.Rg (It Ent Ring RO its lastI lastN)
open Go.Proofs.YtfcjeebnkigeaaaGreat.SeL (sealR)
open Go.Proofs.YtfcjeebnkigeaaaGreat.Ms (Pt Rp Re Tk As Tg pSm tmB asB tgB ptB ptO tgC mgO)
open Go.Proofs.YtfcjeebnkigeaaaGreat.Nm (krb)
open Go.Proofs.YtfcjeebnkigeaaaGreat.Nm (isL)
open Go.Proofs.YtfcjeebnkigeaaaGreat.Rt (Sm)
abbrev tgA (q:Tg) (b a:Value):Array Value:=#[.string ⟨q.t.s.1.toArray⟩,.string ⟨q.t.s.2.toArray⟩,.int .i64 q.t.k,b,a,.string ⟨q.s.1.toArray⟩,.string ⟨q.s.2.toArray⟩,.int .i64 q.u,.int .i64 q.no]
theorem tg_info:(Tryz.prog.info? 34).map (·.size)=some 9:=by kernel_rfl
section
variable {w:World} {B:Nat} {p:KP} {es:List Ent} {s:Option Ss} {n i c:Nat}
end
end Go.Proofs.YtfcjeebnkigeaaaGreat.Kd
end

section
set_option linter.unusedVariables false
set_option linter.unusedSimpArgs false
namespace Go.Proofs.YtfcjeebnkigeaaaGreat.Kd
open Go.RowKit Go.Proofs.YtfcjeebnkigeaaaGreat.Mem Go.Proofs.YtfcjeebnkigeaaaGreat.Se
open Go.Proofs.YtfcjeebnkigeaaaGreat.Rg (It Ent Ring RO its lastI lastN)
open Go.Proofs.YtfcjeebnkigeaaaGreat.SeL (sealR)
open Go.Proofs.YtfcjeebnkigeaaaGreat.Ms (Pt Rp Re Tk As Tg Mg Fa pSm mSm tmB asB tgB ptB mgO tgC asC reC as0 tg0 re0 ap0 fa0)
open Go.Proofs.YtfcjeebnkigeaaaGreat.Nm (krb)
open Go.Proofs.YtfcjeebnkigeaaaGreat.Rt (Sm)
section
variable {w:World} {B:Nat} {p:KP} {es:List Ent} {s:Option Ss} {n i c:Nat}
def MgK (S:Nat→Prop) (w:World) (ds:Array Value) (m:Mg):Prop:=
 ∃bv av pr pp pf,ds=Mc.mgA m.k (asA m.aq) (tgA m.tg bv av) pr pp pf∧SlN S w bv m.tg.t.b∧SlN S w av m.tg.a∧Mc.MgP w w.heap.size (asA m.aq) (tgA m.tg bv av) pr pp pf m
theorem MgK.size {S:Nat→Prop} {ds:Array Value} {m:Mg} (h:MgK S w ds m):ds.size=30∧ds.all (·.oneCell')=true∧(Tryz.prog.info? 93).map (·.size)=some ds.size:=by
 obtain⟨bv,av,pr,pp,pf,h1,_,_,h4⟩:=h
 have hs:ds.size=30:=by rw[h1];exact h4.size m.k
 refine⟨hs,by rw[h1];exact h4.one m.k,by rw[hs];exact Mc.mg_info⟩
theorem MgK.at_ {S:Nat→Prop} {ds:Array Value} {m:Mg} (h:MgK S w ds m):∃bv av,SlN S w bv m.tg.t.b∧SlN S w av m.tg.a∧∀(w1:World) (g:Nat) (t:TypeId),Blk w1 g t ds→w1.cell? ⟨g,0,none⟩=some (.int .i64 m.k)∧w1.rangeAt g 1 (asA m.aq).toList∧w1.rangeAt g 7 (tgA m.tg bv av).toList:=by
 obtain⟨bv,av,pr,pp,pf,h1,h2,h3,h4⟩:=h
 refine⟨bv,av,h2,h3,fun w1 g t hb=>?_⟩
 subst h1
 have:=h4.at_ hb
 exact⟨this.k,this.a,this.t⟩
end
end Go.Proofs.YtfcjeebnkigeaaaGreat.Kd
end

section
set_option linter.unusedVariables false
set_option linter.unusedSimpArgs false
namespace Go.Proofs.YtfcjeebnkigeaaaGreat.Kd
open Go.RowKit Go.Proofs.YtfcjeebnkigeaaaGreat.Mem Go.Proofs.YtfcjeebnkigeaaaGreat.Se
open Go.Proofs.YtfcjeebnkigeaaaGreat.Rg (It Ent Ring RO its results_pair lastI lastN eql_pr_yes eql_pr_no)
open Go.Proofs.YtfcjeebnkigeaaaGreat.SeL (sealR)
open Go.Proofs.YtfcjeebnkigeaaaGreat.Ms (Pt Rp Re Tk As pSm tmB asB)
open Go.Proofs.YtfcjeebnkigeaaaGreat.Nm (krb)
section
variable {w:World} {B:Nat} {p:KP} {es:List Ent} {n i c:Nat}
set_option maxRecDepth 100000 in
set_option maxHeartbeats 3200000 in
theorem as_1 {q:As} {d:Nm.L} {now:Int} (h:KS w B p es none n i c) (hc:c<800000) (hn:n<800000) (hi:i<800000) (hl:es.length≤1000) (hR:p.R.length≤1000) (hd:d.length=32) (hs1:pSm q.c) (hs2:pSm q.s) (ht:tmB now=false) :
  Calls Tryz.prog 17 #[.pointer (some ⟨p.k,0,none⟩),.agg (asA q),.int .i64 now,.agg (keyA d)] w (AnsR w B p es none n i (c+4) (1,Ms.re0)):=by
 obtain⟨csD,ecsD⟩:∃z,z=keyA d:=⟨_,rfl⟩
 rw[←ecsD]
 obtain⟨W,eW⟩:∃W,W=((w.alloc (.cells (asA q) 29)).alloc (.cells csD 47)).alloc (.cells reZ 38):=⟨_,rfl⟩
 have hb:Below w.heap.size w W:=eW▸(((Below.refl _ _).alloc (Nat.le_refl _) _).alloc (by simp) _).alloc (by simp;omega) _
 have HQ:=Lib.hid (show Blk W w.heap.size 29 (asA q) from eW▸((Blk.new w _ _).alloc _).alloc _)
 have HD:=Lib.hid (show Blk W (w.heap.size+1) 47 csD by have:=(Blk.new (w.alloc (.cells (asA q) 29)) 47 csD).alloc (.cells reZ 38);simp only[World.size_alloc] at this;exact eW▸this)
 have HR:=Lib.hid (show Blk W (w.heap.size+1+1) 38 reZ by have:=Blk.new ((w.alloc (.cells (asA q) 29)).alloc (.cells csD 47)) 38 reZ;simp only[World.size_alloc] at this;exact eW▸this)
 have HK:=Lib.hid (Kn.start h hb)
 have HOR:=Lib.hid (h.offs (show w.heap.size≤w.heap.size+1+1 by omega))
 have HDI:=Lib.hid (show(Tryz.prog.info? 47).map (·.size)=some csD.size by rw[ecsD];exact key_info hd)
 have HC:=Lib.hid hc;have HNN:=Lib.hid hn;have HII:=Lib.hid hi
 have CT:=Lib.hid (fun(w1:World)=>ktime_any now w1)
 rw[ht] at CT
 clear ht
 clear h hb hc hn hi hl hR hs1 hs2 hd ecsD
 go_enter Tryz.func17,Tryz.ntmps17
 go_upto_region 1 with fail
 rw[←eW]
 clear eW
 have kq0:W.cell? ⟨w.heap.size,0,none⟩=some (.string ⟨q.c.1.toArray⟩):=HQ.out.cell 0
 have kq1:W.cell? ⟨w.heap.size,1,none⟩=some (.string ⟨q.c.2.toArray⟩):=HQ.out.cell 1
 have kq2:W.cell? ⟨w.heap.size,2,none⟩=some (.string ⟨q.s.1.toArray⟩):=HQ.out.cell 2
 have kq3:W.cell? ⟨w.heap.size,3,none⟩=some (.string ⟨q.s.2.toArray⟩):=HQ.out.cell 3
 have kq4:W.cell? ⟨w.heap.size,4,none⟩=some (.int .i64 q.t):=HQ.out.cell 4
 have kq5:W.cell? ⟨w.heap.size,5,none⟩=some (.int .i64 q.no):=HQ.out.cell 5
 have kr0:=HR.out.cell 0
 have kr1:=HR.out.cell 1
 have kr2:=HR.out.cell 2
 have kr3:=HR.out.cell 3
 have kr4:=HR.out.cell 4
 have kr5:=HR.out.cell 5
 have kr6:=HR.out.cell 6
 have fz:=HR.out.frozen
 go_wp2_with (first
  |(go_at_call 47;refine Calls.mono (CT.out _) ?_;rintro e wt ⟨rfl,hw⟩;have hw:=hw.symm;subst hw;clear CT)
  |fail)
 refine bodyPost_ret (v:=.tuple #[.agg reZ,.int .i64 1]) ?_ ?_ ?_
 ·exact results_pair (v:=.agg reZ) 8 9 38 ⟨w.heap.size+1+1,0,none⟩ Tryz.results17 rfl (Wh.load_blk (set7 HR.out _ _ _ _ _ _ _) Tryz.underlying38 (by rfl) re_info) rfl
 ·rfl
 ·exact ans_err ((HK.out.put7 (by omega) HOR.out _ _ _ _ _ _ _).more (by omega)) (by decide)
set_option maxRecDepth 100000 in
set_option maxHeartbeats 3200000 in
theorem as_2 {q:As} {d:Nm.L} {now:Int} (h:KS w B p es none n i c) (hc:c<800000) (hn:n<800000) (hi:i<800000) (hl:es.length≤1000) (hR:p.R.length≤1000) (hd:d.length=32) (hs1:pSm q.c) (hs2:pSm q.s) (ht:tmB now=true) (ha:asB q=false) :
  Calls Tryz.prog 17 #[.pointer (some ⟨p.k,0,none⟩),.agg (asA q),.int .i64 now,.agg (keyA d)] w (AnsR w B p es none n i (c+4) (1,Ms.re0)):=by
 obtain⟨csD,ecsD⟩:∃z,z=keyA d:=⟨_,rfl⟩
 rw[←ecsD]
 obtain⟨W,eW⟩:∃W,W=((w.alloc (.cells (asA q) 29)).alloc (.cells csD 47)).alloc (.cells reZ 38):=⟨_,rfl⟩
 have hb:Below w.heap.size w W:=eW▸(((Below.refl _ _).alloc (Nat.le_refl _) _).alloc (by simp) _).alloc (by simp;omega) _
 have HQ:=Lib.hid (show Blk W w.heap.size 29 (asA q) from eW▸((Blk.new w _ _).alloc _).alloc _)
 have HD:=Lib.hid (show Blk W (w.heap.size+1) 47 csD by have:=(Blk.new (w.alloc (.cells (asA q) 29)) 47 csD).alloc (.cells reZ 38);simp only[World.size_alloc] at this;exact eW▸this)
 have HR:=Lib.hid (show Blk W (w.heap.size+1+1) 38 reZ by have:=Blk.new ((w.alloc (.cells (asA q) 29)).alloc (.cells csD 47)) 38 reZ;simp only[World.size_alloc] at this;exact eW▸this)
 have HK:=Lib.hid (Kn.start h hb)
 have HOR:=Lib.hid (h.offs (show w.heap.size≤w.heap.size+1+1 by omega))
 have HDI:=Lib.hid (show(Tryz.prog.info? 47).map (·.size)=some csD.size by rw[ecsD];exact key_info hd)
 have HC:=Lib.hid hc;have HNN:=Lib.hid hn;have HII:=Lib.hid hi
 have CT:=Lib.hid (fun(w1:World)=>ktime_any now w1)
 rw[ht] at CT
 have CM:=Lib.hid (fun(w1:World)=>kmaybe_any _ (mAs q) w1 (as_mg w1 q) ⟨⟨hs1,hs2⟩,⟨Mc.pr0_sm,Mc.pr0_sm⟩,⟨Mc.pr0_sm,Mc.pr0_sm⟩,Mc.pr0_sm⟩)
 have HBM:=Lib.hid (built_mas q)
 obtain⟨csM,ecsM⟩:∃z,z=Mc.mgA 1 (asA q) Mc.zT Mc.zR Mc.zP Mc.zF:=⟨_,rfl⟩
 rw[←ecsM] at CM HBM
 clear ecsM
 rw[mAs_is] at CM
 rw[ha] at CM
 clear ht ha
 clear h hb hc hn hi hl hR hs1 hs2 hd ecsD
 go_enter Tryz.func17,Tryz.ntmps17
 go_upto_region 1 with fail
 rw[←eW]
 clear eW
 have kq0:W.cell? ⟨w.heap.size,0,none⟩=some (.string ⟨q.c.1.toArray⟩):=HQ.out.cell 0
 have kq1:W.cell? ⟨w.heap.size,1,none⟩=some (.string ⟨q.c.2.toArray⟩):=HQ.out.cell 1
 have kq2:W.cell? ⟨w.heap.size,2,none⟩=some (.string ⟨q.s.1.toArray⟩):=HQ.out.cell 2
 have kq3:W.cell? ⟨w.heap.size,3,none⟩=some (.string ⟨q.s.2.toArray⟩):=HQ.out.cell 3
 have kq4:W.cell? ⟨w.heap.size,4,none⟩=some (.int .i64 q.t):=HQ.out.cell 4
 have kq5:W.cell? ⟨w.heap.size,5,none⟩=some (.int .i64 q.no):=HQ.out.cell 5
 go_upto_region 2 with(first
  |(go_at_call 47;refine Calls.mono (CT.out _) ?_;rintro e wt ⟨rfl,hw⟩;have hw:=hw.symm;subst hw;clear CT)
  |(refine built_g (by rfl) 93 #[(0,.const (.int .i64 1)),(1,.tmp 22)] (by rfl) csM (by simp only[List.map_toArray,List.map_cons,List.map_nil];exact HBM.out) ?_;clear HBM)
  |(go_at_call 48;refine Calls.mono (CM.out _) ?_;rintro e wm ⟨rfl,hb⟩;clear CM;clear kq0 kq1 kq2 kq3 kq4 kq5;replace HQ:=Lib.hid (HQ.out.below hb);replace HD:=Lib.hid (HD.out.below hb);replace HR:=Lib.hid (HR.out.below hb);replace HK:=Lib.hid (HK.out.below hb);have kq0:wm.cell? ⟨w.heap.size,0,none⟩=some (.string ⟨q.c.1.toArray⟩):=HQ.out.cell 0;have kq1:wm.cell? ⟨w.heap.size,1,none⟩=some (.string ⟨q.c.2.toArray⟩):=HQ.out.cell 1;have kq2:wm.cell? ⟨w.heap.size,2,none⟩=some (.string ⟨q.s.1.toArray⟩):=HQ.out.cell 2;have kq3:wm.cell? ⟨w.heap.size,3,none⟩=some (.string ⟨q.s.2.toArray⟩):=HQ.out.cell 3;have kq4:wm.cell? ⟨w.heap.size,4,none⟩=some (.int .i64 q.t):=HQ.out.cell 4;have kq5:wm.cell? ⟨w.heap.size,5,none⟩=some (.int .i64 q.no):=HQ.out.cell 5;clear hb)
  |fail)
 have kr0:=HR.out.cell 0
 have kr1:=HR.out.cell 1
 have kr2:=HR.out.cell 2
 have kr3:=HR.out.cell 3
 have kr4:=HR.out.cell 4
 have kr5:=HR.out.cell 5
 have kr6:=HR.out.cell 6
 have fz:=HR.out.frozen
 go_wp2_with (first
  |fail)
 refine bodyPost_ret (v:=.tuple #[.agg reZ,.int .i64 1]) ?_ ?_ ?_
 ·exact results_pair (v:=.agg reZ) 8 9 38 ⟨w.heap.size+1+1,0,none⟩ Tryz.results17 rfl (Wh.load_blk (set7 HR.out _ _ _ _ _ _ _) Tryz.underlying38 (by rfl) re_info) rfl
 ·rfl
 ·exact ans_err ((HK.out.put7 (by omega) HOR.out _ _ _ _ _ _ _).more (by omega)) (by decide)
set_option maxRecDepth 100000 in
set_option maxHeartbeats 3200000 in
theorem as_core {q:As} {d:Nm.L} {now:Int} (h:KS w B p es none n i c) (hc:c<800000) (hn:n<800000) (hi:i<800000) (hl:es.length≤1000) (hR:p.R.length≤1000) (hd:d.length=32) (hs1:pSm q.c) (hs2:pSm q.s) {r:Int×Re} (ht:tmB now=true) (ha:asB q=true) (hrr:asL p.R (its es) n q now d=r) :
  Calls Tryz.prog 17 #[.pointer (some ⟨p.k,0,none⟩),.agg (asA q),.int .i64 now,.agg (keyA d)] w (AnsR w B p es none n i (c+4) r):=by
 obtain⟨csD,ecsD⟩:∃z,z=keyA d:=⟨_,rfl⟩
 rw[←ecsD]
 obtain⟨W,eW⟩:∃W,W=((w.alloc (.cells (asA q) 29)).alloc (.cells csD 47)).alloc (.cells reZ 38):=⟨_,rfl⟩
 have hb:Below w.heap.size w W:=eW▸(((Below.refl _ _).alloc (Nat.le_refl _) _).alloc (by simp) _).alloc (by simp;omega) _
 have HQ:=Lib.hid (show Blk W w.heap.size 29 (asA q) from eW▸((Blk.new w _ _).alloc _).alloc _)
 have HD:=Lib.hid (show Blk W (w.heap.size+1) 47 csD by have:=(Blk.new (w.alloc (.cells (asA q) 29)) 47 csD).alloc (.cells reZ 38);simp only[World.size_alloc] at this;exact eW▸this)
 have HR:=Lib.hid (show Blk W (w.heap.size+1+1) 38 reZ by have:=Blk.new ((w.alloc (.cells (asA q) 29)).alloc (.cells csD 47)) 38 reZ;simp only[World.size_alloc] at this;exact eW▸this)
 have HK:=Lib.hid (Kn.start h hb)
 have HOR:=Lib.hid (h.offs (show w.heap.size≤w.heap.size+1+1 by omega))
 have HDI:=Lib.hid (show(Tryz.prog.info? 47).map (·.size)=some csD.size by rw[ecsD];exact key_info hd)
 have HC:=Lib.hid hc;have HNN:=Lib.hid hn;have HII:=Lib.hid hi
 have CT:=Lib.hid (fun(w1:World)=>ktime_any now w1)
 rw[ht] at CT
 have CM:=Lib.hid (fun(w1:World)=>kmaybe_any _ (mAs q) w1 (as_mg w1 q) ⟨⟨hs1,hs2⟩,⟨Mc.pr0_sm,Mc.pr0_sm⟩,⟨Mc.pr0_sm,Mc.pr0_sm⟩,Mc.pr0_sm⟩)
 have HBM:=Lib.hid (built_mas q)
 obtain⟨csM,ecsM⟩:∃z,z=Mc.mgA 1 (asA q) Mc.zT Mc.zR Mc.zP Mc.zF:=⟨_,rfl⟩
 rw[←ecsM] at CM HBM
 clear ecsM
 rw[mAs_is] at CM
 rw[ha] at CM
 have HRL:=Lib.hid (show(if q.c.1=p.R∧hasL (its es) q.c=true then if q.s=kr p.R p.R∧hasL (its es) q.s=true then if q.t<now then (7,Ms.re0) else ansL (its es) n q.c q.s ⟨q.c,d,[],now,min q.t (now+mxL)⟩ q.no (keyL (its es) q.c) 3 else (6,Ms.re0) else (5,Ms.re0))=r by rw[←hrr];unfold asL;rw[ht,ha];rfl)
 have HHL:=Lib.hid hl;have HHR:=Lib.hid hR;have HHD:=Lib.hid hd;have HS1:=Lib.hid hs1;have HS2:=Lib.hid hs2;have HTA:=Lib.hid (And.intro ht ha);have EDD:=Lib.hid ecsD
 clear ht ha hrr
 clear h hb hc hn hi hl hR hs1 hs2 hd ecsD
 go_enter Tryz.func17,Tryz.ntmps17
 go_upto_region 1 with fail
 rw[←eW]
 clear eW
 have kq0:W.cell? ⟨w.heap.size,0,none⟩=some (.string ⟨q.c.1.toArray⟩):=HQ.out.cell 0
 have kq1:W.cell? ⟨w.heap.size,1,none⟩=some (.string ⟨q.c.2.toArray⟩):=HQ.out.cell 1
 have kq2:W.cell? ⟨w.heap.size,2,none⟩=some (.string ⟨q.s.1.toArray⟩):=HQ.out.cell 2
 have kq3:W.cell? ⟨w.heap.size,3,none⟩=some (.string ⟨q.s.2.toArray⟩):=HQ.out.cell 3
 have kq4:W.cell? ⟨w.heap.size,4,none⟩=some (.int .i64 q.t):=HQ.out.cell 4
 have kq5:W.cell? ⟨w.heap.size,5,none⟩=some (.int .i64 q.no):=HQ.out.cell 5
 go_upto_region 3 with(first
  |(go_at_call 47;refine Calls.mono (CT.out _) ?_;rintro e wt ⟨rfl,hw⟩;have hw:=hw.symm;subst hw;clear CT)
  |(refine built_g (by rfl) 93 #[(0,.const (.int .i64 1)),(1,.tmp 22)] (by rfl) csM (by simp only[List.map_toArray,List.map_cons,List.map_nil];exact HBM.out) ?_;clear HBM)
  |(go_at_call 48;refine Calls.mono (CM.out _) ?_;rintro e wm ⟨rfl,hb⟩;clear CM;clear kq0 kq1 kq2 kq3 kq4 kq5;replace HQ:=Lib.hid (HQ.out.below hb);replace HD:=Lib.hid (HD.out.below hb);replace HR:=Lib.hid (HR.out.below hb);replace HK:=Lib.hid (HK.out.below hb);have kq0:wm.cell? ⟨w.heap.size,0,none⟩=some (.string ⟨q.c.1.toArray⟩):=HQ.out.cell 0;have kq1:wm.cell? ⟨w.heap.size,1,none⟩=some (.string ⟨q.c.2.toArray⟩):=HQ.out.cell 1;have kq2:wm.cell? ⟨w.heap.size,2,none⟩=some (.string ⟨q.s.1.toArray⟩):=HQ.out.cell 2;have kq3:wm.cell? ⟨w.heap.size,3,none⟩=some (.string ⟨q.s.2.toArray⟩):=HQ.out.cell 3;have kq4:wm.cell? ⟨w.heap.size,4,none⟩=some (.int .i64 q.t):=HQ.out.cell 4;have kq5:wm.cell? ⟨w.heap.size,5,none⟩=some (.int .i64 q.no):=HQ.out.cell 5;clear hb)
  |fail)
 cases hf1:lastI (its es) q.c with
 |none=>
  have er:r=(5,Ms.re0):=by rw[←HRL.out];rw[if_neg (fun x=>by simp [hasL,hf1] at x)]
  subst er
  have CF1:=Lib.hid (fun(w1:World) (h1:KD w1 B p es n i)=>find_miss h1 HHL.out hf1)
  clear hf1
  go_upto_region 4 with(first
   |(go_at_call 49;refine Calls.mono (CF1.out _ HK.out.st.k) ?_;rintro e w3 ⟨rfl,hb⟩;clear CF1;(try clear kq0 kq1 kq2 kq3 kq4 kq5);replace HQ:=Lib.hid (HQ.out.below hb);replace HD:=Lib.hid (HD.out.below hb);replace HR:=Lib.hid (HR.out.below hb);replace HK:=Lib.hid (HK.out.below hb);have kq0:w3.cell? ⟨w.heap.size,0,none⟩=some (.string ⟨q.c.1.toArray⟩):=HQ.out.cell 0;have kq1:w3.cell? ⟨w.heap.size,1,none⟩=some (.string ⟨q.c.2.toArray⟩):=HQ.out.cell 1;have kq2:w3.cell? ⟨w.heap.size,2,none⟩=some (.string ⟨q.s.1.toArray⟩):=HQ.out.cell 2;have kq3:w3.cell? ⟨w.heap.size,3,none⟩=some (.string ⟨q.s.2.toArray⟩):=HQ.out.cell 3;have kq4:w3.cell? ⟨w.heap.size,4,none⟩=some (.int .i64 q.t):=HQ.out.cell 4;have kq5:w3.cell? ⟨w.heap.size,5,none⟩=some (.int .i64 q.no):=HQ.out.cell 5;clear hb)
   |fail)
  obtain⟨W4,eW4⟩:∃z,z=w3.alloc (.cells #[.string ⟨#[]⟩,.string ⟨#[]⟩,.pointer none,.int .i64 0] 127):=⟨_,rfl⟩
  have hn:Blk W4 w3.heap.size 127 #[.string ⟨#[]⟩,.string ⟨#[]⟩,.pointer none,.int .i64 0]:=eW4▸Blk.new _ _ _
  replace HQ:=Lib.hid (show Blk W4 _ _ _ from eW4▸HQ.out.alloc _);replace HD:=Lib.hid (show Blk W4 _ _ _ from eW4▸HD.out.alloc _);replace HR:=Lib.hid (show Blk W4 _ _ _ from eW4▸HR.out.alloc _)
  replace HK:=Lib.hid (show Kn w W4 B p es none es none n i c from eW4▸HK.out.alloc _)
  rw[←eW4]
  clear eW4 kq0 kq1 kq2 kq3 kq4 kq5
  obtain⟨PN1,ePN1⟩:∃z,z=w3.heap.size:=⟨_,rfl⟩
  rw[←ePN1] at hn⊢
  have HN1:=Lib.hid hn
  clear ePN1 hn
  have kq0:W4.cell? ⟨w.heap.size,0,none⟩=some (.string ⟨q.c.1.toArray⟩):=HQ.out.cell 0
  have kq1:W4.cell? ⟨w.heap.size,1,none⟩=some (.string ⟨q.c.2.toArray⟩):=HQ.out.cell 1
  have kq2:W4.cell? ⟨w.heap.size,2,none⟩=some (.string ⟨q.s.1.toArray⟩):=HQ.out.cell 2
  have kq3:W4.cell? ⟨w.heap.size,3,none⟩=some (.string ⟨q.s.2.toArray⟩):=HQ.out.cell 3
  have kq4:W4.cell? ⟨w.heap.size,4,none⟩=some (.int .i64 q.t):=HQ.out.cell 4
  have kq5:W4.cell? ⟨w.heap.size,5,none⟩=some (.int .i64 q.no):=HQ.out.cell 5
  have kk0:W4.cell? ⟨p.k,0,none⟩=some (.string ⟨p.R.toArray⟩):=HK.out.st.k.blk.cell 0
  go_quiet (fail)
  obtain⟨W5,eW5⟩:∃z,z=W4.drewN nq:=⟨_,rfl⟩
  replace HQ:=Lib.hid (show Blk W5 _ _ _ from eW5▸HQ.out.drewN nq);replace HD:=Lib.hid (show Blk W5 _ _ _ from eW5▸HD.out.drewN nq);replace HR:=Lib.hid (show Blk W5 _ _ _ from eW5▸HR.out.drewN nq);replace HN1:=Lib.hid (show Blk W5 _ _ _ from eW5▸HN1.out.drewN nq)
  replace HK:=Lib.hid (show Kn w W5 B p es none es none n i c from eW5▸HK.out.below (below_drewN (Below.refl _ _) nq))
  rw[←eW5]
  clear eW5 kq0 kq1 kq2 kq3 kq4 kq5
  have kr0:=HR.out.cell 0
  have kr1:=HR.out.cell 1
  have kr2:=HR.out.cell 2
  have kr3:=HR.out.cell 3
  have kr4:=HR.out.cell 4
  have kr5:=HR.out.cell 5
  have kr6:=HR.out.cell 6
  have fz:=HR.out.frozen
  clear kk0
  go_wp2_with (first
   |fail)
  refine bodyPost_ret (v:=.tuple #[.agg reZ,.int .i64 5]) ?_ ?_ ?_
  ·exact results_pair (v:=.agg reZ) 8 9 38 ⟨w.heap.size+1+1,0,none⟩ Tryz.results17 rfl (Wh.load_blk (set7 HR.out _ _ _ _ _ _ _) Tryz.underlying38 (by rfl) re_info) rfl
  ·rfl
  ·exact ans_err ((HK.out.put7 (by omega) HOR.out _ _ _ _ _ _ _).more (by omega)) (by decide)
 |some j1=>
  obtain⟨x1,hj1⟩:=last_of hf1
  have hk1:=keyL_hit hf1 hj1
  have CF1:=Lib.hid (fun(w1:World) (h1:KD w1 B p es n i)=>find_hit h1 HHL.out hf1 hj1)
  have HJ1:=Lib.hid hj1;have HK1:=Lib.hid hk1
  clear hf1 hj1 hk1
  go_upto_region 4 with(first
   |(go_at_call 49;refine Calls.mono (CF1.out _ HK.out.st.k) ?_;rintro e w3 ⟨rfl,hb⟩;clear CF1;(try clear kq0 kq1 kq2 kq3 kq4 kq5);replace HQ:=Lib.hid (HQ.out.below hb);replace HD:=Lib.hid (HD.out.below hb);replace HR:=Lib.hid (HR.out.below hb);replace HK:=Lib.hid (HK.out.below hb);have kq0:w3.cell? ⟨w.heap.size,0,none⟩=some (.string ⟨q.c.1.toArray⟩):=HQ.out.cell 0;have kq1:w3.cell? ⟨w.heap.size,1,none⟩=some (.string ⟨q.c.2.toArray⟩):=HQ.out.cell 1;have kq2:w3.cell? ⟨w.heap.size,2,none⟩=some (.string ⟨q.s.1.toArray⟩):=HQ.out.cell 2;have kq3:w3.cell? ⟨w.heap.size,3,none⟩=some (.string ⟨q.s.2.toArray⟩):=HQ.out.cell 3;have kq4:w3.cell? ⟨w.heap.size,4,none⟩=some (.int .i64 q.t):=HQ.out.cell 4;have kq5:w3.cell? ⟨w.heap.size,5,none⟩=some (.int .i64 q.no):=HQ.out.cell 5;clear hb)
   |fail)
  obtain⟨W4,eW4⟩:∃z,z=w3.alloc (.cells #[.string ⟨(q.c).1.toArray⟩,.string ⟨(q.c).2.toArray⟩,.pointer (some ⟨x1.b,0,none⟩),.int .i64 (x1.it.n:Int)] 127):=⟨_,rfl⟩
  have hn:Blk W4 w3.heap.size 127 #[.string ⟨(q.c).1.toArray⟩,.string ⟨(q.c).2.toArray⟩,.pointer (some ⟨x1.b,0,none⟩),.int .i64 (x1.it.n:Int)]:=eW4▸Blk.new _ _ _
  replace HQ:=Lib.hid (show Blk W4 _ _ _ from eW4▸HQ.out.alloc _);replace HD:=Lib.hid (show Blk W4 _ _ _ from eW4▸HD.out.alloc _);replace HR:=Lib.hid (show Blk W4 _ _ _ from eW4▸HR.out.alloc _)
  replace HK:=Lib.hid (show Kn w W4 B p es none es none n i c from eW4▸HK.out.alloc _)
  rw[←eW4]
  clear eW4 kq0 kq1 kq2 kq3 kq4 kq5
  obtain⟨PN1,ePN1⟩:∃z,z=w3.heap.size:=⟨_,rfl⟩
  rw[←ePN1] at hn⊢
  have HN1:=Lib.hid hn
  clear ePN1 hn
  by_cases hr:q.c.1=p.R
  ·skip
   replace HRL:=Lib.hid (show(if q.s=kr p.R p.R∧hasL (its es) q.s=true then if q.t<now then (7,Ms.re0) else ansL (its es) n q.c q.s ⟨q.c,d,[],now,min q.t (now+mxL)⟩ q.no (keyL (its es) q.c) 3 else (6,Ms.re0))=r by have:=HRL.out;rw[if_pos ⟨hr,HK1.out.2.2⟩] at this;exact this)
   have t1:(q.c.1==p.R)=true:=by rw[hr];simp
   clear hr
   have kq0:W4.cell? ⟨w.heap.size,0,none⟩=some (.string ⟨q.c.1.toArray⟩):=HQ.out.cell 0
   have kq1:W4.cell? ⟨w.heap.size,1,none⟩=some (.string ⟨q.c.2.toArray⟩):=HQ.out.cell 1
   have kq2:W4.cell? ⟨w.heap.size,2,none⟩=some (.string ⟨q.s.1.toArray⟩):=HQ.out.cell 2
   have kq3:W4.cell? ⟨w.heap.size,3,none⟩=some (.string ⟨q.s.2.toArray⟩):=HQ.out.cell 3
   have kq4:W4.cell? ⟨w.heap.size,4,none⟩=some (.int .i64 q.t):=HQ.out.cell 4
   have kq5:W4.cell? ⟨w.heap.size,5,none⟩=some (.int .i64 q.no):=HQ.out.cell 5
   have kk0:W4.cell? ⟨p.k,0,none⟩=some (.string ⟨p.R.toArray⟩):=HK.out.st.k.blk.cell 0
   go_quiet (fail)
   obtain⟨W5,eW5⟩:∃z,z=W4.drewN nq:=⟨_,rfl⟩
   replace HQ:=Lib.hid (show Blk W5 _ _ _ from eW5▸HQ.out.drewN nq);replace HD:=Lib.hid (show Blk W5 _ _ _ from eW5▸HD.out.drewN nq);replace HR:=Lib.hid (show Blk W5 _ _ _ from eW5▸HR.out.drewN nq);replace HN1:=Lib.hid (show Blk W5 _ _ _ from eW5▸HN1.out.drewN nq)
   replace HK:=Lib.hid (show Kn w W5 B p es none es none n i c from eW5▸HK.out.below (below_drewN (Below.refl _ _) nq))
   rw[←eW5]
   clear eW5 kq0 kq1 kq2 kq3 kq4 kq5
   clear kk0 t1
   have kq0:W5.cell? ⟨w.heap.size,0,none⟩=some (.string ⟨q.c.1.toArray⟩):=HQ.out.cell 0
   have kq1:W5.cell? ⟨w.heap.size,1,none⟩=some (.string ⟨q.c.2.toArray⟩):=HQ.out.cell 1
   have kq2:W5.cell? ⟨w.heap.size,2,none⟩=some (.string ⟨q.s.1.toArray⟩):=HQ.out.cell 2
   have kq3:W5.cell? ⟨w.heap.size,3,none⟩=some (.string ⟨q.s.2.toArray⟩):=HQ.out.cell 3
   have kq4:W5.cell? ⟨w.heap.size,4,none⟩=some (.int .i64 q.t):=HQ.out.cell 4
   have kq5:W5.cell? ⟨w.heap.size,5,none⟩=some (.int .i64 q.no):=HQ.out.cell 5
   cases hf2:lastI (its es) q.s with
   |none=>
    have er:r=(6,Ms.re0):=by rw[←HRL.out];rw[if_neg (fun x=>by simp [hasL,hf2] at x)]
    subst er
    have CF2:=Lib.hid (fun(w1:World) (h1:KD w1 B p es n i)=>find_miss h1 HHL.out hf2)
    clear hf2
    go_upto_region 7 with(first
     |(go_at_call 49;refine Calls.mono (CF2.out _ HK.out.st.k) ?_;rintro e w6 ⟨rfl,hb⟩;clear CF2;(try clear kq0 kq1 kq2 kq3 kq4 kq5);replace HQ:=Lib.hid (HQ.out.below hb);replace HD:=Lib.hid (HD.out.below hb);replace HR:=Lib.hid (HR.out.below hb);replace HN1:=Lib.hid (HN1.out.below hb);replace HK:=Lib.hid (HK.out.below hb);have kq0:w6.cell? ⟨w.heap.size,0,none⟩=some (.string ⟨q.c.1.toArray⟩):=HQ.out.cell 0;have kq1:w6.cell? ⟨w.heap.size,1,none⟩=some (.string ⟨q.c.2.toArray⟩):=HQ.out.cell 1;have kq2:w6.cell? ⟨w.heap.size,2,none⟩=some (.string ⟨q.s.1.toArray⟩):=HQ.out.cell 2;have kq3:w6.cell? ⟨w.heap.size,3,none⟩=some (.string ⟨q.s.2.toArray⟩):=HQ.out.cell 3;have kq4:w6.cell? ⟨w.heap.size,4,none⟩=some (.int .i64 q.t):=HQ.out.cell 4;have kq5:w6.cell? ⟨w.heap.size,5,none⟩=some (.int .i64 q.no):=HQ.out.cell 5;clear hb)
     |fail)
    obtain⟨W7,eW7⟩:∃z,z=w6.alloc (.cells #[.string ⟨#[]⟩,.string ⟨#[]⟩,.pointer none,.int .i64 0] 127):=⟨_,rfl⟩
    have hn:Blk W7 w6.heap.size 127 #[.string ⟨#[]⟩,.string ⟨#[]⟩,.pointer none,.int .i64 0]:=eW7▸Blk.new _ _ _
    replace HQ:=Lib.hid (show Blk W7 _ _ _ from eW7▸HQ.out.alloc _);replace HD:=Lib.hid (show Blk W7 _ _ _ from eW7▸HD.out.alloc _);replace HR:=Lib.hid (show Blk W7 _ _ _ from eW7▸HR.out.alloc _);replace HN1:=Lib.hid (show Blk W7 _ _ _ from eW7▸HN1.out.alloc _)
    replace HK:=Lib.hid (show Kn w W7 B p es none es none n i c from eW7▸HK.out.alloc _)
    rw[←eW7]
    clear eW7 kq0 kq1 kq2 kq3 kq4 kq5
    obtain⟨PN2,ePN2⟩:∃z,z=w6.heap.size:=⟨_,rfl⟩
    rw[←ePN2] at hn⊢
    have HN2:=Lib.hid hn
    clear ePN2 hn
    have kq0:W7.cell? ⟨w.heap.size,0,none⟩=some (.string ⟨q.c.1.toArray⟩):=HQ.out.cell 0
    have kq1:W7.cell? ⟨w.heap.size,1,none⟩=some (.string ⟨q.c.2.toArray⟩):=HQ.out.cell 1
    have kq2:W7.cell? ⟨w.heap.size,2,none⟩=some (.string ⟨q.s.1.toArray⟩):=HQ.out.cell 2
    have kq3:W7.cell? ⟨w.heap.size,3,none⟩=some (.string ⟨q.s.2.toArray⟩):=HQ.out.cell 3
    have kq4:W7.cell? ⟨w.heap.size,4,none⟩=some (.int .i64 q.t):=HQ.out.cell 4
    have kq5:W7.cell? ⟨w.heap.size,5,none⟩=some (.int .i64 q.no):=HQ.out.cell 5
    have kk0:W7.cell? ⟨p.k,0,none⟩=some (.string ⟨p.R.toArray⟩):=HK.out.st.k.blk.cell 0
    go_quiet (fail)
    obtain⟨W8,eW8⟩:∃z,z=W7.drewN nq:=⟨_,rfl⟩
    replace HQ:=Lib.hid (show Blk W8 _ _ _ from eW8▸HQ.out.drewN nq);replace HD:=Lib.hid (show Blk W8 _ _ _ from eW8▸HD.out.drewN nq);replace HR:=Lib.hid (show Blk W8 _ _ _ from eW8▸HR.out.drewN nq);replace HN1:=Lib.hid (show Blk W8 _ _ _ from eW8▸HN1.out.drewN nq);replace HN2:=Lib.hid (show Blk W8 _ _ _ from eW8▸HN2.out.drewN nq)
    replace HK:=Lib.hid (show Kn w W8 B p es none es none n i c from eW8▸HK.out.below (below_drewN (Below.refl _ _) nq))
    rw[←eW8]
    clear eW8 kq0 kq1 kq2 kq3 kq4 kq5
    clear kk0
    have kr0:=HR.out.cell 0
    have kr1:=HR.out.cell 1
    have kr2:=HR.out.cell 2
    have kr3:=HR.out.cell 3
    have kr4:=HR.out.cell 4
    have kr5:=HR.out.cell 5
    have kr6:=HR.out.cell 6
    have fz:=HR.out.frozen
    go_wp2_with (first
     |fail)
    refine bodyPost_ret (v:=.tuple #[.agg reZ,.int .i64 6]) ?_ ?_ ?_
    ·exact results_pair (v:=.agg reZ) 8 9 38 ⟨w.heap.size+1+1,0,none⟩ Tryz.results17 rfl (Wh.load_blk (set7 HR.out _ _ _ _ _ _ _) Tryz.underlying38 (by rfl) re_info) rfl
    ·rfl
    ·exact ans_err ((HK.out.put7 (by omega) HOR.out _ _ _ _ _ _ _).more (by omega)) (by decide)
   |some j2=>
    obtain⟨x2,hj2⟩:=last_of hf2
    have hk2:=keyL_hit hf2 hj2
    have CF2:=Lib.hid (fun(w1:World) (h1:KD w1 B p es n i)=>find_hit h1 HHL.out hf2 hj2)
    have CK:=Lib.hid (fun(w1:World) (h1:KD w1 B p es n i)=>krbtgt_k (r:=p.R) h1 (by have:=HHR.out;omega))
    have HJ2:=Lib.hid hj2;have HK2:=Lib.hid hk2
    clear hf2 hj2 hk2
    go_upto_region 7 with(first
     |(go_at_call 49;refine Calls.mono (CF2.out _ HK.out.st.k) ?_;rintro e w6 ⟨rfl,hb⟩;clear CF2;(try clear kq0 kq1 kq2 kq3 kq4 kq5);replace HQ:=Lib.hid (HQ.out.below hb);replace HD:=Lib.hid (HD.out.below hb);replace HR:=Lib.hid (HR.out.below hb);replace HN1:=Lib.hid (HN1.out.below hb);replace HK:=Lib.hid (HK.out.below hb);have kq0:w6.cell? ⟨w.heap.size,0,none⟩=some (.string ⟨q.c.1.toArray⟩):=HQ.out.cell 0;have kq1:w6.cell? ⟨w.heap.size,1,none⟩=some (.string ⟨q.c.2.toArray⟩):=HQ.out.cell 1;have kq2:w6.cell? ⟨w.heap.size,2,none⟩=some (.string ⟨q.s.1.toArray⟩):=HQ.out.cell 2;have kq3:w6.cell? ⟨w.heap.size,3,none⟩=some (.string ⟨q.s.2.toArray⟩):=HQ.out.cell 3;have kq4:w6.cell? ⟨w.heap.size,4,none⟩=some (.int .i64 q.t):=HQ.out.cell 4;have kq5:w6.cell? ⟨w.heap.size,5,none⟩=some (.int .i64 q.no):=HQ.out.cell 5;clear hb)
     |fail)
    by_cases hne:q.s=kr p.R p.R
    ·skip
     have q1:=eql_pr_yes hne
     replace HRL:=Lib.hid (show(if q.t<now then (7,Ms.re0) else ansL (its es) n q.c q.s ⟨q.c,d,[],now,min q.t (now+mxL)⟩ q.no (keyL (its es) q.c) 3)=r by have:=HRL.out;rw[if_pos ⟨hne,HK2.out.2.2⟩] at this;exact this)
     clear hne
     obtain⟨W7,eW7⟩:∃z,z=w6.alloc (.cells #[.string ⟨(q.s).1.toArray⟩,.string ⟨(q.s).2.toArray⟩,.pointer (some ⟨x2.b,0,none⟩),.int .i64 (x2.it.n:Int)] 127):=⟨_,rfl⟩
     have hn:Blk W7 w6.heap.size 127 #[.string ⟨(q.s).1.toArray⟩,.string ⟨(q.s).2.toArray⟩,.pointer (some ⟨x2.b,0,none⟩),.int .i64 (x2.it.n:Int)]:=eW7▸Blk.new _ _ _
     replace HQ:=Lib.hid (show Blk W7 _ _ _ from eW7▸HQ.out.alloc _);replace HD:=Lib.hid (show Blk W7 _ _ _ from eW7▸HD.out.alloc _);replace HR:=Lib.hid (show Blk W7 _ _ _ from eW7▸HR.out.alloc _);replace HN1:=Lib.hid (show Blk W7 _ _ _ from eW7▸HN1.out.alloc _)
     replace HK:=Lib.hid (show Kn w W7 B p es none es none n i c from eW7▸HK.out.alloc _)
     rw[←eW7]
     clear eW7 kq0 kq1 kq2 kq3 kq4 kq5
     obtain⟨PN2,ePN2⟩:∃z,z=w6.heap.size:=⟨_,rfl⟩
     rw[←ePN2] at hn⊢
     have HN2:=Lib.hid hn
     clear ePN2 hn
     replace HQ:=Lib.hid (show Blk W7.drew _ _ _ from HQ.out.drewN 1);replace HD:=Lib.hid (show Blk W7.drew _ _ _ from HD.out.drewN 1);replace HR:=Lib.hid (show Blk W7.drew _ _ _ from HR.out.drewN 1);replace HN1:=Lib.hid (show Blk W7.drew _ _ _ from HN1.out.drewN 1);replace HN2:=Lib.hid (show Blk W7.drew _ _ _ from HN2.out.drewN 1);replace HK:=Lib.hid HK.out.drew
     go_region_held3 (fun w'=>w'.cell? ⟨p.k,0,none⟩=some (.string ⟨p.R.toArray⟩)∧w'.cell? ⟨w.heap.size,2,none⟩=some (.string ⟨q.s.1.toArray⟩)∧w'.cell? ⟨w.heap.size,3,none⟩=some (.string ⟨q.s.2.toArray⟩)) (exact⟨HK.out.st.k.blk.cell 0,HQ.out.cell 2,HQ.out.cell 3⟩) ((go_at_call 50;refine Calls.mono (CK.out _ HK.out.st.k) ?_;rintro e w8 ⟨rfl,hb⟩;clear CK;replace HQ:=Lib.hid (HQ.out.below hb);replace HD:=Lib.hid (HD.out.below hb);replace HR:=Lib.hid (HR.out.below hb);replace HN1:=Lib.hid (HN1.out.below hb);replace HN2:=Lib.hid (HN2.out.below hb);replace HK:=Lib.hid (HK.out.below hb);clear hb))
     clear q1
     have kq0:w8.cell? ⟨w.heap.size,0,none⟩=some (.string ⟨q.c.1.toArray⟩):=HQ.out.cell 0
     have kq1:w8.cell? ⟨w.heap.size,1,none⟩=some (.string ⟨q.c.2.toArray⟩):=HQ.out.cell 1
     have kq2:w8.cell? ⟨w.heap.size,2,none⟩=some (.string ⟨q.s.1.toArray⟩):=HQ.out.cell 2
     have kq3:w8.cell? ⟨w.heap.size,3,none⟩=some (.string ⟨q.s.2.toArray⟩):=HQ.out.cell 3
     have kq4:w8.cell? ⟨w.heap.size,4,none⟩=some (.int .i64 q.t):=HQ.out.cell 4
     have kq5:w8.cell? ⟨w.heap.size,5,none⟩=some (.int .i64 q.no):=HQ.out.cell 5
     by_cases hti:q.t<now
     ·skip
      have er:r=(7,Ms.re0):=by rw[←HRL.out];rw[if_pos hti]
      subst er
      have d1:decide (q.t<now)=true:=decide_eq_true hti
      clear hti
      have kr0:=HR.out.cell 0
      have kr1:=HR.out.cell 1
      have kr2:=HR.out.cell 2
      have kr3:=HR.out.cell 3
      have kr4:=HR.out.cell 4
      have kr5:=HR.out.cell 5
      have kr6:=HR.out.cell 6
      have fz:=HR.out.frozen
      go_wp2_with (first
       |fail)
      refine bodyPost_ret (v:=.tuple #[.agg reZ,.int .i64 7]) ?_ ?_ ?_
      ·exact results_pair (v:=.agg reZ) 8 9 38 ⟨w.heap.size+1+1,0,none⟩ Tryz.results17 rfl (Wh.load_blk (set7 HR.out _ _ _ _ _ _ _) Tryz.underlying38 (by rfl) re_info) rfl
      ·rfl
      ·exact ans_err ((HK.out.put7 (by omega) HOR.out _ _ _ _ _ _ _).more (by omega)) (by decide)
     ·skip
      have d1:decide (q.t<now)=false:=decide_eq_false hti
      have hd:=HHD.out;have ecsD:=EDD.out;have hs1:=HS1.out;have hs2:=HS2.out;have hj1:=HJ1.out;have hj2:=HJ2.out;have ht:=HTA.out.1;have ha:=HTA.out.2;have hc:=HC.out;have hn:=HNN.out;have hi:=HII.out
      have hP32:(⟨q.c,d,[],now,min q.t (now+1000)⟩:Pt).ss.length=32:=hd
      have HBP:=Lib.hid (built_pt0 hd q.c now (min q.t (now+1000)))
      obtain⟨csP,ecsP⟩:∃z,z=ptA ⟨q.c,d,[],now,min q.t (now+1000)⟩:=⟨_,rfl⟩
      have HPS:=Lib.hid (show csP.size=37 by rw[ecsP];exact ptA_size hP32)
      have HPI:=Lib.hid (show(Tryz.prog.info? 71).map (·.size)=some csP.size by rw[ecsP];exact pt_info hP32)
      have HPO:=Lib.hid (show csP.all (·.oneCell')=true by rw[ecsP];exact ptA_one _)
      obtain⟨rr,err⟩:∃z,z=ansK n x2.it.k x2.it.n q.s ⟨q.c,d,[],now,min q.t (now+1000)⟩ q.no x1.it.k 3:=⟨_,rfl⟩
      have CA:=Lib.hid (fun(w1:World) (h1:KS w1 B p es none n i c)=>ans_k (no:=q.no) (u:=3) (sv:=q.s) (kv:=x2.it.n) (P:=⟨q.c,d,[],now,min q.t (now+1000)⟩) h1 (.inl ⟨j2,x2,hj2,rfl,rfl⟩) (.inl ⟨j1,x1,hj1,rfl,rfl⟩) (by omega) (by omega) (by omega) hP32 hs1 hs2 (by simp))
      rw[←ecsP] at HBP
      simp only[←ecsP,←err] at CA
      rw[show keyA d=csD from ecsD.symm] at HBP
      obtain⟨en,een⟩:∃z,z=min q.t (now+1000):=⟨_,rfl⟩
      rw[←een] at HBP
      have een3:min q.t (now+1000)=en:=een.symm
      clear een
      have hnow:0≤now∧now≤1073741824:=by simpa [tmB,Ms.inB] using ht
      have hn0:=hnow.1
      have hn9:=hnow.2
      have hqt:0≤q.t∧q.t≤1073741824:=by
       have:Ms.prB q.c=true∧Ms.prB q.s=true∧tmB q.t=true∧tmB q.no=true:=by simpa [asB] using ha
       simpa [tmB,Ms.inB] using this.2.2.1
      have hq0:=hqt.1
      have hq9:=hqt.2
      clear hP32 ecsP hnow hqt
      have er:r=rr:=by rw[←HRL.out,if_neg hti,show ansL (its es) n q.c q.s ⟨q.c,d,[],now,min q.t (now+mxL)⟩ q.no (keyL (its es) q.c) 3=ansK n (keyL (its es) q.s) (lastN (its es) q.s) q.s ⟨q.c,d,[],now,min q.t (now+mxL)⟩ q.no (keyL (its es) q.c) 3 from ansL_eq,HK1.out.1,HK2.out.1,HK2.out.2.1];exact err.symm
      subst er
      clear hti err hd ecsD hs1 hs2 hj1 hj2 ht ha hc hn hi
      go_upto_region 12 with(first
       |(refine Mc.wpList_built (by rfl) 71 #[(0,.tmp 75),(1,.tmp 76),(3,.tmp 77),(4,.tmp 82)] (by rfl) csP (by simp only[List.map_toArray,List.map_cons,List.map_nil];exact HBP.out) ?_;clear HBP)
       |(refine Wh.load_g (by rfl) 47 (.tmp 7) (by rfl) (w.heap.size+1) 0 (by rfl) csD _ (Wh.range_blk HD.out) Tryz.underlying47 (by rfl) HDI.out ?_;clear HDI)
       |(refine Wh.store_new (by rfl) 71 (.tmp 13) (.tmp 83) (by rfl) 71 rfl csP (by rfl) (by rfl) (by rw[HPS.out];rfl) HPI.out HPO.out ?_;rintro V hV hb;have HV:=Lib.hid hV;clear kq0 kq1 kq2 kq3 kq4 kq5;replace HQ:=Lib.hid (HQ.out.below hb);replace HD:=Lib.hid (HD.out.below hb);replace HR:=Lib.hid (HR.out.below hb);replace HN1:=Lib.hid (HN1.out.below hb);replace HN2:=Lib.hid (HN2.out.below hb);replace HK:=Lib.hid (HK.out.below hb);have kq0:V.cell? ⟨w.heap.size,0,none⟩=some (.string ⟨q.c.1.toArray⟩):=HQ.out.cell 0;have kq1:V.cell? ⟨w.heap.size,1,none⟩=some (.string ⟨q.c.2.toArray⟩):=HQ.out.cell 1;have kq2:V.cell? ⟨w.heap.size,2,none⟩=some (.string ⟨q.s.1.toArray⟩):=HQ.out.cell 2;have kq3:V.cell? ⟨w.heap.size,3,none⟩=some (.string ⟨q.s.2.toArray⟩):=HQ.out.cell 3;have kq4:V.cell? ⟨w.heap.size,4,none⟩=some (.int .i64 q.t):=HQ.out.cell 4;have kq5:V.cell? ⟨w.heap.size,5,none⟩=some (.int .i64 q.no):=HQ.out.cell 5;clear hb hV HPS HPO;have kb2:V.cell? ⟨PN1,2,none⟩=some (.pointer (some ⟨x1.b,0,none⟩)):=HN1.out.cell 2;have kn0:V.cell? ⟨PN2,0,none⟩=some (.string ⟨(q.s).1.toArray⟩):=HN2.out.cell 0;have kn1:V.cell? ⟨PN2,1,none⟩=some (.string ⟨(q.s).2.toArray⟩):=HN2.out.cell 1;have kn2:V.cell? ⟨PN2,2,none⟩=some (.pointer (some ⟨x2.b,0,none⟩)):=HN2.out.cell 2;have kn3:V.cell? ⟨PN2,3,none⟩=some (.int .i64 (x2.it.n:Int)):=HN2.out.cell 3)
       |fail)
      go_wp2_with (first
       |(refine Wh.load_g (by rfl) 71 (.tmp 13) (by rfl) w8.heap.size 0 (by rfl) csP _ (Wh.range_blk HV.out) Tryz.underlying71 (by rfl) HPI.out ?_;clear HPI)
       |(go_at_call 51;refine Calls.mono (CA.out _ HK.out.st) ?_;rintro e wa ⟨csL,es9,s9,rfl,hre,hka⟩;clear CA kb2 kn0 kn1 kn2 kn3 kq0 kq1 kq2 kq3 kq4 kq5;have hf:=reA_facts hre;have HCS:=Lib.hid hf.1;have HCO:=Lib.hid hf.2.1;have HCI:=Lib.hid hf.2.2;have hrr:=hka.blk HR.out HOR.out.no;have hoo:=hka.off HOR.out HR.out.lt;have HLT:=Lib.hid HR.out.lt;have HSZ:=Lib.hid HK.out.size;replace HR:=Lib.hid hrr;replace HOR:=Lib.hid hoo;replace HK:=Lib.hid (HK.out.trans hka);have HRE:=Lib.hid hre;clear hf hrr hoo hre hka HQ HD HN1 HN2 HV)
       |(refine Wh.store_over (by rfl) 38 (.tmp 8) (.tmp 92) (by rfl) (w.heap.size+1+1) 38 _ HR.out csL (by rfl) (by rfl) (by rw[HCS.out];rfl) HCI.out HCO.out ?_;rintro V2 hV2 hg;replace HR:=Lib.hid hV2;have HG:=Lib.hid hg;clear hV2 hg HCS)
       |fail)
      refine bodyPost_ret (v:=.tuple #[.agg csL,.int .i64 r.1]) ?_ ?_ ?_
      ·exact results_pair (v:=.agg csL) 8 9 38 ⟨w.heap.size+1+1,0,none⟩ Tryz.results17 rfl (Wh.load_blk HR.out Tryz.underlying38 (by rfl) HCI.out) rfl
      ·rfl
      ·exact⟨csL,es9,s9,rfl,HRE.out.over HSZ.out HLT.out HG.out,(HK.out.over (by omega) HOR.out HG.out).more (by omega)⟩
    ·skip
     have er:r=(6,Ms.re0):=by rw[←HRL.out];rw[if_neg (fun x=>hne x.1)]
     subst er
     have q1:=eql_pr_no hne
     clear hne
     obtain⟨W7,eW7⟩:∃z,z=w6.alloc (.cells #[.string ⟨(q.s).1.toArray⟩,.string ⟨(q.s).2.toArray⟩,.pointer (some ⟨x2.b,0,none⟩),.int .i64 (x2.it.n:Int)] 127):=⟨_,rfl⟩
     have hn:Blk W7 w6.heap.size 127 #[.string ⟨(q.s).1.toArray⟩,.string ⟨(q.s).2.toArray⟩,.pointer (some ⟨x2.b,0,none⟩),.int .i64 (x2.it.n:Int)]:=eW7▸Blk.new _ _ _
     replace HQ:=Lib.hid (show Blk W7 _ _ _ from eW7▸HQ.out.alloc _);replace HD:=Lib.hid (show Blk W7 _ _ _ from eW7▸HD.out.alloc _);replace HR:=Lib.hid (show Blk W7 _ _ _ from eW7▸HR.out.alloc _);replace HN1:=Lib.hid (show Blk W7 _ _ _ from eW7▸HN1.out.alloc _)
     replace HK:=Lib.hid (show Kn w W7 B p es none es none n i c from eW7▸HK.out.alloc _)
     rw[←eW7]
     clear eW7 kq0 kq1 kq2 kq3 kq4 kq5
     obtain⟨PN2,ePN2⟩:∃z,z=w6.heap.size:=⟨_,rfl⟩
     rw[←ePN2] at hn⊢
     have HN2:=Lib.hid hn
     clear ePN2 hn
     replace HQ:=Lib.hid (show Blk W7.drew _ _ _ from HQ.out.drewN 1);replace HD:=Lib.hid (show Blk W7.drew _ _ _ from HD.out.drewN 1);replace HR:=Lib.hid (show Blk W7.drew _ _ _ from HR.out.drewN 1);replace HN1:=Lib.hid (show Blk W7.drew _ _ _ from HN1.out.drewN 1);replace HN2:=Lib.hid (show Blk W7.drew _ _ _ from HN2.out.drewN 1);replace HK:=Lib.hid HK.out.drew
     go_region_held3 (fun w'=>w'.cell? ⟨p.k,0,none⟩=some (.string ⟨p.R.toArray⟩)∧w'.cell? ⟨w.heap.size,2,none⟩=some (.string ⟨q.s.1.toArray⟩)∧w'.cell? ⟨w.heap.size,3,none⟩=some (.string ⟨q.s.2.toArray⟩)) (exact⟨HK.out.st.k.blk.cell 0,HQ.out.cell 2,HQ.out.cell 3⟩) ((go_at_call 50;refine Calls.mono (CK.out _ HK.out.st.k) ?_;rintro e w8 ⟨rfl,hb⟩;clear CK;replace HQ:=Lib.hid (HQ.out.below hb);replace HD:=Lib.hid (HD.out.below hb);replace HR:=Lib.hid (HR.out.below hb);replace HN1:=Lib.hid (HN1.out.below hb);replace HN2:=Lib.hid (HN2.out.below hb);replace HK:=Lib.hid (HK.out.below hb);clear hb))
     clear q1
     have kr0:=HR.out.cell 0
     have kr1:=HR.out.cell 1
     have kr2:=HR.out.cell 2
     have kr3:=HR.out.cell 3
     have kr4:=HR.out.cell 4
     have kr5:=HR.out.cell 5
     have kr6:=HR.out.cell 6
     have fz:=HR.out.frozen
     go_wp2_with (first
      |fail)
     refine bodyPost_ret (v:=.tuple #[.agg reZ,.int .i64 6]) ?_ ?_ ?_
     ·exact results_pair (v:=.agg reZ) 8 9 38 ⟨w.heap.size+1+1,0,none⟩ Tryz.results17 rfl (Wh.load_blk (set7 HR.out _ _ _ _ _ _ _) Tryz.underlying38 (by rfl) re_info) rfl
     ·rfl
     ·exact ans_err ((HK.out.put7 (by omega) HOR.out _ _ _ _ _ _ _).more (by omega)) (by decide)
  ·skip
   have er:r=(5,Ms.re0):=by rw[←HRL.out];rw[if_neg (fun x=>hr x.1)]
   subst er
   have t1:(q.c.1==p.R)=false:=by simpa using hr
   clear hr
   have kq0:W4.cell? ⟨w.heap.size,0,none⟩=some (.string ⟨q.c.1.toArray⟩):=HQ.out.cell 0
   have kq1:W4.cell? ⟨w.heap.size,1,none⟩=some (.string ⟨q.c.2.toArray⟩):=HQ.out.cell 1
   have kq2:W4.cell? ⟨w.heap.size,2,none⟩=some (.string ⟨q.s.1.toArray⟩):=HQ.out.cell 2
   have kq3:W4.cell? ⟨w.heap.size,3,none⟩=some (.string ⟨q.s.2.toArray⟩):=HQ.out.cell 3
   have kq4:W4.cell? ⟨w.heap.size,4,none⟩=some (.int .i64 q.t):=HQ.out.cell 4
   have kq5:W4.cell? ⟨w.heap.size,5,none⟩=some (.int .i64 q.no):=HQ.out.cell 5
   have kk0:W4.cell? ⟨p.k,0,none⟩=some (.string ⟨p.R.toArray⟩):=HK.out.st.k.blk.cell 0
   go_quiet (fail)
   obtain⟨W5,eW5⟩:∃z,z=W4.drewN nq:=⟨_,rfl⟩
   replace HQ:=Lib.hid (show Blk W5 _ _ _ from eW5▸HQ.out.drewN nq);replace HD:=Lib.hid (show Blk W5 _ _ _ from eW5▸HD.out.drewN nq);replace HR:=Lib.hid (show Blk W5 _ _ _ from eW5▸HR.out.drewN nq);replace HN1:=Lib.hid (show Blk W5 _ _ _ from eW5▸HN1.out.drewN nq)
   replace HK:=Lib.hid (show Kn w W5 B p es none es none n i c from eW5▸HK.out.below (below_drewN (Below.refl _ _) nq))
   rw[←eW5]
   clear eW5 kq0 kq1 kq2 kq3 kq4 kq5
   clear kk0
   have kr0:=HR.out.cell 0
   have kr1:=HR.out.cell 1
   have kr2:=HR.out.cell 2
   have kr3:=HR.out.cell 3
   have kr4:=HR.out.cell 4
   have kr5:=HR.out.cell 5
   have kr6:=HR.out.cell 6
   have fz:=HR.out.frozen
   go_wp2_with (first
    |fail)
   refine bodyPost_ret (v:=.tuple #[.agg reZ,.int .i64 5]) ?_ ?_ ?_
   ·exact results_pair (v:=.agg reZ) 8 9 38 ⟨w.heap.size+1+1,0,none⟩ Tryz.results17 rfl (Wh.load_blk (set7 HR.out _ _ _ _ _ _ _) Tryz.underlying38 (by rfl) re_info) rfl
   ·rfl
   ·exact ans_err ((HK.out.put7 (by omega) HOR.out _ _ _ _ _ _ _).more (by omega)) (by decide)
theorem as_any {q:As} {d:Nm.L} {now:Int} (h:KS w B p es none n i c) (hc:c<800000) (hn:n<800000) (hi:i<800000) (hl:es.length≤1000) (hR:p.R.length≤1000) (hd:d.length=32) (hs1:pSm q.c) (hs2:pSm q.s) :
  Calls Tryz.prog 17 #[.pointer (some ⟨p.k,0,none⟩),.agg (asA q),.int .i64 now,.agg (keyA d)] w (AnsR w B p es none n i (c+4) (asL p.R (its es) n q now d)):=by
 cases ht:tmB now with
 |false=>unfold asL;rw[ht];exact as_1 h hc hn hi hl hR hd hs1 hs2 ht
 |true=>
  cases ha:asB q with
  |false=>unfold asL;rw[ht,ha];exact as_2 h hc hn hi hl hR hd hs1 hs2 ht ha
  |true=>exact as_core h hc hn hi hl hR hd hs1 hs2 ht ha rfl
end
end Go.Proofs.YtfcjeebnkigeaaaGreat.Kd
end
