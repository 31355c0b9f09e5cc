import Derived.Deep.LoopGhost
import Derived.Lib.AppendStr
import Derived.DeepKeys
import Derived.Laws.StructEq
import Derived.BigQuiet
import Derived.Deep.QuietTactic
import Derived.StillTailTactics
import Derived.Deep.RegionHeld3
import Derived.Laws.OwnMore
import Derived.Test.YtfcjeebnkigeaaaGreatZKdcUnknown1
import Derived.Test.YtfcjeebnkigeaaaGreatZKdcUnknown2
import Derived.Test.YtfcjeebnkigeaaaGreatZKdcUnknown3
import Derived.Test.YtfcjeebnkigeaaaGreatZKdcUnknown4
import Derived.Test.YtfcjeebnkigeaaaGreatZKdcUnknown5
import Derived.Test.YtfcjeebnkigeaaaGreatZKdcUnknown6
import Derived.Test.YtfcjeebnkigeaaaGreatZKdcUnknown7
import Derived.Test.YtfcjeebnkigeaaaGreatZKdcUnknown8
import Derived.Test.YtfcjeebnkigeaaaGreatZKdcUnknown9
import Derived.Test.YtfcjeebnkigeaaaGreatZKdcUnknown10
import Derived.Test.YtfcjeebnkigeaaaGreatZKdcUnknown11
import Derived.Test.YtfcjeebnkigeaaaGreatZKdcUnknown12
import Derived.Test.YtfcjeebnkigeaaaGreatZKdcUnknown13
import Derived.Test.YtfcjeebnkigeaaaGreatZKdcUnknown14
import Derived.Test.YtfcjeebnkigeaaaGreatZKdcUnknown15
import Derived.Test.YtfcjeebnkigeaaaGreatZKdcUnknown16
import Derived.Test.YtfcjeebnkigeaaaGreatZKdcUnknown17
import Derived.Test.YtfcjeebnkigeaaaGreatZKdcUnknown22
import Derived.Test.YtfcjeebnkigeaaaGreatZKdcUnknown23
import Derived.Test.YtfcjeebnkigeaaaGreatZKdcUnknown24
import Derived.Test.YtfcjeebnkigeaaaGreatZKdcUnknown25
section
set_option linter.unusedVariables false
namespace Go.Proofs.YtfcjeebnkigeaaaGreat.Tr
open Go.RowKit Go.Proofs.YtfcjeebnkigeaaaGreat.Mem Go.Proofs.YtfcjeebnkigeaaaGreat.Nm
attribute [local go_sem] mk_at List.getElem_cons_zero List.getElem_cons_succ ext_tail ext_drop ext_mid ext_take
theorem told_dot {f p:L} (h:sufL [46] f=true):toldL f p=f++p:=by rw[toldL,if_pos h]
theorem told_sl {f p:L} (h:sufL [46] f=false) (h1:preB [47] f=true) (h2:kindL p=2):toldL f p=p++f:=by rw[toldL,h,h1,h2];rfl
theorem told_bl {f p:L} (h:sufL [46] f=false) (h1:preB [47] f=false∨kindL p≠2) (h2:preB [32,47] f=true):toldL f p=f.drop 1:=by
 rw[toldL,h,h2]
 rcases h1 with h1 | h1
 ·rw[h1];rfl
 ·rw[decide_eq_false h1];simp
theorem told_as {f p:L} (h:sufL [46] f=false) (h1:preB [47] f=false∨kindL p≠2) (h2:preB [32,47] f=false):toldL f p=f:=by
 rw[toldL,h,h2]
 rcases h1 with h1 | h1
 ·rw[h1];rfl
 ·rw[decide_eq_false h1];simp
theorem tp_blank {f:L} (h:preB [32,47] f=true):tpL [32] f=f.drop 1:=by
 obtain⟨u,rfl⟩:=preB_iff.1 h
 rw[tpL,if_pos (show preB [32] ([32,47]++u)=true from preB_iff.2 ⟨47 :: u,rfl⟩)];rfl
set_option maxHeartbeats 800000 in
theorem told_any (f p:L) (w:World) (hs:f.length≤100000) (hp:p.length≤100000):Calls Tryz.prog 239 #[.string ⟨f.toArray⟩,.string ⟨p.toArray⟩] w fun e w'=>
  e = .returned (.string ⟨(toldL f p).toArray⟩)∧Drawn w w':=by
 have c1:=shassuffix_any f [46] w (by omega) (by decide)
 have HD:=Lib.hid (Drawn.refl w)
 cases h:sufL [46] f with
 |true=>
  have E:=Lib.hid ((mk_append f p).trans (by rw[←told_dot (p:=p) h]))
  rw[h] at c1
  clear h
  go_enter Tryz.func239,Tryz.ntmps239
  go_wp2_with (go_at_call 272;refine Calls.mono c1 ?_;rintro e w1 ⟨rfl,rfl⟩)
  go_ret
  exact⟨by rw[←E.out];rfl,HD.out⟩
 |false=>
  rw[h] at c1
  have c2:=shasprefix_any f [47] w (by omega) (by decide)
  have C3:=Lib.hid (fun w1=>shasprefix_any f [32,47] w1 (by omega) (by decide))
  have C4:=Lib.hid (fun w1=>trimprefix_any f [32] w1 (by omega) (by decide))
  have c5:=kind_any p w (by omega)
  cases h1:preB [47] f with
  |true=>
   rw[h1] at c2
   by_cases h2:kindL p=2
   ·have E:=Lib.hid ((mk_append p f).trans (by rw[←told_sl h h1 h2]))
    rw[h2] at c5
    clear h h1 h2 C3 C4
    go_enter Tryz.func239,Tryz.ntmps239
    go_wp2_with (first
     |(go_at_call 272;refine Calls.mono c1 ?_;rintro e w1 ⟨rfl,rfl⟩)
     |(go_at_call 273;refine Calls.mono c2 ?_;rintro e w1 ⟨rfl,rfl⟩)
     |(go_at_call 212;refine Calls.mono c5 ?_;rintro e w2 ⟨rfl,hd⟩;have H2:=Lib.hid hd;clear hd c5))
    go_ret
    exact⟨by rw[←E.out];rfl,H2.out⟩
   ·have t:((kindL p:Int)==2)=false:=by simp;omega
    cases h3:preB [32,47] f with
    |true=>
     exfalso
     obtain⟨u,e⟩:=preB_iff.1 h1
     obtain⟨v,g⟩:=preB_iff.1 h3
     rw[e] at g
     have:=congrArg List.head? g
     revert this;simp
    |false=>
     have c3:=fun w1=>C3.out w1
     rw[h3] at c3
     have C3':=Lib.hid c3
     have E:=Lib.hid (told_as h (.inr h2) h3)
     clear h h1 h2 h3 C3 C4 c3
     go_enter Tryz.func239,Tryz.ntmps239
     go_wp2_with (first
      |(go_at_call 272;refine Calls.mono c1 ?_;rintro e w1 ⟨rfl,rfl⟩)
      |(go_at_call 273;refine Calls.mono c2 ?_;rintro e w1 ⟨rfl,rfl⟩;clear c2)
      |(go_at_call 212;refine Calls.mono c5 ?_;rintro e w2 ⟨rfl,hd⟩;have H2:=Lib.hid hd;clear hd c5;have c3:=C3'.out w2)
      |(go_at_call 273;refine Calls.mono c3 ?_;rintro e w3 ⟨rfl,rfl⟩))
     go_ret
     exact⟨by rw[E.out];rfl,H2.out⟩
  |false=>
   rw[h1] at c2
   cases h3:preB [32,47] f with
   |true=>
    have c3:=C3.out w
    rw[h3] at c3
    have c4:=C4.out w
    rw[tp_blank h3,←told_bl (p:=p) h (.inl h1) h3] at c4
    clear h h1 h3 C3 C4
    go_enter Tryz.func239,Tryz.ntmps239
    go_wp2_with (first
     |(go_at_call 272;refine Calls.mono c1 ?_;rintro e w1 ⟨rfl,rfl⟩)
     |(go_at_call 273;refine Calls.mono c2 ?_;rintro e w1 ⟨rfl,rfl⟩;clear c2)
     |(go_at_call 273;refine Calls.mono c3 ?_;rintro e w3 ⟨rfl,rfl⟩)
     |(go_at_call 274;refine Calls.mono c4 ?_;rintro e w3 ⟨rfl,rfl⟩))
    go_ret
    exact⟨rfl,HD.out⟩
   |false=>
    have c3:=C3.out w
    rw[h3] at c3
    have E:=Lib.hid (told_as (p:=p) h (.inl h1) h3)
    clear h h1 h3 C3 C4
    go_enter Tryz.func239,Tryz.ntmps239
    go_wp2_with (first
     |(go_at_call 272;refine Calls.mono c1 ?_;rintro e w1 ⟨rfl,rfl⟩)
     |(go_at_call 273;refine Calls.mono c2 ?_;rintro e w1 ⟨rfl,rfl⟩;clear c2)
     |(go_at_call 273;refine Calls.mono c3 ?_;rintro e w3 ⟨rfl,rfl⟩))
    go_ret
    exact⟨by rw[E.out];rfl,HD.out⟩
end Go.Proofs.YtfcjeebnkigeaaaGreat.Tr
end

section
set_option linter.unusedVariables false
namespace Go.Proofs.YtfcjeebnkigeaaaGreat.Tr
open Go.RowKit Go.Proofs.YtfcjeebnkigeaaaGreat.Mem Go.Proofs.YtfcjeebnkigeaaaGreat.Nm
attribute [local go_sem] mk_at List.getElem_cons_zero List.getElem_cons_succ ext_tail ext_drop ext_mid ext_take
def OwnB (w:World) (base:Nat) (v:Value) (l:L):Prop:=w.ownsRow base 5 1 v l.length (bvs l)
theorem OwnB.nil (w:World) (base:Nat):OwnB w base (.slice none 0 0) []:=World.ownsRow_nil w base _ 1
theorem OwnB.below {w w':World} {base:Nat} {v:Value} {l:L} (h:OwnB w base v l) (hb:Below w.heap.size w w'):OwnB w' base v l:=own_kept h hb
theorem OwnB.slice {w:World} {base:Nat} {v:Value} {l:L} (h:OwnB w base v l):∃A c,v = .slice A l.length c∧Rd w w.heap.size A (bvs l):=by
 have h':=h
 rcases h.2 with⟨h1,h2⟩ | ⟨g,cap,cur,h1,_⟩
 ·have e:l = []:=List.eq_nil_of_length_eq_zero h2
  subst e
  exact⟨none,0,h1,.inl rfl⟩
 ·subst h1
  exact⟨_,cap,rfl,Rd.of_own (n:=l.length) (cap:=cap) h'⟩
section
variable {w:World} {ops:Array Oper} {rest:List Oper} {o:Oper} {a:Act} {Q:Exit→Act→World→Prop}
end
theorem all_take {ls:List L} {i:Nat} (h:(ls.take i).all isL=true) (hi:i<ls.length) (hx:isL (pl ls i)=true):(ls.take (i+1)).all isL=true:=by
 rw[take_succ_pl hi,List.all_append,h];simp [hx]
end Go.Proofs.YtfcjeebnkigeaaaGreat.Tr
end

section
set_option linter.unusedVariables false
set_option linter.unusedSimpArgs false
namespace Go.Proofs.YtfcjeebnkigeaaaGreat.Kd
open Go.RowKit Go.Proofs.YtfcjeebnkigeaaaGreat.Mem Go.Proofs.YtfcjeebnkigeaaaGreat.Se
open Go.Proofs.YtfcjeebnkigeaaaGreat.Rg (It Ent Ring RO its lastI lastN)
open Go.Proofs.YtfcjeebnkigeaaaGreat.SeL (sealR)
open Go.Proofs.YtfcjeebnkigeaaaGreat.Ms (Pt Rp Re Tk As Tg pSm tmB asB tgB ptB ptO tgC mgO)
open Go.Proofs.YtfcjeebnkigeaaaGreat.Nm (krb)
open Go.Proofs.YtfcjeebnkigeaaaGreat.Nm (isL)
open Go.Proofs.YtfcjeebnkigeaaaGreat.Rt (Sm)
abbrev tgA (q:Tg) (b a:Value):Array Value:=#[.string ⟨q.t.s.1.toArray⟩,.string ⟨q.t.s.2.toArray⟩,.int .i64 q.t.k,b,a,.string ⟨q.s.1.toArray⟩,.string ⟨q.s.2.toArray⟩,.int .i64 q.u,.int .i64 q.no]
theorem tg_info:(Tryz.prog.info? 34).map (·.size)=some 9:=by kernel_rfl
section
variable {w:World} {B:Nat} {p:KP} {es:List Ent} {s:Option Ss} {n i c:Nat}
end
end Go.Proofs.YtfcjeebnkigeaaaGreat.Kd
end

section
set_option linter.unusedVariables false
set_option linter.unusedSimpArgs false
namespace Go.Proofs.YtfcjeebnkigeaaaGreat.Kd
open Go.RowKit Go.Proofs.YtfcjeebnkigeaaaGreat.Mem Go.Proofs.YtfcjeebnkigeaaaGreat.Se
open Go.Proofs.YtfcjeebnkigeaaaGreat.Rg (It Ent Ring RO its lastI lastN)
open Go.Proofs.YtfcjeebnkigeaaaGreat.SeL (sealR)
open Go.Proofs.YtfcjeebnkigeaaaGreat.Ms (Pt Rp Re Tk As Tg Mg Fa pSm mSm tmB asB tgB ptB mgO tgC asC reC as0 tg0 re0 ap0 fa0)
open Go.Proofs.YtfcjeebnkigeaaaGreat.Nm (krb)
open Go.Proofs.YtfcjeebnkigeaaaGreat.Rt (Sm)
section
variable {w:World} {B:Nat} {p:KP} {es:List Ent} {s:Option Ss} {n i c:Nat}
def MgK (S:Nat→Prop) (w:World) (ds:Array Value) (m:Mg):Prop:=
 ∃bv av pr pp pf,ds=Mc.mgA m.k (asA m.aq) (tgA m.tg bv av) pr pp pf∧SlN S w bv m.tg.t.b∧SlN S w av m.tg.a∧Mc.MgP w w.heap.size (asA m.aq) (tgA m.tg bv av) pr pp pf m
theorem MgK.size {S:Nat→Prop} {ds:Array Value} {m:Mg} (h:MgK S w ds m):ds.size=30∧ds.all (·.oneCell')=true∧(Tryz.prog.info? 93).map (·.size)=some ds.size:=by
 obtain⟨bv,av,pr,pp,pf,h1,_,_,h4⟩:=h
 have hs:ds.size=30:=by rw[h1];exact h4.size m.k
 refine⟨hs,by rw[h1];exact h4.one m.k,by rw[hs];exact Mc.mg_info⟩
theorem MgK.at_ {S:Nat→Prop} {ds:Array Value} {m:Mg} (h:MgK S w ds m):∃bv av,SlN S w bv m.tg.t.b∧SlN S w av m.tg.a∧∀(w1:World) (g:Nat) (t:TypeId),Blk w1 g t ds→w1.cell? ⟨g,0,none⟩=some (.int .i64 m.k)∧w1.rangeAt g 1 (asA m.aq).toList∧w1.rangeAt g 7 (tgA m.tg bv av).toList:=by
 obtain⟨bv,av,pr,pp,pf,h1,h2,h3,h4⟩:=h
 refine⟨bv,av,h2,h3,fun w1 g t hb=>?_⟩
 subst h1
 have:=h4.at_ hb
 exact⟨this.k,this.a,this.t⟩
end
end Go.Proofs.YtfcjeebnkigeaaaGreat.Kd
end
