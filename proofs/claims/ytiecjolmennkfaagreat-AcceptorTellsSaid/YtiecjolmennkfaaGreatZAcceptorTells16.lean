import Derived.Test.YtiecjolmennkfaaGreatZAcceptorTells14
set_option maxHeartbeats 25600000
set_option maxRecDepth 100000
set_option linter.unusedVariables false
set_option linter.unusedSimpArgs false
namespace Go.Proofs.YtiecjolmennkfaaGreat
namespace Kd
open Go.RowKit Af Se
open Rg (It Ent Ring RO its Ae)
open SeL (Cw BM)
open Ms (Pt Rp Re ptO pSm reC tkC prC)
theorem set4 {w:World} {g:Nat} {t:TypeId} {z0 M z2 O:Value} (Z:Blk w g t #[z0,M,z2,O]) (a b c d:Value):Blk ((((w.setCell ⟨g,0,none⟩ a).setCell ⟨g,1,none⟩ b).setCell ⟨g,2,none⟩ c).setCell ⟨g,3,none⟩ d) g t #[a,b,c,d]:=
 (((Z.set 0 a).set 1 b).set 2 c).set 3 d
def Off (p:KP) (es:List Ent) (s:Option Ss) (g:Nat):Prop:=∀j,KA p es j\/SO s j->j≠g
theorem Off.no {p:KP} {es:List Ent} {s:Option Ss} {g:Nat} (h:Off p es s g):¬KSO p es s g:=fun x=>by
 rcases x with x | x
 ·exact h g (.inl (.inl x)) rfl
 ·exact h g (.inr x) rfl
def SlX (X:Nat->Prop) (p:KP) (es:List Ent) (s:Option Ss) (w:World) (v:Value) (l:Nm.L):Prop:=SlN (fun j=>KSO p es s j\/X j) w v l
section
variable {X Y:Nat->Prop} {p:KP} {es0 es:List Ent} {s0 s:Option Ss} {w0 w:World} {B n i c:Nat} {v:Value} {l:Nm.L}
theorem SlX.below {w':World} (h:SlX X p es s w v l) (M:Below w.heap.size w w'):SlX X p es s w' v l:=SlN.below h M
theorem SlX.up (h:SlX X p es s w v l) (g:Nat) (M:w.heap.size<=g):SlX (fun j=>X j\/j=g) p es s w v l:=h.mono (fun j O x=>by
 rcases x with x | x | x
 ·exact .inl x
 ·exact .inr x
 ·omega)
theorem SlX.o {a:World} (h:SlX X p es s w v l) (M:∀j,j<a.heap.size->X j):SlN (Out a p es s) w v l:=h.mono (fun j _ x=>by
 rcases x with x | x
 ·exact .inr (M j x)
 ·exact .inl x)
end
end Kd
namespace Ac
open Go.RowKit Af Se Kd
abbrev z2:Array Value:=#[.string ⟨#[]⟩,.string ⟨#[]⟩]
theorem bp (w:World):Calls Tryz.prog 6 #[] w fun e w'=>e=.returned (prV pAnn)/\Below w.heap.size w w':=by
 obtain⟨W,M⟩:=Ak (w.alloc (.cells z2 30));have O:=I (show Blk W w.heap.size 30 z2 from M▸Blk.new w _ _);have HB:=I (show Below w.heap.size w W from M▸Ah.alloc Ag _);go_enter Tryz.func6,Tryz.ntmps6
 go_upto_region 1 with fail
 rw[<-M];clear M;have Z:=O.o.cell 0;have av:=O.o.cell 1;have fz:=O.o.frozen
 go_wp2
 have hz:Blk _ w.heap.size 30 #[.string ⟨pAnn.1.toArray⟩,.string ⟨pAnn.2.toArray⟩]:=(O.o.set 0 (.string ⟨pAnn.1.toArray⟩)).set 1 (.string ⟨pAnn.2.toArray⟩);refine bodyPost_ret (v:=prV pAnn) ?_ ?_ ?_
 ·exact Wh.Au (v:=prV pAnn) 0 30 ⟨w.heap.size,0,none⟩ Tryz.results6 (by rfl) (Wh.Ao hz Tryz.underlying30 (by rfl) Ds)
 ·rfl
 ·exact⟨rfl,Si.AS (Si.AS HB.o (by simp) _) (by simp) _⟩
theorem Vf (w:World):Calls Tryz.prog 9 #[] w fun e w'=>e=.returned (prV pSv)/\Below w.heap.size w w':=by
 obtain⟨W,M⟩:=Ak (w.alloc (.cells z2 30));have O:=I (show Blk W w.heap.size 30 z2 from M▸Blk.new w _ _);have HB:=I (show Below w.heap.size w W from M▸Ah.alloc Ag _);go_enter Tryz.func9,Tryz.ntmps9
 go_upto_region 1 with fail
 rw[<-M];clear M;have Z:=O.o.cell 0;have av:=O.o.cell 1;have fz:=O.o.frozen
 go_wp2
 have hz:Blk _ w.heap.size 30 #[.string ⟨pSv.1.toArray⟩,.string ⟨pSv.2.toArray⟩]:=(O.o.set 0 (.string ⟨pSv.1.toArray⟩)).set 1 (.string ⟨pSv.2.toArray⟩);refine bodyPost_ret (v:=prV pSv) ?_ ?_ ?_
 ·exact Wh.Au (v:=prV pSv) 0 30 ⟨w.heap.size,0,none⟩ Tryz.results9 (by rfl) (Wh.Ao hz Tryz.underlying30 (by rfl) Ds)
 ·rfl
 ·exact⟨rfl,Si.AS (Si.AS HB.o (by simp) _) (by simp) _⟩
open Nm (krb strs)
open Rt (SlV SlP RdP kl)
theorem eS (w:World):Calls Tryz.prog 15 #[] w fun e w'=>∃v1 v2,e=.returned (.agg (tpA v1 v2))/\TpK (fun b=>w.heap.size<=b/\b<w'.heap.size) w' v1 v2 (.slice none 0 0) tT/\Below w.heap.size w w':=by
 obtain⟨W,eW⟩:=Ak (w.alloc (.cells (tpA (.slice none 0 0) (.slice none 0 0)) 64));have O:=I (show Blk W w.heap.size 64 (tpA (.slice none 0 0) (.slice none 0 0)) from eW▸Blk.new w _ _);have HB:=I (show Below w.heap.size w W from eW▸Ah.alloc Ag _);have bz:=I (show W.heap.size=w.heap.size+1 by rw[eW];simp);go_enter Tryz.func15,Tryz.ntmps15
 go_upto_region 1 with fail
 rw[<-eW];clear eW;have bq:=O.o.cell 0;have bs:=O.o.cell 1;have bn:=O.o.cell 2;have fz:=O.o.frozen;have lz:=O.o.lt;have bx:w.heap.size<W.heap.size+1:=by omega
 go_wp2
 obtain⟨X,Z⟩:=Ak (((W.setCell ⟨w.heap.size,0,none⟩ (.slice (some ⟨W.heap.size,0,none⟩) 3 3)).setCell ⟨w.heap.size,1,none⟩ (.slice (some ⟨W.heap.size+1,0,none⟩) 4 4)).setCell ⟨w.heap.size,2,none⟩ (.slice none 0 0));have hx:Blk X w.heap.size 64 (tpA (.slice (some ⟨W.heap.size,0,none⟩) 3 3) (.slice (some ⟨W.heap.size+1,0,none⟩) 4 4)):=Z▸((O.o.set 0 (.slice (some ⟨W.heap.size,0,none⟩) 3 3)).set 1 (.slice (some ⟨W.heap.size+1,0,none⟩) 4 4)).set 2 (.slice none 0 0);have av:X.heap.size=W.heap.size:=by rw[Z];simp
 have aw:Below w.heap.size w X:=Z▸Si.AS (Si.AS (Si.AS HB.o (by simp) _) (by simp) _) (by simp) _;rw[<-Z];clear Z bq bs bn fz;obtain⟨V,eV⟩:=Ak ((X.alloc (.cells #[.string ⟨#[65,46,69,68,85]⟩,.string ⟨#[69,68,85]⟩,.string ⟨#[66,46,69,68,85]⟩] 9)).alloc (.cells #[.string ⟨#[65,46,69,68,85]⟩,.string ⟨#[69,68,85]⟩,.string ⟨#[69,68,85]⟩,.string ⟨#[65,46,69,68,85]⟩,.string ⟨#[69,68,85]⟩,.string ⟨#[66,46,69,68,85]⟩,.string ⟨#[66,46,69,68,85]⟩,.string ⟨#[69,68,85]⟩] 121));have hb:Below X.heap.size X V:=eV▸(Ah.alloc Ag _).alloc (by simp) _;have bb:Blk V W.heap.size 9 #[.string ⟨#[65,46,69,68,85]⟩,.string ⟨#[69,68,85]⟩,.string ⟨#[66,46,69,68,85]⟩]:=by rw[<-av];exact eV▸(Blk.new X _ _).alloc _
 have M:Blk V (W.heap.size+1) 121 #[.string ⟨#[65,46,69,68,85]⟩,.string ⟨#[69,68,85]⟩,.string ⟨#[69,68,85]⟩,.string ⟨#[65,46,69,68,85]⟩,.string ⟨#[69,68,85]⟩,.string ⟨#[66,46,69,68,85]⟩,.string ⟨#[66,46,69,68,85]⟩,.string ⟨#[69,68,85]⟩]:=by have:=Blk.new (X.alloc (.cells #[.string ⟨#[65,46,69,68,85]⟩,.string ⟨#[69,68,85]⟩,.string ⟨#[66,46,69,68,85]⟩] 9)) 121 #[.string ⟨#[65,46,69,68,85]⟩,.string ⟨#[69,68,85]⟩,.string ⟨#[69,68,85]⟩,.string ⟨#[65,46,69,68,85]⟩,.string ⟨#[69,68,85]⟩,.string ⟨#[66,46,69,68,85]⟩,.string ⟨#[66,46,69,68,85]⟩,.string ⟨#[69,68,85]⟩];simp only[World.size_alloc] at this;rw[<-av];exact eV▸this
 have hz:=hx.below hb;rw[<-eV];clear eV;refine bodyPost_ret (v:=.agg (tpA (.slice (some ⟨W.heap.size,0,none⟩) 3 3) (.slice (some ⟨W.heap.size+1,0,none⟩) 4 4))) ?_ ?_ ?_
 ·exact Wh.Au (v:=.agg (tpA (.slice (some ⟨W.heap.size,0,none⟩) 3 3) (.slice (some ⟨W.heap.size+1,0,none⟩) 4 4))) 0 64 ⟨w.heap.size,0,none⟩ Tryz.results15 (by rfl) (Wh.Ao hz Tryz.underlying64 (by rfl) (by kernel_rfl))
 ·rfl
 ·have h1:=bb.lt
  have h2:=M.lt;refine⟨_,_,rfl,⟨⟨_,3,rfl,Nat.le_refl _,.inr ⟨_,0,rfl,⟨by omega,h1⟩,fun i u hu=>?_⟩⟩,⟨_,4,rfl,Nat.le_refl _,.inr ⟨_,0,rfl,⟨by omega,h2⟩,fun i hi=>?_⟩⟩,rfl,rfl⟩,aw.trans (hb.mono aw.size)⟩
  ·rw[Nat.zero_add,bb.cell]
   have e:(strs tT.R)[i]? = (strs tT.R).toArray[i]?:=by simp
   rw[e] at hu;exact hu
  ·have hi:i<4:=hi
   rw[Nat.zero_add]
   match i,hi with
   |0,_=>exact⟨M.cell 0,M.cell 1⟩
   |1,_=>exact⟨M.cell 2,M.cell 3⟩
   |2,_=>exact⟨M.cell 4,M.cell 5⟩
   |3,_=>exact⟨M.cell 6,M.cell 7⟩
theorem tT_kt:∀x∈tT.K,x.1.length<=3000/\x.2.length<=3000:=by decide
end Ac
namespace Rt
open Go.RowKit Af Nm
theorem Er (ls:List L) (A:Option Addr) (c B:Nat) (r:L) (w:World) (hl:ls.length<=9000000000000000) (hr:Rd w B A (strs ls)) :
  Calls Tryz.prog 36 #[.slice A ls.length c,.string ⟨r.toArray⟩] w fun e w'=>e=.returned (.int .i64 (Tr.ixL r ls))/\w=w':=by
 have HR:=I hr;clear hr;obtain⟨n,en⟩:=Ak (ls.length);rw[<-en] at hl⊢;have O:=I en;clear en;go_enter Tryz.func36,Tryz.ntmps36
 go_wp2
 go_loop [5] (fun Z=>∃i:Nat,i<=n/\Z=.int .i64 (i:Int)/\∀k,k<i->pl ls k≠r) (fun Z=>n - (intOf Z).toNat)
 case atStart=>exact⟨0,Nat.zero_le _,rfl,fun k h=>absurd h (Nat.not_lt_zero k)⟩
 case round=>
  obtain⟨i,hi,rfl,hn⟩:=hrel;have M:=I hn;clear hn
  by_cases hlt:i<n
  ·have e1:(i:Int)<(n:Int):=by omega
   have e2:(0:Int)<=(i:Int):=by omega
   obtain⟨b,o,rfl,_,h1⟩:=CU HR.o (i:=i) (by rw[<-O.o];exact hlt)
   by_cases hx:pl ls i=r
   ·have t1:(pl ls i==r)=true:=by simpa using hx
    have E:=I (Tr.Pu (by rw[<-O.o];exact hlt) hx M.o);clear hx
    go_wp2
    go_ret;exact⟨by rw[E.o];rfl,rfl⟩
   ·have t1:(pl ls i==r)=false:=by simpa using hx
    have HX:=I hx;clear hx
    go_wp2
    go_round
    case rel=>exact⟨i+1,by omega,by go_num,fun k hk=>by
     by_cases q:k=i
     ·rw[q];exact HX.o
     ·exact M.o k (by omega)⟩
    case measure=>simp [intOf];omega
  ·have e1:¬(i:Int)<(n:Int):=by omega
   have E:=I (Tr.SL (ls:=ls) (r:=r) fun k hk=>M.o k (by have:=O.o;omega))
   go_wp2
   go_ret;exact⟨by rw[E.o];rfl,rfl⟩
theorem DI {ls:List L} {r:L} (h:r∈ls):∃z:Int,z=Tr.ixL r ls/\0<=z:=⟨_,rfl,by have:=Tr.Zk r ls;simpa [h] using this⟩
theorem DY {ls:List L} {r:L} (h:r∉ls):∃z:Int,z=Tr.ixL r ls/\z<0:=⟨_,rfl,by have:=Tr.Zk r ls;simpa [h] using this⟩
theorem Vg {w:World} {B b o i:Nat} {ls:List L} (h:Rd w B (some ⟨b,o,none⟩) (strs ls)) (hi:i<ls.length):w.cell? ⟨b,o+i,none⟩=some (.string ⟨(pl ls i).toArray⟩):=by
 obtain⟨O,Z,e,_,M⟩:=CU h hi;injection e with e;injection e with e1 e2;subst e1;subst e2;exact M
theorem OX (ls:List L) (A:Option Addr) (c B:Nat) (w:World) (hl:ls.length<=1000000) (hc:ls.length<=c) (hr:Rd w B A (strs ls)) (hB:B<=w.heap.size) (hs:∀i,i<ls.length->(pl ls i).length<=1000000000) :
  Calls Tryz.prog 71 #[.slice A ls.length c] w fun e w'=>e=.returned (.bool (By ls&&(decide (1<=ls.length)&&decide (ls.length<=6))))/\Below w.heap.size w w':=by
 obtain⟨N,eN⟩:=Ak (w.heap.size);rw[<-eN] at hB⊢;have bs:=I (show Below N w w from Below.refl _ _);have bq:=I eN;clear eN;have aw:=I (show ∀w1:World,Below N w w1->N<=w1.heap.size from fun w1 h=>by have:=h.size;have:=bq.o;omega);have HR:=I hr;clear hr;have IS:=I (fun(i:Nat) (h:i<ls.length) w1=>NH (pl ls i) w1 (hs i h));have PL:=I (fun(i:Nat) (hi:i<ls.length) w1 (h:Rd w1 B A (strs ls))=>Er (ls.take i) A c B (pl ls i) w1 (by simp;omega) (Of h (by omega)));have EQ:=I (show By ls=(ls.all isL&&decide ls.Nodup) from rfl);obtain⟨n,en⟩:=Ak (ls.length);rw[<-en] at hl hc⊢;have EN:=I en;clear en hs;go_enter Tryz.func71,Tryz.ntmps71
 go_wp2
 go_loopw [3] (fun iv wr=>∃i:Nat,i<=n/\iv=.int .i64 (i:Int)/\(ls.take i).all isL=true/\(ls.take i).Nodup/\Below N w wr) (fun iv _=>n - (intOf iv).toNat)
 case atStart=>exact⟨0,Nat.zero_le _,rfl,by simp,by simp,bs.o⟩
 case round=>
  obtain⟨i,hi,rfl,hn,hd,hb⟩:=hrel;have HN:=I hn;clear hn;have HD:=I hd;clear hd;have Z:=I hb;clear hb
  by_cases hlt:i<n
  ·have e1:(i:Int)<(n:Int):=by omega
   have e2:(0:Int)<=(i:Int):=by omega
   have e3:(i:Int)<=(c:Int):=by omega
   have O:i<ls.length:=by rw[<-EN.o];exact hlt
   have hlen:(ls.take i).length=i:=by simp;omega
   have c1:=IS.o i O;have c2:=PL.o i O;rw[hlen] at c2;have bb:=all_succ (p:=isL) O;rw[HN.o,Bool.true_and,<-CO O] at bb;have av:=DJ O;rw[<-CO O] at av;have M:=I (HR.o.below (Z.o.mono hB));obtain⟨b,o,eA,_,h1⟩:=CU M.o O;subst eA;cases hx:isL (pl ls i) with
   |false=>
    rw[hx] at c1;have E:=I (show By ls=false by
     rw[EQ.o,all_false O (by rw[<-CO O];exact hx)];rfl)
    clear c2 bb av hx
    go_wp2
    replace Z:=I (below_drewN Z.o 1);have HC:=I (show ∀w',Reg.Fh wr.drew w'->w'.cell? ⟨b,o+i,none⟩=some (.string ⟨(pl ls i).toArray⟩) from fun w' hS=>Vg ((M.o.drewN 1).below (w':=w') (hS.mono (Nat.le_trans hB (aw.o _ Z.o)))) O);clear h1 O hlen;refine Reg.Cd 17 rfl (by kernel_rfl) ?_;refine Reg.tz 0 rfl ?_;refine Reg.tz 1 rfl ?_;refine Reg.tz 2 rfl ?_;refine Reg.tx 3 rfl (fun w' hS=>by have hh:=HC.o w' hS;go_simp;rfl) ?_;refine Reg.Fi 4 rfl (by kernel_rfl) (by rfl) 64 #[.string ⟨(pl ls i).toArray⟩] (by go_simp) ?_;refine Aj (c1 _) ?_;rintro w1 hb;refine⟨_,rfl,hb,?_⟩;have H1:=I (Z.o.trans (hb.mono (aw.o _ Z.o)));clear hb;simp only[Act.put,U,Aa,Ab];refine Reg.tz 5 rfl ?_;refine Reg.tz 6 rfl ?_;refine Reg.sk 7 rfl ?_;refine Reg.sk 8 rfl ?_;refine Reg.sk 9 rfl ?_;refine Reg.sk 10 rfl ?_;refine Reg.sk 11 rfl ?_;refine Reg.sk 12 rfl ?_;refine Reg.sk 13 rfl ?_;refine Reg.sk 14 rfl ?_;refine Reg.sk 15 rfl ?_;refine Reg.tz 16 rfl ?_;refine wpAnyH_done (by kernel_rfl) ?_ _
    go_wp2
    go_ret;exact⟨by rw[E.o];rfl,H1.o⟩
   |true=>
    rw[hx] at c1;have C1:=I c1;have C2:=I c2;clear c1 c2;have HC:=I (fun w' (h:Rd w' B (some ⟨b,o,none⟩) (strs ls))=>Vg h O)
    by_cases hy:pl ls i∈ls.take i
    ·obtain⟨z,ez,hz⟩:=DI hy
     rw[<-ez] at C2;have z1:decide (0<=z)=true:=decide_eq_true hz;have E:=I (show By ls=false by
      rw[EQ.o,decide_eq_false (fun h=>(av.1 (FT h)).2 hy)];simp)
     clear ez hy hz hx bb av O hlen
     go_wp2
     replace Z:=I (below_drewN Z.o 1);replace M:=I (M.o.drewN 1)
     go_region_held3 (fun w'=>w'.cell? ⟨b,o+i,none⟩=some (.string ⟨(pl ls i).toArray⟩)) (exact HC.o _ M.o) ((first
      |(go_at_call 64;refine Aj (C1.o _) ?_;rintro w1 hb;replace M:=I (M.o.below (hb.mono (Nat.le_trans hB (aw.o _ Z.o))));replace Z:=I (Z.o.trans (hb.mono (aw.o _ Z.o)));clear hb)
      |(go_at_call 36;refine Aj (C2.o _ M.o) ?_;rintro w2 rfl)))
     go_wp2
     go_ret;exact⟨by rw[E.o];rfl,Z.o⟩
    ·obtain⟨z,ez,hz⟩:=DY hy
     rw[<-ez] at C2;have z1:decide (0<=z)=false:=decide_eq_false (by omega);have E:=I (bb.trans hx);have E2:=I (av.2 ⟨HD.o,hy⟩);clear ez hy hz hx bb av O hlen
     go_wp2
     replace Z:=I (below_drewN Z.o 1);replace M:=I (M.o.drewN 1)
     go_region_held3 (fun w'=>w'.cell? ⟨b,o+i,none⟩=some (.string ⟨(pl ls i).toArray⟩)) (exact HC.o _ M.o) ((first
      |(go_at_call 64;refine Aj (C1.o _) ?_;rintro w1 hb;replace M:=I (M.o.below (hb.mono (Nat.le_trans hB (aw.o _ Z.o))));replace Z:=I (Z.o.trans (hb.mono (aw.o _ Z.o)));clear hb)
      |(go_at_call 36;refine Aj (C2.o _ M.o) ?_;rintro w2 rfl)))
     go_wp2
     go_roundw
     case rel=>exact⟨i+1,by omega,by go_num,E.o,E2.o,Z.o⟩
     case measure=>simp [intOf];omega
  ·have e1:¬(i:Int)<(n:Int):=by omega
   have bn:ls.length<=i:=by have:=EN.o;omega
   have E:=I (show By ls=true by
    have h:=HD.o;rw[List.take_of_length_le bn] at h;rw[EQ.o,Dw bn HN.o,decide_eq_true h];rfl)
   by_cases q1:1<=n
   ·have t1:decide ((1:Int)<=(n:Int))=true:=by simp;omega
    by_cases q2:n<=6
    ·have t2:decide ((n:Int)<=6)=true:=by simp;omega
     have E2:=I (show(By ls&&(decide (1<=n)&&decide (n<=6)))=true by rw[E.o,decide_eq_true q1,decide_eq_true q2];rfl);clear q1 q2
     go_wp2
     go_ret;exact⟨by rw[E2.o];rfl,Z.o⟩
    ·have t2:decide ((n:Int)<=6)=false:=by simp;omega
     have E2:=I (show(By ls&&(decide (1<=n)&&decide (n<=6)))=false by rw[decide_eq_false q2];simp);clear q1 q2
     go_wp2
     go_ret;exact⟨by rw[E2.o];rfl,Z.o⟩
   ·have t1:decide ((1:Int)<=(n:Int))=false:=by simp;omega
    have E2:=I (show(By ls&&(decide (1<=n)&&decide (n<=6)))=false by rw[decide_eq_false q1];simp);clear q1
    go_wp2
    go_ret;exact⟨by rw[E2.o];rfl,Z.o⟩
theorem Vh (p:Pa) (T:Tp) (v u:Value) (B:Nat) (w:World) (hs:Sm T) (hp:p.v.length<=3000) (hv:TpV w B v T) (hu:PaV w B u p) (hB:B<=w.heap.size) (hq:Dh T.R (p.f,p.t)=true) (h4:p.v.length<=4) :
  Calls Tryz.prog 72 #[v,u] w fun e w'=>e=.returned (.bool (viaB T.R p))/\Below w.heap.size w w':=by
 obtain⟨v1,v2,v3,rfl,⟨A1,d1,rfl,cw,r1⟩,⟨A2,d2,rfl,cq,r2⟩,⟨A3,d3,rfl,cx,r3⟩⟩:=hv;obtain⟨u1,rfl,⟨A5,d5,rfl,ct,r5⟩⟩:=hu;have cg:=(Below.refl w.heap.size w).alloc Ag (.cells #[.slice A1 T.R.length d1,.slice A2 T.K.length d2,.slice A3 T.P.length d3] 64);have ca:=cg.alloc cg.size (.cells #[.string ⟨p.f.toArray⟩,.string ⟨p.t.toArray⟩,.slice A5 p.v.length d5] 174);have HB:=I ca;have Z:=I (Blk.new (w.alloc (.cells #[.slice A1 T.R.length d1,.slice A2 T.K.length d2,.slice A3 T.P.length d3] 64)) 174 #[.string ⟨p.f.toArray⟩,.string ⟨p.t.toArray⟩,.slice A5 p.v.length d5]);have bx:=I ((Blk.new w 64 #[.slice A1 T.R.length d1,.slice A2 T.K.length d2,.slice A3 T.P.length d3]).alloc (.cells #[.string ⟨p.f.toArray⟩,.string ⟨p.t.toArray⟩,.slice A5 p.v.length d5] 174));have HR:=I (r1.below (ca.mono hB));have HV:=I (r5.below (ca.mono hB));have PR:=I (fun x w1 (h:Rd w1 B A1 (strs T.R))=>Er T.R A1 d1 B x w1 (by have:=hs.r;omega) h);have PV:=I (fun(i:Nat) (hi:i<p.v.length) w1 (h:Rd w1 B A5 (strs p.v))=>Er (p.v.take i) A5 d5 B (pl p.v i) w1 (by simp;omega) (Of h (by omega)));rw[Dh,Bool.and_eq_true,Bool.and_eq_true,decide_eq_true_eq,decide_eq_true_eq,decide_eq_true_eq] at hq;obtain⟨cd,hf,ht⟩:=hq;simp only at cd hf ht;have t1:(p.f==p.t)=false:=by simpa using cd
 obtain⟨z1,cn,cy⟩:=DI hf;obtain⟨z2,ck,cu⟩:=DI ht;have c1:=PR.o p.f;have c2:=PR.o p.t;rw[<-cn] at c1;rw[<-ck] at c2;have s1:decide (z1<0)=false:=decide_eq_false (by omega);have s2:decide (z2<0)=false:=decide_eq_false (by omega);have EQ:=I (show viaB T.R p=(p.v.all (onB T.R p)&&decide p.v.Nodup) by rw[viaB,decide_eq_true h4];rfl);obtain⟨n,en⟩:=Ak (p.v.length);obtain⟨m,em⟩:=Ak (T.R.length);clear cg ca;rw[<-en] at HB bx Z HR HV ct h4 hp;rw[<-em] at HB bx Z HR HV PR c1 c2;rw[<-en,<-em];have s3:decide (4<(n:Int))=false:=by simp;omega
 have EN:=I en;clear en em cn ck cy cu cd hf ht r1 r2 r3 r5 hB hs cw cq cx h4;have C1:=I c1;have C2:=I c2;clear c1 c2;go_enter Tryz.func72,Tryz.ntmps72
 go_wp2_with (first
  |(go_at_call 36;with_reducible refine Aj (C1.o _ HR.o) ?_;rintro w1 rfl;clear C1)
  |(go_at_call 36;with_reducible refine Aj (C2.o _ HR.o) ?_;rintro w1 rfl;clear C2))
 obtain⟨W,eW⟩:=Ak ((w.alloc (.cells #[.slice A1 m d1,.slice A2 T.K.length d2,.slice A3 T.P.length d3] 64)).alloc (.cells #[.string ⟨p.f.toArray⟩,.string ⟨p.t.toArray⟩,.slice A5 n d5] 174));rw[<-eW] at HB bx Z HR HV⊢;clear eW;have cj:(w.alloc (.cells #[.slice A1 m d1,.slice A2 T.K.length d2,.slice A3 T.P.length d3] 64)).heap.size=w.heap.size+1:=by simp
 rw[cj] at Z;clear cj
 go_loopw [5] (fun iv wr=>∃i:Nat,i<=n/\iv=.int .i64 (i:Int)/\(p.v.take i).all (onB T.R p)=true/\(p.v.take i).Nodup/\AV W wr) (fun iv _=>n - (intOf iv).toNat)
 case atStart=>exact⟨0,Nat.zero_le _,rfl,by simp,by simp,AV.refl _⟩
 case round=>
  obtain⟨i,hi,rfl,hn,O,hd⟩:=hrel;have HN:=I hn;clear hn;have cp:=I O;clear O;have aw:=I (show Rd wr B A1 (strs T.R) by obtain⟨q,rfl⟩:=hd;exact HR.o.drewN q);have bb:=I (show Rd wr B A5 (strs p.v) by obtain⟨q,rfl⟩:=hd;exact HV.o.drewN q);have k0:wr.cell? ⟨w.heap.size,0,none⟩=some (.slice A1 m d1):=by obtain⟨q,rfl⟩:=hd;exact bx.o.cell 0
  have k1:wr.cell? ⟨w.heap.size+1,0,none⟩=some (.string ⟨p.f.toArray⟩):=by obtain⟨q,rfl⟩:=hd;exact Z.o.cell 0
  have k2:wr.cell? ⟨w.heap.size+1,1,none⟩=some (.string ⟨p.t.toArray⟩):=by obtain⟨q,rfl⟩:=hd;exact Z.o.cell 1
  have k3:wr.cell? ⟨w.heap.size+1,2,none⟩=some (.slice A5 n d5):=by obtain⟨q,rfl⟩:=hd;exact Z.o.cell 2
  have av:=I hd;clear hd
  by_cases hlt:i<n
  ·have e1:(i:Int)<(n:Int):=by omega
   have e2:(0:Int)<=(i:Int):=by omega
   have e3:(i:Int)<=(d5:Int):=by omega
   have M:i<p.v.length:=by rw[<-EN.o];exact hlt
   have hlen:(p.v.take i).length=i:=by simp;omega
   have C4:=I (PV.o i M);rw[hlen] at C4;have cb:=all_succ (p:=onB T.R p) M;rw[HN.o,Bool.true_and,<-CO M] at cb;have bs:=all_false (p:=onB T.R p) M;rw[<-CO M] at bs;have O:=DJ M;rw[<-CO M] at O;obtain⟨b,o,eA,_,h1⟩:=CU bb.o M;subst eA;obtain⟨x,ex⟩:=Ak (pl p.v i);rw[<-ex] at cb bs O h1 C4;have C3:=I (PR.o x);have cr:=I cb;have cf:=I bs;have cc:=I O;clear ex M hlen cb bs O
   by_cases q1:x∈T.R
   ·obtain⟨y1,bq,bB⟩:=DI q1
    rw[<-bq] at C3;have s4:decide (y1<0)=false:=decide_eq_false (by omega);have Q1:=I q1;clear bq bB q1
    by_cases q2:x∈p.v.take i
    ·obtain⟨y2,bn,bz⟩:=DI q2
     rw[<-bn] at C4;have s5:decide (0<=y2)=true:=decide_eq_true bz;have E:=I (show viaB T.R p=false by rw[EQ.o,decide_eq_false (fun h=>(cc.o.1 (FT h)).2 q2)];simp);clear bn bz q2
     go_wp2
     go_quiet (first
      |(go_at_call 36;with_reducible refine Aj (C3.o _ (aw.o.drewN _)) ?_;rintro w9 rfl;exact⟨rfl,_,rfl⟩)
      |(go_at_call 36;with_reducible refine Aj (C4.o _ (bb.o.drewN _)) ?_;rintro w9 rfl;exact⟨rfl,_,rfl⟩))
     go_wp2
     go_ret;exact⟨by rw[E.o];rfl,HB.o.trans ((av.o.trans ⟨_,rfl⟩).below.mono HB.o.size)⟩
    ·obtain⟨y2,bn,bz⟩:=DY q2
     rw[<-bn] at C4;have s5:decide (0<=y2)=false:=decide_eq_false (by omega);have E2:=I (cc.o.2 ⟨cp.o,q2⟩);clear bn bz q2
     by_cases q3:x=p.f
     ·have t3:(x==p.f)=true:=by simpa using q3
      have E:=I (show viaB T.R p=false by rw[EQ.o,cf.o (by rw[onB,decide_eq_false (fun h=>h q3)];rfl)];rfl);clear q3
      go_wp2
      go_quiet (first
       |(go_at_call 36;with_reducible refine Aj (C3.o _ (aw.o.drewN _)) ?_;rintro w9 rfl;exact⟨rfl,_,rfl⟩)
       |(go_at_call 36;with_reducible refine Aj (C4.o _ (bb.o.drewN _)) ?_;rintro w9 rfl;exact⟨rfl,_,rfl⟩))
      go_wp2
      go_ret;exact⟨by rw[E.o];rfl,HB.o.trans ((av.o.trans ⟨_,rfl⟩).below.mono HB.o.size)⟩
     ·have t3:(x==p.f)=false:=by simpa using q3
      by_cases q4:x=p.t
      ·have t4:(x==p.t)=true:=by simpa using q4
       have E:=I (show viaB T.R p=false by rw[EQ.o,cf.o (by rw[onB,decide_eq_false (p:=x≠p.t) (fun h=>h q4)];simp)];rfl);clear q3 q4
       go_wp2
       go_quiet (first
        |(go_at_call 36;with_reducible refine Aj (C3.o _ (aw.o.drewN _)) ?_;rintro w9 rfl;exact⟨rfl,_,rfl⟩)
        |(go_at_call 36;with_reducible refine Aj (C4.o _ (bb.o.drewN _)) ?_;rintro w9 rfl;exact⟨rfl,_,rfl⟩))
       go_wp2
       go_ret;exact⟨by rw[E.o];rfl,HB.o.trans ((av.o.trans ⟨_,rfl⟩).below.mono HB.o.size)⟩
      ·have t4:(x==p.t)=false:=by simpa using q4
       have E:=I (cr.o.trans (show onB T.R p x=true by rw[onB,decide_eq_true q3,decide_eq_true q4,decide_eq_true Q1.o];rfl));clear q3 q4
       go_wp2
       go_quiet (first
        |(go_at_call 36;with_reducible refine Aj (C3.o _ (aw.o.drewN _)) ?_;rintro w9 rfl;exact⟨rfl,_,rfl⟩)
        |(go_at_call 36;with_reducible refine Aj (C4.o _ (bb.o.drewN _)) ?_;rintro w9 rfl;exact⟨rfl,_,rfl⟩))
       go_wp2
       go_roundw
       case rel=>exact⟨i+1,by omega,by go_num,E.o,E2.o,av.o.trans ⟨_,rfl⟩⟩
       case measure=>simp [intOf];omega
   ·obtain⟨y1,bq,bB⟩:=DY q1
    rw[<-bq] at C3;have s4:decide (y1<0)=true:=decide_eq_true bB;have E:=I (show viaB T.R p=false by rw[EQ.o,cf.o (by rw[onB,decide_eq_false q1];simp)];rfl);clear bq bB q1
    go_wp2
    go_quiet (first
     |(go_at_call 36;with_reducible refine Aj (C3.o _ (aw.o.drewN _)) ?_;rintro w9 rfl;exact⟨rfl,_,rfl⟩))
    go_wp2
    go_ret;exact⟨by rw[E.o];rfl,HB.o.trans ((av.o.trans ⟨_,rfl⟩).below.mono HB.o.size)⟩
  ·have e1:¬(i:Int)<(n:Int):=by omega
   have cm:p.v.length<=i:=by have:=EN.o;omega
   have E:=I (show viaB T.R p=true by
    have h:=cp.o;rw[List.take_of_length_le cm] at h;rw[EQ.o,Dw cm HN.o,decide_eq_true h];rfl)
   go_wp2
   go_ret;exact⟨by rw[E.o];rfl,HB.o.trans (av.o.below.mono HB.o.size)⟩
theorem br {R:List L} {p:Pa} (h:Dh R (p.f,p.t)=true):Ft R p=viaB R p:=by rw[Ft,h];rfl
theorem eU {R:List L} {p:Pa} (h:p.f∉R):Ft R p=false:=by rw[Ft,Dh];simp [h]
theorem eY {R:List L} {p:Pa} (h:p.t∉R):Ft R p=false:=by rw[Ft,Dh];simp [h]
theorem eZ {R:List L} {p:Pa} (h:p.f=p.t):Ft R p=false:=by rw[Ft,Dh];simp [h]
theorem fc {R:List L} {p:Pa} (h:¬p.v.length<=4):Ft R p=false:=by rw[Ft,viaB,decide_eq_false h];simp
theorem Vi (p:Pa) (T:Tp) (v u:Value) (B:Nat) (w:World) (hs:Sm T) (hp:p.v.length<=3000) (hv:TpV w B v T) (hu:PaV w B u p) (hB:B<=w.heap.size) :
  Calls Tryz.prog 72 #[v,u] w fun e w'=>e=.returned (.bool (Ft T.R p))/\Below w.heap.size w w':=by
 by_cases hgood:Dh T.R (p.f,p.t)=true/\p.v.length<=4
 ·rw[br hgood.1]
  exact Vh p T v u B w hs hp hv hu hB hgood.1 hgood.2
 obtain⟨v1,v2,v3,rfl,⟨A1,d1,rfl,bs,r1⟩,⟨A2,d2,rfl,bz,r2⟩,⟨A3,d3,rfl,bx,r3⟩⟩:=hv;obtain⟨u1,rfl,⟨A5,d5,rfl,bq,r5⟩⟩:=hu;have bb:=(Below.refl w.heap.size w).alloc Ag (.cells #[.slice A1 T.R.length d1,.slice A2 T.K.length d2,.slice A3 T.P.length d3] 64);have bn:=bb.alloc bb.size (.cells #[.string ⟨p.f.toArray⟩,.string ⟨p.t.toArray⟩,.slice A5 p.v.length d5] 174);have HB:=I bn;have HR:=I (r1.below (bn.mono hB));have PR:=I (fun x w1 (h:Rd w1 B A1 (strs T.R))=>Er T.R A1 d1 B x w1 (by have:=hs.r;omega) h);have c1:=PR.o p.f;have c2:=PR.o p.t;have EA:=I (@eU T.R p);have EB:=I (@eY T.R p);have EC:=I (@eZ T.R p);have ED:=I (@fc T.R p);have HG:=I (show ¬(p.f∈T.R/\p.t∈T.R/\p.f≠p.t/\p.v.length<=4) from fun h=>hgood ⟨by rw[Dh];simp [h.1,h.2.1,h.2.2.1],h.2.2.2⟩);obtain⟨n,en⟩:=Ak (p.v.length);obtain⟨m,em⟩:=Ak (T.R.length);clear bb bn hgood;rw[<-en] at HB HR ED HG hp;rw[<-em] at HB HR PR c1 c2;rw[<-en,<-em];clear en em r1 r2 r3 r5 hB hs bs bz bx bq
 by_cases q1:p.f∈T.R
 ·obtain⟨z1,O,aw⟩:=DI q1
  rw[<-O] at c1;have s1:decide (z1<0)=false:=decide_eq_false (by omega);have Z:=I c1;clear c1 O aw
  by_cases q2:p.t∈T.R
  ·obtain⟨z2,M,av⟩:=DI q2
   rw[<-M] at c2;have s2:decide (z2<0)=false:=decide_eq_false (by omega);have C2:=I c2;clear c2 M av
   by_cases q3:p.f=p.t
   ·have t3:(p.f==p.t)=true:=by simpa using q3
    have E:=I (EC.o q3);clear q1 q2 q3;go_enter Tryz.func72,Tryz.ntmps72
    go_wp2_with (first
     |(go_at_call 36;with_reducible refine Aj (Z.o _ HR.o) ?_;rintro w1 rfl;clear Z)
     |(go_at_call 36;with_reducible refine Aj (C2.o _ HR.o) ?_;rintro w1 rfl;clear C2))
    go_ret;exact⟨by rw[E.o];rfl,HB.o⟩
   ·have t3:(p.f==p.t)=false:=by simpa using q3
    have h4:¬n<=4:=fun h=>HG.o ⟨q1,q2,q3,h⟩
    have s3:decide (4<(n:Int))=true:=by simp;omega
    have E:=I (ED.o h4);clear q1 q2 q3 h4;go_enter Tryz.func72,Tryz.ntmps72
    go_wp2_with (first
     |(go_at_call 36;with_reducible refine Aj (Z.o _ HR.o) ?_;rintro w1 rfl;clear Z)
     |(go_at_call 36;with_reducible refine Aj (C2.o _ HR.o) ?_;rintro w1 rfl;clear C2))
    go_ret;exact⟨by rw[E.o];rfl,HB.o⟩
  ·obtain⟨z2,M,av⟩:=DY q2
   rw[<-M] at c2;have s2:decide (z2<0)=true:=decide_eq_true av;have C2:=I c2;clear c2 M av;have E:=I (EB.o q2);clear q1 q2;go_enter Tryz.func72,Tryz.ntmps72
   go_wp2_with (first
    |(go_at_call 36;with_reducible refine Aj (Z.o _ HR.o) ?_;rintro w1 rfl;clear Z)
    |(go_at_call 36;with_reducible refine Aj (C2.o _ HR.o) ?_;rintro w1 rfl;clear C2))
   go_ret;exact⟨by rw[E.o];rfl,HB.o⟩
 ·obtain⟨z1,O,aw⟩:=DY q1
  rw[<-O] at c1;have s1:decide (z1<0)=true:=decide_eq_true aw;have Z:=I c1;clear c1 c2 O aw;have E:=I (EA.o q1);clear q1;go_enter Tryz.func72,Tryz.ntmps72
  go_wp2_with (go_at_call 36;with_reducible refine Aj (Z.o _ HR.o) ?_;rintro w1 rfl;clear Z)
  go_ret;exact⟨by rw[E.o];rfl,HB.o⟩
theorem isr_k {T:Tp} {i:Nat} (hi:i<T.K.length) (h:Dh T.R (kl T.K i)=false):isT T=false:=by
 rw[Ge hi] at h;exact ZC (by rw[CZ,all_false hi h];rfl)
theorem fe {T:Tp} {i k:Nat} (hi:i<T.K.length) (hk:k<i) (h:kl T.K k=kl T.K i):isT T=false:=by
 refine ZC ?_;rw[CZ,decide_eq_false,Bool.and_false];intro M;rw[List.nodup_iff_pairwise_ne,List.pairwise_iff_getElem] at M;rw[Ge hi,Ge (by omega)] at h;exact M k i (by omega) hi hk h
theorem YJ {T:Tp} (h:Gj T.P T.R=false):isT T=false:=by rw[isT,h];simp
theorem isr_p {T:Tp} {i:Nat} (hi:i<T.P.length) (h:Ft T.R (al T.P i)=false):isT T=false:=by
 rw[Ka hi] at h;exact YJ (by rw[Le,all_false hi h];rfl)
theorem LU {P:List Pa} {i:Nat} (hi:i<P.length):(El P)[i]'(by rw[Bz];exact hi)=((al P i).f,(al P i).t):=by
 simp [El,Ka hi]
theorem fg {T:Tp} {i k:Nat} (hi:i<T.P.length) (hk:k<i) (O:(al T.P k).f=(al T.P i).f) (Z:(al T.P k).t=(al T.P i).t):isT T=false:=by
 refine YJ ?_;rw[Le,decide_eq_false,Bool.and_false];intro M;rw[List.nodup_iff_pairwise_ne,List.pairwise_iff_getElem] at M;refine M k i (by rw[Bz];omega) (by rw[Bz];exact hi) hk ?_;rw[LU hi,LU (by omega),O,Z]
theorem bu {T:Tp} (h:(By T.R&&(decide (1<=T.R.length)&&decide (T.R.length<=6)))=true) (O:T.K.length<=20) (h4:T.P.length<=8) (h5:T.K.all (Dh T.R)=true) (Z:T.K.Nodup) (M:T.P.all (Ft T.R)=true) (h8:(El T.P).Nodup):isT T=true:=by
 rw[Bool.and_eq_true,Bool.and_eq_true] at h;rw[isT,h.1,h.2.1,h.2.2,decide_eq_true O,decide_eq_true h4,CZ,h5,decide_eq_true Z,Le,M,decide_eq_true h8];rfl
theorem isr_a {T:Tp} (h:(By T.R&&(decide (1<=T.R.length)&&decide (T.R.length<=6)))=false):isT T=false:=by
 rw[isT];cases h1:By T.R
 ·simp
 ·rw[h1,Bool.true_and] at h
  rw[h];rfl
theorem JV {α:Type} {l:List α} {i:Nat} (hi:i<l.length) (h:∀k (hk:k<i),l[k]'(by omega)≠l[i]):l[i]∉l.take i:=by
 intro hm;obtain⟨k,hk,e⟩:=List.getElem_of_mem hm;simp only[List.length_take] at hk;rw[List.getElem_take] at e;exact h k (by omega) e
theorem fh {K:List Pr} {i:Nat} (hi:i<K.length) (h:(K.take i).Nodup) (M:∀q,q<i->kl K q≠kl K i):(K.take (i+1)).Nodup:=by
 rw[DJ hi];refine⟨h,JV hi fun k hk e=>M k hk ?_⟩;rw[Ge hi,Ge (by omega)];exact e
theorem fk {P:List Pa} {i:Nat} (hi:i<P.length) (h:((El P).take i).Nodup) (O:∀q,q<i->¬((al P q).f=(al P i).f/\(al P q).t=(al P i).t)):((El P).take (i+1)).Nodup:=by
 have M:i<(El P).length:=by rw[Bz];exact hi
 rw[DJ M];refine⟨h,JV M fun k hk e=>O k hk ?_⟩;rw[LU hi,LU (by omega)] at e;exact Prod.mk.inj e
theorem XP (T:Tp) (v:Value) (B:Nat) (w:World) (hs:Sm T) (hv:TpV w B v T) (hB:B<=w.heap.size) :
  Calls Tryz.prog 35 #[v] w fun e w'=>e=.returned (.bool (isT T))/\Below w.heap.size w w':=by
 have ei:=hv;obtain⟨v1,v2,v3,rfl,⟨A1,d1,rfl,cZ,r1⟩,⟨A2,d2,rfl,ed,r2⟩,⟨A3,d3,rfl,eg,r3⟩⟩:=ei;obtain⟨N,eN⟩:=Ak (w.heap.size);have hb:=(Below.refl w.heap.size w).alloc Ag (.cells #[.slice A1 T.R.length d1,.slice A2 T.K.length d2,.slice A3 T.P.length d3] 64);have HB:=I hb;have HK:=I (Blk.new w 64 #[.slice A1 T.R.length d1,.slice A2 T.K.length d2,.slice A3 T.P.length d3]);have c1:=OX T.R A1 d1 B _ (by have:=hs.r;omega) cZ (r1.below (hb.mono hB)) (Nat.le_trans hB hb.size) (fun i hi=>by have:=hs.rt _ (DQ hi);omega);have KB:=I (fun w1 (h:Below N w w1)=>r2.below (h.mono (by omega)));have AB:=I (fun w1 (h:Below N w w1)=>r3.below (h.mono (by omega)));have PL:=I (fun x w1 (h:Below N w w1)=>Er T.R A1 d1 B x w1 (by have:=hs.r;omega) (r1.below (h.mono (by omega))));have RP:=I (fun(i:Nat) (hi:i<T.P.length) u w1 (h:Below N w w1) (hu:PaV w1 B u (al T.P i))=>Vi (al T.P i) T _ u B w1 hs (hs.v _ (Pv hi)) (hv.below (h.mono (by omega))) hu (Nat.le_trans hB (by have:=h.size;omega)));rw[<-eN] at HB;have ej:=I eN;have er:=I (show B<=N by omega);rw[<-eN];have bb:=I (show ∀w1:World,Below N w w1->N<=w1.heap.size from fun w1 h=>by have:=h.size;have:=ej.o;omega);have s2:=hs.k;have s3:=hs.p;have IA:=I (@isr_a T);have IK:=I (fun i=>@isr_k T i);have cR:=I (fun i k=>@fe T i k);have IP:=I (fun i=>@isr_p T i);have ef:=I (fun i k=>@fg T i k);have IY:=I (@bu T);have IC:=I (@cv T);have ID:=I (@cC T);obtain⟨Q,eQ⟩:=Ak ((By T.R&&(decide (1<=T.R.length)&&decide (T.R.length<=6))));rw[<-eQ] at c1 IA IY;obtain⟨n,en⟩:=Ak (T.R.length);obtain⟨m,em⟩:=Ak (T.K.length);obtain⟨k,ek⟩:=Ak (T.P.length);clear hb hv;rw[<-en,<-em,<-ek] at HK HB c1 RP;rw[<-en] at PL;rw[<-em] at s2 IC IY;rw[<-ek] at s3 ID IY;rw[<-en,<-em,<-ek];have EM:=I em;have EK:=I ek;clear en em ek eQ eN hs r1 r2 r3 cZ ed eg hB;cases Q with
 |false=>
  have E:=I (IA.o rfl);go_enter Tryz.func35,Tryz.ntmps35
  go_wp2_with (go_at_call 71;refine Aj c1 ?_;rintro w1 hb;clear c1;replace HB:=I (HB.o.trans (hb.mono (bb.o _ HB.o)));clear hb)
  go_ret;exact⟨by rw[E.o];rfl,HB.o⟩
 |true=>
  by_cases q1:m<=20
  ·have t1:decide (20<(m:Int))=false:=by simp;omega
   by_cases q2:k<=8
   ·have t2:decide (8<(k:Int))=false:=by simp;omega
    have cY:=I (IY.o rfl q1 q2);go_enter Tryz.func35,Tryz.ntmps35
    go_wp2_with (go_at_call 71;refine Aj c1 ?_;rintro w1 hb;clear c1;replace HK:=I (HK.o.below hb);replace HB:=I (HB.o.trans (hb.mono (bb.o _ HB.o)));clear hb;have k0:=HK.o.cell 0;have k1:=HK.o.cell 1;have k2:=HK.o.cell 2;simp only[List.getElem?_toArray,List.getElem?_cons_zero,List.getElem?_cons_succ] at k0 k1 k2)
    clear IA IC ID IY;obtain⟨W1,cX⟩:=Ak (w1);rw[<-cX] at HK HB k0 k1 k2⊢;clear cX
    go_loopw [3] (fun iv wr=>∃i:Nat,i<=m/\iv=.int .i64 (i:Int)/\(T.K.take i).all (Dh T.R)=true/\(T.K.take i).Nodup/\Below W1.heap.size W1 wr) (fun iv _=>m - (intOf iv).toNat)
    case atStart=>exact⟨0,Nat.zero_le _,rfl,by simp,by simp,Below.refl _ _⟩
    case round=>
     obtain⟨i,hi,rfl,hn,aw,cm⟩:=hrel;have HN:=I hn;clear hn;have cb:=I aw;clear aw;have Z:=I cm;clear cm;have O:=I (HB.o.trans (Z.o.mono (bb.o _ HB.o)));clear k0 k1 k2;have M:=I (HK.o.below Z.o);have k0:=M.o.cell 0;have k1:=M.o.cell 1;have k2:=M.o.cell 2;simp only[List.getElem?_toArray,List.getElem?_cons_zero,List.getElem?_cons_succ] at k0 k1 k2
     by_cases hlt:i<m
     ·have e1:(i:Int)<(m:Int):=by omega
      have e2:(0:Int)<=(i:Int):=by omega
      have av:i<T.K.length:=by rw[<-EM.o];exact hlt
      have bn:=all_succ (p:=Dh T.R) av;rw[HN.o,Bool.true_and,<-Ge av] at bn;have aw:=fh av cb.o;have ik:=IK.o i av;have cr:=I (fun q=>cR.o i q av);obtain⟨b,o,eA,_,h1,h2⟩:=Mt (KB.o _ O.o) av;have cw:=I (fun w1 (h:Below N w w1) j (hj:j<i)=>Mt (KB.o w1 h) (Nat.lt_trans hj av));subst eA;obtain⟨x,ex⟩:=Ak (kl T.K i);rw[<-ex] at aw;rw[<-ex] at bn ik h1 h2 cr;have cq:=I bn;have cx:=I aw;have cp:=I ik;have C3:=I (PL.o x.1);have C4:=I (PL.o x.2);clear ex av bn aw ik;have HA:=I (Blk.new wr 121 #[.string ⟨x.1.toArray⟩,.string ⟨x.2.toArray⟩]);have ck:=I ((Below.refl wr.heap.size wr).alloc Ag (.cells #[.string ⟨x.1.toArray⟩,.string ⟨x.2.toArray⟩] 121));have H2:=I (O.o.trans (ck.o.mono (bb.o _ O.o)));have H3:=I (Z.o.trans (ck.o.mono Z.o.size));have cL:=M.o.below ck.o;have ka:=cL.cell 0;simp only[List.getElem?_toArray,List.getElem?_cons_zero] at ka;clear cL
      by_cases g1:x.1∈T.R
      ·obtain⟨z1,bz,cc⟩:=DI g1
       rw[<-bz] at C3;have s4:decide (z1<0)=false:=decide_eq_false (by omega)
       by_cases g2:x.2∈T.R
       ·obtain⟨z2,ca,cj⟩:=DI g2
        rw[<-ca] at C4;have s5:decide (z2<0)=false:=decide_eq_false (by omega)
        by_cases g3:x.1=x.2
        ·have t3:(x.1==x.2)=true:=by simpa using g3
         have E:=I (cp.o (by rw[Dh,decide_eq_false (fun h=>h g3)];rfl));clear g1 g2 g3 bz ca cc cj
         go_wp2_with (first
         |(go_at_call 36;with_reducible refine Aj (C3.o _ H2.o) ?_;rintro w9 rfl;clear C3)
         |(go_at_call 36;with_reducible refine Aj (C4.o _ H2.o) ?_;rintro w9 rfl;clear C4))
         go_ret;exact⟨by rw[E.o];rfl,H2.o⟩
        ·have t3:(x.1==x.2)=false:=by simpa using g3
         have E:=I (cq.o.trans (show Dh T.R x=true by rw[Dh,decide_eq_true g1,decide_eq_true g2,decide_eq_true g3];rfl));clear g1 g2 g3 bz ca cc cj
         go_wp2_with (first
         |(go_at_call 36;with_reducible refine Aj (C3.o _ H2.o) ?_;rintro w9 rfl;clear C3)
         |(go_at_call 36;with_reducible refine Aj (C4.o _ H2.o) ?_;rintro w9 rfl;clear C4))
         obtain⟨W2,cy⟩:=Ak (wr.alloc (.cells #[.string ⟨x.1.toArray⟩,.string ⟨x.2.toArray⟩] 121));rw[<-cy] at HA ck H2 H3⊢;clear cy;have cB:=I (M.o.below ck.o);obtain⟨W0,cT⟩:=Ak (wr);rw[<-cT] at HA⊢;clear cT;clear k0 k1 k2 ka h1 h2
         go_loopw [5] (fun jv wq=>∃j:Nat,j<=i/\jv=.int .i64 (j:Int)/\(∀q,q<j->kl T.K q≠x)/\AV W2 wq) (fun jv _=>i - (intOf jv).toNat)
         case atStart=>exact⟨0,Nat.zero_le _,rfl,fun q hq=>absurd hq (Nat.not_lt_zero q),AV.refl _⟩
         case round=>
          obtain⟨j,hj,rfl,cn,hd⟩:=hrel;have cd:=I cn;clear cn;have k0:wr.cell? ⟨w.heap.size,0,none⟩=some (.slice A1 n d1):=by obtain⟨q,rfl⟩:=hd;exact cB.o.cell 0
          have k1:wr.cell? ⟨w.heap.size,1,none⟩=some (.slice (some ⟨b,o,none⟩) m d2):=by obtain⟨q,rfl⟩:=hd;exact cB.o.cell 1
          have y0:wr.cell? ⟨W0.heap.size,0,none⟩=some (.string ⟨x.1.toArray⟩):=by obtain⟨q,rfl⟩:=hd;exact HA.o.cell 0
          have y1:wr.cell? ⟨W0.heap.size,1,none⟩=some (.string ⟨x.2.toArray⟩):=by obtain⟨q,rfl⟩:=hd;exact HA.o.cell 1
          have cg:=I (H2.o.trans (hd.below.mono (bb.o _ H2.o)));have ct:=I (H3.o.trans (hd.below.mono H3.o.size));have cu:=I hd;clear hd
          by_cases hlj:j<i
          ·have f1:(j:Int)<(i:Int):=by omega
           have f2:(0:Int)<=(j:Int):=by omega
           have f3:(j:Int)<(m:Int):=by omega
           obtain⟨b',o',eA,_,h1,h2⟩:=cw.o _ cg.o j hlj;injection eA with eA;injection eA with eb eo;subst eb;subst eo
           by_cases hx:kl T.K j=x
           ·have t4:=Tb (kl T.K j) x hx
            have E2:=I (cr.o j hlj hx);clear hx
            go_wp2
            go_quiet (fail)
            go_wp2
            go_ret;exact⟨by rw[E2.o];rfl,below_drewN cg.o _⟩
           ·have t4:=Yn (kl T.K j) x hx
            have HX:=I hx;clear hx
            go_wp2
            go_quiet (fail)
            go_wp2
            go_roundw
            case rel=>exact⟨j+1,by omega,by go_num,fun q hq=>by
             by_cases e:q=j
             ·rw[e];exact HX.o
             ·exact cd.o q (by omega),cu.o.trans ⟨_,rfl⟩⟩
            case measure=>simp [intOf];omega
          ·have f1:¬(j:Int)<(i:Int):=by omega
           have E2:=I (cx.o fun q hq=>cd.o q (by omega))
           go_wp2
           go_roundw
           case rel=>exact⟨i+1,by omega,by go_num,E.o,E2.o,ct.o⟩
           case measure=>simp [intOf];omega
       ·obtain⟨z2,ca,cj⟩:=DY g2
        rw[<-ca] at C4;have s5:decide (z2<0)=true:=decide_eq_true cj;have E:=I (cp.o (by rw[Dh,decide_eq_false g2];simp));clear g1 g2 bz ca cc cj
        go_wp2_with (first
         |(go_at_call 36;with_reducible refine Aj (C3.o _ H2.o) ?_;rintro w9 rfl;clear C3)
         |(go_at_call 36;with_reducible refine Aj (C4.o _ H2.o) ?_;rintro w9 rfl;clear C4))
        go_ret;exact⟨by rw[E.o];rfl,H2.o⟩
      ·obtain⟨z1,bz,cc⟩:=DY g1
       rw[<-bz] at C3;have s4:decide (z1<0)=true:=decide_eq_true cc;have E:=I (cp.o (by rw[Dh,decide_eq_false g1];simp));clear g1 bz cc
       go_wp2_with (go_at_call 36;with_reducible refine Aj (C3.o _ H2.o) ?_;rintro w9 rfl;clear C3)
       go_ret;exact⟨by rw[E.o];rfl,H2.o⟩
     ·have e1:¬(i:Int)<(m:Int):=by omega
      have bx:T.K.length<=i:=by have:=EM.o;omega
      have ec:=I (cY.o (Dw bx HN.o) (by have h:=cb.o;rwa [List.take_of_length_le bx] at h));clear cY HN cb IK cR bx
      go_wp2
      obtain⟨W3,cQ⟩:=Ak (wr);rw[<-cQ] at M O⊢;clear cQ k0 k1 k2 HK HB Z KB hi hlt e1
      go_loopw [6] (fun iv wr=>∃i:Nat,i<=k/\iv=.int .i64 (i:Int)/\(T.P.take i).all (Ft T.R)=true/\((El T.P).take i).Nodup/\Below W3.heap.size W3 wr) (fun iv _=>k - (intOf iv).toNat)
      case atStart=>exact⟨0,Nat.zero_le _,rfl,by simp,by simp,Below.refl _ _⟩
      case round=>
       have HK:=M;have HB:=O;clear M O;obtain⟨i,hi,rfl,hn,aw,cm⟩:=hrel;have HN:=I hn;clear hn;have cb:=I aw;clear aw;have Z:=I cm;clear cm;have O:=I (HB.o.trans (Z.o.mono (bb.o _ HB.o)));have M:=I (HK.o.below Z.o);have k0:=M.o.cell 0;have k1:=M.o.cell 1;have k2:=M.o.cell 2;simp only[List.getElem?_toArray,List.getElem?_cons_zero,List.getElem?_cons_succ] at k0 k1 k2
       by_cases hlt:i<k
       ·have e1:(i:Int)<(k:Int):=by omega
        have e2:(0:Int)<=(i:Int):=by omega
        have av:i<T.P.length:=by rw[<-EK.o];exact hlt
        have bn:=all_succ (p:=Ft T.R) av;rw[HN.o,Bool.true_and,<-Ka av] at bn;have aw:=fk av cb.o;have ik:=IP.o i av;have cr:=I (fun q=>ef.o i q av);obtain⟨b,o,eA,cA,h1,h2,u,h3,h4⟩:=Pw (AB.o _ O.o) av;have cw:=I (fun w1 (h:Below N w w1) j (hj:j<i)=>Pw (AB.o w1 h) (Nat.lt_trans hj av));have ea:=I (RP.o i hlt);subst eA;obtain⟨x,ex⟩:=Ak (al T.P i);rw[<-ex] at aw bn ik cr h1 h2 h4 ea;have cq:=I bn;have cx:=I aw;have cp:=I ik;have ep:=h4;obtain⟨A5,d5,eu,_⟩:=ep;subst eu;obtain⟨k5,cP⟩:∃k,k=x.v.length:=⟨_,rfl⟩;rw[<-cP] at h3 h4;have c5:=ea.o _ wr.drew (below_drewN O.o 1) ⟨_,rfl,h4.below (B:=B) (w':=wr.drew) (below_drewN (Below.refl B wr) 1)⟩;have cf:=I (show b<wr.heap.size from Nat.lt_of_lt_of_le cA (Nat.le_trans er.o (bb.o _ O.o)));have bs:=I (show wr.drew.cell? ⟨b,o+i*3,none⟩=_ from h1);have bq:=I (show wr.drew.cell? ⟨b,o+i*3+1,none⟩=_ from h2);have bB:=I (show wr.drew.cell? ⟨b,o+i*3+2,none⟩=_ from h3);have et:=I (show x.f=(al T.P i).f/\x.t=(al T.P i).t from by rw[ex];exact⟨rfl,rfl⟩);clear ex av bn aw ik h1 h2 h3 h4 cP cA;cases hpx:Ft T.R x with
        |false=>
         rw[hpx] at c5;have E:=I (cp.o hpx);clear hpx
         go_wp2
         clear k0 k1 k2;replace M:=I (M.o.drewN 1);replace O:=I (below_drewN O.o 1);replace Z:=I (below_drewN Z.o 1)
         go_region_held3 (fun w'=>w'.cell? ⟨w.heap.size,0,none⟩=some (.slice A1 n d1)/\w'.cell? ⟨w.heap.size,1,none⟩=some (.slice A2 m d2)/\w'.cell? ⟨w.heap.size,2,none⟩=some (.slice (some ⟨b,o,none⟩) k d3)/\w'.cell? ⟨b,o+i*3,none⟩=some (.string ⟨x.f.toArray⟩)/\w'.cell? ⟨b,o+i*3+1,none⟩=some (.string ⟨x.t.toArray⟩)/\w'.cell? ⟨b,o+i*3+2,none⟩=some (.slice A5 k5 d5)) (exact⟨M.o.cell 0,M.o.cell 1,M.o.cell 2,bs.o,bq.o,bB.o⟩) ((go_at_call 72;refine Aj c5 ?_;rintro w9 hb;clear c5;replace M:=I (M.o.below hb);replace bs:=I ((hb.cell cf.o).trans bs.o);replace bq:=I ((hb.cell cf.o).trans bq.o);replace bB:=I ((hb.cell cf.o).trans bB.o);replace O:=I (O.o.trans (hb.mono (bb.o _ O.o)));replace Z:=Z.t hb;clear hb))
         go_wp2
         go_ret;exact⟨by rw[E.o];rfl,O.o⟩
        |true=>
         rw[hpx] at c5;have E:=I (cq.o.trans hpx);clear hpx
         go_wp2
         clear k0 k1 k2;replace M:=I (M.o.drewN 1);replace O:=I (below_drewN O.o 1);replace Z:=I (below_drewN Z.o 1)
         go_region_held3 (fun w'=>w'.cell? ⟨w.heap.size,0,none⟩=some (.slice A1 n d1)/\w'.cell? ⟨w.heap.size,1,none⟩=some (.slice A2 m d2)/\w'.cell? ⟨w.heap.size,2,none⟩=some (.slice (some ⟨b,o,none⟩) k d3)/\w'.cell? ⟨b,o+i*3,none⟩=some (.string ⟨x.f.toArray⟩)/\w'.cell? ⟨b,o+i*3+1,none⟩=some (.string ⟨x.t.toArray⟩)/\w'.cell? ⟨b,o+i*3+2,none⟩=some (.slice A5 k5 d5)) (exact⟨M.o.cell 0,M.o.cell 1,M.o.cell 2,bs.o,bq.o,bB.o⟩) ((go_at_call 72;refine Aj c5 ?_;rintro w9 hb;clear c5;replace M:=I (M.o.below hb);replace bs:=I ((hb.cell cf.o).trans bs.o);replace bq:=I ((hb.cell cf.o).trans bq.o);replace bB:=I ((hb.cell cf.o).trans bB.o);replace O:=I (O.o.trans (hb.mono (bb.o _ O.o)));replace Z:=Z.t hb;clear hb))
         go_wp2
         obtain⟨W4,cM⟩:=Ak (w9);rw[<-cM] at M O Z bs bq bB⊢;clear cM;have ev:(i:Int)<(k:Int):=e1
         go_loopw [7] (fun jv wq=>∃j:Nat,j<=i/\jv=.int .i64 (j:Int)/\(∀q,q<j->¬((al T.P q).f=x.f/\(al T.P q).t=x.t))/\AV W4 wq) (fun jv _=>i - (intOf jv).toNat)
         case atStart=>exact⟨0,Nat.zero_le _,rfl,fun q hq=>absurd hq (Nat.not_lt_zero q),AV.refl _⟩
         case round=>
          obtain⟨j,hj,rfl,cn,hd⟩:=hrel;have cd:=I cn;clear cn;have k0:wr.cell? ⟨w.heap.size,0,none⟩=some (.slice A1 n d1):=by obtain⟨q,rfl⟩:=hd;exact M.o.cell 0
          have k2:wr.cell? ⟨w.heap.size,2,none⟩=some (.slice (some ⟨b,o,none⟩) k d3):=by obtain⟨q,rfl⟩:=hd;exact M.o.cell 2
          have x0:wr.cell? ⟨b,o+i*3,none⟩=some (.string ⟨x.f.toArray⟩):=by obtain⟨q,rfl⟩:=hd;exact bs.o
          have x1:wr.cell? ⟨b,o+i*3+1,none⟩=some (.string ⟨x.t.toArray⟩):=by obtain⟨q,rfl⟩:=hd;exact bq.o
          have cg:=I (O.o.trans (hd.below.mono (bb.o _ O.o)));have ct:=I (Z.o.trans (hd.below.mono Z.o.size));have cu:=I hd;clear hd
          by_cases hlj:j<i
          ·have f1:(j:Int)<(i:Int):=by omega
           have f2:(0:Int)<=(j:Int):=by omega
           have f3:(j:Int)<(k:Int):=by omega
           obtain⟨b',o',eA,_,h1,h2,u9,h3,h4⟩:=cw.o _ cg.o j hlj;injection eA with eA;injection eA with eb eo;subst eb;subst eo;clear h3 h4
           by_cases g1:(al T.P j).f=x.f
           ·have t3:((al T.P j).f==x.f)=true:=by simpa using g1
            by_cases g2:(al T.P j).t=x.t
            ·have t4:((al T.P j).t==x.t)=true:=by simpa using g2
             have E2:=I (cr.o j hlj g1 g2);clear g1 g2
             go_wp2
             go_quiet (fail)
             go_wp2
             go_ret;exact⟨by rw[E2.o];rfl,below_drewN cg.o _⟩
            ·have t4:((al T.P j).t==x.t)=false:=by simpa using g2
             have HX:=I (show ¬((al T.P j).f=x.f/\(al T.P j).t=x.t) from fun h=>g2 h.2);clear g1 g2
             go_wp2
             go_quiet (fail)
             go_wp2
             go_roundw
             case rel=>exact⟨j+1,by omega,by go_num,fun q hq=>by
              by_cases e:q=j
              ·rw[e];exact HX.o
              ·exact cd.o q (by omega),cu.o.trans ⟨_,rfl⟩⟩
             case measure=>simp [intOf];omega
           ·have t3:((al T.P j).f==x.f)=false:=by simpa using g1
            have HX:=I (show ¬((al T.P j).f=x.f/\(al T.P j).t=x.t) from fun h=>g1 h.1);clear g1
            go_wp2
            go_quiet (fail)
            go_wp2
            go_roundw
            case rel=>exact⟨j+1,by omega,by go_num,fun q hq=>by
             by_cases e:q=j
             ·rw[e];exact HX.o
             ·exact cd.o q (by omega),cu.o.trans ⟨_,rfl⟩⟩
            case measure=>simp [intOf];omega
          ·have f1:¬(j:Int)<(i:Int):=by omega
           have E2:=I (cx.o fun q hq=>cd.o q (by omega))
           go_wp2
           go_roundw
           case rel=>exact⟨i+1,by omega,by go_num,E.o,E2.o,ct.o⟩
           case measure=>simp [intOf];omega
       ·have e1:¬(i:Int)<(k:Int):=by omega
        have bx:T.P.length<=i:=by have:=EK.o;omega
        have E:=I (ec.o (Dw bx HN.o) (by have h:=cb.o;rwa [List.take_of_length_le (by rw[Bz];exact bx)] at h));clear bx
        go_wp2
        go_ret;exact⟨by rw[E.o];rfl,O.o⟩
   ·have t2:decide (8<(k:Int))=true:=by simp;omega
    have E:=I (ID.o q2);clear q1 q2;go_enter Tryz.func35,Tryz.ntmps35
    go_wp2_with (go_at_call 71;refine Aj c1 ?_;rintro w1 hb;clear c1;replace HK:=I (HK.o.below hb);replace HB:=I (HB.o.trans (hb.mono (bb.o _ HB.o)));clear hb;have k0:=HK.o.cell 0;have k1:=HK.o.cell 1;have k2:=HK.o.cell 2;simp only[List.getElem?_toArray,List.getElem?_cons_zero,List.getElem?_cons_succ] at k0 k1 k2)
    go_ret;exact⟨by rw[E.o];rfl,HB.o⟩
  ·have t1:decide (20<(m:Int))=true:=by simp;omega
   have E:=I (IC.o q1);clear q1;go_enter Tryz.func35,Tryz.ntmps35
   go_wp2_with (go_at_call 71;refine Aj c1 ?_;rintro w1 hb;clear c1;replace HK:=I (HK.o.below hb);replace HB:=I (HB.o.trans (hb.mono (bb.o _ HB.o)));clear hb;have k0:=HK.o.cell 0;have k1:=HK.o.cell 1;have k2:=HK.o.cell 2;simp only[List.getElem?_toArray,List.getElem?_cons_zero,List.getElem?_cons_succ] at k0 k1 k2)
   go_ret;exact⟨by rw[E.o];rfl,HB.o⟩
end Rt
end Go.Proofs.YtiecjolmennkfaaGreat
