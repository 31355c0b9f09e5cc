import Derived.Test.YtfbnjcdhipplpaaGreatZAcTwo20
set_option maxHeartbeats 25600000
set_option maxRecDepth 100000
set_option linter.unusedVariables false
set_option linter.unusedSimpArgs false
namespace Go.Proofs.YtfbnjcdhipplpaaGreat
namespace Kd
open Go.RowKit Af Se
open Rg (It Ent Ring RO its Al)
open SeL (Cv BJ)
open Ms (Pt Rp Re ptO pSm reC tkC prC)
theorem set4 {w:World} {g:Nat} {t:TypeId} {z0 O z2 Z:Value} (M:Blk w g t #[z0,O,z2,Z]) (a b c d:Value):Blk ((((w.setCell ⟨g,0,none⟩ a).setCell ⟨g,1,none⟩ b).setCell ⟨g,2,none⟩ c).setCell ⟨g,3,none⟩ d) g t #[a,b,c,d]:=
 (((M.set 0 a).set 1 b).set 2 c).set 3 d
def Off (p:KP) (es:List Ent) (s:Option Ss) (g:Nat):Prop:=∀j,KA p es j\/SO s j->j≠g
theorem Off.no {p:KP} {es:List Ent} {s:Option Ss} {g:Nat} (h:Off p es s g):¬KSO p es s g:=fun x=>by
 rcases x with x | x
 ·exact h g (.inl (.inl x)) rfl
 ·exact h g (.inr x) rfl
def SlX (X:Nat->Prop) (p:KP) (es:List Ent) (s:Option Ss) (w:World) (v:Value) (l:Nm.L):Prop:=SlN (fun j=>KSO p es s j\/X j) w v l
section
variable {X Y:Nat->Prop} {p:KP} {es0 es:List Ent} {s0 s:Option Ss} {w0 w:World} {B n i c:Nat} {v:Value} {l:Nm.L}
theorem SlX.below {w':World} (h:SlX X p es s w v l) (M:Below w.heap.size w w'):SlX X p es s w' v l:=SlN.below h M
theorem SlX.up (h:SlX X p es s w v l) (g:Nat) (O:w.heap.size<=g):SlX (fun j=>X j\/j=g) p es s w v l:=h.mono (fun j M x=>by
 rcases x with x | x | x
 ·exact .inl x
 ·exact .inr x
 ·omega)
theorem SlX.o {a:World} (h:SlX X p es s w v l) (M:∀j,j<a.heap.size->X j):SlN (Out a p es s) w v l:=h.mono (fun j _ x=>by
 rcases x with x | x
 ·exact .inr (M j x)
 ·exact .inl x)
end
end Kd
namespace Ac
open Go.RowKit Af Se Kd
abbrev z2:Array Value:=#[.string ⟨#[]⟩,.string ⟨#[]⟩]
theorem Xs (w:World):Calls Tryz.prog 22 #[] w fun e w'=>e=.returned (prV pAnn)/\Below w.heap.size w w':=by
 obtain⟨W,M⟩:=Ak (w.alloc (.cells z2 27));have O:=I (show Blk W w.heap.size 27 z2 from M▸Blk.new w _ _);have HB:=I (show Below w.heap.size w W from M▸Ah.alloc Ag _);go_enter Tryz.func22,Tryz.ntmps22
 go_upto_region 1 with fail
 rw[<-M];clear M;have av:=O.o.cell 0;have Z:=O.o.cell 1;have fz:=O.o.frozen
 go_wp2
 have hz:Blk _ w.heap.size 27 #[.string ⟨pAnn.1.toArray⟩,.string ⟨pAnn.2.toArray⟩]:=(O.o.set 0 (.string ⟨pAnn.1.toArray⟩)).set 1 (.string ⟨pAnn.2.toArray⟩);refine bodyPost_ret (v:=prV pAnn) ?_ ?_ ?_
 ·exact Wh.Au (v:=prV pAnn) 0 27 ⟨w.heap.size,0,none⟩ Tryz.results22 (by rfl) (Wh.Ao hz Tryz.underlying27 (by rfl) Dn)
 ·rfl
 ·exact⟨rfl,Si.AS (Si.AS HB.o (by simp) _) (by simp) _⟩
theorem Yo (w:World):Calls Tryz.prog 23 #[] w fun e w'=>e=.returned (prV pSv)/\Below w.heap.size w w':=by
 obtain⟨W,M⟩:=Ak (w.alloc (.cells z2 27));have O:=I (show Blk W w.heap.size 27 z2 from M▸Blk.new w _ _);have HB:=I (show Below w.heap.size w W from M▸Ah.alloc Ag _);go_enter Tryz.func23,Tryz.ntmps23
 go_upto_region 1 with fail
 rw[<-M];clear M;have av:=O.o.cell 0;have Z:=O.o.cell 1;have fz:=O.o.frozen
 go_wp2
 have hz:Blk _ w.heap.size 27 #[.string ⟨pSv.1.toArray⟩,.string ⟨pSv.2.toArray⟩]:=(O.o.set 0 (.string ⟨pSv.1.toArray⟩)).set 1 (.string ⟨pSv.2.toArray⟩);refine bodyPost_ret (v:=prV pSv) ?_ ?_ ?_
 ·exact Wh.Au (v:=prV pSv) 0 27 ⟨w.heap.size,0,none⟩ Tryz.results23 (by rfl) (Wh.Ao hz Tryz.underlying27 (by rfl) Dn)
 ·rfl
 ·exact⟨rfl,Si.AS (Si.AS HB.o (by simp) _) (by simp) _⟩
open Nm (krb strs)
open Rt (SlV SlP RdP kl)
theorem dJ (w:World):Calls Tryz.prog 27 #[] w fun e w'=>∃v1 v2,e=.returned (.agg (tpA v1 v2))/\TpK (fun b=>w.heap.size<=b/\b<w'.heap.size) w' v1 v2 (.slice none 0 0) tT/\Below w.heap.size w w':=by
 obtain⟨W,Z⟩:=Ak (w.alloc (.cells (tpA (.slice none 0 0) (.slice none 0 0)) 46));have O:=I (show Blk W w.heap.size 46 (tpA (.slice none 0 0) (.slice none 0 0)) from Z▸Blk.new w _ _);have HB:=I (show Below w.heap.size w W from Z▸Ah.alloc Ag _);have bB:=I (show W.heap.size=w.heap.size+1 by rw[Z];simp);go_enter Tryz.func27,Tryz.ntmps27
 go_upto_region 1 with fail
 rw[<-Z];clear Z;have bx:=O.o.cell 0;have bq:=O.o.cell 1;have bn:=O.o.cell 2;have fz:=O.o.frozen;have lz:=O.o.lt;have bz:w.heap.size<W.heap.size+1:=by omega
 go_wp2
 obtain⟨X,eX⟩:=Ak (((W.setCell ⟨w.heap.size,0,none⟩ (.slice (some ⟨W.heap.size,0,none⟩) 3 3)).setCell ⟨w.heap.size,1,none⟩ (.slice (some ⟨W.heap.size+1,0,none⟩) 4 4)).setCell ⟨w.heap.size,2,none⟩ (.slice none 0 0));have hx:Blk X w.heap.size 46 (tpA (.slice (some ⟨W.heap.size,0,none⟩) 3 3) (.slice (some ⟨W.heap.size+1,0,none⟩) 4 4)):=eX▸((O.o.set 0 (.slice (some ⟨W.heap.size,0,none⟩) 3 3)).set 1 (.slice (some ⟨W.heap.size+1,0,none⟩) 4 4)).set 2 (.slice none 0 0);have bb:X.heap.size=W.heap.size:=by rw[eX];simp
 have aw:Below w.heap.size w X:=eX▸Si.AS (Si.AS (Si.AS HB.o (by simp) _) (by simp) _) (by simp) _;rw[<-eX];clear eX bx bq bn fz;obtain⟨V,eV⟩:=Ak ((X.alloc (.cells #[.string ⟨#[65,46,69,68,85]⟩,.string ⟨#[69,68,85]⟩,.string ⟨#[66,46,69,68,85]⟩] 9)).alloc (.cells #[.string ⟨#[65,46,69,68,85]⟩,.string ⟨#[69,68,85]⟩,.string ⟨#[69,68,85]⟩,.string ⟨#[65,46,69,68,85]⟩,.string ⟨#[69,68,85]⟩,.string ⟨#[66,46,69,68,85]⟩,.string ⟨#[66,46,69,68,85]⟩,.string ⟨#[69,68,85]⟩] 140));have hb:Below X.heap.size X V:=eV▸(Ah.alloc Ag _).alloc (by simp) _;have av:Blk V W.heap.size 9 #[.string ⟨#[65,46,69,68,85]⟩,.string ⟨#[69,68,85]⟩,.string ⟨#[66,46,69,68,85]⟩]:=by rw[<-bb];exact eV▸(Blk.new X _ _).alloc _
 have M:Blk V (W.heap.size+1) 140 #[.string ⟨#[65,46,69,68,85]⟩,.string ⟨#[69,68,85]⟩,.string ⟨#[69,68,85]⟩,.string ⟨#[65,46,69,68,85]⟩,.string ⟨#[69,68,85]⟩,.string ⟨#[66,46,69,68,85]⟩,.string ⟨#[66,46,69,68,85]⟩,.string ⟨#[69,68,85]⟩]:=by have:=Blk.new (X.alloc (.cells #[.string ⟨#[65,46,69,68,85]⟩,.string ⟨#[69,68,85]⟩,.string ⟨#[66,46,69,68,85]⟩] 9)) 140 #[.string ⟨#[65,46,69,68,85]⟩,.string ⟨#[69,68,85]⟩,.string ⟨#[69,68,85]⟩,.string ⟨#[65,46,69,68,85]⟩,.string ⟨#[69,68,85]⟩,.string ⟨#[66,46,69,68,85]⟩,.string ⟨#[66,46,69,68,85]⟩,.string ⟨#[69,68,85]⟩];simp only[World.size_alloc] at this;rw[<-bb];exact eV▸this
 have hz:=hx.below hb;rw[<-eV];clear eV;refine bodyPost_ret (v:=.agg (tpA (.slice (some ⟨W.heap.size,0,none⟩) 3 3) (.slice (some ⟨W.heap.size+1,0,none⟩) 4 4))) ?_ ?_ ?_
 ·exact Wh.Au (v:=.agg (tpA (.slice (some ⟨W.heap.size,0,none⟩) 3 3) (.slice (some ⟨W.heap.size+1,0,none⟩) 4 4))) 0 46 ⟨w.heap.size,0,none⟩ Tryz.results27 (by rfl) (Wh.Ao hz Tryz.underlying46 (by rfl) (by kernel_rfl))
 ·rfl
 ·have h1:=av.lt
  have h2:=M.lt;refine⟨_,_,rfl,⟨⟨_,3,rfl,Nat.le_refl _,.inr ⟨_,0,rfl,⟨by omega,h1⟩,fun i u hu=>?_⟩⟩,⟨_,4,rfl,Nat.le_refl _,.inr ⟨_,0,rfl,⟨by omega,h2⟩,fun i hi=>?_⟩⟩,rfl,rfl⟩,aw.trans (hb.mono aw.size)⟩
  ·rw[Nat.zero_add,av.cell]
   have e:(strs tT.R)[i]? = (strs tT.R).toArray[i]?:=by simp
   rw[e] at hu;exact hu
  ·have hi:i<4:=hi
   rw[Nat.zero_add]
   match i,hi with
   |0,_=>exact⟨M.cell 0,M.cell 1⟩
   |1,_=>exact⟨M.cell 2,M.cell 3⟩
   |2,_=>exact⟨M.cell 4,M.cell 5⟩
   |3,_=>exact⟨M.cell 6,M.cell 7⟩
theorem tT_kt:∀x∈tT.K,x.1.length<=3000/\x.2.length<=3000:=by decide
end Ac
namespace Rt
open Go.RowKit Af Nm
theorem Eo (ls:List L) (A:Option Addr) (c B:Nat) (r:L) (w:World) (hl:ls.length<=9000000000000000) (hr:Rd w B A (strs ls)) :
  Calls Tryz.prog 52 #[.slice A ls.length c,.string ⟨r.toArray⟩] w fun e w'=>e=.returned (.int .i64 (Tr.ixL r ls))/\w=w':=by
 have HR:=I hr;clear hr;obtain⟨n,en⟩:=Ak (ls.length);rw[<-en] at hl⊢;have Z:=I en;clear en;go_enter Tryz.func52,Tryz.ntmps52
 go_wp2
 go_loop [5] (fun M=>∃i:Nat,i<=n/\M=.int .i64 (i:Int)/\∀k,k<i->pl ls k≠r) (fun M=>n - (intOf M).toNat)
 case atStart=>exact⟨0,Nat.zero_le _,rfl,fun k h=>absurd h (Nat.not_lt_zero k)⟩
 case round=>
  obtain⟨i,hi,rfl,hn⟩:=hrel;have O:=I hn;clear hn
  by_cases hlt:i<n
  ·have e1:(i:Int)<(n:Int):=by omega
   have e2:(0:Int)<=(i:Int):=by omega
   obtain⟨b,o,rfl,_,h1⟩:=DC HR.o (i:=i) (by rw[<-Z.o];exact hlt)
   by_cases hx:pl ls i=r
   ·have t1:(pl ls i==r)=true:=by simpa using hx
    have E:=I (Tr.Pg (by rw[<-Z.o];exact hlt) hx O.o);clear hx
    go_wp2
    go_ret;exact⟨by rw[E.o];rfl,rfl⟩
   ·have t1:(pl ls i==r)=false:=by simpa using hx
    have HX:=I hx;clear hx
    go_wp2
    go_round
    case rel=>exact⟨i+1,by omega,by go_num,fun k hk=>by
     by_cases q:k=i
     ·rw[q];exact HX.o
     ·exact O.o k (by omega)⟩
    case measure=>simp [intOf];omega
  ·have e1:¬(i:Int)<(n:Int):=by omega
   have E:=I (Tr.Sn (ls:=ls) (r:=r) fun k hk=>O.o k (by have:=Z.o;omega))
   go_wp2
   go_ret;exact⟨by rw[E.o];rfl,rfl⟩
theorem DF {ls:List L} {r:L} (h:r∈ls):∃z:Int,z=Tr.ixL r ls/\0<=z:=⟨_,rfl,by have:=Tr.YQ r ls;simpa [h] using this⟩
theorem DU {ls:List L} {r:L} (h:r∉ls):∃z:Int,z=Tr.ixL r ls/\z<0:=⟨_,rfl,by have:=Tr.YQ r ls;simpa [h] using this⟩
theorem UI {w:World} {B b o i:Nat} {ls:List L} (h:Rd w B (some ⟨b,o,none⟩) (strs ls)) (hi:i<ls.length):w.cell? ⟨b,o+i,none⟩=some (.string ⟨(pl ls i).toArray⟩):=by
 obtain⟨O,Z,e,_,M⟩:=DC h hi;injection e with e;injection e with e1 e2;subst e1;subst e2;exact M
theorem OK (ls:List L) (A:Option Addr) (c B:Nat) (w:World) (hl:ls.length<=1000000) (hc:ls.length<=c) (hr:Rd w B A (strs ls)) (hB:B<=w.heap.size) (hs:∀i,i<ls.length->(pl ls i).length<=1000000000) :
  Calls Tryz.prog 120 #[.slice A ls.length c] w fun e w'=>e=.returned (.bool (Bv ls&&(decide (1<=ls.length)&&decide (ls.length<=6))))/\Below w.heap.size w w':=by
 obtain⟨N,eN⟩:=Ak (w.heap.size);rw[<-eN] at hB⊢;have bx:=I (show Below N w w from Below.refl _ _);have bq:=I eN;clear eN;have aw:=I (show ∀w1:World,Below N w w1->N<=w1.heap.size from fun w1 h=>by have:=h.size;have:=bq.o;omega);have HR:=I hr;clear hr;have IS:=I (fun(i:Nat) (h:i<ls.length) w1=>Nr (pl ls i) w1 (hs i h));have PL:=I (fun(i:Nat) (hi:i<ls.length) w1 (h:Rd w1 B A (strs ls))=>Eo (ls.take i) A c B (pl ls i) w1 (by simp;omega) (NS h (by omega)));have EQ:=I (show Bv ls=(ls.all isL&&decide ls.Nodup) from rfl);obtain⟨n,en⟩:=Ak (ls.length);rw[<-en] at hl hc⊢;have EN:=I en;clear en hs;go_enter Tryz.func120,Tryz.ntmps120
 go_wp2
 go_loopw [3] (fun iv wr=>∃i:Nat,i<=n/\iv=.int .i64 (i:Int)/\(ls.take i).all isL=true/\(ls.take i).Nodup/\Below N w wr) (fun iv _=>n - (intOf iv).toNat)
 case atStart=>exact⟨0,Nat.zero_le _,rfl,by simp,by simp,bx.o⟩
 case round=>
  obtain⟨i,hi,rfl,hn,hd,hb⟩:=hrel;have HN:=I hn;clear hn;have HD:=I hd;clear hd;have Z:=I hb;clear hb
  by_cases hlt:i<n
  ·have e1:(i:Int)<(n:Int):=by omega
   have e2:(0:Int)<=(i:Int):=by omega
   have e3:(i:Int)<=(c:Int):=by omega
   have M:i<ls.length:=by rw[<-EN.o];exact hlt
   have hlen:(ls.take i).length=i:=by simp;omega
   have c1:=IS.o i M;have c2:=PL.o i M;rw[hlen] at c2;have bb:=all_succ (p:=isL) M;rw[HN.o,Bool.true_and,<-CO M] at bb;have av:=DG M;rw[<-CO M] at av;have O:=I (HR.o.below (Z.o.mono hB));obtain⟨b,o,eA,_,h1⟩:=DC O.o M;subst eA;cases hx:isL (pl ls i) with
   |false=>
    rw[hx] at c1;have E:=I (show Bv ls=false by
     rw[EQ.o,all_false M (by rw[<-CO M];exact hx)];rfl)
    clear c2 bb av hx
    go_wp2
    replace Z:=I (below_drewN Z.o 1);have HC:=I (show ∀w',Reg.Fe wr.drew w'->w'.cell? ⟨b,o+i,none⟩=some (.string ⟨(pl ls i).toArray⟩) from fun w' hS=>UI ((O.o.drewN 1).below (w':=w') (hS.mono (Nat.le_trans hB (aw.o _ Z.o)))) M);clear h1 M hlen;refine Reg.Cd 17 rfl (by kernel_rfl) ?_;refine Reg.tz 0 rfl ?_;refine Reg.tz 1 rfl ?_;refine Reg.tz 2 rfl ?_;refine Reg.tx 3 rfl (fun w' hS=>by have hh:=HC.o w' hS;go_simp;rfl) ?_;refine Reg.Ff 4 rfl (by kernel_rfl) (by rfl) 46 #[.string ⟨(pl ls i).toArray⟩] (by go_simp) ?_;refine Aj (c1 _) ?_;rintro w1 hb;refine⟨_,rfl,hb,?_⟩;have H1:=I (Z.o.trans (hb.mono (aw.o _ Z.o)));clear hb;simp only[Act.put,U,Aa,Ab];refine Reg.tz 5 rfl ?_;refine Reg.tz 6 rfl ?_;refine Reg.sk 7 rfl ?_;refine Reg.sk 8 rfl ?_;refine Reg.sk 9 rfl ?_;refine Reg.sk 10 rfl ?_;refine Reg.sk 11 rfl ?_;refine Reg.sk 12 rfl ?_;refine Reg.sk 13 rfl ?_;refine Reg.sk 14 rfl ?_;refine Reg.sk 15 rfl ?_;refine Reg.tz 16 rfl ?_;refine wpAnyH_done (by kernel_rfl) ?_ _
    go_wp2
    go_ret;exact⟨by rw[E.o];rfl,H1.o⟩
   |true=>
    rw[hx] at c1;have C1:=I c1;have C2:=I c2;clear c1 c2;have HC:=I (fun w' (h:Rd w' B (some ⟨b,o,none⟩) (strs ls))=>UI h M)
    by_cases hy:pl ls i∈ls.take i
    ·obtain⟨z,ez,hz⟩:=DF hy
     rw[<-ez] at C2;have z1:decide (0<=z)=true:=decide_eq_true hz;have E:=I (show Bv ls=false by
      rw[EQ.o,decide_eq_false (fun h=>(av.1 (FP h)).2 hy)];simp)
     clear ez hy hz hx bb av M hlen
     go_wp2
     replace Z:=I (below_drewN Z.o 1);replace O:=I (O.o.drewN 1)
     go_region_held3 (fun w'=>w'.cell? ⟨b,o+i,none⟩=some (.string ⟨(pl ls i).toArray⟩)) (exact HC.o _ O.o) ((first
      |(go_at_call 46;refine Aj (C1.o _) ?_;rintro w1 hb;replace O:=I (O.o.below (hb.mono (Nat.le_trans hB (aw.o _ Z.o))));replace Z:=I (Z.o.trans (hb.mono (aw.o _ Z.o)));clear hb)
      |(go_at_call 52;refine Aj (C2.o _ O.o) ?_;rintro w2 rfl)))
     go_wp2
     go_ret;exact⟨by rw[E.o];rfl,Z.o⟩
    ·obtain⟨z,ez,hz⟩:=DU hy
     rw[<-ez] at C2;have z1:decide (0<=z)=false:=decide_eq_false (by omega);have E:=I (bb.trans hx);have E2:=I (av.2 ⟨HD.o,hy⟩);clear ez hy hz hx bb av M hlen
     go_wp2
     replace Z:=I (below_drewN Z.o 1);replace O:=I (O.o.drewN 1)
     go_region_held3 (fun w'=>w'.cell? ⟨b,o+i,none⟩=some (.string ⟨(pl ls i).toArray⟩)) (exact HC.o _ O.o) ((first
      |(go_at_call 46;refine Aj (C1.o _) ?_;rintro w1 hb;replace O:=I (O.o.below (hb.mono (Nat.le_trans hB (aw.o _ Z.o))));replace Z:=I (Z.o.trans (hb.mono (aw.o _ Z.o)));clear hb)
      |(go_at_call 52;refine Aj (C2.o _ O.o) ?_;rintro w2 rfl)))
     go_wp2
     go_roundw
     case rel=>exact⟨i+1,by omega,by go_num,E.o,E2.o,Z.o⟩
     case measure=>simp [intOf];omega
  ·have e1:¬(i:Int)<(n:Int):=by omega
   have bn:ls.length<=i:=by have:=EN.o;omega
   have E:=I (show Bv ls=true by
    have h:=HD.o;rw[List.take_of_length_le bn] at h;rw[EQ.o,Ds bn HN.o,decide_eq_true h];rfl)
   by_cases q1:1<=n
   ·have t1:decide ((1:Int)<=(n:Int))=true:=by simp;omega
    by_cases q2:n<=6
    ·have t2:decide ((n:Int)<=6)=true:=by simp;omega
     have E2:=I (show(Bv ls&&(decide (1<=n)&&decide (n<=6)))=true by rw[E.o,decide_eq_true q1,decide_eq_true q2];rfl);clear q1 q2
     go_wp2
     go_ret;exact⟨by rw[E2.o];rfl,Z.o⟩
    ·have t2:decide ((n:Int)<=6)=false:=by simp;omega
     have E2:=I (show(Bv ls&&(decide (1<=n)&&decide (n<=6)))=false by rw[decide_eq_false q2];simp);clear q1 q2
     go_wp2
     go_ret;exact⟨by rw[E2.o];rfl,Z.o⟩
   ·have t1:decide ((1:Int)<=(n:Int))=false:=by simp;omega
    have E2:=I (show(Bv ls&&(decide (1<=n)&&decide (n<=6)))=false by rw[decide_eq_false q1];simp);clear q1
    go_wp2
    go_ret;exact⟨by rw[E2.o];rfl,Z.o⟩
theorem UJ (p:Pa) (T:Tp) (v u:Value) (B:Nat) (w:World) (hs:Sm T) (hp:p.v.length<=3000) (hv:TpV w B v T) (hu:PaV w B u p) (hB:B<=w.heap.size) (hq:Dd T.R (p.f,p.t)=true) (h4:p.v.length<=4) :
  Calls Tryz.prog 121 #[v,u] w fun e w'=>e=.returned (.bool (viaB T.R p))/\Below w.heap.size w w':=by
 obtain⟨v1,v2,v3,rfl,⟨A1,d1,rfl,cr,r1⟩,⟨A2,d2,rfl,ct,r2⟩,⟨A3,d3,rfl,cu,r3⟩⟩:=hv;obtain⟨u1,rfl,⟨A5,d5,rfl,cy,r5⟩⟩:=hu;have cg:=(Below.refl w.heap.size w).alloc Ag (.cells #[.slice A1 T.R.length d1,.slice A2 T.K.length d2,.slice A3 T.P.length d3] 46);have cc:=cg.alloc cg.size (.cells #[.string ⟨p.f.toArray⟩,.string ⟨p.t.toArray⟩,.slice A5 p.v.length d5] 208);have HB:=I cc;have Z:=I (Blk.new (w.alloc (.cells #[.slice A1 T.R.length d1,.slice A2 T.K.length d2,.slice A3 T.P.length d3] 46)) 208 #[.string ⟨p.f.toArray⟩,.string ⟨p.t.toArray⟩,.slice A5 p.v.length d5]);have cb:=I ((Blk.new w 46 #[.slice A1 T.R.length d1,.slice A2 T.K.length d2,.slice A3 T.P.length d3]).alloc (.cells #[.string ⟨p.f.toArray⟩,.string ⟨p.t.toArray⟩,.slice A5 p.v.length d5] 208));have HR:=I (r1.below (cc.mono hB));have HV:=I (r5.below (cc.mono hB));have PR:=I (fun x w1 (h:Rd w1 B A1 (strs T.R))=>Eo T.R A1 d1 B x w1 (by have:=hs.r;omega) h);have PV:=I (fun(i:Nat) (hi:i<p.v.length) w1 (h:Rd w1 B A5 (strs p.v))=>Eo (p.v.take i) A5 d5 B (pl p.v i) w1 (by simp;omega) (NS h (by omega)));rw[Dd,Bool.and_eq_true,Bool.and_eq_true,decide_eq_true_eq,decide_eq_true_eq,decide_eq_true_eq] at hq;obtain⟨cf,hf,ht⟩:=hq;simp only at cf hf ht;have t1:(p.f==p.t)=false:=by simpa using cf
 obtain⟨z1,cp,cx⟩:=DF hf;obtain⟨z2,cn,cA⟩:=DF ht;have c1:=PR.o p.f;have c2:=PR.o p.t;rw[<-cp] at c1;rw[<-cn] at c2;have s1:decide (z1<0)=false:=decide_eq_false (by omega);have s2:decide (z2<0)=false:=decide_eq_false (by omega);have EQ:=I (show viaB T.R p=(p.v.all (onB T.R p)&&decide p.v.Nodup) by rw[viaB,decide_eq_true h4];rfl);obtain⟨n,en⟩:=Ak (p.v.length);obtain⟨m,em⟩:=Ak (T.R.length);clear cg cc;rw[<-en] at HB cb Z HR HV cy h4 hp;rw[<-em] at HB cb Z HR HV PR c1 c2;rw[<-en,<-em];have s3:decide (4<(n:Int))=false:=by simp;omega
 have EN:=I en;clear en em cp cn cx cA cf hf ht r1 r2 r3 r5 hB hs cr ct cu h4;have C1:=I c1;have C2:=I c2;clear c1 c2;go_enter Tryz.func121,Tryz.ntmps121
 go_wp2_with (first
  |(go_at_call 52;with_reducible refine Aj (C1.o _ HR.o) ?_;rintro w1 rfl;clear C1)
  |(go_at_call 52;with_reducible refine Aj (C2.o _ HR.o) ?_;rintro w1 rfl;clear C2))
 obtain⟨W,eW⟩:=Ak ((w.alloc (.cells #[.slice A1 m d1,.slice A2 T.K.length d2,.slice A3 T.P.length d3] 46)).alloc (.cells #[.string ⟨p.f.toArray⟩,.string ⟨p.t.toArray⟩,.slice A5 n d5] 208));rw[<-eW] at HB cb Z HR HV⊢;clear eW;have cq:(w.alloc (.cells #[.slice A1 m d1,.slice A2 T.K.length d2,.slice A3 T.P.length d3] 46)).heap.size=w.heap.size+1:=by simp
 rw[cq] at Z;clear cq
 go_loopw [5] (fun iv wr=>∃i:Nat,i<=n/\iv=.int .i64 (i:Int)/\(p.v.take i).all (onB T.R p)=true/\(p.v.take i).Nodup/\AU W wr) (fun iv _=>n - (intOf iv).toNat)
 case atStart=>exact⟨0,Nat.zero_le _,rfl,by simp,by simp,AU.refl _⟩
 case round=>
  obtain⟨i,hi,rfl,hn,O,hd⟩:=hrel;have HN:=I hn;clear hn;have cm:=I O;clear O;have bq:=I (show Rd wr B A1 (strs T.R) by obtain⟨q,rfl⟩:=hd;exact HR.o.drewN q);have bb:=I (show Rd wr B A5 (strs p.v) by obtain⟨q,rfl⟩:=hd;exact HV.o.drewN q);have k0:wr.cell? ⟨w.heap.size,0,none⟩=some (.slice A1 m d1):=by obtain⟨q,rfl⟩:=hd;exact cb.o.cell 0
  have k1:wr.cell? ⟨w.heap.size+1,0,none⟩=some (.string ⟨p.f.toArray⟩):=by obtain⟨q,rfl⟩:=hd;exact Z.o.cell 0
  have k2:wr.cell? ⟨w.heap.size+1,1,none⟩=some (.string ⟨p.t.toArray⟩):=by obtain⟨q,rfl⟩:=hd;exact Z.o.cell 1
  have k3:wr.cell? ⟨w.heap.size+1,2,none⟩=some (.slice A5 n d5):=by obtain⟨q,rfl⟩:=hd;exact Z.o.cell 2
  have av:=I hd;clear hd
  by_cases hlt:i<n
  ·have e1:(i:Int)<(n:Int):=by omega
   have e2:(0:Int)<=(i:Int):=by omega
   have e3:(i:Int)<=(d5:Int):=by omega
   have M:i<p.v.length:=by rw[<-EN.o];exact hlt
   have hlen:(p.v.take i).length=i:=by simp;omega
   have C4:=I (PV.o i M);rw[hlen] at C4;have bz:=all_succ (p:=onB T.R p) M;rw[HN.o,Bool.true_and,<-CO M] at bz;have ca:=all_false (p:=onB T.R p) M;rw[<-CO M] at ca;have O:=DG M;rw[<-CO M] at O;obtain⟨b,o,eA,_,h1⟩:=DC bb.o M;subst eA;obtain⟨x,ex⟩:=Ak (pl p.v i);rw[<-ex] at bz ca O h1 C4;have C3:=I (PR.o x);have cw:=I bz;have cj:=I ca;have cd:=I O;clear ex M hlen bz ca O
   by_cases q1:x∈T.R
   ·obtain⟨y1,aw,bx⟩:=DF q1
    rw[<-aw] at C3;have s4:decide (y1<0)=false:=decide_eq_false (by omega);have Q1:=I q1;clear aw bx q1
    by_cases q2:x∈p.v.take i
    ·obtain⟨y2,bn,bB⟩:=DF q2
     rw[<-bn] at C4;have s5:decide (0<=y2)=true:=decide_eq_true bB;have E:=I (show viaB T.R p=false by rw[EQ.o,decide_eq_false (fun h=>(cd.o.1 (FP h)).2 q2)];simp);clear bn bB q2
     go_wp2
     go_quiet (first
      |(go_at_call 52;with_reducible refine Aj (C3.o _ (bq.o.drewN _)) ?_;rintro w9 rfl;exact⟨rfl,_,rfl⟩)
      |(go_at_call 52;with_reducible refine Aj (C4.o _ (bb.o.drewN _)) ?_;rintro w9 rfl;exact⟨rfl,_,rfl⟩))
     go_wp2
     go_ret;exact⟨by rw[E.o];rfl,HB.o.trans ((av.o.trans ⟨_,rfl⟩).below.mono HB.o.size)⟩
    ·obtain⟨y2,bn,bB⟩:=DU q2
     rw[<-bn] at C4;have s5:decide (0<=y2)=false:=decide_eq_false (by omega);have E2:=I (cd.o.2 ⟨cm.o,q2⟩);clear bn bB q2
     by_cases q3:x=p.f
     ·have t3:(x==p.f)=true:=by simpa using q3
      have E:=I (show viaB T.R p=false by rw[EQ.o,cj.o (by rw[onB,decide_eq_false (fun h=>h q3)];rfl)];rfl);clear q3
      go_wp2
      go_quiet (first
       |(go_at_call 52;with_reducible refine Aj (C3.o _ (bq.o.drewN _)) ?_;rintro w9 rfl;exact⟨rfl,_,rfl⟩)
       |(go_at_call 52;with_reducible refine Aj (C4.o _ (bb.o.drewN _)) ?_;rintro w9 rfl;exact⟨rfl,_,rfl⟩))
      go_wp2
      go_ret;exact⟨by rw[E.o];rfl,HB.o.trans ((av.o.trans ⟨_,rfl⟩).below.mono HB.o.size)⟩
     ·have t3:(x==p.f)=false:=by simpa using q3
      by_cases q4:x=p.t
      ·have t4:(x==p.t)=true:=by simpa using q4
       have E:=I (show viaB T.R p=false by rw[EQ.o,cj.o (by rw[onB,decide_eq_false (p:=x≠p.t) (fun h=>h q4)];simp)];rfl);clear q3 q4
       go_wp2
       go_quiet (first
        |(go_at_call 52;with_reducible refine Aj (C3.o _ (bq.o.drewN _)) ?_;rintro w9 rfl;exact⟨rfl,_,rfl⟩)
        |(go_at_call 52;with_reducible refine Aj (C4.o _ (bb.o.drewN _)) ?_;rintro w9 rfl;exact⟨rfl,_,rfl⟩))
       go_wp2
       go_ret;exact⟨by rw[E.o];rfl,HB.o.trans ((av.o.trans ⟨_,rfl⟩).below.mono HB.o.size)⟩
      ·have t4:(x==p.t)=false:=by simpa using q4
       have E:=I (cw.o.trans (show onB T.R p x=true by rw[onB,decide_eq_true q3,decide_eq_true q4,decide_eq_true Q1.o];rfl));clear q3 q4
       go_wp2
       go_quiet (first
        |(go_at_call 52;with_reducible refine Aj (C3.o _ (bq.o.drewN _)) ?_;rintro w9 rfl;exact⟨rfl,_,rfl⟩)
        |(go_at_call 52;with_reducible refine Aj (C4.o _ (bb.o.drewN _)) ?_;rintro w9 rfl;exact⟨rfl,_,rfl⟩))
       go_wp2
       go_roundw
       case rel=>exact⟨i+1,by omega,by go_num,E.o,E2.o,av.o.trans ⟨_,rfl⟩⟩
       case measure=>simp [intOf];omega
   ·obtain⟨y1,aw,bx⟩:=DU q1
    rw[<-aw] at C3;have s4:decide (y1<0)=true:=decide_eq_true bx;have E:=I (show viaB T.R p=false by rw[EQ.o,cj.o (by rw[onB,decide_eq_false q1];simp)];rfl);clear aw bx q1
    go_wp2
    go_quiet (first
     |(go_at_call 52;with_reducible refine Aj (C3.o _ (bq.o.drewN _)) ?_;rintro w9 rfl;exact⟨rfl,_,rfl⟩))
    go_wp2
    go_ret;exact⟨by rw[E.o];rfl,HB.o.trans ((av.o.trans ⟨_,rfl⟩).below.mono HB.o.size)⟩
  ·have e1:¬(i:Int)<(n:Int):=by omega
   have ck:p.v.length<=i:=by have:=EN.o;omega
   have E:=I (show viaB T.R p=true by
    have h:=cm.o;rw[List.take_of_length_le ck] at h;rw[EQ.o,Ds ck HN.o,decide_eq_true h];rfl)
   go_wp2
   go_ret;exact⟨by rw[E.o];rfl,HB.o.trans (av.o.below.mono HB.o.size)⟩
theorem aR {R:List L} {p:Pa} (h:Dd R (p.f,p.t)=true):Fq R p=viaB R p:=by rw[Fq,h];rfl
theorem dK {R:List L} {p:Pa} (h:p.f∉R):Fq R p=false:=by rw[Fq,Dd];simp [h]
theorem dL {R:List L} {p:Pa} (h:p.t∉R):Fq R p=false:=by rw[Fq,Dd];simp [h]
theorem dM {R:List L} {p:Pa} (h:p.f=p.t):Fq R p=false:=by rw[Fq,Dd];simp [h]
theorem dN {R:List L} {p:Pa} (h:¬p.v.length<=4):Fq R p=false:=by rw[Fq,viaB,decide_eq_false h];simp
theorem UK (p:Pa) (T:Tp) (v u:Value) (B:Nat) (w:World) (hs:Sm T) (hp:p.v.length<=3000) (hv:TpV w B v T) (hu:PaV w B u p) (hB:B<=w.heap.size) :
  Calls Tryz.prog 121 #[v,u] w fun e w'=>e=.returned (.bool (Fq T.R p))/\Below w.heap.size w w':=by
 by_cases hgood:Dd T.R (p.f,p.t)=true/\p.v.length<=4
 ·rw[aR hgood.1]
  exact UJ p T v u B w hs hp hv hu hB hgood.1 hgood.2
 obtain⟨v1,v2,v3,rfl,⟨A1,d1,rfl,bq,r1⟩,⟨A2,d2,rfl,bx,r2⟩,⟨A3,d3,rfl,bz,r3⟩⟩:=hv;obtain⟨u1,rfl,⟨A5,d5,rfl,bn,r5⟩⟩:=hu;have aw:=(Below.refl w.heap.size w).alloc Ag (.cells #[.slice A1 T.R.length d1,.slice A2 T.K.length d2,.slice A3 T.P.length d3] 46);have bb:=aw.alloc aw.size (.cells #[.string ⟨p.f.toArray⟩,.string ⟨p.t.toArray⟩,.slice A5 p.v.length d5] 208);have HB:=I bb;have HR:=I (r1.below (bb.mono hB));have PR:=I (fun x w1 (h:Rd w1 B A1 (strs T.R))=>Eo T.R A1 d1 B x w1 (by have:=hs.r;omega) h);have c1:=PR.o p.f;have c2:=PR.o p.t;have EA:=I (@dK T.R p);have EB:=I (@dL T.R p);have EC:=I (@dM T.R p);have ED:=I (@dN T.R p);have HG:=I (show ¬(p.f∈T.R/\p.t∈T.R/\p.f≠p.t/\p.v.length<=4) from fun h=>hgood ⟨by rw[Dd];simp [h.1,h.2.1,h.2.2.1],h.2.2.2⟩);obtain⟨n,en⟩:=Ak (p.v.length);obtain⟨m,em⟩:=Ak (T.R.length);clear aw bb hgood;rw[<-en] at HB HR ED HG hp;rw[<-em] at HB HR PR c1 c2;rw[<-en,<-em];clear en em r1 r2 r3 r5 hB hs bq bx bz bn
 by_cases q1:p.f∈T.R
 ·obtain⟨z1,O,Z⟩:=DF q1
  rw[<-O] at c1;have s1:decide (z1<0)=false:=decide_eq_false (by omega);have C1:=I c1;clear c1 O Z
  by_cases q2:p.t∈T.R
  ·obtain⟨z2,M,av⟩:=DF q2
   rw[<-M] at c2;have s2:decide (z2<0)=false:=decide_eq_false (by omega);have C2:=I c2;clear c2 M av
   by_cases q3:p.f=p.t
   ·have t3:(p.f==p.t)=true:=by simpa using q3
    have E:=I (EC.o q3);clear q1 q2 q3;go_enter Tryz.func121,Tryz.ntmps121
    go_wp2_with (first
     |(go_at_call 52;with_reducible refine Aj (C1.o _ HR.o) ?_;rintro w1 rfl;clear C1)
     |(go_at_call 52;with_reducible refine Aj (C2.o _ HR.o) ?_;rintro w1 rfl;clear C2))
    go_ret;exact⟨by rw[E.o];rfl,HB.o⟩
   ·have t3:(p.f==p.t)=false:=by simpa using q3
    have h4:¬n<=4:=fun h=>HG.o ⟨q1,q2,q3,h⟩
    have s3:decide (4<(n:Int))=true:=by simp;omega
    have E:=I (ED.o h4);clear q1 q2 q3 h4;go_enter Tryz.func121,Tryz.ntmps121
    go_wp2_with (first
     |(go_at_call 52;with_reducible refine Aj (C1.o _ HR.o) ?_;rintro w1 rfl;clear C1)
     |(go_at_call 52;with_reducible refine Aj (C2.o _ HR.o) ?_;rintro w1 rfl;clear C2))
    go_ret;exact⟨by rw[E.o];rfl,HB.o⟩
  ·obtain⟨z2,M,av⟩:=DU q2
   rw[<-M] at c2;have s2:decide (z2<0)=true:=decide_eq_true av;have C2:=I c2;clear c2 M av;have E:=I (EB.o q2);clear q1 q2;go_enter Tryz.func121,Tryz.ntmps121
   go_wp2_with (first
    |(go_at_call 52;with_reducible refine Aj (C1.o _ HR.o) ?_;rintro w1 rfl;clear C1)
    |(go_at_call 52;with_reducible refine Aj (C2.o _ HR.o) ?_;rintro w1 rfl;clear C2))
   go_ret;exact⟨by rw[E.o];rfl,HB.o⟩
 ·obtain⟨z1,O,Z⟩:=DU q1
  rw[<-O] at c1;have s1:decide (z1<0)=true:=decide_eq_true Z;have C1:=I c1;clear c1 c2 O Z;have E:=I (EA.o q1);clear q1;go_enter Tryz.func121,Tryz.ntmps121
  go_wp2_with (go_at_call 52;with_reducible refine Aj (C1.o _ HR.o) ?_;rintro w1 rfl;clear C1)
  go_ret;exact⟨by rw[E.o];rfl,HB.o⟩
theorem isr_k {T:Tp} {i:Nat} (hi:i<T.K.length) (h:Dd T.R (kl T.K i)=false):isT T=false:=by
 rw[Gb hi] at h;exact Zi (by rw[CU,all_false hi h];rfl)
theorem dO {T:Tp} {i k:Nat} (hi:i<T.K.length) (hk:k<i) (h:kl T.K k=kl T.K i):isT T=false:=by
 refine Zi ?_;rw[CU,decide_eq_false,Bool.and_false];intro M;rw[List.nodup_iff_pairwise_ne,List.pairwise_iff_getElem] at M;rw[Gb hi,Gb (by omega)] at h;exact M k i (by omega) hi hk h
theorem Yp {T:Tp} (h:Gh T.P T.R=false):isT T=false:=by rw[isT,h];simp
theorem isr_p {T:Tp} {i:Nat} (hi:i<T.P.length) (h:Fq T.R (al T.P i)=false):isT T=false:=by
 rw[JX hi] at h;exact Yp (by rw[KY,all_false hi h];rfl)
theorem LH {P:List Pa} {i:Nat} (hi:i<P.length):(Eh P)[i]'(by rw[Bw];exact hi)=((al P i).f,(al P i).t):=by
 simp [Eh,JX hi]
theorem dP {T:Tp} {i k:Nat} (hi:i<T.P.length) (hk:k<i) (O:(al T.P k).f=(al T.P i).f) (Z:(al T.P k).t=(al T.P i).t):isT T=false:=by
 refine Yp ?_;rw[KY,decide_eq_false,Bool.and_false];intro M;rw[List.nodup_iff_pairwise_ne,List.pairwise_iff_getElem] at M;refine M k i (by rw[Bw];omega) (by rw[Bw];exact hi) hk ?_;rw[LH hi,LH (by omega),O,Z]
theorem aS {T:Tp} (h:(Bv T.R&&(decide (1<=T.R.length)&&decide (T.R.length<=6)))=true) (h3:T.K.length<=20) (M:T.P.length<=8) (O:T.K.all (Dd T.R)=true) (h6:T.K.Nodup) (h7:T.P.all (Fq T.R)=true) (Z:(Eh T.P).Nodup):isT T=true:=by
 rw[Bool.and_eq_true,Bool.and_eq_true] at h;rw[isT,h.1,h.2.1,h.2.2,decide_eq_true h3,decide_eq_true M,CU,O,decide_eq_true h6,KY,h7,decide_eq_true Z];rfl
theorem isr_a {T:Tp} (h:(Bv T.R&&(decide (1<=T.R.length)&&decide (T.R.length<=6)))=false):isT T=false:=by
 rw[isT];cases h1:Bv T.R
 ·simp
 ·rw[h1,Bool.true_and] at h
  rw[h];rfl
theorem JQ {α:Type} {l:List α} {i:Nat} (hi:i<l.length) (h:∀k (hk:k<i),l[k]'(by omega)≠l[i]):l[i]∉l.take i:=by
 intro hm;obtain⟨k,hk,e⟩:=List.getElem_of_mem hm;simp only[List.length_take] at hk;rw[List.getElem_take] at e;exact h k (by omega) e
theorem dQ {K:List Pr} {i:Nat} (hi:i<K.length) (h:(K.take i).Nodup) (M:∀q,q<i->kl K q≠kl K i):(K.take (i+1)).Nodup:=by
 rw[DG hi];refine⟨h,JQ hi fun k hk e=>M k hk ?_⟩;rw[Gb hi,Gb (by omega)];exact e
theorem dR {P:List Pa} {i:Nat} (hi:i<P.length) (h:((Eh P).take i).Nodup) (O:∀q,q<i->¬((al P q).f=(al P i).f/\(al P q).t=(al P i).t)):((Eh P).take (i+1)).Nodup:=by
 have M:i<(Eh P).length:=by rw[Bw];exact hi
 rw[DG M];refine⟨h,JQ M fun k hk e=>O k hk ?_⟩;rw[LH hi,LH (by omega)] at e;exact Prod.mk.inj e
theorem Xt (T:Tp) (v:Value) (B:Nat) (w:World) (hs:Sm T) (hv:TpV w B v T) (hB:B<=w.heap.size) :
  Calls Tryz.prog 75 #[v] w fun e w'=>e=.returned (.bool (isT T))/\Below w.heap.size w w':=by
 have ep:=hv;obtain⟨v1,v2,v3,rfl,⟨A1,d1,rfl,cB,r1⟩,⟨A2,d2,rfl,er,r2⟩,⟨A3,d3,rfl,ev,r3⟩⟩:=ep;obtain⟨N,eN⟩:=Ak (w.heap.size);have hb:=(Below.refl w.heap.size w).alloc Ag (.cells #[.slice A1 T.R.length d1,.slice A2 T.K.length d2,.slice A3 T.P.length d3] 46);have HB:=I hb;have HK:=I (Blk.new w 46 #[.slice A1 T.R.length d1,.slice A2 T.K.length d2,.slice A3 T.P.length d3]);have c1:=OK T.R A1 d1 B _ (by have:=hs.r;omega) cB (r1.below (hb.mono hB)) (Nat.le_trans hB hb.size) (fun i hi=>by have:=hs.rt _ (DJ hi);omega);have KB:=I (fun w1 (h:Below N w w1)=>r2.below (h.mono (by omega)));have AB:=I (fun w1 (h:Below N w w1)=>r3.below (h.mono (by omega)));have PL:=I (fun x w1 (h:Below N w w1)=>Eo T.R A1 d1 B x w1 (by have:=hs.r;omega) (r1.below (h.mono (by omega))));have RP:=I (fun(i:Nat) (hi:i<T.P.length) u w1 (h:Below N w w1) (hu:PaV w1 B u (al T.P i))=>UK (al T.P i) T _ u B w1 hs (hs.v _ (Ph hi)) (hv.below (h.mono (by omega))) hu (Nat.le_trans hB (by have:=h.size;omega)));rw[<-eN] at HB;have ei:=I eN;have et:=I (show B<=N by omega);rw[<-eN];have bb:=I (show ∀w1:World,Below N w w1->N<=w1.heap.size from fun w1 h=>by have:=h.size;have:=ei.o;omega);have s2:=hs.k;have s3:=hs.p;have IA:=I (@isr_a T);have IK:=I (fun i=>@isr_k T i);have cY:=I (fun i k=>@dO T i k);have IP:=I (fun i=>@isr_p T i);have ej:=I (fun i k=>@dP T i k);have IY:=I (@aS T);have IC:=I (@bG T);have ID:=I (@bH T);obtain⟨Q,eQ⟩:=Ak ((Bv T.R&&(decide (1<=T.R.length)&&decide (T.R.length<=6))));rw[<-eQ] at c1 IA IY;obtain⟨n,en⟩:=Ak (T.R.length);obtain⟨m,em⟩:=Ak (T.K.length);obtain⟨k,ek⟩:=Ak (T.P.length);clear hb hv;rw[<-en,<-em,<-ek] at HK HB c1 RP;rw[<-en] at PL;rw[<-em] at s2 IC IY;rw[<-ek] at s3 ID IY;rw[<-en,<-em,<-ek];have EM:=I em;have EK:=I ek;clear en em ek eQ eN hs r1 r2 r3 cB er ev hB;cases Q with
 |false=>
  have E:=I (IA.o rfl);go_enter Tryz.func75,Tryz.ntmps75
  go_wp2_with (go_at_call 120;refine Aj c1 ?_;rintro w1 hb;clear c1;replace HB:=I (HB.o.trans (hb.mono (bb.o _ HB.o)));clear hb)
  go_ret;exact⟨by rw[E.o];rfl,HB.o⟩
 |true=>
  by_cases q1:m<=20
  ·have t1:decide (20<(m:Int))=false:=by simp;omega
   by_cases q2:k<=8
   ·have t2:decide (8<(k:Int))=false:=by simp;omega
    have ea:=I (IY.o rfl q1 q2);go_enter Tryz.func75,Tryz.ntmps75
    go_wp2_with (go_at_call 120;refine Aj c1 ?_;rintro w1 hb;clear c1;replace HK:=I (HK.o.below hb);replace HB:=I (HB.o.trans (hb.mono (bb.o _ HB.o)));clear hb;have k0:=HK.o.cell 0;have k1:=HK.o.cell 1;have k2:=HK.o.cell 2;simp only[List.getElem?_toArray,List.getElem?_cons_zero,List.getElem?_cons_succ] at k0 k1 k2)
    clear IA IC ID IY;obtain⟨W1,cX⟩:=Ak (w1);rw[<-cX] at HK HB k0 k1 k2⊢;clear cX
    go_loopw [3] (fun iv wr=>∃i:Nat,i<=m/\iv=.int .i64 (i:Int)/\(T.K.take i).all (Dd T.R)=true/\(T.K.take i).Nodup/\Below W1.heap.size W1 wr) (fun iv _=>m - (intOf iv).toNat)
    case atStart=>exact⟨0,Nat.zero_le _,rfl,by simp,by simp,Below.refl _ _⟩
    case round=>
     obtain⟨i,hi,rfl,hn,aw,ck⟩:=hrel;have HN:=I hn;clear hn;have cg:=I aw;clear aw;have Z:=I ck;clear ck;have O:=I (HB.o.trans (Z.o.mono (bb.o _ HB.o)));clear k0 k1 k2;have M:=I (HK.o.below Z.o);have k0:=M.o.cell 0;have k1:=M.o.cell 1;have k2:=M.o.cell 2;simp only[List.getElem?_toArray,List.getElem?_cons_zero,List.getElem?_cons_succ] at k0 k1 k2
     by_cases hlt:i<m
     ·have e1:(i:Int)<(m:Int):=by omega
      have e2:(0:Int)<=(i:Int):=by omega
      have av:i<T.K.length:=by rw[<-EM.o];exact hlt
      have bn:=all_succ (p:=Dd T.R) av;rw[HN.o,Bool.true_and,<-Gb av] at bn;have aw:=dQ av cg.o;have ik:=IK.o i av;have cr:=I (fun q=>cY.o i q av);obtain⟨b,o,eA,_,h1,h2⟩:=Mj (KB.o _ O.o) av;have cy:=I (fun w1 (h:Below N w w1) j (hj:j<i)=>Mj (KB.o w1 h) (Nat.lt_trans hj av));subst eA;obtain⟨x,ex⟩:=Ak (kl T.K i);rw[<-ex] at aw;rw[<-ex] at bn ik h1 h2 cr;have ct:=I bn;have cx:=I aw;have cj:=I ik;have C3:=I (PL.o x.1);have C4:=I (PL.o x.2);clear ex av bn aw ik;have HA:=I (Blk.new wr 140 #[.string ⟨x.1.toArray⟩,.string ⟨x.2.toArray⟩]);have cm:=I ((Below.refl wr.heap.size wr).alloc Ag (.cells #[.string ⟨x.1.toArray⟩,.string ⟨x.2.toArray⟩] 140));have H2:=I (O.o.trans (cm.o.mono (bb.o _ O.o)));have H3:=I (Z.o.trans (cm.o.mono Z.o.size));have cR:=M.o.below cm.o;have ka:=cR.cell 0;simp only[List.getElem?_toArray,List.getElem?_cons_zero] at ka;clear cR
      by_cases g1:x.1∈T.R
      ·obtain⟨z1,ca,cb⟩:=DF g1
       rw[<-ca] at C3;have s4:decide (z1<0)=false:=decide_eq_false (by omega)
       by_cases g2:x.2∈T.R
       ·obtain⟨z2,cc,cp⟩:=DF g2
        rw[<-cc] at C4;have s5:decide (z2<0)=false:=decide_eq_false (by omega)
        by_cases g3:x.1=x.2
        ·have t3:(x.1==x.2)=true:=by simpa using g3
         have E:=I (cj.o (by rw[Dd,decide_eq_false (fun h=>h g3)];rfl));clear g1 g2 g3 ca cc cb cp
         go_wp2_with (first
         |(go_at_call 52;with_reducible refine Aj (C3.o _ H2.o) ?_;rintro w9 rfl;clear C3)
         |(go_at_call 52;with_reducible refine Aj (C4.o _ H2.o) ?_;rintro w9 rfl;clear C4))
         go_ret;exact⟨by rw[E.o];rfl,H2.o⟩
        ·have t3:(x.1==x.2)=false:=by simpa using g3
         have E:=I (ct.o.trans (show Dd T.R x=true by rw[Dd,decide_eq_true g1,decide_eq_true g2,decide_eq_true g3];rfl));clear g1 g2 g3 ca cc cb cp
         go_wp2_with (first
         |(go_at_call 52;with_reducible refine Aj (C3.o _ H2.o) ?_;rintro w9 rfl;clear C3)
         |(go_at_call 52;with_reducible refine Aj (C4.o _ H2.o) ?_;rintro w9 rfl;clear C4))
         obtain⟨W2,cM⟩:=Ak (wr.alloc (.cells #[.string ⟨x.1.toArray⟩,.string ⟨x.2.toArray⟩] 140));rw[<-cM] at HA cm H2 H3⊢;clear cM;have cQ:=I (M.o.below cm.o);obtain⟨W0,ec⟩:=Ak (wr);rw[<-ec] at HA⊢;clear ec;clear k0 k1 k2 ka h1 h2
         go_loopw [5] (fun jv wq=>∃j:Nat,j<=i/\jv=.int .i64 (j:Int)/\(∀q,q<j->kl T.K q≠x)/\AU W2 wq) (fun jv _=>i - (intOf jv).toNat)
         case atStart=>exact⟨0,Nat.zero_le _,rfl,fun q hq=>absurd hq (Nat.not_lt_zero q),AU.refl _⟩
         case round=>
          obtain⟨j,hj,rfl,cu,hd⟩:=hrel;have cd:=I cu;clear cu;have k0:wr.cell? ⟨w.heap.size,0,none⟩=some (.slice A1 n d1):=by obtain⟨q,rfl⟩:=hd;exact cQ.o.cell 0
          have k1:wr.cell? ⟨w.heap.size,1,none⟩=some (.slice (some ⟨b,o,none⟩) m d2):=by obtain⟨q,rfl⟩:=hd;exact cQ.o.cell 1
          have y0:wr.cell? ⟨W0.heap.size,0,none⟩=some (.string ⟨x.1.toArray⟩):=by obtain⟨q,rfl⟩:=hd;exact HA.o.cell 0
          have y1:wr.cell? ⟨W0.heap.size,1,none⟩=some (.string ⟨x.2.toArray⟩):=by obtain⟨q,rfl⟩:=hd;exact HA.o.cell 1
          have cn:=I (H2.o.trans (hd.below.mono (bb.o _ H2.o)));have cq:=I (H3.o.trans (hd.below.mono H3.o.size));have cw:=I hd;clear hd
          by_cases hlj:j<i
          ·have f1:(j:Int)<(i:Int):=by omega
           have f2:(0:Int)<=(j:Int):=by omega
           have f3:(j:Int)<(m:Int):=by omega
           obtain⟨b',o',eA,_,h1,h2⟩:=cy.o _ cn.o j hlj;injection eA with eA;injection eA with eb eo;subst eb;subst eo
           by_cases hx:kl T.K j=x
           ·have t4:=SE (kl T.K j) x hx
            have E2:=I (cr.o j hlj hx);clear hx
            go_wp2
            go_quiet (fail)
            go_wp2
            go_ret;exact⟨by rw[E2.o];rfl,below_drewN cn.o _⟩
           ·have t4:=XR (kl T.K j) x hx
            have HX:=I hx;clear hx
            go_wp2
            go_quiet (fail)
            go_wp2
            go_roundw
            case rel=>exact⟨j+1,by omega,by go_num,fun q hq=>by
             by_cases e:q=j
             ·rw[e];exact HX.o
             ·exact cd.o q (by omega),cw.o.trans ⟨_,rfl⟩⟩
            case measure=>simp [intOf];omega
          ·have f1:¬(j:Int)<(i:Int):=by omega
           have E2:=I (cx.o fun q hq=>cd.o q (by omega))
           go_wp2
           go_roundw
           case rel=>exact⟨i+1,by omega,by go_num,E.o,E2.o,cq.o⟩
           case measure=>simp [intOf];omega
       ·obtain⟨z2,cc,cp⟩:=DU g2
        rw[<-cc] at C4;have s5:decide (z2<0)=true:=decide_eq_true cp;have E:=I (cj.o (by rw[Dd,decide_eq_false g2];simp));clear g1 g2 ca cc cb cp
        go_wp2_with (first
         |(go_at_call 52;with_reducible refine Aj (C3.o _ H2.o) ?_;rintro w9 rfl;clear C3)
         |(go_at_call 52;with_reducible refine Aj (C4.o _ H2.o) ?_;rintro w9 rfl;clear C4))
        go_ret;exact⟨by rw[E.o];rfl,H2.o⟩
      ·obtain⟨z1,ca,cb⟩:=DU g1
       rw[<-ca] at C3;have s4:decide (z1<0)=true:=decide_eq_true cb;have E:=I (cj.o (by rw[Dd,decide_eq_false g1];simp));clear g1 ca cb
       go_wp2_with (go_at_call 52;with_reducible refine Aj (C3.o _ H2.o) ?_;rintro w9 rfl;clear C3)
       go_ret;exact⟨by rw[E.o];rfl,H2.o⟩
     ·have e1:¬(i:Int)<(m:Int):=by omega
      have bB:T.K.length<=i:=by have:=EM.o;omega
      have ef:=I (ea.o (Ds bB HN.o) (by have h:=cg.o;rwa [List.take_of_length_le bB] at h));clear ea HN cg IK cY bB
      go_wp2
      obtain⟨W3,cT⟩:=Ak (wr);rw[<-cT] at M O⊢;clear cT k0 k1 k2 HK HB Z KB hi hlt e1
      go_loopw [6] (fun iv wr=>∃i:Nat,i<=k/\iv=.int .i64 (i:Int)/\(T.P.take i).all (Fq T.R)=true/\((Eh T.P).take i).Nodup/\Below W3.heap.size W3 wr) (fun iv _=>k - (intOf iv).toNat)
      case atStart=>exact⟨0,Nat.zero_le _,rfl,by simp,by simp,Below.refl _ _⟩
      case round=>
       have HK:=M;have HB:=O;clear M O;obtain⟨i,hi,rfl,hn,aw,ck⟩:=hrel;have HN:=I hn;clear hn;have cg:=I aw;clear aw;have Z:=I ck;clear ck;have O:=I (HB.o.trans (Z.o.mono (bb.o _ HB.o)));have M:=I (HK.o.below Z.o);have k0:=M.o.cell 0;have k1:=M.o.cell 1;have k2:=M.o.cell 2;simp only[List.getElem?_toArray,List.getElem?_cons_zero,List.getElem?_cons_succ] at k0 k1 k2
       by_cases hlt:i<k
       ·have e1:(i:Int)<(k:Int):=by omega
        have e2:(0:Int)<=(i:Int):=by omega
        have av:i<T.P.length:=by rw[<-EK.o];exact hlt
        have bn:=all_succ (p:=Fq T.R) av;rw[HN.o,Bool.true_and,<-JX av] at bn;have aw:=dR av cg.o;have ik:=IP.o i av;have cr:=I (fun q=>ej.o i q av);obtain⟨b,o,eA,cA,h1,h2,u,h3,h4⟩:=Pj (AB.o _ O.o) av;have cy:=I (fun w1 (h:Below N w w1) j (hj:j<i)=>Pj (AB.o w1 h) (Nat.lt_trans hj av));have cL:=I (RP.o i hlt);subst eA;obtain⟨x,ex⟩:=Ak (al T.P i);rw[<-ex] at aw bn ik cr h1 h2 h4 cL;have ct:=I bn;have cx:=I aw;have cj:=I ik;have eg:=h4;obtain⟨A5,d5,eu,_⟩:=eg;subst eu;obtain⟨k5,ed⟩:∃k,k=x.v.length:=⟨_,rfl⟩;rw[<-ed] at h3 h4;have c5:=cL.o _ wr.drew (below_drewN O.o 1) ⟨_,rfl,h4.below (B:=B) (w':=wr.drew) (below_drewN (Below.refl B wr) 1)⟩;have cf:=I (show b<wr.heap.size from Nat.lt_of_lt_of_le cA (Nat.le_trans et.o (bb.o _ O.o)));have bx:=I (show wr.drew.cell? ⟨b,o+i*3,none⟩=_ from h1);have bq:=I (show wr.drew.cell? ⟨b,o+i*3+1,none⟩=_ from h2);have bz:=I (show wr.drew.cell? ⟨b,o+i*3+2,none⟩=_ from h3);have ew:=I (show x.f=(al T.P i).f/\x.t=(al T.P i).t from by rw[ex];exact⟨rfl,rfl⟩);clear ex av bn aw ik h1 h2 h3 h4 ed cA;cases hpx:Fq T.R x with
        |false=>
         rw[hpx] at c5;have E:=I (cj.o hpx);clear hpx
         go_wp2
         clear k0 k1 k2;replace M:=I (M.o.drewN 1);replace O:=I (below_drewN O.o 1);replace Z:=I (below_drewN Z.o 1)
         go_region_held3 (fun w'=>w'.cell? ⟨w.heap.size,0,none⟩=some (.slice A1 n d1)/\w'.cell? ⟨w.heap.size,1,none⟩=some (.slice A2 m d2)/\w'.cell? ⟨w.heap.size,2,none⟩=some (.slice (some ⟨b,o,none⟩) k d3)/\w'.cell? ⟨b,o+i*3,none⟩=some (.string ⟨x.f.toArray⟩)/\w'.cell? ⟨b,o+i*3+1,none⟩=some (.string ⟨x.t.toArray⟩)/\w'.cell? ⟨b,o+i*3+2,none⟩=some (.slice A5 k5 d5)) (exact⟨M.o.cell 0,M.o.cell 1,M.o.cell 2,bx.o,bq.o,bz.o⟩) ((go_at_call 121;refine Aj c5 ?_;rintro w9 hb;clear c5;replace M:=I (M.o.below hb);replace bx:=I ((hb.cell cf.o).trans bx.o);replace bq:=I ((hb.cell cf.o).trans bq.o);replace bz:=I ((hb.cell cf.o).trans bz.o);replace O:=I (O.o.trans (hb.mono (bb.o _ O.o)));replace Z:=Z.t hb;clear hb))
         go_wp2
         go_ret;exact⟨by rw[E.o];rfl,O.o⟩
        |true=>
         rw[hpx] at c5;have E:=I (ct.o.trans hpx);clear hpx
         go_wp2
         clear k0 k1 k2;replace M:=I (M.o.drewN 1);replace O:=I (below_drewN O.o 1);replace Z:=I (below_drewN Z.o 1)
         go_region_held3 (fun w'=>w'.cell? ⟨w.heap.size,0,none⟩=some (.slice A1 n d1)/\w'.cell? ⟨w.heap.size,1,none⟩=some (.slice A2 m d2)/\w'.cell? ⟨w.heap.size,2,none⟩=some (.slice (some ⟨b,o,none⟩) k d3)/\w'.cell? ⟨b,o+i*3,none⟩=some (.string ⟨x.f.toArray⟩)/\w'.cell? ⟨b,o+i*3+1,none⟩=some (.string ⟨x.t.toArray⟩)/\w'.cell? ⟨b,o+i*3+2,none⟩=some (.slice A5 k5 d5)) (exact⟨M.o.cell 0,M.o.cell 1,M.o.cell 2,bx.o,bq.o,bz.o⟩) ((go_at_call 121;refine Aj c5 ?_;rintro w9 hb;clear c5;replace M:=I (M.o.below hb);replace bx:=I ((hb.cell cf.o).trans bx.o);replace bq:=I ((hb.cell cf.o).trans bq.o);replace bz:=I ((hb.cell cf.o).trans bz.o);replace O:=I (O.o.trans (hb.mono (bb.o _ O.o)));replace Z:=Z.t hb;clear hb))
         go_wp2
         obtain⟨W4,cP⟩:=Ak (w9);rw[<-cP] at M O Z bx bq bz⊢;clear cP;have ey:(i:Int)<(k:Int):=e1
         go_loopw [7] (fun jv wq=>∃j:Nat,j<=i/\jv=.int .i64 (j:Int)/\(∀q,q<j->¬((al T.P q).f=x.f/\(al T.P q).t=x.t))/\AU W4 wq) (fun jv _=>i - (intOf jv).toNat)
         case atStart=>exact⟨0,Nat.zero_le _,rfl,fun q hq=>absurd hq (Nat.not_lt_zero q),AU.refl _⟩
         case round=>
          obtain⟨j,hj,rfl,cu,hd⟩:=hrel;have cd:=I cu;clear cu;have k0:wr.cell? ⟨w.heap.size,0,none⟩=some (.slice A1 n d1):=by obtain⟨q,rfl⟩:=hd;exact M.o.cell 0
          have k2:wr.cell? ⟨w.heap.size,2,none⟩=some (.slice (some ⟨b,o,none⟩) k d3):=by obtain⟨q,rfl⟩:=hd;exact M.o.cell 2
          have x0:wr.cell? ⟨b,o+i*3,none⟩=some (.string ⟨x.f.toArray⟩):=by obtain⟨q,rfl⟩:=hd;exact bx.o
          have x1:wr.cell? ⟨b,o+i*3+1,none⟩=some (.string ⟨x.t.toArray⟩):=by obtain⟨q,rfl⟩:=hd;exact bq.o
          have cn:=I (O.o.trans (hd.below.mono (bb.o _ O.o)));have cq:=I (Z.o.trans (hd.below.mono Z.o.size));have cw:=I hd;clear hd
          by_cases hlj:j<i
          ·have f1:(j:Int)<(i:Int):=by omega
           have f2:(0:Int)<=(j:Int):=by omega
           have f3:(j:Int)<(k:Int):=by omega
           obtain⟨b',o',eA,_,h1,h2,u9,h3,h4⟩:=cy.o _ cn.o j hlj;injection eA with eA;injection eA with eb eo;subst eb;subst eo;clear h3 h4
           by_cases g1:(al T.P j).f=x.f
           ·have t3:((al T.P j).f==x.f)=true:=by simpa using g1
            by_cases g2:(al T.P j).t=x.t
            ·have t4:((al T.P j).t==x.t)=true:=by simpa using g2
             have E2:=I (cr.o j hlj g1 g2);clear g1 g2
             go_wp2
             go_quiet (fail)
             go_wp2
             go_ret;exact⟨by rw[E2.o];rfl,below_drewN cn.o _⟩
            ·have t4:((al T.P j).t==x.t)=false:=by simpa using g2
             have HX:=I (show ¬((al T.P j).f=x.f/\(al T.P j).t=x.t) from fun h=>g2 h.2);clear g1 g2
             go_wp2
             go_quiet (fail)
             go_wp2
             go_roundw
             case rel=>exact⟨j+1,by omega,by go_num,fun q hq=>by
              by_cases e:q=j
              ·rw[e];exact HX.o
              ·exact cd.o q (by omega),cw.o.trans ⟨_,rfl⟩⟩
             case measure=>simp [intOf];omega
           ·have t3:((al T.P j).f==x.f)=false:=by simpa using g1
            have HX:=I (show ¬((al T.P j).f=x.f/\(al T.P j).t=x.t) from fun h=>g1 h.1);clear g1
            go_wp2
            go_quiet (fail)
            go_wp2
            go_roundw
            case rel=>exact⟨j+1,by omega,by go_num,fun q hq=>by
             by_cases e:q=j
             ·rw[e];exact HX.o
             ·exact cd.o q (by omega),cw.o.trans ⟨_,rfl⟩⟩
            case measure=>simp [intOf];omega
          ·have f1:¬(j:Int)<(i:Int):=by omega
           have E2:=I (cx.o fun q hq=>cd.o q (by omega))
           go_wp2
           go_roundw
           case rel=>exact⟨i+1,by omega,by go_num,E.o,E2.o,cq.o⟩
           case measure=>simp [intOf];omega
       ·have e1:¬(i:Int)<(k:Int):=by omega
        have bB:T.P.length<=i:=by have:=EK.o;omega
        have E:=I (ef.o (Ds bB HN.o) (by have h:=cg.o;rwa [List.take_of_length_le (by rw[Bw];exact bB)] at h));clear bB
        go_wp2
        go_ret;exact⟨by rw[E.o];rfl,O.o⟩
   ·have t2:decide (8<(k:Int))=true:=by simp;omega
    have E:=I (ID.o q2);clear q1 q2;go_enter Tryz.func75,Tryz.ntmps75
    go_wp2_with (go_at_call 120;refine Aj c1 ?_;rintro w1 hb;clear c1;replace HK:=I (HK.o.below hb);replace HB:=I (HB.o.trans (hb.mono (bb.o _ HB.o)));clear hb;have k0:=HK.o.cell 0;have k1:=HK.o.cell 1;have k2:=HK.o.cell 2;simp only[List.getElem?_toArray,List.getElem?_cons_zero,List.getElem?_cons_succ] at k0 k1 k2)
    go_ret;exact⟨by rw[E.o];rfl,HB.o⟩
  ·have t1:decide (20<(m:Int))=true:=by simp;omega
   have E:=I (IC.o q1);clear q1;go_enter Tryz.func75,Tryz.ntmps75
   go_wp2_with (go_at_call 120;refine Aj c1 ?_;rintro w1 hb;clear c1;replace HK:=I (HK.o.below hb);replace HB:=I (HB.o.trans (hb.mono (bb.o _ HB.o)));clear hb;have k0:=HK.o.cell 0;have k1:=HK.o.cell 1;have k2:=HK.o.cell 2;simp only[List.getElem?_toArray,List.getElem?_cons_zero,List.getElem?_cons_succ] at k0 k1 k2)
   go_ret;exact⟨by rw[E.o];rfl,HB.o⟩
end Rt
end Go.Proofs.YtfbnjcdhipplpaaGreat
