import Derived.Test.YtfbnjcdhipplpaaGreatZAcceptorErrs20
set_option maxHeartbeats 25600000
set_option maxRecDepth 100000
set_option linter.unusedVariables false
set_option linter.unusedSimpArgs false
namespace Go.Proofs.YtfbnjcdhipplpaaGreat
namespace Kd
open Go.RowKit Af Se
open Rg (It Ent Ring RO its Al)
open SeL (Cw BK)
open Ms (Pt Rp Re ptO pSm reC tkC prC)
theorem set4 {w:World} {g:Nat} {t:TypeId} {z0 O z2 M:Value} (Z:Blk w g t #[z0,O,z2,M]) (a b c d:Value):Blk ((((w.setCell ⟨g,0,none⟩ a).setCell ⟨g,1,none⟩ b).setCell ⟨g,2,none⟩ c).setCell ⟨g,3,none⟩ d) g t #[a,b,c,d]:=
 (((Z.set 0 a).set 1 b).set 2 c).set 3 d
def Off (p:KP) (es:List Ent) (s:Option Ss) (g:Nat):Prop:=∀j,KA p es j\/SO s j->j≠g
theorem Off.no {p:KP} {es:List Ent} {s:Option Ss} {g:Nat} (h:Off p es s g):¬KSO p es s g:=fun x=>by
 rcases x with x | x
 ·exact h g (.inl (.inl x)) rfl
 ·exact h g (.inr x) rfl
def SlX (X:Nat->Prop) (p:KP) (es:List Ent) (s:Option Ss) (w:World) (v:Value) (l:Nm.L):Prop:=SlN (fun j=>KSO p es s j\/X j) w v l
section
variable {X Y:Nat->Prop} {p:KP} {es0 es:List Ent} {s0 s:Option Ss} {w0 w:World} {B n i c:Nat} {v:Value} {l:Nm.L}
theorem SlX.below {w':World} (h:SlX X p es s w v l) (M:Below w.heap.size w w'):SlX X p es s w' v l:=SlN.below h M
theorem SlX.up (h:SlX X p es s w v l) (g:Nat) (M:w.heap.size<=g):SlX (fun j=>X j\/j=g) p es s w v l:=h.mono (fun j O x=>by
 rcases x with x | x | x
 ·exact .inl x
 ·exact .inr x
 ·omega)
theorem SlX.o {a:World} (h:SlX X p es s w v l) (M:∀j,j<a.heap.size->X j):SlN (Out a p es s) w v l:=h.mono (fun j _ x=>by
 rcases x with x | x
 ·exact .inr (M j x)
 ·exact .inl x)
end
end Kd
namespace Ac
open Go.RowKit Af Se Kd
abbrev z2:Array Value:=#[.string ⟨#[]⟩,.string ⟨#[]⟩]
theorem aR (w:World):Calls Tryz.prog 22 #[] w fun e w'=>e=.returned (prV pAnn)/\Below w.heap.size w w':=by
 obtain⟨W,M⟩:=Ak (w.alloc (.cells z2 27));have O:=I (show Blk W w.heap.size 27 z2 from M▸Blk.new w _ _);have HB:=I (show Below w.heap.size w W from M▸Ah.alloc Ag _);go_enter Tryz.func22,Tryz.ntmps22
 go_upto_region 1 with fail
 rw[<-M];clear M;have Z:=O.o.cell 0;have av:=O.o.cell 1;have fz:=O.o.frozen
 go_wp2
 have hz:Blk _ w.heap.size 27 #[.string ⟨pAnn.1.toArray⟩,.string ⟨pAnn.2.toArray⟩]:=(O.o.set 0 (.string ⟨pAnn.1.toArray⟩)).set 1 (.string ⟨pAnn.2.toArray⟩);refine bodyPost_ret (v:=prV pAnn) ?_ ?_ ?_
 ·exact Wh.Au (v:=prV pAnn) 0 27 ⟨w.heap.size,0,none⟩ Tryz.results22 (by rfl) (Wh.Ao hz Tryz.underlying27 (by rfl) Dq)
 ·rfl
 ·exact⟨rfl,Si.AI (Si.AI HB.o (by simp) _) (by simp) _⟩
theorem UL (w:World):Calls Tryz.prog 23 #[] w fun e w'=>e=.returned (prV pSv)/\Below w.heap.size w w':=by
 obtain⟨W,M⟩:=Ak (w.alloc (.cells z2 27));have O:=I (show Blk W w.heap.size 27 z2 from M▸Blk.new w _ _);have HB:=I (show Below w.heap.size w W from M▸Ah.alloc Ag _);go_enter Tryz.func23,Tryz.ntmps23
 go_upto_region 1 with fail
 rw[<-M];clear M;have Z:=O.o.cell 0;have av:=O.o.cell 1;have fz:=O.o.frozen
 go_wp2
 have hz:Blk _ w.heap.size 27 #[.string ⟨pSv.1.toArray⟩,.string ⟨pSv.2.toArray⟩]:=(O.o.set 0 (.string ⟨pSv.1.toArray⟩)).set 1 (.string ⟨pSv.2.toArray⟩);refine bodyPost_ret (v:=prV pSv) ?_ ?_ ?_
 ·exact Wh.Au (v:=prV pSv) 0 27 ⟨w.heap.size,0,none⟩ Tryz.results23 (by rfl) (Wh.Ao hz Tryz.underlying27 (by rfl) Dq)
 ·rfl
 ·exact⟨rfl,Si.AI (Si.AI HB.o (by simp) _) (by simp) _⟩
open Nm (krb strs)
open Rt (SlV SlP RdP kl)
theorem dI (w:World):Calls Tryz.prog 27 #[] w fun e w'=>∃v1 v2,e=.returned (.agg (tpA v1 v2))/\TpK (fun b=>w.heap.size<=b/\b<w'.heap.size) w' v1 v2 (.slice none 0 0) tT/\Below w.heap.size w w':=by
 obtain⟨W,eW⟩:=Ak (w.alloc (.cells (tpA (.slice none 0 0) (.slice none 0 0)) 46));have O:=I (show Blk W w.heap.size 46 (tpA (.slice none 0 0) (.slice none 0 0)) from eW▸Blk.new w _ _);have HB:=I (show Below w.heap.size w W from eW▸Ah.alloc Ag _);have bB:=I (show W.heap.size=w.heap.size+1 by rw[eW];simp);go_enter Tryz.func27,Tryz.ntmps27
 go_upto_region 1 with fail
 rw[<-eW];clear eW;have bx:=O.o.cell 0;have bn:=O.o.cell 1;have bq:=O.o.cell 2;have fz:=O.o.frozen;have lz:=O.o.lt;have bz:w.heap.size<W.heap.size+1:=by omega
 go_wp2
 obtain⟨X,eX⟩:=Ak (((W.setCell ⟨w.heap.size,0,none⟩ (.slice (some ⟨W.heap.size,0,none⟩) 3 3)).setCell ⟨w.heap.size,1,none⟩ (.slice (some ⟨W.heap.size+1,0,none⟩) 4 4)).setCell ⟨w.heap.size,2,none⟩ (.slice none 0 0));have hx:Blk X w.heap.size 46 (tpA (.slice (some ⟨W.heap.size,0,none⟩) 3 3) (.slice (some ⟨W.heap.size+1,0,none⟩) 4 4)):=eX▸((O.o.set 0 (.slice (some ⟨W.heap.size,0,none⟩) 3 3)).set 1 (.slice (some ⟨W.heap.size+1,0,none⟩) 4 4)).set 2 (.slice none 0 0);have bb:X.heap.size=W.heap.size:=by rw[eX];simp
 have av:Below w.heap.size w X:=eX▸Si.AI (Si.AI (Si.AI HB.o (by simp) _) (by simp) _) (by simp) _;rw[<-eX];clear eX bx bn bq fz;obtain⟨V,Z⟩:=Ak ((X.alloc (.cells #[.string ⟨#[65,46,69,68,85]⟩,.string ⟨#[69,68,85]⟩,.string ⟨#[66,46,69,68,85]⟩] 9)).alloc (.cells #[.string ⟨#[65,46,69,68,85]⟩,.string ⟨#[69,68,85]⟩,.string ⟨#[69,68,85]⟩,.string ⟨#[65,46,69,68,85]⟩,.string ⟨#[69,68,85]⟩,.string ⟨#[66,46,69,68,85]⟩,.string ⟨#[66,46,69,68,85]⟩,.string ⟨#[69,68,85]⟩] 140));have hb:Below X.heap.size X V:=Z▸(Ah.alloc Ag _).alloc (by simp) _;have aw:Blk V W.heap.size 9 #[.string ⟨#[65,46,69,68,85]⟩,.string ⟨#[69,68,85]⟩,.string ⟨#[66,46,69,68,85]⟩]:=by rw[<-bb];exact Z▸(Blk.new X _ _).alloc _
 have M:Blk V (W.heap.size+1) 140 #[.string ⟨#[65,46,69,68,85]⟩,.string ⟨#[69,68,85]⟩,.string ⟨#[69,68,85]⟩,.string ⟨#[65,46,69,68,85]⟩,.string ⟨#[69,68,85]⟩,.string ⟨#[66,46,69,68,85]⟩,.string ⟨#[66,46,69,68,85]⟩,.string ⟨#[69,68,85]⟩]:=by have:=Blk.new (X.alloc (.cells #[.string ⟨#[65,46,69,68,85]⟩,.string ⟨#[69,68,85]⟩,.string ⟨#[66,46,69,68,85]⟩] 9)) 140 #[.string ⟨#[65,46,69,68,85]⟩,.string ⟨#[69,68,85]⟩,.string ⟨#[69,68,85]⟩,.string ⟨#[65,46,69,68,85]⟩,.string ⟨#[69,68,85]⟩,.string ⟨#[66,46,69,68,85]⟩,.string ⟨#[66,46,69,68,85]⟩,.string ⟨#[69,68,85]⟩];simp only[World.size_alloc] at this;rw[<-bb];exact Z▸this
 have hz:=hx.below hb;rw[<-Z];clear Z;refine bodyPost_ret (v:=.agg (tpA (.slice (some ⟨W.heap.size,0,none⟩) 3 3) (.slice (some ⟨W.heap.size+1,0,none⟩) 4 4))) ?_ ?_ ?_
 ·exact Wh.Au (v:=.agg (tpA (.slice (some ⟨W.heap.size,0,none⟩) 3 3) (.slice (some ⟨W.heap.size+1,0,none⟩) 4 4))) 0 46 ⟨w.heap.size,0,none⟩ Tryz.results27 (by rfl) (Wh.Ao hz Tryz.underlying46 (by rfl) (by kernel_rfl))
 ·rfl
 ·have h1:=aw.lt
  have h2:=M.lt;refine⟨_,_,rfl,⟨⟨_,3,rfl,Nat.le_refl _,.inr ⟨_,0,rfl,⟨by omega,h1⟩,fun i u hu=>?_⟩⟩,⟨_,4,rfl,Nat.le_refl _,.inr ⟨_,0,rfl,⟨by omega,h2⟩,fun i hi=>?_⟩⟩,rfl,rfl⟩,av.trans (hb.mono av.size)⟩
  ·rw[Nat.zero_add,aw.cell]
   have e:(strs tT.R)[i]? = (strs tT.R).toArray[i]?:=by simp
   rw[e] at hu;exact hu
  ·have hi:i<4:=hi
   rw[Nat.zero_add]
   match i,hi with
   |0,_=>exact⟨M.cell 0,M.cell 1⟩
   |1,_=>exact⟨M.cell 2,M.cell 3⟩
   |2,_=>exact⟨M.cell 4,M.cell 5⟩
   |3,_=>exact⟨M.cell 6,M.cell 7⟩
theorem tT_kt:∀x∈tT.K,x.1.length<=3000/\x.2.length<=3000:=by decide
end Ac
namespace Rt
open Go.RowKit Af Nm
theorem Ep (ls:List L) (A:Option Addr) (c B:Nat) (r:L) (w:World) (hl:ls.length<=9000000000000000) (hr:Rd w B A (strs ls)) :
  Calls Tryz.prog 52 #[.slice A ls.length c,.string ⟨r.toArray⟩] w fun e w'=>e=.returned (.int .i64 (Tr.ixL r ls))/\w=w':=by
 have HR:=I hr;clear hr;obtain⟨n,en⟩:=Ak (ls.length);rw[<-en] at hl⊢;have Z:=I en;clear en;go_enter Tryz.func52,Tryz.ntmps52
 go_wp2
 go_loop [5] (fun O=>∃i:Nat,i<=n/\O=.int .i64 (i:Int)/\∀k,k<i->pl ls k≠r) (fun O=>n - (intOf O).toNat)
 case atStart=>exact⟨0,Nat.zero_le _,rfl,fun k h=>absurd h (Nat.not_lt_zero k)⟩
 case round=>
  obtain⟨i,hi,rfl,hn⟩:=hrel;have M:=I hn;clear hn
  by_cases hlt:i<n
  ·have e1:(i:Int)<(n:Int):=by omega
   have e2:(0:Int)<=(i:Int):=by omega
   obtain⟨b,o,rfl,_,h1⟩:=DE HR.o (i:=i) (by rw[<-Z.o];exact hlt)
   by_cases hx:pl ls i=r
   ·have t1:(pl ls i==r)=true:=by simpa using hx
    have E:=I (Tr.Pl (by rw[<-Z.o];exact hlt) hx M.o);clear hx
    go_wp2
    go_ret;exact⟨by rw[E.o];rfl,rfl⟩
   ·have t1:(pl ls i==r)=false:=by simpa using hx
    have HX:=I hx;clear hx
    go_wp2
    go_round
    case rel=>exact⟨i+1,by omega,by go_num,fun k hk=>by
     by_cases q:k=i
     ·rw[q];exact HX.o
     ·exact M.o k (by omega)⟩
    case measure=>simp [intOf];omega
  ·have e1:¬(i:Int)<(n:Int):=by omega
   have E:=I (Tr.Su (ls:=ls) (r:=r) fun k hk=>M.o k (by have:=Z.o;omega))
   go_wp2
   go_ret;exact⟨by rw[E.o];rfl,rfl⟩
theorem DH {ls:List L} {r:L} (h:r∈ls):∃z:Int,z=Tr.ixL r ls/\0<=z:=⟨_,rfl,by have:=Tr.YP r ls;simpa [h] using this⟩
theorem DV {ls:List L} {r:L} (h:r∉ls):∃z:Int,z=Tr.ixL r ls/\z<0:=⟨_,rfl,by have:=Tr.YP r ls;simpa [h] using this⟩
theorem UM {w:World} {B b o i:Nat} {ls:List L} (h:Rd w B (some ⟨b,o,none⟩) (strs ls)) (hi:i<ls.length):w.cell? ⟨b,o+i,none⟩=some (.string ⟨(pl ls i).toArray⟩):=by
 obtain⟨Z,O,e,_,M⟩:=DE h hi;injection e with e;injection e with e1 e2;subst e1;subst e2;exact M
theorem ON (ls:List L) (A:Option Addr) (c B:Nat) (w:World) (hl:ls.length<=1000000) (hc:ls.length<=c) (hr:Rd w B A (strs ls)) (hB:B<=w.heap.size) (hs:∀i,i<ls.length->(pl ls i).length<=1000000000) :
  Calls Tryz.prog 120 #[.slice A ls.length c] w fun e w'=>e=.returned (.bool (Bw ls&&(decide (1<=ls.length)&&decide (ls.length<=6))))/\Below w.heap.size w w':=by
 obtain⟨N,eN⟩:=Ak (w.heap.size);rw[<-eN] at hB⊢;have bq:=I (show Below N w w from Below.refl _ _);have bx:=I eN;clear eN;have av:=I (show ∀w1:World,Below N w w1->N<=w1.heap.size from fun w1 h=>by have:=h.size;have:=bx.o;omega);have HR:=I hr;clear hr;have IS:=I (fun(i:Nat) (h:i<ls.length) w1=>Nr (pl ls i) w1 (hs i h));have PL:=I (fun(i:Nat) (hi:i<ls.length) w1 (h:Rd w1 B A (strs ls))=>Ep (ls.take i) A c B (pl ls i) w1 (by simp;omega) (NV h (by omega)));have EQ:=I (show Bw ls=(ls.all isL&&decide ls.Nodup) from rfl);obtain⟨n,en⟩:=Ak (ls.length);rw[<-en] at hl hc⊢;have EN:=I en;clear en hs;go_enter Tryz.func120,Tryz.ntmps120
 go_wp2
 go_loopw [3] (fun iv wr=>∃i:Nat,i<=n/\iv=.int .i64 (i:Int)/\(ls.take i).all isL=true/\(ls.take i).Nodup/\Below N w wr) (fun iv _=>n - (intOf iv).toNat)
 case atStart=>exact⟨0,Nat.zero_le _,rfl,by simp,by simp,bq.o⟩
 case round=>
  obtain⟨i,hi,rfl,hn,hd,hb⟩:=hrel;have HN:=I hn;clear hn;have HD:=I hd;clear hd;have Z:=I hb;clear hb
  by_cases hlt:i<n
  ·have e1:(i:Int)<(n:Int):=by omega
   have e2:(0:Int)<=(i:Int):=by omega
   have e3:(i:Int)<=(c:Int):=by omega
   have M:i<ls.length:=by rw[<-EN.o];exact hlt
   have hlen:(ls.take i).length=i:=by simp;omega
   have c1:=IS.o i M;have c2:=PL.o i M;rw[hlen] at c2;have bb:=all_succ (p:=isL) M;rw[HN.o,Bool.true_and,<-CU M] at bb;have aw:=DI M;rw[<-CU M] at aw;have O:=I (HR.o.below (Z.o.mono hB));obtain⟨b,o,eA,_,h1⟩:=DE O.o M;subst eA;cases hx:isL (pl ls i) with
   |false=>
    rw[hx] at c1;have E:=I (show Bw ls=false by
     rw[EQ.o,all_false M (by rw[<-CU M];exact hx)];rfl)
    clear c2 bb aw hx
    go_wp2
    replace Z:=I (below_drewN Z.o 1);have HC:=I (show ∀w',Reg.Ff wr.drew w'->w'.cell? ⟨b,o+i,none⟩=some (.string ⟨(pl ls i).toArray⟩) from fun w' hS=>UM ((O.o.drewN 1).below (w':=w') (hS.mono (Nat.le_trans hB (av.o _ Z.o)))) M);clear h1 M hlen;refine Reg.Cd 17 rfl (by kernel_rfl) ?_;refine Reg.tz 0 rfl ?_;refine Reg.tz 1 rfl ?_;refine Reg.tz 2 rfl ?_;refine Reg.tx 3 rfl (fun w' hS=>by have hh:=HC.o w' hS;go_simp;rfl) ?_;refine Reg.Fg 4 rfl (by kernel_rfl) (by rfl) 46 #[.string ⟨(pl ls i).toArray⟩] (by go_simp) ?_;refine Aj (c1 _) ?_;rintro w1 hb;refine⟨_,rfl,hb,?_⟩;have H1:=I (Z.o.trans (hb.mono (av.o _ Z.o)));clear hb;simp only[Act.put,U,Aa,Ab];refine Reg.tz 5 rfl ?_;refine Reg.tz 6 rfl ?_;refine Reg.sk 7 rfl ?_;refine Reg.sk 8 rfl ?_;refine Reg.sk 9 rfl ?_;refine Reg.sk 10 rfl ?_;refine Reg.sk 11 rfl ?_;refine Reg.sk 12 rfl ?_;refine Reg.sk 13 rfl ?_;refine Reg.sk 14 rfl ?_;refine Reg.sk 15 rfl ?_;refine Reg.tz 16 rfl ?_;refine wpAnyH_done (by kernel_rfl) ?_ _
    go_wp2
    go_ret;exact⟨by rw[E.o];rfl,H1.o⟩
   |true=>
    rw[hx] at c1;have C1:=I c1;have C2:=I c2;clear c1 c2;have HC:=I (fun w' (h:Rd w' B (some ⟨b,o,none⟩) (strs ls))=>UM h M)
    by_cases hy:pl ls i∈ls.take i
    ·obtain⟨z,ez,hz⟩:=DH hy
     rw[<-ez] at C2;have z1:decide (0<=z)=true:=decide_eq_true hz;have E:=I (show Bw ls=false by
      rw[EQ.o,decide_eq_false (fun h=>(aw.1 (FQ h)).2 hy)];simp)
     clear ez hy hz hx bb aw M hlen
     go_wp2
     replace Z:=I (below_drewN Z.o 1);replace O:=I (O.o.drewN 1)
     go_region_held3 (fun w'=>w'.cell? ⟨b,o+i,none⟩=some (.string ⟨(pl ls i).toArray⟩)) (exact HC.o _ O.o) ((first
      |(go_at_call 46;refine Aj (C1.o _) ?_;rintro w1 hb;replace O:=I (O.o.below (hb.mono (Nat.le_trans hB (av.o _ Z.o))));replace Z:=I (Z.o.trans (hb.mono (av.o _ Z.o)));clear hb)
      |(go_at_call 52;refine Aj (C2.o _ O.o) ?_;rintro w2 rfl)))
     go_wp2
     go_ret;exact⟨by rw[E.o];rfl,Z.o⟩
    ·obtain⟨z,ez,hz⟩:=DV hy
     rw[<-ez] at C2;have z1:decide (0<=z)=false:=decide_eq_false (by omega);have E:=I (bb.trans hx);have E2:=I (aw.2 ⟨HD.o,hy⟩);clear ez hy hz hx bb aw M hlen
     go_wp2
     replace Z:=I (below_drewN Z.o 1);replace O:=I (O.o.drewN 1)
     go_region_held3 (fun w'=>w'.cell? ⟨b,o+i,none⟩=some (.string ⟨(pl ls i).toArray⟩)) (exact HC.o _ O.o) ((first
      |(go_at_call 46;refine Aj (C1.o _) ?_;rintro w1 hb;replace O:=I (O.o.below (hb.mono (Nat.le_trans hB (av.o _ Z.o))));replace Z:=I (Z.o.trans (hb.mono (av.o _ Z.o)));clear hb)
      |(go_at_call 52;refine Aj (C2.o _ O.o) ?_;rintro w2 rfl)))
     go_wp2
     go_roundw
     case rel=>exact⟨i+1,by omega,by go_num,E.o,E2.o,Z.o⟩
     case measure=>simp [intOf];omega
  ·have e1:¬(i:Int)<(n:Int):=by omega
   have bn:ls.length<=i:=by have:=EN.o;omega
   have E:=I (show Bw ls=true by
    have h:=HD.o;rw[List.take_of_length_le bn] at h;rw[EQ.o,Du bn HN.o,decide_eq_true h];rfl)
   by_cases q1:1<=n
   ·have t1:decide ((1:Int)<=(n:Int))=true:=by simp;omega
    by_cases q2:n<=6
    ·have t2:decide ((n:Int)<=6)=true:=by simp;omega
     have E2:=I (show(Bw ls&&(decide (1<=n)&&decide (n<=6)))=true by rw[E.o,decide_eq_true q1,decide_eq_true q2];rfl);clear q1 q2
     go_wp2
     go_ret;exact⟨by rw[E2.o];rfl,Z.o⟩
    ·have t2:decide ((n:Int)<=6)=false:=by simp;omega
     have E2:=I (show(Bw ls&&(decide (1<=n)&&decide (n<=6)))=false by rw[decide_eq_false q2];simp);clear q1 q2
     go_wp2
     go_ret;exact⟨by rw[E2.o];rfl,Z.o⟩
   ·have t1:decide ((1:Int)<=(n:Int))=false:=by simp;omega
    have E2:=I (show(Bw ls&&(decide (1<=n)&&decide (n<=6)))=false by rw[decide_eq_false q1];simp);clear q1
    go_wp2
    go_ret;exact⟨by rw[E2.o];rfl,Z.o⟩
theorem UN (p:Pa) (T:Tp) (v u:Value) (B:Nat) (w:World) (hs:Sm T) (hp:p.v.length<=3000) (hv:TpV w B v T) (hu:PaV w B u p) (hB:B<=w.heap.size) (hq:Df T.R (p.f,p.t)=true) (h4:p.v.length<=4) :
  Calls Tryz.prog 121 #[v,u] w fun e w'=>e=.returned (.bool (viaB T.R p))/\Below w.heap.size w w':=by
 obtain⟨v1,v2,v3,rfl,⟨A1,d1,rfl,cA,r1⟩,⟨A2,d2,rfl,cw,r2⟩,⟨A3,d3,rfl,ct,r3⟩⟩:=hv;obtain⟨u1,rfl,⟨A5,d5,rfl,cu,r5⟩⟩:=hu;have cf:=(Below.refl w.heap.size w).alloc Ag (.cells #[.slice A1 T.R.length d1,.slice A2 T.K.length d2,.slice A3 T.P.length d3] 46);have cb:=cf.alloc cf.size (.cells #[.string ⟨p.f.toArray⟩,.string ⟨p.t.toArray⟩,.slice A5 p.v.length d5] 208);have HB:=I cb;have O:=I (Blk.new (w.alloc (.cells #[.slice A1 T.R.length d1,.slice A2 T.K.length d2,.slice A3 T.P.length d3] 46)) 208 #[.string ⟨p.f.toArray⟩,.string ⟨p.t.toArray⟩,.slice A5 p.v.length d5]);have ca:=I ((Blk.new w 46 #[.slice A1 T.R.length d1,.slice A2 T.K.length d2,.slice A3 T.P.length d3]).alloc (.cells #[.string ⟨p.f.toArray⟩,.string ⟨p.t.toArray⟩,.slice A5 p.v.length d5] 208));have HR:=I (r1.below (cb.mono hB));have HV:=I (r5.below (cb.mono hB));have PR:=I (fun x w1 (h:Rd w1 B A1 (strs T.R))=>Ep T.R A1 d1 B x w1 (by have:=hs.r;omega) h);have PV:=I (fun(i:Nat) (hi:i<p.v.length) w1 (h:Rd w1 B A5 (strs p.v))=>Ep (p.v.take i) A5 d5 B (pl p.v i) w1 (by simp;omega) (NV h (by omega)));rw[Df,Bool.and_eq_true,Bool.and_eq_true,decide_eq_true_eq,decide_eq_true_eq,decide_eq_true_eq] at hq;obtain⟨cj,hf,ht⟩:=hq;simp only at cj hf ht;have t1:(p.f==p.t)=false:=by simpa using cj
 obtain⟨z1,cn,cx⟩:=DH hf;obtain⟨z2,ck,cr⟩:=DH ht;have c1:=PR.o p.f;have c2:=PR.o p.t;rw[<-cn] at c1;rw[<-ck] at c2;have s1:decide (z1<0)=false:=decide_eq_false (by omega);have s2:decide (z2<0)=false:=decide_eq_false (by omega);have EQ:=I (show viaB T.R p=(p.v.all (onB T.R p)&&decide p.v.Nodup) by rw[viaB,decide_eq_true h4];rfl);obtain⟨n,en⟩:=Ak (p.v.length);obtain⟨m,em⟩:=Ak (T.R.length);clear cf cb;rw[<-en] at HB ca O HR HV cu h4 hp;rw[<-em] at HB ca O HR HV PR c1 c2;rw[<-en,<-em];have s3:decide (4<(n:Int))=false:=by simp;omega
 have EN:=I en;clear en em cn ck cx cr cj hf ht r1 r2 r3 r5 hB hs cA cw ct h4;have C1:=I c1;have C2:=I c2;clear c1 c2;go_enter Tryz.func121,Tryz.ntmps121
 go_wp2_with (first
  |(go_at_call 52;with_reducible refine Aj (C1.o _ HR.o) ?_;rintro w1 rfl;clear C1)
  |(go_at_call 52;with_reducible refine Aj (C2.o _ HR.o) ?_;rintro w1 rfl;clear C2))
 obtain⟨W,eW⟩:=Ak ((w.alloc (.cells #[.slice A1 m d1,.slice A2 T.K.length d2,.slice A3 T.P.length d3] 46)).alloc (.cells #[.string ⟨p.f.toArray⟩,.string ⟨p.t.toArray⟩,.slice A5 n d5] 208));rw[<-eW] at HB ca O HR HV⊢;clear eW;have cp:(w.alloc (.cells #[.slice A1 m d1,.slice A2 T.K.length d2,.slice A3 T.P.length d3] 46)).heap.size=w.heap.size+1:=by simp
 rw[cp] at O;clear cp
 go_loopw [5] (fun iv wr=>∃i:Nat,i<=n/\iv=.int .i64 (i:Int)/\(p.v.take i).all (onB T.R p)=true/\(p.v.take i).Nodup/\AU W wr) (fun iv _=>n - (intOf iv).toNat)
 case atStart=>exact⟨0,Nat.zero_le _,rfl,by simp,by simp,AU.refl _⟩
 case round=>
  obtain⟨i,hi,rfl,hn,Z,hd⟩:=hrel;have HN:=I hn;clear hn;have cm:=I Z;clear Z;have bq:=I (show Rd wr B A1 (strs T.R) by obtain⟨q,rfl⟩:=hd;exact HR.o.drewN q);have bb:=I (show Rd wr B A5 (strs p.v) by obtain⟨q,rfl⟩:=hd;exact HV.o.drewN q);have k0:wr.cell? ⟨w.heap.size,0,none⟩=some (.slice A1 m d1):=by obtain⟨q,rfl⟩:=hd;exact ca.o.cell 0
  have k1:wr.cell? ⟨w.heap.size+1,0,none⟩=some (.string ⟨p.f.toArray⟩):=by obtain⟨q,rfl⟩:=hd;exact O.o.cell 0
  have k2:wr.cell? ⟨w.heap.size+1,1,none⟩=some (.string ⟨p.t.toArray⟩):=by obtain⟨q,rfl⟩:=hd;exact O.o.cell 1
  have k3:wr.cell? ⟨w.heap.size+1,2,none⟩=some (.slice A5 n d5):=by obtain⟨q,rfl⟩:=hd;exact O.o.cell 2
  have av:=I hd;clear hd
  by_cases hlt:i<n
  ·have e1:(i:Int)<(n:Int):=by omega
   have e2:(0:Int)<=(i:Int):=by omega
   have e3:(i:Int)<=(d5:Int):=by omega
   have M:i<p.v.length:=by rw[<-EN.o];exact hlt
   have hlen:(p.v.take i).length=i:=by simp;omega
   have C4:=I (PV.o i M);rw[hlen] at C4;have bz:=all_succ (p:=onB T.R p) M;rw[HN.o,Bool.true_and,<-CU M] at bz;have bx:=all_false (p:=onB T.R p) M;rw[<-CU M] at bx;have Z:=DI M;rw[<-CU M] at Z;obtain⟨b,o,eA,_,h1⟩:=DE bb.o M;subst eA;obtain⟨x,ex⟩:=Ak (pl p.v i);rw[<-ex] at bz bx Z h1 C4;have C3:=I (PR.o x);have cy:=I bz;have cg:=I bx;have cd:=I Z;clear ex M hlen bz bx Z
   by_cases q1:x∈T.R
   ·obtain⟨y1,bn,cc⟩:=DH q1
    rw[<-bn] at C3;have s4:decide (y1<0)=false:=decide_eq_false (by omega);have Q1:=I q1;clear bn cc q1
    by_cases q2:x∈p.v.take i
    ·obtain⟨y2,aw,bB⟩:=DH q2
     rw[<-aw] at C4;have s5:decide (0<=y2)=true:=decide_eq_true bB;have E:=I (show viaB T.R p=false by rw[EQ.o,decide_eq_false (fun h=>(cd.o.1 (FQ h)).2 q2)];simp);clear aw bB q2
     go_wp2
     go_quiet (first
      |(go_at_call 52;with_reducible refine Aj (C3.o _ (bq.o.drewN _)) ?_;rintro w9 rfl;exact⟨rfl,_,rfl⟩)
      |(go_at_call 52;with_reducible refine Aj (C4.o _ (bb.o.drewN _)) ?_;rintro w9 rfl;exact⟨rfl,_,rfl⟩))
     go_wp2
     go_ret;exact⟨by rw[E.o];rfl,HB.o.trans ((av.o.trans ⟨_,rfl⟩).below.mono HB.o.size)⟩
    ·obtain⟨y2,aw,bB⟩:=DV q2
     rw[<-aw] at C4;have s5:decide (0<=y2)=false:=decide_eq_false (by omega);have E2:=I (cd.o.2 ⟨cm.o,q2⟩);clear aw bB q2
     by_cases q3:x=p.f
     ·have t3:(x==p.f)=true:=by simpa using q3
      have E:=I (show viaB T.R p=false by rw[EQ.o,cg.o (by rw[onB,decide_eq_false (fun h=>h q3)];rfl)];rfl);clear q3
      go_wp2
      go_quiet (first
       |(go_at_call 52;with_reducible refine Aj (C3.o _ (bq.o.drewN _)) ?_;rintro w9 rfl;exact⟨rfl,_,rfl⟩)
       |(go_at_call 52;with_reducible refine Aj (C4.o _ (bb.o.drewN _)) ?_;rintro w9 rfl;exact⟨rfl,_,rfl⟩))
      go_wp2
      go_ret;exact⟨by rw[E.o];rfl,HB.o.trans ((av.o.trans ⟨_,rfl⟩).below.mono HB.o.size)⟩
     ·have t3:(x==p.f)=false:=by simpa using q3
      by_cases q4:x=p.t
      ·have t4:(x==p.t)=true:=by simpa using q4
       have E:=I (show viaB T.R p=false by rw[EQ.o,cg.o (by rw[onB,decide_eq_false (p:=x≠p.t) (fun h=>h q4)];simp)];rfl);clear q3 q4
       go_wp2
       go_quiet (first
        |(go_at_call 52;with_reducible refine Aj (C3.o _ (bq.o.drewN _)) ?_;rintro w9 rfl;exact⟨rfl,_,rfl⟩)
        |(go_at_call 52;with_reducible refine Aj (C4.o _ (bb.o.drewN _)) ?_;rintro w9 rfl;exact⟨rfl,_,rfl⟩))
       go_wp2
       go_ret;exact⟨by rw[E.o];rfl,HB.o.trans ((av.o.trans ⟨_,rfl⟩).below.mono HB.o.size)⟩
      ·have t4:(x==p.t)=false:=by simpa using q4
       have E:=I (cy.o.trans (show onB T.R p x=true by rw[onB,decide_eq_true q3,decide_eq_true q4,decide_eq_true Q1.o];rfl));clear q3 q4
       go_wp2
       go_quiet (first
        |(go_at_call 52;with_reducible refine Aj (C3.o _ (bq.o.drewN _)) ?_;rintro w9 rfl;exact⟨rfl,_,rfl⟩)
        |(go_at_call 52;with_reducible refine Aj (C4.o _ (bb.o.drewN _)) ?_;rintro w9 rfl;exact⟨rfl,_,rfl⟩))
       go_wp2
       go_roundw
       case rel=>exact⟨i+1,by omega,by go_num,E.o,E2.o,av.o.trans ⟨_,rfl⟩⟩
       case measure=>simp [intOf];omega
   ·obtain⟨y1,bn,cc⟩:=DV q1
    rw[<-bn] at C3;have s4:decide (y1<0)=true:=decide_eq_true cc;have E:=I (show viaB T.R p=false by rw[EQ.o,cg.o (by rw[onB,decide_eq_false q1];simp)];rfl);clear bn cc q1
    go_wp2
    go_quiet (first
     |(go_at_call 52;with_reducible refine Aj (C3.o _ (bq.o.drewN _)) ?_;rintro w9 rfl;exact⟨rfl,_,rfl⟩))
    go_wp2
    go_ret;exact⟨by rw[E.o];rfl,HB.o.trans ((av.o.trans ⟨_,rfl⟩).below.mono HB.o.size)⟩
  ·have e1:¬(i:Int)<(n:Int):=by omega
   have cq:p.v.length<=i:=by have:=EN.o;omega
   have E:=I (show viaB T.R p=true by
    have h:=cm.o;rw[List.take_of_length_le cq] at h;rw[EQ.o,Du cq HN.o,decide_eq_true h];rfl)
   go_wp2
   go_ret;exact⟨by rw[E.o];rfl,HB.o.trans (av.o.below.mono HB.o.size)⟩
theorem aS {R:List L} {p:Pa} (h:Df R (p.f,p.t)=true):Fq R p=viaB R p:=by rw[Fq,h];rfl
theorem dJ {R:List L} {p:Pa} (h:p.f∉R):Fq R p=false:=by rw[Fq,Df];simp [h]
theorem dK {R:List L} {p:Pa} (h:p.t∉R):Fq R p=false:=by rw[Fq,Df];simp [h]
theorem dL {R:List L} {p:Pa} (h:p.f=p.t):Fq R p=false:=by rw[Fq,Df];simp [h]
theorem dM {R:List L} {p:Pa} (h:¬p.v.length<=4):Fq R p=false:=by rw[Fq,viaB,decide_eq_false h];simp
theorem UO (p:Pa) (T:Tp) (v u:Value) (B:Nat) (w:World) (hs:Sm T) (hp:p.v.length<=3000) (hv:TpV w B v T) (hu:PaV w B u p) (hB:B<=w.heap.size) :
  Calls Tryz.prog 121 #[v,u] w fun e w'=>e=.returned (.bool (Fq T.R p))/\Below w.heap.size w w':=by
 by_cases hgood:Df T.R (p.f,p.t)=true/\p.v.length<=4
 ·rw[aS hgood.1]
  exact UN p T v u B w hs hp hv hu hB hgood.1 hgood.2
 obtain⟨v1,v2,v3,rfl,⟨A1,d1,rfl,bz,r1⟩,⟨A2,d2,rfl,bx,r2⟩,⟨A3,d3,rfl,bn,r3⟩⟩:=hv;obtain⟨u1,rfl,⟨A5,d5,rfl,bq,r5⟩⟩:=hu;have aw:=(Below.refl w.heap.size w).alloc Ag (.cells #[.slice A1 T.R.length d1,.slice A2 T.K.length d2,.slice A3 T.P.length d3] 46);have bb:=aw.alloc aw.size (.cells #[.string ⟨p.f.toArray⟩,.string ⟨p.t.toArray⟩,.slice A5 p.v.length d5] 208);have HB:=I bb;have HR:=I (r1.below (bb.mono hB));have PR:=I (fun x w1 (h:Rd w1 B A1 (strs T.R))=>Ep T.R A1 d1 B x w1 (by have:=hs.r;omega) h);have c1:=PR.o p.f;have c2:=PR.o p.t;have EA:=I (@dJ T.R p);have EB:=I (@dK T.R p);have EC:=I (@dL T.R p);have ED:=I (@dM T.R p);have HG:=I (show ¬(p.f∈T.R/\p.t∈T.R/\p.f≠p.t/\p.v.length<=4) from fun h=>hgood ⟨by rw[Df];simp [h.1,h.2.1,h.2.2.1],h.2.2.2⟩);obtain⟨n,en⟩:=Ak (p.v.length);obtain⟨m,em⟩:=Ak (T.R.length);clear aw bb hgood;rw[<-en] at HB HR ED HG hp;rw[<-em] at HB HR PR c1 c2;rw[<-en,<-em];clear en em r1 r2 r3 r5 hB hs bz bx bn bq
 by_cases q1:p.f∈T.R
 ·obtain⟨z1,O,av⟩:=DH q1
  rw[<-O] at c1;have s1:decide (z1<0)=false:=decide_eq_false (by omega);have C1:=I c1;clear c1 O av
  by_cases q2:p.t∈T.R
  ·obtain⟨z2,M,Z⟩:=DH q2
   rw[<-M] at c2;have s2:decide (z2<0)=false:=decide_eq_false (by omega);have C2:=I c2;clear c2 M Z
   by_cases q3:p.f=p.t
   ·have t3:(p.f==p.t)=true:=by simpa using q3
    have E:=I (EC.o q3);clear q1 q2 q3;go_enter Tryz.func121,Tryz.ntmps121
    go_wp2_with (first
     |(go_at_call 52;with_reducible refine Aj (C1.o _ HR.o) ?_;rintro w1 rfl;clear C1)
     |(go_at_call 52;with_reducible refine Aj (C2.o _ HR.o) ?_;rintro w1 rfl;clear C2))
    go_ret;exact⟨by rw[E.o];rfl,HB.o⟩
   ·have t3:(p.f==p.t)=false:=by simpa using q3
    have h4:¬n<=4:=fun h=>HG.o ⟨q1,q2,q3,h⟩
    have s3:decide (4<(n:Int))=true:=by simp;omega
    have E:=I (ED.o h4);clear q1 q2 q3 h4;go_enter Tryz.func121,Tryz.ntmps121
    go_wp2_with (first
     |(go_at_call 52;with_reducible refine Aj (C1.o _ HR.o) ?_;rintro w1 rfl;clear C1)
     |(go_at_call 52;with_reducible refine Aj (C2.o _ HR.o) ?_;rintro w1 rfl;clear C2))
    go_ret;exact⟨by rw[E.o];rfl,HB.o⟩
  ·obtain⟨z2,M,Z⟩:=DV q2
   rw[<-M] at c2;have s2:decide (z2<0)=true:=decide_eq_true Z;have C2:=I c2;clear c2 M Z;have E:=I (EB.o q2);clear q1 q2;go_enter Tryz.func121,Tryz.ntmps121
   go_wp2_with (first
    |(go_at_call 52;with_reducible refine Aj (C1.o _ HR.o) ?_;rintro w1 rfl;clear C1)
    |(go_at_call 52;with_reducible refine Aj (C2.o _ HR.o) ?_;rintro w1 rfl;clear C2))
   go_ret;exact⟨by rw[E.o];rfl,HB.o⟩
 ·obtain⟨z1,O,av⟩:=DV q1
  rw[<-O] at c1;have s1:decide (z1<0)=true:=decide_eq_true av;have C1:=I c1;clear c1 c2 O av;have E:=I (EA.o q1);clear q1;go_enter Tryz.func121,Tryz.ntmps121
  go_wp2_with (go_at_call 52;with_reducible refine Aj (C1.o _ HR.o) ?_;rintro w1 rfl;clear C1)
  go_ret;exact⟨by rw[E.o];rfl,HB.o⟩
theorem isr_k {T:Tp} {i:Nat} (hi:i<T.K.length) (h:Df T.R (kl T.K i)=false):isT T=false:=by
 rw[Gd hi] at h;exact Zh (by rw[CY,all_false hi h];rfl)
theorem dN {T:Tp} {i k:Nat} (hi:i<T.K.length) (hk:k<i) (h:kl T.K k=kl T.K i):isT T=false:=by
 refine Zh ?_;rw[CY,decide_eq_false,Bool.and_false];intro M;rw[List.nodup_iff_pairwise_ne,List.pairwise_iff_getElem] at M;rw[Gd hi,Gd (by omega)] at h;exact M k i (by omega) hi hk h
theorem Yl {T:Tp} (h:Gj T.P T.R=false):isT T=false:=by rw[isT,h];simp
theorem isr_p {T:Tp} {i:Nat} (hi:i<T.P.length) (h:Fq T.R (al T.P i)=false):isT T=false:=by
 rw[JY hi] at h;exact Yl (by rw[La,all_false hi h];rfl)
theorem LI {P:List Pa} {i:Nat} (hi:i<P.length):(Ej P)[i]'(by rw[Bx];exact hi)=((al P i).f,(al P i).t):=by
 simp [Ej,JY hi]
theorem dO {T:Tp} {i k:Nat} (hi:i<T.P.length) (hk:k<i) (Z:(al T.P k).f=(al T.P i).f) (O:(al T.P k).t=(al T.P i).t):isT T=false:=by
 refine Yl ?_;rw[La,decide_eq_false,Bool.and_false];intro M;rw[List.nodup_iff_pairwise_ne,List.pairwise_iff_getElem] at M;refine M k i (by rw[Bx];omega) (by rw[Bx];exact hi) hk ?_;rw[LI hi,LI (by omega),Z,O]
theorem aT {T:Tp} (h:(Bw T.R&&(decide (1<=T.R.length)&&decide (T.R.length<=6)))=true) (h3:T.K.length<=20) (Z:T.P.length<=8) (h5:T.K.all (Df T.R)=true) (M:T.K.Nodup) (O:T.P.all (Fq T.R)=true) (h8:(Ej T.P).Nodup):isT T=true:=by
 rw[Bool.and_eq_true,Bool.and_eq_true] at h;rw[isT,h.1,h.2.1,h.2.2,decide_eq_true h3,decide_eq_true Z,CY,h5,decide_eq_true M,La,O,decide_eq_true h8];rfl
theorem isr_a {T:Tp} (h:(Bw T.R&&(decide (1<=T.R.length)&&decide (T.R.length<=6)))=false):isT T=false:=by
 rw[isT];cases h1:Bw T.R
 ·simp
 ·rw[h1,Bool.true_and] at h
  rw[h];rfl
theorem JT {α:Type} {l:List α} {i:Nat} (hi:i<l.length) (h:∀k (hk:k<i),l[k]'(by omega)≠l[i]):l[i]∉l.take i:=by
 intro hm;obtain⟨k,hk,e⟩:=List.getElem_of_mem hm;simp only[List.length_take] at hk;rw[List.getElem_take] at e;exact h k (by omega) e
theorem dP {K:List Pr} {i:Nat} (hi:i<K.length) (h:(K.take i).Nodup) (M:∀q,q<i->kl K q≠kl K i):(K.take (i+1)).Nodup:=by
 rw[DI hi];refine⟨h,JT hi fun k hk e=>M k hk ?_⟩;rw[Gd hi,Gd (by omega)];exact e
theorem dQ {P:List Pa} {i:Nat} (hi:i<P.length) (h:((Ej P).take i).Nodup) (O:∀q,q<i->¬((al P q).f=(al P i).f/\(al P q).t=(al P i).t)):((Ej P).take (i+1)).Nodup:=by
 have M:i<(Ej P).length:=by rw[Bx];exact hi
 rw[DI M];refine⟨h,JT M fun k hk e=>O k hk ?_⟩;rw[LI hi,LI (by omega)] at e;exact Prod.mk.inj e
theorem Xs (T:Tp) (v:Value) (B:Nat) (w:World) (hs:Sm T) (hv:TpV w B v T) (hB:B<=w.heap.size) :
  Calls Tryz.prog 75 #[v] w fun e w'=>e=.returned (.bool (isT T))/\Below w.heap.size w w':=by
 have ev:=hv;obtain⟨v1,v2,v3,rfl,⟨A1,d1,rfl,ed,r1⟩,⟨A2,d2,rfl,eg,r2⟩,⟨A3,d3,rfl,ef,r3⟩⟩:=ev;obtain⟨N,eN⟩:=Ak (w.heap.size);have hb:=(Below.refl w.heap.size w).alloc Ag (.cells #[.slice A1 T.R.length d1,.slice A2 T.K.length d2,.slice A3 T.P.length d3] 46);have HB:=I hb;have HK:=I (Blk.new w 46 #[.slice A1 T.R.length d1,.slice A2 T.K.length d2,.slice A3 T.P.length d3]);have c1:=ON T.R A1 d1 B _ (by have:=hs.r;omega) ed (r1.below (hb.mono hB)) (Nat.le_trans hB hb.size) (fun i hi=>by have:=hs.rt _ (DL hi);omega);have KB:=I (fun w1 (h:Below N w w1)=>r2.below (h.mono (by omega)));have AB:=I (fun w1 (h:Below N w w1)=>r3.below (h.mono (by omega)));have PL:=I (fun x w1 (h:Below N w w1)=>Ep T.R A1 d1 B x w1 (by have:=hs.r;omega) (r1.below (h.mono (by omega))));have RP:=I (fun(i:Nat) (hi:i<T.P.length) u w1 (h:Below N w w1) (hu:PaV w1 B u (al T.P i))=>UO (al T.P i) T _ u B w1 hs (hs.v _ (Pm hi)) (hv.below (h.mono (by omega))) hu (Nat.le_trans hB (by have:=h.size;omega)));rw[<-eN] at HB;have ej:=I eN;have et:=I (show B<=N by omega);rw[<-eN];have bb:=I (show ∀w1:World,Below N w w1->N<=w1.heap.size from fun w1 h=>by have:=h.size;have:=ej.o;omega);have s2:=hs.k;have s3:=hs.p;have IA:=I (@isr_a T);have IK:=I (fun i=>@isr_k T i);have cM:=I (fun i k=>@dN T i k);have IP:=I (fun i=>@isr_p T i);have ep:=I (fun i k=>@dO T i k);have IY:=I (@aT T);have IC:=I (@bG T);have ID:=I (@bH T);obtain⟨Q,eQ⟩:=Ak ((Bw T.R&&(decide (1<=T.R.length)&&decide (T.R.length<=6))));rw[<-eQ] at c1 IA IY;obtain⟨n,en⟩:=Ak (T.R.length);obtain⟨m,em⟩:=Ak (T.K.length);obtain⟨k,ek⟩:=Ak (T.P.length);clear hb hv;rw[<-en,<-em,<-ek] at HK HB c1 RP;rw[<-en] at PL;rw[<-em] at s2 IC IY;rw[<-ek] at s3 ID IY;rw[<-en,<-em,<-ek];have EM:=I em;have EK:=I ek;clear en em ek eQ eN hs r1 r2 r3 ed eg ef hB;cases Q with
 |false=>
  have E:=I (IA.o rfl);go_enter Tryz.func75,Tryz.ntmps75
  go_wp2_with (go_at_call 120;refine Aj c1 ?_;rintro w1 hb;clear c1;replace HB:=I (HB.o.trans (hb.mono (bb.o _ HB.o)));clear hb)
  go_ret;exact⟨by rw[E.o];rfl,HB.o⟩
 |true=>
  by_cases q1:m<=20
  ·have t1:decide (20<(m:Int))=false:=by simp;omega
   by_cases q2:k<=8
   ·have t2:decide (8<(k:Int))=false:=by simp;omega
    have cP:=I (IY.o rfl q1 q2);go_enter Tryz.func75,Tryz.ntmps75
    go_wp2_with (go_at_call 120;refine Aj c1 ?_;rintro w1 hb;clear c1;replace HK:=I (HK.o.below hb);replace HB:=I (HB.o.trans (hb.mono (bb.o _ HB.o)));clear hb;have k0:=HK.o.cell 0;have k1:=HK.o.cell 1;have k2:=HK.o.cell 2;simp only[List.getElem?_toArray,List.getElem?_cons_zero,List.getElem?_cons_succ] at k0 k1 k2)
    clear IA IC ID IY;obtain⟨W1,cA⟩:=Ak (w1);rw[<-cA] at HK HB k0 k1 k2⊢;clear cA
    go_loopw [3] (fun iv wr=>∃i:Nat,i<=m/\iv=.int .i64 (i:Int)/\(T.K.take i).all (Df T.R)=true/\(T.K.take i).Nodup/\Below W1.heap.size W1 wr) (fun iv _=>m - (intOf iv).toNat)
    case atStart=>exact⟨0,Nat.zero_le _,rfl,by simp,by simp,Below.refl _ _⟩
    case round=>
     obtain⟨i,hi,rfl,hn,aw,cr⟩:=hrel;have HN:=I hn;clear hn;have cf:=I aw;clear aw;have Z:=I cr;clear cr;have O:=I (HB.o.trans (Z.o.mono (bb.o _ HB.o)));clear k0 k1 k2;have M:=I (HK.o.below Z.o);have k0:=M.o.cell 0;have k1:=M.o.cell 1;have k2:=M.o.cell 2;simp only[List.getElem?_toArray,List.getElem?_cons_zero,List.getElem?_cons_succ] at k0 k1 k2
     by_cases hlt:i<m
     ·have e1:(i:Int)<(m:Int):=by omega
      have e2:(0:Int)<=(i:Int):=by omega
      have av:i<T.K.length:=by rw[<-EM.o];exact hlt
      have bn:=all_succ (p:=Df T.R) av;rw[HN.o,Bool.true_and,<-Gd av] at bn;have aw:=dP av cf.o;have ik:=IK.o i av;have ck:=I (fun q=>cM.o i q av);obtain⟨b,o,eA,_,h1,h2⟩:=Mk (KB.o _ O.o) av;have cx:=I (fun w1 (h:Below N w w1) j (hj:j<i)=>Mk (KB.o w1 h) (Nat.lt_trans hj av));subst eA;obtain⟨x,ex⟩:=Ak (kl T.K i);rw[<-ex] at aw;rw[<-ex] at bn ik h1 h2 ck;have ct:=I bn;have cy:=I aw;have cm:=I ik;have C3:=I (PL.o x.1);have C4:=I (PL.o x.2);clear ex av bn aw ik;have HA:=I (Blk.new wr 140 #[.string ⟨x.1.toArray⟩,.string ⟨x.2.toArray⟩]);have cn:=I ((Below.refl wr.heap.size wr).alloc Ag (.cells #[.string ⟨x.1.toArray⟩,.string ⟨x.2.toArray⟩] 140));have H2:=I (O.o.trans (cn.o.mono (bb.o _ O.o)));have H3:=I (Z.o.trans (cn.o.mono Z.o.size));have cB:=M.o.below cn.o;have ka:=cB.cell 0;simp only[List.getElem?_toArray,List.getElem?_cons_zero] at ka;clear cB
      by_cases g1:x.1∈T.R
      ·obtain⟨z1,bB,cd⟩:=DH g1
       rw[<-bB] at C3;have s4:decide (z1<0)=false:=decide_eq_false (by omega)
       by_cases g2:x.2∈T.R
       ·obtain⟨z2,cc,cj⟩:=DH g2
        rw[<-cc] at C4;have s5:decide (z2<0)=false:=decide_eq_false (by omega)
        by_cases g3:x.1=x.2
        ·have t3:(x.1==x.2)=true:=by simpa using g3
         have E:=I (cm.o (by rw[Df,decide_eq_false (fun h=>h g3)];rfl));clear g1 g2 g3 bB cc cd cj
         go_wp2_with (first
         |(go_at_call 52;with_reducible refine Aj (C3.o _ H2.o) ?_;rintro w9 rfl;clear C3)
         |(go_at_call 52;with_reducible refine Aj (C4.o _ H2.o) ?_;rintro w9 rfl;clear C4))
         go_ret;exact⟨by rw[E.o];rfl,H2.o⟩
        ·have t3:(x.1==x.2)=false:=by simpa using g3
         have E:=I (ct.o.trans (show Df T.R x=true by rw[Df,decide_eq_true g1,decide_eq_true g2,decide_eq_true g3];rfl));clear g1 g2 g3 bB cc cd cj
         go_wp2_with (first
         |(go_at_call 52;with_reducible refine Aj (C3.o _ H2.o) ?_;rintro w9 rfl;clear C3)
         |(go_at_call 52;with_reducible refine Aj (C4.o _ H2.o) ?_;rintro w9 rfl;clear C4))
         obtain⟨W2,ea⟩:=Ak (wr.alloc (.cells #[.string ⟨x.1.toArray⟩,.string ⟨x.2.toArray⟩] 140));rw[<-ea] at HA cn H2 H3⊢;clear ea;have cR:=I (M.o.below cn.o);obtain⟨W0,ec⟩:=Ak (wr);rw[<-ec] at HA⊢;clear ec;clear k0 k1 k2 ka h1 h2
         go_loopw [5] (fun jv wq=>∃j:Nat,j<=i/\jv=.int .i64 (j:Int)/\(∀q,q<j->kl T.K q≠x)/\AU W2 wq) (fun jv _=>i - (intOf jv).toNat)
         case atStart=>exact⟨0,Nat.zero_le _,rfl,fun q hq=>absurd hq (Nat.not_lt_zero q),AU.refl _⟩
         case round=>
          obtain⟨j,hj,rfl,cq,hd⟩:=hrel;have cg:=I cq;clear cq;have k0:wr.cell? ⟨w.heap.size,0,none⟩=some (.slice A1 n d1):=by obtain⟨q,rfl⟩:=hd;exact cR.o.cell 0
          have k1:wr.cell? ⟨w.heap.size,1,none⟩=some (.slice (some ⟨b,o,none⟩) m d2):=by obtain⟨q,rfl⟩:=hd;exact cR.o.cell 1
          have y0:wr.cell? ⟨W0.heap.size,0,none⟩=some (.string ⟨x.1.toArray⟩):=by obtain⟨q,rfl⟩:=hd;exact HA.o.cell 0
          have y1:wr.cell? ⟨W0.heap.size,1,none⟩=some (.string ⟨x.2.toArray⟩):=by obtain⟨q,rfl⟩:=hd;exact HA.o.cell 1
          have cu:=I (H2.o.trans (hd.below.mono (bb.o _ H2.o)));have cp:=I (H3.o.trans (hd.below.mono H3.o.size));have cw:=I hd;clear hd
          by_cases hlj:j<i
          ·have f1:(j:Int)<(i:Int):=by omega
           have f2:(0:Int)<=(j:Int):=by omega
           have f3:(j:Int)<(m:Int):=by omega
           obtain⟨b',o',eA,_,h1,h2⟩:=cx.o _ cu.o j hlj;injection eA with eA;injection eA with eb eo;subst eb;subst eo
           by_cases hx:kl T.K j=x
           ·have t4:=SI (kl T.K j) x hx
            have E2:=I (ck.o j hlj hx);clear hx
            go_wp2
            go_quiet (fail)
            go_wp2
            go_ret;exact⟨by rw[E2.o];rfl,below_drewN cu.o _⟩
           ·have t4:=XO (kl T.K j) x hx
            have HX:=I hx;clear hx
            go_wp2
            go_quiet (fail)
            go_wp2
            go_roundw
            case rel=>exact⟨j+1,by omega,by go_num,fun q hq=>by
             by_cases e:q=j
             ·rw[e];exact HX.o
             ·exact cg.o q (by omega),cw.o.trans ⟨_,rfl⟩⟩
            case measure=>simp [intOf];omega
          ·have f1:¬(j:Int)<(i:Int):=by omega
           have E2:=I (cy.o fun q hq=>cg.o q (by omega))
           go_wp2
           go_roundw
           case rel=>exact⟨i+1,by omega,by go_num,E.o,E2.o,cp.o⟩
           case measure=>simp [intOf];omega
       ·obtain⟨z2,cc,cj⟩:=DV g2
        rw[<-cc] at C4;have s5:decide (z2<0)=true:=decide_eq_true cj;have E:=I (cm.o (by rw[Df,decide_eq_false g2];simp));clear g1 g2 bB cc cd cj
        go_wp2_with (first
         |(go_at_call 52;with_reducible refine Aj (C3.o _ H2.o) ?_;rintro w9 rfl;clear C3)
         |(go_at_call 52;with_reducible refine Aj (C4.o _ H2.o) ?_;rintro w9 rfl;clear C4))
        go_ret;exact⟨by rw[E.o];rfl,H2.o⟩
      ·obtain⟨z1,bB,cd⟩:=DV g1
       rw[<-bB] at C3;have s4:decide (z1<0)=true:=decide_eq_true cd;have E:=I (cm.o (by rw[Df,decide_eq_false g1];simp));clear g1 bB cd
       go_wp2_with (go_at_call 52;with_reducible refine Aj (C3.o _ H2.o) ?_;rintro w9 rfl;clear C3)
       go_ret;exact⟨by rw[E.o];rfl,H2.o⟩
     ·have e1:¬(i:Int)<(m:Int):=by omega
      have bz:T.K.length<=i:=by have:=EM.o;omega
      have er:=I (cP.o (Du bz HN.o) (by have h:=cf.o;rwa [List.take_of_length_le bz] at h));clear cP HN cf IK cM bz
      go_wp2
      obtain⟨W3,cY⟩:=Ak (wr);rw[<-cY] at M O⊢;clear cY k0 k1 k2 HK HB Z KB hi hlt e1
      go_loopw [6] (fun iv wr=>∃i:Nat,i<=k/\iv=.int .i64 (i:Int)/\(T.P.take i).all (Fq T.R)=true/\((Ej T.P).take i).Nodup/\Below W3.heap.size W3 wr) (fun iv _=>k - (intOf iv).toNat)
      case atStart=>exact⟨0,Nat.zero_le _,rfl,by simp,by simp,Below.refl _ _⟩
      case round=>
       have HK:=M;have HB:=O;clear M O;obtain⟨i,hi,rfl,hn,aw,cr⟩:=hrel;have HN:=I hn;clear hn;have cf:=I aw;clear aw;have Z:=I cr;clear cr;have O:=I (HB.o.trans (Z.o.mono (bb.o _ HB.o)));have M:=I (HK.o.below Z.o);have k0:=M.o.cell 0;have k1:=M.o.cell 1;have k2:=M.o.cell 2;simp only[List.getElem?_toArray,List.getElem?_cons_zero,List.getElem?_cons_succ] at k0 k1 k2
       by_cases hlt:i<k
       ·have e1:(i:Int)<(k:Int):=by omega
        have e2:(0:Int)<=(i:Int):=by omega
        have av:i<T.P.length:=by rw[<-EK.o];exact hlt
        have bn:=all_succ (p:=Fq T.R) av;rw[HN.o,Bool.true_and,<-JY av] at bn;have aw:=dQ av cf.o;have ik:=IP.o i av;have ck:=I (fun q=>ep.o i q av);obtain⟨b,o,eA,cL,h1,h2,u,h3,h4⟩:=Pn (AB.o _ O.o) av;have cx:=I (fun w1 (h:Below N w w1) j (hj:j<i)=>Pn (AB.o w1 h) (Nat.lt_trans hj av));have cT:=I (RP.o i hlt);subst eA;obtain⟨x,ex⟩:=Ak (al T.P i);rw[<-ex] at aw bn ik ck h1 h2 h4 cT;have ct:=I bn;have cy:=I aw;have cm:=I ik;have ei:=h4;obtain⟨A5,d5,eu,_⟩:=ei;subst eu;obtain⟨k5,cX⟩:∃k,k=x.v.length:=⟨_,rfl⟩;rw[<-cX] at h3 h4;have c5:=cT.o _ wr.drew (below_drewN O.o 1) ⟨_,rfl,h4.below (B:=B) (w':=wr.drew) (below_drewN (Below.refl B wr) 1)⟩;have cb:=I (show b<wr.heap.size from Nat.lt_of_lt_of_le cL (Nat.le_trans et.o (bb.o _ O.o)));have bq:=I (show wr.drew.cell? ⟨b,o+i*3,none⟩=_ from h1);have bx:=I (show wr.drew.cell? ⟨b,o+i*3+1,none⟩=_ from h2);have ca:=I (show wr.drew.cell? ⟨b,o+i*3+2,none⟩=_ from h3);have ey:=I (show x.f=(al T.P i).f/\x.t=(al T.P i).t from by rw[ex];exact⟨rfl,rfl⟩);clear ex av bn aw ik h1 h2 h3 h4 cX cL;cases hpx:Fq T.R x with
        |false=>
         rw[hpx] at c5;have E:=I (cm.o hpx);clear hpx
         go_wp2
         clear k0 k1 k2;replace M:=I (M.o.drewN 1);replace O:=I (below_drewN O.o 1);replace Z:=I (below_drewN Z.o 1)
         go_region_held3 (fun w'=>w'.cell? ⟨w.heap.size,0,none⟩=some (.slice A1 n d1)/\w'.cell? ⟨w.heap.size,1,none⟩=some (.slice A2 m d2)/\w'.cell? ⟨w.heap.size,2,none⟩=some (.slice (some ⟨b,o,none⟩) k d3)/\w'.cell? ⟨b,o+i*3,none⟩=some (.string ⟨x.f.toArray⟩)/\w'.cell? ⟨b,o+i*3+1,none⟩=some (.string ⟨x.t.toArray⟩)/\w'.cell? ⟨b,o+i*3+2,none⟩=some (.slice A5 k5 d5)) (exact⟨M.o.cell 0,M.o.cell 1,M.o.cell 2,bq.o,bx.o,ca.o⟩) ((go_at_call 121;refine Aj c5 ?_;rintro w9 hb;clear c5;replace M:=I (M.o.below hb);replace bq:=I ((hb.cell cb.o).trans bq.o);replace bx:=I ((hb.cell cb.o).trans bx.o);replace ca:=I ((hb.cell cb.o).trans ca.o);replace O:=I (O.o.trans (hb.mono (bb.o _ O.o)));replace Z:=Z.t hb;clear hb))
         go_wp2
         go_ret;exact⟨by rw[E.o];rfl,O.o⟩
        |true=>
         rw[hpx] at c5;have E:=I (ct.o.trans hpx);clear hpx
         go_wp2
         clear k0 k1 k2;replace M:=I (M.o.drewN 1);replace O:=I (below_drewN O.o 1);replace Z:=I (below_drewN Z.o 1)
         go_region_held3 (fun w'=>w'.cell? ⟨w.heap.size,0,none⟩=some (.slice A1 n d1)/\w'.cell? ⟨w.heap.size,1,none⟩=some (.slice A2 m d2)/\w'.cell? ⟨w.heap.size,2,none⟩=some (.slice (some ⟨b,o,none⟩) k d3)/\w'.cell? ⟨b,o+i*3,none⟩=some (.string ⟨x.f.toArray⟩)/\w'.cell? ⟨b,o+i*3+1,none⟩=some (.string ⟨x.t.toArray⟩)/\w'.cell? ⟨b,o+i*3+2,none⟩=some (.slice A5 k5 d5)) (exact⟨M.o.cell 0,M.o.cell 1,M.o.cell 2,bq.o,bx.o,ca.o⟩) ((go_at_call 121;refine Aj c5 ?_;rintro w9 hb;clear c5;replace M:=I (M.o.below hb);replace bq:=I ((hb.cell cb.o).trans bq.o);replace bx:=I ((hb.cell cb.o).trans bx.o);replace ca:=I ((hb.cell cb.o).trans ca.o);replace O:=I (O.o.trans (hb.mono (bb.o _ O.o)));replace Z:=Z.t hb;clear hb))
         go_wp2
         obtain⟨W4,cQ⟩:=Ak (w9);rw[<-cQ] at M O Z bq bx ca⊢;clear cQ;have ew:(i:Int)<(k:Int):=e1
         go_loopw [7] (fun jv wq=>∃j:Nat,j<=i/\jv=.int .i64 (j:Int)/\(∀q,q<j->¬((al T.P q).f=x.f/\(al T.P q).t=x.t))/\AU W4 wq) (fun jv _=>i - (intOf jv).toNat)
         case atStart=>exact⟨0,Nat.zero_le _,rfl,fun q hq=>absurd hq (Nat.not_lt_zero q),AU.refl _⟩
         case round=>
          obtain⟨j,hj,rfl,cq,hd⟩:=hrel;have cg:=I cq;clear cq;have k0:wr.cell? ⟨w.heap.size,0,none⟩=some (.slice A1 n d1):=by obtain⟨q,rfl⟩:=hd;exact M.o.cell 0
          have k2:wr.cell? ⟨w.heap.size,2,none⟩=some (.slice (some ⟨b,o,none⟩) k d3):=by obtain⟨q,rfl⟩:=hd;exact M.o.cell 2
          have x0:wr.cell? ⟨b,o+i*3,none⟩=some (.string ⟨x.f.toArray⟩):=by obtain⟨q,rfl⟩:=hd;exact bq.o
          have x1:wr.cell? ⟨b,o+i*3+1,none⟩=some (.string ⟨x.t.toArray⟩):=by obtain⟨q,rfl⟩:=hd;exact bx.o
          have cu:=I (O.o.trans (hd.below.mono (bb.o _ O.o)));have cp:=I (Z.o.trans (hd.below.mono Z.o.size));have cw:=I hd;clear hd
          by_cases hlj:j<i
          ·have f1:(j:Int)<(i:Int):=by omega
           have f2:(0:Int)<=(j:Int):=by omega
           have f3:(j:Int)<(k:Int):=by omega
           obtain⟨b',o',eA,_,h1,h2,u9,h3,h4⟩:=cx.o _ cu.o j hlj;injection eA with eA;injection eA with eb eo;subst eb;subst eo;clear h3 h4
           by_cases g1:(al T.P j).f=x.f
           ·have t3:((al T.P j).f==x.f)=true:=by simpa using g1
            by_cases g2:(al T.P j).t=x.t
            ·have t4:((al T.P j).t==x.t)=true:=by simpa using g2
             have E2:=I (ck.o j hlj g1 g2);clear g1 g2
             go_wp2
             go_quiet (fail)
             go_wp2
             go_ret;exact⟨by rw[E2.o];rfl,below_drewN cu.o _⟩
            ·have t4:((al T.P j).t==x.t)=false:=by simpa using g2
             have HX:=I (show ¬((al T.P j).f=x.f/\(al T.P j).t=x.t) from fun h=>g2 h.2);clear g1 g2
             go_wp2
             go_quiet (fail)
             go_wp2
             go_roundw
             case rel=>exact⟨j+1,by omega,by go_num,fun q hq=>by
              by_cases e:q=j
              ·rw[e];exact HX.o
              ·exact cg.o q (by omega),cw.o.trans ⟨_,rfl⟩⟩
             case measure=>simp [intOf];omega
           ·have t3:((al T.P j).f==x.f)=false:=by simpa using g1
            have HX:=I (show ¬((al T.P j).f=x.f/\(al T.P j).t=x.t) from fun h=>g1 h.1);clear g1
            go_wp2
            go_quiet (fail)
            go_wp2
            go_roundw
            case rel=>exact⟨j+1,by omega,by go_num,fun q hq=>by
             by_cases e:q=j
             ·rw[e];exact HX.o
             ·exact cg.o q (by omega),cw.o.trans ⟨_,rfl⟩⟩
            case measure=>simp [intOf];omega
          ·have f1:¬(j:Int)<(i:Int):=by omega
           have E2:=I (cy.o fun q hq=>cg.o q (by omega))
           go_wp2
           go_roundw
           case rel=>exact⟨i+1,by omega,by go_num,E.o,E2.o,cp.o⟩
           case measure=>simp [intOf];omega
       ·have e1:¬(i:Int)<(k:Int):=by omega
        have bz:T.P.length<=i:=by have:=EK.o;omega
        have E:=I (er.o (Du bz HN.o) (by have h:=cf.o;rwa [List.take_of_length_le (by rw[Bx];exact bz)] at h));clear bz
        go_wp2
        go_ret;exact⟨by rw[E.o];rfl,O.o⟩
   ·have t2:decide (8<(k:Int))=true:=by simp;omega
    have E:=I (ID.o q2);clear q1 q2;go_enter Tryz.func75,Tryz.ntmps75
    go_wp2_with (go_at_call 120;refine Aj c1 ?_;rintro w1 hb;clear c1;replace HK:=I (HK.o.below hb);replace HB:=I (HB.o.trans (hb.mono (bb.o _ HB.o)));clear hb;have k0:=HK.o.cell 0;have k1:=HK.o.cell 1;have k2:=HK.o.cell 2;simp only[List.getElem?_toArray,List.getElem?_cons_zero,List.getElem?_cons_succ] at k0 k1 k2)
    go_ret;exact⟨by rw[E.o];rfl,HB.o⟩
  ·have t1:decide (20<(m:Int))=true:=by simp;omega
   have E:=I (IC.o q1);clear q1;go_enter Tryz.func75,Tryz.ntmps75
   go_wp2_with (go_at_call 120;refine Aj c1 ?_;rintro w1 hb;clear c1;replace HK:=I (HK.o.below hb);replace HB:=I (HB.o.trans (hb.mono (bb.o _ HB.o)));clear hb;have k0:=HK.o.cell 0;have k1:=HK.o.cell 1;have k2:=HK.o.cell 2;simp only[List.getElem?_toArray,List.getElem?_cons_zero,List.getElem?_cons_succ] at k0 k1 k2)
   go_ret;exact⟨by rw[E.o];rfl,HB.o⟩
end Rt
end Go.Proofs.YtfbnjcdhipplpaaGreat
