import Derived.Test.YtfcjeebnkigeaaaGreatZKdcFirst5
import Derived.Test.YtfcjeebnkigeaaaGreatZKdcFirst12
set_option maxHeartbeats 25600000
set_option maxRecDepth 100000
set_option linter.unusedVariables false
set_option linter.unusedSimpArgs false
namespace Go.Proofs.YtfcjeebnkigeaaaGreat
section
namespace Rt
open Go.RowKit Af Nm
theorem DJ (ls:List L) (A:Option Addr) (c B:Nat) (r:L) (w:World) (hl:ls.length≤9000000000000000) (hr:Rd w B A (strs ls)) :
  Calls Tryz.prog 104 #[.slice A ls.length c,.string ⟨r.toArray⟩] w fun e w'=>e = .returned (.int .i64 (Tr.ixL r ls))∧w=w':=by
 have HR:=I hr;clear hr;obtain⟨n,en⟩:∃n,n=ls.length:=⟨_,rfl⟩;rw[←en] at hl⊢;have EN:=I en;clear en;go_enter Tryz.func104,Tryz.ntmps104
 go_wp2
 go_loop [5] (fun iv=>∃i:Nat,i≤n∧iv = .int .i64 (i:Int)∧∀k,k<i→pl ls k≠r) (fun iv=>n - (intOf iv).toNat)
 case atStart=>exact⟨0,Nat.zero_le _,rfl,fun k h=>absurd h (Nat.not_lt_zero k)⟩
 case round=>
  obtain⟨i,hi,rfl,hn⟩:=hrel;have HN:=I hn;clear hn
  by_cases hlt:i<n
  ·have e1:(i:Int)<(n:Int):=by omega
   have e2:(0:Int)≤(i:Int):=by omega
   obtain⟨b,o,rfl,_,h1⟩:=Ek HR.o (i:=i) (by rw[←EN.o];exact hlt)
   by_cases hx:pl ls i=r
   ·have t1:(pl ls i==r)=true:=by simpa using hx
    have E:=I (Tr.Nl (by rw[←EN.o];exact hlt) hx HN.o);clear hx
    go_wp2
    go_ret;exact⟨by rw[E.o];rfl,rfl⟩
   ·have t1:(pl ls i==r)=false:=by simpa using hx
    have HX:=I hx;clear hx
    go_wp2
    go_round
    case rel=>exact⟨i+1,by omega,by go_num,fun k hk=>by
     by_cases q:k=i
     ·rw[q];exact HX.o
     ·exact HN.o k (by omega)⟩
    case measure=>simp [intOf];omega
  ·have e1:¬(i:Int)<(n:Int):=by omega
   have E:=I (Tr.Qj (ls:=ls) (r:=r) fun k hk=>HN.o k (by have:=EN.o;omega))
   go_wp2
   go_ret;exact⟨by rw[E.o];rfl,rfl⟩
theorem CJ {ls:List L} {r:L} (h:r∈ls):∃z:Int,z=Tr.ixL r ls∧0≤z:=⟨_,rfl,by have:=Tr.Vz r ls;simpa [h] using this⟩
theorem Dc {ls:List L} {r:L} (h:r∉ls):∃z:Int,z=Tr.ixL r ls∧z<0:=⟨_,rfl,by have:=Tr.Vz r ls;simpa [h] using this⟩
theorem SB {w:World} {B b o i:Nat} {ls:List L} (h:Rd w B (some ⟨b,o,none⟩) (strs ls)) (hi:i<ls.length):w.cell? ⟨b,o+i,none⟩=some (.string ⟨(pl ls i).toArray⟩):=by
 obtain⟨b',o',e,_,h1⟩:=Ek h hi;injection e with e;injection e with e1 e2;subst e1;subst e2;exact h1
theorem MR (ls:List L) (A:Option Addr) (c B:Nat) (w:World) (hl:ls.length≤1000000) (hc:ls.length≤c) (hr:Rd w B A (strs ls)) (hB:B≤w.heap.size) (hs:∀i,i<ls.length→(pl ls i).length≤1000000000) :
  Calls Tryz.prog 153 #[.slice A ls.length c] w fun e w'=>e = .returned (.bool (Bo ls&&(decide (1≤ls.length)&&decide (ls.length≤6))))∧Below w.heap.size w w':=by
 obtain⟨N,eN⟩:∃N,N=w.heap.size:=⟨_,rfl⟩;rw[←eN] at hB⊢;have HB0:=I (show Below N w w from Below.refl _ _);have EN0:=I eN;clear eN;have HSZ:=I (show ∀w1:World,Below N w w1→N≤w1.heap.size from fun w1 h=>by have:=h.size;have:=EN0.o;omega);have HR:=I hr;clear hr;have IS:=I (fun(i:Nat) (h:i<ls.length) w1=>LG (pl ls i) w1 (hs i h));have PL:=I (fun(i:Nat) (hi:i<ls.length) w1 (h:Rd w1 B A (strs ls))=>DJ (ls.take i) A c B (pl ls i) w1 (by simp;omega) (Im h (by omega)));have EQ:=I (show Bo ls=(ls.all isL&&decide ls.Nodup) from rfl);obtain⟨n,en⟩:∃n,n=ls.length:=⟨_,rfl⟩;rw[←en] at hl hc⊢;have EN:=I en;clear en hs;go_enter Tryz.func153,Tryz.ntmps153
 go_wp2
 go_loopw [3] (fun iv wr=>∃i:Nat,i≤n∧iv = .int .i64 (i:Int)∧(ls.take i).all isL=true∧(ls.take i).Nodup∧Below N w wr) (fun iv _=>n - (intOf iv).toNat)
 case atStart=>exact⟨0,Nat.zero_le _,rfl,by simp,by simp,HB0.o⟩
 case round=>
  obtain⟨i,hi,rfl,hn,hd,hb⟩:=hrel;have HN:=I hn;clear hn;have HD:=I hd;clear hd;have HB:=I hb;clear hb
  by_cases hlt:i<n
  ·have e1:(i:Int)<(n:Int):=by omega
   have e2:(0:Int)≤(i:Int):=by omega
   have e3:(i:Int)≤(c:Int):=by omega
   have him:i<ls.length:=by rw[←EN.o];exact hlt
   have hlen:(ls.take i).length=i:=by simp;omega
   have c1:=IS.o i him;have c2:=PL.o i him;rw[hlen] at c2;have hal:=all_succ (p:=isL) him;rw[HN.o,Bool.true_and,←Ej him] at hal;have hnd:=CS him;rw[←Ej him] at hnd;have HR2:=I (HR.o.below (HB.o.mono hB));obtain⟨b,o,eA,_,h1⟩:=Ek HR2.o him;subst eA;cases hx:isL (pl ls i) with
   |false=>
    rw[hx] at c1;have E:=I (show Bo ls=false by
     rw[EQ.o,all_false him (by rw[←Ej him];exact hx)];rfl)
    clear c2 hal hnd hx
    go_wp2
    replace HB:=I (below_drewN HB.o 1);have HC:=I (show ∀w',Reg.GR wr.drew w'→w'.cell? ⟨b,o+i,none⟩=some (.string ⟨(pl ls i).toArray⟩) from fun w' hS=>SB ((HR2.o.drewN 1).below (w':=w') (hS.mono (Nat.le_trans hB (HSZ.o _ HB.o)))) him);clear h1 him hlen;refine Reg.Cf 17 rfl (by kernel_rfl) ?_;refine Reg.Ax 0 (v:=?va0) rfl (by kernel_rfl) (by kernel_rfl) (by kernel_rfl) (fun _ _ _ h=>h) (by rfl) (fun w' hS=>?ha0) ?ra0
    case ha0=>go_simp;rfl
    simp only[Act.put,U,Aa,Ab];refine Reg.Ax 1 (v:=?va1) rfl (by kernel_rfl) (by kernel_rfl) (by kernel_rfl) (fun _ _ _ h=>h) (by rfl) (fun w' hS=>?ha1) ?ra1
    case ha1=>go_simp;rfl
    simp only[Act.put,U,Aa,Ab];refine Reg.Ax 2 (v:=?va2) rfl (by kernel_rfl) (by kernel_rfl) (by kernel_rfl) (fun _ _ _ h=>h) (by rfl) (fun w' hS=>?ha2) ?ra2
    case ha2=>go_simp;rfl
    simp only[Act.put,U,Aa,Ab];refine Reg.Ax 3 (v:=?va3) rfl (by kernel_rfl) (by kernel_rfl) (by kernel_rfl) (fun _ _ _ h=>h) (by rfl) (fun w' hS=>?ha3) ?ra3
    case ha3=>have hh:=HC.o w' hS;go_simp;rfl
    simp only[Act.put,U,Aa,Ab];refine Reg.Dr 4 rfl (by kernel_rfl) (by rfl) 81 #[.string ⟨(pl ls i).toArray⟩] (by go_simp) ?_;refine Calls.mono (c1 _) ?_;rintro e w1 ⟨rfl,hb⟩;refine⟨_,rfl,hb,?_⟩;have H1:=I (HB.o.trans (hb.mono (HSZ.o _ HB.o)));clear hb;simp only[Act.put,U,Aa,Ab];refine Reg.Ax 5 (v:=?va5) rfl (by kernel_rfl) (by kernel_rfl) (by kernel_rfl) (fun _ _ _ h=>h) (by rfl) (fun w' hS=>?ha5) ?ra5
    case ha5=>go_simp;rfl
    simp only[Act.put,U,Aa,Ab];refine Reg.Ax 6 (v:=?va6) rfl (by kernel_rfl) (by kernel_rfl) (by kernel_rfl) (fun _ _ _ h=>h) (by rfl) (fun w' hS=>?ha6) ?ra6
    case ha6=>go_simp;rfl
    simp only[Act.put,U,Aa,Ab];refine Reg.DX 7 rfl (by kernel_rfl) (by kernel_rfl) (by kernel_rfl) (fun _ _ _ h=>h) (by rfl) ?_;simp only[Act.put,U,Aa,Ab];refine Reg.DX 8 rfl (by kernel_rfl) (by kernel_rfl) (by kernel_rfl) (fun _ _ _ h=>h) (by rfl) ?_;simp only[Act.put,U,Aa,Ab];refine Reg.DX 9 rfl (by kernel_rfl) (by kernel_rfl) (by kernel_rfl) (fun _ _ _ h=>h) (by rfl) ?_;simp only[Act.put,U,Aa,Ab];refine Reg.DX 10 rfl (by kernel_rfl) (by kernel_rfl) (by kernel_rfl) (fun _ _ _ h=>h) (by rfl) ?_;simp only[Act.put,U,Aa,Ab];refine Reg.DX 11 rfl (by kernel_rfl) (by kernel_rfl) (by kernel_rfl) (fun _ _ _ h=>h) (by rfl) ?_;simp only[Act.put,U,Aa,Ab];refine Reg.DX 12 rfl (by kernel_rfl) (by kernel_rfl) (by kernel_rfl) (fun _ _ _ h=>h) (by rfl) ?_;simp only[Act.put,U,Aa,Ab];refine Reg.DX 13 rfl (by kernel_rfl) (by kernel_rfl) (by kernel_rfl) (fun _ _ _ h=>h) (by rfl) ?_;simp only[Act.put,U,Aa,Ab];refine Reg.DX 14 rfl (by kernel_rfl) (by kernel_rfl) (by kernel_rfl) (fun _ _ _ h=>h) (by rfl) ?_;simp only[Act.put,U,Aa,Ab];refine Reg.DX 15 rfl (by kernel_rfl) (by kernel_rfl) (by kernel_rfl) (fun _ _ _ h=>h) (by rfl) ?_;simp only[Act.put,U,Aa,Ab];refine Reg.Ax 16 (v:=?va16) rfl (by kernel_rfl) (by kernel_rfl) (by kernel_rfl) (fun _ _ _ h=>h) (by rfl) (fun w' hS=>?ha16) ?ra16
    case ha16=>go_simp;rfl
    simp only[Act.put,U,Aa,Ab];refine wpAnyH_done (by kernel_rfl) ?_ _
    go_wp2
    go_ret;exact⟨by rw[E.o];rfl,H1.o⟩
   |true=>
    rw[hx] at c1;have C1:=I c1;have C2:=I c2;clear c1 c2;have HC:=I (fun w' (h:Rd w' B (some ⟨b,o,none⟩) (strs ls))=>SB h him)
    by_cases hy:pl ls i∈ls.take i
    ·obtain⟨z,ez,hz⟩:=CJ hy
     rw[←ez] at C2;have z1:decide (0≤z)=true:=decide_eq_true hz;have E:=I (show Bo ls=false by
      rw[EQ.o,decide_eq_false (fun h=>(hnd.1 (Fj h)).2 hy)];simp)
     clear ez hy hz hx hal hnd him hlen
     go_wp2
     replace HB:=I (below_drewN HB.o 1);replace HR2:=I (HR2.o.drewN 1)
     go_region_held3 (fun w'=>w'.cell? ⟨b,o+i,none⟩=some (.string ⟨(pl ls i).toArray⟩)) (exact HC.o _ HR2.o) ((first
      |(go_at_call 81;refine Calls.mono (C1.o _) ?_;rintro e w1 ⟨rfl,hb⟩;replace HR2:=I (HR2.o.below (hb.mono (Nat.le_trans hB (HSZ.o _ HB.o))));replace HB:=I (HB.o.trans (hb.mono (HSZ.o _ HB.o)));clear hb)
      |(go_at_call 104;refine Calls.mono (C2.o _ HR2.o) ?_;rintro e w2 ⟨rfl,rfl⟩)))
     go_wp2
     go_ret;exact⟨by rw[E.o];rfl,HB.o⟩
    ·obtain⟨z,ez,hz⟩:=Dc hy
     rw[←ez] at C2;have z1:decide (0≤z)=false:=decide_eq_false (by omega);have E:=I (hal.trans hx);have E2:=I (hnd.2 ⟨HD.o,hy⟩);clear ez hy hz hx hal hnd him hlen
     go_wp2
     replace HB:=I (below_drewN HB.o 1);replace HR2:=I (HR2.o.drewN 1)
     go_region_held3 (fun w'=>w'.cell? ⟨b,o+i,none⟩=some (.string ⟨(pl ls i).toArray⟩)) (exact HC.o _ HR2.o) ((first
      |(go_at_call 81;refine Calls.mono (C1.o _) ?_;rintro e w1 ⟨rfl,hb⟩;replace HR2:=I (HR2.o.below (hb.mono (Nat.le_trans hB (HSZ.o _ HB.o))));replace HB:=I (HB.o.trans (hb.mono (HSZ.o _ HB.o)));clear hb)
      |(go_at_call 104;refine Calls.mono (C2.o _ HR2.o) ?_;rintro e w2 ⟨rfl,rfl⟩)))
     go_wp2
     go_roundw
     case rel=>exact⟨i+1,by omega,by go_num,E.o,E2.o,HB.o⟩
     case measure=>simp [intOf];omega
  ·have e1:¬(i:Int)<(n:Int):=by omega
   have hiP:ls.length≤i:=by have:=EN.o;omega
   have E:=I (show Bo ls=true by
    have h:=HD.o;rw[List.take_of_length_le hiP] at h;rw[EQ.o,CG hiP HN.o,decide_eq_true h];rfl)
   by_cases q1:1≤n
   ·have t1:decide ((1:Int)≤(n:Int))=true:=by simp;omega
    by_cases q2:n≤6
    ·have t2:decide ((n:Int)≤6)=true:=by simp;omega
     have E2:=I (show(Bo ls&&(decide (1≤n)&&decide (n≤6)))=true by rw[E.o,decide_eq_true q1,decide_eq_true q2];rfl);clear q1 q2
     go_wp2
     go_ret;exact⟨by rw[E2.o];rfl,HB.o⟩
    ·have t2:decide ((n:Int)≤6)=false:=by simp;omega
     have E2:=I (show(Bo ls&&(decide (1≤n)&&decide (n≤6)))=false by rw[decide_eq_false q2];simp);clear q1 q2
     go_wp2
     go_ret;exact⟨by rw[E2.o];rfl,HB.o⟩
   ·have t1:decide ((1:Int)≤(n:Int))=false:=by simp;omega
    have E2:=I (show(Bo ls&&(decide (1≤n)&&decide (n≤6)))=false by rw[decide_eq_false q1];simp);clear q1
    go_wp2
    go_ret;exact⟨by rw[E2.o];rfl,HB.o⟩
end Rt
end
section
namespace Rt
open Go.RowKit Af Nm
theorem SC (p:Pa) (T:Tp) (v u:Value) (B:Nat) (w:World) (hs:Sm T) (hp:p.v.length≤3000) (hv:TpV w B v T) (hu:PaV w B u p) (hB:B≤w.heap.size) (hq:Cl T.R (p.f,p.t)=true) (h4:p.v.length≤4) :
  Calls Tryz.prog 154 #[v,u] w fun e w'=>e = .returned (.bool (viaB T.R p))∧Below w.heap.size w w':=by
 obtain⟨v1,v2,v3,rfl,⟨A1,d1,rfl,hc1,r1⟩,⟨A2,d2,rfl,hc2,r2⟩,⟨A3,d3,rfl,hc3,r3⟩⟩:=hv;obtain⟨u1,rfl,⟨A5,d5,rfl,hc5,r5⟩⟩:=hu;have hb1:=(Below.refl w.heap.size w).alloc (Nat.le_refl _) (.cells #[.slice A1 T.R.length d1,.slice A2 T.K.length d2,.slice A3 T.P.length d3] 60);have hb2:=hb1.alloc hb1.size (.cells #[.string ⟨p.f.toArray⟩,.string ⟨p.t.toArray⟩,.slice A5 p.v.length d5] 273);have HB:=I hb2;have HK2:=I (Blk.new (w.alloc (.cells #[.slice A1 T.R.length d1,.slice A2 T.K.length d2,.slice A3 T.P.length d3] 60)) 273 #[.string ⟨p.f.toArray⟩,.string ⟨p.t.toArray⟩,.slice A5 p.v.length d5]);have HK1:=I ((Blk.new w 60 #[.slice A1 T.R.length d1,.slice A2 T.K.length d2,.slice A3 T.P.length d3]).alloc (.cells #[.string ⟨p.f.toArray⟩,.string ⟨p.t.toArray⟩,.slice A5 p.v.length d5] 273));have HR:=I (r1.below (hb2.mono hB));have HV:=I (r5.below (hb2.mono hB));have PR:=I (fun x w1 (h:Rd w1 B A1 (strs T.R))=>DJ T.R A1 d1 B x w1 (by have:=hs.r;omega) h);have PV:=I (fun(i:Nat) (hi:i<p.v.length) w1 (h:Rd w1 B A5 (strs p.v))=>DJ (p.v.take i) A5 d5 B (pl p.v i) w1 (by simp;omega) (Im h (by omega)));rw[Cl,Bool.and_eq_true,Bool.and_eq_true,decide_eq_true_eq,decide_eq_true_eq,decide_eq_true_eq] at hq;obtain⟨hft,hf,ht⟩:=hq;simp only at hft hf ht;have t1:(p.f==p.t)=false:=by simpa using hft
 obtain⟨z1,ez1,hz1⟩:=CJ hf;obtain⟨z2,ez2,hz2⟩:=CJ ht;have c1:=PR.o p.f;have c2:=PR.o p.t;rw[←ez1] at c1;rw[←ez2] at c2;have s1:decide (z1<0)=false:=decide_eq_false (by omega);have s2:decide (z2<0)=false:=decide_eq_false (by omega);have EQ:=I (show viaB T.R p=(p.v.all (onB T.R p)&&decide p.v.Nodup) by rw[viaB,decide_eq_true h4];rfl);obtain⟨n,en⟩:∃n,n=p.v.length:=⟨_,rfl⟩;obtain⟨m,em⟩:∃m,m=T.R.length:=⟨_,rfl⟩;clear hb1 hb2;rw[←en] at HB HK1 HK2 HR HV hc5 h4 hp;rw[←em] at HB HK1 HK2 HR HV PR c1 c2;rw[←en,←em];have s3:decide (4<(n:Int))=false:=by simp;omega
 have EN:=I en;clear en em ez1 ez2 hz1 hz2 hft hf ht r1 r2 r3 r5 hB hs hc1 hc2 hc3 h4;have C1:=I c1;have C2:=I c2;clear c1 c2;go_enter Tryz.func154,Tryz.ntmps154
 go_wp2_with (first
  |(go_at_call 104;with_reducible refine Calls.mono (C1.o _ HR.o) ?_;rintro e w1 ⟨rfl,rfl⟩;clear C1)
  |(go_at_call 104;with_reducible refine Calls.mono (C2.o _ HR.o) ?_;rintro e w1 ⟨rfl,rfl⟩;clear C2))
 obtain⟨W,eW⟩:∃W,W=(w.alloc (.cells #[.slice A1 m d1,.slice A2 T.K.length d2,.slice A3 T.P.length d3] 60)).alloc (.cells #[.string ⟨p.f.toArray⟩,.string ⟨p.t.toArray⟩,.slice A5 n d5] 273):=⟨_,rfl⟩;rw[←eW] at HB HK1 HK2 HR HV⊢;clear eW;have hsz:(w.alloc (.cells #[.slice A1 m d1,.slice A2 T.K.length d2,.slice A3 T.P.length d3] 60)).heap.size=w.heap.size+1:=by simp
 rw[hsz] at HK2;clear hsz
 go_loopw [5] (fun iv wr=>∃i:Nat,i≤n∧iv = .int .i64 (i:Int)∧(p.v.take i).all (onB T.R p)=true∧(p.v.take i).Nodup∧AM W wr) (fun iv _=>n - (intOf iv).toNat)
 case atStart=>exact⟨0,Nat.zero_le _,rfl,by simp,by simp,AM.refl _⟩
 case round=>
  obtain⟨i,hi,rfl,hn,hnd,hd⟩:=hrel;have HN:=I hn;clear hn;have HND:=I hnd;clear hnd;have HRW:=I (show Rd wr B A1 (strs T.R) by obtain⟨q,rfl⟩:=hd;exact HR.o.drewN q);have HVW:=I (show Rd wr B A5 (strs p.v) by obtain⟨q,rfl⟩:=hd;exact HV.o.drewN q);have k0:wr.cell? ⟨w.heap.size,0,none⟩=some (.slice A1 m d1):=by obtain⟨q,rfl⟩:=hd;exact HK1.o.cell 0
  have k1:wr.cell? ⟨w.heap.size+1,0,none⟩=some (.string ⟨p.f.toArray⟩):=by obtain⟨q,rfl⟩:=hd;exact HK2.o.cell 0
  have k2:wr.cell? ⟨w.heap.size+1,1,none⟩=some (.string ⟨p.t.toArray⟩):=by obtain⟨q,rfl⟩:=hd;exact HK2.o.cell 1
  have k3:wr.cell? ⟨w.heap.size+1,2,none⟩=some (.slice A5 n d5):=by obtain⟨q,rfl⟩:=hd;exact HK2.o.cell 2
  have HDR:=I hd;clear hd
  by_cases hlt:i<n
  ·have e1:(i:Int)<(n:Int):=by omega
   have e2:(0:Int)≤(i:Int):=by omega
   have e3:(i:Int)≤(d5:Int):=by omega
   have him:i<p.v.length:=by rw[←EN.o];exact hlt
   have hlen:(p.v.take i).length=i:=by simp;omega
   have C4:=I (PV.o i him);rw[hlen] at C4;have hal:=all_succ (p:=onB T.R p) him;rw[HN.o,Bool.true_and,←Ej him] at hal;have haf:=all_false (p:=onB T.R p) him;rw[←Ej him] at haf;have hnd:=CS him;rw[←Ej him] at hnd;obtain⟨b,o,eA,_,h1⟩:=Ek HVW.o him;subst eA;obtain⟨x,ex⟩:∃x,x=pl p.v i:=⟨_,rfl⟩;rw[←ex] at hal haf hnd h1 C4;have C3:=I (PR.o x);have HAL:=I hal;have HAF:=I haf;have HNDS:=I hnd;clear ex him hlen hal haf hnd
   by_cases q1:x∈T.R
   ·obtain⟨y1,ey1,hy1⟩:=CJ q1
    rw[←ey1] at C3;have s4:decide (y1<0)=false:=decide_eq_false (by omega);have Q1:=I q1;clear ey1 hy1 q1
    by_cases q2:x∈p.v.take i
    ·obtain⟨y2,ey2,hy2⟩:=CJ q2
     rw[←ey2] at C4;have s5:decide (0≤y2)=true:=decide_eq_true hy2;have E:=I (show viaB T.R p=false by rw[EQ.o,decide_eq_false (fun h=>(HNDS.o.1 (Fj h)).2 q2)];simp);clear ey2 hy2 q2
     go_wp2
     go_quiet (first
      |(go_at_call 104;with_reducible refine Calls.mono (C3.o _ (HRW.o.drewN _)) ?_;rintro e w9 ⟨rfl,rfl⟩;exact⟨rfl,_,rfl⟩)
      |(go_at_call 104;with_reducible refine Calls.mono (C4.o _ (HVW.o.drewN _)) ?_;rintro e w9 ⟨rfl,rfl⟩;exact⟨rfl,_,rfl⟩))
     go_wp2
     go_ret;exact⟨by rw[E.o];rfl,HB.o.trans ((HDR.o.trans ⟨_,rfl⟩).below.mono HB.o.size)⟩
    ·obtain⟨y2,ey2,hy2⟩:=Dc q2
     rw[←ey2] at C4;have s5:decide (0≤y2)=false:=decide_eq_false (by omega);have E2:=I (HNDS.o.2 ⟨HND.o,q2⟩);clear ey2 hy2 q2
     by_cases q3:x=p.f
     ·have t3:(x==p.f)=true:=by simpa using q3
      have E:=I (show viaB T.R p=false by rw[EQ.o,HAF.o (by rw[onB,decide_eq_false (fun h=>h q3)];rfl)];rfl);clear q3
      go_wp2
      go_quiet (first
       |(go_at_call 104;with_reducible refine Calls.mono (C3.o _ (HRW.o.drewN _)) ?_;rintro e w9 ⟨rfl,rfl⟩;exact⟨rfl,_,rfl⟩)
       |(go_at_call 104;with_reducible refine Calls.mono (C4.o _ (HVW.o.drewN _)) ?_;rintro e w9 ⟨rfl,rfl⟩;exact⟨rfl,_,rfl⟩))
      go_wp2
      go_ret;exact⟨by rw[E.o];rfl,HB.o.trans ((HDR.o.trans ⟨_,rfl⟩).below.mono HB.o.size)⟩
     ·have t3:(x==p.f)=false:=by simpa using q3
      by_cases q4:x=p.t
      ·have t4:(x==p.t)=true:=by simpa using q4
       have E:=I (show viaB T.R p=false by rw[EQ.o,HAF.o (by rw[onB,decide_eq_false (p:=x≠p.t) (fun h=>h q4)];simp)];rfl);clear q3 q4
       go_wp2
       go_quiet (first
        |(go_at_call 104;with_reducible refine Calls.mono (C3.o _ (HRW.o.drewN _)) ?_;rintro e w9 ⟨rfl,rfl⟩;exact⟨rfl,_,rfl⟩)
        |(go_at_call 104;with_reducible refine Calls.mono (C4.o _ (HVW.o.drewN _)) ?_;rintro e w9 ⟨rfl,rfl⟩;exact⟨rfl,_,rfl⟩))
       go_wp2
       go_ret;exact⟨by rw[E.o];rfl,HB.o.trans ((HDR.o.trans ⟨_,rfl⟩).below.mono HB.o.size)⟩
      ·have t4:(x==p.t)=false:=by simpa using q4
       have E:=I (HAL.o.trans (show onB T.R p x=true by rw[onB,decide_eq_true q3,decide_eq_true q4,decide_eq_true Q1.o];rfl));clear q3 q4
       go_wp2
       go_quiet (first
        |(go_at_call 104;with_reducible refine Calls.mono (C3.o _ (HRW.o.drewN _)) ?_;rintro e w9 ⟨rfl,rfl⟩;exact⟨rfl,_,rfl⟩)
        |(go_at_call 104;with_reducible refine Calls.mono (C4.o _ (HVW.o.drewN _)) ?_;rintro e w9 ⟨rfl,rfl⟩;exact⟨rfl,_,rfl⟩))
       go_wp2
       go_roundw
       case rel=>exact⟨i+1,by omega,by go_num,E.o,E2.o,HDR.o.trans ⟨_,rfl⟩⟩
       case measure=>simp [intOf];omega
   ·obtain⟨y1,ey1,hy1⟩:=Dc q1
    rw[←ey1] at C3;have s4:decide (y1<0)=true:=decide_eq_true hy1;have E:=I (show viaB T.R p=false by rw[EQ.o,HAF.o (by rw[onB,decide_eq_false q1];simp)];rfl);clear ey1 hy1 q1
    go_wp2
    go_quiet (first
     |(go_at_call 104;with_reducible refine Calls.mono (C3.o _ (HRW.o.drewN _)) ?_;rintro e w9 ⟨rfl,rfl⟩;exact⟨rfl,_,rfl⟩))
    go_wp2
    go_ret;exact⟨by rw[E.o];rfl,HB.o.trans ((HDR.o.trans ⟨_,rfl⟩).below.mono HB.o.size)⟩
  ·have e1:¬(i:Int)<(n:Int):=by omega
   have hiP:p.v.length≤i:=by have:=EN.o;omega
   have E:=I (show viaB T.R p=true by
    have h:=HND.o;rw[List.take_of_length_le hiP] at h;rw[EQ.o,CG hiP HN.o,decide_eq_true h];rfl)
   go_wp2
   go_ret;exact⟨by rw[E.o];rfl,HB.o.trans (HDR.o.below.mono HB.o.size)⟩
end Rt
end
section
namespace Rt
open Go.RowKit Af Nm
theorem WU {R:List L} {p:Pa} (h:Cl R (p.f,p.t)=true):Ed R p=viaB R p:=by rw[Ed,h];rfl
theorem Yz {R:List L} {p:Pa} (h:p.f∉R):Ed R p=false:=by rw[Ed,Cl];simp [h]
theorem YA {R:List L} {p:Pa} (h:p.t∉R):Ed R p=false:=by rw[Ed,Cl];simp [h]
theorem YB {R:List L} {p:Pa} (h:p.f=p.t):Ed R p=false:=by rw[Ed,Cl];simp [h]
theorem YC {R:List L} {p:Pa} (h:¬p.v.length≤4):Ed R p=false:=by rw[Ed,viaB,decide_eq_false h];simp
theorem SD (p:Pa) (T:Tp) (v u:Value) (B:Nat) (w:World) (hs:Sm T) (hp:p.v.length≤3000) (hv:TpV w B v T) (hu:PaV w B u p) (hB:B≤w.heap.size) :
  Calls Tryz.prog 154 #[v,u] w fun e w'=>e = .returned (.bool (Ed T.R p))∧Below w.heap.size w w':=by
 by_cases hgood:Cl T.R (p.f,p.t)=true∧p.v.length≤4
 ·rw[WU hgood.1]
  exact SC p T v u B w hs hp hv hu hB hgood.1 hgood.2
 obtain⟨v1,v2,v3,rfl,⟨A1,d1,rfl,hc1,r1⟩,⟨A2,d2,rfl,hc2,r2⟩,⟨A3,d3,rfl,hc3,r3⟩⟩:=hv;obtain⟨u1,rfl,⟨A5,d5,rfl,hc5,r5⟩⟩:=hu;have hb1:=(Below.refl w.heap.size w).alloc (Nat.le_refl _) (.cells #[.slice A1 T.R.length d1,.slice A2 T.K.length d2,.slice A3 T.P.length d3] 60);have hb2:=hb1.alloc hb1.size (.cells #[.string ⟨p.f.toArray⟩,.string ⟨p.t.toArray⟩,.slice A5 p.v.length d5] 273);have HB:=I hb2;have HR:=I (r1.below (hb2.mono hB));have PR:=I (fun x w1 (h:Rd w1 B A1 (strs T.R))=>DJ T.R A1 d1 B x w1 (by have:=hs.r;omega) h);have c1:=PR.o p.f;have c2:=PR.o p.t;have EA:=I (@Yz T.R p);have EB:=I (@YA T.R p);have EC:=I (@YB T.R p);have ED:=I (@YC T.R p);have HG:=I (show ¬(p.f∈T.R∧p.t∈T.R∧p.f≠p.t∧p.v.length≤4) from fun h=>hgood ⟨by rw[Cl];simp [h.1,h.2.1,h.2.2.1],h.2.2.2⟩);obtain⟨n,en⟩:∃n,n=p.v.length:=⟨_,rfl⟩;obtain⟨m,em⟩:∃m,m=T.R.length:=⟨_,rfl⟩;clear hb1 hb2 hgood;rw[←en] at HB HR ED HG hp;rw[←em] at HB HR PR c1 c2;rw[←en,←em];clear en em r1 r2 r3 r5 hB hs hc1 hc2 hc3 hc5
 by_cases q1:p.f∈T.R
 ·obtain⟨z1,ez1,hz1⟩:=CJ q1
  rw[←ez1] at c1;have s1:decide (z1<0)=false:=decide_eq_false (by omega);have C1:=I c1;clear c1 ez1 hz1
  by_cases q2:p.t∈T.R
  ·obtain⟨z2,ez2,hz2⟩:=CJ q2
   rw[←ez2] at c2;have s2:decide (z2<0)=false:=decide_eq_false (by omega);have C2:=I c2;clear c2 ez2 hz2
   by_cases q3:p.f=p.t
   ·have t3:(p.f==p.t)=true:=by simpa using q3
    have E:=I (EC.o q3);clear q1 q2 q3;go_enter Tryz.func154,Tryz.ntmps154
    go_wp2_with (first
     |(go_at_call 104;with_reducible refine Calls.mono (C1.o _ HR.o) ?_;rintro e w1 ⟨rfl,rfl⟩;clear C1)
     |(go_at_call 104;with_reducible refine Calls.mono (C2.o _ HR.o) ?_;rintro e w1 ⟨rfl,rfl⟩;clear C2))
    go_ret;exact⟨by rw[E.o];rfl,HB.o⟩
   ·have t3:(p.f==p.t)=false:=by simpa using q3
    have h4:¬n≤4:=fun h=>HG.o ⟨q1,q2,q3,h⟩
    have s3:decide (4<(n:Int))=true:=by simp;omega
    have E:=I (ED.o h4);clear q1 q2 q3 h4;go_enter Tryz.func154,Tryz.ntmps154
    go_wp2_with (first
     |(go_at_call 104;with_reducible refine Calls.mono (C1.o _ HR.o) ?_;rintro e w1 ⟨rfl,rfl⟩;clear C1)
     |(go_at_call 104;with_reducible refine Calls.mono (C2.o _ HR.o) ?_;rintro e w1 ⟨rfl,rfl⟩;clear C2))
    go_ret;exact⟨by rw[E.o];rfl,HB.o⟩
  ·obtain⟨z2,ez2,hz2⟩:=Dc q2
   rw[←ez2] at c2;have s2:decide (z2<0)=true:=decide_eq_true hz2;have C2:=I c2;clear c2 ez2 hz2;have E:=I (EB.o q2);clear q1 q2;go_enter Tryz.func154,Tryz.ntmps154
   go_wp2_with (first
    |(go_at_call 104;with_reducible refine Calls.mono (C1.o _ HR.o) ?_;rintro e w1 ⟨rfl,rfl⟩;clear C1)
    |(go_at_call 104;with_reducible refine Calls.mono (C2.o _ HR.o) ?_;rintro e w1 ⟨rfl,rfl⟩;clear C2))
   go_ret;exact⟨by rw[E.o];rfl,HB.o⟩
 ·obtain⟨z1,ez1,hz1⟩:=Dc q1
  rw[←ez1] at c1;have s1:decide (z1<0)=true:=decide_eq_true hz1;have C1:=I c1;clear c1 c2 ez1 hz1;have E:=I (EA.o q1);clear q1;go_enter Tryz.func154,Tryz.ntmps154
  go_wp2_with (go_at_call 104;with_reducible refine Calls.mono (C1.o _ HR.o) ?_;rintro e w1 ⟨rfl,rfl⟩;clear C1)
  go_ret;exact⟨by rw[E.o];rfl,HB.o⟩
end Rt
end
section
namespace Rt
open Go.RowKit Af Nm
theorem isr_k {T:Tp} {i:Nat} (hi:i<T.K.length) (h:Cl T.R (kl T.K i)=false):isT T=false:=by
 rw[Ft hi] at h;exact VG (by rw[Cj,all_false hi h];rfl)
theorem YD {T:Tp} {i k:Nat} (hi:i<T.K.length) (hk:k<i) (h:kl T.K k=kl T.K i):isT T=false:=by
 refine VG ?_;rw[Cj,decide_eq_false,Bool.and_false];intro hn;rw[List.nodup_iff_pairwise_ne,List.pairwise_iff_getElem] at hn;rw[Ft hi,Ft (by omega)] at h;exact hn k i (by omega) hi hk h
theorem Vd {T:Tp} (h:Fz T.P T.R=false):isT T=false:=by rw[isT,h];simp
theorem isr_p {T:Tp} {i:Nat} (hi:i<T.P.length) (h:Ed T.R (al T.P i)=false):isT T=false:=by
 rw[Jh hi] at h;exact Vd (by rw[JV,all_false hi h];rfl)
theorem Ks {P:List Pa} {i:Nat} (hi:i<P.length):(DD P)[i]'(by rw[Bp];exact hi)=((al P i).f,(al P i).t):=by
 simp [DD,Jh hi]
theorem YE {T:Tp} {i k:Nat} (hi:i<T.P.length) (hk:k<i) (h1:(al T.P k).f=(al T.P i).f) (h2:(al T.P k).t=(al T.P i).t):isT T=false:=by
 refine Vd ?_;rw[JV,decide_eq_false,Bool.and_false];intro hn;rw[List.nodup_iff_pairwise_ne,List.pairwise_iff_getElem] at hn;refine hn k i (by rw[Bp];omega) (by rw[Bp];exact hi) hk ?_;rw[Ks hi,Ks (by omega),h1,h2]
theorem WV {T:Tp} (h:(Bo T.R&&(decide (1≤T.R.length)&&decide (T.R.length≤6)))=true) (h3:T.K.length≤20) (h4:T.P.length≤8) (h5:T.K.all (Cl T.R)=true) (h6:T.K.Nodup) (h7:T.P.all (Ed T.R)=true) (h8:(DD T.P).Nodup):isT T=true:=by
 rw[Bool.and_eq_true,Bool.and_eq_true] at h;rw[isT,h.1,h.2.1,h.2.2,decide_eq_true h3,decide_eq_true h4,Cj,h5,decide_eq_true h6,JV,h7,decide_eq_true h8];rfl
theorem isr_a {T:Tp} (h:(Bo T.R&&(decide (1≤T.R.length)&&decide (T.R.length≤6)))=false):isT T=false:=by
 rw[isT];cases h1:Bo T.R
 ·simp
 ·rw[h1,Bool.true_and] at h
  rw[h];rfl
theorem Jb {α:Type} {l:List α} {i:Nat} (hi:i<l.length) (h:∀k (hk:k<i),l[k]'(by omega)≠l[i]):l[i]∉l.take i:=by
 intro hm;obtain⟨k,hk,e⟩:=List.getElem_of_mem hm;simp only[List.length_take] at hk;rw[List.getElem_take] at e;exact h k (by omega) e
theorem YF {K:List Pr} {i:Nat} (hi:i<K.length) (h:(K.take i).Nodup) (hn:∀q,q<i→kl K q≠kl K i):(K.take (i+1)).Nodup:=by
 rw[CS hi];refine⟨h,Jb hi fun k hk e=>hn k hk ?_⟩;rw[Ft hi,Ft (by omega)];exact e
theorem YG {P:List Pa} {i:Nat} (hi:i<P.length) (h:((DD P).take i).Nodup) (hn:∀q,q<i→¬((al P q).f=(al P i).f∧(al P q).t=(al P i).t)):((DD P).take (i+1)).Nodup:=by
 have hi':i<(DD P).length:=by rw[Bp];exact hi
 rw[CS hi'];refine⟨h,Jb hi' fun k hk e=>hn k hk ?_⟩;rw[Ks hi,Ks (by omega)] at e;exact Prod.mk.inj e
theorem Uq (T:Tp) (v:Value) (B:Nat) (w:World) (hs:Sm T) (hv:TpV w B v T) (hB:B≤w.heap.size) :
  Calls Tryz.prog 103 #[v] w fun e w'=>e = .returned (.bool (isT T))∧Below w.heap.size w w':=by
 have hv':=hv;obtain⟨v1,v2,v3,rfl,⟨A1,d1,rfl,hc1,r1⟩,⟨A2,d2,rfl,hc2,r2⟩,⟨A3,d3,rfl,hc3,r3⟩⟩:=hv';obtain⟨N,eN⟩:∃N,N=w.heap.size:=⟨_,rfl⟩;have hb:=(Below.refl w.heap.size w).alloc (Nat.le_refl _) (.cells #[.slice A1 T.R.length d1,.slice A2 T.K.length d2,.slice A3 T.P.length d3] 60);have HB:=I hb;have HK:=I (Blk.new w 60 #[.slice A1 T.R.length d1,.slice A2 T.K.length d2,.slice A3 T.P.length d3]);have c1:=MR T.R A1 d1 B _ (by have:=hs.r;omega) hc1 (r1.below (hb.mono hB)) (Nat.le_trans hB hb.size) (fun i hi=>by have:=hs.rt _ (Jn hi);omega);have KB:=I (fun w1 (h:Below N w w1)=>r2.below (h.mono (by omega)));have AB:=I (fun w1 (h:Below N w w1)=>r3.below (h.mono (by omega)));have PL:=I (fun x w1 (h:Below N w w1)=>DJ T.R A1 d1 B x w1 (by have:=hs.r;omega) (r1.below (h.mono (by omega))));have RP:=I (fun(i:Nat) (hi:i<T.P.length) u w1 (h:Below N w w1) (hu:PaV w1 B u (al T.P i))=>SD (al T.P i) T _ u B w1 hs (hs.v _ (UB hi)) (hv.below (h.mono (by omega))) hu (Nat.le_trans hB (by have:=h.size;omega)));rw[←eN] at HB;have EN0:=I eN;have hBN:=I (show B≤N by omega);rw[←eN];have HSZ:=I (show ∀w1:World,Below N w w1→N≤w1.heap.size from fun w1 h=>by have:=h.size;have:=EN0.o;omega);have s2:=hs.k;have s3:=hs.p;have IA:=I (@isr_a T);have IK:=I (fun i=>@isr_k T i);have IK2:=I (fun i k=>@YD T i k);have IP:=I (fun i=>@isr_p T i);have IP2:=I (fun i k=>@YE T i k);have IY:=I (@WV T);have IC:=I (@Xl T);have ID:=I (@Xm T);obtain⟨Q,eQ⟩:∃Q,Q=(Bo T.R&&(decide (1≤T.R.length)&&decide (T.R.length≤6))):=⟨_,rfl⟩;rw[←eQ] at c1 IA IY;obtain⟨n,en⟩:∃n,n=T.R.length:=⟨_,rfl⟩;obtain⟨m,em⟩:∃m,m=T.K.length:=⟨_,rfl⟩;obtain⟨k,ek⟩:∃k,k=T.P.length:=⟨_,rfl⟩;clear hb hv;rw[←en,←em,←ek] at HK HB c1 RP;rw[←en] at PL;rw[←em] at s2 IC IY;rw[←ek] at s3 ID IY;rw[←en,←em,←ek];have EM:=I em;have EK:=I ek;clear en em ek eQ eN hs r1 r2 r3 hc1 hc2 hc3 hB;cases Q with
 |false=>
  have E:=I (IA.o rfl);go_enter Tryz.func103,Tryz.ntmps103
  go_wp2_with (go_at_call 153;refine Calls.mono c1 ?_;rintro e w1 ⟨rfl,hb⟩;clear c1;replace HB:=I (HB.o.trans (hb.mono (HSZ.o _ HB.o)));clear hb)
  go_ret;exact⟨by rw[E.o];rfl,HB.o⟩
 |true=>
  by_cases q1:m≤20
  ·have t1:decide (20<(m:Int))=false:=by simp;omega
   by_cases q2:k≤8
   ·have t2:decide (8<(k:Int))=false:=by simp;omega
    have IY2:=I (IY.o rfl q1 q2);go_enter Tryz.func103,Tryz.ntmps103
    go_wp2_with (go_at_call 153;refine Calls.mono c1 ?_;rintro e w1 ⟨rfl,hb⟩;clear c1;replace HK:=I (HK.o.below hb);replace HB:=I (HB.o.trans (hb.mono (HSZ.o _ HB.o)));clear hb;have k0:=HK.o.cell 0;have k1:=HK.o.cell 1;have k2:=HK.o.cell 2;simp only[List.getElem?_toArray,List.getElem?_cons_zero,List.getElem?_cons_succ] at k0 k1 k2)
    clear IA IC ID IY;obtain⟨W1,eW1⟩:∃W1,W1=w1:=⟨_,rfl⟩;rw[←eW1] at HK HB k0 k1 k2⊢;clear eW1
    go_loopw [3] (fun iv wr=>∃i:Nat,i≤m∧iv = .int .i64 (i:Int)∧(T.K.take i).all (Cl T.R)=true∧(T.K.take i).Nodup∧Below W1.heap.size W1 wr) (fun iv _=>m - (intOf iv).toNat)
    case atStart=>exact⟨0,Nat.zero_le _,rfl,by simp,by simp,Below.refl _ _⟩
    case round=>
     obtain⟨i,hi,rfl,hn,hnd,hbw⟩:=hrel;have HN:=I hn;clear hn;have HND:=I hnd;clear hnd;have HBW:=I hbw;clear hbw;have HBN:=I (HB.o.trans (HBW.o.mono (HSZ.o _ HB.o)));clear k0 k1 k2;have HKr:=I (HK.o.below HBW.o);have k0:=HKr.o.cell 0;have k1:=HKr.o.cell 1;have k2:=HKr.o.cell 2;simp only[List.getElem?_toArray,List.getElem?_cons_zero,List.getElem?_cons_succ] at k0 k1 k2
     by_cases hlt:i<m
     ·have e1:(i:Int)<(m:Int):=by omega
      have e2:(0:Int)≤(i:Int):=by omega
      have him:i<T.K.length:=by rw[←EM.o];exact hlt
      have hal:=all_succ (p:=Cl T.R) him;rw[HN.o,Bool.true_and,←Ft him] at hal;have hnd:=YF him HND.o;have ik:=IK.o i him;have IK3:=I (fun q=>IK2.o i q him);obtain⟨b,o,eA,_,h1,h2⟩:=KJ (KB.o _ HBN.o) him;have KBB:=I (fun w1 (h:Below N w w1) j (hj:j<i)=>KJ (KB.o w1 h) (Nat.lt_trans hj him));subst eA;obtain⟨x,ex⟩:∃x,x=kl T.K i:=⟨_,rfl⟩;rw[←ex] at hnd;rw[←ex] at hal ik h1 h2 IK3;have HALL:=I hal;have HNS:=I hnd;have IKI:=I ik;have C3:=I (PL.o x.1);have C4:=I (PL.o x.2);clear ex him hal hnd ik;have HA:=I (Blk.new wr 196 #[.string ⟨x.1.toArray⟩,.string ⟨x.2.toArray⟩]);have HAB:=I ((Below.refl wr.heap.size wr).alloc (Nat.le_refl _) (.cells #[.string ⟨x.1.toArray⟩,.string ⟨x.2.toArray⟩] 196));have H2:=I (HBN.o.trans (HAB.o.mono (HSZ.o _ HBN.o)));have H3:=I (HBW.o.trans (HAB.o.mono HBW.o.size));have HKA:=HKr.o.below HAB.o;have ka:=HKA.cell 0;simp only[List.getElem?_toArray,List.getElem?_cons_zero] at ka;clear HKA
      by_cases g1:x.1∈T.R
      ·obtain⟨z1,ez1,hz1⟩:=CJ g1
       rw[←ez1] at C3;have s4:decide (z1<0)=false:=decide_eq_false (by omega)
       by_cases g2:x.2∈T.R
       ·obtain⟨z2,ez2,hz2⟩:=CJ g2
        rw[←ez2] at C4;have s5:decide (z2<0)=false:=decide_eq_false (by omega)
        by_cases g3:x.1=x.2
        ·have t3:(x.1==x.2)=true:=by simpa using g3
         have E:=I (IKI.o (by rw[Cl,decide_eq_false (fun h=>h g3)];rfl));clear g1 g2 g3 ez1 ez2 hz1 hz2
         go_wp2_with (first
         |(go_at_call 104;with_reducible refine Calls.mono (C3.o _ H2.o) ?_;rintro e w9 ⟨rfl,rfl⟩;clear C3)
         |(go_at_call 104;with_reducible refine Calls.mono (C4.o _ H2.o) ?_;rintro e w9 ⟨rfl,rfl⟩;clear C4))
         go_ret;exact⟨by rw[E.o];rfl,H2.o⟩
        ·have t3:(x.1==x.2)=false:=by simpa using g3
         have E:=I (HALL.o.trans (show Cl T.R x=true by rw[Cl,decide_eq_true g1,decide_eq_true g2,decide_eq_true g3];rfl));clear g1 g2 g3 ez1 ez2 hz1 hz2
         go_wp2_with (first
         |(go_at_call 104;with_reducible refine Calls.mono (C3.o _ H2.o) ?_;rintro e w9 ⟨rfl,rfl⟩;clear C3)
         |(go_at_call 104;with_reducible refine Calls.mono (C4.o _ H2.o) ?_;rintro e w9 ⟨rfl,rfl⟩;clear C4))
         obtain⟨W2,eW2⟩:∃W2,W2=wr.alloc (.cells #[.string ⟨x.1.toArray⟩,.string ⟨x.2.toArray⟩] 196):=⟨_,rfl⟩;rw[←eW2] at HA HAB H2 H3⊢;clear eW2;have HKw:=I (HKr.o.below HAB.o);obtain⟨W0,eW0⟩:∃W0,W0=wr:=⟨_,rfl⟩;rw[←eW0] at HA⊢;clear eW0;clear k0 k1 k2 ka h1 h2
         go_loopw [5] (fun jv wq=>∃j:Nat,j≤i∧jv = .int .i64 (j:Int)∧(∀q,q<j→kl T.K q≠x)∧AM W2 wq) (fun jv _=>i - (intOf jv).toNat)
         case atStart=>exact⟨0,Nat.zero_le _,rfl,fun q hq=>absurd hq (Nat.not_lt_zero q),AM.refl _⟩
         case round=>
          obtain⟨j,hj,rfl,hnq,hd⟩:=hrel;have HNQ:=I hnq;clear hnq;have k0:wr.cell? ⟨w.heap.size,0,none⟩=some (.slice A1 n d1):=by obtain⟨q,rfl⟩:=hd;exact HKw.o.cell 0
          have k1:wr.cell? ⟨w.heap.size,1,none⟩=some (.slice (some ⟨b,o,none⟩) m d2):=by obtain⟨q,rfl⟩:=hd;exact HKw.o.cell 1
          have y0:wr.cell? ⟨W0.heap.size,0,none⟩=some (.string ⟨x.1.toArray⟩):=by obtain⟨q,rfl⟩:=hd;exact HA.o.cell 0
          have y1:wr.cell? ⟨W0.heap.size,1,none⟩=some (.string ⟨x.2.toArray⟩):=by obtain⟨q,rfl⟩:=hd;exact HA.o.cell 1
          have HDB:=I (H2.o.trans (hd.below.mono (HSZ.o _ H2.o)));have HDB3:=I (H3.o.trans (hd.below.mono H3.o.size));have HDR:=I hd;clear hd
          by_cases hlj:j<i
          ·have f1:(j:Int)<(i:Int):=by omega
           have f2:(0:Int)≤(j:Int):=by omega
           have f3:(j:Int)<(m:Int):=by omega
           obtain⟨b',o',eA,_,h1,h2⟩:=KBB.o _ HDB.o j hlj;injection eA with eA;injection eA with eb eo;subst eb;subst eo
           by_cases hx:kl T.K j=x
           ·have t4:=Qs (kl T.K j) x hx
            have E2:=I (IK3.o j hlj hx);clear hx
            go_wp2
            go_quiet (fail)
            go_wp2
            go_ret;exact⟨by rw[E2.o];rfl,below_drewN HDB.o _⟩
           ·have t4:=UC (kl T.K j) x hx
            have HX:=I hx;clear hx
            go_wp2
            go_quiet (fail)
            go_wp2
            go_roundw
            case rel=>exact⟨j+1,by omega,by go_num,fun q hq=>by
             by_cases e:q=j
             ·rw[e];exact HX.o
             ·exact HNQ.o q (by omega),HDR.o.trans ⟨_,rfl⟩⟩
            case measure=>simp [intOf];omega
          ·have f1:¬(j:Int)<(i:Int):=by omega
           have E2:=I (HNS.o fun q hq=>HNQ.o q (by omega))
           go_wp2
           go_roundw
           case rel=>exact⟨i+1,by omega,by go_num,E.o,E2.o,HDB3.o⟩
           case measure=>simp [intOf];omega
       ·obtain⟨z2,ez2,hz2⟩:=Dc g2
        rw[←ez2] at C4;have s5:decide (z2<0)=true:=decide_eq_true hz2;have E:=I (IKI.o (by rw[Cl,decide_eq_false g2];simp));clear g1 g2 ez1 ez2 hz1 hz2
        go_wp2_with (first
         |(go_at_call 104;with_reducible refine Calls.mono (C3.o _ H2.o) ?_;rintro e w9 ⟨rfl,rfl⟩;clear C3)
         |(go_at_call 104;with_reducible refine Calls.mono (C4.o _ H2.o) ?_;rintro e w9 ⟨rfl,rfl⟩;clear C4))
        go_ret;exact⟨by rw[E.o];rfl,H2.o⟩
      ·obtain⟨z1,ez1,hz1⟩:=Dc g1
       rw[←ez1] at C3;have s4:decide (z1<0)=true:=decide_eq_true hz1;have E:=I (IKI.o (by rw[Cl,decide_eq_false g1];simp));clear g1 ez1 hz1
       go_wp2_with (go_at_call 104;with_reducible refine Calls.mono (C3.o _ H2.o) ?_;rintro e w9 ⟨rfl,rfl⟩;clear C3)
       go_ret;exact⟨by rw[E.o];rfl,H2.o⟩
     ·have e1:¬(i:Int)<(m:Int):=by omega
      have hiP:T.K.length≤i:=by have:=EM.o;omega
      have IY3:=I (IY2.o (CG hiP HN.o) (by have h:=HND.o;rwa [List.take_of_length_le hiP] at h));clear IY2 HN HND IK IK2 hiP
      go_wp2
      obtain⟨W3,eW3⟩:∃W3,W3=wr:=⟨_,rfl⟩;rw[←eW3] at HKr HBN⊢;clear eW3 k0 k1 k2 HK HB HBW KB hi hlt e1
      go_loopw [6] (fun iv wr=>∃i:Nat,i≤k∧iv = .int .i64 (i:Int)∧(T.P.take i).all (Ed T.R)=true∧((DD T.P).take i).Nodup∧Below W3.heap.size W3 wr) (fun iv _=>k - (intOf iv).toNat)
      case atStart=>exact⟨0,Nat.zero_le _,rfl,by simp,by simp,Below.refl _ _⟩
      case round=>
       have HK:=HKr;have HB:=HBN;clear HKr HBN;obtain⟨i,hi,rfl,hn,hnd,hbw⟩:=hrel;have HN:=I hn;clear hn;have HND:=I hnd;clear hnd;have HBW:=I hbw;clear hbw;have HBN:=I (HB.o.trans (HBW.o.mono (HSZ.o _ HB.o)));have HKr:=I (HK.o.below HBW.o);have k0:=HKr.o.cell 0;have k1:=HKr.o.cell 1;have k2:=HKr.o.cell 2;simp only[List.getElem?_toArray,List.getElem?_cons_zero,List.getElem?_cons_succ] at k0 k1 k2
       by_cases hlt:i<k
       ·have e1:(i:Int)<(k:Int):=by omega
        have e2:(0:Int)≤(i:Int):=by omega
        have him:i<T.P.length:=by rw[←EK.o];exact hlt
        have hal:=all_succ (p:=Ed T.R) him;rw[HN.o,Bool.true_and,←Jh him] at hal;have hnd:=YG him HND.o;have ik:=IP.o i him;have IK3:=I (fun q=>IP2.o i q him);obtain⟨b,o,eA,hbB,h1,h2,u,h3,h4⟩:=Nt (AB.o _ HBN.o) him;have KBB:=I (fun w1 (h:Below N w w1) j (hj:j<i)=>Nt (AB.o w1 h) (Nat.lt_trans hj him));have RPI:=I (RP.o i hlt);subst eA;obtain⟨x,ex⟩:∃x,x=al T.P i:=⟨_,rfl⟩;rw[←ex] at hnd hal ik IK3 h1 h2 h4 RPI;have HALL:=I hal;have HNS:=I hnd;have IKI:=I ik;have h4':=h4;obtain⟨A5,d5,eu,_⟩:=h4';subst eu;obtain⟨k5,ek5⟩:∃k,k=x.v.length:=⟨_,rfl⟩;rw[←ek5] at h3 h4;have c5:=RPI.o _ wr.drew (below_drewN HBN.o 1) ⟨_,rfl,h4.below (B:=B) (w':=wr.drew) (below_drewN (Below.refl B wr) 1)⟩;have HBB:=I (show b<wr.heap.size from Nat.lt_of_lt_of_le hbB (Nat.le_trans hBN.o (HSZ.o _ HBN.o)));have HP0:=I (show wr.drew.cell? ⟨b,o+i*3,none⟩=_ from h1);have HP1:=I (show wr.drew.cell? ⟨b,o+i*3+1,none⟩=_ from h2);have HP2:=I (show wr.drew.cell? ⟨b,o+i*3+2,none⟩=_ from h3);have HX2:=I (show x.f=(al T.P i).f∧x.t=(al T.P i).t from by rw[ex];exact⟨rfl,rfl⟩);clear ex him hal hnd ik h1 h2 h3 h4 ek5 hbB;cases hpx:Ed T.R x with
        |false=>
         rw[hpx] at c5;have E:=I (IKI.o hpx);clear hpx
         go_wp2
         clear k0 k1 k2;replace HKr:=I (HKr.o.drewN 1);replace HBN:=I (below_drewN HBN.o 1);replace HBW:=I (below_drewN HBW.o 1)
         go_region_held3 (fun w'=>w'.cell? ⟨w.heap.size,0,none⟩=some (.slice A1 n d1)∧w'.cell? ⟨w.heap.size,1,none⟩=some (.slice A2 m d2)∧w'.cell? ⟨w.heap.size,2,none⟩=some (.slice (some ⟨b,o,none⟩) k d3)∧w'.cell? ⟨b,o+i*3,none⟩=some (.string ⟨x.f.toArray⟩)∧w'.cell? ⟨b,o+i*3+1,none⟩=some (.string ⟨x.t.toArray⟩)∧w'.cell? ⟨b,o+i*3+2,none⟩=some (.slice A5 k5 d5)) (exact⟨HKr.o.cell 0,HKr.o.cell 1,HKr.o.cell 2,HP0.o,HP1.o,HP2.o⟩) ((go_at_call 154;refine Calls.mono c5 ?_;rintro e w9 ⟨rfl,hb⟩;clear c5;replace HKr:=I (HKr.o.below hb);replace HP0:=I ((hb.cell HBB.o).trans HP0.o);replace HP1:=I ((hb.cell HBB.o).trans HP1.o);replace HP2:=I ((hb.cell HBB.o).trans HP2.o);replace HBN:=I (HBN.o.trans (hb.mono (HSZ.o _ HBN.o)));replace HBW:=HBW.t hb;clear hb))
         go_wp2
         go_ret;exact⟨by rw[E.o];rfl,HBN.o⟩
        |true=>
         rw[hpx] at c5;have E:=I (HALL.o.trans hpx);clear hpx
         go_wp2
         clear k0 k1 k2;replace HKr:=I (HKr.o.drewN 1);replace HBN:=I (below_drewN HBN.o 1);replace HBW:=I (below_drewN HBW.o 1)
         go_region_held3 (fun w'=>w'.cell? ⟨w.heap.size,0,none⟩=some (.slice A1 n d1)∧w'.cell? ⟨w.heap.size,1,none⟩=some (.slice A2 m d2)∧w'.cell? ⟨w.heap.size,2,none⟩=some (.slice (some ⟨b,o,none⟩) k d3)∧w'.cell? ⟨b,o+i*3,none⟩=some (.string ⟨x.f.toArray⟩)∧w'.cell? ⟨b,o+i*3+1,none⟩=some (.string ⟨x.t.toArray⟩)∧w'.cell? ⟨b,o+i*3+2,none⟩=some (.slice A5 k5 d5)) (exact⟨HKr.o.cell 0,HKr.o.cell 1,HKr.o.cell 2,HP0.o,HP1.o,HP2.o⟩) ((go_at_call 154;refine Calls.mono c5 ?_;rintro e w9 ⟨rfl,hb⟩;clear c5;replace HKr:=I (HKr.o.below hb);replace HP0:=I ((hb.cell HBB.o).trans HP0.o);replace HP1:=I ((hb.cell HBB.o).trans HP1.o);replace HP2:=I ((hb.cell HBB.o).trans HP2.o);replace HBN:=I (HBN.o.trans (hb.mono (HSZ.o _ HBN.o)));replace HBW:=HBW.t hb;clear hb))
         go_wp2
         obtain⟨W4,eW4⟩:∃W4,W4=w9:=⟨_,rfl⟩;rw[←eW4] at HKr HBN HBW HP0 HP1 HP2⊢;clear eW4;have hik:(i:Int)<(k:Int):=e1
         go_loopw [7] (fun jv wq=>∃j:Nat,j≤i∧jv = .int .i64 (j:Int)∧(∀q,q<j→¬((al T.P q).f=x.f∧(al T.P q).t=x.t))∧AM W4 wq) (fun jv _=>i - (intOf jv).toNat)
         case atStart=>exact⟨0,Nat.zero_le _,rfl,fun q hq=>absurd hq (Nat.not_lt_zero q),AM.refl _⟩
         case round=>
          obtain⟨j,hj,rfl,hnq,hd⟩:=hrel;have HNQ:=I hnq;clear hnq;have k0:wr.cell? ⟨w.heap.size,0,none⟩=some (.slice A1 n d1):=by obtain⟨q,rfl⟩:=hd;exact HKr.o.cell 0
          have k2:wr.cell? ⟨w.heap.size,2,none⟩=some (.slice (some ⟨b,o,none⟩) k d3):=by obtain⟨q,rfl⟩:=hd;exact HKr.o.cell 2
          have x0:wr.cell? ⟨b,o+i*3,none⟩=some (.string ⟨x.f.toArray⟩):=by obtain⟨q,rfl⟩:=hd;exact HP0.o
          have x1:wr.cell? ⟨b,o+i*3+1,none⟩=some (.string ⟨x.t.toArray⟩):=by obtain⟨q,rfl⟩:=hd;exact HP1.o
          have HDB:=I (HBN.o.trans (hd.below.mono (HSZ.o _ HBN.o)));have HDB3:=I (HBW.o.trans (hd.below.mono HBW.o.size));have HDR:=I hd;clear hd
          by_cases hlj:j<i
          ·have f1:(j:Int)<(i:Int):=by omega
           have f2:(0:Int)≤(j:Int):=by omega
           have f3:(j:Int)<(k:Int):=by omega
           obtain⟨b',o',eA,_,h1,h2,u9,h3,h4⟩:=KBB.o _ HDB.o j hlj;injection eA with eA;injection eA with eb eo;subst eb;subst eo;clear h3 h4
           by_cases g1:(al T.P j).f=x.f
           ·have t3:((al T.P j).f==x.f)=true:=by simpa using g1
            by_cases g2:(al T.P j).t=x.t
            ·have t4:((al T.P j).t==x.t)=true:=by simpa using g2
             have E2:=I (IK3.o j hlj g1 g2);clear g1 g2
             go_wp2
             go_quiet (fail)
             go_wp2
             go_ret;exact⟨by rw[E2.o];rfl,below_drewN HDB.o _⟩
            ·have t4:((al T.P j).t==x.t)=false:=by simpa using g2
             have HX:=I (show ¬((al T.P j).f=x.f∧(al T.P j).t=x.t) from fun h=>g2 h.2);clear g1 g2
             go_wp2
             go_quiet (fail)
             go_wp2
             go_roundw
             case rel=>exact⟨j+1,by omega,by go_num,fun q hq=>by
              by_cases e:q=j
              ·rw[e];exact HX.o
              ·exact HNQ.o q (by omega),HDR.o.trans ⟨_,rfl⟩⟩
             case measure=>simp [intOf];omega
           ·have t3:((al T.P j).f==x.f)=false:=by simpa using g1
            have HX:=I (show ¬((al T.P j).f=x.f∧(al T.P j).t=x.t) from fun h=>g1 h.1);clear g1
            go_wp2
            go_quiet (fail)
            go_wp2
            go_roundw
            case rel=>exact⟨j+1,by omega,by go_num,fun q hq=>by
             by_cases e:q=j
             ·rw[e];exact HX.o
             ·exact HNQ.o q (by omega),HDR.o.trans ⟨_,rfl⟩⟩
            case measure=>simp [intOf];omega
          ·have f1:¬(j:Int)<(i:Int):=by omega
           have E2:=I (HNS.o fun q hq=>HNQ.o q (by omega))
           go_wp2
           go_roundw
           case rel=>exact⟨i+1,by omega,by go_num,E.o,E2.o,HDB3.o⟩
           case measure=>simp [intOf];omega
       ·have e1:¬(i:Int)<(k:Int):=by omega
        have hiP:T.P.length≤i:=by have:=EK.o;omega
        have E:=I (IY3.o (CG hiP HN.o) (by have h:=HND.o;rwa [List.take_of_length_le (by rw[Bp];exact hiP)] at h));clear hiP
        go_wp2
        go_ret;exact⟨by rw[E.o];rfl,HBN.o⟩
   ·have t2:decide (8<(k:Int))=true:=by simp;omega
    have E:=I (ID.o q2);clear q1 q2;go_enter Tryz.func103,Tryz.ntmps103
    go_wp2_with (go_at_call 153;refine Calls.mono c1 ?_;rintro e w1 ⟨rfl,hb⟩;clear c1;replace HK:=I (HK.o.below hb);replace HB:=I (HB.o.trans (hb.mono (HSZ.o _ HB.o)));clear hb;have k0:=HK.o.cell 0;have k1:=HK.o.cell 1;have k2:=HK.o.cell 2;simp only[List.getElem?_toArray,List.getElem?_cons_zero,List.getElem?_cons_succ] at k0 k1 k2)
    go_ret;exact⟨by rw[E.o];rfl,HB.o⟩
  ·have t1:decide (20<(m:Int))=true:=by simp;omega
   have E:=I (IC.o q1);clear q1;go_enter Tryz.func103,Tryz.ntmps103
   go_wp2_with (go_at_call 153;refine Calls.mono c1 ?_;rintro e w1 ⟨rfl,hb⟩;clear c1;replace HK:=I (HK.o.below hb);replace HB:=I (HB.o.trans (hb.mono (HSZ.o _ HB.o)));clear hb;have k0:=HK.o.cell 0;have k1:=HK.o.cell 1;have k2:=HK.o.cell 2;simp only[List.getElem?_toArray,List.getElem?_cons_zero,List.getElem?_cons_succ] at k0 k1 k2)
   go_ret;exact⟨by rw[E.o];rfl,HB.o⟩
end Rt
end
end Go.Proofs.YtfcjeebnkigeaaaGreat
