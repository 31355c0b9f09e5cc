import Derived.Test.YtlchkbpffaclmaaGreatZKdcTills19
set_option maxHeartbeats 25600000
set_option maxRecDepth 100000
set_option linter.unusedVariables false
set_option linter.unusedSimpArgs false
namespace Go.Proofs.YtlchkbpffaclmaaGreat
namespace Kd
open Go.RowKit Af Se
open Rg (It Ent Ring RO its Ad Bz Bw)
open Ms (Pt Re Tk Tg pSm ptC)
open Nm (krb strs)
open Tr (insL)
section
variable {w:World} {B:Nat} {p:KP} {es:List Ent} {s:Option Ss} {n i c:Nat}
theorem trs_a {P:Pt} {y:Tg} {bv av:Value} (h:KD w B p es n i) (hk:P.ss.length=32) (htr:P.tr.length<=90000) (hc:P.c.1.length<=1000000) (h1:y.t.s.1.length<=1000000) (h2:y.s.1.length<=1000000) (hx:y.t.s.1=p.R) :
  Calls Tryz.prog 30 #[.pointer (some ⟨p.k,0,none⟩),.agg (ptA P),.agg #[.string ⟨y.t.s.1.toArray⟩,.string ⟨y.t.s.2.toArray⟩,.int .i64 y.t.k,bv,av,.string ⟨y.s.1.toArray⟩,.string ⟨y.s.2.toArray⟩,.int .i64 y.u,.int .i64 y.no]] w fun e w'=>e=.returned (.tuple #[.string ⟨(P.tr).toArray⟩,.int .i64 0])/\Below w.heap.size w w':=by
 obtain⟨csP,ecsP⟩:=Ak (ptA P);obtain⟨csT,ecsT⟩:=Ak (#[.string ⟨y.t.s.1.toArray⟩,.string ⟨y.t.s.2.toArray⟩,.int .i64 y.t.k,bv,av,.string ⟨y.s.1.toArray⟩,.string ⟨y.s.2.toArray⟩,.int .i64 y.u,.int .i64 y.no]);rw[<-ecsP,<-ecsT];obtain⟨W,eW⟩:=Ak ((w.alloc (.cells csP 39)).alloc (.cells csT 30));have hb:Below w.heap.size w W:=eW▸(Ah.alloc Ag _).alloc (by simp) _;have hp:Blk W w.heap.size 39 csP:=eW▸(Blk.new w _ _).alloc _;have ht:Blk W (w.heap.size+1) 30 csT:=by have:=Blk.new (w.alloc (.cells csP 39)) 30 csT;simp only[World.size_alloc] at this;exact eW▸this
 have HB:=I hb;have HK:=I (h.below hb);have HPB:=I hp;have HTB:=I ht;have HP0:=I (fun(w1:World) (g:Nat) (hb:Blk w1 g 39 csP)=>And.intro (pt_0 (ecsP▸hb)) (pt_34 hk (ecsP▸hb)));have HT0:=I (fun(w1:World) (g:Nat) (hb:Blk w1 g 30 csT)=>(show w1.cell? ⟨g,0,none⟩=some (.string ⟨y.t.s.1.toArray⟩)/\w1.cell? ⟨g,5,none⟩=some (.string ⟨y.s.1.toArray⟩) from⟨by rw[hb.cell,ecsT];rfl,by rw[hb.cell,ecsT];rfl⟩));have kp0:=(HP0.o _ _ HPB.o).1;have kt0:=(HT0.o _ _ HTB.o).1;have t1:(y.t.s.1==p.R)=true:=by rw[hx];simp
 clear hx;clear h hk htr hc h1 h2 hb hp ht ecsP ecsT;go_enter Tryz.func30,Tryz.ntmps30
 go_upto_region 1 with fail
 rw[<-eW];clear eW
 go_quiet (fail)
 obtain⟨W1,eW1⟩:=Ak (W.drewN nq);replace HPB:=I (show Blk W1 _ _ _ from eW1▸HPB.o.drewN nq);replace HTB:=I (show Blk W1 _ _ _ from eW1▸HTB.o.drewN nq);replace HB:=I (show Below w.heap.size w W1 from eW1▸below_drewN HB.o nq);replace HK:=I (show KD W1 B p es n i from eW1▸HK.o.below (below_drewN Ah nq));rw[<-eW1];clear eW1 kp0 kt0;have kk0:W1.cell? ⟨p.k,0,none⟩=some (.string ⟨p.R.toArray⟩):=HK.o.blk.cell 0;have kp34:=(HP0.o _ _ HPB.o).2;have kt5:=(HT0.o _ _ HTB.o).2
 go_wp2
 go_ret2
 exact⟨rfl,HB.o⟩
end
end Kd
namespace Kd
open Go.RowKit Af Se
open Rg (It Ent Ring RO its Bz Bw Cp)
open SeL (Bd AN)
open Ms (Pt Rp Re Tk As Tg pSm tmB asB tgB ptB ptD ptO tgC mgO)
open Nm (krb isL)
open Tr (insL expL YD YC)
open Rt (nxB nxS Sm)
theorem Ts {b:Nm.L} {P:Pt} (h:ptD b=some P):P.ss.length=32/\ptB P=true:=by
 have h1:P.ss.length=32:=by have:=Mc.NC b;unfold Mc.ptG at this;rw[h] at this;exact this
 refine⟨h1,?_⟩;have h2:=(Ms.VH h1).1 h;cases hb:ptB P with
 |true=>rfl
 |false=>
  rw[ptO,Ms.limO,hb] at h2;simp at h2
theorem GZ (R:Nm.L) (l:List It) (t:Tk) (now:Int):(opnL R l t now).2.ss.length=32/\((opnL R l t now).1=0->ptB (opnL R l t now).2=true):=by
 unfold opnL
 split
 ·split
  ·exact⟨rfl,fun h=>absurd h (by decide)⟩
  ·split
   ·split
    ·exact⟨rfl,fun h=>absurd h (by decide)⟩
    ·rename_i P hP
     have hf:=Ts hP
     split
     ·exact⟨rfl,fun h=>absurd h (by decide)⟩
     ·split
      ·exact⟨rfl,fun h=>absurd h (by decide)⟩
      ·exact⟨hf.1,fun _=>hf.2⟩
   ·exact⟨rfl,fun h=>absurd h (by decide)⟩
 ·exact⟨rfl,fun h=>absurd h (by decide)⟩
theorem Ha {P:Pt} (h:ptB P=true):P.tr.length<=300/\P.c.1.length<=200/\pSm P.c/\tmB P.st=true/\tmB P.en=true:=by
 obtain⟨_,h2,h3,h4,h5⟩:=Ms.CY h;have:=Ms.Fp h2;exact⟨h3,by omega,⟨by omega,by omega⟩,h4,h5⟩
abbrev tgA (q:Tg) (b a:Value):Array Value:=#[.string ⟨q.t.s.1.toArray⟩,.string ⟨q.t.s.2.toArray⟩,.int .i64 q.t.k,b,a,.string ⟨q.s.1.toArray⟩,.string ⟨q.s.2.toArray⟩,.int .i64 q.u,.int .i64 q.no]
theorem af {w:World} {q:Tg} {b a:Value} {S S':Nat->Prop} (h1:SlN S w b q.t.b) (h2:SlN S' w a q.a):Mc.MgV w w.heap.size (Mc.mgA 2 Mc.zA (tgA q b a) Mc.zR Mc.zP Mc.zF) (mTg q):=
 ⟨_,_,_,_,_,rfl,⟨Mc.zA_v,⟨b,a,rfl,h1.sl,h2.sl⟩,Mc.zR_v _ _,Mc.zP_v _ _,Mc.zF_v⟩⟩
theorem Mp (q:Tg) (b a:Value):Tryz.prog.built 91 [(0,.int .i64 2),(2,.agg (tgA q b a))]=some (Mc.mgA 2 Mc.zA (tgA q b a) Mc.zR Mc.zP Mc.zF):=by kernel_rfl
theorem Bs:(Tryz.prog.info? 30).map (·.size)=some 9:=by kernel_rfl
theorem NG:(Tryz.prog.info? 28).map (·.size)=some 4:=by kernel_rfl
section
variable {w:World} {B:Nat} {p:KP} {es:List Ent} {s:Option Ss} {n i c:Nat}
def TarP (w:World) (es:List Ent) (r:Int×Rg.Pr) (e:Ending) (w':World):Prop:=
 ∃cs,e=.returned (.tuple #[.agg cs,.int .i64 r.1])/\Below w.heap.size w w'/\(∃y z m,cs=hoA y z m)/\(r.1=0->∃j x,Bz (its es) r.2=some j/\es[j]? = some x/\cs=hoA r.2 (some ⟨x.b,0,none⟩) (x.it.n:Int))
theorem Ye {q:Rg.Pr} (h:KD w B p es n i) (hl:es.length<=1000) (hR:p.R.length<=1000) (hq:q.1.length<=1000) (hT:Sm p.T) (hx:q.1=p.R) :
  Calls Tryz.prog 29 #[.pointer (some ⟨p.k,0,none⟩),prV q] w (TarP w es (tarL p.R p.T (its es) q)):=by
 unfold tarL;rw[if_pos hx];cases hf:Bz (its es) q with
 |none=>
  rw[if_neg (by rw[To hf];decide)];exact(ae h hl hR hq hT hx hf).mono (by rintro e w' ⟨rfl,hb⟩;exact⟨_,rfl,hb,⟨_,_,_,rfl⟩,fun z=>absurd z (by decide)⟩)
 |some j=>
  obtain⟨x,hj⟩:=NF hf;rw[if_pos (Tq hf)];exact(ad h hl hR hq hT hx hf hj).mono (by rintro e w' ⟨rfl,hb⟩;exact⟨_,rfl,hb,⟨_,_,_,rfl⟩,fun _=>⟨j,x,hf,hj,rfl⟩⟩)
theorem Vn {t:Tk} {bv:Value} {now e0:Int} {P:Pt} (ho:opnL p.R (its es) t now=(e0,P)) (h:KS w B p es none n i c) (hc:c<900000) (hl:es.length<=1000) (hR:p.R.length<=1000000) (h0:0<=now) (h9:now<=1073741824) (hv:SlN (KSO p es none) w bv t.b) :
  Calls Tryz.prog 26 #[.pointer (some ⟨p.k,0,none⟩),.agg #[.string ⟨t.s.1.toArray⟩,.string ⟨t.s.2.toArray⟩,.int .i64 t.k,bv],.int .i64 now] w fun e w'=>∃es',e=.returned (.tuple #[.agg (ptA P),.int .i64 e0])/\Kn w w' B p es none es' none n i (c+1):=by
 have hk:=Tn (now:=now) h hc hl hR h0 h9 hv;rw[ho] at hk;exact hk.mono (by rintro e w' ⟨es',s',rfl,h1⟩;exact⟨es',rfl,h1.drop⟩)
theorem Yf {x:Nat} {ss a:Nm.L} {cl:Rg.Pr} {av:Value} {now e1:Int} (ho:autL ss a cl now=e1) (h:KS w B p es s n i c) (hc:c<900000) (hh:Hdl es s x (ksOf ss)) (h0:0<=now) (h9:now<=1073741824) (hv:SlN (KSO p es s) w av a) :
  Calls Tryz.prog 28 #[.pointer (some ⟨x,0,none⟩),av,prV cl,.int .i64 now] w fun e w'=>∃es' s',e=.returned (.int .i64 e1)/\Kn w w' B p es s es' s' n i (c+1):=by
 have hk:=Vm (cl:=cl) h hc hh h0 h9 hv;rw[ho] at hk;exact hk
theorem ag {d:Nm.L} (hd:d.length=32) (h:KS w B p es none n i c):Calls Tryz.prog 27 #[.agg (keyA d)] w fun e w'=>∃b,e=.returned (.pointer (some ⟨b,0,none⟩))/\Kn w w' B p es none es (some ⟨b,ksOf d,none,0,0,0⟩) n i c:=by
 have hk:=Se.KJ (ksOf d) w;rw[Jv hd] at hk;exact hk.mono (by rintro e w' ⟨b,rfl,h1,h2,h3⟩;exact⟨b,rfl,(Kn.refl h).with_s h1 h2 h3⟩)
theorem ah {es0:List Ent} {q:Rg.Pr} {e2:Int} {Y:Rg.Pr} (hk:Calls Tryz.prog 29 #[.pointer (some ⟨p.k,0,none⟩),prV q] w (TarP w es (tarL p.R p.T (its es) q))) (ht:tarL p.R p.T (its es0) q=(e2,Y)) (he:bts es=bts es0) :
  Calls Tryz.prog 29 #[.pointer (some ⟨p.k,0,none⟩),prV q] w fun e w'=>∃cs,e=.returned (.tuple #[.agg cs,.int .i64 e2])/\Below w.heap.size w w'/\(cs.size=4/\cs.all (·.oneCell')=true/\(Tryz.prog.info? 98).map (·.size)=some cs.size)/\(e2=0->∃j x,Bz (its es) Y=some j/\es[j]? = some x/\cs=hoA Y (some ⟨x.b,0,none⟩) (x.it.n:Int)):=by
 rw[KZ he,ht] at hk;refine hk.mono ?_;rintro e w' ⟨cs,rfl,h1,⟨y,z,m,h2⟩,h3⟩;refine⟨cs,rfl,h1,?_,h3⟩;subst h2;exact⟨rfl,by simp [hoA,Value.oneCell'],by kernel_rfl⟩
theorem Yg {es0:List Ent} {q:Rg.Pr} {e2:Int} {Y:Rg.Pr} (ht:tarL p.R p.T (its es0) q=(e2,Y)) (he:bts es=bts es0) (hl:es0.length<=1000) (hR:p.R.length<=1000) (hq:q.1.length<=1000) (hT:Sm p.T) (h:KD w B p es n i) (hx:q.1=p.R) :
  Calls Tryz.prog 29 #[.pointer (some ⟨p.k,0,none⟩),prV q] w fun e w'=>∃cs,e=.returned (.tuple #[.agg cs,.int .i64 e2])/\Below w.heap.size w w'/\(cs.size=4/\cs.all (·.oneCell')=true/\(Tryz.prog.info? 98).map (·.size)=some cs.size)/\(e2=0->∃j x,Bz (its es) Y=some j/\es[j]? = some x/\cs=hoA Y (some ⟨x.b,0,none⟩) (x.it.n:Int)):=
 ah (Ye (q:=q) h (by rw[XG he];exact hl) hR hq hT hx) ht he
theorem Yh {P:Pt} {y:Tg} {bv av:Value} {tr:Nm.L} {e3:Nat} (ht:trsL p.R P y.t.s.1 y.s=(tr,e3)) (hk:P.ss.length=32) (htr:P.tr.length<=90000) (hc:P.c.1.length<=1000000) (h1:y.t.s.1.length<=1000000) (h2:y.s.1.length<=1000000) (h:KD w B p es n i) (hx:y.t.s.1=p.R) :
  Calls Tryz.prog 30 #[.pointer (some ⟨p.k,0,none⟩),.agg (ptA P),.agg (tgA y bv av)] w fun e w'=>e=.returned (.tuple #[.string ⟨tr.toArray⟩,.int .i64 (e3:Int)])/\Below w.heap.size w w':=by
 rw[show trsL p.R P y.t.s.1 y.s=(P.tr,0) by unfold trsL;rw[if_pos (.inl hx)]] at ht;injection ht with ha hb;subst ha hb;exact trs_a (bv:=bv) (av:=av) h hk htr hc h1 h2 hx
end
end Kd
namespace Kd
open Go.RowKit Af Se
open Rg (It Ent Ring RO its Ad Bz Bw BG Cx)
open SeL (Bd AN)
open Ms (Pt Rp Re Tk As Tg pSm tmB asB tgB ptB)
open Nm (krb)
open Rt (nxB nxS Sm)
section
variable {w:World} {B:Nat} {p:KP} {es:List Ent} {n i c:Nat}
theorem ai {es2:List Ent} {s2:Option Ss} {x1 x2 kv:Nat} {k1 ks:Nat->UInt8} {l:List It} {Y:Ms.Pr} {P:Pt} {no:Int} {rr:Int×Re} (hrr:ansK n (keyL l Y) (Bw l Y) Y P no ks 8=rr) (h:KS w B p es2 s2 n i c) (h1:Hdl es2 s2 x1 k1) (h2:Hdl es2 s2 x2 ks) (e1:keyL l Y=k1) (e2:Bw l Y=kv) (hc:c<900000) (hn:n<900000) (hi:i<900000) (hk:P.ss.length=32) (hs1:pSm P.c) (hs2:pSm Y) (hs3:P.tr.length<=1000000000) :
  Calls Tryz.prog 31 #[.pointer (some ⟨p.k,0,none⟩),.agg (hoA Y (some ⟨x1,0,none⟩) (kv:Int)),.agg (ptA P),.int .i64 no,.pointer (some ⟨x2,0,none⟩),.int .i64 8] w (AnsR w B p es2 s2 n i (c+2) rr):=by
 subst e1 e2 hrr;exact ZU h h1 h2 hc hn hi hk hs1 hs2 hs3
theorem Tu {q:Tg} (h:tgB q=true):q.t.s.1.length<=1000000/\q.s.1.length<=1000:=by
 have h1:Ms.tkB q.t=true/\Ms.Da q.a=true/\Ms.prB q.s=true/\tmB q.u=true/\tmB q.no=true:=by simpa [tgB] using h
 have h2:Ms.prB q.t.s=true/\Ms.inB q.t.k 1 255=true/\Ms.Da q.t.b=true:=by simpa [Ms.tkB] using h1.1
 have a1:=Ms.Fp h2.1;have a2:=Ms.Fp h1.2.2.1;exact⟨by omega,by omega⟩
theorem tgs_1 {q:Tg} {bv av:Value} {d:Nm.L} {now:Int} (h:KS w B p es none n i c) (hc:c<800000) (hn:n<800000) (hi:i<800000) (hl:es.length<=1000) (hR:p.R.length<=1000) (hT:Sm p.T) (hd:d.length=32) (hv1:SlN (KSO p es none) w bv q.t.b) (hv2:SlN (KSO p es none) w av q.a) (hs1:pSm q.t.s) (hs2:pSm q.s) (ht:tmB now=false) :
  Calls Tryz.prog 10 #[.pointer (some ⟨p.k,0,none⟩),.agg (tgA q bv av),.int .i64 now,.agg (keyA d)] w (AnsR w B p es none n i (c+6) (1,Ms.re0)):=by
 obtain⟨csD,ecsD⟩:=Ak (keyA d);obtain⟨csQ,ecsQ⟩:=Ak (tgA q bv av);rw[<-ecsD,<-ecsQ];obtain⟨W,eW⟩:=Ak (((w.alloc (.cells csQ 30)).alloc (.cells csD 35)).alloc (.cells reZ 43));have hb:Below w.heap.size w W:=eW▸((Ah.alloc Ag _).alloc (by simp) _).alloc (by simp;omega) _;have HQ:=I (show Blk W w.heap.size 30 csQ from eW▸((Blk.new w _ _).alloc _).alloc _);have HD:=I (show Blk W (w.heap.size+1) 35 csD by have:=(Blk.new (w.alloc (.cells csQ 30)) 35 csD).alloc (.cells reZ 43);simp only[World.size_alloc] at this;exact eW▸this);have HR:=I (show Blk W (w.heap.size+1+1) 43 reZ by have:=Blk.new ((w.alloc (.cells csQ 30)).alloc (.cells csD 35)) 43 reZ;simp only[World.size_alloc] at this;exact eW▸this);have HK:=I (Kn.start h hb);have HV1:=I (hv1.below hb);have HV2:=I (hv2.below hb);have HOQ:=I (h.offs (show w.heap.size<=w.heap.size by omega));have HOD:=I (h.offs (show w.heap.size<=w.heap.size+1 by omega));have HOR:=I (h.offs (show w.heap.size<=w.heap.size+1+1 by omega));have HDI:=I (show(Tryz.prog.info? 35).map (·.size)=some csD.size by rw[ecsD];exact BQ hd);have HQI:=I (show(Tryz.prog.info? 30).map (·.size)=some csQ.size by rw[ecsQ];exact Bs);have HQ4:=I (fun(w1:World) (hb:Blk w1 w.heap.size 30 csQ)=>(show w1.cell? ⟨w.heap.size,4,none⟩=some (av) by rw[hb.cell,ecsQ];rfl));have HQ5:=I (fun(w1:World) (hb:Blk w1 w.heap.size 30 csQ)=>(show w1.cell? ⟨w.heap.size,5,none⟩=some (.string ⟨q.s.1.toArray⟩) by rw[hb.cell,ecsQ];rfl));have HQ6:=I (fun(w1:World) (hb:Blk w1 w.heap.size 30 csQ)=>(show w1.cell? ⟨w.heap.size,6,none⟩=some (.string ⟨q.s.2.toArray⟩) by rw[hb.cell,ecsQ];rfl));have HQ7:=I (fun(w1:World) (hb:Blk w1 w.heap.size 30 csQ)=>(show w1.cell? ⟨w.heap.size,7,none⟩=some (.int .i64 q.u) by rw[hb.cell,ecsQ];rfl));have HQ8:=I (fun(w1:World) (hb:Blk w1 w.heap.size 30 csQ)=>(show w1.cell? ⟨w.heap.size,8,none⟩=some (.int .i64 q.no) by rw[hb.cell,ecsQ];rfl));obtain⟨csT,ecsT⟩:=Ak ((#[.string ⟨q.t.s.1.toArray⟩,.string ⟨q.t.s.2.toArray⟩,.int .i64 q.t.k,bv]:Array Value));have HTR:=I (fun(w1:World) (hb:Blk w1 w.heap.size 30 csQ)=>(show w1.rangeAt w.heap.size 0 csT.toList from Wh.Cw (pre:=[]) (post:=[av,.string ⟨q.s.1.toArray⟩,.string ⟨q.s.2.toArray⟩,.int .i64 q.u,.int .i64 q.no]) hb (by rw[ecsQ,ecsT];rfl) 0 rfl));have HTI:=I (show(Tryz.prog.info? 28).map (·.size)=some csT.size by rw[ecsT];exact NG);have CT:=I (fun(w1:World)=>Ec now w1);rw[ht] at CT;clear h hb hc hn hi hl hR hT hs1 hs2 hd hv1 hv2 ecsD ecsQ ecsT ht
 (try clear ha)
 (try clear ecsO)
 (try clear ecsK)
 (try clear hnow)
 (try clear hn0)
 (try clear hn9)
 (try clear hP)
 (try clear hql)
 (try clear hpo)
 (try clear hps)
 (try clear ho)
 (try clear h1a)
 (try clear h2a)
 (try clear h3a)
 (try clear hY)
 go_enter Tryz.func10,Tryz.ntmps10
 go_upto_region 1 with fail
 rw[<-eW];clear eW;have kr0:=HR.o.cell 0;have kr1:=HR.o.cell 1;have kr2:=HR.o.cell 2;have kr3:=HR.o.cell 3;have kr4:=HR.o.cell 4;have kr5:=HR.o.cell 5;have kr6:=HR.o.cell 6;have fz:=HR.o.frozen
 go_wp2_with (first
  |(go_at_call 24;refine Aj (CT.o _) ?_;rintro wt hw;have hw:=hw.symm;subst hw;clear CT)
  |fail)
 refine bodyPost_ret (v:=.tuple #[.agg reZ,.int .i64 1]) ?_ ?_ ?_
 ·exact Ad (v:=.agg reZ) 8 9 43 ⟨w.heap.size+1+1,0,none⟩ Tryz.results10 rfl (Wh.Al (set7 HR.o _ _ _ _ _ _ _) Tryz.underlying43 (by rfl) AK) rfl
 ·rfl
 ·exact Ce ((HK.o.put7 (by omega) HOR.o _ _ _ _ _ _ _).more (by omega)) (by decide)
theorem tgs_2 {q:Tg} {bv av:Value} {d:Nm.L} {now:Int} (h:KS w B p es none n i c) (hc:c<800000) (hn:n<800000) (hi:i<800000) (hl:es.length<=1000) (hR:p.R.length<=1000) (hT:Sm p.T) (hd:d.length=32) (hv1:SlN (KSO p es none) w bv q.t.b) (hv2:SlN (KSO p es none) w av q.a) (hs1:pSm q.t.s) (hs2:pSm q.s) (ht:tmB now=true) (ha:tgB q=false) :
  Calls Tryz.prog 10 #[.pointer (some ⟨p.k,0,none⟩),.agg (tgA q bv av),.int .i64 now,.agg (keyA d)] w (AnsR w B p es none n i (c+6) (1,Ms.re0)):=by
 obtain⟨csD,ecsD⟩:=Ak (keyA d);obtain⟨csQ,ecsQ⟩:=Ak (tgA q bv av);rw[<-ecsD,<-ecsQ];obtain⟨W,eW⟩:=Ak (((w.alloc (.cells csQ 30)).alloc (.cells csD 35)).alloc (.cells reZ 43));have hb:Below w.heap.size w W:=eW▸((Ah.alloc Ag _).alloc (by simp) _).alloc (by simp;omega) _;have HQ:=I (show Blk W w.heap.size 30 csQ from eW▸((Blk.new w _ _).alloc _).alloc _);have HD:=I (show Blk W (w.heap.size+1) 35 csD by have:=(Blk.new (w.alloc (.cells csQ 30)) 35 csD).alloc (.cells reZ 43);simp only[World.size_alloc] at this;exact eW▸this);have HR:=I (show Blk W (w.heap.size+1+1) 43 reZ by have:=Blk.new ((w.alloc (.cells csQ 30)).alloc (.cells csD 35)) 43 reZ;simp only[World.size_alloc] at this;exact eW▸this);have HK:=I (Kn.start h hb);have HV1:=I (hv1.below hb);have HV2:=I (hv2.below hb);have HOQ:=I (h.offs (show w.heap.size<=w.heap.size by omega));have HOD:=I (h.offs (show w.heap.size<=w.heap.size+1 by omega));have HOR:=I (h.offs (show w.heap.size<=w.heap.size+1+1 by omega));have HDI:=I (show(Tryz.prog.info? 35).map (·.size)=some csD.size by rw[ecsD];exact BQ hd);have HQI:=I (show(Tryz.prog.info? 30).map (·.size)=some csQ.size by rw[ecsQ];exact Bs);have HQ4:=I (fun(w1:World) (hb:Blk w1 w.heap.size 30 csQ)=>(show w1.cell? ⟨w.heap.size,4,none⟩=some (av) by rw[hb.cell,ecsQ];rfl));have HQ5:=I (fun(w1:World) (hb:Blk w1 w.heap.size 30 csQ)=>(show w1.cell? ⟨w.heap.size,5,none⟩=some (.string ⟨q.s.1.toArray⟩) by rw[hb.cell,ecsQ];rfl));have HQ6:=I (fun(w1:World) (hb:Blk w1 w.heap.size 30 csQ)=>(show w1.cell? ⟨w.heap.size,6,none⟩=some (.string ⟨q.s.2.toArray⟩) by rw[hb.cell,ecsQ];rfl));have HQ7:=I (fun(w1:World) (hb:Blk w1 w.heap.size 30 csQ)=>(show w1.cell? ⟨w.heap.size,7,none⟩=some (.int .i64 q.u) by rw[hb.cell,ecsQ];rfl));have HQ8:=I (fun(w1:World) (hb:Blk w1 w.heap.size 30 csQ)=>(show w1.cell? ⟨w.heap.size,8,none⟩=some (.int .i64 q.no) by rw[hb.cell,ecsQ];rfl));obtain⟨csT,ecsT⟩:=Ak ((#[.string ⟨q.t.s.1.toArray⟩,.string ⟨q.t.s.2.toArray⟩,.int .i64 q.t.k,bv]:Array Value));have HTR:=I (fun(w1:World) (hb:Blk w1 w.heap.size 30 csQ)=>(show w1.rangeAt w.heap.size 0 csT.toList from Wh.Cw (pre:=[]) (post:=[av,.string ⟨q.s.1.toArray⟩,.string ⟨q.s.2.toArray⟩,.int .i64 q.u,.int .i64 q.no]) hb (by rw[ecsQ,ecsT];rfl) 0 rfl));have HTI:=I (show(Tryz.prog.info? 28).map (·.size)=some csT.size by rw[ecsT];exact NG);have CT:=I (fun(w1:World)=>Ec now w1);rw[ht] at CT;have CM:=I (fun(w1:World) (a1:SlN (KSO p es none) w1 bv q.t.b) (a2:SlN (KSO p es none) w1 av q.a)=>FX _ (mTg q) w1 (af a1 a2) ⟨⟨Mc.Cl,Mc.Cl⟩,⟨hs1,hs2⟩,⟨Mc.Cl,Mc.Cl⟩,Mc.Cl⟩);have HBM:=I (Mp q bv av);obtain⟨csM,ecsM⟩:=Ak (Mc.mgA 2 Mc.zA (tgA q bv av) Mc.zR Mc.zP Mc.zF);rw[<-ecsM] at CM HBM;rw[<-ecsQ] at HBM;clear ecsM;rw[Wk,ha] at CM;clear h hb hc hn hi hl hR hT hs1 hs2 hd hv1 hv2 ecsD ecsQ ecsT ht
 (try clear ha)
 (try clear ecsO)
 (try clear ecsK)
 (try clear hnow)
 (try clear hn0)
 (try clear hn9)
 (try clear hP)
 (try clear hql)
 (try clear hpo)
 (try clear hps)
 (try clear ho)
 (try clear h1a)
 (try clear h2a)
 (try clear h3a)
 (try clear hY)
 go_enter Tryz.func10,Tryz.ntmps10
 go_upto_region 1 with fail
 rw[<-eW];clear eW
 go_upto_region 2 with(first
  |(go_at_call 24;refine Aj (CT.o _) ?_;rintro wt hw;have hw:=hw.symm;subst hw;clear CT)
  |(refine Wh.Ax (by rfl) 30 (.tmp 5) (by rfl) (w.heap.size) 0 (by rfl) csQ _ (Wh.Ae HQ.o) Tryz.underlying30 (by rfl) HQI.o ?_)
  |(refine Lf (by rfl) 91 #[(0,.const (.int .i64 2)),(2,.tmp 25)] (by rfl) csM (by simp only[List.map_toArray,List.map_cons,List.map_nil];exact HBM.o) ?_;clear HBM)
  |(go_at_call 25;refine Aj (CM.o _ HV1.o HV2.o) ?_;rintro wm hb;clear CM;replace HQ:=I (HQ.o.below hb);replace HD:=I (HD.o.below hb);replace HR:=I (HR.o.below hb);replace HK:=I (HK.o.below hb);replace HV1:=I (HV1.o.below hb);replace HV2:=I (HV2.o.below hb);clear hb)
  |fail)
 have kr0:=HR.o.cell 0;have kr1:=HR.o.cell 1;have kr2:=HR.o.cell 2;have kr3:=HR.o.cell 3;have kr4:=HR.o.cell 4;have kr5:=HR.o.cell 5;have kr6:=HR.o.cell 6;have fz:=HR.o.frozen
 go_wp2_with (first
  |fail
  |fail)
 refine bodyPost_ret (v:=.tuple #[.agg reZ,.int .i64 1]) ?_ ?_ ?_
 ·exact Ad (v:=.agg reZ) 8 9 43 ⟨w.heap.size+1+1,0,none⟩ Tryz.results10 rfl (Wh.Al (set7 HR.o _ _ _ _ _ _ _) Tryz.underlying43 (by rfl) AK) rfl
 ·rfl
 ·exact Ce ((HK.o.put7 (by omega) HOR.o _ _ _ _ _ _ _).more (by omega)) (by decide)
theorem Vo {q:Tg} {bv av:Value} {d:Nm.L} {now:Int} (h:KS w B p es none n i c) (hc:c<800000) (hn:n<800000) (hi:i<800000) (hl:es.length<=1000) (hR:p.R.length<=1000) (hT:Sm p.T) (hd:d.length=32) (hv1:SlN (KSO p es none) w bv q.t.b) (hv2:SlN (KSO p es none) w av q.a) (hs1:pSm q.t.s) (hs2:pSm q.s) (ht:tmB now=true) (ha:tgB q=true) {e0 e1 e2:Int} {e3:Nat} {P:Pt} {Y:Ms.Pr} {tr:Nm.L} {r:Int×Re} (ho:opnL p.R (its es) q.t now=(e0,P)) (h1a:autL P.ss q.a P.c now=e1) (hY:pSm Y) (htl:e0=0->tr.length<=1000000000)
  (hCG:∀(w1:World) (es1:List Ent),bts es1=bts es->KD w1 B p es1 n i->Calls Tryz.prog 29 #[.pointer (some ⟨p.k,0,none⟩),prV q.s] w1 fun e w'=>∃cs,e=.returned (.tuple #[.agg cs,.int .i64 e2])/\Below w1.heap.size w1 w'/\(cs.size=4/\cs.all (·.oneCell')=true/\(Tryz.prog.info? 98).map (·.size)=some cs.size)/\(e2=0->∃j x,Bz (its es1) Y=some j/\es1[j]? = some x/\cs=hoA Y (some ⟨x.b,0,none⟩) (x.it.n:Int)))
  (hCX:e0=0->∀(w1:World) (es1:List Ent),KD w1 B p es1 n i->Calls Tryz.prog 30 #[.pointer (some ⟨p.k,0,none⟩),.agg (ptA P),.agg (tgA q bv av)] w1 fun e w'=>e=.returned (.tuple #[.string ⟨tr.toArray⟩,.int .i64 (e3:Int)])/\Below w1.heap.size w1 w')
  (hr:(if e0=0 then (if e1=0 then (if e2=0 then (if e3=0 then (if q.u<now then ((7:Int),Ms.re0) else ansK n (keyL (its es) Y) (Bw (its es) Y) Y ⟨P.c,d,tr,now,min q.u P.en⟩ q.no (ksOf P.ss) 8) else ((e3:Int),Ms.re0)) else (e2,Ms.re0)) else (e1,Ms.re0)) else (e0,Ms.re0))=r) :
  Calls Tryz.prog 10 #[.pointer (some ⟨p.k,0,none⟩),.agg (tgA q bv av),.int .i64 now,.agg (keyA d)] w (AnsR w B p es none n i (c+6) r):=by
 obtain⟨csD,ecsD⟩:=Ak (keyA d);obtain⟨csQ,ecsQ⟩:=Ak (tgA q bv av);rw[<-ecsD,<-ecsQ];obtain⟨W,eW⟩:=Ak (((w.alloc (.cells csQ 30)).alloc (.cells csD 35)).alloc (.cells reZ 43));have hb:Below w.heap.size w W:=eW▸((Ah.alloc Ag _).alloc (by simp) _).alloc (by simp;omega) _;have HQ:=I (show Blk W w.heap.size 30 csQ from eW▸((Blk.new w _ _).alloc _).alloc _);have HD:=I (show Blk W (w.heap.size+1) 35 csD by have:=(Blk.new (w.alloc (.cells csQ 30)) 35 csD).alloc (.cells reZ 43);simp only[World.size_alloc] at this;exact eW▸this);have HR:=I (show Blk W (w.heap.size+1+1) 43 reZ by have:=Blk.new ((w.alloc (.cells csQ 30)).alloc (.cells csD 35)) 43 reZ;simp only[World.size_alloc] at this;exact eW▸this);have HK:=I (Kn.start h hb);have HV1:=I (hv1.below hb);have HV2:=I (hv2.below hb);have HOQ:=I (h.offs (show w.heap.size<=w.heap.size by omega));have HOD:=I (h.offs (show w.heap.size<=w.heap.size+1 by omega));have HOR:=I (h.offs (show w.heap.size<=w.heap.size+1+1 by omega));have HDI:=I (show(Tryz.prog.info? 35).map (·.size)=some csD.size by rw[ecsD];exact BQ hd);have HQI:=I (show(Tryz.prog.info? 30).map (·.size)=some csQ.size by rw[ecsQ];exact Bs);have HQ4:=I (fun(w1:World) (hb:Blk w1 w.heap.size 30 csQ)=>(show w1.cell? ⟨w.heap.size,4,none⟩=some (av) by rw[hb.cell,ecsQ];rfl));have HQ5:=I (fun(w1:World) (hb:Blk w1 w.heap.size 30 csQ)=>(show w1.cell? ⟨w.heap.size,5,none⟩=some (.string ⟨q.s.1.toArray⟩) by rw[hb.cell,ecsQ];rfl));have HQ6:=I (fun(w1:World) (hb:Blk w1 w.heap.size 30 csQ)=>(show w1.cell? ⟨w.heap.size,6,none⟩=some (.string ⟨q.s.2.toArray⟩) by rw[hb.cell,ecsQ];rfl));have HQ7:=I (fun(w1:World) (hb:Blk w1 w.heap.size 30 csQ)=>(show w1.cell? ⟨w.heap.size,7,none⟩=some (.int .i64 q.u) by rw[hb.cell,ecsQ];rfl));have HQ8:=I (fun(w1:World) (hb:Blk w1 w.heap.size 30 csQ)=>(show w1.cell? ⟨w.heap.size,8,none⟩=some (.int .i64 q.no) by rw[hb.cell,ecsQ];rfl));obtain⟨csT,ecsT⟩:=Ak ((#[.string ⟨q.t.s.1.toArray⟩,.string ⟨q.t.s.2.toArray⟩,.int .i64 q.t.k,bv]:Array Value));have HTR:=I (fun(w1:World) (hb:Blk w1 w.heap.size 30 csQ)=>(show w1.rangeAt w.heap.size 0 csT.toList from Wh.Cw (pre:=[]) (post:=[av,.string ⟨q.s.1.toArray⟩,.string ⟨q.s.2.toArray⟩,.int .i64 q.u,.int .i64 q.no]) hb (by rw[ecsQ,ecsT];rfl) 0 rfl));have HTI:=I (show(Tryz.prog.info? 28).map (·.size)=some csT.size by rw[ecsT];exact NG);have CT:=I (fun(w1:World)=>Ec now w1);rw[ht] at CT;have CM:=I (fun(w1:World) (a1:SlN (KSO p es none) w1 bv q.t.b) (a2:SlN (KSO p es none) w1 av q.a)=>FX _ (mTg q) w1 (af a1 a2) ⟨⟨Mc.Cl,Mc.Cl⟩,⟨hs1,hs2⟩,⟨Mc.Cl,Mc.Cl⟩,Mc.Cl⟩);have HBM:=I (Mp q bv av);obtain⟨csM,ecsM⟩:=Ak (Mc.mgA 2 Mc.zA (tgA q bv av) Mc.zR Mc.zP Mc.zF);rw[<-ecsM] at CM HBM;rw[<-ecsQ] at HBM;clear ecsM;rw[Wk,ha] at CM;have hnow:0<=now/\now<=1073741824:=by simpa [tmB,Ms.inB] using ht
 have hn0:=hnow.1;have hn9:=hnow.2;have hP:P.ss.length=32:=by have:=(GZ p.R (its es) q.t now).1;rw[ho] at this;exact this
 have CO:=I (fun(w1:World) (h1:KS w1 B p es none n i c) (a1:SlN (KSO p es none) w1 bv q.t.b)=>Vn (es:=es) ho h1 (by omega) hl (by omega) hn0 hn9 a1);obtain⟨csO,ecsO⟩:=Ak (ptA P);rw[<-ecsT,<-ecsO] at CO;have HOS:=I (show csO.size=37 by rw[ecsO];exact DG hP);have HOI:=I (show(Tryz.prog.info? 39).map (·.size)=some csO.size by rw[ecsO];exact FA hP);have HOO1:=I (show csO.all (·.oneCell')=true by rw[ecsO];exact Gt _);have HP0:=I (fun(w1:World) (g:Nat) (hb:Blk w1 g 39 csO)=>pt_0 (P:=P) (ecsO▸hb));have HP1:=I (fun(w1:World) (g:Nat) (hb:Blk w1 g 39 csO)=>pt_1 (P:=P) (ecsO▸hb));have HP36:=I (fun(w1:World) (g:Nat) (hb:Blk w1 g 39 csO)=>UR (P:=P) hP (ecsO▸hb));obtain⟨csK,ecsK⟩:=Ak (keyA P.ss);have HPK:=I (fun(w1:World) (g:Nat) (hb:Blk w1 g 39 csO)=>(show w1.rangeAt g 2 csK.toList from ecsK▸Ka (P:=P) hP (ecsO▸hb)));have HKI:=I (show(Tryz.prog.info? 35).map (·.size)=some csK.size by rw[ecsK];exact BQ hP);have CN:=I (fun(w1:World) (es1:List Ent) (h1:KS w1 B p es1 none n i (c+1))=>ag hP h1);rw[<-ecsK] at CN;have CC:=I (fun(w1:World) (es1:List Ent) (s1:Option Ss) (x:Nat) (h1:KS w1 B p es1 s1 n i (c+1)) (hh:Hdl es1 s1 x (ksOf P.ss)) (a2:SlN (KSO p es1 s1) w1 av q.a)=>Yf h1a h1 (by omega) hh hn0 hn9 a2);have CG:=I hCG;have hps:=fun(hz:e0=0)=>Ha (show ptB P=true by have:=(GZ p.R (its es) q.t now).2;rw[ho] at this;exact this hz)
 have CX:=I hCX;rw[<-ecsO,<-ecsQ] at CX;have HBP:=I (UT hd P.c tr now (min q.u P.en));have hPP:(⟨P.c,d,tr,now,min q.u P.en⟩:Pt).ss.length=32:=hd;have hys:pSm Y:=hY;obtain⟨rr,err⟩:∃r,r=ansK n (keyL (its es) Y) (Bw (its es) Y) Y ⟨P.c,d,tr,now,min q.u P.en⟩ q.no (ksOf P.ss) 8:=⟨_,rfl⟩;rw[<-err] at hr;have CA:=I (fun(hz:e0=0) (w1:World) (es2:List Ent) (s2:Option Ss) (x1 x2 kv:Nat) (k1:Nat->UInt8) (h1:KS w1 B p es2 s2 n i (c+1+1)) (hh1:Hdl es2 s2 x1 k1) (hh2:Hdl es2 s2 x2 (ksOf P.ss)) (e1:keyL (its es) Y=k1) (e2:Bw (its es) Y=kv)=>ai (P:=⟨P.c,d,tr,now,min q.u P.en⟩) (no:=q.no) (rr:=rr) err.symm h1 hh1 hh2 e1 e2 (by omega) (by omega) (by omega) hPP (hps hz).2.2.1 hys (htl hz));obtain⟨csP,ecsP⟩:=Ak (ptA ⟨P.c,d,tr,now,min q.u P.en⟩);have HPS:=I (show csP.size=37 by rw[ecsP];exact DG hPP);have HPI:=I (show(Tryz.prog.info? 39).map (·.size)=some csP.size by rw[ecsP];exact FA hPP);have HPO:=I (show csP.all (·.oneCell')=true by rw[ecsP];exact Gt _);rw[<-ecsP] at CA;rw[<-ecsP] at HBP;rw[show keyA d=csD from ecsD.symm] at HBP;obtain⟨en,een⟩:=Ak (min q.u P.en);rw[<-een] at HBP;have een3:min q.u P.en=en:=een.symm;clear een err ecsP hPP hys htl;have HRES:=I hr;clear hr hps hCG hCX;clear h hb hc hn hi hl hR hT hs1 hs2 hd hv1 hv2 ecsD ecsQ ecsT ht
 (try clear ha)
 (try clear ecsO)
 (try clear ecsK)
 (try clear hnow)
 (try clear hn0)
 (try clear hn9)
 (try clear hP)
 (try clear hql)
 (try clear hpo)
 (try clear hps)
 (try clear ho)
 (try clear h1a)
 (try clear h2a)
 (try clear h3a)
 (try clear hY)
 go_enter Tryz.func10,Tryz.ntmps10
 go_upto_region 1 with fail
 rw[<-eW];clear eW
 go_upto_region 3 with(first
  |(go_at_call 24;refine Aj (CT.o _) ?_;rintro wt hw;have hw:=hw.symm;subst hw;clear CT)
  |(refine Wh.Ax (by rfl) 30 (.tmp 5) (by rfl) (w.heap.size) 0 (by rfl) csQ _ (Wh.Ae HQ.o) Tryz.underlying30 (by rfl) HQI.o ?_)
  |(refine Lf (by rfl) 91 #[(0,.const (.int .i64 2)),(2,.tmp 25)] (by rfl) csM (by simp only[List.map_toArray,List.map_cons,List.map_nil];exact HBM.o) ?_;clear HBM)
  |(go_at_call 25;refine Aj (CM.o _ HV1.o HV2.o) ?_;rintro wm hb;clear CM;replace HQ:=I (HQ.o.below hb);replace HD:=I (HD.o.below hb);replace HR:=I (HR.o.below hb);replace HK:=I (HK.o.below hb);replace HV1:=I (HV1.o.below hb);replace HV2:=I (HV2.o.below hb);clear hb)
  |fail)
 go_upto_region 4 with(first
  |(refine Wh.Ax (by rfl) 28 (.tmp 33) (by rfl) (w.heap.size) 0 (by rfl) csT _ (HTR.o _ HQ.o) Tryz.underlying28 (by rfl) HTI.o ?_)
  |(go_at_call 26;refine Calls.mono (CO.o _ HK.o.st HV1.o) ?_;rintro e wo ⟨es1,rfl,hk⟩;clear CO;have h1HQ:=hk.blk HQ.o HOQ.o.no;have h2HQ:=hk.off HOQ.o HQ.o.lt;have h1HD:=hk.blk HD.o HOD.o.no;have h2HD:=hk.off HOD.o HD.o.lt;have h1HR:=hk.blk HR.o HOR.o.no;have h2HR:=hk.off HOR.o HR.o.lt;have h3:=hk.sl HV1.o;have h4:=hk.sl HV2.o;replace HQ:=I h1HQ;replace HOQ:=I h2HQ;clear h1HQ h2HQ;replace HD:=I h1HD;replace HOD:=I h2HD;clear h1HD h2HD;replace HR:=I h1HR;replace HOR:=I h2HR;clear h1HR h2HR;replace HV1:=I h3;replace HV2:=I h4;clear h3 h4;replace HK:=I (HK.o.trans hk);clear hk)
  |(refine Wh.Bg (by rfl) 39 (.tmp 10) (.tmp 37) (by rfl) 39 rfl csO (by rfl) (by rfl) (by rw[HOS.o];rfl) HOI.o HOO1.o ?_;rintro V1 hV hb;have HP:=I hV;have HOP:=I (HK.o.st.offs (Nat.le_refl wo.heap.size));clear hV;replace HQ:=I (HQ.o.below hb);replace HD:=I (HD.o.below hb);replace HR:=I (HR.o.below hb);replace HK:=I (HK.o.below hb);replace HV1:=I (HV1.o.below hb);replace HV2:=I (HV2.o.below hb);clear hb)
  |fail)
 by_cases hz:e0=0
 ·subst hz
  replace CX:=I (CX.o rfl);replace CA:=I (CA.o rfl);have hr2:=HRES.o;rw[if_pos rfl] at hr2;replace HRES:=I hr2;clear hr2
  go_upto_region 7 with(first
   |(refine Wh.Ax (by rfl) 35 (.tmp 43) (by rfl) (wo.heap.size) 2 (by rfl) csK _ (HPK.o _ _ HP.o) Tryz.underlying35 (by rfl) HKI.o ?_)
   |(go_at_call 27;refine Calls.mono (CN.o _ _ HK.o.st) ?_;rintro e wn ⟨xb,rfl,hk⟩;clear CN;have HXB:=I (show Hdl es1 (some ⟨xb,ksOf P.ss,none,0,0,0⟩) xb (ksOf P.ss) from .inr ⟨_,rfl,rfl,rfl⟩);have h1HQ:=hk.blk HQ.o HOQ.o.no;have h2HQ:=hk.off HOQ.o HQ.o.lt;have h1HD:=hk.blk HD.o HOD.o.no;have h2HD:=hk.off HOD.o HD.o.lt;have h1HR:=hk.blk HR.o HOR.o.no;have h2HR:=hk.off HOR.o HR.o.lt;have h1HP:=hk.blk HP.o HOP.o.no;have h2HP:=hk.off HOP.o HP.o.lt;have h3:=hk.sl HV1.o;have h4:=hk.sl HV2.o;replace HQ:=I h1HQ;replace HOQ:=I h2HQ;clear h1HQ h2HQ;replace HD:=I h1HD;replace HOD:=I h2HD;clear h1HD h2HD;replace HR:=I h1HR;replace HOR:=I h2HR;clear h1HR h2HR;replace HP:=I h1HP;replace HOP:=I h2HP;clear h1HP h2HP;replace HV1:=I h3;replace HV2:=I h4;clear h3 h4;replace HK:=I (HK.o.trans hk);clear hk)
   |fail)
  have kq4:=HQ4.o _ HQ.o;have kp0:=HP0.o _ _ HP.o;have kp1:=HP1.o _ _ HP.o
  go_upto_region 8 with(first
   |(go_at_call 28;refine Calls.mono (CC.o _ _ _ _ HK.o.st HXB.o HV2.o) ?_;rintro e wu ⟨es2,s2,rfl,hk⟩;clear CC;have hx:=hk.hdl HXB.o;replace HXB:=I hx;clear hx;have h1HQ:=hk.blk HQ.o HOQ.o.no;have h2HQ:=hk.off HOQ.o HQ.o.lt;have h1HD:=hk.blk HD.o HOD.o.no;have h2HD:=hk.off HOD.o HD.o.lt;have h1HR:=hk.blk HR.o HOR.o.no;have h2HR:=hk.off HOR.o HR.o.lt;have h1HP:=hk.blk HP.o HOP.o.no;have h2HP:=hk.off HOP.o HP.o.lt;have h3:=hk.sl HV1.o;have h4:=hk.sl HV2.o;replace HQ:=I h1HQ;replace HOQ:=I h2HQ;clear h1HQ h2HQ;replace HD:=I h1HD;replace HOD:=I h2HD;clear h1HD h2HD;replace HR:=I h1HR;replace HOR:=I h2HR;clear h1HR h2HR;replace HP:=I h1HP;replace HOP:=I h2HP;clear h1HP h2HP;replace HV1:=I h3;replace HV2:=I h4;clear h3 h4;replace HK:=I (HK.o.trans hk);clear hk)
   |fail)
  clear kq4 kp0 kp1
  by_cases hz:e1=0
  ·subst hz
   have hr2:=HRES.o;rw[if_pos rfl] at hr2;replace HRES:=I hr2;clear hr2
   go_upto_region 10 with(first
    |fail
    |fail)
   have kq5:=HQ5.o _ HQ.o;have kq6:=HQ6.o _ HQ.o
   go_upto_region 11 with(first
    |(go_at_call 29;refine Calls.mono (CG.o _ _ HK.o.eq HK.o.st.k) ?_;rintro e wr ⟨csH,rfl,hb,hsz,htf⟩;clear CG;have HHS:=I hsz.1;have HHO:=I hsz.2.1;have HHI:=I hsz.2.2;have HTF:=I htf;clear hsz htf;(try clear kq5 kq6);replace HQ:=I (HQ.o.below hb);replace HD:=I (HD.o.below hb);replace HR:=I (HR.o.below hb);replace HP:=I (HP.o.below hb);replace HK:=I (HK.o.below hb);replace HV1:=I (HV1.o.below hb);replace HV2:=I (HV2.o.below hb);clear hb)
    |(refine Wh.Bg (by rfl) 98 (.tmp 14) (.tmp 62) (by rfl) 98 rfl csH (by rfl) (by rfl) (by rw[HHS.o];rfl) HHI.o HHO.o ?_;rintro V2 hV hb;have HT:=I hV;have HOT:=I (HK.o.st.offs (Nat.le_refl wr.heap.size));clear hV;replace HQ:=I (HQ.o.below hb);replace HD:=I (HD.o.below hb);replace HR:=I (HR.o.below hb);replace HP:=I (HP.o.below hb);replace HK:=I (HK.o.below hb);replace HV1:=I (HV1.o.below hb);replace HV2:=I (HV2.o.below hb);clear hb)
    |fail)
   (try clear kq5 kq6)
   by_cases hz:e2=0
   ·subst hz
    have hr2:=HRES.o;rw[if_pos rfl] at hr2;replace HRES:=I hr2;clear hr2
    go_upto_region 13 with(first
     |fail
     |fail)
    go_upto_region 14 with(first
     |(refine Wh.Ax (by rfl) 39 (.tmp 10) (by rfl) (wo.heap.size) 0 (by rfl) csO _ (Wh.Ae HP.o) Tryz.underlying39 (by rfl) HOI.o ?_)
     |(refine Wh.Ax (by rfl) 30 (.tmp 5) (by rfl) (w.heap.size) 0 (by rfl) csQ _ (Wh.Ae HQ.o) Tryz.underlying30 (by rfl) HQI.o ?_)
     |(go_at_call 30;refine Aj (CX.o _ _ HK.o.st.k) ?_;rintro wx hb;clear CX;replace HQ:=I (HQ.o.below hb);replace HD:=I (HD.o.below hb);replace HR:=I (HR.o.below hb);replace HP:=I (HP.o.below hb);replace HT:=I (HT.o.below hb);replace HK:=I (HK.o.below hb);replace HV1:=I (HV1.o.below hb);replace HV2:=I (HV2.o.below hb);clear hb)
     |fail)
    by_cases hz:e3=0
    ·subst hz
     have hr2:=HRES.o;rw[if_pos rfl] at hr2;replace HRES:=I hr2;clear hr2
     go_upto_region 16 with(first
      |fail
      |fail)
     have kq7:=HQ7.o _ HQ.o;have kq8:=HQ8.o _ HQ.o
     by_cases hti:q.u<now
     ·skip
      have er:r=(7,Ms.re0):=by rw[<-HRES.o,if_pos hti]
      subst er;have d1:decide (q.u<now)=true:=decide_eq_true hti;clear hti;have kr0:=HR.o.cell 0;have kr1:=HR.o.cell 1;have kr2:=HR.o.cell 2;have kr3:=HR.o.cell 3;have kr4:=HR.o.cell 4;have kr5:=HR.o.cell 5;have kr6:=HR.o.cell 6;have fz:=HR.o.frozen
      go_wp2_with (first
       |fail
       |fail)
      refine bodyPost_ret (v:=.tuple #[.agg reZ,.int .i64 7]) ?_ ?_ ?_
      ·exact Ad (v:=.agg reZ) 8 9 43 ⟨w.heap.size+1+1,0,none⟩ Tryz.results10 rfl (Wh.Al (set7 HR.o _ _ _ _ _ _ _) Tryz.underlying43 (by rfl) AK) rfl
      ·rfl
      ·exact Ce ((HK.o.put7 (by omega) HOR.o _ _ _ _ _ _ _).more (by omega)) (by decide)
     ·skip
      have er:rr=r:=by rw[<-HRES.o,if_neg hti]
      subst er;have d1:decide (q.u<now)=false:=decide_eq_false hti;clear hti
      go_upto_region 18 with(first
       |fail
       |fail)
      have kp0:=HP0.o _ _ HP.o;have kp1:=HP1.o _ _ HP.o;have kp36:=HP36.o _ _ HP.o
      go_upto_region 19 with(first
       |(refine Wh.Ax (by rfl) 35 (.tmp 7) (by rfl) (w.heap.size+1) 0 (by rfl) csD _ (Wh.Ae HD.o) Tryz.underlying35 (by rfl) HDI.o ?_)
       |(refine Mc.AA (by rfl) 39 #[(0,.tmp 85),(1,.tmp 86),(2,.tmp 87),(3,.tmp 88),(4,.tmp 93)] (by rfl) csP (by simp only[List.map_toArray,List.map_cons,List.map_nil];exact HBP.o) ?_;clear HBP)
       |(refine Wh.Bg (by rfl) 39 (.tmp 16) (.tmp 94) (by rfl) 39 rfl csP (by rfl) (by rfl) (by rw[HPS.o];rfl) HPI.o HPO.o ?_;rintro V3 hV hb;have HV:=I hV;have HOV:=I (HK.o.st.offs (Nat.le_refl wx.heap.size));clear hV;(try clear kq7 kq8 kp0 kp1 kp36);replace HQ:=I (HQ.o.below hb);replace HD:=I (HD.o.below hb);replace HR:=I (HR.o.below hb);replace HP:=I (HP.o.below hb);replace HT:=I (HT.o.below hb);replace HK:=I (HK.o.below hb);replace HV1:=I (HV1.o.below hb);replace HV2:=I (HV2.o.below hb);clear hb)
       |fail)
      have kq8:=HQ8.o _ HQ.o
      go_wp2_with (first
       |(refine Wh.Ax (by rfl) 98 (.tmp 14) (by rfl) (wr.heap.size) 0 (by rfl) csH _ (Wh.Ae HT.o) Tryz.underlying98 (by rfl) HHI.o ?_)
       |(refine Wh.Ax (by rfl) 39 (.tmp 16) (by rfl) (wx.heap.size) 0 (by rfl) csP _ (Wh.Ae HV.o) Tryz.underlying39 (by rfl) HPI.o ?_)
       |(obtain⟨j3,x3,hl3,hx3,eH⟩:=HTF.o (by simp);have hkk:=Lg hl3 hx3;rw[KZ HK.o.eq] at hkk;subst eH;go_at_call 31;refine Calls.mono (CA.o _ _ _ _ _ _ _ HK.o.st (.inl ⟨j3,x3,hx3,rfl,rfl⟩) HXB.o hkk.1 hkk.2.1) ?_;rintro e wa ⟨csL,es9,s9,rfl,hre,hk⟩;clear CA kq8 hkk hl3 hx3 HTF HXB;have hf:=Mn hre;have HCS:=I hf.1;have HCO:=I hf.2.1;have HCI:=I hf.2.2;have HLT:=I HR.o.lt;have HSZ:=I HK.o.size;have HRE:=I hre;clear hf hre HQ HD HP HT HV HHI HPI;have h1HR:=hk.blk HR.o HOR.o.no;have h2HR:=hk.off HOR.o HR.o.lt;replace HR:=I h1HR;replace HOR:=I h2HR;clear h1HR h2HR;replace HK:=I (HK.o.trans hk);clear hk)
       |(refine Wh.Bh (by rfl) 43 (.tmp 8) (.tmp 102) (by rfl) (w.heap.size+1+1) 43 _ HR.o csL (by rfl) (by rfl) (by rw[HCS.o];rfl) HCI.o HCO.o ?_;rintro V4 hV4 hg;replace HR:=I hV4;have HG:=I hg;clear hV4 hg HCS)
       |fail)
      refine bodyPost_ret (v:=.tuple #[.agg csL,.int .i64 rr.1]) ?_ ?_ ?_
      ·exact Ad (v:=.agg csL) 8 9 43 ⟨w.heap.size+1+1,0,none⟩ Tryz.results10 rfl (Wh.Al HR.o Tryz.underlying43 (by rfl) HCI.o) rfl
      ·rfl
      ·exact⟨csL,es9,s9,rfl,HRE.o.over HSZ.o HLT.o HG.o,(HK.o.over (by omega) HOR.o HG.o).more (by omega)⟩
    ·skip
     have er:r=((e3:Int),Ms.re0):=by rw[<-HRES.o,if_neg hz]
     subst er;have hz:(e3:Int)≠0:=by omega
     obtain⟨e4,ee4⟩:=Ak ((e3:Int));rw[<-ee4] at hz;simp only[<-ee4];have kr0:=HR.o.cell 0;have kr1:=HR.o.cell 1;have kr2:=HR.o.cell 2;have kr3:=HR.o.cell 3;have kr4:=HR.o.cell 4;have kr5:=HR.o.cell 5;have kr6:=HR.o.cell 6;have fz:=HR.o.frozen
     go_wp2_with (first
      |fail
      |fail)
     subst ee4;refine bodyPost_ret (v:=.tuple #[.agg reZ,.int .i64 (e3:Int)]) ?_ ?_ ?_
     ·exact Ad (v:=.agg reZ) 8 9 43 ⟨w.heap.size+1+1,0,none⟩ Tryz.results10 rfl (Wh.Al (set7 HR.o _ _ _ _ _ _ _) Tryz.underlying43 (by rfl) AK) rfl
     ·rfl
     ·exact Ce ((HK.o.put7 (by omega) HOR.o _ _ _ _ _ _ _).more (by omega)) hz
   ·skip
    have er:r=(e2,Ms.re0):=by rw[<-HRES.o,if_neg hz]
    subst er;have kr0:=HR.o.cell 0;have kr1:=HR.o.cell 1;have kr2:=HR.o.cell 2;have kr3:=HR.o.cell 3;have kr4:=HR.o.cell 4;have kr5:=HR.o.cell 5;have kr6:=HR.o.cell 6;have fz:=HR.o.frozen
    go_wp2_with (first
     |fail
     |fail)
    refine bodyPost_ret (v:=.tuple #[.agg reZ,.int .i64 e2]) ?_ ?_ ?_
    ·exact Ad (v:=.agg reZ) 8 9 43 ⟨w.heap.size+1+1,0,none⟩ Tryz.results10 rfl (Wh.Al (set7 HR.o _ _ _ _ _ _ _) Tryz.underlying43 (by rfl) AK) rfl
    ·rfl
    ·exact Ce ((HK.o.put7 (by omega) HOR.o _ _ _ _ _ _ _).more (by omega)) hz
  ·skip
   have er:r=(e1,Ms.re0):=by rw[<-HRES.o,if_neg hz]
   subst er;have kr0:=HR.o.cell 0;have kr1:=HR.o.cell 1;have kr2:=HR.o.cell 2;have kr3:=HR.o.cell 3;have kr4:=HR.o.cell 4;have kr5:=HR.o.cell 5;have kr6:=HR.o.cell 6;have fz:=HR.o.frozen
   go_wp2_with (first
    |fail
    |fail)
   refine bodyPost_ret (v:=.tuple #[.agg reZ,.int .i64 e1]) ?_ ?_ ?_
   ·exact Ad (v:=.agg reZ) 8 9 43 ⟨w.heap.size+1+1,0,none⟩ Tryz.results10 rfl (Wh.Al (set7 HR.o _ _ _ _ _ _ _) Tryz.underlying43 (by rfl) AK) rfl
   ·rfl
   ·exact Ce ((HK.o.put7 (by omega) HOR.o _ _ _ _ _ _ _).more (by omega)) hz
 ·skip
  have er:r=(e0,Ms.re0):=by rw[<-HRES.o,if_neg hz]
  subst er;have kr0:=HR.o.cell 0;have kr1:=HR.o.cell 1;have kr2:=HR.o.cell 2;have kr3:=HR.o.cell 3;have kr4:=HR.o.cell 4;have kr5:=HR.o.cell 5;have kr6:=HR.o.cell 6;have fz:=HR.o.frozen
  go_wp2_with (first
   |fail
   |fail)
  refine bodyPost_ret (v:=.tuple #[.agg reZ,.int .i64 e0]) ?_ ?_ ?_
  ·exact Ad (v:=.agg reZ) 8 9 43 ⟨w.heap.size+1+1,0,none⟩ Tryz.results10 rfl (Wh.Al (set7 HR.o _ _ _ _ _ _ _) Tryz.underlying43 (by rfl) AK) rfl
  ·rfl
  ·exact Ce ((HK.o.put7 (by omega) HOR.o _ _ _ _ _ _ _).more (by omega)) hz
theorem Yi {l:List It} {q Y:Ms.Pr} {e2:Int} {T:Rt.Tp} {R:Nm.L} (hs:pSm q) (hx:q.1=R) (h:tarL R T l q=(e2,Y)):pSm Y:=by
 unfold tarL at h;rw[if_pos hx] at h
 split at h
 ·injection h with _ h;subst h;exact hs
 ·injection h with _ h;subst h;exact Mc.Cl
theorem Yj {q:Tg} {bv av:Value} {d:Nm.L} {now:Int} (h:KS w B p es none n i c) (hc:c<800000) (hn:n<800000) (hi:i<800000) (hl:es.length<=1000) (hR:p.R.length<=1000) (hT:Sm p.T) (hd:d.length=32) (hv1:SlN (KSO p es none) w bv q.t.b) (hv2:SlN (KSO p es none) w av q.a) (hs1:pSm q.t.s) (hs2:pSm q.s) (hx1:q.s.1=p.R) (hx2:q.t.s.1=p.R) :
  Calls Tryz.prog 10 #[.pointer (some ⟨p.k,0,none⟩),.agg (tgA q bv av),.int .i64 now,.agg (keyA d)] w (AnsR w B p es none n i (c+6) (tgsL p.R p.T (its es) n q now d)):=by
 unfold tgsL;cases ht:tmB now with
 |false=>exact tgs_1 h hc hn hi hl hR hT hd hv1 hv2 hs1 hs2 ht
 |true=>
  cases ha:tgB q with
  |false=>exact tgs_2 h hc hn hi hl hR hT hd hv1 hv2 hs1 hs2 ht ha
  |true=>
   rw[if_pos (show(true&&true)=true from rfl)];obtain⟨⟨e0,P⟩,ho⟩:∃z,opnL p.R (its es) q.t now=z:=⟨_,rfl⟩;obtain⟨e1,h1a⟩:∃z,autL P.ss q.a P.c now=z:=⟨_,rfl⟩;obtain⟨⟨e2,Y⟩,h2a⟩:∃z,tarL p.R p.T (its es) q.s=z:=⟨_,rfl⟩;obtain⟨⟨tr,e3⟩,h3a⟩:∃z,trsL p.R P q.t.s.1 q.s=z:=⟨_,rfl⟩;have hpo:=fun(hz:e0=0)=>(show ptB P=true by have:=(GZ p.R (its es) q.t now).2;rw[ho] at this;exact this hz)
   have hP:P.ss.length=32:=by have:=(GZ p.R (its es) q.t now).1;rw[ho] at this;exact this
   have hql:=Tu ha;have htl:e0=0->tr.length<=1000000000:=fun hz=>by
    have hp2:=Ha (hpo hz);have h5:trsL p.R P q.t.s.1 q.s=(P.tr,0):=by unfold trsL;rw[if_pos (.inl hx2)]
    rw[h3a] at h5;injection h5 with h5 _;subst h5;omega
   refine Vo h hc hn hi hl hR hT hd hv1 hv2 hs1 hs2 ht ha ho h1a (Yi hs2 hx1 h2a) htl (fun w1 es1 he h1=>Yg h2a he hl hR hql.2 hT h1 hx1) (fun hz w1 es1 h1=>by
    have hp2:=Ha (hpo hz);exact Yh (bv:=bv) (av:=av) h3a hP (by omega) (by omega) hql.1 (by omega) h1 hx2) ?_
   rw[ho];simp only[h1a,h2a,h3a]
   all_goals rfl
end
end Kd
namespace Kd
open Go.RowKit Af Se
open Rg (It Ent Ring RO its Bz Bw Cp)
open SeL (Bd AN)
open Ms (Pt Rp Re Tk As Tg Mg Fa pSm mSm tmB asB tgB ptB mgO tgC asC reC as0 tg0 re0 ap0 fa0)
open Nm (krb)
open Rt (nxB nxS Sm)
section
variable {w:World} {B:Nat} {p:KP} {es:List Ent} {s:Option Ss} {n i c:Nat}
def MgK (S:Nat->Prop) (w:World) (ds:Array Value) (m:Mg):Prop:=
 ∃bv av pr pp pf,ds=Mc.mgA m.k (asA m.aq) (tgA m.tg bv av) pr pp pf/\SlN S w bv m.tg.t.b/\SlN S w av m.tg.a/\Mc.MgP w w.heap.size (asA m.aq) (tgA m.tg bv av) pr pp pf m
theorem MgK.size {S:Nat->Prop} {ds:Array Value} {m:Mg} (h:MgK S w ds m):ds.size=30/\ds.all (·.oneCell')=true/\(Tryz.prog.info? 91).map (·.size)=some ds.size:=by
 obtain⟨bv,av,pr,pp,pf,h1,_,_,h4⟩:=h;have hs:ds.size=30:=by rw[h1];exact h4.size m.k
 refine⟨hs,by rw[h1];exact h4.one m.k,by rw[hs];exact Mc.Dv⟩
end
end Kd
namespace Kd
open Go.RowKit Af Se
open Rg (It Ent Ring RO its Ad Bz Bw BG Cx)
open SeL (Bd AN)
open Ms (Pt Rp Re Tk As pSm tmB asB)
open Nm (krb)
section
variable {w:World} {B:Nat} {p:KP} {es:List Ent} {n i c:Nat}
theorem as_1 {q:As} {d:Nm.L} {now:Int} (h:KS w B p es none n i c) (hc:c<800000) (hn:n<800000) (hi:i<800000) (hl:es.length<=1000) (hR:p.R.length<=1000) (hd:d.length=32) (hs1:pSm q.c) (hs2:pSm q.s) (ht:tmB now=false) :
  Calls Tryz.prog 32 #[.pointer (some ⟨p.k,0,none⟩),.agg (asA q),.int .i64 now,.agg (keyA d)] w (AnsR w B p es none n i (c+4) (1,Ms.re0)):=by
 obtain⟨csD,ecsD⟩:=Ak (keyA d);rw[<-ecsD];obtain⟨W,eW⟩:=Ak (((w.alloc (.cells (asA q) 85)).alloc (.cells csD 35)).alloc (.cells reZ 43));have hb:Below w.heap.size w W:=eW▸((Ah.alloc Ag _).alloc (by simp) _).alloc (by simp;omega) _;have HQ:=I (show Blk W w.heap.size 85 (asA q) from eW▸((Blk.new w _ _).alloc _).alloc _);have HD:=I (show Blk W (w.heap.size+1) 35 csD by have:=(Blk.new (w.alloc (.cells (asA q) 85)) 35 csD).alloc (.cells reZ 43);simp only[World.size_alloc] at this;exact eW▸this);have HR:=I (show Blk W (w.heap.size+1+1) 43 reZ by have:=Blk.new ((w.alloc (.cells (asA q) 85)).alloc (.cells csD 35)) 43 reZ;simp only[World.size_alloc] at this;exact eW▸this);have HK:=I (Kn.start h hb);have HOR:=I (h.offs (show w.heap.size<=w.heap.size+1+1 by omega));have HDI:=I (show(Tryz.prog.info? 35).map (·.size)=some csD.size by rw[ecsD];exact BQ hd);have HC:=I hc;have HNN:=I hn;have HII:=I hi;have CT:=I (fun(w1:World)=>Ec now w1);rw[ht] at CT;clear ht;clear h hb hc hn hi hl hR hs1 hs2 hd ecsD;go_enter Tryz.func32,Tryz.ntmps32
 go_upto_region 1 with fail
 rw[<-eW];clear eW;have kq0:W.cell? ⟨w.heap.size,0,none⟩=some (.string ⟨q.c.1.toArray⟩):=HQ.o.cell 0;have kq1:W.cell? ⟨w.heap.size,1,none⟩=some (.string ⟨q.c.2.toArray⟩):=HQ.o.cell 1;have kq2:W.cell? ⟨w.heap.size,2,none⟩=some (.string ⟨q.s.1.toArray⟩):=HQ.o.cell 2;have kq3:W.cell? ⟨w.heap.size,3,none⟩=some (.string ⟨q.s.2.toArray⟩):=HQ.o.cell 3;have kq4:W.cell? ⟨w.heap.size,4,none⟩=some (.int .i64 q.t):=HQ.o.cell 4;have kq5:W.cell? ⟨w.heap.size,5,none⟩=some (.int .i64 q.no):=HQ.o.cell 5;have kr0:=HR.o.cell 0;have kr1:=HR.o.cell 1;have kr2:=HR.o.cell 2;have kr3:=HR.o.cell 3;have kr4:=HR.o.cell 4;have kr5:=HR.o.cell 5;have kr6:=HR.o.cell 6;have fz:=HR.o.frozen
 go_wp2_with (first
  |(go_at_call 24;refine Aj (CT.o _) ?_;rintro wt hw;have hw:=hw.symm;subst hw;clear CT)
  |fail)
 refine bodyPost_ret (v:=.tuple #[.agg reZ,.int .i64 1]) ?_ ?_ ?_
 ·exact Ad (v:=.agg reZ) 8 9 43 ⟨w.heap.size+1+1,0,none⟩ Tryz.results32 rfl (Wh.Al (set7 HR.o _ _ _ _ _ _ _) Tryz.underlying43 (by rfl) AK) rfl
 ·rfl
 ·exact Ce ((HK.o.put7 (by omega) HOR.o _ _ _ _ _ _ _).more (by omega)) (by decide)
theorem as_2 {q:As} {d:Nm.L} {now:Int} (h:KS w B p es none n i c) (hc:c<800000) (hn:n<800000) (hi:i<800000) (hl:es.length<=1000) (hR:p.R.length<=1000) (hd:d.length=32) (hs1:pSm q.c) (hs2:pSm q.s) (ht:tmB now=true) (ha:asB q=false) :
  Calls Tryz.prog 32 #[.pointer (some ⟨p.k,0,none⟩),.agg (asA q),.int .i64 now,.agg (keyA d)] w (AnsR w B p es none n i (c+4) (1,Ms.re0)):=by
 obtain⟨csD,ecsD⟩:=Ak (keyA d);rw[<-ecsD];obtain⟨W,eW⟩:=Ak (((w.alloc (.cells (asA q) 85)).alloc (.cells csD 35)).alloc (.cells reZ 43));have hb:Below w.heap.size w W:=eW▸((Ah.alloc Ag _).alloc (by simp) _).alloc (by simp;omega) _;have HQ:=I (show Blk W w.heap.size 85 (asA q) from eW▸((Blk.new w _ _).alloc _).alloc _);have HD:=I (show Blk W (w.heap.size+1) 35 csD by have:=(Blk.new (w.alloc (.cells (asA q) 85)) 35 csD).alloc (.cells reZ 43);simp only[World.size_alloc] at this;exact eW▸this);have HR:=I (show Blk W (w.heap.size+1+1) 43 reZ by have:=Blk.new ((w.alloc (.cells (asA q) 85)).alloc (.cells csD 35)) 43 reZ;simp only[World.size_alloc] at this;exact eW▸this);have HK:=I (Kn.start h hb);have HOR:=I (h.offs (show w.heap.size<=w.heap.size+1+1 by omega));have HDI:=I (show(Tryz.prog.info? 35).map (·.size)=some csD.size by rw[ecsD];exact BQ hd);have HC:=I hc;have HNN:=I hn;have HII:=I hi;have CT:=I (fun(w1:World)=>Ec now w1);rw[ht] at CT;have CM:=I (fun(w1:World)=>FX _ (mAs q) w1 (ZV w1 q) ⟨⟨hs1,hs2⟩,⟨Mc.Cl,Mc.Cl⟩,⟨Mc.Cl,Mc.Cl⟩,Mc.Cl⟩);have HBM:=I (Mm q);obtain⟨csM,ecsM⟩:=Ak (Mc.mgA 1 (asA q) Mc.zT Mc.zR Mc.zP Mc.zF);rw[<-ecsM] at CM HBM;clear ecsM;rw[Wj] at CM;rw[ha] at CM;clear ht ha;clear h hb hc hn hi hl hR hs1 hs2 hd ecsD;go_enter Tryz.func32,Tryz.ntmps32
 go_upto_region 1 with fail
 rw[<-eW];clear eW;have kq0:W.cell? ⟨w.heap.size,0,none⟩=some (.string ⟨q.c.1.toArray⟩):=HQ.o.cell 0;have kq1:W.cell? ⟨w.heap.size,1,none⟩=some (.string ⟨q.c.2.toArray⟩):=HQ.o.cell 1;have kq2:W.cell? ⟨w.heap.size,2,none⟩=some (.string ⟨q.s.1.toArray⟩):=HQ.o.cell 2;have kq3:W.cell? ⟨w.heap.size,3,none⟩=some (.string ⟨q.s.2.toArray⟩):=HQ.o.cell 3;have kq4:W.cell? ⟨w.heap.size,4,none⟩=some (.int .i64 q.t):=HQ.o.cell 4;have kq5:W.cell? ⟨w.heap.size,5,none⟩=some (.int .i64 q.no):=HQ.o.cell 5
 go_upto_region 2 with(first
  |(go_at_call 24;refine Aj (CT.o _) ?_;rintro wt hw;have hw:=hw.symm;subst hw;clear CT)
  |(refine Lf (by rfl) 91 #[(0,.const (.int .i64 1)),(1,.tmp 22)] (by rfl) csM (by simp only[List.map_toArray,List.map_cons,List.map_nil];exact HBM.o) ?_;clear HBM)
  |(go_at_call 25;refine Aj (CM.o _) ?_;rintro wm hb;clear CM;clear kq0 kq1 kq2 kq3 kq4 kq5;replace HQ:=I (HQ.o.below hb);replace HD:=I (HD.o.below hb);replace HR:=I (HR.o.below hb);replace HK:=I (HK.o.below hb);have kq0:wm.cell? ⟨w.heap.size,0,none⟩=some (.string ⟨q.c.1.toArray⟩):=HQ.o.cell 0;have kq1:wm.cell? ⟨w.heap.size,1,none⟩=some (.string ⟨q.c.2.toArray⟩):=HQ.o.cell 1;have kq2:wm.cell? ⟨w.heap.size,2,none⟩=some (.string ⟨q.s.1.toArray⟩):=HQ.o.cell 2;have kq3:wm.cell? ⟨w.heap.size,3,none⟩=some (.string ⟨q.s.2.toArray⟩):=HQ.o.cell 3;have kq4:wm.cell? ⟨w.heap.size,4,none⟩=some (.int .i64 q.t):=HQ.o.cell 4;have kq5:wm.cell? ⟨w.heap.size,5,none⟩=some (.int .i64 q.no):=HQ.o.cell 5;clear hb)
  |fail)
 have kr0:=HR.o.cell 0;have kr1:=HR.o.cell 1;have kr2:=HR.o.cell 2;have kr3:=HR.o.cell 3;have kr4:=HR.o.cell 4;have kr5:=HR.o.cell 5;have kr6:=HR.o.cell 6;have fz:=HR.o.frozen
 go_wp2_with (first
  |fail)
 refine bodyPost_ret (v:=.tuple #[.agg reZ,.int .i64 1]) ?_ ?_ ?_
 ·exact Ad (v:=.agg reZ) 8 9 43 ⟨w.heap.size+1+1,0,none⟩ Tryz.results32 rfl (Wh.Al (set7 HR.o _ _ _ _ _ _ _) Tryz.underlying43 (by rfl) AK) rfl
 ·rfl
 ·exact Ce ((HK.o.put7 (by omega) HOR.o _ _ _ _ _ _ _).more (by omega)) (by decide)
theorem Yk {q:As} {d:Nm.L} {now:Int} (h:KS w B p es none n i c) (hc:c<800000) (hn:n<800000) (hi:i<800000) (hl:es.length<=1000) (hR:p.R.length<=1000) (hd:d.length=32) (hs1:pSm q.c) (hs2:pSm q.s) {r:Int×Re} (ht:tmB now=true) (ha:asB q=true) (hrr:asL p.R (its es) n q now d=r) :
  Calls Tryz.prog 32 #[.pointer (some ⟨p.k,0,none⟩),.agg (asA q),.int .i64 now,.agg (keyA d)] w (AnsR w B p es none n i (c+4) r):=by
 obtain⟨csD,ecsD⟩:=Ak (keyA d);rw[<-ecsD];obtain⟨W,eW⟩:=Ak (((w.alloc (.cells (asA q) 85)).alloc (.cells csD 35)).alloc (.cells reZ 43));have hb:Below w.heap.size w W:=eW▸((Ah.alloc Ag _).alloc (by simp) _).alloc (by simp;omega) _;have HQ:=I (show Blk W w.heap.size 85 (asA q) from eW▸((Blk.new w _ _).alloc _).alloc _);have HD:=I (show Blk W (w.heap.size+1) 35 csD by have:=(Blk.new (w.alloc (.cells (asA q) 85)) 35 csD).alloc (.cells reZ 43);simp only[World.size_alloc] at this;exact eW▸this);have HR:=I (show Blk W (w.heap.size+1+1) 43 reZ by have:=Blk.new ((w.alloc (.cells (asA q) 85)).alloc (.cells csD 35)) 43 reZ;simp only[World.size_alloc] at this;exact eW▸this);have HK:=I (Kn.start h hb);have HOR:=I (h.offs (show w.heap.size<=w.heap.size+1+1 by omega));have HDI:=I (show(Tryz.prog.info? 35).map (·.size)=some csD.size by rw[ecsD];exact BQ hd);have HC:=I hc;have HNN:=I hn;have HII:=I hi;have CT:=I (fun(w1:World)=>Ec now w1);rw[ht] at CT;have CM:=I (fun(w1:World)=>FX _ (mAs q) w1 (ZV w1 q) ⟨⟨hs1,hs2⟩,⟨Mc.Cl,Mc.Cl⟩,⟨Mc.Cl,Mc.Cl⟩,Mc.Cl⟩);have HBM:=I (Mm q);obtain⟨csM,ecsM⟩:=Ak (Mc.mgA 1 (asA q) Mc.zT Mc.zR Mc.zP Mc.zF);rw[<-ecsM] at CM HBM;clear ecsM;rw[Wj] at CM;rw[ha] at CM;have HRL:=I (show(if q.c.1=p.R/\hasL (its es) q.c=true then if q.s=kr p.R p.R/\hasL (its es) q.s=true then if q.t<now then (7,Ms.re0) else ansL (its es) n q.c q.s ⟨q.c,d,[],now,min q.t (now+mxL)⟩ q.no (keyL (its es) q.c) 3 else (6,Ms.re0) else (5,Ms.re0))=r by rw[<-hrr];unfold asL;rw[ht,ha];rfl);have HHL:=I hl;have HHR:=I hR;have HHD:=I hd;have HS1:=I hs1;have HS2:=I hs2;have HTA:=I (And.intro ht ha);have EDD:=I ecsD;clear ht ha hrr;clear h hb hc hn hi hl hR hs1 hs2 hd ecsD;go_enter Tryz.func32,Tryz.ntmps32
 go_upto_region 1 with fail
 rw[<-eW];clear eW;have kq0:W.cell? ⟨w.heap.size,0,none⟩=some (.string ⟨q.c.1.toArray⟩):=HQ.o.cell 0;have kq1:W.cell? ⟨w.heap.size,1,none⟩=some (.string ⟨q.c.2.toArray⟩):=HQ.o.cell 1;have kq2:W.cell? ⟨w.heap.size,2,none⟩=some (.string ⟨q.s.1.toArray⟩):=HQ.o.cell 2;have kq3:W.cell? ⟨w.heap.size,3,none⟩=some (.string ⟨q.s.2.toArray⟩):=HQ.o.cell 3;have kq4:W.cell? ⟨w.heap.size,4,none⟩=some (.int .i64 q.t):=HQ.o.cell 4;have kq5:W.cell? ⟨w.heap.size,5,none⟩=some (.int .i64 q.no):=HQ.o.cell 5
 go_upto_region 3 with(first
  |(go_at_call 24;refine Aj (CT.o _) ?_;rintro wt hw;have hw:=hw.symm;subst hw;clear CT)
  |(refine Lf (by rfl) 91 #[(0,.const (.int .i64 1)),(1,.tmp 22)] (by rfl) csM (by simp only[List.map_toArray,List.map_cons,List.map_nil];exact HBM.o) ?_;clear HBM)
  |(go_at_call 25;refine Aj (CM.o _) ?_;rintro wm hb;clear CM;clear kq0 kq1 kq2 kq3 kq4 kq5;replace HQ:=I (HQ.o.below hb);replace HD:=I (HD.o.below hb);replace HR:=I (HR.o.below hb);replace HK:=I (HK.o.below hb);have kq0:wm.cell? ⟨w.heap.size,0,none⟩=some (.string ⟨q.c.1.toArray⟩):=HQ.o.cell 0;have kq1:wm.cell? ⟨w.heap.size,1,none⟩=some (.string ⟨q.c.2.toArray⟩):=HQ.o.cell 1;have kq2:wm.cell? ⟨w.heap.size,2,none⟩=some (.string ⟨q.s.1.toArray⟩):=HQ.o.cell 2;have kq3:wm.cell? ⟨w.heap.size,3,none⟩=some (.string ⟨q.s.2.toArray⟩):=HQ.o.cell 3;have kq4:wm.cell? ⟨w.heap.size,4,none⟩=some (.int .i64 q.t):=HQ.o.cell 4;have kq5:wm.cell? ⟨w.heap.size,5,none⟩=some (.int .i64 q.no):=HQ.o.cell 5;clear hb)
  |fail)
 cases hf1:Bz (its es) q.c with
 |none=>
  have er:r=(5,Ms.re0):=by rw[<-HRL.o];rw[if_neg (fun x=>by simp [hasL,hf1] at x)]
  subst er;have CF1:=I (fun(w1:World) (h1:KD w1 B p es n i)=>Jy h1 HHL.o hf1);clear hf1
  go_upto_region 4 with(first
   |(go_at_call 68;refine Aj (CF1.o _ HK.o.st.k) ?_;rintro w3 hb;clear CF1;(try clear kq0 kq1 kq2 kq3 kq4 kq5);replace HQ:=I (HQ.o.below hb);replace HD:=I (HD.o.below hb);replace HR:=I (HR.o.below hb);replace HK:=I (HK.o.below hb);have kq0:w3.cell? ⟨w.heap.size,0,none⟩=some (.string ⟨q.c.1.toArray⟩):=HQ.o.cell 0;have kq1:w3.cell? ⟨w.heap.size,1,none⟩=some (.string ⟨q.c.2.toArray⟩):=HQ.o.cell 1;have kq2:w3.cell? ⟨w.heap.size,2,none⟩=some (.string ⟨q.s.1.toArray⟩):=HQ.o.cell 2;have kq3:w3.cell? ⟨w.heap.size,3,none⟩=some (.string ⟨q.s.2.toArray⟩):=HQ.o.cell 3;have kq4:w3.cell? ⟨w.heap.size,4,none⟩=some (.int .i64 q.t):=HQ.o.cell 4;have kq5:w3.cell? ⟨w.heap.size,5,none⟩=some (.int .i64 q.no):=HQ.o.cell 5;clear hb)
   |fail)
  obtain⟨W4,eW4⟩:=Ak (w3.alloc (.cells #[.string ⟨#[]⟩,.string ⟨#[]⟩,.pointer none,.int .i64 0] 98));have hn:Blk W4 w3.heap.size 98 #[.string ⟨#[]⟩,.string ⟨#[]⟩,.pointer none,.int .i64 0]:=eW4▸Blk.new _ _ _;replace HQ:=I (show Blk W4 _ _ _ from eW4▸HQ.o.alloc _);replace HD:=I (show Blk W4 _ _ _ from eW4▸HD.o.alloc _);replace HR:=I (show Blk W4 _ _ _ from eW4▸HR.o.alloc _);replace HK:=I (show Kn w W4 B p es none es none n i c from eW4▸HK.o.alloc _);rw[<-eW4];clear eW4 kq0 kq1 kq2 kq3 kq4 kq5;obtain⟨PN1,ePN1⟩:=Ak (w3.heap.size);rw[<-ePN1] at hn⊢;have HN1:=I hn;clear ePN1 hn;have kq0:W4.cell? ⟨w.heap.size,0,none⟩=some (.string ⟨q.c.1.toArray⟩):=HQ.o.cell 0;have kq1:W4.cell? ⟨w.heap.size,1,none⟩=some (.string ⟨q.c.2.toArray⟩):=HQ.o.cell 1;have kq2:W4.cell? ⟨w.heap.size,2,none⟩=some (.string ⟨q.s.1.toArray⟩):=HQ.o.cell 2;have kq3:W4.cell? ⟨w.heap.size,3,none⟩=some (.string ⟨q.s.2.toArray⟩):=HQ.o.cell 3;have kq4:W4.cell? ⟨w.heap.size,4,none⟩=some (.int .i64 q.t):=HQ.o.cell 4;have kq5:W4.cell? ⟨w.heap.size,5,none⟩=some (.int .i64 q.no):=HQ.o.cell 5;have kk0:W4.cell? ⟨p.k,0,none⟩=some (.string ⟨p.R.toArray⟩):=HK.o.st.k.blk.cell 0
  go_quiet (fail)
  obtain⟨W5,eW5⟩:=Ak (W4.drewN nq);replace HQ:=I (show Blk W5 _ _ _ from eW5▸HQ.o.drewN nq);replace HD:=I (show Blk W5 _ _ _ from eW5▸HD.o.drewN nq);replace HR:=I (show Blk W5 _ _ _ from eW5▸HR.o.drewN nq);replace HN1:=I (show Blk W5 _ _ _ from eW5▸HN1.o.drewN nq);replace HK:=I (show Kn w W5 B p es none es none n i c from eW5▸HK.o.below (below_drewN Ah nq));rw[<-eW5];clear eW5 kq0 kq1 kq2 kq3 kq4 kq5;have kr0:=HR.o.cell 0;have kr1:=HR.o.cell 1;have kr2:=HR.o.cell 2;have kr3:=HR.o.cell 3;have kr4:=HR.o.cell 4;have kr5:=HR.o.cell 5;have kr6:=HR.o.cell 6;have fz:=HR.o.frozen;clear kk0
  go_wp2_with (first
   |fail)
  refine bodyPost_ret (v:=.tuple #[.agg reZ,.int .i64 5]) ?_ ?_ ?_
  ·exact Ad (v:=.agg reZ) 8 9 43 ⟨w.heap.size+1+1,0,none⟩ Tryz.results32 rfl (Wh.Al (set7 HR.o _ _ _ _ _ _ _) Tryz.underlying43 (by rfl) AK) rfl
  ·rfl
  ·exact Ce ((HK.o.put7 (by omega) HOR.o _ _ _ _ _ _ _).more (by omega)) (by decide)
 |some j1=>
  obtain⟨x1,hj1⟩:=NF hf1;have hk1:=Lg hf1 hj1;have CF1:=I (fun(w1:World) (h1:KD w1 B p es n i)=>Ld h1 HHL.o hf1 hj1);have HJ1:=I hj1;have HK1:=I hk1;clear hf1 hj1 hk1
  go_upto_region 4 with(first
   |(go_at_call 68;refine Aj (CF1.o _ HK.o.st.k) ?_;rintro w3 hb;clear CF1;(try clear kq0 kq1 kq2 kq3 kq4 kq5);replace HQ:=I (HQ.o.below hb);replace HD:=I (HD.o.below hb);replace HR:=I (HR.o.below hb);replace HK:=I (HK.o.below hb);have kq0:w3.cell? ⟨w.heap.size,0,none⟩=some (.string ⟨q.c.1.toArray⟩):=HQ.o.cell 0;have kq1:w3.cell? ⟨w.heap.size,1,none⟩=some (.string ⟨q.c.2.toArray⟩):=HQ.o.cell 1;have kq2:w3.cell? ⟨w.heap.size,2,none⟩=some (.string ⟨q.s.1.toArray⟩):=HQ.o.cell 2;have kq3:w3.cell? ⟨w.heap.size,3,none⟩=some (.string ⟨q.s.2.toArray⟩):=HQ.o.cell 3;have kq4:w3.cell? ⟨w.heap.size,4,none⟩=some (.int .i64 q.t):=HQ.o.cell 4;have kq5:w3.cell? ⟨w.heap.size,5,none⟩=some (.int .i64 q.no):=HQ.o.cell 5;clear hb)
   |fail)
  obtain⟨W4,eW4⟩:=Ak (w3.alloc (.cells #[.string ⟨(q.c).1.toArray⟩,.string ⟨(q.c).2.toArray⟩,.pointer (some ⟨x1.b,0,none⟩),.int .i64 (x1.it.n:Int)] 98));have hn:Blk W4 w3.heap.size 98 #[.string ⟨(q.c).1.toArray⟩,.string ⟨(q.c).2.toArray⟩,.pointer (some ⟨x1.b,0,none⟩),.int .i64 (x1.it.n:Int)]:=eW4▸Blk.new _ _ _;replace HQ:=I (show Blk W4 _ _ _ from eW4▸HQ.o.alloc _);replace HD:=I (show Blk W4 _ _ _ from eW4▸HD.o.alloc _);replace HR:=I (show Blk W4 _ _ _ from eW4▸HR.o.alloc _);replace HK:=I (show Kn w W4 B p es none es none n i c from eW4▸HK.o.alloc _);rw[<-eW4];clear eW4 kq0 kq1 kq2 kq3 kq4 kq5;obtain⟨PN1,ePN1⟩:=Ak (w3.heap.size);rw[<-ePN1] at hn⊢;have HN1:=I hn;clear ePN1 hn
  by_cases hr:q.c.1=p.R
  ·skip
   replace HRL:=I (show(if q.s=kr p.R p.R/\hasL (its es) q.s=true then if q.t<now then (7,Ms.re0) else ansL (its es) n q.c q.s ⟨q.c,d,[],now,min q.t (now+mxL)⟩ q.no (keyL (its es) q.c) 3 else (6,Ms.re0))=r by have:=HRL.o;rw[if_pos ⟨hr,HK1.o.2.2⟩] at this;exact this);have t1:(q.c.1==p.R)=true:=by rw[hr];simp
   clear hr;have kq0:W4.cell? ⟨w.heap.size,0,none⟩=some (.string ⟨q.c.1.toArray⟩):=HQ.o.cell 0;have kq1:W4.cell? ⟨w.heap.size,1,none⟩=some (.string ⟨q.c.2.toArray⟩):=HQ.o.cell 1;have kq2:W4.cell? ⟨w.heap.size,2,none⟩=some (.string ⟨q.s.1.toArray⟩):=HQ.o.cell 2;have kq3:W4.cell? ⟨w.heap.size,3,none⟩=some (.string ⟨q.s.2.toArray⟩):=HQ.o.cell 3;have kq4:W4.cell? ⟨w.heap.size,4,none⟩=some (.int .i64 q.t):=HQ.o.cell 4;have kq5:W4.cell? ⟨w.heap.size,5,none⟩=some (.int .i64 q.no):=HQ.o.cell 5;have kk0:W4.cell? ⟨p.k,0,none⟩=some (.string ⟨p.R.toArray⟩):=HK.o.st.k.blk.cell 0
   go_quiet (fail)
   obtain⟨W5,eW5⟩:=Ak (W4.drewN nq);replace HQ:=I (show Blk W5 _ _ _ from eW5▸HQ.o.drewN nq);replace HD:=I (show Blk W5 _ _ _ from eW5▸HD.o.drewN nq);replace HR:=I (show Blk W5 _ _ _ from eW5▸HR.o.drewN nq);replace HN1:=I (show Blk W5 _ _ _ from eW5▸HN1.o.drewN nq);replace HK:=I (show Kn w W5 B p es none es none n i c from eW5▸HK.o.below (below_drewN Ah nq));rw[<-eW5];clear eW5 kq0 kq1 kq2 kq3 kq4 kq5;clear kk0 t1;have kq0:W5.cell? ⟨w.heap.size,0,none⟩=some (.string ⟨q.c.1.toArray⟩):=HQ.o.cell 0;have kq1:W5.cell? ⟨w.heap.size,1,none⟩=some (.string ⟨q.c.2.toArray⟩):=HQ.o.cell 1;have kq2:W5.cell? ⟨w.heap.size,2,none⟩=some (.string ⟨q.s.1.toArray⟩):=HQ.o.cell 2;have kq3:W5.cell? ⟨w.heap.size,3,none⟩=some (.string ⟨q.s.2.toArray⟩):=HQ.o.cell 3;have kq4:W5.cell? ⟨w.heap.size,4,none⟩=some (.int .i64 q.t):=HQ.o.cell 4;have kq5:W5.cell? ⟨w.heap.size,5,none⟩=some (.int .i64 q.no):=HQ.o.cell 5;cases hf2:Bz (its es) q.s with
   |none=>
    have er:r=(6,Ms.re0):=by rw[<-HRL.o];rw[if_neg (fun x=>by simp [hasL,hf2] at x)]
    subst er;have CF2:=I (fun(w1:World) (h1:KD w1 B p es n i)=>Jy h1 HHL.o hf2);clear hf2
    go_upto_region 7 with(first
     |(go_at_call 68;refine Aj (CF2.o _ HK.o.st.k) ?_;rintro w6 hb;clear CF2;(try clear kq0 kq1 kq2 kq3 kq4 kq5);replace HQ:=I (HQ.o.below hb);replace HD:=I (HD.o.below hb);replace HR:=I (HR.o.below hb);replace HN1:=I (HN1.o.below hb);replace HK:=I (HK.o.below hb);have kq0:w6.cell? ⟨w.heap.size,0,none⟩=some (.string ⟨q.c.1.toArray⟩):=HQ.o.cell 0;have kq1:w6.cell? ⟨w.heap.size,1,none⟩=some (.string ⟨q.c.2.toArray⟩):=HQ.o.cell 1;have kq2:w6.cell? ⟨w.heap.size,2,none⟩=some (.string ⟨q.s.1.toArray⟩):=HQ.o.cell 2;have kq3:w6.cell? ⟨w.heap.size,3,none⟩=some (.string ⟨q.s.2.toArray⟩):=HQ.o.cell 3;have kq4:w6.cell? ⟨w.heap.size,4,none⟩=some (.int .i64 q.t):=HQ.o.cell 4;have kq5:w6.cell? ⟨w.heap.size,5,none⟩=some (.int .i64 q.no):=HQ.o.cell 5;clear hb)
     |fail)
    obtain⟨W7,eW7⟩:=Ak (w6.alloc (.cells #[.string ⟨#[]⟩,.string ⟨#[]⟩,.pointer none,.int .i64 0] 98));have hn:Blk W7 w6.heap.size 98 #[.string ⟨#[]⟩,.string ⟨#[]⟩,.pointer none,.int .i64 0]:=eW7▸Blk.new _ _ _;replace HQ:=I (show Blk W7 _ _ _ from eW7▸HQ.o.alloc _);replace HD:=I (show Blk W7 _ _ _ from eW7▸HD.o.alloc _);replace HR:=I (show Blk W7 _ _ _ from eW7▸HR.o.alloc _);replace HN1:=I (show Blk W7 _ _ _ from eW7▸HN1.o.alloc _);replace HK:=I (show Kn w W7 B p es none es none n i c from eW7▸HK.o.alloc _);rw[<-eW7];clear eW7 kq0 kq1 kq2 kq3 kq4 kq5;obtain⟨PN2,ePN2⟩:=Ak (w6.heap.size);rw[<-ePN2] at hn⊢;have HN2:=I hn;clear ePN2 hn;have kq0:W7.cell? ⟨w.heap.size,0,none⟩=some (.string ⟨q.c.1.toArray⟩):=HQ.o.cell 0;have kq1:W7.cell? ⟨w.heap.size,1,none⟩=some (.string ⟨q.c.2.toArray⟩):=HQ.o.cell 1;have kq2:W7.cell? ⟨w.heap.size,2,none⟩=some (.string ⟨q.s.1.toArray⟩):=HQ.o.cell 2;have kq3:W7.cell? ⟨w.heap.size,3,none⟩=some (.string ⟨q.s.2.toArray⟩):=HQ.o.cell 3;have kq4:W7.cell? ⟨w.heap.size,4,none⟩=some (.int .i64 q.t):=HQ.o.cell 4;have kq5:W7.cell? ⟨w.heap.size,5,none⟩=some (.int .i64 q.no):=HQ.o.cell 5;have kk0:W7.cell? ⟨p.k,0,none⟩=some (.string ⟨p.R.toArray⟩):=HK.o.st.k.blk.cell 0
    go_quiet (fail)
    obtain⟨W8,eW8⟩:=Ak (W7.drewN nq);replace HQ:=I (show Blk W8 _ _ _ from eW8▸HQ.o.drewN nq);replace HD:=I (show Blk W8 _ _ _ from eW8▸HD.o.drewN nq);replace HR:=I (show Blk W8 _ _ _ from eW8▸HR.o.drewN nq);replace HN1:=I (show Blk W8 _ _ _ from eW8▸HN1.o.drewN nq);replace HN2:=I (show Blk W8 _ _ _ from eW8▸HN2.o.drewN nq);replace HK:=I (show Kn w W8 B p es none es none n i c from eW8▸HK.o.below (below_drewN Ah nq));rw[<-eW8];clear eW8 kq0 kq1 kq2 kq3 kq4 kq5;clear kk0;have kr0:=HR.o.cell 0;have kr1:=HR.o.cell 1;have kr2:=HR.o.cell 2;have kr3:=HR.o.cell 3;have kr4:=HR.o.cell 4;have kr5:=HR.o.cell 5;have kr6:=HR.o.cell 6;have fz:=HR.o.frozen
    go_wp2_with (first
     |fail)
    refine bodyPost_ret (v:=.tuple #[.agg reZ,.int .i64 6]) ?_ ?_ ?_
    ·exact Ad (v:=.agg reZ) 8 9 43 ⟨w.heap.size+1+1,0,none⟩ Tryz.results32 rfl (Wh.Al (set7 HR.o _ _ _ _ _ _ _) Tryz.underlying43 (by rfl) AK) rfl
    ·rfl
    ·exact Ce ((HK.o.put7 (by omega) HOR.o _ _ _ _ _ _ _).more (by omega)) (by decide)
   |some j2=>
    obtain⟨x2,hj2⟩:=NF hf2;have hk2:=Lg hf2 hj2;have CF2:=I (fun(w1:World) (h1:KD w1 B p es n i)=>Ld h1 HHL.o hf2 hj2);have CK:=I (fun(w1:World) (h1:KD w1 B p es n i)=>Vg (r:=p.R) h1 (by have:=HHR.o;omega));have HJ2:=I hj2;have HK2:=I hk2;clear hf2 hj2 hk2
    go_upto_region 7 with(first
     |(go_at_call 68;refine Aj (CF2.o _ HK.o.st.k) ?_;rintro w6 hb;clear CF2;(try clear kq0 kq1 kq2 kq3 kq4 kq5);replace HQ:=I (HQ.o.below hb);replace HD:=I (HD.o.below hb);replace HR:=I (HR.o.below hb);replace HN1:=I (HN1.o.below hb);replace HK:=I (HK.o.below hb);have kq0:w6.cell? ⟨w.heap.size,0,none⟩=some (.string ⟨q.c.1.toArray⟩):=HQ.o.cell 0;have kq1:w6.cell? ⟨w.heap.size,1,none⟩=some (.string ⟨q.c.2.toArray⟩):=HQ.o.cell 1;have kq2:w6.cell? ⟨w.heap.size,2,none⟩=some (.string ⟨q.s.1.toArray⟩):=HQ.o.cell 2;have kq3:w6.cell? ⟨w.heap.size,3,none⟩=some (.string ⟨q.s.2.toArray⟩):=HQ.o.cell 3;have kq4:w6.cell? ⟨w.heap.size,4,none⟩=some (.int .i64 q.t):=HQ.o.cell 4;have kq5:w6.cell? ⟨w.heap.size,5,none⟩=some (.int .i64 q.no):=HQ.o.cell 5;clear hb)
     |fail)
    by_cases hne:q.s=kr p.R p.R
    ·skip
     have q1:=BG hne;replace HRL:=I (show(if q.t<now then (7,Ms.re0) else ansL (its es) n q.c q.s ⟨q.c,d,[],now,min q.t (now+mxL)⟩ q.no (keyL (its es) q.c) 3)=r by have:=HRL.o;rw[if_pos ⟨hne,HK2.o.2.2⟩] at this;exact this);clear hne;obtain⟨W7,eW7⟩:=Ak (w6.alloc (.cells #[.string ⟨(q.s).1.toArray⟩,.string ⟨(q.s).2.toArray⟩,.pointer (some ⟨x2.b,0,none⟩),.int .i64 (x2.it.n:Int)] 98));have hn:Blk W7 w6.heap.size 98 #[.string ⟨(q.s).1.toArray⟩,.string ⟨(q.s).2.toArray⟩,.pointer (some ⟨x2.b,0,none⟩),.int .i64 (x2.it.n:Int)]:=eW7▸Blk.new _ _ _;replace HQ:=I (show Blk W7 _ _ _ from eW7▸HQ.o.alloc _);replace HD:=I (show Blk W7 _ _ _ from eW7▸HD.o.alloc _);replace HR:=I (show Blk W7 _ _ _ from eW7▸HR.o.alloc _);replace HN1:=I (show Blk W7 _ _ _ from eW7▸HN1.o.alloc _);replace HK:=I (show Kn w W7 B p es none es none n i c from eW7▸HK.o.alloc _);rw[<-eW7];clear eW7 kq0 kq1 kq2 kq3 kq4 kq5;obtain⟨PN2,ePN2⟩:=Ak (w6.heap.size);rw[<-ePN2] at hn⊢;have HN2:=I hn;clear ePN2 hn;replace HQ:=I (show Blk W7.drew _ _ _ from HQ.o.drewN 1);replace HD:=I (show Blk W7.drew _ _ _ from HD.o.drewN 1);replace HR:=I (show Blk W7.drew _ _ _ from HR.o.drewN 1);replace HN1:=I (show Blk W7.drew _ _ _ from HN1.o.drewN 1);replace HN2:=I (show Blk W7.drew _ _ _ from HN2.o.drewN 1);replace HK:=I HK.o.drew
     go_region_held3 (fun w'=>w'.cell? ⟨p.k,0,none⟩=some (.string ⟨p.R.toArray⟩)/\w'.cell? ⟨w.heap.size,2,none⟩=some (.string ⟨q.s.1.toArray⟩)/\w'.cell? ⟨w.heap.size,3,none⟩=some (.string ⟨q.s.2.toArray⟩)) (exact⟨HK.o.st.k.blk.cell 0,HQ.o.cell 2,HQ.o.cell 3⟩) ((go_at_call 70;refine Aj (CK.o _ HK.o.st.k) ?_;rintro w8 hb;clear CK;replace HQ:=I (HQ.o.below hb);replace HD:=I (HD.o.below hb);replace HR:=I (HR.o.below hb);replace HN1:=I (HN1.o.below hb);replace HN2:=I (HN2.o.below hb);replace HK:=I (HK.o.below hb);clear hb))
     clear q1;have kq0:w8.cell? ⟨w.heap.size,0,none⟩=some (.string ⟨q.c.1.toArray⟩):=HQ.o.cell 0;have kq1:w8.cell? ⟨w.heap.size,1,none⟩=some (.string ⟨q.c.2.toArray⟩):=HQ.o.cell 1;have kq2:w8.cell? ⟨w.heap.size,2,none⟩=some (.string ⟨q.s.1.toArray⟩):=HQ.o.cell 2;have kq3:w8.cell? ⟨w.heap.size,3,none⟩=some (.string ⟨q.s.2.toArray⟩):=HQ.o.cell 3;have kq4:w8.cell? ⟨w.heap.size,4,none⟩=some (.int .i64 q.t):=HQ.o.cell 4;have kq5:w8.cell? ⟨w.heap.size,5,none⟩=some (.int .i64 q.no):=HQ.o.cell 5
     by_cases hti:q.t<now
     ·skip
      have er:r=(7,Ms.re0):=by rw[<-HRL.o];rw[if_pos hti]
      subst er;have d1:decide (q.t<now)=true:=decide_eq_true hti;clear hti;have kr0:=HR.o.cell 0;have kr1:=HR.o.cell 1;have kr2:=HR.o.cell 2;have kr3:=HR.o.cell 3;have kr4:=HR.o.cell 4;have kr5:=HR.o.cell 5;have kr6:=HR.o.cell 6;have fz:=HR.o.frozen
      go_wp2_with (first
       |fail)
      refine bodyPost_ret (v:=.tuple #[.agg reZ,.int .i64 7]) ?_ ?_ ?_
      ·exact Ad (v:=.agg reZ) 8 9 43 ⟨w.heap.size+1+1,0,none⟩ Tryz.results32 rfl (Wh.Al (set7 HR.o _ _ _ _ _ _ _) Tryz.underlying43 (by rfl) AK) rfl
      ·rfl
      ·exact Ce ((HK.o.put7 (by omega) HOR.o _ _ _ _ _ _ _).more (by omega)) (by decide)
     ·skip
      have d1:decide (q.t<now)=false:=decide_eq_false hti;have hd:=HHD.o;have ecsD:=EDD.o;have hs1:=HS1.o;have hs2:=HS2.o;have hj1:=HJ1.o;have hj2:=HJ2.o;have ht:=HTA.o.1;have ha:=HTA.o.2;have hc:=HC.o;have hn:=HNN.o;have hi:=HII.o;have hP32:(⟨q.c,d,[],now,min q.t (now+1000)⟩:Pt).ss.length=32:=hd;have HBP:=I (GU hd q.c now (min q.t (now+1000)));obtain⟨csP,ecsP⟩:=Ak (ptA ⟨q.c,d,[],now,min q.t (now+1000)⟩);have HPS:=I (show csP.size=37 by rw[ecsP];exact DG hP32);have HPI:=I (show(Tryz.prog.info? 39).map (·.size)=some csP.size by rw[ecsP];exact FA hP32);have HPO:=I (show csP.all (·.oneCell')=true by rw[ecsP];exact Gt _);obtain⟨rr,err⟩:=Ak (ansK n x2.it.k x2.it.n q.s ⟨q.c,d,[],now,min q.t (now+1000)⟩ q.no x1.it.k 3);have CA:=I (fun(w1:World) (h1:KS w1 B p es none n i c)=>ZU (no:=q.no) (u:=3) (sv:=q.s) (kv:=x2.it.n) (P:=⟨q.c,d,[],now,min q.t (now+1000)⟩) h1 (.inl ⟨j2,x2,hj2,rfl,rfl⟩) (.inl ⟨j1,x1,hj1,rfl,rfl⟩) (by omega) (by omega) (by omega) hP32 hs1 hs2 (by simp));rw[<-ecsP] at HBP;simp only[<-ecsP,<-err] at CA;rw[show keyA d=csD from ecsD.symm] at HBP;obtain⟨en,een⟩:=Ak (min q.t (now+1000));rw[<-een] at HBP;have een3:min q.t (now+1000)=en:=een.symm;clear een;have hnow:0<=now/\now<=1073741824:=by simpa [tmB,Ms.inB] using ht
      have hn0:=hnow.1;have hn9:=hnow.2;have hqt:0<=q.t/\q.t<=1073741824:=by
       have:Ms.prB q.c=true/\Ms.prB q.s=true/\tmB q.t=true/\tmB q.no=true:=by simpa [asB] using ha
       simpa [tmB,Ms.inB] using this.2.2.1
      have hq0:=hqt.1;have hq9:=hqt.2;clear hP32 ecsP hnow hqt;have er:r=rr:=by rw[<-HRL.o,if_neg hti,show ansL (its es) n q.c q.s ⟨q.c,d,[],now,min q.t (now+mxL)⟩ q.no (keyL (its es) q.c) 3=ansK n (keyL (its es) q.s) (Bw (its es) q.s) q.s ⟨q.c,d,[],now,min q.t (now+mxL)⟩ q.no (keyL (its es) q.c) 3 from Yd,HK1.o.1,HK2.o.1,HK2.o.2.1];exact err.symm
      subst er;clear hti err hd ecsD hs1 hs2 hj1 hj2 ht ha hc hn hi
      go_upto_region 12 with(first
       |(refine Mc.AA (by rfl) 39 #[(0,.tmp 75),(1,.tmp 76),(3,.tmp 77),(4,.tmp 82)] (by rfl) csP (by simp only[List.map_toArray,List.map_cons,List.map_nil];exact HBP.o) ?_;clear HBP)
       |(refine Wh.Ax (by rfl) 35 (.tmp 7) (by rfl) (w.heap.size+1) 0 (by rfl) csD _ (Wh.Ae HD.o) Tryz.underlying35 (by rfl) HDI.o ?_;clear HDI)
       |(refine Wh.Bg (by rfl) 39 (.tmp 13) (.tmp 83) (by rfl) 39 rfl csP (by rfl) (by rfl) (by rw[HPS.o];rfl) HPI.o HPO.o ?_;rintro V hV hb;have HV:=I hV;clear kq0 kq1 kq2 kq3 kq4 kq5;replace HQ:=I (HQ.o.below hb);replace HD:=I (HD.o.below hb);replace HR:=I (HR.o.below hb);replace HN1:=I (HN1.o.below hb);replace HN2:=I (HN2.o.below hb);replace HK:=I (HK.o.below hb);have kq0:V.cell? ⟨w.heap.size,0,none⟩=some (.string ⟨q.c.1.toArray⟩):=HQ.o.cell 0;have kq1:V.cell? ⟨w.heap.size,1,none⟩=some (.string ⟨q.c.2.toArray⟩):=HQ.o.cell 1;have kq2:V.cell? ⟨w.heap.size,2,none⟩=some (.string ⟨q.s.1.toArray⟩):=HQ.o.cell 2;have kq3:V.cell? ⟨w.heap.size,3,none⟩=some (.string ⟨q.s.2.toArray⟩):=HQ.o.cell 3;have kq4:V.cell? ⟨w.heap.size,4,none⟩=some (.int .i64 q.t):=HQ.o.cell 4;have kq5:V.cell? ⟨w.heap.size,5,none⟩=some (.int .i64 q.no):=HQ.o.cell 5;clear hb hV HPS HPO;have kb2:V.cell? ⟨PN1,2,none⟩=some (.pointer (some ⟨x1.b,0,none⟩)):=HN1.o.cell 2;have kn0:V.cell? ⟨PN2,0,none⟩=some (.string ⟨(q.s).1.toArray⟩):=HN2.o.cell 0;have kn1:V.cell? ⟨PN2,1,none⟩=some (.string ⟨(q.s).2.toArray⟩):=HN2.o.cell 1;have kn2:V.cell? ⟨PN2,2,none⟩=some (.pointer (some ⟨x2.b,0,none⟩)):=HN2.o.cell 2;have kn3:V.cell? ⟨PN2,3,none⟩=some (.int .i64 (x2.it.n:Int)):=HN2.o.cell 3)
       |fail)
      go_wp2_with (first
       |(refine Wh.Ax (by rfl) 39 (.tmp 13) (by rfl) w8.heap.size 0 (by rfl) csP _ (Wh.Ae HV.o) Tryz.underlying39 (by rfl) HPI.o ?_;clear HPI)
       |(go_at_call 31;refine Calls.mono (CA.o _ HK.o.st) ?_;rintro e wa ⟨csL,es9,s9,rfl,hre,hka⟩;clear CA kb2 kn0 kn1 kn2 kn3 kq0 kq1 kq2 kq3 kq4 kq5;have hf:=Mn hre;have HCS:=I hf.1;have HCO:=I hf.2.1;have HCI:=I hf.2.2;have hrr:=hka.blk HR.o HOR.o.no;have hoo:=hka.off HOR.o HR.o.lt;have HLT:=I HR.o.lt;have HSZ:=I HK.o.size;replace HR:=I hrr;replace HOR:=I hoo;replace HK:=I (HK.o.trans hka);have HRE:=I hre;clear hf hrr hoo hre hka HQ HD HN1 HN2 HV)
       |(refine Wh.Bh (by rfl) 43 (.tmp 8) (.tmp 92) (by rfl) (w.heap.size+1+1) 43 _ HR.o csL (by rfl) (by rfl) (by rw[HCS.o];rfl) HCI.o HCO.o ?_;rintro V2 hV2 hg;replace HR:=I hV2;have HG:=I hg;clear hV2 hg HCS)
       |fail)
      refine bodyPost_ret (v:=.tuple #[.agg csL,.int .i64 r.1]) ?_ ?_ ?_
      ·exact Ad (v:=.agg csL) 8 9 43 ⟨w.heap.size+1+1,0,none⟩ Tryz.results32 rfl (Wh.Al HR.o Tryz.underlying43 (by rfl) HCI.o) rfl
      ·rfl
      ·exact⟨csL,es9,s9,rfl,HRE.o.over HSZ.o HLT.o HG.o,(HK.o.over (by omega) HOR.o HG.o).more (by omega)⟩
    ·skip
     have er:r=(6,Ms.re0):=by rw[<-HRL.o];rw[if_neg (fun x=>hne x.1)]
     subst er;have q1:=Cx hne;clear hne;obtain⟨W7,eW7⟩:=Ak (w6.alloc (.cells #[.string ⟨(q.s).1.toArray⟩,.string ⟨(q.s).2.toArray⟩,.pointer (some ⟨x2.b,0,none⟩),.int .i64 (x2.it.n:Int)] 98));have hn:Blk W7 w6.heap.size 98 #[.string ⟨(q.s).1.toArray⟩,.string ⟨(q.s).2.toArray⟩,.pointer (some ⟨x2.b,0,none⟩),.int .i64 (x2.it.n:Int)]:=eW7▸Blk.new _ _ _;replace HQ:=I (show Blk W7 _ _ _ from eW7▸HQ.o.alloc _);replace HD:=I (show Blk W7 _ _ _ from eW7▸HD.o.alloc _);replace HR:=I (show Blk W7 _ _ _ from eW7▸HR.o.alloc _);replace HN1:=I (show Blk W7 _ _ _ from eW7▸HN1.o.alloc _);replace HK:=I (show Kn w W7 B p es none es none n i c from eW7▸HK.o.alloc _);rw[<-eW7];clear eW7 kq0 kq1 kq2 kq3 kq4 kq5;obtain⟨PN2,ePN2⟩:=Ak (w6.heap.size);rw[<-ePN2] at hn⊢;have HN2:=I hn;clear ePN2 hn;replace HQ:=I (show Blk W7.drew _ _ _ from HQ.o.drewN 1);replace HD:=I (show Blk W7.drew _ _ _ from HD.o.drewN 1);replace HR:=I (show Blk W7.drew _ _ _ from HR.o.drewN 1);replace HN1:=I (show Blk W7.drew _ _ _ from HN1.o.drewN 1);replace HN2:=I (show Blk W7.drew _ _ _ from HN2.o.drewN 1);replace HK:=I HK.o.drew
     go_region_held3 (fun w'=>w'.cell? ⟨p.k,0,none⟩=some (.string ⟨p.R.toArray⟩)/\w'.cell? ⟨w.heap.size,2,none⟩=some (.string ⟨q.s.1.toArray⟩)/\w'.cell? ⟨w.heap.size,3,none⟩=some (.string ⟨q.s.2.toArray⟩)) (exact⟨HK.o.st.k.blk.cell 0,HQ.o.cell 2,HQ.o.cell 3⟩) ((go_at_call 70;refine Aj (CK.o _ HK.o.st.k) ?_;rintro w8 hb;clear CK;replace HQ:=I (HQ.o.below hb);replace HD:=I (HD.o.below hb);replace HR:=I (HR.o.below hb);replace HN1:=I (HN1.o.below hb);replace HN2:=I (HN2.o.below hb);replace HK:=I (HK.o.below hb);clear hb))
     clear q1;have kr0:=HR.o.cell 0;have kr1:=HR.o.cell 1;have kr2:=HR.o.cell 2;have kr3:=HR.o.cell 3;have kr4:=HR.o.cell 4;have kr5:=HR.o.cell 5;have kr6:=HR.o.cell 6;have fz:=HR.o.frozen
     go_wp2_with (first
      |fail)
     refine bodyPost_ret (v:=.tuple #[.agg reZ,.int .i64 6]) ?_ ?_ ?_
     ·exact Ad (v:=.agg reZ) 8 9 43 ⟨w.heap.size+1+1,0,none⟩ Tryz.results32 rfl (Wh.Al (set7 HR.o _ _ _ _ _ _ _) Tryz.underlying43 (by rfl) AK) rfl
     ·rfl
     ·exact Ce ((HK.o.put7 (by omega) HOR.o _ _ _ _ _ _ _).more (by omega)) (by decide)
  ·skip
   have er:r=(5,Ms.re0):=by rw[<-HRL.o];rw[if_neg (fun x=>hr x.1)]
   subst er;have t1:(q.c.1==p.R)=false:=by simpa using hr
   clear hr;have kq0:W4.cell? ⟨w.heap.size,0,none⟩=some (.string ⟨q.c.1.toArray⟩):=HQ.o.cell 0;have kq1:W4.cell? ⟨w.heap.size,1,none⟩=some (.string ⟨q.c.2.toArray⟩):=HQ.o.cell 1;have kq2:W4.cell? ⟨w.heap.size,2,none⟩=some (.string ⟨q.s.1.toArray⟩):=HQ.o.cell 2;have kq3:W4.cell? ⟨w.heap.size,3,none⟩=some (.string ⟨q.s.2.toArray⟩):=HQ.o.cell 3;have kq4:W4.cell? ⟨w.heap.size,4,none⟩=some (.int .i64 q.t):=HQ.o.cell 4;have kq5:W4.cell? ⟨w.heap.size,5,none⟩=some (.int .i64 q.no):=HQ.o.cell 5;have kk0:W4.cell? ⟨p.k,0,none⟩=some (.string ⟨p.R.toArray⟩):=HK.o.st.k.blk.cell 0
   go_quiet (fail)
   obtain⟨W5,eW5⟩:=Ak (W4.drewN nq);replace HQ:=I (show Blk W5 _ _ _ from eW5▸HQ.o.drewN nq);replace HD:=I (show Blk W5 _ _ _ from eW5▸HD.o.drewN nq);replace HR:=I (show Blk W5 _ _ _ from eW5▸HR.o.drewN nq);replace HN1:=I (show Blk W5 _ _ _ from eW5▸HN1.o.drewN nq);replace HK:=I (show Kn w W5 B p es none es none n i c from eW5▸HK.o.below (below_drewN Ah nq));rw[<-eW5];clear eW5 kq0 kq1 kq2 kq3 kq4 kq5;clear kk0;have kr0:=HR.o.cell 0;have kr1:=HR.o.cell 1;have kr2:=HR.o.cell 2;have kr3:=HR.o.cell 3;have kr4:=HR.o.cell 4;have kr5:=HR.o.cell 5;have kr6:=HR.o.cell 6;have fz:=HR.o.frozen
   go_wp2_with (first
    |fail)
   refine bodyPost_ret (v:=.tuple #[.agg reZ,.int .i64 5]) ?_ ?_ ?_
   ·exact Ad (v:=.agg reZ) 8 9 43 ⟨w.heap.size+1+1,0,none⟩ Tryz.results32 rfl (Wh.Al (set7 HR.o _ _ _ _ _ _ _) Tryz.underlying43 (by rfl) AK) rfl
   ·rfl
   ·exact Ce ((HK.o.put7 (by omega) HOR.o _ _ _ _ _ _ _).more (by omega)) (by decide)
theorem aj {q:As} {d:Nm.L} {now:Int} (h:KS w B p es none n i c) (hc:c<800000) (hn:n<800000) (hi:i<800000) (hl:es.length<=1000) (hR:p.R.length<=1000) (hd:d.length=32) (hs1:pSm q.c) (hs2:pSm q.s) :
  Calls Tryz.prog 32 #[.pointer (some ⟨p.k,0,none⟩),.agg (asA q),.int .i64 now,.agg (keyA d)] w (AnsR w B p es none n i (c+4) (asL p.R (its es) n q now d)):=by
 cases ht:tmB now with
 |false=>unfold asL;rw[ht];exact as_1 h hc hn hi hl hR hd hs1 hs2 ht
 |true=>
  cases ha:asB q with
  |false=>unfold asL;rw[ht,ha];exact as_2 h hc hn hi hl hR hd hs1 hs2 ht ha
  |true=>exact Yk h hc hn hi hl hR hd hs1 hs2 ht ha rfl
end
end Kd
namespace Kd
open Go.RowKit Af Se
open Rg (It Ent Ring RO DRing DO Ap its)
open Ms (Re As Tg pSm reC)
theorem FF {w V:World} {g:Nat} (hg:w.grownBy V (some g)):Chg (fun j=>j=g) w V:=⟨hg.os,hg.tape,hg.output,hg.size,fun i hi hn=>hg.block i hi (fun e=>hn (by injection e))⟩
section
variable {w0 w1 w w' V:World} {B:Nat} {p:KP} {es0 es es':List Ent} {s0 s:Option Ss} {n i c g PT:Nat} {cs:Array Value} {x:Re}
theorem Kn.grown (h:Kn w0 w B p es0 s0 es s n i c) (hg:w.grownBy V (some g)) (hl:w0.heap.size<=g) (hk:Off p es s g):Kn w0 V B p es0 s0 es s n i c:=
 ⟨h.st.chg (FF hg) (fun j hj e=>hk j hj e),h.eq,h.sq,h.chg.trans (FF hg) (fun j hj x=>by omega),h.nw⟩
theorem CH {S:Nat->Prop} (h:ReN S w cs x):cs.size=7/\cs.all (·.oneCell')=true:=by
 obtain⟨b,a,rfl,⟨A1,c1,rfl,_⟩,⟨A2,c2,rfl,_⟩⟩:=h;exact⟨rfl,by simp [reC,Ms.prC,Ms.tkC,Value.oneCell']⟩
def VarS (w1:World) (p:KP) (es:List Ent) (PT:Nat) (j:Nat):Prop:=Out w1 p es none j\/j=PT
theorem Ij {s:Option Ss} (h:ReN (Out w p es s) w' cs x) (h1:w1.heap.size<=w.heap.size) (h2:PT<w.heap.size):ReN (VarS w1 p es PT) w' cs x:=
 h.keep (Chg.refl (fun _=>False) w') (fun _ _ x=>x.elim) (fun j _ y=>by
  rcases y with(y | y | ⟨z,hz,_⟩) | y
  ·exact .inl (by omega)
  ·exact .inr (.inl y)
  ·cases hz
  ·exact .inl (by omega))
theorem Tv {s:Option Ss} (h:ReN (Out w p es s) w' cs x) (h1:w1.heap.size<=w.heap.size) (h2:w'.heap.size<=PT) (hb:Below w'.heap.size w' V):ReN (VarS w1 p es PT) V cs x:=
 (h.keep (S':=VarS w1 p es PT) (Chg.refl (fun _=>False) w') (fun _ _ x=>x.elim) (fun j hj y=>by
  rcases y with(y | y | ⟨z,hz,_⟩) | y
  ·exact .inl (by omega)
  ·exact .inr (.inl y)
  ·cases hz
  ·omega)).below hb
theorem ak (h:ReN (VarS w1 p es PT) w cs x) (hg:w.grownBy V (some PT)):ReN (VarS w1 p es PT) V cs x:=h.keep (FF hg) (fun j _ e=>.inr e) (fun _ _ x=>x)
structure Got (w1 w:World) (B:Nat) (p:KP) (es0 es:List Ent) (n i c PT:Nat) (cs:Array Value) (x:Re):Prop where
 kn:Kn w1 w B p es0 none es none n i c
 blk:Blk w PT 43 cs
 re:ReN (VarS w1 p es PT) w cs x
 off:Off p es none PT
 lo:w1.heap.size<=PT
theorem FG (hk:Kn w1 w B p es0 none es none n i c) (hr:ReN (VarS w1 p es PT) w cs x) (ho:Off p es none PT) (hl:w1.heap.size<=PT) (hv:Blk V PT 43 cs) (hg:w.grownBy V (some PT)):Got w1 V B p es0 es n i c PT cs x:=
 ⟨hk.grown hg hl ho,hv,ak hr hg,ho,hl⟩
theorem Wl {q:As} {d:Nm.L} {now:Int} {csQ csD:Array Value} {l:List It} {R:Nm.L} {r:Int×Re} (eQ:csQ=asA q) (eD:csD=keyA d) (eR:p.R=R) (el:its es=l) (er:asL R l n q now d=r) (h:KS w B p es none n i c) (hc:c<800000) (hn:n<800000) (hi:i<800000) (hl:l.length<=1000) (hR:R.length<=1000) (hd:d.length=32) (hs1:pSm q.c) (hs2:pSm q.s) :
  Calls Tryz.prog 32 #[.pointer (some ⟨p.k,0,none⟩),.agg csQ,.int .i64 now,.agg csD] w fun e w'=>∃cs es',e=.returned (.tuple #[.agg cs,.int .i64 r.1])/\ReN (Out w p es' none) w' cs r.2/\Kn w w' B p es none es' none (n+2*cnt r.1) (i+cnt r.1) (c+4):=by
 subst eQ eD eR el er;refine(aj h hc hn hi (by rw[Rg.CU] at hl;exact hl) hR hd hs1 hs2).mono ?_;rintro e w' ⟨cs,es',s',h1,h2,h3⟩;exact⟨cs,es',h1,h2.keep (Chg.refl (fun _=>False) w') (fun _ _ x=>x.elim) (fun j _ y=>y.imp id (fun y=>y.elim .inl (fun⟨z,hz,_⟩=>by cases hz))),h3.drop⟩
theorem Vp {q:Tg} {bv av:Value} {d:Nm.L} {now:Int} {csQ csD:Array Value} {l:List It} {R:Nm.L} {T:Rt.Tp} {r:Int×Re} (eQ:csQ=tgA q bv av) (eD:csD=keyA d) (eR:p.R=R) (eT:p.T=T) (el:its es=l) (er:tgsL R T l n q now d=r) (h:KS w B p es none n i c) (hc:c<800000) (hn:n<800000) (hi:i<800000) (hl:l.length<=1000) (hR:R.length<=1000) (hT:Rt.Sm T) (hd:d.length=32) (hv1:SlN (KSO p es none) w bv q.t.b) (hv2:SlN (KSO p es none) w av q.a) (hs1:pSm q.t.s) (hs2:pSm q.s) (hx1:q.s.1=R) (hx2:q.t.s.1=R) :
  Calls Tryz.prog 10 #[.pointer (some ⟨p.k,0,none⟩),.agg csQ,.int .i64 now,.agg csD] w fun e w'=>∃cs es',e=.returned (.tuple #[.agg cs,.int .i64 r.1])/\ReN (Out w p es' none) w' cs r.2/\Kn w w' B p es none es' none (n+2*cnt r.1) (i+cnt r.1) (c+6):=by
 subst eQ eD eR eT el er;refine(Yj h hc hn hi (by rw[Rg.CU] at hl;exact hl) hR hT hd hv1 hv2 hs1 hs2 hx1 hx2).mono ?_;rintro e w' ⟨cs,es',s',h1,h2,h3⟩;exact⟨cs,es',h1,h2.keep (Chg.refl (fun _=>False) w') (fun _ _ x=>x.elim) (fun j _ y=>y.imp id (fun y=>y.elim .inl (fun⟨z,hz,_⟩=>by cases hz))),h3.drop⟩
end
theorem Le (c s:Nm.L×Nm.L) (t no:Int):Tryz.prog.built 85 [(0,prV c),(1,prV s),(2,.int .i64 t),(3,.int .i64 no)]=some (asA ⟨c,s,t,no⟩):=by kernel_rfl
theorem Tw (c s:Nm.L×Nm.L) (t:Int):Tryz.prog.built 85 [(0,prV c),(1,prV s),(2,.int .i64 t)]=some (asA ⟨c,s,t,0⟩):=by kernel_rfl
def k1L:Nm.L:=1 :: List.replicate 31 0
theorem Wm:k1L.length=32:=rfl
theorem Vq:Tryz.prog.built 35 [(0,.int .u8 1)]=some (keyA k1L):=by kernel_rfl
theorem Tx (n:UInt8):AO (kq n)=keyA (kb n):=(Oy n).symm
end Kd
namespace Kd
open Go.RowKit Af Se
open Nm (krb strs)
open Rt (SlV SlP RdP kl)
abbrev z2:Array Value:=#[.string ⟨#[]⟩,.string ⟨#[]⟩]
theorem Lh (w:World):Calls Tryz.prog 8 #[] w fun e w'=>e=.returned (prV pAnn)/\Below w.heap.size w w':=by
 obtain⟨W,eW⟩:=Ak (w.alloc (.cells z2 25));have HZ:=I (show Blk W w.heap.size 25 z2 from eW▸Blk.new w _ _);have HB:=I (show Below w.heap.size w W from eW▸Ah.alloc Ag _);go_enter Tryz.func8,Tryz.ntmps8
 go_upto_region 1 with fail
 rw[<-eW];clear eW;have kz0:=HZ.o.cell 0;have kz1:=HZ.o.cell 1;have fz:=HZ.o.frozen
 go_wp2
 have hz:Blk _ w.heap.size 25 #[.string ⟨pAnn.1.toArray⟩,.string ⟨pAnn.2.toArray⟩]:=(HZ.o.set 0 (.string ⟨pAnn.1.toArray⟩)).set 1 (.string ⟨pAnn.2.toArray⟩);refine bodyPost_ret (v:=prV pAnn) ?_ ?_ ?_
 ·exact Wh.Au (v:=prV pAnn) 0 25 ⟨w.heap.size,0,none⟩ Tryz.results8 (by rfl) (Wh.Al hz Tryz.underlying25 (by rfl) Cy)
 ·rfl
 ·exact⟨rfl,Si.Ay (Si.Ay HB.o (by simp) _) (by simp) _⟩
theorem JC (w:World):Calls Tryz.prog 9 #[] w fun e w'=>e=.returned (prV BU)/\Below w.heap.size w w':=by
 obtain⟨W,eW⟩:=Ak (w.alloc (.cells z2 25));have HZ:=I (show Blk W w.heap.size 25 z2 from eW▸Blk.new w _ _);have HB:=I (show Below w.heap.size w W from eW▸Ah.alloc Ag _);go_enter Tryz.func9,Tryz.ntmps9
 go_upto_region 1 with fail
 rw[<-eW];clear eW;have kz0:=HZ.o.cell 0;have kz1:=HZ.o.cell 1;have fz:=HZ.o.frozen
 go_wp2
 have hz:Blk _ w.heap.size 25 #[.string ⟨BU.1.toArray⟩,.string ⟨BU.2.toArray⟩]:=(HZ.o.set 0 (.string ⟨BU.1.toArray⟩)).set 1 (.string ⟨BU.2.toArray⟩);refine bodyPost_ret (v:=prV BU) ?_ ?_ ?_
 ·exact Wh.Au (v:=prV BU) 0 25 ⟨w.heap.size,0,none⟩ Tryz.results9 (by rfl) (Wh.Al hz Tryz.underlying25 (by rfl) Cy)
 ·rfl
 ·exact⟨rfl,Si.Ay (Si.Ay HB.o (by simp) _) (by simp) _⟩
theorem NH (a b:Nm.L) (hb:b.length<=1000000) (w:World):Calls Tryz.prog 6 #[.string ⟨a.toArray⟩,.string ⟨b.toArray⟩] w fun e w'=>e=.returned (prV (kr a b))/\Below w.heap.size w w':=by
 have c1:=fun w1=>Nm.Mv b w1 (by omega)
 have C1:=I c1;obtain⟨W,eW⟩:=Ak (w.alloc (.cells z2 25));have HZ:=I (show Blk W w.heap.size 25 z2 from eW▸Blk.new w _ _);have HB:=I (show Below w.heap.size w W from eW▸Ah.alloc Ag _);clear hb c1;go_enter Tryz.func6,Tryz.ntmps6
 go_upto_region 1 with fail
 rw[<-eW];clear eW;have kz0:=HZ.o.cell 0;have kz1:=HZ.o.cell 1;have fz:=HZ.o.frozen
 go_wp2_with (first
  |(go_at_call 23;refine Aj (C1.o _) ?_;rintro w1 hw;clear C1;subst hw)
  |fail)
 have hz:Blk _ w.heap.size 25 #[.string ⟨(kr a b).1.toArray⟩,.string ⟨(kr a b).2.toArray⟩]:=(HZ.o.set 0 (.string ⟨(kr a b).1.toArray⟩)).set 1 (.string ⟨(kr a b).2.toArray⟩);refine bodyPost_ret (v:=prV (kr a b)) ?_ ?_ ?_
 ·exact Wh.Au (v:=prV (kr a b)) 4 25 ⟨w.heap.size,0,none⟩ Tryz.results6 (by rfl) (Wh.Al hz Tryz.underlying25 (by rfl) Cy)
 ·rfl
 ·exact⟨rfl,Si.Ay (Si.Ay HB.o (by simp) _) (by simp) _⟩
theorem JD (n:UInt8):Tryz.prog.built 35 [(0,.int .u8 (n.toNat:Int)),(1,.int .u8 7)]=some (AO (kq n)):=by kernel_rfl
theorem Qq (n:UInt8) (w:World):Calls Tryz.prog 7 #[.int .u8 (n.toNat:Int)] w fun e w'=>e=.returned (.agg (AO (kq n)))/\Below w.heap.size w w':=by
 have HBK:=I (JD n);have hi:=Fv (kq n);obtain⟨cs,ecs⟩:=Ak (AO (kq n));have HS:=I (show cs.size=32 by rw[ecs];exact Dm _);have HO:=I (show cs.all (·.oneCell')=true by rw[ecs,<-Oy];exact GS (Bl _));rw[<-ecs] at hi HBK⊢;have HI:=I hi;clear ecs hi;obtain⟨W,eW⟩:=Ak (w.alloc (.cells #[.int .u8 0,.int .u8 0,.int .u8 0,.int .u8 0,.int .u8 0,.int .u8 0,.int .u8 0,.int .u8 0,.int .u8 0,.int .u8 0,.int .u8 0,.int .u8 0,.int .u8 0,.int .u8 0,.int .u8 0,.int .u8 0,.int .u8 0,.int .u8 0,.int .u8 0,.int .u8 0,.int .u8 0,.int .u8 0,.int .u8 0,.int .u8 0,.int .u8 0,.int .u8 0,.int .u8 0,.int .u8 0,.int .u8 0,.int .u8 0,.int .u8 0,.int .u8 0] 35));have HZ:=I (show ∃z:Array Value,z.size=32/\Blk W w.heap.size 35 z from⟨_,by rfl,eW▸Blk.new w _ _⟩);have HB:=I (show Below w.heap.size w W from eW▸Ah.alloc Ag _);go_enter Tryz.func7,Tryz.ntmps7
 go_upto_region 1 with fail
 rw[<-eW];clear eW;obtain⟨zz,hzs,hzb⟩:=HZ.o;have HZB:=I hzb;clear HZ hzb
 go_wp2_with (first
  |(refine Mc.AA (by rfl) 35 #[(0,.tmp 3),(1,.const (.int .u8 7))] (by rfl) cs (by simp only[List.map_toArray,List.map_cons,List.map_nil];exact HBK.o) ?_;clear HBK)
  |(refine Wh.Bh (by rfl) 35 (.tmp 2) (.tmp 4) (by rfl) w.heap.size 35 _ HZB.o cs (by rfl) (by rfl) (by rw[HS.o,hzs]) HI.o HO.o ?_;rintro V hV hg;have HV:=I hV;have HG:=I (HB.o.grown hg HB.o.size (fun k hk=>by injection hk with hk;omega));clear hV hg)
  |fail)
 refine bodyPost_ret (v:=.agg cs) ?_ ?_ ?_
 ·exact Wh.Au (v:=.agg cs) 2 35 ⟨w.heap.size,0,none⟩ Tryz.results7 (by rfl) (Wh.Al HV.o Tryz.underlying35 (by rfl) HI.o)
 ·rfl
 ·exact⟨rfl,HG.o⟩
end Kd
end Go.Proofs.YtlchkbpffaclmaaGreat
