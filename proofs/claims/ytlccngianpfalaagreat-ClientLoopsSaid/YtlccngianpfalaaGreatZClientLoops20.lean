import Derived.Test.YtlccngianpfalaaGreatZClientLoops19
set_option maxHeartbeats 25600000
set_option maxRecDepth 100000
set_option linter.unusedVariables false
set_option linter.unusedSimpArgs false
namespace Go.Proofs.YtlccngianpfalaaGreat
namespace Rt
open Nm
abbrev Pr:=L×L
structure Pa where
 f:L
 t:L
 v:List L
structure Tp where
 R:List L
 K:List Pr
 P:List Pa
def kl (K:List Pr) (i:Nat):Pr:=K.getD i ([],[])
def al (P:List Pa) (i:Nat):Pa:=P.getD i ⟨[],[],[]⟩
section
variable {α:Type}
end
end Rt
namespace Kd
open Ae Se
open Nm (krb L)
open Rg (It)
open Ms (Pr Tk Pt An Rp As Tg Re Ap Fa Mg rpB anB asB tgB tmB rpE anE mgE mgO mgD rpO anO pr0 tk0 re0 as0 tg0 ap0 fa0 key0)
open SeL (BZ Cy)
open Rt (Tp)
def kr (R x:L):Pr:=(R,krb++x)
end Kd
namespace Kd
open Ae Se Ms
open Nm (krb L)
open Rg (It)
open DerP (elem encI)
open SeL (BZ Cy)
theorem Kf {p:L} {n:Int} {u:Int} {ks:Nat->UInt8} (X:p.length<=784) (Y:0<=n) (O:n<=1099511627776) (hu:0<=u) (M:u<=255):BZ ks u n p=(Dm ks u.toNat n.toNat p,0):=by
 rw[BZ,if_pos ⟨hu,M,Y,O,X⟩]
theorem IF {p:L} {n:Int} {u:Int} {ks:Nat->UInt8} (X:p.length<=784) (Z:0<=n) (O:n<=1099511627776) (hu:0<=u) (M:u<=255):Cy ks u (BZ ks u n p).1=(p,0):=by
 rw[Kf X Z O hu M,Cy,if_pos ⟨hu,M⟩];have Y:=SL ks u.toNat n.toNat p (by omega) X;have h2:=SM ks u.toNat n.toNat p (by omega);simp only;rw[if_pos Y,h2]
theorem Rv {a:An} (M:anB a=true):(anE a).length<=500:=by
 have O:prB a.c=true/\tmB a.t=true/\tmB a.q=true:=by simpa [anB] using M
 have l1:=(AV O.1).1;have l4:=AF a.t;have l5:=AF a.q;have X:=Ay 98 [prE a.c,encI a.t,encI a.q].flatten;have Y:[prE a.c,encI a.t,encI a.q].flatten.length=(prE a.c).length+((encI a.t).length+(encI a.q).length):=by simp
 rw[anE];omega
theorem Mp {p:Rp} (hk:p.ss.length=32) (M:rpB p=true):(rpE p).length<=500:=by
 have O:prB p.s=true/\tmB p.st=true/\tmB p.en=true/\tmB p.no=true:=by simpa [rpB] using M
 have l1:=(AV O.1).1;have l2:=Ay 4 p.ss;have l4:=AF p.st;have l5:=AF p.en;have Z:=AF p.no;have X:=Ay 122 [elem 4 p.ss,prE p.s,encI p.st,encI p.en,encI p.no].flatten;have Y:[elem 4 p.ss,prE p.s,encI p.st,encI p.en,encI p.no].flatten.length=(elem 4 p.ss).length+((prE p.s).length+((encI p.st).length+((encI p.en).length+(encI p.no).length))):=by simp
 rw[rpE];omega
theorem Wq {p:An} (M:anB p=true):anO p=some (anE p):=by rw[anO,limO,if_pos ⟨M,by have:=Rv M;omega⟩]
theorem Mq {p:Rp} (hk:p.ss.length=32) (M:rpB p=true):rpO p=some (rpE p):=by rw[rpO,limO,if_pos ⟨M,by have:=Mp hk M;omega⟩]
theorem Wr {p:Rp} (hk:p.ss.length=32) (M:rpB p=true):rpD (rpE p)=some p:=by rw[rpD,Lu M hk];rw[if_pos (Mq hk M)]
def lO (o:Option L):L:=o.getD []
end Kd
namespace Cl
open Go.RowKit Ae Se
open Nm (L krb BY tgL tgR AU Dx GR)
open Ms (Pr tmB inB pSm mSm anO mgO An Mg EncR)
open Rg (prV)
open SeL (BZ Cy Ns)
theorem CJ (n:Int) (w:World):Calls Tryz.prog 21 #[.int .i64 n] w fun e w'=>e=.returned (.bool (tmB n))/\w=w':=by
 by_cases h1:0<=n
 ·by_cases h2:n<=1073741824
  ·have M:decide ((0:Int)<=n)=true:=decide_eq_true h1
   have O:decide (n<=1073741824)=true:=decide_eq_true h2;have E:=I (show tmB n=true by simp [tmB,inB,h1,h2]);rw[E.o];clear h1 h2;go_enter Tryz.func21,Tryz.ntmps21
   go_wp2
   go_ret;exact⟨rfl,rfl⟩
  ·have M:decide ((0:Int)<=n)=true:=decide_eq_true h1
   have O:decide (n<=1073741824)=false:=decide_eq_false h2;have E:=I (show tmB n=false by simp [tmB,inB,h1,h2]);rw[E.o];clear h1 h2;go_enter Tryz.func21,Tryz.ntmps21
   go_wp2
   go_ret;exact⟨rfl,rfl⟩
 ·have M:decide ((0:Int)<=n)=false:=decide_eq_false h1
  have E:=I (show tmB n=false by simp [tmB,inB,h1]);rw[E.o];clear h1;go_enter Tryz.func21,Tryz.ntmps21
  go_wp2
  go_ret;exact⟨rfl,rfl⟩
theorem Hm (p:Pr) (w:World) (hs:pSm p):Calls Tryz.prog 20 #[prV p] w fun e w'=>e=.returned (.bool (JN p))/\Below w.heap.size w w':=by
 obtain⟨W,Y⟩:=Aj (w.alloc (.cells #[.string ⟨p.1.toArray⟩,.string ⟨p.2.toArray⟩] 35));have X:=I (show Below w.heap.size w W from Y▸Ag.alloc Af _);have O:=I (show Blk W w.heap.size 35 #[.string ⟨p.1.toArray⟩,.string ⟨p.2.toArray⟩] from Y▸Blk.new w _ _);have C1:=I (fun Z=>Dx p.2 Z hs.2);have C2:=I (fun Z=>AU p.1 p.2 Z hs.1 hs.2);have E:=I (show JN p=(BY p.1 p.2 && !tgL p.2) from rfl);obtain⟨b1,e1⟩:=Aj (tgL p.2);obtain⟨b2,e2⟩:=Aj (BY p.1 p.2);obtain⟨q,eq⟩:=Aj (JN p);rw[<-e1] at C1 E;rw[<-e2] at C2 E;rw[<-eq] at E⊢;clear hs e1 e2 eq;cases b1
 ·go_enter Tryz.func20,Tryz.ntmps20
  go_upto_region 1 with fail
  rw[<-Y];clear Y;have k1:=O.o.cell 1
  go_wp2_with (first
   |(go_at_call 45;refine Ah (C1.o _) ?_;rintro Z M;clear C1 k1;replace O:=I (O.o.below M);replace X:=X.t M;have k0:=O.c0;have k1:=O.c1;clear M)
   |(go_at_call 46;refine Ah (C2.o _) ?_;rintro w2 M;clear C2 k0 k1;replace X:=X.t M;clear M)
   |fail)
  go_ret;exact⟨by rw[E.o];cases b2<;>rfl,X.o⟩
 ·go_enter Tryz.func20,Tryz.ntmps20
  go_upto_region 1 with fail
  rw[<-Y];clear Y;have k1:=O.o.cell 1
  go_wp2_with (first
   |(go_at_call 45;refine Ah (C1.o _) ?_;rintro Z M;clear C1 k1;replace O:=I (O.o.below M);replace X:=X.t M;clear M)
   |fail)
  go_ret;exact⟨by rw[E.o];cases b2<;>rfl,X.o⟩
theorem Le (now:Int) (w:World) (h:tmB now=true):Calls Tryz.prog 51 #[.int .i64 now] w fun e w'=>e=.returned (.int .i64 (Hc now))/\w=w':=by
 have M:0<=now/\now<=1073741824:=by simpa [tmB,inB] using h
 have s1:IntKind.i64.wrap (now+1000)=now+1000:=by rw[IntKind.wrap_i64];omega
 have E:=I (show min (now+1000) 1073741824=Hc now from rfl);clear h M;go_enter Tryz.func51,Tryz.ntmps51
 go_wp2
 go_ret;exact⟨by rw[<-E.o];first | rfl | simp,rfl⟩
theorem Nl (p:Pr) (w:World) (h1:p.1.length<=140737488351232) (h2:p.2.length<=140737488351232):Calls Tryz.prog 22 #[prV p] w fun e w'=>e=.returned (prV p)/\Below w.heap.size w w':=by
 have C1:=I (fun w1=>Ca.Dz p.1 w1 h1);have C2:=I (fun w1=>Ca.Dz p.2 w1 h2);go_enter Tryz.func22,Tryz.ntmps22
 go_upto_region 1 with fail
 obtain⟨W,eW⟩:=Aj ((w.alloc (.cells #[.string ⟨p.1.toArray⟩,.string ⟨p.2.toArray⟩] 35)).alloc (.cells #[.string ⟨#[]⟩,.string ⟨#[]⟩] 35));have hq:=Blk.new (w.alloc (.cells #[.string ⟨p.1.toArray⟩,.string ⟨p.2.toArray⟩] 35)) 35 #[.string ⟨#[]⟩,.string ⟨#[]⟩];rw[show(w.alloc (.cells #[.string ⟨p.1.toArray⟩,.string ⟨p.2.toArray⟩] 35)).heap.size=w.heap.size+1 by simp,<-eW] at hq;have O:=I (show Blk W w.heap.size 35 #[.string ⟨p.1.toArray⟩,.string ⟨p.2.toArray⟩] by rw[eW];exact(Blk.new _ _ _).alloc _);have M:=I hq;have Y:=I (show Below w.heap.size w W by rw[eW];exact(Ag.alloc Af _).alloc (by simp) _);rw[<-eW];clear eW hq;replace O:=I (show Blk W.drew _ _ _ from O.o.drewN 1);replace M:=I (show Blk W.drew _ _ _ from M.o.drewN 1);replace Y:=I (show Below _ _ W.drew from below_drewN Y.o 1)
 go_region_held3 (fun w'=>w'.cell? ⟨w.heap.size,0,none⟩=some (.string ⟨p.1.toArray⟩)/\w'.cell? ⟨w.heap.size,1,none⟩=some (.string ⟨p.2.toArray⟩)) (first | exact⟨O.o.cell 0,O.o.cell 1⟩ | exact⟨(Si.Blk.far (Si.Blk.far O.o _ _ (by simp)) _ _ (by simp)).cell 0,(Si.Blk.far (Si.Blk.far O.o _ _ (by simp)) _ _ (by simp)).cell 1⟩) ((first
  |(go_at_call 47;(with_reducible refine Calls.mono (C1.o _) ?_);rintro e w1 ⟨rfl,X⟩;clear C1;replace O:=I (O.o.below X);replace M:=I (M.o.below X);replace Y:=Y.t X;have aa:=M.c0;have Z:=M.c1;have fz:=M.o.frozen;clear X)
  |(go_at_call 47;(with_reducible refine Calls.mono (C2.o _) ?_);rintro e w2 ⟨rfl,X⟩;clear C2 aa Z fz;replace O:=I (O.o.below X);replace M:=I (M.o.below X);replace Y:=Y.t X;have aa:=M.c0;have Z:=M.c1;have fz:=M.o.frozen;clear X)))
 go_wp2
 have hz:=(M.o.set 0 (.string ⟨p.1.toArray⟩)).set 1 (.string ⟨p.2.toArray⟩);rw[show(((#[.string ⟨#[]⟩,.string ⟨#[]⟩]:Array Value).setIfInBounds 0 (.string ⟨p.1.toArray⟩)).setIfInBounds 1 (.string ⟨p.2.toArray⟩))=#[.string ⟨p.1.toArray⟩,.string ⟨p.2.toArray⟩] from rfl] at hz;refine bodyPost_ret (v:=prV p) ?_ ?_ ?_
 ·exact Wh.Al (v:=prV p) 2 35 ⟨w.heap.size+1,0,none⟩ Tryz.results22 (by rfl) (Wh.Ao hz Tryz.underlying35 (by rfl) Rg.AZ)
 ·rfl
 ·exact⟨rfl,Si.AX (Si.AX Y.o (by simp) _) (by simp) _⟩
theorem Gf (w:World) (g o:Nat) (u:Value):Chg (fun j=>j=g) w (w.setCell ⟨g,o,none⟩ u):=(Chg.refl (fun j=>j=g) w).set (p:=⟨g,o,none⟩) (.inl rfl) u
theorem Lf (g o n:Nat) (w:World) (Y:n<1000000) (Z:w.cell? ⟨g,o,none⟩=some (.int .i64 (n:Int))) (X:w.frozen? ⟨g,o,none⟩=false) :
  Calls Tryz.prog 52 #[.pointer (some ⟨g,o,none⟩)] w fun e w'=>e=.returned (.int .i64 ((n+1:Nat):Int))/\w'=w.setCell ⟨g,o,none⟩ (.int .i64 ((n+1:Nat):Int)):=by
 have c1:=add_one ⟨g,o,none⟩ n w Y Z X;obtain⟨N,M⟩:∃N:Int,N=((n+1:Nat):Int):=⟨_,rfl⟩;rw[<-M] at c1⊢;obtain⟨W,O⟩:=Aj (w.setCell ⟨g,o,none⟩ (.int .i64 N));rw[<-O] at c1⊢;clear Z X M Y O;go_enter Tryz.func52,Tryz.ntmps52
 go_wp2_with (go_at_call 88;refine Ah c1 ?_;rintro w1 hw;subst hw;clear c1)
 go_ret;exact⟨rfl,rfl⟩
section
variable {w w':World} {B:Nat} {p:CP} {m:CM} {s:St} {c:Nat}
theorem Cl.put_n (h:Cl w B p m s c) (n:Nat):Tu w (w.setCell ⟨p.k,4,none⟩ (.int .i64 (n:Int))) B p m m {s with n:=n} c:=
 h.cell (m':=m) (Gf w p.k 4 _) (by have:=h.blk.set 4 (.int .i64 (n:Int));simpa using this) rfl rfl h.ou
theorem Cl.put_s (h:Cl w B p m s c) (n:Nat):Tu w (w.setCell ⟨p.k,5,none⟩ (.int .i64 (n:Int))) B p m m {s with s:=n} c:=
 h.cell (m':=m) (Gf w p.k 5 _) (by have:=h.blk.set 5 (.int .i64 (n:Int));simpa using this) rfl rfl h.ou
theorem UK (h:Cl w B p m s c) (M:s.n<1000000):Calls Tryz.prog 52 #[.pointer (some ⟨p.k,4,none⟩)] w fun e w'=>e=.returned (.int .i64 ((s.n+1:Nat):Int))/\Tu w w' B p m m {s with n:=s.n+1} c:=
 (Lf p.k 4 s.n w M (h.blk.cell 4) (h.blk.frozen 4)).mono (by rintro e w' ⟨rfl,rfl⟩;exact⟨rfl,h.put_n _⟩)
theorem Yb (h:Cl w B p m s c) (M:s.s<1000000):Calls Tryz.prog 52 #[.pointer (some ⟨p.k,5,none⟩)] w fun e w'=>e=.returned (.int .i64 ((s.s+1:Nat):Int))/\Tu w w' B p m m {s with s:=s.s+1} c:=
 (Lf p.k 5 s.s w M (h.blk.cell 5) (h.blk.frozen 5)).mono (by rintro e w' ⟨rfl,rfl⟩;exact⟨rfl,h.put_s _⟩)
theorem Mf (k:Nat) (P:Pr) (w:World) (hs:P.1.length<=1000000) (h0:∀w',Below w.heap.size w w'->w'.cell? ⟨k,0,none⟩=some (.string ⟨P.1.toArray⟩)) (hk:k<w.heap.size) :
  Calls Tryz.prog 48 #[.pointer (some ⟨k,0,none⟩)] w fun e w'=>e=.returned (prV (own P))/\Below w.heap.size w w':=by
 have Z:=I (fun w1=>GR P.1 w1 (by omega));have HN:=I (show k≠w.heap.size by omega);obtain⟨W,X⟩:=Aj (w.alloc (.cells #[.string ⟨#[]⟩,.string ⟨#[]⟩] 35));have hb:Below w.heap.size w W:=X▸Ag.alloc Af _;have M:=I (show Blk W.drew w.heap.size 35 #[.string ⟨#[]⟩,.string ⟨#[]⟩] from X▸Blk.new w _ _);have Y:=I (show Below w.heap.size w W.drew from below_drewN hb 1);have O:=I h0;have E:=I (show own P=(P.1,krb++P.1) from rfl);obtain⟨q,eq⟩:=Aj (krb++P.1);rw[<-eq] at Z E;rw[E.o];clear h0 hk hs hb eq E;go_enter Tryz.func48,Tryz.ntmps48
 go_upto_region 1 with fail
 rw[<-X];clear X;have ad:W.cell? ⟨w.heap.size,0,none⟩=some (.string ⟨#[]⟩):=M.o.cell 0;have ab:W.cell? ⟨w.heap.size,1,none⟩=some (.string ⟨#[]⟩):=M.o.cell 1;have fw:∀i,W.frozen? ⟨w.heap.size,i,none⟩=false:=M.o.frozen;have ae:=M.c0;have aa:=M.c1;have fz:=M.o.frozen
 go_region_held3 (fun w'=>w'.cell? ⟨k,0,none⟩=some (.string ⟨P.1.toArray⟩)) (first | exact O.o _ Y.o | exact O.o _ (Si.AX (Si.AX Y.o Af _) Af _)) ((go_at_call 85;(with_reducible refine Calls.mono (Z.o _) ?_);rintro e w1 ⟨rfl,hw⟩;subst hw;clear Z))
 go_wp2
 have hz:=(M.o.set 0 (.string ⟨P.1.toArray⟩)).set 1 (.string ⟨q.toArray⟩);rw[show(((#[.string ⟨#[]⟩,.string ⟨#[]⟩]:Array Value).setIfInBounds 0 (.string ⟨P.1.toArray⟩)).setIfInBounds 1 (.string ⟨q.toArray⟩))=#[.string ⟨P.1.toArray⟩,.string ⟨q.toArray⟩] from rfl] at hz;refine bodyPost_ret (v:=prV (P.1,q)) ?_ ?_ ?_
 ·exact Wh.Al (v:=prV (P.1,q)) 2 35 ⟨w.heap.size,0,none⟩ Tryz.results48 (by rfl) (Wh.Ao hz Tryz.underlying35 (by rfl) Rg.AZ)
 ·rfl
 ·exact⟨rfl,Si.AX (Si.AX Y.o Af _) Af _⟩
theorem Yc (h:Cl w B p m s c) (hs:p.P.1.length<=1000000):Calls Tryz.prog 48 #[pv p.k] w fun e w'=>e=.returned (prV (own p.P))/\Below w.heap.size w w':=
 Mf p.k p.P w hs (fun w' M=>(h.below M).blk.cell 0) h.blk.lt
def oI:Option L->Int
 |none=>1
 |some _=>0
theorem Jx {o:Option L} {e:Ending} (h:EncR w o e w'):∃v,e=.returned (.tuple #[v,.int .i64 (oI o)])/\SlN (fun j=>j<w.heap.size) w' v (lO o)/\Below w.heap.size w w':=by
 obtain⟨⟨v,i,rfl,Y,h2⟩,X⟩:=h;cases o with
 |none=>
  obtain⟨rfl,rfl⟩:=Y rfl;exact⟨_,rfl,⟨none,0,rfl,Nat.le_refl _,.inl rfl⟩,X⟩
 |some l=>
  obtain⟨rfl,g,c,rfl,h3,h4,O⟩:=h2 l rfl;refine⟨_,rfl,⟨_,c,rfl,h4,?_⟩,X⟩;rcases O with O | ⟨b,o,M,Z,h8⟩
  ·exact .inl O
  ·injection M with M
   injection M with e1 e2 _;subst e1 e2;exact .inr ⟨_,_,rfl,Z,by omega,h8⟩
theorem TV (cs:Array Value) (g:Mg) (w:World) (h:Mc.MgV w w.heap.size cs g) (hs:mSm g) (hz:cs.size=30) (ho:cs.all (·.oneCell')=true) :
  Calls Tryz.prog 89 #[.agg cs] w fun e w'=>∃v,e=.returned v/\SlN (fun j=>j<w.heap.size) w' v (lO (mgO g))/\Below w.heap.size w w':=by
 obtain⟨W,O⟩:=Aj (w.alloc (.cells cs 61));have M:Below w.heap.size w W:=O▸Ag.alloc Af _;have Z:=I (show Blk W w.heap.size 61 cs from O▸Blk.new w _ _);have HI:=I (show(Tryz.prog.info? 61).map (·.size)=some cs.size by rw[hz];exact Mc.AT);have Y:=I (Mc.Rs cs g W (Mc.MgV.more (Mc.MgV.keep h M) M.size) hs);obtain⟨o,eo⟩:=Aj (mgO g);rw[<-eo] at Y⊢;have X:=I M;clear h hs hz ho eo M;go_enter Tryz.func89,Tryz.ntmps89
 go_upto_region 1 with fail
 rw[<-O];clear O
 go_wp2_with (first
  |(refine Wh.AE (by rfl) 61 (.tmp 1) (by rfl) w.heap.size 0 (by rfl) cs _ (Wh.Ac Z.o) Tryz.underlying61 (by rfl) HI.o ?_)
  |(go_at_call 56;refine Calls.mono Y.o ?_;rintro e w1 he;obtain⟨v,rfl,hs,M⟩:=Jx he;clear Y he;have HS:=I hs;replace X:=X.t M;clear hs M)
  |fail)
 go_ret;exact⟨v,rfl,HS.o.mono (fun j _ x=>by have:=Z.o.lt;omega),X.o⟩
theorem Yd {N:Nat} (h:N<=1000000):(Lit.int .i64 ((N:Nat):Int)).wf=true:=by
 simp [Lit.wf,IntKind.min,IntKind.max,IntKind.signed,IntKind.bits];omega
theorem TW {z:Ss} (h:Cl w B p m s c) (X:m.y=some z) (hc:c<1000000) (u:Int) (N:Nat) (hN:N<=1000000) (v:Value) (l:L) (hl:l.length<=2000) (hv:SlN (AO p m) w v l) :
  Calls Tryz.prog 131 #[pv z.b,.int .i64 u,.int .i64 (N:Int),v] w fun e w'=>∃v2 er z',e=.returned (.tuple #[v2,.int .i64 er])/\z'.b=z.b/\z'.ks=z.ks/\SlN (Out w p {m with y:=some z'}) w' v2 (BZ z.ks u (N:Int) l).1/\Tu w w' B p m {m with y:=some z'} s (c+1):=by
 obtain⟨A,cp,rfl,aa,hr⟩:=hv;have hx:=h.sy z X;have Y:∀j,Ow z.b z.h j->AO p m j:=fun j M=>⟨5,z,X,M⟩
 refine(SeL.SP z.b z.ks z.h z.a z.o z.r u (N:Int) A l.length cp l w (by omega) (Yd hN) rfl (by unfold maxLen;omega) (hr.mono fun j _ M=>Y j M) hx.1).mono ?_;rintro e1 w1 ⟨A2,c2,h',Z,rfl,h1,h2,h3,h4,h5,h6⟩;have hT:Tu w w1 B p m {m with y:=some ⟨z.b,z.ks,h',Z,z.o,z.r⟩} s (c+1):=by
  refine h.use_y (h5.1.mono fun j _ x=>⟨z,X,x⟩) (fun q O=>?_) (fun j M=>?_)
  ·injection O with O
   subst O;exact⟨h4,by show Z<=c+1;omega,by show z.o<=c+1;omega,by show z.r<=c+1;omega⟩
  ·obtain⟨q,O,M⟩:=M
   injection O with O;subst O;exact(Ij h5 M).imp (fun x=>⟨z,X,x⟩) id
 refine⟨_,_,⟨z.b,z.ks,h',Z,z.o,z.r⟩,rfl,rfl,rfl,⟨A2,c2,rfl,h1,h3.mono fun j _ M=>?_⟩,hT⟩;rcases M with M | ⟨i,M⟩
 ·exact .inl M
 ·match i,M with
  |0,M=>exact .inl (h.lt ⟨0,M⟩)
  |1,M=>exact .inl (h.lt ⟨1,M⟩)
  |2,M=>exact .inl (h.lt ⟨2,M⟩)
  |3,M=>exact .inl (h.lt ⟨3,M⟩)
  |4,M=>exact .inl (h.lt ⟨4,M⟩)
  |5,M=>
   obtain⟨q,O,M⟩:=M;injection O with O;subst O;exact .inr M
end
section
variable {w w':World} {B:Nat} {p:CP} {m:CM} {s:St} {c:Nat}
abbrev anA (a:An):Array Value:=#[.string ⟨a.c.1.toArray⟩,.string ⟨a.c.2.toArray⟩,.int .i64 a.t,.int .i64 a.q]
theorem Rw {z:Ss} (h:Cl w B p m s c) (hz:m.y=some z) (hc:c<900000) (hn:s.s<900000) (u:Int) (a:An) (hs:pSm a.c) :
  Calls Tryz.prog 87 #[pv p.k,pv z.b,.int .i64 u,.agg (anA a)] w fun e w'=>∃v X,e=.returned v/\X.b=z.b/\X.ks=z.ks/\SlN (Out w p {m with y:=some X}) w' v (seaL z.ks u (s.s+1) a)/\Tu w w' B p m {m with y:=some X} {s with s:=s.s+1} (c+1):=by
 obtain⟨W,eW⟩:=Aj (w.alloc (.cells (anA a) 68));have Y:Below w.heap.size w W:=eW▸Ag.alloc Af _;have HP:=I (show Blk W w.heap.size 68 (anA a) from eW▸Blk.new w _ _);have M:=I (Tu.start h Y);have C1:=I (Mc.Ld a W hs);have C2:=I (fun(Z:World) (O:Cl Z B p m s c)=>Yb O (by omega));have hl:(lO (anO a)).length<=2000:=by
  cases e:anO a with
  |none=>exact Nat.zero_le _
  |some b=>exact(Ms.Bw.1 e).2.2▸(Ms.Bw.1 e).2.1
 have C3:=I (fun(Z:World) (v:Value) (O:Cl Z B p m {s with s:=s.s+1} c) (hv:SlN (AO p m) Z v (lO (anO a)))=>TW O hz (by omega) u (s.s+1) (by omega) v _ hl hv);have E:=I (show seaL z.ks u (s.s+1) a=(BZ z.ks u ((s.s+1:Nat):Int) (lO (anO a))).1 from rfl);obtain⟨r,er⟩:=Aj (seaL z.ks u (s.s+1) a);rw[<-er] at E⊢;rw[<-E.o] at C3;obtain⟨o,eo⟩:=Aj (anO a);rw[<-eo] at C1 C3;obtain⟨N,eN⟩:∃N:Int,N=((s.s+1:Nat):Int):=⟨_,rfl⟩;rw[<-eN] at C2 C3;have HX:=I (show w.heap.size<=W.heap.size from Y.size);clear h Y hs hl eo E er hc hn eN;go_enter Tryz.func87,Tryz.ntmps87
 go_upto_region 1 with fail
 rw[<-eW];clear eW;have k0:=HP.c0;have k1:=HP.c1;have k2:=HP.c2;have k3:=HP.c3
 go_wp2_with (first
  |(go_at_call 130;refine Calls.mono C1.o ?_;rintro e Z he;obtain⟨v,rfl,hs,Y⟩:=Jx he;clear C1 he k0 k1 k2 k3;have HS:=I (M.o.made hs);replace M:=I (M.o.below Y);clear hs Y)
  |(go_at_call 52;refine Ah (C2.o _ M.o.cl) ?_;rintro w2 hk;clear C2;replace HS:=I (hk.sl HS.o);replace M:=I (M.o.trans hk);clear hk)
  |(go_at_call 131;refine Calls.mono (C3.o _ _ M.o.cl HS.o) ?_;rintro e w3 ⟨v2,er,X,rfl,O,h2,hs,hk⟩;clear C3;have ad:=I O;have ab:=I h2;have aa:=I (Out.old M.o.size hs);replace M:=I (M.o.trans hk);clear hs hk O h2)
  |fail)
 go_ret;exact⟨v2,X,rfl,ad.o,ab.o,aa.o,M.o⟩
end
end Cl
namespace Cl
open Go.RowKit Ae Se
open Nm (L)
open Ms (Pr)
theorem Hn {P:Program} {a:Act} {w':World} {o:Oper} {g off:Nat} {ty:TypeId} {cs:Array Value} {d:TypeDesc} (x:Operand) (O:o.op=.load ty x) (X:a.eval x=.pointer (some ⟨g,off,none⟩)) (h:w'.rangeAt g off cs.toList) (hu:P.underlying ty=some d) (Z:d.isRow=true) (Y:(P.info? ty).map (·.size)=some cs.size) :
  (execOp a.eval o).run P w'=.ok (.value (.agg cs)) w':=by
 have M:=run_loadVar_mid (P:=P) w' g off ty cs.toList d h hu Z (by simpa using Y);simp only[Array.toArray_toList] at M;unfold execOp;simp only[O,X,Instr.loadAt,Instr.sureAddr,Sem.run_bind,Sem.run_pure,Result.andThen_ok,M]
theorem Bq {P:Program} {a:Act} {w':World} {o:Oper} {t:TypeId} {parts:Array (Nat×Operand)} (M:o.op=.build t parts) {cells:Array Value} (h:P.built t (parts.map fun x=>(x.1,a.eval x.2)).toList=some cells) :
  (execOp a.eval o).run P w'=.ok (.value (.agg cells)) w':=by
 have:=run_build (P:=P) w' t (parts.map fun x=>(x.1,a.eval x.2)) cells h;unfold execOp;simp only[M,Sem.run_bind,this,Result.andThen_ok]
 rfl
section
variable {w w' w0:World} {B:Nat} {p:CP} {m m0:CM} {s:St} {c g:Nat} {v:Value} {l:L} {a:World}
def SlT (p:CP) (m:CM) (g:Nat) (w:World) (v:Value) (l:L):Prop:=SlN (fun j=>AO p m j\/j=g) w v l
theorem SlT.up (h:SlN (AO p m) w v l) (O:w.heap.size<=g):SlT p m g w v l:=h.mono (fun j M x=>by
 rcases x with x | x
 ·exact x
 ·omega)
theorem SlT.below (h:SlT p m g w v l) (M:Below w.heap.size w w'):SlT p m g w' v l:=SlN.below h M
theorem SlT.kn (h:SlT p m0 g w0 v l) (hk:Tu w0 w B p m0 m s c):SlT p m g w v l:=
 h.keep hk.chg (fun _ _ x=>.inl x) (fun j M x=>by
  rcases x with x | x
  ·rcases hk.nw j x with y | y
   ·exact .inl y
   ·omega
  ·exact .inr x)
theorem SlT.of_out (h:SlN (Out a p m) w v l) (M:g<a.heap.size):SlT p m g w v l:=h.mono (fun j _ x=>by
 rcases x with x | x
 ·exact .inr x
 ·exact .inl (by omega))
theorem SlT.of_made (hk:Cl a B p m s c) (M:g<a.heap.size) (h:SlN (fun j=>j<a.heap.size) w v l):SlT p m g w v l:=h.mono (fun j _ x=>by
 rcases x with x | x
 ·exact hk.lt x
 ·omega)
theorem SlT.over (h:SlT p m g w v l) (M:w.grownBy w' (some g)):SlN (AO p m) w' v l:=h.keep (Chg.of_grown (S:=fun j=>j=g) M rfl) (fun j _ x=>.inr x) (fun _ _ x=>.inl x)
theorem GJ (h:SlN (Out a p m) w v l):SlN (AO p m) w v l:=h.mono (fun _ _ x=>.inr x)
theorem Tu.over (h:Tu w0 w B p m0 m s c) (X:w0.heap.size<=g) (O:¬AO p m g) (M:w.grownBy w' (some g)):Tu w0 w' B p m0 m s c:=h.put X O (Chg.of_grown M rfl)
theorem Tu.made_out (h:Tu w0 w B p m0 m s c) (hs:SlN (fun j=>j<w.heap.size) w' v l):SlN (Out w0 p m) w' v l:=hs.mono (fun j _ x=>by
 have:=h.size;rcases x with x | x
 ·exact Nat.lt_of_lt_of_le x this
 ·exact h.cl.lt x)
theorem Ws {A:Option Addr} {M:Nat} (h:Ca.Own1 w w' A (bvs l)) (Y:l.length<=M):SlN (fun j=>j<w.heap.size) w' (.slice A l.length M) l:=
 ⟨A,M,rfl,Y,by
  rcases h.rd with x | ⟨b,o,e,O,X⟩
  ·exact .inl x
  ·exact .inr ⟨b,o,e,O,fun x=>by have:=h.lo _ e;simp only at *;omega,X⟩⟩
end
open Nm (krb)
open Ms (tmB pSm mSm mgO An Mg As Tg)
open Rg (prV)
section
variable {w w':World} {B:Nat} {p:CP} {m:CM} {s:St} {c:Nat}
abbrev ouA (no:Int) (b:Nat) (u:Int):Array Value:=#[.int .i64 no,pv b,.int .i64 u]
theorem Wt (h:Blk w p.k 88 (clA p m s)) (no u sn:Int) (ob:Nat) (ks:Nat->UInt8):Blk ((((w.setCell ⟨p.k,13,none⟩ (.int .i64 no)).setCell ⟨p.k,14,none⟩ (pv ob)).setCell ⟨p.k,15,none⟩ (.int .i64 u)).setCell ⟨p.k,9,none⟩ (.int .i64 sn)) p.k 88 (clA p {m with ov:=pv ob} {s with ou:=⟨no,ks,u⟩,sn:=sn}):=by
 have:=(((h.set 13 (.int .i64 no)).set 14 (pv ob)).set 15 (.int .i64 u)).set 9 (.int .i64 sn)
 simpa only[List.setIfInBounds_toArray,List.set_cons_zero,List.set_cons_succ] using this
theorem Wu (w:World) (k:Nat) (a b c d:Value):Chg (fun j=>j=k) w ((((w.setCell ⟨k,13,none⟩ a).setCell ⟨k,14,none⟩ b).setCell ⟨k,15,none⟩ c).setCell ⟨k,9,none⟩ d):=
 ((((Chg.refl (fun j=>j=k) w).set (p:=⟨k,13,none⟩) (.inl rfl) a).set (p:=⟨k,14,none⟩) (.inl rfl) b).set (p:=⟨k,15,none⟩) (.inl rfl) c).set (p:=⟨k,9,none⟩) (.inl rfl) d
theorem Lg {m':CM} {s':St} {r:L} {cs:Array Value} {g:Mg} {no u:Int} {ob:Nat} {ks:Nat->UInt8} (h:Cl w B p m s c) (ak:0<=s.sn/\s.sn<=1000000) (hr:r.length<=140737488351232) (hm:∀w2,Chg (AO p m) w w2->Mc.MgV w2 w2.heap.size cs g) (hs:mSm g) (hz:cs.size=30) (ho:cs.all (·.oneCell')=true)
  (hT:∀w1 w2,Cl w1 B p m s c->Chg (fun j=>j=p.k) w1 w2->Blk w2 p.k 88 (clA p {m with ov:=pv ob} {s with ou:=⟨no,ks,u⟩,sn:=s.sn+1})->Tu w1 w2 B p m m' s' c) :
  Calls Tryz.prog 53 #[pv p.k,.string ⟨r.toArray⟩,.agg cs,.agg (ouA no ob u)] w fun e w'=>∃v,e=.returned (.tuple #[.string ⟨r.toArray⟩,v])/\SlN (Out w p m') w' v (lO (mgO g))/\Tu w w' B p m m' s' c:=by
 obtain⟨W,eW⟩:=Aj ((w.alloc (.cells cs 61)).alloc (.cells (ouA no ob u) 84));have Y:Below w.heap.size w W:=eW▸(Ag.alloc Af _).alloc (by simp) _;have X:=I (show Blk W w.heap.size 61 cs from eW▸(Blk.new w _ _).alloc _);have HO:=I (show Blk W (w.heap.size+1) 84 (ouA no ob u) by have:=Blk.new (w.alloc (.cells cs 61)) 84 (ouA no ob u);simp only[World.size_alloc] at this;exact eW▸this);have M:=I (Tu.start h Y);have HN:=I (h.fresh Af);have HI:=I (show(Tryz.prog.info? 61).map (·.size)=some cs.size by rw[hz];exact Mc.AT);have ae:=I (show p.k≠w.heap.size from Nat.ne_of_lt h.blk.lt);have ag:=I hm;have CE:=I (fun(w1:World) (h1:Mc.MgV w1 w1.heap.size cs g)=>TV cs g w1 h1 hs hz ho);have CC:=I (fun(w1:World)=>Ca.Dz r w1 hr);have HT:=I hT;have k9:W.cell? ⟨p.k,9,none⟩=some (.int .i64 s.sn):=M.o.cl.blk.cell 9;have aj:W.cell? ⟨p.k,13,none⟩=some (.int .i64 s.ou.no):=M.o.cl.blk.cell 13;have an:W.cell? ⟨p.k,14,none⟩=some m.ov:=M.o.cl.blk.cell 14;have ai:W.cell? ⟨p.k,15,none⟩=some (.int .i64 s.ou.u):=M.o.cl.blk.cell 15;have fz:=M.o.cl.blk.frozen;have q0:=HO.c0;have q1:=HO.c1;have q2:=HO.c2;have ah:IntKind.i64.wrap (s.sn+1)=s.sn+1:=by rw[IntKind.wrap_i64];omega
 obtain⟨o,eo⟩:=Aj (mgO g);rw[<-eo] at CE⊢;clear h Y hm hs hz ho hT eo ak hr;go_enter Tryz.func53,Tryz.ntmps53
 go_upto_region 1 with fail
 rw[<-eW];clear eW
 go_upto_region 3 with fail
 obtain⟨V,eV⟩:=Aj (((((W.setCell ⟨p.k,13,none⟩ (.int .i64 no)).setCell ⟨p.k,14,none⟩ (pv ob)).setCell ⟨p.k,15,none⟩ (.int .i64 u)).setCell ⟨p.k,9,none⟩ (.int .i64 (s.sn+1))));have aa:Chg (fun j=>j=p.k) W V:=eV▸Wu W p.k _ _ _ _;have ad:=HT.o W V M.o.cl aa (eV▸Wt M.o.cl.blk no u (s.sn+1) ob ks);have af:=ag.o V (M.o.chg.trans (aa.mono (fun j _ x=>⟨0,x⟩)) (fun _ _ x=>x));replace X:=I (aa.blk X.o (fun x=>ae.o x.symm));replace M:=I (M.o.trans ad);rw[<-eV];clear eV aa ad k9 aj an ai fz q0 q1 q2 ah HO HT ag HN ae;have O:=I af;clear af;have Z:Below V.heap.size V V.drew:=below_drewN Ag 1;replace M:=I (M.o.below Z);replace X:=I (X.o.below Z);replace O:=I (Mc.MgV.more (Mc.MgV.keep O.o Z) Z.size);clear Z;refine Reg.AM (fun w'=>Blk w' w.heap.size 61 cs) 6 rfl (by kernel_rfl) X.o ?_;refine Reg.ty 0 rfl X.o ?_;refine Reg.tw 2 (v:=.agg cs) rfl X.o (fun w' hS=>by exact Wh.Da (.tmp 6) rfl rfl hS Tryz.underlying61 (by rfl) HI.o) ?_;refine Reg.b1 1 ?_
 right
 refine⟨_,_,_,_,_,_,47,#[.string ⟨r.toArray⟩],rfl,by rfl,(by go_simp<;>first | rfl | exact⟨rfl,rfl⟩),?_⟩;refine Ah (CC.o _) ?_;rintro ar Y;replace M:=I (M.o.below Y);replace X:=I (X.o.below Y);replace O:=I (Mc.MgV.more (Mc.MgV.keep O.o Y) Y.size);have ab:=I M.o;clear Y;clear CC;refine⟨_,rfl,X.o,?_⟩;simp only[Act.put,J,U,Aa];refine Reg.b1 3 ?_
 right
 refine⟨_,_,_,_,_,_,89,#[.agg cs],rfl,by rfl,(by go_simp<;>first | rfl | exact⟨rfl,rfl⟩),?_⟩;refine Calls.mono (CE.o _ O.o) ?_;rintro e au ⟨v,rfl,hs,Y⟩;replace M:=I (M.o.below Y);replace X:=I (X.o.below Y);replace O:=I (Mc.MgV.more (Mc.MgV.keep O.o Y) Y.size);have ao:=I (ab.o.made_out hs);clear hs ab;clear Y;clear CE;refine⟨_,rfl,X.o,?_⟩;simp only[Act.put,J,U,Aa];refine Reg.ty 4 rfl X.o ?_;refine Reg.ty 5 rfl X.o ?_;refine wpAnyH_done (by kernel_rfl) ?_ _
 go_wp2
 go_ret2
 exact⟨v,rfl,ao.o,M.o⟩
theorem Wv (h:Blk w p.k 88 (clA p m s)) (st er:Int):Blk ((((((((w.setCell ⟨p.k,7,none⟩ (.int .i64 st)).setCell ⟨p.k,8,none⟩ (.int .i64 er)).setCell ⟨p.k,10,none⟩ (.string ⟨#[]⟩)).setCell ⟨p.k,11,none⟩ (.string ⟨#[]⟩)).setCell ⟨p.k,12,none⟩ (.slice none 0 0)).setCell ⟨p.k,13,none⟩ (.int .i64 0)).setCell ⟨p.k,14,none⟩ (.pointer none)).setCell ⟨p.k,15,none⟩ (.int .i64 0)) p.k 88 (clA p {m with vv:=.slice none 0 0,ov:=.pointer none,x:=none} (endS mC s st er)):=by
 have:=(((((((h.set 7 (.int .i64 st)).set 8 (.int .i64 er)).set 10 (.string ⟨#[]⟩)).set 11 (.string ⟨#[]⟩)).set 12 (.slice none 0 0)).set 13 (.int .i64 0)).set 14 (.pointer none)).set 15 (.int .i64 0);simp only[List.setIfInBounds_toArray,List.set_cons_zero,List.set_cons_succ] at this;exact this
theorem Cl.ended (h:Cl w B p m s c) {st er:Int} (Y:st≠1) (O:Chg (fun j=>j=p.k) w w') (hb:Blk w' p.k 88 (clA p {m with vv:=.slice none 0 0,ov:=.pointer none,x:=none} (endS mC s st er))):Tu w w' B p m {m with vv:=.slice none 0 0,ov:=.pointer none,x:=none} (endS mC s st er) c:=by
 have Z:∀i,i≠0->∀j,Pt p m i j->¬j=p.k:=fun i hi j M e=>h.not (i':=0) M hi e
 have X:∀i j,Pt p {m with vv:=.slice none 0 0,ov:=.pointer none,x:=none} i j->Pt p m i j:=fun i j M=>by
  match i,M with
  |0,M=>exact M
  |1,M=>exact M
  |2,M=>exact M
  |3,M=>cases M
  |4,M=>obtain⟨z,hz,_⟩:=M;cases hz
  |5,M=>exact M
 refine⟨⟨⟨fun i i' j a b=>h.pa.dis i i' j (X i j a) (X i' j b),fun i j a=>h.pa.lo i j (X i j a),fun i j a=>Nat.lt_of_lt_of_le (h.pa.lt i j (X i j a)) O.size,Nat.le_trans h.pa.hB O.size⟩,hb,h.ca.chg O (Z 2 (by decide)),h.li,h.box.chg O (Z 1 (by decide)),h.bc,Nm.Own.nil _ _,SxR.none,h.sy.chg O (Z 5 (by decide)),.inl ⟨rfl,fun e=>absurd e Y⟩⟩,O.mono (fun j _ x=>⟨0,x⟩),fun j M=>by
  obtain⟨i,M⟩:=M;exact .inl ⟨i,X i j M⟩⟩
theorem Il {st er:Int} (h:Cl w B p m s c) (M:st≠1) :
  Calls Tryz.prog 25 #[pv p.k,.int .i64 st,.int .i64 er] w fun e w'=>e=.returned (.tuple #[])/\∃m',Tu w w' B p m m' (endS mC s st er) c:=by
 have X:=I h;have k7:w.cell? ⟨p.k,7,none⟩=some (.int .i64 s.st):=h.blk.cell 7;have k8:w.cell? ⟨p.k,8,none⟩=some (.int .i64 s.er):=h.blk.cell 8;have ae:w.cell? ⟨p.k,10,none⟩=some (.string ⟨s.tg.1.toArray⟩):=h.blk.cell 10;have ad:w.cell? ⟨p.k,11,none⟩=some (.string ⟨s.tg.2.toArray⟩):=h.blk.cell 11;have Y:w.cell? ⟨p.k,12,none⟩=some m.vv:=h.blk.cell 12;have ab:w.cell? ⟨p.k,13,none⟩=some (.int .i64 s.ou.no):=h.blk.cell 13;have aa:w.cell? ⟨p.k,14,none⟩=some m.ov:=h.blk.cell 14;have Z:w.cell? ⟨p.k,15,none⟩=some (.int .i64 s.ou.u):=h.blk.cell 15;have fz:=h.blk.frozen;have O:=I M;clear h M;go_enter Tryz.func25,Tryz.ntmps25
 go_wp2
 go_end0
 refine⟨rfl,_,X.o.ended O.o ?_ (Wv X.o.blk st er)⟩;exact((((((((Chg.refl (fun j=>j=p.k) w).set (p:=⟨p.k,7,none⟩) (.inl rfl) _).set (p:=⟨p.k,8,none⟩) (.inl rfl) _).set (p:=⟨p.k,10,none⟩) (.inl rfl) _).set (p:=⟨p.k,11,none⟩) (.inl rfl) _).set (p:=⟨p.k,12,none⟩) (.inl rfl) _).set (p:=⟨p.k,13,none⟩) (.inl rfl) _).set (p:=⟨p.k,14,none⟩) (.inl rfl) _).set (p:=⟨p.k,15,none⟩) (.inl rfl) _
end
open Ca (Cr It crA)
abbrev crv (x:Cr) (bv:Value):Array Value:=(.string ⟨x.s.1.toArray⟩ :: .string ⟨x.s.2.toArray⟩ :: .int .i64 x.n :: bv :: ((AW x.k).toList++[.int .i64 x.e])).toArray
def Okx (x:Cr):Prop:=pSm x.s/\x.b.length<=100000
structure Sz (p:CP) (s:St) (c:Nat):Prop where
 nn:s.n<=c
 ss:s.s<=c
 qq:s.q<=c
 sn:0<=s.sn/\s.sn<=(c:Int)
 vs:s.vs.length<=c/\∀v∈s.vs,v.length<=1000000
 tg:pSm s.tg
 l:s.l.length<=10
 x:∀i∈s.l,Okx i.2
 pp:pSm p.P/\p.P.1.length<=1000000
abbrev tgA (q:Tg) (b a:Value):Array Value:=#[.string ⟨q.t.s.1.toArray⟩,.string ⟨q.t.s.2.toArray⟩,.int .i64 q.t.k,b,a,.string ⟨q.s.1.toArray⟩,.string ⟨q.s.2.toArray⟩,.int .i64 q.u,.int .i64 q.no]
theorem tg_mg {w:World} {q:Tg} {b a:Value} {S S':Nat->Prop} (M:SlN S w b q.t.b) (O:SlN S' w a q.a):Mc.MgV w w.heap.size (Mc.mgA 2 Mc.zA (tgA q b a) Mc.zR Mc.zP Mc.zF) (mTg q):=
 ⟨_,_,_,_,_,rfl,⟨Mc.zA_v,⟨b,a,rfl,M.sl,O.sl⟩,Mc.zR_v _ _,Mc.zP_v _ _,Mc.zF_v⟩⟩
theorem Rx (q:Tg) (b a:Value):Tryz.prog.built 61 [(0,.int .i64 2),(2,.agg (tgA q b a))]=some (Mc.mgA 2 Mc.zA (tgA q b a) Mc.zR Mc.zP Mc.zF):=by kernel_rfl
theorem TX (q:Tg) (b:Value) (A:Option Addr) (n c:Nat):Tryz.prog.built 53 [(0,.agg #[.string ⟨q.t.s.1.toArray⟩,.string ⟨q.t.s.2.toArray⟩,.int .i64 q.t.k,b]),(1,.slice A n c),(2,.agg #[.string ⟨q.s.1.toArray⟩,.string ⟨q.s.2.toArray⟩]),(3,.int .i64 q.u),(4,.int .i64 q.no)]=some (tgA q b (.slice A n c)):=by kernel_rfl
theorem Nn (q:Tg) {b a:Value} (M:b.oneCell'=true) (O:a.oneCell'=true):(tgA q b a).all (·.oneCell')=true:=by
 simp [tgA,M,O];simp [Value.oneCell']
theorem UL {S:Nat->Prop} {w:World} {v:Value} {l:L} (h:SlN S w v l):v.oneCell'=true:=by obtain⟨A,c,rfl,_⟩:=h;rfl
theorem BQ:(Tryz.prog.info? 53).map (·.size)=some 9:=by kernel_rfl
section
variable {w w' w0:World} {B:Nat} {p:CP} {m m' m0:CM} {s:St} {c:Nat} {r:L}
theorem new_y (ks:Nat->UInt8) (h:Cl w B p m s c):Calls Tryz.prog 41 #[.agg (AW ks)] w fun e w'=>∃b,e=.returned (pv b)/\Tu w w' B p m {m with y:=some ⟨b,ks,none,0,0,0⟩} s (c+1):=by
 refine(JJ ks w).mono ?_;rintro e w' ⟨b,rfl,Y,Z,hw⟩;have X:∀j,SO (some ⟨b,ks,none,0,0,0⟩) j->j=b:=fun j M=>by
  obtain⟨z,O,M⟩:=M;injection O with O;subst O;rcases M with M | M
  ·exact M
  ·cases M
 refine⟨b,rfl,h.use_y (Chg.of_below hw) (fun z O=>?_) (fun j M=>.inr (X j M▸Y))⟩;injection O with O;subst O;exact⟨Z,Nat.zero_le _,Nat.zero_le _,Nat.zero_le _⟩
theorem Cl.out_y (h:Cl w B p m s c) {z:Ss} (hz:m.y=some z) {ou:Ou} (hk:ou.ks=z.ks) {sn:Int} (X:Chg (fun j=>j=p.k) w w') (hb:Blk w' p.k 88 (clA p {m with ov:=pv z.b} {s with ou:=ou,sn:=sn})):Tu w w' B p m {m with ov:=pv z.b,x:=m.y,y:=none} {s with ou:=ou,sn:=sn} c:=by
 have Z:∀i,i≠0->∀j,Pt p m i j->¬j=p.k:=fun i hi j M e=>h.not (i':=0) M hi e
 have Y:∀i j,Pt p {m with ov:=pv z.b,x:=m.y,y:=none} i j->∃i',Pt p m i' j/\((i=4/\i'=5)\/(i≠4/\i≠5/\i'=i)):=fun i j M=>by
  match i,M with
  |0,M=>exact⟨0,M,.inr ⟨by decide,by decide,rfl⟩⟩
  |1,M=>exact⟨1,M,.inr ⟨by decide,by decide,rfl⟩⟩
  |2,M=>exact⟨2,M,.inr ⟨by decide,by decide,rfl⟩⟩
  |3,M=>exact⟨3,M,.inr ⟨by decide,by decide,rfl⟩⟩
  |4,M=>exact⟨5,M,.inl ⟨rfl,rfl⟩⟩
  |5,M=>obtain⟨q,hq,_⟩:=M;cases hq
 refine⟨⟨⟨fun i i' j a b=>?_,fun i j a=>?_,fun i j a=>?_,Nat.le_trans h.pa.hB X.size⟩,hb,h.ca.chg X (Z 2 (by decide)),h.li,h.box.chg X (Z 1 (by decide)),h.bc,Cd h.vis X (Z 3 (by decide)),h.sy.chg X (Z 5 (by decide)),SxR.none,.inr (.inr ⟨z,hz,rfl,hk⟩)⟩,X.mono (fun j _ x=>⟨0,x⟩),fun j M=>?_⟩
 ·obtain⟨k,O,ad⟩:=Y i j a
  obtain⟨k',aa,ab⟩:=Y i' j b;have:=h.pa.dis k k' j O aa;omega
 ·obtain⟨k,O,_⟩:=Y i j a
  exact h.pa.lo k j O
 ·obtain⟨k,O,_⟩:=Y i j a
  exact Nat.lt_of_lt_of_le (h.pa.lt k j O) X.size
 ·obtain⟨i,M⟩:=M
  obtain⟨k,O,_⟩:=Y i j M;exact .inl ⟨k,O⟩
theorem Ry (w:World) (base:Nat) (v:Value) (ls:List L) (O:Nm.Own w base v ls) (r:L) (g:Nat) (hc:w.cell? ⟨g,0,none⟩=some (Nm.st r)) (hg:g<w.heap.size) (hl:ls.length<=1000000) (hb:base<=w.heap.size) :
  ∃v' w',(Builtin.append_ #[38,38] 38 #[v,.slice (some ⟨g,0,none⟩) 1 1]).run Tryz.prog w=.ok v' w'/\Nm.Own w' base v' (ls++[r])/\w.grownBy w' v.ownBlock/\(v'.ownBlock=v.ownBlock\/v'.ownBlock=some w.heap.size):=by
 obtain⟨i0,Z,aa,Y,X⟩:=info_parts Nm.MD;obtain⟨v',w',M,h2,h3,h4⟩:=Gm (P:=Tryz.prog) w base 38 38 9 i0 _ 16 Tryz.underlying38 Z aa Y X rfl v ls.length (Nm.strs ls) O w.heap.size (some ⟨g,0,none⟩) 1 1 (Nm.strs [r]) rfl (.inr ⟨g,0,rfl,hg,fun i u hu=>by
  cases i with
  |zero=>simp only[Nm.strs,List.map_cons,List.map_nil,List.getElem?_cons_zero,Option.some.injEq] at hu;rw[<-hu];exact hc
  |succ i=>simp [Nm.strs] at hu⟩) (Nm.MC _) (by unfold maxLen;omega) (by omega) hb
 exact⟨v',w',M,by rw[Nm.Own,List.length_append,Nm.Iv];exact h2,h3,h4⟩
theorem Cl.append (h:Cl w B p m s c) {v':Value} {ls:List L} (ho:Nm.Own w' B v' ls) (X:w.grownBy w' m.vv.ownBlock) (hv:v'.ownBlock=m.vv.ownBlock\/v'.ownBlock=some w.heap.size):Tu w (w'.setCell ⟨p.k,12,none⟩ v') B p m {m with vv:=v'} {s with vs:=ls} c:=by
 have Y:Chg (fun j=>m.vv.ownBlock=some j) w w':=⟨X.os,X.tape,X.output,X.size,fun i hi hn=>X.block i hi (fun e=>hn e.symm)⟩;have O:m.vv.ownBlock≠some p.k:=fun e=>h.not (i:=3) (i':=0) (j:=p.k) e (by decide) rfl
 have M:v'.ownBlock≠some p.k:=fun e=>by
  rcases hv with x | x
  ·exact O (x▸e)
  ·rw[x] at e
   injection e with e;have:=h.blk.lt;omega
 refine h.visit ?_ ?_ ?_ ?_
 ·exact(Y.mono (T:=fun j=>j=p.k\/m.vv.ownBlock=some j) (fun _ _ x=>.inr x)).set (p:=⟨p.k,12,none⟩) (.inl (.inl rfl)) v'
 ·have:=(Y.blk h.blk O).set 12 v'
  simp only[List.setIfInBounds_toArray,List.set_cons_zero,List.set_cons_succ] at this;exact this
 ·exact Cd ho (Gf w' p.k 12 v') (fun k hk e=>M (e▸hk))
 ·intro j Z
  rcases hv with x | x
  ·exact .inl (x▸Z)
  ·rw[x] at Z
   injection Z with Z;exact .inr (by omega)
theorem TY {z:Ss} (h:Cl w B p m s c) (Z:m.y=some z) (hc:c<900000) (hn:s.s<900000) (u:Int) (a:An) (hs:pSm a.c) :
  Calls Tryz.prog 87 #[pv p.k,pv z.b,.int .i64 u,.agg (anA a)] w fun e w'=>∃A n O M,e=.returned (.slice A n O)/\M.b=z.b/\M.ks=z.ks/\SlN (Out w p {m with y:=some M}) w' (.slice A n O) (seaL z.ks u (s.s+1) a)/\Tu w w' B p m {m with y:=some M} {s with s:=s.s+1} (c+1):=
 (Rw h Z hc hn u a hs).mono (by rintro e w' ⟨v,M,rfl,X,h2,⟨A,O,rfl,h3,Y⟩,hk⟩;exact⟨A,_,O,M,rfl,X,h2,⟨A,O,rfl,h3,Y⟩,hk⟩)
theorem TZ {x:Cr} {bv:Value} {now:Int} (h:Cl w B p m s c) (hc:c<=800000) (hz:Sz p s c) (hr:r.length<=1000000) (hx:Okx x) (ht:tmB now=true) (hv:SlN (AO p m) w bv x.b) :
  Calls Tryz.prog 50 #[pv p.k,.string ⟨r.toArray⟩,.agg (crv x bv),.int .i64 now] w fun e w'=>∃v m',e=.returned (.tuple #[.string ⟨r.toArray⟩,v])/\SlN (Out w p m') w' v (furL p.P s r x now).2.2/\Tu w w' B p m m' (furS s r x) (c+2):=by
 obtain⟨cx,aS⟩:=Aj (crv x bv);rw[<-aS];obtain⟨W,eW⟩:=Aj (w.alloc (.cells cx 96));have X:Below w.heap.size w W:=eW▸Ag.alloc Af _;have Z:=I (show Blk W w.heap.size 96 cx from eW▸Blk.new w _ _);have M:=I (Tu.start h X);have NX:=I (h.fresh Af);have SB:=I (hv.below X);have aV:=I (UL hv);have aY:=I (fun(w1:World) (hx:Blk w1 w.heap.size 96 cx)=>(show w1.rangeAt w.heap.size 4 (AW x.k).toList from Wh.CY (pre:=[.string ⟨x.s.1.toArray⟩,.string ⟨x.s.2.toArray⟩,.int .i64 x.n,bv]) (post:=[.int .i64 x.e]) hx (by rw[aS];simp) 4 rfl));have bo:=I (fun(w1:World) (hx:Blk w1 w.heap.size 96 cx)=>(show w1.cell? ⟨w.heap.size,0,none⟩=some (.string ⟨x.s.1.toArray⟩)/\w1.cell? ⟨w.heap.size,1,none⟩=some (.string ⟨x.s.2.toArray⟩)/\w1.cell? ⟨w.heap.size,2,none⟩=some (.int .i64 x.n)/\w1.cell? ⟨w.heap.size,3,none⟩=some bv by
  rw[aS] at hx;exact⟨hx.cell 0,hx.cell 1,hx.cell 2,hx.cell 3⟩))
 have bL:=I (show(Tryz.prog.info? 30).map (·.size)=some (AW x.k).size by rw[AQ];kernel_rfl);have C1:=I (fun(w1:World) (h1:Cl w1 B p m s c)=>new_y x.k h1);have C2:=I (fun(w1:World) (m1:CM) (z:Ss) (h1:Cl w1 B p m1 s (c+1)) (hy:m1.y=some z)=>TY h1 hy (by omega) (by have:=hz.ss;omega) 7 ⟨p.P,now,0⟩ hz.pp.1);have C3:=I (fun(w1:World)=>Le now w1 ht);have C4:=I (fun(w1:World) (m1:CM) (h1:Cl w1 B p m1 {s with s:=s.s+1} (c+2))=>UK h1 (by have:=hz.nn;show s.n<1000000;omega));have C5:=I (fun(w1:World)=>Ca.Dz r w1 (by omega));have bd:=I (show s.vs.length<=1000000 by have:=hz.vs.1;omega);have bm:mSm (mTg (furQ p.P s x now)):=⟨⟨Mc.BD,Mc.BD⟩,⟨hx.1,hz.tg⟩,⟨Mc.BD,Mc.BD⟩,Mc.BD⟩;have C6:=I (fun(w1:World) (m1:CM) (z:Ss) (av:Value) (h1:Cl w1 B p m1 {s with s:=s.s+1,n:=s.n+1,vs:=s.vs++[r]} (c+2)) (hy:m1.y=some z) (hk:z.ks=x.k) (s1:SlN (AO p m1) w1 bv x.b) (s2:SlN (AO p m1) w1 av (furQ p.P s x now).a)=>
  Lg (r:=r) (cs:=Mc.mgA 2 Mc.zA (tgA (furQ p.P s x now) bv av) Mc.zR Mc.zP Mc.zF) (g:=mTg (furQ p.P s x now)) (no:=((s.n+1:Nat):Int)) (u:=8) (ob:=z.b) (ks:=x.k) (m':={m1 with ov:=pv z.b,x:=m1.y,y:=none}) (s':=furS s r x) h1 ⟨hz.sn.1,by have:=hz.sn.2;show s.sn<=1000000;omega⟩ (by omega) (fun w2 aU=>tg_mg (q:=furQ p.P s x now) (s1.keep aU (fun _ _ y=>y) (S':=AO p m1) (fun _ _ y=>y)) (s2.keep aU (fun _ _ y=>y) (S':=AO p m1) (fun _ _ y=>y))) bm (by rfl) (Mc.MgP.one (m:=mTg (furQ p.P s x now)) (w:=w1) (B:=w1.heap.size) ⟨Mc.zA_v,⟨bv,av,rfl,s1.sl,s2.sl⟩,Mc.zR_v _ _,Mc.zP_v _ _,Mc.zF_v⟩ 2)
   (fun wa wb bu aU bE=>bu.out_y hy (ou:=⟨((s.n+1:Nat):Int),x.k,8⟩) hk.symm aU bE))
 have EQ:=I (show(furL p.P s r x now).2.2=lO (mgO (mTg (furQ p.P s x now))) by simp only[furL]);rw[EQ.o];have EA:=I (show(furQ p.P s x now).a=seaL x.k 7 (s.s+1) ⟨p.P,now,0⟩ by simp only[furQ]);have EU:=I (show(furQ p.P s x now).u=Hc now by simp only[furQ]);have ET:=I (show(furQ p.P s x now).s=s.tg by simp only[furQ]);have EN:=I (show(furQ p.P s x now).no=((s.n+1:Nat):Int) by simp only[furQ]);have EK:=I (show(furQ p.P s x now).t=tkOf x by simp only[furQ]);have az:=I (fun(A:Option Addr) (n cp:Nat)=>(show Tryz.prog.built 53 [(0,.agg #[.string ⟨x.s.1.toArray⟩,.string ⟨x.s.2.toArray⟩,.int .i64 x.n,bv]),(1,.slice A n cp),(2,.agg #[.string ⟨s.tg.1.toArray⟩,.string ⟨s.tg.2.toArray⟩]),(3,.int .i64 (Hc now)),(4,.int .i64 ((s.n+1:Nat):Int))]=some (tgA (furQ p.P s x now) bv (.slice A n cp)) from TX (furQ p.P s x now) bv A n cp));obtain⟨Q,eQ⟩:=Aj (furQ p.P s x now);rw[<-eQ] at C6 EA EU ET EN EK az⊢;clear eQ EQ;obtain⟨T,eT⟩:=Aj (Hc now);rw[<-eT] at C3 EU az;obtain⟨NN,aZ⟩:∃z:Int,z=((s.n+1:Nat):Int):=⟨_,rfl⟩;rw[<-aZ] at EN az C4;have bC:=I aZ;clear h X hv hc hz hr hx ht aS bm eT aZ;go_enter Tryz.func50,Tryz.ntmps50
 go_upto_region 1 with fail
 rw[<-eW];clear eW
 go_upto_region 3 with(first
  |(refine Wh.AE (by rfl) 30 (.tmp 14) (by rfl) w.heap.size 4 (by rfl) (AW x.k) _ (aY.o _ Z.o) Tryz.underlying30 (by rfl) bL.o ?_)
  |(go_at_call 41;refine Calls.mono (C1.o _ M.o.cl) ?_;rintro e w1 ⟨zb,rfl,hk⟩;clear C1 aY;have O:=hk.blk Z.o NX.o;replace NX:=I (hk.not NX.o Z.o.lt);replace Z:=I O;clear O;replace SB:=I (hk.sl SB.o);replace M:=I (M.o.trans hk);clear hk;have k0:w1.cell? ⟨p.k,0,none⟩=some (.string ⟨p.P.1.toArray⟩):=M.o.cl.blk.cell 0;have k1:w1.cell? ⟨p.k,1,none⟩=some (.string ⟨p.P.2.toArray⟩):=M.o.cl.blk.cell 1)
  |fail)
 obtain⟨z1,aT⟩:=Aj ((⟨zb,x.k,none,0,0,0⟩:Ss));have bf:=I (show z1.b=zb by rw[aT]);have ba:=I (show z1.ks=x.k by rw[aT]);rw[<-aT] at M NX SB;obtain⟨m1,bg⟩:=Aj ({m with y:=some z1});have HY:=I (show m1.y=some z1 by rw[bg]);rw[<-bg] at M NX SB;clear aT bg k0 k1;obtain⟨W2,aX⟩:=Aj (w1.alloc (.cells (anA ⟨p.P,now,0⟩) 68));have X:Below w1.heap.size w1 W2:=aX▸Ag.alloc Af _;have HA:=I (show Blk W2 w1.heap.size 68 (anA ⟨p.P,now,0⟩) from aX▸Blk.new w1 _ _);have NA:=I (M.o.cl.fresh (Nat.le_refl w1.heap.size));replace M:=I (M.o.below X);replace Z:=I (Z.o.below X);replace SB:=I (SB.o.below X);rw[<-aX];clear aX X;obtain⟨ga,bh⟩:=Aj (w1.heap.size);rw[<-bh] at HA NA⊢;clear bh
 go_cut [12] from 23 to 40 (fun tv wx=>∃(PT:Nat) (zz:Ss) (m2:CM) (av:Value),tv=.pointer (some ⟨PT,0,none⟩)/\m2.y=some zz/\zz.b=zb/\zz.ks=x.k/\Blk wx PT 53 (tgA Q bv av)/\¬AO p m2 PT/\SlN (AO p m2) wx bv x.b/\SlN (AO p m2) wx av Q.a/\Tu w wx B p m m2 {s with s:=s.s+1,n:=s.n+1} (c+2))
 case first=>
  have ao:Below W2.heap.size W2 W2.drew:=below_drewN Ag 1;replace M:=I (M.o.below ao);replace Z:=I (Z.o.below ao);replace HA:=I (HA.o.below ao);replace SB:=I (SB.o.below ao);clear ao;refine Reg.AM (fun w'=>Blk w' w.heap.size 96 cx/\Blk w' ga 68 (anA ⟨p.P,now,0⟩)/\w'.cell? ⟨p.k,10,none⟩=some (.string ⟨s.tg.1.toArray⟩)/\w'.cell? ⟨p.k,11,none⟩=some (.string ⟨s.tg.2.toArray⟩)) 20 rfl (by kernel_rfl) ⟨Z.o,HA.o,(M.o).cl.blk.cell 10,(M.o).cl.blk.cell 11⟩ ?_;refine Reg.ty 0 rfl ⟨Z.o,HA.o,(M.o).cl.blk.cell 10,(M.o).cl.blk.cell 11⟩ ?_;refine Reg.tw 1 rfl ⟨Z.o,HA.o,(M.o).cl.blk.cell 10,(M.o).cl.blk.cell 11⟩ (fun w' hS=>by obtain⟨hX,hA,aN,aO⟩:=hS;have q:=bo.o _ hX;obtain⟨q0,q1,q2,q3⟩:=q;go_simp<;>rfl) ?_;refine Reg.ty 2 rfl ⟨Z.o,HA.o,(M.o).cl.blk.cell 10,(M.o).cl.blk.cell 11⟩ ?_;refine Reg.ty 3 rfl ⟨Z.o,HA.o,(M.o).cl.blk.cell 10,(M.o).cl.blk.cell 11⟩ ?_;refine Reg.tw 4 (v:=.agg (anA ⟨p.P,now,0⟩)) rfl ⟨Z.o,HA.o,(M.o).cl.blk.cell 10,(M.o).cl.blk.cell 11⟩ (fun w' hS=>by obtain⟨hX,hA,aN,aO⟩:=hS;have a0:=hA.cell 0;have a1:=hA.cell 1;have a2:=hA.cell 2;have a3:=hA.cell 3;go_simp<;>rfl) ?_;refine Reg.ty 6 rfl ⟨Z.o,HA.o,(M.o).cl.blk.cell 10,(M.o).cl.blk.cell 11⟩ ?_;refine Reg.ty 7 rfl ⟨Z.o,HA.o,(M.o).cl.blk.cell 10,(M.o).cl.blk.cell 11⟩ ?_;refine Reg.ty 8 rfl ⟨Z.o,HA.o,(M.o).cl.blk.cell 10,(M.o).cl.blk.cell 11⟩ ?_;refine Reg.ty 9 rfl ⟨Z.o,HA.o,(M.o).cl.blk.cell 10,(M.o).cl.blk.cell 11⟩ ?_;refine Reg.tw 10 (v:=.agg #[.string ⟨s.tg.1.toArray⟩,.string ⟨s.tg.2.toArray⟩]) rfl ⟨Z.o,HA.o,(M.o).cl.blk.cell 10,(M.o).cl.blk.cell 11⟩ (fun w' hS=>by obtain⟨hX,hA,aN,aO⟩:=hS;go_simp<;>rfl) ?_;refine Reg.ty 11 rfl ⟨Z.o,HA.o,(M.o).cl.blk.cell 10,(M.o).cl.blk.cell 11⟩ ?_;refine Reg.ty 13 rfl ⟨Z.o,HA.o,(M.o).cl.blk.cell 10,(M.o).cl.blk.cell 11⟩ ?_;refine Reg.ty 14 rfl ⟨Z.o,HA.o,(M.o).cl.blk.cell 10,(M.o).cl.blk.cell 11⟩ ?_;refine Reg.ty 15 rfl ⟨Z.o,HA.o,(M.o).cl.blk.cell 10,(M.o).cl.blk.cell 11⟩ ?_;refine Reg.b2 5 18 ?_ ?_
  ·right
   refine⟨_,_,_,_,_,_,87,#[pv p.k,pv zb,.int .i64 7,.agg (anA ⟨p.P,now,0⟩)],rfl,by rfl,(by go_simp<;>first | rfl | exact⟨rfl,rfl⟩),?_⟩;refine Calls.mono (by have:=C2.o _ _ _ M.o.cl HY.o;rw[bf.o,ba.o] at this;exact this) ?_;rintro e Y ⟨AA,nA,cA,zz,rfl,aG,aK,hs,hk⟩;have O:=hk.blk Z.o NX.o;replace NX:=I (hk.not NX.o Z.o.lt);replace Z:=I O;clear O;have O:=hk.blk HA.o NA.o;replace NA:=I (hk.not NA.o HA.o.lt);replace HA:=I O;clear O;replace SB:=I (hk.sl SB.o);replace M:=I (M.o.trans hk);have aL:=I aG;have aM:=I aK;have SA:=I (GJ hs);clear hk;clear C2 aG aK hs;refine⟨_,rfl,⟨Z.o,HA.o,(M.o).cl.blk.cell 10,(M.o).cl.blk.cell 11⟩,?_⟩;simp only[Act.put,J,U,Aa];refine Reg.b2 12 18 ?_ ?_
   ·right
    refine⟨_,_,_,_,_,_,51,#[.int .i64 now],rfl,by rfl,(by go_simp<;>first | rfl | exact⟨rfl,rfl⟩),?_⟩;refine Ah (C3.o _) ?_;rintro bH hw;subst hw;clear C3;refine⟨_,rfl,⟨Z.o,HA.o,(M.o).cl.blk.cell 10,(M.o).cl.blk.cell 11⟩,?_⟩;simp only[Act.put,J,U,Aa];refine Reg.b2 16 18 ?_ ?_
    ·right
     refine⟨_,_,_,_,_,_,52,#[.pointer (some ⟨p.k,4,none⟩)],rfl,by rfl,(by go_simp<;>first | rfl | exact⟨rfl,rfl⟩),?_⟩;refine Ah (C4.o _ _ M.o.cl) ?_;rintro ab hk;have O:=hk.blk Z.o NX.o;replace NX:=I (hk.not NX.o Z.o.lt);replace Z:=I O;clear O;have O:=hk.blk HA.o NA.o;replace NA:=I (hk.not NA.o HA.o.lt);replace HA:=I O;clear O;replace SB:=I (hk.sl SB.o);replace SA:=I (hk.sl SA.o);replace M:=I (M.o.trans hk);clear hk;clear C4;refine⟨_,rfl,⟨Z.o,HA.o,(M.o).cl.blk.cell 10,(M.o).cl.blk.cell 11⟩,?_⟩;simp only[Act.put,J,U,Aa];refine Reg.tw 17 (v:=.agg (tgA Q bv (.slice AA nA cA))) rfl ⟨Z.o,HA.o,(M.o).cl.blk.cell 10,(M.o).cl.blk.cell 11⟩ (fun w' hS=>by obtain⟨hX,hA,aN,aO⟩:=hS;refine Bq (t:=53) (by rfl) (by simp only[List.map_toArray,List.map_cons,List.map_nil];exact az.o _ _ _)) ?_;refine Reg.b1 18 ?_
     left
     have X:Below ab.heap.size ab (ab.alloc (.cells #[.string ⟨#[]⟩,.string ⟨#[]⟩,.int .i64 0,.slice none 0 0,.slice none 0 0,.string ⟨#[]⟩,.string ⟨#[]⟩,.int .i64 0,.int .i64 0] 53)):=Ag.alloc Af _;have O:=Blk.new ab 53 #[.string ⟨#[]⟩,.string ⟨#[]⟩,.int .i64 0,.slice none 0 0,.slice none 0 0,.string ⟨#[]⟩,.string ⟨#[]⟩,.int .i64 0,.int .i64 0];have LT:=I M.o.size;have NT:=I (M.o.cl.fresh (Nat.le_refl ab.heap.size));have ae:=I (Nat.ne_of_lt Z.o.lt);have ad:=I (Nat.ne_of_lt HA.o.lt);replace SB:=I (SlT.up SB.o (Nat.le_refl ab.heap.size));replace SA:=I (SlT.up SA.o (Nat.le_refl ab.heap.size));refine⟨_,_,_,_,_,_,.pointer (some ⟨ab.heap.size,0,none⟩),ab.alloc (.cells #[.string ⟨#[]⟩,.string ⟨#[]⟩,.int .i64 0,.slice none 0 0,.slice none 0 0,.string ⟨#[]⟩,.string ⟨#[]⟩,.int .i64 0,.int .i64 0] 53),rfl,by rfl,(by go_simp<;>rfl),⟨(Z.o.below X),(HA.o.below X),((M.o.below X)).cl.blk.cell 10,((M.o.below X)).cl.blk.cell 11⟩,?_⟩;simp only[Act.put,J,U,Aa];obtain⟨bq,aF⟩:=Aj (ab.alloc (.cells #[.string ⟨#[]⟩,.string ⟨#[]⟩,.int .i64 0,.slice none 0 0,.slice none 0 0,.string ⟨#[]⟩,.string ⟨#[]⟩,.int .i64 0,.int .i64 0] 53));rw[<-aF] at X O⊢;clear aF;replace M:=I (M.o.below X);replace Z:=I (Z.o.below X);replace HA:=I (HA.o.below X);replace SB:=I (SB.o.below X);replace SA:=I (SA.o.below X);have HT:=I O;clear O X;obtain⟨PT,ar⟩:=Aj (ab.heap.size);rw[<-ar] at HT LT NT ae ad SB SA⊢;clear ar;refine Reg.AI 19 rfl (by kernel_rfl) (by rfl) PT 53 _ (tgA Q bv (.slice AA nA cA)) HT.o (by rfl) (by rfl) (by rfl) BQ (Nn _ aV.o rfl) ?_;intro bD hV hg;replace HT:=I hV;replace M:=I (M.o.over LT.o NT.o hg);replace Z:=I (Z.o.grown hg (fun e=>by injection e with e;exact ae.o e.symm));replace HA:=I (HA.o.grown hg (fun e=>by injection e with e;exact ad.o e.symm));replace SB:=I (SlT.over SB.o hg);replace SA:=I (SlT.over SA.o hg);clear hV hg ae ad;refine⟨⟨Z.o,HA.o,(M.o).cl.blk.cell 10,(M.o).cl.blk.cell 11⟩,?_⟩;simp only[Act.put,J,U,Aa];refine wpAnyH_done (by kernel_rfl) ?_ _
     go_wp2_with fail
     go_meet
     exact⟨PT,zz,_,_,rfl,rfl,aL.o,aM.o,HT.o,NT.o,SB.o,(by rw[EA.o];exact SA.o),M.o⟩
    ·left
     have X:Below Y.heap.size Y (Y.alloc (.cells #[.string ⟨#[]⟩,.string ⟨#[]⟩,.int .i64 0,.slice none 0 0,.slice none 0 0,.string ⟨#[]⟩,.string ⟨#[]⟩,.int .i64 0,.int .i64 0] 53)):=Ag.alloc Af _;have O:=Blk.new Y 53 #[.string ⟨#[]⟩,.string ⟨#[]⟩,.int .i64 0,.slice none 0 0,.slice none 0 0,.string ⟨#[]⟩,.string ⟨#[]⟩,.int .i64 0,.int .i64 0];have LT:=I M.o.size;have NT:=I (M.o.cl.fresh (Nat.le_refl Y.heap.size));have ae:=I (Nat.ne_of_lt Z.o.lt);have ad:=I (Nat.ne_of_lt HA.o.lt);replace SB:=I (SlT.up SB.o (Nat.le_refl Y.heap.size));replace SA:=I (SlT.up SA.o (Nat.le_refl Y.heap.size));refine⟨_,_,_,_,_,_,.pointer (some ⟨Y.heap.size,0,none⟩),Y.alloc (.cells #[.string ⟨#[]⟩,.string ⟨#[]⟩,.int .i64 0,.slice none 0 0,.slice none 0 0,.string ⟨#[]⟩,.string ⟨#[]⟩,.int .i64 0,.int .i64 0] 53),rfl,by rfl,(by go_simp<;>rfl),⟨(Z.o.below X),(HA.o.below X),((M.o.below X)).cl.blk.cell 10,((M.o.below X)).cl.blk.cell 11⟩,?_⟩;simp only[Act.put,J,U,Aa];obtain⟨br,aJ⟩:=Aj (Y.alloc (.cells #[.string ⟨#[]⟩,.string ⟨#[]⟩,.int .i64 0,.slice none 0 0,.slice none 0 0,.string ⟨#[]⟩,.string ⟨#[]⟩,.int .i64 0,.int .i64 0] 53));rw[<-aJ] at X O⊢;clear aJ;replace M:=I (M.o.below X);replace Z:=I (Z.o.below X);replace HA:=I (HA.o.below X);replace SB:=I (SB.o.below X);replace SA:=I (SA.o.below X);have HT:=I O;clear O X;obtain⟨PT,ar⟩:=Aj (Y.heap.size);rw[<-ar] at HT LT NT ae ad SB SA⊢;clear ar;refine Reg.b1 16 ?_
     right
     refine⟨_,_,_,_,_,_,52,#[.pointer (some ⟨p.k,4,none⟩)],rfl,by rfl,(by go_simp<;>first | rfl | exact⟨rfl,rfl⟩),?_⟩;refine Ah (C4.o _ _ M.o.cl) ?_;rintro bF hk;have O:=hk.blk Z.o NX.o;replace NX:=I (hk.not NX.o Z.o.lt);replace Z:=I O;clear O;have O:=hk.blk HA.o NA.o;replace NA:=I (hk.not NA.o HA.o.lt);replace HA:=I O;clear O;have O:=hk.blk HT.o NT.o;replace NT:=I (hk.not NT.o HT.o.lt);replace HT:=I O;clear O;replace SB:=I (SB.o.kn hk);replace SA:=I (SA.o.kn hk);replace M:=I (M.o.trans hk);clear hk;clear C4;refine⟨_,rfl,⟨Z.o,HA.o,(M.o).cl.blk.cell 10,(M.o).cl.blk.cell 11⟩,?_⟩;simp only[Act.put,J,U,Aa];refine Reg.tw 17 (v:=.agg (tgA Q bv (.slice AA nA cA))) rfl ⟨Z.o,HA.o,(M.o).cl.blk.cell 10,(M.o).cl.blk.cell 11⟩ (fun w' hS=>by obtain⟨hX,hA,aN,aO⟩:=hS;refine Bq (t:=53) (by rfl) (by simp only[List.map_toArray,List.map_cons,List.map_nil];exact az.o _ _ _)) ?_;refine Reg.AI 19 rfl (by kernel_rfl) (by rfl) PT 53 _ (tgA Q bv (.slice AA nA cA)) HT.o (by rfl) (by rfl) (by rfl) BQ (Nn _ aV.o rfl) ?_;intro bI hV hg;replace HT:=I hV;replace M:=I (M.o.over LT.o NT.o hg);replace Z:=I (Z.o.grown hg (fun e=>by injection e with e;exact ae.o e.symm));replace HA:=I (HA.o.grown hg (fun e=>by injection e with e;exact ad.o e.symm));replace SB:=I (SlT.over SB.o hg);replace SA:=I (SlT.over SA.o hg);clear hV hg ae ad;refine⟨⟨Z.o,HA.o,(M.o).cl.blk.cell 10,(M.o).cl.blk.cell 11⟩,?_⟩;simp only[Act.put,J,U,Aa];refine wpAnyH_done (by kernel_rfl) ?_ _
     go_wp2_with fail
     go_meet
     exact⟨PT,zz,_,_,rfl,rfl,aL.o,aM.o,HT.o,NT.o,SB.o,(by rw[EA.o];exact SA.o),M.o⟩
   ·left
    have X:Below Y.heap.size Y (Y.alloc (.cells #[.string ⟨#[]⟩,.string ⟨#[]⟩,.int .i64 0,.slice none 0 0,.slice none 0 0,.string ⟨#[]⟩,.string ⟨#[]⟩,.int .i64 0,.int .i64 0] 53)):=Ag.alloc Af _;have O:=Blk.new Y 53 #[.string ⟨#[]⟩,.string ⟨#[]⟩,.int .i64 0,.slice none 0 0,.slice none 0 0,.string ⟨#[]⟩,.string ⟨#[]⟩,.int .i64 0,.int .i64 0];have LT:=I M.o.size;have NT:=I (M.o.cl.fresh (Nat.le_refl Y.heap.size));have ae:=I (Nat.ne_of_lt Z.o.lt);have ad:=I (Nat.ne_of_lt HA.o.lt);replace SB:=I (SlT.up SB.o (Nat.le_refl Y.heap.size));replace SA:=I (SlT.up SA.o (Nat.le_refl Y.heap.size));refine⟨_,_,_,_,_,_,.pointer (some ⟨Y.heap.size,0,none⟩),Y.alloc (.cells #[.string ⟨#[]⟩,.string ⟨#[]⟩,.int .i64 0,.slice none 0 0,.slice none 0 0,.string ⟨#[]⟩,.string ⟨#[]⟩,.int .i64 0,.int .i64 0] 53),rfl,by rfl,(by go_simp<;>rfl),⟨(Z.o.below X),(HA.o.below X),((M.o.below X)).cl.blk.cell 10,((M.o.below X)).cl.blk.cell 11⟩,?_⟩;simp only[Act.put,J,U,Aa];obtain⟨bp,ay⟩:=Aj (Y.alloc (.cells #[.string ⟨#[]⟩,.string ⟨#[]⟩,.int .i64 0,.slice none 0 0,.slice none 0 0,.string ⟨#[]⟩,.string ⟨#[]⟩,.int .i64 0,.int .i64 0] 53));rw[<-ay] at X O⊢;clear ay;replace M:=I (M.o.below X);replace Z:=I (Z.o.below X);replace HA:=I (HA.o.below X);replace SB:=I (SB.o.below X);replace SA:=I (SA.o.below X);have HT:=I O;clear O X;obtain⟨PT,ar⟩:=Aj (Y.heap.size);rw[<-ar] at HT LT NT ae ad SB SA⊢;clear ar;refine Reg.b1 12 ?_
    right
    refine⟨_,_,_,_,_,_,51,#[.int .i64 now],rfl,by rfl,(by go_simp<;>first | rfl | exact⟨rfl,rfl⟩),?_⟩;refine Ah (C3.o _) ?_;rintro bA hw;subst hw;clear C3;refine⟨_,rfl,⟨Z.o,HA.o,(M.o).cl.blk.cell 10,(M.o).cl.blk.cell 11⟩,?_⟩;simp only[Act.put,J,U,Aa];refine Reg.b1 16 ?_
    right
    refine⟨_,_,_,_,_,_,52,#[.pointer (some ⟨p.k,4,none⟩)],rfl,by rfl,(by go_simp<;>first | rfl | exact⟨rfl,rfl⟩),?_⟩;refine Ah (C4.o _ _ M.o.cl) ?_;rintro bx hk;have O:=hk.blk Z.o NX.o;replace NX:=I (hk.not NX.o Z.o.lt);replace Z:=I O;clear O;have O:=hk.blk HA.o NA.o;replace NA:=I (hk.not NA.o HA.o.lt);replace HA:=I O;clear O;have O:=hk.blk HT.o NT.o;replace NT:=I (hk.not NT.o HT.o.lt);replace HT:=I O;clear O;replace SB:=I (SB.o.kn hk);replace SA:=I (SA.o.kn hk);replace M:=I (M.o.trans hk);clear hk;clear C4;refine⟨_,rfl,⟨Z.o,HA.o,(M.o).cl.blk.cell 10,(M.o).cl.blk.cell 11⟩,?_⟩;simp only[Act.put,J,U,Aa];refine Reg.tw 17 (v:=.agg (tgA Q bv (.slice AA nA cA))) rfl ⟨Z.o,HA.o,(M.o).cl.blk.cell 10,(M.o).cl.blk.cell 11⟩ (fun w' hS=>by obtain⟨hX,hA,aN,aO⟩:=hS;refine Bq (t:=53) (by rfl) (by simp only[List.map_toArray,List.map_cons,List.map_nil];exact az.o _ _ _)) ?_;refine Reg.AI 19 rfl (by kernel_rfl) (by rfl) PT 53 _ (tgA Q bv (.slice AA nA cA)) HT.o (by rfl) (by rfl) (by rfl) BQ (Nn _ aV.o rfl) ?_;intro bG hV hg;replace HT:=I hV;replace M:=I (M.o.over LT.o NT.o hg);replace Z:=I (Z.o.grown hg (fun e=>by injection e with e;exact ae.o e.symm));replace HA:=I (HA.o.grown hg (fun e=>by injection e with e;exact ad.o e.symm));replace SB:=I (SlT.over SB.o hg);replace SA:=I (SlT.over SA.o hg);clear hV hg ae ad;refine⟨⟨Z.o,HA.o,(M.o).cl.blk.cell 10,(M.o).cl.blk.cell 11⟩,?_⟩;simp only[Act.put,J,U,Aa];refine wpAnyH_done (by kernel_rfl) ?_ _
    go_wp2_with fail
    go_meet
    exact⟨PT,zz,_,_,rfl,rfl,aL.o,aM.o,HT.o,NT.o,SB.o,(by rw[EA.o];exact SA.o),M.o⟩
  ·left
   have X:Below W2.drew.heap.size W2.drew (W2.drew.alloc (.cells #[.string ⟨#[]⟩,.string ⟨#[]⟩,.int .i64 0,.slice none 0 0,.slice none 0 0,.string ⟨#[]⟩,.string ⟨#[]⟩,.int .i64 0,.int .i64 0] 53)):=Ag.alloc Af _;have O:=Blk.new W2.drew 53 #[.string ⟨#[]⟩,.string ⟨#[]⟩,.int .i64 0,.slice none 0 0,.slice none 0 0,.string ⟨#[]⟩,.string ⟨#[]⟩,.int .i64 0,.int .i64 0];have LT:=I M.o.size;have NT:=I (M.o.cl.fresh (Nat.le_refl W2.drew.heap.size));have ae:=I (Nat.ne_of_lt Z.o.lt);have ad:=I (Nat.ne_of_lt HA.o.lt);replace SB:=I (SlT.up SB.o (Nat.le_refl W2.drew.heap.size));refine⟨_,_,_,_,_,_,.pointer (some ⟨W2.drew.heap.size,0,none⟩),W2.drew.alloc (.cells #[.string ⟨#[]⟩,.string ⟨#[]⟩,.int .i64 0,.slice none 0 0,.slice none 0 0,.string ⟨#[]⟩,.string ⟨#[]⟩,.int .i64 0,.int .i64 0] 53),rfl,by rfl,(by go_simp<;>rfl),⟨(Z.o.below X),(HA.o.below X),((M.o.below X)).cl.blk.cell 10,((M.o.below X)).cl.blk.cell 11⟩,?_⟩;simp only[Act.put,J,U,Aa];obtain⟨bs,aA⟩:=Aj (W2.drew.alloc (.cells #[.string ⟨#[]⟩,.string ⟨#[]⟩,.int .i64 0,.slice none 0 0,.slice none 0 0,.string ⟨#[]⟩,.string ⟨#[]⟩,.int .i64 0,.int .i64 0] 53));rw[<-aA] at X O⊢;clear aA;replace M:=I (M.o.below X);replace Z:=I (Z.o.below X);replace HA:=I (HA.o.below X);replace SB:=I (SB.o.below X);have HT:=I O;clear O X;obtain⟨PT,ar⟩:=Aj (W2.drew.heap.size);rw[<-ar] at HT LT NT ae ad SB⊢;clear ar;refine Reg.b1 5 ?_;have bB:=I HT.o.lt
   right
   refine⟨_,_,_,_,_,_,87,#[pv p.k,pv zb,.int .i64 7,.agg (anA ⟨p.P,now,0⟩)],rfl,by rfl,(by go_simp<;>first | rfl | exact⟨rfl,rfl⟩),?_⟩;refine Calls.mono (by have:=C2.o _ _ _ M.o.cl HY.o;rw[bf.o,ba.o] at this;exact this) ?_;rintro e bJ ⟨AA,nA,cA,zz,rfl,aG,aK,hs,hk⟩;have O:=hk.blk Z.o NX.o;replace NX:=I (hk.not NX.o Z.o.lt);replace Z:=I O;clear O;have O:=hk.blk HA.o NA.o;replace NA:=I (hk.not NA.o HA.o.lt);replace HA:=I O;clear O;have O:=hk.blk HT.o NT.o;replace NT:=I (hk.not NT.o HT.o.lt);replace HT:=I O;clear O;replace SB:=I (SB.o.kn hk);replace M:=I (M.o.trans hk);have aL:=I aG;have aM:=I aK;have SA:=I (SlT.of_out hs bB.o);clear hk;clear C2 aG aK hs;refine⟨_,rfl,⟨Z.o,HA.o,(M.o).cl.blk.cell 10,(M.o).cl.blk.cell 11⟩,?_⟩;simp only[Act.put,J,U,Aa];refine Reg.b1 12 ?_
   right
   refine⟨_,_,_,_,_,_,51,#[.int .i64 now],rfl,by rfl,(by go_simp<;>first | rfl | exact⟨rfl,rfl⟩),?_⟩;refine Ah (C3.o _) ?_;rintro bK hw;subst hw;clear C3;refine⟨_,rfl,⟨Z.o,HA.o,(M.o).cl.blk.cell 10,(M.o).cl.blk.cell 11⟩,?_⟩;simp only[Act.put,J,U,Aa];refine Reg.b1 16 ?_
   right
   refine⟨_,_,_,_,_,_,52,#[.pointer (some ⟨p.k,4,none⟩)],rfl,by rfl,(by go_simp<;>first | rfl | exact⟨rfl,rfl⟩),?_⟩;refine Ah (C4.o _ _ M.o.cl) ?_;rintro bw hk;have O:=hk.blk Z.o NX.o;replace NX:=I (hk.not NX.o Z.o.lt);replace Z:=I O;clear O;have O:=hk.blk HA.o NA.o;replace NA:=I (hk.not NA.o HA.o.lt);replace HA:=I O;clear O;have O:=hk.blk HT.o NT.o;replace NT:=I (hk.not NT.o HT.o.lt);replace HT:=I O;clear O;replace SB:=I (SB.o.kn hk);replace SA:=I (SA.o.kn hk);replace M:=I (M.o.trans hk);clear hk;clear C4;refine⟨_,rfl,⟨Z.o,HA.o,(M.o).cl.blk.cell 10,(M.o).cl.blk.cell 11⟩,?_⟩;simp only[Act.put,J,U,Aa];refine Reg.tw 17 (v:=.agg (tgA Q bv (.slice AA nA cA))) rfl ⟨Z.o,HA.o,(M.o).cl.blk.cell 10,(M.o).cl.blk.cell 11⟩ (fun w' hS=>by obtain⟨hX,hA,aN,aO⟩:=hS;refine Bq (t:=53) (by rfl) (by simp only[List.map_toArray,List.map_cons,List.map_nil];exact az.o _ _ _)) ?_;refine Reg.AI 19 rfl (by kernel_rfl) (by rfl) PT 53 _ (tgA Q bv (.slice AA nA cA)) HT.o (by rfl) (by rfl) (by rfl) BQ (Nn _ aV.o rfl) ?_;intro bz hV hg;replace HT:=I hV;replace M:=I (M.o.over LT.o NT.o hg);replace Z:=I (Z.o.grown hg (fun e=>by injection e with e;exact ae.o e.symm));replace HA:=I (HA.o.grown hg (fun e=>by injection e with e;exact ad.o e.symm));replace SB:=I (SlT.over SB.o hg);replace SA:=I (SlT.over SA.o hg);clear hV hg ae ad;refine⟨⟨Z.o,HA.o,(M.o).cl.blk.cell 10,(M.o).cl.blk.cell 11⟩,?_⟩;simp only[Act.put,J,U,Aa];refine wpAnyH_done (by kernel_rfl) ?_ _
   go_wp2_with fail
   go_meet
   exact⟨PT,zz,_,_,rfl,rfl,aL.o,aM.o,HT.o,NT.o,SB.o,(by rw[EA.o];exact SA.o),M.o⟩
 case rest=>
  obtain⟨PT,zz,m2,av,rfl,hy,aG,aK,ht,hn,s1,s2,hk⟩:=hcut;have HT:=I ht;have NT:=I hn;have SB:=I s1;have SA:=I s2;have M:=I hk;have aP:=I hy;have aL:=I aG;have aM:=I aK;clear ht hn s1 s2 hk hy aG aK C2 C3 C4 Z NX HA NA bo HY bf ba az
  go_upto_region 4 with fail
  go_cut [] from 41 to 53 (fun wx=>∃(m3:CM),m3.y=some zz/\Blk wx PT 53 (tgA Q bv av)/\¬AO p m3 PT/\SlN (AO p m3) wx bv x.b/\SlN (AO p m3) wx av Q.a/\Tu w wx B p m m3 {s with s:=s.s+1,n:=s.n+1,vs:=s.vs++[r]} (c+2))
  case first=>
   have ao:Below wc.heap.size wc wc.drew:=below_drewN Ag 1;replace M:=I (M.o.below ao);replace HT:=I (HT.o.below ao);replace SB:=I (SB.o.below ao);replace SA:=I (SA.o.below ao);clear ao;refine Reg.AM (fun w'=>True) 14 rfl (by kernel_rfl) trivial ?_;refine Reg.ty 0 rfl trivial ?_;refine Reg.ty 1 rfl trivial ?_;refine Reg.ty 2 rfl trivial ?_;refine Reg.ty 3 rfl trivial ?_;refine Reg.ty 4 rfl trivial ?_;refine Reg.ty 6 rfl trivial ?_;refine Reg.b2 5 7 ?_ ?_
   ·left
    have aw:wc.drew.cell? ⟨p.k,12,none⟩=some m2.vv:=M.o.cl.blk.cell 12;refine⟨_,_,_,_,_,_,m2.vv,wc.drew,rfl,by rfl,(by go_simp<;>rfl),trivial,?_⟩;simp only[Act.put,J,U,Aa];clear aw;refine Reg.b1 7 ?_
    right
    refine⟨_,_,_,_,_,_,47,#[.string ⟨r.toArray⟩],rfl,by rfl,(by go_simp<;>first | rfl | exact⟨rfl,rfl⟩),?_⟩;refine Ah (C5.o _) ?_;rintro ag X;replace M:=I (M.o.below X);replace HT:=I (HT.o.below X);replace SB:=I (SB.o.below X);replace SA:=I (SA.o.below X);clear X;clear C5;refine⟨_,rfl,trivial,?_⟩;simp only[Act.put,J,U,Aa];refine Reg.b1 8 ?_
    left
    have X:Below ag.heap.size ag (ag.alloc (.cells #[.string ⟨r.toArray⟩] 9)):=Ag.alloc Af _;have O:=Blk.new ag 9 #[.string ⟨r.toArray⟩];refine⟨_,_,_,_,_,_,.slice (some ⟨ag.heap.size,0,none⟩) 1 1,ag.alloc (.cells #[.string ⟨r.toArray⟩] 9),rfl,by rfl,(by go_simp<;>rfl),trivial,?_⟩;simp only[Act.put,J,U,Aa];obtain⟨aQ,aC⟩:=Aj (ag.alloc (.cells #[.string ⟨r.toArray⟩] 9));rw[<-aC] at X O⊢;clear aC;replace M:=I (M.o.below X);replace HT:=I (HT.o.below X);replace SB:=I (SB.o.below X);replace SA:=I (SA.o.below X);have HU:=I O;clear O X;obtain⟨PU,aI⟩:=Aj (ag.heap.size);rw[<-aI] at HU⊢;clear aI;refine Reg.b1 9 ?_
    left
    obtain⟨v9,ai,ah,an,au,aB⟩:=Ry aQ B m2.vv s.vs M.o.cl.vis r PU (HU.o.cell 0) HU.o.lt bd.o M.o.cl.pa.hB;obtain⟨A9,c9,e9,_⟩:=an.slice;obtain⟨n9,aD⟩:=Aj ((s.vs++[r]).length);rw[<-aD] at e9;subst e9;refine⟨_,_,_,_,_,_,.slice A9 n9 c9,ai,rfl,by rfl,by(simp only[execOp,resolve,invoke,builtin,Sem.run_bind,Sem.run_pure,Result.andThen_ok,List.map_toArray,List.map_cons,List.map_nil,Act.eval];refine(congrArg (fun r=>Result.andThen r _) ah).trans ?_;rfl),trivial,?_⟩;simp only[Act.put,J,U,Aa];have hk:=M.o.cl.append an au aB;have af:Blk ai p.k 88 _:=(au.block p.k M.o.cl.blk.lt (fun e=>M.o.cl.not (i:=3) (i':=0) (j:=p.k) e.symm (by decide) rfl)).trans M.o.cl.blk;have aw:ai.cell? ⟨p.k,12,none⟩=some m2.vv:=af.cell 12;have fz:=af.frozen;clear ah an au aB aD;have O:=hk.blk HT.o NT.o;replace NT:=I (hk.not NT.o HT.o.lt);replace HT:=I O;clear O;replace SB:=I (hk.sl SB.o);replace SA:=I (hk.sl SA.o);replace M:=I (M.o.trans hk);clear hk af;refine Reg.ty 10 rfl trivial ?_;refine Reg.ty 11 rfl trivial ?_;refine Reg.ty 12 rfl trivial ?_;refine Reg.Dj 13 (ai.setCell ⟨p.k,12,none⟩ (.slice A9 n9 c9)) rfl (by kernel_rfl) (by rfl) (by go_simp) trivial ?_;simp only[Act.put,J,U,Aa];clear aw fz;refine wpAnyH_done (by kernel_rfl) ?_ _
    go_wp2_with fail
    go_meet
    exact⟨{m2 with vv:=.slice A9 n9 c9},aP.o,HT.o,NT.o,SB.o,SA.o,M.o⟩
   ·right
    refine⟨_,_,_,_,_,_,47,#[.string ⟨r.toArray⟩],rfl,by rfl,(by go_simp<;>first | rfl | exact⟨rfl,rfl⟩),?_⟩;refine Ah (C5.o _) ?_;rintro aa X;replace M:=I (M.o.below X);replace HT:=I (HT.o.below X);replace SB:=I (SB.o.below X);replace SA:=I (SA.o.below X);clear X;clear C5;refine⟨_,rfl,trivial,?_⟩;simp only[Act.put,J,U,Aa];refine Reg.b2 5 8 ?_ ?_
    ·left
     have aw:aa.cell? ⟨p.k,12,none⟩=some m2.vv:=M.o.cl.blk.cell 12;refine⟨_,_,_,_,_,_,m2.vv,aa,rfl,by rfl,(by go_simp<;>rfl),trivial,?_⟩;simp only[Act.put,J,U,Aa];clear aw;refine Reg.b1 8 ?_
     left
     have X:Below aa.heap.size aa (aa.alloc (.cells #[.string ⟨r.toArray⟩] 9)):=Ag.alloc Af _;have O:=Blk.new aa 9 #[.string ⟨r.toArray⟩];refine⟨_,_,_,_,_,_,.slice (some ⟨aa.heap.size,0,none⟩) 1 1,aa.alloc (.cells #[.string ⟨r.toArray⟩] 9),rfl,by rfl,(by go_simp<;>rfl),trivial,?_⟩;simp only[Act.put,J,U,Aa];obtain⟨aW,aE⟩:=Aj (aa.alloc (.cells #[.string ⟨r.toArray⟩] 9));rw[<-aE] at X O⊢;clear aE;replace M:=I (M.o.below X);replace HT:=I (HT.o.below X);replace SB:=I (SB.o.below X);replace SA:=I (SA.o.below X);have HU:=I O;clear O X;obtain⟨PU,aI⟩:=Aj (aa.heap.size);rw[<-aI] at HU⊢;clear aI;refine Reg.b1 9 ?_
     left
     obtain⟨v9,aj,ah,an,au,aB⟩:=Ry aW B m2.vv s.vs M.o.cl.vis r PU (HU.o.cell 0) HU.o.lt bd.o M.o.cl.pa.hB;obtain⟨A9,c9,e9,_⟩:=an.slice;obtain⟨n9,aD⟩:=Aj ((s.vs++[r]).length);rw[<-aD] at e9;subst e9;refine⟨_,_,_,_,_,_,.slice A9 n9 c9,aj,rfl,by rfl,by(simp only[execOp,resolve,invoke,builtin,Sem.run_bind,Sem.run_pure,Result.andThen_ok,List.map_toArray,List.map_cons,List.map_nil,Act.eval];refine(congrArg (fun r=>Result.andThen r _) ah).trans ?_;rfl),trivial,?_⟩;simp only[Act.put,J,U,Aa];have hk:=M.o.cl.append an au aB;have af:Blk aj p.k 88 _:=(au.block p.k M.o.cl.blk.lt (fun e=>M.o.cl.not (i:=3) (i':=0) (j:=p.k) e.symm (by decide) rfl)).trans M.o.cl.blk;have aw:aj.cell? ⟨p.k,12,none⟩=some m2.vv:=af.cell 12;have fz:=af.frozen;clear ah an au aB aD;have O:=hk.blk HT.o NT.o;replace NT:=I (hk.not NT.o HT.o.lt);replace HT:=I O;clear O;replace SB:=I (hk.sl SB.o);replace SA:=I (hk.sl SA.o);replace M:=I (M.o.trans hk);clear hk af;refine Reg.ty 10 rfl trivial ?_;refine Reg.ty 11 rfl trivial ?_;refine Reg.ty 12 rfl trivial ?_;refine Reg.Dj 13 (aj.setCell ⟨p.k,12,none⟩ (.slice A9 n9 c9)) rfl (by kernel_rfl) (by rfl) (by go_simp) trivial ?_;simp only[Act.put,J,U,Aa];clear aw fz;refine wpAnyH_done (by kernel_rfl) ?_ _
     go_wp2_with fail
     go_meet
     exact⟨{m2 with vv:=.slice A9 n9 c9},aP.o,HT.o,NT.o,SB.o,SA.o,M.o⟩
    ·left
     have X:Below aa.heap.size aa (aa.alloc (.cells #[.string ⟨r.toArray⟩] 9)):=Ag.alloc Af _;have O:=Blk.new aa 9 #[.string ⟨r.toArray⟩];refine⟨_,_,_,_,_,_,.slice (some ⟨aa.heap.size,0,none⟩) 1 1,aa.alloc (.cells #[.string ⟨r.toArray⟩] 9),rfl,by rfl,(by go_simp<;>rfl),trivial,?_⟩;simp only[Act.put,J,U,Aa];obtain⟨ax,aH⟩:=Aj (aa.alloc (.cells #[.string ⟨r.toArray⟩] 9));rw[<-aH] at X O⊢;clear aH;replace M:=I (M.o.below X);replace HT:=I (HT.o.below X);replace SB:=I (SB.o.below X);replace SA:=I (SA.o.below X);have HU:=I O;clear O X;obtain⟨PU,aI⟩:=Aj (aa.heap.size);rw[<-aI] at HU⊢;clear aI;refine Reg.b1 5 ?_
     left
     have aw:ax.cell? ⟨p.k,12,none⟩=some m2.vv:=M.o.cl.blk.cell 12;refine⟨_,_,_,_,_,_,m2.vv,ax,rfl,by rfl,(by go_simp<;>rfl),trivial,?_⟩;simp only[Act.put,J,U,Aa];clear aw;refine Reg.b1 9 ?_
     left
     obtain⟨v9,ak,ah,an,au,aB⟩:=Ry ax B m2.vv s.vs M.o.cl.vis r PU (HU.o.cell 0) HU.o.lt bd.o M.o.cl.pa.hB;obtain⟨A9,c9,e9,_⟩:=an.slice;obtain⟨n9,aD⟩:=Aj ((s.vs++[r]).length);rw[<-aD] at e9;subst e9;refine⟨_,_,_,_,_,_,.slice A9 n9 c9,ak,rfl,by rfl,by(simp only[execOp,resolve,invoke,builtin,Sem.run_bind,Sem.run_pure,Result.andThen_ok,List.map_toArray,List.map_cons,List.map_nil,Act.eval];refine(congrArg (fun r=>Result.andThen r _) ah).trans ?_;rfl),trivial,?_⟩;simp only[Act.put,J,U,Aa];have hk:=M.o.cl.append an au aB;have af:Blk ak p.k 88 _:=(au.block p.k M.o.cl.blk.lt (fun e=>M.o.cl.not (i:=3) (i':=0) (j:=p.k) e.symm (by decide) rfl)).trans M.o.cl.blk;have aw:ak.cell? ⟨p.k,12,none⟩=some m2.vv:=af.cell 12;have fz:=af.frozen;clear ah an au aB aD;have O:=hk.blk HT.o NT.o;replace NT:=I (hk.not NT.o HT.o.lt);replace HT:=I O;clear O;replace SB:=I (hk.sl SB.o);replace SA:=I (hk.sl SA.o);replace M:=I (M.o.trans hk);clear hk af;refine Reg.ty 10 rfl trivial ?_;refine Reg.ty 11 rfl trivial ?_;refine Reg.ty 12 rfl trivial ?_;refine Reg.Dj 13 (ak.setCell ⟨p.k,12,none⟩ (.slice A9 n9 c9)) rfl (by kernel_rfl) (by rfl) (by go_simp) trivial ?_;simp only[Act.put,J,U,Aa];clear aw fz;refine wpAnyH_done (by kernel_rfl) ?_ _
     go_wp2_with fail
     go_meet
     exact⟨{m2 with vv:=.slice A9 n9 c9},aP.o,HT.o,NT.o,SB.o,SA.o,M.o⟩
  case rest=>
   obtain⟨m3,hy,ht,hn,s1,s2,hk⟩:=hcut;replace HT:=I ht;replace SB:=I s1;replace SA:=I s2;replace M:=I hk;replace aP:=I hy;clear ht hn s1 s2 hk hy C5 NT;have bl:=I (show(Tryz.prog.info? 53).map (·.size)=some (tgA Q bv av).size from BQ);have k8:wc.cell? ⟨PT,8,none⟩=some (.int .i64 NN):=by rw[<-EN.o];exact HT.o.cell 8
   have bb:=I (Rx Q bv av);obtain⟨ct,bj⟩:=Aj (tgA Q bv av);obtain⟨cm,bn⟩:=Aj (Mc.mgA 2 Mc.zA (tgA Q bv av) Mc.zR Mc.zP Mc.zF);replace C6:=I (fun(w1:World) (m1:CM) (z:Ss)=>C6.o w1 m1 z av);rw[<-bn] at C6 bb;rw[<-bj] at HT bl bb;clear bj bn
   go_upto_region 6 with fail
   obtain⟨W5,aR⟩:=Aj (wc.alloc (.cells (ouA NN zb 8) 84));have X:Below wc.heap.size wc W5:=aR▸Ag.alloc Af _;have HO:=I (show Blk W5 wc.heap.size 84 (ouA NN zb 8) from aR▸Blk.new wc _ _);replace HT:=I (HT.o.below X);replace SB:=I (SB.o.below X);replace SA:=I (SA.o.below X);replace M:=I (M.o.below X);rw[<-aR];clear aR X k8;have o0:=HO.c0;have o1:=HO.c1;have o2:=HO.c2;have c6:=C6.o W5 m3 zz M.o.cl aP.o aM.o SB.o SA.o;rw[aL.o,<-bC.o] at c6;clear C6
   go_wp2_with (first
    |(refine Wh.AE (by rfl) 53 (.tmp 12) (by rfl) PT 0 (by rfl) ct _ (Wh.Ac HT.o) Tryz.underlying53 (by rfl) bl.o ?_)
    |(refine Mc.Ax (by rfl) 61 #[(0,.const (.int .i64 2)),(2,.tmp 60)] (by rfl) cm (by simp only[List.map_toArray,List.map_cons,List.map_nil];exact bb.o) ?_)
    |(go_at_call 53;refine Calls.mono c6 ?_;rintro e w6 ⟨v,rfl,hs,hk⟩;clear c6 o0 o1 o2;have HV:=I (Out.old M.o.size hs);replace M:=I (M.o.trans hk);clear hs hk)
    |fail)
   go_ret2
   exact⟨v,_,rfl,HV.o,M.o⟩
end
end Cl
end Go.Proofs.YtlccngianpfalaaGreat
