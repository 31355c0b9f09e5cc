import Derived.Test.YtlccngianpfalaaGreatZClientRequests19
set_option maxHeartbeats 25600000
set_option maxRecDepth 100000
set_option linter.unusedVariables false
set_option linter.unusedSimpArgs false
namespace Go.Proofs.YtlccngianpfalaaGreat
namespace Rt
open Nm
abbrev Pr:=L×L
structure Pa where
 f:L
 t:L
 v:List L
structure Tp where
 R:List L
 K:List Pr
 P:List Pa
def kl (K:List Pr) (i:Nat):Pr:=K.getD i ([],[])
section
variable {α:Type}
end
end Rt
namespace Kd
open Ae Se
open Nm (krb L)
open Rg (It)
open Ms (Pr Tk Pt An Rp As Tg Re Ap Fa Mg rpB anB asB tgB tmB rpE anE mgE mgO mgD anD rpO anO pr0 tk0 re0 an0 as0 tg0 ap0 fa0 key0)
open SeL (Ce BX)
open Rt (Tp)
def kr (R x:L):Pr:=(R,krb++x)
end Kd
namespace Kd
open Ae Se Ms
open Nm (krb L)
open Rg (It)
open DerP (elem encI)
open SeL (Ce BX)
theorem Kp {p:L} {n:Int} {u:Int} {ks:Nat->UInt8} (Y:p.length<=784) (X:0<=n) (M:n<=1099511627776) (hu:0<=u) (O:u<=255):Ce ks u n p=(Du ks u.toNat n.toNat p,0):=by
 rw[Ce,if_pos ⟨hu,O,X,M,Y⟩]
theorem GH {p:L} {n:Int} {u:Int} {ks:Nat->UInt8} (X:p.length<=784) (hn:0<=n) (O:n<=1099511627776) (hu:0<=u) (M:u<=255):BX ks u (Ce ks u n p).1=(p,0):=by
 rw[Kp X hn O hu M,BX,if_pos ⟨hu,M⟩];have Y:=Ta ks u.toNat n.toNat p (by omega) X;have Z:=Tb ks u.toNat n.toNat p (by omega);simp only;rw[if_pos Y,Z]
theorem Kq {a:An} (O:anB a=true):(anE a).length<=500:=by
 have M:prB a.c=true/\tmB a.t=true/\tmB a.q=true:=by simpa [anB] using O
 have l1:=(AV M.1).1;have l4:=AE a.t;have l5:=AE a.q;have X:=Az 98 [prE a.c,encI a.t,encI a.q].flatten;have Y:[prE a.c,encI a.t,encI a.q].flatten.length=(prE a.c).length+((encI a.t).length+(encI a.q).length):=by simp
 rw[anE];omega
theorem Mz {p:Rp} (hk:p.ss.length=32) (M:rpB p=true):(rpE p).length<=500:=by
 have O:prB p.s=true/\tmB p.st=true/\tmB p.en=true/\tmB p.no=true:=by simpa [rpB] using M
 have l1:=(AV O.1).1;have l2:=Az 4 p.ss;have l4:=AE p.st;have l5:=AE p.en;have X:=AE p.no;have Y:=Az 122 [elem 4 p.ss,prE p.s,encI p.st,encI p.en,encI p.no].flatten;have Z:[elem 4 p.ss,prE p.s,encI p.st,encI p.en,encI p.no].flatten.length=(elem 4 p.ss).length+((prE p.s).length+((encI p.st).length+((encI p.en).length+(encI p.no).length))):=by simp
 rw[rpE];omega
theorem MA {p:An} (M:anB p=true):anO p=some (anE p):=by rw[anO,limO,if_pos ⟨M,by have:=Kq M;omega⟩]
theorem MC {p:Rp} (hk:p.ss.length=32) (M:rpB p=true):rpO p=some (rpE p):=by rw[rpO,limO,if_pos ⟨M,by have:=Mz hk M;omega⟩]
theorem WA {p:An} (M:anB p=true):anD (anE p)=some p:=by rw[anD,Vx M];rw[if_pos (MA M)]
theorem WB {p:Rp} (hk:p.ss.length=32) (M:rpB p=true):rpD (rpE p)=some p:=by rw[rpD,LC M hk];rw[if_pos (MC hk M)]
def lO (o:Option L):L:=o.getD []
end Kd
namespace Cl
open Go.RowKit Ae Se
open Nm (L krb Cg tgL tgR AS DD GY)
open Ms (Pr tmB inB pSm mSm anO mgO An Mg EncR)
open Rg (prV)
open SeL (Ce BX Ns)
theorem CK (n:Int) (w:World):Calls Tryz.prog 21 #[.int .i64 n] w fun e w'=>e=.returned (.bool (tmB n))/\w=w':=by
 by_cases h1:0<=n
 ·by_cases h2:n<=1073741824
  ·have M:decide ((0:Int)<=n)=true:=decide_eq_true h1
   have O:decide (n<=1073741824)=true:=decide_eq_true h2;have E:=I (show tmB n=true by simp [tmB,inB,h1,h2]);rw[E.o];clear h1 h2;go_enter Tryz.func21,Tryz.ntmps21
   go_wp2
   go_ret;exact⟨rfl,rfl⟩
  ·have M:decide ((0:Int)<=n)=true:=decide_eq_true h1
   have O:decide (n<=1073741824)=false:=decide_eq_false h2;have E:=I (show tmB n=false by simp [tmB,inB,h1,h2]);rw[E.o];clear h1 h2;go_enter Tryz.func21,Tryz.ntmps21
   go_wp2
   go_ret;exact⟨rfl,rfl⟩
 ·have M:decide ((0:Int)<=n)=false:=decide_eq_false h1
  have E:=I (show tmB n=false by simp [tmB,inB,h1]);rw[E.o];clear h1;go_enter Tryz.func21,Tryz.ntmps21
  go_wp2
  go_ret;exact⟨rfl,rfl⟩
theorem Ho (p:Pr) (w:World) (hs:pSm p):Calls Tryz.prog 20 #[prV p] w fun e w'=>e=.returned (.bool (JU p))/\Below w.heap.size w w':=by
 obtain⟨W,Y⟩:=Aj (w.alloc (.cells #[.string ⟨p.1.toArray⟩,.string ⟨p.2.toArray⟩] 35));have O:=I (show Below w.heap.size w W from Y▸Ag.alloc Af _);have X:=I (show Blk W w.heap.size 35 #[.string ⟨p.1.toArray⟩,.string ⟨p.2.toArray⟩] from Y▸Blk.new w _ _);have C1:=I (fun Z=>DD p.2 Z hs.2);have C2:=I (fun Z=>AS p.1 p.2 Z hs.1 hs.2);have E:=I (show JU p=(Cg p.1 p.2 && !tgL p.2) from rfl);obtain⟨b1,e1⟩:=Aj (tgL p.2);obtain⟨b2,e2⟩:=Aj (Cg p.1 p.2);obtain⟨q,eq⟩:=Aj (JU p);rw[<-e1] at C1 E;rw[<-e2] at C2 E;rw[<-eq] at E⊢;clear hs e1 e2 eq;cases b1
 ·go_enter Tryz.func20,Tryz.ntmps20
  go_upto_region 1 with fail
  rw[<-Y];clear Y;have k1:=X.o.cell 1
  go_wp2_with (first
   |(go_at_call 45;refine Ah (C1.o _) ?_;rintro Z M;clear C1 k1;replace X:=I (X.o.below M);replace O:=O.t M;have k0:=X.c0;have k1:=X.c1;clear M)
   |(go_at_call 46;refine Ah (C2.o _) ?_;rintro w2 M;clear C2 k0 k1;replace O:=O.t M;clear M)
   |fail)
  go_ret;exact⟨by rw[E.o];cases b2<;>rfl,O.o⟩
 ·go_enter Tryz.func20,Tryz.ntmps20
  go_upto_region 1 with fail
  rw[<-Y];clear Y;have k1:=X.o.cell 1
  go_wp2_with (first
   |(go_at_call 45;refine Ah (C1.o _) ?_;rintro Z M;clear C1 k1;replace X:=I (X.o.below M);replace O:=O.t M;clear M)
   |fail)
  go_ret;exact⟨by rw[E.o];cases b2<;>rfl,O.o⟩
theorem Ln (now:Int) (w:World) (h:tmB now=true):Calls Tryz.prog 51 #[.int .i64 now] w fun e w'=>e=.returned (.int .i64 (Gk now))/\w=w':=by
 have M:0<=now/\now<=1073741824:=by simpa [tmB,inB] using h
 have s1:IntKind.i64.wrap (now+1000)=now+1000:=by rw[IntKind.wrap_i64];omega
 have E:=I (show min (now+1000) 1073741824=Gk now from rfl);clear h M;go_enter Tryz.func51,Tryz.ntmps51
 go_wp2
 go_ret;exact⟨by rw[<-E.o];first | rfl | simp,rfl⟩
theorem Nx (p:Pr) (w:World) (h1:p.1.length<=140737488351232) (h2:p.2.length<=140737488351232):Calls Tryz.prog 22 #[prV p] w fun e w'=>e=.returned (prV p)/\Below w.heap.size w w':=by
 have C1:=I (fun w1=>Ca.DF p.1 w1 h1);have C2:=I (fun w1=>Ca.DF p.2 w1 h2);go_enter Tryz.func22,Tryz.ntmps22
 go_upto_region 1 with fail
 obtain⟨W,eW⟩:=Aj ((w.alloc (.cells #[.string ⟨p.1.toArray⟩,.string ⟨p.2.toArray⟩] 35)).alloc (.cells #[.string ⟨#[]⟩,.string ⟨#[]⟩] 35));have hq:=Blk.new (w.alloc (.cells #[.string ⟨p.1.toArray⟩,.string ⟨p.2.toArray⟩] 35)) 35 #[.string ⟨#[]⟩,.string ⟨#[]⟩];rw[show(w.alloc (.cells #[.string ⟨p.1.toArray⟩,.string ⟨p.2.toArray⟩] 35)).heap.size=w.heap.size+1 by simp,<-eW] at hq;have O:=I (show Blk W w.heap.size 35 #[.string ⟨p.1.toArray⟩,.string ⟨p.2.toArray⟩] by rw[eW];exact(Blk.new _ _ _).alloc _);have M:=I hq;have Y:=I (show Below w.heap.size w W by rw[eW];exact(Ag.alloc Af _).alloc (by simp) _);rw[<-eW];clear eW hq;replace O:=I (show Blk W.drew _ _ _ from O.o.drewN 1);replace M:=I (show Blk W.drew _ _ _ from M.o.drewN 1);replace Y:=I (show Below _ _ W.drew from below_drewN Y.o 1)
 go_region_held3 (fun w'=>w'.cell? ⟨w.heap.size,0,none⟩=some (.string ⟨p.1.toArray⟩)/\w'.cell? ⟨w.heap.size,1,none⟩=some (.string ⟨p.2.toArray⟩)) (first | exact⟨O.o.cell 0,O.o.cell 1⟩ | exact⟨(Si.Blk.far (Si.Blk.far O.o _ _ (by simp)) _ _ (by simp)).cell 0,(Si.Blk.far (Si.Blk.far O.o _ _ (by simp)) _ _ (by simp)).cell 1⟩) ((first
  |(go_at_call 47;(with_reducible refine Calls.mono (C1.o _) ?_);rintro e w1 ⟨rfl,X⟩;clear C1;replace O:=I (O.o.below X);replace M:=I (M.o.below X);replace Y:=Y.t X;have aa:=M.c0;have Z:=M.c1;have fz:=M.o.frozen;clear X)
  |(go_at_call 47;(with_reducible refine Calls.mono (C2.o _) ?_);rintro e w2 ⟨rfl,X⟩;clear C2 aa Z fz;replace O:=I (O.o.below X);replace M:=I (M.o.below X);replace Y:=Y.t X;have aa:=M.c0;have Z:=M.c1;have fz:=M.o.frozen;clear X)))
 go_wp2
 have hz:=(M.o.set 0 (.string ⟨p.1.toArray⟩)).set 1 (.string ⟨p.2.toArray⟩);rw[show(((#[.string ⟨#[]⟩,.string ⟨#[]⟩]:Array Value).setIfInBounds 0 (.string ⟨p.1.toArray⟩)).setIfInBounds 1 (.string ⟨p.2.toArray⟩))=#[.string ⟨p.1.toArray⟩,.string ⟨p.2.toArray⟩] from rfl] at hz;refine bodyPost_ret (v:=prV p) ?_ ?_ ?_
 ·exact Wh.Al (v:=prV p) 2 35 ⟨w.heap.size+1,0,none⟩ Tryz.results22 (by rfl) (Wh.Ao hz Tryz.underlying35 (by rfl) Rg.AZ)
 ·rfl
 ·exact⟨rfl,Si.AY (Si.AY Y.o (by simp) _) (by simp) _⟩
theorem IY (w:World) (g o:Nat) (u:Value):Chg (fun j=>j=g) w (w.setCell ⟨g,o,none⟩ u):=(Chg.refl (fun j=>j=g) w).set (p:=⟨g,o,none⟩) (.inl rfl) u
theorem Lo (g o n:Nat) (w:World) (O:n<1000000) (X:w.cell? ⟨g,o,none⟩=some (.int .i64 (n:Int))) (M:w.frozen? ⟨g,o,none⟩=false) :
  Calls Tryz.prog 52 #[.pointer (some ⟨g,o,none⟩)] w fun e w'=>e=.returned (.int .i64 ((n+1:Nat):Int))/\w'=w.setCell ⟨g,o,none⟩ (.int .i64 ((n+1:Nat):Int)):=by
 have c1:=add_one ⟨g,o,none⟩ n w O X M;obtain⟨N,Y⟩:∃N:Int,N=((n+1:Nat):Int):=⟨_,rfl⟩;rw[<-Y] at c1⊢;obtain⟨W,Z⟩:=Aj (w.setCell ⟨g,o,none⟩ (.int .i64 N));rw[<-Z] at c1⊢;clear X M Y O Z;go_enter Tryz.func52,Tryz.ntmps52
 go_wp2_with (go_at_call 88;refine Ah c1 ?_;rintro w1 hw;subst hw;clear c1)
 go_ret;exact⟨rfl,rfl⟩
section
variable {w w':World} {B:Nat} {p:CP} {m:CM} {s:St} {c:Nat}
theorem Cl.put_n (h:Cl w B p m s c) (n:Nat):Tu w (w.setCell ⟨p.k,4,none⟩ (.int .i64 (n:Int))) B p m m {s with n:=n} c:=
 h.cell (m':=m) (IY w p.k 4 _) (by have:=h.blk.set 4 (.int .i64 (n:Int));simpa using this) rfl rfl h.ou
theorem Cl.put_s (h:Cl w B p m s c) (n:Nat):Tu w (w.setCell ⟨p.k,5,none⟩ (.int .i64 (n:Int))) B p m m {s with s:=n} c:=
 h.cell (m':=m) (IY w p.k 5 _) (by have:=h.blk.set 5 (.int .i64 (n:Int));simpa using this) rfl rfl h.ou
theorem Vb (h:Cl w B p m s c) (M:s.n<1000000):Calls Tryz.prog 52 #[.pointer (some ⟨p.k,4,none⟩)] w fun e w'=>e=.returned (.int .i64 ((s.n+1:Nat):Int))/\Tu w w' B p m m {s with n:=s.n+1} c:=
 (Lo p.k 4 s.n w M (h.blk.cell 4) (h.blk.frozen 4)).mono (by rintro e w' ⟨rfl,rfl⟩;exact⟨rfl,h.put_n _⟩)
theorem Yn (h:Cl w B p m s c) (M:s.s<1000000):Calls Tryz.prog 52 #[.pointer (some ⟨p.k,5,none⟩)] w fun e w'=>e=.returned (.int .i64 ((s.s+1:Nat):Int))/\Tu w w' B p m m {s with s:=s.s+1} c:=
 (Lo p.k 5 s.s w M (h.blk.cell 5) (h.blk.frozen 5)).mono (by rintro e w' ⟨rfl,rfl⟩;exact⟨rfl,h.put_s _⟩)
theorem Mn (k:Nat) (P:Pr) (w:World) (hs:P.1.length<=1000000) (h0:∀w',Below w.heap.size w w'->w'.cell? ⟨k,0,none⟩=some (.string ⟨P.1.toArray⟩)) (hk:k<w.heap.size) :
  Calls Tryz.prog 48 #[.pointer (some ⟨k,0,none⟩)] w fun e w'=>e=.returned (prV (own P))/\Below w.heap.size w w':=by
 have Z:=I (fun w1=>GY P.1 w1 (by omega));have HN:=I (show k≠w.heap.size by omega);obtain⟨W,X⟩:=Aj (w.alloc (.cells #[.string ⟨#[]⟩,.string ⟨#[]⟩] 35));have hb:Below w.heap.size w W:=X▸Ag.alloc Af _;have M:=I (show Blk W.drew w.heap.size 35 #[.string ⟨#[]⟩,.string ⟨#[]⟩] from X▸Blk.new w _ _);have Y:=I (show Below w.heap.size w W.drew from below_drewN hb 1);have O:=I h0;have E:=I (show own P=(P.1,krb++P.1) from rfl);obtain⟨q,eq⟩:=Aj (krb++P.1);rw[<-eq] at Z E;rw[E.o];clear h0 hk hs hb eq E;go_enter Tryz.func48,Tryz.ntmps48
 go_upto_region 1 with fail
 rw[<-X];clear X;have ad:W.cell? ⟨w.heap.size,0,none⟩=some (.string ⟨#[]⟩):=M.o.cell 0;have aa:W.cell? ⟨w.heap.size,1,none⟩=some (.string ⟨#[]⟩):=M.o.cell 1;have fw:∀i,W.frozen? ⟨w.heap.size,i,none⟩=false:=M.o.frozen;have ae:=M.c0;have ab:=M.c1;have fz:=M.o.frozen
 go_region_held3 (fun w'=>w'.cell? ⟨k,0,none⟩=some (.string ⟨P.1.toArray⟩)) (first | exact O.o _ Y.o | exact O.o _ (Si.AY (Si.AY Y.o Af _) Af _)) ((go_at_call 85;(with_reducible refine Calls.mono (Z.o _) ?_);rintro e w1 ⟨rfl,hw⟩;subst hw;clear Z))
 go_wp2
 have hz:=(M.o.set 0 (.string ⟨P.1.toArray⟩)).set 1 (.string ⟨q.toArray⟩);rw[show(((#[.string ⟨#[]⟩,.string ⟨#[]⟩]:Array Value).setIfInBounds 0 (.string ⟨P.1.toArray⟩)).setIfInBounds 1 (.string ⟨q.toArray⟩))=#[.string ⟨P.1.toArray⟩,.string ⟨q.toArray⟩] from rfl] at hz;refine bodyPost_ret (v:=prV (P.1,q)) ?_ ?_ ?_
 ·exact Wh.Al (v:=prV (P.1,q)) 2 35 ⟨w.heap.size,0,none⟩ Tryz.results48 (by rfl) (Wh.Ao hz Tryz.underlying35 (by rfl) Rg.AZ)
 ·rfl
 ·exact⟨rfl,Si.AY (Si.AY Y.o Af _) Af _⟩
theorem Yo (h:Cl w B p m s c) (hs:p.P.1.length<=1000000):Calls Tryz.prog 48 #[pv p.k] w fun e w'=>e=.returned (prV (own p.P))/\Below w.heap.size w w':=
 Mn p.k p.P w hs (fun w' M=>(h.below M).blk.cell 0) h.blk.lt
def oI:Option L->Int
 |none=>1
 |some _=>0
theorem Ny {o:Option L} {e:Ending} (h:EncR w o e w'):∃v,e=.returned (.tuple #[v,.int .i64 (oI o)])/\SlN (fun j=>j<w.heap.size) w' v (lO o)/\Below w.heap.size w w':=by
 obtain⟨⟨v,i,rfl,Z,h2⟩,X⟩:=h;cases o with
 |none=>
  obtain⟨rfl,rfl⟩:=Z rfl;exact⟨_,rfl,⟨none,0,rfl,Nat.le_refl _,.inl rfl⟩,X⟩
 |some l=>
  obtain⟨rfl,g,c,rfl,h3,Y,O⟩:=h2 l rfl;refine⟨_,rfl,⟨_,c,rfl,Y,?_⟩,X⟩;rcases O with O | ⟨b,o,M,h7,h8⟩
  ·exact .inl O
  ·injection M with M
   injection M with e1 e2 _;subst e1 e2;exact .inr ⟨_,_,rfl,h7,by omega,h8⟩
theorem Uh (cs:Array Value) (g:Mg) (w:World) (h:Mc.MgV w w.heap.size cs g) (hs:mSm g) (Z:cs.size=30) (ho:cs.all (·.oneCell')=true) :
  Calls Tryz.prog 89 #[.agg cs] w fun e w'=>∃v,e=.returned v/\SlN (fun j=>j<w.heap.size) w' v (lO (mgO g))/\Below w.heap.size w w':=by
 obtain⟨W,O⟩:=Aj (w.alloc (.cells cs 61));have M:Below w.heap.size w W:=O▸Ag.alloc Af _;have HP:=I (show Blk W w.heap.size 61 cs from O▸Blk.new w _ _);have HI:=I (show(Tryz.prog.info? 61).map (·.size)=some cs.size by rw[Z];exact Mc.AT);have X:=I (Mc.RH cs g W (Mc.MgV.more (Mc.MgV.keep h M) M.size) hs);obtain⟨o,eo⟩:=Aj (mgO g);rw[<-eo] at X⊢;have Y:=I M;clear h hs Z ho eo M;go_enter Tryz.func89,Tryz.ntmps89
 go_upto_region 1 with fail
 rw[<-O];clear O
 go_wp2_with (first
  |(refine Wh.AG (by rfl) 61 (.tmp 1) (by rfl) w.heap.size 0 (by rfl) cs _ (Wh.Ac HP.o) Tryz.underlying61 (by rfl) HI.o ?_)
  |(go_at_call 56;refine Calls.mono X.o ?_;rintro e w1 he;obtain⟨v,rfl,hs,M⟩:=Ny he;clear X he;have HS:=I hs;replace Y:=Y.t M;clear hs M)
  |fail)
 go_ret;exact⟨v,rfl,HS.o.mono (fun j _ x=>by have:=HP.o.lt;omega),Y.o⟩
theorem Yp {N:Nat} (h:N<=1000000):(Lit.int .i64 ((N:Nat):Int)).wf=true:=by
 simp [Lit.wf,IntKind.min,IntKind.max,IntKind.signed,IntKind.bits];omega
theorem Ui {z:Ss} (h:Cl w B p m s c) (X:m.y=some z) (hc:c<1000000) (u:Int) (N:Nat) (hN:N<=1000000) (v:Value) (l:L) (hl:l.length<=2000) (hv:SlN (AO p m) w v l) :
  Calls Tryz.prog 131 #[pv z.b,.int .i64 u,.int .i64 (N:Int),v] w fun e w'=>∃v2 er z',e=.returned (.tuple #[v2,.int .i64 er])/\z'.b=z.b/\z'.ks=z.ks/\SlN (Out w p {m with y:=some z'}) w' v2 (Ce z.ks u (N:Int) l).1/\Tu w w' B p m {m with y:=some z'} s (c+1):=by
 obtain⟨A,cp,rfl,aa,hr⟩:=hv;have hx:=h.sy z X;have Z:∀j,Ow z.b z.h j->AO p m j:=fun j M=>⟨5,z,X,M⟩
 refine(SeL.Td z.b z.ks z.h z.a z.o z.r u (N:Int) A l.length cp l w (by omega) (Yp hN) rfl (by unfold maxLen;omega) (hr.mono fun j _ M=>Z j M) hx.1).mono ?_;rintro e1 w1 ⟨A2,c2,h',Y,rfl,h1,h2,h3,h4,h5,h6⟩;have hT:Tu w w1 B p m {m with y:=some ⟨z.b,z.ks,h',Y,z.o,z.r⟩} s (c+1):=by
  refine h.use_y (h5.1.mono fun j _ x=>⟨z,X,x⟩) (fun q O=>?_) (fun j M=>?_)
  ·injection O with O
   subst O;exact⟨h4,by show Y<=c+1;omega,by show z.o<=c+1;omega,by show z.r<=c+1;omega⟩
  ·obtain⟨q,O,M⟩:=M
   injection O with O;subst O;exact(Ij h5 M).imp (fun x=>⟨z,X,x⟩) id
 refine⟨_,_,⟨z.b,z.ks,h',Y,z.o,z.r⟩,rfl,rfl,rfl,⟨A2,c2,rfl,h1,h3.mono fun j _ M=>?_⟩,hT⟩;rcases M with M | ⟨i,M⟩
 ·exact .inl M
 ·match i,M with
  |0,M=>exact .inl (h.lt ⟨0,M⟩)
  |1,M=>exact .inl (h.lt ⟨1,M⟩)
  |2,M=>exact .inl (h.lt ⟨2,M⟩)
  |3,M=>exact .inl (h.lt ⟨3,M⟩)
  |4,M=>exact .inl (h.lt ⟨4,M⟩)
  |5,M=>
   obtain⟨q,O,M⟩:=M;injection O with O;subst O;exact .inr M
end
section
variable {w w':World} {B:Nat} {p:CP} {m:CM} {s:St} {c:Nat}
abbrev anA (a:An):Array Value:=#[.string ⟨a.c.1.toArray⟩,.string ⟨a.c.2.toArray⟩,.int .i64 a.t,.int .i64 a.q]
theorem RJ {z:Ss} (h:Cl w B p m s c) (hz:m.y=some z) (hc:c<900000) (hn:s.s<900000) (u:Int) (a:An) (hs:pSm a.c) :
  Calls Tryz.prog 87 #[pv p.k,pv z.b,.int .i64 u,.agg (anA a)] w fun e w'=>∃v O,e=.returned v/\O.b=z.b/\O.ks=z.ks/\SlN (Out w p {m with y:=some O}) w' v (seaL z.ks u (s.s+1) a)/\Tu w w' B p m {m with y:=some O} {s with s:=s.s+1} (c+1):=by
 obtain⟨W,eW⟩:=Aj (w.alloc (.cells (anA a) 68));have Y:Below w.heap.size w W:=eW▸Ag.alloc Af _;have HP:=I (show Blk W w.heap.size 68 (anA a) from eW▸Blk.new w _ _);have M:=I (Tu.start h Y);have C1:=I (Mc.Lm a W hs);have C2:=I (fun(w1:World) (X:Cl w1 B p m s c)=>Yn X (by omega));have hl:(lO (anO a)).length<=2000:=by
  cases e:anO a with
  |none=>exact Nat.zero_le _
  |some b=>exact(Ms.Br.1 e).2.2▸(Ms.Br.1 e).2.1
 have Z:=I (fun(w1:World) (v:Value) (X:Cl w1 B p m {s with s:=s.s+1} c) (hv:SlN (AO p m) w1 v (lO (anO a)))=>Ui X hz (by omega) u (s.s+1) (by omega) v _ hl hv);have E:=I (show seaL z.ks u (s.s+1) a=(Ce z.ks u ((s.s+1:Nat):Int) (lO (anO a))).1 from rfl);obtain⟨r,er⟩:=Aj (seaL z.ks u (s.s+1) a);rw[<-er] at E⊢;rw[<-E.o] at Z;obtain⟨o,eo⟩:=Aj (anO a);rw[<-eo] at C1 Z;obtain⟨N,eN⟩:∃N:Int,N=((s.s+1:Nat):Int):=⟨_,rfl⟩;rw[<-eN] at C2 Z;have HX:=I (show w.heap.size<=W.heap.size from Y.size);clear h Y hs hl eo E er hc hn eN;go_enter Tryz.func87,Tryz.ntmps87
 go_upto_region 1 with fail
 rw[<-eW];clear eW;have k0:=HP.c0;have k1:=HP.c1;have k2:=HP.c2;have k3:=HP.c3
 go_wp2_with (first
  |(go_at_call 130;refine Calls.mono C1.o ?_;rintro e w1 he;obtain⟨v,rfl,hs,Y⟩:=Ny he;clear C1 he k0 k1 k2 k3;have HS:=I (M.o.made hs);replace M:=I (M.o.below Y);clear hs Y)
  |(go_at_call 52;refine Ah (C2.o _ M.o.cl) ?_;rintro w2 hk;clear C2;replace HS:=I (hk.sl HS.o);replace M:=I (M.o.trans hk);clear hk)
  |(go_at_call 131;refine Calls.mono (Z.o _ _ M.o.cl HS.o) ?_;rintro e w3 ⟨v2,er,O,rfl,X,h2,hs,hk⟩;clear Z;have ad:=I X;have aa:=I h2;have ab:=I (Out.old M.o.size hs);replace M:=I (M.o.trans hk);clear hs hk X h2)
  |fail)
 go_ret;exact⟨v2,O,rfl,ad.o,aa.o,ab.o,M.o⟩
end
end Cl
namespace Cl
open Go.RowKit Ae Se
open Nm (L)
open Ms (Pr)
theorem IZ {P:Program} {a:Act} {w':World} {o:Oper} {g off:Nat} {ty:TypeId} {cs:Array Value} {d:TypeDesc} (x:Operand) (X:o.op=.load ty x) (Z:a.eval x=.pointer (some ⟨g,off,none⟩)) (h:w'.rangeAt g off cs.toList) (hu:P.underlying ty=some d) (Y:d.isRow=true) (O:(P.info? ty).map (·.size)=some cs.size) :
  (execOp a.eval o).run P w'=.ok (.value (.agg cs)) w':=by
 have M:=run_loadVar_mid (P:=P) w' g off ty cs.toList d h hu Y (by simpa using O);simp only[Array.toArray_toList] at M;unfold execOp;simp only[X,Z,Instr.loadAt,Instr.sureAddr,Sem.run_bind,Sem.run_pure,Result.andThen_ok,M]
theorem BP {P:Program} {a:Act} {w':World} {o:Oper} {t:TypeId} {parts:Array (Nat×Operand)} (M:o.op=.build t parts) {cells:Array Value} (h:P.built t (parts.map fun x=>(x.1,a.eval x.2)).toList=some cells) :
  (execOp a.eval o).run P w'=.ok (.value (.agg cells)) w':=by
 have:=run_build (P:=P) w' t (parts.map fun x=>(x.1,a.eval x.2)) cells h;unfold execOp;simp only[M,Sem.run_bind,this,Result.andThen_ok]
 rfl
section
variable {w w' w0:World} {B:Nat} {p:CP} {m m0:CM} {s:St} {c g:Nat} {v:Value} {l:L} {a:World}
def SlT (p:CP) (m:CM) (g:Nat) (w:World) (v:Value) (l:L):Prop:=SlN (fun j=>AO p m j\/j=g) w v l
theorem SlT.up (h:SlN (AO p m) w v l) (M:w.heap.size<=g):SlT p m g w v l:=h.mono (fun j O x=>by
 rcases x with x | x
 ·exact x
 ·omega)
theorem SlT.below (h:SlT p m g w v l) (M:Below w.heap.size w w'):SlT p m g w' v l:=SlN.below h M
theorem SlT.kn (h:SlT p m0 g w0 v l) (hk:Tu w0 w B p m0 m s c):SlT p m g w v l:=
 h.keep hk.chg (fun _ _ x=>.inl x) (fun j M x=>by
  rcases x with x | x
  ·rcases hk.nw j x with y | y
   ·exact .inl y
   ·omega
  ·exact .inr x)
theorem SlT.of_out (h:SlN (Out a p m) w v l) (M:g<a.heap.size):SlT p m g w v l:=h.mono (fun j _ x=>by
 rcases x with x | x
 ·exact .inr x
 ·exact .inl (by omega))
theorem SlT.of_made (hk:Cl a B p m s c) (M:g<a.heap.size) (h:SlN (fun j=>j<a.heap.size) w v l):SlT p m g w v l:=h.mono (fun j _ x=>by
 rcases x with x | x
 ·exact hk.lt x
 ·omega)
theorem SlT.over (h:SlT p m g w v l) (M:w.grownBy w' (some g)):SlN (AO p m) w' v l:=h.keep (Chg.of_grown (S:=fun j=>j=g) M rfl) (fun j _ x=>.inr x) (fun _ _ x=>.inl x)
theorem JD (h:SlN (Out a p m) w v l):SlN (AO p m) w v l:=h.mono (fun _ _ x=>.inr x)
theorem Tu.over (h:Tu w0 w B p m0 m s c) (M:w0.heap.size<=g) (O:¬AO p m g) (X:w.grownBy w' (some g)):Tu w0 w' B p m0 m s c:=h.put M O (Chg.of_grown X rfl)
theorem Tu.made_out (h:Tu w0 w B p m0 m s c) (hs:SlN (fun j=>j<w.heap.size) w' v l):SlN (Out w0 p m) w' v l:=hs.mono (fun j _ x=>by
 have:=h.size;rcases x with x | x
 ·exact Nat.lt_of_lt_of_le x this
 ·exact h.cl.lt x)
theorem WC {A:Option Addr} {M:Nat} (h:Ca.Own1 w w' A (bvs l)) (X:l.length<=M):SlN (fun j=>j<w.heap.size) w' (.slice A l.length M) l:=
 ⟨A,M,rfl,X,by
  rcases h.rd with x | ⟨b,o,e,O,Y⟩
  ·exact .inl x
  ·exact .inr ⟨b,o,e,O,fun x=>by have:=h.lo _ e;simp only at *;omega,Y⟩⟩
end
open Nm (krb)
open Ms (tmB pSm mSm mgO An Mg As Tg)
open Rg (prV)
section
variable {w w':World} {B:Nat} {p:CP} {m:CM} {s:St} {c:Nat}
abbrev ouA (no:Int) (b:Nat) (u:Int):Array Value:=#[.int .i64 no,pv b,.int .i64 u]
theorem WD (h:Blk w p.k 88 (clA p m s)) (no u sn:Int) (ob:Nat) (ks:Nat->UInt8):Blk ((((w.setCell ⟨p.k,13,none⟩ (.int .i64 no)).setCell ⟨p.k,14,none⟩ (pv ob)).setCell ⟨p.k,15,none⟩ (.int .i64 u)).setCell ⟨p.k,9,none⟩ (.int .i64 sn)) p.k 88 (clA p {m with ov:=pv ob} {s with ou:=⟨no,ks,u⟩,sn:=sn}):=by
 have:=(((h.set 13 (.int .i64 no)).set 14 (pv ob)).set 15 (.int .i64 u)).set 9 (.int .i64 sn)
 simpa only[List.setIfInBounds_toArray,List.set_cons_zero,List.set_cons_succ] using this
theorem WE (w:World) (k:Nat) (a b c d:Value):Chg (fun j=>j=k) w ((((w.setCell ⟨k,13,none⟩ a).setCell ⟨k,14,none⟩ b).setCell ⟨k,15,none⟩ c).setCell ⟨k,9,none⟩ d):=
 ((((Chg.refl (fun j=>j=k) w).set (p:=⟨k,13,none⟩) (.inl rfl) a).set (p:=⟨k,14,none⟩) (.inl rfl) b).set (p:=⟨k,15,none⟩) (.inl rfl) c).set (p:=⟨k,9,none⟩) (.inl rfl) d
theorem Lp {m':CM} {s':St} {r:L} {cs:Array Value} {g:Mg} {no u:Int} {ob:Nat} {ks:Nat->UInt8} (h:Cl w B p m s c) (al:0<=s.sn/\s.sn<=1000000) (hr:r.length<=140737488351232) (hm:∀w2,Chg (AO p m) w w2->Mc.MgV w2 w2.heap.size cs g) (hs:mSm g) (hz:cs.size=30) (ho:cs.all (·.oneCell')=true)
  (hT:∀w1 w2,Cl w1 B p m s c->Chg (fun j=>j=p.k) w1 w2->Blk w2 p.k 88 (clA p {m with ov:=pv ob} {s with ou:=⟨no,ks,u⟩,sn:=s.sn+1})->Tu w1 w2 B p m m' s' c) :
  Calls Tryz.prog 53 #[pv p.k,.string ⟨r.toArray⟩,.agg cs,.agg (ouA no ob u)] w fun e w'=>∃v,e=.returned (.tuple #[.string ⟨r.toArray⟩,v])/\SlN (Out w p m') w' v (lO (mgO g))/\Tu w w' B p m m' s' c:=by
 obtain⟨W,eW⟩:=Aj ((w.alloc (.cells cs 61)).alloc (.cells (ouA no ob u) 84));have Y:Below w.heap.size w W:=eW▸(Ag.alloc Af _).alloc (by simp) _;have O:=I (show Blk W w.heap.size 61 cs from eW▸(Blk.new w _ _).alloc _);have HO:=I (show Blk W (w.heap.size+1) 84 (ouA no ob u) by have:=Blk.new (w.alloc (.cells cs 61)) 84 (ouA no ob u);simp only[World.size_alloc] at this;exact eW▸this);have M:=I (Tu.start h Y);have HN:=I (h.fresh Af);have HI:=I (show(Tryz.prog.info? 61).map (·.size)=some cs.size by rw[hz];exact Mc.AT);have ab:=I (show p.k≠w.heap.size from Nat.ne_of_lt h.blk.lt);have ad:=I hm;have CE:=I (fun(w1:World) (h1:Mc.MgV w1 w1.heap.size cs g)=>Uh cs g w1 h1 hs hz ho);have CC:=I (fun(w1:World)=>Ca.DF r w1 hr);have HT:=I hT;have k9:W.cell? ⟨p.k,9,none⟩=some (.int .i64 s.sn):=M.o.cl.blk.cell 9;have an:W.cell? ⟨p.k,13,none⟩=some (.int .i64 s.ou.no):=M.o.cl.blk.cell 13;have ah:W.cell? ⟨p.k,14,none⟩=some m.ov:=M.o.cl.blk.cell 14;have ai:W.cell? ⟨p.k,15,none⟩=some (.int .i64 s.ou.u):=M.o.cl.blk.cell 15;have fz:=M.o.cl.blk.frozen;have q0:=HO.c0;have q1:=HO.c1;have q2:=HO.c2;have aj:IntKind.i64.wrap (s.sn+1)=s.sn+1:=by rw[IntKind.wrap_i64];omega
 obtain⟨o,eo⟩:=Aj (mgO g);rw[<-eo] at CE⊢;clear h Y hm hs hz ho hT eo al hr;go_enter Tryz.func53,Tryz.ntmps53
 go_upto_region 1 with fail
 rw[<-eW];clear eW
 go_upto_region 3 with fail
 obtain⟨V,eV⟩:=Aj (((((W.setCell ⟨p.k,13,none⟩ (.int .i64 no)).setCell ⟨p.k,14,none⟩ (pv ob)).setCell ⟨p.k,15,none⟩ (.int .i64 u)).setCell ⟨p.k,9,none⟩ (.int .i64 (s.sn+1))));have aa:Chg (fun j=>j=p.k) W V:=eV▸WE W p.k _ _ _ _;have ag:=HT.o W V M.o.cl aa (eV▸WD M.o.cl.blk no u (s.sn+1) ob ks);have ae:=ad.o V (M.o.chg.trans (aa.mono (fun j _ x=>⟨0,x⟩)) (fun _ _ x=>x));replace O:=I (aa.blk O.o (fun x=>ab.o x.symm));replace M:=I (M.o.trans ag);rw[<-eV];clear eV aa ag k9 an ah ai fz q0 q1 q2 aj HO HT ad HN ab;have X:=I ae;clear ae;have Z:Below V.heap.size V V.drew:=below_drewN Ag 1;replace M:=I (M.o.below Z);replace O:=I (O.o.below Z);replace X:=I (Mc.MgV.more (Mc.MgV.keep X.o Z) Z.size);clear Z;refine Reg.AW (fun w'=>Blk w' w.heap.size 61 cs) 6 rfl (by kernel_rfl) O.o ?_;refine Reg.ty 0 rfl O.o ?_;refine Reg.tw 2 (v:=.agg cs) rfl O.o (fun w' hS=>by exact Wh.Cz (.tmp 6) rfl rfl hS Tryz.underlying61 (by rfl) HI.o) ?_;refine Reg.b1 1 ?_
 right
 refine⟨_,_,_,_,_,_,47,#[.string ⟨r.toArray⟩],rfl,by rfl,(by go_simp<;>first | rfl | exact⟨rfl,rfl⟩),?_⟩;refine Ah (CC.o _) ?_;rintro ar Y;replace M:=I (M.o.below Y);replace O:=I (O.o.below Y);replace X:=I (Mc.MgV.more (Mc.MgV.keep X.o Y) Y.size);have af:=I M.o;clear Y;clear CC;refine⟨_,rfl,O.o,?_⟩;simp only[Act.put,J,U,Aa];refine Reg.b1 3 ?_
 right
 refine⟨_,_,_,_,_,_,89,#[.agg cs],rfl,by rfl,(by go_simp<;>first | rfl | exact⟨rfl,rfl⟩),?_⟩;refine Calls.mono (CE.o _ X.o) ?_;rintro e ao ⟨v,rfl,hs,Y⟩;replace M:=I (M.o.below Y);replace O:=I (O.o.below Y);replace X:=I (Mc.MgV.more (Mc.MgV.keep X.o Y) Y.size);have ak:=I (af.o.made_out hs);clear hs af;clear Y;clear CE;refine⟨_,rfl,O.o,?_⟩;simp only[Act.put,J,U,Aa];refine Reg.ty 4 rfl O.o ?_;refine Reg.ty 5 rfl O.o ?_;refine wpAnyH_done (by kernel_rfl) ?_ _
 go_wp2
 go_ret2
 exact⟨v,rfl,ak.o,M.o⟩
theorem WG (h:Blk w p.k 88 (clA p m s)) (st er:Int):Blk ((((((((w.setCell ⟨p.k,7,none⟩ (.int .i64 st)).setCell ⟨p.k,8,none⟩ (.int .i64 er)).setCell ⟨p.k,10,none⟩ (.string ⟨#[]⟩)).setCell ⟨p.k,11,none⟩ (.string ⟨#[]⟩)).setCell ⟨p.k,12,none⟩ (.slice none 0 0)).setCell ⟨p.k,13,none⟩ (.int .i64 0)).setCell ⟨p.k,14,none⟩ (.pointer none)).setCell ⟨p.k,15,none⟩ (.int .i64 0)) p.k 88 (clA p {m with vv:=.slice none 0 0,ov:=.pointer none,x:=none} (endS mC s st er)):=by
 have:=(((((((h.set 7 (.int .i64 st)).set 8 (.int .i64 er)).set 10 (.string ⟨#[]⟩)).set 11 (.string ⟨#[]⟩)).set 12 (.slice none 0 0)).set 13 (.int .i64 0)).set 14 (.pointer none)).set 15 (.int .i64 0);simp only[List.setIfInBounds_toArray,List.set_cons_zero,List.set_cons_succ] at this;exact this
theorem Cl.ended (h:Cl w B p m s c) {st er:Int} (Z:st≠1) (O:Chg (fun j=>j=p.k) w w') (hb:Blk w' p.k 88 (clA p {m with vv:=.slice none 0 0,ov:=.pointer none,x:=none} (endS mC s st er))):Tu w w' B p m {m with vv:=.slice none 0 0,ov:=.pointer none,x:=none} (endS mC s st er) c:=by
 have Y:∀i,i≠0->∀j,Pt p m i j->¬j=p.k:=fun i hi j M e=>h.not (i':=0) M hi e
 have X:∀i j,Pt p {m with vv:=.slice none 0 0,ov:=.pointer none,x:=none} i j->Pt p m i j:=fun i j M=>by
  match i,M with
  |0,M=>exact M
  |1,M=>exact M
  |2,M=>exact M
  |3,M=>cases M
  |4,M=>obtain⟨z,hz,_⟩:=M;cases hz
  |5,M=>exact M
 refine⟨⟨⟨fun i i' j a b=>h.pa.dis i i' j (X i j a) (X i' j b),fun i j a=>h.pa.lo i j (X i j a),fun i j a=>Nat.lt_of_lt_of_le (h.pa.lt i j (X i j a)) O.size,Nat.le_trans h.pa.hB O.size⟩,hb,h.ca.chg O (Y 2 (by decide)),h.li,h.box.chg O (Y 1 (by decide)),h.bc,Nm.Own.nil _ _,SxR.none,h.sy.chg O (Y 5 (by decide)),.inl ⟨rfl,fun e=>absurd e Z⟩⟩,O.mono (fun j _ x=>⟨0,x⟩),fun j M=>by
  obtain⟨i,M⟩:=M;exact .inl ⟨i,X i j M⟩⟩
theorem Il {st er:Int} (h:Cl w B p m s c) (M:st≠1) :
  Calls Tryz.prog 25 #[pv p.k,.int .i64 st,.int .i64 er] w fun e w'=>e=.returned (.tuple #[])/\∃m',Tu w w' B p m m' (endS mC s st er) c:=by
 have X:=I h;have k7:w.cell? ⟨p.k,7,none⟩=some (.int .i64 s.st):=h.blk.cell 7;have k8:w.cell? ⟨p.k,8,none⟩=some (.int .i64 s.er):=h.blk.cell 8;have ae:w.cell? ⟨p.k,10,none⟩=some (.string ⟨s.tg.1.toArray⟩):=h.blk.cell 10;have ab:w.cell? ⟨p.k,11,none⟩=some (.string ⟨s.tg.2.toArray⟩):=h.blk.cell 11;have Y:w.cell? ⟨p.k,12,none⟩=some m.vv:=h.blk.cell 12;have ad:w.cell? ⟨p.k,13,none⟩=some (.int .i64 s.ou.no):=h.blk.cell 13;have Z:w.cell? ⟨p.k,14,none⟩=some m.ov:=h.blk.cell 14;have aa:w.cell? ⟨p.k,15,none⟩=some (.int .i64 s.ou.u):=h.blk.cell 15;have fz:=h.blk.frozen;have O:=I M;clear h M;go_enter Tryz.func25,Tryz.ntmps25
 go_wp2
 go_end0
 refine⟨rfl,_,X.o.ended O.o ?_ (WG X.o.blk st er)⟩;exact((((((((Chg.refl (fun j=>j=p.k) w).set (p:=⟨p.k,7,none⟩) (.inl rfl) _).set (p:=⟨p.k,8,none⟩) (.inl rfl) _).set (p:=⟨p.k,10,none⟩) (.inl rfl) _).set (p:=⟨p.k,11,none⟩) (.inl rfl) _).set (p:=⟨p.k,12,none⟩) (.inl rfl) _).set (p:=⟨p.k,13,none⟩) (.inl rfl) _).set (p:=⟨p.k,14,none⟩) (.inl rfl) _).set (p:=⟨p.k,15,none⟩) (.inl rfl) _
end
open Ca (Cr It crA)
abbrev crv (x:Cr) (bv:Value):Array Value:=(.string ⟨x.s.1.toArray⟩ :: .string ⟨x.s.2.toArray⟩ :: .int .i64 x.n :: bv :: ((AX x.k).toList++[.int .i64 x.e])).toArray
def Okx (x:Cr):Prop:=pSm x.s/\x.b.length<=100000
structure Sz (p:CP) (s:St) (c:Nat):Prop where
 nn:s.n<=c
 ss:s.s<=c
 qq:s.q<=c
 sn:0<=s.sn/\s.sn<=(c:Int)
 vs:s.vs.length<=c/\∀v∈s.vs,v.length<=1000000
 tg:pSm s.tg
 l:s.l.length<=10
 x:∀i∈s.l,Okx i.2
 pp:pSm p.P/\p.P.1.length<=1000000
abbrev tgA (q:Tg) (b a:Value):Array Value:=#[.string ⟨q.t.s.1.toArray⟩,.string ⟨q.t.s.2.toArray⟩,.int .i64 q.t.k,b,a,.string ⟨q.s.1.toArray⟩,.string ⟨q.s.2.toArray⟩,.int .i64 q.u,.int .i64 q.no]
theorem tg_mg {w:World} {q:Tg} {b a:Value} {S S':Nat->Prop} (M:SlN S w b q.t.b) (O:SlN S' w a q.a):Mc.MgV w w.heap.size (Mc.mgA 2 Mc.zA (tgA q b a) Mc.zR Mc.zP Mc.zF) (mTg q):=
 ⟨_,_,_,_,_,rfl,⟨Mc.zA_v,⟨b,a,rfl,M.sl,O.sl⟩,Mc.zR_v _ _,Mc.zP_v _ _,Mc.zF_v⟩⟩
theorem RK (q:Tg) (b a:Value):Tryz.prog.built 61 [(0,.int .i64 2),(2,.agg (tgA q b a))]=some (Mc.mgA 2 Mc.zA (tgA q b a) Mc.zR Mc.zP Mc.zF):=by kernel_rfl
theorem Uj (q:Tg) (b:Value) (A:Option Addr) (n c:Nat):Tryz.prog.built 53 [(0,.agg #[.string ⟨q.t.s.1.toArray⟩,.string ⟨q.t.s.2.toArray⟩,.int .i64 q.t.k,b]),(1,.slice A n c),(2,.agg #[.string ⟨q.s.1.toArray⟩,.string ⟨q.s.2.toArray⟩]),(3,.int .i64 q.u),(4,.int .i64 q.no)]=some (tgA q b (.slice A n c)):=by kernel_rfl
theorem Nz (q:Tg) {b a:Value} (M:b.oneCell'=true) (O:a.oneCell'=true):(tgA q b a).all (·.oneCell')=true:=by
 simp [tgA,M,O];simp [Value.oneCell']
theorem Vc {S:Nat->Prop} {w:World} {v:Value} {l:L} (h:SlN S w v l):v.oneCell'=true:=by obtain⟨A,c,rfl,_⟩:=h;rfl
theorem BO:(Tryz.prog.info? 53).map (·.size)=some 9:=by kernel_rfl
section
variable {w w' w0:World} {B:Nat} {p:CP} {m m' m0:CM} {s:St} {c:Nat} {r:L}
theorem new_y (ks:Nat->UInt8) (h:Cl w B p m s c):Calls Tryz.prog 41 #[.agg (AX ks)] w fun e w'=>∃b,e=.returned (pv b)/\Tu w w' B p m {m with y:=some ⟨b,ks,none,0,0,0⟩} s (c+1):=by
 refine(JP ks w).mono ?_;rintro e w' ⟨b,rfl,Y,X,hw⟩;have Z:∀j,SO (some ⟨b,ks,none,0,0,0⟩) j->j=b:=fun j M=>by
  obtain⟨z,O,M⟩:=M;injection O with O;subst O;rcases M with M | M
  ·exact M
  ·cases M
 refine⟨b,rfl,h.use_y (Chg.of_below hw) (fun z O=>?_) (fun j M=>.inr (Z j M▸Y))⟩;injection O with O;subst O;exact⟨X,Nat.zero_le _,Nat.zero_le _,Nat.zero_le _⟩
theorem Cl.out_y (h:Cl w B p m s c) {z:Ss} (hz:m.y=some z) {ou:Ou} (hk:ou.ks=z.ks) {sn:Int} (X:Chg (fun j=>j=p.k) w w') (hb:Blk w' p.k 88 (clA p {m with ov:=pv z.b} {s with ou:=ou,sn:=sn})):Tu w w' B p m {m with ov:=pv z.b,x:=m.y,y:=none} {s with ou:=ou,sn:=sn} c:=by
 have Z:∀i,i≠0->∀j,Pt p m i j->¬j=p.k:=fun i hi j M e=>h.not (i':=0) M hi e
 have Y:∀i j,Pt p {m with ov:=pv z.b,x:=m.y,y:=none} i j->∃i',Pt p m i' j/\((i=4/\i'=5)\/(i≠4/\i≠5/\i'=i)):=fun i j M=>by
  match i,M with
  |0,M=>exact⟨0,M,.inr ⟨by decide,by decide,rfl⟩⟩
  |1,M=>exact⟨1,M,.inr ⟨by decide,by decide,rfl⟩⟩
  |2,M=>exact⟨2,M,.inr ⟨by decide,by decide,rfl⟩⟩
  |3,M=>exact⟨3,M,.inr ⟨by decide,by decide,rfl⟩⟩
  |4,M=>exact⟨5,M,.inl ⟨rfl,rfl⟩⟩
  |5,M=>obtain⟨q,hq,_⟩:=M;cases hq
 refine⟨⟨⟨fun i i' j a b=>?_,fun i j a=>?_,fun i j a=>?_,Nat.le_trans h.pa.hB X.size⟩,hb,h.ca.chg X (Z 2 (by decide)),h.li,h.box.chg X (Z 1 (by decide)),h.bc,Cf h.vis X (Z 3 (by decide)),h.sy.chg X (Z 5 (by decide)),SxR.none,.inr (.inr ⟨z,hz,rfl,hk⟩)⟩,X.mono (fun j _ x=>⟨0,x⟩),fun j M=>?_⟩
 ·obtain⟨k,O,ab⟩:=Y i j a
  obtain⟨k',aa,ad⟩:=Y i' j b;have:=h.pa.dis k k' j O aa;omega
 ·obtain⟨k,O,_⟩:=Y i j a
  exact h.pa.lo k j O
 ·obtain⟨k,O,_⟩:=Y i j a
  exact Nat.lt_of_lt_of_le (h.pa.lt k j O) X.size
 ·obtain⟨i,M⟩:=M
  obtain⟨k,O,_⟩:=Y i j M;exact .inl ⟨k,O⟩
theorem RL (w:World) (base:Nat) (v:Value) (ls:List L) (M:Nm.Own w base v ls) (r:L) (g:Nat) (hc:w.cell? ⟨g,0,none⟩=some (Nm.st r)) (hg:g<w.heap.size) (hl:ls.length<=1000000) (hb:base<=w.heap.size) :
  ∃v' w',(Builtin.append_ #[38,38] 38 #[v,.slice (some ⟨g,0,none⟩) 1 1]).run Tryz.prog w=.ok v' w'/\Nm.Own w' base v' (ls++[r])/\w.grownBy w' v.ownBlock/\(v'.ownBlock=v.ownBlock\/v'.ownBlock=some w.heap.size):=by
 obtain⟨i0,Z,Y,X,aa⟩:=info_parts Nm.MP;obtain⟨v',w',O,h2,h3,h4⟩:=Gv (P:=Tryz.prog) w base 38 38 9 i0 _ 16 Tryz.underlying38 Z Y X aa rfl v ls.length (Nm.strs ls) M w.heap.size (some ⟨g,0,none⟩) 1 1 (Nm.strs [r]) rfl (.inr ⟨g,0,rfl,hg,fun i u hu=>by
  cases i with
  |zero=>simp only[Nm.strs,List.map_cons,List.map_nil,List.getElem?_cons_zero,Option.some.injEq] at hu;rw[<-hu];exact hc
  |succ i=>simp [Nm.strs] at hu⟩) (Nm.MO _) (by unfold maxLen;omega) (by omega) hb
 exact⟨v',w',O,by rw[Nm.Own,List.length_append,Nm.Ix];exact h2,h3,h4⟩
theorem Cl.append (h:Cl w B p m s c) {v':Value} {ls:List L} (ho:Nm.Own w' B v' ls) (Y:w.grownBy w' m.vv.ownBlock) (hv:v'.ownBlock=m.vv.ownBlock\/v'.ownBlock=some w.heap.size):Tu w (w'.setCell ⟨p.k,12,none⟩ v') B p m {m with vv:=v'} {s with vs:=ls} c:=by
 have M:Chg (fun j=>m.vv.ownBlock=some j) w w':=⟨Y.os,Y.tape,Y.output,Y.size,fun i hi hn=>Y.block i hi (fun e=>hn e.symm)⟩;have O:m.vv.ownBlock≠some p.k:=fun e=>h.not (i:=3) (i':=0) (j:=p.k) e (by decide) rfl
 have X:v'.ownBlock≠some p.k:=fun e=>by
  rcases hv with x | x
  ·exact O (x▸e)
  ·rw[x] at e
   injection e with e;have:=h.blk.lt;omega
 refine h.visit ?_ ?_ ?_ ?_
 ·exact(M.mono (T:=fun j=>j=p.k\/m.vv.ownBlock=some j) (fun _ _ x=>.inr x)).set (p:=⟨p.k,12,none⟩) (.inl (.inl rfl)) v'
 ·have:=(M.blk h.blk O).set 12 v'
  simp only[List.setIfInBounds_toArray,List.set_cons_zero,List.set_cons_succ] at this;exact this
 ·exact Cf ho (IY w' p.k 12 v') (fun k hk e=>X (e▸hk))
 ·intro j Z
  rcases hv with x | x
  ·exact .inl (x▸Z)
  ·rw[x] at Z
   injection Z with Z;exact .inr (by omega)
theorem Uk {z:Ss} (h:Cl w B p m s c) (X:m.y=some z) (hc:c<900000) (Z:s.s<900000) (u:Int) (a:An) (hs:pSm a.c) :
  Calls Tryz.prog 87 #[pv p.k,pv z.b,.int .i64 u,.agg (anA a)] w fun e w'=>∃A n O M,e=.returned (.slice A n O)/\M.b=z.b/\M.ks=z.ks/\SlN (Out w p {m with y:=some M}) w' (.slice A n O) (seaL z.ks u (s.s+1) a)/\Tu w w' B p m {m with y:=some M} {s with s:=s.s+1} (c+1):=
 (RJ h X hc Z u a hs).mono (by rintro e w' ⟨v,M,rfl,h1,h2,⟨A,O,rfl,h3,Y⟩,hk⟩;exact⟨A,_,O,M,rfl,h1,h2,⟨A,O,rfl,h3,Y⟩,hk⟩)
theorem Ul {x:Cr} {bv:Value} {now:Int} (h:Cl w B p m s c) (hc:c<=800000) (hz:Sz p s c) (hr:r.length<=1000000) (hx:Okx x) (ht:tmB now=true) (hv:SlN (AO p m) w bv x.b) :
  Calls Tryz.prog 50 #[pv p.k,.string ⟨r.toArray⟩,.agg (crv x bv),.int .i64 now] w fun e w'=>∃v m',e=.returned (.tuple #[.string ⟨r.toArray⟩,v])/\SlN (Out w p m') w' v (furL p.P s r x now).2.2/\Tu w w' B p m m' (furS s r x) (c+2):=by
 obtain⟨cx,aS⟩:=Aj (crv x bv);rw[<-aS];obtain⟨W,eW⟩:=Aj (w.alloc (.cells cx 96));have X:Below w.heap.size w W:=eW▸Ag.alloc Af _;have Z:=I (show Blk W w.heap.size 96 cx from eW▸Blk.new w _ _);have M:=I (Tu.start h X);have NX:=I (h.fresh Af);have SB:=I (hv.below X);have aR:=I (Vc hv);have aX:=I (fun(w1:World) (hx:Blk w1 w.heap.size 96 cx)=>(show w1.rangeAt w.heap.size 4 (AX x.k).toList from Wh.Dk (pre:=[.string ⟨x.s.1.toArray⟩,.string ⟨x.s.2.toArray⟩,.int .i64 x.n,bv]) (post:=[.int .i64 x.e]) hx (by rw[aS];simp) 4 rfl));have bh:=I (fun(w1:World) (hx:Blk w1 w.heap.size 96 cx)=>(show w1.cell? ⟨w.heap.size,0,none⟩=some (.string ⟨x.s.1.toArray⟩)/\w1.cell? ⟨w.heap.size,1,none⟩=some (.string ⟨x.s.2.toArray⟩)/\w1.cell? ⟨w.heap.size,2,none⟩=some (.int .i64 x.n)/\w1.cell? ⟨w.heap.size,3,none⟩=some bv by
  rw[aS] at hx;exact⟨hx.cell 0,hx.cell 1,hx.cell 2,hx.cell 3⟩))
 have bH:=I (show(Tryz.prog.info? 30).map (·.size)=some (AX x.k).size by rw[AU];kernel_rfl);have C1:=I (fun(w1:World) (h1:Cl w1 B p m s c)=>new_y x.k h1);have C2:=I (fun(w1:World) (m1:CM) (z:Ss) (h1:Cl w1 B p m1 s (c+1)) (hy:m1.y=some z)=>Uk h1 hy (by omega) (by have:=hz.ss;omega) 7 ⟨p.P,now,0⟩ hz.pp.1);have C3:=I (fun(w1:World)=>Ln now w1 ht);have C4:=I (fun(w1:World) (m1:CM) (h1:Cl w1 B p m1 {s with s:=s.s+1} (c+2))=>Vb h1 (by have:=hz.nn;show s.n<1000000;omega));have C5:=I (fun(w1:World)=>Ca.DF r w1 (by omega));have aZ:=I (show s.vs.length<=1000000 by have:=hz.vs.1;omega);have bl:mSm (mTg (furQ p.P s x now)):=⟨⟨Mc.BT,Mc.BT⟩,⟨hx.1,hz.tg⟩,⟨Mc.BT,Mc.BT⟩,Mc.BT⟩;have C6:=I (fun(w1:World) (m1:CM) (z:Ss) (av:Value) (h1:Cl w1 B p m1 {s with s:=s.s+1,n:=s.n+1,vs:=s.vs++[r]} (c+2)) (hy:m1.y=some z) (hk:z.ks=x.k) (s1:SlN (AO p m1) w1 bv x.b) (s2:SlN (AO p m1) w1 av (furQ p.P s x now).a)=>
  Lp (r:=r) (cs:=Mc.mgA 2 Mc.zA (tgA (furQ p.P s x now) bv av) Mc.zR Mc.zP Mc.zF) (g:=mTg (furQ p.P s x now)) (no:=((s.n+1:Nat):Int)) (u:=8) (ob:=z.b) (ks:=x.k) (m':={m1 with ov:=pv z.b,x:=m1.y,y:=none}) (s':=furS s r x) h1 ⟨hz.sn.1,by have:=hz.sn.2;show s.sn<=1000000;omega⟩ (by omega) (fun w2 aP=>tg_mg (q:=furQ p.P s x now) (s1.keep aP (fun _ _ y=>y) (S':=AO p m1) (fun _ _ y=>y)) (s2.keep aP (fun _ _ y=>y) (S':=AO p m1) (fun _ _ y=>y))) bl (by rfl) (Mc.MgP.one (m:=mTg (furQ p.P s x now)) (w:=w1) (B:=w1.heap.size) ⟨Mc.zA_v,⟨bv,av,rfl,s1.sl,s2.sl⟩,Mc.zR_v _ _,Mc.zP_v _ _,Mc.zF_v⟩ 2)
   (fun wa wb bD aP bs=>bD.out_y hy (ou:=⟨((s.n+1:Nat):Int),x.k,8⟩) hk.symm aP bs))
 have EQ:=I (show(furL p.P s r x now).2.2=lO (mgO (mTg (furQ p.P s x now))) by simp only[furL]);rw[EQ.o];have EA:=I (show(furQ p.P s x now).a=seaL x.k 7 (s.s+1) ⟨p.P,now,0⟩ by simp only[furQ]);have EU:=I (show(furQ p.P s x now).u=Gk now by simp only[furQ]);have ET:=I (show(furQ p.P s x now).s=s.tg by simp only[furQ]);have EN:=I (show(furQ p.P s x now).no=((s.n+1:Nat):Int) by simp only[furQ]);have EK:=I (show(furQ p.P s x now).t=tkOf x by simp only[furQ]);have aC:=I (fun(A:Option Addr) (n cp:Nat)=>(show Tryz.prog.built 53 [(0,.agg #[.string ⟨x.s.1.toArray⟩,.string ⟨x.s.2.toArray⟩,.int .i64 x.n,bv]),(1,.slice A n cp),(2,.agg #[.string ⟨s.tg.1.toArray⟩,.string ⟨s.tg.2.toArray⟩]),(3,.int .i64 (Gk now)),(4,.int .i64 ((s.n+1:Nat):Int))]=some (tgA (furQ p.P s x now) bv (.slice A n cp)) from Uj (furQ p.P s x now) bv A n cp));obtain⟨Q,eQ⟩:=Aj (furQ p.P s x now);rw[<-eQ] at C6 EA EU ET EN EK aC⊢;clear eQ EQ;obtain⟨T,eT⟩:=Aj (Gk now);rw[<-eT] at C3 EU aC;obtain⟨NN,bf⟩:∃z:Int,z=((s.n+1:Nat):Int):=⟨_,rfl⟩;rw[<-bf] at EN aC C4;have bu:=I bf;clear h X hv hc hz hr hx ht aS bl eT bf;go_enter Tryz.func50,Tryz.ntmps50
 go_upto_region 1 with fail
 rw[<-eW];clear eW
 go_upto_region 3 with(first
  |(refine Wh.AG (by rfl) 30 (.tmp 14) (by rfl) w.heap.size 4 (by rfl) (AX x.k) _ (aX.o _ Z.o) Tryz.underlying30 (by rfl) bH.o ?_)
  |(go_at_call 41;refine Calls.mono (C1.o _ M.o.cl) ?_;rintro e w1 ⟨zb,rfl,hk⟩;clear C1 aX;have O:=hk.blk Z.o NX.o;replace NX:=I (hk.not NX.o Z.o.lt);replace Z:=I O;clear O;replace SB:=I (hk.sl SB.o);replace M:=I (M.o.trans hk);clear hk;have k0:w1.cell? ⟨p.k,0,none⟩=some (.string ⟨p.P.1.toArray⟩):=M.o.cl.blk.cell 0;have k1:w1.cell? ⟨p.k,1,none⟩=some (.string ⟨p.P.2.toArray⟩):=M.o.cl.blk.cell 1)
  |fail)
 obtain⟨z1,aV⟩:=Aj ((⟨zb,x.k,none,0,0,0⟩:Ss));have ba:=I (show z1.b=zb by rw[aV]);have bb:=I (show z1.ks=x.k by rw[aV]);rw[<-aV] at M NX SB;obtain⟨m1,aY⟩:=Aj ({m with y:=some z1});have HY:=I (show m1.y=some z1 by rw[aY]);rw[<-aY] at M NX SB;clear aV aY k0 k1;obtain⟨W2,aW⟩:=Aj (w1.alloc (.cells (anA ⟨p.P,now,0⟩) 68));have X:Below w1.heap.size w1 W2:=aW▸Ag.alloc Af _;have HA:=I (show Blk W2 w1.heap.size 68 (anA ⟨p.P,now,0⟩) from aW▸Blk.new w1 _ _);have NA:=I (M.o.cl.fresh (Nat.le_refl w1.heap.size));replace M:=I (M.o.below X);replace Z:=I (Z.o.below X);replace SB:=I (SB.o.below X);rw[<-aW];clear aW X;obtain⟨ga,bg⟩:=Aj (w1.heap.size);rw[<-bg] at HA NA⊢;clear bg
 go_cut [12] from 23 to 40 (fun tv wx=>∃(PT:Nat) (zz:Ss) (m2:CM) (av:Value),tv=.pointer (some ⟨PT,0,none⟩)/\m2.y=some zz/\zz.b=zb/\zz.ks=x.k/\Blk wx PT 53 (tgA Q bv av)/\¬AO p m2 PT/\SlN (AO p m2) wx bv x.b/\SlN (AO p m2) wx av Q.a/\Tu w wx B p m m2 {s with s:=s.s+1,n:=s.n+1} (c+2))
 case first=>
  have au:Below W2.heap.size W2 W2.drew:=below_drewN Ag 1;replace M:=I (M.o.below au);replace Z:=I (Z.o.below au);replace HA:=I (HA.o.below au);replace SB:=I (SB.o.below au);clear au;refine Reg.AW (fun w'=>Blk w' w.heap.size 96 cx/\Blk w' ga 68 (anA ⟨p.P,now,0⟩)/\w'.cell? ⟨p.k,10,none⟩=some (.string ⟨s.tg.1.toArray⟩)/\w'.cell? ⟨p.k,11,none⟩=some (.string ⟨s.tg.2.toArray⟩)) 20 rfl (by kernel_rfl) ⟨Z.o,HA.o,(M.o).cl.blk.cell 10,(M.o).cl.blk.cell 11⟩ ?_;refine Reg.ty 0 rfl ⟨Z.o,HA.o,(M.o).cl.blk.cell 10,(M.o).cl.blk.cell 11⟩ ?_;refine Reg.tw 1 rfl ⟨Z.o,HA.o,(M.o).cl.blk.cell 10,(M.o).cl.blk.cell 11⟩ (fun w' hS=>by obtain⟨hX,hA,aM,aN⟩:=hS;have q:=bh.o _ hX;obtain⟨q0,q1,q2,q3⟩:=q;go_simp<;>rfl) ?_;refine Reg.ty 2 rfl ⟨Z.o,HA.o,(M.o).cl.blk.cell 10,(M.o).cl.blk.cell 11⟩ ?_;refine Reg.ty 3 rfl ⟨Z.o,HA.o,(M.o).cl.blk.cell 10,(M.o).cl.blk.cell 11⟩ ?_;refine Reg.tw 4 (v:=.agg (anA ⟨p.P,now,0⟩)) rfl ⟨Z.o,HA.o,(M.o).cl.blk.cell 10,(M.o).cl.blk.cell 11⟩ (fun w' hS=>by obtain⟨hX,hA,aM,aN⟩:=hS;have a0:=hA.cell 0;have a1:=hA.cell 1;have a2:=hA.cell 2;have a3:=hA.cell 3;go_simp<;>rfl) ?_;refine Reg.ty 6 rfl ⟨Z.o,HA.o,(M.o).cl.blk.cell 10,(M.o).cl.blk.cell 11⟩ ?_;refine Reg.ty 7 rfl ⟨Z.o,HA.o,(M.o).cl.blk.cell 10,(M.o).cl.blk.cell 11⟩ ?_;refine Reg.ty 8 rfl ⟨Z.o,HA.o,(M.o).cl.blk.cell 10,(M.o).cl.blk.cell 11⟩ ?_;refine Reg.ty 9 rfl ⟨Z.o,HA.o,(M.o).cl.blk.cell 10,(M.o).cl.blk.cell 11⟩ ?_;refine Reg.tw 10 (v:=.agg #[.string ⟨s.tg.1.toArray⟩,.string ⟨s.tg.2.toArray⟩]) rfl ⟨Z.o,HA.o,(M.o).cl.blk.cell 10,(M.o).cl.blk.cell 11⟩ (fun w' hS=>by obtain⟨hX,hA,aM,aN⟩:=hS;go_simp<;>rfl) ?_;refine Reg.ty 11 rfl ⟨Z.o,HA.o,(M.o).cl.blk.cell 10,(M.o).cl.blk.cell 11⟩ ?_;refine Reg.ty 13 rfl ⟨Z.o,HA.o,(M.o).cl.blk.cell 10,(M.o).cl.blk.cell 11⟩ ?_;refine Reg.ty 14 rfl ⟨Z.o,HA.o,(M.o).cl.blk.cell 10,(M.o).cl.blk.cell 11⟩ ?_;refine Reg.ty 15 rfl ⟨Z.o,HA.o,(M.o).cl.blk.cell 10,(M.o).cl.blk.cell 11⟩ ?_;refine Reg.b2 5 18 ?_ ?_
  ·right
   refine⟨_,_,_,_,_,_,87,#[pv p.k,pv zb,.int .i64 7,.agg (anA ⟨p.P,now,0⟩)],rfl,by rfl,(by go_simp<;>first | rfl | exact⟨rfl,rfl⟩),?_⟩;refine Calls.mono (by have:=C2.o _ _ _ M.o.cl HY.o;rw[ba.o,bb.o] at this;exact this) ?_;rintro e Y ⟨AA,nA,cA,zz,rfl,aH,ay,hs,hk⟩;have O:=hk.blk Z.o NX.o;replace NX:=I (hk.not NX.o Z.o.lt);replace Z:=I O;clear O;have O:=hk.blk HA.o NA.o;replace NA:=I (hk.not NA.o HA.o.lt);replace HA:=I O;clear O;replace SB:=I (hk.sl SB.o);replace M:=I (M.o.trans hk);have aK:=I aH;have aL:=I ay;have SA:=I (JD hs);clear hk;clear C2 aH ay hs;refine⟨_,rfl,⟨Z.o,HA.o,(M.o).cl.blk.cell 10,(M.o).cl.blk.cell 11⟩,?_⟩;simp only[Act.put,J,U,Aa];refine Reg.b2 12 18 ?_ ?_
   ·right
    refine⟨_,_,_,_,_,_,51,#[.int .i64 now],rfl,by rfl,(by go_simp<;>first | rfl | exact⟨rfl,rfl⟩),?_⟩;refine Ah (C3.o _) ?_;rintro bJ hw;subst hw;clear C3;refine⟨_,rfl,⟨Z.o,HA.o,(M.o).cl.blk.cell 10,(M.o).cl.blk.cell 11⟩,?_⟩;simp only[Act.put,J,U,Aa];refine Reg.b2 16 18 ?_ ?_
    ·right
     refine⟨_,_,_,_,_,_,52,#[.pointer (some ⟨p.k,4,none⟩)],rfl,by rfl,(by go_simp<;>first | rfl | exact⟨rfl,rfl⟩),?_⟩;refine Ah (C4.o _ _ M.o.cl) ?_;rintro ad hk;have O:=hk.blk Z.o NX.o;replace NX:=I (hk.not NX.o Z.o.lt);replace Z:=I O;clear O;have O:=hk.blk HA.o NA.o;replace NA:=I (hk.not NA.o HA.o.lt);replace HA:=I O;clear O;replace SB:=I (hk.sl SB.o);replace SA:=I (hk.sl SA.o);replace M:=I (M.o.trans hk);clear hk;clear C4;refine⟨_,rfl,⟨Z.o,HA.o,(M.o).cl.blk.cell 10,(M.o).cl.blk.cell 11⟩,?_⟩;simp only[Act.put,J,U,Aa];refine Reg.tw 17 (v:=.agg (tgA Q bv (.slice AA nA cA))) rfl ⟨Z.o,HA.o,(M.o).cl.blk.cell 10,(M.o).cl.blk.cell 11⟩ (fun w' hS=>by obtain⟨hX,hA,aM,aN⟩:=hS;refine BP (t:=53) (by rfl) (by simp only[List.map_toArray,List.map_cons,List.map_nil];exact aC.o _ _ _)) ?_;refine Reg.b1 18 ?_
     left
     have X:Below ad.heap.size ad (ad.alloc (.cells #[.string ⟨#[]⟩,.string ⟨#[]⟩,.int .i64 0,.slice none 0 0,.slice none 0 0,.string ⟨#[]⟩,.string ⟨#[]⟩,.int .i64 0,.int .i64 0] 53)):=Ag.alloc Af _;have O:=Blk.new ad 53 #[.string ⟨#[]⟩,.string ⟨#[]⟩,.int .i64 0,.slice none 0 0,.slice none 0 0,.string ⟨#[]⟩,.string ⟨#[]⟩,.int .i64 0,.int .i64 0];have LT:=I M.o.size;have NT:=I (M.o.cl.fresh (Nat.le_refl ad.heap.size));have ab:=I (Nat.ne_of_lt Z.o.lt);have ae:=I (Nat.ne_of_lt HA.o.lt);replace SB:=I (SlT.up SB.o (Nat.le_refl ad.heap.size));replace SA:=I (SlT.up SA.o (Nat.le_refl ad.heap.size));refine⟨_,_,_,_,_,_,.pointer (some ⟨ad.heap.size,0,none⟩),ad.alloc (.cells #[.string ⟨#[]⟩,.string ⟨#[]⟩,.int .i64 0,.slice none 0 0,.slice none 0 0,.string ⟨#[]⟩,.string ⟨#[]⟩,.int .i64 0,.int .i64 0] 53),rfl,by rfl,(by go_simp<;>rfl),⟨(Z.o.below X),(HA.o.below X),((M.o.below X)).cl.blk.cell 10,((M.o.below X)).cl.blk.cell 11⟩,?_⟩;simp only[Act.put,J,U,Aa];obtain⟨bp,aI⟩:=Aj (ad.alloc (.cells #[.string ⟨#[]⟩,.string ⟨#[]⟩,.int .i64 0,.slice none 0 0,.slice none 0 0,.string ⟨#[]⟩,.string ⟨#[]⟩,.int .i64 0,.int .i64 0] 53));rw[<-aI] at X O⊢;clear aI;replace M:=I (M.o.below X);replace Z:=I (Z.o.below X);replace HA:=I (HA.o.below X);replace SB:=I (SB.o.below X);replace SA:=I (SA.o.below X);have HT:=I O;clear O X;obtain⟨PT,an⟩:=Aj (ad.heap.size);rw[<-an] at HT LT NT ab ae SB SA⊢;clear an;refine Reg.AP 19 rfl (by kernel_rfl) (by rfl) PT 53 _ (tgA Q bv (.slice AA nA cA)) HT.o (by rfl) (by rfl) (by rfl) BO (Nz _ aR.o rfl) ?_;intro bB hV hg;replace HT:=I hV;replace M:=I (M.o.over LT.o NT.o hg);replace Z:=I (Z.o.grown hg (fun e=>by injection e with e;exact ab.o e.symm));replace HA:=I (HA.o.grown hg (fun e=>by injection e with e;exact ae.o e.symm));replace SB:=I (SlT.over SB.o hg);replace SA:=I (SlT.over SA.o hg);clear hV hg ab ae;refine⟨⟨Z.o,HA.o,(M.o).cl.blk.cell 10,(M.o).cl.blk.cell 11⟩,?_⟩;simp only[Act.put,J,U,Aa];refine wpAnyH_done (by kernel_rfl) ?_ _
     go_wp2_with fail
     go_meet
     exact⟨PT,zz,_,_,rfl,rfl,aK.o,aL.o,HT.o,NT.o,SB.o,(by rw[EA.o];exact SA.o),M.o⟩
    ·left
     have X:Below Y.heap.size Y (Y.alloc (.cells #[.string ⟨#[]⟩,.string ⟨#[]⟩,.int .i64 0,.slice none 0 0,.slice none 0 0,.string ⟨#[]⟩,.string ⟨#[]⟩,.int .i64 0,.int .i64 0] 53)):=Ag.alloc Af _;have O:=Blk.new Y 53 #[.string ⟨#[]⟩,.string ⟨#[]⟩,.int .i64 0,.slice none 0 0,.slice none 0 0,.string ⟨#[]⟩,.string ⟨#[]⟩,.int .i64 0,.int .i64 0];have LT:=I M.o.size;have NT:=I (M.o.cl.fresh (Nat.le_refl Y.heap.size));have ab:=I (Nat.ne_of_lt Z.o.lt);have ae:=I (Nat.ne_of_lt HA.o.lt);replace SB:=I (SlT.up SB.o (Nat.le_refl Y.heap.size));replace SA:=I (SlT.up SA.o (Nat.le_refl Y.heap.size));refine⟨_,_,_,_,_,_,.pointer (some ⟨Y.heap.size,0,none⟩),Y.alloc (.cells #[.string ⟨#[]⟩,.string ⟨#[]⟩,.int .i64 0,.slice none 0 0,.slice none 0 0,.string ⟨#[]⟩,.string ⟨#[]⟩,.int .i64 0,.int .i64 0] 53),rfl,by rfl,(by go_simp<;>rfl),⟨(Z.o.below X),(HA.o.below X),((M.o.below X)).cl.blk.cell 10,((M.o.below X)).cl.blk.cell 11⟩,?_⟩;simp only[Act.put,J,U,Aa];obtain⟨br,aJ⟩:=Aj (Y.alloc (.cells #[.string ⟨#[]⟩,.string ⟨#[]⟩,.int .i64 0,.slice none 0 0,.slice none 0 0,.string ⟨#[]⟩,.string ⟨#[]⟩,.int .i64 0,.int .i64 0] 53));rw[<-aJ] at X O⊢;clear aJ;replace M:=I (M.o.below X);replace Z:=I (Z.o.below X);replace HA:=I (HA.o.below X);replace SB:=I (SB.o.below X);replace SA:=I (SA.o.below X);have HT:=I O;clear O X;obtain⟨PT,an⟩:=Aj (Y.heap.size);rw[<-an] at HT LT NT ab ae SB SA⊢;clear an;refine Reg.b1 16 ?_
     right
     refine⟨_,_,_,_,_,_,52,#[.pointer (some ⟨p.k,4,none⟩)],rfl,by rfl,(by go_simp<;>first | rfl | exact⟨rfl,rfl⟩),?_⟩;refine Ah (C4.o _ _ M.o.cl) ?_;rintro bx hk;have O:=hk.blk Z.o NX.o;replace NX:=I (hk.not NX.o Z.o.lt);replace Z:=I O;clear O;have O:=hk.blk HA.o NA.o;replace NA:=I (hk.not NA.o HA.o.lt);replace HA:=I O;clear O;have O:=hk.blk HT.o NT.o;replace NT:=I (hk.not NT.o HT.o.lt);replace HT:=I O;clear O;replace SB:=I (SB.o.kn hk);replace SA:=I (SA.o.kn hk);replace M:=I (M.o.trans hk);clear hk;clear C4;refine⟨_,rfl,⟨Z.o,HA.o,(M.o).cl.blk.cell 10,(M.o).cl.blk.cell 11⟩,?_⟩;simp only[Act.put,J,U,Aa];refine Reg.tw 17 (v:=.agg (tgA Q bv (.slice AA nA cA))) rfl ⟨Z.o,HA.o,(M.o).cl.blk.cell 10,(M.o).cl.blk.cell 11⟩ (fun w' hS=>by obtain⟨hX,hA,aM,aN⟩:=hS;refine BP (t:=53) (by rfl) (by simp only[List.map_toArray,List.map_cons,List.map_nil];exact aC.o _ _ _)) ?_;refine Reg.AP 19 rfl (by kernel_rfl) (by rfl) PT 53 _ (tgA Q bv (.slice AA nA cA)) HT.o (by rfl) (by rfl) (by rfl) BO (Nz _ aR.o rfl) ?_;intro bE hV hg;replace HT:=I hV;replace M:=I (M.o.over LT.o NT.o hg);replace Z:=I (Z.o.grown hg (fun e=>by injection e with e;exact ab.o e.symm));replace HA:=I (HA.o.grown hg (fun e=>by injection e with e;exact ae.o e.symm));replace SB:=I (SlT.over SB.o hg);replace SA:=I (SlT.over SA.o hg);clear hV hg ab ae;refine⟨⟨Z.o,HA.o,(M.o).cl.blk.cell 10,(M.o).cl.blk.cell 11⟩,?_⟩;simp only[Act.put,J,U,Aa];refine wpAnyH_done (by kernel_rfl) ?_ _
     go_wp2_with fail
     go_meet
     exact⟨PT,zz,_,_,rfl,rfl,aK.o,aL.o,HT.o,NT.o,SB.o,(by rw[EA.o];exact SA.o),M.o⟩
   ·left
    have X:Below Y.heap.size Y (Y.alloc (.cells #[.string ⟨#[]⟩,.string ⟨#[]⟩,.int .i64 0,.slice none 0 0,.slice none 0 0,.string ⟨#[]⟩,.string ⟨#[]⟩,.int .i64 0,.int .i64 0] 53)):=Ag.alloc Af _;have O:=Blk.new Y 53 #[.string ⟨#[]⟩,.string ⟨#[]⟩,.int .i64 0,.slice none 0 0,.slice none 0 0,.string ⟨#[]⟩,.string ⟨#[]⟩,.int .i64 0,.int .i64 0];have LT:=I M.o.size;have NT:=I (M.o.cl.fresh (Nat.le_refl Y.heap.size));have ab:=I (Nat.ne_of_lt Z.o.lt);have ae:=I (Nat.ne_of_lt HA.o.lt);replace SB:=I (SlT.up SB.o (Nat.le_refl Y.heap.size));replace SA:=I (SlT.up SA.o (Nat.le_refl Y.heap.size));refine⟨_,_,_,_,_,_,.pointer (some ⟨Y.heap.size,0,none⟩),Y.alloc (.cells #[.string ⟨#[]⟩,.string ⟨#[]⟩,.int .i64 0,.slice none 0 0,.slice none 0 0,.string ⟨#[]⟩,.string ⟨#[]⟩,.int .i64 0,.int .i64 0] 53),rfl,by rfl,(by go_simp<;>rfl),⟨(Z.o.below X),(HA.o.below X),((M.o.below X)).cl.blk.cell 10,((M.o.below X)).cl.blk.cell 11⟩,?_⟩;simp only[Act.put,J,U,Aa];obtain⟨bq,aD⟩:=Aj (Y.alloc (.cells #[.string ⟨#[]⟩,.string ⟨#[]⟩,.int .i64 0,.slice none 0 0,.slice none 0 0,.string ⟨#[]⟩,.string ⟨#[]⟩,.int .i64 0,.int .i64 0] 53));rw[<-aD] at X O⊢;clear aD;replace M:=I (M.o.below X);replace Z:=I (Z.o.below X);replace HA:=I (HA.o.below X);replace SB:=I (SB.o.below X);replace SA:=I (SA.o.below X);have HT:=I O;clear O X;obtain⟨PT,an⟩:=Aj (Y.heap.size);rw[<-an] at HT LT NT ab ae SB SA⊢;clear an;refine Reg.b1 12 ?_
    right
    refine⟨_,_,_,_,_,_,51,#[.int .i64 now],rfl,by rfl,(by go_simp<;>first | rfl | exact⟨rfl,rfl⟩),?_⟩;refine Ah (C3.o _) ?_;rintro bF hw;subst hw;clear C3;refine⟨_,rfl,⟨Z.o,HA.o,(M.o).cl.blk.cell 10,(M.o).cl.blk.cell 11⟩,?_⟩;simp only[Act.put,J,U,Aa];refine Reg.b1 16 ?_
    right
    refine⟨_,_,_,_,_,_,52,#[.pointer (some ⟨p.k,4,none⟩)],rfl,by rfl,(by go_simp<;>first | rfl | exact⟨rfl,rfl⟩),?_⟩;refine Ah (C4.o _ _ M.o.cl) ?_;rintro bG hk;have O:=hk.blk Z.o NX.o;replace NX:=I (hk.not NX.o Z.o.lt);replace Z:=I O;clear O;have O:=hk.blk HA.o NA.o;replace NA:=I (hk.not NA.o HA.o.lt);replace HA:=I O;clear O;have O:=hk.blk HT.o NT.o;replace NT:=I (hk.not NT.o HT.o.lt);replace HT:=I O;clear O;replace SB:=I (SB.o.kn hk);replace SA:=I (SA.o.kn hk);replace M:=I (M.o.trans hk);clear hk;clear C4;refine⟨_,rfl,⟨Z.o,HA.o,(M.o).cl.blk.cell 10,(M.o).cl.blk.cell 11⟩,?_⟩;simp only[Act.put,J,U,Aa];refine Reg.tw 17 (v:=.agg (tgA Q bv (.slice AA nA cA))) rfl ⟨Z.o,HA.o,(M.o).cl.blk.cell 10,(M.o).cl.blk.cell 11⟩ (fun w' hS=>by obtain⟨hX,hA,aM,aN⟩:=hS;refine BP (t:=53) (by rfl) (by simp only[List.map_toArray,List.map_cons,List.map_nil];exact aC.o _ _ _)) ?_;refine Reg.AP 19 rfl (by kernel_rfl) (by rfl) PT 53 _ (tgA Q bv (.slice AA nA cA)) HT.o (by rfl) (by rfl) (by rfl) BO (Nz _ aR.o rfl) ?_;intro bI hV hg;replace HT:=I hV;replace M:=I (M.o.over LT.o NT.o hg);replace Z:=I (Z.o.grown hg (fun e=>by injection e with e;exact ab.o e.symm));replace HA:=I (HA.o.grown hg (fun e=>by injection e with e;exact ae.o e.symm));replace SB:=I (SlT.over SB.o hg);replace SA:=I (SlT.over SA.o hg);clear hV hg ab ae;refine⟨⟨Z.o,HA.o,(M.o).cl.blk.cell 10,(M.o).cl.blk.cell 11⟩,?_⟩;simp only[Act.put,J,U,Aa];refine wpAnyH_done (by kernel_rfl) ?_ _
    go_wp2_with fail
    go_meet
    exact⟨PT,zz,_,_,rfl,rfl,aK.o,aL.o,HT.o,NT.o,SB.o,(by rw[EA.o];exact SA.o),M.o⟩
  ·left
   have X:Below W2.drew.heap.size W2.drew (W2.drew.alloc (.cells #[.string ⟨#[]⟩,.string ⟨#[]⟩,.int .i64 0,.slice none 0 0,.slice none 0 0,.string ⟨#[]⟩,.string ⟨#[]⟩,.int .i64 0,.int .i64 0] 53)):=Ag.alloc Af _;have O:=Blk.new W2.drew 53 #[.string ⟨#[]⟩,.string ⟨#[]⟩,.int .i64 0,.slice none 0 0,.slice none 0 0,.string ⟨#[]⟩,.string ⟨#[]⟩,.int .i64 0,.int .i64 0];have LT:=I M.o.size;have NT:=I (M.o.cl.fresh (Nat.le_refl W2.drew.heap.size));have ab:=I (Nat.ne_of_lt Z.o.lt);have ae:=I (Nat.ne_of_lt HA.o.lt);replace SB:=I (SlT.up SB.o (Nat.le_refl W2.drew.heap.size));refine⟨_,_,_,_,_,_,.pointer (some ⟨W2.drew.heap.size,0,none⟩),W2.drew.alloc (.cells #[.string ⟨#[]⟩,.string ⟨#[]⟩,.int .i64 0,.slice none 0 0,.slice none 0 0,.string ⟨#[]⟩,.string ⟨#[]⟩,.int .i64 0,.int .i64 0] 53),rfl,by rfl,(by go_simp<;>rfl),⟨(Z.o.below X),(HA.o.below X),((M.o.below X)).cl.blk.cell 10,((M.o.below X)).cl.blk.cell 11⟩,?_⟩;simp only[Act.put,J,U,Aa];obtain⟨bo,aA⟩:=Aj (W2.drew.alloc (.cells #[.string ⟨#[]⟩,.string ⟨#[]⟩,.int .i64 0,.slice none 0 0,.slice none 0 0,.string ⟨#[]⟩,.string ⟨#[]⟩,.int .i64 0,.int .i64 0] 53));rw[<-aA] at X O⊢;clear aA;replace M:=I (M.o.below X);replace Z:=I (Z.o.below X);replace HA:=I (HA.o.below X);replace SB:=I (SB.o.below X);have HT:=I O;clear O X;obtain⟨PT,an⟩:=Aj (W2.drew.heap.size);rw[<-an] at HT LT NT ab ae SB⊢;clear an;refine Reg.b1 5 ?_;have bw:=I HT.o.lt
   right
   refine⟨_,_,_,_,_,_,87,#[pv p.k,pv zb,.int .i64 7,.agg (anA ⟨p.P,now,0⟩)],rfl,by rfl,(by go_simp<;>first | rfl | exact⟨rfl,rfl⟩),?_⟩;refine Calls.mono (by have:=C2.o _ _ _ M.o.cl HY.o;rw[ba.o,bb.o] at this;exact this) ?_;rintro e bz ⟨AA,nA,cA,zz,rfl,aH,ay,hs,hk⟩;have O:=hk.blk Z.o NX.o;replace NX:=I (hk.not NX.o Z.o.lt);replace Z:=I O;clear O;have O:=hk.blk HA.o NA.o;replace NA:=I (hk.not NA.o HA.o.lt);replace HA:=I O;clear O;have O:=hk.blk HT.o NT.o;replace NT:=I (hk.not NT.o HT.o.lt);replace HT:=I O;clear O;replace SB:=I (SB.o.kn hk);replace M:=I (M.o.trans hk);have aK:=I aH;have aL:=I ay;have SA:=I (SlT.of_out hs bw.o);clear hk;clear C2 aH ay hs;refine⟨_,rfl,⟨Z.o,HA.o,(M.o).cl.blk.cell 10,(M.o).cl.blk.cell 11⟩,?_⟩;simp only[Act.put,J,U,Aa];refine Reg.b1 12 ?_
   right
   refine⟨_,_,_,_,_,_,51,#[.int .i64 now],rfl,by rfl,(by go_simp<;>first | rfl | exact⟨rfl,rfl⟩),?_⟩;refine Ah (C3.o _) ?_;rintro bA hw;subst hw;clear C3;refine⟨_,rfl,⟨Z.o,HA.o,(M.o).cl.blk.cell 10,(M.o).cl.blk.cell 11⟩,?_⟩;simp only[Act.put,J,U,Aa];refine Reg.b1 16 ?_
   right
   refine⟨_,_,_,_,_,_,52,#[.pointer (some ⟨p.k,4,none⟩)],rfl,by rfl,(by go_simp<;>first | rfl | exact⟨rfl,rfl⟩),?_⟩;refine Ah (C4.o _ _ M.o.cl) ?_;rintro bK hk;have O:=hk.blk Z.o NX.o;replace NX:=I (hk.not NX.o Z.o.lt);replace Z:=I O;clear O;have O:=hk.blk HA.o NA.o;replace NA:=I (hk.not NA.o HA.o.lt);replace HA:=I O;clear O;have O:=hk.blk HT.o NT.o;replace NT:=I (hk.not NT.o HT.o.lt);replace HT:=I O;clear O;replace SB:=I (SB.o.kn hk);replace SA:=I (SA.o.kn hk);replace M:=I (M.o.trans hk);clear hk;clear C4;refine⟨_,rfl,⟨Z.o,HA.o,(M.o).cl.blk.cell 10,(M.o).cl.blk.cell 11⟩,?_⟩;simp only[Act.put,J,U,Aa];refine Reg.tw 17 (v:=.agg (tgA Q bv (.slice AA nA cA))) rfl ⟨Z.o,HA.o,(M.o).cl.blk.cell 10,(M.o).cl.blk.cell 11⟩ (fun w' hS=>by obtain⟨hX,hA,aM,aN⟩:=hS;refine BP (t:=53) (by rfl) (by simp only[List.map_toArray,List.map_cons,List.map_nil];exact aC.o _ _ _)) ?_;refine Reg.AP 19 rfl (by kernel_rfl) (by rfl) PT 53 _ (tgA Q bv (.slice AA nA cA)) HT.o (by rfl) (by rfl) (by rfl) BO (Nz _ aR.o rfl) ?_;intro bC hV hg;replace HT:=I hV;replace M:=I (M.o.over LT.o NT.o hg);replace Z:=I (Z.o.grown hg (fun e=>by injection e with e;exact ab.o e.symm));replace HA:=I (HA.o.grown hg (fun e=>by injection e with e;exact ae.o e.symm));replace SB:=I (SlT.over SB.o hg);replace SA:=I (SlT.over SA.o hg);clear hV hg ab ae;refine⟨⟨Z.o,HA.o,(M.o).cl.blk.cell 10,(M.o).cl.blk.cell 11⟩,?_⟩;simp only[Act.put,J,U,Aa];refine wpAnyH_done (by kernel_rfl) ?_ _
   go_wp2_with fail
   go_meet
   exact⟨PT,zz,_,_,rfl,rfl,aK.o,aL.o,HT.o,NT.o,SB.o,(by rw[EA.o];exact SA.o),M.o⟩
 case rest=>
  obtain⟨PT,zz,m2,av,rfl,hy,aH,ay,ht,hn,s1,s2,hk⟩:=hcut;have HT:=I ht;have NT:=I hn;have SB:=I s1;have SA:=I s2;have M:=I hk;have aO:=I hy;have aK:=I aH;have aL:=I ay;clear ht hn s1 s2 hk hy aH ay C2 C3 C4 Z NX HA NA bh HY ba bb aC
  go_upto_region 4 with fail
  go_cut [] from 41 to 53 (fun wx=>∃(m3:CM),m3.y=some zz/\Blk wx PT 53 (tgA Q bv av)/\¬AO p m3 PT/\SlN (AO p m3) wx bv x.b/\SlN (AO p m3) wx av Q.a/\Tu w wx B p m m3 {s with s:=s.s+1,n:=s.n+1,vs:=s.vs++[r]} (c+2))
  case first=>
   have au:Below wc.heap.size wc wc.drew:=below_drewN Ag 1;replace M:=I (M.o.below au);replace HT:=I (HT.o.below au);replace SB:=I (SB.o.below au);replace SA:=I (SA.o.below au);clear au;refine Reg.AW (fun w'=>True) 14 rfl (by kernel_rfl) trivial ?_;refine Reg.ty 0 rfl trivial ?_;refine Reg.ty 1 rfl trivial ?_;refine Reg.ty 2 rfl trivial ?_;refine Reg.ty 3 rfl trivial ?_;refine Reg.ty 4 rfl trivial ?_;refine Reg.ty 6 rfl trivial ?_;refine Reg.b2 5 7 ?_ ?_
   ·left
    have ao:wc.drew.cell? ⟨p.k,12,none⟩=some m2.vv:=M.o.cl.blk.cell 12;refine⟨_,_,_,_,_,_,m2.vv,wc.drew,rfl,by rfl,(by go_simp<;>rfl),trivial,?_⟩;simp only[Act.put,J,U,Aa];clear ao;refine Reg.b1 7 ?_
    right
    refine⟨_,_,_,_,_,_,47,#[.string ⟨r.toArray⟩],rfl,by rfl,(by go_simp<;>first | rfl | exact⟨rfl,rfl⟩),?_⟩;refine Ah (C5.o _) ?_;rintro af X;replace M:=I (M.o.below X);replace HT:=I (HT.o.below X);replace SB:=I (SB.o.below X);replace SA:=I (SA.o.below X);clear X;clear C5;refine⟨_,rfl,trivial,?_⟩;simp only[Act.put,J,U,Aa];refine Reg.b1 8 ?_
    left
    have X:Below af.heap.size af (af.alloc (.cells #[.string ⟨r.toArray⟩] 9)):=Ag.alloc Af _;have O:=Blk.new af 9 #[.string ⟨r.toArray⟩];refine⟨_,_,_,_,_,_,.slice (some ⟨af.heap.size,0,none⟩) 1 1,af.alloc (.cells #[.string ⟨r.toArray⟩] 9),rfl,by rfl,(by go_simp<;>rfl),trivial,?_⟩;simp only[Act.put,J,U,Aa];obtain⟨aQ,aE⟩:=Aj (af.alloc (.cells #[.string ⟨r.toArray⟩] 9));rw[<-aE] at X O⊢;clear aE;replace M:=I (M.o.below X);replace HT:=I (HT.o.below X);replace SB:=I (SB.o.below X);replace SA:=I (SA.o.below X);have HU:=I O;clear O X;obtain⟨PU,aB⟩:=Aj (af.heap.size);rw[<-aB] at HU⊢;clear aB;refine Reg.b1 9 ?_
    left
    obtain⟨v9,ak,ah,al,ar,aG⟩:=RL aQ B m2.vv s.vs M.o.cl.vis r PU (HU.o.cell 0) HU.o.lt aZ.o M.o.cl.pa.hB;obtain⟨A9,c9,e9,_⟩:=al.slice;obtain⟨n9,aF⟩:=Aj ((s.vs++[r]).length);rw[<-aF] at e9;subst e9;refine⟨_,_,_,_,_,_,.slice A9 n9 c9,ak,rfl,by rfl,by(simp only[execOp,resolve,invoke,builtin,Sem.run_bind,Sem.run_pure,Result.andThen_ok,List.map_toArray,List.map_cons,List.map_nil,Act.eval];refine(congrArg (fun r=>Result.andThen r _) ah).trans ?_;rfl),trivial,?_⟩;simp only[Act.put,J,U,Aa];have hk:=M.o.cl.append al ar aG;have ag:Blk ak p.k 88 _:=(ar.block p.k M.o.cl.blk.lt (fun e=>M.o.cl.not (i:=3) (i':=0) (j:=p.k) e.symm (by decide) rfl)).trans M.o.cl.blk;have ao:ak.cell? ⟨p.k,12,none⟩=some m2.vv:=ag.cell 12;have fz:=ag.frozen;clear ah al ar aG aF;have O:=hk.blk HT.o NT.o;replace NT:=I (hk.not NT.o HT.o.lt);replace HT:=I O;clear O;replace SB:=I (hk.sl SB.o);replace SA:=I (hk.sl SA.o);replace M:=I (M.o.trans hk);clear hk ag;refine Reg.ty 10 rfl trivial ?_;refine Reg.ty 11 rfl trivial ?_;refine Reg.ty 12 rfl trivial ?_;refine Reg.Dq 13 (ak.setCell ⟨p.k,12,none⟩ (.slice A9 n9 c9)) rfl (by kernel_rfl) (by rfl) (by go_simp) trivial ?_;simp only[Act.put,J,U,Aa];clear ao fz;refine wpAnyH_done (by kernel_rfl) ?_ _
    go_wp2_with fail
    go_meet
    exact⟨{m2 with vv:=.slice A9 n9 c9},aO.o,HT.o,NT.o,SB.o,SA.o,M.o⟩
   ·right
    refine⟨_,_,_,_,_,_,47,#[.string ⟨r.toArray⟩],rfl,by rfl,(by go_simp<;>first | rfl | exact⟨rfl,rfl⟩),?_⟩;refine Ah (C5.o _) ?_;rintro aa X;replace M:=I (M.o.below X);replace HT:=I (HT.o.below X);replace SB:=I (SB.o.below X);replace SA:=I (SA.o.below X);clear X;clear C5;refine⟨_,rfl,trivial,?_⟩;simp only[Act.put,J,U,Aa];refine Reg.b2 5 8 ?_ ?_
    ·left
     have ao:aa.cell? ⟨p.k,12,none⟩=some m2.vv:=M.o.cl.blk.cell 12;refine⟨_,_,_,_,_,_,m2.vv,aa,rfl,by rfl,(by go_simp<;>rfl),trivial,?_⟩;simp only[Act.put,J,U,Aa];clear ao;refine Reg.b1 8 ?_
     left
     have X:Below aa.heap.size aa (aa.alloc (.cells #[.string ⟨r.toArray⟩] 9)):=Ag.alloc Af _;have O:=Blk.new aa 9 #[.string ⟨r.toArray⟩];refine⟨_,_,_,_,_,_,.slice (some ⟨aa.heap.size,0,none⟩) 1 1,aa.alloc (.cells #[.string ⟨r.toArray⟩] 9),rfl,by rfl,(by go_simp<;>rfl),trivial,?_⟩;simp only[Act.put,J,U,Aa];obtain⟨aT,az⟩:=Aj (aa.alloc (.cells #[.string ⟨r.toArray⟩] 9));rw[<-az] at X O⊢;clear az;replace M:=I (M.o.below X);replace HT:=I (HT.o.below X);replace SB:=I (SB.o.below X);replace SA:=I (SA.o.below X);have HU:=I O;clear O X;obtain⟨PU,aB⟩:=Aj (aa.heap.size);rw[<-aB] at HU⊢;clear aB;refine Reg.b1 9 ?_
     left
     obtain⟨v9,aj,ah,al,ar,aG⟩:=RL aT B m2.vv s.vs M.o.cl.vis r PU (HU.o.cell 0) HU.o.lt aZ.o M.o.cl.pa.hB;obtain⟨A9,c9,e9,_⟩:=al.slice;obtain⟨n9,aF⟩:=Aj ((s.vs++[r]).length);rw[<-aF] at e9;subst e9;refine⟨_,_,_,_,_,_,.slice A9 n9 c9,aj,rfl,by rfl,by(simp only[execOp,resolve,invoke,builtin,Sem.run_bind,Sem.run_pure,Result.andThen_ok,List.map_toArray,List.map_cons,List.map_nil,Act.eval];refine(congrArg (fun r=>Result.andThen r _) ah).trans ?_;rfl),trivial,?_⟩;simp only[Act.put,J,U,Aa];have hk:=M.o.cl.append al ar aG;have ag:Blk aj p.k 88 _:=(ar.block p.k M.o.cl.blk.lt (fun e=>M.o.cl.not (i:=3) (i':=0) (j:=p.k) e.symm (by decide) rfl)).trans M.o.cl.blk;have ao:aj.cell? ⟨p.k,12,none⟩=some m2.vv:=ag.cell 12;have fz:=ag.frozen;clear ah al ar aG aF;have O:=hk.blk HT.o NT.o;replace NT:=I (hk.not NT.o HT.o.lt);replace HT:=I O;clear O;replace SB:=I (hk.sl SB.o);replace SA:=I (hk.sl SA.o);replace M:=I (M.o.trans hk);clear hk ag;refine Reg.ty 10 rfl trivial ?_;refine Reg.ty 11 rfl trivial ?_;refine Reg.ty 12 rfl trivial ?_;refine Reg.Dq 13 (aj.setCell ⟨p.k,12,none⟩ (.slice A9 n9 c9)) rfl (by kernel_rfl) (by rfl) (by go_simp) trivial ?_;simp only[Act.put,J,U,Aa];clear ao fz;refine wpAnyH_done (by kernel_rfl) ?_ _
     go_wp2_with fail
     go_meet
     exact⟨{m2 with vv:=.slice A9 n9 c9},aO.o,HT.o,NT.o,SB.o,SA.o,M.o⟩
    ·left
     have X:Below aa.heap.size aa (aa.alloc (.cells #[.string ⟨r.toArray⟩] 9)):=Ag.alloc Af _;have O:=Blk.new aa 9 #[.string ⟨r.toArray⟩];refine⟨_,_,_,_,_,_,.slice (some ⟨aa.heap.size,0,none⟩) 1 1,aa.alloc (.cells #[.string ⟨r.toArray⟩] 9),rfl,by rfl,(by go_simp<;>rfl),trivial,?_⟩;simp only[Act.put,J,U,Aa];obtain⟨aw,ax⟩:=Aj (aa.alloc (.cells #[.string ⟨r.toArray⟩] 9));rw[<-ax] at X O⊢;clear ax;replace M:=I (M.o.below X);replace HT:=I (HT.o.below X);replace SB:=I (SB.o.below X);replace SA:=I (SA.o.below X);have HU:=I O;clear O X;obtain⟨PU,aB⟩:=Aj (aa.heap.size);rw[<-aB] at HU⊢;clear aB;refine Reg.b1 5 ?_
     left
     have ao:aw.cell? ⟨p.k,12,none⟩=some m2.vv:=M.o.cl.blk.cell 12;refine⟨_,_,_,_,_,_,m2.vv,aw,rfl,by rfl,(by go_simp<;>rfl),trivial,?_⟩;simp only[Act.put,J,U,Aa];clear ao;refine Reg.b1 9 ?_
     left
     obtain⟨v9,ai,ah,al,ar,aG⟩:=RL aw B m2.vv s.vs M.o.cl.vis r PU (HU.o.cell 0) HU.o.lt aZ.o M.o.cl.pa.hB;obtain⟨A9,c9,e9,_⟩:=al.slice;obtain⟨n9,aF⟩:=Aj ((s.vs++[r]).length);rw[<-aF] at e9;subst e9;refine⟨_,_,_,_,_,_,.slice A9 n9 c9,ai,rfl,by rfl,by(simp only[execOp,resolve,invoke,builtin,Sem.run_bind,Sem.run_pure,Result.andThen_ok,List.map_toArray,List.map_cons,List.map_nil,Act.eval];refine(congrArg (fun r=>Result.andThen r _) ah).trans ?_;rfl),trivial,?_⟩;simp only[Act.put,J,U,Aa];have hk:=M.o.cl.append al ar aG;have ag:Blk ai p.k 88 _:=(ar.block p.k M.o.cl.blk.lt (fun e=>M.o.cl.not (i:=3) (i':=0) (j:=p.k) e.symm (by decide) rfl)).trans M.o.cl.blk;have ao:ai.cell? ⟨p.k,12,none⟩=some m2.vv:=ag.cell 12;have fz:=ag.frozen;clear ah al ar aG aF;have O:=hk.blk HT.o NT.o;replace NT:=I (hk.not NT.o HT.o.lt);replace HT:=I O;clear O;replace SB:=I (hk.sl SB.o);replace SA:=I (hk.sl SA.o);replace M:=I (M.o.trans hk);clear hk ag;refine Reg.ty 10 rfl trivial ?_;refine Reg.ty 11 rfl trivial ?_;refine Reg.ty 12 rfl trivial ?_;refine Reg.Dq 13 (ai.setCell ⟨p.k,12,none⟩ (.slice A9 n9 c9)) rfl (by kernel_rfl) (by rfl) (by go_simp) trivial ?_;simp only[Act.put,J,U,Aa];clear ao fz;refine wpAnyH_done (by kernel_rfl) ?_ _
     go_wp2_with fail
     go_meet
     exact⟨{m2 with vv:=.slice A9 n9 c9},aO.o,HT.o,NT.o,SB.o,SA.o,M.o⟩
  case rest=>
   obtain⟨m3,hy,ht,hn,s1,s2,hk⟩:=hcut;replace HT:=I ht;replace SB:=I s1;replace SA:=I s2;replace M:=I hk;replace aO:=I hy;clear ht hn s1 s2 hk hy C5 NT;have bm:=I (show(Tryz.prog.info? 53).map (·.size)=some (tgA Q bv av).size from BO);have k8:wc.cell? ⟨PT,8,none⟩=some (.int .i64 NN):=by rw[<-EN.o];exact HT.o.cell 8
   have bd:=I (RK Q bv av);obtain⟨ct,bn⟩:=Aj (tgA Q bv av);obtain⟨cm,bj⟩:=Aj (Mc.mgA 2 Mc.zA (tgA Q bv av) Mc.zR Mc.zP Mc.zF);replace C6:=I (fun(w1:World) (m1:CM) (z:Ss)=>C6.o w1 m1 z av);rw[<-bj] at C6 bd;rw[<-bn] at HT bm bd;clear bn bj
   go_upto_region 6 with fail
   obtain⟨W5,aU⟩:=Aj (wc.alloc (.cells (ouA NN zb 8) 84));have X:Below wc.heap.size wc W5:=aU▸Ag.alloc Af _;have HO:=I (show Blk W5 wc.heap.size 84 (ouA NN zb 8) from aU▸Blk.new wc _ _);replace HT:=I (HT.o.below X);replace SB:=I (SB.o.below X);replace SA:=I (SA.o.below X);replace M:=I (M.o.below X);rw[<-aU];clear aU X k8;have o0:=HO.c0;have o1:=HO.c1;have o2:=HO.c2;have c6:=C6.o W5 m3 zz M.o.cl aO.o aL.o SB.o SA.o;rw[aK.o,<-bu.o] at c6;clear C6
   go_wp2_with (first
    |(refine Wh.AG (by rfl) 53 (.tmp 12) (by rfl) PT 0 (by rfl) ct _ (Wh.Ac HT.o) Tryz.underlying53 (by rfl) bm.o ?_)
    |(refine Mc.Ay (by rfl) 61 #[(0,.const (.int .i64 2)),(2,.tmp 60)] (by rfl) cm (by simp only[List.map_toArray,List.map_cons,List.map_nil];exact bd.o) ?_)
    |(go_at_call 53;refine Calls.mono c6 ?_;rintro e w6 ⟨v,rfl,hs,hk⟩;clear c6 o0 o1 o2;have HV:=I (Out.old M.o.size hs);replace M:=I (M.o.trans hk);clear hs hk)
    |fail)
   go_ret2
   exact⟨v,_,rfl,HV.o,M.o⟩
end
end Cl
end Go.Proofs.YtlccngianpfalaaGreat
