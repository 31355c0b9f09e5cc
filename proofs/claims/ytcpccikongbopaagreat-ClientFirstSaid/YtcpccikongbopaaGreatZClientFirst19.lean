import Derived.Test.YtcpccikongbopaaGreatZClientFirst18
set_option maxHeartbeats 25600000
set_option maxRecDepth 100000
set_option linter.unusedVariables false
set_option linter.unusedSimpArgs false
namespace Go.Proofs.YtcpccikongbopaaGreat
namespace Rt
open Nm
abbrev Pr:=L×L
structure Pa where
 f:L
 t:L
 v:List L
structure Tp where
 R:List L
 K:List Pr
 P:List Pa
def kl (K:List Pr) (i:Nat):Pr:=K.getD i ([],[])
section
variable {α:Type}
end
end Rt
namespace Kd
open Ad Se
open Nm (krb L)
open Rg (It)
open Ms (Pr Tk Pt An Rp As Tg Re Ap Fa Mg rpB anB asB tgB tmB rpE anE mgE mgO mgD rpO anO pr0 tk0 re0 as0 tg0 ap0 fa0 key0)
open SeL (BR Ck)
open Rt (Tp)
def kr (R x:L):Pr:=(R,krb++x)
end Kd
namespace Kd
open Ad Se Ms
open Nm (krb L)
open Rg (It)
open DerP (elem encI)
open SeL (BR Ck)
theorem JL {p:L} {n:Int} {u:Int} {ks:Nat->UInt8} (F:p.length<=784) (M:0<=n) (E:n<=1099511627776) (hu:0<=u) (D:u<=255):BR ks u n p=(Dg ks u.toNat n.toNat p,0):=by
 rw[BR,if_pos ⟨hu,D,M,E,F⟩]
theorem Ik {p:L} {n:Int} {u:Int} {ks:Nat->UInt8} (F:p.length<=784) (O:0<=n) (E:n<=1099511627776) (hu:0<=u) (D:u<=255):Ck ks u (BR ks u n p).1=(p,0):=by
 rw[JL F O E hu D,Ck,if_pos ⟨hu,D⟩];have X:=Sc ks u.toNat n.toNat p (by omega) F;have M:=Sd ks u.toNat n.toNat p (by omega);simp only;rw[if_pos X,M]
theorem QR {a:An} (E:anB a=true):(anE a).length<=500:=by
 have D:prB a.c=true/\tmB a.t=true/\tmB a.q=true:=by simpa [anB] using E
 have l1:=(AP D.1).1;have l4:=AB a.t;have l5:=AB a.q;have M:=Ax 98 [prE a.c,encI a.t,encI a.q].flatten;have F:[prE a.c,encI a.t,encI a.q].flatten.length=(prE a.c).length+((encI a.t).length+(encI a.q).length):=by simp
 rw[anE];omega
theorem LU {p:Rp} (hk:p.ss.length=32) (E:rpB p=true):(rpE p).length<=500:=by
 have D:prB p.s=true/\tmB p.st=true/\tmB p.en=true/\tmB p.no=true:=by simpa [rpB] using E
 have l1:=(AP D.1).1;have l2:=Ax 4 p.ss;have l4:=AB p.st;have l5:=AB p.en;have M:=AB p.no;have O:=Ax 122 [elem 4 p.ss,prE p.s,encI p.st,encI p.en,encI p.no].flatten;have F:[elem 4 p.ss,prE p.s,encI p.st,encI p.en,encI p.no].flatten.length=(elem 4 p.ss).length+((prE p.s).length+((encI p.st).length+((encI p.en).length+(encI p.no).length))):=by simp
 rw[rpE];omega
theorem VR {p:An} (D:anB p=true):anO p=some (anE p):=by rw[anO,limO,if_pos ⟨D,by have:=QR D;omega⟩]
theorem LV {p:Rp} (hk:p.ss.length=32) (D:rpB p=true):rpO p=some (rpE p):=by rw[rpO,limO,if_pos ⟨D,by have:=LU hk D;omega⟩]
theorem VS {p:Rp} (hk:p.ss.length=32) (D:rpB p=true):rpD (rpE p)=some p:=by rw[rpD,KZ D hk];rw[if_pos (LV hk D)]
def lO (o:Option L):L:=o.getD []
end Kd
namespace Cl
open Go.RowKit Ad Se
open Nm (L krb BM tgL tgR AM Dn Gw)
open Ms (Pr tmB inB pSm mSm anO mgO An Mg EncR)
open Rg (prV)
open SeL (BR Ck Ns)
theorem Cp (n:Int) (w:World):Calls Tryz.prog 28 #[.int .i64 n] w fun e w'=>e=.returned (.bool (tmB n))/\w=w':=by
 by_cases h1:0<=n
 ·by_cases h2:n<=1073741824
  ·have D:decide ((0:Int)<=n)=true:=decide_eq_true h1
   have F:decide (n<=1073741824)=true:=decide_eq_true h2;have E:=I (show tmB n=true by simp [tmB,inB,h1,h2]);rw[E.o];clear h1 h2;go_enter Tryz.func28,Tryz.ntmps28
   go_wp2
   go_ret;exact⟨rfl,rfl⟩
  ·have D:decide ((0:Int)<=n)=true:=decide_eq_true h1
   have F:decide (n<=1073741824)=false:=decide_eq_false h2;have E:=I (show tmB n=false by simp [tmB,inB,h1,h2]);rw[E.o];clear h1 h2;go_enter Tryz.func28,Tryz.ntmps28
   go_wp2
   go_ret;exact⟨rfl,rfl⟩
 ·have D:decide ((0:Int)<=n)=false:=decide_eq_false h1
  have E:=I (show tmB n=false by simp [tmB,inB,h1]);rw[E.o];clear h1;go_enter Tryz.func28,Tryz.ntmps28
  go_wp2
  go_ret;exact⟨rfl,rfl⟩
theorem GS (p:Pr) (w:World) (hs:pSm p):Calls Tryz.prog 27 #[prV p] w fun e w'=>e=.returned (.bool (Jt p))/\Below w.heap.size w w':=by
 obtain⟨W,X⟩:=Ah (w.alloc (.cells #[.string ⟨p.1.toArray⟩,.string ⟨p.2.toArray⟩] 36));have F:=I (show Below w.heap.size w W from X▸Af.alloc Ae _);have M:=I (show Blk W w.heap.size 36 #[.string ⟨p.1.toArray⟩,.string ⟨p.2.toArray⟩] from X▸Blk.new w _ _);have Y:=I (fun O=>Dn p.2 O hs.2);have Z:=I (fun O=>AM p.1 p.2 O hs.1 hs.2);have E:=I (show Jt p=(BM p.1 p.2 && !tgL p.2) from rfl);obtain⟨b1,e1⟩:=Ah (tgL p.2);obtain⟨b2,e2⟩:=Ah (BM p.1 p.2);obtain⟨q,eq⟩:=Ah (Jt p);rw[<-e1] at Y E;rw[<-e2] at Z E;rw[<-eq] at E⊢;clear hs e1 e2 eq;cases b1
 ·go_enter Tryz.func27,Tryz.ntmps27
  go_upto_region 1 with fail
  rw[<-X];clear X;have k1:=M.o.cell 1
  go_wp2_with (first
   |(go_at_call 57;refine Ag (Y.o _) ?_;rintro O D;clear Y k1;replace M:=I (M.o.below D);replace F:=F.t D;have k0:O.cell? ⟨w.heap.size,0,none⟩=some (.string ⟨p.1.toArray⟩):=M.o.cell 0;have k1:O.cell? ⟨w.heap.size,1,none⟩=some (.string ⟨p.2.toArray⟩):=M.o.cell 1;clear D)
   |(go_at_call 58;refine Ag (Z.o _) ?_;rintro w2 D;clear Z k0 k1;replace F:=F.t D;clear D)
   |fail)
  go_ret;exact⟨by rw[E.o];cases b2<;>rfl,F.o⟩
 ·go_enter Tryz.func27,Tryz.ntmps27
  go_upto_region 1 with fail
  rw[<-X];clear X;have k1:=M.o.cell 1
  go_wp2_with (first
   |(go_at_call 57;refine Ag (Y.o _) ?_;rintro O D;clear Y k1;replace M:=I (M.o.below D);replace F:=F.t D;clear D)
   |fail)
  go_ret;exact⟨by rw[E.o];cases b2<;>rfl,F.o⟩
theorem KK (now:Int) (w:World) (h:tmB now=true):Calls Tryz.prog 62 #[.int .i64 now] w fun e w'=>e=.returned (.int .i64 (GH now))/\w=w':=by
 have D:0<=now/\now<=1073741824:=by simpa [tmB,inB] using h
 have s1:IntKind.i64.wrap (now+1000)=now+1000:=by rw[IntKind.wrap_i64];omega
 have E:=I (show min (now+1000) 1073741824=GH now from rfl);clear h D;go_enter Tryz.func62,Tryz.ntmps62
 go_wp2
 go_ret;exact⟨by rw[<-E.o];first | rfl | simp,rfl⟩
theorem MS (p:Pr) (w:World) (h1:p.1.length<=140737488351232) (h2:p.2.length<=140737488351232):Calls Tryz.prog 29 #[prV p] w fun e w'=>e=.returned (prV p)/\Below w.heap.size w w':=by
 have C1:=I (fun O=>Ca.Dq p.1 O h1);have C2:=I (fun O=>Ca.Dq p.2 O h2);go_enter Tryz.func29,Tryz.ntmps29
 go_upto_region 1 with fail
 obtain⟨W,Z⟩:=Ah ((w.alloc (.cells #[.string ⟨p.1.toArray⟩,.string ⟨p.2.toArray⟩] 36)).alloc (.cells #[.string ⟨#[]⟩,.string ⟨#[]⟩] 36));have hq:=Blk.new (w.alloc (.cells #[.string ⟨p.1.toArray⟩,.string ⟨p.2.toArray⟩] 36)) 36 #[.string ⟨#[]⟩,.string ⟨#[]⟩];rw[show(w.alloc (.cells #[.string ⟨p.1.toArray⟩,.string ⟨p.2.toArray⟩] 36)).heap.size=w.heap.size+1 by simp,<-Z] at hq;have E:=I (show Blk W w.heap.size 36 #[.string ⟨p.1.toArray⟩,.string ⟨p.2.toArray⟩] by rw[Z];exact(Blk.new _ _ _).alloc _);have D:=I hq;have M:=I (show Below w.heap.size w W by rw[Z];exact(Af.alloc Ae _).alloc (by simp) _);rw[<-Z];clear Z hq;replace E:=I (show Blk W.drew _ _ _ from E.o.drewN 1);replace D:=I (show Blk W.drew _ _ _ from D.o.drewN 1);replace M:=I (show Below _ _ W.drew from below_drewN M.o 1)
 go_region_held3 (fun w'=>w'.cell? ⟨w.heap.size,0,none⟩=some (.string ⟨p.1.toArray⟩)/\w'.cell? ⟨w.heap.size,1,none⟩=some (.string ⟨p.2.toArray⟩)) (first | exact⟨E.o.cell 0,E.o.cell 1⟩ | exact⟨(Si.Blk.far (Si.Blk.far E.o _ _ (by simp)) _ _ (by simp)).cell 0,(Si.Blk.far (Si.Blk.far E.o _ _ (by simp)) _ _ (by simp)).cell 1⟩) ((first
  |(go_at_call 59;(with_reducible refine Calls.mono (C1.o _) ?_);rintro e O ⟨rfl,F⟩;clear C1;replace E:=I (E.o.below F);replace D:=I (D.o.below F);replace M:=M.t F;have Y:O.cell? ⟨w.heap.size+1,0,none⟩=some (.string ⟨#[]⟩):=D.o.cell 0;have X:O.cell? ⟨w.heap.size+1,1,none⟩=some (.string ⟨#[]⟩):=D.o.cell 1;have fz:=D.o.frozen;clear F)
  |(go_at_call 59;(with_reducible refine Calls.mono (C2.o _) ?_);rintro e w2 ⟨rfl,F⟩;clear C2 Y X fz;replace E:=I (E.o.below F);replace D:=I (D.o.below F);replace M:=M.t F;have Y:w2.cell? ⟨w.heap.size+1,0,none⟩=some (.string ⟨#[]⟩):=D.o.cell 0;have X:w2.cell? ⟨w.heap.size+1,1,none⟩=some (.string ⟨#[]⟩):=D.o.cell 1;have fz:=D.o.frozen;clear F)))
 go_wp2
 have hz:=(D.o.set 0 (.string ⟨p.1.toArray⟩)).set 1 (.string ⟨p.2.toArray⟩);rw[show(((#[.string ⟨#[]⟩,.string ⟨#[]⟩]:Array Value).setIfInBounds 0 (.string ⟨p.1.toArray⟩)).setIfInBounds 1 (.string ⟨p.2.toArray⟩))=#[.string ⟨p.1.toArray⟩,.string ⟨p.2.toArray⟩] from rfl] at hz;refine bodyPost_ret (v:=prV p) ?_ ?_ ?_
 ·exact Wh.Aj (v:=prV p) 2 36 ⟨w.heap.size+1,0,none⟩ Tryz.results29 (by rfl) (Wh.Am hz Tryz.underlying36 (by rfl) Rg.AY)
 ·rfl
 ·exact⟨rfl,Si.AS (Si.AS M.o (by simp) _) (by simp) _⟩
theorem Iz (w:World) (g o:Nat) (u:Value):Chg (fun j=>j=g) w (w.setCell ⟨g,o,none⟩ u):=(Chg.refl (fun j=>j=g) w).set (p:=⟨g,o,none⟩) (.inl rfl) u
theorem KL (g o n:Nat) (w:World) (D:n<1000000) (M:w.cell? ⟨g,o,none⟩=some (.int .i64 (n:Int))) (O:w.frozen? ⟨g,o,none⟩=false) :
  Calls Tryz.prog 49 #[.pointer (some ⟨g,o,none⟩)] w fun e w'=>e=.returned (.int .i64 ((n+1:Nat):Int))/\w'=w.setCell ⟨g,o,none⟩ (.int .i64 ((n+1:Nat):Int)):=by
 have c1:=add_one ⟨g,o,none⟩ n w D M O;obtain⟨N,E⟩:∃N:Int,N=((n+1:Nat):Int):=⟨_,rfl⟩;rw[<-E] at c1⊢;obtain⟨W,F⟩:=Ah (w.setCell ⟨g,o,none⟩ (.int .i64 N));rw[<-F] at c1⊢;clear M O E D F;go_enter Tryz.func49,Tryz.ntmps49
 go_wp2_with (go_at_call 91;refine Ag c1 ?_;rintro X hw;subst hw;clear c1)
 go_ret;exact⟨rfl,rfl⟩
section
variable {w w':World} {B:Nat} {p:CP} {m:CM} {s:St} {c:Nat}
theorem Cl.put_n (h:Cl w B p m s c) (n:Nat):Tu w (w.setCell ⟨p.k,4,none⟩ (.int .i64 (n:Int))) B p m m {s with n:=n} c:=
 h.cell (m':=m) (Iz w p.k 4 _) (by have:=h.blk.set 4 (.int .i64 (n:Int));simpa using this) rfl rfl h.ou
theorem Cl.put_s (h:Cl w B p m s c) (n:Nat):Tu w (w.setCell ⟨p.k,5,none⟩ (.int .i64 (n:Int))) B p m m {s with s:=n} c:=
 h.cell (m':=m) (Iz w p.k 5 _) (by have:=h.blk.set 5 (.int .i64 (n:Int));simpa using this) rfl rfl h.ou
theorem Ul (h:Cl w B p m s c) (D:s.n<1000000):Calls Tryz.prog 49 #[.pointer (some ⟨p.k,4,none⟩)] w fun e w'=>e=.returned (.int .i64 ((s.n+1:Nat):Int))/\Tu w w' B p m m {s with n:=s.n+1} c:=
 (KL p.k 4 s.n w D (h.blk.cell 4) (h.blk.frozen 4)).mono (by rintro e w' ⟨rfl,rfl⟩;exact⟨rfl,h.put_n _⟩)
theorem XJ (h:Cl w B p m s c) (D:s.s<1000000):Calls Tryz.prog 49 #[.pointer (some ⟨p.k,5,none⟩)] w fun e w'=>e=.returned (.int .i64 ((s.s+1:Nat):Int))/\Tu w w' B p m m {s with s:=s.s+1} c:=
 (KL p.k 5 s.s w D (h.blk.cell 5) (h.blk.frozen 5)).mono (by rintro e w' ⟨rfl,rfl⟩;exact⟨rfl,h.put_s _⟩)
theorem LF (k:Nat) (P:Pr) (w:World) (hs:P.1.length<=1000000) (Z:∀w',Below w.heap.size w w'->w'.cell? ⟨k,0,none⟩=some (.string ⟨P.1.toArray⟩)) (hk:k<w.heap.size) :
  Calls Tryz.prog 60 #[.pointer (some ⟨k,0,none⟩)] w fun e w'=>e=.returned (prV (own P))/\Below w.heap.size w w':=by
 have X:=I (fun Y=>Gw P.1 Y (by omega));have HN:=I (show k≠w.heap.size by omega);obtain⟨W,M⟩:=Ah (w.alloc (.cells #[.string ⟨#[]⟩,.string ⟨#[]⟩] 36));have hb:Below w.heap.size w W:=M▸Af.alloc Ae _;have D:=I (show Blk W.drew w.heap.size 36 #[.string ⟨#[]⟩,.string ⟨#[]⟩] from M▸Blk.new w _ _);have O:=I (show Below w.heap.size w W.drew from below_drewN hb 1);have F:=I Z;have E:=I (show own P=(P.1,krb++P.1) from rfl);obtain⟨q,eq⟩:=Ah (krb++P.1);rw[<-eq] at X E;rw[E.o];clear Z hk hs hb eq E;go_enter Tryz.func60,Tryz.ntmps60
 go_upto_region 1 with fail
 rw[<-M];clear M;have ad:W.cell? ⟨w.heap.size,0,none⟩=some (.string ⟨#[]⟩):=D.o.cell 0;have ae:W.cell? ⟨w.heap.size,1,none⟩=some (.string ⟨#[]⟩):=D.o.cell 1;have fw:∀i,W.frozen? ⟨w.heap.size,i,none⟩=false:=D.o.frozen;have ab:W.drew.cell? ⟨w.heap.size,0,none⟩=some (.string ⟨#[]⟩):=D.o.cell 0;have aa:W.drew.cell? ⟨w.heap.size,1,none⟩=some (.string ⟨#[]⟩):=D.o.cell 1;have fz:=D.o.frozen
 go_region_held3 (fun w'=>w'.cell? ⟨k,0,none⟩=some (.string ⟨P.1.toArray⟩)) (first | exact F.o _ O.o | exact F.o _ (Si.AS (Si.AS O.o Ae _) Ae _)) ((go_at_call 100;(with_reducible refine Calls.mono (X.o _) ?_);rintro e Y ⟨rfl,hw⟩;subst hw;clear X))
 go_wp2
 have hz:=(D.o.set 0 (.string ⟨P.1.toArray⟩)).set 1 (.string ⟨q.toArray⟩);rw[show(((#[.string ⟨#[]⟩,.string ⟨#[]⟩]:Array Value).setIfInBounds 0 (.string ⟨P.1.toArray⟩)).setIfInBounds 1 (.string ⟨q.toArray⟩))=#[.string ⟨P.1.toArray⟩,.string ⟨q.toArray⟩] from rfl] at hz;refine bodyPost_ret (v:=prV (P.1,q)) ?_ ?_ ?_
 ·exact Wh.Aj (v:=prV (P.1,q)) 2 36 ⟨w.heap.size,0,none⟩ Tryz.results60 (by rfl) (Wh.Am hz Tryz.underlying36 (by rfl) Rg.AY)
 ·rfl
 ·exact⟨rfl,Si.AS (Si.AS O.o Ae _) Ae _⟩
theorem XK (h:Cl w B p m s c) (hs:p.P.1.length<=1000000):Calls Tryz.prog 60 #[pv p.k] w fun e w'=>e=.returned (prV (own p.P))/\Below w.heap.size w w':=
 LF p.k p.P w hs (fun w' D=>(h.below D).blk.cell 0) h.blk.lt
def oI:Option L->Int
 |none=>1
 |some _=>0
theorem MT {o:Option L} {e:Ending} (h:EncR w o e w'):∃v,e=.returned (.tuple #[v,.int .i64 (oI o)])/\SlN (fun j=>j<w.heap.size) w' v (lO o)/\Below w.heap.size w w':=by
 obtain⟨⟨v,i,rfl,X,M⟩,F⟩:=h;cases o with
 |none=>
  obtain⟨rfl,rfl⟩:=X rfl;exact⟨_,rfl,⟨none,0,rfl,Nat.le_refl _,.inl rfl⟩,F⟩
 |some l=>
  obtain⟨rfl,g,c,rfl,h3,Y,D⟩:=M l rfl;refine⟨_,rfl,⟨_,c,rfl,Y,?_⟩,F⟩;rcases D with D | ⟨b,o,E,Z,O⟩
  ·exact .inl D
  ·injection E with E
   injection E with e1 e2 _;subst e1 e2;exact .inr ⟨_,_,rfl,Z,by omega,O⟩
theorem To (cs:Array Value) (g:Mg) (w:World) (h:Mc.MgV w w.heap.size cs g) (hs:mSm g) (Y:cs.size=30) (ho:cs.all (·.oneCell')=true) :
  Calls Tryz.prog 52 #[.agg cs] w fun e w'=>∃v,e=.returned v/\SlN (fun j=>j<w.heap.size) w' v (lO (mgO g))/\Below w.heap.size w w':=by
 obtain⟨W,E⟩:=Ah (w.alloc (.cells cs 63));have D:Below w.heap.size w W:=E▸Af.alloc Ae _;have X:=I (show Blk W w.heap.size 63 cs from E▸Blk.new w _ _);have Z:=I (show(Tryz.prog.info? 63).map (·.size)=some cs.size by rw[Y];exact Mc.AQ);have M:=I (Mc.QP cs g W (Mc.MgV.more (Mc.MgV.keep h D) D.size) hs);obtain⟨o,O⟩:=Ah (mgO g);rw[<-O] at M⊢;have F:=I D;clear h hs Y ho O D;go_enter Tryz.func52,Tryz.ntmps52
 go_upto_region 1 with fail
 rw[<-E];clear E
 go_wp2_with (first
  |(refine Wh.Az (by rfl) 63 (.tmp 1) (by rfl) w.heap.size 0 (by rfl) cs _ (Wh.Ab X.o) Tryz.underlying63 (by rfl) Z.o ?_)
  |(go_at_call 66;refine Calls.mono M.o ?_;rintro e w1 he;obtain⟨v,rfl,hs,D⟩:=MT he;clear M he;have HS:=I hs;replace F:=F.t D;clear hs D)
  |fail)
 go_ret;exact⟨v,rfl,HS.o.mono (fun j _ x=>by have:=X.o.lt;omega),F.o⟩
theorem XL {N:Nat} (h:N<=1000000):(Lit.int .i64 ((N:Nat):Int)).wf=true:=by
 simp [Lit.wf,IntKind.min,IntKind.max,IntKind.signed,IntKind.bits];omega
theorem Tq {z:Ss} (h:Cl w B p m s c) (F:m.y=some z) (hc:c<1000000) (u:Int) (N:Nat) (hN:N<=1000000) (v:Value) (l:L) (hl:l.length<=2000) (hv:SlN (AO p m) w v l) :
  Calls Tryz.prog 93 #[pv z.b,.int .i64 u,.int .i64 (N:Int),v] w fun e w'=>∃v2 er z',e=.returned (.tuple #[v2,.int .i64 er])/\z'.b=z.b/\z'.ks=z.ks/\SlN (Out w p {m with y:=some z'}) w' v2 (BR z.ks u (N:Int) l).1/\Tu w w' B p m {m with y:=some z'} s (c+1):=by
 obtain⟨A,cp,rfl,aa,hr⟩:=hv;have hx:=h.sy z F;have O:∀j,Ow z.b z.h j->AO p m j:=fun j D=>⟨5,z,F,D⟩
 refine(SeL.Sg z.b z.ks z.h z.a z.o z.r u (N:Int) A l.length cp l w (by omega) (XL hN) rfl (by unfold maxLen;omega) (hr.mono fun j _ D=>O j D) hx.1).mono ?_;rintro e1 Z ⟨A2,c2,X,M,rfl,h1,h2,h3,h4,Y,h6⟩;have hT:Tu w Z B p m {m with y:=some ⟨z.b,z.ks,X,M,z.o,z.r⟩} s (c+1):=by
  refine h.use_y (Y.1.mono fun j _ x=>⟨z,F,x⟩) (fun q E=>?_) (fun j D=>?_)
  ·injection E with E
   subst E;exact⟨h4,by show M<=c+1;omega,by show z.o<=c+1;omega,by show z.r<=c+1;omega⟩
  ·obtain⟨q,E,D⟩:=D
   injection E with E;subst E;exact(Hp Y D).imp (fun x=>⟨z,F,x⟩) id
 refine⟨_,_,⟨z.b,z.ks,X,M,z.o,z.r⟩,rfl,rfl,rfl,⟨A2,c2,rfl,h1,h3.mono fun j _ D=>?_⟩,hT⟩;rcases D with D | ⟨i,D⟩
 ·exact .inl D
 ·match i,D with
  |0,D=>exact .inl (h.lt ⟨0,D⟩)
  |1,D=>exact .inl (h.lt ⟨1,D⟩)
  |2,D=>exact .inl (h.lt ⟨2,D⟩)
  |3,D=>exact .inl (h.lt ⟨3,D⟩)
  |4,D=>exact .inl (h.lt ⟨4,D⟩)
  |5,D=>
   obtain⟨q,E,D⟩:=D;injection E with E;subst E;exact .inr D
end
section
variable {w w':World} {B:Nat} {p:CP} {m:CM} {s:St} {c:Nat}
abbrev anA (a:An):Array Value:=#[.string ⟨a.c.1.toArray⟩,.string ⟨a.c.2.toArray⟩,.int .i64 a.t,.int .i64 a.q]
theorem QS {z:Ss} (h:Cl w B p m s c) (hz:m.y=some z) (hc:c<900000) (hn:s.s<900000) (u:Int) (a:An) (hs:pSm a.c) :
  Calls Tryz.prog 50 #[pv p.k,pv z.b,.int .i64 u,.agg (anA a)] w fun e w'=>∃v M,e=.returned v/\M.b=z.b/\M.ks=z.ks/\SlN (Out w p {m with y:=some M}) w' v (seaL z.ks u (s.s+1) a)/\Tu w w' B p m {m with y:=some M} {s with s:=s.s+1} (c+1):=by
 obtain⟨W,Z⟩:=Ah (w.alloc (.cells (anA a) 73));have F:Below w.heap.size w W:=Z▸Af.alloc Ae _;have HP:=I (show Blk W w.heap.size 73 (anA a) from Z▸Blk.new w _ _);have D:=I (Tu.start h F);have C1:=I (Mc.KJ a W hs);have C2:=I (fun(X:World) (O:Cl X B p m s c)=>XJ O (by omega));have hl:(lO (anO a)).length<=2000:=by
  cases e:anO a with
  |none=>exact Nat.zero_le _
  |some b=>exact(Ms.BA.1 e).2.2▸(Ms.BA.1 e).2.1
 have Y:=I (fun(X:World) (v:Value) (O:Cl X B p m {s with s:=s.s+1} c) (hv:SlN (AO p m) X v (lO (anO a)))=>Tq O hz (by omega) u (s.s+1) (by omega) v _ hl hv);have E:=I (show seaL z.ks u (s.s+1) a=(BR z.ks u ((s.s+1:Nat):Int) (lO (anO a))).1 from rfl);obtain⟨r,er⟩:=Ah (seaL z.ks u (s.s+1) a);rw[<-er] at E⊢;rw[<-E.o] at Y;obtain⟨o,eo⟩:=Ah (anO a);rw[<-eo] at C1 Y;obtain⟨N,eN⟩:∃N:Int,N=((s.s+1:Nat):Int):=⟨_,rfl⟩;rw[<-eN] at C2 Y;have HX:=I (show w.heap.size<=W.heap.size from F.size);clear h F hs hl eo E er hc hn eN;go_enter Tryz.func50,Tryz.ntmps50
 go_upto_region 1 with fail
 rw[<-Z];clear Z;have k0:W.cell? ⟨w.heap.size,0,none⟩=some (.string ⟨a.c.1.toArray⟩):=HP.o.cell 0;have k1:W.cell? ⟨w.heap.size,1,none⟩=some (.string ⟨a.c.2.toArray⟩):=HP.o.cell 1;have k2:W.cell? ⟨w.heap.size,2,none⟩=some (.int .i64 a.t):=HP.o.cell 2;have k3:W.cell? ⟨w.heap.size,3,none⟩=some (.int .i64 a.q):=HP.o.cell 3
 go_wp2_with (first
  |(go_at_call 92;refine Calls.mono C1.o ?_;rintro e X he;obtain⟨v,rfl,hs,F⟩:=MT he;clear C1 he k0 k1 k2 k3;have HS:=I (D.o.made hs);replace D:=I (D.o.below F);clear hs F)
  |(go_at_call 49;refine Ag (C2.o _ D.o.cl) ?_;rintro w2 hk;clear C2;replace HS:=I (hk.sl HS.o);replace D:=I (D.o.trans hk);clear hk)
  |(go_at_call 93;refine Calls.mono (Y.o _ _ D.o.cl HS.o) ?_;rintro e w3 ⟨v2,er,M,rfl,O,h2,hs,hk⟩;clear Y;have ad:=I O;have aa:=I h2;have ab:=I (Out.old D.o.size hs);replace D:=I (D.o.trans hk);clear hs hk O h2)
  |fail)
 go_ret;exact⟨v2,M,rfl,ad.o,aa.o,ab.o,D.o⟩
end
end Cl
namespace Cl
open Go.RowKit Ad Se
open Nm (L)
open Ms (Pr)
theorem IA {P:Program} {a:Act} {w':World} {o:Oper} {g off:Nat} {ty:TypeId} {cs:Array Value} {d:TypeDesc} (x:Operand) (F:o.op=.load ty x) (E:a.eval x=.pointer (some ⟨g,off,none⟩)) (h:w'.rangeAt g off cs.toList) (hu:P.underlying ty=some d) (O:d.isRow=true) (M:(P.info? ty).map (·.size)=some cs.size) :
  (execOp a.eval o).run P w'=.ok (.value (.agg cs)) w':=by
 have D:=run_loadVar_mid (P:=P) w' g off ty cs.toList d h hu O (by simpa using M);simp only[Array.toArray_toList] at D;unfold execOp;simp only[F,E,Instr.loadAt,Instr.sureAddr,Sem.run_bind,Sem.run_pure,Result.andThen_ok,D]
theorem Cd {P:Program} {a:Act} {w':World} {o:Oper} {t:TypeId} {parts:Array (Nat×Operand)} (D:o.op=.build t parts) {cells:Array Value} (h:P.built t (parts.map fun x=>(x.1,a.eval x.2)).toList=some cells) :
  (execOp a.eval o).run P w'=.ok (.value (.agg cells)) w':=by
 have:=run_build (P:=P) w' t (parts.map fun x=>(x.1,a.eval x.2)) cells h;unfold execOp;simp only[D,Sem.run_bind,this,Result.andThen_ok]
 rfl
section
variable {w w' w0:World} {B:Nat} {p:CP} {m m0:CM} {s:St} {c g:Nat} {v:Value} {l:L} {a:World}
def SlT (p:CP) (m:CM) (g:Nat) (w:World) (v:Value) (l:L):Prop:=SlN (fun j=>AO p m j\/j=g) w v l
theorem SlT.up (h:SlN (AO p m) w v l) (E:w.heap.size<=g):SlT p m g w v l:=h.mono (fun j D x=>by
 rcases x with x | x
 ·exact x
 ·omega)
theorem SlT.below (h:SlT p m g w v l) (D:Below w.heap.size w w'):SlT p m g w' v l:=SlN.below h D
theorem SlT.kn (h:SlT p m0 g w0 v l) (hk:Tu w0 w B p m0 m s c):SlT p m g w v l:=
 h.keep hk.chg (fun _ _ x=>.inl x) (fun j D x=>by
  rcases x with x | x
  ·rcases hk.nw j x with y | y
   ·exact .inl y
   ·omega
  ·exact .inr x)
theorem SlT.of_out (h:SlN (Out a p m) w v l) (D:g<a.heap.size):SlT p m g w v l:=h.mono (fun j _ x=>by
 rcases x with x | x
 ·exact .inr x
 ·exact .inl (by omega))
theorem SlT.of_made (hk:Cl a B p m s c) (D:g<a.heap.size) (h:SlN (fun j=>j<a.heap.size) w v l):SlT p m g w v l:=h.mono (fun j _ x=>by
 rcases x with x | x
 ·exact hk.lt x
 ·omega)
theorem SlT.over (h:SlT p m g w v l) (D:w.grownBy w' (some g)):SlN (AO p m) w' v l:=h.keep (Chg.of_grown (S:=fun j=>j=g) D rfl) (fun j _ x=>.inr x) (fun _ _ x=>.inl x)
theorem IB (h:SlN (Out a p m) w v l):SlN (AO p m) w v l:=h.mono (fun _ _ x=>.inr x)
theorem Tu.over (h:Tu w0 w B p m0 m s c) (D:w0.heap.size<=g) (E:¬AO p m g) (F:w.grownBy w' (some g)):Tu w0 w' B p m0 m s c:=h.put D E (Chg.of_grown F rfl)
theorem Tu.made_out (h:Tu w0 w B p m0 m s c) (hs:SlN (fun j=>j<w.heap.size) w' v l):SlN (Out w0 p m) w' v l:=hs.mono (fun j _ x=>by
 have:=h.size;rcases x with x | x
 ·exact Nat.lt_of_lt_of_le x this
 ·exact h.cl.lt x)
theorem VT {A:Option Addr} {D:Nat} (h:Ca.Own1 w w' A (bvs l)) (M:l.length<=D):SlN (fun j=>j<w.heap.size) w' (.slice A l.length D) l:=
 ⟨A,D,rfl,M,by
  rcases h.rd with x | ⟨b,o,e,F,E⟩
  ·exact .inl x
  ·exact .inr ⟨b,o,e,F,fun x=>by have:=h.lo _ e;simp only at *;omega,E⟩⟩
end
open Nm (krb)
open Ms (tmB pSm mSm mgO An Mg As Tg)
open Rg (prV)
section
variable {w w':World} {B:Nat} {p:CP} {m:CM} {s:St} {c:Nat}
abbrev ouA (no:Int) (b:Nat) (u:Int):Array Value:=#[.int .i64 no,pv b,.int .i64 u]
theorem VU (h:Blk w p.k 94 (clA p m s)) (no u sn:Int) (ob:Nat) (ks:Nat->UInt8):Blk ((((w.setCell ⟨p.k,13,none⟩ (.int .i64 no)).setCell ⟨p.k,14,none⟩ (pv ob)).setCell ⟨p.k,15,none⟩ (.int .i64 u)).setCell ⟨p.k,9,none⟩ (.int .i64 sn)) p.k 94 (clA p {m with ov:=pv ob} {s with ou:=⟨no,ks,u⟩,sn:=sn}):=by
 have:=(((h.set 13 (.int .i64 no)).set 14 (pv ob)).set 15 (.int .i64 u)).set 9 (.int .i64 sn)
 simpa only[List.setIfInBounds_toArray,List.set_cons_zero,List.set_cons_succ] using this
theorem VV (w:World) (k:Nat) (a b c d:Value):Chg (fun j=>j=k) w ((((w.setCell ⟨k,13,none⟩ a).setCell ⟨k,14,none⟩ b).setCell ⟨k,15,none⟩ c).setCell ⟨k,9,none⟩ d):=
 ((((Chg.refl (fun j=>j=k) w).set (p:=⟨k,13,none⟩) (.inl rfl) a).set (p:=⟨k,14,none⟩) (.inl rfl) b).set (p:=⟨k,15,none⟩) (.inl rfl) c).set (p:=⟨k,9,none⟩) (.inl rfl) d
theorem KM {m':CM} {s':St} {r:L} {cs:Array Value} {g:Mg} {no u:Int} {ob:Nat} {ks:Nat->UInt8} (h:Cl w B p m s c) (ah:0<=s.sn/\s.sn<=1000000) (hr:r.length<=140737488351232) (hm:∀w2,Chg (AO p m) w w2->Mc.MgV w2 w2.heap.size cs g) (hs:mSm g) (hz:cs.size=30) (ho:cs.all (·.oneCell')=true)
  (hT:∀X w2,Cl X B p m s c->Chg (fun j=>j=p.k) X w2->Blk w2 p.k 94 (clA p {m with ov:=pv ob} {s with ou:=⟨no,ks,u⟩,sn:=s.sn+1})->Tu X w2 B p m m' s' c) :
  Calls Tryz.prog 63 #[pv p.k,.string ⟨r.toArray⟩,.agg cs,.agg (ouA no ob u)] w fun e w'=>∃v,e=.returned (.tuple #[.string ⟨r.toArray⟩,v])/\SlN (Out w p m') w' v (lO (mgO g))/\Tu w w' B p m m' s' c:=by
 obtain⟨W,Z⟩:=Ah ((w.alloc (.cells cs 63)).alloc (.cells (ouA no ob u) 90));have M:Below w.heap.size w W:=Z▸(Af.alloc Ae _).alloc (by simp) _;have F:=I (show Blk W w.heap.size 63 cs from Z▸(Blk.new w _ _).alloc _);have HO:=I (show Blk W (w.heap.size+1) 90 (ouA no ob u) by have:=Blk.new (w.alloc (.cells cs 63)) 90 (ouA no ob u);simp only[World.size_alloc] at this;exact Z▸this);have D:=I (Tu.start h M);have HN:=I (h.fresh Ae);have HI:=I (show(Tryz.prog.info? 63).map (·.size)=some cs.size by rw[hz];exact Mc.AQ);have ae:=I (show p.k≠w.heap.size from Nat.ne_of_lt h.blk.lt);have ad:=I hm;have CE:=I (fun(X:World) (h1:Mc.MgV X X.heap.size cs g)=>To cs g X h1 hs hz ho);have CC:=I (fun(X:World)=>Ca.Dq r X hr);have HT:=I hT;have k9:W.cell? ⟨p.k,9,none⟩=some (.int .i64 s.sn):=D.o.cl.blk.cell 9;have ak:W.cell? ⟨p.k,13,none⟩=some (.int .i64 s.ou.no):=D.o.cl.blk.cell 13;have al:W.cell? ⟨p.k,14,none⟩=some m.ov:=D.o.cl.blk.cell 14;have ai:W.cell? ⟨p.k,15,none⟩=some (.int .i64 s.ou.u):=D.o.cl.blk.cell 15;have fz:=D.o.cl.blk.frozen;have q0:W.cell? ⟨w.heap.size+1,0,none⟩=some (.int .i64 no):=HO.o.cell 0;have q1:W.cell? ⟨w.heap.size+1,1,none⟩=some (pv ob):=HO.o.cell 1;have q2:W.cell? ⟨w.heap.size+1,2,none⟩=some (.int .i64 u):=HO.o.cell 2;have aj:IntKind.i64.wrap (s.sn+1)=s.sn+1:=by rw[IntKind.wrap_i64];omega
 obtain⟨o,eo⟩:=Ah (mgO g);rw[<-eo] at CE⊢;clear h M hm hs hz ho hT eo ah hr;go_enter Tryz.func63,Tryz.ntmps63
 go_upto_region 1 with fail
 rw[<-Z];clear Z
 go_upto_region 3 with fail
 obtain⟨V,eV⟩:=Ah (((((W.setCell ⟨p.k,13,none⟩ (.int .i64 no)).setCell ⟨p.k,14,none⟩ (pv ob)).setCell ⟨p.k,15,none⟩ (.int .i64 u)).setCell ⟨p.k,9,none⟩ (.int .i64 (s.sn+1))));have Y:Chg (fun j=>j=p.k) W V:=eV▸VV W p.k _ _ _ _;have af:=HT.o W V D.o.cl Y (eV▸VU D.o.cl.blk no u (s.sn+1) ob ks);have aa:=ad.o V (D.o.chg.trans (Y.mono (fun j _ x=>⟨0,x⟩)) (fun _ _ x=>x));replace F:=I (Y.blk F.o (fun x=>ae.o x.symm));replace D:=I (D.o.trans af);rw[<-eV];clear eV Y af k9 ak al ai fz q0 q1 q2 aj HO HT ad HN ae;have E:=I aa;clear aa;have O:Below V.heap.size V V.drew:=below_drewN Af 1;replace D:=I (D.o.below O);replace F:=I (F.o.below O);replace E:=I (Mc.MgV.more (Mc.MgV.keep E.o O) O.size);clear O;refine Reg.AN (fun w'=>Blk w' w.heap.size 63 cs) 6 rfl (by kernel_rfl) F.o ?_;refine Reg.ty 0 rfl F.o ?_;refine Reg.tw 2 (v:=.agg cs) rfl F.o (fun w' hS=>by exact Wh.Cy (.tmp 6) rfl rfl hS Tryz.underlying63 (by rfl) HI.o) ?_;refine Reg.b1 1 ?_
 right
 refine⟨_,_,_,_,_,_,59,#[.string ⟨r.toArray⟩],rfl,by rfl,(by go_simp<;>first | rfl | exact⟨rfl,rfl⟩),?_⟩;refine Ag (CC.o _) ?_;rintro ao M;replace D:=I (D.o.below M);replace F:=I (F.o.below M);replace E:=I (Mc.MgV.more (Mc.MgV.keep E.o M) M.size);have ab:=I D.o;clear M;clear CC;refine⟨_,rfl,F.o,?_⟩;simp only[Act.put,J,U,Aa];refine Reg.b1 3 ?_
 right
 refine⟨_,_,_,_,_,_,52,#[.agg cs],rfl,by rfl,(by go_simp<;>first | rfl | exact⟨rfl,rfl⟩),?_⟩;refine Calls.mono (CE.o _ E.o) ?_;rintro e an ⟨v,rfl,hs,M⟩;replace D:=I (D.o.below M);replace F:=I (F.o.below M);replace E:=I (Mc.MgV.more (Mc.MgV.keep E.o M) M.size);have ag:=I (ab.o.made_out hs);clear hs ab;clear M;clear CE;refine⟨_,rfl,F.o,?_⟩;simp only[Act.put,J,U,Aa];refine Reg.ty 4 rfl F.o ?_;refine Reg.ty 5 rfl F.o ?_;refine wpAnyH_done (by kernel_rfl) ?_ _
 go_wp2
 go_ret2
 exact⟨v,rfl,ag.o,D.o⟩
theorem VW (h:Blk w p.k 94 (clA p m s)) (st er:Int):Blk ((((((((w.setCell ⟨p.k,7,none⟩ (.int .i64 st)).setCell ⟨p.k,8,none⟩ (.int .i64 er)).setCell ⟨p.k,10,none⟩ (.string ⟨#[]⟩)).setCell ⟨p.k,11,none⟩ (.string ⟨#[]⟩)).setCell ⟨p.k,12,none⟩ (.slice none 0 0)).setCell ⟨p.k,13,none⟩ (.int .i64 0)).setCell ⟨p.k,14,none⟩ (.pointer none)).setCell ⟨p.k,15,none⟩ (.int .i64 0)) p.k 94 (clA p {m with vv:=.slice none 0 0,ov:=.pointer none,x:=none} (endS mC s st er)):=by
 have:=(((((((h.set 7 (.int .i64 st)).set 8 (.int .i64 er)).set 10 (.string ⟨#[]⟩)).set 11 (.string ⟨#[]⟩)).set 12 (.slice none 0 0)).set 13 (.int .i64 0)).set 14 (.pointer none)).set 15 (.int .i64 0);simp only[List.setIfInBounds_toArray,List.set_cons_zero,List.set_cons_succ] at this;exact this
theorem Cl.ended (h:Cl w B p m s c) {st er:Int} (O:st≠1) (E:Chg (fun j=>j=p.k) w w') (X:Blk w' p.k 94 (clA p {m with vv:=.slice none 0 0,ov:=.pointer none,x:=none} (endS mC s st er))):Tu w w' B p m {m with vv:=.slice none 0 0,ov:=.pointer none,x:=none} (endS mC s st er) c:=by
 have M:∀i,i≠0->∀j,Pt p m i j->¬j=p.k:=fun i Y j D e=>h.not (i':=0) D Y e
 have F:∀i j,Pt p {m with vv:=.slice none 0 0,ov:=.pointer none,x:=none} i j->Pt p m i j:=fun i j D=>by
  match i,D with
  |0,D=>exact D
  |1,D=>exact D
  |2,D=>exact D
  |3,D=>cases D
  |4,D=>obtain⟨z,Z,_⟩:=D;cases Z
  |5,D=>exact D
 refine⟨⟨⟨fun i i' j a b=>h.pa.dis i i' j (F i j a) (F i' j b),fun i j a=>h.pa.lo i j (F i j a),fun i j a=>Nat.lt_of_lt_of_le (h.pa.lt i j (F i j a)) E.size,Nat.le_trans h.pa.hB E.size⟩,X,h.ca.chg E (M 2 (by decide)),h.li,h.box.chg E (M 1 (by decide)),h.bc,Nm.Own.nil _ _,SxR.none,h.sy.chg E (M 5 (by decide)),.inl ⟨rfl,fun e=>absurd e O⟩⟩,E.mono (fun j _ x=>⟨0,x⟩),fun j D=>by
  obtain⟨i,D⟩:=D;exact .inl ⟨i,F i j D⟩⟩
theorem Hq {st er:Int} (h:Cl w B p m s c) (D:st≠1) :
  Calls Tryz.prog 32 #[pv p.k,.int .i64 st,.int .i64 er] w fun e w'=>e=.returned (.tuple #[])/\∃m',Tu w w' B p m m' (endS mC s st er) c:=by
 have F:=I h;have k7:w.cell? ⟨p.k,7,none⟩=some (.int .i64 s.st):=h.blk.cell 7;have k8:w.cell? ⟨p.k,8,none⟩=some (.int .i64 s.er):=h.blk.cell 8;have Y:w.cell? ⟨p.k,10,none⟩=some (.string ⟨s.tg.1.toArray⟩):=h.blk.cell 10;have O:w.cell? ⟨p.k,11,none⟩=some (.string ⟨s.tg.2.toArray⟩):=h.blk.cell 11;have M:w.cell? ⟨p.k,12,none⟩=some m.vv:=h.blk.cell 12;have X:w.cell? ⟨p.k,13,none⟩=some (.int .i64 s.ou.no):=h.blk.cell 13;have Z:w.cell? ⟨p.k,14,none⟩=some m.ov:=h.blk.cell 14;have aa:w.cell? ⟨p.k,15,none⟩=some (.int .i64 s.ou.u):=h.blk.cell 15;have fz:=h.blk.frozen;have E:=I D;clear h D;go_enter Tryz.func32,Tryz.ntmps32
 go_wp2
 go_end0
 refine⟨rfl,_,F.o.ended E.o ?_ (VW F.o.blk st er)⟩;exact((((((((Chg.refl (fun j=>j=p.k) w).set (p:=⟨p.k,7,none⟩) (.inl rfl) _).set (p:=⟨p.k,8,none⟩) (.inl rfl) _).set (p:=⟨p.k,10,none⟩) (.inl rfl) _).set (p:=⟨p.k,11,none⟩) (.inl rfl) _).set (p:=⟨p.k,12,none⟩) (.inl rfl) _).set (p:=⟨p.k,13,none⟩) (.inl rfl) _).set (p:=⟨p.k,14,none⟩) (.inl rfl) _).set (p:=⟨p.k,15,none⟩) (.inl rfl) _
end
open Ca (Cr It crA)
abbrev crv (x:Cr) (bv:Value):Array Value:=(.string ⟨x.s.1.toArray⟩ :: .string ⟨x.s.2.toArray⟩ :: .int .i64 x.n :: bv :: ((AT x.k).toList++[.int .i64 x.e])).toArray
def Okx (x:Cr):Prop:=pSm x.s/\x.b.length<=100000
structure Sz (p:CP) (s:St) (c:Nat):Prop where
 nn:s.n<=c
 ss:s.s<=c
 qq:s.q<=c
 sn:0<=s.sn/\s.sn<=(c:Int)
 vs:s.vs.length<=c/\∀v∈s.vs,v.length<=1000000
 tg:pSm s.tg
 l:s.l.length<=10
 x:∀i∈s.l,Okx i.2
 pp:pSm p.P/\p.P.1.length<=1000000
abbrev tgA (q:Tg) (b a:Value):Array Value:=#[.string ⟨q.t.s.1.toArray⟩,.string ⟨q.t.s.2.toArray⟩,.int .i64 q.t.k,b,a,.string ⟨q.s.1.toArray⟩,.string ⟨q.s.2.toArray⟩,.int .i64 q.u,.int .i64 q.no]
theorem tg_mg {w:World} {q:Tg} {b a:Value} {S S':Nat->Prop} (E:SlN S w b q.t.b) (D:SlN S' w a q.a):Mc.MgV w w.heap.size (Mc.mgA 2 Mc.zA (tgA q b a) Mc.zR Mc.zP Mc.zF) (mTg q):=
 ⟨_,_,_,_,_,rfl,⟨Mc.zA_v,⟨b,a,rfl,E.sl,D.sl⟩,Mc.zR_v _ _,Mc.zP_v _ _,Mc.zF_v⟩⟩
theorem QT (q:Tg) (b a:Value):Tryz.prog.built 63 [(0,.int .i64 2),(2,.agg (tgA q b a))]=some (Mc.mgA 2 Mc.zA (tgA q b a) Mc.zR Mc.zP Mc.zF):=by kernel_rfl
theorem Ts (q:Tg) (b:Value) (A:Option Addr) (n c:Nat):Tryz.prog.built 55 [(0,.agg #[.string ⟨q.t.s.1.toArray⟩,.string ⟨q.t.s.2.toArray⟩,.int .i64 q.t.k,b]),(1,.slice A n c),(2,.agg #[.string ⟨q.s.1.toArray⟩,.string ⟨q.s.2.toArray⟩]),(3,.int .i64 q.u),(4,.int .i64 q.no)]=some (tgA q b (.slice A n c)):=by kernel_rfl
theorem MU (q:Tg) {b a:Value} (E:b.oneCell'=true) (D:a.oneCell'=true):(tgA q b a).all (·.oneCell')=true:=by
 simp [tgA,E,D];simp [Value.oneCell']
theorem Um {S:Nat->Prop} {w:World} {v:Value} {l:L} (h:SlN S w v l):v.oneCell'=true:=by obtain⟨A,c,rfl,_⟩:=h;rfl
theorem BG:(Tryz.prog.info? 55).map (·.size)=some 9:=by kernel_rfl
section
variable {w w' w0:World} {B:Nat} {p:CP} {m m' m0:CM} {s:St} {c:Nat} {r:L}
theorem new_y (ks:Nat->UInt8) (h:Cl w B p m s c):Calls Tryz.prog 51 #[.agg (AT ks)] w fun e w'=>∃b,e=.returned (pv b)/\Tu w w' B p m {m with y:=some ⟨b,ks,none,0,0,0⟩} s (c+1):=by
 refine(Jp ks w).mono ?_;rintro e w' ⟨b,rfl,M,O,hw⟩;have F:∀j,SO (some ⟨b,ks,none,0,0,0⟩) j->j=b:=fun j D=>by
  obtain⟨z,E,D⟩:=D;injection E with E;subst E;rcases D with D | D
  ·exact D
  ·cases D
 refine⟨b,rfl,h.use_y (Chg.of_below hw) (fun z E=>?_) (fun j D=>.inr (F j D▸M))⟩;injection E with E;subst E;exact⟨O,Nat.zero_le _,Nat.zero_le _,Nat.zero_le _⟩
theorem Cl.out_y (h:Cl w B p m s c) {z:Ss} (hz:m.y=some z) {ou:Ou} (hk:ou.ks=z.ks) {sn:Int} (F:Chg (fun j=>j=p.k) w w') (hb:Blk w' p.k 94 (clA p {m with ov:=pv z.b} {s with ou:=ou,sn:=sn})):Tu w w' B p m {m with ov:=pv z.b,x:=m.y,y:=none} {s with ou:=ou,sn:=sn} c:=by
 have O:∀i,i≠0->∀j,Pt p m i j->¬j=p.k:=fun i Y j D e=>h.not (i':=0) D Y e
 have M:∀i j,Pt p {m with ov:=pv z.b,x:=m.y,y:=none} i j->∃i',Pt p m i' j/\((i=4/\i'=5)\/(i≠4/\i≠5/\i'=i)):=fun i j D=>by
  match i,D with
  |0,D=>exact⟨0,D,.inr ⟨by decide,by decide,rfl⟩⟩
  |1,D=>exact⟨1,D,.inr ⟨by decide,by decide,rfl⟩⟩
  |2,D=>exact⟨2,D,.inr ⟨by decide,by decide,rfl⟩⟩
  |3,D=>exact⟨3,D,.inr ⟨by decide,by decide,rfl⟩⟩
  |4,D=>exact⟨5,D,.inl ⟨rfl,rfl⟩⟩
  |5,D=>obtain⟨q,hq,_⟩:=D;cases hq
 refine⟨⟨⟨fun i i' j a b=>?_,fun i j a=>?_,fun i j a=>?_,Nat.le_trans h.pa.hB F.size⟩,hb,h.ca.chg F (O 2 (by decide)),h.li,h.box.chg F (O 1 (by decide)),h.bc,BQ h.vis F (O 3 (by decide)),h.sy.chg F (O 5 (by decide)),SxR.none,.inr (.inr ⟨z,hz,rfl,hk⟩)⟩,F.mono (fun j _ x=>⟨0,x⟩),fun j D=>?_⟩
 ·obtain⟨k,E,ab⟩:=M i j a
  obtain⟨Z,X,aa⟩:=M i' j b;have:=h.pa.dis k Z j E X;omega
 ·obtain⟨k,E,_⟩:=M i j a
  exact h.pa.lo k j E
 ·obtain⟨k,E,_⟩:=M i j a
  exact Nat.lt_of_lt_of_le (h.pa.lt k j E) F.size
 ·obtain⟨i,D⟩:=D
  obtain⟨k,E,_⟩:=M i j D;exact .inl ⟨k,E⟩
theorem QU (w:World) (base:Nat) (v:Value) (ls:List L) (D:Nm.Own w base v ls) (r:L) (g:Nat) (hc:w.cell? ⟨g,0,none⟩=some (Nm.st r)) (hg:g<w.heap.size) (hl:ls.length<=1000000) (hb:base<=w.heap.size) :
  ∃v' w',(Builtin.append_ #[22,22] 22 #[v,.slice (some ⟨g,0,none⟩) 1 1]).run Tryz.prog w=.ok v' w'/\Nm.Own w' base v' (ls++[r])/\w.grownBy w' v.ownBlock/\(v'.ownBlock=v.ownBlock\/v'.ownBlock=some w.heap.size):=by
 obtain⟨i0,X,M,O,F⟩:=info_parts Nm.Mk;obtain⟨v',w',E,Y,h3,Z⟩:=FW (P:=Tryz.prog) w base 22 22 9 i0 _ 16 Tryz.underlying22 X M O F rfl v ls.length (Nm.strs ls) D w.heap.size (some ⟨g,0,none⟩) 1 1 (Nm.strs [r]) rfl (.inr ⟨g,0,rfl,hg,fun i u hu=>by
  cases i with
  |zero=>simp only[Nm.strs,List.map_cons,List.map_nil,List.getElem?_cons_zero,Option.some.injEq] at hu;rw[<-hu];exact hc
  |succ i=>simp [Nm.strs] at hu⟩) (Nm.Mj _) (by unfold maxLen;omega) (by omega) hb
 exact⟨v',w',E,by rw[Nm.Own,List.length_append,Nm.Hz];exact Y,h3,Z⟩
theorem Cl.append (h:Cl w B p m s c) {v':Value} {ls:List L} (Z:Nm.Own w' B v' ls) (M:w.grownBy w' m.vv.ownBlock) (X:v'.ownBlock=m.vv.ownBlock\/v'.ownBlock=some w.heap.size):Tu w (w'.setCell ⟨p.k,12,none⟩ v') B p m {m with vv:=v'} {s with vs:=ls} c:=by
 have E:Chg (fun j=>m.vv.ownBlock=some j) w w':=⟨M.os,M.tape,M.output,M.size,fun i hi Y=>M.block i hi (fun e=>Y e.symm)⟩;have D:m.vv.ownBlock≠some p.k:=fun e=>h.not (i:=3) (i':=0) (j:=p.k) e (by decide) rfl
 have F:v'.ownBlock≠some p.k:=fun e=>by
  rcases X with x | x
  ·exact D (x▸e)
  ·rw[x] at e
   injection e with e;have:=h.blk.lt;omega
 refine h.visit ?_ ?_ ?_ ?_
 ·exact(E.mono (T:=fun j=>j=p.k\/m.vv.ownBlock=some j) (fun _ _ x=>.inr x)).set (p:=⟨p.k,12,none⟩) (.inl (.inl rfl)) v'
 ·have:=(E.blk h.blk D).set 12 v'
  simp only[List.setIfInBounds_toArray,List.set_cons_zero,List.set_cons_succ] at this;exact this
 ·exact BQ Z (Iz w' p.k 12 v') (fun k hk e=>F (e▸hk))
 ·intro j O
  rcases X with x | x
  ·exact .inl (x▸O)
  ·rw[x] at O
   injection O with O;exact .inr (by omega)
theorem Tv {z:Ss} (h:Cl w B p m s c) (hz:m.y=some z) (Z:c<900000) (M:s.s<900000) (u:Int) (a:An) (hs:pSm a.c) :
  Calls Tryz.prog 50 #[pv p.k,pv z.b,.int .i64 u,.agg (anA a)] w fun e w'=>∃A n E D,e=.returned (.slice A n E)/\D.b=z.b/\D.ks=z.ks/\SlN (Out w p {m with y:=some D}) w' (.slice A n E) (seaL z.ks u (s.s+1) a)/\Tu w w' B p m {m with y:=some D} {s with s:=s.s+1} (c+1):=
 (QS h hz Z M u a hs).mono (by rintro e w' ⟨v,D,rfl,O,F,⟨A,E,rfl,Y,X⟩,hk⟩;exact⟨A,_,E,D,rfl,O,F,⟨A,E,rfl,Y,X⟩,hk⟩)
theorem Tw {x:Cr} {bv:Value} {now:Int} (h:Cl w B p m s c) (hc:c<=800000) (hz:Sz p s c) (hr:r.length<=1000000) (hx:Okx x) (ht:tmB now=true) (hv:SlN (AO p m) w bv x.b) :
  Calls Tryz.prog 61 #[pv p.k,.string ⟨r.toArray⟩,.agg (crv x bv),.int .i64 now] w fun e w'=>∃v m',e=.returned (.tuple #[.string ⟨r.toArray⟩,v])/\SlN (Out w p m') w' v (furL p.P s r x now).2.2/\Tu w w' B p m m' (furS s r x) (c+2):=by
 obtain⟨cx,aQ⟩:=Ah (crv x bv);rw[<-aQ];obtain⟨W,eW⟩:=Ah (w.alloc (.cells cx 102));have F:Below w.heap.size w W:=eW▸Af.alloc Ae _;have O:=I (show Blk W w.heap.size 102 cx from eW▸Blk.new w _ _);have D:=I (Tu.start h F);have NX:=I (h.fresh Ae);have X:=I (hv.below F);have aP:=I (Um hv);have aW:=I (fun(w1:World) (hx:Blk w1 w.heap.size 102 cx)=>(show w1.rangeAt w.heap.size 4 (AT x.k).toList from Wh.CV (pre:=[.string ⟨x.s.1.toArray⟩,.string ⟨x.s.2.toArray⟩,.int .i64 x.n,bv]) (post:=[.int .i64 x.e]) hx (by rw[aQ];simp) 4 rfl));have bh:=I (fun(w1:World) (hx:Blk w1 w.heap.size 102 cx)=>(show w1.cell? ⟨w.heap.size,0,none⟩=some (.string ⟨x.s.1.toArray⟩)/\w1.cell? ⟨w.heap.size,1,none⟩=some (.string ⟨x.s.2.toArray⟩)/\w1.cell? ⟨w.heap.size,2,none⟩=some (.int .i64 x.n)/\w1.cell? ⟨w.heap.size,3,none⟩=some bv by
  rw[aQ] at hx;exact⟨hx.cell 0,hx.cell 1,hx.cell 2,hx.cell 3⟩))
 have bE:=I (show(Tryz.prog.info? 31).map (·.size)=some (AT x.k).size by rw[AR];kernel_rfl);have C1:=I (fun(w1:World) (h1:Cl w1 B p m s c)=>new_y x.k h1);have C2:=I (fun(w1:World) (m1:CM) (z:Ss) (h1:Cl w1 B p m1 s (c+1)) (hy:m1.y=some z)=>Tv h1 hy (by omega) (by have:=hz.ss;omega) 7 ⟨p.P,now,0⟩ hz.pp.1);have C3:=I (fun(w1:World)=>KK now w1 ht);have C4:=I (fun(w1:World) (m1:CM) (h1:Cl w1 B p m1 {s with s:=s.s+1} (c+2))=>Ul h1 (by have:=hz.nn;show s.n<1000000;omega));have C5:=I (fun(w1:World)=>Ca.Dq r w1 (by omega));have aY:=I (show s.vs.length<=1000000 by have:=hz.vs.1;omega);have bf:mSm (mTg (furQ p.P s x now)):=⟨⟨Mc.Co,Mc.Co⟩,⟨hx.1,hz.tg⟩,⟨Mc.Co,Mc.Co⟩,Mc.Co⟩;have C6:=I (fun(w1:World) (m1:CM) (z:Ss) (av:Value) (h1:Cl w1 B p m1 {s with s:=s.s+1,n:=s.n+1,vs:=s.vs++[r]} (c+2)) (hy:m1.y=some z) (hk:z.ks=x.k) (s1:SlN (AO p m1) w1 bv x.b) (s2:SlN (AO p m1) w1 av (furQ p.P s x now).a)=>
  KM (r:=r) (cs:=Mc.mgA 2 Mc.zA (tgA (furQ p.P s x now) bv av) Mc.zR Mc.zP Mc.zF) (g:=mTg (furQ p.P s x now)) (no:=((s.n+1:Nat):Int)) (u:=8) (ob:=z.b) (ks:=x.k) (m':={m1 with ov:=pv z.b,x:=m1.y,y:=none}) (s':=furS s r x) h1 ⟨hz.sn.1,by have:=hz.sn.2;show s.sn<=1000000;omega⟩ (by omega) (fun w2 aT=>tg_mg (q:=furQ p.P s x now) (s1.keep aT (fun _ _ y=>y) (S':=AO p m1) (fun _ _ y=>y)) (s2.keep aT (fun _ _ y=>y) (S':=AO p m1) (fun _ _ y=>y))) bf (by rfl) (Mc.MgP.one (m:=mTg (furQ p.P s x now)) (w:=w1) (B:=w1.heap.size) ⟨Mc.zA_v,⟨bv,av,rfl,s1.sl,s2.sl⟩,Mc.zR_v _ _,Mc.zP_v _ _,Mc.zF_v⟩ 2)
   (fun wa wb bJ aT bF=>bJ.out_y hy (ou:=⟨((s.n+1:Nat):Int),x.k,8⟩) hk.symm aT bF))
 have EQ:=I (show(furL p.P s r x now).2.2=lO (mgO (mTg (furQ p.P s x now))) by simp only[furL]);rw[EQ.o];have EA:=I (show(furQ p.P s x now).a=seaL x.k 7 (s.s+1) ⟨p.P,now,0⟩ by simp only[furQ]);have EU:=I (show(furQ p.P s x now).u=GH now by simp only[furQ]);have ET:=I (show(furQ p.P s x now).s=s.tg by simp only[furQ]);have EN:=I (show(furQ p.P s x now).no=((s.n+1:Nat):Int) by simp only[furQ]);have EK:=I (show(furQ p.P s x now).t=tkOf x by simp only[furQ]);have aF:=I (fun(A:Option Addr) (n cp:Nat)=>(show Tryz.prog.built 55 [(0,.agg #[.string ⟨x.s.1.toArray⟩,.string ⟨x.s.2.toArray⟩,.int .i64 x.n,bv]),(1,.slice A n cp),(2,.agg #[.string ⟨s.tg.1.toArray⟩,.string ⟨s.tg.2.toArray⟩]),(3,.int .i64 (GH now)),(4,.int .i64 ((s.n+1:Nat):Int))]=some (tgA (furQ p.P s x now) bv (.slice A n cp)) from Ts (furQ p.P s x now) bv A n cp));obtain⟨Q,eQ⟩:=Ah (furQ p.P s x now);rw[<-eQ] at C6 EA EU ET EN EK aF⊢;clear eQ EQ;obtain⟨T,eT⟩:=Ah (GH now);rw[<-eT] at C3 EU aF;obtain⟨NN,aZ⟩:∃z:Int,z=((s.n+1:Nat):Int):=⟨_,rfl⟩;rw[<-aZ] at EN aF C4;have bz:=I aZ;clear h F hv hc hz hr hx ht aQ bf eT aZ;go_enter Tryz.func61,Tryz.ntmps61
 go_upto_region 1 with fail
 rw[<-eW];clear eW
 go_upto_region 3 with(first
  |(refine Wh.Az (by rfl) 31 (.tmp 14) (by rfl) w.heap.size 4 (by rfl) (AT x.k) _ (aW.o _ O.o) Tryz.underlying31 (by rfl) bE.o ?_)
  |(go_at_call 51;refine Calls.mono (C1.o _ D.o.cl) ?_;rintro e w1 ⟨zb,rfl,hk⟩;clear C1 aW;have E:=hk.blk O.o NX.o;replace NX:=I (hk.not NX.o O.o.lt);replace O:=I E;clear E;replace X:=I (hk.sl X.o);replace D:=I (D.o.trans hk);clear hk;have k0:w1.cell? ⟨p.k,0,none⟩=some (.string ⟨p.P.1.toArray⟩):=D.o.cl.blk.cell 0;have k1:w1.cell? ⟨p.k,1,none⟩=some (.string ⟨p.P.2.toArray⟩):=D.o.cl.blk.cell 1)
  |fail)
 obtain⟨z1,aV⟩:=Ah ((⟨zb,x.k,none,0,0,0⟩:Ss));have bb:=I (show z1.b=zb by rw[aV]);have ba:=I (show z1.ks=x.k by rw[aV]);rw[<-aV] at D NX X;obtain⟨m1,bd⟩:=Ah ({m with y:=some z1});have HY:=I (show m1.y=some z1 by rw[bd]);rw[<-bd] at D NX X;clear aV bd k0 k1;obtain⟨W2,aO⟩:=Ah (w1.alloc (.cells (anA ⟨p.P,now,0⟩) 73));have F:Below w1.heap.size w1 W2:=aO▸Af.alloc Ae _;have Y:=I (show Blk W2 w1.heap.size 73 (anA ⟨p.P,now,0⟩) from aO▸Blk.new w1 _ _);have NA:=I (D.o.cl.fresh (Nat.le_refl w1.heap.size));replace D:=I (D.o.below F);replace O:=I (O.o.below F);replace X:=I (X.o.below F);rw[<-aO];clear aO F;obtain⟨ga,bm⟩:=Ah (w1.heap.size);rw[<-bm] at Y NA⊢;clear bm
 go_cut [12] from 23 to 40 (fun tv wx=>∃(PT:Nat) (zz:Ss) (m2:CM) (av:Value),tv=.pointer (some ⟨PT,0,none⟩)/\m2.y=some zz/\zz.b=zb/\zz.ks=x.k/\Blk wx PT 55 (tgA Q bv av)/\¬AO p m2 PT/\SlN (AO p m2) wx bv x.b/\SlN (AO p m2) wx av Q.a/\Tu w wx B p m m2 {s with s:=s.s+1,n:=s.n+1} (c+2))
 case first=>
  have ao:Below W2.heap.size W2 W2.drew:=below_drewN Af 1;replace D:=I (D.o.below ao);replace O:=I (O.o.below ao);replace Y:=I (Y.o.below ao);replace X:=I (X.o.below ao);clear ao;refine Reg.AN (fun w'=>Blk w' w.heap.size 102 cx/\Blk w' ga 73 (anA ⟨p.P,now,0⟩)/\w'.cell? ⟨p.k,10,none⟩=some (.string ⟨s.tg.1.toArray⟩)/\w'.cell? ⟨p.k,11,none⟩=some (.string ⟨s.tg.2.toArray⟩)) 20 rfl (by kernel_rfl) ⟨O.o,Y.o,(D.o).cl.blk.cell 10,(D.o).cl.blk.cell 11⟩ ?_;refine Reg.ty 0 rfl ⟨O.o,Y.o,(D.o).cl.blk.cell 10,(D.o).cl.blk.cell 11⟩ ?_;refine Reg.tw 1 rfl ⟨O.o,Y.o,(D.o).cl.blk.cell 10,(D.o).cl.blk.cell 11⟩ (fun w' hS=>by obtain⟨hX,hA,aM,aL⟩:=hS;have q:=bh.o _ hX;obtain⟨q0,q1,q2,q3⟩:=q;go_simp<;>rfl) ?_;refine Reg.ty 2 rfl ⟨O.o,Y.o,(D.o).cl.blk.cell 10,(D.o).cl.blk.cell 11⟩ ?_;refine Reg.ty 3 rfl ⟨O.o,Y.o,(D.o).cl.blk.cell 10,(D.o).cl.blk.cell 11⟩ ?_;refine Reg.tw 4 (v:=.agg (anA ⟨p.P,now,0⟩)) rfl ⟨O.o,Y.o,(D.o).cl.blk.cell 10,(D.o).cl.blk.cell 11⟩ (fun w' hS=>by obtain⟨hX,hA,aM,aL⟩:=hS;have a0:=hA.cell 0;have a1:=hA.cell 1;have a2:=hA.cell 2;have a3:=hA.cell 3;go_simp<;>rfl) ?_;refine Reg.ty 6 rfl ⟨O.o,Y.o,(D.o).cl.blk.cell 10,(D.o).cl.blk.cell 11⟩ ?_;refine Reg.ty 7 rfl ⟨O.o,Y.o,(D.o).cl.blk.cell 10,(D.o).cl.blk.cell 11⟩ ?_;refine Reg.ty 8 rfl ⟨O.o,Y.o,(D.o).cl.blk.cell 10,(D.o).cl.blk.cell 11⟩ ?_;refine Reg.ty 9 rfl ⟨O.o,Y.o,(D.o).cl.blk.cell 10,(D.o).cl.blk.cell 11⟩ ?_;refine Reg.tw 10 (v:=.agg #[.string ⟨s.tg.1.toArray⟩,.string ⟨s.tg.2.toArray⟩]) rfl ⟨O.o,Y.o,(D.o).cl.blk.cell 10,(D.o).cl.blk.cell 11⟩ (fun w' hS=>by obtain⟨hX,hA,aM,aL⟩:=hS;go_simp<;>rfl) ?_;refine Reg.ty 11 rfl ⟨O.o,Y.o,(D.o).cl.blk.cell 10,(D.o).cl.blk.cell 11⟩ ?_;refine Reg.ty 13 rfl ⟨O.o,Y.o,(D.o).cl.blk.cell 10,(D.o).cl.blk.cell 11⟩ ?_;refine Reg.ty 14 rfl ⟨O.o,Y.o,(D.o).cl.blk.cell 10,(D.o).cl.blk.cell 11⟩ ?_;refine Reg.ty 15 rfl ⟨O.o,Y.o,(D.o).cl.blk.cell 10,(D.o).cl.blk.cell 11⟩ ?_;refine Reg.b2 5 18 ?_ ?_
  ·right
   refine⟨_,_,_,_,_,_,50,#[pv p.k,pv zb,.int .i64 7,.agg (anA ⟨p.P,now,0⟩)],rfl,by rfl,(by go_simp<;>first | rfl | exact⟨rfl,rfl⟩),?_⟩;refine Calls.mono (by have:=C2.o _ _ _ D.o.cl HY.o;rw[bb.o,ba.o] at this;exact this) ?_;rintro e M ⟨AA,nA,cA,zz,rfl,ax,aG,hs,hk⟩;have E:=hk.blk O.o NX.o;replace NX:=I (hk.not NX.o O.o.lt);replace O:=I E;clear E;have E:=hk.blk Y.o NA.o;replace NA:=I (hk.not NA.o Y.o.lt);replace Y:=I E;clear E;replace X:=I (hk.sl X.o);replace D:=I (D.o.trans hk);have aK:=I ax;have aJ:=I aG;have SA:=I (IB hs);clear hk;clear C2 ax aG hs;refine⟨_,rfl,⟨O.o,Y.o,(D.o).cl.blk.cell 10,(D.o).cl.blk.cell 11⟩,?_⟩;simp only[Act.put,J,U,Aa];refine Reg.b2 12 18 ?_ ?_
   ·right
    refine⟨_,_,_,_,_,_,62,#[.int .i64 now],rfl,by rfl,(by go_simp<;>first | rfl | exact⟨rfl,rfl⟩),?_⟩;refine Ag (C3.o _) ?_;rintro bG hw;subst hw;clear C3;refine⟨_,rfl,⟨O.o,Y.o,(D.o).cl.blk.cell 10,(D.o).cl.blk.cell 11⟩,?_⟩;simp only[Act.put,J,U,Aa];refine Reg.b2 16 18 ?_ ?_
    ·right
     refine⟨_,_,_,_,_,_,49,#[.pointer (some ⟨p.k,4,none⟩)],rfl,by rfl,(by go_simp<;>first | rfl | exact⟨rfl,rfl⟩),?_⟩;refine Ag (C4.o _ _ D.o.cl) ?_;rintro ab hk;have E:=hk.blk O.o NX.o;replace NX:=I (hk.not NX.o O.o.lt);replace O:=I E;clear E;have E:=hk.blk Y.o NA.o;replace NA:=I (hk.not NA.o Y.o.lt);replace Y:=I E;clear E;replace X:=I (hk.sl X.o);replace SA:=I (hk.sl SA.o);replace D:=I (D.o.trans hk);clear hk;clear C4;refine⟨_,rfl,⟨O.o,Y.o,(D.o).cl.blk.cell 10,(D.o).cl.blk.cell 11⟩,?_⟩;simp only[Act.put,J,U,Aa];refine Reg.tw 17 (v:=.agg (tgA Q bv (.slice AA nA cA))) rfl ⟨O.o,Y.o,(D.o).cl.blk.cell 10,(D.o).cl.blk.cell 11⟩ (fun w' hS=>by obtain⟨hX,hA,aM,aL⟩:=hS;refine Cd (t:=55) (by rfl) (by simp only[List.map_toArray,List.map_cons,List.map_nil];exact aF.o _ _ _)) ?_;refine Reg.b1 18 ?_
     left
     have F:Below ab.heap.size ab (ab.alloc (.cells #[.string ⟨#[]⟩,.string ⟨#[]⟩,.int .i64 0,.slice none 0 0,.slice none 0 0,.string ⟨#[]⟩,.string ⟨#[]⟩,.int .i64 0,.int .i64 0] 55)):=Af.alloc Ae _;have E:=Blk.new ab 55 #[.string ⟨#[]⟩,.string ⟨#[]⟩,.int .i64 0,.slice none 0 0,.slice none 0 0,.string ⟨#[]⟩,.string ⟨#[]⟩,.int .i64 0,.int .i64 0];have LT:=I D.o.size;have NT:=I (D.o.cl.fresh (Nat.le_refl ab.heap.size));have ad:=I (Nat.ne_of_lt O.o.lt);have aa:=I (Nat.ne_of_lt Y.o.lt);replace X:=I (SlT.up X.o (Nat.le_refl ab.heap.size));replace SA:=I (SlT.up SA.o (Nat.le_refl ab.heap.size));refine⟨_,_,_,_,_,_,.pointer (some ⟨ab.heap.size,0,none⟩),ab.alloc (.cells #[.string ⟨#[]⟩,.string ⟨#[]⟩,.int .i64 0,.slice none 0 0,.slice none 0 0,.string ⟨#[]⟩,.string ⟨#[]⟩,.int .i64 0,.int .i64 0] 55),rfl,by rfl,(by go_simp<;>rfl),⟨(O.o.below F),(Y.o.below F),((D.o.below F)).cl.blk.cell 10,((D.o.below F)).cl.blk.cell 11⟩,?_⟩;simp only[Act.put,J,U,Aa];obtain⟨bp,aI⟩:=Ah (ab.alloc (.cells #[.string ⟨#[]⟩,.string ⟨#[]⟩,.int .i64 0,.slice none 0 0,.slice none 0 0,.string ⟨#[]⟩,.string ⟨#[]⟩,.int .i64 0,.int .i64 0] 55));rw[<-aI] at F E⊢;clear aI;replace D:=I (D.o.below F);replace O:=I (O.o.below F);replace Y:=I (Y.o.below F);replace X:=I (X.o.below F);replace SA:=I (SA.o.below F);have HT:=I E;clear E F;obtain⟨PT,ar⟩:=Ah (ab.heap.size);rw[<-ar] at HT LT NT ad aa X SA⊢;clear ar;refine Reg.AI 19 rfl (by kernel_rfl) (by rfl) PT 55 _ (tgA Q bv (.slice AA nA cA)) HT.o (by rfl) (by rfl) (by rfl) BG (MU _ aP.o rfl) ?_;intro bx hV hg;replace HT:=I hV;replace D:=I (D.o.over LT.o NT.o hg);replace O:=I (O.o.grown hg (fun e=>by injection e with e;exact ad.o e.symm));replace Y:=I (Y.o.grown hg (fun e=>by injection e with e;exact aa.o e.symm));replace X:=I (SlT.over X.o hg);replace SA:=I (SlT.over SA.o hg);clear hV hg ad aa;refine⟨⟨O.o,Y.o,(D.o).cl.blk.cell 10,(D.o).cl.blk.cell 11⟩,?_⟩;simp only[Act.put,J,U,Aa];refine wpAnyH_done (by kernel_rfl) ?_ _
     go_wp2_with fail
     go_meet
     exact⟨PT,zz,_,_,rfl,rfl,aK.o,aJ.o,HT.o,NT.o,X.o,(by rw[EA.o];exact SA.o),D.o⟩
    ·left
     have F:Below M.heap.size M (M.alloc (.cells #[.string ⟨#[]⟩,.string ⟨#[]⟩,.int .i64 0,.slice none 0 0,.slice none 0 0,.string ⟨#[]⟩,.string ⟨#[]⟩,.int .i64 0,.int .i64 0] 55)):=Af.alloc Ae _;have E:=Blk.new M 55 #[.string ⟨#[]⟩,.string ⟨#[]⟩,.int .i64 0,.slice none 0 0,.slice none 0 0,.string ⟨#[]⟩,.string ⟨#[]⟩,.int .i64 0,.int .i64 0];have LT:=I D.o.size;have NT:=I (D.o.cl.fresh (Nat.le_refl M.heap.size));have ad:=I (Nat.ne_of_lt O.o.lt);have aa:=I (Nat.ne_of_lt Y.o.lt);replace X:=I (SlT.up X.o (Nat.le_refl M.heap.size));replace SA:=I (SlT.up SA.o (Nat.le_refl M.heap.size));refine⟨_,_,_,_,_,_,.pointer (some ⟨M.heap.size,0,none⟩),M.alloc (.cells #[.string ⟨#[]⟩,.string ⟨#[]⟩,.int .i64 0,.slice none 0 0,.slice none 0 0,.string ⟨#[]⟩,.string ⟨#[]⟩,.int .i64 0,.int .i64 0] 55),rfl,by rfl,(by go_simp<;>rfl),⟨(O.o.below F),(Y.o.below F),((D.o.below F)).cl.blk.cell 10,((D.o.below F)).cl.blk.cell 11⟩,?_⟩;simp only[Act.put,J,U,Aa];obtain⟨bn,aH⟩:=Ah (M.alloc (.cells #[.string ⟨#[]⟩,.string ⟨#[]⟩,.int .i64 0,.slice none 0 0,.slice none 0 0,.string ⟨#[]⟩,.string ⟨#[]⟩,.int .i64 0,.int .i64 0] 55));rw[<-aH] at F E⊢;clear aH;replace D:=I (D.o.below F);replace O:=I (O.o.below F);replace Y:=I (Y.o.below F);replace X:=I (X.o.below F);replace SA:=I (SA.o.below F);have HT:=I E;clear E F;obtain⟨PT,ar⟩:=Ah (M.heap.size);rw[<-ar] at HT LT NT ad aa X SA⊢;clear ar;refine Reg.b1 16 ?_
     right
     refine⟨_,_,_,_,_,_,49,#[.pointer (some ⟨p.k,4,none⟩)],rfl,by rfl,(by go_simp<;>first | rfl | exact⟨rfl,rfl⟩),?_⟩;refine Ag (C4.o _ _ D.o.cl) ?_;rintro br hk;have E:=hk.blk O.o NX.o;replace NX:=I (hk.not NX.o O.o.lt);replace O:=I E;clear E;have E:=hk.blk Y.o NA.o;replace NA:=I (hk.not NA.o Y.o.lt);replace Y:=I E;clear E;have E:=hk.blk HT.o NT.o;replace NT:=I (hk.not NT.o HT.o.lt);replace HT:=I E;clear E;replace X:=I (X.o.kn hk);replace SA:=I (SA.o.kn hk);replace D:=I (D.o.trans hk);clear hk;clear C4;refine⟨_,rfl,⟨O.o,Y.o,(D.o).cl.blk.cell 10,(D.o).cl.blk.cell 11⟩,?_⟩;simp only[Act.put,J,U,Aa];refine Reg.tw 17 (v:=.agg (tgA Q bv (.slice AA nA cA))) rfl ⟨O.o,Y.o,(D.o).cl.blk.cell 10,(D.o).cl.blk.cell 11⟩ (fun w' hS=>by obtain⟨hX,hA,aM,aL⟩:=hS;refine Cd (t:=55) (by rfl) (by simp only[List.map_toArray,List.map_cons,List.map_nil];exact aF.o _ _ _)) ?_;refine Reg.AI 19 rfl (by kernel_rfl) (by rfl) PT 55 _ (tgA Q bv (.slice AA nA cA)) HT.o (by rfl) (by rfl) (by rfl) BG (MU _ aP.o rfl) ?_;intro bC hV hg;replace HT:=I hV;replace D:=I (D.o.over LT.o NT.o hg);replace O:=I (O.o.grown hg (fun e=>by injection e with e;exact ad.o e.symm));replace Y:=I (Y.o.grown hg (fun e=>by injection e with e;exact aa.o e.symm));replace X:=I (SlT.over X.o hg);replace SA:=I (SlT.over SA.o hg);clear hV hg ad aa;refine⟨⟨O.o,Y.o,(D.o).cl.blk.cell 10,(D.o).cl.blk.cell 11⟩,?_⟩;simp only[Act.put,J,U,Aa];refine wpAnyH_done (by kernel_rfl) ?_ _
     go_wp2_with fail
     go_meet
     exact⟨PT,zz,_,_,rfl,rfl,aK.o,aJ.o,HT.o,NT.o,X.o,(by rw[EA.o];exact SA.o),D.o⟩
   ·left
    have F:Below M.heap.size M (M.alloc (.cells #[.string ⟨#[]⟩,.string ⟨#[]⟩,.int .i64 0,.slice none 0 0,.slice none 0 0,.string ⟨#[]⟩,.string ⟨#[]⟩,.int .i64 0,.int .i64 0] 55)):=Af.alloc Ae _;have E:=Blk.new M 55 #[.string ⟨#[]⟩,.string ⟨#[]⟩,.int .i64 0,.slice none 0 0,.slice none 0 0,.string ⟨#[]⟩,.string ⟨#[]⟩,.int .i64 0,.int .i64 0];have LT:=I D.o.size;have NT:=I (D.o.cl.fresh (Nat.le_refl M.heap.size));have ad:=I (Nat.ne_of_lt O.o.lt);have aa:=I (Nat.ne_of_lt Y.o.lt);replace X:=I (SlT.up X.o (Nat.le_refl M.heap.size));replace SA:=I (SlT.up SA.o (Nat.le_refl M.heap.size));refine⟨_,_,_,_,_,_,.pointer (some ⟨M.heap.size,0,none⟩),M.alloc (.cells #[.string ⟨#[]⟩,.string ⟨#[]⟩,.int .i64 0,.slice none 0 0,.slice none 0 0,.string ⟨#[]⟩,.string ⟨#[]⟩,.int .i64 0,.int .i64 0] 55),rfl,by rfl,(by go_simp<;>rfl),⟨(O.o.below F),(Y.o.below F),((D.o.below F)).cl.blk.cell 10,((D.o.below F)).cl.blk.cell 11⟩,?_⟩;simp only[Act.put,J,U,Aa];obtain⟨bq,aw⟩:=Ah (M.alloc (.cells #[.string ⟨#[]⟩,.string ⟨#[]⟩,.int .i64 0,.slice none 0 0,.slice none 0 0,.string ⟨#[]⟩,.string ⟨#[]⟩,.int .i64 0,.int .i64 0] 55));rw[<-aw] at F E⊢;clear aw;replace D:=I (D.o.below F);replace O:=I (O.o.below F);replace Y:=I (Y.o.below F);replace X:=I (X.o.below F);replace SA:=I (SA.o.below F);have HT:=I E;clear E F;obtain⟨PT,ar⟩:=Ah (M.heap.size);rw[<-ar] at HT LT NT ad aa X SA⊢;clear ar;refine Reg.b1 12 ?_
    right
    refine⟨_,_,_,_,_,_,62,#[.int .i64 now],rfl,by rfl,(by go_simp<;>first | rfl | exact⟨rfl,rfl⟩),?_⟩;refine Ag (C3.o _) ?_;rintro bA hw;subst hw;clear C3;refine⟨_,rfl,⟨O.o,Y.o,(D.o).cl.blk.cell 10,(D.o).cl.blk.cell 11⟩,?_⟩;simp only[Act.put,J,U,Aa];refine Reg.b1 16 ?_
    right
    refine⟨_,_,_,_,_,_,49,#[.pointer (some ⟨p.k,4,none⟩)],rfl,by rfl,(by go_simp<;>first | rfl | exact⟨rfl,rfl⟩),?_⟩;refine Ag (C4.o _ _ D.o.cl) ?_;rintro bH hk;have E:=hk.blk O.o NX.o;replace NX:=I (hk.not NX.o O.o.lt);replace O:=I E;clear E;have E:=hk.blk Y.o NA.o;replace NA:=I (hk.not NA.o Y.o.lt);replace Y:=I E;clear E;have E:=hk.blk HT.o NT.o;replace NT:=I (hk.not NT.o HT.o.lt);replace HT:=I E;clear E;replace X:=I (X.o.kn hk);replace SA:=I (SA.o.kn hk);replace D:=I (D.o.trans hk);clear hk;clear C4;refine⟨_,rfl,⟨O.o,Y.o,(D.o).cl.blk.cell 10,(D.o).cl.blk.cell 11⟩,?_⟩;simp only[Act.put,J,U,Aa];refine Reg.tw 17 (v:=.agg (tgA Q bv (.slice AA nA cA))) rfl ⟨O.o,Y.o,(D.o).cl.blk.cell 10,(D.o).cl.blk.cell 11⟩ (fun w' hS=>by obtain⟨hX,hA,aM,aL⟩:=hS;refine Cd (t:=55) (by rfl) (by simp only[List.map_toArray,List.map_cons,List.map_nil];exact aF.o _ _ _)) ?_;refine Reg.AI 19 rfl (by kernel_rfl) (by rfl) PT 55 _ (tgA Q bv (.slice AA nA cA)) HT.o (by rfl) (by rfl) (by rfl) BG (MU _ aP.o rfl) ?_;intro bD hV hg;replace HT:=I hV;replace D:=I (D.o.over LT.o NT.o hg);replace O:=I (O.o.grown hg (fun e=>by injection e with e;exact ad.o e.symm));replace Y:=I (Y.o.grown hg (fun e=>by injection e with e;exact aa.o e.symm));replace X:=I (SlT.over X.o hg);replace SA:=I (SlT.over SA.o hg);clear hV hg ad aa;refine⟨⟨O.o,Y.o,(D.o).cl.blk.cell 10,(D.o).cl.blk.cell 11⟩,?_⟩;simp only[Act.put,J,U,Aa];refine wpAnyH_done (by kernel_rfl) ?_ _
    go_wp2_with fail
    go_meet
    exact⟨PT,zz,_,_,rfl,rfl,aK.o,aJ.o,HT.o,NT.o,X.o,(by rw[EA.o];exact SA.o),D.o⟩
  ·left
   have F:Below W2.drew.heap.size W2.drew (W2.drew.alloc (.cells #[.string ⟨#[]⟩,.string ⟨#[]⟩,.int .i64 0,.slice none 0 0,.slice none 0 0,.string ⟨#[]⟩,.string ⟨#[]⟩,.int .i64 0,.int .i64 0] 55)):=Af.alloc Ae _;have E:=Blk.new W2.drew 55 #[.string ⟨#[]⟩,.string ⟨#[]⟩,.int .i64 0,.slice none 0 0,.slice none 0 0,.string ⟨#[]⟩,.string ⟨#[]⟩,.int .i64 0,.int .i64 0];have LT:=I D.o.size;have NT:=I (D.o.cl.fresh (Nat.le_refl W2.drew.heap.size));have ad:=I (Nat.ne_of_lt O.o.lt);have aa:=I (Nat.ne_of_lt Y.o.lt);replace X:=I (SlT.up X.o (Nat.le_refl W2.drew.heap.size));refine⟨_,_,_,_,_,_,.pointer (some ⟨W2.drew.heap.size,0,none⟩),W2.drew.alloc (.cells #[.string ⟨#[]⟩,.string ⟨#[]⟩,.int .i64 0,.slice none 0 0,.slice none 0 0,.string ⟨#[]⟩,.string ⟨#[]⟩,.int .i64 0,.int .i64 0] 55),rfl,by rfl,(by go_simp<;>rfl),⟨(O.o.below F),(Y.o.below F),((D.o.below F)).cl.blk.cell 10,((D.o.below F)).cl.blk.cell 11⟩,?_⟩;simp only[Act.put,J,U,Aa];obtain⟨bo,aB⟩:=Ah (W2.drew.alloc (.cells #[.string ⟨#[]⟩,.string ⟨#[]⟩,.int .i64 0,.slice none 0 0,.slice none 0 0,.string ⟨#[]⟩,.string ⟨#[]⟩,.int .i64 0,.int .i64 0] 55));rw[<-aB] at F E⊢;clear aB;replace D:=I (D.o.below F);replace O:=I (O.o.below F);replace Y:=I (Y.o.below F);replace X:=I (X.o.below F);have HT:=I E;clear E F;obtain⟨PT,ar⟩:=Ah (W2.drew.heap.size);rw[<-ar] at HT LT NT ad aa X⊢;clear ar;refine Reg.b1 5 ?_;have bB:=I HT.o.lt
   right
   refine⟨_,_,_,_,_,_,50,#[pv p.k,pv zb,.int .i64 7,.agg (anA ⟨p.P,now,0⟩)],rfl,by rfl,(by go_simp<;>first | rfl | exact⟨rfl,rfl⟩),?_⟩;refine Calls.mono (by have:=C2.o _ _ _ D.o.cl HY.o;rw[bb.o,ba.o] at this;exact this) ?_;rintro e bs ⟨AA,nA,cA,zz,rfl,ax,aG,hs,hk⟩;have E:=hk.blk O.o NX.o;replace NX:=I (hk.not NX.o O.o.lt);replace O:=I E;clear E;have E:=hk.blk Y.o NA.o;replace NA:=I (hk.not NA.o Y.o.lt);replace Y:=I E;clear E;have E:=hk.blk HT.o NT.o;replace NT:=I (hk.not NT.o HT.o.lt);replace HT:=I E;clear E;replace X:=I (X.o.kn hk);replace D:=I (D.o.trans hk);have aK:=I ax;have aJ:=I aG;have SA:=I (SlT.of_out hs bB.o);clear hk;clear C2 ax aG hs;refine⟨_,rfl,⟨O.o,Y.o,(D.o).cl.blk.cell 10,(D.o).cl.blk.cell 11⟩,?_⟩;simp only[Act.put,J,U,Aa];refine Reg.b1 12 ?_
   right
   refine⟨_,_,_,_,_,_,62,#[.int .i64 now],rfl,by rfl,(by go_simp<;>first | rfl | exact⟨rfl,rfl⟩),?_⟩;refine Ag (C3.o _) ?_;rintro bw hw;subst hw;clear C3;refine⟨_,rfl,⟨O.o,Y.o,(D.o).cl.blk.cell 10,(D.o).cl.blk.cell 11⟩,?_⟩;simp only[Act.put,J,U,Aa];refine Reg.b1 16 ?_
   right
   refine⟨_,_,_,_,_,_,49,#[.pointer (some ⟨p.k,4,none⟩)],rfl,by rfl,(by go_simp<;>first | rfl | exact⟨rfl,rfl⟩),?_⟩;refine Ag (C4.o _ _ D.o.cl) ?_;rintro bu hk;have E:=hk.blk O.o NX.o;replace NX:=I (hk.not NX.o O.o.lt);replace O:=I E;clear E;have E:=hk.blk Y.o NA.o;replace NA:=I (hk.not NA.o Y.o.lt);replace Y:=I E;clear E;have E:=hk.blk HT.o NT.o;replace NT:=I (hk.not NT.o HT.o.lt);replace HT:=I E;clear E;replace X:=I (X.o.kn hk);replace SA:=I (SA.o.kn hk);replace D:=I (D.o.trans hk);clear hk;clear C4;refine⟨_,rfl,⟨O.o,Y.o,(D.o).cl.blk.cell 10,(D.o).cl.blk.cell 11⟩,?_⟩;simp only[Act.put,J,U,Aa];refine Reg.tw 17 (v:=.agg (tgA Q bv (.slice AA nA cA))) rfl ⟨O.o,Y.o,(D.o).cl.blk.cell 10,(D.o).cl.blk.cell 11⟩ (fun w' hS=>by obtain⟨hX,hA,aM,aL⟩:=hS;refine Cd (t:=55) (by rfl) (by simp only[List.map_toArray,List.map_cons,List.map_nil];exact aF.o _ _ _)) ?_;refine Reg.AI 19 rfl (by kernel_rfl) (by rfl) PT 55 _ (tgA Q bv (.slice AA nA cA)) HT.o (by rfl) (by rfl) (by rfl) BG (MU _ aP.o rfl) ?_;intro bI hV hg;replace HT:=I hV;replace D:=I (D.o.over LT.o NT.o hg);replace O:=I (O.o.grown hg (fun e=>by injection e with e;exact ad.o e.symm));replace Y:=I (Y.o.grown hg (fun e=>by injection e with e;exact aa.o e.symm));replace X:=I (SlT.over X.o hg);replace SA:=I (SlT.over SA.o hg);clear hV hg ad aa;refine⟨⟨O.o,Y.o,(D.o).cl.blk.cell 10,(D.o).cl.blk.cell 11⟩,?_⟩;simp only[Act.put,J,U,Aa];refine wpAnyH_done (by kernel_rfl) ?_ _
   go_wp2_with fail
   go_meet
   exact⟨PT,zz,_,_,rfl,rfl,aK.o,aJ.o,HT.o,NT.o,X.o,(by rw[EA.o];exact SA.o),D.o⟩
 case rest=>
  obtain⟨PT,zz,m2,av,rfl,hy,ax,aG,ht,hn,s1,s2,hk⟩:=hcut;have HT:=I ht;have NT:=I hn;have X:=I s1;have SA:=I s2;have D:=I hk;have aN:=I hy;have aK:=I ax;have aJ:=I aG;clear ht hn s1 s2 hk hy ax aG C2 C3 C4 O NX Y NA bh HY bb ba aF
  go_upto_region 4 with fail
  go_cut [] from 41 to 53 (fun wx=>∃(m3:CM),m3.y=some zz/\Blk wx PT 55 (tgA Q bv av)/\¬AO p m3 PT/\SlN (AO p m3) wx bv x.b/\SlN (AO p m3) wx av Q.a/\Tu w wx B p m m3 {s with s:=s.s+1,n:=s.n+1,vs:=s.vs++[r]} (c+2))
  case first=>
   have ao:Below wc.heap.size wc wc.drew:=below_drewN Af 1;replace D:=I (D.o.below ao);replace HT:=I (HT.o.below ao);replace X:=I (X.o.below ao);replace SA:=I (SA.o.below ao);clear ao;refine Reg.AN (fun w'=>True) 14 rfl (by kernel_rfl) trivial ?_;refine Reg.ty 0 rfl trivial ?_;refine Reg.ty 1 rfl trivial ?_;refine Reg.ty 2 rfl trivial ?_;refine Reg.ty 3 rfl trivial ?_;refine Reg.ty 4 rfl trivial ?_;refine Reg.ty 6 rfl trivial ?_;refine Reg.b2 5 7 ?_ ?_
   ·left
    have ak:wc.drew.cell? ⟨p.k,12,none⟩=some m2.vv:=D.o.cl.blk.cell 12;refine⟨_,_,_,_,_,_,m2.vv,wc.drew,rfl,by rfl,(by go_simp<;>rfl),trivial,?_⟩;simp only[Act.put,J,U,Aa];clear ak;refine Reg.b1 7 ?_
    right
    refine⟨_,_,_,_,_,_,59,#[.string ⟨r.toArray⟩],rfl,by rfl,(by go_simp<;>first | rfl | exact⟨rfl,rfl⟩),?_⟩;refine Ag (C5.o _) ?_;rintro ae F;replace D:=I (D.o.below F);replace HT:=I (HT.o.below F);replace X:=I (X.o.below F);replace SA:=I (SA.o.below F);clear F;clear C5;refine⟨_,rfl,trivial,?_⟩;simp only[Act.put,J,U,Aa];refine Reg.b1 8 ?_
    left
    have F:Below ae.heap.size ae (ae.alloc (.cells #[.string ⟨r.toArray⟩] 9)):=Af.alloc Ae _;have E:=Blk.new ae 9 #[.string ⟨r.toArray⟩];refine⟨_,_,_,_,_,_,.slice (some ⟨ae.heap.size,0,none⟩) 1 1,ae.alloc (.cells #[.string ⟨r.toArray⟩] 9),rfl,by rfl,(by go_simp<;>rfl),trivial,?_⟩;simp only[Act.put,J,U,Aa];obtain⟨aR,ay⟩:=Ah (ae.alloc (.cells #[.string ⟨r.toArray⟩] 9));rw[<-ay] at F E⊢;clear ay;replace D:=I (D.o.below F);replace HT:=I (HT.o.below F);replace X:=I (X.o.below F);replace SA:=I (SA.o.below F);have HU:=I E;clear E F;obtain⟨PU,aE⟩:=Ah (ae.heap.size);rw[<-aE] at HU⊢;clear aE;refine Reg.b1 9 ?_
    left
    obtain⟨v9,aj,ag,an,al,aA⟩:=QU aR B m2.vv s.vs D.o.cl.vis r PU (HU.o.cell 0) HU.o.lt aY.o D.o.cl.pa.hB;obtain⟨A9,c9,e9,_⟩:=an.slice;obtain⟨n9,az⟩:=Ah ((s.vs++[r]).length);rw[<-az] at e9;subst e9;refine⟨_,_,_,_,_,_,.slice A9 n9 c9,aj,rfl,by rfl,by(simp only[execOp,resolve,invoke,builtin,Sem.run_bind,Sem.run_pure,Result.andThen_ok,List.map_toArray,List.map_cons,List.map_nil,Act.eval];refine(congrArg (fun r=>Result.andThen r _) ag).trans ?_;rfl),trivial,?_⟩;simp only[Act.put,J,U,Aa];have hk:=D.o.cl.append an al aA;have af:Blk aj p.k 94 _:=(al.block p.k D.o.cl.blk.lt (fun e=>D.o.cl.not (i:=3) (i':=0) (j:=p.k) e.symm (by decide) rfl)).trans D.o.cl.blk;have ak:aj.cell? ⟨p.k,12,none⟩=some m2.vv:=af.cell 12;have fz:=af.frozen;clear ag an al aA az;have E:=hk.blk HT.o NT.o;replace NT:=I (hk.not NT.o HT.o.lt);replace HT:=I E;clear E;replace X:=I (hk.sl X.o);replace SA:=I (hk.sl SA.o);replace D:=I (D.o.trans hk);clear hk af;refine Reg.ty 10 rfl trivial ?_;refine Reg.ty 11 rfl trivial ?_;refine Reg.ty 12 rfl trivial ?_;refine Reg.Dd 13 (aj.setCell ⟨p.k,12,none⟩ (.slice A9 n9 c9)) rfl (by kernel_rfl) (by rfl) (by go_simp) trivial ?_;simp only[Act.put,J,U,Aa];clear ak fz;refine wpAnyH_done (by kernel_rfl) ?_ _
    go_wp2_with fail
    go_meet
    exact⟨{m2 with vv:=.slice A9 n9 c9},aN.o,HT.o,NT.o,X.o,SA.o,D.o⟩
   ·right
    refine⟨_,_,_,_,_,_,59,#[.string ⟨r.toArray⟩],rfl,by rfl,(by go_simp<;>first | rfl | exact⟨rfl,rfl⟩),?_⟩;refine Ag (C5.o _) ?_;rintro Z F;replace D:=I (D.o.below F);replace HT:=I (HT.o.below F);replace X:=I (X.o.below F);replace SA:=I (SA.o.below F);clear F;clear C5;refine⟨_,rfl,trivial,?_⟩;simp only[Act.put,J,U,Aa];refine Reg.b2 5 8 ?_ ?_
    ·left
     have ak:Z.cell? ⟨p.k,12,none⟩=some m2.vv:=D.o.cl.blk.cell 12;refine⟨_,_,_,_,_,_,m2.vv,Z,rfl,by rfl,(by go_simp<;>rfl),trivial,?_⟩;simp only[Act.put,J,U,Aa];clear ak;refine Reg.b1 8 ?_
     left
     have F:Below Z.heap.size Z (Z.alloc (.cells #[.string ⟨r.toArray⟩] 9)):=Af.alloc Ae _;have E:=Blk.new Z 9 #[.string ⟨r.toArray⟩];refine⟨_,_,_,_,_,_,.slice (some ⟨Z.heap.size,0,none⟩) 1 1,Z.alloc (.cells #[.string ⟨r.toArray⟩] 9),rfl,by rfl,(by go_simp<;>rfl),trivial,?_⟩;simp only[Act.put,J,U,Aa];obtain⟨aS,aD⟩:=Ah (Z.alloc (.cells #[.string ⟨r.toArray⟩] 9));rw[<-aD] at F E⊢;clear aD;replace D:=I (D.o.below F);replace HT:=I (HT.o.below F);replace X:=I (X.o.below F);replace SA:=I (SA.o.below F);have HU:=I E;clear E F;obtain⟨PU,aE⟩:=Ah (Z.heap.size);rw[<-aE] at HU⊢;clear aE;refine Reg.b1 9 ?_
     left
     obtain⟨v9,ah,ag,an,al,aA⟩:=QU aS B m2.vv s.vs D.o.cl.vis r PU (HU.o.cell 0) HU.o.lt aY.o D.o.cl.pa.hB;obtain⟨A9,c9,e9,_⟩:=an.slice;obtain⟨n9,az⟩:=Ah ((s.vs++[r]).length);rw[<-az] at e9;subst e9;refine⟨_,_,_,_,_,_,.slice A9 n9 c9,ah,rfl,by rfl,by(simp only[execOp,resolve,invoke,builtin,Sem.run_bind,Sem.run_pure,Result.andThen_ok,List.map_toArray,List.map_cons,List.map_nil,Act.eval];refine(congrArg (fun r=>Result.andThen r _) ag).trans ?_;rfl),trivial,?_⟩;simp only[Act.put,J,U,Aa];have hk:=D.o.cl.append an al aA;have af:Blk ah p.k 94 _:=(al.block p.k D.o.cl.blk.lt (fun e=>D.o.cl.not (i:=3) (i':=0) (j:=p.k) e.symm (by decide) rfl)).trans D.o.cl.blk;have ak:ah.cell? ⟨p.k,12,none⟩=some m2.vv:=af.cell 12;have fz:=af.frozen;clear ag an al aA az;have E:=hk.blk HT.o NT.o;replace NT:=I (hk.not NT.o HT.o.lt);replace HT:=I E;clear E;replace X:=I (hk.sl X.o);replace SA:=I (hk.sl SA.o);replace D:=I (D.o.trans hk);clear hk af;refine Reg.ty 10 rfl trivial ?_;refine Reg.ty 11 rfl trivial ?_;refine Reg.ty 12 rfl trivial ?_;refine Reg.Dd 13 (ah.setCell ⟨p.k,12,none⟩ (.slice A9 n9 c9)) rfl (by kernel_rfl) (by rfl) (by go_simp) trivial ?_;simp only[Act.put,J,U,Aa];clear ak fz;refine wpAnyH_done (by kernel_rfl) ?_ _
     go_wp2_with fail
     go_meet
     exact⟨{m2 with vv:=.slice A9 n9 c9},aN.o,HT.o,NT.o,X.o,SA.o,D.o⟩
    ·left
     have F:Below Z.heap.size Z (Z.alloc (.cells #[.string ⟨r.toArray⟩] 9)):=Af.alloc Ae _;have E:=Blk.new Z 9 #[.string ⟨r.toArray⟩];refine⟨_,_,_,_,_,_,.slice (some ⟨Z.heap.size,0,none⟩) 1 1,Z.alloc (.cells #[.string ⟨r.toArray⟩] 9),rfl,by rfl,(by go_simp<;>rfl),trivial,?_⟩;simp only[Act.put,J,U,Aa];obtain⟨au,aC⟩:=Ah (Z.alloc (.cells #[.string ⟨r.toArray⟩] 9));rw[<-aC] at F E⊢;clear aC;replace D:=I (D.o.below F);replace HT:=I (HT.o.below F);replace X:=I (X.o.below F);replace SA:=I (SA.o.below F);have HU:=I E;clear E F;obtain⟨PU,aE⟩:=Ah (Z.heap.size);rw[<-aE] at HU⊢;clear aE;refine Reg.b1 5 ?_
     left
     have ak:au.cell? ⟨p.k,12,none⟩=some m2.vv:=D.o.cl.blk.cell 12;refine⟨_,_,_,_,_,_,m2.vv,au,rfl,by rfl,(by go_simp<;>rfl),trivial,?_⟩;simp only[Act.put,J,U,Aa];clear ak;refine Reg.b1 9 ?_
     left
     obtain⟨v9,ai,ag,an,al,aA⟩:=QU au B m2.vv s.vs D.o.cl.vis r PU (HU.o.cell 0) HU.o.lt aY.o D.o.cl.pa.hB;obtain⟨A9,c9,e9,_⟩:=an.slice;obtain⟨n9,az⟩:=Ah ((s.vs++[r]).length);rw[<-az] at e9;subst e9;refine⟨_,_,_,_,_,_,.slice A9 n9 c9,ai,rfl,by rfl,by(simp only[execOp,resolve,invoke,builtin,Sem.run_bind,Sem.run_pure,Result.andThen_ok,List.map_toArray,List.map_cons,List.map_nil,Act.eval];refine(congrArg (fun r=>Result.andThen r _) ag).trans ?_;rfl),trivial,?_⟩;simp only[Act.put,J,U,Aa];have hk:=D.o.cl.append an al aA;have af:Blk ai p.k 94 _:=(al.block p.k D.o.cl.blk.lt (fun e=>D.o.cl.not (i:=3) (i':=0) (j:=p.k) e.symm (by decide) rfl)).trans D.o.cl.blk;have ak:ai.cell? ⟨p.k,12,none⟩=some m2.vv:=af.cell 12;have fz:=af.frozen;clear ag an al aA az;have E:=hk.blk HT.o NT.o;replace NT:=I (hk.not NT.o HT.o.lt);replace HT:=I E;clear E;replace X:=I (hk.sl X.o);replace SA:=I (hk.sl SA.o);replace D:=I (D.o.trans hk);clear hk af;refine Reg.ty 10 rfl trivial ?_;refine Reg.ty 11 rfl trivial ?_;refine Reg.ty 12 rfl trivial ?_;refine Reg.Dd 13 (ai.setCell ⟨p.k,12,none⟩ (.slice A9 n9 c9)) rfl (by kernel_rfl) (by rfl) (by go_simp) trivial ?_;simp only[Act.put,J,U,Aa];clear ak fz;refine wpAnyH_done (by kernel_rfl) ?_ _
     go_wp2_with fail
     go_meet
     exact⟨{m2 with vv:=.slice A9 n9 c9},aN.o,HT.o,NT.o,X.o,SA.o,D.o⟩
  case rest=>
   obtain⟨m3,hy,ht,hn,s1,s2,hk⟩:=hcut;replace HT:=I ht;replace X:=I s1;replace SA:=I s2;replace D:=I hk;replace aN:=I hy;clear ht hn s1 s2 hk hy C5 NT;have bg:=I (show(Tryz.prog.info? 55).map (·.size)=some (tgA Q bv av).size from BG);have k8:wc.cell? ⟨PT,8,none⟩=some (.int .i64 NN):=by rw[<-EN.o];exact HT.o.cell 8
   have aX:=I (QT Q bv av);obtain⟨ct,bl⟩:=Ah (tgA Q bv av);obtain⟨cm,bj⟩:=Ah (Mc.mgA 2 Mc.zA (tgA Q bv av) Mc.zR Mc.zP Mc.zF);replace C6:=I (fun(w1:World) (m1:CM) (z:Ss)=>C6.o w1 m1 z av);rw[<-bj] at C6 aX;rw[<-bl] at HT bg aX;clear bl bj
   go_upto_region 6 with fail
   obtain⟨W5,aU⟩:=Ah (wc.alloc (.cells (ouA NN zb 8) 90));have F:Below wc.heap.size wc W5:=aU▸Af.alloc Ae _;have HO:=I (show Blk W5 wc.heap.size 90 (ouA NN zb 8) from aU▸Blk.new wc _ _);replace HT:=I (HT.o.below F);replace X:=I (X.o.below F);replace SA:=I (SA.o.below F);replace D:=I (D.o.below F);rw[<-aU];clear aU F k8;have o0:W5.cell? ⟨wc.heap.size,0,none⟩=some (.int .i64 NN):=HO.o.cell 0;have o1:W5.cell? ⟨wc.heap.size,1,none⟩=some (pv zb):=HO.o.cell 1;have o2:W5.cell? ⟨wc.heap.size,2,none⟩=some (.int .i64 8):=HO.o.cell 2;have c6:=C6.o W5 m3 zz D.o.cl aN.o aJ.o X.o SA.o;rw[aK.o,<-bz.o] at c6;clear C6
   go_wp2_with (first
    |(refine Wh.Az (by rfl) 55 (.tmp 12) (by rfl) PT 0 (by rfl) ct _ (Wh.Ab HT.o) Tryz.underlying55 (by rfl) bg.o ?_)
    |(refine Mc.Au (by rfl) 63 #[(0,.const (.int .i64 2)),(2,.tmp 60)] (by rfl) cm (by simp only[List.map_toArray,List.map_cons,List.map_nil];exact aX.o) ?_)
    |(go_at_call 63;refine Calls.mono c6 ?_;rintro e w6 ⟨v,rfl,hs,hk⟩;clear c6 o0 o1 o2;have HV:=I (Out.old D.o.size hs);replace D:=I (D.o.trans hk);clear hs hk)
    |fail)
   go_ret2
   exact⟨v,_,rfl,HV.o,D.o⟩
end
end Cl
end Go.Proofs.YtcpccikongbopaaGreat
