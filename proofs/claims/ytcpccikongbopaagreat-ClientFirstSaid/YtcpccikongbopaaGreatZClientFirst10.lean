import Derived.Test.YtcpccikongbopaaGreatZClientFirst9
set_option maxHeartbeats 25600000
set_option maxRecDepth 100000
set_option linter.unusedVariables false
set_option linter.unusedSimpArgs false
namespace Go.Proofs.YtcpccikongbopaaGreat
namespace Reg
open Go.RowKit Ad
section
variable {P:Program} {ops:Array Oper} {Q:Exit->Act->World->Prop} {md:Region.Mode} {S:World->Prop}
theorem AI (i:Nat) {dst:Option Tmp} {E:TypeId} {x y:Operand} {ty:TypeId} {pos:String} {after:Array _} {guard:Option (Nat×Bool)} {fuel:Nat} {D:Array Bool} {a:Act} {w:World} (hi:ops[i]? = some ⟨dst,.store E x y,ty,pos,after,guard⟩)
  (hr:Region.ready md ops D = [i]) (hw:Region.wanted ⟨dst,.store E x y,ty,pos,after,guard⟩ (yielded ops a.tmps)=true) (g:Nat) (t:TypeId) (old cells:Array Value) (M:Blk w g t old) (Y:a.eval x=.pointer (some ⟨g,0,none⟩)) (hy:a.eval y=.agg cells) (hs:old.size=cells.size)
  (hI:(P.info? E).map (·.size)=some cells.size) (X:cells.all (·.oneCell')=true)
  (h:∀V,Blk V g t cells->w.grownBy V (some g)->S V/\wpAnyH P md ops Q S fuel (D.setIfInBounds i true) (a.put dst undef) V):wpAnyH P md ops Q S (fuel+1) D a w:=by
 have Z:w.there g 0 cells.size:=Wh.BN M 0 _ (by omega);have F:(execOp a.eval ⟨dst,.store E x y,ty,pos,after,guard⟩).run P w=.ok .skip (w.setCells g 0 cells.toList):=by
  unfold execOp;simp only[Y,hy,Instr.storeAt,Instr.sureAddr,Sem.run_bind,Sem.run_pure,Result.andThen_ok,run_storeVar_mid w g 0 E cells Z hI X]
 obtain⟨O,h3⟩:=h _ (Wh.AE M hs) (Wh.Du _ _ _ _);exact Dd i _ hi hr hw F O h3
theorem tk (i:Nat) {dst:Option Tmp} {op:Op} {ty:TypeId} {pos:String} {after:Array _} {guard:Option (Nat×Bool)} {v:Value} {fuel:Nat} {D:Array Bool} {a:Act} {w:World} (F:ops[i]? = some ⟨dst,op,ty,pos,after,guard⟩) (hS:S w)
  (E:∀w',S w'->(execOp a.eval ⟨dst,op,ty,pos,after,guard⟩).run P w'=.ok (.value v) w')
  (h:wpAnyH P md ops Q S fuel (D.setIfInBounds i true) (a.put dst v) w)
  (hs:Region.noSelect ops=true:=by kernel_rfl) (hf:Region.free md ops D i=true:=by kernel_rfl) (hr:(Region.ready md ops D).contains i=true:=by kernel_rfl)
  (hQ:∀c a w,Q (.panic c) (a.put dst v) w->Q (.panic c) a w:=by exact fun _ _ _ h=>h) (hw:Region.wanted ⟨dst,op,ty,pos,after,guard⟩ (yielded ops a.tmps)=true:=by rfl):wpAnyH P md ops Q S (fuel+1) D a w:=
 Hl i F hs hf hr hQ hS hw E h
theorem s0 {α:Type} (l:List α) (i:Nat) (a:α):l.toArray.setIfInBounds i a=(l.set i a).toArray:=List.setIfInBounds_toArray ..
theorem s1 {α:Type} {x:α} {xs:List α} {a:α}:(x :: xs).set 0 a=a :: xs:=rfl
theorem s2 {α:Type} {x:α} {xs:List α} {n:Nat} {a:α}:(x :: xs).set (n+1) a=x :: xs.set n a:=rfl
end
end Reg
namespace Se
open Go.RowKit Ad SeL
theorem Qe (b u:Nat) (ks:Nat->UInt8) (A:Option Addr) (n c:Nat) (l:List UInt8) (w:World) (D:n=l.length) (E:n<=c) (F:Rd w w.heap.size A (bvs l)) (O:l.length<16\/800<l.length\/1099511627776<n8 l) :
  Calls Tryz.prog 113 #[.pointer (some ⟨b,0,none⟩),.int .i64 (u:Int),.slice A n c] w fun e w'=>e=.returned (.bool false)/\w'=w:=by
 by_cases h1:n<16
 ·have t1:decide ((n:Int)<16)=true:=by simp;omega
  clear O F D E h1;go_enter Tryz.func113,Tryz.ntmps113
  go_wp2
  go_ret;exact⟨rfl,rfl⟩
 ·have t1:decide ((n:Int)<16)=false:=by simp;omega
  by_cases h2:800<n
  ·have t2:decide (800<(n:Int))=true:=by simp;omega
   clear O F D E h1 h2;go_enter Tryz.func113,Tryz.ntmps113
   go_wp2
   go_ret;exact⟨rfl,rfl⟩
  ·have t2:decide (800<(n:Int))=false:=by simp;omega
   have h3:1099511627776<n8 l:=by omega
   have X:=Dl w.heap.size A n c l w D (by omega) E F;have M:=Ey (n8 l) false (by simp;omega);obtain⟨N,Y⟩:=Ah (n8 l);rw[<-Y] at X M;clear O F D E h1 h2 h3 Y;go_enter Tryz.func113,Tryz.ntmps113
   go_wp2_with (first
    |(go_at_call 115;refine Ag X ?_;rintro Z hw;have hw:=hw.symm;subst hw;clear X)
    |(go_at_call 141;refine Ag (M _) ?_;rintro Z hw;have hw:=hw.symm;subst hw;clear M))
   go_ret;exact⟨rfl,rfl⟩
theorem Su (b:Nat) (ks:Nat->UInt8) (h:Option Nat) (a o r u:Nat) (A:Option Addr) (n c:Nat) (l:List UInt8) (w:World) (hu:u<=255) (hn:n=l.length) (hc:n<=c) (hr:RdA (Ow b h) w A (bvs l)) (hK:Box w b ks h a o r) (h1:16<=l.length) (h2:l.length<=800) (h3:n8 l<=1099511627776) :
  Calls Tryz.prog 113 #[.pointer (some ⟨b,0,none⟩),.int .i64 (u:Int),.slice A n c] w fun e w'=>e=.returned (.bool (decide (tagL ks u (GF l)=n8 (Gx l))))/\∃g,Box w' b ks (some g) a o r/\Step w w' b h g:=by
 have cw:=Dl w.heap.size A n c l w hn (by omega) hc hr.rd;have f2:=Ey (n8 l) true (by simp;omega);obtain⟨b2,D,rfl⟩:∃b2 D,A=some ⟨b2,D,none⟩:=by
  rcases hr with hx | ⟨b2,D,h4,_⟩
  ·exact Ko hn (by omega) hx
  ·exact⟨b2,D,h4⟩
 obtain⟨k,hk⟩:∃k,n=k+8:=⟨n - 8,by omega⟩;have X:n - 8=k:=by omega
 have F:GF l=l.take k:=by unfold GF;rw[<-hn,X]
 have O:Gx l=l.drop k:=by unfold Gx;rw[<-hn,X]
 have ct:=fun(q:Nat)=>PH b ks h a o r u (some ⟨b2,D,none⟩) k c (GF l) (w.drewN q) hu (by rw[F,List.length_take];omega) (by omega) ((F▸hr.take k).keep (EE (fun _=>False) w q) (fun _ _ x=>x.elim) (fun _ _ x=>x)) (hK.chg (EE (fun _=>False) w q) (fun _ _ x=>x))
 have cl:=fun(w2:World) (hw:RdA (Aw b h w.heap.size) w2 (some ⟨b2,D+k,none⟩) (bvs (Gx l))) (c2:Nat) (ag:8<=c2)=>Dl w2.heap.size (some ⟨b2,D+k,none⟩) 8 c2 (Gx l) w2 (by rw[O,List.length_drop];omega) Ae ag hw.rd
 have ae:RdA (Aw b h w.heap.size) w (some ⟨b2,D+k,none⟩) (bvs (Gx l)):=O▸(hr.drop k).aw Ae;obtain⟨N,eN⟩:=Ah (n8 l);obtain⟨M,eM⟩:=Ah (n8 (Gx l));obtain⟨T,eT⟩:=Ah (tagL ks u (GF l));rw[<-eN] at cw f2;rw[<-eM] at cl⊢;rw[<-eT] at ct⊢;have ah:=I ae;clear ae;have t1:decide ((n:Int)<16)=false:=by simp;omega
 have t2:decide (800<(n:Int))=false:=by simp;omega
 have s1:(k:Int)<=792:=by omega
 have s2:(0:Int)<=(k:Int):=by omega
 have s3:(k:Int)<=(c:Int):=by omega
 have s4:(k:Int)<=(n:Int):=by omega
 have s5:(n:Int)<=(c:Int):=by omega
 have s6:(n:Int) - 8=(k:Int):=by omega
 have s7:IntKind.i64.wrap (k:Int)=(k:Int):=by rw[IntKind.wrap_i64];omega
 have s9:n - k=8:=by omega
 have aj:k<=c:=by omega
 have ai:k<=n:=by omega
 have af:=I hk;clear hk;have HC:=I hc;clear hc;have CL:=I cl;clear cl;clear hK hr hn h1 h2 h3 eN eM eT F O hu X;go_enter Tryz.func113,Tryz.ntmps113
 go_wp2_with (first
  |(go_at_call 115;refine Ag cw ?_;rintro wq hw;have hw:=hw.symm;subst hw;clear cw)
  |(go_at_call 141;refine Ag (f2 _) ?_;rintro wq hw;have hw:=hw.symm;subst hw;clear f2))
 go_quiet (fail)
 have Z:=ct nq;clear ct
 go_wp2_with (first
  |(go_at_call 143;refine Calls.mono Z ?_;rintro e w3 ⟨g,rfl,aa,E⟩;clear Z;have ad:=ah.o.go ((EE (Aw b h w.heap.size) w nq).then E.aw);have ab:=CL.o w3 ad (c - k) (by have:=af.o;have:=HC.o;omega);have B3:=I aa;have Y:=I E;clear aa E ad CL)
  |(go_at_call 115;refine Ag ab ?_;rintro wq hw;have hw:=hw.symm;subst hw;clear ab))
 go_ret;refine⟨?_,g,B3.o,⟨⟨Y.o.1.os,Y.o.1.tape,Y.o.1.output,Y.o.1.size,Y.o.1.block⟩,Y.o.2⟩⟩;show Ending.returned (.bool (decide ((T:Int)=(M:Int))))=_
 congr 3
 exact propext ⟨by omega,by omega⟩
theorem Qf (b:Nat) (ks:Nat->UInt8) (h:Option Nat) (a o r u:Nat) (A:Option Addr) (n c:Nat) (l:List UInt8) (w:World) (hu:u<=255) (E:n=l.length) (M:n<=c) (F:RdA (Ow b h) w A (bvs l)) (D:Box w b ks h a o r) :
  Calls Tryz.prog 113 #[.pointer (some ⟨b,0,none⟩),.int .i64 (u:Int),.slice A n c] w fun e w'=>e=.returned (.bool (isL ks u l))/\∃h',Box w' b ks h' a o r/\CK w w' b h h':=by
 by_cases hx:l.length<16\/800<l.length\/1099511627776<n8 l
 ·refine(Qe b u ks A n c l w E M F.rd hx).mono ?_
  rintro e w' ⟨rfl,hw⟩;subst hw;exact⟨by rw[PK hx],h,D,CK.refl _ _ _⟩
 ·refine(Su b ks h a o r u A n c l w hu E M F D (by omega) (by omega) (by omega)).mono ?_
  rintro e w' ⟨rfl,g,X,O⟩;exact⟨by rw[Sb (by omega) (by omega) (by omega)],some g,X,O.o⟩
theorem Qg (b:Nat) (ks:Nat->UInt8) (h:Option Nat) (a o r u:Nat) (A:Option Addr) (n c:Nat) (l:List UInt8) (w:World) (M:r<1000000) (hu:u<=255) (hn:n=l.length) (hc:n<=c) (hr:RdA (Ow b h) w A (bvs l)) (hK:Box w b ks h a o r) (Z:isL ks u l=false) :
  Calls Tryz.prog 67 #[.pointer (some ⟨b,0,none⟩),.int .i64 (u:Int),.slice A n c] w fun e w'=>e=.returned (.tuple #[.slice none 0 0,.int .i64 3])/\∃h',Box w' b ks h' a o (r+1)/\CK w w' b h h':=by
 have f1:=DK (u:Int) true (by simp;omega);have ci:=Qf b ks h a o r u A n c l w hu hn hc hr hK;rw[Z] at ci;have aa:=I M;clear M;clear hu hn hc hr hK Z;go_enter Tryz.func67,Tryz.ntmps67
 go_wp2_with (first
  |(go_at_call 112;refine Ag (f1 _) ?_;rintro wq hw;have hw:=hw.symm;subst hw;clear f1)
  |(go_at_call 113;refine Ag ci ?_;rintro w2 ⟨h2,D,O⟩;clear ci;have F:w2.cell? ⟨b,54,none⟩=some (.int .i64 (r:Int))/\w2.frozen? ⟨b,54,none⟩=false:=by{cases h2 with | none=>exact⟨XB.cr D,XB.fz D 54⟩ | some g=>exact⟨D.1.cr,D.1.fz 54⟩};have E:=add_one ⟨b,54,none⟩ r w2 aa.o F.1 F.2;have B2:=I D;have S2:=I O;clear D O F)
  |(go_at_call 91;refine Ag E ?_;rintro w7 Y;clear E;have X:=I Y;clear Y))
 go_ret2
 refine⟨rfl,h2,by rw[X.o];exact B2.o.refuses (r+1),?_⟩;rw[X.o];refine⟨S2.o.1.trans ((Chg.refl (fun i=>i=b) w2).set (.inl rfl) _) (fun i _ Z=>.inl Z),S2.o.2⟩
theorem Sv (b:Nat) (ks:Nat->UInt8) (h:Option Nat) (a o r u:Nat) (A:Option Addr) (n c:Nat) (l:List UInt8) (w:World) (aj:o<1000000) (hu:u<=255) (hn:n=l.length) (hc:n<=c) (hr:RdA (Ow b h) w A (bvs l)) (hK:Box w b ks h a o r) (D:isL ks u l=true) :
  Calls Tryz.prog 67 #[.pointer (some ⟨b,0,none⟩),.int .i64 (u:Int),.slice A n c] w fun e w'=>∃g Aq cq,e=.returned (.tuple #[.slice Aq (n - 16) cq,.int .i64 0])/\n - 16<=cq/\cq<=1000/\RdA (Nw w.heap.size g) w' Aq (bvs (mixL ks u (n8 l) (midL l)))/\Box w' b ks (some g) a (o+1) r/\Step w w' b h g:=by
 have f1:=DK (u:Int) true (by simp;omega);have ci:=Qf b ks h a o r u A n c l w hu hn hc hr hK;rw[D] at ci;have hlen:16<=n/\n<=800/\n8 l<=1099511627776:=by
  have:=D;simp only[isL,Bool.and_eq_true,decide_eq_true_eq] at this;omega
 obtain⟨b2,O,rfl⟩:∃b2 O,A=some ⟨b2,O,none⟩:=by
  rcases hr with D | ⟨b2,O,h4,_⟩
  ·exact Ko hn (by omega) D
  ·exact⟨b2,O,h4⟩
 obtain⟨k,hk⟩:∃k,n=k+8:=⟨n - 8,by omega⟩;obtain⟨m,au⟩:∃m,k=m+8:=⟨k - 8,by omega⟩;have E:midL l=(l.take k).drop 8:=by unfold midL GF;rw[<-hn,show n - 8=k by omega]
 have cw:=fun w2 (F:RdA (Aw b h w.heap.size) w2 (some ⟨b2,O,none⟩) (bvs l))=>Dl w2.heap.size (some ⟨b2,O,none⟩) n c l w2 hn (by omega) hc F.rd
 have ct:=fun(w2:World) (F:Option Nat) (Y:RdA (Ow b F) w2 (some ⟨b2,O,none⟩) (bvs l)) (X:Box w2 b ks F a o r)=>Hi b ks F a o r u (n8 l) (some ⟨b2,O+8,none⟩) m (c - 8) (midL l) w2 hu (by omega) (by rw[E,List.length_drop,List.length_take];omega) (by omega) (E▸(Y.take k).drop 8) X
 obtain⟨N,eN⟩:=Ah (n8 l);rw[<-eN] at cw ct⊢;obtain⟨Q,eQ⟩:=Ah (mixL ks u N (midL l));rw[<-eQ] at ct⊢;have aa:n - 16=m:=by omega
 rw[aa];have HR:=I hr;clear hr;have CW:=I cw;clear cw;have CT:=I ct;clear ct;have av:=I aj;clear aj;have s1:(n:Int) - 8=(k:Int):=by omega
 have s2:IntKind.i64.wrap (k:Int)=(k:Int):=by rw[IntKind.wrap_i64];omega
 have s3:(8:Int)<=(k:Int):=by omega
 have s4:(k:Int)<=(c:Int):=by omega
 have s5:k - 8=m:=by omega
 have s6:8<=k:=by omega
 have s8:¬c=8:=by omega
 have s7:k<=c:=by omega
 have aw:=I hk;clear hk;clear hu hn hc hK D hlen eN au E eQ aa;go_enter Tryz.func67,Tryz.ntmps67
 go_wp2_with (first
  |(go_at_call 112;refine Ag (f1 _) ?_;rintro wq hw;have hw:=hw.symm;subst hw;clear f1)
  |(go_at_call 113;refine Ag ci ?_;rintro w2 ⟨F,X,ab⟩;clear ci;have Y:=ab.rda HR.o;have B2:=I X;have S2:=I ab;have R2:=I Y;clear X ab Y))
 have B3:Hid (Box w2.drew b ks F a o r):=B2.o.chg (EE (fun _=>False) w2 1) (fun _ _ x=>x);have S3:Hid (CK w w2.drew b h F):=S2.o.drewN 1;have R3:Hid (RdA (Ow b F) w2.drew (some ⟨b2,O,none⟩) (bvs l)):=R2.o.keep (EE (fun _=>False) w2 1) (fun _ _ x=>x.elim) (fun _ _ x=>x);have an:=CW.o w2.drew ((HR.o.aw Ae).go S3.o.aw);have ad:=CT.o w2.drew F R3.o B3.o;refine wp_region_still_tail 9 (by kernel_rfl) (by kernel_rfl) ?_;simp only[List.take_succ_cons,List.take_zero,List.drop_succ_cons,List.drop_zero];change wpStill _ _ w2.drew _ _ _
 repeat still_step
 still_call an
 repeat still_step
 refine wpStill_nil ?_;change wpList _ _ _ _ _ w2.drew;clear an B2 S2 R2;generalize w2.drew=w3 at B3 S3 R3 ad⊢
 go_wp2_with (first
  |(go_at_call 114;refine Calls.mono ad ?_;rintro e w4 ⟨g,Aq,cq,rfl,ae,ai,ag,M,ao⟩;clear ad;have Z:=add_one ⟨b,53,none⟩ o w4 av.o M.1.co (M.1.fz 53);have B4:=I M;have S4:=I ao;have Q4:=I ag;have C1:=I ae;have C2:=I ai;clear M ao ag ae ai)
  |(go_at_call 91;refine Ag Z ?_;rintro w7 al;clear Z;have ak:=I al;clear al))
 go_ret2
 have ay:=B4.o.lt;have af:Chg (fun i=>i=b) w4 w7:=by rw[ak.o];exact(Chg.refl (fun i=>i=b) w4).set (.inl rfl) _
 have ah:CK w w4 b h (some g):=S3.o.trans S4.o.o;refine⟨g,Aq,cq,rfl,C1.o,C2.o,?_,by rw[ak.o];exact B4.o.opens (o+1),ah.1.trans af (fun i _ D=>.inl D),ah.2.imp (fun e=>e.symm) (fun e=>⟨e.1,by obtain⟨_,g2,ar,az⟩:=e;injection ar with ar;omega⟩)⟩;have ax:=B3.o.lt;refine Q4.o.keep (af.mono (T:=Nw w3.heap.size g) fun i _ D=>.inl (by omega)) (fun _ _ x=>x) (fun i _ D=>?_);rcases D with D | D
 ·exact .inl (by have:=S3.o.1.size;omega)
 ·exact .inr D
theorem Kt (b:Nat) (ks:Nat->UInt8) (h:Option Nat) (a o r:Nat) (u:Int) (A:Option Addr) (n c:Nat) (l:List UInt8) (w:World) (ho:o<1000000) (M:r<1000000) (X:n=l.length) (hc:n<=c) (hr:RdA (Ow b h) w A (bvs l)) (F:Box w b ks h a o r) :
  Calls Tryz.prog 67 #[.pointer (some ⟨b,0,none⟩),.int .i64 u,.slice A n c] w fun e w'=>∃A2 c2 E o' r',e=.returned (.tuple #[.slice A2 (Ck ks u l).1.length c2,.int .i64 (Ck ks u l).2])/\(Ck ks u l).1.length<=c2/\c2<=maxLen/\RdA (Ns w.heap.size b E) w' A2 (bvs (Ck ks u l).1)/\Box w' b ks E a o' r'/\CK w w' b h E/\o'<=o+1/\r'<=r+1:=by
 by_cases hx:0<=u/\u<=255
 ·obtain⟨D,rfl⟩:∃k:Nat,u=(k:Int):=⟨u.toNat,by omega⟩
  cases hi:isL ks D l with
  |true=>
   have e:Ck ks (D:Int) l=(mixL ks D (n8 l) (midL l),0):=by rw[Ck,if_pos hx];show(if isL ks D l=true then _ else _)=_;rw[if_pos hi];rfl
   have hl:=Vq hi;have Z:(mixL ks D (n8 l) (midL l)).length=n - 16:=by rw[Bq,Lq l hl.1,X]
   rw[e];refine(Sv b ks h a o r D A n c l w ho (by omega) X hc hr F hi).mono ?_;rintro e w' ⟨g,A2,c2,rfl,O,Y,h3,h4,h5⟩;exact⟨A2,c2,some g,o+1,r,by rw[Z],by rw[Z];exact O,by unfold maxLen;omega,Xm h3 F.lt,h4,h5.o,Nat.le_refl _,by omega⟩
  |false=>
   have e:Ck ks (D:Int) l=([],3):=by rw[Ck,if_pos hx];show(if isL ks D l=true then _ else _)=_;rw[hi];rfl
   rw[e];refine(Qg b ks h a o r D A n c l w M (by omega) X hc hr F hi).mono ?_;rintro e w' ⟨rfl,E,O,Y⟩;exact⟨none,0,E,o,r+1,rfl,Nat.le_refl _,Nat.zero_le _,.inl rfl,O,Y,by omega,Nat.le_refl _⟩
 ·have e:Ck ks u l=([],1):=by rw[Ck,if_neg hx]
  rw[e];refine(Sa b u _ w hx).mono ?_;rintro e w' ⟨rfl,hw⟩;subst hw;exact⟨none,0,h,o,r,rfl,Nat.le_refl _,Nat.zero_le _,.inl rfl,F,CK.refl _ _ _,by omega,by omega⟩
end Se
namespace Ca
open Go.RowKit Ad Se
open Nm (L)
open Rg (Pr prC prV AY RdR Cg BQ GI)
theorem Jy (p:Pr) (t:Int) (es:List En):its (BX p t es)=rest (its es) p t:=by
 unfold its BX rest;rw[List.filter_map]
 rfl
section
variable {w0 W w2 w5 w6:World} {B r:Nat} {v v1 v6:Value} {es es1:List En} {p:Pr} {t:Int} {e:En}
theorem Qh (h:Ca W B r v es) (hg:W.grownBy w2 v.ownBlock) (ho:w2.ownsRow B 178 39 v1 (BX p t es).length ((BX p t es).flatMap enC)) (Y:v1.ownBlock=v.ownBlock) :
  Ca (w2.setCell ⟨r,0,none⟩ v1) B r v1 (BX p t es)/\Chg (PT r v) W (w2.setCell ⟨r,0,none⟩ v1)/\(∀q,CO r v1 (BX p t es) q->CO r v es q):=by
 have E:Chg (fun q=>q=r) w2 (w2.setCell ⟨r,0,none⟩ v1):=Chg.set (p:=⟨r,0,none⟩) (Chg.refl (fun q=>q=r) w2) (.inl rfl) v1;have Z:Chg (PT r v) W (w2.setCell ⟨r,0,none⟩ v1):=((GI hg).mono (fun q _ x=>.inr x)).trans E (fun q _ x=>.inl x);have O:v1.ownBlock≠some r:=by rw[Y];exact h.vr
 have D:∀y,y∈BX p t es->y∈es:=fun y F=>(List.mem_filter.1 F).1
 refine⟨⟨(h.blk.grown hg h.vr).set 0 v1,BQ E ho (fun k hk x=>O (x▸hk)),h.lo,O,fun y F=>?_,fun y F a X=>?_⟩,Z,fun q M=>?_⟩
 ·have q:=h.off y (D y F)
  exact Ja (h.rd y (D y F)) Z (fun a X x=>by
   have q2:=q a X;rcases x with x | x
   ·exact q2.2.1 x
   ·exact q2.2.2.1 x)
 ·have q:=h.off y (D y F) a X
  exact⟨q.1,q.2.1,by rw[Y];exact q.2.2.1,Nat.lt_of_lt_of_le q.2.2.2 Z.size⟩
 ·rcases M with M | M | ⟨y,F,a,X,M⟩
  ·exact .inl M
  ·exact .inr (.inl (Y▸M))
  ·exact .inr (.inr ⟨y,D y F,a,X,M⟩)
theorem MG (h:Ca w0 B r v es1) (hb:Below w0.heap.size w0 w5) (Z:Ca w5 B r v es1) (hn:Own1 w0 w5 e.A (bvs e.x.b)) (ho:w6.ownsRow B 178 39 v6 (es1++[e]).length ((es1++[e]).flatMap enC)) (hg:w5.grownBy w6 v.ownBlock) (hv:v6.ownBlock=v.ownBlock\/v6.ownBlock=some w5.heap.size) :
  Ca (w6.setCell ⟨r,0,none⟩ v6) B r v6 (es1++[e])/\Chg (PT r v) w0 (w6.setCell ⟨r,0,none⟩ v6)/\(∀q,CO r v6 (es1++[e]) q->CO r v es1 q\/w0.heap.size<=q):=by
 have X:Chg (fun q=>q=r) w6 (w6.setCell ⟨r,0,none⟩ v6):=Chg.set (p:=⟨r,0,none⟩) (Chg.refl (fun q=>q=r) w6) (.inl rfl) v6;have F:Chg (PT r v) w5 (w6.setCell ⟨r,0,none⟩ v6):=((GI hg).mono (fun q _ x=>.inr x)).trans X (fun q _ x=>.inl x);have hc:Chg (PT r v) w0 (w6.setCell ⟨r,0,none⟩ v6):=(Chg.of_below hb).trans F (fun q _ x=>x);have ab:=h.lt;have aa:v6.ownBlock≠some r:=fun x=>by
  rcases hv with g | g
  ·rw[g] at x;exact h.vr x
  ·rw[g] at x;injection x with x;have:=hb.size;omega
 have Y:∀a,e.A=some a->¬PT r v a.block:=fun a O x=>by
  have q:=hn.2 a O;rcases x with x | x
  ·omega
  ·have:=(World.ownsRow.lt h.row _ x).2;omega
 have M:∀y,y∈es1++[e]->y∈es1\/y=e:=fun y D=>by simpa using D
 refine⟨⟨(Z.blk.grown hg Z.vr).set 0 v6,BQ X ho (fun k hk x=>aa (x▸hk)),h.lo,aa,fun y D=>?_,fun y D a O=>?_⟩,hc,fun q E=>?_⟩
 ·rcases M y D with D | rfl
  ·exact Ja (Z.rd y D) F (fun a O x=>by
    have q2:=Z.off y D a O;rcases x with x | x
    ·exact q2.2.1 x
    ·exact q2.2.2.1 x)
  ·exact Ja hn.1 F Y
 ·rcases M y D with D | rfl
  ·have q:=Z.off y D a O
   refine⟨q.1,q.2.1,fun x=>?_,Nat.lt_of_lt_of_le q.2.2.2 F.size⟩;rcases hv with g | g
   ·rw[g] at x;exact q.2.2.1 x
   ·rw[g] at x;injection x with x;omega
  ·have q:=hn.2 a O
   refine⟨Nat.le_trans h.big q.1,by omega,fun x=>?_,Nat.lt_of_lt_of_le q.2 F.size⟩;rcases hv with g | g
   ·rw[g] at x;have:=(World.ownsRow.lt h.row _ x).2;omega
   ·rw[g] at x;injection x with x;omega
 ·rcases E with E | E | ⟨y,D,a,O,E⟩
  ·exact .inl (.inl E)
  ·rcases hv with g | g
   ·exact .inl (.inr (.inl (g▸E)))
   ·rw[g] at E;injection E with E;have:=hb.size;exact .inr (by omega)
  ·rcases M y D with D | rfl
   ·exact .inl (.inr (.inr ⟨y,D,a,O,E⟩))
   ·exact .inr (E▸(hn.2 a O).1)
end
theorem Jz (p:Pr) (x:Cr) (A:Option Addr) (c:Nat):Tryz.prog.built 178 [(0,prV p),(1,.agg (crA x A c))]=some (enA ⟨p,x,A,c⟩):=by
 kernel_rfl
theorem Ku (B r:Nat) (v:Value) (es:List En) (p:Pr) (xs:Array Value) (t:Int) (w W:World) (h:Ca w B r v es) (D:W=((w.alloc (.cells #[.string ⟨p.1.toArray⟩,.string ⟨p.2.toArray⟩] 36)).alloc (.cells xs 102)).alloc (.cells #[.int .i64 t] 3)) :
  Below w.heap.size w W/\Ca W B r v es/\Blk W w.heap.size 36 #[.string ⟨p.1.toArray⟩,.string ⟨p.2.toArray⟩]/\Blk W (w.heap.size+1) 102 xs/\W.cell? ⟨w.heap.size+2,0,none⟩=some (.int .i64 t)/\(∀k,w.heap.size<=k->v.ownBlock≠some k)/\(∀k,w.heap.size<=k->k≠r):=by
 have E:Below w.heap.size w W:=D▸((Af.alloc Ae _).alloc (by simp) _).alloc (by simp;omega) _;refine⟨E,h.below E,D▸((Blk.new w _ _).alloc _).alloc _,?_,?_,fun k hk x=>?_,fun k hk x=>?_⟩
 ·have:=Blk.new (w.alloc (.cells #[.string ⟨p.1.toArray⟩,.string ⟨p.2.toArray⟩] 36)) 102 xs
  simp only[World.size_alloc] at this;exact D▸this.alloc _
 ·have:=Blk.new ((w.alloc (.cells #[.string ⟨p.1.toArray⟩,.string ⟨p.2.toArray⟩] 36)).alloc (.cells xs 102)) 3 #[.int .i64 t]
  simp only[World.size_alloc] at this;rw[D];exact this.cell 0
 ·have:=(World.ownsRow.lt h.row _ x).2;omega
 ·have:=h.lt;omega
theorem Xo (B r:Nat) (v:Value) (es:List En) (p:Pr) (x:Cr) (A:Option Addr) (c:Nat) (t:Int) (w:World) (h:Ca w B r v es) (aU:∀w',Chg (PT r v) w w'->Rd w' w'.heap.size A (bvs x.b)) (h1:p.1.length<=140737488351232) (h2:p.2.length<=140737488351232) (h3:x.s.1.length<=140737488351232) (h4:x.s.2.length<=140737488351232) (h5:x.b.length<=100000000000)
  (hl:es.length<=1000) (aQ:(BX p t es).length<10) :
  Calls Tryz.prog 69 #[.pointer (some ⟨r,0,none⟩),prV p,.agg (crA x A c),.int .i64 t] w fun e w'=>e=.returned (.int .i64 0)/\∃v' A' c',Ca w' B r v' (BX p t es++[⟨p,x,A',c'⟩])/\Chg (PT r v) w w'/\(∀q,CO r v' (BX p t es++[⟨p,x,A',c'⟩]) q->CO r v es q\/w.heap.size<=q):=by
 obtain⟨A0,c0,rfl,_,_,_⟩:=h.num;obtain⟨n,en⟩:=Ah (es.length);obtain⟨v,ev⟩:=Ah (Value.slice A0 es.length c0);rw[<-ev] at h aU⊢;have EV:=I ev;have CP:=I (fun w1=>Jx p w1 h1 h2);have CX:=I (fun(w1:World) (h:Rd w1 w1.heap.size A (bvs x.b))=>Lv x A c w1.heap.size w1 h Ae h3 h4 h5);obtain⟨xs,aS⟩:=Ah (crA x A c);rw[<-aS] at CX⊢;have bq:=I (show(Tryz.prog.info? 102).map (·.size)=some xs.size by rw[aS,AG];exact Bj);obtain⟨W,eW⟩:=Ah (((w.alloc (.cells #[.string ⟨p.1.toArray⟩,.string ⟨p.2.toArray⟩] 36)).alloc (.cells xs 102)).alloc (.cells #[.int .i64 t] 3));obtain⟨M,ak,hp,ba,ht,aG,bl⟩:=Ku B r v es p xs t w W h eW;have CD:=MF es p t (w.heap.size+2) w.heap.size B v W ak.row ak.big ht hp (aG _ (by omega)) (aG _ Ae) hl;have aD:=I aG;have aB:=I bl;obtain⟨es1,aW⟩:=Ah (BX p t es);have aY:=I aW;rw[<-aW] at CD aQ⊢;have HW:=I h;have aK:=I ak;have bs:=I M;have bb:=I hp;have bn:=I ba;have bj:=I aU;have HL:=I aQ;have k0:W.cell? ⟨r,0,none⟩=some (.slice A0 n c0):=by rw[en,<-ev];exact ak.blk.cell 0
 have aw:v=.slice A0 n c0:=by rw[ev,en]
 rw[aw] at CD;rw[<-aw] at CD;have br:=I aw;obtain⟨iE,aX,aV,aT,aZ⟩:=info_parts Qc;have aC:=I aX;have aF:=I aV;have aL:=I aT;have aE:=I aZ;have aH:=I (fun(w1:World) (A':Option Addr) (c':Nat)=>Wh.Gj (P:=Tryz.prog) w1 174 178 (enA ⟨p,x,A',c'⟩) iE _ Tryz.underlying174 aX aV (by rw[aT,Bi]) (by rw[Bi];omega) (by rw[Bi];omega));rw[aw] at CD;clear M ak hp ba ht aG bl h aU h1 h2 h3 h4 h5 hl aQ aS en ev aw aW aX aV aT aZ;go_enter Tryz.func69,Tryz.ntmps69
 go_upto_region 1 with fail
 rw[<-eW];clear eW
 go_upto_region 4 with(first
  |(go_at_call 119;refine Calls.mono CD ?_;rintro e w2 ⟨v1,rfl,ho,hg,hv⟩;obtain⟨A1,c1,rfl,_⟩:=Cg AV ho;rw[<-br.o] at hg hv;have HG:=I hg;have HV:=I hv;have HO:=I ho;clear hg hv ho CD k0;have aP:=aK.o.blk.grown HG.o aK.o.vr;have f0:=aP.frozen 0;have k0:w2.cell? ⟨r,0,none⟩=some v:=aP.cell 0;clear aP)
  |fail)
 obtain⟨m,em⟩:=Ah (es1.length);rw[<-em] at HO HV⊢;have hq:=Qh (p:=p) (t:=t) aK.o HG.o (by rw[<-aY.o,<-em];exact HO.o) HV.o;rw[<-aY.o] at hq;obtain⟨ak,ax,bf⟩:=hq;have ao:=I (show ¬((Value.slice A1 m c1).ownBlock=some w.heap.size\/(Value.slice A1 m c1).ownBlock=some (w.heap.size+1)) from fun x=>by
  rw[HV.o] at x;rcases x with x | x
  ·exact aD.o _ Ae x
  ·exact aD.o _ (by omega) x)
 have al:=I (show r≠w.heap.size/\r≠w.heap.size+1 from⟨fun x=>aB.o _ Ae x.symm,fun x=>aB.o _ (by omega) x.symm⟩);have aN:∀k,w.heap.size<=k->¬PT r v k:=fun k hk x=>by
  rcases x with x | x
  ·exact aB.o k hk x
  ·exact aD.o k hk x
 obtain⟨W3,aO⟩:=Ah (w2.setCell ⟨r,0,none⟩ (.slice A1 m c1));rw[<-aO] at ak ax;have bp:=I (ax.blk bb.o (aN _ Ae));have bh:=I (ax.blk bn.o (aN _ (by omega)));have an:=I ((Chg.of_below bs.o).trans ax (fun q _ x=>x):Chg (PT r v) w W3);have bo:=I (bj.o W3 an.o);have aJ:=I (fun(q:Nat) (hq:CO r (.slice A1 m c1) es1 q)=>(.inl (bf q hq):CO r v es q\/w.heap.size<=q));have aA:=I ak;have aI:=I HV.o;have t2:decide ((10:Int)<=(m:Int))=false:=by simp;have:=HL.o;omega
 have k1:W3.cell? ⟨r,0,none⟩=some (.slice A1 m c1):=ak.blk.cell 0;have EM:=I em;rw[<-aO];clear ak ax bf aN bb bn bj HG HV HO em aO f0 k0 aK aD aB
 go_upto_region 6 with fail
 clear k1;have ar:Below W3.heap.size W3 W3.drew:=below_drewN Af 1;have HB:=I ar;have D:=I (aA.o.below ar);have F:=I (bp.o.below ar);have E:=I (bh.o.below ar);have HR:=I ((bo.o.below ar).more ar.size);obtain⟨N,eN⟩:=Ah (w.heap.size);rw[<-eN] at F E ao al⊢;clear ar eN bp bh bo;refine Reg.AN (fun w'=>Blk w' N 36 #[.string ⟨p.1.toArray⟩,.string ⟨p.2.toArray⟩]/\Blk w' (N+1) 102 xs) 15 rfl (by kernel_rfl) ⟨F.o,E.o⟩ ?_;refine Reg.ty 0 rfl ⟨F.o,E.o⟩ ?_;refine Reg.ty 1 rfl ⟨F.o,E.o⟩ ?_;refine Reg.ty 2 rfl ⟨F.o,E.o⟩ ?_;refine Reg.ty 3 rfl ⟨F.o,E.o⟩ ?_;refine Reg.tw 5 (v:=.agg #[.string ⟨p.1.toArray⟩,.string ⟨p.2.toArray⟩]) rfl ⟨F.o,E.o⟩ (fun w' hS=>by exact Wh.Cy (.tmp 5) rfl rfl hS.1 Tryz.underlying36 rfl AY) ?_;refine Reg.tw 7 (v:=.agg xs) rfl ⟨F.o,E.o⟩ (fun w' hS=>by exact Wh.Cy (.tmp 6) rfl rfl hS.2 Tryz.underlying102 rfl bq.o) ?_;refine Reg.b2 4 6 ?_ ?_
 ·left
  have kr:W3.drew.cell? ⟨r,0,none⟩=some (.slice A1 m c1):=D.o.blk.cell 0;refine⟨_,_,_,_,_,_,_,_,rfl,by rfl,by(go_simp;rfl),⟨F.o,E.o⟩,?_⟩;simp only[Act.put,J,U,Aa];clear kr;refine Reg.b1 6 ?_
  right
  refine⟨_,_,_,_,_,_,121,#[prV p],rfl,by rfl,by go_simp,?_⟩;refine(CP.o _).mono ?_;rintro e bu ⟨rfl,M⟩;replace HB:=HB.t M;replace D:=I (D.o.below M);replace F:=I (F.o.below M);replace E:=I (E.o.below M);replace HR:=I ((HR.o.below M).more M.size);clear M;refine⟨_,rfl,⟨F.o,E.o⟩,?_⟩;simp only[Act.put,J,U,Aa];refine Reg.b1 8 ?_
  right
  refine⟨_,_,_,_,_,_,90,#[.agg xs],rfl,by rfl,by go_simp,?_⟩;refine(CX.o _ HR.o).mono ?_;rintro e ah ⟨A',c',rfl,ho,M,_⟩;have Z:=I (ho.since HB.o.size);replace HB:=HB.t M;replace D:=I (D.o.below M);replace F:=I (F.o.below M);replace E:=I (E.o.below M);clear M ho;refine⟨_,rfl,⟨F.o,E.o⟩,?_⟩;simp only[Act.put,J,U,Aa];refine Reg.tw 9 (v:=.agg (enA (⟨p,x,A',c'⟩:En))) rfl ⟨F.o,E.o⟩ (fun w' hS=>by exact Rg.GJ (by go_simp) (Jz p x A' c')) ?_;refine Reg.b1 10 ?_
  left
  have M:Below ah.heap.size ah (ah.alloc (.cells (enA (⟨p,x,A',c'⟩:En)) 178)):=Af.alloc Ae _;refine⟨_,_,_,_,_,_,.slice (some ⟨ah.heap.size,0,none⟩) 1 1,(ah.alloc (.cells (enA (⟨p,x,A',c'⟩:En)) 178)),rfl,by rfl,Rg.Fp rfl (aH.o _ A' c'),⟨F.o.below M,E.o.below M⟩,?_⟩;simp only[Act.put,J,U,Aa];have ag:=I (Blk.new ah 178 (enA (⟨p,x,A',c'⟩:En)));replace Z:=I (Z.o.below M);replace HB:=HB.t M;replace D:=I (D.o.below M);replace F:=I (F.o.below M);replace E:=I (E.o.below M);clear M;obtain⟨bg,az⟩:=Ah ((ah.alloc (.cells (enA (⟨p,x,A',c'⟩:En)) 178)));rw[<-az] at ag Z HB D F E⊢;clear az;refine Reg.b1 11 ?_
  left
  obtain⟨v6,w6,aa,af,X,aj⟩:=Wh.Ju (P:=Tryz.prog) enC 39 136 AV GK bg 174 174 178 iE _ Tryz.underlying174 aC.o aF.o aL.o aE.o (Bi _) (by omega) B _ es1 D.o.row (⟨p,x,A',c'⟩:En) ah.heap.size ag.o (by have:=EM.o;have:=HL.o;omega) (by omega) D.o.big;have ab:=MG aA.o HB.o D.o Z.o af X aj (w0:=W3);have ae:=D.o.blk.grown X D.o.vr;replace F:=I (F.o.grown X (fun x=>ao.o (Or.inl x)));replace E:=I (E.o.grown X (fun x=>ao.o (Or.inr x)));refine⟨_,_,_,_,_,_,v6,w6,rfl,by rfl,Rg.Hm rfl rfl aa,⟨F.o,E.o⟩,?_⟩;simp only[Act.put,J,U,Aa];refine Reg.ty 12 rfl ⟨F.o,E.o⟩ ?_;refine Reg.ty 13 rfl ⟨F.o,E.o⟩ ?_;obtain⟨A7,c7,e7,_⟩:=Cg AV af;obtain⟨m7,ai⟩:=Ah ((es1++[(⟨p,x,A',c'⟩:En)]).length);rw[<-ai] at e7;subst e7;have f0:=ae.frozen 0;have k6:w6.cell? ⟨r,0,none⟩=some _:=ae.cell 0;refine Reg.Dd 14 (w6.setCell ⟨r,0,none⟩ (.slice A7 m7 c7)) rfl (by kernel_rfl) (by rfl) (by go_simp) ⟨Si.Blk.far F.o _ _ al.o.1,Si.Blk.far E.o _ _ al.o.2⟩ ?_;simp only[Act.put,J,U,Aa];clear f0 k6 ae af X aj aa ai F E D ag Z HB;refine wpAnyH_done (by kernel_rfl) ?_ _;have Y:=I ab;clear ab
  go_wp2
  go_ret;exact⟨rfl,_,A',c',Y.o.1,an.o.trans Y.o.2.1 (fun q _ hq=>hq.imp id (fun z=>aI.o.symm.trans z)),fun q hq=>by
  rcases Y.o.2.2 q hq with k | k
  ·exact aJ.o q k
  ·exact .inr (Nat.le_trans an.o.size k)⟩
 ·right
  refine⟨_,_,_,_,_,_,121,#[prV p],rfl,by rfl,by go_simp,?_⟩;refine(CP.o _).mono ?_;rintro e aR ⟨rfl,M⟩;replace HB:=HB.t M;replace D:=I (D.o.below M);replace F:=I (F.o.below M);replace E:=I (E.o.below M);replace HR:=I ((HR.o.below M).more M.size);clear M;refine⟨_,rfl,⟨F.o,E.o⟩,?_⟩;simp only[Act.put,J,U,Aa];refine Reg.b2 4 8 ?_ ?_
  ·left
   have kr:aR.cell? ⟨r,0,none⟩=some (.slice A1 m c1):=D.o.blk.cell 0;refine⟨_,_,_,_,_,_,_,_,rfl,by rfl,by(go_simp;rfl),⟨F.o,E.o⟩,?_⟩;simp only[Act.put,J,U,Aa];clear kr;refine Reg.b1 8 ?_
   right
   refine⟨_,_,_,_,_,_,90,#[.agg xs],rfl,by rfl,by go_simp,?_⟩;refine(CX.o _ HR.o).mono ?_;rintro e ad ⟨A',c',rfl,ho,M,_⟩;have Z:=I (ho.since HB.o.size);replace HB:=HB.t M;replace D:=I (D.o.below M);replace F:=I (F.o.below M);replace E:=I (E.o.below M);clear M ho;refine⟨_,rfl,⟨F.o,E.o⟩,?_⟩;simp only[Act.put,J,U,Aa];refine Reg.tw 9 (v:=.agg (enA (⟨p,x,A',c'⟩:En))) rfl ⟨F.o,E.o⟩ (fun w' hS=>by exact Rg.GJ (by go_simp) (Jz p x A' c')) ?_;refine Reg.b1 10 ?_
   left
   have M:Below ad.heap.size ad (ad.alloc (.cells (enA (⟨p,x,A',c'⟩:En)) 178)):=Af.alloc Ae _;refine⟨_,_,_,_,_,_,.slice (some ⟨ad.heap.size,0,none⟩) 1 1,(ad.alloc (.cells (enA (⟨p,x,A',c'⟩:En)) 178)),rfl,by rfl,Rg.Fp rfl (aH.o _ A' c'),⟨F.o.below M,E.o.below M⟩,?_⟩;simp only[Act.put,J,U,Aa];have ag:=I (Blk.new ad 178 (enA (⟨p,x,A',c'⟩:En)));replace Z:=I (Z.o.below M);replace HB:=HB.t M;replace D:=I (D.o.below M);replace F:=I (F.o.below M);replace E:=I (E.o.below M);clear M;obtain⟨bm,ay⟩:=Ah ((ad.alloc (.cells (enA (⟨p,x,A',c'⟩:En)) 178)));rw[<-ay] at ag Z HB D F E⊢;clear ay;refine Reg.b1 11 ?_
   left
   obtain⟨v6,w6,aa,af,X,aj⟩:=Wh.Ju (P:=Tryz.prog) enC 39 136 AV GK bm 174 174 178 iE _ Tryz.underlying174 aC.o aF.o aL.o aE.o (Bi _) (by omega) B _ es1 D.o.row (⟨p,x,A',c'⟩:En) ad.heap.size ag.o (by have:=EM.o;have:=HL.o;omega) (by omega) D.o.big;have ab:=MG aA.o HB.o D.o Z.o af X aj (w0:=W3);have ae:=D.o.blk.grown X D.o.vr;replace F:=I (F.o.grown X (fun x=>ao.o (Or.inl x)));replace E:=I (E.o.grown X (fun x=>ao.o (Or.inr x)));refine⟨_,_,_,_,_,_,v6,w6,rfl,by rfl,Rg.Hm rfl rfl aa,⟨F.o,E.o⟩,?_⟩;simp only[Act.put,J,U,Aa];refine Reg.ty 12 rfl ⟨F.o,E.o⟩ ?_;refine Reg.ty 13 rfl ⟨F.o,E.o⟩ ?_;obtain⟨A7,c7,e7,_⟩:=Cg AV af;obtain⟨m7,ai⟩:=Ah ((es1++[(⟨p,x,A',c'⟩:En)]).length);rw[<-ai] at e7;subst e7;have f0:=ae.frozen 0;have k6:w6.cell? ⟨r,0,none⟩=some _:=ae.cell 0;refine Reg.Dd 14 (w6.setCell ⟨r,0,none⟩ (.slice A7 m7 c7)) rfl (by kernel_rfl) (by rfl) (by go_simp) ⟨Si.Blk.far F.o _ _ al.o.1,Si.Blk.far E.o _ _ al.o.2⟩ ?_;simp only[Act.put,J,U,Aa];clear f0 k6 ae af X aj aa ai F E D ag Z HB;refine wpAnyH_done (by kernel_rfl) ?_ _;have Y:=I ab;clear ab
   go_wp2
   go_ret;exact⟨rfl,_,A',c',Y.o.1,an.o.trans Y.o.2.1 (fun q _ hq=>hq.imp id (fun z=>aI.o.symm.trans z)),fun q hq=>by
  rcases Y.o.2.2 q hq with k | k
  ·exact aJ.o q k
  ·exact .inr (Nat.le_trans an.o.size k)⟩
  ·right
   refine⟨_,_,_,_,_,_,90,#[.agg xs],rfl,by rfl,by go_simp,?_⟩;refine(CX.o _ HR.o).mono ?_;rintro e O ⟨A',c',rfl,ho,M,_⟩;have Z:=I (ho.since HB.o.size);replace HB:=HB.t M;replace D:=I (D.o.below M);replace F:=I (F.o.below M);replace E:=I (E.o.below M);clear M ho;refine⟨_,rfl,⟨F.o,E.o⟩,?_⟩;simp only[Act.put,J,U,Aa];refine Reg.tw 9 (v:=.agg (enA (⟨p,x,A',c'⟩:En))) rfl ⟨F.o,E.o⟩ (fun w' hS=>by exact Rg.GJ (by go_simp) (Jz p x A' c')) ?_;refine Reg.b2 4 10 ?_ ?_
   ·left
    have kr:O.cell? ⟨r,0,none⟩=some (.slice A1 m c1):=D.o.blk.cell 0;refine⟨_,_,_,_,_,_,_,_,rfl,by rfl,by(go_simp;rfl),⟨F.o,E.o⟩,?_⟩;simp only[Act.put,J,U,Aa];clear kr;refine Reg.b1 10 ?_
    left
    have M:Below O.heap.size O (O.alloc (.cells (enA (⟨p,x,A',c'⟩:En)) 178)):=Af.alloc Ae _;refine⟨_,_,_,_,_,_,.slice (some ⟨O.heap.size,0,none⟩) 1 1,(O.alloc (.cells (enA (⟨p,x,A',c'⟩:En)) 178)),rfl,by rfl,Rg.Fp rfl (aH.o _ A' c'),⟨F.o.below M,E.o.below M⟩,?_⟩;simp only[Act.put,J,U,Aa];have ag:=I (Blk.new O 178 (enA (⟨p,x,A',c'⟩:En)));replace Z:=I (Z.o.below M);replace HB:=HB.t M;replace D:=I (D.o.below M);replace F:=I (F.o.below M);replace E:=I (E.o.below M);clear M;obtain⟨bd,av⟩:=Ah ((O.alloc (.cells (enA (⟨p,x,A',c'⟩:En)) 178)));rw[<-av] at ag Z HB D F E⊢;clear av;refine Reg.b1 11 ?_
    left
    obtain⟨v6,w6,aa,af,X,aj⟩:=Wh.Ju (P:=Tryz.prog) enC 39 136 AV GK bd 174 174 178 iE _ Tryz.underlying174 aC.o aF.o aL.o aE.o (Bi _) (by omega) B _ es1 D.o.row (⟨p,x,A',c'⟩:En) O.heap.size ag.o (by have:=EM.o;have:=HL.o;omega) (by omega) D.o.big;have ab:=MG aA.o HB.o D.o Z.o af X aj (w0:=W3);have ae:=D.o.blk.grown X D.o.vr;replace F:=I (F.o.grown X (fun x=>ao.o (Or.inl x)));replace E:=I (E.o.grown X (fun x=>ao.o (Or.inr x)));refine⟨_,_,_,_,_,_,v6,w6,rfl,by rfl,Rg.Hm rfl rfl aa,⟨F.o,E.o⟩,?_⟩;simp only[Act.put,J,U,Aa];refine Reg.ty 12 rfl ⟨F.o,E.o⟩ ?_;refine Reg.ty 13 rfl ⟨F.o,E.o⟩ ?_;obtain⟨A7,c7,e7,_⟩:=Cg AV af;obtain⟨m7,ai⟩:=Ah ((es1++[(⟨p,x,A',c'⟩:En)]).length);rw[<-ai] at e7;subst e7;have f0:=ae.frozen 0;have k6:w6.cell? ⟨r,0,none⟩=some _:=ae.cell 0;refine Reg.Dd 14 (w6.setCell ⟨r,0,none⟩ (.slice A7 m7 c7)) rfl (by kernel_rfl) (by rfl) (by go_simp) ⟨Si.Blk.far F.o _ _ al.o.1,Si.Blk.far E.o _ _ al.o.2⟩ ?_;simp only[Act.put,J,U,Aa];clear f0 k6 ae af X aj aa ai F E D ag Z HB;refine wpAnyH_done (by kernel_rfl) ?_ _;have Y:=I ab;clear ab
    go_wp2
    go_ret;exact⟨rfl,_,A',c',Y.o.1,an.o.trans Y.o.2.1 (fun q _ hq=>hq.imp id (fun z=>aI.o.symm.trans z)),fun q hq=>by
  rcases Y.o.2.2 q hq with k | k
  ·exact aJ.o q k
  ·exact .inr (Nat.le_trans an.o.size k)⟩
   ·left
    have M:Below O.heap.size O (O.alloc (.cells (enA (⟨p,x,A',c'⟩:En)) 178)):=Af.alloc Ae _;refine⟨_,_,_,_,_,_,.slice (some ⟨O.heap.size,0,none⟩) 1 1,(O.alloc (.cells (enA (⟨p,x,A',c'⟩:En)) 178)),rfl,by rfl,Rg.Fp rfl (aH.o _ A' c'),⟨F.o.below M,E.o.below M⟩,?_⟩;simp only[Act.put,J,U,Aa];have ag:=I (Blk.new O 178 (enA (⟨p,x,A',c'⟩:En)));replace Z:=I (Z.o.below M);replace HB:=HB.t M;replace D:=I (D.o.below M);replace F:=I (F.o.below M);replace E:=I (E.o.below M);clear M;obtain⟨aM,au⟩:=Ah ((O.alloc (.cells (enA (⟨p,x,A',c'⟩:En)) 178)));rw[<-au] at ag Z HB D F E⊢;clear au;refine Reg.b1 4 ?_
    left
    have kr:aM.cell? ⟨r,0,none⟩=some (.slice A1 m c1):=D.o.blk.cell 0;refine⟨_,_,_,_,_,_,_,_,rfl,by rfl,by(go_simp;rfl),⟨F.o,E.o⟩,?_⟩;simp only[Act.put,J,U,Aa];clear kr;refine Reg.b1 11 ?_
    left
    obtain⟨v6,w6,aa,af,X,aj⟩:=Wh.Ju (P:=Tryz.prog) enC 39 136 AV GK aM 174 174 178 iE _ Tryz.underlying174 aC.o aF.o aL.o aE.o (Bi _) (by omega) B _ es1 D.o.row (⟨p,x,A',c'⟩:En) O.heap.size ag.o (by have:=EM.o;have:=HL.o;omega) (by omega) D.o.big;have ab:=MG aA.o HB.o D.o Z.o af X aj (w0:=W3);have ae:=D.o.blk.grown X D.o.vr;replace F:=I (F.o.grown X (fun x=>ao.o (Or.inl x)));replace E:=I (E.o.grown X (fun x=>ao.o (Or.inr x)));refine⟨_,_,_,_,_,_,v6,w6,rfl,by rfl,Rg.Hm rfl rfl aa,⟨F.o,E.o⟩,?_⟩;simp only[Act.put,J,U,Aa];refine Reg.ty 12 rfl ⟨F.o,E.o⟩ ?_;refine Reg.ty 13 rfl ⟨F.o,E.o⟩ ?_;obtain⟨A7,c7,e7,_⟩:=Cg AV af;obtain⟨m7,ai⟩:=Ah ((es1++[(⟨p,x,A',c'⟩:En)]).length);rw[<-ai] at e7;subst e7;have f0:=ae.frozen 0;have k6:w6.cell? ⟨r,0,none⟩=some _:=ae.cell 0;refine Reg.Dd 14 (w6.setCell ⟨r,0,none⟩ (.slice A7 m7 c7)) rfl (by kernel_rfl) (by rfl) (by go_simp) ⟨Si.Blk.far F.o _ _ al.o.1,Si.Blk.far E.o _ _ al.o.2⟩ ?_;simp only[Act.put,J,U,Aa];clear f0 k6 ae af X aj aa ai F E D ag Z HB;refine wpAnyH_done (by kernel_rfl) ?_ _;have Y:=I ab;clear ab
    go_wp2
    go_ret;exact⟨rfl,_,A',c',Y.o.1,an.o.trans Y.o.2.1 (fun q _ hq=>hq.imp id (fun z=>aI.o.symm.trans z)),fun q hq=>by
  rcases Y.o.2.2 q hq with k | k
  ·exact aJ.o q k
  ·exact .inr (Nat.le_trans an.o.size k)⟩
theorem Sw (B r:Nat) (v:Value) (es:List En) (p:Pr) (x:Cr) (A:Option Addr) (c:Nat) (t:Int) (w:World) (h:Ca w B r v es) (ae:∀w',Chg (PT r v) w w'->Rd w' w'.heap.size A (bvs x.b)) (h1:p.1.length<=140737488351232) (h2:p.2.length<=140737488351232) (h3:x.s.1.length<=140737488351232) (h4:x.s.2.length<=140737488351232) (h5:x.b.length<=100000000000)
  (hl:es.length<=1000) (aa:10<=(BX p t es).length) :
  Calls Tryz.prog 69 #[.pointer (some ⟨r,0,none⟩),prV p,.agg (crA x A c),.int .i64 t] w fun e w'=>e=.returned (.int .i64 13)/\∃v',Ca w' B r v' (BX p t es)/\Chg (PT r v) w w'/\(∀q,CO r v' (BX p t es) q->CO r v es q\/w.heap.size<=q):=by
 obtain⟨A0,c0,rfl,_,_,_⟩:=h.num;obtain⟨n,en⟩:=Ah (es.length);obtain⟨v,ev⟩:=Ah (Value.slice A0 es.length c0);rw[<-ev] at h ae⊢;have EV:=I ev;have CP:=I (fun Z=>Jx p Z h1 h2);have CX:=I (fun(Z:World) (h:Rd Z Z.heap.size A (bvs x.b))=>Lv x A c Z.heap.size Z h Ae h3 h4 h5);obtain⟨xs,ab⟩:=Ah (crA x A c);rw[<-ab] at CX⊢;have aE:=I (show(Tryz.prog.info? 102).map (·.size)=some xs.size by rw[ab,AG];exact Bj);obtain⟨W,eW⟩:=Ah (((w.alloc (.cells #[.string ⟨p.1.toArray⟩,.string ⟨p.2.toArray⟩] 36)).alloc (.cells xs 102)).alloc (.cells #[.int .i64 t] 3));obtain⟨hb,D,hp,av,ht,O,ax⟩:=Ku B r v es p xs t w W h eW;have CD:=MF es p t (w.heap.size+2) w.heap.size B v W D.row D.big ht hp (O _ (by omega)) (O _ Ae) hl;have X:=I O;have M:=I ax;obtain⟨es1,ai⟩:=Ah (BX p t es);have ao:=I ai;rw[<-ai] at CD aa⊢;have HW:=I h;have Y:=I D;have aB:=I hb;have aw:=I hp;have ay:=I av;have au:=I ae;have HL:=I aa;have k0:W.cell? ⟨r,0,none⟩=some (.slice A0 n c0):=by rw[en,<-ev];exact D.blk.cell 0
 have F:v=.slice A0 n c0:=by rw[ev,en]
 rw[F] at CD;rw[<-F] at CD;have aC:=I F;obtain⟨iE,aj,ag,ad,ar⟩:=info_parts Qc;have aF:=I aj;have aJ:=I ag;have aK:=I ad;have aI:=I ar;have aG:=I (fun(Z:World) (A':Option Addr) (c':Nat)=>Wh.Gj (P:=Tryz.prog) Z 174 178 (enA ⟨p,x,A',c'⟩) iE _ Tryz.underlying174 aj ag (by rw[ad,Bi]) (by rw[Bi];omega) (by rw[Bi];omega));rw[F] at CD;clear hb D hp av ht O ax h ae h1 h2 h3 h4 h5 hl aa ab en ev F ai aj ag ad ar;go_enter Tryz.func69,Tryz.ntmps69
 go_upto_region 1 with fail
 rw[<-eW];clear eW
 go_upto_region 4 with(first
  |(go_at_call 119;refine Calls.mono CD ?_;rintro e w2 ⟨v1,rfl,ho,hg,hv⟩;obtain⟨A1,c1,rfl,_⟩:=Cg AV ho;rw[<-aC.o] at hg hv;have HG:=I hg;have HV:=I hv;have HO:=I ho;clear hg hv ho CD k0;have ak:=Y.o.blk.grown HG.o Y.o.vr;have f0:=ak.frozen 0;have k0:w2.cell? ⟨r,0,none⟩=some v:=ak.cell 0;clear ak)
  |fail)
 obtain⟨m,em⟩:=Ah (es1.length);rw[<-em] at HO HV⊢;have hq:=Qh (p:=p) (t:=t) Y.o HG.o (by rw[<-ao.o,<-em];exact HO.o) HV.o;rw[<-ao.o] at hq;obtain⟨D,E,al⟩:=hq;have aO:=I (show ¬((Value.slice A1 m c1).ownBlock=some w.heap.size\/(Value.slice A1 m c1).ownBlock=some (w.heap.size+1)) from fun x=>by
  rw[HV.o] at x;rcases x with x | x
  ·exact X.o _ Ae x
  ·exact X.o _ (by omega) x)
 have aM:=I (show r≠w.heap.size/\r≠w.heap.size+1 from⟨fun x=>M.o _ Ae x.symm,fun x=>M.o _ (by omega) x.symm⟩);have af:∀k,w.heap.size<=k->¬PT r v k:=fun k hk x=>by
  rcases x with x | x
  ·exact M.o k hk x
  ·exact X.o k hk x
 obtain⟨W3,ah⟩:=Ah (w2.setCell ⟨r,0,none⟩ (.slice A1 m c1));rw[<-ah] at D E;have aN:=I (E.blk aw.o (af _ Ae));have aD:=I (E.blk ay.o (af _ (by omega)));have an:=I ((Chg.of_below aB.o).trans E (fun q _ x=>x):Chg (PT r v) w W3);have aL:=I (au.o W3 an.o);have az:=I (fun(q:Nat) (hq:CO r (.slice A1 m c1) es1 q)=>(.inl (al q hq):CO r v es q\/w.heap.size<=q));have aA:=I D;have aH:=I HV.o;have t2:decide ((10:Int)<=(m:Int))=true:=by simp;have:=HL.o;omega
 have k1:W3.cell? ⟨r,0,none⟩=some (.slice A1 m c1):=D.blk.cell 0;have EM:=I em;rw[<-ah];clear D E al af aw ay au HG HV HO em ah f0 k0 Y X M
 go_wp2
 go_ret;exact⟨rfl,_,aA.o,an.o,az.o⟩
theorem Le (B r:Nat) (v:Value) (es:List En) (p:Pr) (x:Cr) (A:Option Addr) (c:Nat) (t:Int) (w:World) (h:Ca w B r v es) (D:∀w',Chg (PT r v) w w'->Rd w' w'.heap.size A (bvs x.b)) (O:p.1.length<=140737488351232) (F:p.2.length<=140737488351232) (Z:x.s.1.length<=140737488351232) (Y:x.s.2.length<=140737488351232) (X:x.b.length<=100000000000)
  (M:es.length<=1000) :
  Calls Tryz.prog 69 #[.pointer (some ⟨r,0,none⟩),prV p,.agg (crA x A c),.int .i64 t] w fun e w'=>e=.returned (.int .i64 (putE (its es) p t:Int))/\∃v' es',Ca w' B r v' es'/\its es'=putL (its es) p x t/\Chg (PT r v) w w'/\(∀q,CO r v' es' q->CO r v es q\/w.heap.size<=q):=by
 have aa:(rest (its es) p t).length=(BX p t es).length:=by rw[<-Jy,DL]
 by_cases hlt:(BX p t es).length<10
 ·refine(Xo B r v es p x A c t w h D O F Z Y X M hlt).mono ?_
  rintro e w' ⟨rfl,v',A',c',k1,k2,E⟩;refine⟨by rw[putE,if_pos (by omega)];rfl,v',_,k1,?_,k2,E⟩;rw[putL,if_pos (by omega),<-Jy];simp [its,En.it]
 ·refine(Sw B r v es p x A c t w h D O F Z Y X M (by omega)).mono ?_
  rintro e w' ⟨rfl,v',k1,k2,E⟩;refine⟨by rw[putE,if_neg (by omega)];rfl,v',_,k1,?_,k2,E⟩;rw[putL,if_neg (by omega),<-Jy]
open Rg (Bh Bt)
theorem AD {P:Program} {fn:Func} {tmps:Array Value} {w:World} {v u:Value} (t q:Nat) (ty:TypeId) (a:Addr) (D:fn.results=#[.cell t ty,.tmp q]) (X:tmps.getD t undef=.pointer (some a)) (M:(loadVar ty a).run P w=.ok v w) (O:tmps.getD q undef=u) :
  (results fn tmps).run P w=.ok (.tuple #[v,u]) w:=by
 have F:tmps[t]?.getD undef=.pointer (some a):=by simpa using X
 have E:tmps[q]?.getD undef=u:=by simpa using O
 simp [results,D,F,E,asAddr,M]
theorem Xp (B:Nat) (w:World) (hB:B<=w.heap.size):Calls Tryz.prog 54 #[] w fun e w'=>e=.returned (.pointer (some ⟨w.heap.size,0,none⟩))/\Ca w' B w.heap.size (.slice none 0 0) []/\Below w.heap.size w w'/\w'.heap.size=w.heap.size+1:=by
 have D:Ca (w.alloc (.cells #[.slice none 0 0] 176)) B w.heap.size (.slice none 0 0) []:=
  ⟨Blk.new _ _ _,World.ownsRow_nil _ _ _ _,hB,(fun h=>by cases h),(fun e he=>by cases he),(fun e he=>by cases he)⟩
 have H1:=I D;have E:=I ((Below.refl w.heap.size w).alloc Ae (.cells #[.slice none 0 0] 176));clear D;go_enter Tryz.func54,Tryz.ntmps54
 go_wp2
 go_ret;exact⟨rfl,H1.o,E.o,by simp⟩
def Fit (x:Cr):Prop:=x.s.1.length<=140737488351232/\x.s.2.length<=140737488351232/\x.b.length<=100000000000
def Fits (l:List It):Prop:=∀i∈l,Fit i.2
def getX:Option It->Cr
 |none=>DM
 |some i=>i.2
theorem Sx {l:List It} {p:Pr} {t:Int} {i:Nat} {x:It} (X:l[i]? = some x) (F:hitG p t x=true) (E:∀j y,j<i->l[j]? = some y->hitG p t y=false):getO l p t=some x:=by
 obtain⟨M,D⟩:=List.getElem?_eq_some_iff.1 X;unfold getO;rw[List.find?_eq_some_iff_getElem];refine⟨F,i,M,D,fun j O=>?_⟩;have:=E j _ O (List.getElem?_eq_getElem (by omega));simp [this]
theorem Qi {l:List It} {p:Pr} {t:Int} (F:∀j y,j<l.length->l[j]? = some y->hitG p t y=false):getO l p t=none:=by
 unfold getO;rw[List.find?_eq_none];intro x M;obtain⟨j,D,E⟩:=List.getElem_of_mem M;have:=F j x D (by rw[<-E];exact List.getElem?_eq_getElem D);simp [this]
theorem Ug {es:List En} {i:Nat} {x:It} (h:(its es)[i]? = some x):∃e,es[i]? = some e/\e.it=x:=by simpa [its] using h
theorem Xq {es:List En} {i:Nat} {e:En} (h:es[i]? = some e):(its es)[i]? = some e.it:=by simp [its,h]
theorem Vw (B r:Nat) (v:Value) (es:List En) (p:Pr) (t:Int) (w:World) (h:Ca w B r v es) (hf:Fits (its es)) (hl:es.length<=1000) :
  Calls Tryz.prog 48 #[.pointer (some ⟨r,0,none⟩),prV p,.int .i64 t] w fun e w'=>∃A c,e=.returned (.tuple #[.agg (crA (getX (getO (its es) p t)) A c),.bool (getO (its es) p t).isSome])/\Own1 w w' A (bvs (getX (getO (its es) p t)).b)/\Below w.heap.size w w'/\(getX (getO (its es) p t)).b.length<=c:=by
 obtain⟨o,eo⟩:=Ah (getO (its es) p t);rw[<-eo];have EO:=I eo;obtain⟨A0,c0,rfl,_,_,hr⟩:=h.num;have ar:=h.blk;obtain⟨n,en⟩:=Ah (es.length);have EN:=I en;rw[<-en] at ar hl;have CX:=I (fun(x:En) (hx:x∈es) (w1:World) (D:Below w.heap.size w w1)=>have q:=hf x.it (List.mem_map.2 ⟨x,hx,rfl⟩);Lv x.x x.A x.c w1.heap.size w1 (((h.rd x hx).below D).more D.size) Ae q.1 q.2.1 q.2.2);have HR:=I hr;have aB:=h.lt;obtain⟨zs,ad⟩:=Ah (crA DM none 0);have aJ:=I ad;have az:=I (ad.trans DY);have aA:=I (show zs.size=37 by rw[ad,AG]);have aK:=I (show(Tryz.prog.info? 102).map (·.size)=some zs.size by rw[ad,AG];exact Bj);have aL:=I (show zs.all (·.oneCell')=true by rw[ad];exact Dv _ _ _);obtain⟨W,eW⟩:=Ah ((w.alloc (.cells #[.string ⟨p.1.toArray⟩,.string ⟨p.2.toArray⟩] 36)).alloc (.cells zs 102));have D:Below w.heap.size w W:=eW▸(Af.alloc Ae _).alloc (by simp) _;have HP:=I (show Blk W w.heap.size 36 #[.string ⟨p.1.toArray⟩,.string ⟨p.2.toArray⟩] from eW▸(Blk.new w _ _).alloc _);have O:=I (show Blk W (w.heap.size+1) 102 zs by have:=Blk.new (w.alloc (.cells #[.string ⟨p.1.toArray⟩,.string ⟨p.2.toArray⟩] 36)) 102 zs;simp only[World.size_alloc] at this;exact eW▸this);have M:=I D;have k0:W.cell? ⟨r,0,none⟩=some (.slice A0 n c0):=(D.cell (p:=⟨r,0,none⟩) aB).trans (ar.cell 0);clear h hf D ar hr eo en ad aB;go_enter Tryz.func48,Tryz.ntmps48
 go_upto_region 1 with fail
 rw[<-az.o,<-eW];clear eW az
 go_wp2
 go_loopw [18] (fun iv wr=>∃i:Nat,i<=n/\iv=.int .i64 (i:Int)/\Below w.heap.size w wr/\Blk wr w.heap.size 36 #[.string ⟨p.1.toArray⟩,.string ⟨p.2.toArray⟩]/\Blk wr (w.heap.size+1) 102 zs/\∀j x,j<i->es[j]? = some x->hitG p t x.it=false) (fun iv _=>n - (intOf iv).toNat)
 case atStart=>exact⟨0,Nat.zero_le _,rfl,M.o,HP.o,O.o,fun j x hj=>absurd hj (Nat.not_lt_zero _)⟩
 case round=>
  clear M HP O k0;obtain⟨i,hi,rfl,D,hp,hz,aw⟩:=hrel;have M:=I D;have HP:=I hp;have O:=I hz;have aj:=I aw;have aC:=I (HR.o.keep D);clear D hp hz aw
  by_cases hlt:i<n
  ·have e1:(i:Int)<(n:Int):=by omega
   have e2:(0:Int)<=(i:Int):=by omega
   obtain⟨x,hx⟩:∃x,es[i]? = some x:=⟨es[i]'(by rw[<-EN.o];exact hlt),List.getElem?_eq_getElem _⟩;obtain⟨g,rfl,aN,av⟩:=aC.o.at_ hx;rw[<-Dp] at av;have ak:=I av;have ao:=Lt;rw[<-Bi x] at ao;have X:=I ao;have ah:=I (Qa x);have HX:=I hx;have HM:=I (List.mem_of_getElem? hx);have CC:=I (CX.o x HM.o);obtain⟨xs,ai⟩:=Ah (crA x.x x.A x.c);rw[<-ai] at CC;have aE:=I (show(Tryz.prog.info? 102).map (·.size)=some xs.size by rw[ai,AG];exact Bj);have aD:=I ai;obtain⟨ds,au⟩:=Ah (enA x);rw[<-au] at ak X ah;have aa:=I au;have aM:=I (show #[Value.string ⟨#[]⟩].size=1 from rfl);clear av ao hx au ai;have al:hitG p t x.it=(decide (x.p=p)&&decide (t<=x.x.e)):=rfl;have F:=I al;clear al
   by_cases hq:x.p=p
   ·have t1:=Bh hq
    rw[decide_eq_true hq] at F;clear hq
    by_cases ht:t<=x.x.e
    ·have t2:decide (t<=x.x.e)=true:=decide_eq_true ht
     rw[t2] at F;clear ht
     go_wp2_with (first
      |(refine Wh.Az (by rfl) 178 (.tmp 20) (by rfl) g _ (by rfl) ds _ ak.o Tryz.underlying178 (by rfl) X.o ?_)
      |(refine Wh.Bs (by rfl) 178 (.tmp 9) (.tmp 21) (by rfl) 178 rfl ds (by rfl) (by rfl) (by rw[aa.o,Bi];rfl) X.o ah.o ?_;rintro V hV D;replace M:=M.t D;replace HP:=I (HP.o.below D);replace O:=I (O.o.below D);have E:=Ks (aa.o▸hV);have af:=I E;have ag:=I (Wh.Ab HP.o);have ke:V.cell? ⟨wr.heap.size,38,none⟩=some (.int .i64 x.x.e):=MD (o:=0) E;have Y:=I (Sk E);clear hV D E)
      |(refine Wh.Az (by rfl) 36 (.tmp 22) (by rfl) _ 0 (by rfl) _ _ (Sj af.o) Tryz.underlying36 (by rfl) AY ?_)
      |(refine Wh.Az (by rfl) 36 (.tmp 4) (by rfl) _ 0 (by rfl) _ _ ag.o Tryz.underlying36 (by rfl) AY ?_)
      |(refine Wh.Az (by rfl) 102 (.tmp 33) (by rfl) _ 2 (by rfl) xs _ (by rw[aD.o,IZ];exact Y.o) Tryz.underlying102 (by rfl) aE.o ?_)
      |(go_at_call 90;refine Calls.mono (CC.o _ M.o) ?_;rintro e w2 ⟨A',c',rfl,ho,D,an⟩;have ax:=I an;clear an;have aI:=I (show ∀p,A'=some p->p.block≠w.heap.size+1 from fun p hp=>by have:=O.o.lt;have:=(ho.2 p hp).1;omega);replace O:=I (O.o.below D);have HO:=I (ho.since M.o.size);replace M:=M.t D;obtain⟨rs,ab⟩:∃rs,rs=crA x.x A' c':=⟨_,rfl⟩;rw[<-ab];have aG:=I ab;have aH:=I (show rs.size=37 by rw[ab,AG]);have ay:=I (show(Tryz.prog.info? 102).map (·.size)=some rs.size by rw[ab,AG];exact Bj);have aF:=I (show rs.all (·.oneCell')=true by rw[ab];exact Dv _ _ _);clear ho D ab ke)
      |(refine Wh.BO (by rfl) 102 (.tmp 6) (.tmp 35) (by rfl) (w.heap.size+1) 102 _ O.o rs (by rfl) (by rfl) (by rw[aA.o,aH.o]) ay.o aF.o ?_;rintro V2 ae hg;have HV:=I ae;replace M:=I (btg M.o hg (by omega));replace HO:=I (HO.o.chg (Chg.of_grown (S:=fun k=>k=w.heap.size+1) hg rfl) (fun p hp=>aI.o p hp));clear ae hg)
      |fail)
     have ho:o=some x.it:=by
      rw[EO.o];refine Sx (Xq HX.o) (F.o.trans rfl) (fun j y hj Z=>?_);obtain⟨e,he,rfl⟩:=Ug Z;exact aj.o j e hj he
     clear EO;subst ho;refine bodyPost_ret (v:=.tuple #[.agg rs,.bool true]) ?_ ?_ ?_
     ·exact AD 6 7 102 ⟨w.heap.size+1,0,none⟩ Tryz.results48 (by rfl) (Wh.Am HV.o Tryz.underlying102 (by rfl) ay.o) (by rfl)
     ·rfl
     ·exact⟨A',c',by rw[aG.o];rfl,HO.o,M.o,ax.o⟩
    ·have t2:decide (t<=x.x.e)=false:=decide_eq_false ht
     rw[t2] at F;clear ht
     go_wp2_with (first
      |(refine Wh.Az (by rfl) 178 (.tmp 20) (by rfl) g _ (by rfl) ds _ ak.o Tryz.underlying178 (by rfl) X.o ?_)
      |(refine Wh.Bs (by rfl) 178 (.tmp 9) (.tmp 21) (by rfl) 178 rfl ds (by rfl) (by rfl) (by rw[aa.o,Bi];rfl) X.o ah.o ?_;rintro V hV D;replace M:=M.t D;replace HP:=I (HP.o.below D);replace O:=I (O.o.below D);have E:=Ks (aa.o▸hV);have af:=I E;have ag:=I (Wh.Ab HP.o);have ke:V.cell? ⟨wr.heap.size,38,none⟩=some (.int .i64 x.x.e):=MD (o:=0) E;have Y:=I (Sk E);clear hV D E)
      |(refine Wh.Az (by rfl) 36 (.tmp 22) (by rfl) _ 0 (by rfl) _ _ (Sj af.o) Tryz.underlying36 (by rfl) AY ?_)
      |(refine Wh.Az (by rfl) 36 (.tmp 4) (by rfl) _ 0 (by rfl) _ _ ag.o Tryz.underlying36 (by rfl) AY ?_)
      |fail)
     go_roundw
     case rel=>exact⟨i+1,by omega,by go_num,M.o,HP.o,O.o,fun j y hj Z=>by
      rcases Nat.lt_or_eq_of_le (Nat.le_of_lt_succ hj) with g | g
      ·exact aj.o j y g Z
      ·rw[g,HX.o] at Z
       injection Z with Z;rw[<-Z];exact F.o.trans rfl⟩
     case measure=>simp [intOf];omega
   ·have t1:=Bt hq
    rw[decide_eq_false hq] at F;clear hq
    go_wp2_with (first
     |(refine Wh.Az (by rfl) 178 (.tmp 20) (by rfl) g _ (by rfl) ds _ ak.o Tryz.underlying178 (by rfl) X.o ?_)
     |(refine Wh.Bs (by rfl) 178 (.tmp 9) (.tmp 21) (by rfl) 178 rfl ds (by rfl) (by rfl) (by rw[aa.o,Bi];rfl) X.o ah.o ?_;rintro V hV D;replace M:=M.t D;replace HP:=I (HP.o.below D);replace O:=I (O.o.below D);have E:=Ks (aa.o▸hV);have af:=I E;have ag:=I (Wh.Ab HP.o);have ke:V.cell? ⟨wr.heap.size,38,none⟩=some (.int .i64 x.x.e):=MD (o:=0) E;have Y:=I (Sk E);clear hV D E)
     |(refine Wh.Az (by rfl) 36 (.tmp 22) (by rfl) _ 0 (by rfl) _ _ (Sj af.o) Tryz.underlying36 (by rfl) AY ?_)
     |(refine Wh.Az (by rfl) 36 (.tmp 4) (by rfl) _ 0 (by rfl) _ _ ag.o Tryz.underlying36 (by rfl) AY ?_)
     |fail)
    go_roundw
    case rel=>exact⟨i+1,by omega,by go_num,M.o,HP.o,O.o,fun j y hj Z=>by
     rcases Nat.lt_or_eq_of_le (Nat.le_of_lt_succ hj) with g | g
     ·exact aj.o j y g Z
     ·rw[g,HX.o] at Z
      injection Z with Z;rw[<-Z];exact F.o.trans rfl⟩
    case measure=>simp [intOf];omega
  ·have e1:¬(i:Int)<(n:Int):=by omega
   obtain rfl:n=i:=by omega
   have ho:o=none:=by
    rw[EO.o];refine Qi (fun j y hj Z=>?_);rw[DL,<-EN.o] at hj;obtain⟨e,he,rfl⟩:=Ug Z;exact aj.o j e hj he
   clear EO;subst ho
   go_wp2_with (first
    |(refine Wh.BO (by rfl) 102 (.tmp 6) (.tmp 37) (by rfl) (w.heap.size+1) 102 zs O.o (crA DM none 0) (by rfl) (by rfl) (by rw[aA.o,AG]) (by rw[AG];exact Bj) (Dv _ _ _) ?_;rintro V2 ae hg;have HV:=I ae;replace M:=I (btg M.o hg (by omega));clear ae hg)
    |fail)
   refine bodyPost_ret (v:=.tuple #[.agg (crA DM none 0),.bool false]) ?_ ?_ ?_
   ·exact AD 6 7 102 ⟨w.heap.size+1,0,none⟩ Tryz.results48 (by rfl) (Wh.Am HV.o Tryz.underlying102 (by rfl) (by rw[AG];exact Bj)) (by rfl)
   ·rfl
   ·first
    |exact⟨none,0,rfl,Own1.none _ _,M.o,Nat.le_refl _⟩
end Ca
namespace Ca
open Go.RowKit Ad Se
open Nm (L)
open Rg (Pr prC prV AY RdR Cg BQ GI)
section
variable {a w w':World} {B r g:Nat} {v v':Value} {es es':List En} {t:TypeId} {cs:Array Value}
theorem Xr (h:CO r (.slice none 0 0) [] g):g=r:=by
 rcases h with h | h | ⟨e,he,_⟩
 ·exact h
 ·cases h
 ·cases he
end
def PutP (w:World) (B r:Nat) (v:Value) (es:List En) (l:List It) (z:Nat) (e:Ending) (w':World):Prop:=
 e=.returned (.int .i64 (z:Int))/\∃v' es',Ca w' B r v' es'/\its es'=l/\Chg (PT r v) w w'/\(∀q,CO r v' es' q->CO r v es q\/w.heap.size<=q)
theorem put_b {B r:Nat} {v:Value} {es:List En} {w:World} (p:Pr) (x:Cr) (A:Option Addr) (c:Nat) (t:Int) (h:Ca w B r v es) (O:Rd w w.heap.size A (bvs x.b)) (D:∀a,A=some a->x.b≠[]->¬CO r v es a.block) (h1:p.1.length<=140737488351232) (M:p.2.length<=140737488351232) (F:Fit x)
  (hl:es.length<=1000) {l:List It} {z:Nat} (el:putL (its es) p x t=l) (Z:putE (its es) p t=z) :
  Calls Tryz.prog 69 #[.pointer (some ⟨r,0,none⟩),prV p,.agg (crA x A c),.int .i64 t] w (PutP w B r v es l z):=by
 have E:∀w',Chg (PT r v) w w'->Rd w' w'.heap.size A (bvs x.b):=fun w' X=>by
  by_cases hn:x.b = []
  ·rw[hn];exact .inl rfl
  ·exact Ja O X (fun a ha q=>D a ha hn (Vu q))
 refine(Le B r v es p x A c t w h E h1 M F.1 F.2.1 F.2.2 hl).mono ?_;rintro e w' ⟨rfl,v',es',k1,k2,k3,Y⟩;rw[el] at k2;rw[Z];exact⟨rfl,v',es',k1,k2,k3,Y⟩
abbrev p1:Pr:=([65],[120])
open Rg (Bh Bt)
structure DCa (w:World) (N B q:Nat) (v:Value) (es:List En):Prop where
 blk:Blk w q 138 #[v]
 row:w.ownsRow B 331 39 v es.length (es.flatMap enC)
 lo:B<=q
 vq:v.ownBlock≠some q
 nb:N<=B
 rd:∀e∈es,Rd w N e.A (bvs e.x.b)
section
variable {w w':World} {N B q:Nat} {v v':Value} {es es':List En} {S:Nat->Prop}
theorem DCa.lt (h:DCa w N B q v es):q<w.heap.size:=h.blk.lt
theorem DCa.big (h:DCa w N B q v es):B<=w.heap.size:=by have:=h.lo;have:=h.lt;omega
theorem DCa.chg (h:DCa w N B q v es) (D:Chg S w w') (hs:∀k,PT q v k->¬S k) (E:∀k,k<w.heap.size->S k->N<=k):DCa w' N B q v es:=
 ⟨D.blk h.blk (hs q (.inl rfl)),BQ D h.row (fun k hk=>hs k (.inr hk)),h.lo,h.vq,h.nb,fun e he=>(h.rd e he).below (D.below (Nat.le_trans h.nb h.big) E)⟩
theorem DCa.below (h:DCa w N B q v es) (D:Below w.heap.size w w'):DCa w' N B q v es:=h.chg (S:=fun _=>False) (Chg.of_below D) (fun _ _ x=>x) (fun _ _ x=>x.elim)
theorem Sy {t:TypeId} {n m:Nat} {xs:List Value} {B':Nat} (h:w.ownsRow B' t n v m xs) (hB:B<=B'):w.ownsRow B t n v m xs:=by
 refine⟨h.1,?_⟩;rcases h.2 with D | ⟨g,cap,cur,D,E,F⟩
 ·exact .inl D
 ·exact .inr ⟨g,cap,cur,D,Nat.le_trans hB E,F⟩
end
end Ca
end Go.Proofs.YtcpccikongbopaaGreat
