import Derived.Test.YtlccngianpfalaaGreatZClientRequests9
set_option maxHeartbeats 25600000
set_option maxRecDepth 100000
set_option linter.unusedVariables false
set_option linter.unusedSimpArgs false
namespace Go.Proofs.YtlccngianpfalaaGreat
namespace Reg
open Go.RowKit Ae
section
variable {P:Program} {ops:Array Oper} {Q:Exit->Act->World->Prop} {md:Region.Mode} {S:World->Prop}
theorem AP (i:Nat) {dst:Option Tmp} {O:TypeId} {x y:Operand} {ty:TypeId} {pos:String} {after:Array _} {guard:Option (Nat×Bool)} {fuel:Nat} {M:Array Bool} {a:Act} {w:World} (hi:ops[i]? = some ⟨dst,.store O x y,ty,pos,after,guard⟩)
  (hr:Region.ready md ops M = [i]) (hw:Region.wanted ⟨dst,.store O x y,ty,pos,after,guard⟩ (yielded ops a.tmps)=true) (g:Nat) (t:TypeId) (old cells:Array Value) (Y:Blk w g t old) (hx:a.eval x=.pointer (some ⟨g,0,none⟩)) (hy:a.eval y=.agg cells) (hs:old.size=cells.size)
  (hI:(P.info? O).map (·.size)=some cells.size) (h1:cells.all (·.oneCell')=true)
  (h:∀V,Blk V g t cells->w.grownBy V (some g)->S V/\wpAnyH P md ops Q S fuel (M.setIfInBounds i true) (a.put dst undef) V):wpAnyH P md ops Q S (fuel+1) M a w:=by
 have Z:w.there g 0 cells.size:=Wh.BZ Y 0 _ (by omega);have X:(execOp a.eval ⟨dst,.store O x y,ty,pos,after,guard⟩).run P w=.ok .skip (w.setCells g 0 cells.toList):=by
  unfold execOp;simp only[hx,hy,Instr.storeAt,Instr.sureAddr,Sem.run_bind,Sem.run_pure,Result.andThen_ok,run_storeVar_mid w g 0 O cells Z hI h1]
 obtain⟨h2,h3⟩:=h _ (Wh.AI Y hs) (Wh.DK _ _ _ _);exact Dq i _ hi hr hw X h2 h3
theorem tk (i:Nat) {dst:Option Tmp} {op:Op} {ty:TypeId} {pos:String} {after:Array _} {guard:Option (Nat×Bool)} {v:Value} {fuel:Nat} {M:Array Bool} {a:Act} {w:World} (X:ops[i]? = some ⟨dst,op,ty,pos,after,guard⟩) (hS:S w)
  (O:∀w',S w'->(execOp a.eval ⟨dst,op,ty,pos,after,guard⟩).run P w'=.ok (.value v) w')
  (h:wpAnyH P md ops Q S fuel (M.setIfInBounds i true) (a.put dst v) w)
  (hs:Region.noSelect ops=true:=by kernel_rfl) (hf:Region.free md ops M i=true:=by kernel_rfl) (hr:(Region.ready md ops M).contains i=true:=by kernel_rfl)
  (hQ:∀c a w,Q (.panic c) (a.put dst v) w->Q (.panic c) a w:=by exact fun _ _ _ h=>h) (hw:Region.wanted ⟨dst,op,ty,pos,after,guard⟩ (yielded ops a.tmps)=true:=by rfl):wpAnyH P md ops Q S (fuel+1) M a w:=
 Ie i X hs hf hr hQ hS hw O h
theorem s0 {α:Type} (l:List α) (i:Nat) (a:α):l.toArray.setIfInBounds i a=(l.set i a).toArray:=List.setIfInBounds_toArray ..
theorem s1 {α:Type} {x:α} {xs:List α} {a:α}:(x :: xs).set 0 a=a :: xs:=rfl
theorem s2 {α:Type} {x:α} {xs:List α} {n:Nat} {a:α}:(x :: xs).set (n+1) a=x :: xs.set n a:=rfl
end
end Reg
namespace Se
open Go.RowKit Ae SeL
theorem QK (b u:Nat) (ks:Nat->UInt8) (A:Option Addr) (n c:Nat) (l:List UInt8) (w:World) (M:n=l.length) (O:n<=c) (X:Rd w w.heap.size A (bvs l)) (hx:l.length<16\/800<l.length\/1099511627776<n8 l) :
  Calls Tryz.prog 102 #[.pointer (some ⟨b,0,none⟩),.int .i64 (u:Int),.slice A n c] w fun e w'=>e=.returned (.bool false)/\w'=w:=by
 by_cases h1:n<16
 ·have t1:decide ((n:Int)<16)=true:=by simp;omega
  clear hx X M O h1;go_enter Tryz.func102,Tryz.ntmps102
  go_wp2
  go_ret;exact⟨rfl,rfl⟩
 ·have t1:decide ((n:Int)<16)=false:=by simp;omega
  by_cases h2:800<n
  ·have t2:decide (800<(n:Int))=true:=by simp;omega
   clear hx X M O h1 h2;go_enter Tryz.func102,Tryz.ntmps102
   go_wp2
   go_ret;exact⟨rfl,rfl⟩
  ·have t2:decide (800<(n:Int))=false:=by simp;omega
   have h3:1099511627776<n8 l:=by omega
   have Z:=DA w.heap.size A n c l w M (by omega) O X;have Y:=Fv (n8 l) false (by simp;omega);obtain⟨N,eN⟩:=Aj (n8 l);rw[<-eN] at Z Y;clear hx X M O h1 h2 h3 eN;go_enter Tryz.func102,Tryz.ntmps102
   go_wp2_with (first
    |(go_at_call 104;refine Ah Z ?_;rintro wq hw;have hw:=hw.symm;subst hw;clear Z)
    |(go_at_call 150;refine Ah (Y _) ?_;rintro wq hw;have hw:=hw.symm;subst hw;clear Y))
   go_ret;exact⟨rfl,rfl⟩
theorem Tq (b:Nat) (ks:Nat->UInt8) (h:Option Nat) (a o r u:Nat) (A:Option Addr) (n c:Nat) (l:List UInt8) (w:World) (hu:u<=255) (hn:n=l.length) (hc:n<=c) (hr:RdA (Ow b h) w A (bvs l)) (hK:Box w b ks h a o r) (h1:16<=l.length) (h2:l.length<=800) (h3:n8 l<=1099511627776) :
  Calls Tryz.prog 102 #[.pointer (some ⟨b,0,none⟩),.int .i64 (u:Int),.slice A n c] w fun e w'=>e=.returned (.bool (decide (tagL ks u (Fb l)=n8 (DX l))))/\∃g,Box w' b ks (some g) a o r/\Step w w' b h g:=by
 have cw:=DA w.heap.size A n c l w hn (by omega) hc hr.rd;have f2:=Fv (n8 l) true (by simp;omega);obtain⟨b2,O,rfl⟩:∃b2 O,A=some ⟨b2,O,none⟩:=by
  rcases hr with hx | ⟨b2,O,h4,_⟩
  ·exact IL hn (by omega) hx
  ·exact⟨b2,O,h4⟩
 obtain⟨k,hk⟩:∃k,n=k+8:=⟨n - 8,by omega⟩;have aa:n - 8=k:=by omega
 have X:Fb l=l.take k:=by unfold Fb;rw[<-hn,aa]
 have Y:DX l=l.drop k:=by unfold DX;rw[<-hn,aa]
 have ct:=fun(q:Nat)=>Qs b ks h a o r u (some ⟨b2,O,none⟩) k c (Fb l) (w.drewN q) hu (by rw[X,List.length_take];omega) (by omega) ((X▸hr.take k).keep (Fx (fun _=>False) w q) (fun _ _ x=>x.elim) (fun _ _ x=>x)) (hK.chg (Fx (fun _=>False) w q) (fun _ _ x=>x))
 have cl:=fun(w2:World) (hw:RdA (Aw b h w.heap.size) w2 (some ⟨b2,O+k,none⟩) (bvs (DX l))) (c2:Nat) (ai:8<=c2)=>DA w2.heap.size (some ⟨b2,O+k,none⟩) 8 c2 (DX l) w2 (by rw[Y,List.length_drop];omega) Af ai hw.rd
 have ae:RdA (Aw b h w.heap.size) w (some ⟨b2,O+k,none⟩) (bvs (DX l)):=Y▸(hr.drop k).aw Af;obtain⟨N,eN⟩:=Aj (n8 l);obtain⟨M,eM⟩:=Aj (n8 (DX l));obtain⟨T,eT⟩:=Aj (tagL ks u (Fb l));rw[<-eN] at cw f2;rw[<-eM] at cl⊢;rw[<-eT] at ct⊢;have aj:=I ae;clear ae;have t1:decide ((n:Int)<16)=false:=by simp;omega
 have t2:decide (800<(n:Int))=false:=by simp;omega
 have s1:(k:Int)<=792:=by omega
 have s2:(0:Int)<=(k:Int):=by omega
 have s3:(k:Int)<=(c:Int):=by omega
 have s4:(k:Int)<=(n:Int):=by omega
 have s5:(n:Int)<=(c:Int):=by omega
 have s6:(n:Int) - 8=(k:Int):=by omega
 have s7:IntKind.i64.wrap (k:Int)=(k:Int):=by rw[IntKind.wrap_i64];omega
 have s9:n - k=8:=by omega
 have al:k<=c:=by omega
 have ak:k<=n:=by omega
 have ah:=I hk;clear hk;have HC:=I hc;clear hc;have CL:=I cl;clear cl;clear hK hr hn h1 h2 h3 eN eM eT X Y hu aa;go_enter Tryz.func102,Tryz.ntmps102
 go_wp2_with (first
  |(go_at_call 104;refine Ah cw ?_;rintro wq hw;have hw:=hw.symm;subst hw;clear cw)
  |(go_at_call 150;refine Ah (f2 _) ?_;rintro wq hw;have hw:=hw.symm;subst hw;clear f2))
 go_quiet (fail)
 have af:=ct nq;clear ct
 go_wp2_with (first
  |(go_at_call 151;refine Calls.mono af ?_;rintro e w3 ⟨g,rfl,ag,Z⟩;clear af;have ab:=aj.o.go ((Fx (Aw b h w.heap.size) w nq).then Z.aw);have ad:=CL.o w3 ab (c - k) (by have:=ah.o;have:=HC.o;omega);have B3:=I ag;have S3:=I Z;clear ag Z ab CL)
  |(go_at_call 104;refine Ah ad ?_;rintro wq hw;have hw:=hw.symm;subst hw;clear ad))
 go_ret;refine⟨?_,g,B3.o,⟨⟨S3.o.1.os,S3.o.1.tape,S3.o.1.output,S3.o.1.size,S3.o.1.block⟩,S3.o.2⟩⟩;show Ending.returned (.bool (decide ((T:Int)=(M:Int))))=_
 congr 3
 exact propext ⟨by omega,by omega⟩
theorem QL (b:Nat) (ks:Nat->UInt8) (h:Option Nat) (a o r u:Nat) (A:Option Addr) (n c:Nat) (l:List UInt8) (w:World) (hu:u<=255) (M:n=l.length) (X:n<=c) (Y:RdA (Ow b h) w A (bvs l)) (O:Box w b ks h a o r) :
  Calls Tryz.prog 102 #[.pointer (some ⟨b,0,none⟩),.int .i64 (u:Int),.slice A n c] w fun e w'=>e=.returned (.bool (isL ks u l))/\∃h',Box w' b ks h' a o r/\Dh w w' b h h':=by
 by_cases hx:l.length<16\/800<l.length\/1099511627776<n8 l
 ·refine(QK b u ks A n c l w M X Y.rd hx).mono ?_
  rintro e w' ⟨rfl,hw⟩;subst hw;exact⟨by rw[Qv hx],h,O,Dh.refl _ _ _⟩
 ·refine(Tq b ks h a o r u A n c l w hu M X Y O (by omega) (by omega) (by omega)).mono ?_
  rintro e w' ⟨rfl,g,Z,h2⟩;exact⟨by rw[SZ (by omega) (by omega) (by omega)],some g,Z,h2.o⟩
theorem QM (b:Nat) (ks:Nat->UInt8) (h:Option Nat) (a o r u:Nat) (A:Option Addr) (n c:Nat) (l:List UInt8) (w:World) (aa:r<1000000) (hu:u<=255) (hn:n=l.length) (hc:n<=c) (hr:RdA (Ow b h) w A (bvs l)) (hK:Box w b ks h a o r) (hx:isL ks u l=false) :
  Calls Tryz.prog 57 #[.pointer (some ⟨b,0,none⟩),.int .i64 (u:Int),.slice A n c] w fun e w'=>e=.returned (.tuple #[.slice none 0 0,.int .i64 3])/\∃h',Box w' b ks h' a o (r+1)/\Dh w w' b h h':=by
 have f1:=Ee (u:Int) true (by simp;omega);have ci:=QL b ks h a o r u A n c l w hu hn hc hr hK;rw[hx] at ci;have ad:=I aa;clear aa;clear hu hn hc hr hK hx;go_enter Tryz.func57,Tryz.ntmps57
 go_wp2_with (first
  |(go_at_call 101;refine Ah (f1 _) ?_;rintro wq hw;have hw:=hw.symm;subst hw;clear f1)
  |(go_at_call 102;refine Ah ci ?_;rintro w2 ⟨h2,M,Z⟩;clear ci;have X:w2.cell? ⟨b,54,none⟩=some (.int .i64 (r:Int))/\w2.frozen? ⟨b,54,none⟩=false:=by{cases h2 with | none=>exact⟨XB.cr M,XB.fz M 54⟩ | some g=>exact⟨M.1.cr,M.1.fz 54⟩};have O:=add_one ⟨b,54,none⟩ r w2 ad.o X.1 X.2;have B2:=I M;have S2:=I Z;clear M Z X)
  |(go_at_call 88;refine Ah O ?_;rintro w7 Y;clear O;have ab:=I Y;clear Y))
 go_ret2
 refine⟨rfl,h2,by rw[ab.o];exact B2.o.refuses (r+1),?_⟩;rw[ab.o];refine⟨S2.o.1.trans ((Chg.refl (fun i=>i=b) w2).set (.inl rfl) _) (fun i _ hx=>.inl hx),S2.o.2⟩
theorem Ts (b:Nat) (ks:Nat->UInt8) (h:Option Nat) (a o r u:Nat) (A:Option Addr) (n c:Nat) (l:List UInt8) (w:World) (ai:o<1000000) (hu:u<=255) (hn:n=l.length) (hc:n<=c) (hr:RdA (Ow b h) w A (bvs l)) (hK:Box w b ks h a o r) (M:isL ks u l=true) :
  Calls Tryz.prog 57 #[.pointer (some ⟨b,0,none⟩),.int .i64 (u:Int),.slice A n c] w fun e w'=>∃g Aq cq,e=.returned (.tuple #[.slice Aq (n - 16) cq,.int .i64 0])/\n - 16<=cq/\cq<=1000/\RdA (Nw w.heap.size g) w' Aq (bvs (mixL ks u (n8 l) (midL l)))/\Box w' b ks (some g) a (o+1) r/\Step w w' b h g:=by
 have f1:=Ee (u:Int) true (by simp;omega);have ci:=QL b ks h a o r u A n c l w hu hn hc hr hK;rw[M] at ci;have hlen:16<=n/\n<=800/\n8 l<=1099511627776:=by
  have:=M;simp only[isL,Bool.and_eq_true,decide_eq_true_eq] at this;omega
 obtain⟨b2,o2,rfl⟩:∃b2 o2,A=some ⟨b2,o2,none⟩:=by
  rcases hr with M | ⟨b2,o2,h4,_⟩
  ·exact IL hn (by omega) M
  ·exact⟨b2,o2,h4⟩
 obtain⟨k,hk⟩:∃k,n=k+8:=⟨n - 8,by omega⟩;obtain⟨m,aw⟩:∃m,k=m+8:=⟨k - 8,by omega⟩;have O:midL l=(l.take k).drop 8:=by unfold midL Fb;rw[<-hn,show n - 8=k by omega]
 have cw:=fun w2 (X:RdA (Aw b h w.heap.size) w2 (some ⟨b2,o2,none⟩) (bvs l))=>DA w2.heap.size (some ⟨b2,o2,none⟩) n c l w2 hn (by omega) hc X.rd
 have ct:=fun(w2:World) (X:Option Nat) (Z:RdA (Ow b X) w2 (some ⟨b2,o2,none⟩) (bvs l)) (aa:Box w2 b ks X a o r)=>Ia b ks X a o r u (n8 l) (some ⟨b2,o2+8,none⟩) m (c - 8) (midL l) w2 hu (by omega) (by rw[O,List.length_drop,List.length_take];omega) (by omega) (O▸(Z.take k).drop 8) aa
 obtain⟨N,eN⟩:=Aj (n8 l);rw[<-eN] at cw ct⊢;obtain⟨Q,eQ⟩:=Aj (mixL ks u N (midL l));rw[<-eQ] at ct⊢;have ab:n - 16=m:=by omega
 rw[ab];have HR:=I hr;clear hr;have CW:=I cw;clear cw;have CT:=I ct;clear ct;have ax:=I ai;clear ai;have s1:(n:Int) - 8=(k:Int):=by omega
 have s2:IntKind.i64.wrap (k:Int)=(k:Int):=by rw[IntKind.wrap_i64];omega
 have s3:(8:Int)<=(k:Int):=by omega
 have s4:(k:Int)<=(c:Int):=by omega
 have s5:k - 8=m:=by omega
 have s6:8<=k:=by omega
 have s8:¬c=8:=by omega
 have s7:k<=c:=by omega
 have az:=I hk;clear hk;clear hu hn hc hK M hlen eN aw O eQ ab;go_enter Tryz.func57,Tryz.ntmps57
 go_wp2_with (first
  |(go_at_call 101;refine Ah (f1 _) ?_;rintro wq hw;have hw:=hw.symm;subst hw;clear f1)
  |(go_at_call 102;refine Ah ci ?_;rintro w2 ⟨X,aa,ae⟩;clear ci;have Z:=ae.rda HR.o;have B2:=I aa;have S2:=I ae;have R2:=I Z;clear aa ae Z))
 have B3:Hid (Box w2.drew b ks X a o r):=B2.o.chg (Fx (fun _=>False) w2 1) (fun _ _ x=>x);have S3:Hid (Dh w w2.drew b h X):=S2.o.drewN 1;have R3:Hid (RdA (Ow b X) w2.drew (some ⟨b2,o2,none⟩) (bvs l)):=R2.o.keep (Fx (fun _=>False) w2 1) (fun _ _ x=>x.elim) (fun _ _ x=>x);have al:=CW.o w2.drew ((HR.o.aw Af).go S3.o.aw);have af:=CT.o w2.drew X R3.o B3.o;refine wp_region_still_tail 9 (by kernel_rfl) (by kernel_rfl) ?_;simp only[List.take_succ_cons,List.take_zero,List.drop_succ_cons,List.drop_zero];change wpStill _ _ w2.drew _ _ _
 repeat still_step
 still_call al
 repeat still_step
 refine wpStill_nil ?_;change wpList _ _ _ _ _ w2.drew;clear al B2 S2 R2;generalize w2.drew=w3 at B3 S3 R3 af⊢
 go_wp2_with (first
  |(go_at_call 103;refine Calls.mono af ?_;rintro e w4 ⟨g,Aq,cq,rfl,ao,an,av,Y,ar⟩;clear af;have ad:=add_one ⟨b,53,none⟩ o w4 ax.o Y.1.co (Y.1.fz 53);have B4:=I Y;have S4:=I ar;have Q4:=I av;have C1:=I ao;have C2:=I an;clear Y ar av ao an)
  |(go_at_call 88;refine Ah ad ?_;rintro w7 ag;clear ad;have aj:=I ag;clear ag))
 go_ret2
 have ay:=B4.o.lt;have au:Chg (fun i=>i=b) w4 w7:=by rw[aj.o];exact(Chg.refl (fun i=>i=b) w4).set (.inl rfl) _
 have ah:Dh w w4 b h (some g):=S3.o.trans S4.o.o;refine⟨g,Aq,cq,rfl,C1.o,C2.o,?_,by rw[aj.o];exact B4.o.opens (o+1),ah.1.trans au (fun i _ M=>.inl M),ah.2.imp (fun e=>e.symm) (fun e=>⟨e.1,by obtain⟨_,g2,ak,aA⟩:=e;injection ak with ak;omega⟩)⟩;have aB:=B3.o.lt;refine Q4.o.keep (au.mono (T:=Nw w3.heap.size g) fun i _ M=>.inl (by omega)) (fun _ _ x=>x) (fun i _ M=>?_);rcases M with M | M
 ·exact .inl (by have:=S3.o.1.size;omega)
 ·exact .inr M
theorem KX (b:Nat) (ks:Nat->UInt8) (h:Option Nat) (a o r:Nat) (u:Int) (A:Option Addr) (n c:Nat) (l:List UInt8) (w:World) (ho:o<1000000) (aa:r<1000000) (Y:n=l.length) (hc:n<=c) (hr:RdA (Ow b h) w A (bvs l)) (X:Box w b ks h a o r) :
  Calls Tryz.prog 57 #[.pointer (some ⟨b,0,none⟩),.int .i64 u,.slice A n c] w fun e w'=>∃A2 c2 O o' r',e=.returned (.tuple #[.slice A2 (BX ks u l).1.length c2,.int .i64 (BX ks u l).2])/\(BX ks u l).1.length<=c2/\c2<=maxLen/\RdA (Ns w.heap.size b O) w' A2 (bvs (BX ks u l).1)/\Box w' b ks O a o' r'/\Dh w w' b h O/\o'<=o+1/\r'<=r+1:=by
 by_cases hx:0<=u/\u<=255
 ·obtain⟨M,rfl⟩:∃k:Nat,u=(k:Int):=⟨u.toNat,by omega⟩
  cases hi:isL ks M l with
  |true=>
   have e:BX ks (M:Int) l=(mixL ks M (n8 l) (midL l),0):=by rw[BX,if_pos hx];show(if isL ks M l=true then _ else _)=_;rw[if_pos hi];rfl
   have hl:=LW hi;have e2:(mixL ks M (n8 l) (midL l)).length=n - 16:=by rw[Bs,Gj l hl.1,Y]
   rw[e];refine(Ts b ks h a o r M A n c l w ho (by omega) Y hc hr X hi).mono ?_;rintro e w' ⟨g,A2,c2,rfl,Z,h2,h3,h4,h5⟩;exact⟨A2,c2,some g,o+1,r,by rw[e2],by rw[e2];exact Z,by unfold maxLen;omega,XR h3 X.lt,h4,h5.o,Nat.le_refl _,by omega⟩
  |false=>
   have e:BX ks (M:Int) l=([],3):=by rw[BX,if_pos hx];show(if isL ks M l=true then _ else _)=_;rw[hi];rfl
   rw[e];refine(QM b ks h a o r M A n c l w aa (by omega) Y hc hr X hi).mono ?_;rintro e w' ⟨rfl,O,Z,h2⟩;exact⟨none,0,O,o,r+1,rfl,Nat.le_refl _,Nat.zero_le _,.inl rfl,Z,h2,by omega,Nat.le_refl _⟩
 ·have e:BX ks u l=([],1):=by rw[BX,if_neg hx]
  rw[e];refine(SY b u _ w hx).mono ?_;rintro e w' ⟨rfl,hw⟩;subst hw;exact⟨none,0,h,o,r,rfl,Nat.le_refl _,Nat.zero_le _,.inl rfl,X,Dh.refl _ _ _,by omega,by omega⟩
end Se
namespace Ca
open Go.RowKit Ae Se
open Nm (L)
open Rg (Pr prC prV AZ RdR Cv Cf Hf)
theorem JZ (p:Pr) (t:Int) (es:List En):its (Cm p t es)=rest (its es) p t:=by
 unfold its Cm rest;rw[List.filter_map]
 rfl
section
variable {w0 W w2 w5 w6:World} {B r:Nat} {v v1 v6:Value} {es es1:List En} {p:Pr} {t:Int} {e:En}
theorem QN (h:Ca W B r v es) (hg:W.grownBy w2 v.ownBlock) (ho:w2.ownsRow B 186 39 v1 (Cm p t es).length ((Cm p t es).flatMap enC)) (hv:v1.ownBlock=v.ownBlock) :
  Ca (w2.setCell ⟨r,0,none⟩ v1) B r v1 (Cm p t es)/\Chg (PT r v) W (w2.setCell ⟨r,0,none⟩ v1)/\(∀q,CO r v1 (Cm p t es) q->CO r v es q):=by
 have X:Chg (fun q=>q=r) w2 (w2.setCell ⟨r,0,none⟩ v1):=Chg.set (p:=⟨r,0,none⟩) (Chg.refl (fun q=>q=r) w2) (.inl rfl) v1;have hc:Chg (PT r v) W (w2.setCell ⟨r,0,none⟩ v1):=((Hf hg).mono (fun q _ x=>.inr x)).trans X (fun q _ x=>.inl x);have Z:v1.ownBlock≠some r:=by rw[hv];exact h.vr
 have M:∀y,y∈Cm p t es->y∈es:=fun y O=>(List.mem_filter.1 O).1
 refine⟨⟨(h.blk.grown hg h.vr).set 0 v1,Cf X ho (fun k hk x=>Z (x▸hk)),h.lo,Z,fun y O=>?_,fun y O a ha=>?_⟩,hc,fun q Y=>?_⟩
 ·have q:=h.off y (M y O)
  exact Jx (h.rd y (M y O)) hc (fun a ha x=>by
   have q2:=q a ha;rcases x with x | x
   ·exact q2.2.1 x
   ·exact q2.2.2.1 x)
 ·have q:=h.off y (M y O) a ha
  exact⟨q.1,q.2.1,by rw[hv];exact q.2.2.1,Nat.lt_of_lt_of_le q.2.2.2 hc.size⟩
 ·rcases Y with Y | Y | ⟨y,O,a,ha,Y⟩
  ·exact .inl Y
  ·exact .inr (.inl (hv▸Y))
  ·exact .inr (.inr ⟨y,M y O,a,ha,Y⟩)
theorem Nj (h:Ca w0 B r v es1) (hb:Below w0.heap.size w0 w5) (h5:Ca w5 B r v es1) (hn:Own1 w0 w5 e.A (bvs e.x.b)) (ho:w6.ownsRow B 186 39 v6 (es1++[e]).length ((es1++[e]).flatMap enC)) (hg:w5.grownBy w6 v.ownBlock) (hv:v6.ownBlock=v.ownBlock\/v6.ownBlock=some w5.heap.size) :
  Ca (w6.setCell ⟨r,0,none⟩ v6) B r v6 (es1++[e])/\Chg (PT r v) w0 (w6.setCell ⟨r,0,none⟩ v6)/\(∀q,CO r v6 (es1++[e]) q->CO r v es1 q\/w0.heap.size<=q):=by
 have aa:Chg (fun q=>q=r) w6 (w6.setCell ⟨r,0,none⟩ v6):=Chg.set (p:=⟨r,0,none⟩) (Chg.refl (fun q=>q=r) w6) (.inl rfl) v6;have X:Chg (PT r v) w5 (w6.setCell ⟨r,0,none⟩ v6):=((Hf hg).mono (fun q _ x=>.inr x)).trans aa (fun q _ x=>.inl x);have hc:Chg (PT r v) w0 (w6.setCell ⟨r,0,none⟩ v6):=(Chg.of_below hb).trans X (fun q _ x=>x);have ae:=h.lt;have ab:v6.ownBlock≠some r:=fun x=>by
  rcases hv with g | g
  ·rw[g] at x;exact h.vr x
  ·rw[g] at x;injection x with x;have:=hb.size;omega
 have ad:∀a,e.A=some a->¬PT r v a.block:=fun a Z x=>by
  have q:=hn.2 a Z;rcases x with x | x
  ·omega
  ·have:=(World.ownsRow.lt h.row _ x).2;omega
 have O:∀y,y∈es1++[e]->y∈es1\/y=e:=fun y M=>by simpa using M
 refine⟨⟨(h5.blk.grown hg h5.vr).set 0 v6,Cf aa ho (fun k hk x=>ab (x▸hk)),h.lo,ab,fun y M=>?_,fun y M a Z=>?_⟩,hc,fun q Y=>?_⟩
 ·rcases O y M with M | rfl
  ·exact Jx (h5.rd y M) X (fun a Z x=>by
    have q2:=h5.off y M a Z;rcases x with x | x
    ·exact q2.2.1 x
    ·exact q2.2.2.1 x)
  ·exact Jx hn.1 X ad
 ·rcases O y M with M | rfl
  ·have q:=h5.off y M a Z
   refine⟨q.1,q.2.1,fun x=>?_,Nat.lt_of_lt_of_le q.2.2.2 X.size⟩;rcases hv with g | g
   ·rw[g] at x;exact q.2.2.1 x
   ·rw[g] at x;injection x with x;omega
  ·have q:=hn.2 a Z
   refine⟨Nat.le_trans h.big q.1,by omega,fun x=>?_,Nat.lt_of_lt_of_le q.2 X.size⟩;rcases hv with g | g
   ·rw[g] at x;have:=(World.ownsRow.lt h.row _ x).2;omega
   ·rw[g] at x;injection x with x;omega
 ·rcases Y with Y | Y | ⟨y,M,a,Z,Y⟩
  ·exact .inl (.inl Y)
  ·rcases hv with g | g
   ·exact .inl (.inr (.inl (g▸Y)))
   ·rw[g] at Y;injection Y with Y;have:=hb.size;exact .inr (by omega)
  ·rcases O y M with M | rfl
   ·exact .inl (.inr (.inr ⟨y,M,a,Z,Y⟩))
   ·exact .inr (Y▸(hn.2 a Z).1)
end
theorem Ka (p:Pr) (x:Cr) (A:Option Addr) (c:Nat):Tryz.prog.built 186 [(0,prV p),(1,.agg (crA x A c))]=some (enA ⟨p,x,A,c⟩):=by
 kernel_rfl
theorem KY (B r:Nat) (v:Value) (es:List En) (p:Pr) (xs:Array Value) (t:Int) (w W:World) (h:Ca w B r v es) (M:W=((w.alloc (.cells #[.string ⟨p.1.toArray⟩,.string ⟨p.2.toArray⟩] 35)).alloc (.cells xs 96)).alloc (.cells #[.int .i64 t] 3)) :
  Below w.heap.size w W/\Ca W B r v es/\Blk W w.heap.size 35 #[.string ⟨p.1.toArray⟩,.string ⟨p.2.toArray⟩]/\Blk W (w.heap.size+1) 96 xs/\W.cell? ⟨w.heap.size+2,0,none⟩=some (.int .i64 t)/\(∀k,w.heap.size<=k->v.ownBlock≠some k)/\(∀k,w.heap.size<=k->k≠r):=by
 have O:Below w.heap.size w W:=M▸((Ag.alloc Af _).alloc (by simp) _).alloc (by simp;omega) _;refine⟨O,h.below O,M▸((Blk.new w _ _).alloc _).alloc _,?_,?_,fun k hk x=>?_,fun k hk x=>?_⟩
 ·have:=Blk.new (w.alloc (.cells #[.string ⟨p.1.toArray⟩,.string ⟨p.2.toArray⟩] 35)) 96 xs
  simp only[World.size_alloc] at this;exact M▸this.alloc _
 ·have:=Blk.new ((w.alloc (.cells #[.string ⟨p.1.toArray⟩,.string ⟨p.2.toArray⟩] 35)).alloc (.cells xs 96)) 3 #[.int .i64 t]
  simp only[World.size_alloc] at this;rw[M];exact this.cell 0
 ·have:=(World.ownsRow.lt h.row _ x).2;omega
 ·have:=h.lt;omega
theorem XT (B r:Nat) (v:Value) (es:List En) (p:Pr) (x:Cr) (A:Option Addr) (c:Nat) (t:Int) (w:World) (h:Ca w B r v es) (aY:∀w',Chg (PT r v) w w'->Rd w' w'.heap.size A (bvs x.b)) (h1:p.1.length<=140737488351232) (h2:p.2.length<=140737488351232) (h3:x.s.1.length<=140737488351232) (h4:x.s.2.length<=140737488351232) (h5:x.b.length<=100000000000)
  (hl:es.length<=1000) (aT:(Cm p t es).length<10) :
  Calls Tryz.prog 59 #[.pointer (some ⟨r,0,none⟩),prV p,.agg (crA x A c),.int .i64 t] w fun e w'=>e=.returned (.int .i64 0)/\∃v' A' c',Ca w' B r v' (Cm p t es++[⟨p,x,A',c'⟩])/\Chg (PT r v) w w'/\(∀q,CO r v' (Cm p t es++[⟨p,x,A',c'⟩]) q->CO r v es q\/w.heap.size<=q):=by
 obtain⟨A0,c0,rfl,_,_,_⟩:=h.num;obtain⟨n,en⟩:=Aj (es.length);obtain⟨v,ev⟩:=Aj (Value.slice A0 es.length c0);rw[<-ev] at h aY⊢;have EV:=I ev;have CP:=I (fun w1=>JY p w1 h1 h2);have CX:=I (fun(w1:World) (h:Rd w1 w1.heap.size A (bvs x.b))=>Mb x A c w1.heap.size w1 h Af h3 h4 h5);obtain⟨xs,ba⟩:=Aj (crA x A c);rw[<-ba] at CX⊢;have bu:=I (show(Tryz.prog.info? 96).map (·.size)=some xs.size by rw[ba,AN];exact Bt);obtain⟨W,eW⟩:=Aj (((w.alloc (.cells #[.string ⟨p.1.toArray⟩,.string ⟨p.2.toArray⟩] 35)).alloc (.cells xs 96)).alloc (.cells #[.int .i64 t] 3));obtain⟨Y,ao,hp,bo,ht,aO,bd⟩:=KY B r v es p xs t w W h eW;have CD:=Ni es p t (w.heap.size+2) w.heap.size B v W ao.row ao.big ht hp (aO _ (by omega)) (aO _ Af) hl;have aI:=I aO;have aJ:=I bd;obtain⟨es1,aU⟩:=Aj (Cm p t es);have bh:=I aU;rw[<-aU] at CD aT⊢;have HW:=I h;have aE:=I ao;have bw:=I Y;have bl:=I hp;have bq:=I bo;have bp:=I aY;have HL:=I aT;have k0:W.cell? ⟨r,0,none⟩=some (.slice A0 n c0):=by rw[en,<-ev];exact ao.blk.cell 0
 have ax:v=.slice A0 n c0:=by rw[ev,en]
 rw[ax] at CD;rw[<-ax] at CD;have bx:=I ax;obtain⟨iE,aZ,aR,aX,bb⟩:=info_parts QI;have aM:=I aZ;have aH:=I aR;have aF:=I aX;have aN:=I bb;have aL:=I (fun(w1:World) (A':Option Addr) (c':Nat)=>Wh.GJ (P:=Tryz.prog) w1 178 186 (enA ⟨p,x,A',c'⟩) iE _ Tryz.underlying178 aZ aR (by rw[aX,Bp]) (by rw[Bp];omega) (by rw[Bp];omega));rw[ax] at CD;clear Y ao hp bo ht aO bd h aY h1 h2 h3 h4 h5 hl aT ba en ev ax aU aZ aR aX bb;go_enter Tryz.func59,Tryz.ntmps59
 go_upto_region 1 with fail
 rw[<-eW];clear eW
 go_upto_region 4 with(first
  |(go_at_call 108;refine Calls.mono CD ?_;rintro e w2 ⟨v1,rfl,ho,hg,hv⟩;obtain⟨A1,c1,rfl,_⟩:=Cv Be ho;rw[<-bx.o] at hg hv;have HG:=I hg;have HV:=I hv;have HO:=I ho;clear hg hv ho CD k0;have aS:=aE.o.blk.grown HG.o aE.o.vr;have f0:=aS.frozen 0;have k0:=aS.c0;clear aS)
  |fail)
 obtain⟨m,em⟩:=Aj (es1.length);rw[<-em] at HO HV⊢;have hq:=QN (p:=p) (t:=t) aE.o HG.o (by rw[<-bh.o,<-em];exact HO.o) HV.o;rw[<-bh.o] at hq;obtain⟨ao,ay,bf⟩:=hq;have av:=I (show ¬((Value.slice A1 m c1).ownBlock=some w.heap.size\/(Value.slice A1 m c1).ownBlock=some (w.heap.size+1)) from fun x=>by
  rw[HV.o] at x;rcases x with x | x
  ·exact aI.o _ Af x
  ·exact aI.o _ (by omega) x)
 have ar:=I (show r≠w.heap.size/\r≠w.heap.size+1 from⟨fun x=>aJ.o _ Af x.symm,fun x=>aJ.o _ (by omega) x.symm⟩);have aQ:∀k,w.heap.size<=k->¬PT r v k:=fun k hk x=>by
  rcases x with x | x
  ·exact aJ.o k hk x
  ·exact aI.o k hk x
 obtain⟨W3,aW⟩:=Aj (w2.setCell ⟨r,0,none⟩ (.slice A1 m c1));rw[<-aW] at ao ay;have bn:=I (ay.blk bl.o (aQ _ Af));have bm:=I (ay.blk bq.o (aQ _ (by omega)));have au:=I ((Chg.of_below bw.o).trans ay (fun q _ x=>x):Chg (PT r v) w W3);have bj:=I (bp.o W3 au.o);have aG:=I (fun(q:Nat) (hq:CO r (.slice A1 m c1) es1 q)=>(.inl (bf q hq):CO r v es q\/w.heap.size<=q));have az:=I ao;have aK:=I HV.o;have t2:decide ((10:Int)<=(m:Int))=false:=by simp;have:=HL.o;omega
 have k1:W3.cell? ⟨r,0,none⟩=some (.slice A1 m c1):=ao.blk.cell 0;have EM:=I em;rw[<-aW];clear ao ay bf aQ bl bq bp HG HV HO em aW f0 k0 aE aI aJ
 go_upto_region 6 with fail
 clear k1;have aw:Below W3.heap.size W3 W3.drew:=below_drewN Ag 1;have HB:=I aw;have M:=I (az.o.below aw);have X:=I (bn.o.below aw);have O:=I (bm.o.below aw);have HR:=I ((bj.o.below aw).more aw.size);obtain⟨N,eN⟩:=Aj (w.heap.size);rw[<-eN] at X O av ar⊢;clear aw eN bn bm bj;refine Reg.AW (fun w'=>Blk w' N 35 #[.string ⟨p.1.toArray⟩,.string ⟨p.2.toArray⟩]/\Blk w' (N+1) 96 xs) 15 rfl (by kernel_rfl) ⟨X.o,O.o⟩ ?_;refine Reg.ty 0 rfl ⟨X.o,O.o⟩ ?_;refine Reg.ty 1 rfl ⟨X.o,O.o⟩ ?_;refine Reg.ty 2 rfl ⟨X.o,O.o⟩ ?_;refine Reg.ty 3 rfl ⟨X.o,O.o⟩ ?_;refine Reg.tw 5 (v:=.agg #[.string ⟨p.1.toArray⟩,.string ⟨p.2.toArray⟩]) rfl ⟨X.o,O.o⟩ (fun w' hS=>by exact Wh.Cz (.tmp 5) rfl rfl hS.1 Tryz.underlying35 rfl AZ) ?_;refine Reg.tw 7 (v:=.agg xs) rfl ⟨X.o,O.o⟩ (fun w' hS=>by exact Wh.Cz (.tmp 6) rfl rfl hS.2 Tryz.underlying96 rfl bu.o) ?_;refine Reg.b2 4 6 ?_ ?_
 ·left
  have kr:W3.drew.cell? ⟨r,0,none⟩=some (.slice A1 m c1):=M.o.blk.cell 0;refine⟨_,_,_,_,_,_,_,_,rfl,by rfl,by(go_simp;rfl),⟨X.o,O.o⟩,?_⟩;simp only[Act.put,J,U,Aa];clear kr;refine Reg.b1 6 ?_
  right
  refine⟨_,_,_,_,_,_,22,#[prV p],rfl,by rfl,by go_simp,?_⟩;refine(CP.o _).mono ?_;rintro e bz ⟨rfl,Y⟩;replace HB:=HB.t Y;replace M:=I (M.o.below Y);replace X:=I (X.o.below Y);replace O:=I (O.o.below Y);replace HR:=I ((HR.o.below Y).more Y.size);clear Y;refine⟨_,rfl,⟨X.o,O.o⟩,?_⟩;simp only[Act.put,J,U,Aa];refine Reg.b1 8 ?_
  right
  refine⟨_,_,_,_,_,_,86,#[.agg xs],rfl,by rfl,by go_simp,?_⟩;refine(CX.o _ HR.o).mono ?_;rintro e ak ⟨A',c',rfl,ho,Y,_⟩;have ad:=I (ho.since HB.o.size);replace HB:=HB.t Y;replace M:=I (M.o.below Y);replace X:=I (X.o.below Y);replace O:=I (O.o.below Y);clear Y ho;refine⟨_,rfl,⟨X.o,O.o⟩,?_⟩;simp only[Act.put,J,U,Aa];refine Reg.tw 9 (v:=.agg (enA (⟨p,x,A',c'⟩:En))) rfl ⟨X.o,O.o⟩ (fun w' hS=>by exact Rg.Hg (by go_simp) (Ka p x A' c')) ?_;refine Reg.b1 10 ?_
  left
  have Y:Below ak.heap.size ak (ak.alloc (.cells (enA (⟨p,x,A',c'⟩:En)) 186)):=Ag.alloc Af _;refine⟨_,_,_,_,_,_,.slice (some ⟨ak.heap.size,0,none⟩) 1 1,(ak.alloc (.cells (enA (⟨p,x,A',c'⟩:En)) 186)),rfl,by rfl,Rg.FR rfl (aL.o _ A' c'),⟨X.o.below Y,O.o.below Y⟩,?_⟩;simp only[Act.put,J,U,Aa];have ah:=I (Blk.new ak 186 (enA (⟨p,x,A',c'⟩:En)));replace ad:=I (ad.o.below Y);replace HB:=HB.t Y;replace M:=I (M.o.below Y);replace X:=I (X.o.below Y);replace O:=I (O.o.below Y);clear Y;obtain⟨br,aC⟩:=Aj ((ak.alloc (.cells (enA (⟨p,x,A',c'⟩:En)) 186)));rw[<-aC] at ah ad HB M X O⊢;clear aC;refine Reg.b1 11 ?_
  left
  obtain⟨v6,w6,af,ai,ab,an⟩:=Wh.JV (P:=Tryz.prog) enC 39 136 Be Hh br 178 178 186 iE _ Tryz.underlying178 aM.o aH.o aF.o aN.o (Bp _) (by omega) B _ es1 M.o.row (⟨p,x,A',c'⟩:En) ak.heap.size ah.o (by have:=EM.o;have:=HL.o;omega) (by omega) M.o.big;have ag:=Nj az.o HB.o M.o ad.o ai ab an (w0:=W3);have aj:=M.o.blk.grown ab M.o.vr;replace X:=I (X.o.grown ab (fun x=>av.o (Or.inl x)));replace O:=I (O.o.grown ab (fun x=>av.o (Or.inr x)));refine⟨_,_,_,_,_,_,v6,w6,rfl,by rfl,Rg.Ig rfl rfl af,⟨X.o,O.o⟩,?_⟩;simp only[Act.put,J,U,Aa];refine Reg.ty 12 rfl ⟨X.o,O.o⟩ ?_;refine Reg.ty 13 rfl ⟨X.o,O.o⟩ ?_;obtain⟨A7,c7,e7,_⟩:=Cv Be ai;obtain⟨m7,al⟩:=Aj ((es1++[(⟨p,x,A',c'⟩:En)]).length);rw[<-al] at e7;subst e7;have f0:=aj.frozen 0;have k6:=aj.c0;refine Reg.Dq 14 (w6.setCell ⟨r,0,none⟩ (.slice A7 m7 c7)) rfl (by kernel_rfl) (by rfl) (by go_simp) ⟨Si.Blk.far X.o _ _ ar.o.1,Si.Blk.far O.o _ _ ar.o.2⟩ ?_;simp only[Act.put,J,U,Aa];clear f0 k6 aj ai ab an af al X O M ah ad HB;refine wpAnyH_done (by kernel_rfl) ?_ _;have aa:=I ag;clear ag
  go_wp2
  go_ret;exact⟨rfl,_,A',c',aa.o.1,au.o.trans aa.o.2.1 (fun q _ hq=>hq.imp id (fun z=>aK.o.symm.trans z)),fun q hq=>by
  rcases aa.o.2.2 q hq with k | k
  ·exact aG.o q k
  ·exact .inr (Nat.le_trans au.o.size k)⟩
 ·right
  refine⟨_,_,_,_,_,_,22,#[prV p],rfl,by rfl,by go_simp,?_⟩;refine(CP.o _).mono ?_;rintro e aV ⟨rfl,Y⟩;replace HB:=HB.t Y;replace M:=I (M.o.below Y);replace X:=I (X.o.below Y);replace O:=I (O.o.below Y);replace HR:=I ((HR.o.below Y).more Y.size);clear Y;refine⟨_,rfl,⟨X.o,O.o⟩,?_⟩;simp only[Act.put,J,U,Aa];refine Reg.b2 4 8 ?_ ?_
  ·left
   have kr:aV.cell? ⟨r,0,none⟩=some (.slice A1 m c1):=M.o.blk.cell 0;refine⟨_,_,_,_,_,_,_,_,rfl,by rfl,by(go_simp;rfl),⟨X.o,O.o⟩,?_⟩;simp only[Act.put,J,U,Aa];clear kr;refine Reg.b1 8 ?_
   right
   refine⟨_,_,_,_,_,_,86,#[.agg xs],rfl,by rfl,by go_simp,?_⟩;refine(CX.o _ HR.o).mono ?_;rintro e ae ⟨A',c',rfl,ho,Y,_⟩;have ad:=I (ho.since HB.o.size);replace HB:=HB.t Y;replace M:=I (M.o.below Y);replace X:=I (X.o.below Y);replace O:=I (O.o.below Y);clear Y ho;refine⟨_,rfl,⟨X.o,O.o⟩,?_⟩;simp only[Act.put,J,U,Aa];refine Reg.tw 9 (v:=.agg (enA (⟨p,x,A',c'⟩:En))) rfl ⟨X.o,O.o⟩ (fun w' hS=>by exact Rg.Hg (by go_simp) (Ka p x A' c')) ?_;refine Reg.b1 10 ?_
   left
   have Y:Below ae.heap.size ae (ae.alloc (.cells (enA (⟨p,x,A',c'⟩:En)) 186)):=Ag.alloc Af _;refine⟨_,_,_,_,_,_,.slice (some ⟨ae.heap.size,0,none⟩) 1 1,(ae.alloc (.cells (enA (⟨p,x,A',c'⟩:En)) 186)),rfl,by rfl,Rg.FR rfl (aL.o _ A' c'),⟨X.o.below Y,O.o.below Y⟩,?_⟩;simp only[Act.put,J,U,Aa];have ah:=I (Blk.new ae 186 (enA (⟨p,x,A',c'⟩:En)));replace ad:=I (ad.o.below Y);replace HB:=HB.t Y;replace M:=I (M.o.below Y);replace X:=I (X.o.below Y);replace O:=I (O.o.below Y);clear Y;obtain⟨bs,aB⟩:=Aj ((ae.alloc (.cells (enA (⟨p,x,A',c'⟩:En)) 186)));rw[<-aB] at ah ad HB M X O⊢;clear aB;refine Reg.b1 11 ?_
   left
   obtain⟨v6,w6,af,ai,ab,an⟩:=Wh.JV (P:=Tryz.prog) enC 39 136 Be Hh bs 178 178 186 iE _ Tryz.underlying178 aM.o aH.o aF.o aN.o (Bp _) (by omega) B _ es1 M.o.row (⟨p,x,A',c'⟩:En) ae.heap.size ah.o (by have:=EM.o;have:=HL.o;omega) (by omega) M.o.big;have ag:=Nj az.o HB.o M.o ad.o ai ab an (w0:=W3);have aj:=M.o.blk.grown ab M.o.vr;replace X:=I (X.o.grown ab (fun x=>av.o (Or.inl x)));replace O:=I (O.o.grown ab (fun x=>av.o (Or.inr x)));refine⟨_,_,_,_,_,_,v6,w6,rfl,by rfl,Rg.Ig rfl rfl af,⟨X.o,O.o⟩,?_⟩;simp only[Act.put,J,U,Aa];refine Reg.ty 12 rfl ⟨X.o,O.o⟩ ?_;refine Reg.ty 13 rfl ⟨X.o,O.o⟩ ?_;obtain⟨A7,c7,e7,_⟩:=Cv Be ai;obtain⟨m7,al⟩:=Aj ((es1++[(⟨p,x,A',c'⟩:En)]).length);rw[<-al] at e7;subst e7;have f0:=aj.frozen 0;have k6:=aj.c0;refine Reg.Dq 14 (w6.setCell ⟨r,0,none⟩ (.slice A7 m7 c7)) rfl (by kernel_rfl) (by rfl) (by go_simp) ⟨Si.Blk.far X.o _ _ ar.o.1,Si.Blk.far O.o _ _ ar.o.2⟩ ?_;simp only[Act.put,J,U,Aa];clear f0 k6 aj ai ab an af al X O M ah ad HB;refine wpAnyH_done (by kernel_rfl) ?_ _;have aa:=I ag;clear ag
   go_wp2
   go_ret;exact⟨rfl,_,A',c',aa.o.1,au.o.trans aa.o.2.1 (fun q _ hq=>hq.imp id (fun z=>aK.o.symm.trans z)),fun q hq=>by
  rcases aa.o.2.2 q hq with k | k
  ·exact aG.o q k
  ·exact .inr (Nat.le_trans au.o.size k)⟩
  ·right
   refine⟨_,_,_,_,_,_,86,#[.agg xs],rfl,by rfl,by go_simp,?_⟩;refine(CX.o _ HR.o).mono ?_;rintro e Z ⟨A',c',rfl,ho,Y,_⟩;have ad:=I (ho.since HB.o.size);replace HB:=HB.t Y;replace M:=I (M.o.below Y);replace X:=I (X.o.below Y);replace O:=I (O.o.below Y);clear Y ho;refine⟨_,rfl,⟨X.o,O.o⟩,?_⟩;simp only[Act.put,J,U,Aa];refine Reg.tw 9 (v:=.agg (enA (⟨p,x,A',c'⟩:En))) rfl ⟨X.o,O.o⟩ (fun w' hS=>by exact Rg.Hg (by go_simp) (Ka p x A' c')) ?_;refine Reg.b2 4 10 ?_ ?_
   ·left
    have kr:Z.cell? ⟨r,0,none⟩=some (.slice A1 m c1):=M.o.blk.cell 0;refine⟨_,_,_,_,_,_,_,_,rfl,by rfl,by(go_simp;rfl),⟨X.o,O.o⟩,?_⟩;simp only[Act.put,J,U,Aa];clear kr;refine Reg.b1 10 ?_
    left
    have Y:Below Z.heap.size Z (Z.alloc (.cells (enA (⟨p,x,A',c'⟩:En)) 186)):=Ag.alloc Af _;refine⟨_,_,_,_,_,_,.slice (some ⟨Z.heap.size,0,none⟩) 1 1,(Z.alloc (.cells (enA (⟨p,x,A',c'⟩:En)) 186)),rfl,by rfl,Rg.FR rfl (aL.o _ A' c'),⟨X.o.below Y,O.o.below Y⟩,?_⟩;simp only[Act.put,J,U,Aa];have ah:=I (Blk.new Z 186 (enA (⟨p,x,A',c'⟩:En)));replace ad:=I (ad.o.below Y);replace HB:=HB.t Y;replace M:=I (M.o.below Y);replace X:=I (X.o.below Y);replace O:=I (O.o.below Y);clear Y;obtain⟨bg,aA⟩:=Aj ((Z.alloc (.cells (enA (⟨p,x,A',c'⟩:En)) 186)));rw[<-aA] at ah ad HB M X O⊢;clear aA;refine Reg.b1 11 ?_
    left
    obtain⟨v6,w6,af,ai,ab,an⟩:=Wh.JV (P:=Tryz.prog) enC 39 136 Be Hh bg 178 178 186 iE _ Tryz.underlying178 aM.o aH.o aF.o aN.o (Bp _) (by omega) B _ es1 M.o.row (⟨p,x,A',c'⟩:En) Z.heap.size ah.o (by have:=EM.o;have:=HL.o;omega) (by omega) M.o.big;have ag:=Nj az.o HB.o M.o ad.o ai ab an (w0:=W3);have aj:=M.o.blk.grown ab M.o.vr;replace X:=I (X.o.grown ab (fun x=>av.o (Or.inl x)));replace O:=I (O.o.grown ab (fun x=>av.o (Or.inr x)));refine⟨_,_,_,_,_,_,v6,w6,rfl,by rfl,Rg.Ig rfl rfl af,⟨X.o,O.o⟩,?_⟩;simp only[Act.put,J,U,Aa];refine Reg.ty 12 rfl ⟨X.o,O.o⟩ ?_;refine Reg.ty 13 rfl ⟨X.o,O.o⟩ ?_;obtain⟨A7,c7,e7,_⟩:=Cv Be ai;obtain⟨m7,al⟩:=Aj ((es1++[(⟨p,x,A',c'⟩:En)]).length);rw[<-al] at e7;subst e7;have f0:=aj.frozen 0;have k6:=aj.c0;refine Reg.Dq 14 (w6.setCell ⟨r,0,none⟩ (.slice A7 m7 c7)) rfl (by kernel_rfl) (by rfl) (by go_simp) ⟨Si.Blk.far X.o _ _ ar.o.1,Si.Blk.far O.o _ _ ar.o.2⟩ ?_;simp only[Act.put,J,U,Aa];clear f0 k6 aj ai ab an af al X O M ah ad HB;refine wpAnyH_done (by kernel_rfl) ?_ _;have aa:=I ag;clear ag
    go_wp2
    go_ret;exact⟨rfl,_,A',c',aa.o.1,au.o.trans aa.o.2.1 (fun q _ hq=>hq.imp id (fun z=>aK.o.symm.trans z)),fun q hq=>by
  rcases aa.o.2.2 q hq with k | k
  ·exact aG.o q k
  ·exact .inr (Nat.le_trans au.o.size k)⟩
   ·left
    have Y:Below Z.heap.size Z (Z.alloc (.cells (enA (⟨p,x,A',c'⟩:En)) 186)):=Ag.alloc Af _;refine⟨_,_,_,_,_,_,.slice (some ⟨Z.heap.size,0,none⟩) 1 1,(Z.alloc (.cells (enA (⟨p,x,A',c'⟩:En)) 186)),rfl,by rfl,Rg.FR rfl (aL.o _ A' c'),⟨X.o.below Y,O.o.below Y⟩,?_⟩;simp only[Act.put,J,U,Aa];have ah:=I (Blk.new Z 186 (enA (⟨p,x,A',c'⟩:En)));replace ad:=I (ad.o.below Y);replace HB:=HB.t Y;replace M:=I (M.o.below Y);replace X:=I (X.o.below Y);replace O:=I (O.o.below Y);clear Y;obtain⟨aP,aD⟩:=Aj ((Z.alloc (.cells (enA (⟨p,x,A',c'⟩:En)) 186)));rw[<-aD] at ah ad HB M X O⊢;clear aD;refine Reg.b1 4 ?_
    left
    have kr:aP.cell? ⟨r,0,none⟩=some (.slice A1 m c1):=M.o.blk.cell 0;refine⟨_,_,_,_,_,_,_,_,rfl,by rfl,by(go_simp;rfl),⟨X.o,O.o⟩,?_⟩;simp only[Act.put,J,U,Aa];clear kr;refine Reg.b1 11 ?_
    left
    obtain⟨v6,w6,af,ai,ab,an⟩:=Wh.JV (P:=Tryz.prog) enC 39 136 Be Hh aP 178 178 186 iE _ Tryz.underlying178 aM.o aH.o aF.o aN.o (Bp _) (by omega) B _ es1 M.o.row (⟨p,x,A',c'⟩:En) Z.heap.size ah.o (by have:=EM.o;have:=HL.o;omega) (by omega) M.o.big;have ag:=Nj az.o HB.o M.o ad.o ai ab an (w0:=W3);have aj:=M.o.blk.grown ab M.o.vr;replace X:=I (X.o.grown ab (fun x=>av.o (Or.inl x)));replace O:=I (O.o.grown ab (fun x=>av.o (Or.inr x)));refine⟨_,_,_,_,_,_,v6,w6,rfl,by rfl,Rg.Ig rfl rfl af,⟨X.o,O.o⟩,?_⟩;simp only[Act.put,J,U,Aa];refine Reg.ty 12 rfl ⟨X.o,O.o⟩ ?_;refine Reg.ty 13 rfl ⟨X.o,O.o⟩ ?_;obtain⟨A7,c7,e7,_⟩:=Cv Be ai;obtain⟨m7,al⟩:=Aj ((es1++[(⟨p,x,A',c'⟩:En)]).length);rw[<-al] at e7;subst e7;have f0:=aj.frozen 0;have k6:=aj.c0;refine Reg.Dq 14 (w6.setCell ⟨r,0,none⟩ (.slice A7 m7 c7)) rfl (by kernel_rfl) (by rfl) (by go_simp) ⟨Si.Blk.far X.o _ _ ar.o.1,Si.Blk.far O.o _ _ ar.o.2⟩ ?_;simp only[Act.put,J,U,Aa];clear f0 k6 aj ai ab an af al X O M ah ad HB;refine wpAnyH_done (by kernel_rfl) ?_ _;have aa:=I ag;clear ag
    go_wp2
    go_ret;exact⟨rfl,_,A',c',aa.o.1,au.o.trans aa.o.2.1 (fun q _ hq=>hq.imp id (fun z=>aK.o.symm.trans z)),fun q hq=>by
  rcases aa.o.2.2 q hq with k | k
  ·exact aG.o q k
  ·exact .inr (Nat.le_trans au.o.size k)⟩
theorem Tv (B r:Nat) (v:Value) (es:List En) (p:Pr) (x:Cr) (A:Option Addr) (c:Nat) (t:Int) (w:World) (h:Ca w B r v es) (ak:∀w',Chg (PT r v) w w'->Rd w' w'.heap.size A (bvs x.b)) (h1:p.1.length<=140737488351232) (h2:p.2.length<=140737488351232) (h3:x.s.1.length<=140737488351232) (h4:x.s.2.length<=140737488351232) (h5:x.b.length<=100000000000)
  (hl:es.length<=1000) (ai:10<=(Cm p t es).length) :
  Calls Tryz.prog 59 #[.pointer (some ⟨r,0,none⟩),prV p,.agg (crA x A c),.int .i64 t] w fun e w'=>e=.returned (.int .i64 13)/\∃v',Ca w' B r v' (Cm p t es)/\Chg (PT r v) w w'/\(∀q,CO r v' (Cm p t es) q->CO r v es q\/w.heap.size<=q):=by
 obtain⟨A0,c0,rfl,_,_,_⟩:=h.num;obtain⟨n,en⟩:=Aj (es.length);obtain⟨v,ev⟩:=Aj (Value.slice A0 es.length c0);rw[<-ev] at h ak⊢;have EV:=I ev;have CP:=I (fun w1=>JY p w1 h1 h2);have CX:=I (fun(w1:World) (h:Rd w1 w1.heap.size A (bvs x.b))=>Mb x A c w1.heap.size w1 h Af h3 h4 h5);obtain⟨xs,an⟩:=Aj (crA x A c);rw[<-an] at CX⊢;have aI:=I (show(Tryz.prog.info? 96).map (·.size)=some xs.size by rw[an,AN];exact Bt);obtain⟨W,eW⟩:=Aj (((w.alloc (.cells #[.string ⟨p.1.toArray⟩,.string ⟨p.2.toArray⟩] 35)).alloc (.cells xs 96)).alloc (.cells #[.int .i64 t] 3));obtain⟨hb,M,hp,ar,ht,ab,au⟩:=KY B r v es p xs t w W h eW;have CD:=Ni es p t (w.heap.size+2) w.heap.size B v W M.row M.big ht hp (ab _ (by omega)) (ab _ Af) hl;have aa:=I ab;have Z:=I au;obtain⟨es1,aj⟩:=Aj (Cm p t es);have ay:=I aj;rw[<-aj] at CD ai⊢;have HW:=I h;have Y:=I M;have aD:=I hb;have aA:=I hp;have az:=I ar;have aw:=I ak;have HL:=I ai;have k0:W.cell? ⟨r,0,none⟩=some (.slice A0 n c0):=by rw[en,<-ev];exact M.blk.cell 0
 have O:v=.slice A0 n c0:=by rw[ev,en]
 rw[O] at CD;rw[<-O] at CD;have aE:=I O;obtain⟨iE,al,ag,af,ao⟩:=info_parts QI;have aO:=I al;have aM:=I ag;have aL:=I af;have aP:=I ao;have aK:=I (fun(w1:World) (A':Option Addr) (c':Nat)=>Wh.GJ (P:=Tryz.prog) w1 178 186 (enA ⟨p,x,A',c'⟩) iE _ Tryz.underlying178 al ag (by rw[af,Bp]) (by rw[Bp];omega) (by rw[Bp];omega));rw[O] at CD;clear hb M hp ar ht ab au h ak h1 h2 h3 h4 h5 hl ai an en ev O aj al ag af ao;go_enter Tryz.func59,Tryz.ntmps59
 go_upto_region 1 with fail
 rw[<-eW];clear eW
 go_upto_region 4 with(first
  |(go_at_call 108;refine Calls.mono CD ?_;rintro e w2 ⟨v1,rfl,ho,hg,hv⟩;obtain⟨A1,c1,rfl,_⟩:=Cv Be ho;rw[<-aE.o] at hg hv;have HG:=I hg;have HV:=I hv;have HO:=I ho;clear hg hv ho CD k0;have ah:=Y.o.blk.grown HG.o Y.o.vr;have f0:=ah.frozen 0;have k0:=ah.c0;clear ah)
  |fail)
 obtain⟨m,em⟩:=Aj (es1.length);rw[<-em] at HO HV⊢;have hq:=QN (p:=p) (t:=t) Y.o HG.o (by rw[<-ay.o,<-em];exact HO.o) HV.o;rw[<-ay.o] at hq;obtain⟨M,X,av⟩:=hq;have aG:=I (show ¬((Value.slice A1 m c1).ownBlock=some w.heap.size\/(Value.slice A1 m c1).ownBlock=some (w.heap.size+1)) from fun x=>by
  rw[HV.o] at x;rcases x with x | x
  ·exact aa.o _ Af x
  ·exact aa.o _ (by omega) x)
 have aN:=I (show r≠w.heap.size/\r≠w.heap.size+1 from⟨fun x=>Z.o _ Af x.symm,fun x=>Z.o _ (by omega) x.symm⟩);have ad:∀k,w.heap.size<=k->¬PT r v k:=fun k hk x=>by
  rcases x with x | x
  ·exact Z.o k hk x
  ·exact aa.o k hk x
 obtain⟨W3,ae⟩:=Aj (w2.setCell ⟨r,0,none⟩ (.slice A1 m c1));rw[<-ae] at M X;have aH:=I (X.blk aA.o (ad _ Af));have aF:=I (X.blk az.o (ad _ (by omega)));have ax:=I ((Chg.of_below aD.o).trans X (fun q _ x=>x):Chg (PT r v) w W3);have aQ:=I (aw.o W3 ax.o);have aB:=I (fun(q:Nat) (hq:CO r (.slice A1 m c1) es1 q)=>(.inl (av q hq):CO r v es q\/w.heap.size<=q));have aC:=I M;have aJ:=I HV.o;have t2:decide ((10:Int)<=(m:Int))=true:=by simp;have:=HL.o;omega
 have k1:W3.cell? ⟨r,0,none⟩=some (.slice A1 m c1):=M.blk.cell 0;have EM:=I em;rw[<-ae];clear M X av ad aA az aw HG HV HO em ae f0 k0 Y aa Z
 go_wp2
 go_ret;exact⟨rfl,_,aC.o,ax.o,aB.o⟩
theorem LI (B r:Nat) (v:Value) (es:List En) (p:Pr) (x:Cr) (A:Option Addr) (c:Nat) (t:Int) (w:World) (h:Ca w B r v es) (M:∀w',Chg (PT r v) w w'->Rd w' w'.heap.size A (bvs x.b)) (Y:p.1.length<=140737488351232) (h2:p.2.length<=140737488351232) (Z:x.s.1.length<=140737488351232) (X:x.s.2.length<=140737488351232) (h5:x.b.length<=100000000000)
  (hl:es.length<=1000) :
  Calls Tryz.prog 59 #[.pointer (some ⟨r,0,none⟩),prV p,.agg (crA x A c),.int .i64 t] w fun e w'=>e=.returned (.int .i64 (putE (its es) p t:Int))/\∃v' es',Ca w' B r v' es'/\its es'=putL (its es) p x t/\Chg (PT r v) w w'/\(∀q,CO r v' es' q->CO r v es q\/w.heap.size<=q):=by
 have aa:(rest (its es) p t).length=(Cm p t es).length:=by rw[<-JZ,Eg]
 by_cases hlt:(Cm p t es).length<10
 ·refine(XT B r v es p x A c t w h M Y h2 Z X h5 hl hlt).mono ?_
  rintro e w' ⟨rfl,v',A',c',k1,k2,O⟩;refine⟨by rw[putE,if_pos (by omega)];rfl,v',_,k1,?_,k2,O⟩;rw[putL,if_pos (by omega),<-JZ];simp [its,En.it]
 ·refine(Tv B r v es p x A c t w h M Y h2 Z X h5 hl (by omega)).mono ?_
  rintro e w' ⟨rfl,v',k1,k2,O⟩;refine⟨by rw[putE,if_neg (by omega)];rfl,v',_,k1,?_,k2,O⟩;rw[putL,if_neg (by omega),<-JZ]
open Rg (Bb BA)
theorem AD {P:Program} {fn:Func} {tmps:Array Value} {w:World} {v u:Value} (t q:Nat) (ty:TypeId) (a:Addr) (M:fn.results=#[.cell t ty,.tmp q]) (Y:tmps.getD t undef=.pointer (some a)) (hl:(loadVar ty a).run P w=.ok v w) (Z:tmps.getD q undef=u) :
  (results fn tmps).run P w=.ok (.tuple #[v,u]) w:=by
 have X:tmps[t]?.getD undef=.pointer (some a):=by simpa using Y
 have O:tmps[q]?.getD undef=u:=by simpa using Z
 simp [results,M,X,O,asAddr,hl]
theorem XU (B:Nat) (w:World) (hB:B<=w.heap.size):Calls Tryz.prog 42 #[] w fun e w'=>e=.returned (.pointer (some ⟨w.heap.size,0,none⟩))/\Ca w' B w.heap.size (.slice none 0 0) []/\Below w.heap.size w w'/\w'.heap.size=w.heap.size+1:=by
 have M:Ca (w.alloc (.cells #[.slice none 0 0] 180)) B w.heap.size (.slice none 0 0) []:=
  ⟨Blk.new _ _ _,World.ownsRow_nil _ _ _ _,hB,(fun h=>by cases h),(fun e he=>by cases he),(fun e he=>by cases he)⟩
 have H1:=I M;have O:=I ((Below.refl w.heap.size w).alloc Af (.cells #[.slice none 0 0] 180));clear M;go_enter Tryz.func42,Tryz.ntmps42
 go_wp2
 go_ret;exact⟨rfl,H1.o,O.o,by simp⟩
def Fit (x:Cr):Prop:=x.s.1.length<=140737488351232/\x.s.2.length<=140737488351232/\x.b.length<=100000000000
def Fits (l:List It):Prop:=∀i∈l,Fit i.2
def getX:Option It->Cr
 |none=>Eh
 |some i=>i.2
theorem Tw {l:List It} {p:Pr} {t:Int} {i:Nat} {x:It} (X:l[i]? = some x) (hh:hitG p t x=true) (Z:∀j y,j<i->l[j]? = some y->hitG p t y=false):getO l p t=some x:=by
 obtain⟨O,Y⟩:=List.getElem?_eq_some_iff.1 X;unfold getO;rw[List.find?_eq_some_iff_getElem];refine⟨hh,i,O,Y,fun j M=>?_⟩;have:=Z j _ M (List.getElem?_eq_getElem (by omega));simp [this]
theorem QO {l:List It} {p:Pr} {t:Int} (Y:∀j y,j<l.length->l[j]? = some y->hitG p t y=false):getO l p t=none:=by
 unfold getO;rw[List.find?_eq_none];intro x X;obtain⟨j,M,O⟩:=List.getElem_of_mem X;have:=Y j x M (by rw[<-O];exact List.getElem?_eq_getElem M);simp [this]
theorem UX {es:List En} {i:Nat} {x:It} (h:(its es)[i]? = some x):∃e,es[i]? = some e/\e.it=x:=by simpa [its] using h
theorem XV {es:List En} {i:Nat} {e:En} (h:es[i]? = some e):(its es)[i]? = some e.it:=by simp [its,h]
theorem Wj (B r:Nat) (v:Value) (es:List En) (p:Pr) (t:Int) (w:World) (h:Ca w B r v es) (hf:Fits (its es)) (hl:es.length<=1000) :
  Calls Tryz.prog 49 #[.pointer (some ⟨r,0,none⟩),prV p,.int .i64 t] w fun e w'=>∃A c,e=.returned (.tuple #[.agg (crA (getX (getO (its es) p t)) A c),.bool (getO (its es) p t).isSome])/\Own1 w w' A (bvs (getX (getO (its es) p t)).b)/\Below w.heap.size w w'/\(getX (getO (its es) p t)).b.length<=c:=by
 obtain⟨o,eo⟩:=Aj (getO (its es) p t);rw[<-eo];have EO:=I eo;obtain⟨A0,c0,rfl,_,_,hr⟩:=h.num;have au:=h.blk;obtain⟨n,en⟩:=Aj (es.length);have EN:=I en;rw[<-en] at au hl;have CX:=I (fun(x:En) (hx:x∈es) (w1:World) (M:Below w.heap.size w w1)=>have q:=hf x.it (List.mem_map.2 ⟨x,hx,rfl⟩);Mb x.x x.A x.c w1.heap.size w1 (((h.rd x hx).below M).more M.size) Af q.1 q.2.1 q.2.2);have HR:=I hr;have aA:=h.lt;obtain⟨zs,ae⟩:=Aj (crA Eh none 0);have aO:=I ae;have aD:=I (ae.trans Ev);have aB:=I (show zs.size=37 by rw[ae,AN]);have aP:=I (show(Tryz.prog.info? 96).map (·.size)=some zs.size by rw[ae,AN];exact Bt);have aM:=I (show zs.all (·.oneCell')=true by rw[ae];exact DL _ _ _);obtain⟨W,eW⟩:=Aj ((w.alloc (.cells #[.string ⟨p.1.toArray⟩,.string ⟨p.2.toArray⟩] 35)).alloc (.cells zs 96));have M:Below w.heap.size w W:=eW▸(Ag.alloc Af _).alloc (by simp) _;have HP:=I (show Blk W w.heap.size 35 #[.string ⟨p.1.toArray⟩,.string ⟨p.2.toArray⟩] from eW▸(Blk.new w _ _).alloc _);have Z:=I (show Blk W (w.heap.size+1) 96 zs by have:=Blk.new (w.alloc (.cells #[.string ⟨p.1.toArray⟩,.string ⟨p.2.toArray⟩] 35)) 96 zs;simp only[World.size_alloc] at this;exact eW▸this);have Y:=I M;have k0:W.cell? ⟨r,0,none⟩=some (.slice A0 n c0):=(M.cell (p:=⟨r,0,none⟩) aA).trans (au.cell 0);clear h hf M au hr eo en ae aA;go_enter Tryz.func49,Tryz.ntmps49
 go_upto_region 1 with fail
 rw[<-aD.o,<-eW];clear eW aD
 go_wp2
 go_loopw [18] (fun iv wr=>∃i:Nat,i<=n/\iv=.int .i64 (i:Int)/\Below w.heap.size w wr/\Blk wr w.heap.size 35 #[.string ⟨p.1.toArray⟩,.string ⟨p.2.toArray⟩]/\Blk wr (w.heap.size+1) 96 zs/\∀j x,j<i->es[j]? = some x->hitG p t x.it=false) (fun iv _=>n - (intOf iv).toNat)
 case atStart=>exact⟨0,Nat.zero_le _,rfl,Y.o,HP.o,Z.o,fun j x hj=>absurd hj (Nat.not_lt_zero _)⟩
 case round=>
  clear Y HP Z k0;obtain⟨i,hi,rfl,M,hp,hz,az⟩:=hrel;have Y:=I M;have HP:=I hp;have Z:=I hz;have aj:=I az;have aH:=I (HR.o.keep M);clear M hp hz az
  by_cases hlt:i<n
  ·have e1:(i:Int)<(n:Int):=by omega
   have e2:(0:Int)<=(i:Int):=by omega
   obtain⟨x,hx⟩:∃x,es[i]? = some x:=⟨es[i]'(by rw[<-EN.o];exact hlt),List.getElem?_eq_getElem _⟩;obtain⟨g,rfl,aL,av⟩:=aH.o.at_ hx;rw[<-DE] at av;have al:=I av;have aw:=LZ;rw[<-Bp x] at aw;have aa:=I aw;have ak:=I (QG x);have HX:=I hx;have HM:=I (List.mem_of_getElem? hx);have CC:=I (CX.o x HM.o);obtain⟨xs,an⟩:=Aj (crA x.x x.A x.c);rw[<-an] at CC;have aE:=I (show(Tryz.prog.info? 96).map (·.size)=some xs.size by rw[an,AN];exact Bt);have aF:=I an;obtain⟨ds,ax⟩:=Aj (enA x);rw[<-ax] at al aa ak;have ad:=I ax;have aN:=I (show #[Value.string ⟨#[]⟩].size=1 from rfl);clear av aw hx ax an;have ar:hitG p t x.it=(decide (x.p=p)&&decide (t<=x.x.e)):=rfl;have X:=I ar;clear ar
   by_cases hq:x.p=p
   ·have t1:=Bb hq
    rw[decide_eq_true hq] at X;clear hq
    by_cases ht:t<=x.x.e
    ·have t2:decide (t<=x.x.e)=true:=decide_eq_true ht
     rw[t2] at X;clear ht
     go_wp2_with (first
      |(refine Wh.AG (by rfl) 186 (.tmp 20) (by rfl) g _ (by rfl) ds _ al.o Tryz.underlying186 (by rfl) aa.o ?_)
      |(refine Wh.Bh (by rfl) 186 (.tmp 9) (.tmp 21) (by rfl) 186 rfl ds (by rfl) (by rfl) (by rw[ad.o,Bp];rfl) aa.o ak.o ?_;rintro V hV M;replace Y:=Y.t M;replace HP:=I (HP.o.below M);replace Z:=I (Z.o.below M);have O:=KW (ad.o▸hV);have ai:=I O;have ah:=I (Wh.Ac HP.o);have ke:V.cell? ⟨wr.heap.size,38,none⟩=some (.int .i64 x.x.e):=Nh (o:=0) O;have ab:=I (Th O);clear hV M O)
      |(refine Wh.AG (by rfl) 35 (.tmp 22) (by rfl) _ 0 (by rfl) _ _ (Tf ai.o) Tryz.underlying35 (by rfl) AZ ?_)
      |(refine Wh.AG (by rfl) 35 (.tmp 4) (by rfl) _ 0 (by rfl) _ _ ah.o Tryz.underlying35 (by rfl) AZ ?_)
      |(refine Wh.AG (by rfl) 96 (.tmp 33) (by rfl) _ 2 (by rfl) xs _ (by rw[aF.o,Jw];exact ab.o) Tryz.underlying96 (by rfl) aE.o ?_)
      |(go_at_call 86;refine Calls.mono (CC.o _ Y.o) ?_;rintro e w2 ⟨A',c',rfl,ho,M,ao⟩;have ay:=I ao;clear ao;have aI:=I (show ∀p,A'=some p->p.block≠w.heap.size+1 from fun p hp=>by have:=Z.o.lt;have:=(ho.2 p hp).1;omega);replace Z:=I (Z.o.below M);have HO:=I (ho.since Y.o.size);replace Y:=Y.t M;obtain⟨rs,af⟩:∃rs,rs=crA x.x A' c':=⟨_,rfl⟩;rw[<-af];have aJ:=I af;have aG:=I (show rs.size=37 by rw[af,AN]);have aC:=I (show(Tryz.prog.info? 96).map (·.size)=some rs.size by rw[af,AN];exact Bt);have aK:=I (show rs.all (·.oneCell')=true by rw[af];exact DL _ _ _);clear ho M af ke)
      |(refine Wh.Cb (by rfl) 96 (.tmp 6) (.tmp 35) (by rfl) (w.heap.size+1) 96 _ Z.o rs (by rfl) (by rfl) (by rw[aB.o,aG.o]) aC.o aK.o ?_;rintro V2 ag hg;have HV:=I ag;replace Y:=I (btg Y.o hg (by omega));replace HO:=I (HO.o.chg (Chg.of_grown (S:=fun k=>k=w.heap.size+1) hg rfl) (fun p hp=>aI.o p hp));clear ag hg)
      |fail)
     have ho:o=some x.it:=by
      rw[EO.o];refine Tw (XV HX.o) (X.o.trans rfl) (fun j y hj hy=>?_);obtain⟨e,he,rfl⟩:=UX hy;exact aj.o j e hj he
     clear EO;subst ho;refine bodyPost_ret (v:=.tuple #[.agg rs,.bool true]) ?_ ?_ ?_
     ·exact AD 6 7 96 ⟨w.heap.size+1,0,none⟩ Tryz.results49 (by rfl) (Wh.Ao HV.o Tryz.underlying96 (by rfl) aC.o) (by rfl)
     ·rfl
     ·exact⟨A',c',by rw[aJ.o];rfl,HO.o,Y.o,ay.o⟩
    ·have t2:decide (t<=x.x.e)=false:=decide_eq_false ht
     rw[t2] at X;clear ht
     go_wp2_with (first
      |(refine Wh.AG (by rfl) 186 (.tmp 20) (by rfl) g _ (by rfl) ds _ al.o Tryz.underlying186 (by rfl) aa.o ?_)
      |(refine Wh.Bh (by rfl) 186 (.tmp 9) (.tmp 21) (by rfl) 186 rfl ds (by rfl) (by rfl) (by rw[ad.o,Bp];rfl) aa.o ak.o ?_;rintro V hV M;replace Y:=Y.t M;replace HP:=I (HP.o.below M);replace Z:=I (Z.o.below M);have O:=KW (ad.o▸hV);have ai:=I O;have ah:=I (Wh.Ac HP.o);have ke:V.cell? ⟨wr.heap.size,38,none⟩=some (.int .i64 x.x.e):=Nh (o:=0) O;have ab:=I (Th O);clear hV M O)
      |(refine Wh.AG (by rfl) 35 (.tmp 22) (by rfl) _ 0 (by rfl) _ _ (Tf ai.o) Tryz.underlying35 (by rfl) AZ ?_)
      |(refine Wh.AG (by rfl) 35 (.tmp 4) (by rfl) _ 0 (by rfl) _ _ ah.o Tryz.underlying35 (by rfl) AZ ?_)
      |fail)
     go_roundw
     case rel=>exact⟨i+1,by omega,by go_num,Y.o,HP.o,Z.o,fun j y hj hy=>by
      rcases Nat.lt_or_eq_of_le (Nat.le_of_lt_succ hj) with g | g
      ·exact aj.o j y g hy
      ·rw[g,HX.o] at hy
       injection hy with hy;rw[<-hy];exact X.o.trans rfl⟩
     case measure=>simp [intOf];omega
   ·have t1:=BA hq
    rw[decide_eq_false hq] at X;clear hq
    go_wp2_with (first
     |(refine Wh.AG (by rfl) 186 (.tmp 20) (by rfl) g _ (by rfl) ds _ al.o Tryz.underlying186 (by rfl) aa.o ?_)
     |(refine Wh.Bh (by rfl) 186 (.tmp 9) (.tmp 21) (by rfl) 186 rfl ds (by rfl) (by rfl) (by rw[ad.o,Bp];rfl) aa.o ak.o ?_;rintro V hV M;replace Y:=Y.t M;replace HP:=I (HP.o.below M);replace Z:=I (Z.o.below M);have O:=KW (ad.o▸hV);have ai:=I O;have ah:=I (Wh.Ac HP.o);have ke:V.cell? ⟨wr.heap.size,38,none⟩=some (.int .i64 x.x.e):=Nh (o:=0) O;have ab:=I (Th O);clear hV M O)
     |(refine Wh.AG (by rfl) 35 (.tmp 22) (by rfl) _ 0 (by rfl) _ _ (Tf ai.o) Tryz.underlying35 (by rfl) AZ ?_)
     |(refine Wh.AG (by rfl) 35 (.tmp 4) (by rfl) _ 0 (by rfl) _ _ ah.o Tryz.underlying35 (by rfl) AZ ?_)
     |fail)
    go_roundw
    case rel=>exact⟨i+1,by omega,by go_num,Y.o,HP.o,Z.o,fun j y hj hy=>by
     rcases Nat.lt_or_eq_of_le (Nat.le_of_lt_succ hj) with g | g
     ·exact aj.o j y g hy
     ·rw[g,HX.o] at hy
      injection hy with hy;rw[<-hy];exact X.o.trans rfl⟩
    case measure=>simp [intOf];omega
  ·have e1:¬(i:Int)<(n:Int):=by omega
   obtain rfl:n=i:=by omega
   have ho:o=none:=by
    rw[EO.o];refine QO (fun j y hj hy=>?_);rw[Eg,<-EN.o] at hj;obtain⟨e,he,rfl⟩:=UX hy;exact aj.o j e hj he
   clear EO;subst ho
   go_wp2_with (first
    |(refine Wh.Cb (by rfl) 96 (.tmp 6) (.tmp 37) (by rfl) (w.heap.size+1) 96 zs Z.o (crA Eh none 0) (by rfl) (by rfl) (by rw[aB.o,AN]) (by rw[AN];exact Bt) (DL _ _ _) ?_;rintro V2 ag hg;have HV:=I ag;replace Y:=I (btg Y.o hg (by omega));clear ag hg)
    |fail)
   refine bodyPost_ret (v:=.tuple #[.agg (crA Eh none 0),.bool false]) ?_ ?_ ?_
   ·exact AD 6 7 96 ⟨w.heap.size+1,0,none⟩ Tryz.results49 (by rfl) (Wh.Ao HV.o Tryz.underlying96 (by rfl) (by rw[AN];exact Bt)) (by rfl)
   ·rfl
   ·first
    |exact⟨none,0,rfl,Own1.none _ _,Y.o,Nat.le_refl _⟩
end Ca
namespace Ca
open Go.RowKit Ae Se
open Nm (L)
open Rg (Pr prC prV AZ RdR Cv Cf Hf)
section
variable {a w w':World} {B r g:Nat} {v v':Value} {es es':List En} {t:TypeId} {cs:Array Value}
theorem XW (h:CO r (.slice none 0 0) [] g):g=r:=by
 rcases h with h | h | ⟨e,he,_⟩
 ·exact h
 ·cases h
 ·cases he
end
def PutP (w:World) (B r:Nat) (v:Value) (es:List En) (l:List It) (z:Nat) (e:Ending) (w':World):Prop:=
 e=.returned (.int .i64 (z:Int))/\∃v' es',Ca w' B r v' es'/\its es'=l/\Chg (PT r v) w w'/\(∀q,CO r v' es' q->CO r v es q\/w.heap.size<=q)
theorem put_b {B r:Nat} {v:Value} {es:List En} {w:World} (p:Pr) (x:Cr) (A:Option Addr) (c:Nat) (t:Int) (h:Ca w B r v es) (hx:Rd w w.heap.size A (bvs x.b)) (X:∀a,A=some a->x.b≠[]->¬CO r v es a.block) (h1:p.1.length<=140737488351232) (h2:p.2.length<=140737488351232) (M:Fit x)
  (hl:es.length<=1000) {l:List It} {z:Nat} (el:putL (its es) p x t=l) (Y:putE (its es) p t=z) :
  Calls Tryz.prog 59 #[.pointer (some ⟨r,0,none⟩),prV p,.agg (crA x A c),.int .i64 t] w (PutP w B r v es l z):=by
 have O:∀w',Chg (PT r v) w w'->Rd w' w'.heap.size A (bvs x.b):=fun w' hc=>by
  by_cases hn:x.b = []
  ·rw[hn];exact .inl rfl
  ·exact Jx hx hc (fun a ha q=>X a ha hn (Wg q))
 refine(LI B r v es p x A c t w h O h1 h2 M.1 M.2.1 M.2.2 hl).mono ?_;rintro e w' ⟨rfl,v',es',k1,k2,k3,Z⟩;rw[el] at k2;rw[Y];exact⟨rfl,v',es',k1,k2,k3,Z⟩
abbrev p1:Pr:=([65],[120])
open Rg (Bb BA)
structure DCa (w:World) (N B q:Nat) (v:Value) (es:List En):Prop where
 blk:Blk w q 126 #[v]
 row:w.ownsRow B 329 39 v es.length (es.flatMap enC)
 lo:B<=q
 vq:v.ownBlock≠some q
 nb:N<=B
 rd:∀e∈es,Rd w N e.A (bvs e.x.b)
section
variable {w w':World} {N B q:Nat} {v v':Value} {es es':List En} {S:Nat->Prop}
theorem DCa.lt (h:DCa w N B q v es):q<w.heap.size:=h.blk.lt
theorem DCa.big (h:DCa w N B q v es):B<=w.heap.size:=by have:=h.lo;have:=h.lt;omega
theorem DCa.chg (h:DCa w N B q v es) (M:Chg S w w') (hs:∀k,PT q v k->¬S k) (O:∀k,k<w.heap.size->S k->N<=k):DCa w' N B q v es:=
 ⟨M.blk h.blk (hs q (.inl rfl)),Cf M h.row (fun k hk=>hs k (.inr hk)),h.lo,h.vq,h.nb,fun e he=>(h.rd e he).below (M.below (Nat.le_trans h.nb h.big) O)⟩
theorem DCa.below (h:DCa w N B q v es) (M:Below w.heap.size w w'):DCa w' N B q v es:=h.chg (S:=fun _=>False) (Chg.of_below M) (fun _ _ x=>x) (fun _ _ x=>x.elim)
theorem Tx {t:TypeId} {n m:Nat} {xs:List Value} {B':Nat} (h:w.ownsRow B' t n v m xs) (hB:B<=B'):w.ownsRow B t n v m xs:=by
 refine⟨h.1,?_⟩;rcases h.2 with M | ⟨g,cap,cur,M,O,X⟩
 ·exact .inl M
 ·exact .inr ⟨g,cap,cur,M,Nat.le_trans hB O,X⟩
end
end Ca
end Go.Proofs.YtlccngianpfalaaGreat
