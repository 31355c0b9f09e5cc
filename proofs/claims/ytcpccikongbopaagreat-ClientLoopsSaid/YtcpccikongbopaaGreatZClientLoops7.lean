import Derived.Test.YtcpccikongbopaaGreatZClientLoops6
set_option maxHeartbeats 25600000
set_option maxRecDepth 100000
set_option linter.unusedVariables false
set_option linter.unusedSimpArgs false
namespace Go.Proofs.YtcpccikongbopaaGreat
namespace Open
open Go.ChangeShapes Go.WideShapes Go.ChangeAt Go.RowKit Go.Deep Ae
theorem Qk {n:Int} (h:(Lit.int .i64 n).wf=true) : -9223372036854775808<=n/\n<=9223372036854775807:=by
 simpa [Lit.wf,IntKind.min,IntKind.max,IntKind.signed,IntKind.bits] using h
section
variable {H:Type} {enc:TypeId×Value->H} {P:Program} {W:World}
end
end Open
namespace Se
open Go.RowKit Ae
theorem SK (b:Nat) (u N:Int) (A:Option Addr) (m c:Nat) (w:World) (Y:(Lit.int .i64 N).wf=true) (hm:m<=maxLen) (Z:¬(0<=u/\u<=255/\0<=N/\N<=1099511627776/\m<=784)) :
  Calls Tryz.prog 93 #[.pointer (some ⟨b,0,none⟩),.int .i64 u,.int .i64 N,.slice A m c] w fun e w'=>e=.returned (.tuple #[.slice none 0 0,.int .i64 1])/\w'=w:=by
 by_cases h1:0<=u/\u<=255
 ·have M:=DX u true (by simp;omega)
  by_cases h2:N<0
  ·have t2:decide (N<0)=true:=by simpa using h2
   clear Z h1 Y hm;go_enter Tryz.func93,Tryz.ntmps93
   go_wp2_with (go_at_call 112;refine Ah (M _) ?_;rintro X hw;have hw:=hw.symm;subst hw;clear M)
   go_ret2
   exact⟨rfl,rfl⟩
  ·obtain⟨n,rfl⟩:∃n:Nat,N=(n:Int):=⟨N.toNat,by omega⟩
   have aa:n<9223372036854775808:=by
    have:=Open.Qk Y;omega
   have t2:decide ((n:Int)<0)=false:=by simp
   have q4:IntKind.u64.wrap (n:Int)=(n:Int):=by rw[IntKind.wrap_u64];omega
   by_cases h3:n<=1099511627776
   ·have O:=Fj n true (by simp;omega)
    have t3:decide (784<(m:Int))=true:=by simp;omega
    have q1:(n:Int)<=1099511627776:=by omega
    clear Z h1 h2 Y;go_enter Tryz.func93,Tryz.ntmps93
    go_wp2_with (first
     |(go_at_call 112;refine Ah (M _) ?_;rintro X hw;have hw:=hw.symm;subst hw;clear M)
     |(go_at_call 141;refine Ah (O _) ?_;rintro X hw;have hw:=hw.symm;subst hw;clear O))
    go_ret2
    exact⟨rfl,rfl⟩
   ·have O:=Fj n false (by simp;omega)
    clear Z h1 h2 Y;go_enter Tryz.func93,Tryz.ntmps93
    go_wp2_with (first
     |(go_at_call 112;refine Ah (M _) ?_;rintro X hw;have hw:=hw.symm;subst hw;clear M)
     |(go_at_call 141;refine Ah (O _) ?_;rintro X hw;have hw:=hw.symm;subst hw;clear O))
    go_ret2
    exact⟨rfl,rfl⟩
 ·have M:=DX u false (by
   rw[eq_comm,Bool.and_eq_false_iff];rcases Int.lt_or_le u 0 with h | h
   ·exact .inl (by simp;omega)
   ·exact .inr (by simp;omega))
  clear Z h1 Y;go_enter Tryz.func93,Tryz.ntmps93
  go_wp2_with (go_at_call 112;refine Ah (M _) ?_;rintro X hw;have hw:=hw.symm;subst hw;clear M)
  go_ret2
  exact⟨rfl,rfl⟩
theorem SL (b:Nat) (u:Int) (p:Value) (w:World) (O:¬(0<=u/\u<=255)) :
  Calls Tryz.prog 67 #[.pointer (some ⟨b,0,none⟩),.int .i64 u,p] w fun e w'=>e=.returned (.tuple #[.slice none 0 0,.int .i64 1])/\w'=w:=by
 have M:=DX u false (by
  rw[eq_comm,Bool.and_eq_false_iff];rcases Int.lt_or_le u 0 with h | h
  ·exact .inl (by simp;omega)
  ·exact .inr (by simp;omega))
 clear O;go_enter Tryz.func67,Tryz.ntmps67
 go_wp2_with (go_at_call 112;refine Ah (M _) ?_;rintro X hw;have hw:=hw.symm;subst hw;clear M)
 go_ret2
 exact⟨rfl,rfl⟩
def Df (w w':World) (b:Nat) (h h':Option Nat):Prop:=Chg (Ow b h) w w'/\(h'=h\/(h=none/\∃g,h'=some g/\w.heap.size<=g))
theorem Df.refl (w:World) (b:Nat) (h:Option Nat):Df w w b h h:=⟨Chg.refl _ _,.inl rfl⟩
theorem Step.o {w w':World} {b g:Nat} {h:Option Nat} (hs:Step w w' b h g):Df w w' b h (some g):=
 ⟨hs.1,hs.2.imp (fun e=>e.symm) (fun e=>⟨e.1,g,rfl,e.2⟩)⟩
theorem Df.own {w w':World} {b:Nat} {h O:Option Nat} (hs:Df w w' b h O):∀i,i<w.heap.size->Ow b O i->Ow b h i:=by
 intro i Y M;rcases hs.2 with rfl | ⟨_,g,rfl,X⟩
 ·exact M
 ·rcases M with M | M
  ·exact .inl M
  ·injection M with M;omega
theorem Df.trans {a w c:World} {b:Nat} {h O X:Option Nat} (s1:Df a w b h O) (s2:Df w c b O X):Df a c b h X:=by
 refine⟨s1.1.trans s2.1 s1.own,?_⟩;rcases s1.2 with rfl | ⟨e,g,rfl,M⟩
 ·rcases s2.2 with rfl | ⟨e,g,rfl,M⟩
  ·exact .inl rfl
  ·exact .inr ⟨e,g,rfl,Nat.le_trans s1.1.size M⟩
 ·rcases s2.2 with rfl | ⟨Y,_⟩
  ·exact .inr ⟨e,g,rfl,M⟩
  ·cases Y
theorem Df.drewN {w w':World} {b:Nat} {h M:Option Nat} (hs:Df w w' b h M) (k:Nat):Df w (w'.drewN k) b h M:=⟨⟨hs.1.os,hs.1.tape,hs.1.output,hs.1.size,hs.1.block⟩,hs.2⟩
theorem Fl (S:Nat->Prop) (w:World) (k:Nat):Chg S w (w.drewN k):=⟨rfl,rfl,rfl,Nat.le_refl _,fun _ _ _=>rfl⟩
theorem KI {l:List UInt8} {n:Nat} {P:Prop} (O:n=l.length) (h:8<=n) (M:bvs l = []):P:=by
 have:=AB l;rw[M] at this;simp at this;omega
theorem RdA.take {S:Nat->Prop} {w:World} {A:Option Addr} {l:List UInt8} (h:RdA S w A (bvs l)) (k:Nat):RdA S w A (bvs (l.take k)):=by
 rcases h with h | ⟨b,o,M,O,Y,X⟩
 ·left
  have:l = []:=List.map_eq_nil_iff.1 h;rw[this,List.take_nil];rfl
 ·refine .inr ⟨b,o,M,O,Y,fun i u hu=>X i u ?_⟩
  unfold bvs at hu⊢;rw[List.map_take,List.getElem?_take] at hu
  split at hu
  ·exact hu
  ·cases hu
theorem RdA.drop {S:Nat->Prop} {w:World} {b o:Nat} {l:List UInt8} (h:RdA S w (some ⟨b,o,none⟩) (bvs l)) (k:Nat):RdA S w (some ⟨b,o+k,none⟩) (bvs (l.drop k)):=by
 rcases h with h | ⟨Z,o',M,O,Y,X⟩
 ·left
  have:l = []:=List.map_eq_nil_iff.1 h;rw[this,List.drop_nil];rfl
 ·injection M with M
  injection M with e1 e2;subst e1 e2;refine .inr ⟨b,o+k,rfl,O,Y,fun i u hu=>?_⟩;unfold bvs at hu;rw[List.map_drop,List.getElem?_drop] at hu;have:=X (k+i) u hu
  rwa [<-Nat.add_assoc] at this
theorem Ql {ks:Nat->UInt8} {u:Nat} {l:List UInt8} (h:l.length<16\/800<l.length\/1099511627776<n8 l):isL ks u l=false:=by
 unfold isL;rcases h with h | h | h
 ·rw[show decide (16<=l.length)=false by simp;omega];simp
 ·rw[show decide (l.length<=800)=false by simp;omega];simp
 ·rw[show decide (n8 l<=1099511627776)=false by simp;omega];simp
theorem SM {ks:Nat->UInt8} {u:Nat} {l:List UInt8} (M:16<=l.length) (O:l.length<=800) (X:n8 l<=1099511627776):isL ks u l=decide (tagL ks u (Ha l)=n8 (GS l)):=by
 unfold isL;rw[show decide (16<=l.length)=true by simpa using M,show decide (l.length<=800)=true by simpa using O,show decide (n8 l<=1099511627776)=true by simpa using X];simp
theorem Df.aw {w w':World} {b n:Nat} {h O:Option Nat} (hs:Df w w' b h O):Chg (Aw b h n) w w':=hs.1.mono fun i _ M=>.inl M
theorem Df.rda {w w':World} {b:Nat} {h M:Option Nat} {A:Option Addr} {xs:List Value} (hs:Df w w' b h M) (O:RdA (Ow b h) w A xs):RdA (Ow b M) w' A xs:=
 O.keep hs.1 (fun _ _ x=>x) hs.own
def ksOf (l:List UInt8) (i:Nat):UInt8:=l.getD i 0
theorem SN (ks:Nat->UInt8) (u n:Nat) (p:List UInt8) (M:n<=1099511627776) (O:p.length<=784):isL ks u (Dn ks u n p)=true:=by
 have h:=IF ks u n p M O;unfold VJ at h
 split at h
 ·assumption
 ·cases h
theorem SP (ks:Nat->UInt8) (u n:Nat) (p:List UInt8) (M:n<=1099511627776):mixL ks u (n8 (Dn ks u n p)) (midL (Dn ks u n p))=p:=by
 rw[MR,LK ks u n p (by omega),PZ]
theorem RdA.o {w w':World} {b g:Nat} {h:Option Nat} {A:Option Addr} {xs:List Value} {ks:Nat->UInt8} {a o r:Nat} (X:RdA (Nw w.heap.size g) w' A xs) (O:Box w b ks h a o r):RdA (Ow b (some g)) w' A xs:=X.mono fun i _ M=>by
 rcases M with M | M
 ·exact .inl (M▸O.lt)
 ·injection M with M;exact .inr M.symm
def k1:Nat->UInt8:=fun i=>if i=0 then 1 else 0
end Se
namespace SeL
open Go.RowKit Ae Se
theorem VP {b g i:Nat} (h:Ow b (some g) i):i=b\/i=g:=by
 rcases h with h | h
 ·exact .inl h
 ·injection h with h;exact .inr h.symm
end SeL
namespace SpL
open Go.RowKit Ae Sp
theorem Ib (K:Nat->Wd) (up lo:Wd) (i j:Nat) (Y:j<4):(Eg K up lo (8*i+j)).toNat=(Ci K (up,lo+BitVec.ofNat 32 i)).1.toNat / 256 ^ j % 256:=by
 have M:(8*i+j) / 8=i:=by omega
 have O:(8*i+j) % 8=j:=by omega
 rw[Eg,M,O,UInt8.toNat_ofNat',IX];have X:=FZ (Ci K (up,lo+BitVec.ofNat 32 i)).1;have h:j=0\/j=1\/j=2\/j=3:=by omega
 rcases h with rfl | rfl | rfl | rfl<;>simp only[Nat.reducePow]<;>omega
theorem Ic (K:Nat->Wd) (up lo:Wd) (i j:Nat) (Y:j<4):(Eg K up lo (8*i+4+j)).toNat=(Ci K (up,lo+BitVec.ofNat 32 i)).2.toNat / 256 ^ j % 256:=by
 have M:(8*i+4+j) / 8=i:=by omega
 have O:(8*i+4+j) % 8=4+j:=by omega
 rw[Eg,M,O,UInt8.toNat_ofNat',IX];have X:=FZ (Ci K (up,lo+BitVec.ofNat 32 i)).1;have h:j=0\/j=1\/j=2\/j=3:=by omega
 rcases h with rfl | rfl | rfl | rfl<;>simp only[Nat.reducePow,Nat.reduceAdd]<;>omega
def II (w:World) (g:Nat) (cs:Array Value):Prop:=w.rangeAt g 0 cs.toList
theorem II.grown {w w':World} {g:Nat} {cs:Array Value} {row:Option Nat} (h:II w g cs) (O:g<w.heap.size) (M:w.grownBy w' row) (X:row≠some g):II w' g cs:=fun j v Y=>
 (World.cell?_of_block (a:=⟨g,0+j,none⟩) (M.block g O (fun e=>X e.symm))).trans (h j v Y)
theorem II.below {w w':World} {g:Nat} {cs:Array Value} (h:II w g cs) (O:g<w.heap.size) (M:Below w.heap.size w w'):II w' g cs:=h.grown O (BA M none) (by simp)
theorem IZ {P:Program} {ops:Array Oper} {rest:List Oper} {op:Oper} {a:Act} {w:World} {Q:Exit->Act->World->Prop} (M:op.guard=none) (ty:TypeId) (x:Operand) (Z:op.op=.load ty x)
  (g:Nat) (O:a.eval x=.pointer (some ⟨g,0,none⟩)) (cs:Array Value) (d:TypeDesc) (Y:II w g cs)
  (hu:P.underlying ty=some d) (X:d.isRow=true) (hi:(P.info? ty).map (·.size)=some cs.size)
  (h:wpList P ops Q rest (a.put op.dst (.agg cs)) w):wpList P ops Q (op :: rest) a w:=
 wpList_load_mid M ty x Z g 0 O cs.toList d Y hu X (by rw[Array.length_toList];exact hi) (by simpa using h)
theorem Ei (b:Nat):∀(vs:List Value) (o:Nat) (w:World),(w.setCells b o vs).heap.size=w.heap.size
 | [],_,_=>rfl
 |v :: r,o,w=>by rw[World.setCells,Ei b r];simp [World.setCell]
theorem UC (K:Nat->Wd):(Bb K).size=27:=by simp [Bb]
theorem XF (K:Nat->Wd):(Tryz.prog.info? 172).map (·.size)=some (Bb K).size:=by rw[UC];kernel_rfl
def eight (x y:Wd):List Value:=[.int .u8 ((x.toNat:Int) % 256),.int .u8 ((x.toNat:Int) / 256 % 256),.int .u8 ((x.toNat:Int) / 65536 % 256),.int .u8 ((x.toNat:Int) / 16777216),
 .int .u8 ((y.toNat:Int) % 256),.int .u8 ((y.toNat:Int) / 256 % 256),.int .u8 ((y.toNat:Int) / 65536 % 256),.int .u8 ((y.toNat:Int) / 16777216)]
theorem Of (K:Nat->Wd) (up lo:Wd) (i:Nat):bvs (strm K up lo (8*i))++eight (Ci K (up,lo+BitVec.ofNat 32 i)).1 (Ci K (up,lo+BitVec.ofNat 32 i)).2=bvs (strm K up lo (8*(i+1))):=by
 have e:strm K up lo (8*(i+1))=strm K up lo (8*i)++[Eg K up lo (8*i+0),Eg K up lo (8*i+1),Eg K up lo (8*i+2),Eg K up lo (8*i+3),Eg K up lo (8*i+4+0),Eg K up lo (8*i+4+1),Eg K up lo (8*i+4+2),Eg K up lo (8*i+4+3)]:=by
  unfold strm;rw[show 8*(i+1)=8*i+1+1+1+1+1+1+1+1 by omega];simp [List.range_succ]
 rw[e,BJ]
 congr 1
 have X:=Ib K up lo i 0 (by decide);have a1:=Ib K up lo i 1 (by decide);have M:=Ib K up lo i 2 (by decide);have a3:=Ib K up lo i 3 (by decide);have O:=Ic K up lo i 0 (by decide);have b1:=Ic K up lo i 1 (by decide);have b2:=Ic K up lo i 2 (by decide);have b3:=Ic K up lo i 3 (by decide);have Y:=FZ (Ci K (up,lo+BitVec.ofNat 32 i)).1;have Z:=FZ (Ci K (up,lo+BitVec.ofNat 32 i)).2;rw[show((Ci K (up,lo+BitVec.ofNat 32 i)).1.toNat / 256 ^ 3 % 256)=(Ci K (up,lo+BitVec.ofNat 32 i)).1.toNat / 16777216 by simp only[Nat.reducePow];omega] at a3;rw[show((Ci K (up,lo+BitVec.ofNat 32 i)).2.toNat / 256 ^ 3 % 256)=(Ci K (up,lo+BitVec.ofNat 32 i)).2.toNat / 16777216 by simp only[Nat.reducePow];omega] at b3;simp only[bvs,List.map_cons,List.map_nil,bv,eight,X,a1,M,a3,O,b1,b2,b3];simp
theorem Rd.take {w:World} {B:Nat} {A:Option Addr} {xs:List Value} (h:Rd w B A xs) (m:Nat):Rd w B A (xs.take m):=by
 rcases h with h | ⟨b,o,M,O,X⟩
 ·rw[h];exact .inl (by simp)
 ·refine .inr ⟨b,o,M,O,fun i u hu=>X i u ?_⟩
  rw[List.getElem?_take] at hu
  split at hu
  ·exact hu
  ·cases hu
theorem bt' {B:Nat} {a w c:World} (h:Below B a w) (hB:B+1<=w.heap.size) (k:Below w.heap.size w c):Below B a c:=Jg h (by omega) k
theorem VQ (K:Nat->Wd) (N m:Nat) (n:Int) (w:World) (hN:N<18446744073709551616) (hm:m<=1000) (hn:m=n.toNat) :
  Calls Tryz.prog 88 #[.agg (Bb K),.int .u64 (N:Int),.int .i64 n] w fun e w'=>∃A c,e=.returned (.slice A m c)/\m<=c/\Rd w' w'.heap.size A (bvs (strm K (upW N) (loW N) m))/\Below w.heap.size w w':=by
 obtain⟨B,eB⟩:=Aj (w.heap.size);rw[<-eB];have EB:=I eB;have af:=UC K;have ah:=XF K;obtain⟨cs,ab⟩:=Aj (Bb K);rw[<-ab] at af ah;have cB:=Xi K;rw[<-ab] at cB;rw[<-ab];obtain⟨ib,aP,aI,aF,aH⟩:=info_parts Cc;have aV:=I af;clear af;have aQ:=I ah;clear ah;have aU:=I ab;clear ab;have NN:=I hN;clear hN;have HM:=I hm;clear hm;have HN:=I hn;clear hn;have au:Blk (w.alloc (.cells cs 172)) B 172 cs:=Blk.new_of w B _ _ _ rfl eB.symm;have aL:=I au;clear au;go_enter Tryz.func88,Tryz.ntmps88
 go_wp2_with fail
 rw[<-eB];clear eB
 go_loopw [7,8] (fun aK iv wr=>∃i:Nat,8*i<m+8/\iv=.int .i64 (i:Int)/\Blk wr B 172 cs/\Below B w wr/\B+1<=wr.heap.size/\wr.ownsRow (B+1) 5 1 aK (8*i) (bvs (strm K (upW N) (loW N) (8*i)))) (fun _ iv _=>m+8 - 8*(intOf iv).toNat)
 case atStart=>exact⟨0,by omega,rfl,aL.o,EB.o▸Ag.alloc Af _,by have:=EB.o;simp;omega,rfl,.inl ⟨rfl,rfl⟩⟩
 case round=>
  obtain⟨i,hi,rfl,hB,hb,ao,Y⟩:=hrel;have HB:=I hB;clear hB;have aj:=I hb;clear hb;have HS:=I ao;clear ao;have hlen:∃A cap,u7=.slice A (8*i) cap/\8*i<=cap/\(∀n k,(Value.slice A n cap).ownBlock=some k->B+1<=k):=by
   obtain⟨_,⟨h1,h2⟩ | ⟨g,cap,cur,h1,hg,_,O,_⟩⟩:=Y
   ·exact⟨none,0,by rw[h1,h2],by omega,fun n k h=>by simp [Value.ownBlock] at h⟩
   ·exact⟨_,cap,h1,O,fun n k h=>by simp only[Value.ownBlock] at h;injection h with h;omega⟩
  obtain⟨A,cap,rfl,O,ar⟩:=hlen;have aC:=I ar;clear ar;have HO:=I Y;clear Y;obtain⟨o,eo⟩:=Aj (8*i);rw[<-eo];have EO:=I eo;clear eo
  by_cases hlt:(o:Int)<n
  ·have aR:(0:Int)<=(i:Int):=by omega
   have aS:(i:Int)<=200:=by have:=EO.o;have:=HM.o;have:=HN.o;omega
   have HH:=I hi;clear hi
   go_wp2_with (first | (refine IZ (by rfl) 172 (.tmp 3) (by rfl) B (by rfl) cs _ (Ac HB.o) Tryz.underlying172 (by rfl) aQ.o ?_) | fail)
   have aw:(N:Int) / 4294967296 % 4294967296=((upW N).toNat:Int):=by rw[upW,BitVec.toNat_ofNat];have:=NN.o;omega
   have ae:((N:Int)+(i:Int)) % 4294967296=((loW N+BitVec.ofNat 32 i).toNat:Int):=by rw[loW,BitVec.toNat_add,BitVec.toNat_ofNat,BitVec.toNat_ofNat];omega
   rw[aw,ae];obtain⟨p,ep⟩:=Aj (Ci K (upW N,loW N+BitVec.ofNat 32 i));obtain⟨x0,ex⟩:=Aj (p.1);obtain⟨y0,ey⟩:=Aj (p.2);have c4:=cB (upW N) (loW N+BitVec.ofNat 32 i) wr;rw[<-ep,<-ex,<-ey] at c4;have ax:bvs (strm K (upW N) (loW N) (8*i))++eight x0 y0=bvs (strm K (upW N) (loW N) (8*(i+1))):=by rw[ex,ey,ep];exact Of K _ _ i
   have aN:=I ax;clear ax;clear ep ex ey aw ae;refine Ah c4 ?_;rintro w5 X;have ak:=CN HO.o X;rw[<-EO.o] at ak;have aa:=aN.o;rw[<-EO.o] at aa;have aJ:=I aa;clear aa;have av:=HB.o.below X;have ay:=bt' aj.o HS.o X;have aA:=Nat.le_trans HS.o X.size;have aM:=I ak;clear ak;have aO:=I av;clear av;have aG:=I ay;clear ay;have ad:=I aA;clear aA;clear X c4
   go_wp2_with (first | (at_builtin;refine AD _ (by rfl) (.tmp 30) (.tmp 53) 25 (by rfl) (B+1) 5 ib _ 1 Tryz.underlying25 aP aI aF aH (by rfl) (.slice A o cap) o (bvs (strm K (upW N) (loW N) o)) (by rfl) (DN aM.o (by rfl)) (w5.heap.size+1) (some ⟨w5.heap.size,0,none⟩) 8 8 (eight x0 y0) (by rfl) (by rfl) (FE w5 5 _ (eight x0 y0) (by rfl) _ rfl) (by simp [eight,Value.oneCell']) (by have:=EO.o;unfold maxLen;omega) (by have:=EO.o;omega) (by have:=ad.o;simp;omega) ?_;intro v6 w6 Z M aB) | fail)
   have an:=Blk.grown (Blk.alloc aO.o _) M (fun h=>by have:=aC.o _ _ h;omega);have az:=Below.grown (aG.o.alloc (by have:=ad.o;omega) _) M (by have:=ad.o;simp;omega) (fun k hk=>by have:=aC.o _ _ hk;omega);have aD:=M.size;have ai:=Z;rw[aJ.o,show o+8=8*(i+1) by have:=EO.o;omega] at ai;have B6:=I an;clear an;have B7:=I az;clear az;have S7:=I aD;clear aD;have O7:=I ai;clear ai;clear Z M aB
   go_wp2_with fail
   go_roundw
   case rel=>
    exact⟨i+1,by have:=EO.o;have:=HN.o;omega,by go_num,B6.o,B7.o,by have h1:=S7.o;have:=ad.o;simp at h1;omega,O7.o⟩
   case measure=>have:=EO.o;have:=HN.o;simp [intOf];omega
  ·have aT:n<=(o:Int):=by omega
   have e1:decide ((o:Int)<n)=false:=by simp;omega
   have aE:n<=(cap:Int):=by have:=EO.o;omega
   have HC:=I O;clear O
   by_cases h0:n<0
   ·go_wp2_with fail
    go_ret;have ag:m=0:=by have:=HN.o;omega
    refine⟨A,cap,by rw[ag];first | rfl | exact congrArg (fun k=>Ending.returned (Value.slice A k cap)) (show(max n 0).toNat=0 by omega),by rw[ag];exact Nat.zero_le _,?_,aj.o⟩;rw[ag];exact .inl rfl
   ·have h1:(0:Int)<=n:=by omega
    go_wp2_with fail
    go_ret;refine⟨A,cap,by rw[HN.o];first | rfl | exact congrArg (fun k=>Ending.returned (Value.slice A k cap)) (show(max n 0).toNat=n.toNat by omega),by have:=HN.o;omega,?_,aj.o⟩;have hr:=Rd.of_own HO.o;have ht:bvs (strm K (upW N) (loW N) m)=(bvs (strm K (upW N) (loW N) (8*i))).take m:=by
     rw[<-PD K (upW N) (loW N) m (8*i) (by have:=EO.o;have:=HN.o;omega)];simp [bvs,List.map_take]
    rw[ht];exact Rd.take hr m
end SpL
namespace Se
open Go.RowKit Ae
def hk (f:Nat->UInt8) (i j:Nat):UInt8:=if j<i then f j else 0
theorem FC (f:Nat->UInt8) (j:Nat) (M:j<16):(Sp.AN f)[j]? = some (bv (f j)):=Sp.FC f j M
theorem UD (f:Nat->UInt8) (i:Nat) (M:i<16):(Sp.AN (hk f i)).setIfInBounds i (bv (f i))=Sp.AN (hk f (i+1)):=by
 unfold Sp.AN;rw[List.setIfInBounds_toArray]
 congr 1
 apply List.ext_getElem?;intro j;rw[List.getElem?_set,List.getElem?_map,List.getElem?_map]
 by_cases hj:i=j
 ·subst hj;simp [M,hk]
 ·rw[if_neg hj]
  rcases Nat.lt_or_ge j 16 with h | h
  ·have e:(j<i)=(j<i+1):=propext ⟨by omega,by omega⟩
   simp [h,hk,e]
  ·rw[List.getElem?_eq_none (by simpa using h)];rfl
theorem XG (f:Nat->UInt8):Sp.AN (hk f 16)=Sp.AN f:=Sp.Iy fun j M=>if_pos M
theorem Qm (f:Nat->UInt8):Sp.AN (hk f 0)=Sp.AN (fun _=>0):=Sp.Iy fun j M=>rfl
theorem key32_at' (f:Nat->UInt8) (j:Nat) (M:j<32):(AW f)[j]? = some (bv (f j)):=by
 rw[AW,List.getElem?_toArray];simp [M]
theorem LO {P:Program} {fn:Func} {tmps:Array Value} {w:World} {v1 v2:Value} (t1 Z:Nat) (M O:TypeId) (a1 a2:Addr) (X:fn.results=#[.cell t1 M,.cell Z O]) (ad:tmps.getD t1 undef=.pointer (some a1)) (aa:tmps.getD Z undef=.pointer (some a2)) (ab:(loadVar M a1).run P w=.ok v1 w) (Y:(loadVar O a2).run P w=.ok v2 w) :
  (results fn tmps).run P w=.ok (.tuple #[v1,v2]) w:=by
 have h1:tmps[t1]?.getD undef=.pointer (some a1):=by simpa using ad
 have h2:tmps[Z]?.getD undef=.pointer (some a2):=by simpa using aa
 simp [results,X,h1,h2,asAddr,ab,Y]
theorem Qn (ks:Nat->UInt8) (w:World):Calls Tryz.prog 86 #[.agg (AW ks)] w fun e w'=>e=.returned (.tuple #[.agg (Sp.AN ks),.agg (Sp.AN (k2 ks))])/\Below w.heap.size w w':=by
 obtain⟨B,eB⟩:=Aj (w.heap.size);have EB:=I eB;have ab:Sp.AN (fun _=>0)=#[.int .u8 0,.int .u8 0,.int .u8 0,.int .u8 0,.int .u8 0,.int .u8 0,.int .u8 0,.int .u8 0,.int .u8 0,.int .u8 0,.int .u8 0,.int .u8 0,.int .u8 0,.int .u8 0,.int .u8 0,.int .u8 0]:=rfl;have HZ:=I ab;clear ab;obtain⟨kc,ae⟩:=Aj (AW ks);rw[<-ae];have EK:=I ae;clear ae;go_enter Tryz.func86,Tryz.ntmps86
 go_wp2_with fail
 rw[<-eB];clear eB
 go_loopw [6] (fun iv wr=>∃i:Nat,i<=16/\iv=.int .i64 (i:Int)/\Below B w wr/\wr.heap.size=B+5/\Blk wr B 31 kc/\Blk wr (B+1) 166 (Sp.AN (fun _=>0))/\Blk wr (B+2) 166 (Sp.AN (fun _=>0))/\Blk wr (B+3) 166 (Sp.AN (hk ks i))/\Blk wr (B+4) 166 (Sp.AN (hk (k2 ks) i))) (fun iv _=>16 - (intOf iv).toNat)
 case atStart=>
  have z1:Blk (w.alloc (.cells kc 31)) B 31 kc:=EB.o▸Blk.new w _ _;have q0:(w.alloc (.cells kc 31)).heap.size=B+1:=by rw[EB.o];simp
  have b0:Below B w (w.alloc (.cells kc 31)):=EB.o▸(Below.refl w.heap.size w).alloc Af _;have key:∀(w1:World) (n:Nat),w1.heap.size=n->Blk (w1.alloc (.cells (Sp.AN fun _=>0) 166)) n 166 (Sp.AN fun _=>0)/\(w1.alloc (.cells (Sp.AN fun _=>0) 166)).heap.size=n+1:=fun w1 n h=>⟨h▸Blk.new w1 _ _,by rw[<-h];simp⟩
  obtain⟨k1,q1⟩:=key _ _ q0;obtain⟨ai,q2⟩:=key _ _ q1;obtain⟨k3,q3⟩:=key _ _ q2;obtain⟨k4,q4⟩:=key _ _ q3;refine⟨0,by decide,rfl,?_,q4,(((z1.alloc _).alloc _).alloc _).alloc _,((k1.alloc _).alloc _).alloc _,(ai.alloc _).alloc _,?_,?_⟩
  ·exact(((b0.alloc (by have:=EB.o;simp;omega) _).alloc (by have:=EB.o;simp;omega) _).alloc (by have:=EB.o;simp;omega) _).alloc (by have:=EB.o;simp;omega) _
  ·rw[Qm];exact k3.alloc _
  ·rw[Qm];exact k4
 case round=>
  obtain⟨i,hi,rfl,hb,ah,h0,h1,h2,h3,h4⟩:=hrel;have HB:=I hb;clear hb;have HS:=I ah;clear ah
  by_cases hx:i=16
  ·subst hx
   rw[XG] at h3 h4;obtain⟨cs,Z⟩:=Aj ((List.range 16).map (fun j=>bv (ks j)));obtain⟨ds,Y⟩:=Aj ((List.range 16).map (fun j=>bv (k2 ks j)));have n3:cs.length=16:=by rw[Z];simp
   have n4:ds.length=16:=by rw[Y];simp
   have o3:∀v∈cs,v.oneCell'=true:=by rw[Z];intro v hv;obtain⟨j,_,rfl⟩:=List.mem_map.1 hv;rfl
   have o4:∀v∈ds,v.oneCell'=true:=by rw[Y];intro v hv;obtain⟨j,_,rfl⟩:=List.mem_map.1 hv;rfl
   have h3:Blk wr (B+3) 166 cs.toArray:=by rw[Z];exact h3
   have h4:Blk wr (B+4) 166 ds.toArray:=by rw[Y];exact h4
   have r3:wr.drew.rangeAt (B+1+1+1) 0 cs:=by have:=Si.Ac h3;simpa using this
   have r4:wr.drew.rangeAt (B+1+1+1+1) 0 ds:=by have:=Si.Ac h4;simpa using this
   have t1:wr.drew.there (B+1) 0 16:=by have:=Si.Am h1;rwa [Bi] at this
   have t2:wr.drew.there (B+1+1) 0 16:=by have:=Si.Am h2;rwa [Bi] at this
   have u3:(Tryz.prog.info? 166).map (·.size)=some cs.length:=by rw[n3];kernel_rfl
   have u4:(Tryz.prog.info? 166).map (·.size)=some ds.length:=by rw[n4];kernel_rfl
   have X:=Tryz.underlying166;have EC:=I Z;clear Z;have ED:=I Y;clear Y;clear h0 h1 h2 h3 h4
   go_wp2_with fail
   refine wp_region_held_drew (S:=fun w'=>w'.rangeAt (B+1+1+1) 0 cs/\w'.rangeAt (B+1+1+1+1) 0 ds/\w'.there (B+1) 0 16/\w'.there (B+1+1) 0 16) (by kernel_rfl) ⟨r3,r4,t1,t2⟩ (fun O=>?_);refine wpAnyH_take (i:=0) (v:=.agg cs.toArray) rfl (by kernel_rfl) (by kernel_rfl) (by kernel_rfl) (fun _ _ _ h=>h) (yieldsIf_load_mid (by rfl) 166 (.tmp 4) rfl (B+1+1+1) 0 rfl cs _ (fun _ h=>h.1) X rfl u3) O ?_;refine wpAnyH_take (i:=1) (v:=.agg ds.toArray) rfl (by kernel_rfl) (by kernel_rfl) (by kernel_rfl) (fun _ _ _ h=>h) (yieldsIf_load_mid (by rfl) 166 (.tmp 5) rfl (B+1+1+1+1) 0 rfl ds _ (fun _ h=>h.2.1) X rfl u4) O ?_;refine wpAnyH_ready (rs:=[2]) (by kernel_rfl) (by simp) ?_;refine AllReadyH.cons (o:=_) rfl (fun K hK=>?_) AllReadyH.nil;rw[if_pos (by rfl)];refine wp_store_mid 166 _ _ rfl (B+1) 0 cs.toArray rfl rfl (by rw[List.size_toArray,n3];exact O.2.2.1) (by rw[List.size_toArray];exact u3) (all_oneCell_toArray o3) ?_;refine hK.o _ _ ⟨World.rangeAt_setCells_apart O.1 _ _ _ (.inl (by omega)),World.rangeAt_setCells_apart O.2.1 _ _ _ (.inl (by omega)),World.there_setCells O.2.2.1 _ _ _,World.there_setCells O.2.2.2 _ _ _⟩ (fun M=>?_);clear hK K;refine wpAnyH_ready (rs:=[3]) (by kernel_rfl) (by simp) ?_;refine AllReadyH.cons (o:=_) rfl (fun K hK=>?_) AllReadyH.nil;rw[if_pos (by rfl)];refine wp_store_mid 166 _ _ rfl (B+1+1) 0 ds.toArray rfl rfl (by rw[List.size_toArray,n4];exact M.2.2.2) (by rw[List.size_toArray];exact u4) (all_oneCell_toArray o4) ?_;refine hK.o _ _ ⟨World.rangeAt_setCells_apart M.1 _ _ _ (.inl (by omega)),World.rangeAt_setCells_apart M.2.1 _ _ _ (.inl (by omega)),World.there_setCells M.2.2.1 _ _ _,World.there_setCells M.2.2.2 _ _ _⟩ (fun aa=>?_);clear hK K;refine wpAnyH_done (by kernel_rfl) ?_ _;have af:((wr.drew.setCells (B+1) 0 cs).setCells (B+1+1) 0 ds).rangeAt (B+1) 0 cs:=World.rangeAt_setCells_apart (World.rangeAt_setCells_same _ _ _ _ (by rw[n3];exact t1)) _ _ _ (.inl (by omega));have ag:((wr.drew.setCells (B+1) 0 cs).setCells (B+1+1) 0 ds).rangeAt (B+1+1) 0 ds:=World.rangeAt_setCells_same _ _ _ _ (by rw[n4];exact M.2.2.2);have ad:Below B w ((wr.drew.setCells (B+1) 0 cs).setCells (B+1+1) 0 ds):=Si.Bz _ (by omega) _ _ _ (Si.Bz _ (by omega) _ _ _ (below_drewN HB.o 1));change Exit.then _ _ Exit.normal _ ((wr.drew.setCells (B+1) 0 cs).setCells (B+1+1) 0 ds)
   generalize (wr.drew.setCells (B+1) 0 cs).setCells (B+1+1) 0 ds=W3 at af ag ad⊢;clear O M aa r3 r4 t1 t2;have q1:=run_loadVar_mid (P:=Tryz.prog) W3 (B+1) 0 166 cs _ af X rfl u3;have q2:=run_loadVar_mid (P:=Tryz.prog) W3 (B+1+1) 0 166 ds _ ag X rfl u4;have Q1:=I q1;clear q1;have Q2:=I q2;clear q2;have BW:=I ad;clear ad;clear af ag u3 u4 X n3 n4 o3 o4 h3 h4
   go_wp2_with fail
   refine bodyPost_ret (v:=.tuple #[.agg cs.toArray,.agg ds.toArray]) (LO 2 3 166 166 ⟨B+1,0,none⟩ ⟨B+1+1,0,none⟩ Tryz.results86 (by rfl) (by rfl) Q1.o Q2.o) (by rfl) ?_;exact⟨by rw[EC.o,ED.o];rfl,EB.o▸BW.o⟩
  ·have e1:(i:Int)<16:=by omega
   have e2:(0:Int)<=(i:Int):=by omega
   have e3:i<16:=by omega
   have e4:(16:Int)+(i:Int)<32:=by omega
   have e5:(0:Int)<=(16:Int)+(i:Int):=by omega
   have e6:16+i<32:=by omega
   have e7:i<32:=by omega
   obtain⟨x,ex⟩:=Aj (ks i);obtain⟨y,ey⟩:=Aj (ks (16+i));have g0:wr.cell? ⟨B,i,none⟩=some (.int .u8 (x.toNat:Int)):=by rw[h0.cell,EK.o,key32_at' ks i e7,ex];rfl
   have g1:wr.cell? ⟨B,16+i,none⟩=some (.int .u8 (y.toNat:Int)):=by rw[h0.cell,EK.o,key32_at' ks (16+i) e6,ey];rfl
   have f3:=h3.frozen;have f4:=h4.frozen;have c3:=h3.cell i;have c4:=h4.cell i;rw[FC _ _ e3] at c3 c4;simp only[bv] at c3 c4;have H0:=I h0;clear h0;have H1:=I h1;clear h1;have H2:=I h2;clear h2;have H3:=I h3;clear h3;have H4:=I h4;clear h4;have hw:IntKind.i64.wrap ((16:Int)+(i:Int))=(16:Int)+(i:Int):=by rw[IntKind.wrap_i64];omega
   have EX:=I ex;clear ex;have EY:=I ey;clear ey;have HX:=I hx;clear hx;have HI:=I hi;clear hi
   go_wp2_with fail
   go_region
   all_goals go_wp2_with fail
   all_goals
    go_roundw
    case rel=>
     have s3:=H3.o.set i (bv x);rw[EX.o,UD ks i e3,<-EX.o] at s3;have s4:=(Si.Blk.far H4.o ⟨B+3,i,none⟩ (bv x) (by simp)).set i (bv y);rw[EY.o,show ks (16+i)=k2 ks i from rfl,UD (k2 ks) i e3] at s4;refine⟨i+1,by omega,by go_num,?_,?_,?_,?_,?_,?_,?_⟩
     ·exact below_drewN (Si.AX (Si.AX HB.o (by simp;omega) _) (by simp;omega) _) 1
     ·simpa [World.setCell] using HS.o
     ·exact Si.Blk.far (Si.Blk.far H0.o ⟨B+3,i,none⟩ _ (show B+3≠B by omega)) ⟨B+4,i,none⟩ _ (show B+4≠B by omega)
     ·exact Si.Blk.far (Si.Blk.far H1.o ⟨B+3,i,none⟩ _ (show B+3≠B+1 by omega)) ⟨B+4,i,none⟩ _ (show B+4≠B+1 by omega)
     ·exact Si.Blk.far (Si.Blk.far H2.o ⟨B+3,i,none⟩ _ (show B+3≠B+2 by omega)) ⟨B+4,i,none⟩ _ (show B+4≠B+2 by omega)
     ·exact Si.Blk.far s3 ⟨B+4,i,none⟩ _ (show B+4≠B+3 by omega)
     ·exact(by have e:=s4;rw[show bv (k2 ks i)=bv y from by rw[EY.o];rfl] at e;exact e)
    case measure=>simp [intOf];omega
theorem dbig (N:Nat) (w:World) (hN:N<18446744073709551616) :
  Calls Tryz.prog 79 #[.int .u64 (N:Int)] w fun e w'=>∃v,e=.returned v/\w'.ownsRow w.heap.size 5 1 v 8 (bvs (w8 N))/\Below w.heap.size w w':=by
 obtain⟨ib,ai,ae,ag,ah⟩:=info_parts Si.Cc;obtain⟨B,eB⟩:=Aj (w.heap.size);have EB:=I eB;clear eB;have HN:=I hN;clear hN;go_enter Tryz.func79,Tryz.ntmps79
 go_wp2_with fail
 go_loopw [3,4] (fun af iv wr=>∃j:Nat,j<=8/\iv=.int .i64 (7 - (j:Int))/\wr.ownsRow B 5 1 af j (laid [] N j)/\Below B w wr) (fun _ iv _=>(intOf iv+1).toNat)
 case atStart=>exact⟨0,by decide,rfl,⟨rfl,.inl ⟨rfl,rfl⟩⟩,Below.refl _ _⟩
 case round=>
  obtain⟨j,hj,rfl,Y,ab⟩:=hrel;have HR:=I Y;clear Y;have HW:=I ab;clear ab
  by_cases hx:j=8
  ·subst hx
   go_wp2_with fail
   go_ret;exact⟨_,rfl,by have:=HR.o;rw[Uz,List.nil_append] at this;exact EB.o▸this,EB.o▸HW.o⟩
  ·obtain⟨k,ek⟩:∃k:Nat,k=7 - j:=⟨_,rfl⟩
   obtain⟨m,em⟩:∃m:Nat,m=56 - 8*j:=⟨_,rfl⟩;have hk:(7:Int) - (j:Int)=(k:Int):=by omega
   rw[hk];have Z:j<8:=by omega
   have ak:(8:Int)*(k:Int)=(m:Int):=by omega
   have ao:m<64:=by omega
   have av:(m:Int)<64:=by omega
   have au:(0:Int)<=(m:Int):=by omega
   have aj:min m 64=m:=by omega
   have ar:(0:Int)<=(k:Int):=by omega
   have an:(k:Int)<=7:=by omega
   have aa:=KH [] N j Z;have hv:bv (UInt8.ofNat (N / 2 ^ (56 - 8*j)))=.int .u8 ((N:Int) / 2 ^ m % 256):=by
    unfold bv;rw[UInt8.toNat_ofNat',<-em];congr 1
   rw[hv] at aa;have NX:=I aa;clear aa;have EM:=I em;clear em;have EK:=I ek;clear ek;have HX:=I hx;clear hx;have HJ:=I hj;clear hj;have X:=I Z;clear Z;clear hk hv
   go_wp2_with (first | (at_builtin;refine AD _ (by rfl) (.tmp 9) (.tmp 16) 25 (by rfl) B 5 ib _ 1 Tryz.underlying25 ai ae ag ah (by rfl) _ j (laid [] N j) (by rfl) (DN HR.o (by rfl)) (wr.heap.size+1) (some ⟨wr.heap.size,0,none⟩) 1 1 [.int .u8 ((N:Int) / 2 ^ m % 256)] (by rfl) (by rfl) (Si.FE wr 5 _ [.int .u8 ((N:Int) / 2 ^ m % 256)] (by rfl) _ rfl) (by simp [Value.oneCell']) (by have:=X.o;unfold maxLen;omega) (by have:=X.o;omega) (by have:=EB.o;have:=HW.o.size;simp;omega) ?_;intro v6 w6 O M ad;have O6:=I O;have G6:=I M;clear O M ad) | fail)
   go_roundw
   case rel=>
    refine⟨j+1,by have:=X.o;omega,?_,by rw[<-NX.o];exact O6.o,?_⟩
    ·exact congrArg (Value.int .i64) (by have:=EK.o;have:=X.o;omega)
    ·exact(HW.o.alloc (by have:=EB.o;have:=HW.o.size;omega) _).grown G6.o (by have:=EB.o;have:=HW.o.size;simp;omega) (fun q hq=>(HR.o.lt q hq).1)
   case measure=>simp [intOf]
theorem Qo (ks:Nat->UInt8) (u n:Nat) (p:List UInt8) (i:Nat) (h:i<p.length) (M:i<(Dj ks u n p.length).length):bvs ((mixL ks u n p).take i)++[bv (p[i] ^^^ (Dj ks u n p.length)[i])]=bvs ((mixL ks u n p).take (i+1)):=by
 rw[List.take_add_one,Qa ks u n p i h M,BJ];rfl
theorem XH (y x:UInt8):bits .xor .u8 (y.toNat:Int) (x.toNat:Int)=((y ^^^ x).toNat:Int):=by
 rw[u8_xor_nat _ _ y.toNat_lt x.toNat_lt,UInt8.toNat_xor]
def twoW (w1:World) (z:Array Value) (t:TypeId) (cs ds:Array Value):World:=(((w1.alloc (.cells z t)).alloc (.cells z t)).setCells w1.heap.size 0 cs.toList).setCells (w1.heap.size+1) 0 ds.toList
theorem Jo (M:World) (z:Array Value) (t:TypeId) (cs ds:Array Value) (X:z.size=cs.size) (Z:z.size=ds.size) :
  (twoW M z t cs ds).rangeAt M.heap.size 0 cs.toList/\(twoW M z t cs ds).rangeAt (M.heap.size+1) 0 ds.toList/\Below M.heap.size M (twoW M z t cs ds)/\M.heap.size+2<=(twoW M z t cs ds).heap.size:=by
 have Y:((M.alloc (.cells z t)).alloc (.cells z t)).there M.heap.size 0 cs.toList.length:=by
  have:=World.there_alloc (Si.Am (Blk.new M t z)) (.cells z t)
  rwa [X,<-Array.length_toList] at this
 have O:((M.alloc (.cells z t)).alloc (.cells z t)).there (M.heap.size+1) 0 ds.toList.length:=by
  have:=Si.Am (Si.Blk.new_of (M.alloc (.cells z t)) (M.heap.size+1) t z z rfl (by simp))
  rwa [Z,<-Array.length_toList] at this
 refine⟨World.rangeAt_setCells_apart (World.rangeAt_setCells_same _ _ _ _ Y) _ _ _ (.inl (by omega)),World.rangeAt_setCells_same _ _ _ _ (World.there_setCells O _ _ _),?_,?_⟩
 ·exact Si.Bz _ (by omega) _ _ _ (Si.Bz _ Af _ _ _ ((Ag.alloc Af _).alloc (by simp) _))
 ·unfold twoW;rw[SpL.Ei,SpL.Ei];simp
theorem dmix (ks:Nat->UInt8) (u n:Nat) (A:Option Addr) (m c:Nat) (p:List UInt8) (w:World) (hu:u<=255) (hn:n<18446744073709551616) (hm:m=p.length) (ax:m<=1000) (hr:Rd w w.heap.size A (bvs p)) :
  Calls Tryz.prog 47 #[.agg (AW ks),.int .i64 (u:Int),.int .u64 (n:Int),.slice A m c] w fun e w'=>∃v,e=.returned v/\w'.ownsRow w.heap.size 5 1 v m (bvs (mixL ks u n p))/\Below w.heap.size w w':=by
 obtain⟨ib,bl,bf,bd,bp⟩:=info_parts Si.Cc;obtain⟨B,eB⟩:=Aj (w.heap.size);obtain⟨N,eN⟩:=Aj (sn u n);have aF:=Qg u n hu;have Y:=Xz u n hu;have X:=XA u n;rw[<-eN] at aF Y X;have bs:(u:Int) % 18446744073709551616=(u:Int):=by omega
 have ar:Sp.strm (Sp.kw ks) (Sp.upW N) (Sp.loW N) m=Dj ks u n m:=by rw[eN];rfl
 have ch:=fun O=>Qn ks O
 have cw:=fun O=>Sp.Xh ks O
 have ai:=fun O=>SpL.VQ (Sp.kw ks) N m (m:Int) O X ax (by simp)
 rw[ar] at ai;have i32:=MT ks;have i16:=IH ks;have Z:=IH (k2 ks);have aD:=Qe ks;have ab:=Qe (k2 ks);have az:=Bi ks;have ae:=Bi (k2 ks);obtain⟨kc,aT⟩:=Aj (AW ks);obtain⟨cs,aO⟩:=Aj (Sp.AN ks);obtain⟨ds,aX⟩:=Aj (Sp.AN (k2 ks));obtain⟨xs,aH⟩:=Aj (Sp.Bb (Sp.kw ks));rw[<-aT] at ch i32⊢;rw[<-aO] at ch cw i16 aD az;rw[<-aX] at ch Z ab ae;rw[<-aH] at cw ai;have hz:Sp.AN (fun _=>0)=#[.int .u8 0,.int .u8 0,.int .u8 0,.int .u8 0,.int .u8 0,.int .u8 0,.int .u8 0,.int .u8 0,.int .u8 0,.int .u8 0,.int .u8 0,.int .u8 0,.int .u8 0,.int .u8 0,.int .u8 0,.int .u8 0]:=rfl;have EB:=I eB;have HR:=I (eB▸hr);clear hr;have HM:=I hm;clear hm;have q3:(m:Int)<=1000:=by omega
 have aI:=I ax;clear ax;have bb:=I i32;clear i32;have ba:=I i16;clear i16;have aV:=I Z;clear Z;have bh:=I aD;clear aD;have aP:=I ab;clear ab;have aN:=I az;clear az;have ao:=I ae;clear ae;have HZ:=I hz;clear hz;have bm:=I ai;clear ai;have bj:=I aF;clear aF;have aY:=I Y;have aM:Hid (((n:Int)*256+(u:Int)) % 18446744073709551616=(N:Int)):=by rw[<-Y];show _=_;omega
 have aU:Hid (IntKind.u64.wrap (IntKind.u64.wrap ((n:Int)*256)+(u:Int))=(N:Int)):=by rw[IntKind.wrap_u64,IntKind.wrap_u64];omega
 clear Y;have h0:Blk (w.alloc (.cells kc 31)) B 31 kc:=eB▸Blk.new w _ _;have aj:Below B w (w.alloc (.cells kc 31)):=eB▸(Below.refl w.heap.size w).alloc Af _;have H0:=I h0;clear h0;have bg:=I aj;clear aj;clear hu hn ar X eN aT aO aX aH eB;go_enter Tryz.func47,Tryz.ntmps47
 go_upto_region 2 with(first
  |(refine Ad (by rfl) 31 (.tmp 4) (by rfl) w.heap.size 0 (by rfl) kc _ (Si.Ac (Blk.new w 31 kc)) Tryz.underlying31 (by rfl) bb.o ?_)
  |(go_at_call 86;refine Ah (ch _) ?_;rintro O ag;clear ch;have ag:=bg.o.trans (ag.mono (by have:=EB.o;simp;omega));have H1:=I ag;clear ag)
  |(refine wpList_store_mid (by rfl) 166 (.tmp 9) (.tmp 17) (by rfl) O.heap.size 0 cs (by rfl) (by rfl) (by rw[aN.o];exact World.there_alloc (by have:=Si.Am (Blk.new O 166 (Sp.AN fun _=>0));rwa [Bi] at this) _) ba.o bh.o ?_)
  |(refine wpList_store_mid (by rfl) 166 (.tmp 10) (.tmp 18) (by rfl) (O.heap.size+1) 0 ds (by rfl) (by rfl) (by rw[ao.o];exact World.there_setCells (by have:=Si.Am (Si.Blk.new_of (O.alloc (.cells (Sp.AN fun _=>0) 166)) (O.heap.size+1) 166 _ (Sp.AN fun _=>0) rfl (by simp));rwa [Bi] at this) _ _ _) aV.o aP.o ?_)
  |fail)
 have h2:=Jo O (Sp.AN fun _=>0) 166 cs ds (by rw[Bi,aN.o]) (by rw[Bi,ao.o]);change Code.wp _ _ _ _ (twoW O (Sp.AN fun _=>0) 166 cs ds);generalize twoW O (Sp.AN fun _=>0) 166 cs ds=W2 at h2⊢;have aa:=H1.o.trans (h2.2.2.1.mono (by have:=H1.o.size;have:=EB.o;omega));have aL:=I aa;clear aa;have bn:=I h2.1;clear h2;have aJ:=cw W2;clear cw
 go_wp2_with (first
  |(refine Ad (by rfl) 166 (.tmp 9) (by rfl) O.heap.size 0 (by rfl) cs _ bn.o Tryz.underlying166 (by rfl) ba.o ?_)
  |(go_at_call 89;refine Ah aJ ?_;rintro w3 af;clear aJ;have af:=aL.o.trans (af.mono (by have:=aL.o.size;have:=EB.o;omega));have c4:=bm.o w3;have H3:=I af;clear af)
  |(go_at_call 88;(first | rw[aY.o] | rw[bj.o] | rw[aM.o] | rw[aU.o]);refine Calls.mono c4 ?_;rintro e w5 ⟨As,sc,rfl,bu,aZ,ah⟩;clear c4;have ah:=H3.o.trans (ah.mono (by have:=H3.o.size;have:=EB.o;omega));have H5:=I ah;have RS:=I aZ;clear ah aZ)
  |fail)
 obtain⟨N0,aW⟩:=Aj (w5.heap.size);have EN:=I aW;clear aW;have aQ:(Dj ks u n m).length=m:=BT ks u n m;have bx:=I aQ;clear aQ
 go_loopw [12,13] (fun bq iv wr=>∃i:Nat,i<=m/\iv=.int .i64 (i:Int)/\wr.ownsRow N0 5 1 bq i (bvs ((mixL ks u n p).take i))/\Below N0 w5 wr) (fun _ iv _=>m - (intOf iv).toNat)
 case atStart=>exact⟨0,Nat.zero_le _,rfl,⟨rfl,.inl ⟨rfl,rfl⟩⟩,Below.refl _ _⟩
 case round=>
  obtain⟨i,hi,rfl,ak,aK⟩:=hrel;have HO:=I ak;clear ak;have HW:=I aK;clear aK
  by_cases hx:i=m
  ·subst hx
   go_wp2_with fail
   go_ret;have h9:=HO.o;rw[List.take_of_length_le (by rw[BB,HM.o];exact Nat.le_refl _)] at h9;refine⟨_,rfl,h9.mono (by have:=EN.o;have:=H5.o.size;omega),?_⟩;rw[<-EB.o];exact H5.o.trans (HW.o.mono (by have:=EN.o;have:=H5.o.size;have:=EB.o;omega))
  ·have aE:i<m:=by omega
   have aA:i<p.length:=by have:=HM.o;omega
   have e1:(i:Int)<(m:Int):=by omega
   have e2:(0:Int)<=(i:Int):=by omega
   have e3:(i:Int)<1000:=by omega
   have aS:i<(Dj ks u n p.length).length:=by rw[BT];exact aA
   have au:i<(Dj ks u n m).length:=by rw[BT];exact aE
   obtain⟨y,ey⟩:=Aj (p[i]);obtain⟨x,ex⟩:=Aj ((Dj ks u n p.length)[i]);obtain⟨z,ez⟩:=Aj (y ^^^ x);obtain⟨b1,o1,rfl,aw,ay⟩:=HR.o.at_ (DT aA);obtain⟨b2,o2,rfl,aR,aC⟩:=RS.o.at_ (DT au);rw[<-ey] at ay;have hex:(Dj ks u n m)[i]=x:=by
    rw[ex];have:=HM.o;subst this
    rfl
   rw[hex] at aC;have an:b1<N0:=by have:=EN.o;have:=H5.o.size;have:=EB.o;omega
   have av:b2<N0:=by have:=EN.o;omega
   have d1:wr.cell? ⟨b1,o1+i,none⟩=some (.int .u8 (y.toNat:Int)):=(HW.o.cell (p:=⟨b1,o1+i,none⟩) an).trans ((H5.o.cell (p:=⟨b1,o1+i,none⟩) aw).trans ay);have d2:wr.cell? ⟨b2,o2+i,none⟩=some (.int .u8 (x.toNat:Int)):=(HW.o.cell (p:=⟨b2,o2+i,none⟩) av).trans aC;have bw:bits .xor .u8 (y.toNat:Int) (x.toNat:Int)=(z.toNat:Int):=by rw[ez];exact XH y x
   have aB:=Qo ks u n p i aA aS;rw[<-ey,<-ex,<-ez] at aB;have NX:=I aB;clear aB;have HX:=I hx;clear hx;have HI:=I hi;clear hi;clear ey ex ez ay aC hex aS au aw aR an av
   go_wp2_with fail
   go_region_law (refine step_append_lies _ (by rfl) (.tmp 35) (.tmp 45) 25 (by rfl) N0 5 ib _ 1 1 Tryz.underlying25 bl bf bd bp (by rfl) (by decide) u12 i (bvs ((mixL ks u n p).take i)) (by rfl) (DN HO.o (by rfl)) ⟨wr.heap.size,0,none⟩ 1 1 [.int .u8 (z.toNat:Int)] (by rfl) (by rfl) (Sp.Kz (by rfl)) (by simp [Value.oneCell']) (by decide) (by have:=HI.o;have:=aI.o;unfold maxLen;omega) (by have:=HI.o;have:=aI.o;omega) (by have:=EN.o;have:=HW.o.size;simp;omega) (wr.heap.size+1) (by simp) ?_;intro g2 br w2 ad M bo aE)
   all_goals (
    have aG:(wr.alloc (.cells #[.int .u8 (z.toNat:Int)] 5)).grownBy w2 u12.ownBlock:=⟨M.os,M.tape,M.output,M.size,M.block⟩;have aa:=(HW.o.alloc (by have:=EN.o;have:=HW.o.size;omega) (Obj.cells #[.int .u8 (z.toNat:Int)] 5)).grown aG (by have:=EN.o;have:=HW.o.size;simp;omega) (fun q hq=>(HO.o.lt q hq).1);have O6:=I ad;clear ad;have B6:=I aa;clear aa;clear M bo aE aG d1 d2
    go_wp2_with fail
    go_roundw
    case rel=>exact⟨i+1,by omega,by go_num,by rw[<-NX.o];exact O6.o,B6.o⟩
    case measure=>simp [intOf];omega)
theorem Gb {w w':World} {b o:Nat} {cs:List Value} {row:Option Nat} (h:w.rangeAt b o cs) (M:b<w.heap.size) (O:w.grownBy w' row) (X:row≠some b):w'.rangeAt b o cs:=fun j v Y=>
 (World.cell?_of_block (a:=⟨b,o+j,none⟩) (O.block b M (fun e=>X e.symm))).trans (h j v Y)
theorem Ej {w w':World} {b o:Nat} {cs:List Value} (h:w.rangeAt b o cs) (M:b<w.heap.size) (O:Below w.heap.size w w'):w'.rangeAt b o cs:=Gb h M (BA O none) (by simp)
theorem dtag (ks:Nat->UInt8) (u:Nat) (A:Option Addr) (m c:Nat) (l:List UInt8) (w:World) (hu:u<=255) (hm:m=l.length) (aK:m<=1000) (hr:Rd w w.heap.size A (bvs l)) :
  Calls Tryz.prog 46 #[.agg (AW ks),.int .i64 (u:Int),.slice A m c] w fun e w'=>∃v,e=.returned v/\w'.ownsRow w.heap.size 5 1 v 8 (bvs (w8 (tagL ks u l)))/\Below w.heap.size w w':=by
 obtain⟨ib,br,bh,bd,bg⟩:=info_parts Si.Cc;obtain⟨B,eB⟩:=Aj (w.heap.size);have ch:=fun O=>Qn ks O
 have i32:=MT ks;have i16:=IH ks;have Z:=IH (k2 ks);have aA:=Qe ks;have af:=Qe (k2 ks);have av:=Bi ks;have ak:=Bi (k2 ks);obtain⟨T,eT⟩:=Aj (tagL ks u l);have aI:T<18446744073709551616:=by rw[eT];exact LJ _ _ _
 have aa:=fun(w4:World) (A4:Option Addr) (c4:Nat) (h1:1+m<=c4) (h2:c4<=maxLen) (h3:Rd w4 w4.heap.size A4 (bvs (UInt8.ofNat u :: l)))=>Si.SH (k2 ks) A4 (1+m) c4 (UInt8.ofNat u :: l) w4 (by rw[List.length_cons,hm,Nat.add_comm]) (by omega) h1 h2 h3
 have hT:∀e,e=Ending.returned (Si.wv (Si.GY (k2 ks) (UInt8.ofNat u :: l)))->e=.returned (.int .u64 (T:Int)):=fun e h=>by rw[h,eT];rfl
 have aB:[Value.int .u8 (u:Int)]++bvs l=bvs (UInt8.ofNat u :: l):=by
  show [Value.int .u8 (u:Int)]++bvs l=bv (UInt8.ofNat u) :: bvs l;rw[UA u hu];rfl
 obtain⟨kc,aL⟩:=Aj (AW ks);obtain⟨cs,aW⟩:=Aj (Sp.AN ks);have aZ:∃dl:List Value,dl.toArray=Sp.AN (k2 ks):=⟨_,rfl⟩;obtain⟨dl,ay⟩:=aZ;obtain⟨L,eL⟩:=Aj (UInt8.ofNat u :: l);rw[<-aL] at ch i32⊢;rw[<-aW] at ch i16 aA av;rw[<-ay] at ch Z af ak;have aD:Si.AN (k2 ks)=Sp.AN (k2 ks):=rfl;rw[aD,<-ay] at aa;rw[<-eL] at aa hT aB;rw[<-eT];have u16:(Tryz.prog.info? 166).map (·.size)=some dl.length:=by rw[<-List.size_toArray];exact Z
 have ae:=Tryz.underlying166;have bs:(u:Int)<=255:=by omega
 have bw:(0:Int)<=(u:Int):=by omega
 have bf:(u:Int) % 256=(u:Int):=by omega
 have bu:IntKind.u8.wrap (u:Int)=(u:Int):=by rw[IntKind.wrap_u8'];exact bf
 have EB:=I eB;have HR:=I (eB▸hr);clear hr;have HM:=I hm;clear hm;have q3:(m:Int)<=1000:=by omega
 have aJ:=I aK;clear aK;have bb:=I i32;clear i32;have bq:=I i16;clear i16;have aO:=I Z;clear Z;have bm:=I aA;clear aA;have aX:=I af;clear af;have aP:=I av;clear av;have au:=I ak;clear ak;have aV:=I aa;clear aa;have HT:=I hT;clear hT;have ba:=I aB;clear aB;have TL:=I aI;clear aI;have aY:=I u16;clear u16;have aH:=I ae;clear ae;have ao:Below B w (w.alloc (.cells kc 31)):=eB▸(Below.refl w.heap.size w).alloc Af _;have bl:=I ao;clear ao;clear hu aL aW ay eT eL aD eB;go_enter Tryz.func46,Tryz.ntmps46
 go_upto_region 2 with(first
  |(refine Ad (by rfl) 31 (.tmp 3) (by rfl) w.heap.size 0 (by rfl) kc _ (Si.Ac (Blk.new w 31 kc)) Tryz.underlying31 (by rfl) bb.o ?_)
  |(go_at_call 86;refine Ah (ch _) ?_;rintro O an;clear ch;have an:=bl.o.trans (an.mono (by have:=EB.o;simp;omega));have H1:=I an;clear an)
  |(refine wpList_store_mid (by rfl) 166 (.tmp 7) (.tmp 12) (by rfl) O.heap.size 0 cs (by rfl) (by rfl) (by rw[aP.o];exact World.there_alloc (by have:=Si.Am (Blk.new O 166 (Sp.AN fun _=>0));rwa [Bi] at this) _) bq.o bm.o ?_)
  |(refine wpList_store_mid (by rfl) 166 (.tmp 8) (.tmp 13) (by rfl) (O.heap.size+1) 0 dl.toArray (by rfl) (by rfl) (by rw[au.o];exact World.there_setCells (by have:=Si.Am (Si.Blk.new_of (O.alloc (.cells (Sp.AN fun _=>0) 166)) (O.heap.size+1) 166 _ (Sp.AN fun _=>0) rfl (by simp));rwa [Bi] at this) _ _ _) aO.o aX.o ?_)
  |fail)
 have h2:=Jo O (Sp.AN fun _=>0) 166 cs dl.toArray (by rw[Bi,aP.o]) (by rw[Bi,au.o]);change Code.wp _ _ _ _ (twoW O (Sp.AN fun _=>0) 166 cs dl.toArray);generalize twoW O (Sp.AN fun _=>0) 166 cs dl.toArray=W2 at h2⊢;have aG:=H1.o.trans (h2.2.2.1.mono (by have:=H1.o.size;have:=EB.o;omega));have aN:Hid (Below B w W2.drew):=below_drewN aG 1;have ax:W2.drew.rangeAt (O.heap.size+1) 0 dl:=by have:=h2.2.1;simpa using this
 have bo:=I (show O.heap.size+2<=W2.drew.heap.size from h2.2.2.2);clear h2 aG;have ae:=aH.o;have u16:=aY.o;simp only[Act.put];have bn:Hid ((W2.alloc (.cells #[.int .u8 (u:Int)] 5)).drew.ownsRow W2.heap.size 5 1 (.slice (some ⟨W2.heap.size,0,none⟩) 1 1) 1 [.int .u8 (u:Int)]):=World.ownsRow_lit (base:=W2.heap.size) (e:=5) (size:=1) W2.drew #[.int .u8 (u:Int)] 1 Af (by decide) (by rfl);have aw:B<=W2.drew.heap.size:=by have:=aN.o.size;have:=EB.o;omega
 have aQ:Hid (Below B w (W2.alloc (.cells #[.int .u8 (u:Int)] 5)).drew):=aN.o.alloc aw (.cells #[.int .u8 (u:Int)] 5);have bj:Hid (Rd (W2.alloc (.cells #[.int .u8 (u:Int)] 5)).drew B A (bvs l)):=HR.o.below aQ.o;have aj:(W2.alloc (.cells #[.int .u8 (u:Int)] 5)).drew.rangeAt (O.heap.size+1) 0 dl:=World.rangeAt_alloc ax (.cells #[.int .u8 (u:Int)] 5);have X:Hid ((W2.alloc (.cells #[.int .u8 (u:Int)] 5)).drew.heap.size=W2.heap.size+1):=by show(W2.alloc _).heap.size=_;simp
 have ab:Hid (O.heap.size+2<=W2.heap.size):=bo.o;have aU:Hid (B<=W2.heap.size):=aw;clear aw
 go_region_held3 (fun w'=>w'.rangeAt (O.heap.size+1) 0 dl) (first | exact ax | exact aj | exact aC | exact az | exact aF) (first
  |(rw[if_pos (by rfl)];refine Ff _ (.tmp 17) (.tmp 18) 25 (by rfl) W2.heap.size 5 ib _ 1 Tryz.underlying25 br bh bd bg (by rfl) _ 1 [.int .u8 (u:Int)] (by rfl) bn.o B A m c (bvs l) (by rfl) (by rw[AB];exact HM.o) bj.o (BM _) (by have:=aJ.o;unfold maxLen;omega) (by have:=aJ.o;omega) (by have:=X.o;omega) ?_;intro v4 w4 Y M aR;rw[ba.o] at Y;have aC:w4.rangeAt (O.heap.size+1) 0 dl:=Gb aj (by have:=X.o;have:=ab.o;omega) M (by have:=ab.o;simp [Value.ownBlock];omega);have aT:Below B w w4:=aQ.o.grown M (by have:=X.o;have:=aU.o;omega) (fun k hk=>by have:=aU.o;simp [Value.ownBlock] at hk;omega);obtain⟨A4,c4,bp,aM,aS,aE⟩:=Ga (S:=fun _=>False) Y (fun _ _ x=>x);subst bp;have ai:=aV.o w4 A4 c4 aM aS aE.rd;have H4:=I aT;have Z4:=I M.size;clear Y M aR aT aM aS aE)
  |(go_at_call 87;refine Calls.mono ai ?_;rintro e w5 ⟨he,ad⟩;have he:=HT.o e he;subst he;clear ai;have az:w5.rangeAt (O.heap.size+1) 0 dl:=Ej aC (by have:=Z4.o;have:=X.o;have:=ab.o;omega) ad;have Z5:=I ad.size;have ad:=H4.o.trans (ad.mono (by have:=H4.o.size;have:=EB.o;omega));have ar:=dbig T w5 TL.o;have H5:=I ad;clear ad)
  |(go_at_call 79;refine Calls.mono ar ?_;rintro e w6 ⟨v6,rfl,ag,ah⟩;clear ar;have aF:w6.rangeAt (O.heap.size+1) 0 dl:=Ej az (by have:=Z4.o;have:=Z5.o;have:=X.o;have:=ab.o;omega) ah;have ah:=H5.o.trans (ah.mono (by have:=H5.o.size;have:=EB.o;omega));have H6:=I ah;have O6:=I ag;have Z6:=I H5.o.size;clear ah ag))
 all_goals (
  clear ax aj aC az aF
  go_wp2_with fail
  go_ret;exact⟨_,rfl,O6.o.mono (by have:=Z6.o;have:=EB.o;omega),EB.o▸H6.o⟩)
theorem Qp (ks:Nat->UInt8) (u n:Int) (A:Option Addr) (m c:Nat) (w:World) (Z:¬(0<=u/\u<=255/\0<=n/\n<=1099511627776/\m<=784)) :
  Calls Tryz.prog 38 #[.agg (AW ks),.int .i64 u,.int .i64 n,.slice A m c] w fun e w'=>e=.returned (.tuple #[.slice none 0 0,.int .i64 1])/\Below w.heap.size w w':=by
 obtain⟨kc,M⟩:=Aj (AW ks);rw[<-M];have t:(decide (u<0)=true)\/(decide (u<0)=false/\decide (255<u)=true)\/(decide (u<0)=false/\decide (255<u)=false/\decide (n<0)=true)\/(decide (u<0)=false/\decide (255<u)=false/\decide (n<0)=false/\decide (1099511627776<n)=true)\/(decide (u<0)=false/\decide (255<u)=false/\decide (n<0)=false/\decide (1099511627776<n)=false/\decide (784<(m:Int))=true):=by
  simp only[decide_eq_true_eq,decide_eq_false_iff_not];omega
 have HB:=I ((Below.refl w.heap.size w).alloc Af (.cells kc 31));clear Z M;rcases t with O | ⟨O,X⟩ | ⟨O,X,Y⟩ | ⟨O,X,Y,t4⟩ | ⟨O,X,Y,t4,t5⟩<;>(
  go_enter Tryz.func38,Tryz.ntmps38
  go_wp2
  go_ret2
  exact⟨rfl,HB.o⟩)
theorem Qq (ks:Nat->UInt8) (u n:Nat) (A:Option Addr) (m c:Nat) (p:List UInt8) (w:World) (hu:u<=255) (hn:n<=1099511627776) (hm:m=p.length) (ar:m<=784) (hr:Rd w w.heap.size A (bvs p)) :
  Calls Tryz.prog 38 #[.agg (AW ks),.int .i64 (u:Int),.int .i64 (n:Int),.slice A m c] w fun e w'=>∃A2 c2,e=.returned (.tuple #[.slice A2 (m+16) c2,.int .i64 0])/\RdA (fun i=>i<w.heap.size) w' A2 (bvs (Dn ks u n p))/\Below w.heap.size w w'/\m+16<=c2/\c2<=maxLen:=by
 obtain⟨ib,aT,aL,aH,aW⟩:=info_parts Si.Cc;obtain⟨B,eB⟩:=Aj (w.heap.size);have ab:=fun(w1:World) (h1:Rd w1 w1.heap.size A (bvs p))=>dmix ks u n A m c p w1 hu (by omega) hm (by omega) h1
 have ah:=fun(w1:World)=>dbig n w1 (by omega)
 obtain⟨L,eL⟩:=Aj (Et ks u n p);have au:bvs (w8 n)++bvs (mixL ks u n p)=bvs L:=by rw[eL,Et,BJ]
 have aD:8+m=L.length:=by rw[eL,BX,<-hm]
 have ae:=fun(w1:World) (A1:Option Addr) (c1:Nat) (h1:Rd w1 w1.heap.size A1 (bvs L))=>dtag ks u A1 (8+m) c1 L w1 hu aD (by omega) h1
 have ak:bvs L++bvs (w8 (tagL ks u L))=bvs (Dn ks u n p):=by rw[eL,<-BJ];rfl
 have az:(bvs (mixL ks u n p)).length=m:=by rw[AB,BB,hm]
 obtain⟨M,eM⟩:=Aj (bvs (mixL ks u n p));obtain⟨W8,aI⟩:=Aj (bvs (w8 n));obtain⟨T8,an⟩:=Aj (bvs (w8 (tagL ks u L)));have oM:∀v∈M,v.oneCell'=true:=eM▸BM _;have oT:∀v∈T8,v.oneCell'=true:=an▸BM _;have aO:T8.length=8:=by rw[an,AB,Di]
 rw[<-eM] at ab au az;rw[<-aI] at ah au;rw[<-an] at ae ak;have bf:∃kl:List Value,kl.toArray=AW ks:=⟨_,rfl⟩;obtain⟨kl,aw⟩:=bf;have u32:(Tryz.prog.info? 31).map (·.size)=some kl.length:=by rw[<-List.size_toArray,aw];exact MT ks
 have aX:=Tryz.underlying31;rw[<-aw] at ab ae⊢;have q1:(n:Int)<=1099511627776:=by omega
 have q2:(0:Int)<=(n:Int):=by omega
 have q3:(m:Int)<=784:=by omega
 have q4:IntKind.u64.wrap (n:Int)=(n:Int):=by rw[IntKind.wrap_u64];omega
 have q5:(n:Int) % 18446744073709551616=(n:Int):=by omega
 have t1:decide ((u:Int)<0)=false:=by simp
 have t2:decide (255<(u:Int))=false:=by simp;omega
 have t3:decide ((n:Int)<0)=false:=by simp
 have t4:decide (1099511627776<(n:Int))=false:=by simp;omega
 have t5:decide (784<(m:Int))=false:=by simp;omega
 have EB:=I eB;have HR:=I (eB▸hr);clear hr;have ao:=I ar;clear ar;have aJ:=I ab;clear ab;have ba:=I ah;clear ah;have aG:=I ae;clear ae;have bh:=I au;clear au;have aP:=I ak;clear ak;have bo:=I az;clear az;have bq:=I aO;clear aO;have OM:=I oM;clear oM;have OT:=I oT;clear oT;have ay:(w.alloc (.cells kl.toArray 31)).drew.rangeAt w.heap.size 0 kl:=by have:=Si.Ac (Blk.new w 31 kl.toArray);simpa using this
 have bm:Hid (Below B w (w.alloc (.cells kl.toArray 31)).drew):=eB▸below_drewN ((Below.refl w.heap.size w).alloc Af _) 1;have av:Hid ((w.alloc (.cells kl.toArray 31)).drew.heap.size=B+1):=by show(w.alloc _).heap.size=_;simp [eB]
 have cb:=ba.o (w.alloc (.cells kl.toArray 31)).drew;clear hu hn hm aD eM aI an aw eB eL;go_enter Tryz.func38,Tryz.ntmps38
 go_upto_region 3 with fail
 go_region_held3 (fun w'=>w'.rangeAt w.heap.size 0 kl) (first | exact ay | exact aA | exact ax | exact aB) (first
  |(rw[if_pos (by rfl)];refine Ff _ (.tmp 32) (.tmp 38) 25 (by rfl) (B+1) 5 ib _ 1 Tryz.underlying25 aT aL aH aW (by rfl) v1 8 W8 (by rfl) O2.o w2.heap.size A2 m c2 M (by rfl) bo.o.symm R2.o OM.o (by have:=ao.o;unfold maxLen;omega) (by have:=ao.o;omega) (by have:=Z2.o;omega) ?_;intro v3 w3 Y O aZ;rw[bh.o] at Y;have aB:w3.rangeAt w.heap.size 0 kl:=Gb ax (by have:=Z2.o;have:=EB.o;omega) O (fun hx=>by have:=Fk O2.o _ hx;have:=EB.o;omega);have aN:Below B w w3:=H2.o.grown O (by have:=Z2.o;omega) (fun k hk=>by have:=Fk O2.o _ hk;omega);obtain⟨A3,c3,bg,bp,bl,bb⟩:=Ga (S:=fun _=>False) Y (fun _ _ x=>x);subst bg;have ct:=aG.o w3 A3 c3 bb.rd;have H3:=I aN;have O3:=I Y;have Z3:=I (Nat.le_trans Z2.o O.size);clear Y O aZ aN bp bl bb)
  |(go_at_call 79;refine Calls.mono cb ?_;rintro e w1 ⟨v1,rfl,ai,Z⟩;clear cb;have aA:w1.rangeAt w.heap.size 0 kl:=Ej ay (by have:=av.o;have:=EB.o;omega) Z;have bd:B+1<=w1.heap.size:=by{have:=av.o;have:=Z.size;omega};have Z:=bm.o.trans (Z.mono (by have:=av.o;omega));have cm:=aJ.o w1 ((HR.o.below Z).more (by omega));have H1:=I Z;have O1:=I (ai.mono (base':=B+1) (by have:=av.o;omega));have Z1:=I bd;clear Z ai bd)
  |(go_at_call 47;refine Calls.mono cm ?_;rintro e w2 ⟨v2,rfl,aj,aa⟩;clear cm;have ax:w2.rangeAt w.heap.size 0 kl:=Ej aA (by have:=Z1.o;have:=EB.o;omega) aa;have aR:B+1<=w2.heap.size:=Nat.le_trans Z1.o aa.size;have aQ:=CN O1.o aa;obtain⟨A2,c2,bn,br,ar,aK⟩:=Ga (S:=fun _=>False) aj (fun _ _ x=>x);subst bn;have aa:=H1.o.trans (aa.mono (by have:=Z1.o;omega));have H2:=I aa;have O2:=I aQ;have Z2:=I aR;have R2:=I aK.rd;clear aa aj aR aQ br ar aK))
 all_goals (
  have bx:Hid (w3.rangeAt w.heap.size 0 kl.toArray.toList):=aB;have bu:Hid ((Tryz.prog.info? 31).map (·.size)=some kl.toArray.size):=by rw[List.size_toArray];exact u32
  clear ay aA ax aB u32 aX Z aa
  go_wp2_with (first
   |(refine Ad (by rfl) 31 (.tmp 4) (by rfl) w.heap.size 0 (by rfl) kl.toArray _ bx.o Tryz.underlying31 (by rfl) bu.o ?_)
   |(go_at_call 46;refine Calls.mono ct ?_;rintro e w4 ⟨v4,rfl,ag,af⟩;clear ct;have aS:=CN O3.o af;have aC:=Nat.le_trans Z3.o af.size;have af:=H3.o.trans (af.mono (by have:=Z3.o;omega));obtain⟨A4,c4,bz,bj,bw,aV⟩:=Ga (S:=fun _=>False) ag (fun _ _ x=>x);subst bz;have H4:=I af;have O4:=I aS;have Z4:=I aC;have R4:=I aV.rd;clear af ag aS aC bj bw aV)
   |(at_builtin;refine AD _ (by rfl) (.tmp 40) (.tmp 44) 25 (by rfl) (B+1) 5 ib _ 1 Tryz.underlying25 aT aL aH aW (by rfl) _ (8+m) (bvs L) (by rfl) O4.o w4.heap.size A4 8 c4 T8 (by rfl) bq.o.symm R4.o OT.o (by have:=ao.o;unfold maxLen;omega) (by have:=ao.o;omega) (by have:=Z4.o;omega) ?_;intro v5 w5 X ad aE;rw[aP.o] at X;have aU:=H4.o.grown ad (by have:=Z4.o;omega) (fun k hk=>by have:=Fk O4.o k hk;omega);obtain⟨A5,c5,bs,aY,aM,aF⟩:=Ga (S:=fun i=>i<w.heap.size) X (fun k hk hx=>by have:=Fk X k hk;have:=EB.o;omega);subst bs;have H5:=I aU;have R5:=I aF;have C5:=I (And.intro aY aM);clear X ad aE aU aY aM aF)
   |fail)
  go_ret2
  exact⟨A5,c5,by show Ending.returned (.tuple #[.slice A5 (8+m+8) c5,.int .i64 0])=_;rw[show 8+m+8=m+16 by omega],R5.o,EB.o▸H5.o,by have:=C5.o.1;omega,C5.o.2⟩)
theorem SR (ks:Nat->UInt8) (u n:Nat) (A:Option Addr) (m c:Nat) (p:List UInt8) (w:World) (hu:u<=255) (hn:n<=1099511627776) (hm:m=p.length) (M:m<=784) (Z:Rd w w.heap.size A (bvs p)) :
  Calls Tryz.prog 38 #[.agg (AW ks),.int .i64 (u:Int),.int .i64 (n:Int),.slice A m c] w fun e w'=>∃A2 c2,e=.returned (.tuple #[.slice A2 (m+16) c2,.int .i64 0])/\RdA (fun i=>i<w.heap.size) w' A2 (bvs (Dn ks u n p))/\Below w.heap.size w w':=by
 refine(Qq ks u n A m c p w hu hn hm M Z).mono ?_;rintro e w' ⟨A2,c2,Y,O,X,_⟩;exact⟨A2,c2,Y,O,X⟩
end Se
end Go.Proofs.YtcpccikongbopaaGreat
