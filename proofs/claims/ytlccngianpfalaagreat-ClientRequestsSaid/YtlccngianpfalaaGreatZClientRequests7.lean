import Derived.Test.YtlccngianpfalaaGreatZClientRequests6
set_option maxHeartbeats 25600000
set_option maxRecDepth 100000
set_option linter.unusedVariables false
set_option linter.unusedSimpArgs false
namespace Go.Proofs.YtlccngianpfalaaGreat
namespace Open
open Go.ChangeShapes Go.WideShapes Go.ChangeAt Go.RowKit Go.Deep Ae
theorem Qu {n:Int} (h:(Lit.int .i64 n).wf=true) : -9223372036854775808<=n/\n<=9223372036854775807:=by
 simpa [Lit.wf,IntKind.min,IntKind.max,IntKind.signed,IntKind.bits] using h
section
variable {H:Type} {enc:TypeId×Value->H} {P:Program} {W:World}
end
end Open
namespace Se
open Go.RowKit Ae
theorem SX (b:Nat) (u N:Int) (A:Option Addr) (m c:Nat) (w:World) (Y:(Lit.int .i64 N).wf=true) (hm:m<=maxLen) (Z:¬(0<=u/\u<=255/\0<=N/\N<=1099511627776/\m<=784)) :
  Calls Tryz.prog 131 #[.pointer (some ⟨b,0,none⟩),.int .i64 u,.int .i64 N,.slice A m c] w fun e w'=>e=.returned (.tuple #[.slice none 0 0,.int .i64 1])/\w'=w:=by
 by_cases h1:0<=u/\u<=255
 ·have M:=Ee u true (by simp;omega)
  by_cases h2:N<0
  ·have t2:decide (N<0)=true:=by simpa using h2
   clear Z h1 Y hm;go_enter Tryz.func131,Tryz.ntmps131
   go_wp2_with (go_at_call 101;refine Ah (M _) ?_;rintro X hw;have hw:=hw.symm;subst hw;clear M)
   go_ret2
   exact⟨rfl,rfl⟩
  ·obtain⟨n,rfl⟩:∃n:Nat,N=(n:Int):=⟨N.toNat,by omega⟩
   have aa:n<9223372036854775808:=by
    have:=Open.Qu Y;omega
   have t2:decide ((n:Int)<0)=false:=by simp
   have q4:IntKind.u64.wrap (n:Int)=(n:Int):=by rw[IntKind.wrap_u64];omega
   by_cases h3:n<=1099511627776
   ·have O:=Fv n true (by simp;omega)
    have t3:decide (784<(m:Int))=true:=by simp;omega
    have q1:(n:Int)<=1099511627776:=by omega
    clear Z h1 h2 Y;go_enter Tryz.func131,Tryz.ntmps131
    go_wp2_with (first
     |(go_at_call 101;refine Ah (M _) ?_;rintro X hw;have hw:=hw.symm;subst hw;clear M)
     |(go_at_call 150;refine Ah (O _) ?_;rintro X hw;have hw:=hw.symm;subst hw;clear O))
    go_ret2
    exact⟨rfl,rfl⟩
   ·have O:=Fv n false (by simp;omega)
    clear Z h1 h2 Y;go_enter Tryz.func131,Tryz.ntmps131
    go_wp2_with (first
     |(go_at_call 101;refine Ah (M _) ?_;rintro X hw;have hw:=hw.symm;subst hw;clear M)
     |(go_at_call 150;refine Ah (O _) ?_;rintro X hw;have hw:=hw.symm;subst hw;clear O))
    go_ret2
    exact⟨rfl,rfl⟩
 ·have M:=Ee u false (by
   rw[eq_comm,Bool.and_eq_false_iff];rcases Int.lt_or_le u 0 with h | h
   ·exact .inl (by simp;omega)
   ·exact .inr (by simp;omega))
  clear Z h1 Y;go_enter Tryz.func131,Tryz.ntmps131
  go_wp2_with (go_at_call 101;refine Ah (M _) ?_;rintro X hw;have hw:=hw.symm;subst hw;clear M)
  go_ret2
  exact⟨rfl,rfl⟩
theorem SY (b:Nat) (u:Int) (p:Value) (w:World) (O:¬(0<=u/\u<=255)) :
  Calls Tryz.prog 57 #[.pointer (some ⟨b,0,none⟩),.int .i64 u,p] w fun e w'=>e=.returned (.tuple #[.slice none 0 0,.int .i64 1])/\w'=w:=by
 have M:=Ee u false (by
  rw[eq_comm,Bool.and_eq_false_iff];rcases Int.lt_or_le u 0 with h | h
  ·exact .inl (by simp;omega)
  ·exact .inr (by simp;omega))
 clear O;go_enter Tryz.func57,Tryz.ntmps57
 go_wp2_with (go_at_call 101;refine Ah (M _) ?_;rintro X hw;have hw:=hw.symm;subst hw;clear M)
 go_ret2
 exact⟨rfl,rfl⟩
def Dh (w w':World) (b:Nat) (h h':Option Nat):Prop:=Chg (Ow b h) w w'/\(h'=h\/(h=none/\∃g,h'=some g/\w.heap.size<=g))
theorem Dh.refl (w:World) (b:Nat) (h:Option Nat):Dh w w b h h:=⟨Chg.refl _ _,.inl rfl⟩
theorem Step.o {w w':World} {b g:Nat} {h:Option Nat} (hs:Step w w' b h g):Dh w w' b h (some g):=
 ⟨hs.1,hs.2.imp (fun e=>e.symm) (fun e=>⟨e.1,g,rfl,e.2⟩)⟩
theorem Dh.own {w w':World} {b:Nat} {h O:Option Nat} (hs:Dh w w' b h O):∀i,i<w.heap.size->Ow b O i->Ow b h i:=by
 intro i Y M;rcases hs.2 with rfl | ⟨_,g,rfl,X⟩
 ·exact M
 ·rcases M with M | M
  ·exact .inl M
  ·injection M with M;omega
theorem Dh.trans {a w c:World} {b:Nat} {h O X:Option Nat} (s1:Dh a w b h O) (s2:Dh w c b O X):Dh a c b h X:=by
 refine⟨s1.1.trans s2.1 s1.own,?_⟩;rcases s1.2 with rfl | ⟨e,g,rfl,M⟩
 ·rcases s2.2 with rfl | ⟨e,g,rfl,M⟩
  ·exact .inl rfl
  ·exact .inr ⟨e,g,rfl,Nat.le_trans s1.1.size M⟩
 ·rcases s2.2 with rfl | ⟨Y,_⟩
  ·exact .inr ⟨e,g,rfl,M⟩
  ·cases Y
theorem Dh.drewN {w w':World} {b:Nat} {h M:Option Nat} (hs:Dh w w' b h M) (k:Nat):Dh w (w'.drewN k) b h M:=⟨⟨hs.1.os,hs.1.tape,hs.1.output,hs.1.size,hs.1.block⟩,hs.2⟩
theorem Fx (S:Nat->Prop) (w:World) (k:Nat):Chg S w (w.drewN k):=⟨rfl,rfl,rfl,Nat.le_refl _,fun _ _ _=>rfl⟩
theorem IL {l:List UInt8} {n:Nat} {P:Prop} (O:n=l.length) (h:8<=n) (M:bvs l = []):P:=by
 have:=AB l;rw[M] at this;simp at this;omega
theorem RdA.take {S:Nat->Prop} {w:World} {A:Option Addr} {l:List UInt8} (h:RdA S w A (bvs l)) (k:Nat):RdA S w A (bvs (l.take k)):=by
 rcases h with h | ⟨b,o,M,X,O,Y⟩
 ·left
  have:l = []:=List.map_eq_nil_iff.1 h;rw[this,List.take_nil];rfl
 ·refine .inr ⟨b,o,M,X,O,fun i u hu=>Y i u ?_⟩
  unfold bvs at hu⊢;rw[List.map_take,List.getElem?_take] at hu
  split at hu
  ·exact hu
  ·cases hu
theorem RdA.drop {S:Nat->Prop} {w:World} {b o:Nat} {l:List UInt8} (h:RdA S w (some ⟨b,o,none⟩) (bvs l)) (k:Nat):RdA S w (some ⟨b,o+k,none⟩) (bvs (l.drop k)):=by
 rcases h with h | ⟨Z,o',M,X,O,Y⟩
 ·left
  have:l = []:=List.map_eq_nil_iff.1 h;rw[this,List.drop_nil];rfl
 ·injection M with M
  injection M with e1 e2;subst e1 e2;refine .inr ⟨b,o+k,rfl,X,O,fun i u hu=>?_⟩;unfold bvs at hu;rw[List.map_drop,List.getElem?_drop] at hu;have:=Y (k+i) u hu
  rwa [<-Nat.add_assoc] at this
theorem Qv {ks:Nat->UInt8} {u:Nat} {l:List UInt8} (h:l.length<16\/800<l.length\/1099511627776<n8 l):isL ks u l=false:=by
 unfold isL;rcases h with h | h | h
 ·rw[show decide (16<=l.length)=false by simp;omega];simp
 ·rw[show decide (l.length<=800)=false by simp;omega];simp
 ·rw[show decide (n8 l<=1099511627776)=false by simp;omega];simp
theorem SZ {ks:Nat->UInt8} {u:Nat} {l:List UInt8} (O:16<=l.length) (M:l.length<=800) (X:n8 l<=1099511627776):isL ks u l=decide (tagL ks u (Fb l)=n8 (DX l)):=by
 unfold isL;rw[show decide (16<=l.length)=true by simpa using O,show decide (l.length<=800)=true by simpa using M,show decide (n8 l<=1099511627776)=true by simpa using X];simp
theorem Dh.aw {w w':World} {b n:Nat} {h O:Option Nat} (hs:Dh w w' b h O):Chg (Aw b h n) w w':=hs.1.mono fun i _ M=>.inl M
theorem Dh.rda {w w':World} {b:Nat} {h M:Option Nat} {A:Option Addr} {xs:List Value} (hs:Dh w w' b h M) (O:RdA (Ow b h) w A xs):RdA (Ow b M) w' A xs:=
 O.keep hs.1 (fun _ _ x=>x) hs.own
def ksOf (l:List UInt8) (i:Nat):UInt8:=l.getD i 0
theorem Ta (ks:Nat->UInt8) (u n:Nat) (p:List UInt8) (M:n<=1099511627776) (O:p.length<=784):isL ks u (Du ks u n p)=true:=by
 have h:=GH ks u n p M O;unfold VS at h
 split at h
 ·assumption
 ·cases h
theorem Tb (ks:Nat->UInt8) (u n:Nat) (p:List UInt8) (M:n<=1099511627776):mixL ks u (n8 (Du ks u n p)) (midL (Du ks u n p))=p:=by
 rw[Nb,LQ ks u n p (by omega),Qi]
theorem RdA.o {w w':World} {b g:Nat} {h:Option Nat} {A:Option Addr} {xs:List Value} {ks:Nat->UInt8} {a o r:Nat} (X:RdA (Nw w.heap.size g) w' A xs) (O:Box w b ks h a o r):RdA (Ow b (some g)) w' A xs:=X.mono fun i _ M=>by
 rcases M with M | M
 ·exact .inl (M▸O.lt)
 ·injection M with M;exact .inr M.symm
def k1:Nat->UInt8:=fun i=>if i=0 then 1 else 0
end Se
namespace SeL
open Go.RowKit Ae Se
theorem VX {b g i:Nat} (h:Ow b (some g) i):i=b\/i=g:=by
 rcases h with h | h
 ·exact .inl h
 ·injection h with h;exact .inr h.symm
end SeL
namespace SpL
open Go.RowKit Ae Sp
theorem Ib (K:Nat->Wd) (up lo:Wd) (i j:Nat) (X:j<4):(Ep K up lo (8*i+j)).toNat=(Ck K (up,lo+BitVec.ofNat 32 i)).1.toNat / 256 ^ j % 256:=by
 have M:(8*i+j) / 8=i:=by omega
 have O:(8*i+j) % 8=j:=by omega
 rw[Ep,M,O,UInt8.toNat_ofNat',Jb];have Y:=Gh (Ck K (up,lo+BitVec.ofNat 32 i)).1;have h:j=0\/j=1\/j=2\/j=3:=by omega
 rcases h with rfl | rfl | rfl | rfl<;>simp only[Nat.reducePow]<;>omega
theorem Ic (K:Nat->Wd) (up lo:Wd) (i j:Nat) (X:j<4):(Ep K up lo (8*i+4+j)).toNat=(Ck K (up,lo+BitVec.ofNat 32 i)).2.toNat / 256 ^ j % 256:=by
 have M:(8*i+4+j) / 8=i:=by omega
 have O:(8*i+4+j) % 8=4+j:=by omega
 rw[Ep,M,O,UInt8.toNat_ofNat',Jb];have Y:=Gh (Ck K (up,lo+BitVec.ofNat 32 i)).1;have h:j=0\/j=1\/j=2\/j=3:=by omega
 rcases h with rfl | rfl | rfl | rfl<;>simp only[Nat.reducePow,Nat.reduceAdd]<;>omega
def IM (w:World) (g:Nat) (cs:Array Value):Prop:=w.rangeAt g 0 cs.toList
theorem IM.grown {w w':World} {g:Nat} {cs:Array Value} {row:Option Nat} (h:IM w g cs) (M:g<w.heap.size) (X:w.grownBy w' row) (O:row≠some g):IM w' g cs:=fun j v Y=>
 (World.cell?_of_block (a:=⟨g,0+j,none⟩) (X.block g M (fun e=>O e.symm))).trans (h j v Y)
theorem IM.below {w w':World} {g:Nat} {cs:Array Value} (h:IM w g cs) (M:g<w.heap.size) (O:Below w.heap.size w w'):IM w' g cs:=h.grown M (By O none) (by simp)
theorem Jd {P:Program} {ops:Array Oper} {rest:List Oper} {op:Oper} {a:Act} {w:World} {Q:Exit->Act->World->Prop} (M:op.guard=none) (ty:TypeId) (x:Operand) (X:op.op=.load ty x)
  (g:Nat) (Y:a.eval x=.pointer (some ⟨g,0,none⟩)) (cs:Array Value) (d:TypeDesc) (O:IM w g cs)
  (hu:P.underlying ty=some d) (Z:d.isRow=true) (hi:(P.info? ty).map (·.size)=some cs.size)
  (h:wpList P ops Q rest (a.put op.dst (.agg cs)) w):wpList P ops Q (op :: rest) a w:=
 wpList_load_mid M ty x X g 0 Y cs.toList d O hu Z (by rw[Array.length_toList];exact hi) (by simpa using h)
theorem Et (b:Nat):∀(vs:List Value) (o:Nat) (w:World),(w.setCells b o vs).heap.size=w.heap.size
 | [],_,_=>rfl
 |v :: r,o,w=>by rw[World.setCells,Et b r];simp [World.setCell]
theorem UQ (K:Nat->Wd):(Bc K).size=27:=by simp [Bc]
theorem XO (K:Nat->Wd):(Tryz.prog.info? 163).map (·.size)=some (Bc K).size:=by rw[UQ];kernel_rfl
def eight (x y:Wd):List Value:=[.int .u8 ((x.toNat:Int) % 256),.int .u8 ((x.toNat:Int) / 256 % 256),.int .u8 ((x.toNat:Int) / 65536 % 256),.int .u8 ((x.toNat:Int) / 16777216),
 .int .u8 ((y.toNat:Int) % 256),.int .u8 ((y.toNat:Int) / 256 % 256),.int .u8 ((y.toNat:Int) / 65536 % 256),.int .u8 ((y.toNat:Int) / 16777216)]
theorem Om (K:Nat->Wd) (up lo:Wd) (i:Nat):bvs (strm K up lo (8*i))++eight (Ck K (up,lo+BitVec.ofNat 32 i)).1 (Ck K (up,lo+BitVec.ofNat 32 i)).2=bvs (strm K up lo (8*(i+1))):=by
 have e:strm K up lo (8*(i+1))=strm K up lo (8*i)++[Ep K up lo (8*i+0),Ep K up lo (8*i+1),Ep K up lo (8*i+2),Ep K up lo (8*i+3),Ep K up lo (8*i+4+0),Ep K up lo (8*i+4+1),Ep K up lo (8*i+4+2),Ep K up lo (8*i+4+3)]:=by
  unfold strm;rw[show 8*(i+1)=8*i+1+1+1+1+1+1+1+1 by omega];simp [List.range_succ]
 rw[e,BH]
 congr 1
 have X:=Ib K up lo i 0 (by decide);have a1:=Ib K up lo i 1 (by decide);have M:=Ib K up lo i 2 (by decide);have a3:=Ib K up lo i 3 (by decide);have O:=Ic K up lo i 0 (by decide);have b1:=Ic K up lo i 1 (by decide);have b2:=Ic K up lo i 2 (by decide);have b3:=Ic K up lo i 3 (by decide);have Y:=Gh (Ck K (up,lo+BitVec.ofNat 32 i)).1;have Z:=Gh (Ck K (up,lo+BitVec.ofNat 32 i)).2;rw[show((Ck K (up,lo+BitVec.ofNat 32 i)).1.toNat / 256 ^ 3 % 256)=(Ck K (up,lo+BitVec.ofNat 32 i)).1.toNat / 16777216 by simp only[Nat.reducePow];omega] at a3;rw[show((Ck K (up,lo+BitVec.ofNat 32 i)).2.toNat / 256 ^ 3 % 256)=(Ck K (up,lo+BitVec.ofNat 32 i)).2.toNat / 16777216 by simp only[Nat.reducePow];omega] at b3;simp only[bvs,List.map_cons,List.map_nil,bv,eight,X,a1,M,a3,O,b1,b2,b3];simp
theorem Rd.take {w:World} {B:Nat} {A:Option Addr} {xs:List Value} (h:Rd w B A xs) (m:Nat):Rd w B A (xs.take m):=by
 rcases h with h | ⟨b,o,M,X,O⟩
 ·rw[h];exact .inl (by simp)
 ·refine .inr ⟨b,o,M,X,fun i u hu=>O i u ?_⟩
  rw[List.getElem?_take] at hu
  split at hu
  ·exact hu
  ·cases hu
theorem bt' {B:Nat} {a w c:World} (h:Below B a w) (hB:B+1<=w.heap.size) (k:Below w.heap.size w c):Below B a c:=Jl h (by omega) k
theorem VY (K:Nat->Wd) (N m:Nat) (n:Int) (w:World) (hN:N<18446744073709551616) (hm:m<=1000) (hn:m=n.toNat) :
  Calls Tryz.prog 76 #[.agg (Bc K),.int .u64 (N:Int),.int .i64 n] w fun e w'=>∃A c,e=.returned (.slice A m c)/\m<=c/\Rd w' w'.heap.size A (bvs (strm K (upW N) (loW N) m))/\Below w.heap.size w w':=by
 obtain⟨B,eB⟩:=Aj (w.heap.size);rw[<-eB];have EB:=I eB;have af:=UQ K;have ai:=XO K;obtain⟨cs,X⟩:=Aj (Bc K);rw[<-X] at af ai;have cB:=Xq K;rw[<-X] at cB;rw[<-X];obtain⟨ib,aN,aJ,aD,aG⟩:=info_parts Cd;have aQ:=I af;clear af;have aH:=I ai;clear ai;have aS:=I X;clear X;have NN:=I hN;clear hN;have HM:=I hm;clear hm;have HN:=I hn;clear hn;have ao:Blk (w.alloc (.cells cs 163)) B 163 cs:=Blk.new_of w B _ _ _ rfl eB.symm;have aL:=I ao;clear ao;go_enter Tryz.func76,Tryz.ntmps76
 go_wp2_with fail
 rw[<-eB];clear eB
 go_loopw [7,8] (fun aE iv wr=>∃i:Nat,8*i<m+8/\iv=.int .i64 (i:Int)/\Blk wr B 163 cs/\Below B w wr/\B+1<=wr.heap.size/\wr.ownsRow (B+1) 5 1 aE (8*i) (bvs (strm K (upW N) (loW N) (8*i)))) (fun _ iv _=>m+8 - 8*(intOf iv).toNat)
 case atStart=>exact⟨0,by omega,rfl,aL.o,EB.o▸Ag.alloc Af _,by have:=EB.o;simp;omega,rfl,.inl ⟨rfl,rfl⟩⟩
 case round=>
  obtain⟨i,hi,rfl,hB,hb,au,aa⟩:=hrel;have HB:=I hB;clear hB;have ak:=I hb;clear hb;have HS:=I au;clear au;have hlen:∃A cap,u7=.slice A (8*i) cap/\8*i<=cap/\(∀n k,(Value.slice A n cap).ownBlock=some k->B+1<=k):=by
   obtain⟨_,⟨h1,h2⟩ | ⟨g,cap,cur,h1,hg,_,O,_⟩⟩:=aa
   ·exact⟨none,0,by rw[h1,h2],by omega,fun n k h=>by simp [Value.ownBlock] at h⟩
   ·exact⟨_,cap,h1,O,fun n k h=>by simp only[Value.ownBlock] at h;injection h with h;omega⟩
  obtain⟨A,cap,rfl,O,ay⟩:=hlen;have ax:=I ay;clear ay;have HO:=I aa;clear aa;obtain⟨o,eo⟩:=Aj (8*i);rw[<-eo];have EO:=I eo;clear eo
  by_cases hlt:(o:Int)<n
  ·have aT:(0:Int)<=(i:Int):=by omega
   have aU:(i:Int)<=200:=by have:=EO.o;have:=HM.o;have:=HN.o;omega
   have HH:=I hi;clear hi
   go_wp2_with (first | (refine Jd (by rfl) 163 (.tmp 3) (by rfl) B (by rfl) cs _ (Ac HB.o) Tryz.underlying163 (by rfl) aH.o ?_) | fail)
   have an:(N:Int) / 4294967296 % 4294967296=((upW N).toNat:Int):=by rw[upW,BitVec.toNat_ofNat];have:=NN.o;omega
   have ae:((N:Int)+(i:Int)) % 4294967296=((loW N+BitVec.ofNat 32 i).toNat:Int):=by rw[loW,BitVec.toNat_add,BitVec.toNat_ofNat,BitVec.toNat_ofNat];omega
   rw[an,ae];obtain⟨p,ep⟩:=Aj (Ck K (upW N,loW N+BitVec.ofNat 32 i));obtain⟨x0,ex⟩:=Aj (p.1);obtain⟨y0,ey⟩:=Aj (p.2);have c4:=cB (upW N) (loW N+BitVec.ofNat 32 i) wr;rw[<-ep,<-ex,<-ey] at c4;have ar:bvs (strm K (upW N) (loW N) (8*i))++eight x0 y0=bvs (strm K (upW N) (loW N) (8*(i+1))):=by rw[ex,ey,ep];exact Om K _ _ i
   have aM:=I ar;clear ar;clear ep ex ey an ae;refine Ah c4 ?_;rintro w5 Y;have ah:=CQ HO.o Y;rw[<-EO.o] at ah;have Z:=aM.o;rw[<-EO.o] at Z;have aF:=I Z;clear Z;have al:=HB.o.below Y;have az:=bt' ak.o HS.o Y;have aB:=Nat.le_trans HS.o Y.size;have aK:=I ah;clear ah;have aP:=I al;clear al;have aO:=I az;clear az;have ad:=I aB;clear aB;clear Y c4
   go_wp2_with (first | (at_builtin;refine AF _ (by rfl) (.tmp 30) (.tmp 53) 24 (by rfl) (B+1) 5 ib _ 1 Tryz.underlying24 aN aJ aD aG (by rfl) (.slice A o cap) o (bvs (strm K (upW N) (loW N) o)) (by rfl) (DU aK.o (by rfl)) (w5.heap.size+1) (some ⟨w5.heap.size,0,none⟩) 8 8 (eight x0 y0) (by rfl) (by rfl) (FO w5 5 _ (eight x0 y0) (by rfl) _ rfl) (by simp [eight,Value.oneCell']) (by have:=EO.o;unfold maxLen;omega) (by have:=EO.o;omega) (by have:=ad.o;simp;omega) ?_;intro v6 w6 ab M aw) | fail)
   have av:=Blk.grown (Blk.alloc aP.o _) M (fun h=>by have:=ax.o _ _ h;omega);have aA:=Below.grown (aO.o.alloc (by have:=ad.o;omega) _) M (by have:=ad.o;simp;omega) (fun k hk=>by have:=ax.o _ _ hk;omega);have aC:=M.size;have ag:=ab;rw[aF.o,show o+8=8*(i+1) by have:=EO.o;omega] at ag;have B6:=I av;clear av;have B7:=I aA;clear aA;have S7:=I aC;clear aC;have O7:=I ag;clear ag;clear ab M aw
   go_wp2_with fail
   go_roundw
   case rel=>
    exact⟨i+1,by have:=EO.o;have:=HN.o;omega,by go_num,B6.o,B7.o,by have h1:=S7.o;have:=ad.o;simp at h1;omega,O7.o⟩
   case measure=>have:=EO.o;have:=HN.o;simp [intOf];omega
  ·have aR:n<=(o:Int):=by omega
   have e1:decide ((o:Int)<n)=false:=by simp;omega
   have aI:n<=(cap:Int):=by have:=EO.o;omega
   have HC:=I O;clear O
   by_cases h0:n<0
   ·go_wp2_with fail
    go_ret;have aj:m=0:=by have:=HN.o;omega
    refine⟨A,cap,by rw[aj];first | rfl | exact congrArg (fun k=>Ending.returned (Value.slice A k cap)) (show(max n 0).toNat=0 by omega),by rw[aj];exact Nat.zero_le _,?_,ak.o⟩;rw[aj];exact .inl rfl
   ·have h1:(0:Int)<=n:=by omega
    go_wp2_with fail
    go_ret;refine⟨A,cap,by rw[HN.o];first | rfl | exact congrArg (fun k=>Ending.returned (Value.slice A k cap)) (show(max n 0).toNat=n.toNat by omega),by have:=HN.o;omega,?_,ak.o⟩;have hr:=Rd.of_own HO.o;have ht:bvs (strm K (upW N) (loW N) m)=(bvs (strm K (upW N) (loW N) (8*i))).take m:=by
     rw[<-PM K (upW N) (loW N) m (8*i) (by have:=EO.o;have:=HN.o;omega)];simp [bvs,List.map_take]
    rw[ht];exact Rd.take hr m
end SpL
namespace Se
open Go.RowKit Ae
def hk (f:Nat->UInt8) (i j:Nat):UInt8:=if j<i then f j else 0
theorem FM (f:Nat->UInt8) (j:Nat) (M:j<16):(Sp.AM f)[j]? = some (bv (f j)):=Sp.FM f j M
theorem UR (f:Nat->UInt8) (i:Nat) (M:i<16):(Sp.AM (hk f i)).setIfInBounds i (bv (f i))=Sp.AM (hk f (i+1)):=by
 unfold Sp.AM;rw[List.setIfInBounds_toArray]
 congr 1
 apply List.ext_getElem?;intro j;rw[List.getElem?_set,List.getElem?_map,List.getElem?_map]
 by_cases hj:i=j
 ·subst hj;simp [M,hk]
 ·rw[if_neg hj]
  rcases Nat.lt_or_ge j 16 with h | h
  ·have e:(j<i)=(j<i+1):=propext ⟨by omega,by omega⟩
   simp [h,hk,e]
  ·rw[List.getElem?_eq_none (by simpa using h)];rfl
theorem XP (f:Nat->UInt8):Sp.AM (hk f 16)=Sp.AM f:=Sp.IA fun j M=>if_pos M
theorem Qw (f:Nat->UInt8):Sp.AM (hk f 0)=Sp.AM (fun _=>0):=Sp.IA fun j M=>rfl
theorem key32_at' (f:Nat->UInt8) (j:Nat) (M:j<32):(AX f)[j]? = some (bv (f j)):=by
 rw[AX,List.getElem?_toArray];simp [M]
theorem LU {P:Program} {fn:Func} {tmps:Array Value} {w:World} {v1 v2:Value} (t1 t2:Nat) (X M:TypeId) (a1 a2:Addr) (O:fn.results=#[.cell t1 X,.cell t2 M]) (Z:tmps.getD t1 undef=.pointer (some a1)) (Y:tmps.getD t2 undef=.pointer (some a2)) (aa:(loadVar X a1).run P w=.ok v1 w) (ab:(loadVar M a2).run P w=.ok v2 w) :
  (results fn tmps).run P w=.ok (.tuple #[v1,v2]) w:=by
 have h1:tmps[t1]?.getD undef=.pointer (some a1):=by simpa using Z
 have h2:tmps[t2]?.getD undef=.pointer (some a2):=by simpa using Y
 simp [results,O,h1,h2,asAddr,aa,ab]
theorem Qx (ks:Nat->UInt8) (w:World):Calls Tryz.prog 74 #[.agg (AX ks)] w fun e w'=>e=.returned (.tuple #[.agg (Sp.AM ks),.agg (Sp.AM (k2 ks))])/\Below w.heap.size w w':=by
 obtain⟨B,eB⟩:=Aj (w.heap.size);have EB:=I eB;have ab:Sp.AM (fun _=>0)=#[.int .u8 0,.int .u8 0,.int .u8 0,.int .u8 0,.int .u8 0,.int .u8 0,.int .u8 0,.int .u8 0,.int .u8 0,.int .u8 0,.int .u8 0,.int .u8 0,.int .u8 0,.int .u8 0,.int .u8 0,.int .u8 0]:=rfl;have HZ:=I ab;clear ab;obtain⟨kc,ag⟩:=Aj (AX ks);rw[<-ag];have EK:=I ag;clear ag;go_enter Tryz.func74,Tryz.ntmps74
 go_wp2_with fail
 rw[<-eB];clear eB
 go_loopw [6] (fun iv wr=>∃i:Nat,i<=16/\iv=.int .i64 (i:Int)/\Below B w wr/\wr.heap.size=B+5/\Blk wr B 30 kc/\Blk wr (B+1) 157 (Sp.AM (fun _=>0))/\Blk wr (B+2) 157 (Sp.AM (fun _=>0))/\Blk wr (B+3) 157 (Sp.AM (hk ks i))/\Blk wr (B+4) 157 (Sp.AM (hk (k2 ks) i))) (fun iv _=>16 - (intOf iv).toNat)
 case atStart=>
  have z1:Blk (w.alloc (.cells kc 30)) B 30 kc:=EB.o▸Blk.new w _ _;have q0:(w.alloc (.cells kc 30)).heap.size=B+1:=by rw[EB.o];simp
  have b0:Below B w (w.alloc (.cells kc 30)):=EB.o▸(Below.refl w.heap.size w).alloc Af _;have key:∀(w1:World) (n:Nat),w1.heap.size=n->Blk (w1.alloc (.cells (Sp.AM fun _=>0) 157)) n 157 (Sp.AM fun _=>0)/\(w1.alloc (.cells (Sp.AM fun _=>0) 157)).heap.size=n+1:=fun w1 n h=>⟨h▸Blk.new w1 _ _,by rw[<-h];simp⟩
  obtain⟨k1,q1⟩:=key _ _ q0;obtain⟨ai,q2⟩:=key _ _ q1;obtain⟨k3,q3⟩:=key _ _ q2;obtain⟨k4,q4⟩:=key _ _ q3;refine⟨0,by decide,rfl,?_,q4,(((z1.alloc _).alloc _).alloc _).alloc _,((k1.alloc _).alloc _).alloc _,(ai.alloc _).alloc _,?_,?_⟩
  ·exact(((b0.alloc (by have:=EB.o;simp;omega) _).alloc (by have:=EB.o;simp;omega) _).alloc (by have:=EB.o;simp;omega) _).alloc (by have:=EB.o;simp;omega) _
  ·rw[Qw];exact k3.alloc _
  ·rw[Qw];exact k4
 case round=>
  obtain⟨i,hi,rfl,hb,ah,h0,h1,h2,h3,h4⟩:=hrel;have HB:=I hb;clear hb;have HS:=I ah;clear ah
  by_cases hx:i=16
  ·subst hx
   rw[XP] at h3 h4;obtain⟨cs,Y⟩:=Aj ((List.range 16).map (fun j=>bv (ks j)));obtain⟨ds,Z⟩:=Aj ((List.range 16).map (fun j=>bv (k2 ks j)));have n3:cs.length=16:=by rw[Y];simp
   have n4:ds.length=16:=by rw[Z];simp
   have o3:∀v∈cs,v.oneCell'=true:=by rw[Y];intro v hv;obtain⟨j,_,rfl⟩:=List.mem_map.1 hv;rfl
   have o4:∀v∈ds,v.oneCell'=true:=by rw[Z];intro v hv;obtain⟨j,_,rfl⟩:=List.mem_map.1 hv;rfl
   have h3:Blk wr (B+3) 157 cs.toArray:=by rw[Y];exact h3
   have h4:Blk wr (B+4) 157 ds.toArray:=by rw[Z];exact h4
   have r3:wr.drew.rangeAt (B+1+1+1) 0 cs:=by have:=Si.Ac h3;simpa using this
   have r4:wr.drew.rangeAt (B+1+1+1+1) 0 ds:=by have:=Si.Ac h4;simpa using this
   have t1:wr.drew.there (B+1) 0 16:=by have:=Si.Am h1;rwa [Bi] at this
   have t2:wr.drew.there (B+1+1) 0 16:=by have:=Si.Am h2;rwa [Bi] at this
   have u3:(Tryz.prog.info? 157).map (·.size)=some cs.length:=by rw[n3];kernel_rfl
   have u4:(Tryz.prog.info? 157).map (·.size)=some ds.length:=by rw[n4];kernel_rfl
   have X:=Tryz.underlying157;have EC:=I Y;clear Y;have ED:=I Z;clear Z;clear h0 h1 h2 h3 h4
   go_wp2_with fail
   refine wp_region_held_drew (S:=fun w'=>w'.rangeAt (B+1+1+1) 0 cs/\w'.rangeAt (B+1+1+1+1) 0 ds/\w'.there (B+1) 0 16/\w'.there (B+1+1) 0 16) (by kernel_rfl) ⟨r3,r4,t1,t2⟩ (fun O=>?_);refine wpAnyH_take (i:=0) (v:=.agg cs.toArray) rfl (by kernel_rfl) (by kernel_rfl) (by kernel_rfl) (fun _ _ _ h=>h) (yieldsIf_load_mid (by rfl) 157 (.tmp 4) rfl (B+1+1+1) 0 rfl cs _ (fun _ h=>h.1) X rfl u3) O ?_;refine wpAnyH_take (i:=1) (v:=.agg ds.toArray) rfl (by kernel_rfl) (by kernel_rfl) (by kernel_rfl) (fun _ _ _ h=>h) (yieldsIf_load_mid (by rfl) 157 (.tmp 5) rfl (B+1+1+1+1) 0 rfl ds _ (fun _ h=>h.2.1) X rfl u4) O ?_;refine wpAnyH_ready (rs:=[2]) (by kernel_rfl) (by simp) ?_;refine AllReadyH.cons (o:=_) rfl (fun K hK=>?_) AllReadyH.nil;rw[if_pos (by rfl)];refine wp_store_mid 157 _ _ rfl (B+1) 0 cs.toArray rfl rfl (by rw[List.size_toArray,n3];exact O.2.2.1) (by rw[List.size_toArray];exact u3) (all_oneCell_toArray o3) ?_;refine hK.o _ _ ⟨World.rangeAt_setCells_apart O.1 _ _ _ (.inl (by omega)),World.rangeAt_setCells_apart O.2.1 _ _ _ (.inl (by omega)),World.there_setCells O.2.2.1 _ _ _,World.there_setCells O.2.2.2 _ _ _⟩ (fun M=>?_);clear hK K;refine wpAnyH_ready (rs:=[3]) (by kernel_rfl) (by simp) ?_;refine AllReadyH.cons (o:=_) rfl (fun K hK=>?_) AllReadyH.nil;rw[if_pos (by rfl)];refine wp_store_mid 157 _ _ rfl (B+1+1) 0 ds.toArray rfl rfl (by rw[List.size_toArray,n4];exact M.2.2.2) (by rw[List.size_toArray];exact u4) (all_oneCell_toArray o4) ?_;refine hK.o _ _ ⟨World.rangeAt_setCells_apart M.1 _ _ _ (.inl (by omega)),World.rangeAt_setCells_apart M.2.1 _ _ _ (.inl (by omega)),World.there_setCells M.2.2.1 _ _ _,World.there_setCells M.2.2.2 _ _ _⟩ (fun aa=>?_);clear hK K;refine wpAnyH_done (by kernel_rfl) ?_ _;have ae:((wr.drew.setCells (B+1) 0 cs).setCells (B+1+1) 0 ds).rangeAt (B+1) 0 cs:=World.rangeAt_setCells_apart (World.rangeAt_setCells_same _ _ _ _ (by rw[n3];exact t1)) _ _ _ (.inl (by omega));have af:((wr.drew.setCells (B+1) 0 cs).setCells (B+1+1) 0 ds).rangeAt (B+1+1) 0 ds:=World.rangeAt_setCells_same _ _ _ _ (by rw[n4];exact M.2.2.2);have ad:Below B w ((wr.drew.setCells (B+1) 0 cs).setCells (B+1+1) 0 ds):=Si.Bx _ (by omega) _ _ _ (Si.Bx _ (by omega) _ _ _ (below_drewN HB.o 1));change Exit.then _ _ Exit.normal _ ((wr.drew.setCells (B+1) 0 cs).setCells (B+1+1) 0 ds)
   generalize (wr.drew.setCells (B+1) 0 cs).setCells (B+1+1) 0 ds=W3 at ae af ad⊢;clear O M aa r3 r4 t1 t2;have q1:=run_loadVar_mid (P:=Tryz.prog) W3 (B+1) 0 157 cs _ ae X rfl u3;have q2:=run_loadVar_mid (P:=Tryz.prog) W3 (B+1+1) 0 157 ds _ af X rfl u4;have Q1:=I q1;clear q1;have Q2:=I q2;clear q2;have BW:=I ad;clear ad;clear ae af u3 u4 X n3 n4 o3 o4 h3 h4
   go_wp2_with fail
   refine bodyPost_ret (v:=.tuple #[.agg cs.toArray,.agg ds.toArray]) (LU 2 3 157 157 ⟨B+1,0,none⟩ ⟨B+1+1,0,none⟩ Tryz.results74 (by rfl) (by rfl) Q1.o Q2.o) (by rfl) ?_;exact⟨by rw[EC.o,ED.o];rfl,EB.o▸BW.o⟩
  ·have e1:(i:Int)<16:=by omega
   have e2:(0:Int)<=(i:Int):=by omega
   have e3:i<16:=by omega
   have e4:(16:Int)+(i:Int)<32:=by omega
   have e5:(0:Int)<=(16:Int)+(i:Int):=by omega
   have e6:16+i<32:=by omega
   have e7:i<32:=by omega
   obtain⟨x,ex⟩:=Aj (ks i);obtain⟨y,ey⟩:=Aj (ks (16+i));have g0:wr.cell? ⟨B,i,none⟩=some (.int .u8 (x.toNat:Int)):=by rw[h0.cell,EK.o,key32_at' ks i e7,ex];rfl
   have g1:wr.cell? ⟨B,16+i,none⟩=some (.int .u8 (y.toNat:Int)):=by rw[h0.cell,EK.o,key32_at' ks (16+i) e6,ey];rfl
   have f3:=h3.frozen;have f4:=h4.frozen;have c3:=h3.cell i;have c4:=h4.cell i;rw[FM _ _ e3] at c3 c4;simp only[bv] at c3 c4;have H0:=I h0;clear h0;have H1:=I h1;clear h1;have H2:=I h2;clear h2;have H3:=I h3;clear h3;have H4:=I h4;clear h4;have hw:IntKind.i64.wrap ((16:Int)+(i:Int))=(16:Int)+(i:Int):=by rw[IntKind.wrap_i64];omega
   have EX:=I ex;clear ex;have EY:=I ey;clear ey;have HX:=I hx;clear hx;have HI:=I hi;clear hi
   go_wp2_with fail
   go_region
   all_goals go_wp2_with fail
   all_goals
    go_roundw
    case rel=>
     have s3:=H3.o.set i (bv x);rw[EX.o,UR ks i e3,<-EX.o] at s3;have s4:=(Si.Blk.far H4.o ⟨B+3,i,none⟩ (bv x) (by simp)).set i (bv y);rw[EY.o,show ks (16+i)=k2 ks i from rfl,UR (k2 ks) i e3] at s4;refine⟨i+1,by omega,by go_num,?_,?_,?_,?_,?_,?_,?_⟩
     ·exact below_drewN (Si.AY (Si.AY HB.o (by simp;omega) _) (by simp;omega) _) 1
     ·simpa [World.setCell] using HS.o
     ·exact Si.Blk.far (Si.Blk.far H0.o ⟨B+3,i,none⟩ _ (show B+3≠B by omega)) ⟨B+4,i,none⟩ _ (show B+4≠B by omega)
     ·exact Si.Blk.far (Si.Blk.far H1.o ⟨B+3,i,none⟩ _ (show B+3≠B+1 by omega)) ⟨B+4,i,none⟩ _ (show B+4≠B+1 by omega)
     ·exact Si.Blk.far (Si.Blk.far H2.o ⟨B+3,i,none⟩ _ (show B+3≠B+2 by omega)) ⟨B+4,i,none⟩ _ (show B+4≠B+2 by omega)
     ·exact Si.Blk.far s3 ⟨B+4,i,none⟩ _ (show B+4≠B+3 by omega)
     ·exact(by have e:=s4;rw[show bv (k2 ks i)=bv y from by rw[EY.o];rfl] at e;exact e)
    case measure=>simp [intOf];omega
theorem dbig (N:Nat) (w:World) (hN:N<18446744073709551616) :
  Calls Tryz.prog 69 #[.int .u64 (N:Int)] w fun e w'=>∃v,e=.returned v/\w'.ownsRow w.heap.size 5 1 v 8 (bvs (w8 N))/\Below w.heap.size w w':=by
 obtain⟨ib,ah,af,ae,ai⟩:=info_parts Si.Cd;obtain⟨B,eB⟩:=Aj (w.heap.size);have EB:=I eB;clear eB;have HN:=I hN;clear hN;go_enter Tryz.func69,Tryz.ntmps69
 go_wp2_with fail
 go_loopw [3,4] (fun ag iv wr=>∃j:Nat,j<=8/\iv=.int .i64 (7 - (j:Int))/\wr.ownsRow B 5 1 ag j (laid [] N j)/\Below B w wr) (fun _ iv _=>(intOf iv+1).toNat)
 case atStart=>exact⟨0,by decide,rfl,⟨rfl,.inl ⟨rfl,rfl⟩⟩,Below.refl _ _⟩
 case round=>
  obtain⟨j,hj,rfl,Y,ab⟩:=hrel;have HR:=I Y;clear Y;have HW:=I ab;clear ab
  by_cases hx:j=8
  ·subst hx
   go_wp2_with fail
   go_ret;exact⟨_,rfl,by have:=HR.o;rw[UN,List.nil_append] at this;exact EB.o▸this,EB.o▸HW.o⟩
  ·obtain⟨k,ek⟩:∃k:Nat,k=7 - j:=⟨_,rfl⟩
   obtain⟨m,em⟩:∃m:Nat,m=56 - 8*j:=⟨_,rfl⟩;have hk:(7:Int) - (j:Int)=(k:Int):=by omega
   rw[hk];have aa:j<8:=by omega
   have aj:(8:Int)*(k:Int)=(m:Int):=by omega
   have an:m<64:=by omega
   have au:(m:Int)<64:=by omega
   have al:(0:Int)<=(m:Int):=by omega
   have ar:min m 64=m:=by omega
   have ao:(0:Int)<=(k:Int):=by omega
   have ak:(k:Int)<=7:=by omega
   have Z:=KS [] N j aa;have hv:bv (UInt8.ofNat (N / 2 ^ (56 - 8*j)))=.int .u8 ((N:Int) / 2 ^ m % 256):=by
    unfold bv;rw[UInt8.toNat_ofNat',<-em];congr 1
   rw[hv] at Z;have NX:=I Z;clear Z;have EM:=I em;clear em;have EK:=I ek;clear ek;have HX:=I hx;clear hx;have HJ:=I hj;clear hj;have X:=I aa;clear aa;clear hk hv
   go_wp2_with (first | (at_builtin;refine AF _ (by rfl) (.tmp 9) (.tmp 16) 24 (by rfl) B 5 ib _ 1 Tryz.underlying24 ah af ae ai (by rfl) _ j (laid [] N j) (by rfl) (DU HR.o (by rfl)) (wr.heap.size+1) (some ⟨wr.heap.size,0,none⟩) 1 1 [.int .u8 ((N:Int) / 2 ^ m % 256)] (by rfl) (by rfl) (Si.FO wr 5 _ [.int .u8 ((N:Int) / 2 ^ m % 256)] (by rfl) _ rfl) (by simp [Value.oneCell']) (by have:=X.o;unfold maxLen;omega) (by have:=X.o;omega) (by have:=EB.o;have:=HW.o.size;simp;omega) ?_;intro v6 w6 O M ad;have O6:=I O;have G6:=I M;clear O M ad) | fail)
   go_roundw
   case rel=>
    refine⟨j+1,by have:=X.o;omega,?_,by rw[<-NX.o];exact O6.o,?_⟩
    ·exact congrArg (Value.int .i64) (by have:=EK.o;have:=X.o;omega)
    ·exact(HW.o.alloc (by have:=EB.o;have:=HW.o.size;omega) _).grown G6.o (by have:=EB.o;have:=HW.o.size;simp;omega) (fun q hq=>(HR.o.lt q hq).1)
   case measure=>simp [intOf]
theorem VZ (B:Nat) (A:Option Addr) (n c:Nat) (l:List UInt8) (w:World) (hn:n=l.length) (h8:8<=n) (hr:Rd w B A (bvs l)) :
  Calls Tryz.prog 37 #[.slice A n c] w fun e w'=>e=.returned (.int .u64 (n8 l:Int))/\w'=w:=by
 obtain⟨b,o,rfl,hb,M⟩:∃b o,A=some ⟨b,o,none⟩/\b<B/\∀i (h:i<l.length),w.cell? ⟨b,o+i,none⟩=some (bv l[i]):=by
  rcases hr with h | ⟨b,o,h1,h2,h3⟩
  ·have:=AB l;rw[h] at this;simp at this;omega
  ·exact⟨b,o,h1,h2,fun i Y=>h3 i _ (DR Y)⟩
 have HC:=I M;clear M;have ae:(8:Int)<=(n:Int):=by omega
 have HN:=I hn;clear hn;have H8:=I h8;clear h8;clear hr hb;go_enter Tryz.func37,Tryz.ntmps37
 go_wp2_with fail
 go_loop [3,4] (fun ad iv=>∃i:Nat,i<=8/\iv=.int .i64 (i:Int)/\ad=.int .u64 (big 0 (l.take i):Nat)) (fun _ iv=>8 - (intOf iv).toNat)
 case atStart=>exact⟨0,by decide,rfl,rfl⟩
 case round=>
  obtain⟨i,Y,rfl,rfl⟩:=hrel
  by_cases hx:i=8
  ·subst hx
   go_wp2_with fail
   go_ret;exact⟨rfl,rfl⟩
  ·have e1:(i:Int)<8:=by omega
   have e2:(0:Int)<=(i:Int):=by omega
   have e3:i<8:=by omega
   have hl:i<l.length:=by have:=HN.o;have:=H8.o;omega
   have e4:i<n:=by have:=H8.o;omega
   have e5:(i:Int)<(n:Int):=by omega
   obtain⟨y,ey⟩:=Aj (l[i]);have O:=HC.o i hl;rw[<-ey] at O;simp only[bv] at O;have hy:=y.toNat_lt;obtain⟨v,Z⟩:=Aj (big 0 (l.take i));obtain⟨u,eu⟩:=Aj (v*256+y.toNat);rw[<-Z];have hv:v<72057594037927936:=by
    have:=II l i;rw[<-Z] at this;exact Nat.lt_of_lt_of_le this (Nat.pow_le_pow_right (by decide) (by omega):256 ^ i<=256 ^ 7)
   have aa:(v:Int)*256 % 18446744073709551616=(v:Int)*256:=by omega
   have ab:(y.toNat:Int) % 18446744073709551616=(y.toNat:Int):=by omega
   have ah:IntKind.u64.wrap (y.toNat:Int)=(y.toNat:Int):=by rw[IntKind.wrap_u64];exact ab
   have af:IntKind.u64.wrap ((v:Int)*256)=(v:Int)*256:=by rw[IntKind.wrap_u64];exact aa
   have ag:bits .or .u64 ((v:Int)*256) (y.toNat:Int)=(u:Int):=by rw[eu];exact Qo v y.toNat hy hv
   have X:u=big 0 (l.take (i+1)):=by rw[MZ l i hl,<-ey,<-Z,eu]
   have NX:=I X;clear X;have HI:=I Y;clear Y;have HX:=I hx;clear hx;have HV:=I hv;clear hv;clear eu Z ey
   go_wp2_with fail
   go_round
   case rel=>exact⟨i+1,by omega,by go_num,by rw[<-NX.o]⟩
   case measure=>simp [intOf];omega
theorem Qy (ks:Nat->UInt8) (u n:Nat) (p:List UInt8) (i:Nat) (h:i<p.length) (M:i<(Dp ks u n p.length).length):bvs ((mixL ks u n p).take i)++[bv (p[i] ^^^ (Dp ks u n p.length)[i])]=bvs ((mixL ks u n p).take (i+1)):=by
 rw[List.take_add_one,Qj ks u n p i h M,BH];rfl
theorem XQ (y x:UInt8):bits .xor .u8 (y.toNat:Int) (x.toNat:Int)=((y ^^^ x).toNat:Int):=by
 rw[u8_xor_nat _ _ y.toNat_lt x.toNat_lt,UInt8.toNat_xor]
def twoW (w1:World) (z:Array Value) (t:TypeId) (cs ds:Array Value):World:=(((w1.alloc (.cells z t)).alloc (.cells z t)).setCells w1.heap.size 0 cs.toList).setCells (w1.heap.size+1) 0 ds.toList
theorem Jt (M:World) (z:Array Value) (t:TypeId) (cs ds:Array Value) (X:z.size=cs.size) (Y:z.size=ds.size) :
  (twoW M z t cs ds).rangeAt M.heap.size 0 cs.toList/\(twoW M z t cs ds).rangeAt (M.heap.size+1) 0 ds.toList/\Below M.heap.size M (twoW M z t cs ds)/\M.heap.size+2<=(twoW M z t cs ds).heap.size:=by
 have Z:((M.alloc (.cells z t)).alloc (.cells z t)).there M.heap.size 0 cs.toList.length:=by
  have:=World.there_alloc (Si.Am (Blk.new M t z)) (.cells z t)
  rwa [X,<-Array.length_toList] at this
 have O:((M.alloc (.cells z t)).alloc (.cells z t)).there (M.heap.size+1) 0 ds.toList.length:=by
  have:=Si.Am (Si.Blk.new_of (M.alloc (.cells z t)) (M.heap.size+1) t z z rfl (by simp))
  rwa [Y,<-Array.length_toList] at this
 refine⟨World.rangeAt_setCells_apart (World.rangeAt_setCells_same _ _ _ _ Z) _ _ _ (.inl (by omega)),World.rangeAt_setCells_same _ _ _ _ (World.there_setCells O _ _ _),?_,?_⟩
 ·exact Si.Bx _ (by omega) _ _ _ (Si.Bx _ Af _ _ _ ((Ag.alloc Af _).alloc (by simp) _))
 ·unfold twoW;rw[SpL.Et,SpL.Et];simp
theorem dmix (ks:Nat->UInt8) (u n:Nat) (A:Option Addr) (m c:Nat) (p:List UInt8) (w:World) (hu:u<=255) (hn:n<18446744073709551616) (hm:m=p.length) (az:m<=1000) (hr:Rd w w.heap.size A (bvs p)) :
  Calls Tryz.prog 39 #[.agg (AX ks),.int .i64 (u:Int),.int .u64 (n:Int),.slice A m c] w fun e w'=>∃v,e=.returned v/\w'.ownsRow w.heap.size 5 1 v m (bvs (mixL ks u n p))/\Below w.heap.size w w':=by
 obtain⟨ib,bh,bf,bb,bn⟩:=info_parts Si.Cd;obtain⟨B,eB⟩:=Aj (w.heap.size);obtain⟨N,eN⟩:=Aj (sn u n);have aD:=Qq u n hu;have Y:=XJ u n hu;have X:=XK u n;rw[<-eN] at aD Y X;have br:(u:Int) % 18446744073709551616=(u:Int):=by omega
 have al:Sp.strm (Sp.kw ks) (Sp.upW N) (Sp.loW N) m=Dp ks u n m:=by rw[eN];rfl
 have ch:=fun O=>Qx ks O
 have cw:=fun O=>Sp.Xp ks O
 have ah:=fun O=>SpL.VY (Sp.kw ks) N m (m:Int) O X az (by simp)
 rw[al] at ah;have i32:=KR ks;have i16:=IK ks;have ad:=IK (k2 ks);have ax:=Qn ks;have Z:=Qn (k2 ks);have ay:=Bi ks;have aa:=Bi (k2 ks);obtain⟨kc,aZ⟩:=Aj (AX ks);obtain⟨cs,aS⟩:=Aj (Sp.AM ks);obtain⟨ds,aL⟩:=Aj (Sp.AM (k2 ks));obtain⟨xs,aX⟩:=Aj (Sp.Bc (Sp.kw ks));rw[<-aZ] at ch i32⊢;rw[<-aS] at ch cw i16 ax ay;rw[<-aL] at ch ad Z aa;rw[<-aX] at cw ah;have hz:Sp.AM (fun _=>0)=#[.int .u8 0,.int .u8 0,.int .u8 0,.int .u8 0,.int .u8 0,.int .u8 0,.int .u8 0,.int .u8 0,.int .u8 0,.int .u8 0,.int .u8 0,.int .u8 0,.int .u8 0,.int .u8 0,.int .u8 0,.int .u8 0]:=rfl;have EB:=I eB;have HR:=I (eB▸hr);clear hr;have HM:=I hm;clear hm;have q3:(m:Int)<=1000:=by omega
 have aQ:=I az;clear az;have bp:=I i32;clear i32;have aP:=I i16;clear i16;have aY:=I ad;clear ad;have bg:=I ax;clear ax;have aW:=I Z;clear Z;have aT:=I ay;clear ay;have ar:=I aa;clear aa;have HZ:=I hz;clear hz;have ba:=I ah;clear ah;have bo:=I aD;clear aD;have aR:=I Y;have aH:Hid (((n:Int)*256+(u:Int)) % 18446744073709551616=(N:Int)):=by rw[<-Y];show _=_;omega
 have aN:Hid (IntKind.u64.wrap (IntKind.u64.wrap ((n:Int)*256)+(u:Int))=(N:Int)):=by rw[IntKind.wrap_u64,IntKind.wrap_u64];omega
 clear Y;have h0:Blk (w.alloc (.cells kc 30)) B 30 kc:=eB▸Blk.new w _ _;have ak:Below B w (w.alloc (.cells kc 30)):=eB▸(Below.refl w.heap.size w).alloc Af _;have H0:=I h0;clear h0;have bl:=I ak;clear ak;clear hu hn al X eN aZ aS aL aX eB;go_enter Tryz.func39,Tryz.ntmps39
 go_upto_region 2 with(first
  |(refine Ad (by rfl) 30 (.tmp 4) (by rfl) w.heap.size 0 (by rfl) kc _ (Si.Ac (Blk.new w 30 kc)) Tryz.underlying30 (by rfl) bp.o ?_)
  |(go_at_call 74;refine Ah (ch _) ?_;rintro O af;clear ch;have af:=bl.o.trans (af.mono (by have:=EB.o;simp;omega));have H1:=I af;clear af)
  |(refine wpList_store_mid (by rfl) 157 (.tmp 9) (.tmp 17) (by rfl) O.heap.size 0 cs (by rfl) (by rfl) (by rw[aT.o];exact World.there_alloc (by have:=Si.Am (Blk.new O 157 (Sp.AM fun _=>0));rwa [Bi] at this) _) aP.o bg.o ?_)
  |(refine wpList_store_mid (by rfl) 157 (.tmp 10) (.tmp 18) (by rfl) (O.heap.size+1) 0 ds (by rfl) (by rfl) (by rw[ar.o];exact World.there_setCells (by have:=Si.Am (Si.Blk.new_of (O.alloc (.cells (Sp.AM fun _=>0) 157)) (O.heap.size+1) 157 _ (Sp.AM fun _=>0) rfl (by simp));rwa [Bi] at this) _ _ _) aY.o aW.o ?_)
  |fail)
 have h2:=Jt O (Sp.AM fun _=>0) 157 cs ds (by rw[Bi,aT.o]) (by rw[Bi,ar.o]);change Code.wp _ _ _ _ (twoW O (Sp.AM fun _=>0) 157 cs ds);generalize twoW O (Sp.AM fun _=>0) 157 cs ds=W2 at h2⊢;have ab:=H1.o.trans (h2.2.2.1.mono (by have:=H1.o.size;have:=EB.o;omega));have aV:=I ab;clear ab;have bm:=I h2.1;clear h2;have aO:=cw W2;clear cw
 go_wp2_with (first
  |(refine Ad (by rfl) 157 (.tmp 9) (by rfl) O.heap.size 0 (by rfl) cs _ bm.o Tryz.underlying157 (by rfl) aP.o ?_)
  |(go_at_call 77;refine Ah aO ?_;rintro w3 ai;clear aO;have ai:=aV.o.trans (ai.mono (by have:=aV.o.size;have:=EB.o;omega));have c4:=ba.o w3;have H3:=I ai;clear ai)
  |(go_at_call 76;(first | rw[aR.o] | rw[bo.o] | rw[aH.o] | rw[aN.o]);refine Calls.mono c4 ?_;rintro e w5 ⟨As,sc,rfl,bs,aI,ag⟩;clear c4;have ag:=H3.o.trans (ag.mono (by have:=H3.o.size;have:=EB.o;omega));have H5:=I ag;have RS:=I aI;clear ag aI)
  |fail)
 obtain⟨N0,aJ⟩:=Aj (w5.heap.size);have EN:=I aJ;clear aJ;have aF:(Dp ks u n m).length=m:=BR ks u n m;have bw:=I aF;clear aF
 go_loopw [12,13] (fun bd iv wr=>∃i:Nat,i<=m/\iv=.int .i64 (i:Int)/\wr.ownsRow N0 5 1 bd i (bvs ((mixL ks u n p).take i))/\Below N0 w5 wr) (fun _ iv _=>m - (intOf iv).toNat)
 case atStart=>exact⟨0,Nat.zero_le _,rfl,⟨rfl,.inl ⟨rfl,rfl⟩⟩,Below.refl _ _⟩
 case round=>
  obtain⟨i,hi,rfl,au,aK⟩:=hrel;have HO:=I au;clear au;have HW:=I aK;clear aK
  by_cases hx:i=m
  ·subst hx
   go_wp2_with fail
   go_ret;have h9:=HO.o;rw[List.take_of_length_le (by rw[Bs,HM.o];exact Nat.le_refl _)] at h9;refine⟨_,rfl,h9.mono (by have:=EN.o;have:=H5.o.size;omega),?_⟩;rw[<-EB.o];exact H5.o.trans (HW.o.mono (by have:=EN.o;have:=H5.o.size;have:=EB.o;omega))
  ·have aw:i<m:=by omega
   have aC:i<p.length:=by have:=HM.o;omega
   have e1:(i:Int)<(m:Int):=by omega
   have e2:(0:Int)<=(i:Int):=by omega
   have e3:(i:Int)<1000:=by omega
   have aG:i<(Dp ks u n p.length).length:=by rw[BR];exact aC
   have an:i<(Dp ks u n m).length:=by rw[BR];exact aw
   obtain⟨y,ey⟩:=Aj (p[i]);obtain⟨x,ex⟩:=Aj ((Dp ks u n p.length)[i]);obtain⟨z,ez⟩:=Aj (y ^^^ x);obtain⟨b1,o1,rfl,ao,aE⟩:=HR.o.at_ (DR aC);obtain⟨b2,o2,rfl,aM,aB⟩:=RS.o.at_ (DR an);rw[<-ey] at aE;have hex:(Dp ks u n m)[i]=x:=by
    rw[ex];have:=HM.o;subst this
    rfl
   rw[hex] at aB;have av:b1<N0:=by have:=EN.o;have:=H5.o.size;have:=EB.o;omega
   have aj:b2<N0:=by have:=EN.o;omega
   have d1:wr.cell? ⟨b1,o1+i,none⟩=some (.int .u8 (y.toNat:Int)):=(HW.o.cell (p:=⟨b1,o1+i,none⟩) av).trans ((H5.o.cell (p:=⟨b1,o1+i,none⟩) ao).trans aE);have d2:wr.cell? ⟨b2,o2+i,none⟩=some (.int .u8 (x.toNat:Int)):=(HW.o.cell (p:=⟨b2,o2+i,none⟩) aj).trans aB;have bu:bits .xor .u8 (y.toNat:Int) (x.toNat:Int)=(z.toNat:Int):=by rw[ez];exact XQ y x
   have aA:=Qy ks u n p i aC aG;rw[<-ey,<-ex,<-ez] at aA;have NX:=I aA;clear aA;have HX:=I hx;clear hx;have HI:=I hi;clear hi;clear ey ex ez aE aB hex aG an ao aM av aj
   go_wp2_with fail
   go_region_law (refine step_append_lies _ (by rfl) (.tmp 35) (.tmp 45) 24 (by rfl) N0 5 ib _ 1 1 Tryz.underlying24 bh bf bb bn (by rfl) (by decide) u12 i (bvs ((mixL ks u n p).take i)) (by rfl) (DU HO.o (by rfl)) ⟨wr.heap.size,0,none⟩ 1 1 [.int .u8 (z.toNat:Int)] (by rfl) (by rfl) (Sp.KJ (by rfl)) (by simp [Value.oneCell']) (by decide) (by have:=HI.o;have:=aQ.o;unfold maxLen;omega) (by have:=HI.o;have:=aQ.o;omega) (by have:=EN.o;have:=HW.o.size;simp;omega) (wr.heap.size+1) (by simp) ?_;intro g2 bq w2 ae M bj aw)
   all_goals (
    have aU:(wr.alloc (.cells #[.int .u8 (z.toNat:Int)] 5)).grownBy w2 u12.ownBlock:=⟨M.os,M.tape,M.output,M.size,M.block⟩;have ab:=(HW.o.alloc (by have:=EN.o;have:=HW.o.size;omega) (Obj.cells #[.int .u8 (z.toNat:Int)] 5)).grown aU (by have:=EN.o;have:=HW.o.size;simp;omega) (fun q hq=>(HO.o.lt q hq).1);have O6:=I ae;clear ae;have B6:=I ab;clear ab;clear M bj aw aU d1 d2
    go_wp2_with fail
    go_roundw
    case rel=>exact⟨i+1,by omega,by go_num,by rw[<-NX.o];exact O6.o,B6.o⟩
    case measure=>simp [intOf];omega)
theorem Gi {w w':World} {b o:Nat} {cs:List Value} {row:Option Nat} (h:w.rangeAt b o cs) (X:b<w.heap.size) (M:w.grownBy w' row) (O:row≠some b):w'.rangeAt b o cs:=fun j v Y=>
 (World.cell?_of_block (a:=⟨b,o+j,none⟩) (M.block b X (fun e=>O e.symm))).trans (h j v Y)
theorem CY {w w':World} {b o:Nat} {cs:List Value} (h:w.rangeAt b o cs) (O:b<w.heap.size) (M:Below w.heap.size w w'):w'.rangeAt b o cs:=Gi h O (By M none) (by simp)
theorem dtag (ks:Nat->UInt8) (u:Nat) (A:Option Addr) (m c:Nat) (l:List UInt8) (w:World) (hu:u<=255) (hm:m=l.length) (aM:m<=1000) (hr:Rd w w.heap.size A (bvs l)) :
  Calls Tryz.prog 38 #[.agg (AX ks),.int .i64 (u:Int),.slice A m c] w fun e w'=>∃v,e=.returned v/\w'.ownsRow w.heap.size 5 1 v 8 (bvs (w8 (tagL ks u l)))/\Below w.heap.size w w':=by
 obtain⟨ib,bp,bh,aX,bg⟩:=info_parts Si.Cd;obtain⟨B,eB⟩:=Aj (w.heap.size);have ch:=fun O=>Qx ks O
 have i32:=KR ks;have i16:=IK ks;have ab:=IK (k2 ks);have ay:=Qn ks;have af:=Qn (k2 ks);have az:=Bi ks;have ag:=Bi (k2 ks);obtain⟨T,eT⟩:=Aj (tagL ks u l);have aV:T<18446744073709551616:=by rw[eT];exact JT _ _ _
 have aa:=fun(w4:World) (A4:Option Addr) (c4:Nat) (h1:1+m<=c4) (h2:c4<=maxLen) (h3:Rd w4 w4.heap.size A4 (bvs (UInt8.ofNat u :: l)))=>Si.SV (k2 ks) A4 (1+m) c4 (UInt8.ofNat u :: l) w4 (by rw[List.length_cons,hm,Nat.add_comm]) (by omega) h1 h2 h3
 have hT:∀e,e=Ending.returned (Si.wv (Si.Hc (k2 ks) (UInt8.ofNat u :: l)))->e=.returned (.int .u64 (T:Int)):=fun e h=>by rw[h,eT];rfl
 have ax:[Value.int .u8 (u:Int)]++bvs l=bvs (UInt8.ofNat u :: l):=by
  show [Value.int .u8 (u:Int)]++bvs l=bv (UInt8.ofNat u) :: bvs l;rw[UO u hu];rfl
 obtain⟨kc,aU⟩:=Aj (AX ks);obtain⟨cs,aJ⟩:=Aj (Sp.AM ks);have bf:∃dl:List Value,dl.toArray=Sp.AM (k2 ks):=⟨_,rfl⟩;obtain⟨dl,aw⟩:=bf;obtain⟨L,eL⟩:=Aj (UInt8.ofNat u :: l);rw[<-aU] at ch i32⊢;rw[<-aJ] at ch i16 ay az;rw[<-aw] at ch ab af ag;have aC:Si.AM (k2 ks)=Sp.AM (k2 ks):=rfl;rw[aC,<-aw] at aa;rw[<-eL] at aa hT ax;rw[<-eT];have u16:(Tryz.prog.info? 157).map (·.size)=some dl.length:=by rw[<-List.size_toArray];exact ab
 have ae:=Tryz.underlying157;have br:(u:Int)<=255:=by omega
 have bu:(0:Int)<=(u:Int):=by omega
 have bj:(u:Int) % 256=(u:Int):=by omega
 have bs:IntKind.u8.wrap (u:Int)=(u:Int):=by rw[IntKind.wrap_u8'];exact bj
 have EB:=I eB;have HR:=I (eB▸hr);clear hr;have HM:=I hm;clear hm;have q3:(m:Int)<=1000:=by omega
 have aG:=I aM;clear aM;have bn:=I i32;clear i32;have bd:=I i16;clear i16;have aT:=I ab;clear ab;have bm:=I ay;clear ay;have aR:=I af;clear af;have aK:=I az;clear az;have ao:=I ag;clear ag;have aO:=I aa;clear aa;have HT:=I hT;clear hT;have aZ:=I ax;clear ax;have TL:=I aV;clear aV;have ba:=I u16;clear u16;have aS:=I ae;clear ae;have an:Below B w (w.alloc (.cells kc 30)):=eB▸(Below.refl w.heap.size w).alloc Af _;have aY:=I an;clear an;clear hu aU aJ aw eT eL aC eB;go_enter Tryz.func38,Tryz.ntmps38
 go_upto_region 2 with(first
  |(refine Ad (by rfl) 30 (.tmp 3) (by rfl) w.heap.size 0 (by rfl) kc _ (Si.Ac (Blk.new w 30 kc)) Tryz.underlying30 (by rfl) bn.o ?_)
  |(go_at_call 74;refine Ah (ch _) ?_;rintro O al;clear ch;have al:=aY.o.trans (al.mono (by have:=EB.o;simp;omega));have H1:=I al;clear al)
  |(refine wpList_store_mid (by rfl) 157 (.tmp 7) (.tmp 12) (by rfl) O.heap.size 0 cs (by rfl) (by rfl) (by rw[aK.o];exact World.there_alloc (by have:=Si.Am (Blk.new O 157 (Sp.AM fun _=>0));rwa [Bi] at this) _) bd.o bm.o ?_)
  |(refine wpList_store_mid (by rfl) 157 (.tmp 8) (.tmp 13) (by rfl) (O.heap.size+1) 0 dl.toArray (by rfl) (by rfl) (by rw[ao.o];exact World.there_setCells (by have:=Si.Am (Si.Blk.new_of (O.alloc (.cells (Sp.AM fun _=>0) 157)) (O.heap.size+1) 157 _ (Sp.AM fun _=>0) rfl (by simp));rwa [Bi] at this) _ _ _) aT.o aR.o ?_)
  |fail)
 have h2:=Jt O (Sp.AM fun _=>0) 157 cs dl.toArray (by rw[Bi,aK.o]) (by rw[Bi,ao.o]);change Code.wp _ _ _ _ (twoW O (Sp.AM fun _=>0) 157 cs dl.toArray);generalize twoW O (Sp.AM fun _=>0) 157 cs dl.toArray=W2 at h2⊢;have aP:=H1.o.trans (h2.2.2.1.mono (by have:=H1.o.size;have:=EB.o;omega));have aW:Hid (Below B w W2.drew):=below_drewN aP 1;have aA:W2.drew.rangeAt (O.heap.size+1) 0 dl:=by have:=h2.2.1;simpa using this
 have bb:=I (show O.heap.size+2<=W2.drew.heap.size from h2.2.2.2);clear h2 aP;have ae:=aS.o;have u16:=ba.o;simp only[Act.put];have bo:Hid ((W2.alloc (.cells #[.int .u8 (u:Int)] 5)).drew.ownsRow W2.heap.size 5 1 (.slice (some ⟨W2.heap.size,0,none⟩) 1 1) 1 [.int .u8 (u:Int)]):=World.ownsRow_lit (base:=W2.heap.size) (e:=5) (size:=1) W2.drew #[.int .u8 (u:Int)] 1 Af (by decide) (by rfl);have au:B<=W2.drew.heap.size:=by have:=aW.o.size;have:=EB.o;omega
 have aN:Hid (Below B w (W2.alloc (.cells #[.int .u8 (u:Int)] 5)).drew):=aW.o.alloc au (.cells #[.int .u8 (u:Int)] 5);have bl:Hid (Rd (W2.alloc (.cells #[.int .u8 (u:Int)] 5)).drew B A (bvs l)):=HR.o.below aN.o;have ah:(W2.alloc (.cells #[.int .u8 (u:Int)] 5)).drew.rangeAt (O.heap.size+1) 0 dl:=World.rangeAt_alloc aA (.cells #[.int .u8 (u:Int)] 5);have X:Hid ((W2.alloc (.cells #[.int .u8 (u:Int)] 5)).drew.heap.size=W2.heap.size+1):=by show(W2.alloc _).heap.size=_;simp
 have Z:Hid (O.heap.size+2<=W2.heap.size):=bb.o;have aF:Hid (B<=W2.heap.size):=au;clear au
 go_region_held3 (fun w'=>w'.rangeAt (O.heap.size+1) 0 dl) (first | exact aA | exact ah | exact aB | exact av | exact aI) (first
  |(rw[if_pos (by rfl)];refine Fp _ (.tmp 17) (.tmp 18) 24 (by rfl) W2.heap.size 5 ib _ 1 Tryz.underlying24 bp bh aX bg (by rfl) _ 1 [.int .u8 (u:Int)] (by rfl) bo.o B A m c (bvs l) (by rfl) (by rw[AB];exact HM.o) bl.o (BM _) (by have:=aG.o;unfold maxLen;omega) (by have:=aG.o;omega) (by have:=X.o;omega) ?_;intro v4 w4 Y M aQ;rw[aZ.o] at Y;have aB:w4.rangeAt (O.heap.size+1) 0 dl:=Gi ah (by have:=X.o;have:=Z.o;omega) M (by have:=Z.o;simp [Value.ownBlock];omega);have aE:Below B w w4:=aN.o.grown M (by have:=X.o;have:=aF.o;omega) (fun k hk=>by have:=aF.o;simp [Value.ownBlock] at hk;omega);obtain⟨A4,c4,bq,aD,aL,aH⟩:=Es (S:=fun _=>False) Y (fun _ _ x=>x);subst bq;have ai:=aO.o w4 A4 c4 aD aL aH.rd;have H4:=I aE;have Z4:=I M.size;clear Y M aQ aE aD aL aH)
  |(go_at_call 75;refine Calls.mono ai ?_;rintro e w5 ⟨he,ad⟩;have he:=HT.o e he;subst he;clear ai;have av:w5.rangeAt (O.heap.size+1) 0 dl:=CY aB (by have:=Z4.o;have:=X.o;have:=Z.o;omega) ad;have Z5:=I ad.size;have ad:=H4.o.trans (ad.mono (by have:=H4.o.size;have:=EB.o;omega));have ar:=dbig T w5 TL.o;have H5:=I ad;clear ad)
  |(go_at_call 69;refine Calls.mono ar ?_;rintro e w6 ⟨v6,rfl,ak,aj⟩;clear ar;have aI:w6.rangeAt (O.heap.size+1) 0 dl:=CY av (by have:=Z4.o;have:=Z5.o;have:=X.o;have:=Z.o;omega) aj;have aj:=H5.o.trans (aj.mono (by have:=H5.o.size;have:=EB.o;omega));have H6:=I aj;have O6:=I ak;have Z6:=I H5.o.size;clear aj ak))
 all_goals (
  clear aA ah aB av aI
  go_wp2_with fail
  go_ret;exact⟨_,rfl,O6.o.mono (by have:=Z6.o;have:=EB.o;omega),EB.o▸H6.o⟩)
theorem Qz (ks:Nat->UInt8) (u n:Int) (A:Option Addr) (m c:Nat) (w:World) (Z:¬(0<=u/\u<=255/\0<=n/\n<=1099511627776/\m<=784)) :
  Calls Tryz.prog 31 #[.agg (AX ks),.int .i64 u,.int .i64 n,.slice A m c] w fun e w'=>e=.returned (.tuple #[.slice none 0 0,.int .i64 1])/\Below w.heap.size w w':=by
 obtain⟨kc,M⟩:=Aj (AX ks);rw[<-M];have t:(decide (u<0)=true)\/(decide (u<0)=false/\decide (255<u)=true)\/(decide (u<0)=false/\decide (255<u)=false/\decide (n<0)=true)\/(decide (u<0)=false/\decide (255<u)=false/\decide (n<0)=false/\decide (1099511627776<n)=true)\/(decide (u<0)=false/\decide (255<u)=false/\decide (n<0)=false/\decide (1099511627776<n)=false/\decide (784<(m:Int))=true):=by
  simp only[decide_eq_true_eq,decide_eq_false_iff_not];omega
 have HB:=I ((Below.refl w.heap.size w).alloc Af (.cells kc 30));clear Z M;rcases t with O | ⟨O,X⟩ | ⟨O,X,Y⟩ | ⟨O,X,Y,t4⟩ | ⟨O,X,Y,t4,t5⟩<;>(
  go_enter Tryz.func31,Tryz.ntmps31
  go_wp2
  go_ret2
  exact⟨rfl,HB.o⟩)
theorem QA (ks:Nat->UInt8) (u n:Nat) (A:Option Addr) (m c:Nat) (p:List UInt8) (w:World) (hu:u<=255) (hn:n<=1099511627776) (hm:m=p.length) (ao:m<=784) (hr:Rd w w.heap.size A (bvs p)) :
  Calls Tryz.prog 31 #[.agg (AX ks),.int .i64 (u:Int),.int .i64 (n:Int),.slice A m c] w fun e w'=>∃A2 c2,e=.returned (.tuple #[.slice A2 (m+16) c2,.int .i64 0])/\RdA (fun i=>i<w.heap.size) w' A2 (bvs (Du ks u n p))/\Below w.heap.size w w'/\m+16<=c2/\c2<=maxLen:=by
 obtain⟨ib,aK,aI,aC,aT⟩:=info_parts Si.Cd;obtain⟨B,eB⟩:=Aj (w.heap.size);have ab:=fun(w1:World) (h1:Rd w1 w1.heap.size A (bvs p))=>dmix ks u n A m c p w1 hu (by omega) hm (by omega) h1
 have ak:=fun(w1:World)=>dbig n w1 (by omega)
 obtain⟨L,eL⟩:=Aj (EI ks u n p);have al:bvs (w8 n)++bvs (mixL ks u n p)=bvs L:=by rw[eL,EI,BH]
 have aQ:8+m=L.length:=by rw[eL,BV,<-hm]
 have ad:=fun(w1:World) (A1:Option Addr) (c1:Nat) (h1:Rd w1 w1.heap.size A1 (bvs L))=>dtag ks u A1 (8+m) c1 L w1 hu aQ (by omega) h1
 have ah:bvs L++bvs (w8 (tagL ks u L))=bvs (Du ks u n p):=by rw[eL,<-BH];rfl
 have ay:(bvs (mixL ks u n p)).length=m:=by rw[AB,Bs,hm]
 obtain⟨M,eM⟩:=Aj (bvs (mixL ks u n p));obtain⟨W8,aH⟩:=Aj (bvs (w8 n));obtain⟨T8,ar⟩:=Aj (bvs (w8 (tagL ks u L)));have oM:∀v∈M,v.oneCell'=true:=eM▸BM _;have oT:∀v∈T8,v.oneCell'=true:=ar▸BM _;have aB:T8.length=8:=by rw[ar,AB,Dd]
 rw[<-eM] at ab al ay;rw[<-aH] at ak al;rw[<-ar] at ad ah;have bf:∃kl:List Value,kl.toArray=AX ks:=⟨_,rfl⟩;obtain⟨kl,az⟩:=bf;have u32:(Tryz.prog.info? 30).map (·.size)=some kl.length:=by rw[<-List.size_toArray,az];exact KR ks
 have aW:=Tryz.underlying30;rw[<-az] at ab ad⊢;have q1:(n:Int)<=1099511627776:=by omega
 have q2:(0:Int)<=(n:Int):=by omega
 have q3:(m:Int)<=784:=by omega
 have q4:IntKind.u64.wrap (n:Int)=(n:Int):=by rw[IntKind.wrap_u64];omega
 have q5:(n:Int) % 18446744073709551616=(n:Int):=by omega
 have t1:decide ((u:Int)<0)=false:=by simp
 have t2:decide (255<(u:Int))=false:=by simp;omega
 have t3:decide ((n:Int)<0)=false:=by simp
 have t4:decide (1099511627776<(n:Int))=false:=by simp;omega
 have t5:decide (784<(m:Int))=false:=by simp;omega
 have EB:=I eB;have HR:=I (eB▸hr);clear hr;have au:=I ao;clear ao;have aJ:=I ab;clear ab;have aN:=I ak;clear ak;have aM:=I ad;clear ad;have bw:=I al;clear al;have aX:=I ah;clear ah;have bs:=I ay;clear ay;have br:=I aB;clear aB;have OM:=I oM;clear oM;have OT:=I oT;clear oT;have aw:(w.alloc (.cells kl.toArray 30)).drew.rangeAt w.heap.size 0 kl:=by have:=Si.Ac (Blk.new w 30 kl.toArray);simpa using this
 have bo:Hid (Below B w (w.alloc (.cells kl.toArray 30)).drew):=eB▸below_drewN ((Below.refl w.heap.size w).alloc Af _) 1;have an:Hid ((w.alloc (.cells kl.toArray 30)).drew.heap.size=B+1):=by show(w.alloc _).heap.size=_;simp [eB]
 have cb:=aN.o (w.alloc (.cells kl.toArray 30)).drew;clear hu hn hm aQ eM aH ar az eB eL;go_enter Tryz.func31,Tryz.ntmps31
 go_upto_region 3 with fail
 go_region_held3 (fun w'=>w'.rangeAt w.heap.size 0 kl) (first | exact aw | exact av | exact ax | exact aA) (first
  |(rw[if_pos (by rfl)];refine Fp _ (.tmp 32) (.tmp 38) 24 (by rfl) (B+1) 5 ib _ 1 Tryz.underlying24 aK aI aC aT (by rfl) v1 8 W8 (by rfl) O2.o w2.heap.size A2 m c2 M (by rfl) bs.o.symm R2.o OM.o (by have:=au.o;unfold maxLen;omega) (by have:=au.o;omega) (by have:=Z2.o;omega) ?_;intro v3 w3 X O aE;rw[bw.o] at X;have aA:w3.rangeAt w.heap.size 0 kl:=Gi ax (by have:=Z2.o;have:=EB.o;omega) O (fun hx=>by have:=Fw O2.o _ hx;have:=EB.o;omega);have bb:Below B w w3:=H2.o.grown O (by have:=Z2.o;omega) (fun k hk=>by have:=Fw O2.o _ hk;omega);obtain⟨A3,c3,bp,bm,bj,aS⟩:=Es (S:=fun _=>False) X (fun _ _ x=>x);subst bp;have ct:=aM.o w3 A3 c3 aS.rd;have H3:=I bb;have O3:=I X;have Z3:=I (Nat.le_trans Z2.o O.size);clear X O aE bb bm bj aS)
  |(go_at_call 69;refine Calls.mono cb ?_;rintro e w1 ⟨v1,rfl,ag,Z⟩;clear cb;have av:w1.rangeAt w.heap.size 0 kl:=CY aw (by have:=an.o;have:=EB.o;omega) Z;have aV:B+1<=w1.heap.size:=by{have:=an.o;have:=Z.size;omega};have Z:=bo.o.trans (Z.mono (by have:=an.o;omega));have cm:=aJ.o w1 ((HR.o.below Z).more (by omega));have H1:=I Z;have O1:=I (ag.mono (base':=B+1) (by have:=an.o;omega));have Z1:=I aV;clear Z ag aV)
  |(go_at_call 39;refine Calls.mono cm ?_;rintro e w2 ⟨v2,rfl,ai,aa⟩;clear cm;have ax:w2.rangeAt w.heap.size 0 kl:=CY av (by have:=Z1.o;have:=EB.o;omega) aa;have aD:B+1<=w2.heap.size:=Nat.le_trans Z1.o aa.size;have aY:=CQ O1.o aa;obtain⟨A2,c2,bx,bq,ao,aF⟩:=Es (S:=fun _=>False) ai (fun _ _ x=>x);subst bx;have aa:=H1.o.trans (aa.mono (by have:=Z1.o;omega));have H2:=I aa;have O2:=I aY;have Z2:=I aD;have R2:=I aF.rd;clear aa ai aD aY bq ao aF))
 all_goals (
  have bu:Hid (w3.rangeAt w.heap.size 0 kl.toArray.toList):=aA;have bd:Hid ((Tryz.prog.info? 30).map (·.size)=some kl.toArray.size):=by rw[List.size_toArray];exact u32
  clear aw av ax aA u32 aW Z aa
  go_wp2_with (first
   |(refine Ad (by rfl) 30 (.tmp 4) (by rfl) w.heap.size 0 (by rfl) kl.toArray _ bu.o Tryz.underlying30 (by rfl) bd.o ?_)
   |(go_at_call 38;refine Calls.mono ct ?_;rintro e w4 ⟨v4,rfl,aj,af⟩;clear ct;have aL:=CQ O3.o af;have ba:=Nat.le_trans Z3.o af.size;have af:=H3.o.trans (af.mono (by have:=Z3.o;omega));obtain⟨A4,c4,bl,bn,bg,aR⟩:=Es (S:=fun _=>False) aj (fun _ _ x=>x);subst bl;have H4:=I af;have O4:=I aL;have Z4:=I ba;have R4:=I aR.rd;clear af aj aL ba bn bg aR)
   |(at_builtin;refine AF _ (by rfl) (.tmp 40) (.tmp 44) 24 (by rfl) (B+1) 5 ib _ 1 Tryz.underlying24 aK aI aC aT (by rfl) _ (8+m) (bvs L) (by rfl) O4.o w4.heap.size A4 8 c4 T8 (by rfl) br.o.symm R4.o OT.o (by have:=au.o;unfold maxLen;omega) (by have:=au.o;omega) (by have:=Z4.o;omega) ?_;intro v5 w5 Y ae aP;rw[aX.o] at Y;have aU:=H4.o.grown ae (by have:=Z4.o;omega) (fun k hk=>by have:=Fw O4.o k hk;omega);obtain⟨A5,c5,bh,aO,aZ,aG⟩:=Es (S:=fun i=>i<w.heap.size) Y (fun k hk hx=>by have:=Fw Y k hk;have:=EB.o;omega);subst bh;have H5:=I aU;have R5:=I aG;have C5:=I (And.intro aO aZ);clear Y ae aP aU aO aZ aG)
   |fail)
  go_ret2
  exact⟨A5,c5,by show Ending.returned (.tuple #[.slice A5 (8+m+8) c5,.int .i64 0])=_;rw[show 8+m+8=m+16 by omega],R5.o,EB.o▸H5.o,by have:=C5.o.1;omega,C5.o.2⟩)
theorem Tc (ks:Nat->UInt8) (u n:Nat) (A:Option Addr) (m c:Nat) (p:List UInt8) (w:World) (hu:u<=255) (O:n<=1099511627776) (hm:m=p.length) (M:m<=784) (hr:Rd w w.heap.size A (bvs p)) :
  Calls Tryz.prog 31 #[.agg (AX ks),.int .i64 (u:Int),.int .i64 (n:Int),.slice A m c] w fun e w'=>∃A2 c2,e=.returned (.tuple #[.slice A2 (m+16) c2,.int .i64 0])/\RdA (fun i=>i<w.heap.size) w' A2 (bvs (Du ks u n p))/\Below w.heap.size w w':=by
 refine(QA ks u n A m c p w hu O hm M hr).mono ?_;rintro e w' ⟨A2,c2,X,Z,Y,_⟩;exact⟨A2,c2,X,Z,Y⟩
end Se
end Go.Proofs.YtlccngianpfalaaGreat
