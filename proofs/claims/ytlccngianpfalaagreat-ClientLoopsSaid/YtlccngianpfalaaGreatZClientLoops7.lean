import Derived.Test.YtlccngianpfalaaGreatZClientLoops6
set_option maxHeartbeats 25600000
set_option maxRecDepth 100000
set_option linter.unusedVariables false
set_option linter.unusedSimpArgs false
namespace Go.Proofs.YtlccngianpfalaaGreat
namespace Open
open Go.ChangeShapes Go.WideShapes Go.ChangeAt Go.RowKit Go.Deep Ae
theorem Qj {n:Int} (h:(Lit.int .i64 n).wf=true) : -9223372036854775808<=n/\n<=9223372036854775807:=by
 simpa [Lit.wf,IntKind.min,IntKind.max,IntKind.signed,IntKind.bits] using h
section
variable {H:Type} {enc:TypeId×Value->H} {P:Program} {W:World}
end
end Open
namespace Se
open Go.RowKit Ae
theorem SI (b:Nat) (u N:Int) (A:Option Addr) (m c:Nat) (w:World) (Y:(Lit.int .i64 N).wf=true) (hm:m<=maxLen) (Z:¬(0<=u/\u<=255/\0<=N/\N<=1099511627776/\m<=784)) :
  Calls Tryz.prog 131 #[.pointer (some ⟨b,0,none⟩),.int .i64 u,.int .i64 N,.slice A m c] w fun e w'=>e=.returned (.tuple #[.slice none 0 0,.int .i64 1])/\w'=w:=by
 by_cases h1:0<=u/\u<=255
 ·have M:=DX u true (by simp;omega)
  by_cases h2:N<0
  ·have t2:decide (N<0)=true:=by simpa using h2
   clear Z h1 Y hm;go_enter Tryz.func131,Tryz.ntmps131
   go_wp2_with (go_at_call 101;refine Ah (M _) ?_;rintro O hw;have hw:=hw.symm;subst hw;clear M)
   go_ret2
   exact⟨rfl,rfl⟩
  ·obtain⟨n,rfl⟩:∃n:Nat,N=(n:Int):=⟨N.toNat,by omega⟩
   have aa:n<9223372036854775808:=by
    have:=Open.Qj Y;omega
   have t2:decide ((n:Int)<0)=false:=by simp
   have q4:IntKind.u64.wrap (n:Int)=(n:Int):=by rw[IntKind.wrap_u64];omega
   by_cases h3:n<=1099511627776
   ·have X:=Fj n true (by simp;omega)
    have t3:decide (784<(m:Int))=true:=by simp;omega
    have q1:(n:Int)<=1099511627776:=by omega
    clear Z h1 h2 Y;go_enter Tryz.func131,Tryz.ntmps131
    go_wp2_with (first
     |(go_at_call 101;refine Ah (M _) ?_;rintro O hw;have hw:=hw.symm;subst hw;clear M)
     |(go_at_call 150;refine Ah (X _) ?_;rintro O hw;have hw:=hw.symm;subst hw;clear X))
    go_ret2
    exact⟨rfl,rfl⟩
   ·have X:=Fj n false (by simp;omega)
    clear Z h1 h2 Y;go_enter Tryz.func131,Tryz.ntmps131
    go_wp2_with (first
     |(go_at_call 101;refine Ah (M _) ?_;rintro O hw;have hw:=hw.symm;subst hw;clear M)
     |(go_at_call 150;refine Ah (X _) ?_;rintro O hw;have hw:=hw.symm;subst hw;clear X))
    go_ret2
    exact⟨rfl,rfl⟩
 ·have M:=DX u false (by
   rw[eq_comm,Bool.and_eq_false_iff];rcases Int.lt_or_le u 0 with h | h
   ·exact .inl (by simp;omega)
   ·exact .inr (by simp;omega))
  clear Z h1 Y;go_enter Tryz.func131,Tryz.ntmps131
  go_wp2_with (go_at_call 101;refine Ah (M _) ?_;rintro O hw;have hw:=hw.symm;subst hw;clear M)
  go_ret2
  exact⟨rfl,rfl⟩
theorem SJ (b:Nat) (u:Int) (p:Value) (w:World) (O:¬(0<=u/\u<=255)) :
  Calls Tryz.prog 57 #[.pointer (some ⟨b,0,none⟩),.int .i64 u,p] w fun e w'=>e=.returned (.tuple #[.slice none 0 0,.int .i64 1])/\w'=w:=by
 have M:=DX u false (by
  rw[eq_comm,Bool.and_eq_false_iff];rcases Int.lt_or_le u 0 with h | h
  ·exact .inl (by simp;omega)
  ·exact .inr (by simp;omega))
 clear O;go_enter Tryz.func57,Tryz.ntmps57
 go_wp2_with (go_at_call 101;refine Ah (M _) ?_;rintro X hw;have hw:=hw.symm;subst hw;clear M)
 go_ret2
 exact⟨rfl,rfl⟩
def De (w w':World) (b:Nat) (h h':Option Nat):Prop:=Chg (Ow b h) w w'/\(h'=h\/(h=none/\∃g,h'=some g/\w.heap.size<=g))
theorem De.refl (w:World) (b:Nat) (h:Option Nat):De w w b h h:=⟨Chg.refl _ _,.inl rfl⟩
theorem Step.o {w w':World} {b g:Nat} {h:Option Nat} (hs:Step w w' b h g):De w w' b h (some g):=
 ⟨hs.1,hs.2.imp (fun e=>e.symm) (fun e=>⟨e.1,g,rfl,e.2⟩)⟩
theorem De.own {w w':World} {b:Nat} {h O:Option Nat} (hs:De w w' b h O):∀i,i<w.heap.size->Ow b O i->Ow b h i:=by
 intro i X M;rcases hs.2 with rfl | ⟨_,g,rfl,Y⟩
 ·exact M
 ·rcases M with M | M
  ·exact .inl M
  ·injection M with M;omega
theorem De.trans {a w c:World} {b:Nat} {h O X:Option Nat} (s1:De a w b h O) (s2:De w c b O X):De a c b h X:=by
 refine⟨s1.1.trans s2.1 s1.own,?_⟩;rcases s1.2 with rfl | ⟨e,g,rfl,M⟩
 ·rcases s2.2 with rfl | ⟨e,g,rfl,M⟩
  ·exact .inl rfl
  ·exact .inr ⟨e,g,rfl,Nat.le_trans s1.1.size M⟩
 ·rcases s2.2 with rfl | ⟨Y,_⟩
  ·exact .inr ⟨e,g,rfl,M⟩
  ·cases Y
theorem De.drewN {w w':World} {b:Nat} {h M:Option Nat} (hs:De w w' b h M) (k:Nat):De w (w'.drewN k) b h M:=⟨⟨hs.1.os,hs.1.tape,hs.1.output,hs.1.size,hs.1.block⟩,hs.2⟩
theorem Fl (S:Nat->Prop) (w:World) (k:Nat):Chg S w (w.drewN k):=⟨rfl,rfl,rfl,Nat.le_refl _,fun _ _ _=>rfl⟩
theorem KH {l:List UInt8} {n:Nat} {P:Prop} (O:n=l.length) (h:8<=n) (M:bvs l = []):P:=by
 have:=AB l;rw[M] at this;simp at this;omega
theorem RdA.take {S:Nat->Prop} {w:World} {A:Option Addr} {l:List UInt8} (h:RdA S w A (bvs l)) (k:Nat):RdA S w A (bvs (l.take k)):=by
 rcases h with h | ⟨b,o,M,X,Y,O⟩
 ·left
  have:l = []:=List.map_eq_nil_iff.1 h;rw[this,List.take_nil];rfl
 ·refine .inr ⟨b,o,M,X,Y,fun i u hu=>O i u ?_⟩
  unfold bvs at hu⊢;rw[List.map_take,List.getElem?_take] at hu
  split at hu
  ·exact hu
  ·cases hu
theorem RdA.drop {S:Nat->Prop} {w:World} {b o:Nat} {l:List UInt8} (h:RdA S w (some ⟨b,o,none⟩) (bvs l)) (k:Nat):RdA S w (some ⟨b,o+k,none⟩) (bvs (l.drop k)):=by
 rcases h with h | ⟨b',Z,M,X,Y,O⟩
 ·left
  have:l = []:=List.map_eq_nil_iff.1 h;rw[this,List.drop_nil];rfl
 ·injection M with M
  injection M with e1 e2;subst e1 e2;refine .inr ⟨b,o+k,rfl,X,Y,fun i u hu=>?_⟩;unfold bvs at hu;rw[List.map_drop,List.getElem?_drop] at hu;have:=O (k+i) u hu
  rwa [<-Nat.add_assoc] at this
theorem Qk {ks:Nat->UInt8} {u:Nat} {l:List UInt8} (h:l.length<16\/800<l.length\/1099511627776<n8 l):isL ks u l=false:=by
 unfold isL;rcases h with h | h | h
 ·rw[show decide (16<=l.length)=false by simp;omega];simp
 ·rw[show decide (l.length<=800)=false by simp;omega];simp
 ·rw[show decide (n8 l<=1099511627776)=false by simp;omega];simp
theorem SK {ks:Nat->UInt8} {u:Nat} {l:List UInt8} (O:16<=l.length) (M:l.length<=800) (X:n8 l<=1099511627776):isL ks u l=decide (tagL ks u (Ha l)=n8 (GS l)):=by
 unfold isL;rw[show decide (16<=l.length)=true by simpa using O,show decide (l.length<=800)=true by simpa using M,show decide (n8 l<=1099511627776)=true by simpa using X];simp
theorem De.aw {w w':World} {b n:Nat} {h M:Option Nat} (hs:De w w' b h M):Chg (Aw b h n) w w':=hs.1.mono fun i _ O=>.inl O
theorem De.rda {w w':World} {b:Nat} {h M:Option Nat} {A:Option Addr} {xs:List Value} (hs:De w w' b h M) (O:RdA (Ow b h) w A xs):RdA (Ow b M) w' A xs:=
 O.keep hs.1 (fun _ _ x=>x) hs.own
def ksOf (l:List UInt8) (i:Nat):UInt8:=l.getD i 0
theorem SL (ks:Nat->UInt8) (u n:Nat) (p:List UInt8) (M:n<=1099511627776) (O:p.length<=784):isL ks u (Dm ks u n p)=true:=by
 have h:=IF ks u n p M O;unfold VH at h
 split at h
 ·assumption
 ·cases h
theorem SM (ks:Nat->UInt8) (u n:Nat) (p:List UInt8) (M:n<=1099511627776):mixL ks u (n8 (Dm ks u n p)) (midL (Dm ks u n p))=p:=by
 rw[MQ,LJ ks u n p (by omega),PY]
theorem RdA.o {w w':World} {b g:Nat} {h:Option Nat} {A:Option Addr} {xs:List Value} {ks:Nat->UInt8} {a o r:Nat} (O:RdA (Nw w.heap.size g) w' A xs) (X:Box w b ks h a o r):RdA (Ow b (some g)) w' A xs:=O.mono fun i _ M=>by
 rcases M with M | M
 ·exact .inl (M▸X.lt)
 ·injection M with M;exact .inr M.symm
def k1:Nat->UInt8:=fun i=>if i=0 then 1 else 0
end Se
namespace SeL
open Go.RowKit Ae Se
theorem VN {b g i:Nat} (h:Ow b (some g) i):i=b\/i=g:=by
 rcases h with h | h
 ·exact .inl h
 ·injection h with h;exact .inr h.symm
end SeL
namespace SpL
open Go.RowKit Ae Sp
theorem Ib (K:Nat->Wd) (up lo:Wd) (i j:Nat) (X:j<4):(Eg K up lo (8*i+j)).toNat=(Ci K (up,lo+BitVec.ofNat 32 i)).1.toNat / 256 ^ j % 256:=by
 have M:(8*i+j) / 8=i:=by omega
 have O:(8*i+j) % 8=j:=by omega
 rw[Eg,M,O,UInt8.toNat_ofNat',IX];have Y:=FZ (Ci K (up,lo+BitVec.ofNat 32 i)).1;have h:j=0\/j=1\/j=2\/j=3:=by omega
 rcases h with rfl | rfl | rfl | rfl<;>simp only[Nat.reducePow]<;>omega
theorem Ic (K:Nat->Wd) (up lo:Wd) (i j:Nat) (X:j<4):(Eg K up lo (8*i+4+j)).toNat=(Ci K (up,lo+BitVec.ofNat 32 i)).2.toNat / 256 ^ j % 256:=by
 have M:(8*i+4+j) / 8=i:=by omega
 have O:(8*i+4+j) % 8=4+j:=by omega
 rw[Eg,M,O,UInt8.toNat_ofNat',IX];have Y:=FZ (Ci K (up,lo+BitVec.ofNat 32 i)).1;have h:j=0\/j=1\/j=2\/j=3:=by omega
 rcases h with rfl | rfl | rfl | rfl<;>simp only[Nat.reducePow,Nat.reduceAdd]<;>omega
def II (w:World) (g:Nat) (cs:Array Value):Prop:=w.rangeAt g 0 cs.toList
theorem II.grown {w w':World} {g:Nat} {cs:Array Value} {row:Option Nat} (h:II w g cs) (X:g<w.heap.size) (Y:w.grownBy w' row) (O:row≠some g):II w' g cs:=fun j v M=>
 (World.cell?_of_block (a:=⟨g,0+j,none⟩) (Y.block g X (fun e=>O e.symm))).trans (h j v M)
theorem II.below {w w':World} {g:Nat} {cs:Array Value} (h:II w g cs) (M:g<w.heap.size) (O:Below w.heap.size w w'):II w' g cs:=h.grown M (Bz O none) (by simp)
theorem IZ {P:Program} {ops:Array Oper} {rest:List Oper} {op:Oper} {a:Act} {w:World} {Q:Exit->Act->World->Prop} (M:op.guard=none) (ty:TypeId) (x:Operand) (O:op.op=.load ty x)
  (g:Nat) (X:a.eval x=.pointer (some ⟨g,0,none⟩)) (cs:Array Value) (d:TypeDesc) (hc:II w g cs)
  (hu:P.underlying ty=some d) (Z:d.isRow=true) (Y:(P.info? ty).map (·.size)=some cs.size)
  (h:wpList P ops Q rest (a.put op.dst (.agg cs)) w):wpList P ops Q (op :: rest) a w:=
 wpList_load_mid M ty x O g 0 X cs.toList d hc hu Z (by rw[Array.length_toList];exact Y) (by simpa using h)
theorem Ei (b:Nat):∀(vs:List Value) (o:Nat) (w:World),(w.setCells b o vs).heap.size=w.heap.size
 | [],_,_=>rfl
 |v :: r,o,w=>by rw[World.setCells,Ei b r];simp [World.setCell]
theorem UA (K:Nat->Wd):(Bb K).size=27:=by simp [Bb]
theorem XD (K:Nat->Wd):(Tryz.prog.info? 163).map (·.size)=some (Bb K).size:=by rw[UA];kernel_rfl
def eight (x y:Wd):List Value:=[.int .u8 ((x.toNat:Int) % 256),.int .u8 ((x.toNat:Int) / 256 % 256),.int .u8 ((x.toNat:Int) / 65536 % 256),.int .u8 ((x.toNat:Int) / 16777216),
 .int .u8 ((y.toNat:Int) % 256),.int .u8 ((y.toNat:Int) / 256 % 256),.int .u8 ((y.toNat:Int) / 65536 % 256),.int .u8 ((y.toNat:Int) / 16777216)]
theorem Oe (K:Nat->Wd) (up lo:Wd) (i:Nat):bvs (strm K up lo (8*i))++eight (Ci K (up,lo+BitVec.ofNat 32 i)).1 (Ci K (up,lo+BitVec.ofNat 32 i)).2=bvs (strm K up lo (8*(i+1))):=by
 have e:strm K up lo (8*(i+1))=strm K up lo (8*i)++[Eg K up lo (8*i+0),Eg K up lo (8*i+1),Eg K up lo (8*i+2),Eg K up lo (8*i+3),Eg K up lo (8*i+4+0),Eg K up lo (8*i+4+1),Eg K up lo (8*i+4+2),Eg K up lo (8*i+4+3)]:=by
  unfold strm;rw[show 8*(i+1)=8*i+1+1+1+1+1+1+1+1 by omega];simp [List.range_succ]
 rw[e,BI]
 congr 1
 have X:=Ib K up lo i 0 (by decide);have a1:=Ib K up lo i 1 (by decide);have O:=Ib K up lo i 2 (by decide);have a3:=Ib K up lo i 3 (by decide);have M:=Ic K up lo i 0 (by decide);have b1:=Ic K up lo i 1 (by decide);have b2:=Ic K up lo i 2 (by decide);have b3:=Ic K up lo i 3 (by decide);have Y:=FZ (Ci K (up,lo+BitVec.ofNat 32 i)).1;have Z:=FZ (Ci K (up,lo+BitVec.ofNat 32 i)).2;rw[show((Ci K (up,lo+BitVec.ofNat 32 i)).1.toNat / 256 ^ 3 % 256)=(Ci K (up,lo+BitVec.ofNat 32 i)).1.toNat / 16777216 by simp only[Nat.reducePow];omega] at a3;rw[show((Ci K (up,lo+BitVec.ofNat 32 i)).2.toNat / 256 ^ 3 % 256)=(Ci K (up,lo+BitVec.ofNat 32 i)).2.toNat / 16777216 by simp only[Nat.reducePow];omega] at b3;simp only[bvs,List.map_cons,List.map_nil,bv,eight,X,a1,O,a3,M,b1,b2,b3];simp
theorem Rd.take {w:World} {B:Nat} {A:Option Addr} {xs:List Value} (h:Rd w B A xs) (m:Nat):Rd w B A (xs.take m):=by
 rcases h with h | ⟨b,o,M,O,X⟩
 ·rw[h];exact .inl (by simp)
 ·refine .inr ⟨b,o,M,O,fun i u hu=>X i u ?_⟩
  rw[List.getElem?_take] at hu
  split at hu
  ·exact hu
  ·cases hu
theorem bt' {B:Nat} {a w c:World} (h:Below B a w) (hB:B+1<=w.heap.size) (k:Below w.heap.size w c):Below B a c:=Jg h (by omega) k
theorem VO (K:Nat->Wd) (N m:Nat) (n:Int) (w:World) (hN:N<18446744073709551616) (hm:m<=1000) (hn:m=n.toNat) :
  Calls Tryz.prog 76 #[.agg (Bb K),.int .u64 (N:Int),.int .i64 n] w fun e w'=>∃A c,e=.returned (.slice A m c)/\m<=c/\Rd w' w'.heap.size A (bvs (strm K (upW N) (loW N) m))/\Below w.heap.size w w':=by
 obtain⟨B,eB⟩:=Aj (w.heap.size);rw[<-eB];have EB:=I eB;have ah:=UA K;have ag:=XD K;obtain⟨cs,Z⟩:=Aj (Bb K);rw[<-Z] at ah ag;have cB:=Xg K;rw[<-Z] at cB;rw[<-Z];obtain⟨ib,aF,aL,aP,aO⟩:=info_parts Cc;have aT:=I ah;clear ah;have aJ:=I ag;clear ag;have aR:=I Z;clear Z;have NN:=I hN;clear hN;have HM:=I hm;clear hm;have HN:=I hn;clear hn;have aA:Blk (w.alloc (.cells cs 163)) B 163 cs:=Blk.new_of w B _ _ _ rfl eB.symm;have aK:=I aA;clear aA;go_enter Tryz.func76,Tryz.ntmps76
 go_wp2_with fail
 rw[<-eB];clear eB
 go_loopw [7,8] (fun aN iv wr=>∃i:Nat,8*i<m+8/\iv=.int .i64 (i:Int)/\Blk wr B 163 cs/\Below B w wr/\B+1<=wr.heap.size/\wr.ownsRow (B+1) 5 1 aN (8*i) (bvs (strm K (upW N) (loW N) (8*i)))) (fun _ iv _=>m+8 - 8*(intOf iv).toNat)
 case atStart=>exact⟨0,by omega,rfl,aK.o,EB.o▸Ag.alloc Af _,by have:=EB.o;simp;omega,rfl,.inl ⟨rfl,rfl⟩⟩
 case round=>
  obtain⟨i,hi,rfl,hB,hb,az,aa⟩:=hrel;have HB:=I hB;clear hB;have af:=I hb;clear hb;have HS:=I az;clear az;have hlen:∃A cap,u7=.slice A (8*i) cap/\8*i<=cap/\(∀n k,(Value.slice A n cap).ownBlock=some k->B+1<=k):=by
   obtain⟨_,⟨h1,h2⟩ | ⟨g,cap,cur,h1,hg,_,O,_⟩⟩:=aa
   ·exact⟨none,0,by rw[h1,h2],by omega,fun n k h=>by simp [Value.ownBlock] at h⟩
   ·exact⟨_,cap,h1,O,fun n k h=>by simp only[Value.ownBlock] at h;injection h with h;omega⟩
  obtain⟨A,cap,rfl,O,an⟩:=hlen;have ar:=I an;clear an;have HO:=I aa;clear aa;obtain⟨o,eo⟩:=Aj (8*i);rw[<-eo];have EO:=I eo;clear eo
  by_cases hlt:(o:Int)<n
  ·have aU:(0:Int)<=(i:Int):=by omega
   have aV:(i:Int)<=200:=by have:=EO.o;have:=HM.o;have:=HN.o;omega
   have HH:=I hi;clear hi
   go_wp2_with (first | (refine IZ (by rfl) 163 (.tmp 3) (by rfl) B (by rfl) cs _ (Ac HB.o) Tryz.underlying163 (by rfl) aJ.o ?_) | fail)
   have aC:(N:Int) / 4294967296 % 4294967296=((upW N).toNat:Int):=by rw[upW,BitVec.toNat_ofNat];have:=NN.o;omega
   have ae:((N:Int)+(i:Int)) % 4294967296=((loW N+BitVec.ofNat 32 i).toNat:Int):=by rw[loW,BitVec.toNat_add,BitVec.toNat_ofNat,BitVec.toNat_ofNat];omega
   rw[aC,ae];obtain⟨p,ep⟩:=Aj (Ci K (upW N,loW N+BitVec.ofNat 32 i));obtain⟨x0,ex⟩:=Aj (p.1);obtain⟨y0,ey⟩:=Aj (p.2);have c4:=cB (upW N) (loW N+BitVec.ofNat 32 i) wr;rw[<-ep,<-ex,<-ey] at c4;have aw:bvs (strm K (upW N) (loW N) (8*i))++eight x0 y0=bvs (strm K (upW N) (loW N) (8*(i+1))):=by rw[ex,ey,ep];exact Oe K _ _ i
   have aI:=I aw;clear aw;clear ep ex ey aC ae;refine Ah c4 ?_;rintro w5 Y;have aj:=CK HO.o Y;rw[<-EO.o] at aj;have ab:=aI.o;rw[<-EO.o] at ab;have aM:=I ab;clear ab;have av:=HB.o.below Y;have ay:=bt' af.o HS.o Y;have aB:=Nat.le_trans HS.o Y.size;have aG:=I aj;clear aj;have aQ:=I av;clear av;have aE:=I ay;clear ay;have ad:=I aB;clear aB;clear Y c4
   go_wp2_with (first | (at_builtin;refine AD _ (by rfl) (.tmp 30) (.tmp 53) 24 (by rfl) (B+1) 5 ib _ 1 Tryz.underlying24 aF aL aP aO (by rfl) (.slice A o cap) o (bvs (strm K (upW N) (loW N) o)) (by rfl) (DN aG.o (by rfl)) (w5.heap.size+1) (some ⟨w5.heap.size,0,none⟩) 8 8 (eight x0 y0) (by rfl) (by rfl) (FE w5 5 _ (eight x0 y0) (by rfl) _ rfl) (by simp [eight,Value.oneCell']) (by have:=EO.o;unfold maxLen;omega) (by have:=EO.o;omega) (by have:=ad.o;simp;omega) ?_;intro v6 w6 X M ao) | fail)
   have au:=Blk.grown (Blk.alloc aQ.o _) M (fun h=>by have:=ar.o _ _ h;omega);have aD:=Below.grown (aE.o.alloc (by have:=ad.o;omega) _) M (by have:=ad.o;simp;omega) (fun k hk=>by have:=ar.o _ _ hk;omega);have ax:=M.size;have ak:=X;rw[aM.o,show o+8=8*(i+1) by have:=EO.o;omega] at ak;have B6:=I au;clear au;have B7:=I aD;clear aD;have S7:=I ax;clear ax;have O7:=I ak;clear ak;clear X M ao
   go_wp2_with fail
   go_roundw
   case rel=>
    exact⟨i+1,by have:=EO.o;have:=HN.o;omega,by go_num,B6.o,B7.o,by have h1:=S7.o;have:=ad.o;simp at h1;omega,O7.o⟩
   case measure=>have:=EO.o;have:=HN.o;simp [intOf];omega
  ·have aS:n<=(o:Int):=by omega
   have e1:decide ((o:Int)<n)=false:=by simp;omega
   have aH:n<=(cap:Int):=by have:=EO.o;omega
   have HC:=I O;clear O
   by_cases h0:n<0
   ·go_wp2_with fail
    go_ret;have ai:m=0:=by have:=HN.o;omega
    refine⟨A,cap,by rw[ai];first | rfl | exact congrArg (fun k=>Ending.returned (Value.slice A k cap)) (show(max n 0).toNat=0 by omega),by rw[ai];exact Nat.zero_le _,?_,af.o⟩;rw[ai];exact .inl rfl
   ·have h1:(0:Int)<=n:=by omega
    go_wp2_with fail
    go_ret;refine⟨A,cap,by rw[HN.o];first | rfl | exact congrArg (fun k=>Ending.returned (Value.slice A k cap)) (show(max n 0).toNat=n.toNat by omega),by have:=HN.o;omega,?_,af.o⟩;have hr:=Rd.of_own HO.o;have ht:bvs (strm K (upW N) (loW N) m)=(bvs (strm K (upW N) (loW N) (8*i))).take m:=by
     rw[<-PB K (upW N) (loW N) m (8*i) (by have:=EO.o;have:=HN.o;omega)];simp [bvs,List.map_take]
    rw[ht];exact Rd.take hr m
end SpL
namespace Se
open Go.RowKit Ae
def hk (f:Nat->UInt8) (i j:Nat):UInt8:=if j<i then f j else 0
theorem FC (f:Nat->UInt8) (j:Nat) (M:j<16):(Sp.AN f)[j]? = some (bv (f j)):=Sp.FC f j M
theorem UB (f:Nat->UInt8) (i:Nat) (M:i<16):(Sp.AN (hk f i)).setIfInBounds i (bv (f i))=Sp.AN (hk f (i+1)):=by
 unfold Sp.AN;rw[List.setIfInBounds_toArray]
 congr 1
 apply List.ext_getElem?;intro j;rw[List.getElem?_set,List.getElem?_map,List.getElem?_map]
 by_cases hj:i=j
 ·subst hj;simp [M,hk]
 ·rw[if_neg hj]
  rcases Nat.lt_or_ge j 16 with h | h
  ·have e:(j<i)=(j<i+1):=propext ⟨by omega,by omega⟩
   simp [h,hk,e]
  ·rw[List.getElem?_eq_none (by simpa using h)];rfl
theorem XE (f:Nat->UInt8):Sp.AN (hk f 16)=Sp.AN f:=Sp.Iy fun j M=>if_pos M
theorem Ql (f:Nat->UInt8):Sp.AN (hk f 0)=Sp.AN (fun _=>0):=Sp.Iy fun j M=>rfl
theorem key32_at' (f:Nat->UInt8) (j:Nat) (M:j<32):(AW f)[j]? = some (bv (f j)):=by
 rw[AW,List.getElem?_toArray];simp [M]
theorem LN {P:Program} {fn:Func} {tmps:Array Value} {w:World} {v1 v2:Value} (t1 t2:Nat) (M X:TypeId) (a1 Z:Addr) (O:fn.results=#[.cell t1 M,.cell t2 X]) (ab:tmps.getD t1 undef=.pointer (some a1)) (Y:tmps.getD t2 undef=.pointer (some Z)) (aa:(loadVar M a1).run P w=.ok v1 w) (ad:(loadVar X Z).run P w=.ok v2 w) :
  (results fn tmps).run P w=.ok (.tuple #[v1,v2]) w:=by
 have h1:tmps[t1]?.getD undef=.pointer (some a1):=by simpa using ab
 have h2:tmps[t2]?.getD undef=.pointer (some Z):=by simpa using Y
 simp [results,O,h1,h2,asAddr,aa,ad]
theorem Qm (ks:Nat->UInt8) (w:World):Calls Tryz.prog 74 #[.agg (AW ks)] w fun e w'=>e=.returned (.tuple #[.agg (Sp.AN ks),.agg (Sp.AN (k2 ks))])/\Below w.heap.size w w':=by
 obtain⟨B,eB⟩:=Aj (w.heap.size);have EB:=I eB;have ab:Sp.AN (fun _=>0)=#[.int .u8 0,.int .u8 0,.int .u8 0,.int .u8 0,.int .u8 0,.int .u8 0,.int .u8 0,.int .u8 0,.int .u8 0,.int .u8 0,.int .u8 0,.int .u8 0,.int .u8 0,.int .u8 0,.int .u8 0,.int .u8 0]:=rfl;have HZ:=I ab;clear ab;obtain⟨kc,af⟩:=Aj (AW ks);rw[<-af];have EK:=I af;clear af;go_enter Tryz.func74,Tryz.ntmps74
 go_wp2_with fail
 rw[<-eB];clear eB
 go_loopw [6] (fun iv wr=>∃i:Nat,i<=16/\iv=.int .i64 (i:Int)/\Below B w wr/\wr.heap.size=B+5/\Blk wr B 30 kc/\Blk wr (B+1) 157 (Sp.AN (fun _=>0))/\Blk wr (B+2) 157 (Sp.AN (fun _=>0))/\Blk wr (B+3) 157 (Sp.AN (hk ks i))/\Blk wr (B+4) 157 (Sp.AN (hk (k2 ks) i))) (fun iv _=>16 - (intOf iv).toNat)
 case atStart=>
  have z1:Blk (w.alloc (.cells kc 30)) B 30 kc:=EB.o▸Blk.new w _ _;have q0:(w.alloc (.cells kc 30)).heap.size=B+1:=by rw[EB.o];simp
  have b0:Below B w (w.alloc (.cells kc 30)):=EB.o▸(Below.refl w.heap.size w).alloc Af _;have key:∀(w1:World) (n:Nat),w1.heap.size=n->Blk (w1.alloc (.cells (Sp.AN fun _=>0) 157)) n 157 (Sp.AN fun _=>0)/\(w1.alloc (.cells (Sp.AN fun _=>0) 157)).heap.size=n+1:=fun w1 n h=>⟨h▸Blk.new w1 _ _,by rw[<-h];simp⟩
  obtain⟨k1,q1⟩:=key _ _ q0;obtain⟨ai,q2⟩:=key _ _ q1;obtain⟨k3,q3⟩:=key _ _ q2;obtain⟨k4,q4⟩:=key _ _ q3;refine⟨0,by decide,rfl,?_,q4,(((z1.alloc _).alloc _).alloc _).alloc _,((k1.alloc _).alloc _).alloc _,(ai.alloc _).alloc _,?_,?_⟩
  ·exact(((b0.alloc (by have:=EB.o;simp;omega) _).alloc (by have:=EB.o;simp;omega) _).alloc (by have:=EB.o;simp;omega) _).alloc (by have:=EB.o;simp;omega) _
  ·rw[Ql];exact k3.alloc _
  ·rw[Ql];exact k4
 case round=>
  obtain⟨i,hi,rfl,hb,ah,h0,h1,h2,h3,h4⟩:=hrel;have HB:=I hb;clear hb;have HS:=I ah;clear ah
  by_cases hx:i=16
  ·subst hx
   rw[XE] at h3 h4;obtain⟨cs,Z⟩:=Aj ((List.range 16).map (fun j=>bv (ks j)));obtain⟨ds,Y⟩:=Aj ((List.range 16).map (fun j=>bv (k2 ks j)));have n3:cs.length=16:=by rw[Z];simp
   have n4:ds.length=16:=by rw[Y];simp
   have o3:∀v∈cs,v.oneCell'=true:=by rw[Z];intro v hv;obtain⟨j,_,rfl⟩:=List.mem_map.1 hv;rfl
   have o4:∀v∈ds,v.oneCell'=true:=by rw[Y];intro v hv;obtain⟨j,_,rfl⟩:=List.mem_map.1 hv;rfl
   have h3:Blk wr (B+3) 157 cs.toArray:=by rw[Z];exact h3
   have h4:Blk wr (B+4) 157 ds.toArray:=by rw[Y];exact h4
   have r3:wr.drew.rangeAt (B+1+1+1) 0 cs:=by have:=Si.Ac h3;simpa using this
   have r4:wr.drew.rangeAt (B+1+1+1+1) 0 ds:=by have:=Si.Ac h4;simpa using this
   have t1:wr.drew.there (B+1) 0 16:=by have:=Si.Am h1;rwa [Bh] at this
   have t2:wr.drew.there (B+1+1) 0 16:=by have:=Si.Am h2;rwa [Bh] at this
   have u3:(Tryz.prog.info? 157).map (·.size)=some cs.length:=by rw[n3];kernel_rfl
   have u4:(Tryz.prog.info? 157).map (·.size)=some ds.length:=by rw[n4];kernel_rfl
   have X:=Tryz.underlying157;have EC:=I Z;clear Z;have ED:=I Y;clear Y;clear h0 h1 h2 h3 h4
   go_wp2_with fail
   refine wp_region_held_drew (S:=fun w'=>w'.rangeAt (B+1+1+1) 0 cs/\w'.rangeAt (B+1+1+1+1) 0 ds/\w'.there (B+1) 0 16/\w'.there (B+1+1) 0 16) (by kernel_rfl) ⟨r3,r4,t1,t2⟩ (fun O=>?_);refine wpAnyH_take (i:=0) (v:=.agg cs.toArray) rfl (by kernel_rfl) (by kernel_rfl) (by kernel_rfl) (fun _ _ _ h=>h) (yieldsIf_load_mid (by rfl) 157 (.tmp 4) rfl (B+1+1+1) 0 rfl cs _ (fun _ h=>h.1) X rfl u3) O ?_;refine wpAnyH_take (i:=1) (v:=.agg ds.toArray) rfl (by kernel_rfl) (by kernel_rfl) (by kernel_rfl) (fun _ _ _ h=>h) (yieldsIf_load_mid (by rfl) 157 (.tmp 5) rfl (B+1+1+1+1) 0 rfl ds _ (fun _ h=>h.2.1) X rfl u4) O ?_;refine wpAnyH_ready (rs:=[2]) (by kernel_rfl) (by simp) ?_;refine AllReadyH.cons (o:=_) rfl (fun K hK=>?_) AllReadyH.nil;rw[if_pos (by rfl)];refine wp_store_mid 157 _ _ rfl (B+1) 0 cs.toArray rfl rfl (by rw[List.size_toArray,n3];exact O.2.2.1) (by rw[List.size_toArray];exact u3) (all_oneCell_toArray o3) ?_;refine hK.o _ _ ⟨World.rangeAt_setCells_apart O.1 _ _ _ (.inl (by omega)),World.rangeAt_setCells_apart O.2.1 _ _ _ (.inl (by omega)),World.there_setCells O.2.2.1 _ _ _,World.there_setCells O.2.2.2 _ _ _⟩ (fun M=>?_);clear hK K;refine wpAnyH_ready (rs:=[3]) (by kernel_rfl) (by simp) ?_;refine AllReadyH.cons (o:=_) rfl (fun K hK=>?_) AllReadyH.nil;rw[if_pos (by rfl)];refine wp_store_mid 157 _ _ rfl (B+1+1) 0 ds.toArray rfl rfl (by rw[List.size_toArray,n4];exact M.2.2.2) (by rw[List.size_toArray];exact u4) (all_oneCell_toArray o4) ?_;refine hK.o _ _ ⟨World.rangeAt_setCells_apart M.1 _ _ _ (.inl (by omega)),World.rangeAt_setCells_apart M.2.1 _ _ _ (.inl (by omega)),World.there_setCells M.2.2.1 _ _ _,World.there_setCells M.2.2.2 _ _ _⟩ (fun aa=>?_);clear hK K;refine wpAnyH_done (by kernel_rfl) ?_ _;have ad:((wr.drew.setCells (B+1) 0 cs).setCells (B+1+1) 0 ds).rangeAt (B+1) 0 cs:=World.rangeAt_setCells_apart (World.rangeAt_setCells_same _ _ _ _ (by rw[n3];exact t1)) _ _ _ (.inl (by omega));have ae:((wr.drew.setCells (B+1) 0 cs).setCells (B+1+1) 0 ds).rangeAt (B+1+1) 0 ds:=World.rangeAt_setCells_same _ _ _ _ (by rw[n4];exact M.2.2.2);have ag:Below B w ((wr.drew.setCells (B+1) 0 cs).setCells (B+1+1) 0 ds):=Si.By _ (by omega) _ _ _ (Si.By _ (by omega) _ _ _ (below_drewN HB.o 1));change Exit.then _ _ Exit.normal _ ((wr.drew.setCells (B+1) 0 cs).setCells (B+1+1) 0 ds)
   generalize (wr.drew.setCells (B+1) 0 cs).setCells (B+1+1) 0 ds=W3 at ad ae ag⊢;clear O M aa r3 r4 t1 t2;have q1:=run_loadVar_mid (P:=Tryz.prog) W3 (B+1) 0 157 cs _ ad X rfl u3;have q2:=run_loadVar_mid (P:=Tryz.prog) W3 (B+1+1) 0 157 ds _ ae X rfl u4;have Q1:=I q1;clear q1;have Q2:=I q2;clear q2;have BW:=I ag;clear ag;clear ad ae u3 u4 X n3 n4 o3 o4 h3 h4
   go_wp2_with fail
   refine bodyPost_ret (v:=.tuple #[.agg cs.toArray,.agg ds.toArray]) (LN 2 3 157 157 ⟨B+1,0,none⟩ ⟨B+1+1,0,none⟩ Tryz.results74 (by rfl) (by rfl) Q1.o Q2.o) (by rfl) ?_;exact⟨by rw[EC.o,ED.o];rfl,EB.o▸BW.o⟩
  ·have e1:(i:Int)<16:=by omega
   have e2:(0:Int)<=(i:Int):=by omega
   have e3:i<16:=by omega
   have e4:(16:Int)+(i:Int)<32:=by omega
   have e5:(0:Int)<=(16:Int)+(i:Int):=by omega
   have e6:16+i<32:=by omega
   have e7:i<32:=by omega
   obtain⟨x,ex⟩:=Aj (ks i);obtain⟨y,ey⟩:=Aj (ks (16+i));have g0:wr.cell? ⟨B,i,none⟩=some (.int .u8 (x.toNat:Int)):=by rw[h0.cell,EK.o,key32_at' ks i e7,ex];rfl
   have g1:wr.cell? ⟨B,16+i,none⟩=some (.int .u8 (y.toNat:Int)):=by rw[h0.cell,EK.o,key32_at' ks (16+i) e6,ey];rfl
   have f3:=h3.frozen;have f4:=h4.frozen;have c3:=h3.cell i;have c4:=h4.cell i;rw[FC _ _ e3] at c3 c4;simp only[bv] at c3 c4;have H0:=I h0;clear h0;have H1:=I h1;clear h1;have H2:=I h2;clear h2;have H3:=I h3;clear h3;have H4:=I h4;clear h4;have hw:IntKind.i64.wrap ((16:Int)+(i:Int))=(16:Int)+(i:Int):=by rw[IntKind.wrap_i64];omega
   have EX:=I ex;clear ex;have EY:=I ey;clear ey;have HX:=I hx;clear hx;have HI:=I hi;clear hi
   go_wp2_with fail
   go_region
   all_goals go_wp2_with fail
   all_goals
    go_roundw
    case rel=>
     have s3:=H3.o.set i (bv x);rw[EX.o,UB ks i e3,<-EX.o] at s3;have s4:=(Si.Blk.far H4.o ⟨B+3,i,none⟩ (bv x) (by simp)).set i (bv y);rw[EY.o,show ks (16+i)=k2 ks i from rfl,UB (k2 ks) i e3] at s4;refine⟨i+1,by omega,by go_num,?_,?_,?_,?_,?_,?_,?_⟩
     ·exact below_drewN (Si.AX (Si.AX HB.o (by simp;omega) _) (by simp;omega) _) 1
     ·simpa [World.setCell] using HS.o
     ·exact Si.Blk.far (Si.Blk.far H0.o ⟨B+3,i,none⟩ _ (show B+3≠B by omega)) ⟨B+4,i,none⟩ _ (show B+4≠B by omega)
     ·exact Si.Blk.far (Si.Blk.far H1.o ⟨B+3,i,none⟩ _ (show B+3≠B+1 by omega)) ⟨B+4,i,none⟩ _ (show B+4≠B+1 by omega)
     ·exact Si.Blk.far (Si.Blk.far H2.o ⟨B+3,i,none⟩ _ (show B+3≠B+2 by omega)) ⟨B+4,i,none⟩ _ (show B+4≠B+2 by omega)
     ·exact Si.Blk.far s3 ⟨B+4,i,none⟩ _ (show B+4≠B+3 by omega)
     ·exact(by have e:=s4;rw[show bv (k2 ks i)=bv y from by rw[EY.o];rfl] at e;exact e)
    case measure=>simp [intOf];omega
theorem dbig (N:Nat) (w:World) (hN:N<18446744073709551616) :
  Calls Tryz.prog 69 #[.int .u64 (N:Int)] w fun e w'=>∃v,e=.returned v/\w'.ownsRow w.heap.size 5 1 v 8 (bvs (w8 N))/\Below w.heap.size w w':=by
 obtain⟨ib,ae,af,ai,ah⟩:=info_parts Si.Cc;obtain⟨B,eB⟩:=Aj (w.heap.size);have EB:=I eB;clear eB;have HN:=I hN;clear hN;go_enter Tryz.func69,Tryz.ntmps69
 go_wp2_with fail
 go_loopw [3,4] (fun ag iv wr=>∃j:Nat,j<=8/\iv=.int .i64 (7 - (j:Int))/\wr.ownsRow B 5 1 ag j (laid [] N j)/\Below B w wr) (fun _ iv _=>(intOf iv+1).toNat)
 case atStart=>exact⟨0,by decide,rfl,⟨rfl,.inl ⟨rfl,rfl⟩⟩,Below.refl _ _⟩
 case round=>
  obtain⟨j,hj,rfl,Y,ad⟩:=hrel;have HR:=I Y;clear Y;have HW:=I ad;clear ad
  by_cases hx:j=8
  ·subst hx
   go_wp2_with fail
   go_ret;exact⟨_,rfl,by have:=HR.o;rw[Ux,List.nil_append] at this;exact EB.o▸this,EB.o▸HW.o⟩
  ·obtain⟨k,ek⟩:∃k:Nat,k=7 - j:=⟨_,rfl⟩
   obtain⟨m,em⟩:∃m:Nat,m=56 - 8*j:=⟨_,rfl⟩;have hk:(7:Int) - (j:Int)=(k:Int):=by omega
   rw[hk];have aa:j<8:=by omega
   have aj:(8:Int)*(k:Int)=(m:Int):=by omega
   have ar:m<64:=by omega
   have an:(m:Int)<64:=by omega
   have ao:(0:Int)<=(m:Int):=by omega
   have av:min m 64=m:=by omega
   have ak:(0:Int)<=(k:Int):=by omega
   have au:(k:Int)<=7:=by omega
   have Z:=KG [] N j aa;have hv:bv (UInt8.ofNat (N / 2 ^ (56 - 8*j)))=.int .u8 ((N:Int) / 2 ^ m % 256):=by
    unfold bv;rw[UInt8.toNat_ofNat',<-em];congr 1
   rw[hv] at Z;have NX:=I Z;clear Z;have EM:=I em;clear em;have EK:=I ek;clear ek;have HX:=I hx;clear hx;have HJ:=I hj;clear hj;have X:=I aa;clear aa;clear hk hv
   go_wp2_with (first | (at_builtin;refine AD _ (by rfl) (.tmp 9) (.tmp 16) 24 (by rfl) B 5 ib _ 1 Tryz.underlying24 ae af ai ah (by rfl) _ j (laid [] N j) (by rfl) (DN HR.o (by rfl)) (wr.heap.size+1) (some ⟨wr.heap.size,0,none⟩) 1 1 [.int .u8 ((N:Int) / 2 ^ m % 256)] (by rfl) (by rfl) (Si.FE wr 5 _ [.int .u8 ((N:Int) / 2 ^ m % 256)] (by rfl) _ rfl) (by simp [Value.oneCell']) (by have:=X.o;unfold maxLen;omega) (by have:=X.o;omega) (by have:=EB.o;have:=HW.o.size;simp;omega) ?_;intro v6 w6 O M ab;have O6:=I O;have G6:=I M;clear O M ab) | fail)
   go_roundw
   case rel=>
    refine⟨j+1,by have:=X.o;omega,?_,by rw[<-NX.o];exact O6.o,?_⟩
    ·exact congrArg (Value.int .i64) (by have:=EK.o;have:=X.o;omega)
    ·exact(HW.o.alloc (by have:=EB.o;have:=HW.o.size;omega) _).grown G6.o (by have:=EB.o;have:=HW.o.size;simp;omega) (fun q hq=>(HR.o.lt q hq).1)
   case measure=>simp [intOf]
theorem Qn (ks:Nat->UInt8) (u n:Nat) (p:List UInt8) (i:Nat) (h:i<p.length) (M:i<(Di ks u n p.length).length):bvs ((mixL ks u n p).take i)++[bv (p[i] ^^^ (Di ks u n p.length)[i])]=bvs ((mixL ks u n p).take (i+1)):=by
 rw[List.take_add_one,PZ ks u n p i h M,BI];rfl
theorem XF (y x:UInt8):bits .xor .u8 (y.toNat:Int) (x.toNat:Int)=((y ^^^ x).toNat:Int):=by
 rw[u8_xor_nat _ _ y.toNat_lt x.toNat_lt,UInt8.toNat_xor]
def twoW (w1:World) (z:Array Value) (t:TypeId) (cs ds:Array Value):World:=(((w1.alloc (.cells z t)).alloc (.cells z t)).setCells w1.heap.size 0 cs.toList).setCells (w1.heap.size+1) 0 ds.toList
theorem Jo (M:World) (z:Array Value) (t:TypeId) (cs ds:Array Value) (X:z.size=cs.size) (Z:z.size=ds.size) :
  (twoW M z t cs ds).rangeAt M.heap.size 0 cs.toList/\(twoW M z t cs ds).rangeAt (M.heap.size+1) 0 ds.toList/\Below M.heap.size M (twoW M z t cs ds)/\M.heap.size+2<=(twoW M z t cs ds).heap.size:=by
 have O:((M.alloc (.cells z t)).alloc (.cells z t)).there M.heap.size 0 cs.toList.length:=by
  have:=World.there_alloc (Si.Am (Blk.new M t z)) (.cells z t)
  rwa [X,<-Array.length_toList] at this
 have Y:((M.alloc (.cells z t)).alloc (.cells z t)).there (M.heap.size+1) 0 ds.toList.length:=by
  have:=Si.Am (Si.Blk.new_of (M.alloc (.cells z t)) (M.heap.size+1) t z z rfl (by simp))
  rwa [Z,<-Array.length_toList] at this
 refine⟨World.rangeAt_setCells_apart (World.rangeAt_setCells_same _ _ _ _ O) _ _ _ (.inl (by omega)),World.rangeAt_setCells_same _ _ _ _ (World.there_setCells Y _ _ _),?_,?_⟩
 ·exact Si.By _ (by omega) _ _ _ (Si.By _ Af _ _ _ ((Ag.alloc Af _).alloc (by simp) _))
 ·unfold twoW;rw[SpL.Ei,SpL.Ei];simp
theorem dmix (ks:Nat->UInt8) (u n:Nat) (A:Option Addr) (m c:Nat) (p:List UInt8) (w:World) (hu:u<=255) (hn:n<18446744073709551616) (hm:m=p.length) (ax:m<=1000) (hr:Rd w w.heap.size A (bvs p)) :
  Calls Tryz.prog 39 #[.agg (AW ks),.int .i64 (u:Int),.int .u64 (n:Int),.slice A m c] w fun e w'=>∃v,e=.returned v/\w'.ownsRow w.heap.size 5 1 v m (bvs (mixL ks u n p))/\Below w.heap.size w w':=by
 obtain⟨ib,bb,bh,bn,bm⟩:=info_parts Si.Cc;obtain⟨B,eB⟩:=Aj (w.heap.size);obtain⟨N,eN⟩:=Aj (sn u n);have aB:=Qf u n hu;have Y:=Xx u n hu;have X:=Xy u n;rw[<-eN] at aB Y X;have bw:(u:Int) % 18446744073709551616=(u:Int):=by omega
 have aw:Sp.strm (Sp.kw ks) (Sp.upW N) (Sp.loW N) m=Di ks u n m:=by rw[eN];rfl
 have ch:=fun O=>Qm ks O
 have cw:=fun O=>Sp.Xf ks O
 have ah:=fun O=>SpL.VO (Sp.kw ks) N m (m:Int) O X ax (by simp)
 rw[aw] at ah;have i32:=MS ks;have i16:=IH ks;have aa:=IH (k2 ks);have aA:=Qd ks;have Z:=Qd (k2 ks);have az:=Bh ks;have ad:=Bh (k2 ks);obtain⟨kc,aN⟩:=Aj (AW ks);obtain⟨cs,aT⟩:=Aj (Sp.AN ks);obtain⟨ds,aH⟩:=Aj (Sp.AN (k2 ks));obtain⟨xs,aW⟩:=Aj (Sp.Bb (Sp.kw ks));rw[<-aN] at ch i32⊢;rw[<-aT] at ch cw i16 aA az;rw[<-aH] at ch aa Z ad;rw[<-aW] at cw ah;have hz:Sp.AN (fun _=>0)=#[.int .u8 0,.int .u8 0,.int .u8 0,.int .u8 0,.int .u8 0,.int .u8 0,.int .u8 0,.int .u8 0,.int .u8 0,.int .u8 0,.int .u8 0,.int .u8 0,.int .u8 0,.int .u8 0,.int .u8 0,.int .u8 0]:=rfl;have EB:=I eB;have HR:=I (eB▸hr);clear hr;have HM:=I hm;clear hm;have q3:(m:Int)<=1000:=by omega
 have aG:=I ax;clear ax;have bp:=I i32;clear i32;have aU:=I i16;clear i16;have aS:=I aa;clear aa;have bd:=I aA;clear aA;have aY:=I Z;clear Z;have aO:=I az;clear az;have ar:=I ad;clear ad;have HZ:=I hz;clear hz;have bq:=I ah;clear ah;have bg:=I aB;clear aB;have aI:=I Y;have aZ:Hid (((n:Int)*256+(u:Int)) % 18446744073709551616=(N:Int)):=by rw[<-Y];show _=_;omega
 have aK:Hid (IntKind.u64.wrap (IntKind.u64.wrap ((n:Int)*256)+(u:Int))=(N:Int)):=by rw[IntKind.wrap_u64,IntKind.wrap_u64];omega
 clear Y;have h0:Blk (w.alloc (.cells kc 30)) B 30 kc:=eB▸Blk.new w _ _;have aj:Below B w (w.alloc (.cells kc 30)):=eB▸(Below.refl w.heap.size w).alloc Af _;have H0:=I h0;clear h0;have bf:=I aj;clear aj;clear hu hn aw X eN aN aT aH aW eB;go_enter Tryz.func39,Tryz.ntmps39
 go_upto_region 2 with(first
  |(refine Ad (by rfl) 30 (.tmp 4) (by rfl) w.heap.size 0 (by rfl) kc _ (Si.Ac (Blk.new w 30 kc)) Tryz.underlying30 (by rfl) bp.o ?_)
  |(go_at_call 74;refine Ah (ch _) ?_;rintro O af;clear ch;have af:=bf.o.trans (af.mono (by have:=EB.o;simp;omega));have H1:=I af;clear af)
  |(refine wpList_store_mid (by rfl) 157 (.tmp 9) (.tmp 17) (by rfl) O.heap.size 0 cs (by rfl) (by rfl) (by rw[aO.o];exact World.there_alloc (by have:=Si.Am (Blk.new O 157 (Sp.AN fun _=>0));rwa [Bh] at this) _) aU.o bd.o ?_)
  |(refine wpList_store_mid (by rfl) 157 (.tmp 10) (.tmp 18) (by rfl) (O.heap.size+1) 0 ds (by rfl) (by rfl) (by rw[ar.o];exact World.there_setCells (by have:=Si.Am (Si.Blk.new_of (O.alloc (.cells (Sp.AN fun _=>0) 157)) (O.heap.size+1) 157 _ (Sp.AN fun _=>0) rfl (by simp));rwa [Bh] at this) _ _ _) aS.o aY.o ?_)
  |fail)
 have h2:=Jo O (Sp.AN fun _=>0) 157 cs ds (by rw[Bh,aO.o]) (by rw[Bh,ar.o]);change Code.wp _ _ _ _ (twoW O (Sp.AN fun _=>0) 157 cs ds);generalize twoW O (Sp.AN fun _=>0) 157 cs ds=W2 at h2⊢;have ab:=H1.o.trans (h2.2.2.1.mono (by have:=H1.o.size;have:=EB.o;omega));have aM:=I ab;clear ab;have bj:=I h2.1;clear h2;have ba:=cw W2;clear cw
 go_wp2_with (first
  |(refine Ad (by rfl) 157 (.tmp 9) (by rfl) O.heap.size 0 (by rfl) cs _ bj.o Tryz.underlying157 (by rfl) aU.o ?_)
  |(go_at_call 77;refine Ah ba ?_;rintro w3 ag;clear ba;have ag:=aM.o.trans (ag.mono (by have:=aM.o.size;have:=EB.o;omega));have c4:=bq.o w3;have H3:=I ag;clear ag)
  |(go_at_call 76;(first | rw[aI.o] | rw[bg.o] | rw[aZ.o] | rw[aK.o]);refine Calls.mono c4 ?_;rintro e w5 ⟨As,sc,rfl,bu,aV,ai⟩;clear c4;have ai:=H3.o.trans (ai.mono (by have:=H3.o.size;have:=EB.o;omega));have H5:=I ai;have RS:=I aV;clear ai aV)
  |fail)
 obtain⟨N0,aX⟩:=Aj (w5.heap.size);have EN:=I aX;clear aX;have aL:(Di ks u n m).length=m:=BS ks u n m;have bx:=I aL;clear aL
 go_loopw [12,13] (fun bl iv wr=>∃i:Nat,i<=m/\iv=.int .i64 (i:Int)/\wr.ownsRow N0 5 1 bl i (bvs ((mixL ks u n p).take i))/\Below N0 w5 wr) (fun _ iv _=>m - (intOf iv).toNat)
 case atStart=>exact⟨0,Nat.zero_le _,rfl,⟨rfl,.inl ⟨rfl,rfl⟩⟩,Below.refl _ _⟩
 case round=>
  obtain⟨i,hi,rfl,av,aJ⟩:=hrel;have HO:=I av;clear av;have HW:=I aJ;clear aJ
  by_cases hx:i=m
  ·subst hx
   go_wp2_with fail
   go_ret;have h9:=HO.o;rw[List.take_of_length_le (by rw[BA,HM.o];exact Nat.le_refl _)] at h9;refine⟨_,rfl,h9.mono (by have:=EN.o;have:=H5.o.size;omega),?_⟩;rw[<-EB.o];exact H5.o.trans (HW.o.mono (by have:=EN.o;have:=H5.o.size;have:=EB.o;omega))
  ·have aD:i<m:=by omega
   have aF:i<p.length:=by have:=HM.o;omega
   have e1:(i:Int)<(m:Int):=by omega
   have e2:(0:Int)<=(i:Int):=by omega
   have e3:(i:Int)<1000:=by omega
   have aQ:i<(Di ks u n p.length).length:=by rw[BS];exact aF
   have an:i<(Di ks u n m).length:=by rw[BS];exact aD
   obtain⟨y,ey⟩:=Aj (p[i]);obtain⟨x,ex⟩:=Aj ((Di ks u n p.length)[i]);obtain⟨z,ez⟩:=Aj (y ^^^ x);obtain⟨b1,o1,rfl,ak,aE⟩:=HR.o.at_ (DT aF);obtain⟨b2,o2,rfl,aR,aC⟩:=RS.o.at_ (DT an);rw[<-ey] at aE;have hex:(Di ks u n m)[i]=x:=by
    rw[ex];have:=HM.o;subst this
    rfl
   rw[hex] at aC;have au:b1<N0:=by have:=EN.o;have:=H5.o.size;have:=EB.o;omega
   have ao:b2<N0:=by have:=EN.o;omega
   have d1:wr.cell? ⟨b1,o1+i,none⟩=some (.int .u8 (y.toNat:Int)):=(HW.o.cell (p:=⟨b1,o1+i,none⟩) au).trans ((H5.o.cell (p:=⟨b1,o1+i,none⟩) ak).trans aE);have d2:wr.cell? ⟨b2,o2+i,none⟩=some (.int .u8 (x.toNat:Int)):=(HW.o.cell (p:=⟨b2,o2+i,none⟩) ao).trans aC;have bs:bits .xor .u8 (y.toNat:Int) (x.toNat:Int)=(z.toNat:Int):=by rw[ez];exact XF y x
   have ay:=Qn ks u n p i aF aQ;rw[<-ey,<-ex,<-ez] at ay;have NX:=I ay;clear ay;have HX:=I hx;clear hx;have HI:=I hi;clear hi;clear ey ex ez aE aC hex aQ an ak aR au ao
   go_wp2_with fail
   go_region_law (refine step_append_lies _ (by rfl) (.tmp 35) (.tmp 45) 24 (by rfl) N0 5 ib _ 1 1 Tryz.underlying24 bb bh bn bm (by rfl) (by decide) u12 i (bvs ((mixL ks u n p).take i)) (by rfl) (DN HO.o (by rfl)) ⟨wr.heap.size,0,none⟩ 1 1 [.int .u8 (z.toNat:Int)] (by rfl) (by rfl) (Sp.Ky (by rfl)) (by simp [Value.oneCell']) (by decide) (by have:=HI.o;have:=aG.o;unfold maxLen;omega) (by have:=HI.o;have:=aG.o;omega) (by have:=EN.o;have:=HW.o.size;simp;omega) (wr.heap.size+1) (by simp) ?_;intro g2 br w2 ae M bo aD)
   all_goals (
    have aP:(wr.alloc (.cells #[.int .u8 (z.toNat:Int)] 5)).grownBy w2 u12.ownBlock:=⟨M.os,M.tape,M.output,M.size,M.block⟩;have ab:=(HW.o.alloc (by have:=EN.o;have:=HW.o.size;omega) (Obj.cells #[.int .u8 (z.toNat:Int)] 5)).grown aP (by have:=EN.o;have:=HW.o.size;simp;omega) (fun q hq=>(HO.o.lt q hq).1);have O6:=I ae;clear ae;have B6:=I ab;clear ab;clear M bo aD aP d1 d2
    go_wp2_with fail
    go_roundw
    case rel=>exact⟨i+1,by omega,by go_num,by rw[<-NX.o];exact O6.o,B6.o⟩
    case measure=>simp [intOf];omega)
theorem Gb {w w':World} {b o:Nat} {cs:List Value} {row:Option Nat} (h:w.rangeAt b o cs) (Y:b<w.heap.size) (X:w.grownBy w' row) (O:row≠some b):w'.rangeAt b o cs:=fun j v M=>
 (World.cell?_of_block (a:=⟨b,o+j,none⟩) (X.block b Y (fun e=>O e.symm))).trans (h j v M)
theorem Ej {w w':World} {b o:Nat} {cs:List Value} (h:w.rangeAt b o cs) (O:b<w.heap.size) (M:Below w.heap.size w w'):w'.rangeAt b o cs:=Gb h O (Bz M none) (by simp)
theorem dtag (ks:Nat->UInt8) (u:Nat) (A:Option Addr) (m c:Nat) (l:List UInt8) (w:World) (hu:u<=255) (hm:m=l.length) (aO:m<=1000) (hr:Rd w w.heap.size A (bvs l)) :
  Calls Tryz.prog 38 #[.agg (AW ks),.int .i64 (u:Int),.slice A m c] w fun e w'=>∃v,e=.returned v/\w'.ownsRow w.heap.size 5 1 v 8 (bvs (w8 (tagL ks u l)))/\Below w.heap.size w w':=by
 obtain⟨ib,aY,bj,bo,bn⟩:=info_parts Si.Cc;obtain⟨B,eB⟩:=Aj (w.heap.size);have ch:=fun O=>Qm ks O
 have i32:=MS ks;have i16:=IH ks;have Z:=IH (k2 ks);have ax:=Qd ks;have af:=Qd (k2 ks);have aw:=Bh ks;have ai:=Bh (k2 ks);obtain⟨T,eT⟩:=Aj (tagL ks u l);have aD:T<18446744073709551616:=by rw[eT];exact LI _ _ _
 have ab:=fun(w4:World) (A4:Option Addr) (c4:Nat) (h1:1+m<=c4) (h2:c4<=maxLen) (h3:Rd w4 w4.heap.size A4 (bvs (UInt8.ofNat u :: l)))=>Si.SF (k2 ks) A4 (1+m) c4 (UInt8.ofNat u :: l) w4 (by rw[List.length_cons,hm,Nat.add_comm]) (by omega) h1 h2 h3
 have hT:∀e,e=Ending.returned (Si.wv (Si.GY (k2 ks) (UInt8.ofNat u :: l)))->e=.returned (.int .u64 (T:Int)):=fun e h=>by rw[h,eT];rfl
 have aB:[Value.int .u8 (u:Int)]++bvs l=bvs (UInt8.ofNat u :: l):=by
  show [Value.int .u8 (u:Int)]++bvs l=bv (UInt8.ofNat u) :: bvs l;rw[Uy u hu];rfl
 obtain⟨kc,aT⟩:=Aj (AW ks);obtain⟨cs,aR⟩:=Aj (Sp.AN ks);have bb:∃dl:List Value,dl.toArray=Sp.AN (k2 ks):=⟨_,rfl⟩;obtain⟨dl,aC⟩:=bb;obtain⟨L,eL⟩:=Aj (UInt8.ofNat u :: l);rw[<-aT] at ch i32⊢;rw[<-aR] at ch i16 ax aw;rw[<-aC] at ch Z af ai;have aE:Si.AN (k2 ks)=Sp.AN (k2 ks):=rfl;rw[aE,<-aC] at ab;rw[<-eL] at ab hT aB;rw[<-eT];have u16:(Tryz.prog.info? 157).map (·.size)=some dl.length:=by rw[<-List.size_toArray];exact Z
 have ag:=Tryz.underlying157;have bu:(u:Int)<=255:=by omega
 have bs:(0:Int)<=(u:Int):=by omega
 have bg:(u:Int) % 256=(u:Int):=by omega
 have bw:IntKind.u8.wrap (u:Int)=(u:Int):=by rw[IntKind.wrap_u8'];exact bg
 have EB:=I eB;have HR:=I (eB▸hr);clear hr;have HM:=I hm;clear hm;have q3:(m:Int)<=1000:=by omega
 have aJ:=I aO;clear aO;have ba:=I i32;clear i32;have bh:=I i16;clear i16;have aM:=I Z;clear Z;have aZ:=I ax;clear ax;have aV:=I af;clear af;have aW:=I aw;clear aw;have ao:=I ai;clear ai;have aI:=I ab;clear ab;have HT:=I hT;clear hT;have br:=I aB;clear aB;have TL:=I aD;clear aD;have bl:=I u16;clear u16;have aG:=I ag;clear ag;have ar:Below B w (w.alloc (.cells kc 30)):=eB▸(Below.refl w.heap.size w).alloc Af _;have bd:=I ar;clear ar;clear hu aT aR aC eT eL aE eB;go_enter Tryz.func38,Tryz.ntmps38
 go_upto_region 2 with(first
  |(refine Ad (by rfl) 30 (.tmp 3) (by rfl) w.heap.size 0 (by rfl) kc _ (Si.Ac (Blk.new w 30 kc)) Tryz.underlying30 (by rfl) ba.o ?_)
  |(go_at_call 74;refine Ah (ch _) ?_;rintro O an;clear ch;have an:=bd.o.trans (an.mono (by have:=EB.o;simp;omega));have H1:=I an;clear an)
  |(refine wpList_store_mid (by rfl) 157 (.tmp 7) (.tmp 12) (by rfl) O.heap.size 0 cs (by rfl) (by rfl) (by rw[aW.o];exact World.there_alloc (by have:=Si.Am (Blk.new O 157 (Sp.AN fun _=>0));rwa [Bh] at this) _) bh.o aZ.o ?_)
  |(refine wpList_store_mid (by rfl) 157 (.tmp 8) (.tmp 13) (by rfl) (O.heap.size+1) 0 dl.toArray (by rfl) (by rfl) (by rw[ao.o];exact World.there_setCells (by have:=Si.Am (Si.Blk.new_of (O.alloc (.cells (Sp.AN fun _=>0) 157)) (O.heap.size+1) 157 _ (Sp.AN fun _=>0) rfl (by simp));rwa [Bh] at this) _ _ _) aM.o aV.o ?_)
  |fail)
 have h2:=Jo O (Sp.AN fun _=>0) 157 cs dl.toArray (by rw[Bh,aW.o]) (by rw[Bh,ao.o]);change Code.wp _ _ _ _ (twoW O (Sp.AN fun _=>0) 157 cs dl.toArray);generalize twoW O (Sp.AN fun _=>0) 157 cs dl.toArray=W2 at h2⊢;have aL:=H1.o.trans (h2.2.2.1.mono (by have:=H1.o.size;have:=EB.o;omega));have aP:Hid (Below B w W2.drew):=below_drewN aL 1;have ay:W2.drew.rangeAt (O.heap.size+1) 0 dl:=by have:=h2.2.1;simpa using this
 have bq:=I (show O.heap.size+2<=W2.drew.heap.size from h2.2.2.2);clear h2 aL;have ag:=aG.o;have u16:=bl.o;simp only[Act.put];have bf:Hid ((W2.alloc (.cells #[.int .u8 (u:Int)] 5)).drew.ownsRow W2.heap.size 5 1 (.slice (some ⟨W2.heap.size,0,none⟩) 1 1) 1 [.int .u8 (u:Int)]):=World.ownsRow_lit (base:=W2.heap.size) (e:=5) (size:=1) W2.drew #[.int .u8 (u:Int)] 1 Af (by decide) (by rfl);have az:B<=W2.drew.heap.size:=by have:=aP.o.size;have:=EB.o;omega
 have aH:Hid (Below B w (W2.alloc (.cells #[.int .u8 (u:Int)] 5)).drew):=aP.o.alloc az (.cells #[.int .u8 (u:Int)] 5);have bm:Hid (Rd (W2.alloc (.cells #[.int .u8 (u:Int)] 5)).drew B A (bvs l)):=HR.o.below aH.o;have ak:(W2.alloc (.cells #[.int .u8 (u:Int)] 5)).drew.rangeAt (O.heap.size+1) 0 dl:=World.rangeAt_alloc ay (.cells #[.int .u8 (u:Int)] 5);have X:Hid ((W2.alloc (.cells #[.int .u8 (u:Int)] 5)).drew.heap.size=W2.heap.size+1):=by show(W2.alloc _).heap.size=_;simp
 have aa:Hid (O.heap.size+2<=W2.heap.size):=bq.o;have aF:Hid (B<=W2.heap.size):=az;clear az
 go_region_held3 (fun w'=>w'.rangeAt (O.heap.size+1) 0 dl) (first | exact ay | exact ak | exact av | exact aA | exact aS) (first
  |(rw[if_pos (by rfl)];refine Ff _ (.tmp 17) (.tmp 18) 24 (by rfl) W2.heap.size 5 ib _ 1 Tryz.underlying24 aY bj bo bn (by rfl) _ 1 [.int .u8 (u:Int)] (by rfl) bf.o B A m c (bvs l) (by rfl) (by rw[AB];exact HM.o) bm.o (BK _) (by have:=aJ.o;unfold maxLen;omega) (by have:=aJ.o;omega) (by have:=X.o;omega) ?_;intro v4 w4 Y M aU;rw[br.o] at Y;have av:w4.rangeAt (O.heap.size+1) 0 dl:=Gb ak (by have:=X.o;have:=aa.o;omega) M (by have:=aa.o;simp [Value.ownBlock];omega);have aX:Below B w w4:=aH.o.grown M (by have:=X.o;have:=aF.o;omega) (fun k hk=>by have:=aF.o;simp [Value.ownBlock] at hk;omega);obtain⟨A4,c4,bp,aQ,aK,aN⟩:=Ga (S:=fun _=>False) Y (fun _ _ x=>x);subst bp;have ah:=aI.o w4 A4 c4 aQ aK aN.rd;have H4:=I aX;have Z4:=I M.size;clear Y M aU aX aQ aK aN)
  |(go_at_call 75;refine Calls.mono ah ?_;rintro e w5 ⟨he,ad⟩;have he:=HT.o e he;subst he;clear ah;have aA:w5.rangeAt (O.heap.size+1) 0 dl:=Ej av (by have:=Z4.o;have:=X.o;have:=aa.o;omega) ad;have Z5:=I ad.size;have ad:=H4.o.trans (ad.mono (by have:=H4.o.size;have:=EB.o;omega));have au:=dbig T w5 TL.o;have H5:=I ad;clear ad)
  |(go_at_call 69;refine Calls.mono au ?_;rintro e w6 ⟨v6,rfl,ae,aj⟩;clear au;have aS:w6.rangeAt (O.heap.size+1) 0 dl:=Ej aA (by have:=Z4.o;have:=Z5.o;have:=X.o;have:=aa.o;omega) aj;have aj:=H5.o.trans (aj.mono (by have:=H5.o.size;have:=EB.o;omega));have H6:=I aj;have O6:=I ae;have Z6:=I H5.o.size;clear aj ae))
 all_goals (
  clear ay ak av aA aS
  go_wp2_with fail
  go_ret;exact⟨_,rfl,O6.o.mono (by have:=Z6.o;have:=EB.o;omega),EB.o▸H6.o⟩)
theorem Qo (ks:Nat->UInt8) (u n:Int) (A:Option Addr) (m c:Nat) (w:World) (hx:¬(0<=u/\u<=255/\0<=n/\n<=1099511627776/\m<=784)) :
  Calls Tryz.prog 31 #[.agg (AW ks),.int .i64 u,.int .i64 n,.slice A m c] w fun e w'=>e=.returned (.tuple #[.slice none 0 0,.int .i64 1])/\Below w.heap.size w w':=by
 obtain⟨Z,M⟩:=Aj (AW ks);rw[<-M];have t:(decide (u<0)=true)\/(decide (u<0)=false/\decide (255<u)=true)\/(decide (u<0)=false/\decide (255<u)=false/\decide (n<0)=true)\/(decide (u<0)=false/\decide (255<u)=false/\decide (n<0)=false/\decide (1099511627776<n)=true)\/(decide (u<0)=false/\decide (255<u)=false/\decide (n<0)=false/\decide (1099511627776<n)=false/\decide (784<(m:Int))=true):=by
  simp only[decide_eq_true_eq,decide_eq_false_iff_not];omega
 have HB:=I ((Below.refl w.heap.size w).alloc Af (.cells Z 30));clear hx M;rcases t with O | ⟨O,X⟩ | ⟨O,X,Y⟩ | ⟨O,X,Y,t4⟩ | ⟨O,X,Y,t4,t5⟩<;>(
  go_enter Tryz.func31,Tryz.ntmps31
  go_wp2
  go_ret2
  exact⟨rfl,HB.o⟩)
theorem Qp (ks:Nat->UInt8) (u n:Nat) (A:Option Addr) (m c:Nat) (p:List UInt8) (w:World) (hu:u<=255) (hn:n<=1099511627776) (hm:m=p.length) (ao:m<=784) (hr:Rd w w.heap.size A (bvs p)) :
  Calls Tryz.prog 31 #[.agg (AW ks),.int .i64 (u:Int),.int .i64 (n:Int),.slice A m c] w fun e w'=>∃A2 c2,e=.returned (.tuple #[.slice A2 (m+16) c2,.int .i64 0])/\RdA (fun i=>i<w.heap.size) w' A2 (bvs (Dm ks u n p))/\Below w.heap.size w w'/\m+16<=c2/\c2<=maxLen:=by
 obtain⟨ib,aE,aJ,aP,aO⟩:=info_parts Si.Cc;obtain⟨B,eB⟩:=Aj (w.heap.size);have ae:=fun(w1:World) (h1:Rd w1 w1.heap.size A (bvs p))=>dmix ks u n A m c p w1 hu (by omega) hm (by omega) h1
 have ah:=fun(w1:World)=>dbig n w1 (by omega)
 obtain⟨L,eL⟩:=Aj (Et ks u n p);have ar:bvs (w8 n)++bvs (mixL ks u n p)=bvs L:=by rw[eL,Et,BI]
 have bd:8+m=L.length:=by rw[eL,BX,<-hm]
 have ab:=fun(w1:World) (A1:Option Addr) (c1:Nat) (h1:Rd w1 w1.heap.size A1 (bvs L))=>dtag ks u A1 (8+m) c1 L w1 hu bd (by omega) h1
 have ak:bvs L++bvs (w8 (tagL ks u L))=bvs (Dm ks u n p):=by rw[eL,<-BI];rfl
 have aB:(bvs (mixL ks u n p)).length=m:=by rw[AB,BA,hm]
 obtain⟨M,eM⟩:=Aj (bvs (mixL ks u n p));obtain⟨W8,aL⟩:=Aj (bvs (w8 n));obtain⟨T8,av⟩:=Aj (bvs (w8 (tagL ks u L)));have oM:∀v∈M,v.oneCell'=true:=eM▸BK _;have oT:∀v∈T8,v.oneCell'=true:=av▸BK _;have aF:T8.length=8:=by rw[av,AB,Dh]
 rw[<-eM] at ae ar aB;rw[<-aL] at ah ar;rw[<-av] at ab ak;have bm:∃kl:List Value,kl.toArray=AW ks:=⟨_,rfl⟩;obtain⟨kl,aw⟩:=bm;have u32:(Tryz.prog.info? 30).map (·.size)=some kl.length:=by rw[<-List.size_toArray,aw];exact MS ks
 have aZ:=Tryz.underlying30;rw[<-aw] at ae ab⊢;have q1:(n:Int)<=1099511627776:=by omega
 have q2:(0:Int)<=(n:Int):=by omega
 have q3:(m:Int)<=784:=by omega
 have q4:IntKind.u64.wrap (n:Int)=(n:Int):=by rw[IntKind.wrap_u64];omega
 have q5:(n:Int) % 18446744073709551616=(n:Int):=by omega
 have t1:decide ((u:Int)<0)=false:=by simp
 have t2:decide (255<(u:Int))=false:=by simp;omega
 have t3:decide ((n:Int)<0)=false:=by simp
 have t4:decide (1099511627776<(n:Int))=false:=by simp;omega
 have t5:decide (784<(m:Int))=false:=by simp;omega
 have EB:=I eB;have HR:=I (eB▸hr);clear hr;have an:=I ao;clear ao;have aG:=I ae;clear ae;have aN:=I ah;clear ah;have aK:=I ab;clear ab;have bf:=I ar;clear ar;have aW:=I ak;clear ak;have bq:=I aB;clear aB;have bj:=I aF;clear aF;have OM:=I oM;clear oM;have OT:=I oT;clear oT;have az:(w.alloc (.cells kl.toArray 30)).drew.rangeAt w.heap.size 0 kl:=by have:=Si.Ac (Blk.new w 30 kl.toArray);simpa using this
 have bg:Hid (Below B w (w.alloc (.cells kl.toArray 30)).drew):=eB▸below_drewN ((Below.refl w.heap.size w).alloc Af _) 1;have au:Hid ((w.alloc (.cells kl.toArray 30)).drew.heap.size=B+1):=by show(w.alloc _).heap.size=_;simp [eB]
 have cb:=aN.o (w.alloc (.cells kl.toArray 30)).drew;clear hu hn hm bd eM aL av aw eB eL;go_enter Tryz.func31,Tryz.ntmps31
 go_upto_region 3 with fail
 go_region_held3 (fun w'=>w'.rangeAt w.heap.size 0 kl) (first | exact az | exact ay | exact ax | exact aA) (first
  |(rw[if_pos (by rfl)];refine Ff _ (.tmp 32) (.tmp 38) 24 (by rfl) (B+1) 5 ib _ 1 Tryz.underlying24 aE aJ aP aO (by rfl) v1 8 W8 (by rfl) O2.o w2.heap.size A2 m c2 M (by rfl) bq.o.symm R2.o OM.o (by have:=an.o;unfold maxLen;omega) (by have:=an.o;omega) (by have:=Z2.o;omega) ?_;intro v3 w3 Y O aD;rw[bf.o] at Y;have aA:w3.rangeAt w.heap.size 0 kl:=Gb ax (by have:=Z2.o;have:=EB.o;omega) O (fun hx=>by have:=Fk O2.o _ hx;have:=EB.o;omega);have aI:Below B w w3:=H2.o.grown O (by have:=Z2.o;omega) (fun k hk=>by have:=Fk O2.o _ hk;omega);obtain⟨A3,c3,bz,bs,bl,ba⟩:=Ga (S:=fun _=>False) Y (fun _ _ x=>x);subst bz;have ct:=aK.o w3 A3 c3 ba.rd;have H3:=I aI;have O3:=I Y;have Z3:=I (Nat.le_trans Z2.o O.size);clear Y O aD aI bs bl ba)
  |(go_at_call 69;refine Calls.mono cb ?_;rintro e w1 ⟨v1,rfl,ag,Z⟩;clear cb;have ay:w1.rangeAt w.heap.size 0 kl:=Ej az (by have:=au.o;have:=EB.o;omega) Z;have aS:B+1<=w1.heap.size:=by{have:=au.o;have:=Z.size;omega};have Z:=bg.o.trans (Z.mono (by have:=au.o;omega));have cm:=aG.o w1 ((HR.o.below Z).more (by omega));have H1:=I Z;have O1:=I (ag.mono (base':=B+1) (by have:=au.o;omega));have Z1:=I aS;clear Z ag aS)
  |(go_at_call 39;refine Calls.mono cm ?_;rintro e w2 ⟨v2,rfl,aj,aa⟩;clear cm;have ax:w2.rangeAt w.heap.size 0 kl:=Ej ay (by have:=Z1.o;have:=EB.o;omega) aa;have bb:B+1<=w2.heap.size:=Nat.le_trans Z1.o aa.size;have aM:=CK O1.o aa;obtain⟨A2,c2,bx,bp,ao,aH⟩:=Ga (S:=fun _=>False) aj (fun _ _ x=>x);subst bx;have aa:=H1.o.trans (aa.mono (by have:=Z1.o;omega));have H2:=I aa;have O2:=I aM;have Z2:=I bb;have R2:=I aH.rd;clear aa aj bb aM bp ao aH))
 all_goals (
  have bw:Hid (w3.rangeAt w.heap.size 0 kl.toArray.toList):=aA;have bu:Hid ((Tryz.prog.info? 30).map (·.size)=some kl.toArray.size):=by rw[List.size_toArray];exact u32
  clear az ay ax aA u32 aZ Z aa
  go_wp2_with (first
   |(refine Ad (by rfl) 30 (.tmp 4) (by rfl) w.heap.size 0 (by rfl) kl.toArray _ bw.o Tryz.underlying30 (by rfl) bu.o ?_)
   |(go_at_call 38;refine Calls.mono ct ?_;rintro e w4 ⟨v4,rfl,ai,af⟩;clear ct;have aY:=CK O3.o af;have aQ:=Nat.le_trans Z3.o af.size;have af:=H3.o.trans (af.mono (by have:=Z3.o;omega));obtain⟨A4,c4,bn,bh,br,aU⟩:=Ga (S:=fun _=>False) ai (fun _ _ x=>x);subst bn;have H4:=I af;have O4:=I aY;have Z4:=I aQ;have R4:=I aU.rd;clear af ai aY aQ bh br aU)
   |(at_builtin;refine AD _ (by rfl) (.tmp 40) (.tmp 44) 24 (by rfl) (B+1) 5 ib _ 1 Tryz.underlying24 aE aJ aP aO (by rfl) _ (8+m) (bvs L) (by rfl) O4.o w4.heap.size A4 8 c4 T8 (by rfl) bj.o.symm R4.o OT.o (by have:=an.o;unfold maxLen;omega) (by have:=an.o;omega) (by have:=Z4.o;omega) ?_;intro v5 w5 X ad aX;rw[aW.o] at X;have aV:=H4.o.grown ad (by have:=Z4.o;omega) (fun k hk=>by have:=Fk O4.o k hk;omega);obtain⟨A5,c5,bo,aR,aT,aC⟩:=Ga (S:=fun i=>i<w.heap.size) X (fun k hk hx=>by have:=Fk X k hk;have:=EB.o;omega);subst bo;have H5:=I aV;have R5:=I aC;have C5:=I (And.intro aR aT);clear X ad aX aV aR aT aC)
   |fail)
  go_ret2
  exact⟨A5,c5,by show Ending.returned (.tuple #[.slice A5 (8+m+8) c5,.int .i64 0])=_;rw[show 8+m+8=m+16 by omega],R5.o,EB.o▸H5.o,by have:=C5.o.1;omega,C5.o.2⟩)
theorem SN (ks:Nat->UInt8) (u n:Nat) (A:Option Addr) (m c:Nat) (p:List UInt8) (w:World) (hu:u<=255) (hn:n<=1099511627776) (hm:m=p.length) (M:m<=784) (O:Rd w w.heap.size A (bvs p)) :
  Calls Tryz.prog 31 #[.agg (AW ks),.int .i64 (u:Int),.int .i64 (n:Int),.slice A m c] w fun e w'=>∃A2 c2,e=.returned (.tuple #[.slice A2 (m+16) c2,.int .i64 0])/\RdA (fun i=>i<w.heap.size) w' A2 (bvs (Dm ks u n p))/\Below w.heap.size w w':=by
 refine(Qp ks u n A m c p w hu hn hm M O).mono ?_;rintro e w' ⟨A2,c2,X,Y,Z,_⟩;exact⟨A2,c2,X,Y,Z⟩
end Se
end Go.Proofs.YtlccngianpfalaaGreat
