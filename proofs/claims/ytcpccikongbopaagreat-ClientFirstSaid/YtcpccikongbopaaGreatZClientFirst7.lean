import Derived.Test.YtcpccikongbopaaGreatZClientFirst6
set_option maxHeartbeats 25600000
set_option maxRecDepth 100000
set_option linter.unusedVariables false
set_option linter.unusedSimpArgs false
namespace Go.Proofs.YtcpccikongbopaaGreat
namespace Open
open Go.ChangeShapes Go.WideShapes Go.ChangeAt Go.RowKit Go.Deep Ad
theorem PJ {n:Int} (h:(Lit.int .i64 n).wf=true) : -9223372036854775808<=n/\n<=9223372036854775807:=by
 simpa [Lit.wf,IntKind.min,IntKind.max,IntKind.signed,IntKind.bits] using h
section
variable {H:Type} {enc:TypeId×Value->H} {P:Program} {W:World}
end
end Open
namespace Se
open Go.RowKit Ad
theorem RZ (b:Nat) (u N:Int) (A:Option Addr) (m c:Nat) (w:World) (M:(Lit.int .i64 N).wf=true) (hm:m<=maxLen) (O:¬(0<=u/\u<=255/\0<=N/\N<=1099511627776/\m<=784)) :
  Calls Tryz.prog 93 #[.pointer (some ⟨b,0,none⟩),.int .i64 u,.int .i64 N,.slice A m c] w fun e w'=>e=.returned (.tuple #[.slice none 0 0,.int .i64 1])/\w'=w:=by
 by_cases h1:0<=u/\u<=255
 ·have D:=DK u true (by simp;omega)
  by_cases h2:N<0
  ·have Y:decide (N<0)=true:=by simpa using h2
   clear O h1 M hm;go_enter Tryz.func93,Tryz.ntmps93
   go_wp2_with (go_at_call 112;refine Ag (D _) ?_;rintro E hw;have hw:=hw.symm;subst hw;clear D)
   go_ret2
   exact⟨rfl,rfl⟩
  ·obtain⟨n,rfl⟩:∃n:Nat,N=(n:Int):=⟨N.toNat,by omega⟩
   have X:n<9223372036854775808:=by
    have:=Open.PJ M;omega
   have Y:decide ((n:Int)<0)=false:=by simp
   have q4:IntKind.u64.wrap (n:Int)=(n:Int):=by rw[IntKind.wrap_u64];omega
   by_cases h3:n<=1099511627776
   ·have F:=Ey n true (by simp;omega)
    have Z:decide (784<(m:Int))=true:=by simp;omega
    have q1:(n:Int)<=1099511627776:=by omega
    clear O h1 h2 M;go_enter Tryz.func93,Tryz.ntmps93
    go_wp2_with (first
     |(go_at_call 112;refine Ag (D _) ?_;rintro E hw;have hw:=hw.symm;subst hw;clear D)
     |(go_at_call 141;refine Ag (F _) ?_;rintro E hw;have hw:=hw.symm;subst hw;clear F))
    go_ret2
    exact⟨rfl,rfl⟩
   ·have F:=Ey n false (by simp;omega)
    clear O h1 h2 M;go_enter Tryz.func93,Tryz.ntmps93
    go_wp2_with (first
     |(go_at_call 112;refine Ag (D _) ?_;rintro E hw;have hw:=hw.symm;subst hw;clear D)
     |(go_at_call 141;refine Ag (F _) ?_;rintro E hw;have hw:=hw.symm;subst hw;clear F))
    go_ret2
    exact⟨rfl,rfl⟩
 ·have D:=DK u false (by
   rw[eq_comm,Bool.and_eq_false_iff];rcases Int.lt_or_le u 0 with h | h
   ·exact .inl (by simp;omega)
   ·exact .inr (by simp;omega))
  clear O h1 M;go_enter Tryz.func93,Tryz.ntmps93
  go_wp2_with (go_at_call 112;refine Ag (D _) ?_;rintro E hw;have hw:=hw.symm;subst hw;clear D)
  go_ret2
  exact⟨rfl,rfl⟩
theorem Sa (b:Nat) (u:Int) (p:Value) (w:World) (E:¬(0<=u/\u<=255)) :
  Calls Tryz.prog 67 #[.pointer (some ⟨b,0,none⟩),.int .i64 u,p] w fun e w'=>e=.returned (.tuple #[.slice none 0 0,.int .i64 1])/\w'=w:=by
 have D:=DK u false (by
  rw[eq_comm,Bool.and_eq_false_iff];rcases Int.lt_or_le u 0 with h | h
  ·exact .inl (by simp;omega)
  ·exact .inr (by simp;omega))
 clear E;go_enter Tryz.func67,Tryz.ntmps67
 go_wp2_with (go_at_call 112;refine Ag (D _) ?_;rintro F hw;have hw:=hw.symm;subst hw;clear D)
 go_ret2
 exact⟨rfl,rfl⟩
def CK (w w':World) (b:Nat) (h h':Option Nat):Prop:=Chg (Ow b h) w w'/\(h'=h\/(h=none/\∃g,h'=some g/\w.heap.size<=g))
theorem CK.refl (w:World) (b:Nat) (h:Option Nat):CK w w b h h:=⟨Chg.refl _ _,.inl rfl⟩
theorem Step.o {w w':World} {b g:Nat} {h:Option Nat} (hs:Step w w' b h g):CK w w' b h (some g):=
 ⟨hs.1,hs.2.imp (fun e=>e.symm) (fun e=>⟨e.1,g,rfl,e.2⟩)⟩
theorem CK.own {w w':World} {b:Nat} {h E:Option Nat} (hs:CK w w' b h E):∀i,i<w.heap.size->Ow b E i->Ow b h i:=by
 intro i M D;rcases hs.2 with rfl | ⟨_,g,rfl,F⟩
 ·exact D
 ·rcases D with D | D
  ·exact .inl D
  ·injection D with D;omega
theorem CK.trans {a w c:World} {b:Nat} {h F E:Option Nat} (s1:CK a w b h F) (s2:CK w c b F E):CK a c b h E:=by
 refine⟨s1.1.trans s2.1 s1.own,?_⟩;rcases s1.2 with rfl | ⟨e,g,rfl,D⟩
 ·rcases s2.2 with rfl | ⟨e,g,rfl,D⟩
  ·exact .inl rfl
  ·exact .inr ⟨e,g,rfl,Nat.le_trans s1.1.size D⟩
 ·rcases s2.2 with rfl | ⟨M,_⟩
  ·exact .inr ⟨e,g,rfl,D⟩
  ·cases M
theorem CK.drewN {w w':World} {b:Nat} {h D:Option Nat} (hs:CK w w' b h D) (k:Nat):CK w (w'.drewN k) b h D:=⟨⟨hs.1.os,hs.1.tape,hs.1.output,hs.1.size,hs.1.block⟩,hs.2⟩
theorem EE (S:Nat->Prop) (w:World) (k:Nat):Chg S w (w.drewN k):=⟨rfl,rfl,rfl,Nat.le_refl _,fun _ _ _=>rfl⟩
theorem Ko {l:List UInt8} {n:Nat} {P:Prop} (E:n=l.length) (h:8<=n) (D:bvs l = []):P:=by
 have:=Ao l;rw[D] at this;simp at this;omega
theorem RdA.take {S:Nat->Prop} {w:World} {A:Option Addr} {l:List UInt8} (h:RdA S w A (bvs l)) (k:Nat):RdA S w A (bvs (l.take k)):=by
 rcases h with h | ⟨b,o,E,D,F,M⟩
 ·left
  have:l = []:=List.map_eq_nil_iff.1 h;rw[this,List.take_nil];rfl
 ·refine .inr ⟨b,o,E,D,F,fun i u hu=>M i u ?_⟩
  unfold bvs at hu⊢;rw[List.map_take,List.getElem?_take] at hu
  split at hu
  ·exact hu
  ·cases hu
theorem RdA.drop {S:Nat->Prop} {w:World} {b o:Nat} {l:List UInt8} (h:RdA S w (some ⟨b,o,none⟩) (bvs l)) (k:Nat):RdA S w (some ⟨b,o+k,none⟩) (bvs (l.drop k)):=by
 rcases h with h | ⟨X,O,D,E,M,F⟩
 ·left
  have:l = []:=List.map_eq_nil_iff.1 h;rw[this,List.drop_nil];rfl
 ·injection D with D
  injection D with e1 e2;subst e1 e2;refine .inr ⟨b,o+k,rfl,E,M,fun i u hu=>?_⟩;unfold bvs at hu;rw[List.map_drop,List.getElem?_drop] at hu;have:=F (k+i) u hu
  rwa [<-Nat.add_assoc] at this
theorem PK {ks:Nat->UInt8} {u:Nat} {l:List UInt8} (h:l.length<16\/800<l.length\/1099511627776<n8 l):isL ks u l=false:=by
 unfold isL;rcases h with h | h | h
 ·rw[show decide (16<=l.length)=false by simp;omega];simp
 ·rw[show decide (l.length<=800)=false by simp;omega];simp
 ·rw[show decide (n8 l<=1099511627776)=false by simp;omega];simp
theorem Sb {ks:Nat->UInt8} {u:Nat} {l:List UInt8} (D:16<=l.length) (E:l.length<=800) (F:n8 l<=1099511627776):isL ks u l=decide (tagL ks u (GF l)=n8 (Gx l)):=by
 unfold isL;rw[show decide (16<=l.length)=true by simpa using D,show decide (l.length<=800)=true by simpa using E,show decide (n8 l<=1099511627776)=true by simpa using F];simp
theorem CK.aw {w w':World} {b n:Nat} {h D:Option Nat} (hs:CK w w' b h D):Chg (Aw b h n) w w':=hs.1.mono fun i _ E=>.inl E
theorem CK.rda {w w':World} {b:Nat} {h D:Option Nat} {A:Option Addr} {xs:List Value} (hs:CK w w' b h D) (E:RdA (Ow b h) w A xs):RdA (Ow b D) w' A xs:=
 E.keep hs.1 (fun _ _ x=>x) hs.own
def ksOf (l:List UInt8) (i:Nat):UInt8:=l.getD i 0
theorem Sc (ks:Nat->UInt8) (u n:Nat) (p:List UInt8) (E:n<=1099511627776) (D:p.length<=784):isL ks u (Dg ks u n p)=true:=by
 have h:=Ik ks u n p E D;unfold Vh at h
 split at h
 ·assumption
 ·cases h
theorem Sd (ks:Nat->UInt8) (u n:Nat) (p:List UInt8) (D:n<=1099511627776):mixL ks u (n8 (Dg ks u n p)) (midL (Dg ks u n p))=p:=by
 rw[Mw,Ln ks u n p (by omega),Pw]
theorem RdA.o {w w':World} {b g:Nat} {h:Option Nat} {A:Option Addr} {xs:List Value} {ks:Nat->UInt8} {a o r:Nat} (F:RdA (Nw w.heap.size g) w' A xs) (E:Box w b ks h a o r):RdA (Ow b (some g)) w' A xs:=F.mono fun i _ D=>by
 rcases D with D | D
 ·exact .inl (D▸E.lt)
 ·injection D with D;exact .inr D.symm
def k1:Nat->UInt8:=fun i=>if i=0 then 1 else 0
end Se
namespace SeL
open Go.RowKit Ad Se
theorem Vn {b g i:Nat} (h:Ow b (some g) i):i=b\/i=g:=by
 rcases h with h | h
 ·exact .inl h
 ·injection h with h;exact .inr h.symm
end SeL
namespace SpL
open Go.RowKit Ad Sp
theorem Hj (K:Nat->Wd) (up lo:Wd) (i j:Nat) (F:j<4):(DT K up lo (8*i+j)).toNat=(BV K (up,lo+BitVec.ofNat 32 i)).1.toNat / 256 ^ j % 256:=by
 have D:(8*i+j) / 8=i:=by omega
 have E:(8*i+j) % 8=j:=by omega
 rw[DT,D,E,UInt8.toNat_ofNat',ID];have M:=FH (BV K (up,lo+BitVec.ofNat 32 i)).1;have h:j=0\/j=1\/j=2\/j=3:=by omega
 rcases h with rfl | rfl | rfl | rfl<;>simp only[Nat.reducePow]<;>omega
theorem Hk (K:Nat->Wd) (up lo:Wd) (i j:Nat) (F:j<4):(DT K up lo (8*i+4+j)).toNat=(BV K (up,lo+BitVec.ofNat 32 i)).2.toNat / 256 ^ j % 256:=by
 have D:(8*i+4+j) / 8=i:=by omega
 have E:(8*i+4+j) % 8=4+j:=by omega
 rw[DT,D,E,UInt8.toNat_ofNat',ID];have M:=FH (BV K (up,lo+BitVec.ofNat 32 i)).1;have h:j=0\/j=1\/j=2\/j=3:=by omega
 rcases h with rfl | rfl | rfl | rfl<;>simp only[Nat.reducePow,Nat.reduceAdd]<;>omega
def Io (w:World) (g:Nat) (cs:Array Value):Prop:=w.rangeAt g 0 cs.toList
theorem Io.grown {w w':World} {g:Nat} {cs:Array Value} {row:Option Nat} (h:Io w g cs) (E:g<w.heap.size) (F:w.grownBy w' row) (M:row≠some g):Io w' g cs:=fun j v D=>
 (World.cell?_of_block (a:=⟨g,0+j,none⟩) (F.block g E (fun e=>M e.symm))).trans (h j v D)
theorem Io.below {w w':World} {g:Nat} {cs:Array Value} (h:Io w g cs) (D:g<w.heap.size) (E:Below w.heap.size w w'):Io w' g cs:=h.grown D (Bo E none) (by simp)
theorem IG {P:Program} {ops:Array Oper} {rest:List Oper} {op:Oper} {a:Act} {w:World} {Q:Exit->Act->World->Prop} (D:op.guard=none) (ty:TypeId) (x:Operand) (F:op.op=.load ty x)
  (g:Nat) (E:a.eval x=.pointer (some ⟨g,0,none⟩)) (cs:Array Value) (d:TypeDesc) (M:Io w g cs)
  (hu:P.underlying ty=some d) (X:d.isRow=true) (O:(P.info? ty).map (·.size)=some cs.size)
  (h:wpList P ops Q rest (a.put op.dst (.agg cs)) w):wpList P ops Q (op :: rest) a w:=
 wpList_load_mid D ty x F g 0 E cs.toList d M hu X (by rw[Array.length_toList];exact O) (by simpa using h)
theorem DV (b:Nat):∀(vs:List Value) (o:Nat) (w:World),(w.setCells b o vs).heap.size=w.heap.size
 | [],_,_=>rfl
 |v :: r,o,w=>by rw[World.setCells,DV b r];simp [World.setCell]
theorem Ua (K:Nat->Wd):(AU K).size=27:=by simp [AU]
theorem Xj (K:Nat->Wd):(Tryz.prog.info? 172).map (·.size)=some (AU K).size:=by rw[Ua];kernel_rfl
def eight (x y:Wd):List Value:=[.int .u8 ((x.toNat:Int) % 256),.int .u8 ((x.toNat:Int) / 256 % 256),.int .u8 ((x.toNat:Int) / 65536 % 256),.int .u8 ((x.toNat:Int) / 16777216),
 .int .u8 ((y.toNat:Int) % 256),.int .u8 ((y.toNat:Int) / 256 % 256),.int .u8 ((y.toNat:Int) / 65536 % 256),.int .u8 ((y.toNat:Int) / 16777216)]
theorem Nz (K:Nat->Wd) (up lo:Wd) (i:Nat):bvs (strm K up lo (8*i))++eight (BV K (up,lo+BitVec.ofNat 32 i)).1 (BV K (up,lo+BitVec.ofNat 32 i)).2=bvs (strm K up lo (8*(i+1))):=by
 have e:strm K up lo (8*(i+1))=strm K up lo (8*i)++[DT K up lo (8*i+0),DT K up lo (8*i+1),DT K up lo (8*i+2),DT K up lo (8*i+3),DT K up lo (8*i+4+0),DT K up lo (8*i+4+1),DT K up lo (8*i+4+2),DT K up lo (8*i+4+3)]:=by
  unfold strm;rw[show 8*(i+1)=8*i+1+1+1+1+1+1+1+1 by omega];simp [List.range_succ]
 rw[e,Bw]
 congr 1
 have F:=Hj K up lo i 0 (by decide);have a1:=Hj K up lo i 1 (by decide);have E:=Hj K up lo i 2 (by decide);have a3:=Hj K up lo i 3 (by decide);have D:=Hk K up lo i 0 (by decide);have b1:=Hk K up lo i 1 (by decide);have b2:=Hk K up lo i 2 (by decide);have b3:=Hk K up lo i 3 (by decide);have O:=FH (BV K (up,lo+BitVec.ofNat 32 i)).1;have M:=FH (BV K (up,lo+BitVec.ofNat 32 i)).2;rw[show((BV K (up,lo+BitVec.ofNat 32 i)).1.toNat / 256 ^ 3 % 256)=(BV K (up,lo+BitVec.ofNat 32 i)).1.toNat / 16777216 by simp only[Nat.reducePow];omega] at a3;rw[show((BV K (up,lo+BitVec.ofNat 32 i)).2.toNat / 256 ^ 3 % 256)=(BV K (up,lo+BitVec.ofNat 32 i)).2.toNat / 16777216 by simp only[Nat.reducePow];omega] at b3;simp only[bvs,List.map_cons,List.map_nil,bv,eight,F,a1,E,a3,D,b1,b2,b3];simp
theorem Rd.take {w:World} {B:Nat} {A:Option Addr} {xs:List Value} (h:Rd w B A xs) (m:Nat):Rd w B A (xs.take m):=by
 rcases h with h | ⟨b,o,E,D,F⟩
 ·rw[h];exact .inl (by simp)
 ·refine .inr ⟨b,o,E,D,fun i u hu=>F i u ?_⟩
  rw[List.getElem?_take] at hu
  split at hu
  ·exact hu
  ·cases hu
theorem bt' {B:Nat} {a w c:World} (h:Below B a w) (hB:B+1<=w.heap.size) (k:Below w.heap.size w c):Below B a c:=IN h (by omega) k
theorem Vo (K:Nat->Wd) (N m:Nat) (n:Int) (w:World) (hN:N<18446744073709551616) (hm:m<=1000) (hn:m=n.toNat) :
  Calls Tryz.prog 88 #[.agg (AU K),.int .u64 (N:Int),.int .i64 n] w fun e w'=>∃A c,e=.returned (.slice A m c)/\m<=c/\Rd w' w'.heap.size A (bvs (strm K (upW N) (loW N) m))/\Below w.heap.size w w':=by
 obtain⟨B,eB⟩:=Ah (w.heap.size);rw[<-eB];have EB:=I eB;have ad:=Ua K;have ag:=Xj K;obtain⟨cs,O⟩:=Ah (AU K);rw[<-O] at ad ag;have cB:=WM K;rw[<-O] at cB;rw[<-O];obtain⟨ib,aD,aL,aH,aE⟩:=info_parts BP;have aQ:=I ad;clear ad;have aC:=I ag;clear ag;have aO:=I O;clear O;have NN:=I hN;clear hN;have HM:=I hm;clear hm;have HN:=I hn;clear hn;have al:Blk (w.alloc (.cells cs 172)) B 172 cs:=Blk.new_of w B _ _ _ rfl eB.symm;have aJ:=I al;clear al;go_enter Tryz.func88,Tryz.ntmps88
 go_wp2_with fail
 rw[<-eB];clear eB
 go_loopw [7,8] (fun aB iv wr=>∃i:Nat,8*i<m+8/\iv=.int .i64 (i:Int)/\Blk wr B 172 cs/\Below B w wr/\B+1<=wr.heap.size/\wr.ownsRow (B+1) 5 1 aB (8*i) (bvs (strm K (upW N) (loW N) (8*i)))) (fun _ iv _=>m+8 - 8*(intOf iv).toNat)
 case atStart=>exact⟨0,by omega,rfl,aJ.o,EB.o▸Af.alloc Ae _,by have:=EB.o;simp;omega,rfl,.inl ⟨rfl,rfl⟩⟩
 case round=>
  obtain⟨i,hi,rfl,hB,hb,ax,Y⟩:=hrel;have HB:=I hB;clear hB;have ae:=I hb;clear hb;have HS:=I ax;clear ax;have hlen:∃A cap,u7=.slice A (8*i) cap/\8*i<=cap/\(∀n k,(Value.slice A n cap).ownBlock=some k->B+1<=k):=by
   obtain⟨_,⟨h1,h2⟩ | ⟨g,cap,cur,h1,hg,_,E,_⟩⟩:=Y
   ·exact⟨none,0,by rw[h1,h2],by omega,fun n k h=>by simp [Value.ownBlock] at h⟩
   ·exact⟨_,cap,h1,E,fun n k h=>by simp only[Value.ownBlock] at h;injection h with h;omega⟩
  obtain⟨A,cap,rfl,E,ak⟩:=hlen;have ar:=I ak;clear ak;have HO:=I Y;clear Y;obtain⟨o,eo⟩:=Ah (8*i);rw[<-eo];have Z:=I eo;clear eo
  by_cases hlt:(o:Int)<n
  ·have aR:(0:Int)<=(i:Int):=by omega
   have aP:(i:Int)<=200:=by have:=Z.o;have:=HM.o;have:=HN.o;omega
   have HH:=I hi;clear hi
   go_wp2_with (first | (refine IG (by rfl) 172 (.tmp 3) (by rfl) B (by rfl) cs _ (Ab HB.o) Tryz.underlying172 (by rfl) aC.o ?_) | fail)
   have an:(N:Int) / 4294967296 % 4294967296=((upW N).toNat:Int):=by rw[upW,BitVec.toNat_ofNat];have:=NN.o;omega
   have ab:((N:Int)+(i:Int)) % 4294967296=((loW N+BitVec.ofNat 32 i).toNat:Int):=by rw[loW,BitVec.toNat_add,BitVec.toNat_ofNat,BitVec.toNat_ofNat];omega
   rw[an,ab];obtain⟨p,ep⟩:=Ah (BV K (upW N,loW N+BitVec.ofNat 32 i));obtain⟨x0,ex⟩:=Ah (p.1);obtain⟨y0,ey⟩:=Ah (p.2);have c4:=cB (upW N) (loW N+BitVec.ofNat 32 i) wr;rw[<-ep,<-ex,<-ey] at c4;have az:bvs (strm K (upW N) (loW N) (8*i))++eight x0 y0=bvs (strm K (upW N) (loW N) (8*(i+1))):=by rw[ex,ey,ep];exact Nz K _ _ i
   have aI:=I az;clear az;clear ep ex ey an ab;refine Ag c4 ?_;rintro w5 M;have ah:=Cs HO.o M;rw[<-Z.o] at ah;have F:=aI.o;rw[<-Z.o] at F;have aM:=I F;clear F;have av:=HB.o.below M;have aj:=bt' ae.o HS.o M;have au:=Nat.le_trans HS.o M.size;have aN:=I ah;clear ah;have aG:=I av;clear av;have aF:=I aj;clear aj;have aa:=I au;clear au;clear M c4
   go_wp2_with (first | (at_builtin;refine Av _ (by rfl) (.tmp 30) (.tmp 53) 25 (by rfl) (B+1) 5 ib _ 1 Tryz.underlying25 aD aL aH aE (by rfl) (.slice A o cap) o (bvs (strm K (upW N) (loW N) o)) (by rfl) (DC aN.o (by rfl)) (w5.heap.size+1) (some ⟨w5.heap.size,0,none⟩) 8 8 (eight x0 y0) (by rfl) (by rfl) (Fm w5 5 _ (eight x0 y0) (by rfl) _ rfl) (by simp [eight,Value.oneCell']) (by have:=Z.o;unfold maxLen;omega) (by have:=Z.o;omega) (by have:=aa.o;simp;omega) ?_;intro v6 w6 X D aw) | fail)
   have ay:=Blk.grown (Blk.alloc aG.o _) D (fun h=>by have:=ar.o _ _ h;omega);have ao:=Below.grown (aF.o.alloc (by have:=aa.o;omega) _) D (by have:=aa.o;simp;omega) (fun k hk=>by have:=ar.o _ _ hk;omega);have aA:=D.size;have ai:=X;rw[aM.o,show o+8=8*(i+1) by have:=Z.o;omega] at ai;have B6:=I ay;clear ay;have B7:=I ao;clear ao;have S7:=I aA;clear aA;have O7:=I ai;clear ai;clear X D aw
   go_wp2_with fail
   go_roundw
   case rel=>
    exact⟨i+1,by have:=Z.o;have:=HN.o;omega,by go_num,B6.o,B7.o,by have h1:=S7.o;have:=aa.o;simp at h1;omega,O7.o⟩
   case measure=>have:=Z.o;have:=HN.o;simp [intOf];omega
  ·have aS:n<=(o:Int):=by omega
   have e1:decide ((o:Int)<n)=false:=by simp;omega
   have aK:n<=(cap:Int):=by have:=Z.o;omega
   have HC:=I E;clear E
   by_cases h0:n<0
   ·go_wp2_with fail
    go_ret;have af:m=0:=by have:=HN.o;omega
    refine⟨A,cap,by rw[af];first | rfl | exact congrArg (fun k=>Ending.returned (Value.slice A k cap)) (show(max n 0).toNat=0 by omega),by rw[af];exact Nat.zero_le _,?_,ae.o⟩;rw[af];exact .inl rfl
   ·have h1:(0:Int)<=n:=by omega
    go_wp2_with fail
    go_ret;refine⟨A,cap,by rw[HN.o];first | rfl | exact congrArg (fun k=>Ending.returned (Value.slice A k cap)) (show(max n 0).toNat=n.toNat by omega),by have:=HN.o;omega,?_,ae.o⟩;have hr:=Rd.of_own HO.o;have ht:bvs (strm K (upW N) (loW N) m)=(bvs (strm K (upW N) (loW N) (8*i))).take m:=by
     rw[<-Pc K (upW N) (loW N) m (8*i) (by have:=Z.o;have:=HN.o;omega)];simp [bvs,List.map_take]
    rw[ht];exact Rd.take hr m
end SpL
namespace Se
open Go.RowKit Ad
def hk (f:Nat->UInt8) (i j:Nat):UInt8:=if j<i then f j else 0
theorem Fk (f:Nat->UInt8) (j:Nat) (D:j<16):(Sp.AF f)[j]? = some (bv (f j)):=Sp.Fk f j D
theorem Ub (f:Nat->UInt8) (i:Nat) (D:i<16):(Sp.AF (hk f i)).setIfInBounds i (bv (f i))=Sp.AF (hk f (i+1)):=by
 unfold Sp.AF;rw[List.setIfInBounds_toArray]
 congr 1
 apply List.ext_getElem?;intro j;rw[List.getElem?_set,List.getElem?_map,List.getElem?_map]
 by_cases hj:i=j
 ·subst hj;simp [D,hk]
 ·rw[if_neg hj]
  rcases Nat.lt_or_ge j 16 with h | h
  ·have e:(j<i)=(j<i+1):=propext ⟨by omega,by omega⟩
   simp [h,hk,e]
  ·rw[List.getElem?_eq_none (by simpa using h)];rfl
theorem Xk (f:Nat->UInt8):Sp.AF (hk f 16)=Sp.AF f:=Sp.Ic fun j D=>if_pos D
theorem PL (f:Nat->UInt8):Sp.AF (hk f 0)=Sp.AF (fun _=>0):=Sp.Ic fun j D=>rfl
theorem key32_at' (f:Nat->UInt8) (j:Nat) (D:j<32):(AT f)[j]? = some (bv (f j)):=by
 rw[AT,List.getElem?_toArray];simp [D]
theorem Lp {P:Program} {fn:Func} {tmps:Array Value} {w:World} {v1 v2:Value} (X t2:Nat) (F E:TypeId) (a1 a2:Addr) (D:fn.results=#[.cell X F,.cell t2 E]) (M:tmps.getD X undef=.pointer (some a1)) (Y:tmps.getD t2 undef=.pointer (some a2)) (Z:(loadVar F a1).run P w=.ok v1 w) (O:(loadVar E a2).run P w=.ok v2 w) :
  (results fn tmps).run P w=.ok (.tuple #[v1,v2]) w:=by
 have h1:tmps[X]?.getD undef=.pointer (some a1):=by simpa using M
 have h2:tmps[t2]?.getD undef=.pointer (some a2):=by simpa using Y
 simp [results,D,h1,h2,asAddr,Z,O]
theorem PM (ks:Nat->UInt8) (w:World):Calls Tryz.prog 86 #[.agg (AT ks)] w fun e w'=>e=.returned (.tuple #[.agg (Sp.AF ks),.agg (Sp.AF (k2 ks))])/\Below w.heap.size w w':=by
 obtain⟨B,eB⟩:=Ah (w.heap.size);have EB:=I eB;have aa:Sp.AF (fun _=>0)=#[.int .u8 0,.int .u8 0,.int .u8 0,.int .u8 0,.int .u8 0,.int .u8 0,.int .u8 0,.int .u8 0,.int .u8 0,.int .u8 0,.int .u8 0,.int .u8 0,.int .u8 0,.int .u8 0,.int .u8 0,.int .u8 0]:=rfl;have HZ:=I aa;clear aa;obtain⟨kc,ab⟩:=Ah (AT ks);rw[<-ab];have EK:=I ab;clear ab;go_enter Tryz.func86,Tryz.ntmps86
 go_wp2_with fail
 rw[<-eB];clear eB
 go_loopw [6] (fun iv wr=>∃i:Nat,i<=16/\iv=.int .i64 (i:Int)/\Below B w wr/\wr.heap.size=B+5/\Blk wr B 31 kc/\Blk wr (B+1) 166 (Sp.AF (fun _=>0))/\Blk wr (B+2) 166 (Sp.AF (fun _=>0))/\Blk wr (B+3) 166 (Sp.AF (hk ks i))/\Blk wr (B+4) 166 (Sp.AF (hk (k2 ks) i))) (fun iv _=>16 - (intOf iv).toNat)
 case atStart=>
  have z1:Blk (w.alloc (.cells kc 31)) B 31 kc:=EB.o▸Blk.new w _ _;have q0:(w.alloc (.cells kc 31)).heap.size=B+1:=by rw[EB.o];simp
  have b0:Below B w (w.alloc (.cells kc 31)):=EB.o▸(Below.refl w.heap.size w).alloc Ae _;have key:∀(w1:World) (n:Nat),w1.heap.size=n->Blk (w1.alloc (.cells (Sp.AF fun _=>0) 166)) n 166 (Sp.AF fun _=>0)/\(w1.alloc (.cells (Sp.AF fun _=>0) 166)).heap.size=n+1:=fun w1 n h=>⟨h▸Blk.new w1 _ _,by rw[<-h];simp⟩
  obtain⟨k1,q1⟩:=key _ _ q0;obtain⟨ah,q2⟩:=key _ _ q1;obtain⟨k3,q3⟩:=key _ _ q2;obtain⟨k4,q4⟩:=key _ _ q3;refine⟨0,by decide,rfl,?_,q4,(((z1.alloc _).alloc _).alloc _).alloc _,((k1.alloc _).alloc _).alloc _,(ah.alloc _).alloc _,?_,?_⟩
  ·exact(((b0.alloc (by have:=EB.o;simp;omega) _).alloc (by have:=EB.o;simp;omega) _).alloc (by have:=EB.o;simp;omega) _).alloc (by have:=EB.o;simp;omega) _
  ·rw[PL];exact k3.alloc _
  ·rw[PL];exact k4
 case round=>
  obtain⟨i,hi,rfl,hb,ag,h0,h1,h2,X,Y⟩:=hrel;have HB:=I hb;clear hb;have HS:=I ag;clear ag
  by_cases hx:i=16
  ·subst hx
   rw[Xk] at X Y;obtain⟨cs,O⟩:=Ah ((List.range 16).map (fun j=>bv (ks j)));obtain⟨ds,M⟩:=Ah ((List.range 16).map (fun j=>bv (k2 ks j)));have n3:cs.length=16:=by rw[O];simp
   have n4:ds.length=16:=by rw[M];simp
   have o3:∀v∈cs,v.oneCell'=true:=by rw[O];intro v hv;obtain⟨j,_,rfl⟩:=List.mem_map.1 hv;rfl
   have o4:∀v∈ds,v.oneCell'=true:=by rw[M];intro v hv;obtain⟨j,_,rfl⟩:=List.mem_map.1 hv;rfl
   have X:Blk wr (B+3) 166 cs.toArray:=by rw[O];exact X
   have Y:Blk wr (B+4) 166 ds.toArray:=by rw[M];exact Y
   have r3:wr.drew.rangeAt (B+1+1+1) 0 cs:=by have:=Si.Ab X;simpa using this
   have r4:wr.drew.rangeAt (B+1+1+1+1) 0 ds:=by have:=Si.Ab Y;simpa using this
   have t1:wr.drew.there (B+1) 0 16:=by have:=Si.Ak h1;rwa [AZ] at this
   have t2:wr.drew.there (B+1+1) 0 16:=by have:=Si.Ak h2;rwa [AZ] at this
   have u3:(Tryz.prog.info? 166).map (·.size)=some cs.length:=by rw[n3];kernel_rfl
   have u4:(Tryz.prog.info? 166).map (·.size)=some ds.length:=by rw[n4];kernel_rfl
   have F:=Tryz.underlying166;have EC:=I O;clear O;have ED:=I M;clear M;clear h0 h1 h2 X Y
   go_wp2_with fail
   refine wp_region_held_drew (S:=fun w'=>w'.rangeAt (B+1+1+1) 0 cs/\w'.rangeAt (B+1+1+1+1) 0 ds/\w'.there (B+1) 0 16/\w'.there (B+1+1) 0 16) (by kernel_rfl) ⟨r3,r4,t1,t2⟩ (fun E=>?_);refine wpAnyH_take (i:=0) (v:=.agg cs.toArray) rfl (by kernel_rfl) (by kernel_rfl) (by kernel_rfl) (fun _ _ _ h=>h) (yieldsIf_load_mid (by rfl) 166 (.tmp 4) rfl (B+1+1+1) 0 rfl cs _ (fun _ h=>h.1) F rfl u3) E ?_;refine wpAnyH_take (i:=1) (v:=.agg ds.toArray) rfl (by kernel_rfl) (by kernel_rfl) (by kernel_rfl) (fun _ _ _ h=>h) (yieldsIf_load_mid (by rfl) 166 (.tmp 5) rfl (B+1+1+1+1) 0 rfl ds _ (fun _ h=>h.2.1) F rfl u4) E ?_;refine wpAnyH_ready (rs:=[2]) (by kernel_rfl) (by simp) ?_;refine AllReadyH.cons (o:=_) rfl (fun K hK=>?_) AllReadyH.nil;rw[if_pos (by rfl)];refine wp_store_mid 166 _ _ rfl (B+1) 0 cs.toArray rfl rfl (by rw[List.size_toArray,n3];exact E.2.2.1) (by rw[List.size_toArray];exact u3) (all_oneCell_toArray o3) ?_;refine hK.o _ _ ⟨World.rangeAt_setCells_apart E.1 _ _ _ (.inl (by omega)),World.rangeAt_setCells_apart E.2.1 _ _ _ (.inl (by omega)),World.there_setCells E.2.2.1 _ _ _,World.there_setCells E.2.2.2 _ _ _⟩ (fun D=>?_);clear hK K;refine wpAnyH_ready (rs:=[3]) (by kernel_rfl) (by simp) ?_;refine AllReadyH.cons (o:=_) rfl (fun K hK=>?_) AllReadyH.nil;rw[if_pos (by rfl)];refine wp_store_mid 166 _ _ rfl (B+1+1) 0 ds.toArray rfl rfl (by rw[List.size_toArray,n4];exact D.2.2.2) (by rw[List.size_toArray];exact u4) (all_oneCell_toArray o4) ?_;refine hK.o _ _ ⟨World.rangeAt_setCells_apart D.1 _ _ _ (.inl (by omega)),World.rangeAt_setCells_apart D.2.1 _ _ _ (.inl (by omega)),World.there_setCells D.2.2.1 _ _ _,World.there_setCells D.2.2.2 _ _ _⟩ (fun Z=>?_);clear hK K;refine wpAnyH_done (by kernel_rfl) ?_ _;have af:((wr.drew.setCells (B+1) 0 cs).setCells (B+1+1) 0 ds).rangeAt (B+1) 0 cs:=World.rangeAt_setCells_apart (World.rangeAt_setCells_same _ _ _ _ (by rw[n3];exact t1)) _ _ _ (.inl (by omega));have ad:((wr.drew.setCells (B+1) 0 cs).setCells (B+1+1) 0 ds).rangeAt (B+1+1) 0 ds:=World.rangeAt_setCells_same _ _ _ _ (by rw[n4];exact D.2.2.2);have ae:Below B w ((wr.drew.setCells (B+1) 0 cs).setCells (B+1+1) 0 ds):=Si.Bn _ (by omega) _ _ _ (Si.Bn _ (by omega) _ _ _ (below_drewN HB.o 1));change Exit.then _ _ Exit.normal _ ((wr.drew.setCells (B+1) 0 cs).setCells (B+1+1) 0 ds)
   generalize (wr.drew.setCells (B+1) 0 cs).setCells (B+1+1) 0 ds=W3 at af ad ae⊢;clear E D Z r3 r4 t1 t2;have q1:=run_loadVar_mid (P:=Tryz.prog) W3 (B+1) 0 166 cs _ af F rfl u3;have q2:=run_loadVar_mid (P:=Tryz.prog) W3 (B+1+1) 0 166 ds _ ad F rfl u4;have Q1:=I q1;clear q1;have Q2:=I q2;clear q2;have BW:=I ae;clear ae;clear af ad u3 u4 F n3 n4 o3 o4 X Y
   go_wp2_with fail
   refine bodyPost_ret (v:=.tuple #[.agg cs.toArray,.agg ds.toArray]) (Lp 2 3 166 166 ⟨B+1,0,none⟩ ⟨B+1+1,0,none⟩ Tryz.results86 (by rfl) (by rfl) Q1.o Q2.o) (by rfl) ?_;exact⟨by rw[EC.o,ED.o];rfl,EB.o▸BW.o⟩
  ·have e1:(i:Int)<16:=by omega
   have e2:(0:Int)<=(i:Int):=by omega
   have e3:i<16:=by omega
   have e4:(16:Int)+(i:Int)<32:=by omega
   have e5:(0:Int)<=(16:Int)+(i:Int):=by omega
   have e6:16+i<32:=by omega
   have e7:i<32:=by omega
   obtain⟨x,ex⟩:=Ah (ks i);obtain⟨y,ey⟩:=Ah (ks (16+i));have g0:wr.cell? ⟨B,i,none⟩=some (.int .u8 (x.toNat:Int)):=by rw[h0.cell,EK.o,key32_at' ks i e7,ex];rfl
   have g1:wr.cell? ⟨B,16+i,none⟩=some (.int .u8 (y.toNat:Int)):=by rw[h0.cell,EK.o,key32_at' ks (16+i) e6,ey];rfl
   have f3:=X.frozen;have f4:=Y.frozen;have c3:=X.cell i;have c4:=Y.cell i;rw[Fk _ _ e3] at c3 c4;simp only[bv] at c3 c4;have H0:=I h0;clear h0;have H1:=I h1;clear h1;have H2:=I h2;clear h2;have H3:=I X;clear X;have H4:=I Y;clear Y;have hw:IntKind.i64.wrap ((16:Int)+(i:Int))=(16:Int)+(i:Int):=by rw[IntKind.wrap_i64];omega
   have EX:=I ex;clear ex;have EY:=I ey;clear ey;have HX:=I hx;clear hx;have HI:=I hi;clear hi
   go_wp2_with fail
   go_region
   all_goals go_wp2_with fail
   all_goals
    go_roundw
    case rel=>
     have s3:=H3.o.set i (bv x);rw[EX.o,Ub ks i e3,<-EX.o] at s3;have s4:=(Si.Blk.far H4.o ⟨B+3,i,none⟩ (bv x) (by simp)).set i (bv y);rw[EY.o,show ks (16+i)=k2 ks i from rfl,Ub (k2 ks) i e3] at s4;refine⟨i+1,by omega,by go_num,?_,?_,?_,?_,?_,?_,?_⟩
     ·exact below_drewN (Si.AS (Si.AS HB.o (by simp;omega) _) (by simp;omega) _) 1
     ·simpa [World.setCell] using HS.o
     ·exact Si.Blk.far (Si.Blk.far H0.o ⟨B+3,i,none⟩ _ (show B+3≠B by omega)) ⟨B+4,i,none⟩ _ (show B+4≠B by omega)
     ·exact Si.Blk.far (Si.Blk.far H1.o ⟨B+3,i,none⟩ _ (show B+3≠B+1 by omega)) ⟨B+4,i,none⟩ _ (show B+4≠B+1 by omega)
     ·exact Si.Blk.far (Si.Blk.far H2.o ⟨B+3,i,none⟩ _ (show B+3≠B+2 by omega)) ⟨B+4,i,none⟩ _ (show B+4≠B+2 by omega)
     ·exact Si.Blk.far s3 ⟨B+4,i,none⟩ _ (show B+4≠B+3 by omega)
     ·exact(by have e:=s4;rw[show bv (k2 ks i)=bv y from by rw[EY.o];rfl] at e;exact e)
    case measure=>simp [intOf];omega
theorem dbig (N:Nat) (w:World) (hN:N<18446744073709551616) :
  Calls Tryz.prog 79 #[.int .u64 (N:Int)] w fun e w'=>∃v,e=.returned v/\w'.ownsRow w.heap.size 5 1 v 8 (bvs (w8 N))/\Below w.heap.size w w':=by
 obtain⟨ib,ad,af,ag,ae⟩:=info_parts Si.BP;obtain⟨B,eB⟩:=Ah (w.heap.size);have Z:=I eB;clear eB;have HN:=I hN;clear hN;go_enter Tryz.func79,Tryz.ntmps79
 go_wp2_with fail
 go_loopw [3,4] (fun ab iv wr=>∃j:Nat,j<=8/\iv=.int .i64 (7 - (j:Int))/\wr.ownsRow B 5 1 ab j (laid [] N j)/\Below B w wr) (fun _ iv _=>(intOf iv+1).toNat)
 case atStart=>exact⟨0,by decide,rfl,⟨rfl,.inl ⟨rfl,rfl⟩⟩,Below.refl _ _⟩
 case round=>
  obtain⟨j,hj,rfl,M,aa⟩:=hrel;have HR:=I M;clear M;have HW:=I aa;clear aa
  by_cases hx:j=8
  ·subst hx
   go_wp2_with fail
   go_ret;exact⟨_,rfl,by have:=HR.o;rw[TX,List.nil_append] at this;exact Z.o▸this,Z.o▸HW.o⟩
  ·obtain⟨k,ek⟩:∃k:Nat,k=7 - j:=⟨_,rfl⟩
   obtain⟨m,em⟩:∃m:Nat,m=56 - 8*j:=⟨_,rfl⟩;have hk:(7:Int) - (j:Int)=(k:Int):=by omega
   rw[hk];have O:j<8:=by omega
   have an:(8:Int)*(k:Int)=(m:Int):=by omega
   have ak:m<64:=by omega
   have al:(m:Int)<64:=by omega
   have aj:(0:Int)<=(m:Int):=by omega
   have ao:min m 64=m:=by omega
   have ai:(0:Int)<=(k:Int):=by omega
   have ah:(k:Int)<=7:=by omega
   have X:=Kn [] N j O;have hv:bv (UInt8.ofNat (N / 2 ^ (56 - 8*j)))=.int .u8 ((N:Int) / 2 ^ m % 256):=by
    unfold bv;rw[UInt8.toNat_ofNat',<-em];congr 1
   rw[hv] at X;have NX:=I X;clear X;have EM:=I em;clear em;have EK:=I ek;clear ek;have HX:=I hx;clear hx;have HJ:=I hj;clear hj;have F:=I O;clear O;clear hk hv
   go_wp2_with (first | (at_builtin;refine Av _ (by rfl) (.tmp 9) (.tmp 16) 25 (by rfl) B 5 ib _ 1 Tryz.underlying25 ad af ag ae (by rfl) _ j (laid [] N j) (by rfl) (DC HR.o (by rfl)) (wr.heap.size+1) (some ⟨wr.heap.size,0,none⟩) 1 1 [.int .u8 ((N:Int) / 2 ^ m % 256)] (by rfl) (by rfl) (Si.Fm wr 5 _ [.int .u8 ((N:Int) / 2 ^ m % 256)] (by rfl) _ rfl) (by simp [Value.oneCell']) (by have:=F.o;unfold maxLen;omega) (by have:=F.o;omega) (by have:=Z.o;have:=HW.o.size;simp;omega) ?_;intro v6 w6 E D Y;have O6:=I E;have G6:=I D;clear E D Y) | fail)
   go_roundw
   case rel=>
    refine⟨j+1,by have:=F.o;omega,?_,by rw[<-NX.o];exact O6.o,?_⟩
    ·exact congrArg (Value.int .i64) (by have:=EK.o;have:=F.o;omega)
    ·exact(HW.o.alloc (by have:=Z.o;have:=HW.o.size;omega) _).grown G6.o (by have:=Z.o;have:=HW.o.size;simp;omega) (fun q hq=>(HR.o.lt q hq).1)
   case measure=>simp [intOf]
theorem PN (ks:Nat->UInt8) (u n:Nat) (p:List UInt8) (i:Nat) (h:i<p.length) (D:i<(Dc ks u n p.length).length):bvs ((mixL ks u n p).take i)++[bv (p[i] ^^^ (Dc ks u n p.length)[i])]=bvs ((mixL ks u n p).take (i+1)):=by
 rw[List.take_add_one,Px ks u n p i h D,Bw];rfl
theorem Xl (y x:UInt8):bits .xor .u8 (y.toNat:Int) (x.toNat:Int)=((y ^^^ x).toNat:Int):=by
 rw[u8_xor_nat _ _ y.toNat_lt x.toNat_lt,UInt8.toNat_xor]
def twoW (w1:World) (z:Array Value) (t:TypeId) (cs ds:Array Value):World:=(((w1.alloc (.cells z t)).alloc (.cells z t)).setCells w1.heap.size 0 cs.toList).setCells (w1.heap.size+1) 0 ds.toList
theorem IX (D:World) (z:Array Value) (t:TypeId) (cs ds:Array Value) (F:z.size=cs.size) (E:z.size=ds.size) :
  (twoW D z t cs ds).rangeAt D.heap.size 0 cs.toList/\(twoW D z t cs ds).rangeAt (D.heap.size+1) 0 ds.toList/\Below D.heap.size D (twoW D z t cs ds)/\D.heap.size+2<=(twoW D z t cs ds).heap.size:=by
 have M:((D.alloc (.cells z t)).alloc (.cells z t)).there D.heap.size 0 cs.toList.length:=by
  have:=World.there_alloc (Si.Ak (Blk.new D t z)) (.cells z t)
  rwa [F,<-Array.length_toList] at this
 have O:((D.alloc (.cells z t)).alloc (.cells z t)).there (D.heap.size+1) 0 ds.toList.length:=by
  have:=Si.Ak (Si.Blk.new_of (D.alloc (.cells z t)) (D.heap.size+1) t z z rfl (by simp))
  rwa [E,<-Array.length_toList] at this
 refine⟨World.rangeAt_setCells_apart (World.rangeAt_setCells_same _ _ _ _ M) _ _ _ (.inl (by omega)),World.rangeAt_setCells_same _ _ _ _ (World.there_setCells O _ _ _),?_,?_⟩
 ·exact Si.Bn _ (by omega) _ _ _ (Si.Bn _ Ae _ _ _ ((Af.alloc Ae _).alloc (by simp) _))
 ·unfold twoW;rw[SpL.DV,SpL.DV];simp
theorem dmix (ks:Nat->UInt8) (u n:Nat) (A:Option Addr) (m c:Nat) (p:List UInt8) (w:World) (hu:u<=255) (hn:n<18446744073709551616) (hm:m=p.length) (ax:m<=1000) (hr:Rd w w.heap.size A (bvs p)) :
  Calls Tryz.prog 47 #[.agg (AT ks),.int .i64 (u:Int),.int .u64 (n:Int),.slice A m c] w fun e w'=>∃v,e=.returned v/\w'.ownsRow w.heap.size 5 1 v m (bvs (mixL ks u n p))/\Below w.heap.size w w':=by
 obtain⟨ib,aZ,bg,bj,ba⟩:=info_parts Si.BP;obtain⟨B,eB⟩:=Ah (w.heap.size);obtain⟨N,eN⟩:=Ah (sn u n);have av:=PE u n hu;have M:=Xe u n hu;have E:=Xf u n;rw[<-eN] at av M E;have bp:(u:Int) % 18446744073709551616=(u:Int):=by omega
 have ag:Sp.strm (Sp.kw ks) (Sp.upW N) (Sp.loW N) m=Dc ks u n m:=by rw[eN];rfl
 have ch:=fun F=>PM ks F
 have cw:=fun F=>Sp.WL ks F
 have ad:=fun F=>SpL.Vo (Sp.kw ks) N m (m:Int) F E ax (by simp)
 rw[ag] at ad;have i32:=My ks;have i16:=Im ks;have Z:=Im (k2 ks);have aA:=PB ks;have X:=PB (k2 ks);have aw:=AZ ks;have O:=AZ (k2 ks);obtain⟨kc,aC⟩:=Ah (AT ks);obtain⟨cs,aT⟩:=Ah (Sp.AF ks);obtain⟨ds,aH⟩:=Ah (Sp.AF (k2 ks));obtain⟨xs,aQ⟩:=Ah (Sp.AU (Sp.kw ks));rw[<-aC] at ch i32⊢;rw[<-aT] at ch cw i16 aA aw;rw[<-aH] at ch Z X O;rw[<-aQ] at cw ad;have hz:Sp.AF (fun _=>0)=#[.int .u8 0,.int .u8 0,.int .u8 0,.int .u8 0,.int .u8 0,.int .u8 0,.int .u8 0,.int .u8 0,.int .u8 0,.int .u8 0,.int .u8 0,.int .u8 0,.int .u8 0,.int .u8 0,.int .u8 0,.int .u8 0]:=rfl;have EB:=I eB;have HR:=I (eB▸hr);clear hr;have HM:=I hm;clear hm;have q3:(m:Int)<=1000:=by omega
 have aS:=I ax;clear ax;have bh:=I i32;clear i32;have aP:=I i16;clear i16;have aL:=I Z;clear Z;have bf:=I aA;clear aA;have aF:=I X;clear X;have aJ:=I aw;clear aw;have ai:=I O;clear O;have HZ:=I hz;clear hz;have bd:=I ad;clear ad;have bb:=I av;clear av;have aK:=I M;have aO:Hid (((n:Int)*256+(u:Int)) % 18446744073709551616=(N:Int)):=by rw[<-M];show _=_;omega
 have aI:Hid (IntKind.u64.wrap (IntKind.u64.wrap ((n:Int)*256)+(u:Int))=(N:Int)):=by rw[IntKind.wrap_u64,IntKind.wrap_u64];omega
 clear M;have h0:Blk (w.alloc (.cells kc 31)) B 31 kc:=eB▸Blk.new w _ _;have al:Below B w (w.alloc (.cells kc 31)):=eB▸(Below.refl w.heap.size w).alloc Ae _;have H0:=I h0;clear h0;have bl:=I al;clear al;clear hu hn ag E eN aC aT aH aQ eB;go_enter Tryz.func47,Tryz.ntmps47
 go_upto_region 2 with(first
  |(refine Ac (by rfl) 31 (.tmp 4) (by rfl) w.heap.size 0 (by rfl) kc _ (Si.Ab (Blk.new w 31 kc)) Tryz.underlying31 (by rfl) bh.o ?_)
  |(go_at_call 86;refine Ag (ch _) ?_;rintro F af;clear ch;have af:=bl.o.trans (af.mono (by have:=EB.o;simp;omega));have H1:=I af;clear af)
  |(refine wpList_store_mid (by rfl) 166 (.tmp 9) (.tmp 17) (by rfl) F.heap.size 0 cs (by rfl) (by rfl) (by rw[aJ.o];exact World.there_alloc (by have:=Si.Ak (Blk.new F 166 (Sp.AF fun _=>0));rwa [AZ] at this) _) aP.o bf.o ?_)
  |(refine wpList_store_mid (by rfl) 166 (.tmp 10) (.tmp 18) (by rfl) (F.heap.size+1) 0 ds (by rfl) (by rfl) (by rw[ai.o];exact World.there_setCells (by have:=Si.Ak (Si.Blk.new_of (F.alloc (.cells (Sp.AF fun _=>0) 166)) (F.heap.size+1) 166 _ (Sp.AF fun _=>0) rfl (by simp));rwa [AZ] at this) _ _ _) aL.o aF.o ?_)
  |fail)
 have h2:=IX F (Sp.AF fun _=>0) 166 cs ds (by rw[AZ,aJ.o]) (by rw[AZ,ai.o]);change Code.wp _ _ _ _ (twoW F (Sp.AF fun _=>0) 166 cs ds);generalize twoW F (Sp.AF fun _=>0) 166 cs ds=W2 at h2⊢;have aa:=H1.o.trans (h2.2.2.1.mono (by have:=H1.o.size;have:=EB.o;omega));have aG:=I aa;clear aa;have aX:=I h2.1;clear h2;have aN:=cw W2;clear cw
 go_wp2_with (first
  |(refine Ac (by rfl) 166 (.tmp 9) (by rfl) F.heap.size 0 (by rfl) cs _ aX.o Tryz.underlying166 (by rfl) aP.o ?_)
  |(go_at_call 89;refine Ag aN ?_;rintro w3 ae;clear aN;have ae:=aG.o.trans (ae.mono (by have:=aG.o.size;have:=EB.o;omega));have c4:=bd.o w3;have H3:=I ae;clear ae)
  |(go_at_call 88;(first | rw[aK.o] | rw[bb.o] | rw[aO.o] | rw[aI.o]);refine Calls.mono c4 ?_;rintro e w5 ⟨As,sc,rfl,bq,aD,ab⟩;clear c4;have ab:=H3.o.trans (ab.mono (by have:=H3.o.size;have:=EB.o;omega));have H5:=I ab;have RS:=I aD;clear ab aD)
  |fail)
 obtain⟨N0,aU⟩:=Ah (w5.heap.size);have EN:=I aU;clear aU;have aV:(Dc ks u n m).length=m:=BI ks u n m;have br:=I aV;clear aV
 go_loopw [12,13] (fun aY iv wr=>∃i:Nat,i<=m/\iv=.int .i64 (i:Int)/\wr.ownsRow N0 5 1 aY i (bvs ((mixL ks u n p).take i))/\Below N0 w5 wr) (fun _ iv _=>m - (intOf iv).toNat)
 case atStart=>exact⟨0,Nat.zero_le _,rfl,⟨rfl,.inl ⟨rfl,rfl⟩⟩,Below.refl _ _⟩
 case round=>
  obtain⟨i,hi,rfl,aj,aE⟩:=hrel;have HO:=I aj;clear aj;have HW:=I aE;clear aE
  by_cases hx:i=m
  ·subst hx
   go_wp2_with fail
   go_ret;have h9:=HO.o;rw[List.take_of_length_le (by rw[Bq,HM.o];exact Nat.le_refl _)] at h9;refine⟨_,rfl,h9.mono (by have:=EN.o;have:=H5.o.size;omega),?_⟩;rw[<-EB.o];exact H5.o.trans (HW.o.mono (by have:=EN.o;have:=H5.o.size;have:=EB.o;omega))
  ·have az:i<m:=by omega
   have au:i<p.length:=by have:=HM.o;omega
   have e1:(i:Int)<(m:Int):=by omega
   have e2:(0:Int)<=(i:Int):=by omega
   have e3:(i:Int)<1000:=by omega
   have aR:i<(Dc ks u n p.length).length:=by rw[BI];exact au
   have ak:i<(Dc ks u n m).length:=by rw[BI];exact az
   obtain⟨y,ey⟩:=Ah (p[i]);obtain⟨x,ex⟩:=Ah ((Dc ks u n p.length)[i]);obtain⟨z,ez⟩:=Ah (y ^^^ x);obtain⟨b1,o1,rfl,an,ay⟩:=HR.o.at_ (DH au);obtain⟨b2,o2,rfl,aW,ar⟩:=RS.o.at_ (DH ak);rw[<-ey] at ay;have hex:(Dc ks u n m)[i]=x:=by
    rw[ex];have:=HM.o;subst this
    rfl
   rw[hex] at ar;have ao:b1<N0:=by have:=EN.o;have:=H5.o.size;have:=EB.o;omega
   have ah:b2<N0:=by have:=EN.o;omega
   have d1:wr.cell? ⟨b1,o1+i,none⟩=some (.int .u8 (y.toNat:Int)):=(HW.o.cell (p:=⟨b1,o1+i,none⟩) ao).trans ((H5.o.cell (p:=⟨b1,o1+i,none⟩) an).trans ay);have d2:wr.cell? ⟨b2,o2+i,none⟩=some (.int .u8 (x.toNat:Int)):=(HW.o.cell (p:=⟨b2,o2+i,none⟩) ah).trans ar;have bo:bits .xor .u8 (y.toNat:Int) (x.toNat:Int)=(z.toNat:Int):=by rw[ez];exact Xl y x
   have aB:=PN ks u n p i au aR;rw[<-ey,<-ex,<-ez] at aB;have NX:=I aB;clear aB;have HX:=I hx;clear hx;have HI:=I hi;clear hi;clear ey ex ez ay ar hex aR ak an aW ao ah
   go_wp2_with fail
   go_region_law (refine step_append_lies _ (by rfl) (.tmp 35) (.tmp 45) 25 (by rfl) N0 5 ib _ 1 1 Tryz.underlying25 aZ bg bj ba (by rfl) (by decide) u12 i (bvs ((mixL ks u n p).take i)) (by rfl) (DC HO.o (by rfl)) ⟨wr.heap.size,0,none⟩ 1 1 [.int .u8 (z.toNat:Int)] (by rfl) (by rfl) (Sp.Kg (by rfl)) (by simp [Value.oneCell']) (by decide) (by have:=HI.o;have:=aS.o;unfold maxLen;omega) (by have:=HI.o;have:=aS.o;omega) (by have:=EN.o;have:=HW.o.size;simp;omega) (wr.heap.size+1) (by simp) ?_;intro g2 bn w2 Y D bm az)
   all_goals (
    have aM:(wr.alloc (.cells #[.int .u8 (z.toNat:Int)] 5)).grownBy w2 u12.ownBlock:=⟨D.os,D.tape,D.output,D.size,D.block⟩;have aa:=(HW.o.alloc (by have:=EN.o;have:=HW.o.size;omega) (Obj.cells #[.int .u8 (z.toNat:Int)] 5)).grown aM (by have:=EN.o;have:=HW.o.size;simp;omega) (fun q hq=>(HO.o.lt q hq).1);have O6:=I Y;clear Y;have B6:=I aa;clear aa;clear D bm az aM d1 d2
    go_wp2_with fail
    go_roundw
    case rel=>exact⟨i+1,by omega,by go_num,by rw[<-NX.o];exact O6.o,B6.o⟩
    case measure=>simp [intOf];omega)
theorem FJ {w w':World} {b o:Nat} {cs:List Value} {row:Option Nat} (h:w.rangeAt b o cs) (F:b<w.heap.size) (E:w.grownBy w' row) (M:row≠some b):w'.rangeAt b o cs:=fun j v D=>
 (World.cell?_of_block (a:=⟨b,o+j,none⟩) (E.block b F (fun e=>M e.symm))).trans (h j v D)
theorem DW {w w':World} {b o:Nat} {cs:List Value} (h:w.rangeAt b o cs) (E:b<w.heap.size) (D:Below w.heap.size w w'):w'.rangeAt b o cs:=FJ h E (Bo D none) (by simp)
theorem dtag (ks:Nat->UInt8) (u:Nat) (A:Option Addr) (m c:Nat) (l:List UInt8) (w:World) (hu:u<=255) (hm:m=l.length) (aR:m<=1000) (hr:Rd w w.heap.size A (bvs l)) :
  Calls Tryz.prog 46 #[.agg (AT ks),.int .i64 (u:Int),.slice A m c] w fun e w'=>∃v,e=.returned v/\w'.ownsRow w.heap.size 5 1 v 8 (bvs (w8 (tagL ks u l)))/\Below w.heap.size w w':=by
 obtain⟨ib,aY,bm,bb,aZ⟩:=info_parts Si.BP;obtain⟨B,eB⟩:=Ah (w.heap.size);have ch:=fun E=>PM ks E
 have i32:=My ks;have i16:=Im ks;have X:=Im (k2 ks);have ao:=PB ks;have ah:=PB (k2 ks);have av:=AZ ks;have ab:=AZ (k2 ks);obtain⟨T,eT⟩:=Ah (tagL ks u l);have aM:T<18446744073709551616:=by rw[eT];exact Lm _ _ _
 have Y:=fun(w4:World) (A4:Option Addr) (c4:Nat) (h1:1+m<=c4) (h2:c4<=maxLen) (h3:Rd w4 w4.heap.size A4 (bvs (UInt8.ofNat u :: l)))=>Si.RW (k2 ks) A4 (1+m) c4 (UInt8.ofNat u :: l) w4 (by rw[List.length_cons,hm,Nat.add_comm]) (by omega) h1 h2 h3
 have hT:∀e,e=Ending.returned (Si.wv (Si.GC (k2 ks) (UInt8.ofNat u :: l)))->e=.returned (.int .u64 (T:Int)):=fun e h=>by rw[h,eT];rfl
 have an:[Value.int .u8 (u:Int)]++bvs l=bvs (UInt8.ofNat u :: l):=by
  show [Value.int .u8 (u:Int)]++bvs l=bv (UInt8.ofNat u) :: bvs l;rw[TY u hu];rfl
 obtain⟨kc,az⟩:=Ah (AT ks);obtain⟨cs,aH⟩:=Ah (Sp.AF ks);have aW:∃dl:List Value,dl.toArray=Sp.AF (k2 ks):=⟨_,rfl⟩;obtain⟨dl,ax⟩:=aW;obtain⟨L,eL⟩:=Ah (UInt8.ofNat u :: l);rw[<-az] at ch i32⊢;rw[<-aH] at ch i16 ao av;rw[<-ax] at ch X ah ab;have aA:Si.AF (k2 ks)=Sp.AF (k2 ks):=rfl;rw[aA,<-ax] at Y;rw[<-eL] at Y hT an;rw[<-eT];have u16:(Tryz.prog.info? 166).map (·.size)=some dl.length:=by rw[<-List.size_toArray];exact X
 have ad:=Tryz.underlying166;have bp:(u:Int)<=255:=by omega
 have bq:(0:Int)<=(u:Int):=by omega
 have bn:(u:Int) % 256=(u:Int):=by omega
 have bo:IntKind.u8.wrap (u:Int)=(u:Int):=by rw[IntKind.wrap_u8'];exact bn
 have EB:=I eB;have HR:=I (eB▸hr);clear hr;have HM:=I hm;clear hm;have q3:(m:Int)<=1000:=by omega
 have aG:=I aR;clear aR;have aU:=I i32;clear i32;have aV:=I i16;clear i16;have aS:=I X;clear X;have bl:=I ao;clear ao;have aD:=I ah;clear ah;have aN:=I av;clear av;have aj:=I ab;clear ab;have aF:=I Y;clear Y;have HT:=I hT;clear hT;have bj:=I an;clear an;have TL:=I aM;clear aM;have ba:=I u16;clear u16;have aO:=I ad;clear ad;have al:Below B w (w.alloc (.cells kc 31)):=eB▸(Below.refl w.heap.size w).alloc Ae _;have bf:=I al;clear al;clear hu az aH ax eT eL aA eB;go_enter Tryz.func46,Tryz.ntmps46
 go_upto_region 2 with(first
  |(refine Ac (by rfl) 31 (.tmp 3) (by rfl) w.heap.size 0 (by rfl) kc _ (Si.Ab (Blk.new w 31 kc)) Tryz.underlying31 (by rfl) aU.o ?_)
  |(go_at_call 86;refine Ag (ch _) ?_;rintro E ai;clear ch;have ai:=bf.o.trans (ai.mono (by have:=EB.o;simp;omega));have H1:=I ai;clear ai)
  |(refine wpList_store_mid (by rfl) 166 (.tmp 7) (.tmp 12) (by rfl) E.heap.size 0 cs (by rfl) (by rfl) (by rw[aN.o];exact World.there_alloc (by have:=Si.Ak (Blk.new E 166 (Sp.AF fun _=>0));rwa [AZ] at this) _) aV.o bl.o ?_)
  |(refine wpList_store_mid (by rfl) 166 (.tmp 8) (.tmp 13) (by rfl) (E.heap.size+1) 0 dl.toArray (by rfl) (by rfl) (by rw[aj.o];exact World.there_setCells (by have:=Si.Ak (Si.Blk.new_of (E.alloc (.cells (Sp.AF fun _=>0) 166)) (E.heap.size+1) 166 _ (Sp.AF fun _=>0) rfl (by simp));rwa [AZ] at this) _ _ _) aS.o aD.o ?_)
  |fail)
 have h2:=IX E (Sp.AF fun _=>0) 166 cs dl.toArray (by rw[AZ,aN.o]) (by rw[AZ,aj.o]);change Code.wp _ _ _ _ (twoW E (Sp.AF fun _=>0) 166 cs dl.toArray);generalize twoW E (Sp.AF fun _=>0) 166 cs dl.toArray=W2 at h2⊢;have aP:=H1.o.trans (h2.2.2.1.mono (by have:=H1.o.size;have:=EB.o;omega));have aE:Hid (Below B w W2.drew):=below_drewN aP 1;have ar:W2.drew.rangeAt (E.heap.size+1) 0 dl:=by have:=h2.2.1;simpa using this
 have bd:=I (show E.heap.size+2<=W2.drew.heap.size from h2.2.2.2);clear h2 aP;have ad:=aO.o;have u16:=ba.o;simp only[Act.put];have aX:Hid ((W2.alloc (.cells #[.int .u8 (u:Int)] 5)).drew.ownsRow W2.heap.size 5 1 (.slice (some ⟨W2.heap.size,0,none⟩) 1 1) 1 [.int .u8 (u:Int)]):=World.ownsRow_lit (base:=W2.heap.size) (e:=5) (size:=1) W2.drew #[.int .u8 (u:Int)] 1 Ae (by decide) (by rfl);have ay:B<=W2.drew.heap.size:=by have:=aE.o.size;have:=EB.o;omega
 have aL:Hid (Below B w (W2.alloc (.cells #[.int .u8 (u:Int)] 5)).drew):=aE.o.alloc ay (.cells #[.int .u8 (u:Int)] 5);have bg:Hid (Rd (W2.alloc (.cells #[.int .u8 (u:Int)] 5)).drew B A (bvs l)):=HR.o.below aL.o;have ae:(W2.alloc (.cells #[.int .u8 (u:Int)] 5)).drew.rangeAt (E.heap.size+1) 0 dl:=World.rangeAt_alloc ar (.cells #[.int .u8 (u:Int)] 5);have F:Hid ((W2.alloc (.cells #[.int .u8 (u:Int)] 5)).drew.heap.size=W2.heap.size+1):=by show(W2.alloc _).heap.size=_;simp
 have O:Hid (E.heap.size+2<=W2.heap.size):=bd.o;have aT:Hid (B<=W2.heap.size):=ay;clear ay
 go_region_held3 (fun w'=>w'.rangeAt (E.heap.size+1) 0 dl) (first | exact ar | exact ae | exact au | exact aw | exact aJ) (first
  |(rw[if_pos (by rfl)];refine Eu _ (.tmp 17) (.tmp 18) 25 (by rfl) W2.heap.size 5 ib _ 1 Tryz.underlying25 aY bm bb aZ (by rfl) _ 1 [.int .u8 (u:Int)] (by rfl) aX.o B A m c (bvs l) (by rfl) (by rw[Ao];exact HM.o) bg.o (Bz _) (by have:=aG.o;unfold maxLen;omega) (by have:=aG.o;omega) (by have:=F.o;omega) ?_;intro v4 w4 M D aK;rw[bj.o] at M;have au:w4.rangeAt (E.heap.size+1) 0 dl:=FJ ae (by have:=F.o;have:=O.o;omega) D (by have:=O.o;simp [Value.ownBlock];omega);have aC:Below B w w4:=aL.o.grown D (by have:=F.o;have:=aT.o;omega) (fun k hk=>by have:=aT.o;simp [Value.ownBlock] at hk;omega);obtain⟨A4,c4,bh,aI,aB,aQ⟩:=FI (S:=fun _=>False) M (fun _ _ x=>x);subst bh;have af:=aF.o w4 A4 c4 aI aB aQ.rd;have H4:=I aC;have Z4:=I D.size;clear M D aK aC aI aB aQ)
  |(go_at_call 87;refine Calls.mono af ?_;rintro e w5 ⟨he,Z⟩;have he:=HT.o e he;subst he;clear af;have aw:w5.rangeAt (E.heap.size+1) 0 dl:=DW au (by have:=Z4.o;have:=F.o;have:=O.o;omega) Z;have Z5:=I Z.size;have Z:=H4.o.trans (Z.mono (by have:=H4.o.size;have:=EB.o;omega));have ak:=dbig T w5 TL.o;have H5:=I Z;clear Z)
  |(go_at_call 79;refine Calls.mono ak ?_;rintro e w6 ⟨v6,rfl,ag,aa⟩;clear ak;have aJ:w6.rangeAt (E.heap.size+1) 0 dl:=DW aw (by have:=Z4.o;have:=Z5.o;have:=F.o;have:=O.o;omega) aa;have aa:=H5.o.trans (aa.mono (by have:=H5.o.size;have:=EB.o;omega));have H6:=I aa;have O6:=I ag;have Z6:=I H5.o.size;clear aa ag))
 all_goals (
  clear ar ae au aw aJ
  go_wp2_with fail
  go_ret;exact⟨_,rfl,O6.o.mono (by have:=Z6.o;have:=EB.o;omega),EB.o▸H6.o⟩)
theorem PO (ks:Nat->UInt8) (u n:Int) (A:Option Addr) (m c:Nat) (w:World) (Z:¬(0<=u/\u<=255/\0<=n/\n<=1099511627776/\m<=784)) :
  Calls Tryz.prog 38 #[.agg (AT ks),.int .i64 u,.int .i64 n,.slice A m c] w fun e w'=>e=.returned (.tuple #[.slice none 0 0,.int .i64 1])/\Below w.heap.size w w':=by
 obtain⟨Y,D⟩:=Ah (AT ks);rw[<-D];have t:(decide (u<0)=true)\/(decide (u<0)=false/\decide (255<u)=true)\/(decide (u<0)=false/\decide (255<u)=false/\decide (n<0)=true)\/(decide (u<0)=false/\decide (255<u)=false/\decide (n<0)=false/\decide (1099511627776<n)=true)\/(decide (u<0)=false/\decide (255<u)=false/\decide (n<0)=false/\decide (1099511627776<n)=false/\decide (784<(m:Int))=true):=by
  simp only[decide_eq_true_eq,decide_eq_false_iff_not];omega
 have O:=I ((Below.refl w.heap.size w).alloc Ae (.cells Y 31));clear Z D;rcases t with E | ⟨E,F⟩ | ⟨E,F,M⟩ | ⟨E,F,M,X⟩ | ⟨E,F,M,X,t5⟩<;>(
  go_enter Tryz.func38,Tryz.ntmps38
  go_wp2
  go_ret2
  exact⟨rfl,O.o⟩)
theorem PQ (ks:Nat->UInt8) (u n:Nat) (A:Option Addr) (m c:Nat) (p:List UInt8) (w:World) (hu:u<=255) (hn:n<=1099511627776) (hm:m=p.length) (ak:m<=784) (hr:Rd w w.heap.size A (bvs p)) :
  Calls Tryz.prog 38 #[.agg (AT ks),.int .i64 (u:Int),.int .i64 (n:Int),.slice A m c] w fun e w'=>∃A2 c2,e=.returned (.tuple #[.slice A2 (m+16) c2,.int .i64 0])/\RdA (fun i=>i<w.heap.size) w' A2 (bvs (Dg ks u n p))/\Below w.heap.size w w'/\m+16<=c2/\c2<=maxLen:=by
 obtain⟨ib,aA,aM,aV,aC⟩:=info_parts Si.BP;obtain⟨B,eB⟩:=Ah (w.heap.size);have aa:=fun(w1:World) (h1:Rd w1 w1.heap.size A (bvs p))=>dmix ks u n A m c p w1 hu (by omega) hm (by omega) h1
 have ad:=fun(w1:World)=>dbig n w1 (by omega)
 obtain⟨L,eL⟩:=Ah (Ee ks u n p);have an:bvs (w8 n)++bvs (mixL ks u n p)=bvs L:=by rw[eL,Ee,Bw]
 have aG:8+m=L.length:=by rw[eL,BK,<-hm]
 have Y:=fun(w1:World) (A1:Option Addr) (c1:Nat) (h1:Rd w1 w1.heap.size A1 (bvs L))=>dtag ks u A1 (8+m) c1 L w1 hu aG (by omega) h1
 have ah:bvs L++bvs (w8 (tagL ks u L))=bvs (Dg ks u n p):=by rw[eL,<-Bw];rfl
 have au:(bvs (mixL ks u n p)).length=m:=by rw[Ao,Bq,hm]
 obtain⟨M,eM⟩:=Ah (bvs (mixL ks u n p));obtain⟨W8,aF⟩:=Ah (bvs (w8 n));obtain⟨T8,aj⟩:=Ah (bvs (w8 (tagL ks u L)));have oM:∀v∈M,v.oneCell'=true:=eM▸Bz _;have oT:∀v∈T8,v.oneCell'=true:=aj▸Bz _;have aL:T8.length=8:=by rw[aj,Ao,Db]
 rw[<-eM] at aa an au;rw[<-aF] at ad an;rw[<-aj] at Y ah;have bs:∃kl:List Value,kl.toArray=AT ks:=⟨_,rfl⟩;obtain⟨kl,ao⟩:=bs;have u32:(Tryz.prog.info? 31).map (·.size)=some kl.length:=by rw[<-List.size_toArray,ao];exact My ks
 have aH:=Tryz.underlying31;rw[<-ao] at aa Y⊢;have q1:(n:Int)<=1099511627776:=by omega
 have q2:(0:Int)<=(n:Int):=by omega
 have q3:(m:Int)<=784:=by omega
 have q4:IntKind.u64.wrap (n:Int)=(n:Int):=by rw[IntKind.wrap_u64];omega
 have q5:(n:Int) % 18446744073709551616=(n:Int):=by omega
 have t1:decide ((u:Int)<0)=false:=by simp
 have t2:decide (255<(u:Int))=false:=by simp;omega
 have t3:decide ((n:Int)<0)=false:=by simp
 have t4:decide (1099511627776<(n:Int))=false:=by simp;omega
 have t5:decide (784<(m:Int))=false:=by simp;omega
 have EB:=I eB;have HR:=I (eB▸hr);clear hr;have al:=I ak;clear ak;have aE:=I aa;clear aa;have aY:=I ad;clear ad;have az:=I Y;clear Y;have aZ:=I an;clear an;have aK:=I ah;clear ah;have bn:=I au;clear au;have bj:=I aL;clear aL;have OM:=I oM;clear oM;have OT:=I oT;clear oT;have aw:(w.alloc (.cells kl.toArray 31)).drew.rangeAt w.heap.size 0 kl:=by have:=Si.Ab (Blk.new w 31 kl.toArray);simpa using this
 have bq:Hid (Below B w (w.alloc (.cells kl.toArray 31)).drew):=eB▸below_drewN ((Below.refl w.heap.size w).alloc Ae _) 1;have ai:Hid ((w.alloc (.cells kl.toArray 31)).drew.heap.size=B+1):=by show(w.alloc _).heap.size=_;simp [eB]
 have cb:=aY.o (w.alloc (.cells kl.toArray 31)).drew;clear hu hn hm aG eM aF aj ao eB eL;go_enter Tryz.func38,Tryz.ntmps38
 go_upto_region 3 with fail
 go_region_held3 (fun w'=>w'.rangeAt w.heap.size 0 kl) (first | exact aw | exact ax | exact ar | exact av) (first
  |(rw[if_pos (by rfl)];refine Eu _ (.tmp 32) (.tmp 38) 25 (by rfl) (B+1) 5 ib _ 1 Tryz.underlying25 aA aM aV aC (by rfl) v1 8 W8 (by rfl) O2.o w2.heap.size A2 m c2 M (by rfl) bn.o.symm R2.o OM.o (by have:=al.o;unfold maxLen;omega) (by have:=al.o;omega) (by have:=Z2.o;omega) ?_;intro v3 w3 E D aS;rw[aZ.o] at E;have av:w3.rangeAt w.heap.size 0 kl:=FJ ar (by have:=Z2.o;have:=EB.o;omega) D (fun hx=>by have:=Ez O2.o _ hx;have:=EB.o;omega);have aU:Below B w w3:=H2.o.grown D (by have:=Z2.o;omega) (fun k hk=>by have:=Ez O2.o _ hk;omega);obtain⟨A3,c3,bl,bm,bo,aN⟩:=FI (S:=fun _=>False) E (fun _ _ x=>x);subst bl;have ct:=az.o w3 A3 c3 aN.rd;have H3:=I aU;have O3:=I E;have Z3:=I (Nat.le_trans Z2.o D.size);clear E D aS aU bm bo aN)
  |(go_at_call 79;refine Calls.mono cb ?_;rintro e w1 ⟨v1,rfl,ag,O⟩;clear cb;have ax:w1.rangeAt w.heap.size 0 kl:=DW aw (by have:=ai.o;have:=EB.o;omega) O;have ay:B+1<=w1.heap.size:=by{have:=ai.o;have:=O.size;omega};have O:=bq.o.trans (O.mono (by have:=ai.o;omega));have cm:=aE.o w1 ((HR.o.below O).more (by omega));have H1:=I O;have O1:=I (ag.mono (base':=B+1) (by have:=ai.o;omega));have Z1:=I ay;clear O ag ay)
  |(go_at_call 47;refine Calls.mono cm ?_;rintro e w2 ⟨v2,rfl,ae,X⟩;clear cm;have ar:w2.rangeAt w.heap.size 0 kl:=DW ax (by have:=Z1.o;have:=EB.o;omega) X;have aQ:B+1<=w2.heap.size:=Nat.le_trans Z1.o X.size;have aI:=Cs O1.o X;obtain⟨A2,c2,ba,bf,ak,aO⟩:=FI (S:=fun _=>False) ae (fun _ _ x=>x);subst ba;have X:=H1.o.trans (X.mono (by have:=Z1.o;omega));have H2:=I X;have O2:=I aI;have Z2:=I aQ;have R2:=I aO.rd;clear X ae aQ aI bf ak aO))
 all_goals (
  have br:Hid (w3.rangeAt w.heap.size 0 kl.toArray.toList):=av;have bh:Hid ((Tryz.prog.info? 31).map (·.size)=some kl.toArray.size):=by rw[List.size_toArray];exact u32
  clear aw ax ar av u32 aH O X
  go_wp2_with (first
   |(refine Ac (by rfl) 31 (.tmp 4) (by rfl) w.heap.size 0 (by rfl) kl.toArray _ br.o Tryz.underlying31 (by rfl) bh.o ?_)
   |(go_at_call 46;refine Calls.mono ct ?_;rintro e w4 ⟨v4,rfl,af,ab⟩;clear ct;have aX:=Cs O3.o ab;have aB:=Nat.le_trans Z3.o ab.size;have ab:=H3.o.trans (ab.mono (by have:=Z3.o;omega));obtain⟨A4,c4,bg,bp,bb,aW⟩:=FI (S:=fun _=>False) af (fun _ _ x=>x);subst bg;have H4:=I ab;have O4:=I aX;have Z4:=I aB;have R4:=I aW.rd;clear ab af aX aB bp bb aW)
   |(at_builtin;refine Av _ (by rfl) (.tmp 40) (.tmp 44) 25 (by rfl) (B+1) 5 ib _ 1 Tryz.underlying25 aA aM aV aC (by rfl) _ (8+m) (bvs L) (by rfl) O4.o w4.heap.size A4 8 c4 T8 (by rfl) bj.o.symm R4.o OT.o (by have:=al.o;unfold maxLen;omega) (by have:=al.o;omega) (by have:=Z4.o;omega) ?_;intro v5 w5 F Z aT;rw[aK.o] at F;have aD:=H4.o.grown Z (by have:=Z4.o;omega) (fun k hk=>by have:=Ez O4.o k hk;omega);obtain⟨A5,c5,bd,aR,aJ,aP⟩:=FI (S:=fun i=>i<w.heap.size) F (fun k hk hx=>by have:=Ez F k hk;have:=EB.o;omega);subst bd;have H5:=I aD;have R5:=I aP;have C5:=I (And.intro aR aJ);clear F Z aT aD aR aJ aP)
   |fail)
  go_ret2
  exact⟨A5,c5,by show Ending.returned (.tuple #[.slice A5 (8+m+8) c5,.int .i64 0])=_;rw[show 8+m+8=m+16 by omega],R5.o,EB.o▸H5.o,by have:=C5.o.1;omega,C5.o.2⟩)
theorem Sf (ks:Nat->UInt8) (u n:Nat) (A:Option Addr) (m c:Nat) (p:List UInt8) (w:World) (hu:u<=255) (M:n<=1099511627776) (hm:m=p.length) (D:m<=784) (O:Rd w w.heap.size A (bvs p)) :
  Calls Tryz.prog 38 #[.agg (AT ks),.int .i64 (u:Int),.int .i64 (n:Int),.slice A m c] w fun e w'=>∃A2 c2,e=.returned (.tuple #[.slice A2 (m+16) c2,.int .i64 0])/\RdA (fun i=>i<w.heap.size) w' A2 (bvs (Dg ks u n p))/\Below w.heap.size w w':=by
 refine(PQ ks u n A m c p w hu M hm D O).mono ?_;rintro e w' ⟨A2,c2,F,E,X,_⟩;exact⟨A2,c2,F,E,X⟩
end Se
end Go.Proofs.YtcpccikongbopaaGreat
