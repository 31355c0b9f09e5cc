import Derived.Test.YthgignaohimadaaGreatZKdcRoutes9
set_option maxHeartbeats 25600000
set_option maxRecDepth 100000
set_option linter.unusedVariables false
set_option linter.unusedSimpArgs false
namespace Go.Proofs.YthgignaohimadaaGreat
namespace Open
open Go.ChangeShapes Go.WideShapes Go.ChangeAt Go.RowKit Go.Deep Af
theorem Uc {n:Int} (h:(Lit.int .i64 n).wf=true) : -9223372036854775808<=n/\n<=9223372036854775807:=by
 simpa [Lit.wf,IntKind.min,IntKind.max,IntKind.signed,IntKind.bits] using h
section
variable {H:Type} {enc:TypeId×Value->H} {P:Program} {W:World}
end
end Open
namespace Se
open Go.RowKit Af
theorem WN (b:Nat) (u N:Int) (A:Option Addr) (m c:Nat) (w:World) (J:(Lit.int .i64 N).wf=true) (hm:m<=maxLen) (M:¬(0<=u/\u<=255/\0<=N/\N<=1099511627776/\m<=784)) :
  Calls Tryz.prog 114 #[.pointer (some ⟨b,0,none⟩),.int .i64 u,.int .i64 N,.slice A m c] w fun e w'=>e=.returned (.tuple #[.slice none 0 0,.int .i64 1])/\w'=w:=by
 by_cases h1:0<=u/\u<=255
 ·have D:=Eg u true (by simp;omega)
  by_cases h2:N<0
  ·have Z:decide (N<0)=true:=by simpa using h2
   clear M h1 J hm;go_enter Tryz.func114,Tryz.ntmps114
   go_wp2_with (go_at_call 96;refine Aj (D _) ?_;rintro E hw;have hw:=hw.symm;subst hw;clear D)
   go_ret2
   exact⟨rfl,rfl⟩
  ·obtain⟨n,rfl⟩:∃n:Nat,N=(n:Int):=⟨N.toNat,by omega⟩
   have O:n<9223372036854775808:=by
    have:=Open.Uc J;omega
   have Z:decide ((n:Int)<0)=false:=by simp
   have q4:IntKind.u64.wrap (n:Int)=(n:Int):=by rw[IntKind.wrap_u64];omega
   by_cases h3:n<=1099511627776
   ·have F:=Fx n true (by simp;omega)
    have t3:decide (784<(m:Int))=true:=by simp;omega
    have q1:(n:Int)<=1099511627776:=by omega
    clear M h1 h2 J;go_enter Tryz.func114,Tryz.ntmps114
    go_wp2_with (first
     |(go_at_call 96;refine Aj (D _) ?_;rintro E hw;have hw:=hw.symm;subst hw;clear D)
     |(go_at_call 142;refine Aj (F _) ?_;rintro E hw;have hw:=hw.symm;subst hw;clear F))
    go_ret2
    exact⟨rfl,rfl⟩
   ·have F:=Fx n false (by simp;omega)
    clear M h1 h2 J;go_enter Tryz.func114,Tryz.ntmps114
    go_wp2_with (first
     |(go_at_call 96;refine Aj (D _) ?_;rintro E hw;have hw:=hw.symm;subst hw;clear D)
     |(go_at_call 142;refine Aj (F _) ?_;rintro E hw;have hw:=hw.symm;subst hw;clear F))
    go_ret2
    exact⟨rfl,rfl⟩
 ·have D:=Eg u false (by
   rw[eq_comm,Bool.and_eq_false_iff];rcases Int.lt_or_le u 0 with h | h
   ·exact .inl (by simp;omega)
   ·exact .inr (by simp;omega))
  clear M h1 J;go_enter Tryz.func114,Tryz.ntmps114
  go_wp2_with (go_at_call 96;refine Aj (D _) ?_;rintro E hw;have hw:=hw.symm;subst hw;clear D)
  go_ret2
  exact⟨rfl,rfl⟩
theorem WO (b:Nat) (u:Int) (p:Value) (w:World) (E:¬(0<=u/\u<=255)) :
  Calls Tryz.prog 60 #[.pointer (some ⟨b,0,none⟩),.int .i64 u,p] w fun e w'=>e=.returned (.tuple #[.slice none 0 0,.int .i64 1])/\w'=w:=by
 have D:=Eg u false (by
  rw[eq_comm,Bool.and_eq_false_iff];rcases Int.lt_or_le u 0 with h | h
  ·exact .inl (by simp;omega)
  ·exact .inr (by simp;omega))
 clear E;go_enter Tryz.func60,Tryz.ntmps60
 go_wp2_with (go_at_call 96;refine Aj (D _) ?_;rintro F hw;have hw:=hw.symm;subst hw;clear D)
 go_ret2
 exact⟨rfl,rfl⟩
def Cu (w w':World) (b:Nat) (h h':Option Nat):Prop:=Chg (Ow b h) w w'/\(h'=h\/(h=none/\∃g,h'=some g/\w.heap.size<=g))
theorem Cu.refl (w:World) (b:Nat) (h:Option Nat):Cu w w b h h:=⟨Chg.refl _ _,.inl rfl⟩
theorem Step.o {w w':World} {b g:Nat} {h:Option Nat} (hs:Step w w' b h g):Cu w w' b h (some g):=
 ⟨hs.1,hs.2.imp (fun e=>e.symm) (fun e=>⟨e.1,g,rfl,e.2⟩)⟩
theorem Cu.own {w w':World} {b:Nat} {h E:Option Nat} (hs:Cu w w' b h E):∀i,i<w.heap.size->Ow b E i->Ow b h i:=by
 intro i hi D;rcases hs.2 with rfl | ⟨_,g,rfl,F⟩
 ·exact D
 ·rcases D with D | D
  ·exact .inl D
  ·injection D with D;omega
theorem Cu.trans {a w c:World} {b:Nat} {h E F:Option Nat} (s1:Cu a w b h E) (s2:Cu w c b E F):Cu a c b h F:=by
 refine⟨s1.1.trans s2.1 s1.own,?_⟩;rcases s1.2 with rfl | ⟨e,g,rfl,D⟩
 ·rcases s2.2 with rfl | ⟨e,g,rfl,D⟩
  ·exact .inl rfl
  ·exact .inr ⟨e,g,rfl,Nat.le_trans s1.1.size D⟩
 ·rcases s2.2 with rfl | ⟨J,_⟩
  ·exact .inr ⟨e,g,rfl,D⟩
  ·cases J
theorem Cu.drewN {w w':World} {b:Nat} {h D:Option Nat} (hs:Cu w w' b h D) (k:Nat):Cu w (w'.drewN k) b h D:=⟨⟨hs.1.os,hs.1.tape,hs.1.output,hs.1.size,hs.1.block⟩,hs.2⟩
theorem Fz (S:Nat->Prop) (w:World) (k:Nat):Chg S w (w.drewN k):=⟨rfl,rfl,rfl,Nat.le_refl _,fun _ _ _=>rfl⟩
theorem MY {l:List UInt8} {n:Nat} {P:Prop} (E:n=l.length) (h:8<=n) (D:bvs l = []):P:=by
 have:=Ay l;rw[D] at this;simp at this;omega
theorem RdA.take {S:Nat->Prop} {w:World} {A:Option Addr} {l:List UInt8} (h:RdA S w A (bvs l)) (k:Nat):RdA S w A (bvs (l.take k)):=by
 rcases h with h | ⟨b,o,D,E,F,J⟩
 ·left
  have:l = []:=List.map_eq_nil_iff.1 h;rw[this,List.take_nil];rfl
 ·refine .inr ⟨b,o,D,E,F,fun i u hu=>J i u ?_⟩
  unfold bvs at hu⊢;rw[List.map_take,List.getElem?_take] at hu
  split at hu
  ·exact hu
  ·cases hu
theorem RdA.drop {S:Nat->Prop} {w:World} {b o:Nat} {l:List UInt8} (h:RdA S w (some ⟨b,o,none⟩) (bvs l)) (k:Nat):RdA S w (some ⟨b,o+k,none⟩) (bvs (l.drop k)):=by
 rcases h with h | ⟨N,M,D,E,F,J⟩
 ·left
  have:l = []:=List.map_eq_nil_iff.1 h;rw[this,List.drop_nil];rfl
 ·injection D with D
  injection D with e1 e2;subst e1 e2;refine .inr ⟨b,o+k,rfl,E,F,fun i u hu=>?_⟩;unfold bvs at hu;rw[List.map_drop,List.getElem?_drop] at hu;have:=J (k+i) u hu
  rwa [<-Nat.add_assoc] at this
theorem Ud {ks:Nat->UInt8} {u:Nat} {l:List UInt8} (h:l.length<16\/800<l.length\/1099511627776<n8 l):isL ks u l=false:=by
 unfold isL;rcases h with h | h | h
 ·rw[show decide (16<=l.length)=false by simp;omega];simp
 ·rw[show decide (l.length<=800)=false by simp;omega];simp
 ·rw[show decide (n8 l<=1099511627776)=false by simp;omega];simp
theorem WQ {ks:Nat->UInt8} {u:Nat} {l:List UInt8} (D:16<=l.length) (E:l.length<=800) (F:n8 l<=1099511627776):isL ks u l=decide (tagL ks u (Ig l)=n8 (Fq l)):=by
 unfold isL;rw[show decide (16<=l.length)=true by simpa using D,show decide (l.length<=800)=true by simpa using E,show decide (n8 l<=1099511627776)=true by simpa using F];simp
theorem Cu.aw {w w':World} {b n:Nat} {h E:Option Nat} (hs:Cu w w' b h E):Chg (Aw b h n) w w':=hs.1.mono fun i _ D=>.inl D
theorem Cu.rda {w w':World} {b:Nat} {h D:Option Nat} {A:Option Addr} {xs:List Value} (hs:Cu w w' b h D) (E:RdA (Ow b h) w A xs):RdA (Ow b D) w' A xs:=
 E.keep hs.1 (fun _ _ x=>x) hs.own
def ksOf (l:List UInt8) (i:Nat):UInt8:=l.getD i 0
theorem WR (ks:Nat->UInt8) (u n:Nat) (p:List UInt8) (D:n<=1099511627776) (hp:p.length<=784):isL ks u (DI ks u n p)=true:=by
 have h:=Hc ks u n p D hp;unfold ZW at h
 split at h
 ·assumption
 ·cases h
theorem WS (ks:Nat->UInt8) (u n:Nat) (p:List UInt8) (D:n<=1099511627776):mixL ks u (n8 (DI ks u n p)) (midL (DI ks u n p))=p:=by
 rw[PS,Oz ks u n p (by omega),TP]
theorem RdA.o {w w':World} {b g:Nat} {h:Option Nat} {A:Option Addr} {xs:List Value} {ks:Nat->UInt8} {a o r:Nat} (F:RdA (Nw w.heap.size g) w' A xs) (E:Box w b ks h a o r):RdA (Ow b (some g)) w' A xs:=F.mono fun i _ D=>by
 rcases D with D | D
 ·exact .inl (D▸E.lt)
 ·injection D with D;exact .inr D.symm
def k1:Nat->UInt8:=fun i=>if i=0 then 1 else 0
end Se
namespace SeL
open Go.RowKit Af Se
theorem ab {b g i:Nat} (h:Ow b (some g) i):i=b\/i=g:=by
 rcases h with h | h
 ·exact .inl h
 ·injection h with h;exact .inr h.symm
end SeL
namespace SpL
open Go.RowKit Af Sp
theorem Jc (K:Nat->Wd) (up lo:Wd) (i j:Nat) (J:j<4):(Ev K up lo (8*i+j)).toNat=(Ce K (up,lo+BitVec.ofNat 32 i)).1.toNat / 256 ^ j % 256:=by
 have D:(8*i+j) / 8=i:=by omega
 have E:(8*i+j) % 8=j:=by omega
 rw[Ev,D,E,UInt8.toNat_ofNat',Km];have F:=Gu (Ce K (up,lo+BitVec.ofNat 32 i)).1;have h:j=0\/j=1\/j=2\/j=3:=by omega
 rcases h with rfl | rfl | rfl | rfl<;>simp only[Nat.reducePow]<;>omega
theorem Jd (K:Nat->Wd) (up lo:Wd) (i j:Nat) (J:j<4):(Ev K up lo (8*i+4+j)).toNat=(Ce K (up,lo+BitVec.ofNat 32 i)).2.toNat / 256 ^ j % 256:=by
 have D:(8*i+4+j) / 8=i:=by omega
 have E:(8*i+4+j) % 8=4+j:=by omega
 rw[Ev,D,E,UInt8.toNat_ofNat',Km];have F:=Gu (Ce K (up,lo+BitVec.ofNat 32 i)).1;have h:j=0\/j=1\/j=2\/j=3:=by omega
 rcases h with rfl | rfl | rfl | rfl<;>simp only[Nat.reducePow,Nat.reduceAdd]<;>omega
def cZ (w:World) (g:Nat) (cs:Array Value):Prop:=w.rangeAt g 0 cs.toList
theorem Ko {P:Program} {ops:Array Oper} {rest:List Oper} {op:Oper} {a:Act} {w:World} {Q:Exit->Act->World->Prop} (D:op.guard=none) (ty:TypeId) (x:Operand) (F:op.op=.load ty x)
  (g:Nat) (E:a.eval x=.pointer (some ⟨g,0,none⟩)) (cs:Array Value) (d:TypeDesc) (M:cZ w g cs)
  (hu:P.underlying ty=some d) (J:d.isRow=true) (hi:(P.info? ty).map (·.size)=some cs.size)
  (h:wpList P ops Q rest (a.put op.dst (.agg cs)) w):wpList P ops Q (op :: rest) a w:=
 wpList_load_mid D ty x F g 0 E cs.toList d M hu J (by rw[Array.length_toList];exact hi) (by simpa using h)
theorem Ex (b:Nat):∀(D:List Value) (o:Nat) (w:World),(w.setCells b o D).heap.size=w.heap.size
 | [],_,_=>rfl
 |v :: r,o,w=>by rw[World.setCells,Ex b r];simp [World.setCell]
theorem Yq (K:Nat->Wd):(AX K).size=27:=by simp [AX]
theorem da (K:Nat->Wd):(Tryz.prog.info? 195).map (·.size)=some (AX K).size:=by rw[Yq];kernel_rfl
def eight (x y:Wd):List Value:=[.int .u8 ((x.toNat:Int) % 256),.int .u8 ((x.toNat:Int) / 256 % 256),.int .u8 ((x.toNat:Int) / 65536 % 256),.int .u8 ((x.toNat:Int) / 16777216),
 .int .u8 ((y.toNat:Int) % 256),.int .u8 ((y.toNat:Int) / 256 % 256),.int .u8 ((y.toNat:Int) / 65536 % 256),.int .u8 ((y.toNat:Int) / 16777216)]
theorem Rl (K:Nat->Wd) (up lo:Wd) (i:Nat):bvs (strm K up lo (8*i))++eight (Ce K (up,lo+BitVec.ofNat 32 i)).1 (Ce K (up,lo+BitVec.ofNat 32 i)).2=bvs (strm K up lo (8*(i+1))):=by
 have e:strm K up lo (8*(i+1))=strm K up lo (8*i)++[Ev K up lo (8*i+0),Ev K up lo (8*i+1),Ev K up lo (8*i+2),Ev K up lo (8*i+3),Ev K up lo (8*i+4+0),Ev K up lo (8*i+4+1),Ev K up lo (8*i+4+2),Ev K up lo (8*i+4+3)]:=by
  unfold strm;rw[show 8*(i+1)=8*i+1+1+1+1+1+1+1+1 by omega];simp [List.range_succ]
 rw[e,Bu]
 congr 1
 have D:=Jc K up lo i 0 (by decide);have a1:=Jc K up lo i 1 (by decide);have F:=Jc K up lo i 2 (by decide);have a3:=Jc K up lo i 3 (by decide);have E:=Jd K up lo i 0 (by decide);have b1:=Jd K up lo i 1 (by decide);have b2:=Jd K up lo i 2 (by decide);have b3:=Jd K up lo i 3 (by decide);have J:=Gu (Ce K (up,lo+BitVec.ofNat 32 i)).1;have M:=Gu (Ce K (up,lo+BitVec.ofNat 32 i)).2;rw[show((Ce K (up,lo+BitVec.ofNat 32 i)).1.toNat / 256 ^ 3 % 256)=(Ce K (up,lo+BitVec.ofNat 32 i)).1.toNat / 16777216 by simp only[Nat.reducePow];omega] at a3;rw[show((Ce K (up,lo+BitVec.ofNat 32 i)).2.toNat / 256 ^ 3 % 256)=(Ce K (up,lo+BitVec.ofNat 32 i)).2.toNat / 16777216 by simp only[Nat.reducePow];omega] at b3;simp only[bvs,List.map_cons,List.map_nil,bv,eight,D,a1,F,a3,E,b1,b2,b3];simp
theorem Rd.take {w:World} {B:Nat} {A:Option Addr} {xs:List Value} (h:Rd w B A xs) (m:Nat):Rd w B A (xs.take m):=by
 rcases h with h | ⟨b,o,D,E,F⟩
 ·rw[h];exact .inl (by simp)
 ·refine .inr ⟨b,o,D,E,fun i u hu=>F i u ?_⟩
  rw[List.getElem?_take] at hu
  split at hu
  ·exact hu
  ·cases hu
theorem bt' {B:Nat} {a w c:World} (h:Below B a w) (hB:B+1<=w.heap.size) (k:Below w.heap.size w c):Below B a c:=Ho h (by omega) k
theorem ad (K:Nat->Wd) (N m:Nat) (n:Int) (w:World) (hN:N<18446744073709551616) (hm:m<=1000) (hn:m=n.toNat) :
  Calls Tryz.prog 90 #[.agg (AX K),.int .u64 (N:Int),.int .i64 n] w fun e w'=>∃A c,e=.returned (.slice A m c)/\m<=c/\Rd w' w'.heap.size A (bvs (strm K (upW N) (loW N) m))/\Below w.heap.size w w':=by
 obtain⟨B,eB⟩:=Ak (w.heap.size);rw[<-eB];have EB:=I eB;have ca:=Yq K;have cd:=da K;obtain⟨cs,F⟩:=Ak (AX K);rw[<-F] at ca cd;have cB:=bX K;rw[<-F] at cB;rw[<-F];obtain⟨ib,cR,ef,cL,cP⟩:=info_parts BY;have eu:=I ca;clear ca;have eb:=I cd;clear cd;have er:=I F;clear F;have NN:=I hN;clear hN;have HM:=I hm;clear hm;have HN:=I hn;clear hn;have cw:Blk (w.alloc (.cells cs 195)) B 195 cs:=Blk.new_of w B _ _ _ rfl eB.symm;have ei:=I cw;clear cw;go_enter Tryz.func90,Tryz.ntmps90
 go_wp2_with fail
 rw[<-eB];clear eB
 go_loopw [7,8] (fun cQ iv wr=>∃i:Nat,8*i<m+8/\iv=.int .i64 (i:Int)/\Blk wr B 195 cs/\Below B w wr/\B+1<=wr.heap.size/\wr.ownsRow (B+1) 5 1 cQ (8*i) (bvs (strm K (upW N) (loW N) (8*i)))) (fun _ iv _=>m+8 - 8*(intOf iv).toNat)
 case atStart=>exact⟨0,by omega,rfl,ei.o,EB.o▸Ah.alloc Ag _,by have:=EB.o;simp;omega,rfl,.inl ⟨rfl,rfl⟩⟩
 case round=>
  obtain⟨i,hi,rfl,hB,hb,ct,O⟩:=hrel;have HB:=I hB;clear hB;have cb:=I hb;clear hb;have HS:=I ct;clear ct;have hlen:∃A cap,u7=.slice A (8*i) cap/\8*i<=cap/\(∀n k,(Value.slice A n cap).ownBlock=some k->B+1<=k):=by
   obtain⟨_,⟨h1,h2⟩ | ⟨g,cap,cur,h1,hg,_,E,_⟩⟩:=O
   ·exact⟨none,0,by rw[h1,h2],by omega,fun n k h=>by simp [Value.ownBlock] at h⟩
   ·exact⟨_,cap,h1,E,fun n k h=>by simp only[Value.ownBlock] at h;injection h with h;omega⟩
  obtain⟨A,cap,rfl,E,cf⟩:=hlen;have cp:=I cf;clear cf;have HO:=I O;clear O;obtain⟨o,eo⟩:=Ak (8*i);rw[<-eo];have EO:=I eo;clear eo
  by_cases hlt:(o:Int)<n
  ·have ek:(0:Int)<=(i:Int):=by omega
   have et:(i:Int)<=200:=by have:=EO.o;have:=HM.o;have:=HN.o;omega
   have HH:=I hi;clear hi
   go_wp2_with (first | (refine Ko (by rfl) 195 (.tmp 3) (by rfl) B (by rfl) cs _ (Ae HB.o) Tryz.underlying195 (by rfl) eb.o ?_) | fail)
   have cr:(N:Int) / 4294967296 % 4294967296=((upW N).toNat:Int):=by rw[upW,BitVec.toNat_ofNat];have:=NN.o;omega
   have bx:((N:Int)+(i:Int)) % 4294967296=((loW N+BitVec.ofNat 32 i).toNat:Int):=by rw[loW,BitVec.toNat_add,BitVec.toNat_ofNat,BitVec.toNat_ofNat];omega
   rw[cr,bx];obtain⟨p,ep⟩:=Ak (Ce K (upW N,loW N+BitVec.ofNat 32 i));obtain⟨x0,ex⟩:=Ak (p.1);obtain⟨y0,ey⟩:=Ak (p.2);have c4:=cB (upW N) (loW N+BitVec.ofNat 32 i) wr;rw[<-ep,<-ex,<-ey] at c4;have cm:bvs (strm K (upW N) (loW N) (8*i))++eight x0 y0=bvs (strm K (upW N) (loW N) (8*(i+1))):=by rw[ex,ey,ep];exact Rl K _ _ i
   have ea:=I cm;clear cm;clear ep ex ey cr bx;refine Aj c4 ?_;rintro w5 J;have bz:=Ek HO.o J;rw[<-EO.o] at bz;have M:=ea.o;rw[<-EO.o] at M;have cA:=I M;clear M;have ck:=HB.o.below J;have cq:=bt' cb.o HS.o J;have cx:=Nat.le_trans HS.o J.size;have ec:=I bz;clear bz;have cy:=I ck;clear ck;have eg:=I cq;clear cq;have aw:=I cx;clear cx;clear J c4
   go_wp2_with (first | (at_builtin;refine AA _ (by rfl) (.tmp 30) (.tmp 53) 27 (by rfl) (B+1) 5 ib _ 1 Tryz.underlying27 cR ef cL cP (by rfl) (.slice A o cap) o (bvs (strm K (upW N) (loW N) o)) (by rfl) (DU ec.o (by rfl)) (w5.heap.size+1) (some ⟨w5.heap.size,0,none⟩) 8 8 (eight x0 y0) (by rfl) (by rfl) (FR w5 5 _ (eight x0 y0) (by rfl) _ rfl) (by simp [eight,Value.oneCell']) (by have:=EO.o;unfold maxLen;omega) (by have:=EO.o;omega) (by have:=aw.o;simp;omega) ?_;intro v6 w6 Z D cg) | fail)
   have cn:=Blk.grown (Blk.alloc cy.o _) D (fun h=>by have:=cp.o _ _ h;omega);have cj:=Below.grown (eg.o.alloc (by have:=aw.o;omega) _) D (by have:=aw.o;simp;omega) (fun k hk=>by have:=cp.o _ _ hk;omega);have cu:=D.size;have bB:=Z;rw[cA.o,show o+8=8*(i+1) by have:=EO.o;omega] at bB;have B6:=I cn;clear cn;have B7:=I cj;clear cj;have S7:=I cu;clear cu;have O7:=I bB;clear bB;clear Z D cg
   go_wp2_with fail
   go_roundw
   case rel=>
    exact⟨i+1,by have:=EO.o;have:=HN.o;omega,by go_num,B6.o,B7.o,by have h1:=S7.o;have:=aw.o;simp at h1;omega,O7.o⟩
   case measure=>have:=EO.o;have:=HN.o;simp [intOf];omega
  ·have ej:n<=(o:Int):=by omega
   have e1:decide ((o:Int)<n)=false:=by simp;omega
   have ed:n<=(cap:Int):=by have:=EO.o;omega
   have HC:=I E;clear E
   by_cases h0:n<0
   ·go_wp2_with fail
    go_ret;have cc:m=0:=by have:=HN.o;omega
    refine⟨A,cap,by rw[cc];first | rfl | exact congrArg (fun k=>Ending.returned (Value.slice A k cap)) (show(max n 0).toNat=0 by omega),by rw[cc];exact Nat.zero_le _,?_,cb.o⟩;rw[cc];exact .inl rfl
   ·have h1:(0:Int)<=n:=by omega
    go_wp2_with fail
    go_ret;refine⟨A,cap,by rw[HN.o];first | rfl | exact congrArg (fun k=>Ending.returned (Value.slice A k cap)) (show(max n 0).toNat=n.toNat by omega),by have:=HN.o;omega,?_,cb.o⟩;have hr:=Rd.of_own HO.o;have ht:bvs (strm K (upW N) (loW N) m)=(bvs (strm K (upW N) (loW N) (8*i))).take m:=by
     rw[<-Tv K (upW N) (loW N) m (8*i) (by have:=EO.o;have:=HN.o;omega)];simp [bvs,List.map_take]
    rw[ht];exact Rd.take hr m
end SpL
namespace Se
open Go.RowKit Af
def hk (f:Nat->UInt8) (i j:Nat):UInt8:=if j<i then f j else 0
theorem FP (f:Nat->UInt8) (j:Nat) (D:j<16):(Sp.AK f)[j]? = some (bv (f j)):=Sp.FP f j D
theorem Yr (f:Nat->UInt8) (i:Nat) (hi:i<16):(Sp.AK (hk f i)).setIfInBounds i (bv (f i))=Sp.AK (hk f (i+1)):=by
 unfold Sp.AK;rw[List.setIfInBounds_toArray]
 congr 1
 apply List.ext_getElem?;intro j;rw[List.getElem?_set,List.getElem?_map,List.getElem?_map]
 by_cases hj:i=j
 ·subst hj;simp [hi,hk]
 ·rw[if_neg hj]
  rcases Nat.lt_or_ge j 16 with h | h
  ·have e:(j<i)=(j<i+1):=propext ⟨by omega,by omega⟩
   simp [h,hk,e]
  ·rw[List.getElem?_eq_none (by simpa using h)];rfl
theorem db (f:Nat->UInt8):Sp.AK (hk f 16)=Sp.AK f:=Sp.JI fun j D=>if_pos D
theorem Ue (f:Nat->UInt8):Sp.AK (hk f 0)=Sp.AK (fun _=>0):=Sp.JI fun j D=>rfl
theorem key32_at' (f:Nat->UInt8) (j:Nat) (D:j<32):(AY f)[j]? = some (bv (f j)):=by
 rw[AY,List.getElem?_toArray];simp [D]
theorem OB {P:Program} {fn:Func} {tmps:Array Value} {w:World} {v1 v2:Value} (O N:Nat) (E D:TypeId) (a1 Z:Addr) (F:fn.results=#[.cell O E,.cell N D]) (aw:tmps.getD O undef=.pointer (some a1)) (M:tmps.getD N undef=.pointer (some Z)) (J:(loadVar E a1).run P w=.ok v1 w) (bx:(loadVar D Z).run P w=.ok v2 w) :
  (results fn tmps).run P w=.ok (.tuple #[v1,v2]) w:=by
 have h1:tmps[O]?.getD undef=.pointer (some a1):=by simpa using aw
 have h2:tmps[N]?.getD undef=.pointer (some Z):=by simpa using M
 simp [results,F,h1,h2,asAddr,J,bx]
theorem Uf (ks:Nat->UInt8) (w:World):Calls Tryz.prog 89 #[.agg (AY ks)] w fun e w'=>e=.returned (.tuple #[.agg (Sp.AK ks),.agg (Sp.AK (k2 ks))])/\Below w.heap.size w w':=by
 obtain⟨B,eB⟩:=Ak (w.heap.size);have EB:=I eB;have aw:Sp.AK (fun _=>0)=#[.int .u8 0,.int .u8 0,.int .u8 0,.int .u8 0,.int .u8 0,.int .u8 0,.int .u8 0,.int .u8 0,.int .u8 0,.int .u8 0,.int .u8 0,.int .u8 0,.int .u8 0,.int .u8 0,.int .u8 0,.int .u8 0]:=rfl;have HZ:=I aw;clear aw;obtain⟨kc,bx⟩:=Ak (AY ks);rw[<-bx];have EK:=I bx;clear bx;go_enter Tryz.func89,Tryz.ntmps89
 go_wp2_with fail
 rw[<-eB];clear eB
 go_loopw [6] (fun iv wr=>∃i:Nat,i<=16/\iv=.int .i64 (i:Int)/\Below B w wr/\wr.heap.size=B+5/\Blk wr B 36 kc/\Blk wr (B+1) 161 (Sp.AK (fun _=>0))/\Blk wr (B+2) 161 (Sp.AK (fun _=>0))/\Blk wr (B+3) 161 (Sp.AK (hk ks i))/\Blk wr (B+4) 161 (Sp.AK (hk (k2 ks) i))) (fun iv _=>16 - (intOf iv).toNat)
 case atStart=>
  have z1:Blk (w.alloc (.cells kc 36)) B 36 kc:=EB.o▸Blk.new w _ _;have q0:(w.alloc (.cells kc 36)).heap.size=B+1:=by rw[EB.o];simp
  have b0:Below B w (w.alloc (.cells kc 36)):=EB.o▸(Below.refl w.heap.size w).alloc Ag _;have key:∀(w1:World) (n:Nat),w1.heap.size=n->Blk (w1.alloc (.cells (Sp.AK fun _=>0) 161)) n 161 (Sp.AK fun _=>0)/\(w1.alloc (.cells (Sp.AK fun _=>0) 161)).heap.size=n+1:=fun w1 n h=>⟨h▸Blk.new w1 _ _,by rw[<-h];simp⟩
  obtain⟨k1,q1⟩:=key _ _ q0;obtain⟨cc,q2⟩:=key _ _ q1;obtain⟨k3,q3⟩:=key _ _ q2;obtain⟨k4,q4⟩:=key _ _ q3;refine⟨0,by decide,rfl,?_,q4,(((z1.alloc _).alloc _).alloc _).alloc _,((k1.alloc _).alloc _).alloc _,(cc.alloc _).alloc _,?_,?_⟩
  ·exact(((b0.alloc (by have:=EB.o;simp;omega) _).alloc (by have:=EB.o;simp;omega) _).alloc (by have:=EB.o;simp;omega) _).alloc (by have:=EB.o;simp;omega) _
  ·rw[Ue];exact k3.alloc _
  ·rw[Ue];exact k4
 case round=>
  obtain⟨i,hi,rfl,hb,cb,h0,h1,h2,O,N⟩:=hrel;have HB:=I hb;clear hb;have HS:=I cb;clear cb
  by_cases hx:i=16
  ·subst hx
   rw[db] at O N;obtain⟨cs,J⟩:=Ak ((List.range 16).map (fun j=>bv (ks j)));obtain⟨ds,M⟩:=Ak ((List.range 16).map (fun j=>bv (k2 ks j)));have n3:cs.length=16:=by rw[J];simp
   have n4:ds.length=16:=by rw[M];simp
   have o3:∀v∈cs,v.oneCell'=true:=by rw[J];intro v hv;obtain⟨j,_,rfl⟩:=List.mem_map.1 hv;rfl
   have o4:∀v∈ds,v.oneCell'=true:=by rw[M];intro v hv;obtain⟨j,_,rfl⟩:=List.mem_map.1 hv;rfl
   have O:Blk wr (B+3) 161 cs.toArray:=by rw[J];exact O
   have N:Blk wr (B+4) 161 ds.toArray:=by rw[M];exact N
   have r3:wr.drew.rangeAt (B+1+1+1) 0 cs:=by have:=Si.Ae O;simpa using this
   have r4:wr.drew.rangeAt (B+1+1+1+1) 0 ds:=by have:=Si.Ae N;simpa using this
   have t1:wr.drew.there (B+1) 0 16:=by have:=Si.Ao h1;rwa [Bg] at this
   have t2:wr.drew.there (B+1+1) 0 16:=by have:=Si.Ao h2;rwa [Bg] at this
   have u3:(Tryz.prog.info? 161).map (·.size)=some cs.length:=by rw[n3];kernel_rfl
   have u4:(Tryz.prog.info? 161).map (·.size)=some ds.length:=by rw[n4];kernel_rfl
   have F:=Tryz.underlying161;have EC:=I J;clear J;have ED:=I M;clear M;clear h0 h1 h2 O N
   go_wp2_with fail
   refine wp_region_held_drew (S:=fun w'=>w'.rangeAt (B+1+1+1) 0 cs/\w'.rangeAt (B+1+1+1+1) 0 ds/\w'.there (B+1) 0 16/\w'.there (B+1+1) 0 16) (by kernel_rfl) ⟨r3,r4,t1,t2⟩ (fun E=>?_);refine wpAnyH_take (i:=0) (v:=.agg cs.toArray) rfl (by kernel_rfl) (by kernel_rfl) (by kernel_rfl) (fun _ _ _ h=>h) (yieldsIf_load_mid (by rfl) 161 (.tmp 4) rfl (B+1+1+1) 0 rfl cs _ (fun _ h=>h.1) F rfl u3) E ?_;refine wpAnyH_take (i:=1) (v:=.agg ds.toArray) rfl (by kernel_rfl) (by kernel_rfl) (by kernel_rfl) (fun _ _ _ h=>h) (yieldsIf_load_mid (by rfl) 161 (.tmp 5) rfl (B+1+1+1+1) 0 rfl ds _ (fun _ h=>h.2.1) F rfl u4) E ?_;refine wpAnyH_ready (rs:=[2]) (by kernel_rfl) (by simp) ?_;refine AllReadyH.cons (o:=_) rfl (fun K hK=>?_) AllReadyH.nil;rw[if_pos (by rfl)];refine wp_store_mid 161 _ _ rfl (B+1) 0 cs.toArray rfl rfl (by rw[List.size_toArray,n3];exact E.2.2.1) (by rw[List.size_toArray];exact u3) (all_oneCell_toArray o3) ?_;refine hK.o _ _ ⟨World.rangeAt_setCells_apart E.1 _ _ _ (.inl (by omega)),World.rangeAt_setCells_apart E.2.1 _ _ _ (.inl (by omega)),World.there_setCells E.2.2.1 _ _ _,World.there_setCells E.2.2.2 _ _ _⟩ (fun D=>?_);clear hK K;refine wpAnyH_ready (rs:=[3]) (by kernel_rfl) (by simp) ?_;refine AllReadyH.cons (o:=_) rfl (fun K hK=>?_) AllReadyH.nil;rw[if_pos (by rfl)];refine wp_store_mid 161 _ _ rfl (B+1+1) 0 ds.toArray rfl rfl (by rw[List.size_toArray,n4];exact D.2.2.2) (by rw[List.size_toArray];exact u4) (all_oneCell_toArray o4) ?_;refine hK.o _ _ ⟨World.rangeAt_setCells_apart D.1 _ _ _ (.inl (by omega)),World.rangeAt_setCells_apart D.2.1 _ _ _ (.inl (by omega)),World.there_setCells D.2.2.1 _ _ _,World.there_setCells D.2.2.2 _ _ _⟩ (fun Z=>?_);clear hK K;refine wpAnyH_done (by kernel_rfl) ?_ _;have ca:((wr.drew.setCells (B+1) 0 cs).setCells (B+1+1) 0 ds).rangeAt (B+1) 0 cs:=World.rangeAt_setCells_apart (World.rangeAt_setCells_same _ _ _ _ (by rw[n3];exact t1)) _ _ _ (.inl (by omega));have bB:((wr.drew.setCells (B+1) 0 cs).setCells (B+1+1) 0 ds).rangeAt (B+1+1) 0 ds:=World.rangeAt_setCells_same _ _ _ _ (by rw[n4];exact D.2.2.2);have bz:Below B w ((wr.drew.setCells (B+1) 0 cs).setCells (B+1+1) 0 ds):=Si.Bt _ (by omega) _ _ _ (Si.Bt _ (by omega) _ _ _ (below_drewN HB.o 1));change Exit.then _ _ Exit.normal _ ((wr.drew.setCells (B+1) 0 cs).setCells (B+1+1) 0 ds)
   generalize (wr.drew.setCells (B+1) 0 cs).setCells (B+1+1) 0 ds=W3 at ca bB bz⊢;clear E D Z r3 r4 t1 t2;have q1:=run_loadVar_mid (P:=Tryz.prog) W3 (B+1) 0 161 cs _ ca F rfl u3;have q2:=run_loadVar_mid (P:=Tryz.prog) W3 (B+1+1) 0 161 ds _ bB F rfl u4;have Q1:=I q1;clear q1;have Q2:=I q2;clear q2;have BW:=I bz;clear bz;clear ca bB u3 u4 F n3 n4 o3 o4 O N
   go_wp2_with fail
   refine bodyPost_ret (v:=.tuple #[.agg cs.toArray,.agg ds.toArray]) (OB 2 3 161 161 ⟨B+1,0,none⟩ ⟨B+1+1,0,none⟩ Tryz.results89 (by rfl) (by rfl) Q1.o Q2.o) (by rfl) ?_;exact⟨by rw[EC.o,ED.o];rfl,EB.o▸BW.o⟩
  ·have e1:(i:Int)<16:=by omega
   have e2:(0:Int)<=(i:Int):=by omega
   have e3:i<16:=by omega
   have e4:(16:Int)+(i:Int)<32:=by omega
   have e5:(0:Int)<=(16:Int)+(i:Int):=by omega
   have e6:16+i<32:=by omega
   have e7:i<32:=by omega
   obtain⟨x,ex⟩:=Ak (ks i);obtain⟨y,ey⟩:=Ak (ks (16+i));have g0:wr.cell? ⟨B,i,none⟩=some (.int .u8 (x.toNat:Int)):=by rw[h0.cell,EK.o,key32_at' ks i e7,ex];rfl
   have g1:wr.cell? ⟨B,16+i,none⟩=some (.int .u8 (y.toNat:Int)):=by rw[h0.cell,EK.o,key32_at' ks (16+i) e6,ey];rfl
   have f3:=O.frozen;have f4:=N.frozen;have c3:=O.cell i;have c4:=N.cell i;rw[FP _ _ e3] at c3 c4;simp only[bv] at c3 c4;have H0:=I h0;clear h0;have H1:=I h1;clear h1;have H2:=I h2;clear h2;have H3:=I O;clear O;have H4:=I N;clear N;have hw:IntKind.i64.wrap ((16:Int)+(i:Int))=(16:Int)+(i:Int):=by rw[IntKind.wrap_i64];omega
   have EX:=I ex;clear ex;have EY:=I ey;clear ey;have HX:=I hx;clear hx;have HI:=I hi;clear hi
   go_wp2_with fail
   go_region
   all_goals go_wp2_with fail
   all_goals
    go_roundw
    case rel=>
     have s3:=H3.o.set i (bv x);rw[EX.o,Yr ks i e3,<-EX.o] at s3;have s4:=(Si.Blk.far H4.o ⟨B+3,i,none⟩ (bv x) (by simp)).set i (bv y);rw[EY.o,show ks (16+i)=k2 ks i from rfl,Yr (k2 ks) i e3] at s4;refine⟨i+1,by omega,by go_num,?_,?_,?_,?_,?_,?_,?_⟩
     ·exact below_drewN (Si.Az (Si.Az HB.o (by simp;omega) _) (by simp;omega) _) 1
     ·simpa [World.setCell] using HS.o
     ·exact Si.Blk.far (Si.Blk.far H0.o ⟨B+3,i,none⟩ _ (show B+3≠B by omega)) ⟨B+4,i,none⟩ _ (show B+4≠B by omega)
     ·exact Si.Blk.far (Si.Blk.far H1.o ⟨B+3,i,none⟩ _ (show B+3≠B+1 by omega)) ⟨B+4,i,none⟩ _ (show B+4≠B+1 by omega)
     ·exact Si.Blk.far (Si.Blk.far H2.o ⟨B+3,i,none⟩ _ (show B+3≠B+2 by omega)) ⟨B+4,i,none⟩ _ (show B+4≠B+2 by omega)
     ·exact Si.Blk.far s3 ⟨B+4,i,none⟩ _ (show B+4≠B+3 by omega)
     ·exact(by have e:=s4;rw[show bv (k2 ks i)=bv y from by rw[EY.o];rfl] at e;exact e)
    case measure=>simp [intOf];omega
theorem dbig (N:Nat) (w:World) (hN:N<18446744073709551616) :
  Calls Tryz.prog 54 #[.int .u64 (N:Int)] w fun e w'=>∃v,e=.returned v/\w'.ownsRow w.heap.size 5 1 v 8 (bvs (w8 N))/\Below w.heap.size w w':=by
 obtain⟨ib,cc,bz,bB,ca⟩:=info_parts Si.BY;obtain⟨B,eB⟩:=Ak (w.heap.size);have EB:=I eB;clear eB;have HN:=I hN;clear hN;go_enter Tryz.func54,Tryz.ntmps54
 go_wp2_with fail
 go_loopw [3,4] (fun cb iv wr=>∃j:Nat,j<=8/\iv=.int .i64 (7 - (j:Int))/\wr.ownsRow B 5 1 cb j (laid [] N j)/\Below B w wr) (fun _ iv _=>(intOf iv+1).toNat)
 case atStart=>exact⟨0,by decide,rfl,⟨rfl,.inl ⟨rfl,rfl⟩⟩,Below.refl _ _⟩
 case round=>
  obtain⟨j,hj,rfl,J,aw⟩:=hrel;have HR:=I J;clear J;have Z:=I aw;clear aw
  by_cases hx:j=8
  ·subst hx
   go_wp2_with fail
   go_ret;exact⟨_,rfl,by have:=HR.o;rw[Yn,List.nil_append] at this;exact EB.o▸this,EB.o▸Z.o⟩
  ·obtain⟨k,ek⟩:∃k:Nat,k=7 - j:=⟨_,rfl⟩
   obtain⟨m,em⟩:∃m:Nat,m=56 - 8*j:=⟨_,rfl⟩;have hk:(7:Int) - (j:Int)=(k:Int):=by omega
   rw[hk];have O:j<8:=by omega
   have cn:(8:Int)*(k:Int)=(m:Int):=by omega
   have cm:m<64:=by omega
   have cd:(m:Int)<64:=by omega
   have ck:(0:Int)<=(m:Int):=by omega
   have cj:min m 64=m:=by omega
   have cg:(0:Int)<=(k:Int):=by omega
   have cf:(k:Int)<=7:=by omega
   have M:=MX [] N j O;have hv:bv (UInt8.ofNat (N / 2 ^ (56 - 8*j)))=.int .u8 ((N:Int) / 2 ^ m % 256):=by
    unfold bv;rw[UInt8.toNat_ofNat',<-em];congr 1
   rw[hv] at M;have NX:=I M;clear M;have EM:=I em;clear em;have EK:=I ek;clear ek;have HX:=I hx;clear hx;have HJ:=I hj;clear hj;have F:=I O;clear O;clear hk hv
   go_wp2_with (first | (at_builtin;refine AA _ (by rfl) (.tmp 9) (.tmp 16) 27 (by rfl) B 5 ib _ 1 Tryz.underlying27 cc bz bB ca (by rfl) _ j (laid [] N j) (by rfl) (DU HR.o (by rfl)) (wr.heap.size+1) (some ⟨wr.heap.size,0,none⟩) 1 1 [.int .u8 ((N:Int) / 2 ^ m % 256)] (by rfl) (by rfl) (Si.FR wr 5 _ [.int .u8 ((N:Int) / 2 ^ m % 256)] (by rfl) _ rfl) (by simp [Value.oneCell']) (by have:=F.o;unfold maxLen;omega) (by have:=F.o;omega) (by have:=EB.o;have:=Z.o.size;simp;omega) ?_;intro v6 w6 E D bx;have O6:=I E;have G6:=I D;clear E D bx) | fail)
   go_roundw
   case rel=>
    refine⟨j+1,by have:=F.o;omega,?_,by rw[<-NX.o];exact O6.o,?_⟩
    ·exact congrArg (Value.int .i64) (by have:=EK.o;have:=F.o;omega)
    ·exact(Z.o.alloc (by have:=EB.o;have:=Z.o.size;omega) _).grown G6.o (by have:=EB.o;have:=Z.o.size;simp;omega) (fun q hq=>(HR.o.lt q hq).1)
   case measure=>simp [intOf]
theorem Ug (ks:Nat->UInt8) (u n:Nat) (p:List UInt8) (i:Nat) (h:i<p.length) (D:i<(Dp ks u n p.length).length):bvs ((mixL ks u n p).take i)++[bv (p[i] ^^^ (Dp ks u n p.length)[i])]=bvs ((mixL ks u n p).take (i+1)):=by
 rw[List.take_add_one,TQ ks u n p i h D,Bu];rfl
theorem dc (y x:UInt8):bits .xor .u8 (y.toNat:Int) (x.toNat:Int)=((y ^^^ x).toNat:Int):=by
 rw[u8_xor_nat _ _ y.toNat_lt x.toNat_lt,UInt8.toNat_xor]
def twoW (w1:World) (z:Array Value) (t:TypeId) (cs ds:Array Value):World:=(((w1.alloc (.cells z t)).alloc (.cells z t)).setCells w1.heap.size 0 cs.toList).setCells (w1.heap.size+1) 0 ds.toList
theorem KI (w1:World) (z:Array Value) (t:TypeId) (cs ds:Array Value) (F:z.size=cs.size) (J:z.size=ds.size) :
  (twoW w1 z t cs ds).rangeAt w1.heap.size 0 cs.toList/\(twoW w1 z t cs ds).rangeAt (w1.heap.size+1) 0 ds.toList/\Below w1.heap.size w1 (twoW w1 z t cs ds)/\w1.heap.size+2<=(twoW w1 z t cs ds).heap.size:=by
 have E:((w1.alloc (.cells z t)).alloc (.cells z t)).there w1.heap.size 0 cs.toList.length:=by
  have:=World.there_alloc (Si.Ao (Blk.new w1 t z)) (.cells z t)
  rwa [F,<-Array.length_toList] at this
 have D:((w1.alloc (.cells z t)).alloc (.cells z t)).there (w1.heap.size+1) 0 ds.toList.length:=by
  have:=Si.Ao (Si.Blk.new_of (w1.alloc (.cells z t)) (w1.heap.size+1) t z z rfl (by simp))
  rwa [J,<-Array.length_toList] at this
 refine⟨World.rangeAt_setCells_apart (World.rangeAt_setCells_same _ _ _ _ E) _ _ _ (.inl (by omega)),World.rangeAt_setCells_same _ _ _ _ (World.there_setCells D _ _ _),?_,?_⟩
 ·exact Si.Bt _ (by omega) _ _ _ (Si.Bt _ Ag _ _ _ ((Ah.alloc Ag _).alloc (by simp) _))
 ·unfold twoW;rw[SpL.Ex,SpL.Ex];simp
theorem dmix (ks:Nat->UInt8) (u n:Nat) (A:Option Addr) (m c:Nat) (p:List UInt8) (w:World) (hu:u<=255) (hn:n<18446744073709551616) (hm:m=p.length) (cr:m<=1000) (hr:Rd w w.heap.size A (bvs p)) :
  Calls Tryz.prog 55 #[.agg (AY ks),.int .i64 (u:Int),.int .u64 (n:Int),.slice A m c] w fun e w'=>∃v,e=.returned v/\w'.ownsRow w.heap.size 5 1 v m (bvs (mixL ks u n p))/\Below w.heap.size w w':=by
 obtain⟨ib,eT,eJ,eM,eQ⟩:=info_parts Si.BY;obtain⟨B,eB⟩:=Ak (w.heap.size);obtain⟨N,eN⟩:=Ak (sn u n);have cn:=TY u n hu;have F:=cU u n hu;have E:=cV u n;rw[<-eN] at cn F E;have ff:(u:Int) % 18446744073709551616=(u:Int):=by omega
 have cb:Sp.strm (Sp.kw ks) (Sp.upW N) (Sp.loW N) m=Dp ks u n m:=by rw[eN];rfl
 have ch:=fun w1=>Uf ks w1
 have cw:=fun w1=>Sp.bW ks w1
 have bz:=fun w1=>SpL.ad (Sp.kw ks) N m (m:Int) w1 E cr (by simp)
 rw[cb] at bz;have i32:=Gm ks;have i16:=JO ks;have O:=JO (k2 ks);have cp:=TW ks;have aw:=TW (k2 ks);have cx:=Bg ks;have Z:=Bg (k2 ks);obtain⟨kc,ej⟩:=Ak (AY ks);obtain⟨cs,cP⟩:=Ak (Sp.AK ks);obtain⟨ds,eb⟩:=Ak (Sp.AK (k2 ks));obtain⟨xs,eg⟩:=Ak (Sp.AX (Sp.kw ks));rw[<-ej] at ch i32⊢;rw[<-cP] at ch cw i16 cp cx;rw[<-eb] at ch O aw Z;rw[<-eg] at cw bz;have hz:Sp.AK (fun _=>0)=#[.int .u8 0,.int .u8 0,.int .u8 0,.int .u8 0,.int .u8 0,.int .u8 0,.int .u8 0,.int .u8 0,.int .u8 0,.int .u8 0,.int .u8 0,.int .u8 0,.int .u8 0,.int .u8 0,.int .u8 0,.int .u8 0]:=rfl;have EB:=I eB;have HR:=I (eB▸hr);clear hr;have HM:=I hm;clear hm;have q3:(m:Int)<=1000:=by omega
 have et:=I cr;clear cr;have eK:=I i32;clear i32;have ea:=I i16;clear i16;have ei:=I O;clear O;have eF:=I cp;clear cp;have ed:=I aw;clear aw;have cB:=I cx;clear cx;have cg:=I Z;clear Z;have HZ:=I hz;clear hz;have eS:=I bz;clear bz;have eP:=I cn;clear cn;have ev:=I F;have ew:Hid (((n:Int)*256+(u:Int)) % 18446744073709551616=(N:Int)):=by rw[<-F];show _=_;omega
 have ep:Hid (IntKind.u64.wrap (IntKind.u64.wrap ((n:Int)*256)+(u:Int))=(N:Int)):=by rw[IntKind.wrap_u64,IntKind.wrap_u64];omega
 clear F;have h0:Blk (w.alloc (.cells kc 36)) B 36 kc:=eB▸Blk.new w _ _;have cm:Below B w (w.alloc (.cells kc 36)):=eB▸(Below.refl w.heap.size w).alloc Ag _;have H0:=I h0;clear h0;have eL:=I cm;clear cm;clear hu hn cb E eN ej cP eb eg eB;go_enter Tryz.func55,Tryz.ntmps55
 go_upto_region 2 with(first
  |(refine Am (by rfl) 36 (.tmp 4) (by rfl) w.heap.size 0 (by rfl) kc _ (Si.Ae (Blk.new w 36 kc)) Tryz.underlying36 (by rfl) eK.o ?_)
  |(go_at_call 89;refine Aj (ch _) ?_;rintro w1 bx;clear ch;have bx:=eL.o.trans (bx.mono (by have:=EB.o;simp;omega));have H1:=I bx;clear bx)
  |(refine wpList_store_mid (by rfl) 161 (.tmp 9) (.tmp 17) (by rfl) w1.heap.size 0 cs (by rfl) (by rfl) (by rw[cB.o];exact World.there_alloc (by have:=Si.Ao (Blk.new w1 161 (Sp.AK fun _=>0));rwa [Bg] at this) _) ea.o eF.o ?_)
  |(refine wpList_store_mid (by rfl) 161 (.tmp 10) (.tmp 18) (by rfl) (w1.heap.size+1) 0 ds (by rfl) (by rfl) (by rw[cg.o];exact World.there_setCells (by have:=Si.Ao (Si.Blk.new_of (w1.alloc (.cells (Sp.AK fun _=>0) 161)) (w1.heap.size+1) 161 _ (Sp.AK fun _=>0) rfl (by simp));rwa [Bg] at this) _ _ _) ei.o ed.o ?_)
  |fail)
 have h2:=KI w1 (Sp.AK fun _=>0) 161 cs ds (by rw[Bg,cB.o]) (by rw[Bg,cg.o]);change Code.wp _ _ _ _ (twoW w1 (Sp.AK fun _=>0) 161 cs ds);generalize twoW w1 (Sp.AK fun _=>0) 161 cs ds=W2 at h2⊢;have J:=H1.o.trans (h2.2.2.1.mono (by have:=H1.o.size;have:=EB.o;omega));have ec:=I J;clear J;have eH:=I h2.1;clear h2;have er:=cw W2;clear cw
 go_wp2_with (first
  |(refine Am (by rfl) 161 (.tmp 9) (by rfl) w1.heap.size 0 (by rfl) cs _ eH.o Tryz.underlying161 (by rfl) ea.o ?_)
  |(go_at_call 91;refine Aj er ?_;rintro w3 ca;clear er;have ca:=ec.o.trans (ca.mono (by have:=ec.o.size;have:=EB.o;omega));have c4:=eS.o w3;have H3:=I ca;clear ca)
  |(go_at_call 90;(first | rw[ev.o] | rw[eP.o] | rw[ew.o] | rw[ep.o]);refine Calls.mono c4 ?_;rintro e w5 ⟨As,sc,rfl,eX,eo,bB⟩;clear c4;have bB:=H3.o.trans (bB.mono (by have:=H3.o.size;have:=EB.o;omega));have H5:=I bB;have RS:=I eo;clear bB eo)
  |fail)
 obtain⟨N0,eu⟩:=Ak (w5.heap.size);have EN:=I eu;clear eu;have cL:(Dp ks u n m).length=m:=BQ ks u n m;have eW:=I cL;clear cL
 go_loopw [12,13] (fun eR iv wr=>∃i:Nat,i<=m/\iv=.int .i64 (i:Int)/\wr.ownsRow N0 5 1 eR i (bvs ((mixL ks u n p).take i))/\Below N0 w5 wr) (fun _ iv _=>m - (intOf iv).toNat)
 case atStart=>exact⟨0,Nat.zero_le _,rfl,⟨rfl,.inl ⟨rfl,rfl⟩⟩,Below.refl _ _⟩
 case round=>
  obtain⟨i,hi,rfl,ck,ef⟩:=hrel;have HO:=I ck;clear ck;have HW:=I ef;clear ef
  by_cases hx:i=m
  ·subst hx
   go_wp2_with fail
   go_ret;have h9:=HO.o;rw[List.take_of_length_le (by rw[Bw,HM.o];exact Nat.le_refl _)] at h9;refine⟨_,rfl,h9.mono (by have:=EN.o;have:=H5.o.size;omega),?_⟩;rw[<-EB.o];exact H5.o.trans (HW.o.mono (by have:=EN.o;have:=H5.o.size;have:=EB.o;omega))
  ·have cA:i<m:=by omega
   have cy:i<p.length:=by have:=HM.o;omega
   have e1:(i:Int)<(m:Int):=by omega
   have e2:(0:Int)<=(i:Int):=by omega
   have e3:(i:Int)<1000:=by omega
   have cQ:i<(Dp ks u n p.length).length:=by rw[BQ];exact cy
   have cc:i<(Dp ks u n m).length:=by rw[BQ];exact cA
   obtain⟨y,ey⟩:=Ak (p[i]);obtain⟨x,ex⟩:=Ak ((Dp ks u n p.length)[i]);obtain⟨z,ez⟩:=Ak (y ^^^ x);obtain⟨b1,o1,rfl,cf,cu⟩:=HR.o.at_ (GC cy);obtain⟨b2,o2,rfl,cR,cq⟩:=RS.o.at_ (GC cc);rw[<-ey] at cu;have hex:(Dp ks u n m)[i]=x:=by
    rw[ex];have:=HM.o;subst this
    rfl
   rw[hex] at cq;have cd:b1<N0:=by have:=EN.o;have:=H5.o.size;have:=EB.o;omega
   have cj:b2<N0:=by have:=EN.o;omega
   have d1:wr.cell? ⟨b1,o1+i,none⟩=some (.int .u8 (y.toNat:Int)):=(HW.o.cell (p:=⟨b1,o1+i,none⟩) cd).trans ((H5.o.cell (p:=⟨b1,o1+i,none⟩) cf).trans cu);have d2:wr.cell? ⟨b2,o2+i,none⟩=some (.int .u8 (x.toNat:Int)):=(HW.o.cell (p:=⟨b2,o2+i,none⟩) cj).trans cq;have fb:bits .xor .u8 (y.toNat:Int) (x.toNat:Int)=(z.toNat:Int):=by rw[ez];exact dc y x
   have ct:=Ug ks u n p i cy cQ;rw[<-ey,<-ex,<-ez] at ct;have NX:=I ct;clear ct;have HX:=I hx;clear hx;have HI:=I hi;clear hi;clear ey ex ez cu cq hex cQ cc cf cR cd cj
   go_wp2_with fail
   go_region_law (refine step_append_lies _ (by rfl) (.tmp 35) (.tmp 45) 27 (by rfl) N0 5 ib _ 1 1 Tryz.underlying27 eT eJ eM eQ (by rfl) (by decide) u12 i (bvs ((mixL ks u n p).take i)) (by rfl) (DU HO.o (by rfl)) ⟨wr.heap.size,0,none⟩ 1 1 [.int .u8 (z.toNat:Int)] (by rfl) (by rfl) (Sp.MP (by rfl)) (by simp [Value.oneCell']) (by decide) (by have:=HI.o;have:=et.o;unfold maxLen;omega) (by have:=HI.o;have:=et.o;omega) (by have:=EN.o;have:=HW.o.size;simp;omega) (wr.heap.size+1) (by simp) ?_;intro g2 eV w2 M D eD cA)
   all_goals (
    have ek:(wr.alloc (.cells #[.int .u8 (z.toNat:Int)] 5)).grownBy w2 u12.ownBlock:=⟨D.os,D.tape,D.output,D.size,D.block⟩;have J:=(HW.o.alloc (by have:=EN.o;have:=HW.o.size;omega) (Obj.cells #[.int .u8 (z.toNat:Int)] 5)).grown ek (by have:=EN.o;have:=HW.o.size;simp;omega) (fun q hq=>(HO.o.lt q hq).1);have O6:=I M;clear M;have B6:=I J;clear J;clear D eD cA ek d1 d2
    go_wp2_with fail
    go_roundw
    case rel=>exact⟨i+1,by omega,by go_num,by rw[<-NX.o];exact O6.o,B6.o⟩
    case measure=>simp [intOf];omega)
theorem Gw {w w':World} {b o:Nat} {cs:List Value} {row:Option Nat} (h:w.rangeAt b o cs) (D:b<w.heap.size) (F:w.grownBy w' row) (J:row≠some b):w'.rangeAt b o cs:=fun j v E=>
 (World.cell?_of_block (a:=⟨b,o+j,none⟩) (F.block b D (fun e=>J e.symm))).trans (h j v E)
theorem Ey {w w':World} {b o:Nat} {cs:List Value} (h:w.rangeAt b o cs) (D:b<w.heap.size) (E:Below w.heap.size w w'):w'.rangeAt b o cs:=Gw h D (FJ E none) (by simp)
theorem dtag (ks:Nat->UInt8) (u:Nat) (A:Option Addr) (m c:Nat) (l:List UInt8) (w:World) (hu:u<=255) (hm:m=l.length) (cL:m<=1000) (hr:Rd w w.heap.size A (bvs l)) :
  Calls Tryz.prog 56 #[.agg (AY ks),.int .i64 (u:Int),.slice A m c] w fun e w'=>∃v,e=.returned v/\w'.ownsRow w.heap.size 5 1 v 8 (bvs (w8 (tagL ks u l)))/\Below w.heap.size w w':=by
 obtain⟨ib,eD,eH,et,eu⟩:=info_parts Si.BY;obtain⟨B,eB⟩:=Ak (w.heap.size);have ch:=fun w1=>Uf ks w1
 have i32:=Gm ks;have i16:=JO ks;have J:=JO (k2 ks);have cj:=TW ks;have ca:=TW (k2 ks);have cr:=Bg ks;have bx:=Bg (k2 ks);obtain⟨T,eT⟩:=Ak (tagL ks u l);have cw:T<18446744073709551616:=by rw[eT];exact Oy _ _ _
 have M:=fun(w4:World) (A4:Option Addr) (c4:Nat) (h1:1+m<=c4) (h2:c4<=maxLen) (h3:Rd w4 w4.heap.size A4 (bvs (UInt8.ofNat u :: l)))=>Si.WK (k2 ks) A4 (1+m) c4 (UInt8.ofNat u :: l) w4 (by rw[List.length_cons,hm,Nat.add_comm]) (by omega) h1 h2 h3
 have hT:∀e,e=Ending.returned (Si.wv (Si.Ic (k2 ks) (UInt8.ofNat u :: l)))->e=.returned (.int .u64 (T:Int)):=fun e h=>by rw[h,eT];rfl
 have ct:[Value.int .u8 (u:Int)]++bvs l=bvs (UInt8.ofNat u :: l):=by
  show [Value.int .u8 (u:Int)]++bvs l=bv (UInt8.ofNat u) :: bvs l;rw[Yo u hu];rfl
 obtain⟨kc,cy⟩:=Ak (AY ks);obtain⟨cs,cx⟩:=Ak (Sp.AK ks);have ey:∃dl:List Value,dl.toArray=Sp.AK (k2 ks):=⟨_,rfl⟩;obtain⟨dl,cp⟩:=ey;obtain⟨L,eL⟩:=Ak (UInt8.ofNat u :: l);rw[<-cy] at ch i32⊢;rw[<-cx] at ch i16 cj cr;rw[<-cp] at ch J ca bx;have ef:Si.AK (k2 ks)=Sp.AK (k2 ks):=rfl;rw[ef,<-cp] at M;rw[<-eL] at M hT ct;rw[<-eT];have u16:(Tryz.prog.info? 161).map (·.size)=some dl.length:=by rw[<-List.size_toArray];exact J
 have cb:=Tryz.underlying161;have eV:(u:Int)<=255:=by omega
 have eS:(0:Int)<=(u:Int):=by omega
 have eN:(u:Int) % 256=(u:Int):=by omega
 have eR:IntKind.u8.wrap (u:Int)=(u:Int):=by rw[IntKind.wrap_u8'];exact eN
 have EB:=I eB;have HR:=I (eB▸hr);clear hr;have HM:=I hm;clear hm;have q3:(m:Int)<=1000:=by omega
 have ek:=I cL;clear cL;have eK:=I i32;clear i32;have ez:=I i16;clear i16;have eo:=I J;clear J;have ev:=I cj;clear cj;have ea:=I ca;clear ca;have cu:=I cr;clear cr;have cd:=I bx;clear bx;have cA:=I M;clear M;have HT:=I hT;clear hT;have eF:=I ct;clear ct;have TL:=I cw;clear cw;have eJ:=I u16;clear u16;have ej:=I cb;clear cb;have cg:Below B w (w.alloc (.cells kc 36)):=eB▸(Below.refl w.heap.size w).alloc Ag _;have eP:=I cg;clear cg;clear hu cy cx cp eT eL ef eB;go_enter Tryz.func56,Tryz.ntmps56
 go_upto_region 2 with(first
  |(refine Am (by rfl) 36 (.tmp 3) (by rfl) w.heap.size 0 (by rfl) kc _ (Si.Ae (Blk.new w 36 kc)) Tryz.underlying36 (by rfl) eK.o ?_)
  |(go_at_call 89;refine Aj (ch _) ?_;rintro w1 cc;clear ch;have cc:=eP.o.trans (cc.mono (by have:=EB.o;simp;omega));have H1:=I cc;clear cc)
  |(refine wpList_store_mid (by rfl) 161 (.tmp 7) (.tmp 12) (by rfl) w1.heap.size 0 cs (by rfl) (by rfl) (by rw[cu.o];exact World.there_alloc (by have:=Si.Ao (Blk.new w1 161 (Sp.AK fun _=>0));rwa [Bg] at this) _) ez.o ev.o ?_)
  |(refine wpList_store_mid (by rfl) 161 (.tmp 8) (.tmp 13) (by rfl) (w1.heap.size+1) 0 dl.toArray (by rfl) (by rfl) (by rw[cd.o];exact World.there_setCells (by have:=Si.Ao (Si.Blk.new_of (w1.alloc (.cells (Sp.AK fun _=>0) 161)) (w1.heap.size+1) 161 _ (Sp.AK fun _=>0) rfl (by simp));rwa [Bg] at this) _ _ _) eo.o ea.o ?_)
  |fail)
 have h2:=KI w1 (Sp.AK fun _=>0) 161 cs dl.toArray (by rw[Bg,cu.o]) (by rw[Bg,cd.o]);change Code.wp _ _ _ _ (twoW w1 (Sp.AK fun _=>0) 161 cs dl.toArray);generalize twoW w1 (Sp.AK fun _=>0) 161 cs dl.toArray=W2 at h2⊢;have eg:=H1.o.trans (h2.2.2.1.mono (by have:=H1.o.size;have:=EB.o;omega));have cR:Hid (Below B w W2.drew):=below_drewN eg 1;have cn:W2.drew.rangeAt (w1.heap.size+1) 0 dl:=by have:=h2.2.1;simpa using this
 have eQ:=I (show w1.heap.size+2<=W2.drew.heap.size from h2.2.2.2);clear h2 eg;have cb:=ej.o;have u16:=eJ.o;simp only[Act.put];have eM:Hid ((W2.alloc (.cells #[.int .u8 (u:Int)] 5)).drew.ownsRow W2.heap.size 5 1 (.slice (some ⟨W2.heap.size,0,none⟩) 1 1) 1 [.int .u8 (u:Int)]):=World.ownsRow_lit (base:=W2.heap.size) (e:=5) (size:=1) W2.drew #[.int .u8 (u:Int)] 1 Ag (by decide) (by rfl);have ck:B<=W2.drew.heap.size:=by have:=cR.o.size;have:=EB.o;omega
 have cP:Hid (Below B w (W2.alloc (.cells #[.int .u8 (u:Int)] 5)).drew):=cR.o.alloc ck (.cells #[.int .u8 (u:Int)] 5);have ew:Hid (Rd (W2.alloc (.cells #[.int .u8 (u:Int)] 5)).drew B A (bvs l)):=HR.o.below cP.o;have aw:(W2.alloc (.cells #[.int .u8 (u:Int)] 5)).drew.rangeAt (w1.heap.size+1) 0 dl:=World.rangeAt_alloc cn (.cells #[.int .u8 (u:Int)] 5);have E:Hid ((W2.alloc (.cells #[.int .u8 (u:Int)] 5)).drew.heap.size=W2.heap.size+1):=by show(W2.alloc _).heap.size=_;simp
 have N:Hid (w1.heap.size+2<=W2.heap.size):=eQ.o;have ec:Hid (B<=W2.heap.size):=ck;clear ck
 go_region_held3 (fun w'=>w'.rangeAt (w1.heap.size+1) 0 dl) (first | exact cn | exact aw | exact cq | exact cm | exact cQ) (first
  |(rw[if_pos (by rfl)];refine Fh _ (.tmp 17) (.tmp 18) 27 (by rfl) W2.heap.size 5 ib _ 1 Tryz.underlying27 eD eH et eu (by rfl) _ 1 [.int .u8 (u:Int)] (by rfl) eM.o B A m c (bvs l) (by rfl) (by rw[Ay];exact HM.o) ew.o (Br _) (by have:=ek.o;unfold maxLen;omega) (by have:=ek.o;omega) (by have:=E.o;omega) ?_;intro v4 w4 F D ei;rw[eF.o] at F;have cq:w4.rangeAt (w1.heap.size+1) 0 dl:=Gw aw (by have:=E.o;have:=N.o;omega) D (by have:=N.o;simp [Value.ownBlock];omega);have ed:Below B w w4:=cP.o.grown D (by have:=E.o;have:=ec.o;omega) (fun k hk=>by have:=ec.o;simp [Value.ownBlock] at hk;omega);obtain⟨A4,c4,er,cB,ep,eb⟩:=Gv (S:=fun _=>False) F (fun _ _ x=>x);subst er;have bB:=cA.o w4 A4 c4 cB ep eb.rd;have H4:=I ed;have Z4:=I D.size;clear F D ei ed cB ep eb)
  |(go_at_call 92;refine Calls.mono bB ?_;rintro e w5 ⟨he,O⟩;have he:=HT.o e he;subst he;clear bB;have cm:w5.rangeAt (w1.heap.size+1) 0 dl:=Ey cq (by have:=Z4.o;have:=E.o;have:=N.o;omega) O;have Z5:=I O.size;have O:=H4.o.trans (O.mono (by have:=H4.o.size;have:=EB.o;omega));have cf:=dbig T w5 TL.o;have H5:=I O;clear O)
  |(go_at_call 54;refine Calls.mono cf ?_;rintro e w6 ⟨v6,rfl,Z,bz⟩;clear cf;have cQ:w6.rangeAt (w1.heap.size+1) 0 dl:=Ey cm (by have:=Z4.o;have:=Z5.o;have:=E.o;have:=N.o;omega) bz;have bz:=H5.o.trans (bz.mono (by have:=H5.o.size;have:=EB.o;omega));have H6:=I bz;have O6:=I Z;have Z6:=I H5.o.size;clear bz Z))
 all_goals (
  clear cn aw cq cm cQ
  go_wp2_with fail
  go_ret;exact⟨_,rfl,O6.o.mono (by have:=Z6.o;have:=EB.o;omega),EB.o▸H6.o⟩)
theorem Uh (ks:Nat->UInt8) (u n:Int) (A:Option Addr) (m c:Nat) (w:World) (N:¬(0<=u/\u<=255/\0<=n/\n<=1099511627776/\m<=784)) :
  Calls Tryz.prog 23 #[.agg (AY ks),.int .i64 u,.int .i64 n,.slice A m c] w fun e w'=>e=.returned (.tuple #[.slice none 0 0,.int .i64 1])/\Below w.heap.size w w':=by
 obtain⟨O,D⟩:=Ak (AY ks);rw[<-D];have t:(decide (u<0)=true)\/(decide (u<0)=false/\decide (255<u)=true)\/(decide (u<0)=false/\decide (255<u)=false/\decide (n<0)=true)\/(decide (u<0)=false/\decide (255<u)=false/\decide (n<0)=false/\decide (1099511627776<n)=true)\/(decide (u<0)=false/\decide (255<u)=false/\decide (n<0)=false/\decide (1099511627776<n)=false/\decide (784<(m:Int))=true):=by
  simp only[decide_eq_true_eq,decide_eq_false_iff_not];omega
 have M:=I ((Below.refl w.heap.size w).alloc Ag (.cells O 36));clear N D;rcases t with E | ⟨E,F⟩ | ⟨E,F,J⟩ | ⟨E,F,J,Z⟩ | ⟨E,F,J,Z,t5⟩<;>(
  go_enter Tryz.func23,Tryz.ntmps23
  go_wp2
  go_ret2
  exact⟨rfl,M.o⟩)
theorem Ui (ks:Nat->UInt8) (u n:Nat) (A:Option Addr) (m c:Nat) (p:List UInt8) (w:World) (hu:u<=255) (hn:n<=1099511627776) (hm:m=p.length) (cj:m<=784) (hr:Rd w w.heap.size A (bvs p)) :
  Calls Tryz.prog 23 #[.agg (AY ks),.int .i64 (u:Int),.int .i64 (n:Int),.slice A m c] w fun e w'=>∃A2 c2,e=.returned (.tuple #[.slice A2 (m+16) c2,.int .i64 0])/\RdA (fun i=>i<w.heap.size) w' A2 (bvs (DI ks u n p))/\Below w.heap.size w w'/\m+16<=c2/\c2<=maxLen:=by
 obtain⟨ib,ev,cQ,ej,er⟩:=info_parts Si.BY;obtain⟨B,eB⟩:=Ak (w.heap.size);have O:=fun(w1:World) (h1:Rd w1 w1.heap.size A (bvs p))=>dmix ks u n A m c p w1 hu (by omega) hm (by omega) h1
 have bB:=fun(w1:World)=>dbig n w1 (by omega)
 obtain⟨L,eL⟩:=Ak (Fb ks u n p);have cf:bvs (w8 n)++bvs (mixL ks u n p)=bvs L:=by rw[eL,Fb,Bu]
 have ea:8+m=L.length:=by rw[eL,BU,<-hm]
 have aw:=fun(w1:World) (A1:Option Addr) (c1:Nat) (h1:Rd w1 w1.heap.size A1 (bvs L))=>dtag ks u A1 (8+m) c1 L w1 hu ea (by omega) h1
 have bz:bvs L++bvs (w8 (tagL ks u L))=bvs (DI ks u n p):=by rw[eL,<-Bu];rfl
 have cq:(bvs (mixL ks u n p)).length=m:=by rw[Ay,Bw,hm]
 obtain⟨M,eM⟩:=Ak (bvs (mixL ks u n p));obtain⟨W8,ei⟩:=Ak (bvs (w8 n));obtain⟨T8,cg⟩:=Ak (bvs (w8 (tagL ks u L)));have oM:∀v∈M,v.oneCell'=true:=eM▸Br _;have oT:∀v∈T8,v.oneCell'=true:=cg▸Br _;have eF:T8.length=8:=by rw[cg,Ay,Dn]
 rw[<-eM] at O cf cq;rw[<-ei] at bB cf;rw[<-cg] at aw bz;have eW:∃kl:List Value,kl.toArray=AY ks:=⟨_,rfl⟩;obtain⟨kl,cw⟩:=eW;have u32:(Tryz.prog.info? 36).map (·.size)=some kl.length:=by rw[<-List.size_toArray,cw];exact Gm ks
 have cA:=Tryz.underlying36;rw[<-cw] at O aw⊢;have q1:(n:Int)<=1099511627776:=by omega
 have q2:(0:Int)<=(n:Int):=by omega
 have q3:(m:Int)<=784:=by omega
 have q4:IntKind.u64.wrap (n:Int)=(n:Int):=by rw[IntKind.wrap_u64];omega
 have q5:(n:Int) % 18446744073709551616=(n:Int):=by omega
 have t1:decide ((u:Int)<0)=false:=by simp
 have t2:decide (255<(u:Int))=false:=by simp;omega
 have t3:decide ((n:Int)<0)=false:=by simp
 have t4:decide (1099511627776<(n:Int))=false:=by simp;omega
 have t5:decide (784<(m:Int))=false:=by simp;omega
 have EB:=I eB;have HR:=I (eB▸hr);clear hr;have cn:=I cj;clear cj;have cy:=I O;clear O;have et:=I bB;clear bB;have cR:=I aw;clear aw;have eT:=I cf;clear cf;have ek:=I bz;clear bz;have fb:=I cq;clear cq;have eP:=I eF;clear eF;have OM:=I oM;clear oM;have OT:=I oT;clear oT;have cu:(w.alloc (.cells kl.toArray 36)).drew.rangeAt w.heap.size 0 kl:=by have:=Si.Ae (Blk.new w 36 kl.toArray);simpa using this
 have eK:Hid (Below B w (w.alloc (.cells kl.toArray 36)).drew):=eB▸below_drewN ((Below.refl w.heap.size w).alloc Ag _) 1;have ck:Hid ((w.alloc (.cells kl.toArray 36)).drew.heap.size=B+1):=by show(w.alloc _).heap.size=_;simp [eB]
 have cb:=et.o (w.alloc (.cells kl.toArray 36)).drew;clear hu hn hm ea eM ei cg cw eB eL;go_enter Tryz.func23,Tryz.ntmps23
 go_upto_region 3 with fail
 go_region_held3 (fun w'=>w'.rangeAt w.heap.size 0 kl) (first | exact cu | exact cx | exact cp | exact cr) (first
  |(rw[if_pos (by rfl)];refine Fh _ (.tmp 32) (.tmp 38) 27 (by rfl) (B+1) 5 ib _ 1 Tryz.underlying27 ev cQ ej er (by rfl) v1 8 W8 (by rfl) O2.o w2.heap.size A2 m c2 M (by rfl) fb.o.symm R2.o OM.o (by have:=cn.o;unfold maxLen;omega) (by have:=cn.o;omega) (by have:=Z2.o;omega) ?_;intro v3 w3 E D eD;rw[eT.o] at E;have cr:w3.rangeAt w.heap.size 0 kl:=Gw cp (by have:=Z2.o;have:=EB.o;omega) D (fun hx=>by have:=Fy O2.o _ hx;have:=EB.o;omega);have ey:Below B w w3:=H2.o.grown D (by have:=Z2.o;omega) (fun k hk=>by have:=Fy O2.o _ hk;omega);obtain⟨A3,c3,eV,fi,eS,ew⟩:=Gv (S:=fun _=>False) E (fun _ _ x=>x);subst eV;have ct:=cR.o w3 A3 c3 ew.rd;have H3:=I ey;have O3:=I E;have Z3:=I (Nat.le_trans Z2.o D.size);clear E D eD ey fi eS ew)
  |(go_at_call 54;refine Calls.mono cb ?_;rintro e w1 ⟨v1,rfl,cd,N⟩;clear cb;have cx:w1.rangeAt w.heap.size 0 kl:=Ey cu (by have:=ck.o;have:=EB.o;omega) N;have ed:B+1<=w1.heap.size:=by{have:=ck.o;have:=N.size;omega};have N:=eK.o.trans (N.mono (by have:=ck.o;omega));have cm:=cy.o w1 ((HR.o.below N).more (by omega));have H1:=I N;have O1:=I (cd.mono (base':=B+1) (by have:=ck.o;omega));have Z1:=I ed;clear N cd ed)
  |(go_at_call 55;refine Calls.mono cm ?_;rintro e w2 ⟨v2,rfl,ca,J⟩;clear cm;have cp:w2.rangeAt w.heap.size 0 kl:=Ey cx (by have:=Z1.o;have:=EB.o;omega) J;have eb:B+1<=w2.heap.size:=Nat.le_trans Z1.o J.size;have eu:=Ek O1.o J;obtain⟨A2,c2,eH,eQ,cj,eg⟩:=Gv (S:=fun _=>False) ca (fun _ _ x=>x);subst eH;have J:=H1.o.trans (J.mono (by have:=Z1.o;omega));have H2:=I J;have O2:=I eu;have Z2:=I eb;have R2:=I eg.rd;clear J ca eb eu eQ cj eg))
 all_goals (
  have ff:Hid (w3.rangeAt w.heap.size 0 kl.toArray.toList):=cr;have eX:Hid ((Tryz.prog.info? 36).map (·.size)=some kl.toArray.size):=by rw[List.size_toArray];exact u32
  clear cu cx cp cr u32 cA N J
  go_wp2_with (first
   |(refine Am (by rfl) 36 (.tmp 4) (by rfl) w.heap.size 0 (by rfl) kl.toArray _ ff.o Tryz.underlying36 (by rfl) eX.o ?_)
   |(go_at_call 56;refine Calls.mono ct ?_;rintro e w4 ⟨v4,rfl,cc,bx⟩;clear ct;have cL:=Ek O3.o bx;have ez:=Nat.le_trans Z3.o bx.size;have bx:=H3.o.trans (bx.mono (by have:=Z3.o;omega));obtain⟨A4,c4,eN,eR,fj,cP⟩:=Gv (S:=fun _=>False) cc (fun _ _ x=>x);subst eN;have H4:=I bx;have O4:=I cL;have Z4:=I ez;have R4:=I cP.rd;clear bx cc cL ez eR fj cP)
   |(at_builtin;refine AA _ (by rfl) (.tmp 40) (.tmp 44) 27 (by rfl) (B+1) 5 ib _ 1 Tryz.underlying27 ev cQ ej er (by rfl) _ (8+m) (bvs L) (by rfl) O4.o w4.heap.size A4 8 c4 T8 (by rfl) eP.o.symm R4.o OT.o (by have:=cn.o;unfold maxLen;omega) (by have:=cn.o;omega) (by have:=Z4.o;omega) ?_;intro v5 w5 F Z ef;rw[ek.o] at F;have ep:=H4.o.grown Z (by have:=Z4.o;omega) (fun k hk=>by have:=Fy O4.o k hk;omega);obtain⟨A5,c5,eJ,cB,eo,ec⟩:=Gv (S:=fun i=>i<w.heap.size) F (fun k hk hx=>by have:=Fy F k hk;have:=EB.o;omega);subst eJ;have H5:=I ep;have R5:=I ec;have C5:=I (And.intro cB eo);clear F Z ef ep cB eo ec)
   |fail)
  go_ret2
  exact⟨A5,c5,by show Ending.returned (.tuple #[.slice A5 (8+m+8) c5,.int .i64 0])=_;rw[show 8+m+8=m+16 by omega],R5.o,EB.o▸H5.o,by have:=C5.o.1;omega,C5.o.2⟩)
end Se
end Go.Proofs.YthgignaohimadaaGreat
