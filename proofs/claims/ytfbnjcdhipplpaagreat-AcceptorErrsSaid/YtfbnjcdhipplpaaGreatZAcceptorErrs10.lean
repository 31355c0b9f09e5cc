import Derived.Test.YtfbnjcdhipplpaaGreatZAcceptorErrs9
set_option maxHeartbeats 25600000
set_option maxRecDepth 100000
set_option linter.unusedVariables false
set_option linter.unusedSimpArgs false
namespace Go.Proofs.YtfbnjcdhipplpaaGreat
namespace SpL
open Go.RowKit Af Sp
theorem IJ (K:Nat->Wd) (up lo:Wd) (i j:Nat) (hj:j<4):(EI K up lo (8*i+j)).toNat=(Cc K (up,lo+BitVec.ofNat 32 i)).1.toNat / 256 ^ j % 256:=by
 have M:(8*i+j) / 8=i:=by omega
 have O:(8*i+j) % 8=j:=by omega
 rw[EI,M,O,UInt8.toNat_ofNat',JZ];have Z:=Gu (Cc K (up,lo+BitVec.ofNat 32 i)).1;have h:j=0\/j=1\/j=2\/j=3:=by omega
 rcases h with rfl | rfl | rfl | rfl<;>simp only[Nat.reducePow]<;>omega
theorem IL (K:Nat->Wd) (up lo:Wd) (i j:Nat) (hj:j<4):(EI K up lo (8*i+4+j)).toNat=(Cc K (up,lo+BitVec.ofNat 32 i)).2.toNat / 256 ^ j % 256:=by
 have M:(8*i+4+j) / 8=i:=by omega
 have O:(8*i+4+j) % 8=4+j:=by omega
 rw[EI,M,O,UInt8.toNat_ofNat',JZ];have Z:=Gu (Cc K (up,lo+BitVec.ofNat 32 i)).1;have h:j=0\/j=1\/j=2\/j=3:=by omega
 rcases h with rfl | rfl | rfl | rfl<;>simp only[Nat.reducePow,Nat.reduceAdd]<;>omega
def JB (w:World) (g:Nat) (cs:Array Value):Prop:=w.rangeAt g 0 cs.toList
theorem JB.grown {w w':World} {g:Nat} {cs:Array Value} {row:Option Nat} (h:JB w g cs) (Z:g<w.heap.size) (hb:w.grownBy w' row) (O:row≠some g):JB w' g cs:=fun j v M=>
 (World.cell?_of_block (a:=⟨g,0+j,none⟩) (hb.block g Z (fun e=>O e.symm))).trans (h j v M)
theorem JB.below {w w':World} {g:Nat} {cs:Array Value} (h:JB w g cs) (M:g<w.heap.size) (O:Below w.heap.size w w'):JB w' g cs:=h.grown M (Dh O none) (by simp)
theorem Ka {P:Program} {ops:Array Oper} {rest:List Oper} {op:Oper} {a:Act} {w:World} {Q:Exit->Act->World->Prop} (M:op.guard=none) (ty:TypeId) (x:Operand) (O:op.op=.load ty x)
  (g:Nat) (hx:a.eval x=.pointer (some ⟨g,0,none⟩)) (cs:Array Value) (d:TypeDesc) (hc:JB w g cs)
  (hu:P.underlying ty=some d) (Z:d.isRow=true) (hi:(P.info? ty).map (·.size)=some cs.size)
  (h:wpList P ops Q rest (a.put op.dst (.agg cs)) w):wpList P ops Q (op :: rest) a w:=
 wpList_load_mid M ty x O g 0 hx cs.toList d hc hu Z (by rw[Array.length_toList];exact hi) (by simpa using h)
theorem Fc (b:Nat):∀(M:List Value) (o:Nat) (w:World),(w.setCells b o M).heap.size=w.heap.size
 | [],_,_=>rfl
 |v :: r,o,w=>by rw[World.setCells,Fc b r];simp [World.setCell]
theorem XY (K:Nat->Wd):(AY K).size=27:=by simp [AY]
theorem cN (K:Nat->Wd):(Tryz.prog.info? 243).map (·.size)=some (AY K).size:=by rw[XY];kernel_rfl
def eight (x y:Wd):List Value:=[.int .u8 ((x.toNat:Int) % 256),.int .u8 ((x.toNat:Int) / 256 % 256),.int .u8 ((x.toNat:Int) / 65536 % 256),.int .u8 ((x.toNat:Int) / 16777216),
 .int .u8 ((y.toNat:Int) % 256),.int .u8 ((y.toNat:Int) / 256 % 256),.int .u8 ((y.toNat:Int) / 65536 % 256),.int .u8 ((y.toNat:Int) / 16777216)]
theorem QK (K:Nat->Wd) (up lo:Wd) (i:Nat):bvs (strm K up lo (8*i))++eight (Cc K (up,lo+BitVec.ofNat 32 i)).1 (Cc K (up,lo+BitVec.ofNat 32 i)).2=bvs (strm K up lo (8*(i+1))):=by
 have e:strm K up lo (8*(i+1))=strm K up lo (8*i)++[EI K up lo (8*i+0),EI K up lo (8*i+1),EI K up lo (8*i+2),EI K up lo (8*i+3),EI K up lo (8*i+4+0),EI K up lo (8*i+4+1),EI K up lo (8*i+4+2),EI K up lo (8*i+4+3)]:=by
  unfold strm;rw[show 8*(i+1)=8*i+1+1+1+1+1+1+1+1 by omega];simp [List.range_succ]
 rw[e,BA]
 congr 1
 have M:=IJ K up lo i 0 (by decide);have a1:=IJ K up lo i 1 (by decide);have Z:=IJ K up lo i 2 (by decide);have a3:=IJ K up lo i 3 (by decide);have O:=IL K up lo i 0 (by decide);have b1:=IL K up lo i 1 (by decide);have b2:=IL K up lo i 2 (by decide);have b3:=IL K up lo i 3 (by decide);have hx:=Gu (Cc K (up,lo+BitVec.ofNat 32 i)).1;have hy:=Gu (Cc K (up,lo+BitVec.ofNat 32 i)).2;rw[show((Cc K (up,lo+BitVec.ofNat 32 i)).1.toNat / 256 ^ 3 % 256)=(Cc K (up,lo+BitVec.ofNat 32 i)).1.toNat / 16777216 by simp only[Nat.reducePow];omega] at a3;rw[show((Cc K (up,lo+BitVec.ofNat 32 i)).2.toNat / 256 ^ 3 % 256)=(Cc K (up,lo+BitVec.ofNat 32 i)).2.toNat / 16777216 by simp only[Nat.reducePow];omega] at b3;simp only[bvs,List.map_cons,List.map_nil,bv,eight,M,a1,Z,a3,O,b1,b2,b3];simp
theorem Rd.take {w:World} {B:Nat} {A:Option Addr} {xs:List Value} (h:Rd w B A xs) (m:Nat):Rd w B A (xs.take m):=by
 rcases h with h | ⟨b,o,O,M,Z⟩
 ·rw[h];exact .inl (by simp)
 ·refine .inr ⟨b,o,O,M,fun i u hu=>Z i u ?_⟩
  rw[List.getElem?_take] at hu
  split at hu
  ·exact hu
  ·cases hu
theorem bt' {B:Nat} {a w c:World} (h:Below B a w) (hB:B+1<=w.heap.size) (k:Below w.heap.size w c):Below B a c:=Hn h (by omega) k
theorem ZH (K:Nat->Wd) (N m:Nat) (n:Int) (w:World) (hN:N<18446744073709551616) (hm:m<=1000) (hn:m=n.toNat) :
  Calls Tryz.prog 131 #[.agg (AY K),.int .u64 (N:Int),.int .i64 n] w fun e w'=>∃A c,e=.returned (.slice A m c)/\m<=c/\Rd w' w'.heap.size A (bvs (strm K (upW N) (loW N) m))/\Below w.heap.size w w':=by
 obtain⟨B,eB⟩:=Ak (w.heap.size);rw[<-eB];have EB:=I eB;have cb:=XY K;have bB:=cN K;obtain⟨cs,bn⟩:=Ak (AY K);rw[<-bn] at cb bB;have cB:=bP K;rw[<-bn] at cB;rw[<-bn];obtain⟨ib,cR,cM,cP,cy⟩:=info_parts Cp;have ed:=I cb;clear cb;have cL:=I bB;clear bB;have ej:=I bn;clear bn;have NN:=I hN;clear hN;have HM:=I hm;clear hm;have HN:=I hn;clear hn;have cr:Blk (w.alloc (.cells cs 243)) B 243 cs:=Blk.new_of w B _ _ _ rfl eB.symm;have ea:=I cr;clear cr;go_enter Tryz.func131,Tryz.ntmps131
 go_wp2_with fail
 rw[<-eB];clear eB
 go_loopw [7,8] (fun cA iv wr=>∃i:Nat,8*i<m+8/\iv=.int .i64 (i:Int)/\Blk wr B 243 cs/\Below B w wr/\B+1<=wr.heap.size/\wr.ownsRow (B+1) 5 1 cA (8*i) (bvs (strm K (upW N) (loW N) (8*i)))) (fun _ iv _=>m+8 - 8*(intOf iv).toNat)
 case atStart=>exact⟨0,by omega,rfl,ea.o,EB.o▸Ah.alloc Ag _,by have:=EB.o;simp;omega,rfl,.inl ⟨rfl,rfl⟩⟩
 case round=>
  obtain⟨i,hi,rfl,hB,hb,cw,aw⟩:=hrel;have HB:=I hB;clear hB;have bz:=I hb;clear hb;have HS:=I cw;clear cw;have hlen:∃A cap,u7=.slice A (8*i) cap/\8*i<=cap/\(∀n k,(Value.slice A n cap).ownBlock=some k->B+1<=k):=by
   obtain⟨_,⟨h1,h2⟩ | ⟨g,cap,cur,h1,hg,_,O,_⟩⟩:=aw
   ·exact⟨none,0,by rw[h1,h2],by omega,fun n k h=>by simp [Value.ownBlock] at h⟩
   ·exact⟨_,cap,h1,O,fun n k h=>by simp only[Value.ownBlock] at h;injection h with h;omega⟩
  obtain⟨A,cap,rfl,O,cg⟩:=hlen;have ck:=I cg;clear cg;have HO:=I aw;clear aw;obtain⟨o,eo⟩:=Ak (8*i);rw[<-eo];have EO:=I eo;clear eo
  by_cases hlt:(o:Int)<n
  ·have ef:(0:Int)<=(i:Int):=by omega
   have ei:(i:Int)<=200:=by have:=EO.o;have:=HM.o;have:=HN.o;omega
   have HH:=I hi;clear hi
   go_wp2_with (first | (refine Ka (by rfl) 243 (.tmp 3) (by rfl) B (by rfl) cs _ (Ad HB.o) Tryz.underlying243 (by rfl) cL.o ?_) | fail)
   have cp:(N:Int) / 4294967296 % 4294967296=((upW N).toNat:Int):=by rw[upW,BitVec.toNat_ofNat];have:=NN.o;omega
   have bx:((N:Int)+(i:Int)) % 4294967296=((loW N+BitVec.ofNat 32 i).toNat:Int):=by rw[loW,BitVec.toNat_add,BitVec.toNat_ofNat,BitVec.toNat_ofNat];omega
   rw[cp,bx];obtain⟨p,ep⟩:=Ak (Cc K (upW N,loW N+BitVec.ofNat 32 i));obtain⟨x0,ex⟩:=Ak (p.1);obtain⟨y0,ey⟩:=Ak (p.2);have c4:=cB (upW N) (loW N+BitVec.ofNat 32 i) wr;rw[<-ep,<-ex,<-ey] at c4;have ct:bvs (strm K (upW N) (loW N) (8*i))++eight x0 y0=bvs (strm K (upW N) (loW N) (8*(i+1))):=by rw[ex,ey,ep];exact QK K _ _ i
   have cQ:=I ct;clear ct;clear ep ex ey cp bx;refine Aj c4 ?_;rintro w5 Z;have cc:=BU HO.o Z;rw[<-EO.o] at cc;have av:=cQ.o;rw[<-EO.o] at av;have cX:=I av;clear av;have cj:=HB.o.below Z;have cm:=bt' bz.o HS.o Z;have cf:=Nat.le_trans HS.o Z.size;have ec:=I cc;clear cc;have cT:=I cj;clear cj;have eb:=I cm;clear cm;have bq:=I cf;clear cf;clear Z c4
   go_wp2_with (first | (at_builtin;refine AJ _ (by rfl) (.tmp 30) (.tmp 53) 34 (by rfl) (B+1) 5 ib _ 1 Tryz.underlying34 cR cM cP cy (by rfl) (.slice A o cap) o (bvs (strm K (upW N) (loW N) o)) (by rfl) (Fb ec.o (by rfl)) (w5.heap.size+1) (some ⟨w5.heap.size,0,none⟩) 8 8 (eight x0 y0) (by rfl) (by rfl) (Hb w5 5 _ (eight x0 y0) (by rfl) _ rfl) (by simp [eight,Value.oneCell']) (by have:=EO.o;unfold maxLen;omega) (by have:=EO.o;omega) (by have:=bq.o;simp;omega) ?_;intro v6 w6 bb M cq) | fail)
   have cx:=Blk.grown (Blk.alloc cT.o _) M (fun h=>by have:=ck.o _ _ h;omega);have cu:=Below.grown (eb.o.alloc (by have:=bq.o;omega) _) M (by have:=bq.o;simp;omega) (fun k hk=>by have:=ck.o _ _ hk;omega);have cn:=M.size;have cd:=bb;rw[cX.o,show o+8=8*(i+1) by have:=EO.o;omega] at cd;have B6:=I cx;clear cx;have B7:=I cu;clear cu;have S7:=I cn;clear cn;have O7:=I cd;clear cd;clear bb M cq
   go_wp2_with fail
   go_roundw
   case rel=>
    exact⟨i+1,by have:=EO.o;have:=HN.o;omega,by go_num,B6.o,B7.o,by have h1:=S7.o;have:=bq.o;simp at h1;omega,O7.o⟩
   case measure=>have:=EO.o;have:=HN.o;simp [intOf];omega
  ·have eg:n<=(o:Int):=by omega
   have e1:decide ((o:Int)<n)=false:=by simp;omega
   have cY:n<=(cap:Int):=by have:=EO.o;omega
   have HC:=I O;clear O
   by_cases h0:n<0
   ·go_wp2_with fail
    go_ret;have ca:m=0:=by have:=HN.o;omega
    refine⟨A,cap,by rw[ca];first | rfl | exact congrArg (fun k=>Ending.returned (Value.slice A k cap)) (show(max n 0).toNat=0 by omega),by rw[ca];exact Nat.zero_le _,?_,bz.o⟩;rw[ca];exact .inl rfl
   ·have h1:(0:Int)<=n:=by omega
    go_wp2_with fail
    go_ret;refine⟨A,cap,by rw[HN.o];first | rfl | exact congrArg (fun k=>Ending.returned (Value.slice A k cap)) (show(max n 0).toNat=n.toNat by omega),by have:=HN.o;omega,?_,bz.o⟩;have hr:=Rd.of_own HO.o;have ht:bvs (strm K (upW N) (loW N) m)=(bvs (strm K (upW N) (loW N) (8*i))).take m:=by
     rw[<-SU K (upW N) (loW N) m (8*i) (by have:=EO.o;have:=HN.o;omega)];simp [bvs,List.map_take]
    rw[ht];exact Rd.take hr m
end SpL
namespace Se
open Go.RowKit Af
def hk (f:Nat->UInt8) (i j:Nat):UInt8:=if j<i then f j else 0
theorem FR (f:Nat->UInt8) (j:Nat) (M:j<16):(Sp.AR f)[j]? = some (bv (f j)):=Sp.FR f j M
theorem XZ (f:Nat->UInt8) (i:Nat) (hi:i<16):(Sp.AR (hk f i)).setIfInBounds i (bv (f i))=Sp.AR (hk f (i+1)):=by
 unfold Sp.AR;rw[List.setIfInBounds_toArray]
 congr 1
 apply List.ext_getElem?;intro j;rw[List.getElem?_set,List.getElem?_map,List.getElem?_map]
 by_cases hj:i=j
 ·subst hj;simp [hi,hk]
 ·rw[if_neg hj]
  rcases Nat.lt_or_ge j 16 with h | h
  ·have e:(j<i)=(j<i+1):=propext ⟨by omega,by omega⟩
   simp [h,hk,e]
  ·rw[List.getElem?_eq_none (by simpa using h)];rfl
theorem cO (f:Nat->UInt8):Sp.AR (hk f 16)=Sp.AR f:=Sp.Jt fun j M=>if_pos M
theorem TD (f:Nat->UInt8):Sp.AR (hk f 0)=Sp.AR (fun _=>0):=Sp.Jt fun j M=>rfl
theorem key32_at' (f:Nat->UInt8) (j:Nat) (M:j<32):(Be f)[j]? = some (bv (f j)):=by
 rw[Be,List.getElem?_toArray];simp [M]
theorem Ok {P:Program} {fn:Func} {tmps:Array Value} {w:World} {v1 v2:Value} (t1 t2:Nat) (M O:TypeId) (a1 a2:Addr) (Z:fn.results=#[.cell t1 M,.cell t2 O]) (bn:tmps.getD t1 undef=.pointer (some a1)) (av:tmps.getD t2 undef=.pointer (some a2)) (bb:(loadVar M a1).run P w=.ok v1 w) (aw:(loadVar O a2).run P w=.ok v2 w) :
  (results fn tmps).run P w=.ok (.tuple #[v1,v2]) w:=by
 have h1:tmps[t1]?.getD undef=.pointer (some a1):=by simpa using bn
 have h2:tmps[t2]?.getD undef=.pointer (some a2):=by simpa using av
 simp [results,Z,h1,h2,asAddr,bb,aw]
theorem TG (ks:Nat->UInt8) (w:World):Calls Tryz.prog 130 #[.agg (Be ks)] w fun e w'=>e=.returned (.tuple #[.agg (Sp.AR ks),.agg (Sp.AR (k2 ks))])/\Below w.heap.size w w':=by
 obtain⟨B,eB⟩:=Ak (w.heap.size);have EB:=I eB;have bn:Sp.AR (fun _=>0)=#[.int .u8 0,.int .u8 0,.int .u8 0,.int .u8 0,.int .u8 0,.int .u8 0,.int .u8 0,.int .u8 0,.int .u8 0,.int .u8 0,.int .u8 0,.int .u8 0,.int .u8 0,.int .u8 0,.int .u8 0,.int .u8 0]:=rfl;have HZ:=I bn;clear bn;obtain⟨kc,bx⟩:=Ak (Be ks);rw[<-bx];have EK:=I bx;clear bx;go_enter Tryz.func130,Tryz.ntmps130
 go_wp2_with fail
 rw[<-eB];clear eB
 go_loopw [6] (fun iv wr=>∃i:Nat,i<=16/\iv=.int .i64 (i:Int)/\Below B w wr/\wr.heap.size=B+5/\Blk wr B 29 kc/\Blk wr (B+1) 225 (Sp.AR (fun _=>0))/\Blk wr (B+2) 225 (Sp.AR (fun _=>0))/\Blk wr (B+3) 225 (Sp.AR (hk ks i))/\Blk wr (B+4) 225 (Sp.AR (hk (k2 ks) i))) (fun iv _=>16 - (intOf iv).toNat)
 case atStart=>
  have z1:Blk (w.alloc (.cells kc 29)) B 29 kc:=EB.o▸Blk.new w _ _;have q0:(w.alloc (.cells kc 29)).heap.size=B+1:=by rw[EB.o];simp
  have b0:Below B w (w.alloc (.cells kc 29)):=EB.o▸(Below.refl w.heap.size w).alloc Ag _;have key:∀(w1:World) (n:Nat),w1.heap.size=n->Blk (w1.alloc (.cells (Sp.AR fun _=>0) 225)) n 225 (Sp.AR fun _=>0)/\(w1.alloc (.cells (Sp.AR fun _=>0) 225)).heap.size=n+1:=fun w1 n h=>⟨h▸Blk.new w1 _ _,by rw[<-h];simp⟩
  obtain⟨k1,q1⟩:=key _ _ q0;obtain⟨cb,q2⟩:=key _ _ q1;obtain⟨k3,q3⟩:=key _ _ q2;obtain⟨k4,q4⟩:=key _ _ q3;refine⟨0,by decide,rfl,?_,q4,(((z1.alloc _).alloc _).alloc _).alloc _,((k1.alloc _).alloc _).alloc _,(cb.alloc _).alloc _,?_,?_⟩
  ·exact(((b0.alloc (by have:=EB.o;simp;omega) _).alloc (by have:=EB.o;simp;omega) _).alloc (by have:=EB.o;simp;omega) _).alloc (by have:=EB.o;simp;omega) _
  ·rw[TD];exact k3.alloc _
  ·rw[TD];exact k4
 case round=>
  obtain⟨i,hi,rfl,hb,ca,h0,h1,h2,h3,h4⟩:=hrel;have HB:=I hb;clear hb;have HS:=I ca;clear ca
  by_cases hx:i=16
  ·subst hx
   rw[cO] at h3 h4;obtain⟨cs,av⟩:=Ak ((List.range 16).map (fun j=>bv (ks j)));obtain⟨ds,aw⟩:=Ak ((List.range 16).map (fun j=>bv (k2 ks j)));have n3:cs.length=16:=by rw[av];simp
   have n4:ds.length=16:=by rw[aw];simp
   have o3:∀v∈cs,v.oneCell'=true:=by rw[av];intro v hv;obtain⟨j,_,rfl⟩:=List.mem_map.1 hv;rfl
   have o4:∀v∈ds,v.oneCell'=true:=by rw[aw];intro v hv;obtain⟨j,_,rfl⟩:=List.mem_map.1 hv;rfl
   have h3:Blk wr (B+3) 225 cs.toArray:=by rw[av];exact h3
   have h4:Blk wr (B+4) 225 ds.toArray:=by rw[aw];exact h4
   have r3:wr.drew.rangeAt (B+1+1+1) 0 cs:=by have:=Si.Ad h3;simpa using this
   have r4:wr.drew.rangeAt (B+1+1+1+1) 0 ds:=by have:=Si.Ad h4;simpa using this
   have t1:wr.drew.there (B+1) 0 16:=by have:=Si.Ar h1;rwa [Bd] at this
   have t2:wr.drew.there (B+1+1) 0 16:=by have:=Si.Ar h2;rwa [Bd] at this
   have u3:(Tryz.prog.info? 225).map (·.size)=some cs.length:=by rw[n3];kernel_rfl
   have u4:(Tryz.prog.info? 225).map (·.size)=some ds.length:=by rw[n4];kernel_rfl
   have Z:=Tryz.underlying225;have EC:=I av;clear av;have ED:=I aw;clear aw;clear h0 h1 h2 h3 h4
   go_wp2_with fail
   refine wp_region_held_drew (S:=fun w'=>w'.rangeAt (B+1+1+1) 0 cs/\w'.rangeAt (B+1+1+1+1) 0 ds/\w'.there (B+1) 0 16/\w'.there (B+1+1) 0 16) (by kernel_rfl) ⟨r3,r4,t1,t2⟩ (fun O=>?_);refine wpAnyH_take (i:=0) (v:=.agg cs.toArray) rfl (by kernel_rfl) (by kernel_rfl) (by kernel_rfl) (fun _ _ _ h=>h) (yieldsIf_load_mid (by rfl) 225 (.tmp 4) rfl (B+1+1+1) 0 rfl cs _ (fun _ h=>h.1) Z rfl u3) O ?_;refine wpAnyH_take (i:=1) (v:=.agg ds.toArray) rfl (by kernel_rfl) (by kernel_rfl) (by kernel_rfl) (fun _ _ _ h=>h) (yieldsIf_load_mid (by rfl) 225 (.tmp 5) rfl (B+1+1+1+1) 0 rfl ds _ (fun _ h=>h.2.1) Z rfl u4) O ?_;refine wpAnyH_ready (rs:=[2]) (by kernel_rfl) (by simp) ?_;refine AllReadyH.cons (o:=_) rfl (fun K hK=>?_) AllReadyH.nil;rw[if_pos (by rfl)];refine wp_store_mid 225 _ _ rfl (B+1) 0 cs.toArray rfl rfl (by rw[List.size_toArray,n3];exact O.2.2.1) (by rw[List.size_toArray];exact u3) (all_oneCell_toArray o3) ?_;refine hK.o _ _ ⟨World.rangeAt_setCells_apart O.1 _ _ _ (.inl (by omega)),World.rangeAt_setCells_apart O.2.1 _ _ _ (.inl (by omega)),World.there_setCells O.2.2.1 _ _ _,World.there_setCells O.2.2.2 _ _ _⟩ (fun M=>?_);clear hK K;refine wpAnyH_ready (rs:=[3]) (by kernel_rfl) (by simp) ?_;refine AllReadyH.cons (o:=_) rfl (fun K hK=>?_) AllReadyH.nil;rw[if_pos (by rfl)];refine wp_store_mid 225 _ _ rfl (B+1+1) 0 ds.toArray rfl rfl (by rw[List.size_toArray,n4];exact M.2.2.2) (by rw[List.size_toArray];exact u4) (all_oneCell_toArray o4) ?_;refine hK.o _ _ ⟨World.rangeAt_setCells_apart M.1 _ _ _ (.inl (by omega)),World.rangeAt_setCells_apart M.2.1 _ _ _ (.inl (by omega)),World.there_setCells M.2.2.1 _ _ _,World.there_setCells M.2.2.2 _ _ _⟩ (fun bb=>?_);clear hK K;refine wpAnyH_done (by kernel_rfl) ?_ _;have bz:((wr.drew.setCells (B+1) 0 cs).setCells (B+1+1) 0 ds).rangeAt (B+1) 0 cs:=World.rangeAt_setCells_apart (World.rangeAt_setCells_same _ _ _ _ (by rw[n3];exact t1)) _ _ _ (.inl (by omega));have bB:((wr.drew.setCells (B+1) 0 cs).setCells (B+1+1) 0 ds).rangeAt (B+1+1) 0 ds:=World.rangeAt_setCells_same _ _ _ _ (by rw[n4];exact M.2.2.2);have bq:Below B w ((wr.drew.setCells (B+1) 0 cs).setCells (B+1+1) 0 ds):=Si.Bp _ (by omega) _ _ _ (Si.Bp _ (by omega) _ _ _ (below_drewN HB.o 1));change Exit.then _ _ Exit.normal _ ((wr.drew.setCells (B+1) 0 cs).setCells (B+1+1) 0 ds)
   generalize (wr.drew.setCells (B+1) 0 cs).setCells (B+1+1) 0 ds=W3 at bz bB bq⊢;clear O M bb r3 r4 t1 t2;have q1:=run_loadVar_mid (P:=Tryz.prog) W3 (B+1) 0 225 cs _ bz Z rfl u3;have q2:=run_loadVar_mid (P:=Tryz.prog) W3 (B+1+1) 0 225 ds _ bB Z rfl u4;have Q1:=I q1;clear q1;have Q2:=I q2;clear q2;have BW:=I bq;clear bq;clear bz bB u3 u4 Z n3 n4 o3 o4 h3 h4
   go_wp2_with fail
   refine bodyPost_ret (v:=.tuple #[.agg cs.toArray,.agg ds.toArray]) (Ok 2 3 225 225 ⟨B+1,0,none⟩ ⟨B+1+1,0,none⟩ Tryz.results130 (by rfl) (by rfl) Q1.o Q2.o) (by rfl) ?_;exact⟨by rw[EC.o,ED.o];rfl,EB.o▸BW.o⟩
  ·have e1:(i:Int)<16:=by omega
   have e2:(0:Int)<=(i:Int):=by omega
   have e3:i<16:=by omega
   have e4:(16:Int)+(i:Int)<32:=by omega
   have e5:(0:Int)<=(16:Int)+(i:Int):=by omega
   have e6:16+i<32:=by omega
   have e7:i<32:=by omega
   obtain⟨x,ex⟩:=Ak (ks i);obtain⟨y,ey⟩:=Ak (ks (16+i));have g0:wr.cell? ⟨B,i,none⟩=some (.int .u8 (x.toNat:Int)):=by rw[h0.cell,EK.o,key32_at' ks i e7,ex];rfl
   have g1:wr.cell? ⟨B,16+i,none⟩=some (.int .u8 (y.toNat:Int)):=by rw[h0.cell,EK.o,key32_at' ks (16+i) e6,ey];rfl
   have f3:=h3.frozen;have f4:=h4.frozen;have c3:=h3.cell i;have c4:=h4.cell i;rw[FR _ _ e3] at c3 c4;simp only[bv] at c3 c4;have H0:=I h0;clear h0;have H1:=I h1;clear h1;have H2:=I h2;clear h2;have H3:=I h3;clear h3;have H4:=I h4;clear h4;have hw:IntKind.i64.wrap ((16:Int)+(i:Int))=(16:Int)+(i:Int):=by rw[IntKind.wrap_i64];omega
   have EX:=I ex;clear ex;have EY:=I ey;clear ey;have HX:=I hx;clear hx;have HI:=I hi;clear hi
   go_wp2_with fail
   go_region
   all_goals go_wp2_with fail
   all_goals
    go_roundw
    case rel=>
     have s3:=H3.o.set i (bv x);rw[EX.o,XZ ks i e3,<-EX.o] at s3;have s4:=(Si.Blk.far H4.o ⟨B+3,i,none⟩ (bv x) (by simp)).set i (bv y);rw[EY.o,show ks (16+i)=k2 ks i from rfl,XZ (k2 ks) i e3] at s4;refine⟨i+1,by omega,by go_num,?_,?_,?_,?_,?_,?_,?_⟩
     ·exact below_drewN (Si.AI (Si.AI HB.o (by simp;omega) _) (by simp;omega) _) 1
     ·simpa [World.setCell] using HS.o
     ·exact Si.Blk.far (Si.Blk.far H0.o ⟨B+3,i,none⟩ _ (show B+3≠B by omega)) ⟨B+4,i,none⟩ _ (show B+4≠B by omega)
     ·exact Si.Blk.far (Si.Blk.far H1.o ⟨B+3,i,none⟩ _ (show B+3≠B+1 by omega)) ⟨B+4,i,none⟩ _ (show B+4≠B+1 by omega)
     ·exact Si.Blk.far (Si.Blk.far H2.o ⟨B+3,i,none⟩ _ (show B+3≠B+2 by omega)) ⟨B+4,i,none⟩ _ (show B+4≠B+2 by omega)
     ·exact Si.Blk.far s3 ⟨B+4,i,none⟩ _ (show B+4≠B+3 by omega)
     ·exact(by have e:=s4;rw[show bv (k2 ks i)=bv y from by rw[EY.o];rfl] at e;exact e)
    case measure=>simp [intOf];omega
theorem dbig (N:Nat) (w:World) (hN:N<18446744073709551616) :
  Calls Tryz.prog 82 #[.int .u64 (N:Int)] w fun e w'=>∃v,e=.returned v/\w'.ownsRow w.heap.size 5 1 v 8 (bvs (w8 N))/\Below w.heap.size w w':=by
 obtain⟨ib,cb,bB,ca,bx⟩:=info_parts Si.Cp;obtain⟨B,eB⟩:=Ak (w.heap.size);have EB:=I eB;clear eB;have HN:=I hN;clear hN;go_enter Tryz.func82,Tryz.ntmps82
 go_wp2_with fail
 go_loopw [3,4] (fun bz iv wr=>∃j:Nat,j<=8/\iv=.int .i64 (7 - (j:Int))/\wr.ownsRow B 5 1 bz j (laid [] N j)/\Below B w wr) (fun _ iv _=>(intOf iv+1).toNat)
 case atStart=>exact⟨0,by decide,rfl,⟨rfl,.inl ⟨rfl,rfl⟩⟩,Below.refl _ _⟩
 case round=>
  obtain⟨j,hj,rfl,av,bn⟩:=hrel;have HR:=I av;clear av;have HW:=I bn;clear bn
  by_cases hx:j=8
  ·subst hx
   go_wp2_with fail
   go_ret;exact⟨_,rfl,by have:=HR.o;rw[cE,List.nil_append] at this;exact EB.o▸this,EB.o▸HW.o⟩
  ·obtain⟨k,ek⟩:∃k:Nat,k=7 - j:=⟨_,rfl⟩
   obtain⟨m,em⟩:∃m:Nat,m=56 - 8*j:=⟨_,rfl⟩;have hk:(7:Int) - (j:Int)=(k:Int):=by omega
   rw[hk];have aw:j<8:=by omega
   have cg:(8:Int)*(k:Int)=(m:Int):=by omega
   have cj:m<64:=by omega
   have cc:(m:Int)<64:=by omega
   have cm:(0:Int)<=(m:Int):=by omega
   have cd:min m 64=m:=by omega
   have ck:(0:Int)<=(k:Int):=by omega
   have cf:(k:Int)<=7:=by omega
   have bb:=Ty [] N j aw;have hv:bv (UInt8.ofNat (N / 2 ^ (56 - 8*j)))=.int .u8 ((N:Int) / 2 ^ m % 256):=by
    unfold bv;rw[UInt8.toNat_ofNat',<-em];congr 1
   rw[hv] at bb;have NX:=I bb;clear bb;have EM:=I em;clear em;have EK:=I ek;clear ek;have HX:=I hx;clear hx;have HJ:=I hj;clear hj;have Z:=I aw;clear aw;clear hk hv
   go_wp2_with (first | (at_builtin;refine AJ _ (by rfl) (.tmp 9) (.tmp 16) 34 (by rfl) B 5 ib _ 1 Tryz.underlying34 cb bB ca bx (by rfl) _ j (laid [] N j) (by rfl) (Fb HR.o (by rfl)) (wr.heap.size+1) (some ⟨wr.heap.size,0,none⟩) 1 1 [.int .u8 ((N:Int) / 2 ^ m % 256)] (by rfl) (by rfl) (Si.Hb wr 5 _ [.int .u8 ((N:Int) / 2 ^ m % 256)] (by rfl) _ rfl) (by simp [Value.oneCell']) (by have:=Z.o;unfold maxLen;omega) (by have:=Z.o;omega) (by have:=EB.o;have:=HW.o.size;simp;omega) ?_;intro v6 w6 O M bq;have O6:=I O;have G6:=I M;clear O M bq) | fail)
   go_roundw
   case rel=>
    refine⟨j+1,by have:=Z.o;omega,?_,by rw[<-NX.o];exact O6.o,?_⟩
    ·exact congrArg (Value.int .i64) (by have:=EK.o;have:=Z.o;omega)
    ·exact(HW.o.alloc (by have:=EB.o;have:=HW.o.size;omega) _).grown G6.o (by have:=EB.o;have:=HW.o.size;simp;omega) (fun q hq=>(HR.o.lt q hq).1)
   case measure=>simp [intOf]
theorem TH (ks:Nat->UInt8) (u n:Nat) (p:List UInt8) (i:Nat) (h:i<p.length) (M:i<(Dy ks u n p.length).length):bvs ((mixL ks u n p).take i)++[bv (p[i] ^^^ (Dy ks u n p.length)[i])]=bvs ((mixL ks u n p).take (i+1)):=by
 rw[List.take_add_one,To ks u n p i h M,BA];rfl
theorem cS (y x:UInt8):bits .xor .u8 (y.toNat:Int) (x.toNat:Int)=((y ^^^ x).toNat:Int):=by
 rw[u8_xor_nat _ _ y.toNat_lt x.toNat_lt,UInt8.toNat_xor]
def twoW (w1:World) (z:Array Value) (t:TypeId) (cs ds:Array Value):World:=(((w1.alloc (.cells z t)).alloc (.cells z t)).setCells w1.heap.size 0 cs.toList).setCells (w1.heap.size+1) 0 ds.toList
theorem Kq (w1:World) (z:Array Value) (t:TypeId) (cs ds:Array Value) (Z:z.size=cs.size) (h2:z.size=ds.size) :
  (twoW w1 z t cs ds).rangeAt w1.heap.size 0 cs.toList/\(twoW w1 z t cs ds).rangeAt (w1.heap.size+1) 0 ds.toList/\Below w1.heap.size w1 (twoW w1 z t cs ds)/\w1.heap.size+2<=(twoW w1 z t cs ds).heap.size:=by
 have O:((w1.alloc (.cells z t)).alloc (.cells z t)).there w1.heap.size 0 cs.toList.length:=by
  have:=World.there_alloc (Si.Ar (Blk.new w1 t z)) (.cells z t)
  rwa [Z,<-Array.length_toList] at this
 have M:((w1.alloc (.cells z t)).alloc (.cells z t)).there (w1.heap.size+1) 0 ds.toList.length:=by
  have:=Si.Ar (Si.Blk.new_of (w1.alloc (.cells z t)) (w1.heap.size+1) t z z rfl (by simp))
  rwa [h2,<-Array.length_toList] at this
 refine⟨World.rangeAt_setCells_apart (World.rangeAt_setCells_same _ _ _ _ O) _ _ _ (.inl (by omega)),World.rangeAt_setCells_same _ _ _ _ (World.there_setCells M _ _ _),?_,?_⟩
 ·exact Si.Bp _ (by omega) _ _ _ (Si.Bp _ Ag _ _ _ ((Ah.alloc Ag _).alloc (by simp) _))
 ·unfold twoW;rw[SpL.Fc,SpL.Fc];simp
theorem dmix (ks:Nat->UInt8) (u n:Nat) (A:Option Addr) (m c:Nat) (p:List UInt8) (w:World) (hu:u<=255) (hn:n<18446744073709551616) (hm:m=p.length) (cp:m<=1000) (hr:Rd w w.heap.size A (bvs p)) :
  Calls Tryz.prog 83 #[.agg (Be ks),.int .i64 (u:Int),.int .u64 (n:Int),.slice A m c] w fun e w'=>∃v,e=.returned v/\w'.ownsRow w.heap.size 5 1 v m (bvs (mixL ks u n p))/\Below w.heap.size w w':=by
 obtain⟨ib,ev,eL,eM,eE⟩:=info_parts Si.Cp;obtain⟨B,eB⟩:=Ak (w.heap.size);obtain⟨N,eN⟩:=Ak (sn u n);have cy:=TA u n hu;have Z:=cH u n hu;have O:=cI u n;rw[<-eN] at cy Z O;have eT:(u:Int) % 18446744073709551616=(u:Int):=by omega
 have cb:Sp.strm (Sp.kw ks) (Sp.upW N) (Sp.loW N) m=Dy ks u n m:=by rw[eN];rfl
 have ch:=fun w1=>TG ks w1
 have cw:=fun w1=>Sp.bO ks w1
 have ca:=fun w1=>SpL.ZH (Sp.kw ks) N m (m:Int) w1 O cp (by simp)
 rw[cb] at ca;have i32:=Kn ks;have i16:=Jy ks;have bn:=Jy (k2 ks);have cu:=Tx ks;have av:=Tx (k2 ks);have cr:=Bd ks;have aw:=Bd (k2 ks);obtain⟨kc,ek⟩:=Ak (Be ks);obtain⟨cs,cT⟩:=Ak (Sp.AR ks);obtain⟨ds,ea⟩:=Ak (Sp.AR (k2 ks));obtain⟨xs,ei⟩:=Ak (Sp.AY (Sp.kw ks));rw[<-ek] at ch i32⊢;rw[<-cT] at ch cw i16 cu cr;rw[<-ea] at ch bn av aw;rw[<-ei] at cw ca;have hz:Sp.AR (fun _=>0)=#[.int .u8 0,.int .u8 0,.int .u8 0,.int .u8 0,.int .u8 0,.int .u8 0,.int .u8 0,.int .u8 0,.int .u8 0,.int .u8 0,.int .u8 0,.int .u8 0,.int .u8 0,.int .u8 0,.int .u8 0,.int .u8 0]:=rfl;have EB:=I eB;have HR:=I (eB▸hr);clear hr;have HM:=I hm;clear hm;have q3:(m:Int)<=1000:=by omega
 have cY:=I cp;clear cp;have eQ:=I i32;clear i32;have ep:=I i16;clear i16;have ej:=I bn;clear bn;have eu:=I cu;clear cu;have cM:=I av;clear av;have eg:=I cr;clear cr;have cj:=I aw;clear aw;have HZ:=I hz;clear hz;have eJ:=I ca;clear ca;have ew:=I cy;clear cy;have cX:=I Z;have cL:Hid (((n:Int)*256+(u:Int)) % 18446744073709551616=(N:Int)):=by rw[<-Z];show _=_;omega
 have er:Hid (IntKind.u64.wrap (IntKind.u64.wrap ((n:Int)*256)+(u:Int))=(N:Int)):=by rw[IntKind.wrap_u64,IntKind.wrap_u64];omega
 clear Z;have h0:Blk (w.alloc (.cells kc 29)) B 29 kc:=eB▸Blk.new w _ _;have cf:Below B w (w.alloc (.cells kc 29)):=eB▸(Below.refl w.heap.size w).alloc Ag _;have H0:=I h0;clear h0;have eF:=I cf;clear cf;clear hu hn cb O eN ek cT ea ei eB;go_enter Tryz.func83,Tryz.ntmps83
 go_upto_region 2 with(first
  |(refine Am (by rfl) 29 (.tmp 4) (by rfl) w.heap.size 0 (by rfl) kc _ (Si.Ad (Blk.new w 29 kc)) Tryz.underlying29 (by rfl) eQ.o ?_)
  |(go_at_call 130;refine Aj (ch _) ?_;rintro w1 bx;clear ch;have bx:=eF.o.trans (bx.mono (by have:=EB.o;simp;omega));have H1:=I bx;clear bx)
  |(refine wpList_store_mid (by rfl) 225 (.tmp 9) (.tmp 17) (by rfl) w1.heap.size 0 cs (by rfl) (by rfl) (by rw[eg.o];exact World.there_alloc (by have:=Si.Ar (Blk.new w1 225 (Sp.AR fun _=>0));rwa [Bd] at this) _) ep.o eu.o ?_)
  |(refine wpList_store_mid (by rfl) 225 (.tmp 10) (.tmp 18) (by rfl) (w1.heap.size+1) 0 ds (by rfl) (by rfl) (by rw[cj.o];exact World.there_setCells (by have:=Si.Ar (Si.Blk.new_of (w1.alloc (.cells (Sp.AR fun _=>0) 225)) (w1.heap.size+1) 225 _ (Sp.AR fun _=>0) rfl (by simp));rwa [Bd] at this) _ _ _) ej.o cM.o ?_)
  |fail)
 have h2:=Kq w1 (Sp.AR fun _=>0) 225 cs ds (by rw[Bd,eg.o]) (by rw[Bd,cj.o]);change Code.wp _ _ _ _ (twoW w1 (Sp.AR fun _=>0) 225 cs ds);generalize twoW w1 (Sp.AR fun _=>0) 225 cs ds=W2 at h2⊢;have bb:=H1.o.trans (h2.2.2.1.mono (by have:=H1.o.size;have:=EB.o;omega));have cB:=I bb;clear bb;have eP:=I h2.1;clear h2;have ed:=cw W2;clear cw
 go_wp2_with (first
  |(refine Am (by rfl) 225 (.tmp 9) (by rfl) w1.heap.size 0 (by rfl) cs _ eP.o Tryz.underlying225 (by rfl) ep.o ?_)
  |(go_at_call 132;refine Aj ed ?_;rintro w3 bz;clear ed;have bz:=cB.o.trans (bz.mono (by have:=cB.o.size;have:=EB.o;omega));have c4:=eJ.o w3;have H3:=I bz;clear bz)
  |(go_at_call 131;(first | rw[cX.o] | rw[ew.o] | rw[cL.o] | rw[er.o]);refine Calls.mono c4 ?_;rintro e w5 ⟨As,sc,rfl,eV,eo,bB⟩;clear c4;have bB:=H3.o.trans (bB.mono (by have:=H3.o.size;have:=EB.o;omega));have H5:=I bB;have RS:=I eo;clear bB eo)
  |fail)
 obtain⟨N0,cP⟩:=Ak (w5.heap.size);have EN:=I cP;clear cP;have ef:(Dy ks u n m).length=m:=BN ks u n m;have eW:=I ef;clear ef
 go_loopw [12,13] (fun et iv wr=>∃i:Nat,i<=m/\iv=.int .i64 (i:Int)/\wr.ownsRow N0 5 1 et i (bvs ((mixL ks u n p).take i))/\Below N0 w5 wr) (fun _ iv _=>m - (intOf iv).toNat)
 case atStart=>exact⟨0,Nat.zero_le _,rfl,⟨rfl,.inl ⟨rfl,rfl⟩⟩,Below.refl _ _⟩
 case round=>
  obtain⟨i,hi,rfl,cg,ec⟩:=hrel;have HO:=I cg;clear cg;have HW:=I ec;clear ec
  by_cases hx:i=m
  ·subst hx
   go_wp2_with fail
   go_ret;have h9:=HO.o;rw[List.take_of_length_le (by rw[By,HM.o];exact Nat.le_refl _)] at h9;refine⟨_,rfl,h9.mono (by have:=EN.o;have:=H5.o.size;omega),?_⟩;rw[<-EB.o];exact H5.o.trans (HW.o.mono (by have:=EN.o;have:=H5.o.size;have:=EB.o;omega))
  ·have cx:i<m:=by omega
   have cq:i<p.length:=by have:=HM.o;omega
   have e1:(i:Int)<(m:Int):=by omega
   have e2:(0:Int)<=(i:Int):=by omega
   have e3:(i:Int)<1000:=by omega
   have cR:i<(Dy ks u n p.length).length:=by rw[BN];exact cq
   have cc:i<(Dy ks u n m).length:=by rw[BN];exact cx
   obtain⟨y,ey⟩:=Ak (p[i]);obtain⟨x,ex⟩:=Ak ((Dy ks u n p.length)[i]);obtain⟨z,ez⟩:=Ak (y ^^^ x);obtain⟨b1,o1,rfl,cd,cA⟩:=HR.o.at_ (Gg cq);obtain⟨b2,o2,rfl,eb,cn⟩:=RS.o.at_ (Gg cc);rw[<-ey] at cA;have hex:(Dy ks u n m)[i]=x:=by
    rw[ex];have:=HM.o;subst this
    rfl
   rw[hex] at cn;have ck:b1<N0:=by have:=EN.o;have:=H5.o.size;have:=EB.o;omega
   have cm:b2<N0:=by have:=EN.o;omega
   have d1:wr.cell? ⟨b1,o1+i,none⟩=some (.int .u8 (y.toNat:Int)):=(HW.o.cell (p:=⟨b1,o1+i,none⟩) ck).trans ((H5.o.cell (p:=⟨b1,o1+i,none⟩) cd).trans cA);have d2:wr.cell? ⟨b2,o2+i,none⟩=some (.int .u8 (x.toNat:Int)):=(HW.o.cell (p:=⟨b2,o2+i,none⟩) cm).trans cn;have eU:bits .xor .u8 (y.toNat:Int) (x.toNat:Int)=(z.toNat:Int):=by rw[ez];exact cS y x
   have ct:=TH ks u n p i cq cR;rw[<-ey,<-ex,<-ez] at ct;have NX:=I ct;clear ct;have HX:=I hx;clear hx;have HI:=I hi;clear hi;clear ey ex ez cA cn hex cR cc cd eb ck cm
   go_wp2_with fail
   go_region_law (refine step_append_lies _ (by rfl) (.tmp 35) (.tmp 45) 34 (by rfl) N0 5 ib _ 1 1 Tryz.underlying34 ev eL eM eE (by rfl) (by decide) u12 i (bvs ((mixL ks u n p).take i)) (by rfl) (Fb HO.o (by rfl)) ⟨wr.heap.size,0,none⟩ 1 1 [.int .u8 (z.toNat:Int)] (by rfl) (by rfl) (Sp.Mt (by rfl)) (by simp [Value.oneCell']) (by decide) (by have:=HI.o;have:=cY.o;unfold maxLen;omega) (by have:=HI.o;have:=cY.o;omega) (by have:=EN.o;have:=HW.o.size;simp;omega) (wr.heap.size+1) (by simp) ?_;intro g2 eR w2 bq M eK cx)
   all_goals (
    have cQ:(wr.alloc (.cells #[.int .u8 (z.toNat:Int)] 5)).grownBy w2 u12.ownBlock:=⟨M.os,M.tape,M.output,M.size,M.block⟩;have bb:=(HW.o.alloc (by have:=EN.o;have:=HW.o.size;omega) (Obj.cells #[.int .u8 (z.toNat:Int)] 5)).grown cQ (by have:=EN.o;have:=HW.o.size;simp;omega) (fun q hq=>(HO.o.lt q hq).1);have O6:=I bq;clear bq;have B6:=I bb;clear bb;clear M eK cx cQ d1 d2
    go_wp2_with fail
    go_roundw
    case rel=>exact⟨i+1,by omega,by go_num,by rw[<-NX.o];exact O6.o,B6.o⟩
    case measure=>simp [intOf];omega)
theorem Gv {w w':World} {b o:Nat} {cs:List Value} {row:Option Nat} (h:w.rangeAt b o cs) (hb:b<w.heap.size) (Z:w.grownBy w' row) (O:row≠some b):w'.rangeAt b o cs:=fun j v M=>
 (World.cell?_of_block (a:=⟨b,o+j,none⟩) (Z.block b hb (fun e=>O e.symm))).trans (h j v M)
theorem Fe {w w':World} {b o:Nat} {cs:List Value} (h:w.rangeAt b o cs) (O:b<w.heap.size) (M:Below w.heap.size w w'):w'.rangeAt b o cs:=Gv h O (Dh M none) (by simp)
theorem dtag (ks:Nat->UInt8) (u:Nat) (A:Option Addr) (m c:Nat) (l:List UInt8) (w:World) (hu:u<=255) (hm:m=l.length) (cM:m<=1000) (hr:Rd w w.heap.size A (bvs l)) :
  Calls Tryz.prog 84 #[.agg (Be ks),.int .i64 (u:Int),.slice A m c] w fun e w'=>∃v,e=.returned v/\w'.ownsRow w.heap.size 5 1 v 8 (bvs (w8 (tagL ks u l)))/\Below w.heap.size w w':=by
 obtain⟨ib,ey,eu,ev,eo⟩:=info_parts Si.Cp;obtain⟨B,eB⟩:=Ak (w.heap.size);have ch:=fun w1=>TG ks w1
 have i32:=Kn ks;have i16:=Jy ks;have bb:=Jy (k2 ks);have cm:=Tx ks;have bq:=Tx (k2 ks);have cp:=Bd ks;have bx:=Bd (k2 ks);obtain⟨T,eT⟩:=Ak (tagL ks u l);have cQ:T<18446744073709551616:=by rw[eT];exact Tq _ _ _
 have aw:=fun(w4:World) (A4:Option Addr) (c4:Nat) (h1:1+m<=c4) (h2:c4<=maxLen) (h3:Rd w4 w4.heap.size A4 (bvs (UInt8.ofNat u :: l)))=>Si.Wl (k2 ks) A4 (1+m) c4 (UInt8.ofNat u :: l) w4 (by rw[List.length_cons,hm,Nat.add_comm]) (by omega) h1 h2 h3
 have hT:∀e,e=Ending.returned (Si.wv (Si.Hz (k2 ks) (UInt8.ofNat u :: l)))->e=.returned (.int .u64 (T:Int)):=fun e h=>by rw[h,eT];rfl
 have cn:[Value.int .u8 (u:Int)]++bvs l=bvs (UInt8.ofNat u :: l):=by
  show [Value.int .u8 (u:Int)]++bvs l=bv (UInt8.ofNat u) :: bvs l;rw[XX u hu];rfl
 obtain⟨kc,eb⟩:=Ak (Be ks);obtain⟨cs,ea⟩:=Ak (Sp.AR ks);have eK:∃dl:List Value,dl.toArray=Sp.AR (k2 ks):=⟨_,rfl⟩;obtain⟨dl,cr⟩:=eK;obtain⟨L,eL⟩:=Ak (UInt8.ofNat u :: l);rw[<-eb] at ch i32⊢;rw[<-ea] at ch i16 cm cp;rw[<-cr] at ch bb bq bx;have cP:Si.AR (k2 ks)=Sp.AR (k2 ks):=rfl;rw[cP,<-cr] at aw;rw[<-eL] at aw hT cn;rw[<-eT];have u16:(Tryz.prog.info? 225).map (·.size)=some dl.length:=by rw[<-List.size_toArray];exact bb
 have bz:=Tryz.underlying225;have eP:(u:Int)<=255:=by omega
 have eR:(0:Int)<=(u:Int):=by omega
 have eE:(u:Int) % 256=(u:Int):=by omega
 have eQ:IntKind.u8.wrap (u:Int)=(u:Int):=by rw[IntKind.wrap_u8'];exact eE
 have EB:=I eB;have HR:=I (eB▸hr);clear hr;have HM:=I hm;clear hm;have q3:(m:Int)<=1000:=by omega
 have eg:=I cM;clear cM;have eN:=I i32;clear i32;have eF:=I i16;clear i16;have cT:=I bb;clear bb;have et:=I cm;clear cm;have cX:=I bq;clear bq;have cA:=I cp;clear cp;have cf:=I bx;clear bx;have ej:=I aw;clear aw;have HT:=I hT;clear hT;have eM:=I cn;clear cn;have TL:=I cQ;clear cQ;have ez:=I u16;clear u16;have cR:=I bz;clear bz;have cg:Below B w (w.alloc (.cells kc 29)):=eB▸(Below.refl w.heap.size w).alloc Ag _;have ep:=I cg;clear cg;clear hu eb ea cr eT eL cP eB;go_enter Tryz.func84,Tryz.ntmps84
 go_upto_region 2 with(first
  |(refine Am (by rfl) 29 (.tmp 3) (by rfl) w.heap.size 0 (by rfl) kc _ (Si.Ad (Blk.new w 29 kc)) Tryz.underlying29 (by rfl) eN.o ?_)
  |(go_at_call 130;refine Aj (ch _) ?_;rintro w1 cd;clear ch;have cd:=ep.o.trans (cd.mono (by have:=EB.o;simp;omega));have H1:=I cd;clear cd)
  |(refine wpList_store_mid (by rfl) 225 (.tmp 7) (.tmp 12) (by rfl) w1.heap.size 0 cs (by rfl) (by rfl) (by rw[cA.o];exact World.there_alloc (by have:=Si.Ar (Blk.new w1 225 (Sp.AR fun _=>0));rwa [Bd] at this) _) eF.o et.o ?_)
  |(refine wpList_store_mid (by rfl) 225 (.tmp 8) (.tmp 13) (by rfl) (w1.heap.size+1) 0 dl.toArray (by rfl) (by rfl) (by rw[cf.o];exact World.there_setCells (by have:=Si.Ar (Si.Blk.new_of (w1.alloc (.cells (Sp.AR fun _=>0) 225)) (w1.heap.size+1) 225 _ (Sp.AR fun _=>0) rfl (by simp));rwa [Bd] at this) _ _ _) cT.o cX.o ?_)
  |fail)
 have h2:=Kq w1 (Sp.AR fun _=>0) 225 cs dl.toArray (by rw[Bd,cA.o]) (by rw[Bd,cf.o]);change Code.wp _ _ _ _ (twoW w1 (Sp.AR fun _=>0) 225 cs dl.toArray);generalize twoW w1 (Sp.AR fun _=>0) 225 cs dl.toArray=W2 at h2⊢;have cY:=H1.o.trans (h2.2.2.1.mono (by have:=H1.o.size;have:=EB.o;omega));have cy:Hid (Below B w W2.drew):=below_drewN cY 1;have ck:W2.drew.rangeAt (w1.heap.size+1) 0 dl:=by have:=h2.2.1;simpa using this
 have ek:=I (show w1.heap.size+2<=W2.drew.heap.size from h2.2.2.2);clear h2 cY;have bz:=cR.o;have u16:=ez.o;simp only[Act.put];have ew:Hid ((W2.alloc (.cells #[.int .u8 (u:Int)] 5)).drew.ownsRow W2.heap.size 5 1 (.slice (some ⟨W2.heap.size,0,none⟩) 1 1) 1 [.int .u8 (u:Int)]):=World.ownsRow_lit (base:=W2.heap.size) (e:=5) (size:=1) W2.drew #[.int .u8 (u:Int)] 1 Ag (by decide) (by rfl);have ct:B<=W2.drew.heap.size:=by have:=cy.o.size;have:=EB.o;omega
 have cx:Hid (Below B w (W2.alloc (.cells #[.int .u8 (u:Int)] 5)).drew):=cy.o.alloc ct (.cells #[.int .u8 (u:Int)] 5);have er:Hid (Rd (W2.alloc (.cells #[.int .u8 (u:Int)] 5)).drew B A (bvs l)):=HR.o.below cx.o;have ca:(W2.alloc (.cells #[.int .u8 (u:Int)] 5)).drew.rangeAt (w1.heap.size+1) 0 dl:=World.rangeAt_alloc ck (.cells #[.int .u8 (u:Int)] 5);have O:Hid ((W2.alloc (.cells #[.int .u8 (u:Int)] 5)).drew.heap.size=W2.heap.size+1):=by show(W2.alloc _).heap.size=_;simp
 have av:Hid (w1.heap.size+2<=W2.heap.size):=ek.o;have ei:Hid (B<=W2.heap.size):=ct;clear ct
 go_region_held3 (fun w'=>w'.rangeAt (w1.heap.size+1) 0 dl) (first | exact ck | exact ca | exact cu | exact cq | exact cw) (first
  |(rw[if_pos (by rfl)];refine Fu _ (.tmp 17) (.tmp 18) 34 (by rfl) W2.heap.size 5 ib _ 1 Tryz.underlying34 ey eu ev eo (by rfl) _ 1 [.int .u8 (u:Int)] (by rfl) ew.o B A m c (bvs l) (by rfl) (by rw[AG];exact HM.o) er.o (BB _) (by have:=eg.o;unfold maxLen;omega) (by have:=eg.o;omega) (by have:=O.o;omega) ?_;intro v4 w4 Z M cB;rw[eM.o] at Z;have cu:w4.rangeAt (w1.heap.size+1) 0 dl:=Gv ca (by have:=O.o;have:=av.o;omega) M (by have:=av.o;simp [Value.ownBlock];omega);have ef:Below B w w4:=cx.o.grown M (by have:=O.o;have:=ei.o;omega) (fun k hk=>by have:=ei.o;simp [Value.ownBlock] at hk;omega);obtain⟨A4,c4,eJ,cL,ed,ec⟩:=JA (S:=fun _=>False) Z (fun _ _ x=>x);subst eJ;have bB:=ej.o w4 A4 c4 cL ed ec.rd;have H4:=I ef;have Z4:=I M.size;clear Z M cB ef cL ed ec)
  |(go_at_call 133;refine Calls.mono bB ?_;rintro e w5 ⟨he,bn⟩;have he:=HT.o e he;subst he;clear bB;have cq:w5.rangeAt (w1.heap.size+1) 0 dl:=Fe cu (by have:=Z4.o;have:=O.o;have:=av.o;omega) bn;have Z5:=I bn.size;have bn:=H4.o.trans (bn.mono (by have:=H4.o.size;have:=EB.o;omega));have cj:=dbig T w5 TL.o;have H5:=I bn;clear bn)
  |(go_at_call 82;refine Calls.mono cj ?_;rintro e w6 ⟨v6,rfl,cb,cc⟩;clear cj;have cw:w6.rangeAt (w1.heap.size+1) 0 dl:=Fe cq (by have:=Z4.o;have:=Z5.o;have:=O.o;have:=av.o;omega) cc;have cc:=H5.o.trans (cc.mono (by have:=H5.o.size;have:=EB.o;omega));have H6:=I cc;have O6:=I cb;have Z6:=I H5.o.size;clear cc cb))
 all_goals (
  clear ck ca cu cq cw
  go_wp2_with fail
  go_ret;exact⟨_,rfl,O6.o.mono (by have:=Z6.o;have:=EB.o;omega),EB.o▸H6.o⟩)
theorem TI (ks:Nat->UInt8) (u n:Int) (A:Option Addr) (m c:Nat) (w:World) (hx:¬(0<=u/\u<=255/\0<=n/\n<=1099511627776/\m<=784)) :
  Calls Tryz.prog 41 #[.agg (Be ks),.int .i64 u,.int .i64 n,.slice A m c] w fun e w'=>e=.returned (.tuple #[.slice none 0 0,.int .i64 1])/\Below w.heap.size w w':=by
 obtain⟨kc,M⟩:=Ak (Be ks);rw[<-M];have t:(decide (u<0)=true)\/(decide (u<0)=false/\decide (255<u)=true)\/(decide (u<0)=false/\decide (255<u)=false/\decide (n<0)=true)\/(decide (u<0)=false/\decide (255<u)=false/\decide (n<0)=false/\decide (1099511627776<n)=true)\/(decide (u<0)=false/\decide (255<u)=false/\decide (n<0)=false/\decide (1099511627776<n)=false/\decide (784<(m:Int))=true):=by
  simp only[decide_eq_true_eq,decide_eq_false_iff_not];omega
 have HB:=I ((Below.refl w.heap.size w).alloc Ag (.cells kc 29));clear hx M;rcases t with O | ⟨O,Z⟩ | ⟨O,Z,t3⟩ | ⟨O,Z,t3,t4⟩ | ⟨O,Z,t3,t4,t5⟩<;>(
  go_enter Tryz.func41,Tryz.ntmps41
  go_wp2
  go_ret2
  exact⟨rfl,HB.o⟩)
theorem TJ (ks:Nat->UInt8) (u n:Nat) (A:Option Addr) (m c:Nat) (p:List UInt8) (w:World) (hu:u<=255) (hn:n<=1099511627776) (hm:m=p.length) (cg:m<=784) (hr:Rd w w.heap.size A (bvs p)) :
  Calls Tryz.prog 41 #[.agg (Be ks),.int .i64 (u:Int),.int .i64 (n:Int),.slice A m c] w fun e w'=>∃A2 c2,e=.returned (.tuple #[.slice A2 (m+16) c2,.int .i64 0])/\RdA (fun i=>i<w.heap.size) w' A2 (bvs (El ks u n p))/\Below w.heap.size w w'/\m+16<=c2/\c2<=maxLen:=by
 obtain⟨ib,cT,er,et,ef⟩:=info_parts Si.Cp;obtain⟨B,eB⟩:=Ak (w.heap.size);have bq:=fun(w1:World) (h1:Rd w1 w1.heap.size A (bvs p))=>dmix ks u n A m c p w1 hu (by omega) hm (by omega) h1
 have cd:=fun(w1:World)=>dbig n w1 (by omega)
 obtain⟨L,eL⟩:=Ak (Gl ks u n p);have cp:bvs (w8 n)++bvs (mixL ks u n p)=bvs L:=by rw[eL,Gl,BA]
 have ei:8+m=L.length:=by rw[eL,Cj,<-hm]
 have bx:=fun(w1:World) (A1:Option Addr) (c1:Nat) (h1:Rd w1 w1.heap.size A1 (bvs L))=>dtag ks u A1 (8+m) c1 L w1 hu ei (by omega) h1
 have cc:bvs L++bvs (w8 (tagL ks u L))=bvs (El ks u n p):=by rw[eL,<-BA];rfl
 have cq:(bvs (mixL ks u n p)).length=m:=by rw[AG,By,hm]
 obtain⟨M,eM⟩:=Ak (bvs (mixL ks u n p));obtain⟨W8,cB⟩:=Ak (bvs (w8 n));obtain⟨T8,cj⟩:=Ak (bvs (w8 (tagL ks u L)));have oM:∀v∈M,v.oneCell'=true:=eM▸BB _;have oT:∀v∈T8,v.oneCell'=true:=cj▸BB _;have ed:T8.length=8:=by rw[cj,AG,Dx]
 rw[<-eM] at bq cp cq;rw[<-cB] at cd cp;rw[<-cj] at bx cc;have eP:∃kl:List Value,kl.toArray=Be ks:=⟨_,rfl⟩;obtain⟨kl,cw⟩:=eP;have u32:(Tryz.prog.info? 29).map (·.size)=some kl.length:=by rw[<-List.size_toArray,cw];exact Kn ks
 have cX:=Tryz.underlying29;rw[<-cw] at bq bx⊢;have q1:(n:Int)<=1099511627776:=by omega
 have q2:(0:Int)<=(n:Int):=by omega
 have q3:(m:Int)<=784:=by omega
 have q4:IntKind.u64.wrap (n:Int)=(n:Int):=by rw[IntKind.wrap_u64];omega
 have q5:(n:Int) % 18446744073709551616=(n:Int):=by omega
 have t1:decide ((u:Int)<0)=false:=by simp
 have t2:decide (255<(u:Int))=false:=by simp;omega
 have t3:decide ((n:Int)<0)=false:=by simp
 have t4:decide (1099511627776<(n:Int))=false:=by simp;omega
 have t5:decide (784<(m:Int))=false:=by simp;omega
 have EB:=I eB;have HR:=I (eB▸hr);clear hr;have ck:=I cg;clear cg;have eu:=I bq;clear bq;have cM:=I cd;clear cd;have ev:=I bx;clear bx;have eN:=I cp;clear cp;have ec:=I cc;clear cc;have eK:=I cq;clear cq;have eR:=I ed;clear ed;have OM:=I oM;clear oM;have OT:=I oT;clear oT;have cu:(w.alloc (.cells kl.toArray 29)).drew.rangeAt w.heap.size 0 kl:=by have:=Si.Ad (Blk.new w 29 kl.toArray);simpa using this
 have eU:Hid (Below B w (w.alloc (.cells kl.toArray 29)).drew):=eB▸below_drewN ((Below.refl w.heap.size w).alloc Ag _) 1;have cn:Hid ((w.alloc (.cells kl.toArray 29)).drew.heap.size=B+1):=by show(w.alloc _).heap.size=_;simp [eB]
 have cb:=cM.o (w.alloc (.cells kl.toArray 29)).drew;clear hu hn hm ei eM cB cj cw eB eL;go_enter Tryz.func41,Tryz.ntmps41
 go_upto_region 3 with fail
 go_region_held3 (fun w'=>w'.rangeAt w.heap.size 0 kl) (first | exact cu | exact cr | exact cx | exact cy) (first
  |(rw[if_pos (by rfl)];refine Fu _ (.tmp 32) (.tmp 38) 34 (by rfl) (B+1) 5 ib _ 1 Tryz.underlying34 cT er et ef (by rfl) v1 8 W8 (by rfl) O2.o w2.heap.size A2 m c2 M (by rfl) eK.o.symm R2.o OM.o (by have:=ck.o;unfold maxLen;omega) (by have:=ck.o;omega) (by have:=Z2.o;omega) ?_;intro v3 w3 av O ek;rw[eN.o] at av;have cy:w3.rangeAt w.heap.size 0 kl:=Gv cx (by have:=Z2.o;have:=EB.o;omega) O (fun hx=>by have:=Li O2.o _ hx;have:=EB.o;omega);have cL:Below B w w3:=H2.o.grown O (by have:=Z2.o;omega) (fun k hk=>by have:=Li O2.o _ hk;omega);obtain⟨A3,c3,eF,ez,eJ,ep⟩:=JA (S:=fun _=>False) av (fun _ _ x=>x);subst eF;have ct:=ev.o w3 A3 c3 ep.rd;have H3:=I cL;have O3:=I av;have Z3:=I (Nat.le_trans Z2.o O.size);clear av O ek cL ez eJ ep)
  |(go_at_call 82;refine Calls.mono cb ?_;rintro e w1 ⟨v1,rfl,ca,aw⟩;clear cb;have cr:w1.rangeAt w.heap.size 0 kl:=Fe cu (by have:=cn.o;have:=EB.o;omega) aw;have cY:B+1<=w1.heap.size:=by{have:=cn.o;have:=aw.size;omega};have aw:=eU.o.trans (aw.mono (by have:=cn.o;omega));have cm:=eu.o w1 ((HR.o.below aw).more (by omega));have H1:=I aw;have O1:=I (ca.mono (base':=B+1) (by have:=cn.o;omega));have Z1:=I cY;clear aw ca cY)
  |(go_at_call 83;refine Calls.mono cm ?_;rintro e w2 ⟨v2,rfl,cf,bb⟩;clear cm;have cx:w2.rangeAt w.heap.size 0 kl:=Fe cr (by have:=Z1.o;have:=EB.o;omega) bb;have cA:B+1<=w2.heap.size:=Nat.le_trans Z1.o bb.size;have ew:=BU O1.o bb;obtain⟨A2,c2,eX,eE,cg,ey⟩:=JA (S:=fun _=>False) cf (fun _ _ x=>x);subst eX;have bb:=H1.o.trans (bb.mono (by have:=Z1.o;omega));have H2:=I bb;have O2:=I ew;have Z2:=I cA;have R2:=I ey.rd;clear bb cf cA ew eE cg ey))
 all_goals (
  have eW:Hid (w3.rangeAt w.heap.size 0 kl.toArray.toList):=cy;have eQ:Hid ((Tryz.prog.info? 29).map (·.size)=some kl.toArray.size):=by rw[List.size_toArray];exact u32
  clear cu cr cx cy u32 cX aw bb
  go_wp2_with (first
   |(refine Am (by rfl) 29 (.tmp 4) (by rfl) w.heap.size 0 (by rfl) kl.toArray _ eW.o Tryz.underlying29 (by rfl) eQ.o ?_)
   |(go_at_call 84;refine Calls.mono ct ?_;rintro e w4 ⟨v4,rfl,bB,bz⟩;clear ct;have eo:=BU O3.o bz;have cQ:=Nat.le_trans Z3.o bz.size;have bz:=H3.o.trans (bz.mono (by have:=Z3.o;omega));obtain⟨A4,c4,eY,eV,eT,ea⟩:=JA (S:=fun _=>False) bB (fun _ _ x=>x);subst eY;have H4:=I bz;have O4:=I eo;have Z4:=I cQ;have R4:=I ea.rd;clear bz bB eo cQ eV eT ea)
   |(at_builtin;refine AJ _ (by rfl) (.tmp 40) (.tmp 44) 34 (by rfl) (B+1) 5 ib _ 1 Tryz.underlying34 cT er et ef (by rfl) _ (8+m) (bvs L) (by rfl) O4.o w4.heap.size A4 8 c4 T8 (by rfl) eR.o.symm R4.o OT.o (by have:=ck.o;unfold maxLen;omega) (by have:=ck.o;omega) (by have:=Z4.o;omega) ?_;intro v5 w5 Z bn cP;rw[ec.o] at Z;have cR:=H4.o.grown bn (by have:=Z4.o;omega) (fun k hk=>by have:=Li O4.o k hk;omega);obtain⟨A5,c5,eZ,ej,eg,eb⟩:=JA (S:=fun i=>i<w.heap.size) Z (fun k hk hx=>by have:=Li Z k hk;have:=EB.o;omega);subst eZ;have H5:=I cR;have R5:=I eb;have C5:=I (And.intro ej eg);clear Z bn cP cR ej eg eb)
   |fail)
  go_ret2
  exact⟨A5,c5,by show Ending.returned (.tuple #[.slice A5 (8+m+8) c5,.int .i64 0])=_;rw[show 8+m+8=m+16 by omega],R5.o,EB.o▸H5.o,by have:=C5.o.1;omega,C5.o.2⟩)
end Se
end Go.Proofs.YtfbnjcdhipplpaaGreat
