import Derived.Test.YtfbnjcdhipplpaaGreatZAcTwo9
set_option maxHeartbeats 25600000
set_option maxRecDepth 100000
set_option linter.unusedVariables false
set_option linter.unusedSimpArgs false
namespace Go.Proofs.YtfbnjcdhipplpaaGreat
namespace SpL
open Go.RowKit Af Sp
theorem IH (K:Nat->Wd) (up lo:Wd) (i j:Nat) (Z:j<4):(EH K up lo (8*i+j)).toNat=(Cc K (up,lo+BitVec.ofNat 32 i)).1.toNat / 256 ^ j % 256:=by
 have O:(8*i+j) / 8=i:=by omega
 have M:(8*i+j) % 8=j:=by omega
 rw[EH,O,M,UInt8.toNat_ofNat',JY];have hx:=Gs (Cc K (up,lo+BitVec.ofNat 32 i)).1;have h:j=0\/j=1\/j=2\/j=3:=by omega
 rcases h with rfl | rfl | rfl | rfl<;>simp only[Nat.reducePow]<;>omega
theorem II (K:Nat->Wd) (up lo:Wd) (i j:Nat) (Z:j<4):(EH K up lo (8*i+4+j)).toNat=(Cc K (up,lo+BitVec.ofNat 32 i)).2.toNat / 256 ^ j % 256:=by
 have O:(8*i+4+j) / 8=i:=by omega
 have M:(8*i+4+j) % 8=4+j:=by omega
 rw[EH,O,M,UInt8.toNat_ofNat',JY];have hx:=Gs (Cc K (up,lo+BitVec.ofNat 32 i)).1;have h:j=0\/j=1\/j=2\/j=3:=by omega
 rcases h with rfl | rfl | rfl | rfl<;>simp only[Nat.reducePow,Nat.reduceAdd]<;>omega
def Jz (w:World) (g:Nat) (cs:Array Value):Prop:=w.rangeAt g 0 cs.toList
theorem Jz.grown {w w':World} {g:Nat} {cs:Array Value} {row:Option Nat} (h:Jz w g cs) (Z:g<w.heap.size) (O:w.grownBy w' row) (M:row≠some g):Jz w' g cs:=fun j v hv=>
 (World.cell?_of_block (a:=⟨g,0+j,none⟩) (O.block g Z (fun e=>M e.symm))).trans (h j v hv)
theorem Jz.below {w w':World} {g:Nat} {cs:Array Value} (h:Jz w g cs) (O:g<w.heap.size) (M:Below w.heap.size w w'):Jz w' g cs:=h.grown O (Df M none) (by simp)
theorem JZ {P:Program} {ops:Array Oper} {rest:List Oper} {op:Oper} {a:Act} {w:World} {Q:Exit->Act->World->Prop} (M:op.guard=none) (ty:TypeId) (x:Operand) (ho:op.op=.load ty x)
  (g:Nat) (O:a.eval x=.pointer (some ⟨g,0,none⟩)) (cs:Array Value) (d:TypeDesc) (Z:Jz w g cs)
  (hu:P.underlying ty=some d) (hd:d.isRow=true) (hi:(P.info? ty).map (·.size)=some cs.size)
  (h:wpList P ops Q rest (a.put op.dst (.agg cs)) w):wpList P ops Q (op :: rest) a w:=
 wpList_load_mid M ty x ho g 0 O cs.toList d Z hu hd (by rw[Array.length_toList];exact hi) (by simpa using h)
theorem Fb (b:Nat):∀(M:List Value) (o:Nat) (w:World),(w.setCells b o M).heap.size=w.heap.size
 | [],_,_=>rfl
 |v :: r,o,w=>by rw[World.setCells,Fb b r];simp [World.setCell]
theorem Yb (K:Nat->Wd):(AY K).size=27:=by simp [AY]
theorem cN (K:Nat->Wd):(Tryz.prog.info? 243).map (·.size)=some (AY K).size:=by rw[Yb];kernel_rfl
def eight (x y:Wd):List Value:=[.int .u8 ((x.toNat:Int) % 256),.int .u8 ((x.toNat:Int) / 256 % 256),.int .u8 ((x.toNat:Int) / 65536 % 256),.int .u8 ((x.toNat:Int) / 16777216),
 .int .u8 ((y.toNat:Int) % 256),.int .u8 ((y.toNat:Int) / 256 % 256),.int .u8 ((y.toNat:Int) / 65536 % 256),.int .u8 ((y.toNat:Int) / 16777216)]
theorem QG (K:Nat->Wd) (up lo:Wd) (i:Nat):bvs (strm K up lo (8*i))++eight (Cc K (up,lo+BitVec.ofNat 32 i)).1 (Cc K (up,lo+BitVec.ofNat 32 i)).2=bvs (strm K up lo (8*(i+1))):=by
 have e:strm K up lo (8*(i+1))=strm K up lo (8*i)++[EH K up lo (8*i+0),EH K up lo (8*i+1),EH K up lo (8*i+2),EH K up lo (8*i+3),EH K up lo (8*i+4+0),EH K up lo (8*i+4+1),EH K up lo (8*i+4+2),EH K up lo (8*i+4+3)]:=by
  unfold strm;rw[show 8*(i+1)=8*i+1+1+1+1+1+1+1+1 by omega];simp [List.range_succ]
 rw[e,Bz]
 congr 1
 have O:=IH K up lo i 0 (by decide);have a1:=IH K up lo i 1 (by decide);have Z:=IH K up lo i 2 (by decide);have a3:=IH K up lo i 3 (by decide);have M:=II K up lo i 0 (by decide);have b1:=II K up lo i 1 (by decide);have b2:=II K up lo i 2 (by decide);have b3:=II K up lo i 3 (by decide);have hx:=Gs (Cc K (up,lo+BitVec.ofNat 32 i)).1;have hy:=Gs (Cc K (up,lo+BitVec.ofNat 32 i)).2;rw[show((Cc K (up,lo+BitVec.ofNat 32 i)).1.toNat / 256 ^ 3 % 256)=(Cc K (up,lo+BitVec.ofNat 32 i)).1.toNat / 16777216 by simp only[Nat.reducePow];omega] at a3;rw[show((Cc K (up,lo+BitVec.ofNat 32 i)).2.toNat / 256 ^ 3 % 256)=(Cc K (up,lo+BitVec.ofNat 32 i)).2.toNat / 16777216 by simp only[Nat.reducePow];omega] at b3;simp only[bvs,List.map_cons,List.map_nil,bv,eight,O,a1,Z,a3,M,b1,b2,b3];simp
theorem Rd.take {w:World} {B:Nat} {A:Option Addr} {xs:List Value} (h:Rd w B A xs) (m:Nat):Rd w B A (xs.take m):=by
 rcases h with h | ⟨b,o,M,Z,O⟩
 ·rw[h];exact .inl (by simp)
 ·refine .inr ⟨b,o,M,Z,fun i u hu=>O i u ?_⟩
  rw[List.getElem?_take] at hu
  split at hu
  ·exact hu
  ·cases hu
theorem bt' {B:Nat} {a w c:World} (h:Below B a w) (hB:B+1<=w.heap.size) (k:Below w.heap.size w c):Below B a c:=Hm h (by omega) k
theorem ZI (K:Nat->Wd) (N m:Nat) (n:Int) (w:World) (hN:N<18446744073709551616) (hm:m<=1000) (hn:m=n.toNat) :
  Calls Tryz.prog 131 #[.agg (AY K),.int .u64 (N:Int),.int .i64 n] w fun e w'=>∃A c,e=.returned (.slice A m c)/\m<=c/\Rd w' w'.heap.size A (bvs (strm K (upW N) (loW N) m))/\Below w.heap.size w w':=by
 obtain⟨B,eB⟩:=Ak (w.heap.size);rw[<-eB];have EB:=I eB;have cd:=Yb K;have ca:=cN K;obtain⟨cs,bn⟩:=Ak (AY K);rw[<-bn] at cd ca;have cB:=bP K;rw[<-bn] at cB;rw[<-bn];obtain⟨ib,cy,cM,eb,ea⟩:=info_parts Co;have ei:=I cd;clear cd;have cR:=I ca;clear ca;have ed:=I bn;clear bn;have NN:=I hN;clear hN;have HM:=I hm;clear hm;have HN:=I hn;clear hn;have cj:Blk (w.alloc (.cells cs 243)) B 243 cs:=Blk.new_of w B _ _ _ rfl eB.symm;have ec:=I cj;clear cj;go_enter Tryz.func131,Tryz.ntmps131
 go_wp2_with fail
 rw[<-eB];clear eB
 go_loopw [7,8] (fun cL iv wr=>∃i:Nat,8*i<m+8/\iv=.int .i64 (i:Int)/\Blk wr B 243 cs/\Below B w wr/\B+1<=wr.heap.size/\wr.ownsRow (B+1) 5 1 cL (8*i) (bvs (strm K (upW N) (loW N) (8*i)))) (fun _ iv _=>m+8 - 8*(intOf iv).toNat)
 case atStart=>exact⟨0,by omega,rfl,ec.o,EB.o▸Ah.alloc Ag _,by have:=EB.o;simp;omega,rfl,.inl ⟨rfl,rfl⟩⟩
 case round=>
  obtain⟨i,hi,rfl,hB,hb,cu,aw⟩:=hrel;have HB:=I hB;clear hB;have cc:=I hb;clear hb;have HS:=I cu;clear cu;have hlen:∃A cap,u7=.slice A (8*i) cap/\8*i<=cap/\(∀n k,(Value.slice A n cap).ownBlock=some k->B+1<=k):=by
   obtain⟨_,⟨h1,h2⟩ | ⟨g,cap,cur,h1,hg,_,O,_⟩⟩:=aw
   ·exact⟨none,0,by rw[h1,h2],by omega,fun n k h=>by simp [Value.ownBlock] at h⟩
   ·exact⟨_,cap,h1,O,fun n k h=>by simp only[Value.ownBlock] at h;injection h with h;omega⟩
  obtain⟨A,cap,rfl,O,cn⟩:=hlen;have ck:=I cn;clear cn;have HO:=I aw;clear aw;obtain⟨o,eo⟩:=Ak (8*i);rw[<-eo];have EO:=I eo;clear eo
  by_cases hlt:(o:Int)<n
  ·have eg:(0:Int)<=(i:Int):=by omega
   have ej:(i:Int)<=200:=by have:=EO.o;have:=HM.o;have:=HN.o;omega
   have HH:=I hi;clear hi
   go_wp2_with (first | (refine JZ (by rfl) 243 (.tmp 3) (by rfl) B (by rfl) cs _ (Ae HB.o) Tryz.underlying243 (by rfl) cR.o ?_) | fail)
   have cg:(N:Int) / 4294967296 % 4294967296=((upW N).toNat:Int):=by rw[upW,BitVec.toNat_ofNat];have:=NN.o;omega
   have bx:((N:Int)+(i:Int)) % 4294967296=((loW N+BitVec.ofNat 32 i).toNat:Int):=by rw[loW,BitVec.toNat_add,BitVec.toNat_ofNat,BitVec.toNat_ofNat];omega
   rw[cg,bx];obtain⟨p,ep⟩:=Ak (Cc K (upW N,loW N+BitVec.ofNat 32 i));obtain⟨x0,ex⟩:=Ak (p.1);obtain⟨y0,ey⟩:=Ak (p.2);have c4:=cB (upW N) (loW N+BitVec.ofNat 32 i) wr;rw[<-ep,<-ex,<-ey] at c4;have cx:bvs (strm K (upW N) (loW N) (8*i))++eight x0 y0=bvs (strm K (upW N) (loW N) (8*(i+1))):=by rw[ex,ey,ep];exact QG K _ _ i
   have cX:=I cx;clear cx;clear ep ex ey cg bx;refine Aj c4 ?_;rintro w5 Z;have bB:=BU HO.o Z;rw[<-EO.o] at bB;have bb:=cX.o;rw[<-EO.o] at bb;have cP:=I bb;clear bb;have cr:=HB.o.below Z;have cp:=bt' cc.o HS.o Z;have cq:=Nat.le_trans HS.o Z.size;have cA:=I bB;clear bB;have cQ:=I cr;clear cr;have cT:=I cp;clear cp;have bq:=I cq;clear cq;clear Z c4
   go_wp2_with (first | (at_builtin;refine AI _ (by rfl) (.tmp 30) (.tmp 53) 34 (by rfl) (B+1) 5 ib _ 1 Tryz.underlying34 cy cM eb ea (by rfl) (.slice A o cap) o (bvs (strm K (upW N) (loW N) o)) (by rfl) (EW cA.o (by rfl)) (w5.heap.size+1) (some ⟨w5.heap.size,0,none⟩) 8 8 (eight x0 y0) (by rfl) (by rfl) (Ha w5 5 _ (eight x0 y0) (by rfl) _ rfl) (by simp [eight,Value.oneCell']) (by have:=EO.o;unfold maxLen;omega) (by have:=EO.o;omega) (by have:=bq.o;simp;omega) ?_;intro v6 w6 av M ct) | fail)
   have cm:=Blk.grown (Blk.alloc cQ.o _) M (fun h=>by have:=ck.o _ _ h;omega);have cf:=Below.grown (cT.o.alloc (by have:=bq.o;omega) _) M (by have:=bq.o;simp;omega) (fun k hk=>by have:=ck.o _ _ hk;omega);have cw:=M.size;have bz:=av;rw[cP.o,show o+8=8*(i+1) by have:=EO.o;omega] at bz;have B6:=I cm;clear cm;have B7:=I cf;clear cf;have S7:=I cw;clear cw;have O7:=I bz;clear bz;clear av M ct
   go_wp2_with fail
   go_roundw
   case rel=>
    exact⟨i+1,by have:=EO.o;have:=HN.o;omega,by go_num,B6.o,B7.o,by have h1:=S7.o;have:=bq.o;simp at h1;omega,O7.o⟩
   case measure=>have:=EO.o;have:=HN.o;simp [intOf];omega
  ·have ef:n<=(o:Int):=by omega
   have e1:decide ((o:Int)<n)=false:=by simp;omega
   have cY:n<=(cap:Int):=by have:=EO.o;omega
   have HC:=I O;clear O
   by_cases h0:n<0
   ·go_wp2_with fail
    go_ret;have cb:m=0:=by have:=HN.o;omega
    refine⟨A,cap,by rw[cb];first | rfl | exact congrArg (fun k=>Ending.returned (Value.slice A k cap)) (show(max n 0).toNat=0 by omega),by rw[cb];exact Nat.zero_le _,?_,cc.o⟩;rw[cb];exact .inl rfl
   ·have h1:(0:Int)<=n:=by omega
    go_wp2_with fail
    go_ret;refine⟨A,cap,by rw[HN.o];first | rfl | exact congrArg (fun k=>Ending.returned (Value.slice A k cap)) (show(max n 0).toNat=n.toNat by omega),by have:=HN.o;omega,?_,cc.o⟩;have hr:=Rd.of_own HO.o;have ht:bvs (strm K (upW N) (loW N) m)=(bvs (strm K (upW N) (loW N) (8*i))).take m:=by
     rw[<-SM K (upW N) (loW N) m (8*i) (by have:=EO.o;have:=HN.o;omega)];simp [bvs,List.map_take]
    rw[ht];exact Rd.take hr m
end SpL
namespace Se
open Go.RowKit Af
def hk (f:Nat->UInt8) (i j:Nat):UInt8:=if j<i then f j else 0
theorem FQ (f:Nat->UInt8) (j:Nat) (M:j<16):(Sp.AQ f)[j]? = some (bv (f j)):=Sp.FQ f j M
theorem Yc (f:Nat->UInt8) (i:Nat) (hi:i<16):(Sp.AQ (hk f i)).setIfInBounds i (bv (f i))=Sp.AQ (hk f (i+1)):=by
 unfold Sp.AQ;rw[List.setIfInBounds_toArray]
 congr 1
 apply List.ext_getElem?;intro j;rw[List.getElem?_set,List.getElem?_map,List.getElem?_map]
 by_cases hj:i=j
 ·subst hj;simp [hi,hk]
 ·rw[if_neg hj]
  rcases Nat.lt_or_ge j 16 with h | h
  ·have e:(j<i)=(j<i+1):=propext ⟨by omega,by omega⟩
   simp [h,hk,e]
  ·rw[List.getElem?_eq_none (by simpa using h)];rfl
theorem cO (f:Nat->UInt8):Sp.AQ (hk f 16)=Sp.AQ f:=Sp.Jr fun j M=>if_pos M
theorem Tz (f:Nat->UInt8):Sp.AQ (hk f 0)=Sp.AQ (fun _=>0):=Sp.Jr fun j M=>rfl
theorem key32_at' (f:Nat->UInt8) (j:Nat) (M:j<32):(Be f)[j]? = some (bv (f j)):=by
 rw[Be,List.getElem?_toArray];simp [M]
theorem Oi {P:Program} {fn:Func} {tmps:Array Value} {w:World} {v1 v2:Value} (t1 t2:Nat) (Z M:TypeId) (a1 a2:Addr) (O:fn.results=#[.cell t1 Z,.cell t2 M]) (aw:tmps.getD t1 undef=.pointer (some a1)) (av:tmps.getD t2 undef=.pointer (some a2)) (bb:(loadVar Z a1).run P w=.ok v1 w) (bn:(loadVar M a2).run P w=.ok v2 w) :
  (results fn tmps).run P w=.ok (.tuple #[v1,v2]) w:=by
 have h1:tmps[t1]?.getD undef=.pointer (some a1):=by simpa using aw
 have h2:tmps[t2]?.getD undef=.pointer (some a2):=by simpa using av
 simp [results,O,h1,h2,asAddr,bb,bn]
theorem TA (ks:Nat->UInt8) (w:World):Calls Tryz.prog 130 #[.agg (Be ks)] w fun e w'=>e=.returned (.tuple #[.agg (Sp.AQ ks),.agg (Sp.AQ (k2 ks))])/\Below w.heap.size w w':=by
 obtain⟨B,eB⟩:=Ak (w.heap.size);have EB:=I eB;have bn:Sp.AQ (fun _=>0)=#[.int .u8 0,.int .u8 0,.int .u8 0,.int .u8 0,.int .u8 0,.int .u8 0,.int .u8 0,.int .u8 0,.int .u8 0,.int .u8 0,.int .u8 0,.int .u8 0,.int .u8 0,.int .u8 0,.int .u8 0,.int .u8 0]:=rfl;have HZ:=I bn;clear bn;obtain⟨kc,bB⟩:=Ak (Be ks);rw[<-bB];have EK:=I bB;clear bB;go_enter Tryz.func130,Tryz.ntmps130
 go_wp2_with fail
 rw[<-eB];clear eB
 go_loopw [6] (fun iv wr=>∃i:Nat,i<=16/\iv=.int .i64 (i:Int)/\Below B w wr/\wr.heap.size=B+5/\Blk wr B 29 kc/\Blk wr (B+1) 225 (Sp.AQ (fun _=>0))/\Blk wr (B+2) 225 (Sp.AQ (fun _=>0))/\Blk wr (B+3) 225 (Sp.AQ (hk ks i))/\Blk wr (B+4) 225 (Sp.AQ (hk (k2 ks) i))) (fun iv _=>16 - (intOf iv).toNat)
 case atStart=>
  have z1:Blk (w.alloc (.cells kc 29)) B 29 kc:=EB.o▸Blk.new w _ _;have q0:(w.alloc (.cells kc 29)).heap.size=B+1:=by rw[EB.o];simp
  have b0:Below B w (w.alloc (.cells kc 29)):=EB.o▸(Below.refl w.heap.size w).alloc Ag _;have key:∀(w1:World) (n:Nat),w1.heap.size=n->Blk (w1.alloc (.cells (Sp.AQ fun _=>0) 225)) n 225 (Sp.AQ fun _=>0)/\(w1.alloc (.cells (Sp.AQ fun _=>0) 225)).heap.size=n+1:=fun w1 n h=>⟨h▸Blk.new w1 _ _,by rw[<-h];simp⟩
  obtain⟨k1,q1⟩:=key _ _ q0;obtain⟨cb,q2⟩:=key _ _ q1;obtain⟨k3,q3⟩:=key _ _ q2;obtain⟨k4,q4⟩:=key _ _ q3;refine⟨0,by decide,rfl,?_,q4,(((z1.alloc _).alloc _).alloc _).alloc _,((k1.alloc _).alloc _).alloc _,(cb.alloc _).alloc _,?_,?_⟩
  ·exact(((b0.alloc (by have:=EB.o;simp;omega) _).alloc (by have:=EB.o;simp;omega) _).alloc (by have:=EB.o;simp;omega) _).alloc (by have:=EB.o;simp;omega) _
  ·rw[Tz];exact k3.alloc _
  ·rw[Tz];exact k4
 case round=>
  obtain⟨i,hi,rfl,hb,ca,h0,h1,h2,h3,h4⟩:=hrel;have HB:=I hb;clear hb;have HS:=I ca;clear ca
  by_cases hx:i=16
  ·subst hx
   rw[cO] at h3 h4;obtain⟨cs,aw⟩:=Ak ((List.range 16).map (fun j=>bv (ks j)));obtain⟨ds,av⟩:=Ak ((List.range 16).map (fun j=>bv (k2 ks j)));have n3:cs.length=16:=by rw[aw];simp
   have n4:ds.length=16:=by rw[av];simp
   have o3:∀v∈cs,v.oneCell'=true:=by rw[aw];intro v hv;obtain⟨j,_,rfl⟩:=List.mem_map.1 hv;rfl
   have o4:∀v∈ds,v.oneCell'=true:=by rw[av];intro v hv;obtain⟨j,_,rfl⟩:=List.mem_map.1 hv;rfl
   have h3:Blk wr (B+3) 225 cs.toArray:=by rw[aw];exact h3
   have h4:Blk wr (B+4) 225 ds.toArray:=by rw[av];exact h4
   have r3:wr.drew.rangeAt (B+1+1+1) 0 cs:=by have:=Si.Ae h3;simpa using this
   have r4:wr.drew.rangeAt (B+1+1+1+1) 0 ds:=by have:=Si.Ae h4;simpa using this
   have t1:wr.drew.there (B+1) 0 16:=by have:=Si.Ar h1;rwa [Bd] at this
   have t2:wr.drew.there (B+1+1) 0 16:=by have:=Si.Ar h2;rwa [Bd] at this
   have u3:(Tryz.prog.info? 225).map (·.size)=some cs.length:=by rw[n3];kernel_rfl
   have u4:(Tryz.prog.info? 225).map (·.size)=some ds.length:=by rw[n4];kernel_rfl
   have Z:=Tryz.underlying225;have EC:=I aw;clear aw;have ED:=I av;clear av;clear h0 h1 h2 h3 h4
   go_wp2_with fail
   refine wp_region_held_drew (S:=fun w'=>w'.rangeAt (B+1+1+1) 0 cs/\w'.rangeAt (B+1+1+1+1) 0 ds/\w'.there (B+1) 0 16/\w'.there (B+1+1) 0 16) (by kernel_rfl) ⟨r3,r4,t1,t2⟩ (fun O=>?_);refine wpAnyH_take (i:=0) (v:=.agg cs.toArray) rfl (by kernel_rfl) (by kernel_rfl) (by kernel_rfl) (fun _ _ _ h=>h) (yieldsIf_load_mid (by rfl) 225 (.tmp 4) rfl (B+1+1+1) 0 rfl cs _ (fun _ h=>h.1) Z rfl u3) O ?_;refine wpAnyH_take (i:=1) (v:=.agg ds.toArray) rfl (by kernel_rfl) (by kernel_rfl) (by kernel_rfl) (fun _ _ _ h=>h) (yieldsIf_load_mid (by rfl) 225 (.tmp 5) rfl (B+1+1+1+1) 0 rfl ds _ (fun _ h=>h.2.1) Z rfl u4) O ?_;refine wpAnyH_ready (rs:=[2]) (by kernel_rfl) (by simp) ?_;refine AllReadyH.cons (o:=_) rfl (fun K hK=>?_) AllReadyH.nil;rw[if_pos (by rfl)];refine wp_store_mid 225 _ _ rfl (B+1) 0 cs.toArray rfl rfl (by rw[List.size_toArray,n3];exact O.2.2.1) (by rw[List.size_toArray];exact u3) (all_oneCell_toArray o3) ?_;refine hK.o _ _ ⟨World.rangeAt_setCells_apart O.1 _ _ _ (.inl (by omega)),World.rangeAt_setCells_apart O.2.1 _ _ _ (.inl (by omega)),World.there_setCells O.2.2.1 _ _ _,World.there_setCells O.2.2.2 _ _ _⟩ (fun M=>?_);clear hK K;refine wpAnyH_ready (rs:=[3]) (by kernel_rfl) (by simp) ?_;refine AllReadyH.cons (o:=_) rfl (fun K hK=>?_) AllReadyH.nil;rw[if_pos (by rfl)];refine wp_store_mid 225 _ _ rfl (B+1+1) 0 ds.toArray rfl rfl (by rw[List.size_toArray,n4];exact M.2.2.2) (by rw[List.size_toArray];exact u4) (all_oneCell_toArray o4) ?_;refine hK.o _ _ ⟨World.rangeAt_setCells_apart M.1 _ _ _ (.inl (by omega)),World.rangeAt_setCells_apart M.2.1 _ _ _ (.inl (by omega)),World.there_setCells M.2.2.1 _ _ _,World.there_setCells M.2.2.2 _ _ _⟩ (fun bb=>?_);clear hK K;refine wpAnyH_done (by kernel_rfl) ?_ _;have bq:((wr.drew.setCells (B+1) 0 cs).setCells (B+1+1) 0 ds).rangeAt (B+1) 0 cs:=World.rangeAt_setCells_apart (World.rangeAt_setCells_same _ _ _ _ (by rw[n3];exact t1)) _ _ _ (.inl (by omega));have bx:((wr.drew.setCells (B+1) 0 cs).setCells (B+1+1) 0 ds).rangeAt (B+1+1) 0 ds:=World.rangeAt_setCells_same _ _ _ _ (by rw[n4];exact M.2.2.2);have bz:Below B w ((wr.drew.setCells (B+1) 0 cs).setCells (B+1+1) 0 ds):=Si.Bo _ (by omega) _ _ _ (Si.Bo _ (by omega) _ _ _ (below_drewN HB.o 1));change Exit.then _ _ Exit.normal _ ((wr.drew.setCells (B+1) 0 cs).setCells (B+1+1) 0 ds)
   generalize (wr.drew.setCells (B+1) 0 cs).setCells (B+1+1) 0 ds=W3 at bq bx bz⊢;clear O M bb r3 r4 t1 t2;have q1:=run_loadVar_mid (P:=Tryz.prog) W3 (B+1) 0 225 cs _ bq Z rfl u3;have q2:=run_loadVar_mid (P:=Tryz.prog) W3 (B+1+1) 0 225 ds _ bx Z rfl u4;have Q1:=I q1;clear q1;have Q2:=I q2;clear q2;have BW:=I bz;clear bz;clear bq bx u3 u4 Z n3 n4 o3 o4 h3 h4
   go_wp2_with fail
   refine bodyPost_ret (v:=.tuple #[.agg cs.toArray,.agg ds.toArray]) (Oi 2 3 225 225 ⟨B+1,0,none⟩ ⟨B+1+1,0,none⟩ Tryz.results130 (by rfl) (by rfl) Q1.o Q2.o) (by rfl) ?_;exact⟨by rw[EC.o,ED.o];rfl,EB.o▸BW.o⟩
  ·have e1:(i:Int)<16:=by omega
   have e2:(0:Int)<=(i:Int):=by omega
   have e3:i<16:=by omega
   have e4:(16:Int)+(i:Int)<32:=by omega
   have e5:(0:Int)<=(16:Int)+(i:Int):=by omega
   have e6:16+i<32:=by omega
   have e7:i<32:=by omega
   obtain⟨x,ex⟩:=Ak (ks i);obtain⟨y,ey⟩:=Ak (ks (16+i));have g0:wr.cell? ⟨B,i,none⟩=some (.int .u8 (x.toNat:Int)):=by rw[h0.cell,EK.o,key32_at' ks i e7,ex];rfl
   have g1:wr.cell? ⟨B,16+i,none⟩=some (.int .u8 (y.toNat:Int)):=by rw[h0.cell,EK.o,key32_at' ks (16+i) e6,ey];rfl
   have f3:=h3.frozen;have f4:=h4.frozen;have c3:=h3.cell i;have c4:=h4.cell i;rw[FQ _ _ e3] at c3 c4;simp only[bv] at c3 c4;have H0:=I h0;clear h0;have H1:=I h1;clear h1;have H2:=I h2;clear h2;have H3:=I h3;clear h3;have H4:=I h4;clear h4;have hw:IntKind.i64.wrap ((16:Int)+(i:Int))=(16:Int)+(i:Int):=by rw[IntKind.wrap_i64];omega
   have EX:=I ex;clear ex;have EY:=I ey;clear ey;have HX:=I hx;clear hx;have HI:=I hi;clear hi
   go_wp2_with fail
   go_region
   all_goals go_wp2_with fail
   all_goals
    go_roundw
    case rel=>
     have s3:=H3.o.set i (bv x);rw[EX.o,Yc ks i e3,<-EX.o] at s3;have s4:=(Si.Blk.far H4.o ⟨B+3,i,none⟩ (bv x) (by simp)).set i (bv y);rw[EY.o,show ks (16+i)=k2 ks i from rfl,Yc (k2 ks) i e3] at s4;refine⟨i+1,by omega,by go_num,?_,?_,?_,?_,?_,?_,?_⟩
     ·exact below_drewN (Si.AS (Si.AS HB.o (by simp;omega) _) (by simp;omega) _) 1
     ·simpa [World.setCell] using HS.o
     ·exact Si.Blk.far (Si.Blk.far H0.o ⟨B+3,i,none⟩ _ (show B+3≠B by omega)) ⟨B+4,i,none⟩ _ (show B+4≠B by omega)
     ·exact Si.Blk.far (Si.Blk.far H1.o ⟨B+3,i,none⟩ _ (show B+3≠B+1 by omega)) ⟨B+4,i,none⟩ _ (show B+4≠B+1 by omega)
     ·exact Si.Blk.far (Si.Blk.far H2.o ⟨B+3,i,none⟩ _ (show B+3≠B+2 by omega)) ⟨B+4,i,none⟩ _ (show B+4≠B+2 by omega)
     ·exact Si.Blk.far s3 ⟨B+4,i,none⟩ _ (show B+4≠B+3 by omega)
     ·exact(by have e:=s4;rw[show bv (k2 ks i)=bv y from by rw[EY.o];rfl] at e;exact e)
    case measure=>simp [intOf];omega
theorem dbig (N:Nat) (w:World) (hN:N<18446744073709551616) :
  Calls Tryz.prog 82 #[.int .u64 (N:Int)] w fun e w'=>∃v,e=.returned v/\w'.ownsRow w.heap.size 5 1 v 8 (bvs (w8 N))/\Below w.heap.size w w':=by
 obtain⟨ib,bx,cb,ca,bB⟩:=info_parts Si.Co;obtain⟨B,eB⟩:=Ak (w.heap.size);have EB:=I eB;clear eB;have HN:=I hN;clear hN;go_enter Tryz.func82,Tryz.ntmps82
 go_wp2_with fail
 go_loopw [3,4] (fun bz iv wr=>∃j:Nat,j<=8/\iv=.int .i64 (7 - (j:Int))/\wr.ownsRow B 5 1 bz j (laid [] N j)/\Below B w wr) (fun _ iv _=>(intOf iv+1).toNat)
 case atStart=>exact⟨0,by decide,rfl,⟨rfl,.inl ⟨rfl,rfl⟩⟩,Below.refl _ _⟩
 case round=>
  obtain⟨j,hj,rfl,av,bn⟩:=hrel;have HR:=I av;clear av;have HW:=I bn;clear bn
  by_cases hx:j=8
  ·subst hx
   go_wp2_with fail
   go_ret;exact⟨_,rfl,by have:=HR.o;rw[cE,List.nil_append] at this;exact EB.o▸this,EB.o▸HW.o⟩
  ·obtain⟨k,ek⟩:∃k:Nat,k=7 - j:=⟨_,rfl⟩
   obtain⟨m,em⟩:∃m:Nat,m=56 - 8*j:=⟨_,rfl⟩;have hk:(7:Int) - (j:Int)=(k:Int):=by omega
   rw[hk];have aw:j<8:=by omega
   have cc:(8:Int)*(k:Int)=(m:Int):=by omega
   have cj:m<64:=by omega
   have cd:(m:Int)<64:=by omega
   have cg:(0:Int)<=(m:Int):=by omega
   have cf:min m 64=m:=by omega
   have ck:(0:Int)<=(k:Int):=by omega
   have cm:(k:Int)<=7:=by omega
   have bb:=Tu [] N j aw;have hv:bv (UInt8.ofNat (N / 2 ^ (56 - 8*j)))=.int .u8 ((N:Int) / 2 ^ m % 256):=by
    unfold bv;rw[UInt8.toNat_ofNat',<-em];congr 1
   rw[hv] at bb;have NX:=I bb;clear bb;have EM:=I em;clear em;have EK:=I ek;clear ek;have HX:=I hx;clear hx;have HJ:=I hj;clear hj;have Z:=I aw;clear aw;clear hk hv
   go_wp2_with (first | (at_builtin;refine AI _ (by rfl) (.tmp 9) (.tmp 16) 34 (by rfl) B 5 ib _ 1 Tryz.underlying34 bx cb ca bB (by rfl) _ j (laid [] N j) (by rfl) (EW HR.o (by rfl)) (wr.heap.size+1) (some ⟨wr.heap.size,0,none⟩) 1 1 [.int .u8 ((N:Int) / 2 ^ m % 256)] (by rfl) (by rfl) (Si.Ha wr 5 _ [.int .u8 ((N:Int) / 2 ^ m % 256)] (by rfl) _ rfl) (by simp [Value.oneCell']) (by have:=Z.o;unfold maxLen;omega) (by have:=Z.o;omega) (by have:=EB.o;have:=HW.o.size;simp;omega) ?_;intro v6 w6 O M bq;have O6:=I O;have G6:=I M;clear O M bq) | fail)
   go_roundw
   case rel=>
    refine⟨j+1,by have:=Z.o;omega,?_,by rw[<-NX.o];exact O6.o,?_⟩
    ·exact congrArg (Value.int .i64) (by have:=EK.o;have:=Z.o;omega)
    ·exact(HW.o.alloc (by have:=EB.o;have:=HW.o.size;omega) _).grown G6.o (by have:=EB.o;have:=HW.o.size;simp;omega) (fun q hq=>(HR.o.lt q hq).1)
   case measure=>simp [intOf]
theorem TB (ks:Nat->UInt8) (u n:Nat) (p:List UInt8) (i:Nat) (h:i<p.length) (M:i<(Dw ks u n p.length).length):bvs ((mixL ks u n p).take i)++[bv (p[i] ^^^ (Dw ks u n p.length)[i])]=bvs ((mixL ks u n p).take (i+1)):=by
 rw[List.take_add_one,Ti ks u n p i h M,Bz];rfl
theorem cS (y x:UInt8):bits .xor .u8 (y.toNat:Int) (x.toNat:Int)=((y ^^^ x).toNat:Int):=by
 rw[u8_xor_nat _ _ y.toNat_lt x.toNat_lt,UInt8.toNat_xor]
def twoW (w1:World) (z:Array Value) (t:TypeId) (cs ds:Array Value):World:=(((w1.alloc (.cells z t)).alloc (.cells z t)).setCells w1.heap.size 0 cs.toList).setCells (w1.heap.size+1) 0 ds.toList
theorem Kp (w1:World) (z:Array Value) (t:TypeId) (cs ds:Array Value) (O:z.size=cs.size) (h2:z.size=ds.size) :
  (twoW w1 z t cs ds).rangeAt w1.heap.size 0 cs.toList/\(twoW w1 z t cs ds).rangeAt (w1.heap.size+1) 0 ds.toList/\Below w1.heap.size w1 (twoW w1 z t cs ds)/\w1.heap.size+2<=(twoW w1 z t cs ds).heap.size:=by
 have Z:((w1.alloc (.cells z t)).alloc (.cells z t)).there w1.heap.size 0 cs.toList.length:=by
  have:=World.there_alloc (Si.Ar (Blk.new w1 t z)) (.cells z t)
  rwa [O,<-Array.length_toList] at this
 have M:((w1.alloc (.cells z t)).alloc (.cells z t)).there (w1.heap.size+1) 0 ds.toList.length:=by
  have:=Si.Ar (Si.Blk.new_of (w1.alloc (.cells z t)) (w1.heap.size+1) t z z rfl (by simp))
  rwa [h2,<-Array.length_toList] at this
 refine⟨World.rangeAt_setCells_apart (World.rangeAt_setCells_same _ _ _ _ Z) _ _ _ (.inl (by omega)),World.rangeAt_setCells_same _ _ _ _ (World.there_setCells M _ _ _),?_,?_⟩
 ·exact Si.Bo _ (by omega) _ _ _ (Si.Bo _ Ag _ _ _ ((Ah.alloc Ag _).alloc (by simp) _))
 ·unfold twoW;rw[SpL.Fb,SpL.Fb];simp
theorem dmix (ks:Nat->UInt8) (u n:Nat) (A:Option Addr) (m c:Nat) (p:List UInt8) (w:World) (hu:u<=255) (hn:n<18446744073709551616) (hm:m=p.length) (cr:m<=1000) (hr:Rd w w.heap.size A (bvs p)) :
  Calls Tryz.prog 83 #[.agg (Be ks),.int .i64 (u:Int),.int .u64 (n:Int),.slice A m c] w fun e w'=>∃v,e=.returned v/\w'.ownsRow w.heap.size 5 1 v m (bvs (mixL ks u n p))/\Below w.heap.size w w':=by
 obtain⟨ib,et,eJ,eQ,ew⟩:=info_parts Si.Co;obtain⟨B,eB⟩:=Ak (w.heap.size);obtain⟨N,eN⟩:=Ak (sn u n);have cy:=Tw u n hu;have Z:=cH u n hu;have O:=cI u n;rw[<-eN] at cy Z O;have eV:(u:Int) % 18446744073709551616=(u:Int):=by omega
 have cc:Sp.strm (Sp.kw ks) (Sp.upW N) (Sp.loW N) m=Dw ks u n m:=by rw[eN];rfl
 have ch:=fun w1=>TA ks w1
 have cw:=fun w1=>Sp.bO ks w1
 have bx:=fun w1=>SpL.ZI (Sp.kw ks) N m (m:Int) w1 O cr (by simp)
 rw[cc] at bx;have i32:=Km ks;have i16:=Jw ks;have bn:=Jw (k2 ks);have cn:=Ts ks;have bb:=Ts (k2 ks);have cu:=Bd ks;have av:=Bd (k2 ks);obtain⟨kc,cT⟩:=Ak (Be ks);obtain⟨cs,eo⟩:=Ak (Sp.AQ ks);obtain⟨ds,cM⟩:=Ak (Sp.AQ (k2 ks));obtain⟨xs,eb⟩:=Ak (Sp.AY (Sp.kw ks));rw[<-cT] at ch i32⊢;rw[<-eo] at ch cw i16 cn cu;rw[<-cM] at ch bn bb av;rw[<-eb] at cw bx;have hz:Sp.AQ (fun _=>0)=#[.int .u8 0,.int .u8 0,.int .u8 0,.int .u8 0,.int .u8 0,.int .u8 0,.int .u8 0,.int .u8 0,.int .u8 0,.int .u8 0,.int .u8 0,.int .u8 0,.int .u8 0,.int .u8 0,.int .u8 0,.int .u8 0]:=rfl;have EB:=I eB;have HR:=I (eB▸hr);clear hr;have HM:=I hm;clear hm;have q3:(m:Int)<=1000:=by omega
 have cL:=I cr;clear cr;have eP:=I i32;clear i32;have cX:=I i16;clear i16;have cB:=I bn;clear bn;have eu:=I cn;clear cn;have ea:=I bb;clear bb;have eg:=I cu;clear cu;have cf:=I av;clear av;have HZ:=I hz;clear hz;have eM:=I bx;clear bx;have eL:=I cy;clear cy;have ek:=I Z;have ed:Hid (((n:Int)*256+(u:Int)) % 18446744073709551616=(N:Int)):=by rw[<-Z];show _=_;omega
 have cQ:Hid (IntKind.u64.wrap (IntKind.u64.wrap ((n:Int)*256)+(u:Int))=(N:Int)):=by rw[IntKind.wrap_u64,IntKind.wrap_u64];omega
 clear Z;have h0:Blk (w.alloc (.cells kc 29)) B 29 kc:=eB▸Blk.new w _ _;have cd:Below B w (w.alloc (.cells kc 29)):=eB▸(Below.refl w.heap.size w).alloc Ag _;have H0:=I h0;clear h0;have eF:=I cd;clear cd;clear hu hn cc O eN cT eo cM eb eB;go_enter Tryz.func83,Tryz.ntmps83
 go_upto_region 2 with(first
  |(refine Am (by rfl) 29 (.tmp 4) (by rfl) w.heap.size 0 (by rfl) kc _ (Si.Ae (Blk.new w 29 kc)) Tryz.underlying29 (by rfl) eP.o ?_)
  |(go_at_call 130;refine Aj (ch _) ?_;rintro w1 bz;clear ch;have bz:=eF.o.trans (bz.mono (by have:=EB.o;simp;omega));have H1:=I bz;clear bz)
  |(refine wpList_store_mid (by rfl) 225 (.tmp 9) (.tmp 17) (by rfl) w1.heap.size 0 cs (by rfl) (by rfl) (by rw[eg.o];exact World.there_alloc (by have:=Si.Ar (Blk.new w1 225 (Sp.AQ fun _=>0));rwa [Bd] at this) _) cX.o eu.o ?_)
  |(refine wpList_store_mid (by rfl) 225 (.tmp 10) (.tmp 18) (by rfl) (w1.heap.size+1) 0 ds (by rfl) (by rfl) (by rw[cf.o];exact World.there_setCells (by have:=Si.Ar (Si.Blk.new_of (w1.alloc (.cells (Sp.AQ fun _=>0) 225)) (w1.heap.size+1) 225 _ (Sp.AQ fun _=>0) rfl (by simp));rwa [Bd] at this) _ _ _) cB.o ea.o ?_)
  |fail)
 have h2:=Kp w1 (Sp.AQ fun _=>0) 225 cs ds (by rw[Bd,eg.o]) (by rw[Bd,cf.o]);change Code.wp _ _ _ _ (twoW w1 (Sp.AQ fun _=>0) 225 cs ds);generalize twoW w1 (Sp.AQ fun _=>0) 225 cs ds=W2 at h2⊢;have aw:=H1.o.trans (h2.2.2.1.mono (by have:=H1.o.size;have:=EB.o;omega));have ej:=I aw;clear aw;have eK:=I h2.1;clear h2;have ec:=cw W2;clear cw
 go_wp2_with (first
  |(refine Am (by rfl) 225 (.tmp 9) (by rfl) w1.heap.size 0 (by rfl) cs _ eK.o Tryz.underlying225 (by rfl) cX.o ?_)
  |(go_at_call 132;refine Aj ec ?_;rintro w3 bB;clear ec;have bB:=ej.o.trans (bB.mono (by have:=ej.o.size;have:=EB.o;omega));have c4:=eM.o w3;have H3:=I bB;clear bB)
  |(go_at_call 131;(first | rw[ek.o] | rw[eL.o] | rw[ed.o] | rw[cQ.o]);refine Calls.mono c4 ?_;rintro e w5 ⟨As,sc,rfl,eW,ep,ca⟩;clear c4;have ca:=H3.o.trans (ca.mono (by have:=H3.o.size;have:=EB.o;omega));have H5:=I ca;have RS:=I ep;clear ca ep)
  |fail)
 obtain⟨N0,er⟩:=Ak (w5.heap.size);have EN:=I er;clear er;have cR:(Dw ks u n m).length=m:=BM ks u n m;have eX:=I cR;clear cR
 go_loopw [12,13] (fun eE iv wr=>∃i:Nat,i<=m/\iv=.int .i64 (i:Int)/\wr.ownsRow N0 5 1 eE i (bvs ((mixL ks u n p).take i))/\Below N0 w5 wr) (fun _ iv _=>m - (intOf iv).toNat)
 case atStart=>exact⟨0,Nat.zero_le _,rfl,⟨rfl,.inl ⟨rfl,rfl⟩⟩,Below.refl _ _⟩
 case round=>
  obtain⟨i,hi,rfl,cb,cP⟩:=hrel;have HO:=I cb;clear cb;have HW:=I cP;clear cP
  by_cases hx:i=m
  ·subst hx
   go_wp2_with fail
   go_ret;have h9:=HO.o;rw[List.take_of_length_le (by rw[Bx,HM.o];exact Nat.le_refl _)] at h9;refine⟨_,rfl,h9.mono (by have:=EN.o;have:=H5.o.size;omega),?_⟩;rw[<-EB.o];exact H5.o.trans (HW.o.mono (by have:=EN.o;have:=H5.o.size;have:=EB.o;omega))
  ·have cx:i<m:=by omega
   have cq:i<p.length:=by have:=HM.o;omega
   have e1:(i:Int)<(m:Int):=by omega
   have e2:(0:Int)<=(i:Int):=by omega
   have e3:(i:Int)<1000:=by omega
   have ef:i<(Dw ks u n p.length).length:=by rw[BM];exact cq
   have cj:i<(Dw ks u n m).length:=by rw[BM];exact cx
   obtain⟨y,ey⟩:=Ak (p[i]);obtain⟨x,ex⟩:=Ak ((Dw ks u n p.length)[i]);obtain⟨z,ez⟩:=Ak (y ^^^ x);obtain⟨b1,o1,rfl,cg,cp⟩:=HR.o.at_ (Ge cq);obtain⟨b2,o2,rfl,cY,ct⟩:=RS.o.at_ (Ge cj);rw[<-ey] at cp;have hex:(Dw ks u n m)[i]=x:=by
    rw[ex];have:=HM.o;subst this
    rfl
   rw[hex] at ct;have ck:b1<N0:=by have:=EN.o;have:=H5.o.size;have:=EB.o;omega
   have cm:b2<N0:=by have:=EN.o;omega
   have d1:wr.cell? ⟨b1,o1+i,none⟩=some (.int .u8 (y.toNat:Int)):=(HW.o.cell (p:=⟨b1,o1+i,none⟩) ck).trans ((H5.o.cell (p:=⟨b1,o1+i,none⟩) cg).trans cp);have d2:wr.cell? ⟨b2,o2+i,none⟩=some (.int .u8 (x.toNat:Int)):=(HW.o.cell (p:=⟨b2,o2+i,none⟩) cm).trans ct;have eT:bits .xor .u8 (y.toNat:Int) (x.toNat:Int)=(z.toNat:Int):=by rw[ez];exact cS y x
   have cA:=TB ks u n p i cq ef;rw[<-ey,<-ex,<-ez] at cA;have NX:=I cA;clear cA;have HX:=I hx;clear hx;have HI:=I hi;clear hi;clear ey ex ez cp ct hex ef cj cg cY ck cm
   go_wp2_with fail
   go_region_law (refine step_append_lies _ (by rfl) (.tmp 35) (.tmp 45) 34 (by rfl) N0 5 ib _ 1 1 Tryz.underlying34 et eJ eQ ew (by rfl) (by decide) u12 i (bvs ((mixL ks u n p).take i)) (by rfl) (EW HO.o (by rfl)) ⟨wr.heap.size,0,none⟩ 1 1 [.int .u8 (z.toNat:Int)] (by rfl) (by rfl) (Sp.Mr (by rfl)) (by simp [Value.oneCell']) (by decide) (by have:=HI.o;have:=cL.o;unfold maxLen;omega) (by have:=HI.o;have:=cL.o;omega) (by have:=EN.o;have:=HW.o.size;simp;omega) (wr.heap.size+1) (by simp) ?_;intro g2 eR w2 bq M ev cx)
   all_goals (
    have ei:(wr.alloc (.cells #[.int .u8 (z.toNat:Int)] 5)).grownBy w2 u12.ownBlock:=⟨M.os,M.tape,M.output,M.size,M.block⟩;have aw:=(HW.o.alloc (by have:=EN.o;have:=HW.o.size;omega) (Obj.cells #[.int .u8 (z.toNat:Int)] 5)).grown ei (by have:=EN.o;have:=HW.o.size;simp;omega) (fun q hq=>(HO.o.lt q hq).1);have O6:=I bq;clear bq;have B6:=I aw;clear aw;clear M ev cx ei d1 d2
    go_wp2_with fail
    go_roundw
    case rel=>exact⟨i+1,by omega,by go_num,by rw[<-NX.o];exact O6.o,B6.o⟩
    case measure=>simp [intOf];omega)
theorem Gt {w w':World} {b o:Nat} {cs:List Value} {row:Option Nat} (h:w.rangeAt b o cs) (O:b<w.heap.size) (Z:w.grownBy w' row) (M:row≠some b):w'.rangeAt b o cs:=fun j v hv=>
 (World.cell?_of_block (a:=⟨b,o+j,none⟩) (Z.block b O (fun e=>M e.symm))).trans (h j v hv)
theorem Fc {w w':World} {b o:Nat} {cs:List Value} (h:w.rangeAt b o cs) (M:b<w.heap.size) (O:Below w.heap.size w w'):w'.rangeAt b o cs:=Gt h M (Df O none) (by simp)
theorem dtag (ks:Nat->UInt8) (u:Nat) (A:Option Addr) (m c:Nat) (l:List UInt8) (w:World) (hu:u<=255) (hm:m=l.length) (cM:m<=1000) (hr:Rd w w.heap.size A (bvs l)) :
  Calls Tryz.prog 84 #[.agg (Be ks),.int .i64 (u:Int),.slice A m c] w fun e w'=>∃v,e=.returned v/\w'.ownsRow w.heap.size 5 1 v 8 (bvs (w8 (tagL ks u l)))/\Below w.heap.size w w':=by
 obtain⟨ib,eo,eu,eN,eM⟩:=info_parts Si.Co;obtain⟨B,eB⟩:=Ak (w.heap.size);have ch:=fun w1=>TA ks w1
 have i32:=Km ks;have i16:=Jw ks;have aw:=Jw (k2 ks);have cm:=Ts ks;have bq:=Ts (k2 ks);have cp:=Bd ks;have bz:=Bd (k2 ks);obtain⟨T,eT⟩:=Ak (tagL ks u l);have cX:T<18446744073709551616:=by rw[eT];exact Tj _ _ _
 have bb:=fun(w4:World) (A4:Option Addr) (c4:Nat) (h1:1+m<=c4) (h2:c4<=maxLen) (h3:Rd w4 w4.heap.size A4 (bvs (UInt8.ofNat u :: l)))=>Si.Wm (k2 ks) A4 (1+m) c4 (UInt8.ofNat u :: l) w4 (by rw[List.length_cons,hm,Nat.add_comm]) (by omega) h1 h2 h3
 have hT:∀e,e=Ending.returned (Si.wv (Si.Hy (k2 ks) (UInt8.ofNat u :: l)))->e=.returned (.int .u64 (T:Int)):=fun e h=>by rw[h,eT];rfl
 have ck:[Value.int .u8 (u:Int)]++bvs l=bvs (UInt8.ofNat u :: l):=by
  show [Value.int .u8 (u:Int)]++bvs l=bv (UInt8.ofNat u) :: bvs l;rw[Ya u hu];rfl
 obtain⟨kc,cT⟩:=Ak (Be ks);obtain⟨cs,ef⟩:=Ak (Sp.AQ ks);have ev:∃dl:List Value,dl.toArray=Sp.AQ (k2 ks):=⟨_,rfl⟩;obtain⟨dl,cu⟩:=ev;obtain⟨L,eL⟩:=Ak (UInt8.ofNat u :: l);rw[<-cT] at ch i32⊢;rw[<-ef] at ch i16 cm cp;rw[<-cu] at ch aw bq bz;have cB:Si.AQ (k2 ks)=Sp.AQ (k2 ks):=rfl;rw[cB,<-cu] at bb;rw[<-eL] at bb hT ck;rw[<-eT];have u16:(Tryz.prog.info? 225).map (·.size)=some dl.length:=by rw[<-List.size_toArray];exact aw
 have ca:=Tryz.underlying225;have eQ:(u:Int)<=255:=by omega
 have eP:(0:Int)<=(u:Int):=by omega
 have ew:(u:Int) % 256=(u:Int):=by omega
 have eR:IntKind.u8.wrap (u:Int)=(u:Int):=by rw[IntKind.wrap_u8'];exact ew
 have EB:=I eB;have HR:=I (eB▸hr);clear hr;have HM:=I hm;clear hm;have q3:(m:Int)<=1000:=by omega
 have cL:=I cM;clear cM;have eF:=I i32;clear i32;have ey:=I i16;clear i16;have cy:=I aw;clear aw;have er:=I cm;clear cm;have ea:=I bq;clear bq;have cY:=I cp;clear cp;have cg:=I bz;clear bz;have eg:=I bb;clear bb;have HT:=I hT;clear hT;have eJ:=I ck;clear ck;have TL:=I cX;clear cX;have ez:=I u16;clear u16;have eb:=I ca;clear ca;have cf:Below B w (w.alloc (.cells kc 29)):=eB▸(Below.refl w.heap.size w).alloc Ag _;have et:=I cf;clear cf;clear hu cT ef cu eT eL cB eB;go_enter Tryz.func84,Tryz.ntmps84
 go_upto_region 2 with(first
  |(refine Am (by rfl) 29 (.tmp 3) (by rfl) w.heap.size 0 (by rfl) kc _ (Si.Ae (Blk.new w 29 kc)) Tryz.underlying29 (by rfl) eF.o ?_)
  |(go_at_call 130;refine Aj (ch _) ?_;rintro w1 cd;clear ch;have cd:=et.o.trans (cd.mono (by have:=EB.o;simp;omega));have H1:=I cd;clear cd)
  |(refine wpList_store_mid (by rfl) 225 (.tmp 7) (.tmp 12) (by rfl) w1.heap.size 0 cs (by rfl) (by rfl) (by rw[cY.o];exact World.there_alloc (by have:=Si.Ar (Blk.new w1 225 (Sp.AQ fun _=>0));rwa [Bd] at this) _) ey.o er.o ?_)
  |(refine wpList_store_mid (by rfl) 225 (.tmp 8) (.tmp 13) (by rfl) (w1.heap.size+1) 0 dl.toArray (by rfl) (by rfl) (by rw[cg.o];exact World.there_setCells (by have:=Si.Ar (Si.Blk.new_of (w1.alloc (.cells (Sp.AQ fun _=>0) 225)) (w1.heap.size+1) 225 _ (Sp.AQ fun _=>0) rfl (by simp));rwa [Bd] at this) _ _ _) cy.o ea.o ?_)
  |fail)
 have h2:=Kp w1 (Sp.AQ fun _=>0) 225 cs dl.toArray (by rw[Bd,cY.o]) (by rw[Bd,cg.o]);change Code.wp _ _ _ _ (twoW w1 (Sp.AQ fun _=>0) 225 cs dl.toArray);generalize twoW w1 (Sp.AQ fun _=>0) 225 cs dl.toArray=W2 at h2⊢;have ej:=H1.o.trans (h2.2.2.1.mono (by have:=H1.o.size;have:=EB.o;omega));have ed:Hid (Below B w W2.drew):=below_drewN ej 1;have ct:W2.drew.rangeAt (w1.heap.size+1) 0 dl:=by have:=h2.2.1;simpa using this
 have eK:=I (show w1.heap.size+2<=W2.drew.heap.size from h2.2.2.2);clear h2 ej;have ca:=eb.o;have u16:=ez.o;simp only[Act.put];have ek:Hid ((W2.alloc (.cells #[.int .u8 (u:Int)] 5)).drew.ownsRow W2.heap.size 5 1 (.slice (some ⟨W2.heap.size,0,none⟩) 1 1) 1 [.int .u8 (u:Int)]):=World.ownsRow_lit (base:=W2.heap.size) (e:=5) (size:=1) W2.drew #[.int .u8 (u:Int)] 1 Ag (by decide) (by rfl);have cq:B<=W2.drew.heap.size:=by have:=ed.o.size;have:=EB.o;omega
 have cP:Hid (Below B w (W2.alloc (.cells #[.int .u8 (u:Int)] 5)).drew):=ed.o.alloc cq (.cells #[.int .u8 (u:Int)] 5);have eE:Hid (Rd (W2.alloc (.cells #[.int .u8 (u:Int)] 5)).drew B A (bvs l)):=HR.o.below cP.o;have cc:(W2.alloc (.cells #[.int .u8 (u:Int)] 5)).drew.rangeAt (w1.heap.size+1) 0 dl:=World.rangeAt_alloc ct (.cells #[.int .u8 (u:Int)] 5);have O:Hid ((W2.alloc (.cells #[.int .u8 (u:Int)] 5)).drew.heap.size=W2.heap.size+1):=by show(W2.alloc _).heap.size=_;simp
 have av:Hid (w1.heap.size+2<=W2.heap.size):=eK.o;have ei:Hid (B<=W2.heap.size):=cq;clear cq
 go_region_held3 (fun w'=>w'.rangeAt (w1.heap.size+1) 0 dl) (first | exact ct | exact cc | exact cr | exact cn | exact ec) (first
  |(rw[if_pos (by rfl)];refine Fu _ (.tmp 17) (.tmp 18) 34 (by rfl) W2.heap.size 5 ib _ 1 Tryz.underlying34 eo eu eN eM (by rfl) _ 1 [.int .u8 (u:Int)] (by rfl) ek.o B A m c (bvs l) (by rfl) (by rw[AG];exact HM.o) eE.o (BA _) (by have:=cL.o;unfold maxLen;omega) (by have:=cL.o;omega) (by have:=O.o;omega) ?_;intro v4 w4 Z M cQ;rw[eJ.o] at Z;have cr:w4.rangeAt (w1.heap.size+1) 0 dl:=Gt cc (by have:=O.o;have:=av.o;omega) M (by have:=av.o;simp [Value.ownBlock];omega);have cw:Below B w w4:=cP.o.grown M (by have:=O.o;have:=ei.o;omega) (fun k hk=>by have:=ei.o;simp [Value.ownBlock] at hk;omega);obtain⟨A4,c4,ep,cR,cA,cx⟩:=Jy (S:=fun _=>False) Z (fun _ _ x=>x);subst ep;have bB:=eg.o w4 A4 c4 cR cA cx.rd;have H4:=I cw;have Z4:=I M.size;clear Z M cQ cw cR cA cx)
  |(go_at_call 133;refine Calls.mono bB ?_;rintro e w5 ⟨he,bn⟩;have he:=HT.o e he;subst he;clear bB;have cn:w5.rangeAt (w1.heap.size+1) 0 dl:=Fc cr (by have:=Z4.o;have:=O.o;have:=av.o;omega) bn;have Z5:=I bn.size;have bn:=H4.o.trans (bn.mono (by have:=H4.o.size;have:=EB.o;omega));have cj:=dbig T w5 TL.o;have H5:=I bn;clear bn)
  |(go_at_call 82;refine Calls.mono cj ?_;rintro e w6 ⟨v6,rfl,cb,bx⟩;clear cj;have ec:w6.rangeAt (w1.heap.size+1) 0 dl:=Fc cn (by have:=Z4.o;have:=Z5.o;have:=O.o;have:=av.o;omega) bx;have bx:=H5.o.trans (bx.mono (by have:=H5.o.size;have:=EB.o;omega));have H6:=I bx;have O6:=I cb;have Z6:=I H5.o.size;clear bx cb))
 all_goals (
  clear ct cc cr cn ec
  go_wp2_with fail
  go_ret;exact⟨_,rfl,O6.o.mono (by have:=Z6.o;have:=EB.o;omega),EB.o▸H6.o⟩)
theorem TC (ks:Nat->UInt8) (u n:Int) (A:Option Addr) (m c:Nat) (w:World) (hx:¬(0<=u/\u<=255/\0<=n/\n<=1099511627776/\m<=784)) :
  Calls Tryz.prog 41 #[.agg (Be ks),.int .i64 u,.int .i64 n,.slice A m c] w fun e w'=>e=.returned (.tuple #[.slice none 0 0,.int .i64 1])/\Below w.heap.size w w':=by
 obtain⟨kc,M⟩:=Ak (Be ks);rw[<-M];have t:(decide (u<0)=true)\/(decide (u<0)=false/\decide (255<u)=true)\/(decide (u<0)=false/\decide (255<u)=false/\decide (n<0)=true)\/(decide (u<0)=false/\decide (255<u)=false/\decide (n<0)=false/\decide (1099511627776<n)=true)\/(decide (u<0)=false/\decide (255<u)=false/\decide (n<0)=false/\decide (1099511627776<n)=false/\decide (784<(m:Int))=true):=by
  simp only[decide_eq_true_eq,decide_eq_false_iff_not];omega
 have HB:=I ((Below.refl w.heap.size w).alloc Ag (.cells kc 29));clear hx M;rcases t with O | ⟨O,Z⟩ | ⟨O,Z,t3⟩ | ⟨O,Z,t3,t4⟩ | ⟨O,Z,t3,t4,t5⟩<;>(
  go_enter Tryz.func41,Tryz.ntmps41
  go_wp2
  go_ret2
  exact⟨rfl,HB.o⟩)
theorem TD (ks:Nat->UInt8) (u n:Nat) (A:Option Addr) (m c:Nat) (p:List UInt8) (w:World) (hu:u<=255) (hn:n<=1099511627776) (hm:m=p.length) (cj:m<=784) (hr:Rd w w.heap.size A (bvs p)) :
  Calls Tryz.prog 41 #[.agg (Be ks),.int .i64 (u:Int),.int .i64 (n:Int),.slice A m c] w fun e w'=>∃A2 c2,e=.returned (.tuple #[.slice A2 (m+16) c2,.int .i64 0])/\RdA (fun i=>i<w.heap.size) w' A2 (bvs (Ek ks u n p))/\Below w.heap.size w w'/\m+16<=c2/\c2<=maxLen:=by
 obtain⟨ib,cA,ek,ey,cY⟩:=info_parts Si.Co;obtain⟨B,eB⟩:=Ak (w.heap.size);have bq:=fun(w1:World) (h1:Rd w1 w1.heap.size A (bvs p))=>dmix ks u n A m c p w1 hu (by omega) hm (by omega) h1
 have ca:=fun(w1:World)=>dbig n w1 (by omega)
 obtain⟨L,eL⟩:=Ak (Gj ks u n p);have ck:bvs (w8 n)++bvs (mixL ks u n p)=bvs L:=by rw[eL,Gj,Bz]
 have ec:8+m=L.length:=by rw[eL,Cj,<-hm]
 have bn:=fun(w1:World) (A1:Option Addr) (c1:Nat) (h1:Rd w1 w1.heap.size A1 (bvs L))=>dtag ks u A1 (8+m) c1 L w1 hu ec (by omega) h1
 have cf:bvs L++bvs (w8 (tagL ks u L))=bvs (Ek ks u n p):=by rw[eL,<-Bz];rfl
 have cw:(bvs (mixL ks u n p)).length=m:=by rw[AG,Bx,hm]
 obtain⟨M,eM⟩:=Ak (bvs (mixL ks u n p));obtain⟨W8,eg⟩:=Ak (bvs (w8 n));obtain⟨T8,cp⟩:=Ak (bvs (w8 (tagL ks u L)));have oM:∀v∈M,v.oneCell'=true:=eM▸BA _;have oT:∀v∈T8,v.oneCell'=true:=cp▸BA _;have et:T8.length=8:=by rw[cp,AG,Dv]
 rw[<-eM] at bq ck cw;rw[<-eg] at ca ck;rw[<-cp] at bn cf;have eF:∃kl:List Value,kl.toArray=Be ks:=⟨_,rfl⟩;obtain⟨kl,cy⟩:=eF;have u32:(Tryz.prog.info? 29).map (·.size)=some kl.length:=by rw[<-List.size_toArray,cy];exact Km ks
 have ew:=Tryz.underlying29;rw[<-cy] at bq bn⊢;have q1:(n:Int)<=1099511627776:=by omega
 have q2:(0:Int)<=(n:Int):=by omega
 have q3:(m:Int)<=784:=by omega
 have q4:IntKind.u64.wrap (n:Int)=(n:Int):=by rw[IntKind.wrap_u64];omega
 have q5:(n:Int) % 18446744073709551616=(n:Int):=by omega
 have t1:decide ((u:Int)<0)=false:=by simp
 have t2:decide (255<(u:Int))=false:=by simp;omega
 have t3:decide ((n:Int)<0)=false:=by simp
 have t4:decide (1099511627776<(n:Int))=false:=by simp;omega
 have t5:decide (784<(m:Int))=false:=by simp;omega
 have EB:=I eB;have HR:=I (eB▸hr);clear hr;have cg:=I cj;clear cj;have cT:=I bq;clear bq;have cP:=I ca;clear ca;have cB:=I bn;clear bn;have eX:=I ck;clear ck;have cL:=I cf;clear cf;have eZ:=I cw;clear cw;have eR:=I et;clear et;have OM:=I oM;clear oM;have OT:=I oT;clear oT;have cu:(w.alloc (.cells kl.toArray 29)).drew.rangeAt w.heap.size 0 kl:=by have:=Si.Ae (Blk.new w 29 kl.toArray);simpa using this
 have eV:Hid (Below B w (w.alloc (.cells kl.toArray 29)).drew):=eB▸below_drewN ((Below.refl w.heap.size w).alloc Ag _) 1;have cn:Hid ((w.alloc (.cells kl.toArray 29)).drew.heap.size=B+1):=by show(w.alloc _).heap.size=_;simp [eB]
 have cb:=cP.o (w.alloc (.cells kl.toArray 29)).drew;clear hu hn hm ec eM eg cp cy eB eL;go_enter Tryz.func41,Tryz.ntmps41
 go_upto_region 3 with fail
 go_region_held3 (fun w'=>w'.rangeAt w.heap.size 0 kl) (first | exact cu | exact cx | exact cq | exact cr) (first
  |(rw[if_pos (by rfl)];refine Fu _ (.tmp 32) (.tmp 38) 34 (by rfl) (B+1) 5 ib _ 1 Tryz.underlying34 cA ek ey cY (by rfl) v1 8 W8 (by rfl) O2.o w2.heap.size A2 m c2 M (by rfl) eZ.o.symm R2.o OM.o (by have:=cg.o;unfold maxLen;omega) (by have:=cg.o;omega) (by have:=Z2.o;omega) ?_;intro v3 w3 av O ep;rw[eX.o] at av;have cr:w3.rangeAt w.heap.size 0 kl:=Gt cq (by have:=Z2.o;have:=EB.o;omega) O (fun hx=>by have:=Lg O2.o _ hx;have:=EB.o;omega);have cM:Below B w w3:=H2.o.grown O (by have:=Z2.o;omega) (fun k hk=>by have:=Lg O2.o _ hk;omega);obtain⟨A3,c3,fb,eT,eK,ef⟩:=Jy (S:=fun _=>False) av (fun _ _ x=>x);subst fb;have ct:=cB.o w3 A3 c3 ef.rd;have H3:=I cM;have O3:=I av;have Z3:=I (Nat.le_trans Z2.o O.size);clear av O ep cM eT eK ef)
  |(go_at_call 82;refine Calls.mono cb ?_;rintro e w1 ⟨v1,rfl,bB,aw⟩;clear cb;have cx:w1.rangeAt w.heap.size 0 kl:=Fc cu (by have:=cn.o;have:=EB.o;omega) aw;have cR:B+1<=w1.heap.size:=by{have:=cn.o;have:=aw.size;omega};have aw:=eV.o.trans (aw.mono (by have:=cn.o;omega));have cm:=cT.o w1 ((HR.o.below aw).more (by omega));have H1:=I aw;have O1:=I (bB.mono (base':=B+1) (by have:=cn.o;omega));have Z1:=I cR;clear aw bB cR)
  |(go_at_call 83;refine Calls.mono cm ?_;rintro e w2 ⟨v2,rfl,cd,bb⟩;clear cm;have cq:w2.rangeAt w.heap.size 0 kl:=Fc cx (by have:=Z1.o;have:=EB.o;omega) bb;have cX:B+1<=w2.heap.size:=Nat.le_trans Z1.o bb.size;have ei:=BU O1.o bb;obtain⟨A2,c2,eJ,eQ,cj,ea⟩:=Jy (S:=fun _=>False) cd (fun _ _ x=>x);subst eJ;have bb:=H1.o.trans (bb.mono (by have:=Z1.o;omega));have H2:=I bb;have O2:=I ei;have Z2:=I cX;have R2:=I ea.rd;clear bb cd cX ei eQ cj ea))
 all_goals (
  have fc:Hid (w3.rangeAt w.heap.size 0 kl.toArray.toList):=cr;have eE:Hid ((Tryz.prog.info? 29).map (·.size)=some kl.toArray.size):=by rw[List.size_toArray];exact u32
  clear cu cx cq cr u32 ew aw bb
  go_wp2_with (first
   |(refine Am (by rfl) 29 (.tmp 4) (by rfl) w.heap.size 0 (by rfl) kl.toArray _ fc.o Tryz.underlying29 (by rfl) eE.o ?_)
   |(go_at_call 84;refine Calls.mono ct ?_;rintro e w4 ⟨v4,rfl,cc,bz⟩;clear ct;have eo:=BU O3.o bz;have ev:=Nat.le_trans Z3.o bz.size;have bz:=H3.o.trans (bz.mono (by have:=Z3.o;omega));obtain⟨A4,c4,ez,eW,eN,eb⟩:=Jy (S:=fun _=>False) cc (fun _ _ x=>x);subst ez;have H4:=I bz;have O4:=I eo;have Z4:=I ev;have R4:=I eb.rd;clear bz cc eo ev eW eN eb)
   |(at_builtin;refine AI _ (by rfl) (.tmp 40) (.tmp 44) 34 (by rfl) (B+1) 5 ib _ 1 Tryz.underlying34 cA ek ey cY (by rfl) _ (8+m) (bvs L) (by rfl) O4.o w4.heap.size A4 8 c4 T8 (by rfl) eR.o.symm R4.o OT.o (by have:=cg.o;unfold maxLen;omega) (by have:=cg.o;omega) (by have:=Z4.o;omega) ?_;intro v5 w5 Z bx ed;rw[cL.o] at Z;have ej:=H4.o.grown bx (by have:=Z4.o;omega) (fun k hk=>by have:=Lg O4.o k hk;omega);obtain⟨A5,c5,eP,er,eu,cQ⟩:=Jy (S:=fun i=>i<w.heap.size) Z (fun k hk hx=>by have:=Lg Z k hk;have:=EB.o;omega);subst eP;have H5:=I ej;have R5:=I cQ;have C5:=I (And.intro er eu);clear Z bx ed ej er eu cQ)
   |fail)
  go_ret2
  exact⟨A5,c5,by show Ending.returned (.tuple #[.slice A5 (8+m+8) c5,.int .i64 0])=_;rw[show 8+m+8=m+16 by omega],R5.o,EB.o▸H5.o,by have:=C5.o.1;omega,C5.o.2⟩)
end Se
end Go.Proofs.YtfbnjcdhipplpaaGreat
