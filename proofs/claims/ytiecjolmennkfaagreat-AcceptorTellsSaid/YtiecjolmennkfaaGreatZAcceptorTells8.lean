import Derived.Test.YtiecjolmennkfaaGreatZAcceptorTells7
set_option maxHeartbeats 25600000
set_option maxRecDepth 100000
set_option linter.unusedVariables false
set_option linter.unusedSimpArgs false
namespace Go.Proofs.YtiecjolmennkfaaGreat
namespace Open
open Go.ChangeShapes Go.WideShapes Go.ChangeAt Go.RowKit Go.Deep Af
theorem WK {n:Int} (h:(Lit.int .u8 n).wf=true):∃b:UInt8,n=(b.toNat:Int):=by
 have M:0<=n/\n<=255:=by simpa [Lit.wf,IntKind.min,IntKind.max,IntKind.signed,IntKind.bits] using h
 refine⟨UInt8.ofNat n.toNat,?_⟩;have:(UInt8.ofNat n.toNat).toNat=n.toNat:=by simp;omega
 rw[this];omega
theorem TU {w:World} {x:Addr} {v:Value} (h:w.cell? x=some v):∃b o,x=⟨b,o,none⟩:=by
 obtain⟨b,o,s⟩:=x;have:=World.cell?_spot h;exact⟨b,o,by rw[show s=none from this]⟩
theorem Ox {w:World} {x:Addr} {xs:List Value} (h:∀i u,xs[i]? = some u->w.cell? (x.add i)=some u):Rd w w.heap.size (some x) xs:=by
 cases xs with
 |nil=>exact .inl rfl
 |cons a r=>
  have M:=h 0 a rfl;rw[show x.add 0=x by simp [Addr.add]] at M;obtain⟨b,o,rfl⟩:=TU M;exact .inr ⟨b,o,rfl,World.block_lt_of_cell? w _ M,fun i u hu=>by have:=h i u hu;rwa [addr_add] at this⟩
theorem Lp {k:Nat} {zs:List Int} (hk:k<=zs.length) (hw:∀n∈zs,(Lit.int .u8 n).wf=true):∃l:List UInt8,l.length=k/\∀i u,(bvs l)[i]? = some u->i<zs.length/\u=.int .u8 (zs.getD i 0):=by
 refine⟨(zs.take k).map fun n=>UInt8.ofNat n.toNat,by simp;omega,fun i u hu=>?_⟩;have hi:i<k:=by
  rcases Nat.lt_or_ge i k with g | g
  ·exact g
  ·rw[List.getElem?_eq_none (by simp [bvs];omega)] at hu;cases hu
 have M:i<zs.length:=by omega
 refine⟨M,?_⟩;obtain⟨b,O⟩:=WK (hw _ (List.getElem_mem M));simp only[bvs,List.map_map,List.getElem?_map,List.getElem?_take,if_pos hi,List.getElem?_eq_getElem M,Option.map_some,Function.comp] at hu;injection hu with hu;rw[<-hu,List.getD,List.getElem?_eq_getElem M,Option.getD_some,O];simp [bv]
section
variable {H:Type} {enc:TypeId×Value->H} {P:Program} {W:World}
theorem QW {t e:TypeId} {held:Bool} {fuel:Nat} {v:Value} {x:DataW H×List MemPlace} (ht:P.underlying t=some (.slice e)) (he:P.underlying e=some (.int .u8)) (hc:P.cellsOf e=1)
  (h:DataW.trod enc P W 0 (fun _=>true) held fuel t [v]=some x):∃A l c,v=.slice A (List.length l) c/\Rd W W.heap.size A (bvs l)/\l.length<=c/\c<=maxLen:=by
 rcases open_ints ht he hc h with⟨M,_⟩ | ⟨x,l,c,zs,M,_,hl,hm,hz,_,O,Z⟩
 ·injection M with M
  exact⟨none,[],0,M,.inl rfl,Nat.le_refl _,Nat.zero_le _⟩
 ·injection M with M
  simp only[if_true] at hz;obtain⟨bs,av,hb⟩:=Lp (k:=l) (zs:=zs) (by omega) Z;refine⟨some x,bs,c,by rw[av];exact M,Ox fun i u hu=>?_,by omega,hm⟩;obtain⟨h1,h2⟩:=hb i u hu;rw[O i h1,h2]
theorem QX {t e:TypeId} {v:Value} {d:DataW H} {ps:List MemPlace} (M:P.underlying t=some (.slice e)) (he:P.underlying e=some (.int .u8)) (Z:P.cellsOf e=1)
  (hv:∃A n c,v=.slice A n c) (h:DataW.Trod enc P W 0 (fun _=>true) true t v d ps):∃A l c,v=.slice A (List.length l) c/\Rd W W.heap.size A (bvs l)/\l.length<=c/\c<=maxLen:=by
 obtain⟨A,n,c,rfl⟩:=hv;obtain⟨fuel,O⟩:=h;exact QW M he Z O
end
end Open
namespace Se
open Go.RowKit Af
theorem WL (b:Nat) (u:Int) (p:Value) (w:World) (O:¬(0<=u/\u<=255)) :
  Calls Tryz.prog 88 #[.pointer (some ⟨b,0,none⟩),.int .i64 u,p] w fun e w'=>e=.returned (.tuple #[.slice none 0 0,.int .i64 1])/\w'=w:=by
 have M:=JA u false (by
  rw[eq_comm,Bool.and_eq_false_iff];rcases Int.lt_or_le u 0 with h | h
  ·exact .inl (by simp;omega)
  ·exact .inr (by simp;omega))
 clear O;go_enter Tryz.func88,Tryz.ntmps88
 go_wp2_with (go_at_call 123;refine Aj (M _) ?_;rintro Z hw;have hw:=hw.symm;subst hw;clear M)
 go_ret2
 exact⟨rfl,rfl⟩
def Dp (w w':World) (b:Nat) (h h':Option Nat):Prop:=Chg (Ow b h) w w'/\(h'=h\/(h=none/\∃g,h'=some g/\w.heap.size<=g))
theorem Dp.refl (w:World) (b:Nat) (h:Option Nat):Dp w w b h h:=⟨Chg.refl _ _,.inl rfl⟩
theorem Step.o {w w':World} {b g:Nat} {h:Option Nat} (hs:Step w w' b h g):Dp w w' b h (some g):=
 ⟨hs.1,hs.2.imp (fun e=>e.symm) (fun e=>⟨e.1,g,rfl,e.2⟩)⟩
theorem Dp.own {w w':World} {b:Nat} {h O:Option Nat} (hs:Dp w w' b h O):∀i,i<w.heap.size->Ow b O i->Ow b h i:=by
 intro i hi M;rcases hs.2 with rfl | ⟨_,g,rfl,Z⟩
 ·exact M
 ·rcases M with M | M
  ·exact .inl M
  ·injection M with M;omega
theorem Dp.trans {a w c:World} {b:Nat} {h O Z:Option Nat} (s1:Dp a w b h O) (s2:Dp w c b O Z):Dp a c b h Z:=by
 refine⟨s1.1.trans s2.1 s1.own,?_⟩;rcases s1.2 with rfl | ⟨e,g,rfl,M⟩
 ·rcases s2.2 with rfl | ⟨e,g,rfl,M⟩
  ·exact .inl rfl
  ·exact .inr ⟨e,g,rfl,Nat.le_trans s1.1.size M⟩
 ·rcases s2.2 with rfl | ⟨e2,_⟩
  ·exact .inr ⟨e,g,rfl,M⟩
  ·cases e2
theorem Dp.drewN {w w':World} {b:Nat} {h M:Option Nat} (hs:Dp w w' b h M) (k:Nat):Dp w (w'.drewN k) b h M:=⟨⟨hs.1.os,hs.1.tape,hs.1.output,hs.1.size,hs.1.block⟩,hs.2⟩
theorem FG (S:Nat->Prop) (w:World) (k:Nat):Chg S w (w.drewN k):=⟨rfl,rfl,rfl,Nat.le_refl _,fun _ _ _=>rfl⟩
theorem MN {l:List UInt8} {n:Nat} {P:Prop} (O:n=l.length) (h:8<=n) (M:bvs l = []):P:=by
 have:=AG l;rw[M] at this;simp at this;omega
theorem RdA.take {S:Nat->Prop} {w:World} {A:Option Addr} {l:List UInt8} (h:RdA S w A (bvs l)) (k:Nat):RdA S w A (bvs (l.take k)):=by
 rcases h with h | ⟨b,o,O,Z,M,h4⟩
 ·left
  have:l = []:=List.map_eq_nil_iff.1 h;rw[this,List.take_nil];rfl
 ·refine .inr ⟨b,o,O,Z,M,fun i u hu=>h4 i u ?_⟩
  unfold bvs at hu⊢;rw[List.map_take,List.getElem?_take] at hu
  split at hu
  ·exact hu
  ·cases hu
theorem RdA.drop {S:Nat->Prop} {w:World} {b o:Nat} {l:List UInt8} (h:RdA S w (some ⟨b,o,none⟩) (bvs l)) (k:Nat):RdA S w (some ⟨b,o+k,none⟩) (bvs (l.drop k)):=by
 rcases h with h | ⟨b',o',M,Z,O,h4⟩
 ·left
  have:l = []:=List.map_eq_nil_iff.1 h;rw[this,List.drop_nil];rfl
 ·injection M with M
  injection M with e1 e2;subst e1 e2;refine .inr ⟨b,o+k,rfl,Z,O,fun i u hu=>?_⟩;unfold bvs at hu;rw[List.map_drop,List.getElem?_drop] at hu;have:=h4 (k+i) u hu
  rwa [<-Nat.add_assoc] at this
theorem TV {ks:Nat->UInt8} {u:Nat} {l:List UInt8} (h:l.length<16\/800<l.length\/1099511627776<n8 l):isL ks u l=false:=by
 unfold isL;rcases h with h | h | h
 ·rw[show decide (16<=l.length)=false by simp;omega];simp
 ·rw[show decide (l.length<=800)=false by simp;omega];simp
 ·rw[show decide (n8 l<=1099511627776)=false by simp;omega];simp
theorem WM {ks:Nat->UInt8} {u:Nat} {l:List UInt8} (Z:16<=l.length) (M:l.length<=800) (O:n8 l<=1099511627776):isL ks u l=decide (tagL ks u (Ic l)=n8 (Hv l)):=by
 unfold isL;rw[show decide (16<=l.length)=true by simpa using Z,show decide (l.length<=800)=true by simpa using M,show decide (n8 l<=1099511627776)=true by simpa using O];simp
theorem Dp.aw {w w':World} {b n:Nat} {h M:Option Nat} (hs:Dp w w' b h M):Chg (Aw b h n) w w':=hs.1.mono fun i _ O=>.inl O
theorem Dp.rda {w w':World} {b:Nat} {h M:Option Nat} {A:Option Addr} {xs:List Value} (hs:Dp w w' b h M) (O:RdA (Ow b h) w A xs):RdA (Ow b M) w' A xs:=
 O.keep hs.1 (fun _ _ x=>x) hs.own
def ksOf (l:List UInt8) (i:Nat):UInt8:=l.getD i 0
def ksTo (l:List UInt8) (n:Nat) (i:Nat):UInt8:=if i<n then l.getD i 0 else 0
theorem WN (f:Nat->UInt8) (j:Nat) (M:j<32):(AQ f)[j]? = some (bv (f j)):=by
 rw[AQ,List.getElem?_toArray];simp [M]
theorem JC {f g:Nat->UInt8} (h:∀j,j<32->f j=g j):AQ f=AQ g:=by
 unfold AQ
 congr 1
 apply List.map_congr_left;intro j M;rw[h j (by simpa using M)]
theorem TW (l:List UInt8) (i:Nat) (hi:i<l.length):(AQ (ksTo l i)).setIfInBounds i (bv l[i])=AQ (ksTo l (i+1)):=by
 unfold AQ;rw[List.setIfInBounds_toArray]
 congr 1
 apply List.ext_getElem?;intro j;rw[List.getElem?_set,List.getElem?_map,List.getElem?_map]
 by_cases hj:i=j
 ·subst hj
  rcases Nat.lt_or_ge i 32 with h | h
  ·simp [h,ksTo,hi]
  ·simp [Nat.not_lt.2 h]
 ·rw[if_neg hj]
  rcases Nat.lt_or_ge j 32 with h | h
  ·have e:(j<i)=(j<i+1):=propext ⟨by omega,by omega⟩
   simp [h,ksTo,e]
  ·rw[List.getElem?_eq_none (by simpa using h)];rfl
theorem TX (l:List UInt8) (i:Nat) (h:i=32\/l.length<=i):AQ (ksTo l i)=AQ (ksOf l):=by
 refine JC fun j M=>?_
 unfold ksTo ksOf;rcases h with h | h
 ·rw[if_pos (by omega)]
 ·by_cases hji:j<i
  ·rw[if_pos hji]
  ·rw[if_neg hji,List.getD_eq_getElem?_getD,List.getElem?_eq_none (by omega)];rfl
theorem WO (ks:Nat->UInt8) (u n:Nat) (p:List UInt8) (M:n<=1099511627776) (hp:p.length<=784):isL ks u (Eo ks u n p)=true:=by
 have h:=Hf ks u n p M hp;unfold ZW at h
 split at h
 ·assumption
 ·cases h
theorem WQ (ks:Nat->UInt8) (u n:Nat) (p:List UInt8) (M:n<=1099511627776):mixL ks u (n8 (Eo ks u n p)) (midL (Eo ks u n p))=p:=by
 rw[PN,Ou ks u n p (by omega),TG]
theorem RdA.o {w w':World} {b g:Nat} {h:Option Nat} {A:Option Addr} {xs:List Value} {ks:Nat->UInt8} {a o r:Nat} (Z:RdA (Nw w.heap.size g) w' A xs) (O:Box w b ks h a o r):RdA (Ow b (some g)) w' A xs:=Z.mono fun i _ M=>by
 rcases M with M | M
 ·exact .inl (M▸O.lt)
 ·injection M with M;exact .inr M.symm
def k1:Nat->UInt8:=fun i=>if i=0 then 1 else 0
end Se
namespace SeL
open Go.RowKit Af Se
theorem ab {b g i:Nat} (h:Ow b (some g) i):i=b\/i=g:=by
 rcases h with h | h
 ·exact .inl h
 ·injection h with h;exact .inr h.symm
end SeL
namespace SpL
open Go.RowKit Af Sp
theorem IJ (K:Nat->Wd) (up lo:Wd) (i j:Nat) (Z:j<4):(Fb K up lo (8*i+j)).toNat=(Cc K (up,lo+BitVec.ofNat 32 i)).1.toNat / 256 ^ j % 256:=by
 have O:(8*i+j) / 8=i:=by omega
 have M:(8*i+j) % 8=j:=by omega
 rw[Fb,O,M,UInt8.toNat_ofNat',Kb];have hx:=Gu (Cc K (up,lo+BitVec.ofNat 32 i)).1;have h:j=0\/j=1\/j=2\/j=3:=by omega
 rcases h with rfl | rfl | rfl | rfl<;>simp only[Nat.reducePow]<;>omega
theorem IL (K:Nat->Wd) (up lo:Wd) (i j:Nat) (Z:j<4):(Fb K up lo (8*i+4+j)).toNat=(Cc K (up,lo+BitVec.ofNat 32 i)).2.toNat / 256 ^ j % 256:=by
 have O:(8*i+4+j) / 8=i:=by omega
 have M:(8*i+4+j) % 8=4+j:=by omega
 rw[Fb,O,M,UInt8.toNat_ofNat',Kb];have hx:=Gu (Cc K (up,lo+BitVec.ofNat 32 i)).1;have h:j=0\/j=1\/j=2\/j=3:=by omega
 rcases h with rfl | rfl | rfl | rfl<;>simp only[Nat.reducePow,Nat.reduceAdd]<;>omega
def JD (w:World) (g:Nat) (cs:Array Value):Prop:=w.rangeAt g 0 cs.toList
theorem JD.grown {w w':World} {g:Nat} {cs:Array Value} {row:Option Nat} (h:JD w g cs) (M:g<w.heap.size) (Z:w.grownBy w' row) (O:row≠some g):JD w' g cs:=fun j v hv=>
 (World.cell?_of_block (a:=⟨g,0+j,none⟩) (Z.block g M (fun e=>O e.symm))).trans (h j v hv)
theorem JD.below {w w':World} {g:Nat} {cs:Array Value} (h:JD w g cs) (M:g<w.heap.size) (O:Below w.heap.size w w'):JD w' g cs:=h.grown M (Dj O none) (by simp)
theorem Kc {P:Program} {ops:Array Oper} {rest:List Oper} {op:Oper} {a:Act} {w:World} {Q:Exit->Act->World->Prop} (M:op.guard=none) (ty:TypeId) (x:Operand) (O:op.op=.load ty x)
  (g:Nat) (Z:a.eval x=.pointer (some ⟨g,0,none⟩)) (cs:Array Value) (d:TypeDesc) (hc:JD w g cs)
  (hu:P.underlying ty=some d) (hd:d.isRow=true) (hi:(P.info? ty).map (·.size)=some cs.size)
  (h:wpList P ops Q rest (a.put op.dst (.agg cs)) w):wpList P ops Q (op :: rest) a w:=
 wpList_load_mid M ty x O g 0 Z cs.toList d hc hu hd (by rw[Array.length_toList];exact hi) (by simpa using h)
theorem Ff (b:Nat):∀(M:List Value) (o:Nat) (w:World),(w.setCells b o M).heap.size=w.heap.size
 | [],_,_=>rfl
 |v :: r,o,w=>by rw[World.setCells,Ff b r];simp [World.setCell]
theorem Yx (K:Nat->Wd):(AZ K).size=27:=by simp [AZ]
theorem dt (K:Nat->Wd):(Tryz.prog.info? 188).map (·.size)=some (AZ K).size:=by rw[Yx];kernel_rfl
def eight (x y:Wd):List Value:=[.int .u8 ((x.toNat:Int) % 256),.int .u8 ((x.toNat:Int) / 256 % 256),.int .u8 ((x.toNat:Int) / 65536 % 256),.int .u8 ((x.toNat:Int) / 16777216),
 .int .u8 ((y.toNat:Int) % 256),.int .u8 ((y.toNat:Int) / 256 % 256),.int .u8 ((y.toNat:Int) / 65536 % 256),.int .u8 ((y.toNat:Int) / 16777216)]
theorem QY (K:Nat->Wd) (up lo:Wd) (i:Nat):bvs (strm K up lo (8*i))++eight (Cc K (up,lo+BitVec.ofNat 32 i)).1 (Cc K (up,lo+BitVec.ofNat 32 i)).2=bvs (strm K up lo (8*(i+1))):=by
 have e:strm K up lo (8*(i+1))=strm K up lo (8*i)++[Fb K up lo (8*i+0),Fb K up lo (8*i+1),Fb K up lo (8*i+2),Fb K up lo (8*i+3),Fb K up lo (8*i+4+0),Fb K up lo (8*i+4+1),Fb K up lo (8*i+4+2),Fb K up lo (8*i+4+3)]:=by
  unfold strm;rw[show 8*(i+1)=8*i+1+1+1+1+1+1+1+1 by omega];simp [List.range_succ]
 rw[e,BC]
 congr 1
 have O:=IJ K up lo i 0 (by decide);have a1:=IJ K up lo i 1 (by decide);have M:=IJ K up lo i 2 (by decide);have a3:=IJ K up lo i 3 (by decide);have Z:=IL K up lo i 0 (by decide);have b1:=IL K up lo i 1 (by decide);have b2:=IL K up lo i 2 (by decide);have b3:=IL K up lo i 3 (by decide);have hx:=Gu (Cc K (up,lo+BitVec.ofNat 32 i)).1;have hy:=Gu (Cc K (up,lo+BitVec.ofNat 32 i)).2;rw[show((Cc K (up,lo+BitVec.ofNat 32 i)).1.toNat / 256 ^ 3 % 256)=(Cc K (up,lo+BitVec.ofNat 32 i)).1.toNat / 16777216 by simp only[Nat.reducePow];omega] at a3;rw[show((Cc K (up,lo+BitVec.ofNat 32 i)).2.toNat / 256 ^ 3 % 256)=(Cc K (up,lo+BitVec.ofNat 32 i)).2.toNat / 16777216 by simp only[Nat.reducePow];omega] at b3;simp only[bvs,List.map_cons,List.map_nil,bv,eight,O,a1,M,a3,Z,b1,b2,b3];simp
theorem Rd.take {w:World} {B:Nat} {A:Option Addr} {xs:List Value} (h:Rd w B A xs) (m:Nat):Rd w B A (xs.take m):=by
 rcases h with h | ⟨b,o,O,Z,M⟩
 ·rw[h];exact .inl (by simp)
 ·refine .inr ⟨b,o,O,Z,fun i u hu=>M i u ?_⟩
  rw[List.getElem?_take] at hu
  split at hu
  ·exact hu
  ·cases hu
theorem bt' {B:Nat} {a w c:World} (h:Below B a w) (hB:B+1<=w.heap.size) (k:Below w.heap.size w c):Below B a c:=Hp h (by omega) k
theorem ae (K:Nat->Wd) (N m:Nat) (n:Int) (w:World) (hN:N<18446744073709551616) (hm:m<=1000) (hn:m=n.toNat) :
  Calls Tryz.prog 76 #[.agg (AZ K),.int .u64 (N:Int),.int .i64 n] w fun e w'=>∃A c,e=.returned (.slice A m c)/\m<=c/\Rd w' w'.heap.size A (bvs (strm K (upW N) (loW N) m))/\Below w.heap.size w w':=by
 obtain⟨B,eB⟩:=Ak (w.heap.size);rw[<-eB];have EB:=I eB;have bz:=Yx K;have cb:=dt K;obtain⟨cs,bb⟩:=Ak (AZ K);rw[<-bb] at bz cb;have cB:=cN K;rw[<-bb] at cB;rw[<-bb];obtain⟨ib,cQ,cY,cL,cR⟩:=info_parts Cp;have ec:=I bz;clear bz;have cx:=I cb;clear cb;have eb:=I bb;clear bb;have NN:=I hN;clear hN;have HM:=I hm;clear hm;have HN:=I hn;clear hn;have cu:Blk (w.alloc (.cells cs 188)) B 188 cs:=Blk.new_of w B _ _ _ rfl eB.symm;have cT:=I cu;clear cu;go_enter Tryz.func76,Tryz.ntmps76
 go_wp2_with fail
 rw[<-eB];clear eB
 go_loopw [7,8] (fun cM iv wr=>∃i:Nat,8*i<m+8/\iv=.int .i64 (i:Int)/\Blk wr B 188 cs/\Below B w wr/\B+1<=wr.heap.size/\wr.ownsRow (B+1) 5 1 cM (8*i) (bvs (strm K (upW N) (loW N) (8*i)))) (fun _ iv _=>m+8 - 8*(intOf iv).toNat)
 case atStart=>exact⟨0,by omega,rfl,cT.o,EB.o▸Ah.alloc Ag _,by have:=EB.o;simp;omega,rfl,.inl ⟨rfl,rfl⟩⟩
 case round=>
  obtain⟨i,hi,rfl,hB,hb,ck,bn⟩:=hrel;have HB:=I hB;clear hB;have bx:=I hb;clear hb;have HS:=I ck;clear ck;have hlen:∃A cap,u7=.slice A (8*i) cap/\8*i<=cap/\(∀n k,(Value.slice A n cap).ownBlock=some k->B+1<=k):=by
   obtain⟨_,⟨h1,h2⟩ | ⟨g,cap,cur,h1,hg,_,O,_⟩⟩:=bn
   ·exact⟨none,0,by rw[h1,h2],by omega,fun n k h=>by simp [Value.ownBlock] at h⟩
   ·exact⟨_,cap,h1,O,fun n k h=>by simp only[Value.ownBlock] at h;injection h with h;omega⟩
  obtain⟨A,cap,rfl,O,cg⟩:=hlen;have cp:=I cg;clear cg;have HO:=I bn;clear bn;obtain⟨o,eo⟩:=Ak (8*i);rw[<-eo];have EO:=I eo;clear eo
  by_cases hlt:(o:Int)<n
  ·have ed:(0:Int)<=(i:Int):=by omega
   have ef:(i:Int)<=200:=by have:=EO.o;have:=HM.o;have:=HN.o;omega
   have HH:=I hi;clear hi
   go_wp2_with (first | (refine Kc (by rfl) 188 (.tmp 3) (by rfl) B (by rfl) cs _ (Ad HB.o) Tryz.underlying188 (by rfl) cx.o ?_) | fail)
   have cj:(N:Int) / 4294967296 % 4294967296=((upW N).toNat:Int):=by rw[upW,BitVec.toNat_ofNat];have:=NN.o;omega
   have bs:((N:Int)+(i:Int)) % 4294967296=((loW N+BitVec.ofNat 32 i).toNat:Int):=by rw[loW,BitVec.toNat_add,BitVec.toNat_ofNat,BitVec.toNat_ofNat];omega
   rw[cj,bs];obtain⟨p,ep⟩:=Ak (Cc K (upW N,loW N+BitVec.ofNat 32 i));obtain⟨x0,ex⟩:=Ak (p.1);obtain⟨y0,ey⟩:=Ak (p.2);have c4:=cB (upW N) (loW N+BitVec.ofNat 32 i) wr;rw[<-ep,<-ex,<-ey] at c4;have cw:bvs (strm K (upW N) (loW N) (8*i))++eight x0 y0=bvs (strm K (upW N) (loW N) (8*(i+1))):=by rw[ex,ey,ep];exact QY K _ _ i
   have cZ:=I cw;clear cw;clear ep ex ey cj bs;refine Aj c4 ?_;rintro w5 aw;have ca:=BU HO.o aw;rw[<-EO.o] at ca;have av:=cZ.o;rw[<-EO.o] at av;have cP:=I av;clear av;have cn:=HB.o.below aw;have cm:=bt' bx.o HS.o aw;have ct:=Nat.le_trans HS.o aw.size;have cy:=I ca;clear ca;have ea:=I cn;clear cn;have cA:=I cm;clear cm;have bq:=I ct;clear ct;clear aw c4
   go_wp2_with (first | (at_builtin;refine AI _ (by rfl) (.tmp 30) (.tmp 53) 22 (by rfl) (B+1) 5 ib _ 1 Tryz.underlying22 cQ cY cL cR (by rfl) (.slice A o cap) o (bvs (strm K (upW N) (loW N) o)) (by rfl) (Fe cy.o (by rfl)) (w5.heap.size+1) (some ⟨w5.heap.size,0,none⟩) 8 8 (eight x0 y0) (by rfl) (by rfl) (Hc w5 5 _ (eight x0 y0) (by rfl) _ rfl) (by simp [eight,Value.oneCell']) (by have:=EO.o;unfold maxLen;omega) (by have:=EO.o;omega) (by have:=bq.o;simp;omega) ?_;intro v6 w6 Z M cq) | fail)
   have cf:=Blk.grown (Blk.alloc ea.o _) M (fun h=>by have:=cp.o _ _ h;omega);have cd:=Below.grown (cA.o.alloc (by have:=bq.o;omega) _) M (by have:=bq.o;simp;omega) (fun k hk=>by have:=cp.o _ _ hk;omega);have cr:=M.size;have cc:=Z;rw[cP.o,show o+8=8*(i+1) by have:=EO.o;omega] at cc;have B6:=I cf;clear cf;have B7:=I cd;clear cd;have S7:=I cr;clear cr;have O7:=I cc;clear cc;clear Z M cq
   go_wp2_with fail
   go_roundw
   case rel=>
    exact⟨i+1,by have:=EO.o;have:=HN.o;omega,by go_num,B6.o,B7.o,by have h1:=S7.o;have:=bq.o;simp at h1;omega,O7.o⟩
   case measure=>have:=EO.o;have:=HN.o;simp [intOf];omega
  ·have eg:n<=(o:Int):=by omega
   have e1:decide ((o:Int)<n)=false:=by simp;omega
   have cX:n<=(cap:Int):=by have:=EO.o;omega
   have HC:=I O;clear O
   by_cases h0:n<0
   ·go_wp2_with fail
    go_ret;have bB:m=0:=by have:=HN.o;omega
    refine⟨A,cap,by rw[bB];first | rfl | exact congrArg (fun k=>Ending.returned (Value.slice A k cap)) (show(max n 0).toNat=0 by omega),by rw[bB];exact Nat.zero_le _,?_,bx.o⟩;rw[bB];exact .inl rfl
   ·have h1:(0:Int)<=n:=by omega
    go_wp2_with fail
    go_ret;refine⟨A,cap,by rw[HN.o];first | rfl | exact congrArg (fun k=>Ending.returned (Value.slice A k cap)) (show(max n 0).toNat=n.toNat by omega),by have:=HN.o;omega,?_,bx.o⟩;have hr:=Rd.of_own HO.o;have ht:bvs (strm K (upW N) (loW N) m)=(bvs (strm K (upW N) (loW N) (8*i))).take m:=by
     rw[<-Tl K (upW N) (loW N) m (8*i) (by have:=EO.o;have:=HN.o;omega)];simp [bvs,List.map_take]
    rw[ht];exact Rd.take hr m
end SpL
namespace Se
open Go.RowKit Af
def hk (f:Nat->UInt8) (i j:Nat):UInt8:=if j<i then f j else 0
theorem FU (f:Nat->UInt8) (j:Nat) (M:j<16):(Sp.AR f)[j]? = some (bv (f j)):=Sp.FU f j M
theorem Yy (f:Nat->UInt8) (i:Nat) (hi:i<16):(Sp.AR (hk f i)).setIfInBounds i (bv (f i))=Sp.AR (hk f (i+1)):=by
 unfold Sp.AR;rw[List.setIfInBounds_toArray]
 congr 1
 apply List.ext_getElem?;intro j;rw[List.getElem?_set,List.getElem?_map,List.getElem?_map]
 by_cases hj:i=j
 ·subst hj;simp [hi,hk]
 ·rw[if_neg hj]
  rcases Nat.lt_or_ge j 16 with h | h
  ·have e:(j<i)=(j<i+1):=propext ⟨by omega,by omega⟩
   simp [h,hk,e]
  ·rw[List.getElem?_eq_none (by simpa using h)];rfl
theorem du (f:Nat->UInt8):Sp.AR (hk f 16)=Sp.AR f:=Sp.Ju fun j M=>if_pos M
theorem TY (f:Nat->UInt8):Sp.AR (hk f 0)=Sp.AR (fun _=>0):=Sp.Ju fun j M=>rfl
theorem key32_at' (f:Nat->UInt8) (j:Nat) (M:j<32):(AQ f)[j]? = some (bv (f j)):=by
 rw[AQ,List.getElem?_toArray];simp [M]
theorem Oy {P:Program} {fn:Func} {tmps:Array Value} {w:World} {v1 v2:Value} (t1 t2:Nat) (Z M:TypeId) (a1 a2:Addr) (O:fn.results=#[.cell t1 Z,.cell t2 M]) (bb:tmps.getD t1 undef=.pointer (some a1)) (av:tmps.getD t2 undef=.pointer (some a2)) (aw:(loadVar Z a1).run P w=.ok v1 w) (bn:(loadVar M a2).run P w=.ok v2 w) :
  (results fn tmps).run P w=.ok (.tuple #[v1,v2]) w:=by
 have h1:tmps[t1]?.getD undef=.pointer (some a1):=by simpa using bb
 have h2:tmps[t2]?.getD undef=.pointer (some a2):=by simpa using av
 simp [results,O,h1,h2,asAddr,aw,bn]
theorem TZ (ks:Nat->UInt8) (w:World):Calls Tryz.prog 75 #[.agg (AQ ks)] w fun e w'=>e=.returned (.tuple #[.agg (Sp.AR ks),.agg (Sp.AR (k2 ks))])/\Below w.heap.size w w':=by
 obtain⟨B,eB⟩:=Ak (w.heap.size);have EB:=I eB;have bn:Sp.AR (fun _=>0)=#[.int .u8 0,.int .u8 0,.int .u8 0,.int .u8 0,.int .u8 0,.int .u8 0,.int .u8 0,.int .u8 0,.int .u8 0,.int .u8 0,.int .u8 0,.int .u8 0,.int .u8 0,.int .u8 0,.int .u8 0,.int .u8 0]:=rfl;have HZ:=I bn;clear bn;obtain⟨kc,bx⟩:=Ak (AQ ks);rw[<-bx];have EK:=I bx;clear bx;go_enter Tryz.func75,Tryz.ntmps75
 go_wp2_with fail
 rw[<-eB];clear eB
 go_loopw [6] (fun iv wr=>∃i:Nat,i<=16/\iv=.int .i64 (i:Int)/\Below B w wr/\wr.heap.size=B+5/\Blk wr B 24 kc/\Blk wr (B+1) 166 (Sp.AR (fun _=>0))/\Blk wr (B+2) 166 (Sp.AR (fun _=>0))/\Blk wr (B+3) 166 (Sp.AR (hk ks i))/\Blk wr (B+4) 166 (Sp.AR (hk (k2 ks) i))) (fun iv _=>16 - (intOf iv).toNat)
 case atStart=>
  have z1:Blk (w.alloc (.cells kc 24)) B 24 kc:=EB.o▸Blk.new w _ _;have q0:(w.alloc (.cells kc 24)).heap.size=B+1:=by rw[EB.o];simp
  have b0:Below B w (w.alloc (.cells kc 24)):=EB.o▸(Below.refl w.heap.size w).alloc Ag _;have key:∀(w1:World) (n:Nat),w1.heap.size=n->Blk (w1.alloc (.cells (Sp.AR fun _=>0) 166)) n 166 (Sp.AR fun _=>0)/\(w1.alloc (.cells (Sp.AR fun _=>0) 166)).heap.size=n+1:=fun w1 n h=>⟨h▸Blk.new w1 _ _,by rw[<-h];simp⟩
  obtain⟨k1,q1⟩:=key _ _ q0;obtain⟨ca,q2⟩:=key _ _ q1;obtain⟨k3,q3⟩:=key _ _ q2;obtain⟨k4,q4⟩:=key _ _ q3;refine⟨0,by decide,rfl,?_,q4,(((z1.alloc _).alloc _).alloc _).alloc _,((k1.alloc _).alloc _).alloc _,(ca.alloc _).alloc _,?_,?_⟩
  ·exact(((b0.alloc (by have:=EB.o;simp;omega) _).alloc (by have:=EB.o;simp;omega) _).alloc (by have:=EB.o;simp;omega) _).alloc (by have:=EB.o;simp;omega) _
  ·rw[TY];exact k3.alloc _
  ·rw[TY];exact k4
 case round=>
  obtain⟨i,hi,rfl,hb,bB,h0,h1,h2,h3,h4⟩:=hrel;have HB:=I hb;clear hb;have HS:=I bB;clear bB
  by_cases hx:i=16
  ·subst hx
   rw[du] at h3 h4;obtain⟨cs,aw⟩:=Ak ((List.range 16).map (fun j=>bv (ks j)));obtain⟨ds,av⟩:=Ak ((List.range 16).map (fun j=>bv (k2 ks j)));have n3:cs.length=16:=by rw[aw];simp
   have n4:ds.length=16:=by rw[av];simp
   have o3:∀v∈cs,v.oneCell'=true:=by rw[aw];intro v hv;obtain⟨j,_,rfl⟩:=List.mem_map.1 hv;rfl
   have o4:∀v∈ds,v.oneCell'=true:=by rw[av];intro v hv;obtain⟨j,_,rfl⟩:=List.mem_map.1 hv;rfl
   have h3:Blk wr (B+3) 166 cs.toArray:=by rw[aw];exact h3
   have h4:Blk wr (B+4) 166 ds.toArray:=by rw[av];exact h4
   have r3:wr.drew.rangeAt (B+1+1+1) 0 cs:=by have:=Si.Ad h3;simpa using this
   have r4:wr.drew.rangeAt (B+1+1+1+1) 0 ds:=by have:=Si.Ad h4;simpa using this
   have t1:wr.drew.there (B+1) 0 16:=by have:=Si.Ar h1;rwa [Be] at this
   have t2:wr.drew.there (B+1+1) 0 16:=by have:=Si.Ar h2;rwa [Be] at this
   have u3:(Tryz.prog.info? 166).map (·.size)=some cs.length:=by rw[n3];kernel_rfl
   have u4:(Tryz.prog.info? 166).map (·.size)=some ds.length:=by rw[n4];kernel_rfl
   have Z:=Tryz.underlying166;have EC:=I aw;clear aw;have ED:=I av;clear av;clear h0 h1 h2 h3 h4
   go_wp2_with fail
   refine wp_region_held_drew (S:=fun w'=>w'.rangeAt (B+1+1+1) 0 cs/\w'.rangeAt (B+1+1+1+1) 0 ds/\w'.there (B+1) 0 16/\w'.there (B+1+1) 0 16) (by kernel_rfl) ⟨r3,r4,t1,t2⟩ (fun O=>?_);refine wpAnyH_take (i:=0) (v:=.agg cs.toArray) rfl (by kernel_rfl) (by kernel_rfl) (by kernel_rfl) (fun _ _ _ h=>h) (yieldsIf_load_mid (by rfl) 166 (.tmp 4) rfl (B+1+1+1) 0 rfl cs _ (fun _ h=>h.1) Z rfl u3) O ?_;refine wpAnyH_take (i:=1) (v:=.agg ds.toArray) rfl (by kernel_rfl) (by kernel_rfl) (by kernel_rfl) (fun _ _ _ h=>h) (yieldsIf_load_mid (by rfl) 166 (.tmp 5) rfl (B+1+1+1+1) 0 rfl ds _ (fun _ h=>h.2.1) Z rfl u4) O ?_;refine wpAnyH_ready (rs:=[2]) (by kernel_rfl) (by simp) ?_;refine AllReadyH.cons (o:=_) rfl (fun K hK=>?_) AllReadyH.nil;rw[if_pos (by rfl)];refine wp_store_mid 166 _ _ rfl (B+1) 0 cs.toArray rfl rfl (by rw[List.size_toArray,n3];exact O.2.2.1) (by rw[List.size_toArray];exact u3) (all_oneCell_toArray o3) ?_;refine hK.o _ _ ⟨World.rangeAt_setCells_apart O.1 _ _ _ (.inl (by omega)),World.rangeAt_setCells_apart O.2.1 _ _ _ (.inl (by omega)),World.there_setCells O.2.2.1 _ _ _,World.there_setCells O.2.2.2 _ _ _⟩ (fun M=>?_);clear hK K;refine wpAnyH_ready (rs:=[3]) (by kernel_rfl) (by simp) ?_;refine AllReadyH.cons (o:=_) rfl (fun K hK=>?_) AllReadyH.nil;rw[if_pos (by rfl)];refine wp_store_mid 166 _ _ rfl (B+1+1) 0 ds.toArray rfl rfl (by rw[List.size_toArray,n4];exact M.2.2.2) (by rw[List.size_toArray];exact u4) (all_oneCell_toArray o4) ?_;refine hK.o _ _ ⟨World.rangeAt_setCells_apart M.1 _ _ _ (.inl (by omega)),World.rangeAt_setCells_apart M.2.1 _ _ _ (.inl (by omega)),World.there_setCells M.2.2.1 _ _ _,World.there_setCells M.2.2.2 _ _ _⟩ (fun bb=>?_);clear hK K;refine wpAnyH_done (by kernel_rfl) ?_ _;have bq:((wr.drew.setCells (B+1) 0 cs).setCells (B+1+1) 0 ds).rangeAt (B+1) 0 cs:=World.rangeAt_setCells_apart (World.rangeAt_setCells_same _ _ _ _ (by rw[n3];exact t1)) _ _ _ (.inl (by omega));have bz:((wr.drew.setCells (B+1) 0 cs).setCells (B+1+1) 0 ds).rangeAt (B+1+1) 0 ds:=World.rangeAt_setCells_same _ _ _ _ (by rw[n4];exact M.2.2.2);have bs:Below B w ((wr.drew.setCells (B+1) 0 cs).setCells (B+1+1) 0 ds):=Si.Br _ (by omega) _ _ _ (Si.Br _ (by omega) _ _ _ (below_drewN HB.o 1));change Exit.then _ _ Exit.normal _ ((wr.drew.setCells (B+1) 0 cs).setCells (B+1+1) 0 ds)
   generalize (wr.drew.setCells (B+1) 0 cs).setCells (B+1+1) 0 ds=W3 at bq bz bs⊢;clear O M bb r3 r4 t1 t2;have q1:=run_loadVar_mid (P:=Tryz.prog) W3 (B+1) 0 166 cs _ bq Z rfl u3;have q2:=run_loadVar_mid (P:=Tryz.prog) W3 (B+1+1) 0 166 ds _ bz Z rfl u4;have Q1:=I q1;clear q1;have Q2:=I q2;clear q2;have BW:=I bs;clear bs;clear bq bz u3 u4 Z n3 n4 o3 o4 h3 h4
   go_wp2_with fail
   refine bodyPost_ret (v:=.tuple #[.agg cs.toArray,.agg ds.toArray]) (Oy 2 3 166 166 ⟨B+1,0,none⟩ ⟨B+1+1,0,none⟩ Tryz.results75 (by rfl) (by rfl) Q1.o Q2.o) (by rfl) ?_;exact⟨by rw[EC.o,ED.o];rfl,EB.o▸BW.o⟩
  ·have e1:(i:Int)<16:=by omega
   have e2:(0:Int)<=(i:Int):=by omega
   have e3:i<16:=by omega
   have e4:(16:Int)+(i:Int)<32:=by omega
   have e5:(0:Int)<=(16:Int)+(i:Int):=by omega
   have e6:16+i<32:=by omega
   have e7:i<32:=by omega
   obtain⟨x,ex⟩:=Ak (ks i);obtain⟨y,ey⟩:=Ak (ks (16+i));have g0:wr.cell? ⟨B,i,none⟩=some (.int .u8 (x.toNat:Int)):=by rw[h0.cell,EK.o,key32_at' ks i e7,ex];rfl
   have g1:wr.cell? ⟨B,16+i,none⟩=some (.int .u8 (y.toNat:Int)):=by rw[h0.cell,EK.o,key32_at' ks (16+i) e6,ey];rfl
   have f3:=h3.frozen;have f4:=h4.frozen;have c3:=h3.cell i;have c4:=h4.cell i;rw[FU _ _ e3] at c3 c4;simp only[bv] at c3 c4;have H0:=I h0;clear h0;have H1:=I h1;clear h1;have H2:=I h2;clear h2;have H3:=I h3;clear h3;have H4:=I h4;clear h4;have hw:IntKind.i64.wrap ((16:Int)+(i:Int))=(16:Int)+(i:Int):=by rw[IntKind.wrap_i64];omega
   have EX:=I ex;clear ex;have EY:=I ey;clear ey;have HX:=I hx;clear hx;have HI:=I hi;clear hi
   go_wp2_with fail
   go_region
   all_goals go_wp2_with fail
   all_goals
    go_roundw
    case rel=>
     have s3:=H3.o.set i (bv x);rw[EX.o,Yy ks i e3,<-EX.o] at s3;have s4:=(Si.Blk.far H4.o ⟨B+3,i,none⟩ (bv x) (by simp)).set i (bv y);rw[EY.o,show ks (16+i)=k2 ks i from rfl,Yy (k2 ks) i e3] at s4;refine⟨i+1,by omega,by go_num,?_,?_,?_,?_,?_,?_,?_⟩
     ·exact below_drewN (Si.AS (Si.AS HB.o (by simp;omega) _) (by simp;omega) _) 1
     ·simpa [World.setCell] using HS.o
     ·exact Si.Blk.far (Si.Blk.far H0.o ⟨B+3,i,none⟩ _ (show B+3≠B by omega)) ⟨B+4,i,none⟩ _ (show B+4≠B by omega)
     ·exact Si.Blk.far (Si.Blk.far H1.o ⟨B+3,i,none⟩ _ (show B+3≠B+1 by omega)) ⟨B+4,i,none⟩ _ (show B+4≠B+1 by omega)
     ·exact Si.Blk.far (Si.Blk.far H2.o ⟨B+3,i,none⟩ _ (show B+3≠B+2 by omega)) ⟨B+4,i,none⟩ _ (show B+4≠B+2 by omega)
     ·exact Si.Blk.far s3 ⟨B+4,i,none⟩ _ (show B+4≠B+3 by omega)
     ·exact(by have e:=s4;rw[show bv (k2 ks i)=bv y from by rw[EY.o];rfl] at e;exact e)
    case measure=>simp [intOf];omega
theorem dbig (N:Nat) (w:World) (hN:N<18446744073709551616) :
  Calls Tryz.prog 46 #[.int .u64 (N:Int)] w fun e w'=>∃v,e=.returned v/\w'.ownsRow w.heap.size 5 1 v 8 (bvs (w8 N))/\Below w.heap.size w w':=by
 obtain⟨ib,ca,bz,bx,bs⟩:=info_parts Si.Cp;obtain⟨B,eB⟩:=Ak (w.heap.size);have EB:=I eB;clear eB;have HN:=I hN;clear hN;go_enter Tryz.func46,Tryz.ntmps46
 go_wp2_with fail
 go_loopw [3,4] (fun bB iv wr=>∃j:Nat,j<=8/\iv=.int .i64 (7 - (j:Int))/\wr.ownsRow B 5 1 bB j (laid [] N j)/\Below B w wr) (fun _ iv _=>(intOf iv+1).toNat)
 case atStart=>exact⟨0,by decide,rfl,⟨rfl,.inl ⟨rfl,rfl⟩⟩,Below.refl _ _⟩
 case round=>
  obtain⟨j,hj,rfl,av,bn⟩:=hrel;have HR:=I av;clear av;have HW:=I bn;clear bn
  by_cases hx:j=8
  ·subst hx
   go_wp2_with fail
   go_ret;exact⟨_,rfl,by have:=HR.o;rw[dk,List.nil_append] at this;exact EB.o▸this,EB.o▸HW.o⟩
  ·obtain⟨k,ek⟩:∃k:Nat,k=7 - j:=⟨_,rfl⟩
   obtain⟨m,em⟩:∃m:Nat,m=56 - 8*j:=⟨_,rfl⟩;have hk:(7:Int) - (j:Int)=(k:Int):=by omega
   rw[hk];have bb:j<8:=by omega
   have cc:(8:Int)*(k:Int)=(m:Int):=by omega
   have cd:m<64:=by omega
   have ck:(m:Int)<64:=by omega
   have cb:(0:Int)<=(m:Int):=by omega
   have cg:min m 64=m:=by omega
   have cf:(0:Int)<=(k:Int):=by omega
   have cj:(k:Int)<=7:=by omega
   have aw:=TQ [] N j bb;have hv:bv (UInt8.ofNat (N / 2 ^ (56 - 8*j)))=.int .u8 ((N:Int) / 2 ^ m % 256):=by
    unfold bv;rw[UInt8.toNat_ofNat',<-em];congr 1
   rw[hv] at aw;have NX:=I aw;clear aw;have EM:=I em;clear em;have EK:=I ek;clear ek;have HX:=I hx;clear hx;have HJ:=I hj;clear hj;have Z:=I bb;clear bb;clear hk hv
   go_wp2_with (first | (at_builtin;refine AI _ (by rfl) (.tmp 9) (.tmp 16) 22 (by rfl) B 5 ib _ 1 Tryz.underlying22 ca bz bx bs (by rfl) _ j (laid [] N j) (by rfl) (Fe HR.o (by rfl)) (wr.heap.size+1) (some ⟨wr.heap.size,0,none⟩) 1 1 [.int .u8 ((N:Int) / 2 ^ m % 256)] (by rfl) (by rfl) (Si.Hc wr 5 _ [.int .u8 ((N:Int) / 2 ^ m % 256)] (by rfl) _ rfl) (by simp [Value.oneCell']) (by have:=Z.o;unfold maxLen;omega) (by have:=Z.o;omega) (by have:=EB.o;have:=HW.o.size;simp;omega) ?_;intro v6 w6 O M bq;have O6:=I O;have G6:=I M;clear O M bq) | fail)
   go_roundw
   case rel=>
    refine⟨j+1,by have:=Z.o;omega,?_,by rw[<-NX.o];exact O6.o,?_⟩
    ·exact congrArg (Value.int .i64) (by have:=EK.o;have:=Z.o;omega)
    ·exact(HW.o.alloc (by have:=EB.o;have:=HW.o.size;omega) _).grown G6.o (by have:=EB.o;have:=HW.o.size;simp;omega) (fun q hq=>(HR.o.lt q hq).1)
   case measure=>simp [intOf]
theorem Ua (ks:Nat->UInt8) (u n:Nat) (p:List UInt8) (i:Nat) (h:i<p.length) (M:i<(DA ks u n p.length).length):bvs ((mixL ks u n p).take i)++[bv (p[i] ^^^ (DA ks u n p.length)[i])]=bvs ((mixL ks u n p).take (i+1)):=by
 rw[List.take_add_one,TH ks u n p i h M,BC];rfl
theorem dw (y x:UInt8):bits .xor .u8 (y.toNat:Int) (x.toNat:Int)=((y ^^^ x).toNat:Int):=by
 rw[u8_xor_nat _ _ y.toNat_lt x.toNat_lt,UInt8.toNat_xor]
def twoW (w1:World) (z:Array Value) (t:TypeId) (cs ds:Array Value):World:=(((w1.alloc (.cells z t)).alloc (.cells z t)).setCells w1.heap.size 0 cs.toList).setCells (w1.heap.size+1) 0 ds.toList
theorem Ks (w1:World) (z:Array Value) (t:TypeId) (cs ds:Array Value) (O:z.size=cs.size) (Z:z.size=ds.size) :
  (twoW w1 z t cs ds).rangeAt w1.heap.size 0 cs.toList/\(twoW w1 z t cs ds).rangeAt (w1.heap.size+1) 0 ds.toList/\Below w1.heap.size w1 (twoW w1 z t cs ds)/\w1.heap.size+2<=(twoW w1 z t cs ds).heap.size:=by
 have M:((w1.alloc (.cells z t)).alloc (.cells z t)).there w1.heap.size 0 cs.toList.length:=by
  have:=World.there_alloc (Si.Ar (Blk.new w1 t z)) (.cells z t)
  rwa [O,<-Array.length_toList] at this
 have t2:((w1.alloc (.cells z t)).alloc (.cells z t)).there (w1.heap.size+1) 0 ds.toList.length:=by
  have:=Si.Ar (Si.Blk.new_of (w1.alloc (.cells z t)) (w1.heap.size+1) t z z rfl (by simp))
  rwa [Z,<-Array.length_toList] at this
 refine⟨World.rangeAt_setCells_apart (World.rangeAt_setCells_same _ _ _ _ M) _ _ _ (.inl (by omega)),World.rangeAt_setCells_same _ _ _ _ (World.there_setCells t2 _ _ _),?_,?_⟩
 ·exact Si.Br _ (by omega) _ _ _ (Si.Br _ Ag _ _ _ ((Ah.alloc Ag _).alloc (by simp) _))
 ·unfold twoW;rw[SpL.Ff,SpL.Ff];simp
theorem dmix (ks:Nat->UInt8) (u n:Nat) (A:Option Addr) (m c:Nat) (p:List UInt8) (w:World) (hu:u<=255) (hn:n<18446744073709551616) (hm:m=p.length) (cr:m<=1000) (hr:Rd w w.heap.size A (bvs p)) :
  Calls Tryz.prog 47 #[.agg (AQ ks),.int .i64 (u:Int),.int .u64 (n:Int),.slice A m c] w fun e w'=>∃v,e=.returned v/\w'.ownsRow w.heap.size 5 1 v m (bvs (mixL ks u n p))/\Below w.heap.size w w':=by
 obtain⟨ib,eF,eL,et,eK⟩:=info_parts Si.Cp;obtain⟨B,eB⟩:=Ak (w.heap.size);obtain⟨N,eN⟩:=Ak (sn u n);have ct:=TS u n hu;have Z:=dp u n hu;have O:=dq u n;rw[<-eN] at ct Z O;have eV:(u:Int) % 18446744073709551616=(u:Int):=by omega
 have cc:Sp.strm (Sp.kw ks) (Sp.upW N) (Sp.loW N) m=DA ks u n m:=by rw[eN];rfl
 have ch:=fun w1=>TZ ks w1
 have cw:=fun w1=>Sp.cJ ks w1
 have bz:=fun w1=>SpL.ae (Sp.kw ks) N m (m:Int) w1 O cr (by simp)
 rw[cc] at bz;have i32:=Hg ks;have i16:=Jz ks;have bq:=Jz (k2 ks);have cy:=TP ks;have bn:=TP (k2 ks);have cq:=Be ks;have bb:=Be (k2 ks);obtain⟨kc,ei⟩:=Ak (AQ ks);obtain⟨cs,cL⟩:=Ak (Sp.AR ks);obtain⟨ds,cB⟩:=Ak (Sp.AR (k2 ks));obtain⟨xs,cM⟩:=Ak (Sp.AZ (Sp.kw ks));rw[<-ei] at ch i32⊢;rw[<-cL] at ch cw i16 cy cq;rw[<-cB] at ch bq bn bb;rw[<-cM] at cw bz;have hz:Sp.AR (fun _=>0)=#[.int .u8 0,.int .u8 0,.int .u8 0,.int .u8 0,.int .u8 0,.int .u8 0,.int .u8 0,.int .u8 0,.int .u8 0,.int .u8 0,.int .u8 0,.int .u8 0,.int .u8 0,.int .u8 0,.int .u8 0,.int .u8 0]:=rfl;have EB:=I eB;have HR:=I (eB▸hr);clear hr;have HM:=I hm;clear hm;have q3:(m:Int)<=1000:=by omega
 have ed:=I cr;clear cr;have ep:=I i32;clear i32;have cQ:=I i16;clear i16;have cT:=I bq;clear bq;have eJ:=I cy;clear cy;have eg:=I bn;clear bn;have eo:=I cq;clear cq;have cg:=I bb;clear bb;have HZ:=I hz;clear hz;have eu:=I bz;clear bz;have ew:=I ct;clear ct;have cY:=I Z;have ef:Hid (((n:Int)*256+(u:Int)) % 18446744073709551616=(N:Int)):=by rw[<-Z];show _=_;omega
 have ea:Hid (IntKind.u64.wrap (IntKind.u64.wrap ((n:Int)*256)+(u:Int))=(N:Int)):=by rw[IntKind.wrap_u64,IntKind.wrap_u64];omega
 clear Z;have h0:Blk (w.alloc (.cells kc 24)) B 24 kc:=eB▸Blk.new w _ _;have ck:Below B w (w.alloc (.cells kc 24)):=eB▸(Below.refl w.heap.size w).alloc Ag _;have H0:=I h0;clear h0;have ev:=I ck;clear ck;clear hu hn cc O eN ei cL cB cM eB;go_enter Tryz.func47,Tryz.ntmps47
 go_upto_region 2 with(first
  |(refine Al (by rfl) 24 (.tmp 4) (by rfl) w.heap.size 0 (by rfl) kc _ (Si.Ad (Blk.new w 24 kc)) Tryz.underlying24 (by rfl) ep.o ?_)
  |(go_at_call 75;refine Aj (ch _) ?_;rintro w1 bB;clear ch;have bB:=ev.o.trans (bB.mono (by have:=EB.o;simp;omega));have H1:=I bB;clear bB)
  |(refine wpList_store_mid (by rfl) 166 (.tmp 9) (.tmp 17) (by rfl) w1.heap.size 0 cs (by rfl) (by rfl) (by rw[eo.o];exact World.there_alloc (by have:=Si.Ar (Blk.new w1 166 (Sp.AR fun _=>0));rwa [Be] at this) _) cQ.o eJ.o ?_)
  |(refine wpList_store_mid (by rfl) 166 (.tmp 10) (.tmp 18) (by rfl) (w1.heap.size+1) 0 ds (by rfl) (by rfl) (by rw[cg.o];exact World.there_setCells (by have:=Si.Ar (Si.Blk.new_of (w1.alloc (.cells (Sp.AR fun _=>0) 166)) (w1.heap.size+1) 166 _ (Sp.AR fun _=>0) rfl (by simp));rwa [Be] at this) _ _ _) cT.o eg.o ?_)
  |fail)
 have h2:=Ks w1 (Sp.AR fun _=>0) 166 cs ds (by rw[Be,eo.o]) (by rw[Be,cg.o]);change Code.wp _ _ _ _ (twoW w1 (Sp.AR fun _=>0) 166 cs ds);generalize twoW w1 (Sp.AR fun _=>0) 166 cs ds=W2 at h2⊢;have aw:=H1.o.trans (h2.2.2.1.mono (by have:=H1.o.size;have:=EB.o;omega));have cA:=I aw;clear aw;have er:=I h2.1;clear h2;have ek:=cw W2;clear cw
 go_wp2_with (first
  |(refine Al (by rfl) 166 (.tmp 9) (by rfl) w1.heap.size 0 (by rfl) cs _ er.o Tryz.underlying166 (by rfl) cQ.o ?_)
  |(go_at_call 77;refine Aj ek ?_;rintro w3 bx;clear ek;have bx:=cA.o.trans (bx.mono (by have:=cA.o.size;have:=EB.o;omega));have c4:=eu.o w3;have H3:=I bx;clear bx)
  |(go_at_call 76;(first | rw[cY.o] | rw[ew.o] | rw[ef.o] | rw[ea.o]);refine Calls.mono c4 ?_;rintro e w5 ⟨As,sc,rfl,eQ,cZ,bs⟩;clear c4;have bs:=H3.o.trans (bs.mono (by have:=H3.o.size;have:=EB.o;omega));have H5:=I bs;have RS:=I cZ;clear bs cZ)
  |fail)
 obtain⟨N0,cX⟩:=Ak (w5.heap.size);have EN:=I cX;clear cX;have eb:(DA ks u n m).length=m:=BO ks u n m;have eT:=I eb;clear eb
 go_loopw [12,13] (fun eE iv wr=>∃i:Nat,i<=m/\iv=.int .i64 (i:Int)/\wr.ownsRow N0 5 1 eE i (bvs ((mixL ks u n p).take i))/\Below N0 w5 wr) (fun _ iv _=>m - (intOf iv).toNat)
 case atStart=>exact⟨0,Nat.zero_le _,rfl,⟨rfl,.inl ⟨rfl,rfl⟩⟩,Below.refl _ _⟩
 case round=>
  obtain⟨i,hi,rfl,cj,cR⟩:=hrel;have HO:=I cj;clear cj;have HW:=I cR;clear cR
  by_cases hx:i=m
  ·subst hx
   go_wp2_with fail
   go_ret;have h9:=HO.o;rw[List.take_of_length_le (by rw[BA,HM.o];exact Nat.le_refl _)] at h9;refine⟨_,rfl,h9.mono (by have:=EN.o;have:=H5.o.size;omega),?_⟩;rw[<-EB.o];exact H5.o.trans (HW.o.mono (by have:=EN.o;have:=H5.o.size;have:=EB.o;omega))
  ·have cp:i<m:=by omega
   have cn:i<p.length:=by have:=HM.o;omega
   have e1:(i:Int)<(m:Int):=by omega
   have e2:(0:Int)<=(i:Int):=by omega
   have e3:(i:Int)<1000:=by omega
   have ej:i<(DA ks u n p.length).length:=by rw[BO];exact cn
   have cd:i<(DA ks u n m).length:=by rw[BO];exact cp
   obtain⟨y,ey⟩:=Ak (p[i]);obtain⟨x,ex⟩:=Ak ((DA ks u n p.length)[i]);obtain⟨z,ez⟩:=Ak (y ^^^ x);obtain⟨b1,o1,rfl,ca,cu⟩:=HR.o.at_ (Fw cn);obtain⟨b2,o2,rfl,ec,cm⟩:=RS.o.at_ (Fw cd);rw[<-ey] at cu;have hex:(DA ks u n m)[i]=x:=by
    rw[ex];have:=HM.o;subst this
    rfl
   rw[hex] at cm;have cb:b1<N0:=by have:=EN.o;have:=H5.o.size;have:=EB.o;omega
   have cf:b2<N0:=by have:=EN.o;omega
   have d1:wr.cell? ⟨b1,o1+i,none⟩=some (.int .u8 (y.toNat:Int)):=(HW.o.cell (p:=⟨b1,o1+i,none⟩) cb).trans ((H5.o.cell (p:=⟨b1,o1+i,none⟩) ca).trans cu);have d2:wr.cell? ⟨b2,o2+i,none⟩=some (.int .u8 (x.toNat:Int)):=(HW.o.cell (p:=⟨b2,o2+i,none⟩) cf).trans cm;have eR:bits .xor .u8 (y.toNat:Int) (x.toNat:Int)=(z.toNat:Int):=by rw[ez];exact dw y x
   have cx:=Ua ks u n p i cn ej;rw[<-ey,<-ex,<-ez] at cx;have NX:=I cx;clear cx;have HX:=I hx;clear hx;have HI:=I hi;clear hi;clear ey ex ez cu cm hex ej cd ca ec cb cf
   go_wp2_with fail
   go_region_law (refine step_append_lies _ (by rfl) (.tmp 35) (.tmp 45) 22 (by rfl) N0 5 ib _ 1 1 Tryz.underlying22 eF eL et eK (by rfl) (by decide) u12 i (bvs ((mixL ks u n p).take i)) (by rfl) (Fe HO.o (by rfl)) ⟨wr.heap.size,0,none⟩ 1 1 [.int .u8 (z.toNat:Int)] (by rfl) (by rfl) (Sp.MC (by rfl)) (by simp [Value.oneCell']) (by decide) (by have:=HI.o;have:=ed.o;unfold maxLen;omega) (by have:=HI.o;have:=ed.o;omega) (by have:=EN.o;have:=HW.o.size;simp;omega) (wr.heap.size+1) (by simp) ?_;intro g2 eP w2 av M eM cp)
   all_goals (
    have cP:(wr.alloc (.cells #[.int .u8 (z.toNat:Int)] 5)).grownBy w2 u12.ownBlock:=⟨M.os,M.tape,M.output,M.size,M.block⟩;have aw:=(HW.o.alloc (by have:=EN.o;have:=HW.o.size;omega) (Obj.cells #[.int .u8 (z.toNat:Int)] 5)).grown cP (by have:=EN.o;have:=HW.o.size;simp;omega) (fun q hq=>(HO.o.lt q hq).1);have O6:=I av;clear av;have B6:=I aw;clear aw;clear M eM cp cP d1 d2
    go_wp2_with fail
    go_roundw
    case rel=>exact⟨i+1,by omega,by go_num,by rw[<-NX.o];exact O6.o,B6.o⟩
    case measure=>simp [intOf];omega)
theorem Gv {w w':World} {b o:Nat} {cs:List Value} {row:Option Nat} (h:w.rangeAt b o cs) (Z:b<w.heap.size) (M:w.grownBy w' row) (O:row≠some b):w'.rangeAt b o cs:=fun j v hv=>
 (World.cell?_of_block (a:=⟨b,o+j,none⟩) (M.block b Z (fun e=>O e.symm))).trans (h j v hv)
theorem Fg {w w':World} {b o:Nat} {cs:List Value} (h:w.rangeAt b o cs) (O:b<w.heap.size) (M:Below w.heap.size w w'):w'.rangeAt b o cs:=Gv h O (Dj M none) (by simp)
theorem dtag (ks:Nat->UInt8) (u:Nat) (A:Option Addr) (m c:Nat) (l:List UInt8) (w:World) (hu:u<=255) (hm:m=l.length) (cA:m<=1000) (hr:Rd w w.heap.size A (bvs l)) :
  Calls Tryz.prog 48 #[.agg (AQ ks),.int .i64 (u:Int),.slice A m c] w fun e w'=>∃v,e=.returned v/\w'.ownsRow w.heap.size 5 1 v 8 (bvs (w8 (tagL ks u l)))/\Below w.heap.size w w':=by
 obtain⟨ib,eo,eF,ej,eu⟩:=info_parts Si.Cp;obtain⟨B,eB⟩:=Ak (w.heap.size);have ch:=fun w1=>TZ ks w1
 have i32:=Hg ks;have i16:=Jz ks;have aw:=Jz (k2 ks);have cr:=TP ks;have bx:=TP (k2 ks);have ck:=Be ks;have bs:=Be (k2 ks);obtain⟨T,eT⟩:=Ak (tagL ks u l);have ef:T<18446744073709551616:=by rw[eT];exact TI _ _ _
 have bb:=fun(w4:World) (A4:Option Addr) (c4:Nat) (h1:1+m<=c4) (h2:c4<=maxLen) (h3:Rd w4 w4.heap.size A4 (bvs (UInt8.ofNat u :: l)))=>Si.WH (k2 ks) A4 (1+m) c4 (UInt8.ofNat u :: l) w4 (by rw[List.length_cons,hm,Nat.add_comm]) (by omega) h1 h2 h3
 have hT:∀e,e=Ending.returned (Si.wv (Si.Ia (k2 ks) (UInt8.ofNat u :: l)))->e=.returned (.int .u64 (T:Int)):=fun e h=>by rw[h,eT];rfl
 have cq:[Value.int .u8 (u:Int)]++bvs l=bvs (UInt8.ofNat u :: l):=by
  show [Value.int .u8 (u:Int)]++bvs l=bv (UInt8.ofNat u) :: bvs l;rw[Yw u hu];rfl
 obtain⟨kc,cZ⟩:=Ak (AQ ks);obtain⟨cs,cT⟩:=Ak (Sp.AR ks);have er:∃dl:List Value,dl.toArray=Sp.AR (k2 ks):=⟨_,rfl⟩;obtain⟨dl,cj⟩:=er;obtain⟨L,eL⟩:=Ak (UInt8.ofNat u :: l);rw[<-cZ] at ch i32⊢;rw[<-cT] at ch i16 cr ck;rw[<-cj] at ch aw bx bs;have ed:Si.AR (k2 ks)=Sp.AR (k2 ks):=rfl;rw[ed,<-cj] at bb;rw[<-eL] at bb hT cq;rw[<-eT];have u16:(Tryz.prog.info? 166).map (·.size)=some dl.length:=by rw[<-List.size_toArray];exact aw
 have ca:=Tryz.underlying166;have eM:(u:Int)<=255:=by omega
 have eP:(0:Int)<=(u:Int):=by omega
 have et:(u:Int) % 256=(u:Int):=by omega
 have eN:IntKind.u8.wrap (u:Int)=(u:Int):=by rw[IntKind.wrap_u8'];exact et
 have EB:=I eB;have HR:=I (eB▸hr);clear hr;have HM:=I hm;clear hm;have q3:(m:Int)<=1000:=by omega
 have cy:=I cA;clear cA;have ei:=I i32;clear i32;have ey:=I i16;clear i16;have eb:=I aw;clear aw;have ep:=I cr;clear cr;have cR:=I bx;clear bx;have eg:=I ck;clear ck;have cf:=I bs;clear bs;have ec:=I bb;clear bb;have HT:=I hT;clear hT;have ev:=I cq;clear cq;have TL:=I ef;clear ef;have eJ:=I u16;clear u16;have cB:=I ca;clear ca;have cg:Below B w (w.alloc (.cells kc 24)):=eB▸(Below.refl w.heap.size w).alloc Ag _;have eK:=I cg;clear cg;clear hu cZ cT cj eT eL ed eB;go_enter Tryz.func48,Tryz.ntmps48
 go_upto_region 2 with(first
  |(refine Al (by rfl) 24 (.tmp 3) (by rfl) w.heap.size 0 (by rfl) kc _ (Si.Ad (Blk.new w 24 kc)) Tryz.underlying24 (by rfl) ei.o ?_)
  |(go_at_call 75;refine Aj (ch _) ?_;rintro w1 cc;clear ch;have cc:=eK.o.trans (cc.mono (by have:=EB.o;simp;omega));have H1:=I cc;clear cc)
  |(refine wpList_store_mid (by rfl) 166 (.tmp 7) (.tmp 12) (by rfl) w1.heap.size 0 cs (by rfl) (by rfl) (by rw[eg.o];exact World.there_alloc (by have:=Si.Ar (Blk.new w1 166 (Sp.AR fun _=>0));rwa [Be] at this) _) ey.o ep.o ?_)
  |(refine wpList_store_mid (by rfl) 166 (.tmp 8) (.tmp 13) (by rfl) (w1.heap.size+1) 0 dl.toArray (by rfl) (by rfl) (by rw[cf.o];exact World.there_setCells (by have:=Si.Ar (Si.Blk.new_of (w1.alloc (.cells (Sp.AR fun _=>0) 166)) (w1.heap.size+1) 166 _ (Sp.AR fun _=>0) rfl (by simp));rwa [Be] at this) _ _ _) eb.o cR.o ?_)
  |fail)
 have h2:=Ks w1 (Sp.AR fun _=>0) 166 cs dl.toArray (by rw[Be,eg.o]) (by rw[Be,cf.o]);change Code.wp _ _ _ _ (twoW w1 (Sp.AR fun _=>0) 166 cs dl.toArray);generalize twoW w1 (Sp.AR fun _=>0) 166 cs dl.toArray=W2 at h2⊢;have cL:=H1.o.trans (h2.2.2.1.mono (by have:=H1.o.size;have:=EB.o;omega));have cu:Hid (Below B w W2.drew):=below_drewN cL 1;have cn:W2.drew.rangeAt (w1.heap.size+1) 0 dl:=by have:=h2.2.1;simpa using this
 have ek:=I (show w1.heap.size+2<=W2.drew.heap.size from h2.2.2.2);clear h2 cL;have ca:=cB.o;have u16:=eJ.o;simp only[Act.put];have ez:Hid ((W2.alloc (.cells #[.int .u8 (u:Int)] 5)).drew.ownsRow W2.heap.size 5 1 (.slice (some ⟨W2.heap.size,0,none⟩) 1 1) 1 [.int .u8 (u:Int)]):=World.ownsRow_lit (base:=W2.heap.size) (e:=5) (size:=1) W2.drew #[.int .u8 (u:Int)] 1 Ag (by decide) (by rfl);have cp:B<=W2.drew.heap.size:=by have:=cu.o.size;have:=EB.o;omega
 have cP:Hid (Below B w (W2.alloc (.cells #[.int .u8 (u:Int)] 5)).drew):=cu.o.alloc cp (.cells #[.int .u8 (u:Int)] 5);have eE:Hid (Rd (W2.alloc (.cells #[.int .u8 (u:Int)] 5)).drew B A (bvs l)):=HR.o.below cP.o;have bB:(W2.alloc (.cells #[.int .u8 (u:Int)] 5)).drew.rangeAt (w1.heap.size+1) 0 dl:=World.rangeAt_alloc cn (.cells #[.int .u8 (u:Int)] 5);have O:Hid ((W2.alloc (.cells #[.int .u8 (u:Int)] 5)).drew.heap.size=W2.heap.size+1):=by show(W2.alloc _).heap.size=_;simp
 have av:Hid (w1.heap.size+2<=W2.heap.size):=ek.o;have cY:Hid (B<=W2.heap.size):=cp;clear cp
 go_region_held3 (fun w'=>w'.rangeAt (w1.heap.size+1) 0 dl) (first | exact cn | exact bB | exact cm | exact ct | exact ea) (first
  |(rw[if_pos (by rfl)];refine Fx _ (.tmp 17) (.tmp 18) 22 (by rfl) W2.heap.size 5 ib _ 1 Tryz.underlying22 eo eF ej eu (by rfl) _ 1 [.int .u8 (u:Int)] (by rfl) ez.o B A m c (bvs l) (by rfl) (by rw[AG];exact HM.o) eE.o (BD _) (by have:=cy.o;unfold maxLen;omega) (by have:=cy.o;omega) (by have:=O.o;omega) ?_;intro v4 w4 Z M cX;rw[ev.o] at Z;have cm:w4.rangeAt (w1.heap.size+1) 0 dl:=Gv bB (by have:=O.o;have:=av.o;omega) M (by have:=av.o;simp [Value.ownBlock];omega);have cx:Below B w w4:=cP.o.grown M (by have:=O.o;have:=cY.o;omega) (fun k hk=>by have:=cY.o;simp [Value.ownBlock] at hk;omega);obtain⟨A4,c4,ew,cQ,cw,cM⟩:=JB (S:=fun _=>False) Z (fun _ _ x=>x);subst ew;have bz:=ec.o w4 A4 c4 cQ cw cM.rd;have H4:=I cx;have Z4:=I M.size;clear Z M cX cx cQ cw cM)
  |(go_at_call 78;refine Calls.mono bz ?_;rintro e w5 ⟨he,bn⟩;have he:=HT.o e he;subst he;clear bz;have ct:w5.rangeAt (w1.heap.size+1) 0 dl:=Fg cm (by have:=Z4.o;have:=O.o;have:=av.o;omega) bn;have Z5:=I bn.size;have bn:=H4.o.trans (bn.mono (by have:=H4.o.size;have:=EB.o;omega));have cd:=dbig T w5 TL.o;have H5:=I bn;clear bn)
  |(go_at_call 46;refine Calls.mono cd ?_;rintro e w6 ⟨v6,rfl,cb,bq⟩;clear cd;have ea:w6.rangeAt (w1.heap.size+1) 0 dl:=Fg ct (by have:=Z4.o;have:=Z5.o;have:=O.o;have:=av.o;omega) bq;have bq:=H5.o.trans (bq.mono (by have:=H5.o.size;have:=EB.o;omega));have H6:=I bq;have O6:=I cb;have Z6:=I H5.o.size;clear bq cb))
 all_goals (
  clear cn bB cm ct ea
  go_wp2_with fail
  go_ret;exact⟨_,rfl,O6.o.mono (by have:=Z6.o;have:=EB.o;omega),EB.o▸H6.o⟩)
theorem Ub (ks:Nat->UInt8) (u n:Int) (A:Option Addr) (m c:Nat) (w:World) (hx:¬(0<=u/\u<=255/\0<=n/\n<=1099511627776/\m<=784)) :
  Calls Tryz.prog 19 #[.agg (AQ ks),.int .i64 u,.int .i64 n,.slice A m c] w fun e w'=>e=.returned (.tuple #[.slice none 0 0,.int .i64 1])/\Below w.heap.size w w':=by
 obtain⟨kc,M⟩:=Ak (AQ ks);rw[<-M];have t:(decide (u<0)=true)\/(decide (u<0)=false/\decide (255<u)=true)\/(decide (u<0)=false/\decide (255<u)=false/\decide (n<0)=true)\/(decide (u<0)=false/\decide (255<u)=false/\decide (n<0)=false/\decide (1099511627776<n)=true)\/(decide (u<0)=false/\decide (255<u)=false/\decide (n<0)=false/\decide (1099511627776<n)=false/\decide (784<(m:Int))=true):=by
  simp only[decide_eq_true_eq,decide_eq_false_iff_not];omega
 have HB:=I ((Below.refl w.heap.size w).alloc Ag (.cells kc 24));clear hx M;rcases t with O | ⟨O,Z⟩ | ⟨O,Z,t3⟩ | ⟨O,Z,t3,t4⟩ | ⟨O,Z,t3,t4,t5⟩<;>(
  go_enter Tryz.func19,Tryz.ntmps19
  go_wp2
  go_ret2
  exact⟨rfl,HB.o⟩)
theorem Uc (ks:Nat->UInt8) (u n:Nat) (A:Option Addr) (m c:Nat) (p:List UInt8) (w:World) (hu:u<=255) (hn:n<=1099511627776) (hm:m=p.length) (cj:m<=784) (hr:Rd w w.heap.size A (bvs p)) :
  Calls Tryz.prog 19 #[.agg (AQ ks),.int .i64 (u:Int),.int .i64 (n:Int),.slice A m c] w fun e w'=>∃A2 c2,e=.returned (.tuple #[.slice A2 (m+16) c2,.int .i64 0])/\RdA (fun i=>i<w.heap.size) w' A2 (bvs (Eo ks u n p))/\Below w.heap.size w w'/\m+16<=c2/\c2<=maxLen:=by
 obtain⟨ib,ei,er,cB,eo⟩:=info_parts Si.Cp;obtain⟨B,eB⟩:=Ak (w.heap.size);have bn:=fun(w1:World) (h1:Rd w1 w1.heap.size A (bvs p))=>dmix ks u n A m c p w1 hu (by omega) hm (by omega) h1
 have bz:=fun(w1:World)=>dbig n w1 (by omega)
 obtain⟨L,eL⟩:=Ak (Gl ks u n p);have cn:bvs (w8 n)++bvs (mixL ks u n p)=bvs L:=by rw[eL,Gl,BC]
 have eu:8+m=L.length:=by rw[eL,Cj,<-hm]
 have bs:=fun(w1:World) (A1:Option Addr) (c1:Nat) (h1:Rd w1 w1.heap.size A1 (bvs L))=>dtag ks u A1 (8+m) c1 L w1 hu eu (by omega) h1
 have cd:bvs L++bvs (w8 (tagL ks u L))=bvs (Eo ks u n p):=by rw[eL,<-BC];rfl
 have cx:(bvs (mixL ks u n p)).length=m:=by rw[AG,BA,hm]
 obtain⟨M,eM⟩:=Ak (bvs (mixL ks u n p));obtain⟨W8,ea⟩:=Ak (bvs (w8 n));obtain⟨T8,ck⟩:=Ak (bvs (w8 (tagL ks u L)));have oM:∀v∈M,v.oneCell'=true:=eM▸BD _;have oT:∀v∈T8,v.oneCell'=true:=ck▸BD _;have cX:T8.length=8:=by rw[ck,AG,Dz]
 rw[<-eM] at bn cn cx;rw[<-ea] at bz cn;rw[<-ck] at bs cd;have eE:∃kl:List Value,kl.toArray=AQ ks:=⟨_,rfl⟩;obtain⟨kl,cr⟩:=eE;have u32:(Tryz.prog.info? 24).map (·.size)=some kl.length:=by rw[<-List.size_toArray,cr];exact Hg ks
 have cA:=Tryz.underlying24;rw[<-cr] at bn bs⊢;have q1:(n:Int)<=1099511627776:=by omega
 have q2:(0:Int)<=(n:Int):=by omega
 have q3:(m:Int)<=784:=by omega
 have q4:IntKind.u64.wrap (n:Int)=(n:Int):=by rw[IntKind.wrap_u64];omega
 have q5:(n:Int) % 18446744073709551616=(n:Int):=by omega
 have t1:decide ((u:Int)<0)=false:=by simp
 have t2:decide (255<(u:Int))=false:=by simp;omega
 have t3:decide ((n:Int)<0)=false:=by simp
 have t4:decide (1099511627776<(n:Int))=false:=by simp;omega
 have t5:decide (784<(m:Int))=false:=by simp;omega
 have EB:=I eB;have HR:=I (eB▸hr);clear hr;have cg:=I cj;clear cj;have cM:=I bn;clear bn;have ev:=I bz;clear bz;have ek:=I bs;clear bs;have eX:=I cn;clear cn;have ep:=I cd;clear cd;have fb:=I cx;clear cx;have eJ:=I cX;clear cX;have OM:=I oM;clear oM;have OT:=I oT;clear oT;have cw:(w.alloc (.cells kl.toArray 24)).drew.rangeAt w.heap.size 0 kl:=by have:=Si.Ad (Blk.new w 24 kl.toArray);simpa using this
 have eP:Hid (Below B w (w.alloc (.cells kl.toArray 24)).drew):=eB▸below_drewN ((Below.refl w.heap.size w).alloc Ag _) 1;have cf:Hid ((w.alloc (.cells kl.toArray 24)).drew.heap.size=B+1):=by show(w.alloc _).heap.size=_;simp [eB]
 have cb:=ev.o (w.alloc (.cells kl.toArray 24)).drew;clear hu hn hm eu eM ea ck cr eB eL;go_enter Tryz.func19,Tryz.ntmps19
 go_upto_region 3 with fail
 go_region_held3 (fun w'=>w'.rangeAt w.heap.size 0 kl) (first | exact cw | exact cq | exact cu | exact cp) (first
  |(rw[if_pos (by rfl)];refine Fx _ (.tmp 32) (.tmp 38) 22 (by rfl) (B+1) 5 ib _ 1 Tryz.underlying22 ei er cB eo (by rfl) v1 8 W8 (by rfl) O2.o w2.heap.size A2 m c2 M (by rfl) fb.o.symm R2.o OM.o (by have:=cg.o;unfold maxLen;omega) (by have:=cg.o;omega) (by have:=Z2.o;omega) ?_;intro v3 w3 av O eb;rw[eX.o] at av;have cp:w3.rangeAt w.heap.size 0 kl:=Gv cu (by have:=Z2.o;have:=EB.o;omega) O (fun hx=>by have:=Lo O2.o _ hx;have:=EB.o;omega);have cY:Below B w w3:=H2.o.grown O (by have:=Z2.o;omega) (fun k hk=>by have:=Lo O2.o _ hk;omega);obtain⟨A3,c3,eN,eK,eW,cQ⟩:=JB (S:=fun _=>False) av (fun _ _ x=>x);subst eN;have ct:=ek.o w3 A3 c3 cQ.rd;have H3:=I cY;have O3:=I av;have Z3:=I (Nat.le_trans Z2.o O.size);clear av O eb cY eK eW cQ)
  |(go_at_call 46;refine Calls.mono cb ?_;rintro e w1 ⟨v1,rfl,cc,bb⟩;clear cb;have cq:w1.rangeAt w.heap.size 0 kl:=Fg cw (by have:=cf.o;have:=EB.o;omega) bb;have ef:B+1<=w1.heap.size:=by{have:=cf.o;have:=bb.size;omega};have bb:=eP.o.trans (bb.mono (by have:=cf.o;omega));have cm:=cM.o w1 ((HR.o.below bb).more (by omega));have H1:=I bb;have O1:=I (cc.mono (base':=B+1) (by have:=cf.o;omega));have Z1:=I ef;clear bb cc ef)
  |(go_at_call 47;refine Calls.mono cm ?_;rintro e w2 ⟨v2,rfl,bB,aw⟩;clear cm;have cu:w2.rangeAt w.heap.size 0 kl:=Fg cq (by have:=Z1.o;have:=EB.o;omega) aw;have cZ:B+1<=w2.heap.size:=Nat.le_trans Z1.o aw.size;have cT:=BU O1.o aw;obtain⟨A2,c2,eV,ey,cj,et⟩:=JB (S:=fun _=>False) bB (fun _ _ x=>x);subst eV;have aw:=H1.o.trans (aw.mono (by have:=Z1.o;omega));have H2:=I aw;have O2:=I cT;have Z2:=I cZ;have R2:=I et.rd;clear aw bB cZ cT ey cj et))
 all_goals (
  have eR:Hid (w3.rangeAt w.heap.size 0 kl.toArray.toList):=cp;have eF:Hid ((Tryz.prog.info? 24).map (·.size)=some kl.toArray.size):=by rw[List.size_toArray];exact u32
  clear cw cq cu cp u32 cA bb aw
  go_wp2_with (first
   |(refine Al (by rfl) 24 (.tmp 4) (by rfl) w.heap.size 0 (by rfl) kl.toArray _ eR.o Tryz.underlying24 (by rfl) eF.o ?_)
   |(go_at_call 48;refine Calls.mono ct ?_;rintro e w4 ⟨v4,rfl,ca,bx⟩;clear ct;have eg:=BU O3.o bx;have ed:=Nat.le_trans Z3.o bx.size;have bx:=H3.o.trans (bx.mono (by have:=Z3.o;omega));obtain⟨A4,c4,eQ,eT,ew,cP⟩:=JB (S:=fun _=>False) ca (fun _ _ x=>x);subst eQ;have H4:=I bx;have O4:=I eg;have Z4:=I ed;have R4:=I cP.rd;clear bx ca eg ed eT ew cP)
   |(at_builtin;refine AI _ (by rfl) (.tmp 40) (.tmp 44) 22 (by rfl) (B+1) 5 ib _ 1 Tryz.underlying22 ei er cB eo (by rfl) _ (8+m) (bvs L) (by rfl) O4.o w4.heap.size A4 8 c4 T8 (by rfl) eJ.o.symm R4.o OT.o (by have:=cg.o;unfold maxLen;omega) (by have:=cg.o;omega) (by have:=Z4.o;omega) ?_;intro v5 w5 Z bq cR;rw[ep.o] at Z;have cL:=H4.o.grown bq (by have:=Z4.o;omega) (fun k hk=>by have:=Lo O4.o k hk;omega);obtain⟨A5,c5,ez,ej,cy,ec⟩:=JB (S:=fun i=>i<w.heap.size) Z (fun k hk hx=>by have:=Lo Z k hk;have:=EB.o;omega);subst ez;have H5:=I cL;have R5:=I ec;have C5:=I (And.intro ej cy);clear Z bq cR cL ej cy ec)
   |fail)
  go_ret2
  exact⟨A5,c5,by show Ending.returned (.tuple #[.slice A5 (8+m+8) c5,.int .i64 0])=_;rw[show 8+m+8=m+16 by omega],R5.o,EB.o▸H5.o,by have:=C5.o.1;omega,C5.o.2⟩)
end Se
end Go.Proofs.YtiecjolmennkfaaGreat
