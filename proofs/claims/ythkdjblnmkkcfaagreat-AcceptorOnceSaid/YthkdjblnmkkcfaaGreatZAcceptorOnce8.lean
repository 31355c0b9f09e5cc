import Derived.Test.YthkdjblnmkkcfaaGreatZAcceptorOnce2
import Derived.Test.YthkdjblnmkkcfaaGreatZAcceptorOnce7
set_option maxHeartbeats 25600000
set_option maxRecDepth 100000
set_option linter.unusedVariables false
set_option linter.unusedSimpArgs false
namespace Go.Proofs.YthkdjblnmkkcfaaGreat
namespace Open
open Go.ChangeShapes Go.WideShapes Go.ChangeAt Go.RowKit Go.Deep Af
theorem TP {w:World} {x:Addr} {v:Value} (h:w.cell? x=some v):∃b o,x=⟨b,o,none⟩:=by
 obtain⟨b,o,s⟩:=x;have:=World.cell?_spot h;exact⟨b,o,by rw[show s=none from this]⟩
theorem Jz {w:World} {x:Addr} {xs:List Value} (h:∀i u,xs[i]? = some u->w.cell? (x.add i)=some u):Rd w w.heap.size (some x) xs:=by
 cases xs with
 |nil=>exact .inl rfl
 |cons a r=>
  have M:=h 0 a rfl;rw[show x.add 0=x by simp [Addr.add]] at M;obtain⟨b,o,rfl⟩:=TP M;exact .inr ⟨b,o,rfl,World.block_lt_of_cell? w _ M,fun i u hu=>by have:=h i u hu;rwa [addr_add] at this⟩
section
variable {H:Type} {enc:TypeId×Value->H} {P:Program} {W:World}
end
end Open
namespace OpenP
open Go.Joins Go.ChangeShapes Go.WideShapes Go.ChangeAt Go.RowKit Go.Deep Go.Proofs.YthkdjblnmkkcfaaGreat Af Rg
section
variable {H:Type} {enc:TypeId×Value->H} {W:World}
theorem dc:Tryz.prog.cellsOf 9=1:=by kernel_rfl
theorem dd:Tryz.prog.cellsOf 3=1:=by kernel_rfl
theorem c_pr:Tryz.prog.cellsOf 37=2:=by kernel_rfl
end
end OpenP
namespace Open
open Go.ChangeShapes Go.WideShapes Go.ChangeAt Go.RowKit Go.Deep Af
section
variable {H:Type} {enc:TypeId×Value->H} {P:Program} {W:World}
theorem MP {t e:TypeId} {v:Value} {d:DataW H} {ps:List MemPlace} (ht:P.underlying t=some (.slice e)) (he:P.underlying e=some (.int .i64)) (hc:P.cellsOf e=1)
  (hv:∃A n c,v=.slice A n c) (h:DataW.Trod enc P W 0 (fun _=>true) true t v d ps):∃A zs c,v=.slice A (List.length zs) c/\Rd W W.heap.size A (zs.map (Value.int .i64))/\(∀z∈zs,(Lit.int .i64 z).wf=true)/\zs.length<=c/\c<=maxLen:=by
 obtain⟨A,n,c,rfl⟩:=hv;obtain⟨fuel,hf⟩:=h;rcases open_ints ht he hc hf with⟨M,_⟩ | ⟨x,l,c,zs,M,_,hl,hm,hz,_,Z,av⟩
 ·injection M with M
  exact⟨none,[],0,M,.inl rfl,by simp,Nat.le_refl _,Nat.zero_le _⟩
 ·injection M with M
  simp only[if_true] at hz;refine⟨some x,zs.take l,c,by rw[List.length_take,Nat.min_eq_left (by omega)];exact M,Jz fun i u hu=>?_,fun z aw=>av z (List.mem_of_mem_take aw),by rw[List.length_take];omega,hm⟩;have hi:i<l:=by
   rcases Nat.lt_or_ge i l with g | g
   ·exact g
   ·rw[List.getElem?_eq_none (by simp;omega)] at hu;cases hu
  have O:i<zs.length:=by omega
  rw[Z i O];simp only[List.getElem?_map,List.getElem?_take,if_pos hi,List.getElem?_eq_getElem O,Option.map_some] at hu;rw[<-hu,List.getD,List.getElem?_eq_getElem O,Option.getD_some]
end
end Open
namespace OpenL
open Go.ChangeShapes Go.WideShapes Go.ChangeAt Go.RowKit Go.Deep Af Go.Proofs.YthkdjblnmkkcfaaGreat.Open
section
variable {H:Type} {enc:TypeId×Value->H} {P:Program} {W:World}
theorem Wz {t e:TypeId} {v:Value} {d:DataW H} {ps:List MemPlace} (ht:P.underlying t=some (.slice e)) (he:P.underlying e=some .bool) (hc:P.cellsOf e=1)
  (hv:∃A n c,v=.slice A n c) (h:DataW.Trod enc P W 0 (fun _=>true) true t v d ps):∃A l c,v=.slice A (List.length l) c/\Rd W W.heap.size A (l.map Value.bool)/\l.length<=c/\c<=maxLen:=by
 obtain⟨A,n,c,rfl⟩:=hv;obtain⟨fuel,Z⟩:=h;rcases open_bools ht he hc Z with⟨M,_⟩ | ⟨x,l,c',B,M,_,hl,hm,_,O⟩
 ·injection M with M
  exact⟨none,[],0,M,.inl rfl,Nat.le_refl _,Nat.zero_le _⟩
 ·injection M with M
  refine⟨some x,(List.range l).map B,c',by rw[List.length_map,List.length_range];exact M,Jz fun i u hu=>?_,by rw[List.length_map,List.length_range];exact hl,hm⟩;simp only[List.map_map,List.getElem?_map] at hu
  by_cases hi:i<l
  ·rw[List.getElem?_range hi] at hu
   injection hu with hu;rw[<-hu];exact O i (by omega)
  ·rw[List.getElem?_eq_none (by simp;omega)] at hu
   cases hu
end
end OpenL
namespace Se
open Go.RowKit Af
theorem WA (b:Nat) (u:Int) (p:Value) (w:World) (O:¬(0<=u/\u<=255)) :
  Calls Tryz.prog 90 #[.pointer (some ⟨b,0,none⟩),.int .i64 u,p] w fun e w'=>e=.returned (.tuple #[.slice none 0 0,.int .i64 1])/\w'=w:=by
 have M:=Jx u false (by
  rw[eq_comm,Bool.and_eq_false_iff];rcases Int.lt_or_le u 0 with h | h
  ·exact .inl (by simp;omega)
  ·exact .inr (by simp;omega))
 clear O;go_enter Tryz.func90,Tryz.ntmps90
 go_wp2_with (go_at_call 134;refine Aj (M _) ?_;rintro Z hw;have hw:=hw.symm;subst hw;clear M)
 go_ret2
 exact⟨rfl,rfl⟩
def Dl (w w':World) (b:Nat) (h h':Option Nat):Prop:=Chg (Ow b h) w w'/\(h'=h\/(h=none/\∃g,h'=some g/\w.heap.size<=g))
theorem Dl.refl (w:World) (b:Nat) (h:Option Nat):Dl w w b h h:=⟨Chg.refl _ _,.inl rfl⟩
theorem Step.o {w w':World} {b g:Nat} {h:Option Nat} (hs:Step w w' b h g):Dl w w' b h (some g):=
 ⟨hs.1,hs.2.imp (fun e=>e.symm) (fun e=>⟨e.1,g,rfl,e.2⟩)⟩
theorem Dl.own {w w':World} {b:Nat} {h O:Option Nat} (hs:Dl w w' b h O):∀i,i<w.heap.size->Ow b O i->Ow b h i:=by
 intro i hi M;rcases hs.2 with rfl | ⟨_,g,rfl,Z⟩
 ·exact M
 ·rcases M with M | M
  ·exact .inl M
  ·injection M with M;omega
theorem Dl.trans {a w c:World} {b:Nat} {h Z O:Option Nat} (s1:Dl a w b h Z) (s2:Dl w c b Z O):Dl a c b h O:=by
 refine⟨s1.1.trans s2.1 s1.own,?_⟩;rcases s1.2 with rfl | ⟨e,g,rfl,M⟩
 ·rcases s2.2 with rfl | ⟨e,g,rfl,M⟩
  ·exact .inl rfl
  ·exact .inr ⟨e,g,rfl,Nat.le_trans s1.1.size M⟩
 ·rcases s2.2 with rfl | ⟨e2,_⟩
  ·exact .inr ⟨e,g,rfl,M⟩
  ·cases e2
theorem Dl.drewN {w w':World} {b:Nat} {h M:Option Nat} (hs:Dl w w' b h M) (k:Nat):Dl w (w'.drewN k) b h M:=⟨⟨hs.1.os,hs.1.tape,hs.1.output,hs.1.size,hs.1.block⟩,hs.2⟩
theorem FC (S:Nat->Prop) (w:World) (k:Nat):Chg S w (w.drewN k):=⟨rfl,rfl,rfl,Nat.le_refl _,fun _ _ _=>rfl⟩
theorem MQ {l:List UInt8} {n:Nat} {P:Prop} (O:n=l.length) (h:8<=n) (M:bvs l = []):P:=by
 have:=AG l;rw[M] at this;simp at this;omega
theorem RdA.take {S:Nat->Prop} {w:World} {A:Option Addr} {l:List UInt8} (h:RdA S w A (bvs l)) (k:Nat):RdA S w A (bvs (l.take k)):=by
 rcases h with h | ⟨b,o,Z,M,O,h4⟩
 ·left
  have:l = []:=List.map_eq_nil_iff.1 h;rw[this,List.take_nil];rfl
 ·refine .inr ⟨b,o,Z,M,O,fun i u hu=>h4 i u ?_⟩
  unfold bvs at hu⊢;rw[List.map_take,List.getElem?_take] at hu
  split at hu
  ·exact hu
  ·cases hu
theorem RdA.drop {S:Nat->Prop} {w:World} {b o:Nat} {l:List UInt8} (h:RdA S w (some ⟨b,o,none⟩) (bvs l)) (k:Nat):RdA S w (some ⟨b,o+k,none⟩) (bvs (l.drop k)):=by
 rcases h with h | ⟨b',o',M,O,Z,h4⟩
 ·left
  have:l = []:=List.map_eq_nil_iff.1 h;rw[this,List.drop_nil];rfl
 ·injection M with M
  injection M with e1 e2;subst e1 e2;refine .inr ⟨b,o+k,rfl,O,Z,fun i u hu=>?_⟩;unfold bvs at hu;rw[List.map_drop,List.getElem?_drop] at hu;have:=h4 (k+i) u hu
  rwa [<-Nat.add_assoc] at this
theorem TQ {ks:Nat->UInt8} {u:Nat} {l:List UInt8} (h:l.length<16\/800<l.length\/1099511627776<n8 l):isL ks u l=false:=by
 unfold isL;rcases h with h | h | h
 ·rw[show decide (16<=l.length)=false by simp;omega];simp
 ·rw[show decide (l.length<=800)=false by simp;omega];simp
 ·rw[show decide (n8 l<=1099511627776)=false by simp;omega];simp
theorem WC {ks:Nat->UInt8} {u:Nat} {l:List UInt8} (Z:16<=l.length) (M:l.length<=800) (O:n8 l<=1099511627776):isL ks u l=decide (tagL ks u (Ia l)=n8 (Ht l)):=by
 unfold isL;rw[show decide (16<=l.length)=true by simpa using Z,show decide (l.length<=800)=true by simpa using M,show decide (n8 l<=1099511627776)=true by simpa using O];simp
theorem Dl.aw {w w':World} {b n:Nat} {h M:Option Nat} (hs:Dl w w' b h M):Chg (Aw b h n) w w':=hs.1.mono fun i _ O=>.inl O
theorem Dl.rda {w w':World} {b:Nat} {h M:Option Nat} {A:Option Addr} {xs:List Value} (hs:Dl w w' b h M) (O:RdA (Ow b h) w A xs):RdA (Ow b M) w' A xs:=
 O.keep hs.1 (fun _ _ x=>x) hs.own
def ksOf (l:List UInt8) (i:Nat):UInt8:=l.getD i 0
theorem WD (ks:Nat->UInt8) (u n:Nat) (p:List UInt8) (M:n<=1099511627776) (hp:p.length<=784):isL ks u (Ek ks u n p)=true:=by
 have h:=Hd ks u n p M hp;unfold ZN at h
 split at h
 ·assumption
 ·cases h
theorem WE (ks:Nat->UInt8) (u n:Nat) (p:List UInt8) (M:n<=1099511627776):mixL ks u (n8 (Ek ks u n p)) (midL (Ek ks u n p))=p:=by
 rw[PM,Ou ks u n p (by omega),Tz]
theorem RdA.o {w w':World} {b g:Nat} {h:Option Nat} {A:Option Addr} {xs:List Value} {ks:Nat->UInt8} {a o r:Nat} (O:RdA (Nw w.heap.size g) w' A xs) (Z:Box w b ks h a o r):RdA (Ow b (some g)) w' A xs:=O.mono fun i _ M=>by
 rcases M with M | M
 ·exact .inl (M▸Z.lt)
 ·injection M with M;exact .inr M.symm
def k1:Nat->UInt8:=fun i=>if i=0 then 1 else 0
end Se
namespace SeL
open Go.RowKit Af Se
theorem ZS {b g i:Nat} (h:Ow b (some g) i):i=b\/i=g:=by
 rcases h with h | h
 ·exact .inl h
 ·injection h with h;exact .inr h.symm
end SeL
namespace SpL
open Go.RowKit Af Sp
theorem IH (K:Nat->Wd) (up lo:Wd) (i j:Nat) (hj:j<4):(EH K up lo (8*i+j)).toNat=(Cc K (up,lo+BitVec.ofNat 32 i)).1.toNat / 256 ^ j % 256:=by
 have O:(8*i+j) / 8=i:=by omega
 have M:(8*i+j) % 8=j:=by omega
 rw[EH,O,M,UInt8.toNat_ofNat',Kb];have Z:=Gt (Cc K (up,lo+BitVec.ofNat 32 i)).1;have h:j=0\/j=1\/j=2\/j=3:=by omega
 rcases h with rfl | rfl | rfl | rfl<;>simp only[Nat.reducePow]<;>omega
theorem II (K:Nat->Wd) (up lo:Wd) (i j:Nat) (hj:j<4):(EH K up lo (8*i+4+j)).toNat=(Cc K (up,lo+BitVec.ofNat 32 i)).2.toNat / 256 ^ j % 256:=by
 have O:(8*i+4+j) / 8=i:=by omega
 have M:(8*i+4+j) % 8=4+j:=by omega
 rw[EH,O,M,UInt8.toNat_ofNat',Kb];have Z:=Gt (Cc K (up,lo+BitVec.ofNat 32 i)).1;have h:j=0\/j=1\/j=2\/j=3:=by omega
 rcases h with rfl | rfl | rfl | rfl<;>simp only[Nat.reducePow,Nat.reduceAdd]<;>omega
def JA (w:World) (g:Nat) (cs:Array Value):Prop:=w.rangeAt g 0 cs.toList
theorem JA.grown {w w':World} {g:Nat} {cs:Array Value} {row:Option Nat} (h:JA w g cs) (Z:g<w.heap.size) (O:w.grownBy w' row) (M:row≠some g):JA w' g cs:=fun j v hv=>
 (World.cell?_of_block (a:=⟨g,0+j,none⟩) (O.block g Z (fun e=>M e.symm))).trans (h j v hv)
theorem JA.below {w w':World} {g:Nat} {cs:Array Value} (h:JA w g cs) (M:g<w.heap.size) (O:Below w.heap.size w w'):JA w' g cs:=h.grown M (Dg O none) (by simp)
theorem Kc {P:Program} {ops:Array Oper} {rest:List Oper} {op:Oper} {a:Act} {w:World} {Q:Exit->Act->World->Prop} (M:op.guard=none) (ty:TypeId) (x:Operand) (O:op.op=.load ty x)
  (g:Nat) (hx:a.eval x=.pointer (some ⟨g,0,none⟩)) (cs:Array Value) (d:TypeDesc) (hc:JA w g cs)
  (hu:P.underlying ty=some d) (Z:d.isRow=true) (hi:(P.info? ty).map (·.size)=some cs.size)
  (h:wpList P ops Q rest (a.put op.dst (.agg cs)) w):wpList P ops Q (op :: rest) a w:=
 wpList_load_mid M ty x O g 0 hx cs.toList d hc hu Z (by rw[Array.length_toList];exact hi) (by simpa using h)
theorem Fb (b:Nat):∀(M:List Value) (o:Nat) (w:World),(w.setCells b o M).heap.size=w.heap.size
 | [],_,_=>rfl
 |v :: r,o,w=>by rw[World.setCells,Fb b r];simp [World.setCell]
theorem Yj (K:Nat->Wd):(AY K).size=27:=by simp [AY]
theorem de (K:Nat->Wd):(Tryz.prog.info? 218).map (·.size)=some (AY K).size:=by rw[Yj];kernel_rfl
def eight (x y:Wd):List Value:=[.int .u8 ((x.toNat:Int) % 256),.int .u8 ((x.toNat:Int) / 256 % 256),.int .u8 ((x.toNat:Int) / 65536 % 256),.int .u8 ((x.toNat:Int) / 16777216),
 .int .u8 ((y.toNat:Int) % 256),.int .u8 ((y.toNat:Int) / 256 % 256),.int .u8 ((y.toNat:Int) / 65536 % 256),.int .u8 ((y.toNat:Int) / 16777216)]
theorem QT (K:Nat->Wd) (up lo:Wd) (i:Nat):bvs (strm K up lo (8*i))++eight (Cc K (up,lo+BitVec.ofNat 32 i)).1 (Cc K (up,lo+BitVec.ofNat 32 i)).2=bvs (strm K up lo (8*(i+1))):=by
 have e:strm K up lo (8*(i+1))=strm K up lo (8*i)++[EH K up lo (8*i+0),EH K up lo (8*i+1),EH K up lo (8*i+2),EH K up lo (8*i+3),EH K up lo (8*i+4+0),EH K up lo (8*i+4+1),EH K up lo (8*i+4+2),EH K up lo (8*i+4+3)]:=by
  unfold strm;rw[show 8*(i+1)=8*i+1+1+1+1+1+1+1+1 by omega];simp [List.range_succ]
 rw[e,Bz]
 congr 1
 have O:=IH K up lo i 0 (by decide);have a1:=IH K up lo i 1 (by decide);have Z:=IH K up lo i 2 (by decide);have a3:=IH K up lo i 3 (by decide);have M:=II K up lo i 0 (by decide);have b1:=II K up lo i 1 (by decide);have b2:=II K up lo i 2 (by decide);have b3:=II K up lo i 3 (by decide);have hx:=Gt (Cc K (up,lo+BitVec.ofNat 32 i)).1;have hy:=Gt (Cc K (up,lo+BitVec.ofNat 32 i)).2;rw[show((Cc K (up,lo+BitVec.ofNat 32 i)).1.toNat / 256 ^ 3 % 256)=(Cc K (up,lo+BitVec.ofNat 32 i)).1.toNat / 16777216 by simp only[Nat.reducePow];omega] at a3;rw[show((Cc K (up,lo+BitVec.ofNat 32 i)).2.toNat / 256 ^ 3 % 256)=(Cc K (up,lo+BitVec.ofNat 32 i)).2.toNat / 16777216 by simp only[Nat.reducePow];omega] at b3;simp only[bvs,List.map_cons,List.map_nil,bv,eight,O,a1,Z,a3,M,b1,b2,b3];simp
theorem Rd.take {w:World} {B:Nat} {A:Option Addr} {xs:List Value} (h:Rd w B A xs) (m:Nat):Rd w B A (xs.take m):=by
 rcases h with h | ⟨b,o,Z,M,O⟩
 ·rw[h];exact .inl (by simp)
 ·refine .inr ⟨b,o,Z,M,fun i u hu=>O i u ?_⟩
  rw[List.getElem?_take] at hu
  split at hu
  ·exact hu
  ·cases hu
theorem bt' {B:Nat} {a w c:World} (h:Below B a w) (hB:B+1<=w.heap.size) (k:Below w.heap.size w c):Below B a c:=Hn h (by omega) k
theorem ZT (K:Nat->Wd) (N m:Nat) (n:Int) (w:World) (hN:N<18446744073709551616) (hm:m<=1000) (hn:m=n.toNat) :
  Calls Tryz.prog 115 #[.agg (AY K),.int .u64 (N:Int),.int .i64 n] w fun e w'=>∃A c,e=.returned (.slice A m c)/\m<=c/\Rd w' w'.heap.size A (bvs (strm K (upW N) (loW N) m))/\Below w.heap.size w w':=by
 obtain⟨B,eB⟩:=Ak (w.heap.size);rw[<-eB];have EB:=I eB;have bx:=Yj K;have ca:=de K;obtain⟨cs,bb⟩:=Ak (AY K);rw[<-bb] at bx ca;have cB:=bY K;rw[<-bb] at cB;rw[<-bb];obtain⟨ib,cX,cM,cT,cA⟩:=info_parts Co;have ec:=I bx;clear bx;have dz:=I ca;clear ca;have ef:=I bb;clear bb;have NN:=I hN;clear hN;have HM:=I hm;clear hm;have HN:=I hn;clear hn;have cj:Blk (w.alloc (.cells cs 218)) B 218 cs:=Blk.new_of w B _ _ _ rfl eB.symm;have cR:=I cj;clear cj;go_enter Tryz.func115,Tryz.ntmps115
 go_wp2_with fail
 rw[<-eB];clear eB
 go_loopw [7,8] (fun cY iv wr=>∃i:Nat,8*i<m+8/\iv=.int .i64 (i:Int)/\Blk wr B 218 cs/\Below B w wr/\B+1<=wr.heap.size/\wr.ownsRow (B+1) 5 1 cY (8*i) (bvs (strm K (upW N) (loW N) (8*i)))) (fun _ iv _=>m+8 - 8*(intOf iv).toNat)
 case atStart=>exact⟨0,by omega,rfl,cR.o,EB.o▸Ah.alloc Ag _,by have:=EB.o;simp;omega,rfl,.inl ⟨rfl,rfl⟩⟩
 case round=>
  obtain⟨i,hi,rfl,hB,hb,ct,av⟩:=hrel;have HB:=I hB;clear hB;have bB:=I hb;clear hb;have HS:=I ct;clear ct;have hlen:∃A cap,u7=.slice A (8*i) cap/\8*i<=cap/\(∀n k,(Value.slice A n cap).ownBlock=some k->B+1<=k):=by
   obtain⟨_,⟨h1,h2⟩ | ⟨g,cap,cur,h1,hg,_,O,_⟩⟩:=av
   ·exact⟨none,0,by rw[h1,h2],by omega,fun n k h=>by simp [Value.ownBlock] at h⟩
   ·exact⟨_,cap,h1,O,fun n k h=>by simp only[Value.ownBlock] at h;injection h with h;omega⟩
  obtain⟨A,cap,rfl,O,cr⟩:=hlen;have cw:=I cr;clear cr;have HO:=I av;clear av;obtain⟨o,eo⟩:=Ak (8*i);rw[<-eo];have EO:=I eo;clear eo
  by_cases hlt:(o:Int)<n
  ·have eb:(0:Int)<=(i:Int):=by omega
   have ea:(i:Int)<=200:=by have:=EO.o;have:=HM.o;have:=HN.o;omega
   have HH:=I hi;clear hi
   go_wp2_with (first | (refine Kc (by rfl) 218 (.tmp 3) (by rfl) B (by rfl) cs _ (Ad HB.o) Tryz.underlying218 (by rfl) dz.o ?_) | fail)
   have cd:(N:Int) / 4294967296 % 4294967296=((upW N).toNat:Int):=by rw[upW,BitVec.toNat_ofNat];have:=NN.o;omega
   have bs:((N:Int)+(i:Int)) % 4294967296=((loW N+BitVec.ofNat 32 i).toNat:Int):=by rw[loW,BitVec.toNat_add,BitVec.toNat_ofNat,BitVec.toNat_ofNat];omega
   rw[cd,bs];obtain⟨p,ep⟩:=Ak (Cc K (upW N,loW N+BitVec.ofNat 32 i));obtain⟨x0,ex⟩:=Ak (p.1);obtain⟨y0,ey⟩:=Ak (p.2);have c4:=cB (upW N) (loW N+BitVec.ofNat 32 i) wr;rw[<-ep,<-ex,<-ey] at c4;have cf:bvs (strm K (upW N) (loW N) (8*i))++eight x0 y0=bvs (strm K (upW N) (loW N) (8*(i+1))):=by rw[ex,ey,ep];exact QT K _ _ i
   have cP:=I cf;clear cf;clear ep ex ey cd bs;refine Aj c4 ?_;rintro w5 aw;have bz:=BS HO.o aw;rw[<-EO.o] at bz;have bn:=cP.o;rw[<-EO.o] at bn;have cy:=I bn;clear bn;have cn:=HB.o.below aw;have cq:=bt' bB.o HS.o aw;have cg:=Nat.le_trans HS.o aw.size;have cQ:=I bz;clear bz;have cL:=I cn;clear cn;have dy:=I cq;clear cq;have bq:=I cg;clear cg;clear aw c4
   go_wp2_with (first | (at_builtin;refine AI _ (by rfl) (.tmp 30) (.tmp 53) 33 (by rfl) (B+1) 5 ib _ 1 Tryz.underlying33 cX cM cT cA (by rfl) (.slice A o cap) o (bvs (strm K (upW N) (loW N) o)) (by rfl) (EW cQ.o (by rfl)) (w5.heap.size+1) (some ⟨w5.heap.size,0,none⟩) 8 8 (eight x0 y0) (by rfl) (by rfl) (Ha w5 5 _ (eight x0 y0) (by rfl) _ rfl) (by simp [eight,Value.oneCell']) (by have:=EO.o;unfold maxLen;omega) (by have:=EO.o;omega) (by have:=bq.o;simp;omega) ?_;intro v6 w6 Z M ck) | fail)
   have cu:=Blk.grown (Blk.alloc cL.o _) M (fun h=>by have:=cw.o _ _ h;omega);have cm:=Below.grown (dy.o.alloc (by have:=bq.o;omega) _) M (by have:=bq.o;simp;omega) (fun k hk=>by have:=cw.o _ _ hk;omega);have cp:=M.size;have cc:=Z;rw[cy.o,show o+8=8*(i+1) by have:=EO.o;omega] at cc;have B6:=I cu;clear cu;have B7:=I cm;clear cm;have S7:=I cp;clear cp;have O7:=I cc;clear cc;clear Z M ck
   go_wp2_with fail
   go_roundw
   case rel=>
    exact⟨i+1,by have:=EO.o;have:=HN.o;omega,by go_num,B6.o,B7.o,by have h1:=S7.o;have:=bq.o;simp at h1;omega,O7.o⟩
   case measure=>have:=EO.o;have:=HN.o;simp [intOf];omega
  ·have ed:n<=(o:Int):=by omega
   have e1:decide ((o:Int)<n)=false:=by simp;omega
   have cx:n<=(cap:Int):=by have:=EO.o;omega
   have HC:=I O;clear O
   by_cases h0:n<0
   ·go_wp2_with fail
    go_ret;have cb:m=0:=by have:=HN.o;omega
    refine⟨A,cap,by rw[cb];first | rfl | exact congrArg (fun k=>Ending.returned (Value.slice A k cap)) (show(max n 0).toNat=0 by omega),by rw[cb];exact Nat.zero_le _,?_,bB.o⟩;rw[cb];exact .inl rfl
   ·have h1:(0:Int)<=n:=by omega
    go_wp2_with fail
    go_ret;refine⟨A,cap,by rw[HN.o];first | rfl | exact congrArg (fun k=>Ending.returned (Value.slice A k cap)) (show(max n 0).toNat=n.toNat by omega),by have:=HN.o;omega,?_,bB.o⟩;have hr:=Rd.of_own HO.o;have ht:bvs (strm K (upW N) (loW N) m)=(bvs (strm K (upW N) (loW N) (8*i))).take m:=by
     rw[<-Te K (upW N) (loW N) m (8*i) (by have:=EO.o;have:=HN.o;omega)];simp [bvs,List.map_take]
    rw[ht];exact Rd.take hr m
end SpL
namespace Se
open Go.RowKit Af
def hk (f:Nat->UInt8) (i j:Nat):UInt8:=if j<i then f j else 0
theorem FR (f:Nat->UInt8) (j:Nat) (M:j<16):(Sp.AQ f)[j]? = some (bv (f j)):=Sp.FR f j M
theorem Yk (f:Nat->UInt8) (i:Nat) (hi:i<16):(Sp.AQ (hk f i)).setIfInBounds i (bv (f i))=Sp.AQ (hk f (i+1)):=by
 unfold Sp.AQ;rw[List.setIfInBounds_toArray]
 congr 1
 apply List.ext_getElem?;intro j;rw[List.getElem?_set,List.getElem?_map,List.getElem?_map]
 by_cases hj:i=j
 ·subst hj;simp [hi,hk]
 ·rw[if_neg hj]
  rcases Nat.lt_or_ge j 16 with h | h
  ·have e:(j<i)=(j<i+1):=propext ⟨by omega,by omega⟩
   simp [h,hk,e]
  ·rw[List.getElem?_eq_none (by simpa using h)];rfl
theorem df (f:Nat->UInt8):Sp.AQ (hk f 16)=Sp.AQ f:=Sp.Jr fun j M=>if_pos M
theorem TR (f:Nat->UInt8):Sp.AQ (hk f 0)=Sp.AQ (fun _=>0):=Sp.Jr fun j M=>rfl
theorem key32_at' (f:Nat->UInt8) (j:Nat) (M:j<32):(Bk f)[j]? = some (bv (f j)):=by
 rw[Bk,List.getElem?_toArray];simp [M]
theorem Ox {P:Program} {fn:Func} {tmps:Array Value} {w:World} {v1 v2:Value} (t1 t2:Nat) (Z O:TypeId) (a1 a2:Addr) (M:fn.results=#[.cell t1 Z,.cell t2 O]) (aw:tmps.getD t1 undef=.pointer (some a1)) (av:tmps.getD t2 undef=.pointer (some a2)) (bb:(loadVar Z a1).run P w=.ok v1 w) (bn:(loadVar O a2).run P w=.ok v2 w) :
  (results fn tmps).run P w=.ok (.tuple #[v1,v2]) w:=by
 have h1:tmps[t1]?.getD undef=.pointer (some a1):=by simpa using aw
 have h2:tmps[t2]?.getD undef=.pointer (some a2):=by simpa using av
 simp [results,M,h1,h2,asAddr,bb,bn]
theorem TS (ks:Nat->UInt8) (w:World):Calls Tryz.prog 114 #[.agg (Bk ks)] w fun e w'=>e=.returned (.tuple #[.agg (Sp.AQ ks),.agg (Sp.AQ (k2 ks))])/\Below w.heap.size w w':=by
 obtain⟨B,eB⟩:=Ak (w.heap.size);have EB:=I eB;have bn:Sp.AQ (fun _=>0)=#[.int .u8 0,.int .u8 0,.int .u8 0,.int .u8 0,.int .u8 0,.int .u8 0,.int .u8 0,.int .u8 0,.int .u8 0,.int .u8 0,.int .u8 0,.int .u8 0,.int .u8 0,.int .u8 0,.int .u8 0,.int .u8 0]:=rfl;have HZ:=I bn;clear bn;obtain⟨kc,bx⟩:=Ak (Bk ks);rw[<-bx];have EK:=I bx;clear bx;go_enter Tryz.func114,Tryz.ntmps114
 go_wp2_with fail
 rw[<-eB];clear eB
 go_loopw [6] (fun iv wr=>∃i:Nat,i<=16/\iv=.int .i64 (i:Int)/\Below B w wr/\wr.heap.size=B+5/\Blk wr B 39 kc/\Blk wr (B+1) 160 (Sp.AQ (fun _=>0))/\Blk wr (B+2) 160 (Sp.AQ (fun _=>0))/\Blk wr (B+3) 160 (Sp.AQ (hk ks i))/\Blk wr (B+4) 160 (Sp.AQ (hk (k2 ks) i))) (fun iv _=>16 - (intOf iv).toNat)
 case atStart=>
  have z1:Blk (w.alloc (.cells kc 39)) B 39 kc:=EB.o▸Blk.new w _ _;have q0:(w.alloc (.cells kc 39)).heap.size=B+1:=by rw[EB.o];simp
  have b0:Below B w (w.alloc (.cells kc 39)):=EB.o▸(Below.refl w.heap.size w).alloc Ag _;have key:∀(w1:World) (n:Nat),w1.heap.size=n->Blk (w1.alloc (.cells (Sp.AQ fun _=>0) 160)) n 160 (Sp.AQ fun _=>0)/\(w1.alloc (.cells (Sp.AQ fun _=>0) 160)).heap.size=n+1:=fun w1 n h=>⟨h▸Blk.new w1 _ _,by rw[<-h];simp⟩
  obtain⟨k1,q1⟩:=key _ _ q0;obtain⟨ca,q2⟩:=key _ _ q1;obtain⟨k3,q3⟩:=key _ _ q2;obtain⟨k4,q4⟩:=key _ _ q3;refine⟨0,by decide,rfl,?_,q4,(((z1.alloc _).alloc _).alloc _).alloc _,((k1.alloc _).alloc _).alloc _,(ca.alloc _).alloc _,?_,?_⟩
  ·exact(((b0.alloc (by have:=EB.o;simp;omega) _).alloc (by have:=EB.o;simp;omega) _).alloc (by have:=EB.o;simp;omega) _).alloc (by have:=EB.o;simp;omega) _
  ·rw[TR];exact k3.alloc _
  ·rw[TR];exact k4
 case round=>
  obtain⟨i,hi,rfl,hb,bB,h0,h1,h2,h3,h4⟩:=hrel;have HB:=I hb;clear hb;have HS:=I bB;clear bB
  by_cases hx:i=16
  ·subst hx
   rw[df] at h3 h4;obtain⟨cs,aw⟩:=Ak ((List.range 16).map (fun j=>bv (ks j)));obtain⟨ds,av⟩:=Ak ((List.range 16).map (fun j=>bv (k2 ks j)));have n3:cs.length=16:=by rw[aw];simp
   have n4:ds.length=16:=by rw[av];simp
   have o3:∀v∈cs,v.oneCell'=true:=by rw[aw];intro v hv;obtain⟨j,_,rfl⟩:=List.mem_map.1 hv;rfl
   have o4:∀v∈ds,v.oneCell'=true:=by rw[av];intro v hv;obtain⟨j,_,rfl⟩:=List.mem_map.1 hv;rfl
   have h3:Blk wr (B+3) 160 cs.toArray:=by rw[aw];exact h3
   have h4:Blk wr (B+4) 160 ds.toArray:=by rw[av];exact h4
   have r3:wr.drew.rangeAt (B+1+1+1) 0 cs:=by have:=Si.Ad h3;simpa using this
   have r4:wr.drew.rangeAt (B+1+1+1+1) 0 ds:=by have:=Si.Ad h4;simpa using this
   have t1:wr.drew.there (B+1) 0 16:=by have:=Si.Ar h1;rwa [Bd] at this
   have t2:wr.drew.there (B+1+1) 0 16:=by have:=Si.Ar h2;rwa [Bd] at this
   have u3:(Tryz.prog.info? 160).map (·.size)=some cs.length:=by rw[n3];kernel_rfl
   have u4:(Tryz.prog.info? 160).map (·.size)=some ds.length:=by rw[n4];kernel_rfl
   have Z:=Tryz.underlying160;have EC:=I aw;clear aw;have ED:=I av;clear av;clear h0 h1 h2 h3 h4
   go_wp2_with fail
   refine wp_region_held_drew (S:=fun w'=>w'.rangeAt (B+1+1+1) 0 cs/\w'.rangeAt (B+1+1+1+1) 0 ds/\w'.there (B+1) 0 16/\w'.there (B+1+1) 0 16) (by kernel_rfl) ⟨r3,r4,t1,t2⟩ (fun O=>?_);refine wpAnyH_take (i:=0) (v:=.agg cs.toArray) rfl (by kernel_rfl) (by kernel_rfl) (by kernel_rfl) (fun _ _ _ h=>h) (yieldsIf_load_mid (by rfl) 160 (.tmp 4) rfl (B+1+1+1) 0 rfl cs _ (fun _ h=>h.1) Z rfl u3) O ?_;refine wpAnyH_take (i:=1) (v:=.agg ds.toArray) rfl (by kernel_rfl) (by kernel_rfl) (by kernel_rfl) (fun _ _ _ h=>h) (yieldsIf_load_mid (by rfl) 160 (.tmp 5) rfl (B+1+1+1+1) 0 rfl ds _ (fun _ h=>h.2.1) Z rfl u4) O ?_;refine wpAnyH_ready (rs:=[2]) (by kernel_rfl) (by simp) ?_;refine AllReadyH.cons (o:=_) rfl (fun K hK=>?_) AllReadyH.nil;rw[if_pos (by rfl)];refine wp_store_mid 160 _ _ rfl (B+1) 0 cs.toArray rfl rfl (by rw[List.size_toArray,n3];exact O.2.2.1) (by rw[List.size_toArray];exact u3) (all_oneCell_toArray o3) ?_;refine hK.o _ _ ⟨World.rangeAt_setCells_apart O.1 _ _ _ (.inl (by omega)),World.rangeAt_setCells_apart O.2.1 _ _ _ (.inl (by omega)),World.there_setCells O.2.2.1 _ _ _,World.there_setCells O.2.2.2 _ _ _⟩ (fun M=>?_);clear hK K;refine wpAnyH_ready (rs:=[3]) (by kernel_rfl) (by simp) ?_;refine AllReadyH.cons (o:=_) rfl (fun K hK=>?_) AllReadyH.nil;rw[if_pos (by rfl)];refine wp_store_mid 160 _ _ rfl (B+1+1) 0 ds.toArray rfl rfl (by rw[List.size_toArray,n4];exact M.2.2.2) (by rw[List.size_toArray];exact u4) (all_oneCell_toArray o4) ?_;refine hK.o _ _ ⟨World.rangeAt_setCells_apart M.1 _ _ _ (.inl (by omega)),World.rangeAt_setCells_apart M.2.1 _ _ _ (.inl (by omega)),World.there_setCells M.2.2.1 _ _ _,World.there_setCells M.2.2.2 _ _ _⟩ (fun bb=>?_);clear hK K;refine wpAnyH_done (by kernel_rfl) ?_ _;have bz:((wr.drew.setCells (B+1) 0 cs).setCells (B+1+1) 0 ds).rangeAt (B+1) 0 cs:=World.rangeAt_setCells_apart (World.rangeAt_setCells_same _ _ _ _ (by rw[n3];exact t1)) _ _ _ (.inl (by omega));have bq:((wr.drew.setCells (B+1) 0 cs).setCells (B+1+1) 0 ds).rangeAt (B+1+1) 0 ds:=World.rangeAt_setCells_same _ _ _ _ (by rw[n4];exact M.2.2.2);have bs:Below B w ((wr.drew.setCells (B+1) 0 cs).setCells (B+1+1) 0 ds):=Si.Bo _ (by omega) _ _ _ (Si.Bo _ (by omega) _ _ _ (below_drewN HB.o 1));change Exit.then _ _ Exit.normal _ ((wr.drew.setCells (B+1) 0 cs).setCells (B+1+1) 0 ds)
   generalize (wr.drew.setCells (B+1) 0 cs).setCells (B+1+1) 0 ds=W3 at bz bq bs⊢;clear O M bb r3 r4 t1 t2;have q1:=run_loadVar_mid (P:=Tryz.prog) W3 (B+1) 0 160 cs _ bz Z rfl u3;have q2:=run_loadVar_mid (P:=Tryz.prog) W3 (B+1+1) 0 160 ds _ bq Z rfl u4;have Q1:=I q1;clear q1;have Q2:=I q2;clear q2;have BW:=I bs;clear bs;clear bz bq u3 u4 Z n3 n4 o3 o4 h3 h4
   go_wp2_with fail
   refine bodyPost_ret (v:=.tuple #[.agg cs.toArray,.agg ds.toArray]) (Ox 2 3 160 160 ⟨B+1,0,none⟩ ⟨B+1+1,0,none⟩ Tryz.results114 (by rfl) (by rfl) Q1.o Q2.o) (by rfl) ?_;exact⟨by rw[EC.o,ED.o];rfl,EB.o▸BW.o⟩
  ·have e1:(i:Int)<16:=by omega
   have e2:(0:Int)<=(i:Int):=by omega
   have e3:i<16:=by omega
   have e4:(16:Int)+(i:Int)<32:=by omega
   have e5:(0:Int)<=(16:Int)+(i:Int):=by omega
   have e6:16+i<32:=by omega
   have e7:i<32:=by omega
   obtain⟨x,ex⟩:=Ak (ks i);obtain⟨y,ey⟩:=Ak (ks (16+i));have g0:wr.cell? ⟨B,i,none⟩=some (.int .u8 (x.toNat:Int)):=by rw[h0.cell,EK.o,key32_at' ks i e7,ex];rfl
   have g1:wr.cell? ⟨B,16+i,none⟩=some (.int .u8 (y.toNat:Int)):=by rw[h0.cell,EK.o,key32_at' ks (16+i) e6,ey];rfl
   have f3:=h3.frozen;have f4:=h4.frozen;have c3:=h3.cell i;have c4:=h4.cell i;rw[FR _ _ e3] at c3 c4;simp only[bv] at c3 c4;have H0:=I h0;clear h0;have H1:=I h1;clear h1;have H2:=I h2;clear h2;have H3:=I h3;clear h3;have H4:=I h4;clear h4;have hw:IntKind.i64.wrap ((16:Int)+(i:Int))=(16:Int)+(i:Int):=by rw[IntKind.wrap_i64];omega
   have EX:=I ex;clear ex;have EY:=I ey;clear ey;have HX:=I hx;clear hx;have HI:=I hi;clear hi
   go_wp2_with fail
   go_region
   all_goals go_wp2_with fail
   all_goals
    go_roundw
    case rel=>
     have s3:=H3.o.set i (bv x);rw[EX.o,Yk ks i e3,<-EX.o] at s3;have s4:=(Si.Blk.far H4.o ⟨B+3,i,none⟩ (bv x) (by simp)).set i (bv y);rw[EY.o,show ks (16+i)=k2 ks i from rfl,Yk (k2 ks) i e3] at s4;refine⟨i+1,by omega,by go_num,?_,?_,?_,?_,?_,?_,?_⟩
     ·exact below_drewN (Si.AS (Si.AS HB.o (by simp;omega) _) (by simp;omega) _) 1
     ·simpa [World.setCell] using HS.o
     ·exact Si.Blk.far (Si.Blk.far H0.o ⟨B+3,i,none⟩ _ (show B+3≠B by omega)) ⟨B+4,i,none⟩ _ (show B+4≠B by omega)
     ·exact Si.Blk.far (Si.Blk.far H1.o ⟨B+3,i,none⟩ _ (show B+3≠B+1 by omega)) ⟨B+4,i,none⟩ _ (show B+4≠B+1 by omega)
     ·exact Si.Blk.far (Si.Blk.far H2.o ⟨B+3,i,none⟩ _ (show B+3≠B+2 by omega)) ⟨B+4,i,none⟩ _ (show B+4≠B+2 by omega)
     ·exact Si.Blk.far s3 ⟨B+4,i,none⟩ _ (show B+4≠B+3 by omega)
     ·exact(by have e:=s4;rw[show bv (k2 ks i)=bv y from by rw[EY.o];rfl] at e;exact e)
    case measure=>simp [intOf];omega
theorem dbig (N:Nat) (w:World) (hN:N<18446744073709551616) :
  Calls Tryz.prog 81 #[.int .u64 (N:Int)] w fun e w'=>∃v,e=.returned v/\w'.ownsRow w.heap.size 5 1 v 8 (bvs (w8 N))/\Below w.heap.size w w':=by
 obtain⟨ib,bx,ca,bs,bB⟩:=info_parts Si.Co;obtain⟨B,eB⟩:=Ak (w.heap.size);have EB:=I eB;clear eB;have HN:=I hN;clear hN;go_enter Tryz.func81,Tryz.ntmps81
 go_wp2_with fail
 go_loopw [3,4] (fun bz iv wr=>∃j:Nat,j<=8/\iv=.int .i64 (7 - (j:Int))/\wr.ownsRow B 5 1 bz j (laid [] N j)/\Below B w wr) (fun _ iv _=>(intOf iv+1).toNat)
 case atStart=>exact⟨0,by decide,rfl,⟨rfl,.inl ⟨rfl,rfl⟩⟩,Below.refl _ _⟩
 case round=>
  obtain⟨j,hj,rfl,av,bn⟩:=hrel;have HR:=I av;clear av;have HW:=I bn;clear bn
  by_cases hx:j=8
  ·subst hx
   go_wp2_with fail
   go_ret;exact⟨_,rfl,by have:=HR.o;rw[cU,List.nil_append] at this;exact EB.o▸this,EB.o▸HW.o⟩
  ·obtain⟨k,ek⟩:∃k:Nat,k=7 - j:=⟨_,rfl⟩
   obtain⟨m,em⟩:∃m:Nat,m=56 - 8*j:=⟨_,rfl⟩;have hk:(7:Int) - (j:Int)=(k:Int):=by omega
   rw[hk];have aw:j<8:=by omega
   have cf:(8:Int)*(k:Int)=(m:Int):=by omega
   have cg:m<64:=by omega
   have cb:(m:Int)<64:=by omega
   have ck:(0:Int)<=(m:Int):=by omega
   have cd:min m 64=m:=by omega
   have cc:(0:Int)<=(k:Int):=by omega
   have cj:(k:Int)<=7:=by omega
   have bb:=TJ [] N j aw;have hv:bv (UInt8.ofNat (N / 2 ^ (56 - 8*j)))=.int .u8 ((N:Int) / 2 ^ m % 256):=by
    unfold bv;rw[UInt8.toNat_ofNat',<-em];congr 1
   rw[hv] at bb;have NX:=I bb;clear bb;have EM:=I em;clear em;have EK:=I ek;clear ek;have HX:=I hx;clear hx;have HJ:=I hj;clear hj;have Z:=I aw;clear aw;clear hk hv
   go_wp2_with (first | (at_builtin;refine AI _ (by rfl) (.tmp 9) (.tmp 16) 33 (by rfl) B 5 ib _ 1 Tryz.underlying33 bx ca bs bB (by rfl) _ j (laid [] N j) (by rfl) (EW HR.o (by rfl)) (wr.heap.size+1) (some ⟨wr.heap.size,0,none⟩) 1 1 [.int .u8 ((N:Int) / 2 ^ m % 256)] (by rfl) (by rfl) (Si.Ha wr 5 _ [.int .u8 ((N:Int) / 2 ^ m % 256)] (by rfl) _ rfl) (by simp [Value.oneCell']) (by have:=Z.o;unfold maxLen;omega) (by have:=Z.o;omega) (by have:=EB.o;have:=HW.o.size;simp;omega) ?_;intro v6 w6 O M bq;have O6:=I O;have G6:=I M;clear O M bq) | fail)
   go_roundw
   case rel=>
    refine⟨j+1,by have:=Z.o;omega,?_,by rw[<-NX.o];exact O6.o,?_⟩
    ·exact congrArg (Value.int .i64) (by have:=EK.o;have:=Z.o;omega)
    ·exact(HW.o.alloc (by have:=EB.o;have:=HW.o.size;omega) _).grown G6.o (by have:=EB.o;have:=HW.o.size;simp;omega) (fun q hq=>(HR.o.lt q hq).1)
   case measure=>simp [intOf]
theorem TT (ks:Nat->UInt8) (u n:Nat) (p:List UInt8) (i:Nat) (h:i<p.length) (M:i<(Dx ks u n p.length).length):bvs ((mixL ks u n p).take i)++[bv (p[i] ^^^ (Dx ks u n p.length)[i])]=bvs ((mixL ks u n p).take (i+1)):=by
 rw[List.take_add_one,TA ks u n p i h M,Bz];rfl
theorem dh (y x:UInt8):bits .xor .u8 (y.toNat:Int) (x.toNat:Int)=((y ^^^ x).toNat:Int):=by
 rw[u8_xor_nat _ _ y.toNat_lt x.toNat_lt,UInt8.toNat_xor]
def twoW (w1:World) (z:Array Value) (t:TypeId) (cs ds:Array Value):World:=(((w1.alloc (.cells z t)).alloc (.cells z t)).setCells w1.heap.size 0 cs.toList).setCells (w1.heap.size+1) 0 ds.toList
theorem Ku (w1:World) (z:Array Value) (t:TypeId) (cs ds:Array Value) (Z:z.size=cs.size) (M:z.size=ds.size) :
  (twoW w1 z t cs ds).rangeAt w1.heap.size 0 cs.toList/\(twoW w1 z t cs ds).rangeAt (w1.heap.size+1) 0 ds.toList/\Below w1.heap.size w1 (twoW w1 z t cs ds)/\w1.heap.size+2<=(twoW w1 z t cs ds).heap.size:=by
 have t1:((w1.alloc (.cells z t)).alloc (.cells z t)).there w1.heap.size 0 cs.toList.length:=by
  have:=World.there_alloc (Si.Ar (Blk.new w1 t z)) (.cells z t)
  rwa [Z,<-Array.length_toList] at this
 have O:((w1.alloc (.cells z t)).alloc (.cells z t)).there (w1.heap.size+1) 0 ds.toList.length:=by
  have:=Si.Ar (Si.Blk.new_of (w1.alloc (.cells z t)) (w1.heap.size+1) t z z rfl (by simp))
  rwa [M,<-Array.length_toList] at this
 refine⟨World.rangeAt_setCells_apart (World.rangeAt_setCells_same _ _ _ _ t1) _ _ _ (.inl (by omega)),World.rangeAt_setCells_same _ _ _ _ (World.there_setCells O _ _ _),?_,?_⟩
 ·exact Si.Bo _ (by omega) _ _ _ (Si.Bo _ Ag _ _ _ ((Ah.alloc Ag _).alloc (by simp) _))
 ·unfold twoW;rw[SpL.Fb,SpL.Fb];simp
theorem dmix (ks:Nat->UInt8) (u n:Nat) (A:Option Addr) (m c:Nat) (p:List UInt8) (w:World) (hu:u<=255) (hn:n<18446744073709551616) (hm:m=p.length) (cr:m<=1000) (hr:Rd w w.heap.size A (bvs p)) :
  Calls Tryz.prog 82 #[.agg (Bk ks),.int .i64 (u:Int),.int .u64 (n:Int),.slice A m c] w fun e w'=>∃v,e=.returned v/\w'.ownsRow w.heap.size 5 1 v m (bvs (mixL ks u n p))/\Below w.heap.size w w':=by
 obtain⟨ib,ev,ep,er,eK⟩:=info_parts Si.Co;obtain⟨B,eB⟩:=Ak (w.heap.size);obtain⟨N,eN⟩:=Ak (sn u n);have cx:=TM u n hu;have Z:=cZ u n hu;have O:=da u n;rw[<-eN] at cx Z O;have eR:(u:Int) % 18446744073709551616=(u:Int):=by omega
 have cb:Sp.strm (Sp.kw ks) (Sp.upW N) (Sp.loW N) m=Dx ks u n m:=by rw[eN];rfl
 have ch:=fun w1=>TS ks w1
 have cw:=fun w1=>Sp.bX ks w1
 have bx:=fun w1=>SpL.ZT (Sp.kw ks) N m (m:Int) w1 O cr (by simp)
 rw[cb] at bx;have i32:=Kr ks;have i16:=Jw ks;have bq:=Jw (k2 ks);have cn:=TI ks;have aw:=TI (k2 ks);have cq:=Bd ks;have bn:=Bd (k2 ks);obtain⟨kc,cX⟩:=Ak (Bk ks);obtain⟨cs,cQ⟩:=Ak (Sp.AQ ks);obtain⟨ds,cA⟩:=Ak (Sp.AQ (k2 ks));obtain⟨xs,dy⟩:=Ak (Sp.AY (Sp.kw ks));rw[<-cX] at ch i32⊢;rw[<-cQ] at ch cw i16 cn cq;rw[<-cA] at ch bq aw bn;rw[<-dy] at cw bx;have hz:Sp.AQ (fun _=>0)=#[.int .u8 0,.int .u8 0,.int .u8 0,.int .u8 0,.int .u8 0,.int .u8 0,.int .u8 0,.int .u8 0,.int .u8 0,.int .u8 0,.int .u8 0,.int .u8 0,.int .u8 0,.int .u8 0,.int .u8 0,.int .u8 0]:=rfl;have EB:=I eB;have HR:=I (eB▸hr);clear hr;have HM:=I hm;clear hm;have q3:(m:Int)<=1000:=by omega
 have ea:=I cr;clear cr;have ew:=I i32;clear i32;have ei:=I i16;clear i16;have cT:=I bq;clear bq;have eu:=I cn;clear cn;have ek:=I aw;clear aw;have cR:=I cq;clear cq;have ck:=I bn;clear bn;have HZ:=I hz;clear hz;have eo:=I bx;clear bx;have eJ:=I cx;clear cx;have cP:=I Z;have eg:Hid (((n:Int)*256+(u:Int)) % 18446744073709551616=(N:Int)):=by rw[<-Z];show _=_;omega
 have eb:Hid (IntKind.u64.wrap (IntKind.u64.wrap ((n:Int)*256)+(u:Int))=(N:Int)):=by rw[IntKind.wrap_u64,IntKind.wrap_u64];omega
 clear Z;have h0:Blk (w.alloc (.cells kc 39)) B 39 kc:=eB▸Blk.new w _ _;have cj:Below B w (w.alloc (.cells kc 39)):=eB▸(Below.refl w.heap.size w).alloc Ag _;have H0:=I h0;clear h0;have eF:=I cj;clear cj;clear hu hn cb O eN cX cQ cA dy eB;go_enter Tryz.func82,Tryz.ntmps82
 go_upto_region 2 with(first
  |(refine Am (by rfl) 39 (.tmp 4) (by rfl) w.heap.size 0 (by rfl) kc _ (Si.Ad (Blk.new w 39 kc)) Tryz.underlying39 (by rfl) ew.o ?_)
  |(go_at_call 114;refine Aj (ch _) ?_;rintro w1 bs;clear ch;have bs:=eF.o.trans (bs.mono (by have:=EB.o;simp;omega));have H1:=I bs;clear bs)
  |(refine wpList_store_mid (by rfl) 160 (.tmp 9) (.tmp 17) (by rfl) w1.heap.size 0 cs (by rfl) (by rfl) (by rw[cR.o];exact World.there_alloc (by have:=Si.Ar (Blk.new w1 160 (Sp.AQ fun _=>0));rwa [Bd] at this) _) ei.o eu.o ?_)
  |(refine wpList_store_mid (by rfl) 160 (.tmp 10) (.tmp 18) (by rfl) (w1.heap.size+1) 0 ds (by rfl) (by rfl) (by rw[ck.o];exact World.there_setCells (by have:=Si.Ar (Si.Blk.new_of (w1.alloc (.cells (Sp.AQ fun _=>0) 160)) (w1.heap.size+1) 160 _ (Sp.AQ fun _=>0) rfl (by simp));rwa [Bd] at this) _ _ _) cT.o ek.o ?_)
  |fail)
 have h2:=Ku w1 (Sp.AQ fun _=>0) 160 cs ds (by rw[Bd,cR.o]) (by rw[Bd,ck.o]);change Code.wp _ _ _ _ (twoW w1 (Sp.AQ fun _=>0) 160 cs ds);generalize twoW w1 (Sp.AQ fun _=>0) 160 cs ds=W2 at h2⊢;have bb:=H1.o.trans (h2.2.2.1.mono (by have:=H1.o.size;have:=EB.o;omega));have cM:=I bb;clear bb;have eL:=I h2.1;clear h2;have ef:=cw W2;clear cw
 go_wp2_with (first
  |(refine Am (by rfl) 160 (.tmp 9) (by rfl) w1.heap.size 0 (by rfl) cs _ eL.o Tryz.underlying160 (by rfl) ei.o ?_)
  |(go_at_call 116;refine Aj ef ?_;rintro w3 bz;clear ef;have bz:=cM.o.trans (bz.mono (by have:=cM.o.size;have:=EB.o;omega));have c4:=eo.o w3;have H3:=I bz;clear bz)
  |(go_at_call 115;(first | rw[cP.o] | rw[eJ.o] | rw[eg.o] | rw[eb.o]);refine Calls.mono c4 ?_;rintro e w5 ⟨As,sc,rfl,eQ,dz,bB⟩;clear c4;have bB:=H3.o.trans (bB.mono (by have:=H3.o.size;have:=EB.o;omega));have H5:=I bB;have RS:=I dz;clear bB dz)
  |fail)
 obtain⟨N0,ej⟩:=Ak (w5.heap.size);have EN:=I ej;clear ej;have cB:(Dx ks u n m).length=m:=BM ks u n m;have eT:=I cB;clear cB
 go_loopw [12,13] (fun eE iv wr=>∃i:Nat,i<=m/\iv=.int .i64 (i:Int)/\wr.ownsRow N0 5 1 eE i (bvs ((mixL ks u n p).take i))/\Below N0 w5 wr) (fun _ iv _=>m - (intOf iv).toNat)
 case atStart=>exact⟨0,Nat.zero_le _,rfl,⟨rfl,.inl ⟨rfl,rfl⟩⟩,Below.refl _ _⟩
 case round=>
  obtain⟨i,hi,rfl,cg,ed⟩:=hrel;have HO:=I cg;clear cg;have HW:=I ed;clear ed
  by_cases hx:i=m
  ·subst hx
   go_wp2_with fail
   go_ret;have h9:=HO.o;rw[List.take_of_length_le (by rw[Bx,HM.o];exact Nat.le_refl _)] at h9;refine⟨_,rfl,h9.mono (by have:=EN.o;have:=H5.o.size;omega),?_⟩;rw[<-EB.o];exact H5.o.trans (HW.o.mono (by have:=EN.o;have:=H5.o.size;have:=EB.o;omega))
  ·have ct:i<m:=by omega
   have cp:i<p.length:=by have:=HM.o;omega
   have e1:(i:Int)<(m:Int):=by omega
   have e2:(0:Int)<=(i:Int):=by omega
   have e3:(i:Int)<1000:=by omega
   have ec:i<(Dx ks u n p.length).length:=by rw[BM];exact cp
   have cc:i<(Dx ks u n m).length:=by rw[BM];exact ct
   obtain⟨y,ey⟩:=Ak (p[i]);obtain⟨x,ex⟩:=Ak ((Dx ks u n p.length)[i]);obtain⟨z,ez⟩:=Ak (y ^^^ x);obtain⟨b1,o1,rfl,cf,cy⟩:=HR.o.at_ (Gf cp);obtain⟨b2,o2,rfl,cY,cm⟩:=RS.o.at_ (Gf cc);rw[<-ey] at cy;have hex:(Dx ks u n m)[i]=x:=by
    rw[ex];have:=HM.o;subst this
    rfl
   rw[hex] at cm;have cd:b1<N0:=by have:=EN.o;have:=H5.o.size;have:=EB.o;omega
   have ca:b2<N0:=by have:=EN.o;omega
   have d1:wr.cell? ⟨b1,o1+i,none⟩=some (.int .u8 (y.toNat:Int)):=(HW.o.cell (p:=⟨b1,o1+i,none⟩) cd).trans ((H5.o.cell (p:=⟨b1,o1+i,none⟩) cf).trans cy);have d2:wr.cell? ⟨b2,o2+i,none⟩=some (.int .u8 (x.toNat:Int)):=(HW.o.cell (p:=⟨b2,o2+i,none⟩) ca).trans cm;have eP:bits .xor .u8 (y.toNat:Int) (x.toNat:Int)=(z.toNat:Int):=by rw[ez];exact dh y x
   have cu:=TT ks u n p i cp ec;rw[<-ey,<-ex,<-ez] at cu;have NX:=I cu;clear cu;have HX:=I hx;clear hx;have HI:=I hi;clear hi;clear ey ex ez cy cm hex ec cc cf cY cd ca
   go_wp2_with fail
   go_region_law (refine step_append_lies _ (by rfl) (.tmp 35) (.tmp 45) 33 (by rfl) N0 5 ib _ 1 1 Tryz.underlying33 ev ep er eK (by rfl) (by decide) u12 i (bvs ((mixL ks u n p).take i)) (by rfl) (EW HO.o (by rfl)) ⟨wr.heap.size,0,none⟩ 1 1 [.int .u8 (z.toNat:Int)] (by rfl) (by rfl) (Sp.MD (by rfl)) (by simp [Value.oneCell']) (by decide) (by have:=HI.o;have:=ea.o;unfold maxLen;omega) (by have:=HI.o;have:=ea.o;omega) (by have:=EN.o;have:=HW.o.size;simp;omega) (wr.heap.size+1) (by simp) ?_;intro g2 eM w2 av M et ct)
   all_goals (
    have cL:(wr.alloc (.cells #[.int .u8 (z.toNat:Int)] 5)).grownBy w2 u12.ownBlock:=⟨M.os,M.tape,M.output,M.size,M.block⟩;have bb:=(HW.o.alloc (by have:=EN.o;have:=HW.o.size;omega) (Obj.cells #[.int .u8 (z.toNat:Int)] 5)).grown cL (by have:=EN.o;have:=HW.o.size;simp;omega) (fun q hq=>(HO.o.lt q hq).1);have O6:=I av;clear av;have B6:=I bb;clear bb;clear M et ct cL d1 d2
    go_wp2_with fail
    go_roundw
    case rel=>exact⟨i+1,by omega,by go_num,by rw[<-NX.o];exact O6.o,B6.o⟩
    case measure=>simp [intOf];omega)
theorem Gu {w w':World} {b o:Nat} {cs:List Value} {row:Option Nat} (h:w.rangeAt b o cs) (O:b<w.heap.size) (Z:w.grownBy w' row) (M:row≠some b):w'.rangeAt b o cs:=fun j v hv=>
 (World.cell?_of_block (a:=⟨b,o+j,none⟩) (Z.block b O (fun e=>M e.symm))).trans (h j v hv)
theorem Fc {w w':World} {b o:Nat} {cs:List Value} (h:w.rangeAt b o cs) (M:b<w.heap.size) (O:Below w.heap.size w w'):w'.rangeAt b o cs:=Gu h M (Dg O none) (by simp)
theorem dtag (ks:Nat->UInt8) (u:Nat) (A:Option Addr) (m c:Nat) (l:List UInt8) (w:World) (hu:u<=255) (hm:m=l.length) (eb:m<=1000) (hr:Rd w w.heap.size A (bvs l)) :
  Calls Tryz.prog 83 #[.agg (Bk ks),.int .i64 (u:Int),.slice A m c] w fun e w'=>∃v,e=.returned v/\w'.ownsRow w.heap.size 5 1 v 8 (bvs (w8 (tagL ks u l)))/\Below w.heap.size w w':=by
 obtain⟨ib,ey,eo,er,ek⟩:=info_parts Si.Co;obtain⟨B,eB⟩:=Ak (w.heap.size);have ch:=fun w1=>TS ks w1
 have i32:=Kr ks;have i16:=Jw ks;have aw:=Jw (k2 ks);have ck:=TI ks;have cb:=TI (k2 ks);have cm:=Bd ks;have bs:=Bd (k2 ks);obtain⟨T,eT⟩:=Ak (tagL ks u l);have cB:T<18446744073709551616:=by rw[eT];exact TB _ _ _
 have av:=fun(w4:World) (A4:Option Addr) (c4:Nat) (h1:1+m<=c4) (h2:c4<=maxLen) (h3:Rd w4 w4.heap.size A4 (bvs (UInt8.ofNat u :: l)))=>Si.Ww (k2 ks) A4 (1+m) c4 (UInt8.ofNat u :: l) w4 (by rw[List.length_cons,hm,Nat.add_comm]) (by omega) h1 h2 h3
 have hT:∀e,e=Ending.returned (Si.wv (Si.Hy (k2 ks) (UInt8.ofNat u :: l)))->e=.returned (.int .u64 (T:Int)):=fun e h=>by rw[h,eT];rfl
 have cj:[Value.int .u8 (u:Int)]++bvs l=bvs (UInt8.ofNat u :: l):=by
  show [Value.int .u8 (u:Int)]++bvs l=bv (UInt8.ofNat u) :: bvs l;rw[Yi u hu];rfl
 obtain⟨kc,ed⟩:=Ak (Bk ks);obtain⟨cs,dy⟩:=Ak (Sp.AQ ks);have eE:∃dl:List Value,dl.toArray=Sp.AQ (k2 ks):=⟨_,rfl⟩;obtain⟨dl,cp⟩:=eE;obtain⟨L,eL⟩:=Ak (UInt8.ofNat u :: l);rw[<-ed] at ch i32⊢;rw[<-dy] at ch i16 ck cm;rw[<-cp] at ch aw cb bs;have cA:Si.AQ (k2 ks)=Sp.AQ (k2 ks):=rfl;rw[cA,<-cp] at av;rw[<-eL] at av hT cj;rw[<-eT];have u16:(Tryz.prog.info? 160).map (·.size)=some dl.length:=by rw[<-List.size_toArray];exact aw
 have ca:=Tryz.underlying160;have eM:(u:Int)<=255:=by omega
 have eN:(0:Int)<=(u:Int):=by omega
 have ev:(u:Int) % 256=(u:Int):=by omega
 have eK:IntKind.u8.wrap (u:Int)=(u:Int):=by rw[IntKind.wrap_u8'];exact ev
 have EB:=I eB;have HR:=I (eB▸hr);clear hr;have HM:=I hm;clear hm;have q3:(m:Int)<=1000:=by omega
 have cw:=I eb;clear eb;have ez:=I i32;clear i32;have eF:=I i16;clear i16;have ec:=I aw;clear aw;have ew:=I ck;clear ck;have ef:=I cb;clear cb;have cY:=I cm;clear cm;have cf:=I bs;clear bs;have cT:=I av;clear av;have HT:=I hT;clear hT;have eu:=I cj;clear cj;have TL:=I cB;clear cB;have eJ:=I u16;clear u16;have cP:=I ca;clear ca;have cd:Below B w (w.alloc (.cells kc 39)):=eB▸(Below.refl w.heap.size w).alloc Ag _;have eg:=I cd;clear cd;clear hu ed dy cp eT eL cA eB;go_enter Tryz.func83,Tryz.ntmps83
 go_upto_region 2 with(first
  |(refine Am (by rfl) 39 (.tmp 3) (by rfl) w.heap.size 0 (by rfl) kc _ (Si.Ad (Blk.new w 39 kc)) Tryz.underlying39 (by rfl) ez.o ?_)
  |(go_at_call 114;refine Aj (ch _) ?_;rintro w1 cc;clear ch;have cc:=eg.o.trans (cc.mono (by have:=EB.o;simp;omega));have H1:=I cc;clear cc)
  |(refine wpList_store_mid (by rfl) 160 (.tmp 7) (.tmp 12) (by rfl) w1.heap.size 0 cs (by rfl) (by rfl) (by rw[cY.o];exact World.there_alloc (by have:=Si.Ar (Blk.new w1 160 (Sp.AQ fun _=>0));rwa [Bd] at this) _) eF.o ew.o ?_)
  |(refine wpList_store_mid (by rfl) 160 (.tmp 8) (.tmp 13) (by rfl) (w1.heap.size+1) 0 dl.toArray (by rfl) (by rfl) (by rw[cf.o];exact World.there_setCells (by have:=Si.Ar (Si.Blk.new_of (w1.alloc (.cells (Sp.AQ fun _=>0) 160)) (w1.heap.size+1) 160 _ (Sp.AQ fun _=>0) rfl (by simp));rwa [Bd] at this) _ _ _) ec.o ef.o ?_)
  |fail)
 have h2:=Ku w1 (Sp.AQ fun _=>0) 160 cs dl.toArray (by rw[Bd,cY.o]) (by rw[Bd,cf.o]);change Code.wp _ _ _ _ (twoW w1 (Sp.AQ fun _=>0) 160 cs dl.toArray);generalize twoW w1 (Sp.AQ fun _=>0) 160 cs dl.toArray=W2 at h2⊢;have cy:=H1.o.trans (h2.2.2.1.mono (by have:=H1.o.size;have:=EB.o;omega));have cL:Hid (Below B w W2.drew):=below_drewN cy 1;have cq:W2.drew.rangeAt (w1.heap.size+1) 0 dl:=by have:=h2.2.1;simpa using this
 have ei:=I (show w1.heap.size+2<=W2.drew.heap.size from h2.2.2.2);clear h2 cy;have ca:=cP.o;have u16:=eJ.o;simp only[Act.put];have ep:Hid ((W2.alloc (.cells #[.int .u8 (u:Int)] 5)).drew.ownsRow W2.heap.size 5 1 (.slice (some ⟨W2.heap.size,0,none⟩) 1 1) 1 [.int .u8 (u:Int)]):=World.ownsRow_lit (base:=W2.heap.size) (e:=5) (size:=1) W2.drew #[.int .u8 (u:Int)] 1 Ag (by decide) (by rfl);have cn:B<=W2.drew.heap.size:=by have:=cL.o.size;have:=EB.o;omega
 have cu:Hid (Below B w (W2.alloc (.cells #[.int .u8 (u:Int)] 5)).drew):=cL.o.alloc cn (.cells #[.int .u8 (u:Int)] 5);have et:Hid (Rd (W2.alloc (.cells #[.int .u8 (u:Int)] 5)).drew B A (bvs l)):=HR.o.below cu.o;have bz:(W2.alloc (.cells #[.int .u8 (u:Int)] 5)).drew.rangeAt (w1.heap.size+1) 0 dl:=World.rangeAt_alloc cq (.cells #[.int .u8 (u:Int)] 5);have O:Hid ((W2.alloc (.cells #[.int .u8 (u:Int)] 5)).drew.heap.size=W2.heap.size+1):=by show(W2.alloc _).heap.size=_;simp
 have bb:Hid (w1.heap.size+2<=W2.heap.size):=ei.o;have cR:Hid (B<=W2.heap.size):=cn;clear cn
 go_region_held3 (fun w'=>w'.rangeAt (w1.heap.size+1) 0 dl) (first | exact cq | exact bz | exact ct | exact cr | exact cX) (first
  |(rw[if_pos (by rfl)];refine Ft _ (.tmp 17) (.tmp 18) 33 (by rfl) W2.heap.size 5 ib _ 1 Tryz.underlying33 ey eo er ek (by rfl) _ 1 [.int .u8 (u:Int)] (by rfl) ep.o B A m c (bvs l) (by rfl) (by rw[AG];exact HM.o) et.o (BA _) (by have:=cw.o;unfold maxLen;omega) (by have:=cw.o;omega) (by have:=O.o;omega) ?_;intro v4 w4 Z M cM;rw[eu.o] at Z;have ct:w4.rangeAt (w1.heap.size+1) 0 dl:=Gu bz (by have:=O.o;have:=bb.o;omega) M (by have:=bb.o;simp [Value.ownBlock];omega);have dz:Below B w w4:=cu.o.grown M (by have:=O.o;have:=cR.o;omega) (fun k hk=>by have:=cR.o;simp [Value.ownBlock] at hk;omega);obtain⟨A4,c4,ej,cx,cQ,ea⟩:=Jy (S:=fun _=>False) Z (fun _ _ x=>x);subst ej;have bB:=cT.o w4 A4 c4 cx cQ ea.rd;have H4:=I dz;have Z4:=I M.size;clear Z M cM dz cx cQ ea)
  |(go_at_call 117;refine Calls.mono bB ?_;rintro e w5 ⟨he,bn⟩;have he:=HT.o e he;subst he;clear bB;have cr:w5.rangeAt (w1.heap.size+1) 0 dl:=Fc ct (by have:=Z4.o;have:=O.o;have:=bb.o;omega) bn;have Z5:=I bn.size;have bn:=H4.o.trans (bn.mono (by have:=H4.o.size;have:=EB.o;omega));have cg:=dbig T w5 TL.o;have H5:=I bn;clear bn)
  |(go_at_call 81;refine Calls.mono cg ?_;rintro e w6 ⟨v6,rfl,bq,bx⟩;clear cg;have cX:w6.rangeAt (w1.heap.size+1) 0 dl:=Fc cr (by have:=Z4.o;have:=Z5.o;have:=O.o;have:=bb.o;omega) bx;have bx:=H5.o.trans (bx.mono (by have:=H5.o.size;have:=EB.o;omega));have H6:=I bx;have O6:=I bq;have Z6:=I H5.o.size;clear bx bq))
 all_goals (
  clear cq bz ct cr cX
  go_wp2_with fail
  go_ret;exact⟨_,rfl,O6.o.mono (by have:=Z6.o;have:=EB.o;omega),EB.o▸H6.o⟩)
theorem TU (ks:Nat->UInt8) (u n:Int) (A:Option Addr) (m c:Nat) (w:World) (hx:¬(0<=u/\u<=255/\0<=n/\n<=1099511627776/\m<=784)) :
  Calls Tryz.prog 41 #[.agg (Bk ks),.int .i64 u,.int .i64 n,.slice A m c] w fun e w'=>e=.returned (.tuple #[.slice none 0 0,.int .i64 1])/\Below w.heap.size w w':=by
 obtain⟨kc,M⟩:=Ak (Bk ks);rw[<-M];have t:(decide (u<0)=true)\/(decide (u<0)=false/\decide (255<u)=true)\/(decide (u<0)=false/\decide (255<u)=false/\decide (n<0)=true)\/(decide (u<0)=false/\decide (255<u)=false/\decide (n<0)=false/\decide (1099511627776<n)=true)\/(decide (u<0)=false/\decide (255<u)=false/\decide (n<0)=false/\decide (1099511627776<n)=false/\decide (784<(m:Int))=true):=by
  simp only[decide_eq_true_eq,decide_eq_false_iff_not];omega
 have HB:=I ((Below.refl w.heap.size w).alloc Ag (.cells kc 39));clear hx M;rcases t with O | ⟨O,Z⟩ | ⟨O,Z,t3⟩ | ⟨O,Z,t3,t4⟩ | ⟨O,Z,t3,t4,t5⟩<;>(
  go_enter Tryz.func41,Tryz.ntmps41
  go_wp2
  go_ret2
  exact⟨rfl,HB.o⟩)
theorem TV (ks:Nat->UInt8) (u n:Nat) (A:Option Addr) (m c:Nat) (p:List UInt8) (w:World) (hu:u<=255) (hn:n<=1099511627776) (hm:m=p.length) (cj:m<=784) (hr:Rd w w.heap.size A (bvs p)) :
  Calls Tryz.prog 41 #[.agg (Bk ks),.int .i64 (u:Int),.int .i64 (n:Int),.slice A m c] w fun e w'=>∃A2 c2,e=.returned (.tuple #[.slice A2 (m+16) c2,.int .i64 0])/\RdA (fun i=>i<w.heap.size) w' A2 (bvs (Ek ks u n p))/\Below w.heap.size w w'/\m+16<=c2/\c2<=maxLen:=by
 obtain⟨ib,cY,cM,cX,ea⟩:=info_parts Si.Co;obtain⟨B,eB⟩:=Ak (w.heap.size);have bq:=fun(w1:World) (h1:Rd w1 w1.heap.size A (bvs p))=>dmix ks u n A m c p w1 hu (by omega) hm (by omega) h1
 have cd:=fun(w1:World)=>dbig n w1 (by omega)
 obtain⟨L,eL⟩:=Ak (Gk ks u n p);have cf:bvs (w8 n)++bvs (mixL ks u n p)=bvs L:=by rw[eL,Gk,Bz]
 have cA:8+m=L.length:=by rw[eL,Cj,<-hm]
 have bs:=fun(w1:World) (A1:Option Addr) (c1:Nat) (h1:Rd w1 w1.heap.size A1 (bvs L))=>dtag ks u A1 (8+m) c1 L w1 hu cA (by omega) h1
 have cc:bvs L++bvs (w8 (tagL ks u L))=bvs (Ek ks u n p):=by rw[eL,<-Bz];rfl
 have cw:(bvs (mixL ks u n p)).length=m:=by rw[AG,Bx,hm]
 obtain⟨M,eM⟩:=Ak (bvs (mixL ks u n p));obtain⟨W8,eu⟩:=Ak (bvs (w8 n));obtain⟨T8,cg⟩:=Ak (bvs (w8 (tagL ks u L)));have oM:∀v∈M,v.oneCell'=true:=eM▸BA _;have oT:∀v∈T8,v.oneCell'=true:=cg▸BA _;have ed:T8.length=8:=by rw[cg,AG,Dw]
 rw[<-eM] at bq cf cw;rw[<-eu] at cd cf;rw[<-cg] at bs cc;have eX:∃kl:List Value,kl.toArray=Bk ks:=⟨_,rfl⟩;obtain⟨kl,cx⟩:=eX;have u32:(Tryz.prog.info? 39).map (·.size)=some kl.length:=by rw[<-List.size_toArray,cx];exact Kr ks
 have ek:=Tryz.underlying39;rw[<-cx] at bq bs⊢;have q1:(n:Int)<=1099511627776:=by omega
 have q2:(0:Int)<=(n:Int):=by omega
 have q3:(m:Int)<=784:=by omega
 have q4:IntKind.u64.wrap (n:Int)=(n:Int):=by rw[IntKind.wrap_u64];omega
 have q5:(n:Int) % 18446744073709551616=(n:Int):=by omega
 have t1:decide ((u:Int)<0)=false:=by simp
 have t2:decide (255<(u:Int))=false:=by simp;omega
 have t3:decide ((n:Int)<0)=false:=by simp
 have t4:decide (1099511627776<(n:Int))=false:=by simp;omega
 have t5:decide (784<(m:Int))=false:=by simp;omega
 have EB:=I eB;have HR:=I (eB▸hr);clear hr;have ck:=I cj;clear cj;have cL:=I bq;clear bq;have ep:=I cd;clear cd;have eo:=I bs;clear bs;have eT:=I cf;clear cf;have cB:=I cc;clear cc;have eW:=I cw;clear cw;have ew:=I ed;clear ed;have OM:=I oM;clear oM;have OT:=I oT;clear oT;have cq:(w.alloc (.cells kl.toArray 39)).drew.rangeAt w.heap.size 0 kl:=by have:=Si.Ad (Blk.new w 39 kl.toArray);simpa using this
 have eR:Hid (Below B w (w.alloc (.cells kl.toArray 39)).drew):=eB▸below_drewN ((Below.refl w.heap.size w).alloc Ag _) 1;have cn:Hid ((w.alloc (.cells kl.toArray 39)).drew.heap.size=B+1):=by show(w.alloc _).heap.size=_;simp [eB]
 have cb:=ep.o (w.alloc (.cells kl.toArray 39)).drew;clear hu hn hm cA eM eu cg cx eB eL;go_enter Tryz.func41,Tryz.ntmps41
 go_upto_region 3 with fail
 go_region_held3 (fun w'=>w'.rangeAt w.heap.size 0 kl) (first | exact cq | exact cu | exact cr | exact cp) (first
  |(rw[if_pos (by rfl)];refine Ft _ (.tmp 32) (.tmp 38) 33 (by rfl) (B+1) 5 ib _ 1 Tryz.underlying33 cY cM cX ea (by rfl) v1 8 W8 (by rfl) O2.o w2.heap.size A2 m c2 M (by rfl) eW.o.symm R2.o OM.o (by have:=ck.o;unfold maxLen;omega) (by have:=ck.o;omega) (by have:=Z2.o;omega) ?_;intro v3 w3 Z O er;rw[eT.o] at Z;have cp:w3.rangeAt w.heap.size 0 kl:=Gu cr (by have:=Z2.o;have:=EB.o;omega) O (fun hx=>by have:=Lo O2.o _ hx;have:=EB.o;omega);have eb:Below B w w3:=H2.o.grown O (by have:=Z2.o;omega) (fun k hk=>by have:=Lo O2.o _ hk;omega);obtain⟨A3,c3,ey,eQ,eJ,cR⟩:=Jy (S:=fun _=>False) Z (fun _ _ x=>x);subst ey;have ct:=eo.o w3 A3 c3 cR.rd;have H3:=I eb;have O3:=I Z;have Z3:=I (Nat.le_trans Z2.o O.size);clear Z O er eb eQ eJ cR)
  |(go_at_call 81;refine Calls.mono cb ?_;rintro e w1 ⟨v1,rfl,ca,aw⟩;clear cb;have cu:w1.rangeAt w.heap.size 0 kl:=Fc cq (by have:=cn.o;have:=EB.o;omega) aw;have dy:B+1<=w1.heap.size:=by{have:=cn.o;have:=aw.size;omega};have aw:=eR.o.trans (aw.mono (by have:=cn.o;omega));have cm:=cL.o w1 ((HR.o.below aw).more (by omega));have H1:=I aw;have O1:=I (ca.mono (base':=B+1) (by have:=cn.o;omega));have Z1:=I dy;clear aw ca dy)
  |(go_at_call 82;refine Calls.mono cm ?_;rintro e w2 ⟨v2,rfl,bz,bb⟩;clear cm;have cr:w2.rangeAt w.heap.size 0 kl:=Fc cu (by have:=Z1.o;have:=EB.o;omega) bb;have ej:B+1<=w2.heap.size:=Nat.le_trans Z1.o bb.size;have cP:=BS O1.o bb;obtain⟨A2,c2,eN,ev,cj,dz⟩:=Jy (S:=fun _=>False) bz (fun _ _ x=>x);subst eN;have bb:=H1.o.trans (bb.mono (by have:=Z1.o;omega));have H2:=I bb;have O2:=I cP;have Z2:=I ej;have R2:=I dz.rd;clear bb bz ej cP ev cj dz))
 all_goals (
  have eP:Hid (w3.rangeAt w.heap.size 0 kl.toArray.toList):=cp;have eV:Hid ((Tryz.prog.info? 39).map (·.size)=some kl.toArray.size):=by rw[List.size_toArray];exact u32
  clear cq cu cr cp u32 ek aw bb
  go_wp2_with (first
   |(refine Am (by rfl) 39 (.tmp 4) (by rfl) w.heap.size 0 (by rfl) kl.toArray _ eP.o Tryz.underlying39 (by rfl) eV.o ?_)
   |(go_at_call 83;refine Calls.mono ct ?_;rintro e w4 ⟨v4,rfl,bB,bx⟩;clear ct;have ec:=BS O3.o bx;have cQ:=Nat.le_trans Z3.o bx.size;have bx:=H3.o.trans (bx.mono (by have:=Z3.o;omega));obtain⟨A4,c4,eE,ez,eF,et⟩:=Jy (S:=fun _=>False) bB (fun _ _ x=>x);subst eE;have H4:=I bx;have O4:=I ec;have Z4:=I cQ;have R4:=I et.rd;clear bx bB ec cQ ez eF et)
   |(at_builtin;refine AI _ (by rfl) (.tmp 40) (.tmp 44) 33 (by rfl) (B+1) 5 ib _ 1 Tryz.underlying33 cY cM cX ea (by rfl) _ (8+m) (bvs L) (by rfl) O4.o w4.heap.size A4 8 c4 T8 (by rfl) ew.o.symm R4.o OT.o (by have:=ck.o;unfold maxLen;omega) (by have:=ck.o;omega) (by have:=Z4.o;omega) ?_;intro v5 w5 av bn cy;rw[cB.o] at av;have eg:=H4.o.grown bn (by have:=Z4.o;omega) (fun k hk=>by have:=Lo O4.o k hk;omega);obtain⟨A5,c5,eK,cT,ei,ef⟩:=Jy (S:=fun i=>i<w.heap.size) av (fun k hk hx=>by have:=Lo av k hk;have:=EB.o;omega);subst eK;have H5:=I eg;have R5:=I ef;have C5:=I (And.intro cT ei);clear av bn cy eg cT ei ef)
   |fail)
  go_ret2
  exact⟨A5,c5,by show Ending.returned (.tuple #[.slice A5 (8+m+8) c5,.int .i64 0])=_;rw[show 8+m+8=m+16 by omega],R5.o,EB.o▸H5.o,by have:=C5.o.1;omega,C5.o.2⟩)
end Se
end Go.Proofs.YthkdjblnmkkcfaaGreat
