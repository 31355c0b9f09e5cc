import Derived.Test.YtlchkbpffaclmaaGreatZKdcTills8
set_option maxHeartbeats 25600000
set_option maxRecDepth 100000
set_option linter.unusedVariables false
set_option linter.unusedSimpArgs false
namespace Go.Proofs.YtlchkbpffaclmaaGreat
namespace Open
open Go.ChangeShapes Go.WideShapes Go.ChangeAt Go.RowKit Go.Deep Af
theorem RZ {n:Int} (h:(Lit.int .i64 n).wf=true) : -9223372036854775808<=n/\n<=9223372036854775807:=by
 simpa [Lit.wf,IntKind.min,IntKind.max,IntKind.signed,IntKind.bits] using h
section
variable {H:Type} {enc:TypeId×Value->H} {P:Program} {W:World}
end
end Open
namespace Se
open Go.RowKit Af
theorem Uz (b:Nat) (u N:Int) (A:Option Addr) (m c:Nat) (w:World) (wN:(Lit.int .i64 N).wf=true) (hm:m<=maxLen) (hx:¬(0<=u/\u<=255/\0<=N/\N<=1099511627776/\m<=784)) :
  Calls Tryz.prog 122 #[.pointer (some ⟨b,0,none⟩),.int .i64 u,.int .i64 N,.slice A m c] w fun e w'=>e=.returned (.tuple #[.slice none 0 0,.int .i64 1])/\w'=w:=by
 by_cases h1:0<=u/\u<=255
 ·have f1:=Ea u true (by simp;omega)
  by_cases h2:N<0
  ·have t2:decide (N<0)=true:=by simpa using h2
   clear hx h1 wN hm;go_enter Tryz.func122,Tryz.ntmps122
   go_wp2_with (go_at_call 104;refine Aj (f1 _) ?_;rintro wq hw;have hw:=hw.symm;subst hw;clear f1)
   go_ret2
   exact⟨rfl,rfl⟩
  ·obtain⟨n,rfl⟩:∃n:Nat,N=(n:Int):=⟨N.toNat,by omega⟩
   have hn63:n<9223372036854775808:=by
    have:=Open.RZ wN;omega
   have t2:decide ((n:Int)<0)=false:=by simp
   have q4:IntKind.u64.wrap (n:Int)=(n:Int):=by rw[IntKind.wrap_u64];omega
   by_cases h3:n<=1099511627776
   ·have f2:=Fw n true (by simp;omega)
    have t3:decide (784<(m:Int))=true:=by simp;omega
    have q1:(n:Int)<=1099511627776:=by omega
    clear hx h1 h2 wN;go_enter Tryz.func122,Tryz.ntmps122
    go_wp2_with (first
     |(go_at_call 104;refine Aj (f1 _) ?_;rintro wq hw;have hw:=hw.symm;subst hw;clear f1)
     |(go_at_call 151;refine Aj (f2 _) ?_;rintro wq hw;have hw:=hw.symm;subst hw;clear f2))
    go_ret2
    exact⟨rfl,rfl⟩
   ·have f2:=Fw n false (by simp;omega)
    clear hx h1 h2 wN;go_enter Tryz.func122,Tryz.ntmps122
    go_wp2_with (first
     |(go_at_call 104;refine Aj (f1 _) ?_;rintro wq hw;have hw:=hw.symm;subst hw;clear f1)
     |(go_at_call 151;refine Aj (f2 _) ?_;rintro wq hw;have hw:=hw.symm;subst hw;clear f2))
    go_ret2
    exact⟨rfl,rfl⟩
 ·have f1:=Ea u false (by
   rw[eq_comm,Bool.and_eq_false_iff];rcases Int.lt_or_le u 0 with h | h
   ·exact .inl (by simp;omega)
   ·exact .inr (by simp;omega))
  clear hx h1 wN;go_enter Tryz.func122,Tryz.ntmps122
  go_wp2_with (go_at_call 104;refine Aj (f1 _) ?_;rintro wq hw;have hw:=hw.symm;subst hw;clear f1)
  go_ret2
  exact⟨rfl,rfl⟩
theorem UA (b:Nat) (u:Int) (p:Value) (w:World) (hx:¬(0<=u/\u<=255)) :
  Calls Tryz.prog 65 #[.pointer (some ⟨b,0,none⟩),.int .i64 u,p] w fun e w'=>e=.returned (.tuple #[.slice none 0 0,.int .i64 1])/\w'=w:=by
 have f1:=Ea u false (by
  rw[eq_comm,Bool.and_eq_false_iff];rcases Int.lt_or_le u 0 with h | h
  ·exact .inl (by simp;omega)
  ·exact .inr (by simp;omega))
 clear hx;go_enter Tryz.func65,Tryz.ntmps65
 go_wp2_with (go_at_call 104;refine Aj (f1 _) ?_;rintro wq hw;have hw:=hw.symm;subst hw;clear f1)
 go_ret2
 exact⟨rfl,rfl⟩
def Cn (w w':World) (b:Nat) (h h':Option Nat):Prop:=Chg (Ow b h) w w'/\(h'=h\/(h=none/\∃g,h'=some g/\w.heap.size<=g))
theorem Cn.refl (w:World) (b:Nat) (h:Option Nat):Cn w w b h h:=⟨Chg.refl _ _,.inl rfl⟩
theorem Step.o {w w':World} {b g:Nat} {h:Option Nat} (hs:Step w w' b h g):Cn w w' b h (some g):=
 ⟨hs.1,hs.2.imp (fun e=>e.symm) (fun e=>⟨e.1,g,rfl,e.2⟩)⟩
theorem Cn.own {w w':World} {b:Nat} {h h':Option Nat} (hs:Cn w w' b h h'):∀i,i<w.heap.size->Ow b h' i->Ow b h i:=by
 intro i hi hx;rcases hs.2 with rfl | ⟨_,g,rfl,hg⟩
 ·exact hx
 ·rcases hx with hx | hx
  ·exact .inl hx
  ·injection hx with hx;omega
theorem Cn.trans {a w c:World} {b:Nat} {h h1 h2:Option Nat} (s1:Cn a w b h h1) (s2:Cn w c b h1 h2):Cn a c b h h2:=by
 refine⟨s1.1.trans s2.1 s1.own,?_⟩;rcases s1.2 with rfl | ⟨e,g,rfl,hg⟩
 ·rcases s2.2 with rfl | ⟨e,g,rfl,hg⟩
  ·exact .inl rfl
  ·exact .inr ⟨e,g,rfl,Nat.le_trans s1.1.size hg⟩
 ·rcases s2.2 with rfl | ⟨e2,_⟩
  ·exact .inr ⟨e,g,rfl,hg⟩
  ·cases e2
theorem Cn.drewN {w w':World} {b:Nat} {h h':Option Nat} (hs:Cn w w' b h h') (k:Nat):Cn w (w'.drewN k) b h h':=⟨⟨hs.1.os,hs.1.tape,hs.1.output,hs.1.size,hs.1.block⟩,hs.2⟩
theorem Fy (S:Nat->Prop) (w:World) (k:Nat):Chg S w (w.drewN k):=⟨rfl,rfl,rfl,Nat.le_refl _,fun _ _ _=>rfl⟩
theorem Jn {l:List UInt8} {n:Nat} {P:Prop} (hn:n=l.length) (h:8<=n) (hx:bvs l = []):P:=by
 have:=Ao l;rw[hx] at this;simp at this;omega
theorem RdA.take {S:Nat->Prop} {w:World} {A:Option Addr} {l:List UInt8} (h:RdA S w A (bvs l)) (k:Nat):RdA S w A (bvs (l.take k)):=by
 rcases h with h | ⟨b,o,h1,h2,h3,h4⟩
 ·left
  have:l = []:=List.map_eq_nil_iff.1 h;rw[this,List.take_nil];rfl
 ·refine .inr ⟨b,o,h1,h2,h3,fun i u hu=>h4 i u ?_⟩
  unfold bvs at hu⊢;rw[List.map_take,List.getElem?_take] at hu
  split at hu
  ·exact hu
  ·cases hu
theorem RdA.drop {S:Nat->Prop} {w:World} {b o:Nat} {l:List UInt8} (h:RdA S w (some ⟨b,o,none⟩) (bvs l)) (k:Nat):RdA S w (some ⟨b,o+k,none⟩) (bvs (l.drop k)):=by
 rcases h with h | ⟨b',o',h1,h2,h3,h4⟩
 ·left
  have:l = []:=List.map_eq_nil_iff.1 h;rw[this,List.drop_nil];rfl
 ·injection h1 with h1
  injection h1 with e1 e2;subst e1 e2;refine .inr ⟨b,o+k,rfl,h2,h3,fun i u hu=>?_⟩;unfold bvs at hu;rw[List.map_drop,List.getElem?_drop] at hu;have:=h4 (k+i) u hu
  rwa [<-Nat.add_assoc] at this
theorem Sa {ks:Nat->UInt8} {u:Nat} {l:List UInt8} (h:l.length<16\/800<l.length\/1099511627776<n8 l):isL ks u l=false:=by
 unfold isL;rcases h with h | h | h
 ·rw[show decide (16<=l.length)=false by simp;omega];simp
 ·rw[show decide (l.length<=800)=false by simp;omega];simp
 ·rw[show decide (n8 l<=1099511627776)=false by simp;omega];simp
theorem Ot {ks:Nat->UInt8} {u:Nat} {l:List UInt8} (h1:16<=l.length) (h2:l.length<=800) (h3:n8 l<=1099511627776):isL ks u l=decide (tagL ks u (El l)=n8 (Dx l)):=by
 unfold isL;rw[show decide (16<=l.length)=true by simpa using h1,show decide (l.length<=800)=true by simpa using h2,show decide (n8 l<=1099511627776)=true by simpa using h3];simp
theorem Cn.aw {w w':World} {b n:Nat} {h h':Option Nat} (hs:Cn w w' b h h'):Chg (Aw b h n) w w':=hs.1.mono fun i _ hx=>.inl hx
theorem Cn.rda {w w':World} {b:Nat} {h h':Option Nat} {A:Option Addr} {xs:List Value} (hs:Cn w w' b h h') (hr:RdA (Ow b h) w A xs):RdA (Ow b h') w' A xs:=
 hr.keep hs.1 (fun _ _ x=>x) hs.own
def ksOf (l:List UInt8) (i:Nat):UInt8:=l.getD i 0
theorem UB (ks:Nat->UInt8) (u n:Nat) (p:List UInt8) (hn:n<=1099511627776) (hp:p.length<=784):isL ks u (Dt ks u n p)=true:=by
 have h:=Fu ks u n p hn hp;unfold Xk at h
 split at h
 ·assumption
 ·cases h
theorem UC (ks:Nat->UInt8) (u n:Nat) (p:List UInt8) (hn:n<=1099511627776):mixL ks u (n8 (Dt ks u n p)) (midL (Dt ks u n p))=p:=by
 rw[Oo,Na ks u n p (by omega),RI]
theorem RdA.o {w w':World} {b g:Nat} {h:Option Nat} {A:Option Addr} {xs:List Value} {ks:Nat->UInt8} {a o r:Nat} (hr:RdA (Nw w.heap.size g) w' A xs) (hK:Box w b ks h a o r):RdA (Ow b (some g)) w' A xs:=hr.mono fun i _ hx=>by
 rcases hx with hx | hx
 ·exact .inl (hx▸hK.lt)
 ·injection hx with hx;exact .inr hx.symm
def k1:Nat->UInt8:=fun i=>if i=0 then 1 else 0
end Se
namespace SeL
open Go.RowKit Af Se
theorem Xo {b g i:Nat} (h:Ow b (some g) i):i=b\/i=g:=by
 rcases h with h | h
 ·exact .inl h
 ·injection h with h;exact .inr h.symm
end SeL
namespace SpL
open Go.RowKit Af Sp
theorem Is (K:Nat->Wd) (up lo:Wd) (i j:Nat) (hj:j<4):(Ej K up lo (8*i+j)).toNat=(BX K (up,lo+BitVec.ofNat 32 i)).1.toNat / 256 ^ j % 256:=by
 have q1:(8*i+j) / 8=i:=by omega
 have q2:(8*i+j) % 8=j:=by omega
 rw[Ej,q1,q2,UInt8.toNat_ofNat',JI];have hx:=Gm (BX K (up,lo+BitVec.ofNat 32 i)).1;have h:j=0\/j=1\/j=2\/j=3:=by omega
 rcases h with rfl | rfl | rfl | rfl<;>simp only[Nat.reducePow]<;>omega
theorem Iu (K:Nat->Wd) (up lo:Wd) (i j:Nat) (hj:j<4):(Ej K up lo (8*i+4+j)).toNat=(BX K (up,lo+BitVec.ofNat 32 i)).2.toNat / 256 ^ j % 256:=by
 have q1:(8*i+4+j) / 8=i:=by omega
 have q2:(8*i+4+j) % 8=4+j:=by omega
 rw[Ej,q1,q2,UInt8.toNat_ofNat',JI];have hx:=Gm (BX K (up,lo+BitVec.ofNat 32 i)).1;have h:j=0\/j=1\/j=2\/j=3:=by omega
 rcases h with rfl | rfl | rfl | rfl<;>simp only[Nat.reducePow,Nat.reduceAdd]<;>omega
def Zm (w:World) (g:Nat) (cs:Array Value):Prop:=w.rangeAt g 0 cs.toList
theorem JJ {P:Program} {ops:Array Oper} {rest:List Oper} {op:Oper} {a:Act} {w:World} {Q:Exit->Act->World->Prop} (hgd:op.guard=none) (ty:TypeId) (x:Operand) (ho:op.op=.load ty x)
  (g:Nat) (hx:a.eval x=.pointer (some ⟨g,0,none⟩)) (cs:Array Value) (d:TypeDesc) (hc:Zm w g cs)
  (hu:P.underlying ty=some d) (hd:d.isRow=true) (hi:(P.info? ty).map (·.size)=some cs.size)
  (h:wpList P ops Q rest (a.put op.dst (.agg cs)) w):wpList P ops Q (op :: rest) a w:=
 wpList_load_mid hgd ty x ho g 0 hx cs.toList d hc hu hd (by rw[Array.length_toList];exact hi) (by simpa using h)
theorem En (b:Nat):∀(vs:List Value) (o:Nat) (w:World),(w.setCells b o vs).heap.size=w.heap.size
 | [],_,_=>rfl
 |v :: r,o,w=>by rw[World.setCells,En b r];simp [World.setCell]
theorem VW (K:Nat->Wd):(AR K).size=27:=by simp [AR]
theorem Zn (K:Nat->Wd):(Tryz.prog.info? 191).map (·.size)=some (AR K).size:=by rw[VW];kernel_rfl
def eight (x y:Wd):List Value:=[.int .u8 ((x.toNat:Int) % 256),.int .u8 ((x.toNat:Int) / 256 % 256),.int .u8 ((x.toNat:Int) / 65536 % 256),.int .u8 ((x.toNat:Int) / 16777216),
 .int .u8 ((y.toNat:Int) % 256),.int .u8 ((y.toNat:Int) / 256 % 256),.int .u8 ((y.toNat:Int) / 65536 % 256),.int .u8 ((y.toNat:Int) / 16777216)]
theorem PW (K:Nat->Wd) (up lo:Wd) (i:Nat):bvs (strm K up lo (8*i))++eight (BX K (up,lo+BitVec.ofNat 32 i)).1 (BX K (up,lo+BitVec.ofNat 32 i)).2=bvs (strm K up lo (8*(i+1))):=by
 have e:strm K up lo (8*(i+1))=strm K up lo (8*i)++[Ej K up lo (8*i+0),Ej K up lo (8*i+1),Ej K up lo (8*i+2),Ej K up lo (8*i+3),Ej K up lo (8*i+4+0),Ej K up lo (8*i+4+1),Ej K up lo (8*i+4+2),Ej K up lo (8*i+4+3)]:=by
  unfold strm;rw[show 8*(i+1)=8*i+1+1+1+1+1+1+1+1 by omega];simp [List.range_succ]
 rw[e,Bt]
 congr 1
 have a0:=Is K up lo i 0 (by decide);have a1:=Is K up lo i 1 (by decide);have a2:=Is K up lo i 2 (by decide);have a3:=Is K up lo i 3 (by decide);have b0:=Iu K up lo i 0 (by decide);have b1:=Iu K up lo i 1 (by decide);have b2:=Iu K up lo i 2 (by decide);have b3:=Iu K up lo i 3 (by decide);have hx:=Gm (BX K (up,lo+BitVec.ofNat 32 i)).1;have hy:=Gm (BX K (up,lo+BitVec.ofNat 32 i)).2;rw[show((BX K (up,lo+BitVec.ofNat 32 i)).1.toNat / 256 ^ 3 % 256)=(BX K (up,lo+BitVec.ofNat 32 i)).1.toNat / 16777216 by simp only[Nat.reducePow];omega] at a3;rw[show((BX K (up,lo+BitVec.ofNat 32 i)).2.toNat / 256 ^ 3 % 256)=(BX K (up,lo+BitVec.ofNat 32 i)).2.toNat / 16777216 by simp only[Nat.reducePow];omega] at b3;simp only[bvs,List.map_cons,List.map_nil,bv,eight,a0,a1,a2,a3,b0,b1,b2,b3];simp
theorem Rd.take {w:World} {B:Nat} {A:Option Addr} {xs:List Value} (h:Rd w B A xs) (m:Nat):Rd w B A (xs.take m):=by
 rcases h with h | ⟨b,o,h1,h2,h3⟩
 ·rw[h];exact .inl (by simp)
 ·refine .inr ⟨b,o,h1,h2,fun i u hu=>h3 i u ?_⟩
  rw[List.getElem?_take] at hu
  split at hu
  ·exact hu
  ·cases hu
theorem bt' {B:Nat} {a w c:World} (h:Below B a w) (hB:B+1<=w.heap.size) (k:Below w.heap.size w c):Below B a c:=Hc h (by omega) k
theorem Xp (K:Nat->Wd) (N m:Nat) (n:Int) (w:World) (hN:N<18446744073709551616) (hm:m<=1000) (hn:m=n.toNat) :
  Calls Tryz.prog 80 #[.agg (AR K),.int .u64 (N:Int),.int .i64 n] w fun e w'=>∃A c,e=.returned (.slice A m c)/\m<=c/\Rd w' w'.heap.size A (bvs (strm K (upW N) (loW N) m))/\Below w.heap.size w w':=by
 obtain⟨B,eB⟩:=Ak (w.heap.size);rw[<-eB];have EB:=I eB;have z27:=VW K;have i27:=Zn K;obtain⟨cs,ecs⟩:=Ak (AR K);rw[<-ecs] at z27 i27;have cB:=YP K;rw[<-ecs] at cB;rw[<-ecs];obtain⟨ib,hi0,hz0,hs0,hb0⟩:=info_parts BP;have Z27:=I z27;clear z27;have I27:=I i27;clear i27;have ECS:=I ecs;clear ecs;have NN:=I hN;clear hN;have HM:=I hm;clear hm;have HN:=I hn;clear hn;have hst:Blk (w.alloc (.cells cs 191)) B 191 cs:=Blk.new_of w B _ _ _ rfl eB.symm;have HST:=I hst;clear hst;go_enter Tryz.func80,Tryz.ntmps80
 go_wp2_with fail
 rw[<-eB];clear eB
 go_loopw [7,8] (fun bv_ iv wr=>∃i:Nat,8*i<m+8/\iv=.int .i64 (i:Int)/\Blk wr B 191 cs/\Below B w wr/\B+1<=wr.heap.size/\wr.ownsRow (B+1) 5 1 bv_ (8*i) (bvs (strm K (upW N) (loW N) (8*i)))) (fun _ iv _=>m+8 - 8*(intOf iv).toNat)
 case atStart=>exact⟨0,by omega,rfl,HST.o,EB.o▸Ah.alloc Ag _,by have:=EB.o;simp;omega,rfl,.inl ⟨rfl,rfl⟩⟩
 case round=>
  obtain⟨i,hi,rfl,hB,hb,hsz,hown⟩:=hrel;have HB:=I hB;clear hB;have HB2:=I hb;clear hb;have HS:=I hsz;clear hsz;have hlen:∃A cap,u7=.slice A (8*i) cap/\8*i<=cap/\(∀n k,(Value.slice A n cap).ownBlock=some k->B+1<=k):=by
   obtain⟨_,⟨h1,h2⟩ | ⟨g,cap,cur,h1,hg,_,hcap,_⟩⟩:=hown
   ·exact⟨none,0,by rw[h1,h2],by omega,fun n k h=>by simp [Value.ownBlock] at h⟩
   ·exact⟨_,cap,h1,hcap,fun n k h=>by simp only[Value.ownBlock] at h;injection h with h;omega⟩
  obtain⟨A,cap,rfl,hcap,hnb⟩:=hlen;have HNB:=I hnb;clear hnb;have HO:=I hown;clear hown;obtain⟨o,eo⟩:=Ak (8*i);rw[<-eo];have EO:=I eo;clear eo
  by_cases hlt:(o:Int)<n
  ·have ib1:(0:Int)<=(i:Int):=by omega
   have ib2:(i:Int)<=200:=by have:=EO.o;have:=HM.o;have:=HN.o;omega
   have HH:=I hi;clear hi
   go_wp2_with (first | (refine JJ (by rfl) 191 (.tmp 3) (by rfl) B (by rfl) cs _ (Ae HB.o) Tryz.underlying191 (by rfl) I27.o ?_) | fail)
   have cup:(N:Int) / 4294967296 % 4294967296=((upW N).toNat:Int):=by rw[upW,BitVec.toNat_ofNat];have:=NN.o;omega
   have csum:((N:Int)+(i:Int)) % 4294967296=((loW N+BitVec.ofNat 32 i).toNat:Int):=by rw[loW,BitVec.toNat_add,BitVec.toNat_ofNat,BitVec.toNat_ofNat];omega
   rw[cup,csum];obtain⟨p,ep⟩:=Ak (BX K (upW N,loW N+BitVec.ofNat 32 i));obtain⟨x0,ex⟩:=Ak (p.1);obtain⟨y0,ey⟩:=Ak (p.2);have c4:=cB (upW N) (loW N+BitVec.ofNat 32 i) wr;rw[<-ep,<-ex,<-ey] at c4;have hnx:bvs (strm K (upW N) (loW N) (8*i))++eight x0 y0=bvs (strm K (upW N) (loW N) (8*(i+1))):=by rw[ex,ey,ep];exact PW K _ _ i
   have HNX:=I hnx;clear hnx;clear ep ex ey cup csum;refine Aj c4 ?_;rintro w5 hb5;have ho5:=FI HO.o hb5;rw[<-EO.o] at ho5;have hnx2:=HNX.o;rw[<-EO.o] at hnx2;have HN2:=I hnx2;clear hnx2;have hB5:=HB.o.below hb5;have hb6:=bt' HB2.o HS.o hb5;have hs5:=Nat.le_trans HS.o hb5.size;have HO5:=I ho5;clear ho5;have HB5:=I hB5;clear hB5;have HB6:=I hb6;clear hb6;have HS5:=I hs5;clear hs5;clear hb5 c4
   go_wp2_with (first | (at_builtin;refine Az _ (by rfl) (.tmp 30) (.tmp 53) 26 (by rfl) (B+1) 5 ib _ 1 Tryz.underlying26 hi0 hz0 hs0 hb0 (by rfl) (.slice A o cap) o (bvs (strm K (upW N) (loW N) o)) (by rfl) (DF HO5.o (by rfl)) (w5.heap.size+1) (some ⟨w5.heap.size,0,none⟩) 8 8 (eight x0 y0) (by rfl) (by rfl) (FO w5 5 _ (eight x0 y0) (by rfl) _ rfl) (by simp [eight,Value.oneCell']) (by have:=EO.o;unfold maxLen;omega) (by have:=EO.o;omega) (by have:=HS5.o;simp;omega) ?_;intro v6 w6 hown6 hgrow6 hat6) | fail)
   have hB6:=Blk.grown (Blk.alloc HB5.o _) hgrow6 (fun h=>by have:=HNB.o _ _ h;omega);have hb7:=Below.grown (HB6.o.alloc (by have:=HS5.o;omega) _) hgrow6 (by have:=HS5.o;simp;omega) (fun k hk=>by have:=HNB.o _ _ hk;omega);have hs7:=hgrow6.size;have ho7:=hown6;rw[HN2.o,show o+8=8*(i+1) by have:=EO.o;omega] at ho7;have B6:=I hB6;clear hB6;have B7:=I hb7;clear hb7;have S7:=I hs7;clear hs7;have O7:=I ho7;clear ho7;clear hown6 hgrow6 hat6
   go_wp2_with fail
   go_roundw
   case rel=>
    exact⟨i+1,by have:=EO.o;have:=HN.o;omega,by go_num,B6.o,B7.o,by have h1:=S7.o;have:=HS5.o;simp at h1;omega,O7.o⟩
   case measure=>have:=EO.o;have:=HN.o;simp [intOf];omega
  ·have hge:n<=(o:Int):=by omega
   have e1:decide ((o:Int)<n)=false:=by simp;omega
   have hcap2:n<=(cap:Int):=by have:=EO.o;omega
   have HC:=I hcap;clear hcap
   by_cases h0:n<0
   ·go_wp2_with fail
    go_ret;have hm0:m=0:=by have:=HN.o;omega
    refine⟨A,cap,by rw[hm0];first | rfl | exact congrArg (fun k=>Ending.returned (Value.slice A k cap)) (show(max n 0).toNat=0 by omega),by rw[hm0];exact Nat.zero_le _,?_,HB2.o⟩;rw[hm0];exact .inl rfl
   ·have h1:(0:Int)<=n:=by omega
    go_wp2_with fail
    go_ret;refine⟨A,cap,by rw[HN.o];first | rfl | exact congrArg (fun k=>Ending.returned (Value.slice A k cap)) (show(max n 0).toNat=n.toNat by omega),by have:=HN.o;omega,?_,HB2.o⟩;have hr:=Rd.of_own HO.o;have ht:bvs (strm K (upW N) (loW N) m)=(bvs (strm K (upW N) (loW N) (8*i))).take m:=by
     rw[<-Rm K (upW N) (loW N) m (8*i) (by have:=EO.o;have:=HN.o;omega)];simp [bvs,List.map_take]
    rw[ht];exact Rd.take hr m
end SpL
namespace Se
open Go.RowKit Af
def hk (f:Nat->UInt8) (i j:Nat):UInt8:=if j<i then f j else 0
theorem FM (f:Nat->UInt8) (j:Nat) (hj:j<16):(Sp.AI f)[j]? = some (bv (f j)):=Sp.FM f j hj
theorem VX (f:Nat->UInt8) (i:Nat) (hi:i<16):(Sp.AI (hk f i)).setIfInBounds i (bv (f i))=Sp.AI (hk f (i+1)):=by
 unfold Sp.AI;rw[List.setIfInBounds_toArray]
 congr 1
 apply List.ext_getElem?;intro j;rw[List.getElem?_set,List.getElem?_map,List.getElem?_map]
 by_cases hj:i=j
 ·subst hj;simp [hi,hk]
 ·rw[if_neg hj]
  rcases Nat.lt_or_ge j 16 with h | h
  ·have e:(j<i)=(j<i+1):=propext ⟨by omega,by omega⟩
   simp [h,hk,e]
  ·rw[List.getElem?_eq_none (by simpa using h)];rfl
theorem Zo (f:Nat->UInt8):Sp.AI (hk f 16)=Sp.AI f:=Sp.Je fun j hj=>if_pos hj
theorem Sb (f:Nat->UInt8):Sp.AI (hk f 0)=Sp.AI (fun _=>0):=Sp.Je fun j hj=>rfl
theorem key32_at' (f:Nat->UInt8) (j:Nat) (hj:j<32):(AO f)[j]? = some (bv (f j)):=by
 rw[AO,List.getElem?_toArray];simp [hj]
theorem Nc {P:Program} {fn:Func} {tmps:Array Value} {w:World} {v1 v2:Value} (t1 t2:Nat) (ty1 ty2:TypeId) (a1 a2:Addr) (hres:fn.results=#[.cell t1 ty1,.cell t2 ty2]) (ht1:tmps.getD t1 undef=.pointer (some a1)) (ht2:tmps.getD t2 undef=.pointer (some a2)) (hl1:(loadVar ty1 a1).run P w=.ok v1 w) (hl2:(loadVar ty2 a2).run P w=.ok v2 w) :
  (results fn tmps).run P w=.ok (.tuple #[v1,v2]) w:=by
 have h1:tmps[t1]?.getD undef=.pointer (some a1):=by simpa using ht1
 have h2:tmps[t2]?.getD undef=.pointer (some a2):=by simpa using ht2
 simp [results,hres,h1,h2,asAddr,hl1,hl2]
theorem Sd (ks:Nat->UInt8) (w:World):Calls Tryz.prog 78 #[.agg (AO ks)] w fun e w'=>e=.returned (.tuple #[.agg (Sp.AI ks),.agg (Sp.AI (k2 ks))])/\Below w.heap.size w w':=by
 obtain⟨B,eB⟩:=Ak (w.heap.size);have EB:=I eB;have hz16:Sp.AI (fun _=>0)=#[.int .u8 0,.int .u8 0,.int .u8 0,.int .u8 0,.int .u8 0,.int .u8 0,.int .u8 0,.int .u8 0,.int .u8 0,.int .u8 0,.int .u8 0,.int .u8 0,.int .u8 0,.int .u8 0,.int .u8 0,.int .u8 0]:=rfl;have HZ:=I hz16;clear hz16;obtain⟨kc,ekc⟩:=Ak (AO ks);rw[<-ekc];have EK:=I ekc;clear ekc;go_enter Tryz.func78,Tryz.ntmps78
 go_wp2_with fail
 rw[<-eB];clear eB
 go_loopw [6] (fun iv wr=>∃i:Nat,i<=16/\iv=.int .i64 (i:Int)/\Below B w wr/\wr.heap.size=B+5/\Blk wr B 35 kc/\Blk wr (B+1) 168 (Sp.AI (fun _=>0))/\Blk wr (B+2) 168 (Sp.AI (fun _=>0))/\Blk wr (B+3) 168 (Sp.AI (hk ks i))/\Blk wr (B+4) 168 (Sp.AI (hk (k2 ks) i))) (fun iv _=>16 - (intOf iv).toNat)
 case atStart=>
  have z1:Blk (w.alloc (.cells kc 35)) B 35 kc:=EB.o▸Blk.new w _ _;have q0:(w.alloc (.cells kc 35)).heap.size=B+1:=by rw[EB.o];simp
  have b0:Below B w (w.alloc (.cells kc 35)):=EB.o▸(Below.refl w.heap.size w).alloc Ag _;have key:∀(w1:World) (n:Nat),w1.heap.size=n->Blk (w1.alloc (.cells (Sp.AI fun _=>0) 168)) n 168 (Sp.AI fun _=>0)/\(w1.alloc (.cells (Sp.AI fun _=>0) 168)).heap.size=n+1:=fun w1 n h=>⟨h▸Blk.new w1 _ _,by rw[<-h];simp⟩
  obtain⟨k1,q1⟩:=key _ _ q0;obtain⟨k2',q2⟩:=key _ _ q1;obtain⟨k3,q3⟩:=key _ _ q2;obtain⟨k4,q4⟩:=key _ _ q3;refine⟨0,by decide,rfl,?_,q4,(((z1.alloc _).alloc _).alloc _).alloc _,((k1.alloc _).alloc _).alloc _,(k2'.alloc _).alloc _,?_,?_⟩
  ·exact(((b0.alloc (by have:=EB.o;simp;omega) _).alloc (by have:=EB.o;simp;omega) _).alloc (by have:=EB.o;simp;omega) _).alloc (by have:=EB.o;simp;omega) _
  ·rw[Sb];exact k3.alloc _
  ·rw[Sb];exact k4
 case round=>
  obtain⟨i,hi,rfl,hb,hsz,h0,h1,h2,h3,h4⟩:=hrel;have HB:=I hb;clear hb;have HS:=I hsz;clear hsz
  by_cases hx:i=16
  ·subst hx
   rw[Zo] at h3 h4;obtain⟨cs,ecs⟩:=Ak ((List.range 16).map (fun j=>bv (ks j)));obtain⟨ds,eds⟩:=Ak ((List.range 16).map (fun j=>bv (k2 ks j)));have n3:cs.length=16:=by rw[ecs];simp
   have n4:ds.length=16:=by rw[eds];simp
   have o3:∀v∈cs,v.oneCell'=true:=by rw[ecs];intro v hv;obtain⟨j,_,rfl⟩:=List.mem_map.1 hv;rfl
   have o4:∀v∈ds,v.oneCell'=true:=by rw[eds];intro v hv;obtain⟨j,_,rfl⟩:=List.mem_map.1 hv;rfl
   have h3:Blk wr (B+3) 168 cs.toArray:=by rw[ecs];exact h3
   have h4:Blk wr (B+4) 168 ds.toArray:=by rw[eds];exact h4
   have r3:wr.drew.rangeAt (B+1+1+1) 0 cs:=by have:=Si.Ae h3;simpa using this
   have r4:wr.drew.rangeAt (B+1+1+1+1) 0 ds:=by have:=Si.Ae h4;simpa using this
   have t1:wr.drew.there (B+1) 0 16:=by have:=Si.Ar h1;rwa [AY] at this
   have t2:wr.drew.there (B+1+1) 0 16:=by have:=Si.Ar h2;rwa [AY] at this
   have u3:(Tryz.prog.info? 168).map (·.size)=some cs.length:=by rw[n3];kernel_rfl
   have u4:(Tryz.prog.info? 168).map (·.size)=some ds.length:=by rw[n4];kernel_rfl
   have hu16:=Tryz.underlying168;have EC:=I ecs;clear ecs;have ED:=I eds;clear eds;clear h0 h1 h2 h3 h4
   go_wp2_with fail
   refine wp_region_held_drew (S:=fun w'=>w'.rangeAt (B+1+1+1) 0 cs/\w'.rangeAt (B+1+1+1+1) 0 ds/\w'.there (B+1) 0 16/\w'.there (B+1+1) 0 16) (by kernel_rfl) ⟨r3,r4,t1,t2⟩ (fun hHeld=>?_);refine wpAnyH_take (i:=0) (v:=.agg cs.toArray) rfl (by kernel_rfl) (by kernel_rfl) (by kernel_rfl) (fun _ _ _ h=>h) (yieldsIf_load_mid (by rfl) 168 (.tmp 4) rfl (B+1+1+1) 0 rfl cs _ (fun _ h=>h.1) hu16 rfl u3) hHeld ?_;refine wpAnyH_take (i:=1) (v:=.agg ds.toArray) rfl (by kernel_rfl) (by kernel_rfl) (by kernel_rfl) (fun _ _ _ h=>h) (yieldsIf_load_mid (by rfl) 168 (.tmp 5) rfl (B+1+1+1+1) 0 rfl ds _ (fun _ h=>h.2.1) hu16 rfl u4) hHeld ?_;refine wpAnyH_ready (rs:=[2]) (by kernel_rfl) (by simp) ?_;refine AllReadyH.cons (o:=_) rfl (fun K hK=>?_) AllReadyH.nil;rw[if_pos (by rfl)];refine wp_store_mid 168 _ _ rfl (B+1) 0 cs.toArray rfl rfl (by rw[List.size_toArray,n3];exact hHeld.2.2.1) (by rw[List.size_toArray];exact u3) (all_oneCell_toArray o3) ?_;refine hK.o _ _ ⟨World.rangeAt_setCells_apart hHeld.1 _ _ _ (.inl (by omega)),World.rangeAt_setCells_apart hHeld.2.1 _ _ _ (.inl (by omega)),World.there_setCells hHeld.2.2.1 _ _ _,World.there_setCells hHeld.2.2.2 _ _ _⟩ (fun hHeld2=>?_);clear hK K;refine wpAnyH_ready (rs:=[3]) (by kernel_rfl) (by simp) ?_;refine AllReadyH.cons (o:=_) rfl (fun K hK=>?_) AllReadyH.nil;rw[if_pos (by rfl)];refine wp_store_mid 168 _ _ rfl (B+1+1) 0 ds.toArray rfl rfl (by rw[List.size_toArray,n4];exact hHeld2.2.2.2) (by rw[List.size_toArray];exact u4) (all_oneCell_toArray o4) ?_;refine hK.o _ _ ⟨World.rangeAt_setCells_apart hHeld2.1 _ _ _ (.inl (by omega)),World.rangeAt_setCells_apart hHeld2.2.1 _ _ _ (.inl (by omega)),World.there_setCells hHeld2.2.2.1 _ _ _,World.there_setCells hHeld2.2.2.2 _ _ _⟩ (fun hHeld3=>?_);clear hK K;refine wpAnyH_done (by kernel_rfl) ?_ _;have hR1:((wr.drew.setCells (B+1) 0 cs).setCells (B+1+1) 0 ds).rangeAt (B+1) 0 cs:=World.rangeAt_setCells_apart (World.rangeAt_setCells_same _ _ _ _ (by rw[n3];exact t1)) _ _ _ (.inl (by omega));have hR2:((wr.drew.setCells (B+1) 0 cs).setCells (B+1+1) 0 ds).rangeAt (B+1+1) 0 ds:=World.rangeAt_setCells_same _ _ _ _ (by rw[n4];exact hHeld2.2.2.2);have hBW:Below B w ((wr.drew.setCells (B+1) 0 cs).setCells (B+1+1) 0 ds):=Si.Bn _ (by omega) _ _ _ (Si.Bn _ (by omega) _ _ _ (below_drewN HB.o 1));change Exit.then _ _ Exit.normal _ ((wr.drew.setCells (B+1) 0 cs).setCells (B+1+1) 0 ds)
   generalize (wr.drew.setCells (B+1) 0 cs).setCells (B+1+1) 0 ds=W3 at hR1 hR2 hBW⊢;clear hHeld hHeld2 hHeld3 r3 r4 t1 t2;have q1:=run_loadVar_mid (P:=Tryz.prog) W3 (B+1) 0 168 cs _ hR1 hu16 rfl u3;have q2:=run_loadVar_mid (P:=Tryz.prog) W3 (B+1+1) 0 168 ds _ hR2 hu16 rfl u4;have Q1:=I q1;clear q1;have Q2:=I q2;clear q2;have BW:=I hBW;clear hBW;clear hR1 hR2 u3 u4 hu16 n3 n4 o3 o4 h3 h4
   go_wp2_with fail
   refine bodyPost_ret (v:=.tuple #[.agg cs.toArray,.agg ds.toArray]) (Nc 2 3 168 168 ⟨B+1,0,none⟩ ⟨B+1+1,0,none⟩ Tryz.results78 (by rfl) (by rfl) Q1.o Q2.o) (by rfl) ?_;exact⟨by rw[EC.o,ED.o];rfl,EB.o▸BW.o⟩
  ·have e1:(i:Int)<16:=by omega
   have e2:(0:Int)<=(i:Int):=by omega
   have e3:i<16:=by omega
   have e4:(16:Int)+(i:Int)<32:=by omega
   have e5:(0:Int)<=(16:Int)+(i:Int):=by omega
   have e6:16+i<32:=by omega
   have e7:i<32:=by omega
   obtain⟨x,ex⟩:=Ak (ks i);obtain⟨y,ey⟩:=Ak (ks (16+i));have g0:wr.cell? ⟨B,i,none⟩=some (.int .u8 (x.toNat:Int)):=by rw[h0.cell,EK.o,key32_at' ks i e7,ex];rfl
   have g1:wr.cell? ⟨B,16+i,none⟩=some (.int .u8 (y.toNat:Int)):=by rw[h0.cell,EK.o,key32_at' ks (16+i) e6,ey];rfl
   have f3:=h3.frozen;have f4:=h4.frozen;have c3:=h3.cell i;have c4:=h4.cell i;rw[FM _ _ e3] at c3 c4;simp only[bv] at c3 c4;have H0:=I h0;clear h0;have H1:=I h1;clear h1;have H2:=I h2;clear h2;have H3:=I h3;clear h3;have H4:=I h4;clear h4;have hw:IntKind.i64.wrap ((16:Int)+(i:Int))=(16:Int)+(i:Int):=by rw[IntKind.wrap_i64];omega
   have EX:=I ex;clear ex;have EY:=I ey;clear ey;have HX:=I hx;clear hx;have HI:=I hi;clear hi
   go_wp2_with fail
   go_region
   all_goals go_wp2_with fail
   all_goals
    go_roundw
    case rel=>
     have s3:=H3.o.set i (bv x);rw[EX.o,VX ks i e3,<-EX.o] at s3;have s4:=(Si.Blk.far H4.o ⟨B+3,i,none⟩ (bv x) (by simp)).set i (bv y);rw[EY.o,show ks (16+i)=k2 ks i from rfl,VX (k2 ks) i e3] at s4;refine⟨i+1,by omega,by go_num,?_,?_,?_,?_,?_,?_,?_⟩
     ·exact below_drewN (Si.Ay (Si.Ay HB.o (by simp;omega) _) (by simp;omega) _) 1
     ·simpa [World.setCell] using HS.o
     ·exact Si.Blk.far (Si.Blk.far H0.o ⟨B+3,i,none⟩ _ (show B+3≠B by omega)) ⟨B+4,i,none⟩ _ (show B+4≠B by omega)
     ·exact Si.Blk.far (Si.Blk.far H1.o ⟨B+3,i,none⟩ _ (show B+3≠B+1 by omega)) ⟨B+4,i,none⟩ _ (show B+4≠B+1 by omega)
     ·exact Si.Blk.far (Si.Blk.far H2.o ⟨B+3,i,none⟩ _ (show B+3≠B+2 by omega)) ⟨B+4,i,none⟩ _ (show B+4≠B+2 by omega)
     ·exact Si.Blk.far s3 ⟨B+4,i,none⟩ _ (show B+4≠B+3 by omega)
     ·exact(by have e:=s4;rw[show bv (k2 ks i)=bv y from by rw[EY.o];rfl] at e;exact e)
    case measure=>simp [intOf];omega
theorem dbig (N:Nat) (w:World) (hN:N<18446744073709551616) :
  Calls Tryz.prog 61 #[.int .u64 (N:Int)] w fun e w'=>∃v,e=.returned v/\w'.ownsRow w.heap.size 5 1 v 8 (bvs (w8 N))/\Below w.heap.size w w':=by
 obtain⟨ib,hi0,hz0,hs0,hb0⟩:=info_parts Si.BP;obtain⟨B,eB⟩:=Ak (w.heap.size);have EB:=I eB;clear eB;have HN:=I hN;clear hN;go_enter Tryz.func61,Tryz.ntmps61
 go_wp2_with fail
 go_loopw [3,4] (fun bv_ iv wr=>∃j:Nat,j<=8/\iv=.int .i64 (7 - (j:Int))/\wr.ownsRow B 5 1 bv_ j (laid [] N j)/\Below B w wr) (fun _ iv _=>(intOf iv+1).toNat)
 case atStart=>exact⟨0,by decide,rfl,⟨rfl,.inl ⟨rfl,rfl⟩⟩,Below.refl _ _⟩
 case round=>
  obtain⟨j,hj,rfl,hown,hbl⟩:=hrel;have HR:=I hown;clear hown;have HW:=I hbl;clear hbl
  by_cases hx:j=8
  ·subst hx
   go_wp2_with fail
   go_ret;exact⟨_,rfl,by have:=HR.o;rw[VT,List.nil_append] at this;exact EB.o▸this,EB.o▸HW.o⟩
  ·obtain⟨k,ek⟩:∃k:Nat,k=7 - j:=⟨_,rfl⟩
   obtain⟨m,em⟩:∃m:Nat,m=56 - 8*j:=⟨_,rfl⟩;have hk:(7:Int) - (j:Int)=(k:Int):=by omega
   rw[hk];have hx3:j<8:=by omega
   have hm8:(8:Int)*(k:Int)=(m:Int):=by omega
   have hx4:m<64:=by omega
   have hx5:(m:Int)<64:=by omega
   have hx6:(0:Int)<=(m:Int):=by omega
   have hx7:min m 64=m:=by omega
   have hx8:(0:Int)<=(k:Int):=by omega
   have hx9:(k:Int)<=7:=by omega
   have hnx:=LV [] N j hx3;have hv:bv (UInt8.ofNat (N / 2 ^ (56 - 8*j)))=.int .u8 ((N:Int) / 2 ^ m % 256):=by
    unfold bv;rw[UInt8.toNat_ofNat',<-em];congr 1
   rw[hv] at hnx;have NX:=I hnx;clear hnx;have EM:=I em;clear em;have EK:=I ek;clear ek;have HX:=I hx;clear hx;have HJ:=I hj;clear hj;have HX3:=I hx3;clear hx3;clear hk hv
   go_wp2_with (first | (at_builtin;refine Az _ (by rfl) (.tmp 9) (.tmp 16) 26 (by rfl) B 5 ib _ 1 Tryz.underlying26 hi0 hz0 hs0 hb0 (by rfl) _ j (laid [] N j) (by rfl) (DF HR.o (by rfl)) (wr.heap.size+1) (some ⟨wr.heap.size,0,none⟩) 1 1 [.int .u8 ((N:Int) / 2 ^ m % 256)] (by rfl) (by rfl) (Si.FO wr 5 _ [.int .u8 ((N:Int) / 2 ^ m % 256)] (by rfl) _ rfl) (by simp [Value.oneCell']) (by have:=HX3.o;unfold maxLen;omega) (by have:=HX3.o;omega) (by have:=EB.o;have:=HW.o.size;simp;omega) ?_;intro v6 w6 hown6 hgrow6 hat6;have O6:=I hown6;have G6:=I hgrow6;clear hown6 hgrow6 hat6) | fail)
   go_roundw
   case rel=>
    refine⟨j+1,by have:=HX3.o;omega,?_,by rw[<-NX.o];exact O6.o,?_⟩
    ·exact congrArg (Value.int .i64) (by have:=EK.o;have:=HX3.o;omega)
    ·exact(HW.o.alloc (by have:=EB.o;have:=HW.o.size;omega) _).grown G6.o (by have:=EB.o;have:=HW.o.size;simp;omega) (fun q hq=>(HR.o.lt q hq).1)
   case measure=>simp [intOf]
theorem Sf (B:Nat) (A:Option Addr) (n c:Nat) (l:List UInt8) (w:World) (hn:n=l.length) (h8:8<=n) (hr:Rd w B A (bvs l)) :
  Calls Tryz.prog 34 #[.slice A n c] w fun e w'=>e=.returned (.int .u64 (n8 l:Int))/\w'=w:=by
 obtain⟨b,o,rfl,hb,hcell⟩:∃b o,A=some ⟨b,o,none⟩/\b<B/\∀i (h:i<l.length),w.cell? ⟨b,o+i,none⟩=some (bv l[i]):=by
  rcases hr with h | ⟨b,o,h1,h2,h3⟩
  ·have:=Ao l;rw[h] at this;simp at this;omega
  ·exact⟨b,o,h1,h2,fun i hi=>h3 i _ (Dy hi)⟩
 have HC:=I hcell;clear hcell;have hn8:(8:Int)<=(n:Int):=by omega
 have HN:=I hn;clear hn;have H8:=I h8;clear h8;clear hr hb;go_enter Tryz.func34,Tryz.ntmps34
 go_wp2_with fail
 go_loop [3,4] (fun wv_ iv=>∃i:Nat,i<=8/\iv=.int .i64 (i:Int)/\wv_=.int .u64 (big 0 (l.take i):Nat)) (fun _ iv=>8 - (intOf iv).toNat)
 case atStart=>exact⟨0,by decide,rfl,rfl⟩
 case round=>
  obtain⟨i,hi,rfl,rfl⟩:=hrel
  by_cases hx:i=8
  ·subst hx
   go_wp2_with fail
   go_ret;exact⟨rfl,rfl⟩
  ·have e1:(i:Int)<8:=by omega
   have e2:(0:Int)<=(i:Int):=by omega
   have e3:i<8:=by omega
   have hl:i<l.length:=by have:=HN.o;have:=H8.o;omega
   have e4:i<n:=by have:=H8.o;omega
   have e5:(i:Int)<(n:Int):=by omega
   obtain⟨y,ey⟩:=Ak (l[i]);have hcc:=HC.o i hl;rw[<-ey] at hcc;simp only[bv] at hcc;have hy:=y.toNat_lt;obtain⟨v,ev⟩:=Ak (big 0 (l.take i));obtain⟨u,eu⟩:=Ak (v*256+y.toNat);rw[<-ev];have hv:v<72057594037927936:=by
    have:=Jk l i;rw[<-ev] at this;exact Nat.lt_of_lt_of_le this (Nat.pow_le_pow_right (by decide) (by omega):256 ^ i<=256 ^ 7)
   have hw1:(v:Int)*256 % 18446744073709551616=(v:Int)*256:=by omega
   have hw2:(y.toNat:Int) % 18446744073709551616=(y.toNat:Int):=by omega
   have hw3:IntKind.u64.wrap (y.toNat:Int)=(y.toNat:Int):=by rw[IntKind.wrap_u64];exact hw2
   have hw4:IntKind.u64.wrap ((v:Int)*256)=(v:Int)*256:=by rw[IntKind.wrap_u64];exact hw1
   have hor:bits .or .u64 ((v:Int)*256) (y.toNat:Int)=(u:Int):=by rw[eu];exact RR v y.toNat hy hv
   have hnx:u=big 0 (l.take (i+1)):=by rw[Om l i hl,<-ey,<-ev,eu]
   have NX:=I hnx;clear hnx;have HI:=I hi;clear hi;have HX:=I hx;clear hx;have HV:=I hv;clear hv;clear eu ev ey
   go_wp2_with fail
   go_round
   case rel=>exact⟨i+1,by omega,by go_num,by rw[<-NX.o]⟩
   case measure=>simp [intOf];omega
theorem Sg (ks:Nat->UInt8) (u n:Nat) (p:List UInt8) (i:Nat) (h:i<p.length) (h2:i<(Db ks u n p.length).length):bvs ((mixL ks u n p).take i)++[bv (p[i] ^^^ (Db ks u n p.length)[i])]=bvs ((mixL ks u n p).take (i+1)):=by
 rw[List.take_add_one,RJ ks u n p i h h2,Bt];rfl
theorem Zp (y x:UInt8):bits .xor .u8 (y.toNat:Int) (x.toNat:Int)=((y ^^^ x).toNat:Int):=by
 rw[u8_xor_nat _ _ y.toNat_lt x.toNat_lt,UInt8.toNat_xor]
def twoW (w1:World) (z:Array Value) (t:TypeId) (cs ds:Array Value):World:=(((w1.alloc (.cells z t)).alloc (.cells z t)).setCells w1.heap.size 0 cs.toList).setCells (w1.heap.size+1) 0 ds.toList
theorem JX (w1:World) (z:Array Value) (t:TypeId) (cs ds:Array Value) (h1:z.size=cs.size) (h2:z.size=ds.size) :
  (twoW w1 z t cs ds).rangeAt w1.heap.size 0 cs.toList/\(twoW w1 z t cs ds).rangeAt (w1.heap.size+1) 0 ds.toList/\Below w1.heap.size w1 (twoW w1 z t cs ds)/\w1.heap.size+2<=(twoW w1 z t cs ds).heap.size:=by
 have t1:((w1.alloc (.cells z t)).alloc (.cells z t)).there w1.heap.size 0 cs.toList.length:=by
  have:=World.there_alloc (Si.Ar (Blk.new w1 t z)) (.cells z t)
  rwa [h1,<-Array.length_toList] at this
 have t2:((w1.alloc (.cells z t)).alloc (.cells z t)).there (w1.heap.size+1) 0 ds.toList.length:=by
  have:=Si.Ar (Si.Blk.new_of (w1.alloc (.cells z t)) (w1.heap.size+1) t z z rfl (by simp))
  rwa [h2,<-Array.length_toList] at this
 refine⟨World.rangeAt_setCells_apart (World.rangeAt_setCells_same _ _ _ _ t1) _ _ _ (.inl (by omega)),World.rangeAt_setCells_same _ _ _ _ (World.there_setCells t2 _ _ _),?_,?_⟩
 ·exact Si.Bn _ (by omega) _ _ _ (Si.Bn _ Ag _ _ _ ((Ah.alloc Ag _).alloc (by simp) _))
 ·unfold twoW;rw[SpL.En,SpL.En];simp
theorem dmix (ks:Nat->UInt8) (u n:Nat) (A:Option Addr) (m c:Nat) (p:List UInt8) (w:World) (hu:u<=255) (hn:n<18446744073709551616) (hm:m=p.length) (hm2:m<=1000) (hr:Rd w w.heap.size A (bvs p)) :
  Calls Tryz.prog 36 #[.agg (AO ks),.int .i64 (u:Int),.int .u64 (n:Int),.slice A m c] w fun e w'=>∃v,e=.returned v/\w'.ownsRow w.heap.size 5 1 v m (bvs (mixL ks u n p))/\Below w.heap.size w w':=by
 obtain⟨ib,hi0,hz0,hs0,hb0⟩:=info_parts Si.BP;obtain⟨B,eB⟩:=Ak (w.heap.size);obtain⟨N,eN⟩:=Ak (sn u n);have hsn:=RV u n hu;have hsn2:=Zh u n hu;have hsnlt:=Zi u n;rw[<-eN] at hsn hsn2 hsnlt;have hu1:(u:Int) % 18446744073709551616=(u:Int):=by omega
 have hstr:Sp.strm (Sp.kw ks) (Sp.upW N) (Sp.loW N) m=Db ks u n m:=by rw[eN];rfl
 have ch:=fun w1=>Sd ks w1
 have cw:=fun w1=>Sp.YO ks w1
 have cst:=fun w1=>SpL.Xp (Sp.kw ks) N m (m:Int) w1 hsnlt hm2 (by simp)
 rw[hstr] at cst;have i32:=Fv ks;have i16:=Jm ks;have i16b:=Jm (k2 ks);have o16:=RQ ks;have o16b:=RQ (k2 ks);have z16:=AY ks;have z16b:=AY (k2 ks);obtain⟨kc,ekc⟩:=Ak (AO ks);obtain⟨cs,ecs⟩:=Ak (Sp.AI ks);obtain⟨ds,eds⟩:=Ak (Sp.AI (k2 ks));obtain⟨xs,exs⟩:=Ak (Sp.AR (Sp.kw ks));rw[<-ekc] at ch i32⊢;rw[<-ecs] at ch cw i16 o16 z16;rw[<-eds] at ch i16b o16b z16b;rw[<-exs] at cw cst;have hz:Sp.AI (fun _=>0)=#[.int .u8 0,.int .u8 0,.int .u8 0,.int .u8 0,.int .u8 0,.int .u8 0,.int .u8 0,.int .u8 0,.int .u8 0,.int .u8 0,.int .u8 0,.int .u8 0,.int .u8 0,.int .u8 0,.int .u8 0,.int .u8 0]:=rfl;have EB:=I eB;have HR:=I (eB▸hr);clear hr;have HM:=I hm;clear hm;have q3:(m:Int)<=1000:=by omega
 have HM2:=I hm2;clear hm2;have I32:=I i32;clear i32;have I16:=I i16;clear i16;have I16B:=I i16b;clear i16b;have O16:=I o16;clear o16;have O16B:=I o16b;clear o16b;have Z16:=I z16;clear z16;have Z16B:=I z16b;clear z16b;have HZ:=I hz;clear hz;have CST:=I cst;clear cst;have HSN:=I hsn;clear hsn;have HSN2:=I hsn2;have HSN3:Hid (((n:Int)*256+(u:Int)) % 18446744073709551616=(N:Int)):=by rw[<-hsn2];show _=_;omega
 have HSN4:Hid (IntKind.u64.wrap (IntKind.u64.wrap ((n:Int)*256)+(u:Int))=(N:Int)):=by rw[IntKind.wrap_u64,IntKind.wrap_u64];omega
 clear hsn2;have h0:Blk (w.alloc (.cells kc 35)) B 35 kc:=eB▸Blk.new w _ _;have hb0':Below B w (w.alloc (.cells kc 35)):=eB▸(Below.refl w.heap.size w).alloc Ag _;have H0:=I h0;clear h0;have HB0:=I hb0';clear hb0';clear hu hn hstr hsnlt eN ekc ecs eds exs eB;go_enter Tryz.func36,Tryz.ntmps36
 go_upto_region 2 with(first
  |(refine Am (by rfl) 35 (.tmp 4) (by rfl) w.heap.size 0 (by rfl) kc _ (Si.Ae (Blk.new w 35 kc)) Tryz.underlying35 (by rfl) I32.o ?_)
  |(go_at_call 78;refine Aj (ch _) ?_;rintro w1 hb1;clear ch;have hb1:=HB0.o.trans (hb1.mono (by have:=EB.o;simp;omega));have H1:=I hb1;clear hb1)
  |(refine wpList_store_mid (by rfl) 168 (.tmp 9) (.tmp 17) (by rfl) w1.heap.size 0 cs (by rfl) (by rfl) (by rw[Z16.o];exact World.there_alloc (by have:=Si.Ar (Blk.new w1 168 (Sp.AI fun _=>0));rwa [AY] at this) _) I16.o O16.o ?_)
  |(refine wpList_store_mid (by rfl) 168 (.tmp 10) (.tmp 18) (by rfl) (w1.heap.size+1) 0 ds (by rfl) (by rfl) (by rw[Z16B.o];exact World.there_setCells (by have:=Si.Ar (Si.Blk.new_of (w1.alloc (.cells (Sp.AI fun _=>0) 168)) (w1.heap.size+1) 168 _ (Sp.AI fun _=>0) rfl (by simp));rwa [AY] at this) _ _ _) I16B.o O16B.o ?_)
  |fail)
 have h2:=JX w1 (Sp.AI fun _=>0) 168 cs ds (by rw[AY,Z16.o]) (by rw[AY,Z16B.o]);change Code.wp _ _ _ _ (twoW w1 (Sp.AI fun _=>0) 168 cs ds);generalize twoW w1 (Sp.AI fun _=>0) 168 cs ds=W2 at h2⊢;have hb2:=H1.o.trans (h2.2.2.1.mono (by have:=H1.o.size;have:=EB.o;omega));have HB2:=I hb2;clear hb2;have HA2:=I h2.1;clear h2;have cw2:=cw W2;clear cw
 go_wp2_with (first
  |(refine Am (by rfl) 168 (.tmp 9) (by rfl) w1.heap.size 0 (by rfl) cs _ HA2.o Tryz.underlying168 (by rfl) I16.o ?_)
  |(go_at_call 81;refine Aj cw2 ?_;rintro w3 hb3;clear cw2;have hb3:=HB2.o.trans (hb3.mono (by have:=HB2.o.size;have:=EB.o;omega));have c4:=CST.o w3;have H3:=I hb3;clear hb3)
  |(go_at_call 80;(first | rw[HSN2.o] | rw[HSN.o] | rw[HSN3.o] | rw[HSN4.o]);refine Calls.mono c4 ?_;rintro e w5 ⟨As,sc,rfl,hsc,hrs,hb5⟩;clear c4;have hb5:=H3.o.trans (hb5.mono (by have:=H3.o.size;have:=EB.o;omega));have H5:=I hb5;have RS:=I hrs;clear hb5 hrs)
  |fail)
 obtain⟨N0,eN0⟩:=Ak (w5.heap.size);have EN:=I eN0;clear eN0;have hsm:(Db ks u n m).length=m:=BI ks u n m;have HSM:=I hsm;clear hsm
 go_loopw [12,13] (fun bv_ iv wr=>∃i:Nat,i<=m/\iv=.int .i64 (i:Int)/\wr.ownsRow N0 5 1 bv_ i (bvs ((mixL ks u n p).take i))/\Below N0 w5 wr) (fun _ iv _=>m - (intOf iv).toNat)
 case atStart=>exact⟨0,Nat.zero_le _,rfl,⟨rfl,.inl ⟨rfl,rfl⟩⟩,Below.refl _ _⟩
 case round=>
  obtain⟨i,hi,rfl,hown,hbl⟩:=hrel;have HO:=I hown;clear hown;have HW:=I hbl;clear hbl
  by_cases hx:i=m
  ·subst hx
   go_wp2_with fail
   go_ret;have h9:=HO.o;rw[List.take_of_length_le (by rw[Bi,HM.o];exact Nat.le_refl _)] at h9;refine⟨_,rfl,h9.mono (by have:=EN.o;have:=H5.o.size;omega),?_⟩;rw[<-EB.o];exact H5.o.trans (HW.o.mono (by have:=EN.o;have:=H5.o.size;have:=EB.o;omega))
  ·have hlt:i<m:=by omega
   have hlp:i<p.length:=by have:=HM.o;omega
   have e1:(i:Int)<(m:Int):=by omega
   have e2:(0:Int)<=(i:Int):=by omega
   have e3:(i:Int)<1000:=by omega
   have hls:i<(Db ks u n p.length).length:=by rw[BI];exact hlp
   have hls2:i<(Db ks u n m).length:=by rw[BI];exact hlt
   obtain⟨y,ey⟩:=Ak (p[i]);obtain⟨x,ex⟩:=Ak ((Db ks u n p.length)[i]);obtain⟨z,ez⟩:=Ak (y ^^^ x);obtain⟨b1,o1,rfl,hb1',hc1⟩:=HR.o.at_ (Dy hlp);obtain⟨b2,o2,rfl,hb2',hc2⟩:=RS.o.at_ (Dy hls2);rw[<-ey] at hc1;have hex:(Db ks u n m)[i]=x:=by
    rw[ex];have:=HM.o;subst this
    rfl
   rw[hex] at hc2;have hb1n:b1<N0:=by have:=EN.o;have:=H5.o.size;have:=EB.o;omega
   have hb2n:b2<N0:=by have:=EN.o;omega
   have d1:wr.cell? ⟨b1,o1+i,none⟩=some (.int .u8 (y.toNat:Int)):=(HW.o.cell (p:=⟨b1,o1+i,none⟩) hb1n).trans ((H5.o.cell (p:=⟨b1,o1+i,none⟩) hb1').trans hc1);have d2:wr.cell? ⟨b2,o2+i,none⟩=some (.int .u8 (x.toNat:Int)):=(HW.o.cell (p:=⟨b2,o2+i,none⟩) hb2n).trans hc2;have hxo:bits .xor .u8 (y.toNat:Int) (x.toNat:Int)=(z.toNat:Int):=by rw[ez];exact Zp y x
   have hnx:=Sg ks u n p i hlp hls;rw[<-ey,<-ex,<-ez] at hnx;have NX:=I hnx;clear hnx;have HX:=I hx;clear hx;have HI:=I hi;clear hi;clear ey ex ez hc1 hc2 hex hls hls2 hb1' hb2' hb1n hb2n
   go_wp2_with fail
   go_region_law (refine step_append_lies _ (by rfl) (.tmp 35) (.tmp 45) 26 (by rfl) N0 5 ib _ 1 1 Tryz.underlying26 hi0 hz0 hs0 hb0 (by rfl) (by decide) u12 i (bvs ((mixL ks u n p).take i)) (by rfl) (DF HO.o (by rfl)) ⟨wr.heap.size,0,none⟩ 1 1 [.int .u8 (z.toNat:Int)] (by rfl) (by rfl) (Sp.LJ (by rfl)) (by simp [Value.oneCell']) (by decide) (by have:=HI.o;have:=HM2.o;unfold maxLen;omega) (by have:=HI.o;have:=HM2.o;omega) (by have:=EN.o;have:=HW.o.size;simp;omega) (wr.heap.size+1) (by simp) ?_;intro g2 cap2 w2 hown2 hgrow hat hlt)
   all_goals (
    have hg2:(wr.alloc (.cells #[.int .u8 (z.toNat:Int)] 5)).grownBy w2 u12.ownBlock:=⟨hgrow.os,hgrow.tape,hgrow.output,hgrow.size,hgrow.block⟩;have hb2:=(HW.o.alloc (by have:=EN.o;have:=HW.o.size;omega) (Obj.cells #[.int .u8 (z.toNat:Int)] 5)).grown hg2 (by have:=EN.o;have:=HW.o.size;simp;omega) (fun q hq=>(HO.o.lt q hq).1);have O6:=I hown2;clear hown2;have B6:=I hb2;clear hb2;clear hgrow hat hlt hg2 d1 d2
    go_wp2_with fail
    go_roundw
    case rel=>exact⟨i+1,by omega,by go_num,by rw[<-NX.o];exact O6.o,B6.o⟩
    case measure=>simp [intOf];omega)
theorem Gn {w w':World} {b o:Nat} {cs:List Value} {row:Option Nat} (h:w.rangeAt b o cs) (hb:b<w.heap.size) (hg:w.grownBy w' row) (hr:row≠some b):w'.rangeAt b o cs:=fun j v hv=>
 (World.cell?_of_block (a:=⟨b,o+j,none⟩) (hg.block b hb (fun e=>hr e.symm))).trans (h j v hv)
theorem Co {w w':World} {b o:Nat} {cs:List Value} (h:w.rangeAt b o cs) (hb:b<w.heap.size) (hg:Below w.heap.size w w'):w'.rangeAt b o cs:=Gn h hb (BD hg none) (by simp)
theorem dtag (ks:Nat->UInt8) (u:Nat) (A:Option Addr) (m c:Nat) (l:List UInt8) (w:World) (hu:u<=255) (hm:m=l.length) (hm2:m<=1000) (hr:Rd w w.heap.size A (bvs l)) :
  Calls Tryz.prog 35 #[.agg (AO ks),.int .i64 (u:Int),.slice A m c] w fun e w'=>∃v,e=.returned v/\w'.ownsRow w.heap.size 5 1 v 8 (bvs (w8 (tagL ks u l)))/\Below w.heap.size w w':=by
 obtain⟨ib,hi0,hz0,hs0,hb0⟩:=info_parts Si.BP;obtain⟨B,eB⟩:=Ak (w.heap.size);have ch:=fun w1=>Sd ks w1
 have i32:=Fv ks;have i16:=Jm ks;have i16b:=Jm (k2 ks);have o16:=RQ ks;have o16b:=RQ (k2 ks);have z16:=AY ks;have z16b:=AY (k2 ks);obtain⟨T,eT⟩:=Ak (tagL ks u l);have hTL:T<18446744073709551616:=by rw[eT];exact KQ _ _ _
 have csum:=fun(w4:World) (A4:Option Addr) (c4:Nat) (h1:1+m<=c4) (h2:c4<=maxLen) (h3:Rd w4 w4.heap.size A4 (bvs (UInt8.ofNat u :: l)))=>Si.Ux (k2 ks) A4 (1+m) c4 (UInt8.ofNat u :: l) w4 (by rw[List.length_cons,hm,Nat.add_comm]) (by omega) h1 h2 h3
 have hT:∀e,e=Ending.returned (Si.wv (Si.Ho (k2 ks) (UInt8.ofNat u :: l)))->e=.returned (.int .u64 (T:Int)):=fun e h=>by rw[h,eT];rfl
 have hbu:[Value.int .u8 (u:Int)]++bvs l=bvs (UInt8.ofNat u :: l):=by
  show [Value.int .u8 (u:Int)]++bvs l=bv (UInt8.ofNat u) :: bvs l;rw[VU u hu];rfl
 obtain⟨kc,ekc⟩:=Ak (AO ks);obtain⟨cs,ecs⟩:=Ak (Sp.AI ks);have hds:∃dl:List Value,dl.toArray=Sp.AI (k2 ks):=⟨_,rfl⟩;obtain⟨dl,edl⟩:=hds;obtain⟨L,eL⟩:=Ak (UInt8.ofNat u :: l);rw[<-ekc] at ch i32⊢;rw[<-ecs] at ch i16 o16 z16;rw[<-edl] at ch i16b o16b z16b;have hkk:Si.AI (k2 ks)=Sp.AI (k2 ks):=rfl;rw[hkk,<-edl] at csum;rw[<-eL] at csum hT hbu;rw[<-eT];have u16:(Tryz.prog.info? 168).map (·.size)=some dl.length:=by rw[<-List.size_toArray];exact i16b
 have hu16:=Tryz.underlying168;have hu1:(u:Int)<=255:=by omega
 have hu2:(0:Int)<=(u:Int):=by omega
 have hu3:(u:Int) % 256=(u:Int):=by omega
 have hu4:IntKind.u8.wrap (u:Int)=(u:Int):=by rw[IntKind.wrap_u8'];exact hu3
 have EB:=I eB;have HR:=I (eB▸hr);clear hr;have HM:=I hm;clear hm;have q3:(m:Int)<=1000:=by omega
 have HM2:=I hm2;clear hm2;have I32:=I i32;clear i32;have I16:=I i16;clear i16;have I16B:=I i16b;clear i16b;have O16:=I o16;clear o16;have O16B:=I o16b;clear o16b;have Z16:=I z16;clear z16;have Z16B:=I z16b;clear z16b;have CSUM:=I csum;clear csum;have HT:=I hT;clear hT;have HBU:=I hbu;clear hbu;have TL:=I hTL;clear hTL;have U16:=I u16;clear u16;have HU16:=I hu16;clear hu16;have hb0':Below B w (w.alloc (.cells kc 35)):=eB▸(Below.refl w.heap.size w).alloc Ag _;have HB0:=I hb0';clear hb0';clear hu ekc ecs edl eT eL hkk eB;go_enter Tryz.func35,Tryz.ntmps35
 go_upto_region 2 with(first
  |(refine Am (by rfl) 35 (.tmp 3) (by rfl) w.heap.size 0 (by rfl) kc _ (Si.Ae (Blk.new w 35 kc)) Tryz.underlying35 (by rfl) I32.o ?_)
  |(go_at_call 78;refine Aj (ch _) ?_;rintro w1 hb1;clear ch;have hb1:=HB0.o.trans (hb1.mono (by have:=EB.o;simp;omega));have H1:=I hb1;clear hb1)
  |(refine wpList_store_mid (by rfl) 168 (.tmp 7) (.tmp 12) (by rfl) w1.heap.size 0 cs (by rfl) (by rfl) (by rw[Z16.o];exact World.there_alloc (by have:=Si.Ar (Blk.new w1 168 (Sp.AI fun _=>0));rwa [AY] at this) _) I16.o O16.o ?_)
  |(refine wpList_store_mid (by rfl) 168 (.tmp 8) (.tmp 13) (by rfl) (w1.heap.size+1) 0 dl.toArray (by rfl) (by rfl) (by rw[Z16B.o];exact World.there_setCells (by have:=Si.Ar (Si.Blk.new_of (w1.alloc (.cells (Sp.AI fun _=>0) 168)) (w1.heap.size+1) 168 _ (Sp.AI fun _=>0) rfl (by simp));rwa [AY] at this) _ _ _) I16B.o O16B.o ?_)
  |fail)
 have h2:=JX w1 (Sp.AI fun _=>0) 168 cs dl.toArray (by rw[AY,Z16.o]) (by rw[AY,Z16B.o]);change Code.wp _ _ _ _ (twoW w1 (Sp.AI fun _=>0) 168 cs dl.toArray);generalize twoW w1 (Sp.AI fun _=>0) 168 cs dl.toArray=W2 at h2⊢;have hb2:=H1.o.trans (h2.2.2.1.mono (by have:=H1.o.size;have:=EB.o;omega));have HB2:Hid (Below B w W2.drew):=below_drewN hb2 1;have hra:W2.drew.rangeAt (w1.heap.size+1) 0 dl:=by have:=h2.2.1;simpa using this
 have HSZ:=I (show w1.heap.size+2<=W2.drew.heap.size from h2.2.2.2);clear h2 hb2;have hu16:=HU16.o;have u16:=U16.o;simp only[Act.put];have LIT:Hid ((W2.alloc (.cells #[.int .u8 (u:Int)] 5)).drew.ownsRow W2.heap.size 5 1 (.slice (some ⟨W2.heap.size,0,none⟩) 1 1) 1 [.int .u8 (u:Int)]):=World.ownsRow_lit (base:=W2.heap.size) (e:=5) (size:=1) W2.drew #[.int .u8 (u:Int)] 1 Ag (by decide) (by rfl);have hBW:B<=W2.drew.heap.size:=by have:=HB2.o.size;have:=EB.o;omega
 have HB3:Hid (Below B w (W2.alloc (.cells #[.int .u8 (u:Int)] 5)).drew):=HB2.o.alloc hBW (.cells #[.int .u8 (u:Int)] 5);have HRD:Hid (Rd (W2.alloc (.cells #[.int .u8 (u:Int)] 5)).drew B A (bvs l)):=HR.o.below HB3.o;have hra3:(W2.alloc (.cells #[.int .u8 (u:Int)] 5)).drew.rangeAt (w1.heap.size+1) 0 dl:=World.rangeAt_alloc hra (.cells #[.int .u8 (u:Int)] 5);have HSZ3:Hid ((W2.alloc (.cells #[.int .u8 (u:Int)] 5)).drew.heap.size=W2.heap.size+1):=by show(W2.alloc _).heap.size=_;simp
 have HSZ2:Hid (w1.heap.size+2<=W2.heap.size):=HSZ.o;have HBS:Hid (B<=W2.heap.size):=hBW;clear hBW
 go_region_held3 (fun w'=>w'.rangeAt (w1.heap.size+1) 0 dl) (first | exact hra | exact hra3 | exact hS4 | exact hS5 | exact hS6) (first
  |(rw[if_pos (by rfl)];refine Ez _ (.tmp 17) (.tmp 18) 26 (by rfl) W2.heap.size 5 ib _ 1 Tryz.underlying26 hi0 hz0 hs0 hb0 (by rfl) _ 1 [.int .u8 (u:Int)] (by rfl) LIT.o B A m c (bvs l) (by rfl) (by rw[Ao];exact HM.o) HRD.o (Bl _) (by have:=HM2.o;unfold maxLen;omega) (by have:=HM2.o;omega) (by have:=HSZ3.o;omega) ?_;intro v4 w4 hown4 hgrow4 hat4;rw[HBU.o] at hown4;have hS4:w4.rangeAt (w1.heap.size+1) 0 dl:=Gn hra3 (by have:=HSZ3.o;have:=HSZ2.o;omega) hgrow4 (by have:=HSZ2.o;simp [Value.ownBlock];omega);have hb4:Below B w w4:=HB3.o.grown hgrow4 (by have:=HSZ3.o;have:=HBS.o;omega) (fun k hk=>by have:=HBS.o;simp [Value.ownBlock] at hk;omega);obtain⟨A4,c4,hv4,hc4,hm4,hr4⟩:=Em (S:=fun _=>False) hown4 (fun _ _ x=>x);subst hv4;have csum4:=CSUM.o w4 A4 c4 hc4 hm4 hr4.rd;have H4:=I hb4;have Z4:=I hgrow4.size;clear hown4 hgrow4 hat4 hb4 hc4 hm4 hr4)
  |(go_at_call 79;refine Calls.mono csum4 ?_;rintro e w5 ⟨he,hb5⟩;have he:=HT.o e he;subst he;clear csum4;have hS5:w5.rangeAt (w1.heap.size+1) 0 dl:=Co hS4 (by have:=Z4.o;have:=HSZ3.o;have:=HSZ2.o;omega) hb5;have Z5:=I hb5.size;have hb5:=H4.o.trans (hb5.mono (by have:=H4.o.size;have:=EB.o;omega));have cbig:=dbig T w5 TL.o;have H5:=I hb5;clear hb5)
  |(go_at_call 61;refine Calls.mono cbig ?_;rintro e w6 ⟨v6,rfl,hown6,hb6⟩;clear cbig;have hS6:w6.rangeAt (w1.heap.size+1) 0 dl:=Co hS5 (by have:=Z4.o;have:=Z5.o;have:=HSZ3.o;have:=HSZ2.o;omega) hb6;have hb6:=H5.o.trans (hb6.mono (by have:=H5.o.size;have:=EB.o;omega));have H6:=I hb6;have O6:=I hown6;have Z6:=I H5.o.size;clear hb6 hown6))
 all_goals (
  clear hra hra3 hS4 hS5 hS6
  go_wp2_with fail
  go_ret;exact⟨_,rfl,O6.o.mono (by have:=Z6.o;have:=EB.o;omega),EB.o▸H6.o⟩)
theorem Sh (ks:Nat->UInt8) (u n:Int) (A:Option Addr) (m c:Nat) (w:World) (hx:¬(0<=u/\u<=255/\0<=n/\n<=1099511627776/\m<=784)) :
  Calls Tryz.prog 22 #[.agg (AO ks),.int .i64 u,.int .i64 n,.slice A m c] w fun e w'=>e=.returned (.tuple #[.slice none 0 0,.int .i64 1])/\Below w.heap.size w w':=by
 obtain⟨kc,ekc⟩:=Ak (AO ks);rw[<-ekc];have t:(decide (u<0)=true)\/(decide (u<0)=false/\decide (255<u)=true)\/(decide (u<0)=false/\decide (255<u)=false/\decide (n<0)=true)\/(decide (u<0)=false/\decide (255<u)=false/\decide (n<0)=false/\decide (1099511627776<n)=true)\/(decide (u<0)=false/\decide (255<u)=false/\decide (n<0)=false/\decide (1099511627776<n)=false/\decide (784<(m:Int))=true):=by
  simp only[decide_eq_true_eq,decide_eq_false_iff_not];omega
 have HB:=I ((Below.refl w.heap.size w).alloc Ag (.cells kc 35));clear hx ekc;rcases t with t1 | ⟨t1,t2⟩ | ⟨t1,t2,t3⟩ | ⟨t1,t2,t3,t4⟩ | ⟨t1,t2,t3,t4,t5⟩<;>(
  go_enter Tryz.func22,Tryz.ntmps22
  go_wp2
  go_ret2
  exact⟨rfl,HB.o⟩)
theorem Sj (ks:Nat->UInt8) (u n:Nat) (A:Option Addr) (m c:Nat) (p:List UInt8) (w:World) (hu:u<=255) (hn:n<=1099511627776) (hm:m=p.length) (hm2:m<=784) (hr:Rd w w.heap.size A (bvs p)) :
  Calls Tryz.prog 22 #[.agg (AO ks),.int .i64 (u:Int),.int .i64 (n:Int),.slice A m c] w fun e w'=>∃A2 c2,e=.returned (.tuple #[.slice A2 (m+16) c2,.int .i64 0])/\RdA (fun i=>i<w.heap.size) w' A2 (bvs (Dt ks u n p))/\Below w.heap.size w w'/\m+16<=c2/\c2<=maxLen:=by
 obtain⟨ib,hi0,hz0,hs0,hb0⟩:=info_parts Si.BP;obtain⟨B,eB⟩:=Ak (w.heap.size);have cmix:=fun(w1:World) (h1:Rd w1 w1.heap.size A (bvs p))=>dmix ks u n A m c p w1 hu (by omega) hm (by omega) h1
 have cbig:=fun(w1:World)=>dbig n w1 (by omega)
 obtain⟨L,eL⟩:=Ak (Eu ks u n p);have hEL:bvs (w8 n)++bvs (mixL ks u n p)=bvs L:=by rw[eL,Eu,Bt]
 have hLL:8+m=L.length:=by rw[eL,BM,<-hm]
 have ctag:=fun(w1:World) (A1:Option Addr) (c1:Nat) (h1:Rd w1 w1.heap.size A1 (bvs L))=>dtag ks u A1 (8+m) c1 L w1 hu hLL (by omega) h1
 have hFin:bvs L++bvs (w8 (tagL ks u L))=bvs (Dt ks u n p):=by rw[eL,<-Bt];rfl
 have hML:(bvs (mixL ks u n p)).length=m:=by rw[Ao,Bi,hm]
 obtain⟨M,eM⟩:=Ak (bvs (mixL ks u n p));obtain⟨W8,eW8⟩:=Ak (bvs (w8 n));obtain⟨T8,eT8⟩:=Ak (bvs (w8 (tagL ks u L)));have oM:∀v∈M,v.oneCell'=true:=eM▸Bl _;have oT:∀v∈T8,v.oneCell'=true:=eT8▸Bl _;have hT8:T8.length=8:=by rw[eT8,Ao,Cv]
 rw[<-eM] at cmix hEL hML;rw[<-eW8] at cbig hEL;rw[<-eT8] at ctag hFin;have hkl:∃kl:List Value,kl.toArray=AO ks:=⟨_,rfl⟩;obtain⟨kl,ekl⟩:=hkl;have u32:(Tryz.prog.info? 35).map (·.size)=some kl.length:=by rw[<-List.size_toArray,ekl];exact Fv ks
 have hu32:=Tryz.underlying35;rw[<-ekl] at cmix ctag⊢;have q1:(n:Int)<=1099511627776:=by omega
 have q2:(0:Int)<=(n:Int):=by omega
 have q3:(m:Int)<=784:=by omega
 have q4:IntKind.u64.wrap (n:Int)=(n:Int):=by rw[IntKind.wrap_u64];omega
 have q5:(n:Int) % 18446744073709551616=(n:Int):=by omega
 have t1:decide ((u:Int)<0)=false:=by simp
 have t2:decide (255<(u:Int))=false:=by simp;omega
 have t3:decide ((n:Int)<0)=false:=by simp
 have t4:decide (1099511627776<(n:Int))=false:=by simp;omega
 have t5:decide (784<(m:Int))=false:=by simp;omega
 have EB:=I eB;have HR:=I (eB▸hr);clear hr;have HM2:=I hm2;clear hm2;have CMIX:=I cmix;clear cmix;have CBIG:=I cbig;clear cbig;have CTAG:=I ctag;clear ctag;have HEL:=I hEL;clear hEL;have HFIN:=I hFin;clear hFin;have HML:=I hML;clear hML;have HT8:=I hT8;clear hT8;have OM:=I oM;clear oM;have OT:=I oT;clear oT;have hra:(w.alloc (.cells kl.toArray 35)).drew.rangeAt w.heap.size 0 kl:=by have:=Si.Ae (Blk.new w 35 kl.toArray);simpa using this
 have HB0:Hid (Below B w (w.alloc (.cells kl.toArray 35)).drew):=eB▸below_drewN ((Below.refl w.heap.size w).alloc Ag _) 1;have HS0:Hid ((w.alloc (.cells kl.toArray 35)).drew.heap.size=B+1):=by show(w.alloc _).heap.size=_;simp [eB]
 have cb:=CBIG.o (w.alloc (.cells kl.toArray 35)).drew;clear hu hn hm hLL eM eW8 eT8 ekl eB eL;go_enter Tryz.func22,Tryz.ntmps22
 go_upto_region 3 with fail
 go_region_held3 (fun w'=>w'.rangeAt w.heap.size 0 kl) (first | exact hra | exact hS1 | exact hS2 | exact hS3) (first
  |(rw[if_pos (by rfl)];refine Ez _ (.tmp 32) (.tmp 38) 26 (by rfl) (B+1) 5 ib _ 1 Tryz.underlying26 hi0 hz0 hs0 hb0 (by rfl) v1 8 W8 (by rfl) O2.o w2.heap.size A2 m c2 M (by rfl) HML.o.symm R2.o OM.o (by have:=HM2.o;unfold maxLen;omega) (by have:=HM2.o;omega) (by have:=Z2.o;omega) ?_;intro v3 w3 hown3 hgrow3 hat3;rw[HEL.o] at hown3;have hS3:w3.rangeAt w.heap.size 0 kl:=Gn hS2 (by have:=Z2.o;have:=EB.o;omega) hgrow3 (fun hx=>by have:=Fx O2.o _ hx;have:=EB.o;omega);have hb3:Below B w w3:=H2.o.grown hgrow3 (by have:=Z2.o;omega) (fun k hk=>by have:=Fx O2.o _ hk;omega);obtain⟨A3,c3,hv3,hc3,hm3,hr3⟩:=Em (S:=fun _=>False) hown3 (fun _ _ x=>x);subst hv3;have ct:=CTAG.o w3 A3 c3 hr3.rd;have H3:=I hb3;have O3:=I hown3;have Z3:=I (Nat.le_trans Z2.o hgrow3.size);clear hown3 hgrow3 hat3 hb3 hc3 hm3 hr3)
  |(go_at_call 61;refine Calls.mono cb ?_;rintro e w1 ⟨v1,rfl,hown1,hb1⟩;clear cb;have hS1:w1.rangeAt w.heap.size 0 kl:=Co hra (by have:=HS0.o;have:=EB.o;omega) hb1;have hz1:B+1<=w1.heap.size:=by{have:=HS0.o;have:=hb1.size;omega};have hb1:=HB0.o.trans (hb1.mono (by have:=HS0.o;omega));have cm:=CMIX.o w1 ((HR.o.below hb1).more (by omega));have H1:=I hb1;have O1:=I (hown1.mono (base':=B+1) (by have:=HS0.o;omega));have Z1:=I hz1;clear hb1 hown1 hz1)
  |(go_at_call 36;refine Calls.mono cm ?_;rintro e w2 ⟨v2,rfl,hown2,hb2⟩;clear cm;have hS2:w2.rangeAt w.heap.size 0 kl:=Co hS1 (by have:=Z1.o;have:=EB.o;omega) hb2;have hz2:B+1<=w2.heap.size:=Nat.le_trans Z1.o hb2.size;have ho2:=FI O1.o hb2;obtain⟨A2,c2,hv2,hc2,hm2,hr2⟩:=Em (S:=fun _=>False) hown2 (fun _ _ x=>x);subst hv2;have hb2:=H1.o.trans (hb2.mono (by have:=Z1.o;omega));have H2:=I hb2;have O2:=I ho2;have Z2:=I hz2;have R2:=I hr2.rd;clear hb2 hown2 hz2 ho2 hc2 hm2 hr2))
 all_goals (
  have HA3:Hid (w3.rangeAt w.heap.size 0 kl.toArray.toList):=hS3;have U32:Hid ((Tryz.prog.info? 35).map (·.size)=some kl.toArray.size):=by rw[List.size_toArray];exact u32
  clear hra hS1 hS2 hS3 u32 hu32 hb1 hb2
  go_wp2_with (first
   |(refine Am (by rfl) 35 (.tmp 4) (by rfl) w.heap.size 0 (by rfl) kl.toArray _ HA3.o Tryz.underlying35 (by rfl) U32.o ?_)
   |(go_at_call 35;refine Calls.mono ct ?_;rintro e w4 ⟨v4,rfl,hown4,hb4⟩;clear ct;have ho4:=FI O3.o hb4;have hz4:=Nat.le_trans Z3.o hb4.size;have hb4:=H3.o.trans (hb4.mono (by have:=Z3.o;omega));obtain⟨A4,c4,hv4,hc4,hm4,hr4⟩:=Em (S:=fun _=>False) hown4 (fun _ _ x=>x);subst hv4;have H4:=I hb4;have O4:=I ho4;have Z4:=I hz4;have R4:=I hr4.rd;clear hb4 hown4 ho4 hz4 hc4 hm4 hr4)
   |(at_builtin;refine Az _ (by rfl) (.tmp 40) (.tmp 44) 26 (by rfl) (B+1) 5 ib _ 1 Tryz.underlying26 hi0 hz0 hs0 hb0 (by rfl) _ (8+m) (bvs L) (by rfl) O4.o w4.heap.size A4 8 c4 T8 (by rfl) HT8.o.symm R4.o OT.o (by have:=HM2.o;unfold maxLen;omega) (by have:=HM2.o;omega) (by have:=Z4.o;omega) ?_;intro v5 w5 hown5 hgrow5 hat5;rw[HFIN.o] at hown5;have hb5:=H4.o.grown hgrow5 (by have:=Z4.o;omega) (fun k hk=>by have:=Fx O4.o k hk;omega);obtain⟨A5,c5,hv5,hc5,hm5,hr5⟩:=Em (S:=fun i=>i<w.heap.size) hown5 (fun k hk hx=>by have:=Fx hown5 k hk;have:=EB.o;omega);subst hv5;have H5:=I hb5;have R5:=I hr5;have C5:=I (And.intro hc5 hm5);clear hown5 hgrow5 hat5 hb5 hc5 hm5 hr5)
   |fail)
  go_ret2
  exact⟨A5,c5,by show Ending.returned (.tuple #[.slice A5 (8+m+8) c5,.int .i64 0])=_;rw[show 8+m+8=m+16 by omega],R5.o,EB.o▸H5.o,by have:=C5.o.1;omega,C5.o.2⟩)
end Se
end Go.Proofs.YtlchkbpffaclmaaGreat
