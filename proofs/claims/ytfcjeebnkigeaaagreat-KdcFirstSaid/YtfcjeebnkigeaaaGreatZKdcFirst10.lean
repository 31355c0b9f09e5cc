import Derived.Test.YtfcjeebnkigeaaaGreatZKdcFirst9
set_option maxHeartbeats 25600000
set_option maxRecDepth 100000
set_option linter.unusedVariables false
set_option linter.unusedSimpArgs false
namespace Go.Proofs.YtfcjeebnkigeaaaGreat
section
namespace Open
open Go.ChangeShapes Go.WideShapes Go.ChangeAt Go.RowKit Go.Deep Af
theorem TJ {n:Int} (h:(Lit.int .u8 n).wf=true):∃b:UInt8,n=(b.toNat:Int):=by
 have hx:0≤n∧n≤255:=by simpa [Lit.wf,IntKind.min,IntKind.max,IntKind.signed,IntKind.bits] using h
 refine⟨UInt8.ofNat n.toNat,?_⟩;have:(UInt8.ofNat n.toNat).toNat=n.toNat:=by simp;omega
 rw[this];omega
theorem Rj {n:Int} (h:(Lit.int .i64 n).wf=true) : -9223372036854775808≤n∧n≤9223372036854775807:=by
 simpa [Lit.wf,IntKind.min,IntKind.max,IntKind.signed,IntKind.bits] using h
section
variable {H:Type} {enc:TypeId×Value→H} {P:Program} {W:World}
end
end Open
end
section
namespace Se
open Go.RowKit Af
theorem TK (b:Nat) (u N:Int) (A:Option Addr) (m c:Nat) (w:World) (wN:(Lit.int .i64 N).wf=true) (hm:m≤maxLen) (hx:¬(0≤u∧u≤255∧0≤N∧N≤1099511627776∧m≤784)) :
  Calls Tryz.prog 159 #[.pointer (some ⟨b,0,none⟩),.int .i64 u,.int .i64 N,.slice A m c] w fun e w'=>e = .returned (.tuple #[.slice none 0 0,.int .i64 1])∧w'=w:=by
 by_cases h1:0≤u∧u≤255
 ·have f1:=Iz u true (by simp;omega)
  by_cases h2:N<0
  ·have t2:decide (N<0)=true:=by simpa using h2
   clear hx h1 wN hm;go_enter Tryz.func159,Tryz.ntmps159
   go_wp2_with (go_at_call 161;refine Calls.mono (f1 _) ?_;rintro e wq ⟨rfl,hw⟩;have hw:=hw.symm;subst hw;clear f1)
   go_ret2
   exact⟨rfl,rfl⟩
  ·obtain⟨n,rfl⟩:∃n:Nat,N=(n:Int):=⟨N.toNat,by omega⟩
   have hn63:n<9223372036854775808:=by
    have:=Open.Rj wN;omega
   have t2:decide ((n:Int)<0)=false:=by simp
   have q4:IntKind.u64.wrap (n:Int)=(n:Int):=by rw[IntKind.wrap_u64];omega
   by_cases h3:n≤1099511627776
   ·have f2:=EI n true (by simp;omega)
    have t3:decide (784<(m:Int))=true:=by simp;omega
    have q1:(n:Int)≤1099511627776:=by omega
    clear hx h1 h2 wN;go_enter Tryz.func159,Tryz.ntmps159
    go_wp2_with (first
     |(go_at_call 161;refine Calls.mono (f1 _) ?_;rintro e wq ⟨rfl,hw⟩;have hw:=hw.symm;subst hw;clear f1)
     |(go_at_call 223;refine Calls.mono (f2 _) ?_;rintro e wq ⟨rfl,hw⟩;have hw:=hw.symm;subst hw;clear f2))
    go_ret2
    exact⟨rfl,rfl⟩
   ·have f2:=EI n false (by simp;omega)
    clear hx h1 h2 wN;go_enter Tryz.func159,Tryz.ntmps159
    go_wp2_with (first
     |(go_at_call 161;refine Calls.mono (f1 _) ?_;rintro e wq ⟨rfl,hw⟩;have hw:=hw.symm;subst hw;clear f1)
     |(go_at_call 223;refine Calls.mono (f2 _) ?_;rintro e wq ⟨rfl,hw⟩;have hw:=hw.symm;subst hw;clear f2))
    go_ret2
    exact⟨rfl,rfl⟩
 ·have f1:=Iz u false (by
   rw[eq_comm,Bool.and_eq_false_iff];rcases Int.lt_or_le u 0 with h | h
   ·exact .inl (by simp;omega)
   ·exact .inr (by simp;omega))
  clear hx h1 wN;go_enter Tryz.func159,Tryz.ntmps159
  go_wp2_with (go_at_call 161;refine Calls.mono (f1 _) ?_;rintro e wq ⟨rfl,hw⟩;have hw:=hw.symm;subst hw;clear f1)
  go_ret2
  exact⟨rfl,rfl⟩
def CH (w w':World) (b:Nat) (h h':Option Nat):Prop:=Chg (Ow b h) w w'∧(h'=h∨(h=none∧∃g,h'=some g∧w.heap.size≤g))
theorem CH.refl (w:World) (b:Nat) (h:Option Nat):CH w w b h h:=⟨Chg.refl _ _,.inl rfl⟩
theorem Step.o {w w':World} {b g:Nat} {h:Option Nat} (hs:Step w w' b h g):CH w w' b h (some g):=
 ⟨hs.1,hs.2.imp (fun e=>e.symm) (fun e=>⟨e.1,g,rfl,e.2⟩)⟩
theorem CH.own {w w':World} {b:Nat} {h h':Option Nat} (hs:CH w w' b h h'):∀i,i<w.heap.size→Ow b h' i→Ow b h i:=by
 intro i hi hx;rcases hs.2 with rfl | ⟨_,g,rfl,hg⟩
 ·exact hx
 ·rcases hx with hx | hx
  ·exact .inl hx
  ·injection hx with hx;omega
theorem CH.trans {a w c:World} {b:Nat} {h h1 h2:Option Nat} (s1:CH a w b h h1) (s2:CH w c b h1 h2):CH a c b h h2:=by
 refine⟨s1.1.trans s2.1 s1.own,?_⟩;rcases s1.2 with rfl | ⟨e,g,rfl,hg⟩
 ·rcases s2.2 with rfl | ⟨e,g,rfl,hg⟩
  ·exact .inl rfl
  ·exact .inr ⟨e,g,rfl,Nat.le_trans s1.1.size hg⟩
 ·rcases s2.2 with rfl | ⟨e2,_⟩
  ·exact .inr ⟨e,g,rfl,hg⟩
  ·cases e2
theorem CH.drewN {w w':World} {b:Nat} {h h':Option Nat} (hs:CH w w' b h h') (k:Nat):CH w (w'.drewN k) b h h':=⟨⟨hs.1.os,hs.1.tape,hs.1.output,hs.1.size,hs.1.block⟩,hs.2⟩
theorem IF (S:Nat→Prop) (w:World) (k:Nat):Chg S w (w.drewN k):=⟨rfl,rfl,rfl,Nat.le_refl _,fun _ _ _=>rfl⟩
theorem Lg {l:List UInt8} {n:Nat} {P:Prop} (hn:n=l.length) (h:8≤n) (hx:bvs l = []):P:=by
 have:=Aj l;rw[hx] at this;simp at this;omega
theorem RdA.take {S:Nat→Prop} {w:World} {A:Option Addr} {l:List UInt8} (h:RdA S w A (bvs l)) (k:Nat):RdA S w A (bvs (l.take k)):=by
 rcases h with h | ⟨b,o,h1,h2,h3,h4⟩
 ·left
  have:l = []:=List.map_eq_nil_iff.1 h;rw[this,List.take_nil];rfl
 ·refine .inr ⟨b,o,h1,h2,h3,fun i u hu=>h4 i u ?_⟩
  unfold bvs at hu⊢;rw[List.map_take,List.getElem?_take] at hu
  split at hu
  ·exact hu
  ·cases hu
theorem RdA.drop {S:Nat→Prop} {w:World} {b o:Nat} {l:List UInt8} (h:RdA S w (some ⟨b,o,none⟩) (bvs l)) (k:Nat):RdA S w (some ⟨b,o+k,none⟩) (bvs (l.drop k)):=by
 rcases h with h | ⟨b',o',h1,h2,h3,h4⟩
 ·left
  have:l = []:=List.map_eq_nil_iff.1 h;rw[this,List.drop_nil];rfl
 ·injection h1 with h1
  injection h1 with e1 e2;subst e1 e2;refine .inr ⟨b,o+k,rfl,h2,h3,fun i u hu=>?_⟩;unfold bvs at hu;rw[List.map_drop,List.getElem?_drop] at hu;have:=h4 (k+i) u hu
  rwa [←Nat.add_assoc] at this
theorem Rk {ks:Nat→UInt8} {u:Nat} {l:List UInt8} (h:l.length<16∨800<l.length∨1099511627776<n8 l):isL ks u l=false:=by
 unfold isL;rcases h with h | h | h
 ·rw[show decide (16≤l.length)=false by simp;omega];simp
 ·rw[show decide (l.length≤800)=false by simp;omega];simp
 ·rw[show decide (n8 l≤1099511627776)=false by simp;omega];simp
theorem NJ {ks:Nat→UInt8} {u:Nat} {l:List UInt8} (h1:16≤l.length) (h2:l.length≤800) (h3:n8 l≤1099511627776):isL ks u l=decide (tagL ks u (Ef l)=n8 (Dd l)):=by
 unfold isL;rw[show decide (16≤l.length)=true by simpa using h1,show decide (l.length≤800)=true by simpa using h2,show decide (n8 l≤1099511627776)=true by simpa using h3];simp
theorem TM (b u:Nat) (ks:Nat→UInt8) (A:Option Addr) (n c:Nat) (l:List UInt8) (w:World) (hn:n=l.length) (hc:n≤c) (hm:c≤maxLen) (hr:Rd w w.heap.size A (bvs l)) (hx:l.length<16∨800<l.length∨1099511627776<n8 l) :
  Calls Tryz.prog 162 #[.pointer (some ⟨b,0,none⟩),.int .i64 (u:Int),.slice A n c] w fun e w'=>e = .returned (.bool false)∧w'=w:=by
 by_cases h1:n<16
 ·have t1:decide ((n:Int)<16)=true:=by simp;omega
  clear hx hr hn hc hm h1;go_enter Tryz.func162,Tryz.ntmps162
  go_wp2
  go_ret;exact⟨rfl,rfl⟩
 ·have t1:decide ((n:Int)<16)=false:=by simp;omega
  by_cases h2:800<n
  ·have t2:decide (800<(n:Int))=true:=by simp;omega
   clear hx hr hn hc hm h1 h2;go_enter Tryz.func162,Tryz.ntmps162
   go_wp2
   go_ret;exact⟨rfl,rfl⟩
  ·have t2:decide (800<(n:Int))=false:=by simp;omega
   have h3:1099511627776<n8 l:=by omega
   have cw:=Di w.heap.size A n c l w hn (by omega) hc hr;have f2:=EI (n8 l) false (by simp;omega);obtain⟨N,eN⟩:∃N,N=n8 l:=⟨_,rfl⟩;rw[←eN] at cw f2;clear hx hr hn hc hm h1 h2 h3 eN;go_enter Tryz.func162,Tryz.ntmps162
   go_wp2_with (first
    |(go_at_call 164;refine Calls.mono cw ?_;rintro e wq ⟨rfl,hw⟩;have hw:=hw.symm;subst hw;clear cw)
    |(go_at_call 223;refine Calls.mono (f2 _) ?_;rintro e wq ⟨rfl,hw⟩;have hw:=hw.symm;subst hw;clear f2))
   go_ret;exact⟨rfl,rfl⟩
theorem We (b:Nat) (ks:Nat→UInt8) (h:Option Nat) (a o r u:Nat) (A:Option Addr) (n c:Nat) (l:List UInt8) (w:World) (hu:u≤255) (hn:n=l.length) (hc:n≤c) (hm:c≤maxLen) (hr:RdA (Ow b h) w A (bvs l)) (hK:Box w b ks h a o r) (h1:16≤l.length) (h2:l.length≤800) (h3:n8 l≤1099511627776) :
  Calls Tryz.prog 162 #[.pointer (some ⟨b,0,none⟩),.int .i64 (u:Int),.slice A n c] w fun e w'=>e = .returned (.bool (decide (tagL ks u (Ef l)=n8 (Dd l))))∧∃g,Box w' b ks (some g) a o r∧Step w w' b h g:=by
 have cw:=Di w.heap.size A n c l w hn (by omega) hc hr.rd;have f2:=EI (n8 l) true (by simp;omega);obtain⟨b2,o2,rfl⟩:∃b2 o2,A=some ⟨b2,o2,none⟩:=by
  rcases hr with hx | ⟨b2,o2,h4,_⟩
  ·exact Lg hn (by omega) hx
  ·exact⟨b2,o2,h4⟩
 obtain⟨k,hk⟩:∃k,n=k+8:=⟨n - 8,by omega⟩;have hk8:n - 8=k:=by omega
 have hhd:Ef l=l.take k:=by unfold Ef;rw[←hn,hk8]
 have hla:Dd l=l.drop k:=by unfold Dd;rw[←hn,hk8]
 have ct:=fun(q:Nat)=>Rh b ks h a o r u (some ⟨b2,o2,none⟩) k c (Ef l) (w.drewN q) hu (by rw[hhd,List.length_take];omega) (by omega) ((hhd▸hr.take k).keep (IF (fun _=>False) w q) (fun _ _ x=>x.elim) (fun _ _ x=>x)) (hK.chg (IF (fun _=>False) w q) (fun _ _ x=>x))
 have cl:=fun(w2:World) (hw:RdA (Aw b h w.heap.size) w2 (some ⟨b2,o2+k,none⟩) (bvs (Dd l))) (c2:Nat) (hc2:8≤c2)=>Di w2.heap.size (some ⟨b2,o2+k,none⟩) 8 c2 (Dd l) w2 (by rw[hla,List.length_drop];omega) (Nat.le_refl _) hc2 hw.rd
 have hrl:RdA (Aw b h w.heap.size) w (some ⟨b2,o2+k,none⟩) (bvs (Dd l)):=hla▸(hr.drop k).aw (Nat.le_refl _);obtain⟨N,eN⟩:∃N,N=n8 l:=⟨_,rfl⟩;obtain⟨M,eM⟩:∃M,M=n8 (Dd l):=⟨_,rfl⟩;obtain⟨T,eT⟩:∃T,T=tagL ks u (Ef l):=⟨_,rfl⟩;rw[←eN] at cw f2;rw[←eM] at cl⊢;rw[←eT] at ct⊢;have HRL:=I hrl;clear hrl;have t1:decide ((n:Int)<16)=false:=by simp;omega
 have t2:decide (800<(n:Int))=false:=by simp;omega
 have s1:(k:Int)≤792:=by omega
 have s2:(0:Int)≤(k:Int):=by omega
 have s3:(k:Int)≤(c:Int):=by omega
 have s4:(k:Int)≤(n:Int):=by omega
 have s5:(n:Int)≤(c:Int):=by omega
 have s6:(n:Int) - 8=(k:Int):=by omega
 have s7:IntKind.i64.wrap (k:Int)=(k:Int):=by rw[IntKind.wrap_i64];omega
 have s9:n - k=8:=by omega
 have s10:k≤c:=by omega
 have s11:k≤n:=by omega
 have HKN:=I hk;clear hk;have HC:=I hc;clear hc;have CL:=I cl;clear cl;clear hK hr hn hm h1 h2 h3 eN eM eT hhd hla hu hk8;go_enter Tryz.func162,Tryz.ntmps162
 go_wp2_with (first
  |(go_at_call 164;refine Calls.mono cw ?_;rintro e wq ⟨rfl,hw⟩;have hw:=hw.symm;subst hw;clear cw)
  |(go_at_call 223;refine Calls.mono (f2 _) ?_;rintro e wq ⟨rfl,hw⟩;have hw:=hw.symm;subst hw;clear f2))
 go_quiet (fail)
 have ct2:=ct nq;clear ct
 go_wp2_with (first
  |(go_at_call 225;refine Calls.mono ct2 ?_;rintro e w3 ⟨g,rfl,hb3,hs3⟩;clear ct2;have hr3:=HRL.o.go ((IF (Aw b h w.heap.size) w nq).then hs3.aw);have cl2:=CL.o w3 hr3 (c - k) (by have:=HKN.o;have:=HC.o;omega);have B3:=I hb3;have S3:=I hs3;clear hb3 hs3 hr3 CL)
  |(go_at_call 164;refine Calls.mono cl2 ?_;rintro e wq ⟨rfl,hw⟩;have hw:=hw.symm;subst hw;clear cl2))
 go_ret;refine⟨?_,g,B3.o,⟨⟨S3.o.1.os,S3.o.1.tape,S3.o.1.output,S3.o.1.size,S3.o.1.block⟩,S3.o.2⟩⟩;show Ending.returned (.bool (decide ((T:Int)=(M:Int))))=_
 congr 3
 exact propext ⟨by omega,by omega⟩
end Se
end
section
namespace Se
open Go.RowKit Af
theorem MZ (b:Nat) (ks:Nat→UInt8) (h:Option Nat) (a o r u:Nat) (A:Option Addr) (n c:Nat) (l:List UInt8) (w:World) (hu:u≤255) (hn:n=l.length) (hc:n≤c) (hm:c≤maxLen) (hr:RdA (Ow b h) w A (bvs l)) (hK:Box w b ks h a o r) :
  Calls Tryz.prog 162 #[.pointer (some ⟨b,0,none⟩),.int .i64 (u:Int),.slice A n c] w fun e w'=>e = .returned (.bool (isL ks u l))∧∃h',Box w' b ks h' a o r∧CH w w' b h h':=by
 by_cases hx:l.length<16∨800<l.length∨1099511627776<n8 l
 ·refine(TM b u ks A n c l w hn hc hm hr.rd hx).mono ?_
  rintro e w' ⟨rfl,hw⟩;subst hw;exact⟨by rw[Rk hx],h,hK,CH.refl _ _ _⟩
 ·refine(We b ks h a o r u A n c l w hu hn hc hm hr hK (by omega) (by omega) (by omega)).mono ?_
  rintro e w' ⟨rfl,g,h1,h2⟩;exact⟨by rw[NJ (by omega) (by omega) (by omega)],some g,h1,h2.o⟩
theorem CH.aw {w w':World} {b n:Nat} {h h':Option Nat} (hs:CH w w' b h h'):Chg (Aw b h n) w w':=hs.1.mono fun i _ hx=>.inl hx
end Se
end
section
namespace Se
open Go.RowKit Af
def ksOf (l:List UInt8) (i:Nat):UInt8:=l.getD i 0
end Se
end
section
namespace Se
open Go.RowKit Af
theorem TO (ks:Nat→UInt8) (u n:Nat) (p:List UInt8) (hn:n≤1099511627776) (hp:p.length≤784):isL ks u (DV ks u n p)=true:=by
 have h:=Gl ks u n p hn hp;unfold VZ at h
 split at h
 ·assumption
 ·cases h
theorem TP (ks:Nat→UInt8) (u n:Nat) (p:List UInt8) (hn:n≤1099511627776):mixL ks u (n8 (DV ks u n p)) (midL (DV ks u n p))=p:=by
 rw[NH,Ml ks u n p (by omega),QT]
theorem RdA.o {w w':World} {b g:Nat} {h:Option Nat} {A:Option Addr} {xs:List Value} {ks:Nat→UInt8} {a o r:Nat} (hr:RdA (Nw w.heap.size g) w' A xs) (hK:Box w b ks h a o r):RdA (Ow b (some g)) w' A xs:=hr.mono fun i _ hx=>by
 rcases hx with hx | hx
 ·exact .inl (hx▸hK.lt)
 ·injection hx with hx;exact .inr hx.symm
def k1:Nat→UInt8:=fun i=>if i=0 then 1 else 0
end Se
end
section
namespace SeL
open Go.RowKit Af Se
theorem Wf {b g i:Nat} (h:Ow b (some g) i):i=b∨i=g:=by
 rcases h with h | h
 ·exact .inl h
 ·injection h with h;exact .inr h.symm
theorem Step.ge {w w':World} {b g:Nat} (h:Step w w' b none g):w.heap.size≤g:=by
 rcases h.2 with h | ⟨_,h⟩
 ·cases h
 ·exact h
end SeL
end
section
namespace SpL
open Go.RowKit Af Sp
theorem Hn (K:Nat→Wd) (up lo:Wd) (i j:Nat) (hj:j<4):(DS K up lo (8*i+j)).toNat=(BF K (up,lo+BitVec.ofNat 32 i)).1.toNat / 256 ^ j % 256:=by
 have q1:(8*i+j) / 8=i:=by omega
 have q2:(8*i+j) % 8=j:=by omega
 rw[DS,q1,q2,UInt8.toNat_ofNat',Ji];have hx:=FM (BF K (up,lo+BitVec.ofNat 32 i)).1;have h:j=0∨j=1∨j=2∨j=3:=by omega
 rcases h with rfl | rfl | rfl | rfl<;>simp only[Nat.reducePow]<;>omega
theorem Ho (K:Nat→Wd) (up lo:Wd) (i j:Nat) (hj:j<4):(DS K up lo (8*i+4+j)).toNat=(BF K (up,lo+BitVec.ofNat 32 i)).2.toNat / 256 ^ j % 256:=by
 have q1:(8*i+4+j) / 8=i:=by omega
 have q2:(8*i+4+j) % 8=4+j:=by omega
 rw[DS,q1,q2,UInt8.toNat_ofNat',Ji];have hx:=FM (BF K (up,lo+BitVec.ofNat 32 i)).1;have h:j=0∨j=1∨j=2∨j=3:=by omega
 rcases h with rfl | rfl | rfl | rfl<;>simp only[Nat.reducePow,Nat.reduceAdd]<;>omega
end SpL
end
section
namespace SpL
open Go.RowKit Af Sp
def IG (w:World) (g:Nat) (cs:Array Value):Prop:=w.rangeAt g 0 cs.toList
theorem IG.grown {w w':World} {g:Nat} {cs:Array Value} {row:Option Nat} (h:IG w g cs) (hg:g<w.heap.size) (hb:w.grownBy w' row) (hr:row≠some g):IG w' g cs:=fun j v hv=>
 (World.cell?_of_block (a:=⟨g,0+j,none⟩) (hb.block g hg (fun e=>hr e.symm))).trans (h j v hv)
theorem IG.below {w w':World} {g:Nat} {cs:Array Value} (h:IG w g cs) (hg:g<w.heap.size) (hb:Below w.heap.size w w'):IG w' g cs:=h.grown hg (Bk hb none) (by simp)
theorem Jj {P:Program} {ops:Array Oper} {rest:List Oper} {op:Oper} {a:Act} {w:World} {Q:Exit→Act→World→Prop} (hgd:op.guard=none) (ty:TypeId) (x:Operand) (ho:op.op = .load ty x)
  (g:Nat) (hx:a.eval x = .pointer (some ⟨g,0,none⟩)) (cs:Array Value) (d:TypeDesc) (hc:IG w g cs)
  (hu:P.underlying ty=some d) (hd:d.isRow=true) (hi:(P.info? ty).map (·.size)=some cs.size)
  (h:wpList P ops Q rest (a.put op.dst (.agg cs)) w):wpList P ops Q (op :: rest) a w:=
 wpList_load_mid hgd ty x ho g 0 hx cs.toList d hc hu hd (by rw[Array.length_toList];exact hi) (by simpa using h)
theorem DW (b:Nat):∀(vs:List Value) (o:Nat) (w:World),(w.setCells b o vs).heap.size=w.heap.size
 | [],_,_=>rfl
 |v :: r,o,w=>by rw[World.setCells,DW b r];simp [World.setCell]
theorem UN (K:Nat→Wd):(AO K).size=27:=by simp [AO]
theorem XN (K:Nat→Wd):(Tryz.prog.info? 259).map (·.size)=some (AO K).size:=by rw[UN];kernel_rfl
end SpL
end
section
namespace SpL
open Go.RowKit Af Sp
def eight (x y:Wd):List Value:=[.int .u8 ((x.toNat:Int) % 256),.int .u8 ((x.toNat:Int) / 256 % 256),.int .u8 ((x.toNat:Int) / 65536 % 256),.int .u8 ((x.toNat:Int) / 16777216),
 .int .u8 ((y.toNat:Int) % 256),.int .u8 ((y.toNat:Int) / 256 % 256),.int .u8 ((y.toNat:Int) / 65536 % 256),.int .u8 ((y.toNat:Int) / 16777216)]
theorem Pf (K:Nat→Wd) (up lo:Wd) (i:Nat):bvs (strm K up lo (8*i))++eight (BF K (up,lo+BitVec.ofNat 32 i)).1 (BF K (up,lo+BitVec.ofNat 32 i)).2=bvs (strm K up lo (8*(i+1))):=by
 have e:strm K up lo (8*(i+1))=strm K up lo (8*i)++[DS K up lo (8*i+0),DS K up lo (8*i+1),DS K up lo (8*i+2),DS K up lo (8*i+3),DS K up lo (8*i+4+0),DS K up lo (8*i+4+1),DS K up lo (8*i+4+2),DS K up lo (8*i+4+3)]:=by
  unfold strm;rw[show 8*(i+1)=8*i+1+1+1+1+1+1+1+1 by omega];simp [List.range_succ]
 rw[e,Bx]
 congr 1
 have a0:=Hn K up lo i 0 (by decide);have a1:=Hn K up lo i 1 (by decide);have a2:=Hn K up lo i 2 (by decide);have a3:=Hn K up lo i 3 (by decide);have b0:=Ho K up lo i 0 (by decide);have b1:=Ho K up lo i 1 (by decide);have b2:=Ho K up lo i 2 (by decide);have b3:=Ho K up lo i 3 (by decide);have hx:=FM (BF K (up,lo+BitVec.ofNat 32 i)).1;have hy:=FM (BF K (up,lo+BitVec.ofNat 32 i)).2;rw[show((BF K (up,lo+BitVec.ofNat 32 i)).1.toNat / 256 ^ 3 % 256)=(BF K (up,lo+BitVec.ofNat 32 i)).1.toNat / 16777216 by simp only[Nat.reducePow];omega] at a3;rw[show((BF K (up,lo+BitVec.ofNat 32 i)).2.toNat / 256 ^ 3 % 256)=(BF K (up,lo+BitVec.ofNat 32 i)).2.toNat / 16777216 by simp only[Nat.reducePow];omega] at b3;simp only[bvs,List.map_cons,List.map_nil,bv,eight,a0,a1,a2,a3,b0,b1,b2,b3];simp
theorem Rd.take {w:World} {B:Nat} {A:Option Addr} {xs:List Value} (h:Rd w B A xs) (m:Nat):Rd w B A (xs.take m):=by
 rcases h with h | ⟨b,o,h1,h2,h3⟩
 ·rw[h];exact .inl (by simp)
 ·refine .inr ⟨b,o,h1,h2,fun i u hu=>h3 i u ?_⟩
  rw[List.getElem?_take] at hu
  split at hu
  ·exact hu
  ·cases hu
theorem bt' {B:Nat} {a w c:World} (h:Below B a w) (hB:B+1≤w.heap.size) (k:Below w.heap.size w c):Below B a c:=Oi h (by omega) k
theorem Wg (K:Nat→Wd) (N m:Nat) (n:Int) (w:World) (hN:N<18446744073709551616) (hm:m≤1000) (hn:m=n.toNat) :
  Calls Tryz.prog 133 #[.agg (AO K),.int .u64 (N:Int),.int .i64 n] w fun e w'=>∃A c,e = .returned (.slice A m c)∧m≤c∧Rd w' w'.heap.size A (bvs (strm K (upW N) (loW N) m))∧Below w.heap.size w w':=by
 obtain⟨B,eB⟩:∃B,B=w.heap.size:=⟨_,rfl⟩;rw[←eB];have EB:=I eB;have z27:=UN K;have i27:=XN K;obtain⟨cs,ecs⟩:∃cs,cs=AO K:=⟨_,rfl⟩;rw[←ecs] at z27 i27;have cB:=Xr K;rw[←ecs] at cB;rw[←ecs];obtain⟨ib,hi0,hz0,hs0,hb0⟩:=info_parts BD;have Z27:=I z27;clear z27;have I27:=I i27;clear i27;have ECS:=I ecs;clear ecs;have NN:=I hN;clear hN;have HM:=I hm;clear hm;have HN:=I hn;clear hn;have hst:Blk (w.alloc (.cells cs 259)) B 259 cs:=Blk.new_of w B _ _ _ rfl eB.symm;have HST:=I hst;clear hst;go_enter Tryz.func133,Tryz.ntmps133
 go_wp2_with fail
 rw[←eB];clear eB
 go_loopw [7,8] (fun bv_ iv wr=>∃i:Nat,8*i<m+8∧iv = .int .i64 (i:Int)∧Blk wr B 259 cs∧Below B w wr∧B+1≤wr.heap.size∧wr.ownsRow (B+1) 5 1 bv_ (8*i) (bvs (strm K (upW N) (loW N) (8*i)))) (fun _ iv _=>m+8 - 8*(intOf iv).toNat)
 case atStart=>exact⟨0,by omega,rfl,HST.o,EB.o▸(Below.refl _ _).alloc (Nat.le_refl _) _,by have:=EB.o;simp;omega,rfl,.inl ⟨rfl,rfl⟩⟩
 case round=>
  obtain⟨i,hi,rfl,hB,hb,hsz,hown⟩:=hrel;have HB:=I hB;clear hB;have HB2:=I hb;clear hb;have HS:=I hsz;clear hsz;have hlen:∃A cap,u7 = .slice A (8*i) cap∧8*i≤cap∧(∀n k,(Value.slice A n cap).ownBlock=some k→B+1≤k):=by
   obtain⟨_,⟨h1,h2⟩ | ⟨g,cap,cur,h1,hg,_,hcap,_⟩⟩:=hown
   ·exact⟨none,0,by rw[h1,h2],by omega,fun n k h=>by simp [Value.ownBlock] at h⟩
   ·exact⟨_,cap,h1,hcap,fun n k h=>by simp only[Value.ownBlock] at h;injection h with h;omega⟩
  obtain⟨A,cap,rfl,hcap,hnb⟩:=hlen;have HNB:=I hnb;clear hnb;have HO:=I hown;clear hown;obtain⟨o,eo⟩:∃o,o=8*i:=⟨_,rfl⟩;rw[←eo];have EO:=I eo;clear eo
  by_cases hlt:(o:Int)<n
  ·have ib1:(0:Int)≤(i:Int):=by omega
   have ib2:(i:Int)≤200:=by have:=EO.o;have:=HM.o;have:=HN.o;omega
   have HH:=I hi;clear hi
   go_wp2_with (first | (refine Jj (by rfl) 259 (.tmp 3) (by rfl) B (by rfl) cs _ (Ag HB.o) Tryz.underlying259 (by rfl) I27.o ?_) | fail)
   have cup:(N:Int) / 4294967296 % 4294967296=((upW N).toNat:Int):=by rw[upW,BitVec.toNat_ofNat];have:=NN.o;omega
   have csum:((N:Int)+(i:Int)) % 4294967296=((loW N+BitVec.ofNat 32 i).toNat:Int):=by rw[loW,BitVec.toNat_add,BitVec.toNat_ofNat,BitVec.toNat_ofNat];omega
   rw[cup,csum];obtain⟨p,ep⟩:∃p,p=BF K (upW N,loW N+BitVec.ofNat 32 i):=⟨_,rfl⟩;obtain⟨x0,ex⟩:∃x0,x0=p.1:=⟨_,rfl⟩;obtain⟨y0,ey⟩:∃y0,y0=p.2:=⟨_,rfl⟩;have c4:=cB (upW N) (loW N+BitVec.ofNat 32 i) wr;rw[←ep,←ex,←ey] at c4;have hnx:bvs (strm K (upW N) (loW N) (8*i))++eight x0 y0=bvs (strm K (upW N) (loW N) (8*(i+1))):=by rw[ex,ey,ep];exact Pf K _ _ i
   have HNX:=I hnx;clear hnx;clear ep ex ey cup csum;refine Calls.mono c4 ?_;rintro e w5 ⟨rfl,hb5⟩;have ho5:=Ff HO.o hb5;rw[←EO.o] at ho5;have hnx2:=HNX.o;rw[←EO.o] at hnx2;have HN2:=I hnx2;clear hnx2;have hB5:=HB.o.below hb5;have hb6:=bt' HB2.o HS.o hb5;have hs5:=Nat.le_trans HS.o hb5.size;have HO5:=I ho5;clear ho5;have HB5:=I hB5;clear hB5;have HB6:=I hb6;clear hb6;have HS5:=I hs5;clear hs5;clear hb5 c4
   go_wp2_with (first | (at_builtin;refine Au _ (by rfl) (.tmp 30) (.tmp 53) 30 (by rfl) (B+1) 5 ib _ 1 Tryz.underlying30 hi0 hz0 hs0 hb0 (by rfl) (.slice A o cap) o (bvs (strm K (upW N) (loW N) o)) (by rfl) (Dk HO5.o (by rfl)) (w5.heap.size+1) (some ⟨w5.heap.size,0,none⟩) 8 8 (eight x0 y0) (by rfl) (by rfl) (Fm w5 5 _ (eight x0 y0) (by rfl) _ rfl) (by simp [eight,Value.oneCell']) (by have:=EO.o;unfold maxLen;omega) (by have:=EO.o;omega) (by have:=HS5.o;simp;omega) ?_;intro v6 w6 hown6 hgrow6 hat6) | fail)
   have hB6:=Blk.grown (Blk.alloc HB5.o _) hgrow6 (fun h=>by have:=HNB.o _ _ h;omega);have hb7:=Below.grown (HB6.o.alloc (by have:=HS5.o;omega) _) hgrow6 (by have:=HS5.o;simp;omega) (fun k hk=>by have:=HNB.o _ _ hk;omega);have hs7:=hgrow6.size;have ho7:=hown6;rw[HN2.o,show o+8=8*(i+1) by have:=EO.o;omega] at ho7;have B6:=I hB6;clear hB6;have B7:=I hb7;clear hb7;have S7:=I hs7;clear hs7;have O7:=I ho7;clear ho7;clear hown6 hgrow6 hat6
   go_wp2_with fail
   go_roundw
   case rel=>
    exact⟨i+1,by have:=EO.o;have:=HN.o;omega,by go_num,B6.o,B7.o,by have h1:=S7.o;have:=HS5.o;simp at h1;omega,O7.o⟩
   case measure=>have:=EO.o;have:=HN.o;simp [intOf];omega
  ·have hge:n≤(o:Int):=by omega
   have e1:decide ((o:Int)<n)=false:=by simp;omega
   have hcap2:n≤(cap:Int):=by have:=EO.o;omega
   have HC:=I hcap;clear hcap
   by_cases h0:n<0
   ·go_wp2_with fail
    go_ret;have hm0:m=0:=by have:=HN.o;omega
    refine⟨A,cap,by rw[hm0];first | rfl | exact congrArg (fun k=>Ending.returned (Value.slice A k cap)) (show(max n 0).toNat=0 by omega),by rw[hm0];exact Nat.zero_le _,?_,HB2.o⟩;rw[hm0];exact .inl rfl
   ·have h1:(0:Int)≤n:=by omega
    go_wp2_with fail
    go_ret;refine⟨A,cap,by rw[HN.o];first | rfl | exact congrArg (fun k=>Ending.returned (Value.slice A k cap)) (show(max n 0).toNat=n.toNat by omega),by have:=HN.o;omega,?_,HB2.o⟩;have hr:=Rd.of_own HO.o;have ht:bvs (strm K (upW N) (loW N) m)=(bvs (strm K (upW N) (loW N) (8*i))).take m:=by
     rw[←QA K (upW N) (loW N) m (8*i) (by have:=EO.o;have:=HN.o;omega)];simp [bvs,List.map_take]
    rw[ht];exact Rd.take hr m
end SpL
end
end Go.Proofs.YtfcjeebnkigeaaaGreat
