import Derived.Test.YtlfmicidppccnaaGreatZClientNew1
set_option maxHeartbeats 25600000
set_option maxRecDepth 100000
set_option linter.unusedVariables false
set_option linter.unusedSimpArgs false
namespace Go.Proofs.YtlfmicidppccnaaGreat
namespace Nm
abbrev L:=List UInt8
def capB (b:UInt8):Bool:=decide (65≤b.toNat)&&decide (b.toNat≤90)
def Bo (b:UInt8):Bool:=decide (97≤b.toNat)&&decide (b.toNat≤122)
def AT (b:UInt8):Bool:=Bo b||(decide (48≤b.toNat)&&decide (b.toNat≤57))
def AR (p:UInt8→Bool) (l:L):Bool:=decide (1≤l.length)&&(decide (l.length≤8)&&l.all p)
theorem BU (p:UInt8→Bool) (l:L):AR p l=true↔1≤l.length∧l.length≤8∧l.all p=true:=by simp [AR]
def hasC (c:UInt8) (l:L):Bool:=l.any fun x=>decide (x=c)
def bef (c:UInt8):L→L
 | []=>[]
 |x :: r=>if x=c then [] else x :: bef c r
def aft (c:UInt8):L→L
 | []=>[]
 |x :: r=>if x=c then r else aft c r
theorem Ci (c:UInt8) (l:L):hasC c l=true↔c∈l:=by simp [hasC]
theorem Cw (c:UInt8) (l:L):hasC c l=false↔c∉l:=by rw[←Ci];simp
theorem DD {c:UInt8} {l:L} (h:c∉l):bef c l=l:=by
 induction l with
 |nil=>rfl
 |cons x r ih=>
  simp only[List.mem_cons,not_or] at h;rw[bef,if_neg (fun e=>h.1 e.symm),ih h.2]
theorem GP {c:UInt8} {l:L} (h:c∉l):aft c l = []:=by
 induction l with
 |nil=>rfl
 |cons x r ih=>
  simp only[List.mem_cons,not_or] at h;rw[aft,if_neg (fun e=>h.1 e.symm),ih h.2]
theorem IJ (c:UInt8) (l:L):c∉bef c l:=by
 induction l with
 |nil=>simp [bef]
 |cons x r ih=>
  rw[bef];split
  ·simp
  ·rename_i h;simp only[List.mem_cons,not_or];exact⟨fun e=>h e.symm,ih⟩
theorem ER {c:UInt8} {l:L} (h:c∈l):l=bef c l++c :: aft c l:=by
 induction l with
 |nil=>simp at h
 |cons x r ih=>
  by_cases e:x=c
  ·simp [bef,aft,e]
  ·rw[bef,aft,if_neg e,if_neg e]
   have:c∈r:=(List.mem_cons.1 h).resolve_left fun g=>e g.symm
   simpa using ih this
theorem IK (c:UInt8) (l:L):(aft c l).length≤l.length:=by
 induction l with
 |nil=>simp [aft]
 |cons x r ih=>rw[aft];split<;>simp<;>omega
theorem IL (c:UInt8) (l:L):(bef c l).length≤l.length:=by
 induction l with
 |nil=>simp [bef]
 |cons x r ih=>rw[bef];split<;>simp<;>omega
def split (c:UInt8):L→List L
 | []=>[[]]
 |x :: r=>if x=c then [] :: split c r else match split c r with
  | []=>[[x]]
  |a :: t=>(x :: a) :: t
theorem DE (c:UInt8) (l:L):split c l≠[]:=by
 cases l with
 |nil=>simp [split]
 |cons x r=>
  rw[split];split
  ·simp
  ·split<;>simp
theorem Dg (c:UInt8) (l:L):1≤(split c l).length:=by
 have:=DE c l;cases h:split c l with
 |nil=>exact absurd h this
 |cons a t=>simp
theorem Cx {c:UInt8} {l:L} (h:c∉l):split c l = [l]:=by
 induction l with
 |nil=>rfl
 |cons x r ih=>
  simp only[List.mem_cons,not_or] at h;rw[split,if_neg (fun e=>h.1 e.symm),ih h.2]
theorem ES {c:UInt8} (u v:L):split c (u++c :: v)=split c u++split c v:=by
 induction u with
 |nil=>simp [split]
 |cons x r ih=>
  rw[List.cons_append,split,split]
  split
  ·rw[ih];rfl
  ·rw[ih]
   cases h:split c r with
   |nil=>exact absurd h (DE c r)
   |cons a t=>rfl
theorem Ds {c:UInt8} {u v:L} (h:c∉u):split c (u++c :: v)=u :: split c v:=by rw[ES,Cx h];rfl
theorem Df (c:UInt8) (l:L):split c l=if hasC c l then bef c l :: split c (aft c l) else [l]:=by
 by_cases h:c∈l
 ·rw[if_pos ((Ci c l).2 h)]
  conv=>lhs;rw[ER h]
  exact Ds (IJ c l)
 ·rw[if_neg (by rw[Ci];exact h)];exact Cx h
def AW (ls:List L):Bool:=decide (1≤ls.length)&&(decide (ls.length≤4)&&ls.all (AR capB))
theorem Dh (ls:List L):AW ls=true↔1≤ls.length∧ls.length≤4∧ls.all (AR capB)=true:=by simp [AW]
def areL (c:UInt8):Nat→L→Bool
 |0,_=>false
 |n+1,l=>AR capB (bef c l)&&(if hasC c l then areL c n (aft c l) else true)
theorem IM (c:UInt8) (n:Nat):∀l:L,areL c n l=(decide ((split c l).length≤n)&&(split c l).all (AR capB)):=by
 induction n with
 |zero=>intro l;have:=Dg c l;rw[areL,decide_eq_false (by omega)];rfl
 |succ n ih=>
  intro l;rw[areL,ih,Df c l]
  by_cases h:c∈l
  ·rw[(Ci c l).2 h,if_pos rfl,if_pos rfl]
   simp only[List.length_cons,List.all_cons,Nat.add_le_add_iff_right];cases AR capB (bef c l)<;>simp
  ·rw[(Cw c l).2 h,if_neg (by simp),if_neg (by simp),DD h]
   simp
theorem DU (c:UInt8) (l:L):areL c 4 l=AW (split c l):=by
 have:=Dg c l;rw[IM,AW,decide_eq_true this];rfl
def slL (l:L):Bool:=decide (l.head? = some 47)&&AW (split 47 l.tail)
def AK (l:L):Nat:=if slL l then 2 else if AW (split 46 l) then 1 else 0
theorem ET {l:L} (h:AW (split 46 l)=true):l.head?≠some 47:=by
 intro e;cases l with
 |nil=>simp at e
 |cons x r=>
  simp only[List.head?_cons,Option.some.injEq] at e;subst e;have h2:AR capB (bef 46 (47 :: r))=true:=by
   have h3:=((Dh _).1 h).2.2;rw[Df] at h3
   split at h3
   ·simp only[List.all_cons,Bool.and_eq_true] at h3;exact h3.1
   ·rename_i hn
    rw[DD ((Cw _ _).1 (by simpa using hn))]
    simpa using h3
  have e2:bef 46 (47 :: r)=47 :: bef 46 r:=by rw[bef,if_neg (by decide)]
  have h4:=((BU _ _).1 h2).2.2;rw[e2] at h4;simp [capB] at h4
theorem JO {l:L} (h:AW (split 46 l)=true):slL l=false:=by
 simp [slL,ET h]
theorem GQ {l:L} (h:AW (split 46 l)=true):AK l=1:=by rw[AK,JO h,h];rfl
theorem Fl (l:L):AK l=if AW (split 46 l) then 1 else if slL l then 2 else 0:=by
 cases h:AW (split 46 l) with
 |true=>rw[GQ h];rfl
 |false=>rw[AK,h];rfl
theorem IN (l:L):AK l≤2:=by rw[AK];split<;>(try split)<;>omega
theorem GR:AK []=0:=by decide
theorem GS {l:L} (h:AK l=1):AW (split 46 l)=true:=by
 rw[AK] at h
 split at h
 ·omega
 ·split at h
  ·assumption
  ·omega
theorem GU {l:L} (h:AK l=2):slL l=true:=by
 rw[AK] at h
 split at h
 ·assumption
 ·split at h<;>omega
def isL (l:L):Bool:=decide (1≤AK l)
def pl (A:List L) (i:Nat):L:=A.getD i []
theorem IP {A:List L} {i:Nat} (h:i<A.length):pl A i=A[i]:=by simp [pl,h]
theorem Ir {A:List L} {i:Nat} (h:i<A.length):pl A i∈A:=by rw[IP h];exact List.getElem_mem h
theorem mem_pl {A:List L} {x:L} (h:x∈A):∃i,i<A.length∧pl A i=x:=by
 obtain⟨i,hi,e⟩:=List.getElem_of_mem h;exact⟨i,hi,by rw[IP hi];exact e⟩
open Go.RowKit Ad
attribute [local go_sem] CW List.getElem_cons_zero List.getElem_cons_succ
theorem Eo (b:UInt8) (w:World):Calls Tryz.prog 226 #[.int .u8 (b.toNat:Int)] w fun e w'=>e = .returned (.bool (capB b))∧w=w':=by
 have hb:=FL b
 by_cases h1:65≤b.toNat
 ·have g1:decide (65≤(b.toNat:Int))=true:=by simp;omega
  by_cases h2:b.toNat≤90
  ·have g2:decide ((b.toNat:Int)≤90)=true:=by simp;omega
   have E:=I (show capB b=true by simp [capB,h1,h2]);clear h1 h2;go_enter Tryz.func226,Tryz.ntmps226
   go_wp2
   go_ret;exact⟨by rw[E.o];rfl,rfl⟩
  ·have g2:decide ((b.toNat:Int)≤90)=false:=by simp;omega
   have E:=I (show capB b=false by simp [capB,h2]);clear h1 h2;go_enter Tryz.func226,Tryz.ntmps226
   go_wp2
   go_ret;exact⟨by rw[E.o];rfl,rfl⟩
 ·have g1:decide (65≤(b.toNat:Int))=false:=by simp;omega
  have E:=I (show capB b=false by simp [capB,h1]);clear h1;go_enter Tryz.func226,Tryz.ntmps226
  go_wp2
  go_ret;exact⟨by rw[E.o];rfl,rfl⟩
theorem FO (b:UInt8) (w:World):Calls Tryz.prog 167 #[.int .u8 (b.toNat:Int)] w fun e w'=>e = .returned (.bool (Bo b))∧w=w':=by
 have hb:=FL b
 by_cases h1:97≤b.toNat
 ·have g1:decide (97≤(b.toNat:Int))=true:=by simp;omega
  by_cases h2:b.toNat≤122
  ·have g2:decide ((b.toNat:Int)≤122)=true:=by simp;omega
   have E:=I (show Bo b=true by simp [Bo,h1,h2]);clear h1 h2;go_enter Tryz.func167,Tryz.ntmps167
   go_wp2
   go_ret;exact⟨by rw[E.o];rfl,rfl⟩
  ·have g2:decide ((b.toNat:Int)≤122)=false:=by simp;omega
   have E:=I (show Bo b=false by simp [Bo,h2]);clear h1 h2;go_enter Tryz.func167,Tryz.ntmps167
   go_wp2
   go_ret;exact⟨by rw[E.o];rfl,rfl⟩
 ·have g1:decide (97≤(b.toNat:Int))=false:=by simp;omega
  have E:=I (show Bo b=false by simp [Bo,h1]);clear h1;go_enter Tryz.func167,Tryz.ntmps167
  go_wp2
  go_ret;exact⟨by rw[E.o];rfl,rfl⟩
theorem DV (b:UInt8) (w:World):Calls Tryz.prog 128 #[.int .u8 (b.toNat:Int)] w fun e w'=>e = .returned (.bool (AT b))∧w=w':=by
 have hb:=FL b;have c1:=FO b w
 by_cases h0:Bo b=true
 ·have E:=I (show AT b=true by simp [AT,h0])
  rw[h0] at c1;clear h0;go_enter Tryz.func128,Tryz.ntmps128
  go_wp2_with (go_at_call 167;refine Calls.mono c1 ?_;rintro e w1 ⟨rfl,rfl⟩)
  go_ret;exact⟨by rw[E.o];rfl,rfl⟩
 ·have h0:Bo b=false:=by simpa using h0
  rw[h0] at c1
  by_cases h1:48≤b.toNat
  ·have g1:decide (48≤(b.toNat:Int))=true:=by simp;omega
   by_cases h2:b.toNat≤57
   ·have g2:decide ((b.toNat:Int)≤57)=true:=by simp;omega
    have E:=I (show AT b=true by simp [AT,h1,h2]);clear h1 h2 h0;go_enter Tryz.func128,Tryz.ntmps128
    go_wp2_with (go_at_call 167;refine Calls.mono c1 ?_;rintro e w1 ⟨rfl,rfl⟩)
    go_ret;exact⟨by rw[E.o];rfl,rfl⟩
   ·have g2:decide ((b.toNat:Int)≤57)=false:=by simp;omega
    have E:=I (show AT b=false by simp [AT,h2,h0]);clear h1 h2 h0;go_enter Tryz.func128,Tryz.ntmps128
    go_wp2_with (go_at_call 167;refine Calls.mono c1 ?_;rintro e w1 ⟨rfl,rfl⟩)
    go_ret;exact⟨by rw[E.o];rfl,rfl⟩
  ·have g1:decide (48≤(b.toNat:Int))=false:=by simp;omega
   have E:=I (show AT b=false by simp [AT,h1,h0]);clear h1 h0;go_enter Tryz.func128,Tryz.ntmps128
   go_wp2_with (go_at_call 167;refine Calls.mono c1 ?_;rintro e w1 ⟨rfl,rfl⟩)
   go_ret;exact⟨by rw[E.o];rfl,rfl⟩
theorem DF {p:UInt8→Bool} {l:L} (h:∀i (h:i<l.length),p l[i]=true) (h1:1≤l.length) (h8:l.length≤8):AR p l=true:=by
 rw[BU];refine⟨h1,h8,?_⟩;rw[List.all_eq_true];intro x hx;obtain⟨i,hi,rfl⟩:=List.getElem_of_mem hx;exact h i hi
theorem Cj {p:UInt8→Bool} {l:L} {i:Nat} (hi:i<l.length) (h:p l[i]=false):AR p l=false:=by
 cases e:AR p l with
 |false=>rfl
 |true=>
  have:=((BU p l).1 e).2.2;rw[List.all_eq_true] at this;have:=this _ (List.getElem_mem hi);rw[h] at this;cases this
theorem Cy {p:UInt8→Bool} {l:L} (h:l.length<1):AR p l=false:=by simp [AR];omega
theorem Di {p:UInt8→Bool} {l:L} (h:8<l.length):AR p l=false:=by simp [AR];omega
def Fit (p:UInt8→Bool) (l:L) (k:Nat):Prop:=∀i (h:i<l.length),i<k→p l[i]=true
theorem Fm (l:L) (w:World) (hs:l.length≤1000000000):Calls Tryz.prog 127 #[.string ⟨l.toArray⟩,.func (.func 226) #[] #[]] w fun e w'=>e = .returned (.bool (AR capB l))∧w=w':=by
 by_cases h1:l.length<1
 ·have E:=I (Cy (p:=capB) h1)
  have g1:decide ((l.length:Int)<1)=true:=by simp;omega
  clear h1;go_enter Tryz.func127,Tryz.ntmps127
  go_wp2
  go_ret;exact⟨by rw[E.o];rfl,rfl⟩
 ·have g1:decide ((l.length:Int)<1)=false:=by simp;omega
  by_cases h2:8<l.length
  ·have E:=I (Di (p:=capB) h2)
   have g2:decide (8<(l.length:Int))=true:=by simp;omega
   clear h1 h2;go_enter Tryz.func127,Tryz.ntmps127
   go_wp2
   go_ret;exact⟨by rw[E.o];rfl,rfl⟩
  ·have g2:decide (8<(l.length:Int))=false:=by simp;omega
   have HA:=I (fun h=>DF (p:=capB) (l:=l) h (by omega) (by omega));clear h1 h2;go_enter Tryz.func127,Tryz.ntmps127
   go_wp2
   go_loop [16] (fun iv=>∃k:Nat,k≤l.length∧iv = .int .i64 (k:Int)∧Fit capB l k) (fun iv=>l.length - (intOf iv).toNat)
   case atStart=>exact⟨0,Nat.zero_le _,rfl,fun i _ h=>by omega⟩
   case round=>
    obtain⟨k,hk,rfl,hf⟩:=hrel
    by_cases hlt:k<l.length
    ·have e1:(k:Int)<(l.length:Int):=by omega
     have c1:=Eo l[k] w;have HF:=I hf;clear hf
     by_cases hp:capB l[k]=true
     ·rw[hp] at c1
      have HP:=I hp;clear hp
      go_wp2_with (go_at_call 226;refine Calls.mono c1 ?_;rintro e w1 ⟨rfl,rfl⟩)
      go_round
      case rel=>exact⟨k+1,by omega,by go_num,fun i hi hik=>by
       by_cases q:i=k
       ·subst q;exact HP.o
       ·exact HF.o i hi (by omega)⟩
      case measure=>simp [intOf];omega
     ·have hp:capB l[k]=false:=by simpa using hp
      rw[hp] at c1;have E:=I (Cj hlt hp);clear hp
      go_wp2_with (go_at_call 226;refine Calls.mono c1 ?_;rintro e w1 ⟨rfl,rfl⟩)
      go_ret;exact⟨by rw[E.o];rfl,rfl⟩
    ·have HF:=I hf;clear hf
     have E:=I (HA.o (fun i hi=>HF.o i hi (by omega)));have e1:¬(k:Int)<(l.length:Int):=by omega
     go_wp2
     go_ret;exact⟨by rw[E.o];rfl,rfl⟩
theorem FP (l:L) (w:World) (hs:l.length≤1000000000):Calls Tryz.prog 127 #[.string ⟨l.toArray⟩,.func (.func 128) #[] #[]] w fun e w'=>e = .returned (.bool (AR AT l))∧w=w':=by
 by_cases h1:l.length<1
 ·have E:=I (Cy (p:=AT) h1)
  have g1:decide ((l.length:Int)<1)=true:=by simp;omega
  clear h1;go_enter Tryz.func127,Tryz.ntmps127
  go_wp2
  go_ret;exact⟨by rw[E.o];rfl,rfl⟩
 ·have g1:decide ((l.length:Int)<1)=false:=by simp;omega
  by_cases h2:8<l.length
  ·have E:=I (Di (p:=AT) h2)
   have g2:decide (8<(l.length:Int))=true:=by simp;omega
   clear h1 h2;go_enter Tryz.func127,Tryz.ntmps127
   go_wp2
   go_ret;exact⟨by rw[E.o];rfl,rfl⟩
  ·have g2:decide (8<(l.length:Int))=false:=by simp;omega
   have HA:=I (fun h=>DF (p:=AT) (l:=l) h (by omega) (by omega));clear h1 h2;go_enter Tryz.func127,Tryz.ntmps127
   go_wp2
   go_loop [16] (fun iv=>∃k:Nat,k≤l.length∧iv = .int .i64 (k:Int)∧Fit AT l k) (fun iv=>l.length - (intOf iv).toNat)
   case atStart=>exact⟨0,Nat.zero_le _,rfl,fun i _ h=>by omega⟩
   case round=>
    obtain⟨k,hk,rfl,hf⟩:=hrel
    by_cases hlt:k<l.length
    ·have e1:(k:Int)<(l.length:Int):=by omega
     have c1:=DV l[k] w;have HF:=I hf;clear hf
     by_cases hp:AT l[k]=true
     ·rw[hp] at c1
      have HP:=I hp;clear hp
      go_wp2_with (go_at_call 128;refine Calls.mono c1 ?_;rintro e w1 ⟨rfl,rfl⟩)
      go_round
      case rel=>exact⟨k+1,by omega,by go_num,fun i hi hik=>by
       by_cases q:i=k
       ·subst q;exact HP.o
       ·exact HF.o i hi (by omega)⟩
      case measure=>simp [intOf];omega
     ·have hp:AT l[k]=false:=by simpa using hp
      rw[hp] at c1;have E:=I (Cj hlt hp);clear hp
      go_wp2_with (go_at_call 128;refine Calls.mono c1 ?_;rintro e w1 ⟨rfl,rfl⟩)
      go_ret;exact⟨by rw[E.o];rfl,rfl⟩
    ·have HF:=I hf;clear hf
     have E:=I (HA.o (fun i hi=>HF.o i hi (by omega)));have e1:¬(k:Int)<(l.length:Int):=by omega
     go_wp2
     go_ret;exact⟨by rw[E.o];rfl,rfl⟩
end Nm
namespace Nm
open Go.RowKit Ad
theorem Ck (l:List UInt8) (k:Nat):(ByteArray.mk l.toArray).extract 0 k=ByteArray.mk (l.take k).toArray:=by
 rw[ByteArray.extract_mk];simp
attribute [local go_sem] CW List.getElem_cons_zero List.getElem_cons_succ Bu Bv Cv Ck
theorem IQ (b:UInt8):((b.toNat:Int)).toNat.toUInt8=b:=by simp
theorem GV {c:UInt8} {l:L} (h:c∉l):Lib.indexByte l c = -1:=by
 induction l with
 |nil=>rfl
 |cons x r ih=>
  simp only[List.mem_cons,not_or] at h;rw[Lib.indexByte,if_neg (by simpa using fun e:x=c=>h.1 e.symm),ih h.2];rfl
theorem IS {c:UInt8} {l:L} (h:c∈l):Lib.indexByte l c=((bef c l).length:Int):=by
 induction l with
 |nil=>simp at h
 |cons x r ih=>
  rw[Lib.indexByte,bef]
  by_cases e:x=c
  ·rw[if_pos (by simpa using e),if_pos e];rfl
  ·have hm:c∈r:=(List.mem_cons.1 h).resolve_left fun g=>e g.symm
   rw[if_neg (by simpa using e),if_neg e,ih hm,if_neg (by simp)];simp
theorem GW {c:UInt8} {l:L} (h:c∈l):l.take (bef c l).length=bef c l:=by
 have e:=ER h;have g:(bef c l++c :: aft c l).take (bef c l).length=bef c l:=by simp
 rwa [←e] at g
theorem GX {c:UInt8} {l:L} (h:c∈l):l.drop ((bef c l).length+1)=aft c l:=by
 have e:=ER h;have g:(bef c l++c :: aft c l).drop ((bef c l).length+1)=aft c l:=by simp
 rwa [←e] at g
theorem JP {c:UInt8} {l:L} (h:c∈l):(bef c l).length<l.length:=by
 have:=congrArg List.length (ER h);simp at this;omega
theorem IT (l:L) (b:UInt8) (w:World):(callFunc 266 #[.string ⟨l.toArray⟩,.int .u8 (b.toNat:Int)]).run Tryz.prog w = .ok (.value (.int .i64 (Lib.indexByte l b))) w:=by
 rw[run_callFunc_extern Tryz.func266 (by kernel_rfl) (by kernel_rfl) (by kernel_rfl) (e:=Extern.BytealgIndexByte.indexByte) (by kernel_rfl),Lib.run_indexByteString];simp only[Result.andThen,IQ]
theorem DG (l:L) (b:UInt8) (w:World):Calls Tryz.prog 254 #[.string ⟨l.toArray⟩,.int .u8 (b.toNat:Int)] w fun e w'=>e = .returned (.int .i64 (Lib.indexByte l b))∧w=w':=by
 have h:=fun w=>IT l b w
 go_enter Tryz.func254,Tryz.ntmps254
 go_wp2
 go_ret;exact⟨rfl,rfl⟩
theorem Ep (l:L):(ByteArray.mk l.toArray).size=l.length:=by simp [ByteArray.size]
theorem FQ (l:L) (b:UInt8) (w:World):Calls Tryz.prog 249 #[.string ⟨l.toArray⟩,.string ⟨#[b]⟩] w fun e w'=>e = .returned (.int .i64 (Lib.indexByte l b))∧w=w':=by
 have c1:=DG l b w
 by_cases e:l = [b]
 ·subst e
  have E:=I (show Lib.indexByte [b] b=0 by simp [Lib.indexByte]);go_enter Tryz.func249,Tryz.ntmps249
  go_wp2_with fail
  go_ret;exact⟨by rw[E.o];rfl,rfl⟩
 ·have t1:([b]==l)=false:=by simpa using fun g:[b]=l=>e g.symm
  clear e;go_enter Tryz.func249,Tryz.ntmps249
  go_wp2_with (go_at_call 254;refine Calls.mono c1 ?_;rintro e w1 ⟨rfl,rfl⟩)
  go_ret;exact⟨rfl,rfl⟩
def BS (w w':World):Prop:=∃n,w'=w.drewN n
theorem BS.refl (w:World):BS w w:=⟨0,rfl⟩
theorem BS.below {w w':World} (h:BS w w'):Below w.heap.size w w':=by
 obtain⟨n,rfl⟩:=h;exact below_drewN Af n
theorem Er (l:L) (b:UInt8) (w:World) (hs:l.length≤1000000000):Calls Tryz.prog 239 #[.string ⟨l.toArray⟩,.string ⟨#[b]⟩] w fun e w'=>
  e = .returned (.tuple #[.string ⟨(bef b l).toArray⟩,.string ⟨(aft b l).toArray⟩,.bool (hasC b l)])∧BS w w':=by
 have c1:=FQ l b w
 by_cases h:b∈l
 ·have E1:=I (show hasC b l=true from(Ci _ _).2 h)
  have E2:=I (GW h);have E3:=I (GX h);have hl:=JP h;obtain⟨n,en⟩:∃n,n=(bef b l).length:=⟨_,rfl⟩;rw[IS h,←en] at c1;rw[←en] at E2 E3 hl;have EN:=I en;clear en h;go_enter Tryz.func239,Tryz.ntmps239
  go_wp2_with (go_at_call 249;refine Calls.mono c1 ?_;rintro e w1 ⟨rfl,rfl⟩)
  go_quiet (fail)
  go_wp2
  go_ret3
  rename_i q _
  exact⟨by rw[E1.o,←E2.o,←E3.o];rfl,⟨_,rfl⟩⟩
 ·have E1:=I (show hasC b l=false from(Cw _ _).2 h)
  have E2:=I (DD h);have E3:=I (GP h);rw[GV h] at c1;clear h;go_enter Tryz.func239,Tryz.ntmps239
  go_wp2_with (go_at_call 249;refine Calls.mono c1 ?_;rintro e w1 ⟨rfl,rfl⟩)
  go_ret3
  exact⟨by rw[E1.o,E2.o,E3.o];rfl,BS.refl _⟩
theorem IU (l:L) (b:UInt8) (w:World) (hs:l.length≤1000000000):Calls Tryz.prog 225 #[.string ⟨l.toArray⟩,.string ⟨#[b]⟩] w fun e w'=>
  e = .returned (.tuple #[.string ⟨(bef b l).toArray⟩,.string ⟨(aft b l).toArray⟩,.bool (hasC b l)])∧BS w w':=by
 have c1:=Er l b w hs;go_enter Tryz.func225,Tryz.ntmps225
 go_wp2_with (go_at_call 239;refine Calls.mono c1 ?_;rintro e w1 ⟨rfl,hd⟩)
 go_ret3
 exact⟨rfl,hd⟩
def preL (p l:L):Bool:=p.isPrefixOf l
theorem EU (p l:L):(l.take p.length==p)=preL p l:=by
 rw[preL,Bool.eq_iff_iff];simp only[beq_iff_eq,List.isPrefixOf_iff_prefix];rw[List.prefix_iff_eq_take];exact eq_comm
theorem FR {p l:L} (h:preL p l=true):p.length≤l.length:=(List.isPrefixOf_iff_prefix.1 h).length_le
theorem IV {p l:L}:preL p l=true↔l=p++l.drop p.length:=by
 constructor
 ·intro h
  obtain⟨t,e⟩:=List.isPrefixOf_iff_prefix.1 h;rw[←e];simp
 ·intro h
  rw[preL,List.isPrefixOf_iff_prefix];exact⟨_,h.symm⟩
theorem DH (l p:L) (w:World) (hs:l.length≤1000000000) (hp:p.length≤1000000000):Calls Tryz.prog 199 #[.string ⟨l.toArray⟩,.string ⟨p.toArray⟩] w fun e w'=>
  e = .returned (.bool (preL p l))∧w=w':=by
 by_cases h:p.length≤l.length
 ·have e1:(p.length:Int)≤(l.length:Int):=by omega
  have E:=I (EU p l);clear h;go_enter Tryz.func199,Tryz.ntmps199
  go_wp2
  go_ret;exact⟨by rw[←E.o];rfl,rfl⟩
 ·have E:=I (show preL p l=false by
   cases q:preL p l with
   |false=>rfl
   |true=>exact absurd (FR q) h)
  have e1:¬(p.length:Int)≤(l.length:Int):=by omega
  clear h;go_enter Tryz.func199,Tryz.ntmps199
  go_wp2
  go_ret;exact⟨by rw[E.o];rfl,rfl⟩
def cpL (p l:L):L:=if preL p l then l.drop p.length else l
theorem Cz (l p:L) (w:World) (hs:l.length≤1000000000) (hp:p.length≤1000000000):Calls Tryz.prog 165 #[.string ⟨l.toArray⟩,.string ⟨p.toArray⟩] w fun e w'=>
  e = .returned (.tuple #[.string ⟨(cpL p l).toArray⟩,.bool (preL p l)])∧w=w':=by
 have c1:=DH l p w hs hp
 by_cases h:preL p l=true
 ·have e1:(p.length:Int)≤(l.length:Int):=by have:=FR h;omega
  have E:=I (show cpL p l=l.drop p.length by rw[cpL,if_pos h]);have E2:=I h;rw[h] at c1;clear h;go_enter Tryz.func165,Tryz.ntmps165
  go_wp2_with (go_at_call 199;refine Calls.mono c1 ?_;rintro e w1 ⟨rfl,rfl⟩)
  go_ret2
  exact⟨by rw[E.o,E2.o];rfl,rfl⟩
 ·have h:preL p l=false:=by simpa using h
  have E:=I (show cpL p l=l by rw[cpL,if_neg (by simp [h])]);have E2:=I h;rw[h] at c1;clear h;go_enter Tryz.func165,Tryz.ntmps165
  go_wp2_with (go_at_call 199;refine Calls.mono c1 ?_;rintro e w1 ⟨rfl,rfl⟩)
  go_ret2
  exact⟨by rw[E.o,E2.o];rfl,rfl⟩
theorem Cm (l p:L) (w:World) (hs:l.length≤1000000000) (hp:p.length≤1000000000):Calls Tryz.prog 125 #[.string ⟨l.toArray⟩,.string ⟨p.toArray⟩] w fun e w'=>
  e = .returned (.tuple #[.string ⟨(cpL p l).toArray⟩,.bool (preL p l)])∧w=w':=by
 have c1:=Cz l p w hs hp;go_enter Tryz.func125,Tryz.ntmps125
 go_wp2_with (go_at_call 165;refine Calls.mono c1 ?_;rintro e w1 ⟨rfl,rfl⟩)
 go_ret2
 exact⟨rfl,rfl⟩
theorem Dt:(Tryz.prog.info? 5).map (fun i=>(i.zero,i.size,i.bytes))=some (some (.int .u8 0),1,1):=by kernel_rfl
theorem GY (n:Nat) (hn:n≤1000000000) (w:World):(Instr.makeSlice 27 (.int .i64 (n:Int)) (.int .i64 (n:Int))).run Tryz.prog w = .ok (.slice (some ⟨w.heap.size,0,none⟩) n n) (w.alloc (.cells (Be n) 5)):=by
 obtain⟨i0,hi,hz,hs,hb⟩:=info_parts Dt;have h:=run_make (P:=Tryz.prog) w 27 5 i0 _ Tryz.underlying27 hi hz .i64 .i64 (n:Int) (n:Int) (by omega) (by omega) (by rw[hb];omega) (by omega);have e:madeCells (Value.int .u8 0).cells (((n:Int)).toNat*i0.size)=Be n:=by
  rw[hs,Nat.mul_one,Int.toNat_natCast];refine Array.toList_inj.1 ?_;show(madeCells #[Value.int .u8 0] n).toList=_;rw[toList_madeCells_one];simp [Be,bv]
 rw[e] at h
 simpa using h
theorem EV (s:L) (w:World):(Builtin.copy_ #[27,9] 3 #[.slice (some ⟨w.heap.size,0,none⟩) s.length s.length,.string ⟨s.toArray⟩]).run Tryz.prog (w.alloc (.cells (Be s.length) 5)) = .ok (goInt s.length) (w.alloc (.cells (bvs s).toArray 5)):=by
 obtain⟨i0,hi,_,hs,_⟩:=info_parts Dt;have hk:=Blk.new w 5 (Be s.length);have h:=Lib.run_copy_row_string (P:=Tryz.prog) _ 27 9 3 5 w.heap.size 0 s.length s.length ⟨s.toArray⟩ _ 5 Tryz.underlying27 (by rw[hi];simp [hs]) hk (by rw[Ep];exact Nat.le_refl _) (by rw[Ep,BE];omega);rw[Ep,World.setRow_alloc_new] at h;have e:(Be s.length).toList.take 0++Lib.byteCells s++(Be s.length).toList.drop (0+s.length)=bvs s:=by
  rw[List.drop_of_length_le (by rw[Array.length_toList,BE];omega)];simp [Lib.byteCells,bvs,bv]
 rw[e] at h;exact h
theorem GZ (s:L) (h0:s≠[]) (hs:s.length≤1000000000) (w:World):(Builtin.unsafeString_ #[256,3] 9 #[.pointer (some ⟨w.heap.size,0,none⟩),.int .i64 (s.length:Int)]).run Tryz.prog (w.alloc (.cells (bvs s).toArray 5)) = .ok (.string ⟨s.toArray⟩) ((w.alloc (.cells (bvs s).toArray 5)).freeze ⟨w.heap.size,0,none⟩ s.length):=by
 obtain⟨i0,hi,_,hz,_⟩:=info_parts Dt;have hk:=Blk.new w 5 (bvs s).toArray;refine Lib.run_unsafeString_row (P:=Tryz.prog) _ _ _ _ 5 Tryz.underlying256 (by simp [Program.cellsOf,hi,hz]) w.heap.size s.length ?_ s h0 Ae (by omega) fun j x hx=>?_
 ·unfold World.shape?
  rw[show(w.alloc (.cells (bvs s).toArray 5)).heap[w.heap.size]? = _ from hk];simp [AZ]
 ·obtain⟨hj,e⟩:=List.getElem?_eq_some_iff.1 hx
  rw[addr_add,Nat.zero_add,hk.cell,List.getElem?_toArray,FN hj,e];rfl
theorem DI (s:L) (w:World) (hlim:s.length≤1000000000):Calls Tryz.prog 129 #[.string ⟨s.toArray⟩] w fun e w'=>e = .returned (.string ⟨s.toArray⟩)∧Below w.heap.size w w':=by
 by_cases h0:s = []
 ·subst h0
  go_enter Tryz.func129,Tryz.ntmps129
  go_wp2
  go_ret;exact⟨rfl,Below.refl _ _⟩
 ·have hmk:=GY s.length hlim w
  have hcp:=EV s w;have hus:=GZ s h0 hlim w;have hl:1≤s.length:=by
   cases s with
   |nil=>exact absurd rfl h0
   |cons a r=>simp
  have t0:((s.length:Int)==0)=false:=by simp;omega
  have HB:=I (Lib.below_freeze ((Below.refl w.heap.size w).alloc Ae (.cells (bvs s).toArray 5)) (p:=⟨w.heap.size,0,none⟩) Ae s.length);clear h0;go_enter Tryz.func129,Tryz.ntmps129
  go_wp2
  go_ret;exact⟨rfl,HB.o⟩
theorem FT (s:L) (w:World) (hlim:s.length≤1000000000):Calls Tryz.prog 87 #[.string ⟨s.toArray⟩] w fun e w'=>e = .returned (.string ⟨s.toArray⟩)∧Below w.heap.size w w':=by
 have c1:=DI s w hlim;go_enter Tryz.func87,Tryz.ntmps87
 go_wp2_with (go_at_call 129;refine Calls.mono c1 ?_;rintro e w' ⟨rfl,hb⟩)
 go_ret;exact⟨rfl,hb⟩
end Nm
namespace Nm
open Go.RowKit Ad
attribute [local go_sem] CW List.getElem_cons_zero List.getElem_cons_succ Bu Bv Cv Ck
theorem BS.trans {a b c:World} (h:BS a b) (k:BS b c):BS a c:=by
 obtain⟨n,rfl⟩:=h;obtain⟨m,rfl⟩:=k;exact⟨n+m,by simp [World.drewN_drewN]⟩
theorem Cn (l:L) (b:UInt8) (w:World) (hs:l.length≤1000000000):Calls Tryz.prog 200 #[.string ⟨l.toArray⟩,.string ⟨#[b]⟩] w fun e w'=>e = .returned (.bool (areL b 4 l))∧BS w w':=by
 have HS:=I hs;clear hs;go_enter Tryz.func200,Tryz.ntmps200
 go_wp2
 go_loopw [0,8] (fun sv iv wr=>∃(k:Nat) (s:L),k≤4∧sv = .string ⟨s.toArray⟩∧iv = .int .i64 (k:Int)∧areL b (4 - k) s=areL b 4 l∧s.length≤l.length∧BS w wr) (fun _ iv _=>4 - (intOf iv).toNat)
 case atStart=>exact⟨0,l,by omega,rfl,rfl,rfl,Nat.le_refl _,BS.refl _⟩
 case round=>
  obtain⟨k,s,hk,rfl,rfl,ha,hl,hd⟩:=hrel;have HL:=I hl;clear hl;have HD:=I hd;clear hd
  by_cases hlt:k<4
  ·have e1:(k:Int)<4:=by omega
   have hsl:s.length≤1000000000:=Nat.le_trans HL.o HS.o;have c1:=IU s b wr hsl;have c2:=fun w1=>Fm (bef b s) w1 (by have:=IL b s;omega)
   have C2:=I c2;clear c2;have ea:areL b (4 - k) s=(AR capB (bef b s)&&(if hasC b s then areL b (4 - (k+1)) (aft b s) else true)):=by
    rw[show 4 - k=(4 - (k+1))+1 by omega];rfl
   rw[ea] at ha;have hal:(aft b s).length≤l.length:=by have:=IK b s;have:=HL.o;omega
   have HAL:=I hal;clear hal ea hsl;cases hw:AR capB (bef b s) with
   |false=>
    rw[hw,Bool.false_and] at ha;have HA:=I ha;clear ha;have HW:=I hw;clear hw
    go_wp2_with (first
     |(go_at_call 225;refine Calls.mono c1 ?_;rintro e w1 ⟨rfl,hd⟩;clear c1;have c2:=C2.o w1;rw[HW.o] at c2;have H1:=I hd;clear hd)
     |(go_at_call 127;refine Calls.mono c2 ?_;rintro e w2 ⟨rfl,rfl⟩;clear c2))
    go_ret;exact⟨by rw[←HA.o];rfl,HD.o.trans H1.o⟩
   |true=>
    rw[hw,Bool.true_and] at ha;have HW:=I hw;clear hw;cases hc:hasC b s with
    |false=>
     rw[hc,if_neg (by simp)] at ha;rw[hc] at c1;have HA:=I ha;clear ha;have HC:=I hc;clear hc
     go_wp2_with (first
      |(go_at_call 225;refine Calls.mono c1 ?_;rintro e w1 ⟨rfl,hd⟩;clear c1;have c2:=C2.o w1;rw[HW.o] at c2;have H1:=I hd;clear hd)
      |(go_at_call 127;refine Calls.mono c2 ?_;rintro e w2 ⟨rfl,rfl⟩;clear c2))
     go_ret;exact⟨by rw[←HA.o];rfl,HD.o.trans H1.o⟩
    |true=>
     rw[hc,if_pos rfl] at ha;rw[hc] at c1;have HA:=I ha;clear ha;have HC:=I hc;clear hc
     go_wp2_with (first
      |(go_at_call 225;refine Calls.mono c1 ?_;rintro e w1 ⟨rfl,hd⟩;clear c1;have c2:=C2.o w1;rw[HW.o] at c2;have H1:=I hd;clear hd)
      |(go_at_call 127;refine Calls.mono c2 ?_;rintro e w2 ⟨rfl,rfl⟩;clear c2))
     go_roundw
     case rel=>exact⟨k+1,aft b s,by omega,rfl,by go_num,HA.o,HAL.o,HD.o.trans H1.o⟩
     case measure=>simp [intOf];omega
  ·have e1:¬(k:Int)<4:=by omega
   obtain rfl:k=4:=by omega
   have HA:=I (show areL b 4 l=false by rw[←ha];rfl);clear ha
   go_wp2
   go_ret;exact⟨by rw[HA.o];rfl,HD.o⟩
theorem JQ (l:L):slL l=(preL [47] l&&AW (split 47 (cpL [47] l))):=by
 cases l with
 |nil=>rfl
 |cons x r=>
  rw[slL,cpL]
  by_cases h:x=47
  ·subst h
   have e:preL [47] (47 :: r)=true:=by simp [preL]
   rw[e];simp
  ·have e:preL [47] (x :: r)=false:=by
    cases q:preL [47] (x :: r) with
    |false=>rfl
    |true=>have:=congrArg List.head? (IV.1 q);simp at this;exact absurd this h
   rw[e];simp [h]
theorem Is (p l:L):(cpL p l).length≤l.length:=by rw[cpL];split<;>simp
theorem Ha (l:L) (w:World) (hs:l.length≤1000000000):Calls Tryz.prog 166 #[.string ⟨l.toArray⟩] w fun e w'=>e = .returned (.int .i64 (AK l:Int))∧BS w w':=by
 have c1:=Cn l 46 w hs;rw[DU] at c1;have C2:=I (fun w1=>Cm l [47] w1 hs (by decide));have c3:=fun w1=>Cn (cpL [47] l) 47 w1 (by have:=Is [47] l;omega)
 rw[DU] at c3;have C3:=I c3;clear c3 hs;have ek:=Fl l;rw[JQ] at ek;cases h1:AW (split 46 l) with
 |true=>
  rw[h1] at c1;have E:=I (show AK l=1 by rw[ek,h1];rfl);clear ek h1;go_enter Tryz.func166,Tryz.ntmps166
  go_wp2_with (go_at_call 200;refine Calls.mono c1 ?_;rintro e w1 ⟨rfl,hd⟩;clear c1;have H1:=I hd;clear hd)
  go_ret;exact⟨by rw[E.o];rfl,H1.o⟩
 |false=>
  rw[h1] at c1;rw[h1,if_neg (by simp)] at ek;cases h2:preL [47] l with
  |false=>
   have E:=I (show AK l=0 by rw[ek,h2];rfl);have H2:=I h2;clear ek h1 h2;go_enter Tryz.func166,Tryz.ntmps166
   go_wp2_with (first
    |(go_at_call 200;refine Calls.mono c1 ?_;rintro e w1 ⟨rfl,hd⟩;clear c1;have H1:=I hd;clear hd;have c2:=C2.o w1;rw[H2.o] at c2)
    |(go_at_call 125;refine Calls.mono c2 ?_;rintro e w2 ⟨rfl,rfl⟩;clear c2))
   go_ret;exact⟨by rw[E.o];rfl,H1.o⟩
  |true=>
   rw[h2,Bool.true_and] at ek;have H2:=I h2;cases h3:AW (split 47 (cpL [47] l)) with
   |false=>
    have E:=I (show AK l=0 by rw[ek,h3];rfl);have H3:=I h3;clear ek h1 h2 h3;go_enter Tryz.func166,Tryz.ntmps166
    go_wp2_with (first
     |(go_at_call 200;refine Calls.mono c1 ?_;rintro e w1 ⟨rfl,hd⟩;clear c1;have H1:=I hd;clear hd;have c2:=C2.o w1;rw[H2.o] at c2)
     |(go_at_call 125;refine Calls.mono c2 ?_;rintro e w2 ⟨rfl,rfl⟩;clear c2;have c4:=C3.o w1;rw[H3.o] at c4)
     |(go_at_call 200;refine Calls.mono c4 ?_;rintro e w3 ⟨rfl,hd⟩;clear c4;have H4:=I hd;clear hd))
    go_ret;exact⟨by rw[E.o];rfl,H1.o.trans H4.o⟩
   |true=>
    have E:=I (show AK l=2 by rw[ek,h3];rfl);have H3:=I h3;clear ek h1 h2 h3;go_enter Tryz.func166,Tryz.ntmps166
    go_wp2_with (first
     |(go_at_call 200;refine Calls.mono c1 ?_;rintro e w1 ⟨rfl,hd⟩;clear c1;have H1:=I hd;clear hd;have c2:=C2.o w1;rw[H2.o] at c2)
     |(go_at_call 125;refine Calls.mono c2 ?_;rintro e w2 ⟨rfl,rfl⟩;clear c2;have c4:=C3.o w1;rw[H3.o] at c4)
     |(go_at_call 200;refine Calls.mono c4 ?_;rintro e w3 ⟨rfl,hd⟩;clear c4;have H4:=I hd;clear hd))
    go_ret;exact⟨by rw[E.o];rfl,H1.o.trans H4.o⟩
theorem Iu (l:L) (w:World) (hs:l.length≤1000000000):Calls Tryz.prog 126 #[.string ⟨l.toArray⟩] w fun e w'=>e = .returned (.bool (isL l))∧BS w w':=by
 have c1:=Ha l w hs
 by_cases h:1≤AK l
 ·have E:=I (show isL l=true by simp [isL,h])
  have t:((AK l:Int) != 0)=true:=by simp;omega
  clear h;go_enter Tryz.func126,Tryz.ntmps126
  go_wp2_with (go_at_call 166;refine Calls.mono c1 ?_;rintro e w1 ⟨rfl,hd⟩;clear c1;have H1:=I hd;clear hd)
  go_ret;exact⟨by rw[E.o];rfl,H1.o⟩
 ·have E:=I (show isL l=false by simp [isL];omega)
  have e0:AK l=0:=by omega
  rw[e0] at c1;clear h e0;go_enter Tryz.func126,Tryz.ntmps126
  go_wp2_with (go_at_call 166;refine Calls.mono c1 ?_;rintro e w1 ⟨rfl,hd⟩;clear c1;have H1:=I hd;clear hd)
  go_ret;exact⟨by rw[E.o];rfl,H1.o⟩
end Nm
namespace Nm
open Go.RowKit Ad
theorem FU (a b:L):ByteArray.mk a.toArray++ByteArray.mk b.toArray=ByteArray.mk (a++b).toArray:=by
 apply ByteArray.ext;simp
attribute [local go_sem] CW List.getElem_cons_zero List.getElem_cons_succ Bu Bv Cv Ck
def krb:L:=[107,114,98,116,103,116,47]
def tgL (n:L):Bool:=preL krb n&&isL (cpL krb n)
def tgR (n:L):L:=if tgL n then n.drop 7 else []
def Am (r n:L):Bool:=isL r&&(tgL n||AR AT n)
theorem Du (l:L) (w:World) (hs:l.length≤1000000000):Calls Tryz.prog 130 #[.string ⟨l.toArray⟩] w fun e w'=>e = .returned (.string ⟨(krb++l).toArray⟩)∧w=w':=by
 have E:=I (FU krb l);go_enter Tryz.func130,Tryz.ntmps130
 go_wp2
 go_ret;exact⟨by rw[←E.o];rfl,rfl⟩
theorem CA (n:L) (w:World) (hs:n.length≤1000000000):Calls Tryz.prog 85 #[.string ⟨n.toArray⟩] w fun e w'=>e = .returned (.tuple #[.string ⟨(tgR n).toArray⟩,.bool (tgL n)])∧Below w.heap.size w w':=by
 have c1:=Cm n krb w hs (by decide);have hcl:=Is krb n;have c2:=Iu (cpL krb n) w (by omega);have C3:=I (fun w1=>FT (cpL krb n) w1 (by omega));have HB0:=I (Below.refl w.heap.size w);cases h1:preL krb n with
 |false=>
  have E1:=I (show tgL n=false by rw[tgL,h1];rfl);have E2:=I (show tgR n = [] by rw[tgR,E1.o];rfl);rw[h1] at c1;clear h1 hs hcl c2;go_enter Tryz.func85,Tryz.ntmps85
  go_wp2_with (go_at_call 125;refine Calls.mono c1 ?_;rintro e w1 ⟨rfl,rfl⟩;clear c1)
  go_ret2
  exact⟨by rw[E1.o,E2.o];rfl,HB0.o⟩
 |true=>
  cases h2:isL (cpL krb n) with
  |false=>
   have E1:=I (show tgL n=false by rw[tgL,h1,h2];rfl);have E2:=I (show tgR n = [] by rw[tgR,E1.o];rfl);rw[h1] at c1;rw[h2] at c2;clear h1 h2 hs hcl;go_enter Tryz.func85,Tryz.ntmps85
   go_wp2_with (first
    |(go_at_call 125;refine Calls.mono c1 ?_;rintro e w1 ⟨rfl,rfl⟩;clear c1)
    |(go_at_call 126;refine Calls.mono c2 ?_;rintro e w2 ⟨rfl,hd⟩;clear c2;have H2:=I hd.below;clear hd))
   go_ret2
   exact⟨by rw[E1.o,E2.o];rfl,H2.o⟩
  |true=>
   have E1:=I (show tgL n=true by rw[tgL,h1,h2];rfl);have E2:=I (show tgR n=cpL krb n by rw[tgR,E1.o,cpL,h1];rfl);rw[h1] at c1;rw[h2] at c2;clear h1 h2 hs hcl;go_enter Tryz.func85,Tryz.ntmps85
   go_wp2_with (first
    |(go_at_call 125;refine Calls.mono c1 ?_;rintro e w1 ⟨rfl,rfl⟩;clear c1)
    |(go_at_call 126;refine Calls.mono c2 ?_;rintro e w2 ⟨rfl,hd⟩;clear c2;have H2:=I hd.below;clear hd;have c3:=C3.o w2)
    |(go_at_call 87;refine Calls.mono c3 ?_;rintro e w3 ⟨rfl,hb⟩;clear c3;have H3:=H2.t hb;clear hb))
   go_ret2
   exact⟨by rw[E1.o,E2.o];rfl,H3.o⟩
theorem AA (r n:L) (w:World) (hs:r.length≤1000000000) (hs2:n.length≤1000000000):Calls Tryz.prog 86 #[.agg #[.string ⟨r.toArray⟩,.string ⟨n.toArray⟩]] w fun e w'=>e = .returned (.bool (Am r n))∧Below w.heap.size w w':=by
 have c1:=Iu r (w.alloc (.cells #[.string ⟨r.toArray⟩,.string ⟨n.toArray⟩] 40)) hs;have hk:=Blk.new w 40 #[.string ⟨r.toArray⟩,.string ⟨n.toArray⟩];have hb0:=(Below.refl w.heap.size w).alloc Ae (.cells #[.string ⟨r.toArray⟩,.string ⟨n.toArray⟩] 40);have hsz:w.heap.size<(w.alloc (.cells #[.string ⟨r.toArray⟩,.string ⟨n.toArray⟩] 40)).heap.size:=by simp
 obtain⟨N,eN⟩:∃N,N=w.heap.size:=⟨_,rfl⟩;have C2:=I (fun w1=>CA n w1 hs2);have C3:=I (fun w1=>FP n w1 hs2);have E1:=I (show Am r n=(isL r&&(tgL n||AR AT n)) from rfl);rw[←eN] at hk hb0 hsz⊢;have EN:=I eN;clear eN;have HK:=I hk;clear hk;have HB0:=I hb0;clear hb0;have HSZ:=I hsz;clear hsz hs hs2;cases h1:isL r with
 |false=>
  rw[h1] at c1;have E:=I (show Am r n=false by rw[E1.o,h1];rfl);clear h1;go_enter Tryz.func86,Tryz.ntmps86
  go_wp2_with (go_at_call 126;refine Calls.mono c1 ?_;rintro e w1 ⟨rfl,hd⟩;clear c1;have H1:=I (HB0.o.trans (hd.below.mono (Nat.le_of_lt HSZ.o)));clear hd)
  go_ret;exact⟨by rw[E.o];rfl,H1.o⟩
 |true=>
  rw[h1] at c1;have C2':=I (fun w1=>C2.o w1);cases h2:tgL n with
  |true=>
   have E:=I (show Am r n=true by rw[E1.o,h1,h2];rfl);have HT:=I h2;clear h1 h2;go_enter Tryz.func86,Tryz.ntmps86
   go_wp2_with (first
    |(go_at_call 126;refine Calls.mono c1 ?_;rintro e w1 ⟨rfl,hd⟩;clear c1;have H1:=I (HB0.o.trans (hd.below.mono (Nat.le_of_lt HSZ.o)));have hk1:=(HK.o.below hd.below).cell 1;have hs1:N<w1.heap.size:=(by have:=hd.below.size;have:=HSZ.o;omega);have HS1:=I hs1;rw[EN.o] at hk1;clear hd hs1;have c2:=C2.o w1;rw[HT.o] at c2)
    |(go_at_call 85;refine Calls.mono c2 ?_;rintro e w2 ⟨rfl,hb⟩;clear c2;have H2:=I (H1.o.trans (hb.mono (Nat.le_of_lt HS1.o)));clear hb))
   go_ret;exact⟨by rw[E.o];rfl,H2.o⟩
  |false=>
   have E:=I (show Am r n=AR AT n by rw[E1.o,h1,h2];rfl);have HT:=I h2;clear h1 h2;go_enter Tryz.func86,Tryz.ntmps86
   go_wp2_with (first
    |(go_at_call 126;refine Calls.mono c1 ?_;rintro e w1 ⟨rfl,hd⟩;clear c1;have H1:=I (HB0.o.trans (hd.below.mono (Nat.le_of_lt HSZ.o)));have hkk:=HK.o.below hd.below;have HKK:=I hkk;have hk1:=hkk.cell 1;have hs1:N<w1.heap.size:=(by have:=hd.below.size;have:=HSZ.o;omega);have HS1:=I hs1;rw[EN.o] at hk1;clear hd hs1 hkk;have c2:=C2.o w1;rw[HT.o] at c2)
    |(go_at_call 85;refine Calls.mono c2 ?_;rintro e w2 ⟨rfl,hb⟩;clear c2 hk1;have H2:=I (H1.o.trans (hb.mono (Nat.le_of_lt HS1.o)));have hk2:=(HKK.o.below hb).cell 1;rw[EN.o] at hk2;clear hb;have c3:=C3.o w2)
    |(go_at_call 127;refine Calls.mono c3 ?_;rintro e w3 ⟨rfl,rfl⟩;clear c3))
   go_ret;exact⟨by rw[E.o];rfl,H2.o⟩
end Nm
namespace Nm
open Go.RowKit Ad
def st (l:L):Value:=.string ⟨l.toArray⟩
def strs (ls:List L):List Value:=ls.map st
theorem Es (ls:List L):(strs ls).length=ls.length:=by simp [strs]
theorem Et (ls ms:List L):strs (ls++ms)=strs ls++strs ms:=by simp [strs]
theorem Hb (ls:List L):∀u∈strs ls,u.oneCell'=true:=by
 intro u hu;obtain⟨b,_,rfl⟩:=List.mem_map.1 hu
 rfl
theorem IW {ls:List L} {i:Nat} (h:i<ls.length):(strs ls)[i]? = some (st (pl ls i)):=by
 rw[strs,List.getElem?_map,List.getElem?_eq_getElem h,IP h];rfl
theorem Hc:(Tryz.prog.info? 9).map (fun i=>(i.zero,i.size,i.bytes))=some (some (.string ⟨#[]⟩),1,16):=by kernel_rfl
def Own (w:World) (base:Nat) (v:Value) (ls:List L):Prop:=w.ownsRow base 9 1 v ls.length (strs ls)
theorem Own.nil (w:World) (base:Nat):Own w base (.slice none 0 0) []:=World.ownsRow_nil w base _ 1
theorem Own.below {w w':World} {base:Nat} {v:Value} {ls:List L} (h:Own w base v ls) (hb:Below w.heap.size w w'):Own w' base v ls:=GO h hb
theorem Own.from_ {w:World} {base base':Nat} {v:Value} {ls:List L} (h:Own w base v ls) (hb:base'≤base):Own w base' v ls:=by
 refine⟨h.1,?_⟩;rcases h.2 with h | ⟨g,cap,cur,h1,h2,h3⟩
 ·exact .inl h
 ·exact .inr ⟨g,cap,cur,h1,by omega,h3⟩
theorem Own.slice {w:World} {base:Nat} {v:Value} {ls:List L} (h:Own w base v ls):∃A c,v = .slice A ls.length c∧Rd w w.heap.size A (strs ls):=by
 have h':=h;rcases h.2 with⟨h1,h2⟩ | ⟨g,cap,cur,h1,_⟩
 ·have e:ls = []:=List.eq_nil_of_length_eq_zero h2
  subst e;exact⟨none,0,h1,.inl rfl⟩
 ·subst h1
  exact⟨_,cap,rfl,Rd.of_own (n:=ls.length) (cap:=cap) h'⟩
theorem Own.lt {w:World} {base:Nat} {v:Value} {ls:List L} (h:Own w base v ls):∀k,v.ownBlock=some k→base≤k∧k<w.heap.size:=World.ownsRow.lt h
theorem Iv {w:World} {B:Nat} {A:Option Addr} {ls:List L} (h:Rd w B A (strs ls)) {i:Nat} (hi:i<ls.length):∃b o,A=some ⟨b,o,none⟩∧b<B∧w.cell? ⟨b,o+i,none⟩=some (.string ⟨(pl ls i).toArray⟩):=
 h.at_ (IW hi)
section
variable {w:World} {ops:Array Oper} {rest:List Oper} {o:Oper} {a:Act} {Q:Exit→Act→World→Prop}
theorem JR (hgd:o.guard=none) (s x:Operand) (ho:o.op = .call {callee:=.builtin .append,args:=#[s,x],argTypes:=#[51,51]})
  (base:Nat) (v:Value) (ls:List L) (hs:a.eval s=v) (hown:Own w base v ls) (B:Nat) (A:Option Addr) (c:Nat) (ms:List L) (hx:a.eval x = .slice A ms.length c) (hr:Rd w B A (strs ms))
  (hl:ls.length+ms.length≤8000000000000) (hb:base≤w.heap.size)
  (h:∀v' w',Own w' base v' (ls++ms)→Below base w w'→wpList Tryz.prog ops Q rest (a.put o.dst v') w'):wpList Tryz.prog ops Q (o :: rest) a w:=by
 obtain⟨i0,hi0,hz0,hs0,hb0⟩:=info_parts Hc;refine Al w hgd s x 51 ho base 9 i0 _ 16 Tryz.underlying51 hi0 hz0 hs0 hb0 rfl v ls.length (strs ls) hs hown B A ms.length c (strs ms) hx (Es _).symm hr (Hb _) (by unfold maxLen;omega) (by omega) hb ?_;intro v' w' h1 h2 _;refine h v' w' (by rw[Own,List.length_append,Et];exact h1) ?_;exact Af.grown h2 hb (fun k hk=>(hown.lt k hk).1)
theorem FV (hgd:o.guard=none) (s x:Operand) (ho:o.op = .call {callee:=.builtin .append,args:=#[s,x],argTypes:=#[51,51]})
  (base:Nat) (v:Value) (ls:List L) (hs:a.eval s=v) (hown:Own w base v ls) (r:L) (hx:a.eval x = .slice (some ⟨w.heap.size,0,none⟩) 1 1)
  (hl:ls.length+1≤8000000000000) (hb:base≤w.heap.size)
  (h:∀v' w',Own w' base v' (ls++[r])→Below base w w'→wpList Tryz.prog ops Q rest (a.put o.dst v') w'):wpList Tryz.prog ops Q (o :: rest) a (w.alloc (.cells #[.string ⟨r.toArray⟩] 9)):=by
 refine JR hgd s x ho base v ls hs (hown.below (Af.alloc Ae _)) (w.heap.size+1) _ 1 [r] hx ?_ hl (by simp;omega) ?_
 ·refine .inr ⟨w.heap.size,0,rfl,by omega,fun i u hu=>?_⟩
  cases i with
  |zero=>
   simp only[strs,List.map_cons,List.map_nil,List.getElem?_cons_zero,Option.some.injEq] at hu;subst hu;exact(Blk.new w 9 _).cell 0
  |succ i=>simp [strs] at hu
 ·intro v' w' h1 h2
  exact h v' w' h1 ((Af.alloc hb _).trans h2)
end
theorem FW (l:List UInt8) (f k:Nat):(ByteArray.mk l.toArray).extract f k=ByteArray.mk ((l.drop f).take (k - f)).toArray:=by
 rw[ByteArray.extract_mk]
attribute [local go_sem] CW List.getElem_cons_zero List.getElem_cons_succ FW
def piece (l:L) (f k:Nat):L:=(l.drop f).take (k - f)
theorem DW {l:L} {f k:Nat} (hf:f≤k) (hk:k<l.length):l.drop f=piece l f k++l[k] :: l.drop (k+1):=by
 have h1:l.drop f=(l.drop f).take (k - f)++(l.drop f).drop (k - f):=(List.take_append_drop _ _).symm;rw[List.drop_drop,show f+(k - f)=k by omega,List.drop_eq_getElem_cons hk] at h1;exact h1
theorem Fo {l:L} {f k:Nat} (hf:f≤k) (hk:k<l.length):piece l f (k+1)=piece l f k++[l[k]]:=by
 have h:=DW hf hk;have hl:(piece l f k).length=k - f:=by rw[piece,List.length_take,List.length_drop];omega
 rw[piece,h,show k+1 - f=(piece l f k).length+1 by omega,List.take_append,List.take_of_length_le (by omega),Nat.add_sub_cancel_left]
 rfl
theorem DX {l:L} {f:Nat}:piece l f l.length=l.drop f:=by rw[piece,List.take_of_length_le (by simp)]
theorem Hd (c:UInt8) (l:L):(split c l).length≤l.length+1:=by
 induction l with
 |nil=>simp [split]
 |cons x r ih=>
  rw[split];split
  ·simp;omega
  ·split<;>simp_all<;>omega
theorem DY (l:L) (c:UInt8) (w:World) (hs:l.length≤1000000000):Calls Tryz.prog 102 #[.string ⟨l.toArray⟩,.int .u8 (c.toNat:Int)] w fun e w'=>∃v,e = .returned v∧Own w' w.heap.size v (split c l)∧Below w.heap.size w w':=by
 obtain⟨N,eN⟩:∃N,N=w.heap.size:=⟨_,rfl⟩;rw[←eN];have HB0:=I (show Below N w w by exact Below.refl _ _);have EN:=I eN;clear eN;have HNE0:=I (show ∀w1:World,Below N w w1→N≤w1.heap.size from fun w1 h=>by have:=h.size;have:=EN.o;omega);go_enter Tryz.func102,Tryz.ntmps102
 go_wp2
 go_loopw [5,6,7] (fun vv fv iv wr=>∃(f k:Nat) (ls:List L),f≤k∧k≤l.length∧fv = .int .i64 (f:Int)∧iv = .int .i64 (k:Int)∧Own wr N vv ls∧c∉piece l f k∧ls++split c (l.drop f)=split c l∧ls.length≤f∧Below N w wr) (fun _ _ iv _=>l.length - (intOf iv).toNat)
 case atStart=>exact⟨0,0,[],Nat.le_refl _,Nat.zero_le _,rfl,rfl,Own.nil _ _,by simp [piece],by simp,by simp,HB0.o⟩
 case round=>
  obtain⟨f,k,ls,hf,hk,rfl,rfl,ho,hc,hsp,hll,hb⟩:=hrel;have HO:=I ho;clear ho;have HB:=I hb;clear hb;have HC:=I hc;clear hc;have HSP:=I hsp;clear hsp
  by_cases hlt:k<l.length
  ·have e1:(k:Int)<(l.length:Int):=by omega
   have hpc:=DW hf hlt;have hps:=Fo hf hlt
   by_cases hx:l[k]=c
   ·have t1:((l[k].toNat:Int)==(c.toNat:Int))=true:=by simp [hx]
    have hn:(ls++[piece l f k])++split c (l.drop (k+1))=split c l:=by
     rw[←HSP.o,hpc,hx,Ds HC.o];simp
    have HN:=I hn;clear hn hpc hps hx;have e2:(f:Int)≤(k:Int):=by omega
    go_wp2_with (at_builtin;refine FV rfl (.tmp 19) (.tmp 24) rfl N _ ls rfl HO.o (piece l f k) rfl (by omega) (HNE0.o _ HB.o) ?_;intro v' w3 ho3 hb3;have H3:=I (HB.o.trans hb3);have HO3:=I ho3;clear ho3 hb3)
    go_roundw
    case rel=>exact⟨k+1,k+1,_,Nat.le_refl _,by omega,by go_num,by go_num,HO3.o,by simp [piece],HN.o,by simp;omega,H3.o⟩
    case measure=>simp [intOf];omega
   ·have t1:((l[k].toNat:Int)==(c.toNat:Int))=false:=by
     simp only[beq_eq_false_iff_ne,ne_eq];intro q;exact hx (UInt8.toNat_inj.1 (by omega))
    have HC1:=I (show c∉piece l f (k+1) by
     rw[hps,List.mem_append,not_or];exact⟨HC.o,by simpa using fun q:c=l[k]=>hx q.symm⟩)
    clear hpc hps hx
    go_wp2
    go_roundw
    case rel=>exact⟨f,k+1,ls,by omega,by omega,rfl,by go_num,HO.o,HC1.o,HSP.o,hll,HB.o⟩
    case measure=>simp [intOf];omega
  ·obtain rfl:k=l.length:=by omega
   have e1:¬(l.length:Int)<(l.length:Int):=by omega
   have e2:(f:Int)≤(l.length:Int):=by omega
   have hc:=HC.o;rw[DX] at hc;have hn:ls++[piece l f l.length]=split c l:=by rw[←HSP.o,Cx hc,DX]
   have HN:=I hn;clear hn hc
   go_wp2_with (at_builtin;refine FV rfl (.tmp 28) (.tmp 32) rfl N _ ls rfl HO.o (piece l f l.length) rfl (by omega) (HNE0.o _ HB.o) ?_;intro v' w3 ho3 hb3;have H3:=I (HB.o.trans hb3);have HO3:=I ho3;clear ho3 hb3)
   go_ret;exact⟨_,rfl,by rw[←HN.o];exact HO3.o,H3.o⟩
end Nm
namespace Nm
open Go.RowKit Ad
attribute [local go_sem] CW List.getElem_cons_zero List.getElem_cons_succ FW
theorem CY {ls:List L} {i:Nat} (hi:i<ls.length) (h:AR capB (pl ls i)=false):AW ls=false:=by
 cases e:AW ls with
 |false=>rfl
 |true=>
  have:=((Dh ls).1 e).2.2;rw[List.all_eq_true] at this;have:=this _ (Ir hi);rw[h] at this;cases this
theorem He {ls:List L} (h:∀i,i<ls.length→AR capB (pl ls i)=true) (h1:1≤ls.length):AW ls=decide (ls.length≤4):=by
 have ha:ls.all (AR capB)=true:=by
  rw[List.all_eq_true];intro x hx;obtain⟨i,hi,rfl⟩:=mem_pl hx;exact h i hi
 rw[AW,ha,decide_eq_true h1];simp
theorem Eu (ls:List L) (b o c:Nat) (w:World) (h1:1≤ls.length) (hl:ls.length≤8000000000000) (hs:∀i,i<ls.length→(pl ls i).length≤1000000000)
  (hc:∀i,i<ls.length→w.cell? ⟨b,o+i,none⟩=some (.string ⟨(pl ls i).toArray⟩)) :
  Calls Tryz.prog 101 #[.slice (some ⟨b,o,none⟩) ls.length c] w fun e w'=>e = .returned (.bool (AW ls))∧w=w':=by
 obtain⟨n,en⟩:∃n,n=ls.length:=⟨_,rfl⟩;rw[←en] at h1 hl hs hc⊢;have HS:=I hs;clear hs;have HC:=I hc;clear hc;have EN:=I en;clear en;go_enter Tryz.func101,Tryz.ntmps101
 go_wp2
 go_loop [3] (fun iv=>∃i:Nat,i≤n∧iv = .int .i64 (i:Int)∧∀j,j<i→AR capB (pl ls j)=true) (fun iv=>n - (intOf iv).toNat)
 case atStart=>exact⟨0,Nat.zero_le _,rfl,fun j h=>absurd h (Nat.not_lt_zero j)⟩
 case round=>
  obtain⟨i,hi,rfl,hw⟩:=hrel;have HW:=I hw;clear hw
  by_cases hlt:i<n
  ·have e1:(i:Int)<(n:Int):=by omega
   have hc:=HC.o i hlt;have hsz:=HS.o i hlt;obtain⟨l,el⟩:∃l,l=pl ls i:=⟨_,rfl⟩;rw[←el] at hc hsz;have EL:=I el;clear el
   by_cases g1:l.length<1
   ·have t1:decide ((l.length:Int)<1)=true:=by simp;omega
    have E:=I (CY (by rw[←EN.o];exact hlt) (by rw[←EL.o];exact Cy g1));clear g1
    go_wp2
    go_ret;exact⟨by rw[E.o];rfl,rfl⟩
   ·have t1:decide ((l.length:Int)<1)=false:=by simp;omega
    by_cases g2:8<l.length
    ·have t2:decide (8<(l.length:Int))=true:=by simp;omega
     have E:=I (CY (by rw[←EN.o];exact hlt) (by rw[←EL.o];exact Di g2));clear g1 g2
     go_wp2
     go_ret;exact⟨by rw[E.o];rfl,rfl⟩
    ·have t2:decide (8<(l.length:Int))=false:=by simp;omega
     have HA:=I (fun h=>DF (p:=capB) (l:=l) h (by omega) (by omega));clear g1 g2
     go_wp2
     go_loop [4] (fun kv=>∃k:Nat,k≤l.length∧kv = .int .i64 (k:Int)∧Fit capB l k) (fun kv=>l.length - (intOf kv).toNat)
     case atStart=>exact⟨0,Nat.zero_le _,rfl,fun i _ h=>by omega⟩
     case round=>
      obtain⟨k,hk,rfl,hf⟩:=hrel;have HF:=I hf;clear hf
      by_cases hkl:k<l.length
      ·have e2:(k:Int)<(l.length:Int):=by omega
       have hb:=FL l[k]
       by_cases q1:l[k].toNat<65
       ·have s1:decide ((l[k].toNat:Int)<65)=true:=by simp;omega
        have E:=I (CY (ls:=ls) (i:=i) (by rw[←EN.o];exact hlt) (by rw[←EL.o];exact Cj hkl (by simp [capB];omega)));clear q1
        go_wp2
        go_ret;exact⟨by rw[E.o];rfl,rfl⟩
       ·have s1:decide ((l[k].toNat:Int)<65)=false:=by simp;omega
        by_cases q2:90<l[k].toNat
        ·have s2:decide (90<(l[k].toNat:Int))=true:=by simp;omega
         have E:=I (CY (ls:=ls) (i:=i) (by rw[←EN.o];exact hlt) (by rw[←EL.o];exact Cj hkl (by simp [capB];omega)));clear q1 q2
         go_wp2
         go_ret;exact⟨by rw[E.o];rfl,rfl⟩
        ·have s2:decide (90<(l[k].toNat:Int))=false:=by simp;omega
         have HP:=I (show capB l[k]=true by simp [capB];omega);clear q1 q2
         go_wp2
         go_round
         case rel=>exact⟨k+1,by omega,by go_num,fun i hi hik=>by
          by_cases q:i=k
          ·subst q;exact HP.o
          ·exact HF.o i hi (by omega)⟩
         case measure=>simp [intOf];omega
      ·have e2:¬(k:Int)<(l.length:Int):=by omega
       have E:=I (HA.o (fun i hi=>HF.o i hi (by omega)))
       go_wp2
       go_round
       case rel=>exact⟨i+1,by omega,by go_num,fun j hj=>by
        by_cases q:j=i
        ·rw[q,←EL.o];exact E.o
        ·exact HW.o j (by omega)⟩
       case measure=>simp [intOf];omega
  ·obtain rfl:i=n:=by omega
   have e1:¬(i:Int)<(i:Int):=by omega
   have hE:=He (ls:=ls) (fun j hj=>HW.o j (by rw[EN.o];exact hj)) (by rw[←EN.o];exact h1);rw[←EN.o] at hE;have E:=I hE;clear hE;have t1:decide ((1:Int)≤(i:Int))=true:=by simp;omega
   by_cases g:i≤4
   ·have t2:decide ((i:Int)≤4)=true:=by simp;omega
    have E2:=I (decide_eq_true g);clear g
    go_wp2
    go_ret;exact⟨by rw[E.o,E2.o];rfl,rfl⟩
   ·have t2:decide ((i:Int)≤4)=false:=by simp;omega
    have E2:=I (decide_eq_false g);clear g
    go_wp2
    go_ret;exact⟨by rw[E.o,E2.o];rfl,rfl⟩
theorem Fp (ls:List L) (A:Option Addr) (c B:Nat) (w:World) (h1:1≤ls.length) (hl:ls.length≤8000000000000) (hs:∀i,i<ls.length→(pl ls i).length≤1000000000) (hr:Rd w B A (strs ls)) :
  Calls Tryz.prog 101 #[.slice A ls.length c] w fun e w'=>e = .returned (.bool (AW ls))∧w=w':=by
 obtain⟨b,o,rfl,_,_⟩:=Iv hr (i:=0) h1;refine Eu ls b o c w h1 hl hs fun i hi=>?_
 obtain⟨b',o',e,_,hc⟩:=Iv hr hi;injection e with e;injection e with e1 e2;subst e1;subst e2;exact hc
end Nm
namespace Nm
open Go.RowKit Ad
attribute [local go_sem] CW List.getElem_cons_zero List.getElem_cons_succ Bu Bv Ck
theorem FX (c:UInt8) (l:L):∀x,x∈split c l→x.length≤l.length:=by
 induction l with
 |nil=>intro x hx;simp [split] at hx;simp [hx]
 |cons a r ih=>
  intro x hx;rw[split] at hx
  split at hx
  ·rcases List.mem_cons.1 hx with rfl | h
   ·simp
   ·have:=ih x h;simp;omega
  ·cases hs:split c r with
   |nil=>rw[hs] at hx;simp at hx;subst hx;simp
   |cons u t=>
    rw[hs] at hx ih;rcases List.mem_cons.1 hx with rfl | h
    ·have:=ih u List.mem_cons_self;simp;omega
    ·have:=ih x (List.mem_cons_of_mem _ h);simp;omega
theorem EW (l:L) (c:UInt8) (w':World) (base:Nat) (v:Value) (hs:l.length≤1000000000) (ho:Own w' base v (split c l)) :
  ∃A n cap,v = .slice A n cap∧∀w1,Below w'.heap.size w' w1→Calls Tryz.prog 101 #[.slice A n cap] w1 fun e w2=>e = .returned (.bool (AW (split c l)))∧w1=w2:=by
 obtain⟨A,cap,rfl,hr⟩:=ho.slice;refine⟨A,_,cap,rfl,fun w1 hb=>?_⟩;exact Fp (split c l) A cap w'.heap.size w1 (Dg c l) (by have:=Hd c l;omega) (fun i hi=>by have:=FX c l _ (Ir hi);omega) (hr.below hb)
theorem FY (l:L) (w:World) (hs:l.length≤1000000000):Calls Tryz.prog 54 #[.string ⟨l.toArray⟩] w fun e w'=>e = .returned (.int .i64 (AK l:Int))∧Below w.heap.size w w':=by
 have C2:=I (fun w1=>DY l 46 w1 hs);have S2:=I (fun w' base v ho=>EW l 46 w' base v hs ho);have HB0:=I (Below.refl w.heap.size w);cases l with
 |nil=>
  have E:=I GR;have c2:=C2.o w;have EL:=I (show AW (split 46 [])=false by decide);clear hs;go_enter Tryz.func54,Tryz.ntmps54
  go_wp2_with (first
   |(go_at_call 102;refine Calls.mono c2 ?_;rintro e w1 ⟨v,rfl,ho,hb⟩;clear c2;obtain⟨A,n,cap,rfl,hc⟩:=S2.o w1 _ v ho;have c3:=hc w1 Af;rw[EL.o] at c3;have H1:=I hb;clear hb ho hc)
   |(go_at_call 101;refine Calls.mono c3 ?_;rintro e w2 ⟨rfl,rfl⟩;clear c3))
  go_ret;exact⟨by rw[E.o];rfl,H1.o⟩
 |cons x r=>
  have e0:(0:Int)<(r.length:Int)+1:=by omega
  have hs':r.length≤1000000000:=by simp at hs;omega
  have ek:AK (x :: r)=if slL (x :: r) then 2 else if AW (split 46 (x :: r)) then 1 else 0:=rfl
  by_cases hx:x=47
  ·subst hx
   have esl:slL (47 :: r)=AW (split 47 r):=by simp [slL]
   rw[esl] at ek;have c1:=DY r 47 w hs';have S1:=I (fun w' base v ho=>EW r 47 w' base v hs' ho);cases h1:AW (split 47 r) with
   |true=>
    have E:=I (show AK (47 :: r)=2 by rw[ek,h1];rfl);have H:=I h1;clear ek esl h1 hs hs';go_enter Tryz.func54,Tryz.ntmps54
    go_wp2_with (first
     |(go_at_call 102;refine Calls.mono c1 ?_;rintro e w1 ⟨v,rfl,ho,hb⟩;clear c1;obtain⟨A,n,cap,rfl,hc⟩:=S1.o w1 _ v ho;have c3:=hc w1 Af;rw[H.o] at c3;have H1:=I hb;clear hb ho hc)
     |(go_at_call 101;refine Calls.mono c3 ?_;rintro e w2 ⟨rfl,rfl⟩;clear c3))
    go_ret;exact⟨by rw[E.o];rfl,H1.o⟩
   |false=>
    rw[h1,if_neg (by simp)] at ek;have H:=I h1;have hd:AW (split 46 (47 :: r))=false:=by
     cases q:AW (split 46 (47 :: r)) with
     |false=>rfl
     |true=>exact absurd rfl (ET q)
    have HD:=I hd;have E:=I (show AK (47 :: r)=0 by rw[ek,hd];rfl);clear ek esl h1 hd hs hs';go_enter Tryz.func54,Tryz.ntmps54
    go_wp2_with (first
     |(go_at_call 102;refine Calls.mono c1 ?_;rintro e w1 ⟨v,rfl,ho,hb⟩;clear c1;obtain⟨A,n,cap,rfl,hc⟩:=S1.o w1 _ v ho;have c3:=hc w1 Af;rw[H.o] at c3;have H1:=I hb;clear hb ho hc;have c2:=C2.o w1)
     |(go_at_call 101;refine Calls.mono c3 ?_;rintro e w2 ⟨rfl,rfl⟩;clear c3)
     |(go_at_call 102;refine Calls.mono c2 ?_;rintro e w4 ⟨v4,rfl,ho,hb⟩;clear c2;obtain⟨A4,n4,cap4,rfl,hc⟩:=S2.o w4 _ v4 ho;have c5:=hc w4 Af;rw[HD.o] at c5;have H4:=H1.t hb;clear hb ho hc)
     |(go_at_call 101;refine Calls.mono c5 ?_;rintro e w6 ⟨rfl,rfl⟩;clear c5))
    go_ret;exact⟨by rw[E.o];rfl,H4.o⟩
  ·have t1:((x.toNat:Int)==47)=false:=by
    simp only[beq_eq_false_iff_ne,ne_eq];intro q;exact hx (UInt8.toNat_inj.1 (by have:(47:UInt8).toNat=47:=rfl;omega))
   have esl:slL (x :: r)=false:=by simp [slL,hx]
   rw[esl,if_neg (by simp)] at ek;have c2:=C2.o w;cases h1:AW (split 46 (x :: r)) with
   |true=>
    have E:=I (show AK (x :: r)=1 by rw[ek,h1];rfl);have H:=I h1;clear ek esl h1 hs hs' hx;go_enter Tryz.func54,Tryz.ntmps54
    go_wp2_with (first
     |(go_at_call 102;refine Calls.mono c2 ?_;rintro e w1 ⟨v,rfl,ho,hb⟩;clear c2;obtain⟨A,n,cap,rfl,hc⟩:=S2.o w1 _ v ho;have c3:=hc w1 Af;rw[H.o] at c3;have H1:=I hb;clear hb ho hc)
     |(go_at_call 101;refine Calls.mono c3 ?_;rintro e w2 ⟨rfl,rfl⟩;clear c3))
    go_ret;exact⟨by rw[E.o];rfl,H1.o⟩
   |false=>
    have E:=I (show AK (x :: r)=0 by rw[ek,h1];rfl);have H:=I h1;clear ek esl h1 hs hs' hx;go_enter Tryz.func54,Tryz.ntmps54
    go_wp2_with (first
     |(go_at_call 102;refine Calls.mono c2 ?_;rintro e w1 ⟨v,rfl,ho,hb⟩;clear c2;obtain⟨A,n,cap,rfl,hc⟩:=S2.o w1 _ v ho;have c3:=hc w1 Af;rw[H.o] at c3;have H1:=I hb;clear hb ho hc)
     |(go_at_call 101;refine Calls.mono c3 ?_;rintro e w2 ⟨rfl,rfl⟩;clear c3))
    go_ret;exact⟨by rw[E.o];rfl,H1.o⟩
theorem FZ (l:L) (w:World) (hs:l.length≤1000000000):Calls Tryz.prog 26 #[.string ⟨l.toArray⟩] w fun e w'=>e = .returned (.bool (isL l))∧Below w.heap.size w w':=by
 have c1:=FY l w hs
 by_cases h:1≤AK l
 ·have E:=I (show isL l=true by simp [isL,h])
  have t:decide (0<AK l)=true:=by simp;omega
  clear h;go_enter Tryz.func26,Tryz.ntmps26
  go_wp2_with (go_at_call 54;refine Calls.mono c1 ?_;rintro e w1 ⟨rfl,hd⟩;clear c1;have H1:=I hd;clear hd)
  go_ret;exact⟨by rw[E.o];rfl,H1.o⟩
 ·have E:=I (show isL l=false by simp [isL];omega)
  have e0:AK l=0:=by omega
  rw[e0] at c1;clear h e0;go_enter Tryz.func26,Tryz.ntmps26
  go_wp2_with (go_at_call 54;refine Calls.mono c1 ?_;rintro e w1 ⟨rfl,hd⟩;clear c1;have H1:=I hd;clear hd)
  go_ret;exact⟨by rw[E.o];rfl,H1.o⟩
end Nm
namespace Nm
open Go.RowKit Ad
attribute [local go_sem] CW List.getElem_cons_zero List.getElem_cons_succ Bu Bv Ck
theorem Hf {n:L} (h:n.length<8):tgL n=false:=by
 cases q:preL krb n with
 |false=>rw[tgL,q];rfl
 |true=>
  have h1:n.drop 7 = []:=List.drop_of_length_le (by omega);have h2:cpL krb n = []:=by rw[cpL,q,if_pos rfl];exact h1
  rw[tgL,h2,show isL []=false from by decide,Bool.and_false]
theorem tg_eq (n:L):tgL n=((n.take 7==krb)&&isL (n.drop 7)):=by
 have e:=EU krb n;rw[show krb.length=7 from rfl] at e;rw[tgL,e];cases q:preL krb n with
 |false=>rfl
 |true=>rw[cpL,q];rfl
theorem Ah (n:L) (w:World) (hs:n.length≤1000000000):Calls Tryz.prog 34 #[.string ⟨n.toArray⟩] w fun e w'=>e = .returned (.tuple #[.string ⟨(tgR n).toArray⟩,.bool (tgL n)])∧Below w.heap.size w w':=by
 have c2:=FZ (n.drop 7) w (by simp;omega);have HB0:=I (Below.refl w.heap.size w)
 by_cases h8:n.length<8
 ·have E1:=I (Hf h8)
  have E2:=I (show tgR n = [] by rw[tgR,E1.o];rfl);have t1:decide ((n.length:Int)<8)=true:=by simp;omega
  clear h8 hs;go_enter Tryz.func34,Tryz.ntmps34
  go_wp2_with fail
  go_ret2
  exact⟨by rw[E1.o,E2.o];rfl,HB0.o⟩
 ·have t1:decide ((n.length:Int)<8)=false:=by simp;omega
  have e7:(7:Int)≤(n.length:Int):=by omega
  have eq:=tg_eq n;clear h8;cases h1:(n.take 7==krb) with
  |false=>
   rw[h1] at eq;have t2:(n.take 7 == [107,114,98,116,103,116,47])=false:=h1;have E1:=I (show tgL n=false from eq);have E2:=I (show tgR n = [] by rw[tgR,E1.o];rfl);clear eq h1 hs;go_enter Tryz.func34,Tryz.ntmps34
   go_wp2_with fail
   go_ret2
   exact⟨by rw[E1.o,E2.o];rfl,HB0.o⟩
  |true=>
   rw[h1,Bool.true_and] at eq;have t2:(n.take 7 == [107,114,98,116,103,116,47])=true:=h1;clear h1 hs;cases h2:isL (n.drop 7) with
   |false=>
    rw[h2] at c2 eq;have E1:=I eq;have E2:=I (show tgR n = [] by rw[tgR,E1.o];rfl);clear eq h2;go_enter Tryz.func34,Tryz.ntmps34
    go_wp2_with (go_at_call 26;refine Calls.mono c2 ?_;rintro e w2 ⟨rfl,hd⟩;clear c2;have H2:=I hd;clear hd)
    go_ret2
    exact⟨by rw[E1.o,E2.o];rfl,H2.o⟩
   |true=>
    rw[h2] at c2 eq;have E1:=I eq;have E2:=I (show tgR n=n.drop 7 by rw[tgR,E1.o];rfl);clear eq h2;go_enter Tryz.func34,Tryz.ntmps34
    go_wp2_with (go_at_call 26;refine Calls.mono c2 ?_;rintro e w2 ⟨rfl,hd⟩;clear c2;have H2:=I hd;clear hd)
    go_ret2
    exact⟨by rw[E1.o,E2.o];rfl,H2.o⟩
theorem Hg {p:UInt8→Bool} {l:L} (h:∀i (h:i<l.length),p l[i]=true):AR p l=(decide (1≤l.length)&&decide (l.length≤8)):=by
 have ha:l.all p=true:=by
  rw[List.all_eq_true];intro x hx;obtain⟨i,hi,rfl⟩:=List.getElem_of_mem hx;exact h i hi
 rw[AR,ha,Bool.and_true]
theorem Aj (r n:L) (w:World) (hs:r.length≤1000000000) (hs2:n.length≤1000000000):Calls Tryz.prog 35 #[.agg #[.string ⟨r.toArray⟩,.string ⟨n.toArray⟩]] w fun e w'=>e = .returned (.bool (Am r n))∧Below w.heap.size w w':=by
 have c1:=FZ r (w.alloc (.cells #[.string ⟨r.toArray⟩,.string ⟨n.toArray⟩] 40)) hs;have hk:=Blk.new w 40 #[.string ⟨r.toArray⟩,.string ⟨n.toArray⟩];have hb0:=(Below.refl w.heap.size w).alloc Ae (.cells #[.string ⟨r.toArray⟩,.string ⟨n.toArray⟩] 40);have hsz:w.heap.size<(w.alloc (.cells #[.string ⟨r.toArray⟩,.string ⟨n.toArray⟩] 40)).heap.size:=by simp
 obtain⟨N,eN⟩:∃N,N=w.heap.size:=⟨_,rfl⟩;have C2:=I (fun w1=>Ah n w1 hs2);have E1:=I (show Am r n=(isL r&&(tgL n||AR AT n)) from rfl);rw[←eN] at hk hb0 hsz⊢;have EN:=I eN;clear eN;have HK:=I hk;clear hk;have HB0:=I hb0;clear hb0;have HSZ:=I hsz;clear hsz hs;cases h1:isL r with
 |false=>
  rw[h1] at c1;have E:=I (show Am r n=false by rw[E1.o,h1];rfl);clear h1;go_enter Tryz.func35,Tryz.ntmps35
  go_wp2_with (go_at_call 26;refine Calls.mono c1 ?_;rintro e w1 ⟨rfl,hd⟩;clear c1;have H1:=I (HB0.o.trans (hd.mono (Nat.le_of_lt HSZ.o)));clear hd)
  go_ret;exact⟨by rw[E.o];rfl,H1.o⟩
 |true=>
  rw[h1] at c1;cases h2:tgL n with
  |true=>
   have E:=I (show Am r n=true by rw[E1.o,h1,h2];rfl);have HT:=I h2;clear h1 h2;go_enter Tryz.func35,Tryz.ntmps35
   go_wp2_with (first
    |(go_at_call 26;refine Calls.mono c1 ?_;rintro e w1 ⟨rfl,hd⟩;clear c1;have H1:=I (HB0.o.trans (hd.mono (Nat.le_of_lt HSZ.o)));have hkk:=HK.o.below hd;have HKK:=I hkk;have hk1:=hkk.cell 1;have hs1:N<w1.heap.size:=(by have:=hd.size;have:=HSZ.o;omega);have HS1:=I hs1;rw[EN.o] at hk1;clear hd hs1 hkk;have c2:=C2.o w1;rw[HT.o] at c2)
    |(go_at_call 34;refine Calls.mono c2 ?_;rintro e w2 ⟨rfl,hb⟩;clear c2 hk1;have H2:=I (H1.o.trans (hb.mono (Nat.le_of_lt HS1.o)));have hk2:=(HKK.o.below hb).cell 1;rw[EN.o] at hk2;clear hb))
   go_ret;exact⟨by rw[E.o];rfl,H2.o⟩
  |false=>
   have E:=I (show Am r n=AR AT n by rw[E1.o,h1,h2];rfl);have HT:=I h2;clear h1 h2;go_enter Tryz.func35,Tryz.ntmps35
   go_wp2_with (first
    |(go_at_call 26;refine Calls.mono c1 ?_;rintro e w1 ⟨rfl,hd⟩;clear c1;have H1:=I (HB0.o.trans (hd.mono (Nat.le_of_lt HSZ.o)));have hkk:=HK.o.below hd;have HKK:=I hkk;have hk1:=hkk.cell 1;have hs1:N<w1.heap.size:=(by have:=hd.size;have:=HSZ.o;omega);have HS1:=I hs1;rw[EN.o] at hk1;clear hd hs1 hkk;have c2:=C2.o w1;rw[HT.o] at c2)
    |(go_at_call 34;refine Calls.mono c2 ?_;rintro e w2 ⟨rfl,hb⟩;clear c2 hk1;have H2:=I (H1.o.trans (hb.mono (Nat.le_of_lt HS1.o)));have hk2:=(HKK.o.below hb).cell 1;rw[EN.o] at hk2;clear hb))
   go_loop [5] (fun iv=>∃k:Nat,k≤n.length∧iv = .int .i64 (k:Int)∧Fit AT n k) (fun iv=>n.length - (intOf iv).toNat)
   case atStart=>exact⟨0,Nat.zero_le _,rfl,fun i _ h=>by omega⟩
   case round=>
    obtain⟨k,hk,rfl,hf⟩:=hrel;have HF:=I hf;clear hf
    by_cases hlt:k<n.length
    ·have e1:(k:Int)<(n.length:Int):=by omega
     have hb:=FL n[k];have hbad:AT n[k]=false→Hid (Am r n=false):=fun h=>I (by rw[E.o];exact Cj hlt h)
     have HBAD:=I hbad;clear hbad;have hgood:AT n[k]=true→Hid (Fit AT n (k+1)):=fun h=>I (fun i hi hik=>by
      by_cases q:i=k
      ·subst q;exact h
      ·exact HF.o i hi (by omega))
     have HGOOD:=I hgood;clear hgood
     by_cases q1:n[k].toNat<97
     ·have s1:decide ((n[k].toNat:Int)<97)=true:=by simp;omega
      by_cases q2:n[k].toNat<48
      ·have s2:decide ((n[k].toNat:Int)<48)=true:=by simp;omega
       have E2:=HBAD.o (by simp [AT,Bo];omega);clear q1 q2
       go_wp2
       go_ret;exact⟨by rw[E2.o];rfl,H2.o⟩
      ·have s2:decide ((n[k].toNat:Int)<48)=false:=by simp;omega
       by_cases q3:57<n[k].toNat
       ·have s3:decide (57<(n[k].toNat:Int))=true:=by simp;omega
        have E2:=HBAD.o (by simp [AT,Bo];omega);clear q1 q2 q3
        go_wp2
        go_ret;exact⟨by rw[E2.o];rfl,H2.o⟩
       ·have s3:decide (57<(n[k].toNat:Int))=false:=by simp;omega
        have E2:=HGOOD.o (by simp [AT,Bo];omega);clear q1 q2 q3
        go_wp2
        go_round
        case rel=>exact⟨k+1,by omega,by go_num,E2.o⟩
        case measure=>simp [intOf];omega
     ·have s1:decide ((n[k].toNat:Int)<97)=false:=by simp;omega
      by_cases q2:122<n[k].toNat
      ·have s2:decide (122<(n[k].toNat:Int))=true:=by simp;omega
       have s3:decide ((n[k].toNat:Int)<48)=false:=by simp;omega
       have s4:decide (57<(n[k].toNat:Int))=true:=by simp;omega
       have E2:=HBAD.o (by simp [AT,Bo];omega);clear q1 q2
       go_wp2
       go_ret;exact⟨by rw[E2.o];rfl,H2.o⟩
      ·have s2:decide (122<(n[k].toNat:Int))=false:=by simp;omega
       have E2:=HGOOD.o (by simp [AT,Bo];omega);clear q1 q2
       go_wp2
       go_round
       case rel=>exact⟨k+1,by omega,by go_num,E2.o⟩
       case measure=>simp [intOf];omega
    ·obtain rfl:k=n.length:=by omega
     have e1:¬(n.length:Int)<(n.length:Int):=by omega
     have E2:=I (E.o.trans (Hg (fun i hi=>HF.o i hi hi)))
     by_cases g1:1≤n.length
     ·have t1:decide ((1:Int)≤(n.length:Int))=true:=by simp;omega
      by_cases g2:n.length≤8
      ·have t2:decide ((n.length:Int)≤8)=true:=by simp;omega
       have E3:=I (E2.o.trans (show(decide (1≤n.length)&&decide (n.length≤8))=true by simp;omega));clear g1 g2
       go_wp2
       go_ret;exact⟨by rw[E3.o];rfl,H2.o⟩
      ·have t2:decide ((n.length:Int)≤8)=false:=by simp;omega
       have E3:=I (E2.o.trans (show(decide (1≤n.length)&&decide (n.length≤8))=false by simp;omega));clear g1 g2
       go_wp2
       go_ret;exact⟨by rw[E3.o];rfl,H2.o⟩
     ·have t1:decide ((1:Int)≤(n.length:Int))=false:=by simp;omega
      have E3:=I (E2.o.trans (show(decide (1≤n.length)&&decide (n.length≤8))=false by simp;omega));clear g1
      go_wp2
      go_ret;exact⟨by rw[E3.o];rfl,H2.o⟩
end Nm
end Go.Proofs.YtlfmicidppccnaaGreat
