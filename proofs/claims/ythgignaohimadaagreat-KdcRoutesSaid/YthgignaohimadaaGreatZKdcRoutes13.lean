import Derived.Test.YthgignaohimadaaGreatZKdcRoutes12
set_option maxHeartbeats 25600000
set_option maxRecDepth 100000
set_option linter.unusedVariables false
set_option linter.unusedSimpArgs false
namespace Go.Proofs.YthgignaohimadaaGreat
namespace Kd
open Af Se Ms
open Nm (krb L)
open Rg (It Cv BA BH numO)
open DerP (elem encI)
open SeL (Bn Bc)
theorem He {p:L} {n:Int} {u:Int} {ks:Nat->UInt8} (hp:p.length<=784) (F:0<=n) (E:n<=1099511627776) (hu:0<=u) (D:u<=255):Bn ks u n p=(DI ks u.toNat n.toNat p,0):=by
 rw[Bn,if_pos ⟨hu,D,F,E,hp⟩]
theorem Hc {p:L} {n:Int} {u:Int} {ks:Nat->UInt8} (hp:p.length<=784) (F:0<=n) (E:n<=1099511627776) (hu:0<=u) (D:u<=255):Bc ks u (Bn ks u n p).1=(p,0):=by
 rw[He hp F E hu D,Bc,if_pos ⟨hu,D⟩];have J:=WR ks u.toNat n.toNat p (by omega) hp;have M:=WS ks u.toNat n.toNat p (by omega);simp only;rw[if_pos J,M]
theorem LG {p:Pt} (hk:p.ss.length=32) (D:ptB p=true):(ptE p).length<=500:=by
 obtain⟨_,E,M,_,_⟩:=Dl D;have l1:=(Bl E).1;have l2:=AE 4 p.ss;have l3:=AE 27 p.tr;have l4:=AI p.st;have l5:=AI p.en;have J:=AE 99 [prE p.c,elem 4 p.ss,elem 27 p.tr,encI p.st,encI p.en].flatten;have F:[prE p.c,elem 4 p.ss,elem 27 p.tr,encI p.st,encI p.en].flatten.length=(prE p.c).length+((elem 4 p.ss).length+((elem 27 p.tr).length+((encI p.st).length+(encI p.en).length))):=by simp
 rw[ptE];omega
theorem LH {a:An} (E:anB a=true):(anE a).length<=500:=by
 have D:prB a.c=true/\tmB a.t=true/\tmB a.q=true:=by simpa [anB] using E
 have l1:=(Bl D.1).1;have l4:=AI a.t;have l5:=AI a.q;have J:=AE 98 [prE a.c,encI a.t,encI a.q].flatten;have F:[prE a.c,encI a.t,encI a.q].flatten.length=(prE a.c).length+((encI a.t).length+(encI a.q).length):=by simp
 rw[anE];omega
theorem ai {p:Rp} (hk:p.ss.length=32) (D:rpB p=true):(rpE p).length<=500:=by
 have E:prB p.s=true/\tmB p.st=true/\tmB p.en=true/\tmB p.no=true:=by simpa [rpB] using D
 have l1:=(Bl E.1).1;have l2:=AE 4 p.ss;have l4:=AI p.st;have l5:=AI p.en;have M:=AI p.no;have J:=AE 122 [elem 4 p.ss,prE p.s,encI p.st,encI p.en,encI p.no].flatten;have F:[elem 4 p.ss,prE p.s,encI p.st,encI p.en,encI p.no].flatten.length=(elem 4 p.ss).length+((prE p.s).length+((encI p.st).length+((encI p.en).length+(encI p.no).length))):=by simp
 rw[rpE];omega
theorem Gx {p:Pt} (hk:p.ss.length=32) (D:ptB p=true):ptO p=some (ptE p):=by rw[ptO,limO,if_pos ⟨D,by have:=LG hk D;omega⟩]
theorem JS {p:An} (D:anB p=true):anO p=some (anE p):=by rw[anO,limO,if_pos ⟨D,by have:=LH D;omega⟩]
theorem Up {p:Rp} (hk:p.ss.length=32) (D:rpB p=true):rpO p=some (rpE p):=by rw[rpO,limO,if_pos ⟨D,by have:=ai hk D;omega⟩]
theorem df {p:Pt} (D:ptB p=false):ptO p=none:=by rw[ptO,limO,D];rfl
theorem dh {p:Rp} (D:rpB p=false):rpO p=none:=by rw[rpO,limO,D];rfl
theorem di {p:Pt} (hk:p.ss.length=32):(ptO p).isSome=ptB p:=by
 cases h:ptB p with
 |true=>rw[Gx hk h];rfl
 |false=>rw[df h];rfl
theorem dj {p:Rp} (hk:p.ss.length=32):(rpO p).isSome=rpB p:=by
 cases h:rpB p with
 |true=>rw[Up hk h];rfl
 |false=>rw[dh h];rfl
theorem aj {p:Pt} (hk:p.ss.length=32) (D:ptB p=true):ptD (ptE p)=some p:=by rw[ptD,Og D hk];rw[if_pos (Gx hk D)]
theorem ak {p:An} (D:anB p=true):anD (anE p)=some p:=by rw[anD,SZ D];rw[if_pos (JS D)]
def lO (o:Option L):L:=o.getD []
def reqQ (s:Pr) (ks:Nat->UInt8) (p:Pt) (a:An) (t:Pr) (u:Int):Tg:=⟨⟨s,1,(Bn ks 2 77 (lO (ptO p))).1⟩,(Bn (ksOf p.ss) 7 78 (lO (anO a))).1,t,u,4⟩
theorem dm {R:L} {l:List It} {i:Nat} {t:Tk} {p:Pt} {now:Int} (hk:p.ss.length=32) (hp:ptB p=true) (hs:t.s.2=krb++R) (D:Cv l t.s t.k=some i) (E:Bc (keyO l (some i)) 2 t.b=(ptE p,0)) :
  opnL R l t now=if p.en<now then (7,pt0) else if now+5<p.st then (8,pt0) else (0,p):=by
 unfold opnL;rw[if_pos hs,D];simp only;rw[E];simp only;rw[if_pos trivial,aj hk hp]
theorem dn {ss a:L} {c:Pr} {x:An} {now:Int} (E:anB x=true) (D:Bc (ksOf ss) 7 a=(anE x,0)) :
  autL ss a c now=if x.c=c then (if x.t<now - 5\/now+5<x.t then 8 else 0) else 9:=by
 unfold autL;rw[D];simp only;rw[if_pos trivial,ak E]
theorem WW {R:L} {l:List It} {i:Nat} {s t:Pr} {ks:Nat->UInt8} {p:Pt} {a:An} {u now:Int} (hk:p.ss.length=32) (hp:ptB p=true) (hs:s.2=krb++R) (D:Cv l s 1=some i) (hi:keyO l (some i)=ks) :
  opnL R l (reqQ s ks p a t u).t now=if p.en<now then (7,pt0) else if now+5<p.st then (8,pt0) else (0,p):=by
 have E:=LG hk hp;refine dm (i:=i) hk hp hs D ?_;show Bc (keyO l (some i)) 2 (Bn ks 2 77 (lO (ptO p))).1=_;rw[hi,Gx hk hp,lO,Option.getD_some,Hc (by omega) (by decide) (by decide) (by decide) (by decide)]
theorem WX {s t:Pr} {ks:Nat->UInt8} {p:Pt} {a:An} {u now:Int} {c:Pr} (D:anB a=true) :
  autL p.ss (reqQ s ks p a t u).a c now=if a.c=c then (if a.t<now - 5\/now+5<a.t then 8 else 0) else 9:=by
 have E:=LH D;refine dn D ?_;show Bc (ksOf p.ss) 7 (Bn (ksOf p.ss) 7 78 (lO (anO a))).1=_;rw[JS D,lO,Option.getD_some,Hc (by omega) (by decide) (by decide) (by decide) (by decide)]
theorem an {s t:Pr} {ks:Nat->UInt8} {p:Pt} {a:An} {u:Int} (hk:p.ss.length=32) (hp:ptB p=true) (D:anB a=true) (hs:prB s=true) (E:prB t=true) (hu:tmB u=true):tgB (reqQ s ks p a t u)=true:=by
 have F:=LG hk hp;have J:=LH D;have b1:Dm (reqQ s ks p a t u).t.b=true:=by
  simp only[reqQ];rw[Gx hk hp,lO,Option.getD_some,He (by omega) (by decide) (by decide) (by decide) (by decide)];simp only[Dm,BR,Bool.and_eq_true,decide_eq_true_eq];omega
 have b2:Dm (reqQ s ks p a t u).a=true:=by
  simp only[reqQ];rw[JS D,lO,Option.getD_some,He (by omega) (by decide) (by decide) (by decide) (by decide)];simp only[Dm,BR,Bool.and_eq_true,decide_eq_true_eq];omega
 rw[tgB,tkB,b1,b2];show((prB s&&(inB 1 1 255&&true))&&(true&&(prB t&&(tmB u&&tmB 4))))=true;rw[hs,E,hu]
 decide
theorem dp {l:List It} {n:Nat} {c s:Pr} {P:Pt} {no:Int} {ks:Nat->UInt8} {u:Int} (hk:P.ss.length=32) (hp:ptB P=true) (E:rpB (rpOf P s no)=true) :
  ansL l n c s P no ks u=(0,⟨c,⟨s,BH l s,(Bn (keyL l s) 2 ((n+1:Nat):Int) (ptE P)).1⟩,(Bn ks u ((n+1+1:Nat):Int) (rpE (rpOf P s no))).1⟩):=by
 have D:(rpOf P s no).ss.length=32:=hk;rw[ansL,di hk,dj D,hp,E,Gx hk hp,Up D E];rfl
end Kd
namespace Kd
open Af Se
open Nm (krb L)
open Rg (It Cv BA BH numO Num)
open Rt (Tp isT Sm nxS nxB)
abbrev Pr:=L×L
def rA:L:=[65,46,69,68,85]
def rE:L:=[69,68,85]
def rB:L:=[66,46,69,68,85]
def pAnn:Pr:=(rA,[97,110,110])
def Cy:Pr:=(rA,[109,97,105,108])
def pWeb:Pr:=(rE,[119,101,98])
def kq (n:UInt8):Nat->UInt8:=fun i=>if i=0 then n else if i=1 then 7 else 0
def kb (n:UInt8):L:=(List.range 32).map (kq n)
def tT:Tp:=⟨[rA,rE,rB],[(rA,rE),(rE,rA),(rE,rB),(rB,rE)],[]⟩
def itA:List It:=[⟨kr rA rA,1,kq 10⟩,⟨kr rA rE,1,kq 99⟩,⟨kr rE rA,1,kq 12⟩,⟨pAnn,1,kq 13⟩,⟨Cy,1,kq 14⟩]
def itE:List It:=[⟨kr rE rE,1,kq 10⟩,⟨kr rA rE,1,kq 99⟩,⟨kr rE rB,1,kq 12⟩,⟨pWeb,1,kq 13⟩]
def itX (above:Bool):List It:=if above then itE else itA
def rX (above:Bool):L:=if above then rE else rA
theorem PZ (n:UInt8):(kb n).length=32:=by simp [kb]
theorem Qa (n:UInt8):(bvs (kb n)).toArray=AY (kq n):=by simp [bvs,kb,AY]
theorem dq:isT tT=true:=by decide +kernel
theorem ao:Sm tT:=⟨by decide,by decide,by decide,by decide,by decide,by decide⟩
theorem numA:Num itA:=by
 intro j i h
 match j,h with
 |0,h=>injection h with h;subst h;decide +kernel
 |1,h=>injection h with h;subst h;decide +kernel
 |2,h=>injection h with h;subst h;decide +kernel
 |3,h=>injection h with h;subst h;decide +kernel
 |4,h=>injection h with h;subst h;decide +kernel
 |j+5,h=>simp [itA] at h
theorem numE:Num itE:=by
 intro j i h
 match j,h with
 |0,h=>injection h with h;subst h;decide +kernel
 |1,h=>injection h with h;subst h;decide +kernel
 |2,h=>injection h with h;subst h;decide +kernel
 |3,h=>injection h with h;subst h;decide +kernel
 |j+4,h=>simp [itE] at h
theorem numX (a:Bool):Num (itX a):=by cases a<;>first | exact numA | exact numE
end Kd
namespace Wh
open Go.RowKit Af
section
variable {w w':World} {g o:Nat} {t:TypeId} {cs ds ps:Array Value} {pre mid post:List Value}
theorem Ae (h:Blk w g t cs):w.rangeAt g 0 cs.toList:=fun j v D=>by
 rw[Nat.zero_add,h.cell];simpa using D
theorem CU (h:Blk w g t cs) (F:cs.toList=pre++(mid++post)) (o:Nat) (E:o=pre.length):w.rangeAt g o mid:=fun j v D=>by
 subst E;have J:j<mid.length:=(List.getElem?_eq_some_iff.1 D).1;rw[h.cell,<-Array.getElem?_toList,F,List.getElem?_append_right (by omega),Nat.add_sub_cancel_left,List.getElem?_append_left J];exact D
theorem CV (h:Blk w g t cs) (o n:Nat) (D:o+n<=cs.size):w.there g o n:=fun j E=>by
 rw[h.cell,Array.getElem?_eq_getElem (by omega)];exact⟨rfl,h.frozen (o+j)⟩
theorem BV {g:Nat} {t:TypeId}:∀(D:List Value) (o:Nat) (w:World) (cs:Array Value),Blk w g t cs->o+D.length<=cs.size->
  ∃ds:Array Value,Blk (w.setCells g o D) g t ds/\ds.size=cs.size/\(∀i,o<=i->i<o+D.length->ds[i]? = D[i - o]?)/\(∀i,i<o\/o+D.length<=i->ds[i]? = cs[i]?)
 | [],o,w,cs,h,hl=>⟨cs,h,rfl,fun i F E=>by simp at E;omega,fun i _=>rfl⟩
 |v :: r,o,w,cs,h,hl=>by
  rw[World.setCells];simp only[List.length_cons] at hl;obtain⟨ds,F,E,M,J⟩:=BV r (o+1) _ _ (h.set o v) (by simp;omega);simp only[List.length_cons];refine⟨ds,F,by simpa using E,fun i hi N=>?_,fun i hi=>?_⟩
  ·by_cases e:i=o
   ·subst e
    rw[J i (by omega),Nat.sub_self];rw[Array.getElem?_setIfInBounds_self_of_lt (by omega)]
    rfl
   ·rw[M i (by omega) (by omega),show i - o=(i - (o+1))+1 by omega]
    simp
  ·rw[J i (by omega)]
   exact Array.getElem?_setIfInBounds_ne (by omega)
theorem AS (h:Blk w g t cs) (hs:cs.size=ds.size):Blk (w.setCells g 0 ds.toList) g t ds:=by
 obtain⟨es,D,F,E,_⟩:=BV ds.toList 0 w cs h (by simp;omega);have e:es=ds:=by
  apply Array.ext_getElem?;intro i
  by_cases hi:i<ds.size
  ·rw[E i (by omega) (by simp;omega)];simp
  ·rw[Array.getElem?_eq_none (by omega),Array.getElem?_eq_none (by omega)]
 rw[<-e];rw[<-e] at D;exact D
theorem Gy {row:Option Nat} {a:World} {g:Nat} (hp:row=some g\/a.heap.size<=g):∀(D:List Value) (o:Nat) (w:World),a.grownBy w row->a.grownBy (w.setCells g o D) row
 | [],_,_,h=>h
 |v :: r,o,w,h=>by rw[World.setCells];exact Gy hp r (o+1) _ (AU h (p:=⟨g,o,none⟩) hp v)
theorem EE (w:World) (g o:Nat) (D:List Value):w.grownBy (w.setCells g o D) (some g):=Gy (.inl rfl) D o w (World.grownBy.refl _ _)
end
section
variable {P:Program} {ops:Array Oper} {rest:List Oper} {op:Oper} {a:Act} {w:World} {Q:Exit->Act->World->Prop}
theorem Au (hw:Region.wanted op (yielded ops a.tmps)=true) (ty:TypeId) (x:Operand) (F:op.op=.load ty x)
  (g o:Nat) (D:a.eval x=.pointer (some ⟨g,o,none⟩)) (cs:Array Value) (d:TypeDesc) (M:w.rangeAt g o cs.toList)
  (hu:P.underlying ty=some d) (J:d.isRow=true) (hi:(P.info? ty).map (·.size)=some cs.size)
  (h:wpList P ops Q rest (a.put op.dst (.agg cs)) w):wpList P ops Q (op :: rest) a w:=
 BigFrame.wpList_want hw fun _ E=>wp_load_mid ty x F g o D cs.toList d M hu J (by rw[Array.length_toList];exact hi) (by simpa using E _ _ h)
theorem Uq (w:World) (t:TypeId) (lit cs:Array Value) (hs:lit.size=cs.size):Blk ((w.alloc (.cells lit t)).setCells w.heap.size 0 cs.toList) w.heap.size t cs/\Below w.heap.size w ((w.alloc (.cells lit t)).setCells w.heap.size 0 cs.toList):=
 ⟨AS (Blk.new w t lit) hs,AJ ((Below.refl w.heap.size w).alloc Ag _) (EE _ _ _ _) (by simp) Ag⟩
theorem By {w0:World} {lit:Array Value} (D:op.guard=none) (ty:TypeId) (x y:Operand) (M:op.op=.store ty x y) (t:TypeId) (hw:w=w0.alloc (.cells lit t))
  (cells:Array Value) (F:a.eval x=.pointer (some ⟨w0.heap.size,0,none⟩)) (N:a.eval y=.agg cells) (hs:lit.size=cells.size)
  (hi:(P.info? ty).map (·.size)=some cells.size) (J:cells.all (·.oneCell')=true)
  (h:∀V,Blk V w0.heap.size t cells->Below w0.heap.size w0 V->wpList P ops Q rest (a.put op.dst undef) V):wpList P ops Q (op :: rest) a w:=by
 subst hw;have E:=Uq w0 t lit cells hs;exact wpList_store_mid D ty x y M w0.heap.size 0 cells F N (CV (Blk.new w0 t lit) _ _ (by omega)) hi J (h _ E.1 E.2)
theorem Bo (D:op.guard=none) (ty:TypeId) (x y:Operand) (M:op.op=.store ty x y) (g:Nat) (t:TypeId) (old:Array Value) (E:Blk w g t old)
  (cells:Array Value) (F:a.eval x=.pointer (some ⟨g,0,none⟩)) (N:a.eval y=.agg cells) (hs:old.size=cells.size)
  (hi:(P.info? ty).map (·.size)=some cells.size) (J:cells.all (·.oneCell')=true)
  (h:∀V,Blk V g t cells->w.grownBy V (some g)->wpList P ops Q rest (a.put op.dst undef) V):wpList P ops Q (op :: rest) a w:=
 wpList_store_mid D ty x y M g 0 cells F N (CV E _ _ (by omega)) hi J (h _ (AS E hs) (EE _ _ _ _))
theorem AD {fn:Func} {tmps:Array Value} {w:World} {v:Value} (t:Nat) (ty:TypeId) (a:Addr) (D:fn.results=#[.cell t ty]) (J:tmps.getD t undef=.pointer (some a)) (F:(loadVar ty a).run P w=.ok v w) :
  (results fn tmps).run P w=.ok v w:=by
 have E:tmps[t]?.getD undef=.pointer (some a):=by simpa using J
 simp [results,D,E,asAddr,F]
theorem Al {g:Nat} {t ty:TypeId} {cs:Array Value} {d:TypeDesc} (h:Blk w g t cs) (hu:P.underlying ty=some d) (D:d.isRow=true) (hi:(P.info? ty).map (·.size)=some cs.size) :
  (loadVar ty ⟨g,0,none⟩).run P w=.ok (.agg cs) w:=by
 have:=run_loadVar_mid (P:=P) w g 0 ty cs.toList d (Ae h) hu D (by simpa using hi)
 simpa using this
theorem Ar {w':World} {o:Oper} {g:Nat} {t ty:TypeId} {cs:Array Value} {d:TypeDesc} (x:Operand) (E:o.op=.load ty x) (D:a.eval x=.pointer (some ⟨g,0,none⟩)) (h:Blk w' g t cs) (hu:P.underlying ty=some d) (F:d.isRow=true) (hi:(P.info? ty).map (·.size)=some cs.size) :
  (execOp a.eval o).run P w'=.ok (.value (.agg cs)) w':=by
 unfold execOp;simp only[E,D,Instr.loadAt,Instr.sureAddr,Sem.run_bind,Sem.run_pure,Result.andThen_ok,Al h hu F hi]
end
theorem ar (l:List Value):∀(k:Nat) (Z:Array Value),k+l.length<=Z.size->((l.zipIdx k).foldl (fun a x=>a.setIfInBounds (0+x.2) x.1) Z).size=Z.size/\∀i,((l.zipIdx k).foldl (fun a x=>a.setIfInBounds (0+x.2) x.1) Z)[i]? = if k<=i/\i<k+l.length then l[i - k]? else Z[i]?:=by
 induction l with
 |nil=>
  intro k Z h;refine⟨rfl,fun i=>?_⟩;rw[if_neg (by simp)]
  rfl
 |cons c l ih=>
  intro k Z h;simp only[List.length_cons] at h;obtain⟨D,E⟩:=ih (k+1) (Z.setIfInBounds (0+k) c) (by simp;omega);rw[List.zipIdx_cons,List.foldl_cons];refine⟨by rw[D];simp,fun i=>?_⟩;rw[E]
  by_cases e:i=k
  ·subst e
   rw[if_neg (by omega),if_pos (by simp),Nat.sub_self,Nat.zero_add,Array.getElem?_setIfInBounds_self_of_lt (by omega)]
   rfl
  ·by_cases g:k+1<=i/\i<k+1+l.length
   ·rw[if_pos g,if_pos (by simp;omega),show i - k=(i - (k+1))+1 by omega]
    simp
   ·rw[if_neg g,if_neg (by simp;omega),Array.getElem?_setIfInBounds_ne (by omega)]
theorem WY (cs Z:Array Value) (n:Nat) (F:cs.size=n) (J:Z.size=n):Instr.fill (fun i=>some (i*n,n)) Z [(0,.agg cs)]=some cs:=by
 have D:=ar cs.toList 0 Z (by simp;omega);have e:cs.zipIdx.foldl (fun a (x:Value×Nat)=>a.setIfInBounds (0+x.2) x.1) Z=cs:=by
  rw[<-Array.foldl_toList,Array.toList_zipIdx];apply Array.ext_getElem?;intro i;rw[D.2]
  by_cases g:i<cs.size
  ·rw[if_pos (by simp;omega)];simp
  ·rw[if_neg (by simp;omega),Array.getElem?_eq_none (by omega),Array.getElem?_eq_none (by omega)]
 have E:(Value.agg cs).cells=cs:=rfl;unfold Instr.fill;simp only[Nat.zero_mul,E];rw[if_neg (by simp;omega)];unfold Instr.fill
 congr 1
section
variable {P:Program}
theorem Hf (w:World) (t e:TypeId) (cs:Array Value) (D:TypeInfo) (z:Value) (hu:P.underlying t=some (.slice e)) (E:P.info? e=some D) (F:D.zero=some z) (hs:D.size=cs.size) (M:0<cs.size) (J:cs.size<=16777216) :
  (Instr.buildSlice t 1 #[(0,.agg cs)]).run P w=.ok (.slice (some ⟨w.heap.size,0,none⟩) 1 1) (w.alloc (.cells cs e)):=
 run_buildSlice w t e 1 _ cs D z hu E F (by rw[hs];omega) (by rw[hs];omega) (WY cs _ D.size hs.symm (by simp))
end
theorem Ii {P:Program} {α:Type} (f:α->List Value) (n bytes:Nat) (hf:∀x,(f x).length=n) (M:∀x,∀u∈f x,u.oneCell'=true) (w:World) (t ty e:TypeId) (i:TypeInfo) (z:Value) (ht:P.underlying t=some (.slice e)) (hi:P.info? e=some i) (hz:i.zero=some z) (hs:i.size=n) (hb:i.bytes=bytes) (J:z.cells.size=n) (hn:0<n)
  (base:Nat) (v:Value) (l:List α) (E:w.ownsRow base e n v l.length (l.flatMap f)) (x:α) (g:Nat) (hg:Blk w g e (f x).toArray) (O:l.length+1<=100000) (F:bytes<=10000) (D:base<=w.heap.size) :
  ∃v' w',(Builtin.append_ #[t,t] ty #[v,.slice (some ⟨g,0,none⟩) 1 1]).run P w=.ok v' w'/\w'.ownsRow base e n v' (l++[x]).length ((l++[x]).flatMap f)/\w.grownBy w' v.ownBlock/\(v'.ownBlock=v.ownBlock\/v'.ownBlock=some w.heap.size):=by
 obtain⟨v',w',h2,h3,N,_,Z⟩:=run_append_own_at (P:=P) w base t ty e i z n bytes ht hi hz hs hb J hn v l.length (l.flatMap f) E ⟨g,0,none⟩ 1 1 (f x) (by rw[hf];omega) (fun j u hu=>by
  rw[addr_add,Nat.zero_add,hg.cell j]
  simpa using hu) (M x) (by unfold maxLen;omega) (by
   have:(l.length+1)*bytes<=100000*10000:=Nat.mul_le_mul O F;omega) D
 exact⟨v',w',h2,by rw[List.length_append,List.flatMap_append,List.flatMap_singleton];exact h3,N,Z⟩
end Wh
namespace Rg
open Go.RowKit Af Se
abbrev prC (p:Pr):List Value:=[.string ⟨p.1.toArray⟩,.string ⟨p.2.toArray⟩]
abbrev prV (p:Pr):Value:=.agg #[.string ⟨p.1.toArray⟩,.string ⟨p.2.toArray⟩]
def iC (i:It):List Value:=.string ⟨i.p.1.toArray⟩ :: .string ⟨i.p.2.toArray⟩ :: .int .i64 (i.n:Int) :: (AY i.k).toList
structure Ent where
 it:It
 b:Nat
 h:Option Nat
 a:Nat
 o:Nat
 r:Nat
def eC (e:Ent):List Value:=iC e.it++[.pointer (some ⟨e.b,0,none⟩)]
theorem Cf (i:It):(iC i).length=35:=by simp [iC,DB]
theorem Cq (e:Ent):(eC e).length=36:=by simp [eC,Cf]
theorem Ur (i:It):∀u∈iC i,u.oneCell'=true:=by
 intro u hu;simp only[iC,List.mem_cons] at hu;rcases hu with h | h | h | h
 ·subst h;rfl
 ·subst h;rfl
 ·subst h;rfl
 ·have:=one32 i.k
  rw[Array.all_eq_true_iff_forall_mem] at this;exact this u (Array.mem_def.2 h)
theorem Nf (e:Ent):∀u∈eC e,u.oneCell'=true:=by
 intro u hu;rcases List.mem_append.1 hu with h | h
 ·exact Ur _ u h
 ·rw[List.mem_singleton] at h;subst h;rfl
theorem Us {α:Type} (f:α->List Value) (n:Nat) (h:∀x,(f x).length=n):∀(l:List α) (i:Nat) (x:α),l[i]? = some x->∀j v,(f x)[j]? = some v->(l.flatMap f)[i*n+j]? = some v
 | [],i,x,hx,_,_,_=>by simp at hx
 |a :: l,0,x,hx,j,v,hv=>by
  injection hx with hx;subst hx;have:=(List.getElem?_eq_some_iff.1 hv).1;rw[List.flatMap_cons,Nat.zero_mul,Nat.zero_add,List.getElem?_append_left this];exact hv
 |a :: l,i+1,x,hx,j,v,hv=>by
  rw[List.flatMap_cons,List.getElem?_append_right (by rw[h,Nat.succ_mul];omega),h,show(i+1)*n+j - n=i*n+j by rw[Nat.succ_mul];omega];exact Us f n h l i x hx j v hv
def RdR {α:Type} (w:World) (B:Nat) (A:Option Addr) (f:α->List Value) (n:Nat) (l:List α):Prop:=
 l = []\/∃g,A=some ⟨g,0,none⟩/\g<B/\∀i x,l[i]? = some x->w.rangeAt g (i*n) (f x)
theorem RdR.keep {α:Type} {w w':World} {B:Nat} {A:Option Addr} {f:α->List Value} {n:Nat} {l:List α} (h:RdR w B A f n l) (F:Below B w w'):RdR w' B A f n l:=by
 rcases h with h | ⟨g,M,D,N⟩
 ·exact .inl h
 ·exact .inr ⟨g,M,D,fun i x E j v J=>(F.cell (p:=⟨g,_,none⟩) D).trans (N i x E j v J)⟩
theorem RdR.at_ {α:Type} {w:World} {B:Nat} {A:Option Addr} {f:α->List Value} {n:Nat} {l:List α} {i:Nat} {x:α} (h:RdR w B A f n l) (D:l[i]? = some x):∃g,A=some ⟨g,0,none⟩/\g<B/\w.rangeAt g (i*n) (f x):=by
 rcases h with h | ⟨g,E,J,F⟩
 ·subst h;simp at D
 ·exact⟨g,E,J,F i x D⟩
theorem FC {α:Type} {w:World} {base:Nat} {t:TypeId} {v:Value} {f:α->List Value} {n:Nat} {l:List α} (M:∀x,(f x).length=n) (h:w.ownsRow base t n v l.length (l.flatMap f)):∃A c,v=.slice A l.length c/\l.length<=c/\c<=maxLen/\RdR w w.heap.size A f n l:=by
 have N:=h;rcases h.2 with⟨D,O⟩ | ⟨g,cap,cur,D,hg,J,Z,hm,_⟩
 ·have e:l = []:=List.eq_nil_of_length_eq_zero O
  subst e;exact⟨none,0,D,Nat.le_refl _,Nat.zero_le _,.inl rfl⟩
 ·subst D
  refine⟨_,cap,rfl,Z,hm,.inr ⟨g,rfl,(Array.getElem?_eq_some_iff.1 J).1,fun i x E j v F=>?_⟩⟩;have D:=N.cells (g:=g) rfl (i*n+j) v (Us f n M l i x E j v F);rw[addr_add,Nat.zero_add] at D;exact D
theorem JT {S:Nat->Prop} {w w':World} {base size n:Nat} {t:TypeId} {v:Value} {xs:List Value} (h:Chg S w w') (E:w.ownsRow base t size v n xs) (hs:∀k,v.ownBlock=some k->¬S k):w'.ownsRow base t size v n xs:=by
 refine⟨E.1,?_⟩;rcases E.2 with J | ⟨g,cap,cur,rfl,F,D,rest⟩
 ·exact .inl J
 ·exact .inr ⟨g,cap,cur,rfl,F,(h.block g (Array.getElem?_eq_some_iff.1 D).1 (hs g rfl)).trans D,rest⟩
def its (es:List Ent):List It:=es.map (·.it)
theorem KL {es:List Ent} {i:Nat} {e:Ent} (h:es[i]? = some e):(its es)[i]? = some e.it:=by simp [its,h]
theorem Qb {es:List Ent} {i:Nat} {x:It} (h:(its es)[i]? = some x):∃e,es[i]? = some e/\e.it=x:=by
 simpa [its] using h
theorem Dh (es:List Ent):(its es).length=es.length:=by simp [its]
structure Ring (w:World) (B r:Nat) (v:Value) (es:List Ent):Prop where
 blk:Blk w r 110 #[v]
 row:w.ownsRow B 112 36 v es.length (es.flatMap eC)
 lo:B<=r
 vr:v.ownBlock≠some r
 box:∀(i:Nat) (e:Ent),es[i]? = some e->Box w e.b e.it.k e.h e.a e.o e.r
 off:∀(i:Nat) (e:Ent),es[i]? = some e->∀k,Ow e.b e.h k->B<=k/\k≠r/\v.ownBlock≠some k
 far:∀(i j:Nat) (e f:Ent),es[i]? = some e->es[j]? = some f->i≠j->∀k,Ow e.b e.h k->¬Ow f.b f.h k
def RO (r:Nat) (v:Value) (es:List Ent) (k:Nat):Prop:=k=r\/v.ownBlock=some k\/∃(i:Nat) (e:Ent),es[i]? = some e/\Ow e.b e.h k
section
variable {w w':World} {B r:Nat} {v v':Value} {es:List Ent} {S:Nat->Prop}
theorem Ring.own_lo (h:Ring w B r v es) {k:Nat} (hk:RO r v es k):B<=k:=by
 rcases hk with hk | hk | ⟨i,e,he,hk⟩
 ·subst hk;exact h.lo
 ·exact(World.ownsRow.lt h.row k hk).1
 ·exact(h.off i e he k hk).1
theorem Ring.own_lt (h:Ring w B r v es) {k:Nat} (hk:RO r v es k):k<w.heap.size:=by
 rcases hk with hk | hk | ⟨i,e,he,hk⟩
 ·subst hk;exact h.blk.lt
 ·exact(World.ownsRow.lt h.row k hk).2
 ·exact(h.box i e he).own_lt k hk
theorem Ring.lt (h:Ring w B r v es):r<w.heap.size:=h.blk.lt
theorem Ring.chg (h:Ring w B r v es) (D:Chg S w w') (hs:∀k,RO r v es k->¬S k):Ring w' B r v es:=
 ⟨D.blk h.blk (hs r (.inl rfl)),JT D h.row (fun k hk=>hs k (.inr (.inl hk))),h.lo,h.vr,fun i e he=>(h.box i e he).chg D (fun k hk=>hs k (.inr (.inr ⟨i,e,he,hk⟩))),h.off,h.far⟩
theorem Ring.below (h:Ring w B r v es) (D:Below w.heap.size w w'):Ring w' B r v es:=h.chg (S:=fun _=>False) (Chg.of_below D) (fun _ _ x=>x)
theorem Ring.drew (h:Ring w B r v es):Ring w.drew B r v es:=h.below (below_drewN Ah 1)
theorem Ring.num (h:Ring w B r v es):∃A c,v=.slice A es.length c/\es.length<=c/\c<=maxLen/\RdR w w.heap.size A eC 36 es:=FC Cq h.row
theorem Ring.use (h:Ring w B r v es) {i:Nat} {e:Ent} (he:es[i]? = some e) {N:Option Nat} {a o q:Nat} (hx:Box w' e.b e.it.k N a o q) (hs:Cu w w' e.b e.h N) (hB:B<=w.heap.size):Ring w' B r v (es.set i ⟨e.it,e.b,N,a,o,q⟩):=by
 have hi:=(List.getElem?_eq_some_iff.1 he).1;have E:∀(j:Nat) (f:Ent),(es.set i ⟨e.it,e.b,N,a,o,q⟩)[j]? = some f->(j=i/\f=⟨e.it,e.b,N,a,o,q⟩)\/(j≠i/\es[j]? = some f):=fun j f D=>by
  by_cases q:i=j
  ·subst q
   rw[List.getElem?_set_self hi] at D;injection D with D;exact .inl ⟨rfl,D.symm⟩
  ·rw[List.getElem?_set_ne q] at D
   exact .inr ⟨fun x=>q x.symm,D⟩
 have M:∀k,Ow e.b N k->Ow e.b e.h k\/w.heap.size<=k:=fun k hk=>by
  rcases Nat.lt_or_ge k w.heap.size with g | g
  ·exact .inl (hs.own k g hk)
  ·exact .inr g
 have aw:(es.set i ⟨e.it,e.b,N,a,o,q⟩).flatMap eC=es.flatMap eC:=by
  have:(es.set i ⟨e.it,e.b,N,a,o,q⟩).map eC=es.map eC:=by
   apply List.ext_getElem?;intro j;rw[List.getElem?_map,List.getElem?_map]
   by_cases g:i=j
   ·subst g;rw[List.getElem?_set_self hi,he];rfl
   ·rw[List.getElem?_set_ne g]
  rw[List.flatMap_def,List.flatMap_def,this]
 refine⟨hs.1.blk h.blk (fun x=>(h.off i e he r x).2.1 rfl),?_,h.lo,h.vr,fun j f D=>?_,fun j f D k hk=>?_,fun j Z f O D F bz k hk J=>?_⟩
 ·rw[aw,List.length_set]
  exact JT hs.1 h.row (fun k hk x=>(h.off i e he k x).2.2 hk)
 ·rcases E j f D with⟨_,rfl⟩ | ⟨hj,D⟩
  ·exact hx
  ·exact(h.box j f D).chg hs.1 (fun k hk J=>h.far j i f e D he hj k hk J)
 ·rcases E j f D with⟨_,rfl⟩ | ⟨hj,D⟩
  ·rcases M k hk with g | g
   ·exact h.off i e he k g
   ·exact⟨by omega,fun x=>by have:=h.lt;omega,fun x=>by have:=(World.ownsRow.lt h.row k x).2;omega⟩
  ·exact h.off j f D k hk
 ·rcases E j f D with⟨e1,rfl⟩ | ⟨hj,D⟩
  ·rcases E Z O F with⟨e2,rfl⟩ | ⟨bx,F⟩
   ·exact bz (e1.trans e2.symm)
   ·rcases M k hk with g | g
    ·exact h.far i Z e O he F (fun x=>bx x.symm) k g J
    ·have:=(h.box Z O F).own_lt k J;omega
  ·rcases E Z O F with⟨e2,rfl⟩ | ⟨bx,F⟩
   ·rcases M k J with g | g
    ·exact h.far j i f e D he hj k hk g
    ·have:=(h.box j f D).own_lt k hk;omega
   ·exact h.far j Z f O D F bz k hk J
theorem Ring.use_new (h:Ring w B r v es) {i:Nat} {e:Ent} (he:es[i]? = some e) {E:Option Nat} (a o q:Nat) (hs:Cu w w' e.b e.h E):∀k,RO r v (es.set i ⟨e.it,e.b,E,a,o,q⟩) k->RO r v es k\/w.heap.size<=k:=fun k hk=>by
 have hi:=(List.getElem?_eq_some_iff.1 he).1;rcases hk with hk | hk | ⟨j,f,D,hk⟩
 ·exact .inl (.inl hk)
 ·exact .inl (.inr (.inl hk))
 ·by_cases g:i=j
  ·subst g
   rw[List.getElem?_set_self hi] at D;injection D with D;subst D;rcases Nat.lt_or_ge k w.heap.size with g | g
   ·exact .inl (.inr (.inr ⟨i,e,he,hs.own k g hk⟩))
   ·exact .inr g
  ·rw[List.getElem?_set_ne g] at D
   exact .inl (.inr (.inr ⟨j,f,D,hk⟩))
theorem Ring.snoc (h:Ring w B r v es) {e:Ent} (hc:Chg (fun k=>k=r\/v.ownBlock=some k) w w') (hb:Blk w' r 110 #[v']) (Z:w'.ownsRow B 112 36 v' (es.length+1) (es.flatMap eC++eC e))
  (hv:v'.ownBlock=v.ownBlock\/∃k,v'.ownBlock=some k/\w.heap.size<=k/\k≠e.b) (bx:Box w' e.b e.it.k none e.a e.o e.r) (bz:w.heap.size<=e.b) (hh:e.h=none) (hB:B<=w.heap.size):Ring w' B r v' (es++[e]):=by
 have aw:=h.lt;have E:∀(j:Nat) (f:Ent),(es++[e])[j]? = some f->(es[j]? = some f)\/(j=es.length/\f=e):=fun j f D=>by
  by_cases g:j<es.length
  ·rw[List.getElem?_append_left g] at D;exact .inl D
  ·rw[List.getElem?_append_right (by omega)] at D
   have:=(List.getElem?_eq_some_iff.1 D).1;have e1:j=es.length:=by simp at this;omega
   subst e1;rw[Nat.sub_self] at D;injection D with D;exact .inr ⟨rfl,D.symm⟩
 have M:∀k,Ow e.b e.h k->k=e.b:=fun k hk=>by
  rcases hk with hk | hk
  ·exact hk
  ·rw[hh] at hk;cases hk
 have N:∀k,v'.ownBlock=some k->k<w.heap.size->v.ownBlock=some k:=fun k hk hl=>by
  rcases hv with g | ⟨q,g1,g2,_⟩
  ·rw[<-g];exact hk
  ·rw[g1] at hk;injection hk with hk;omega
 refine⟨hb,?_,h.lo,fun x=>h.vr (N r x aw),fun j f D=>?_,fun j f D k hk=>?_,fun j j2 f f2 D O F k hk J=>?_⟩
 ·rw[List.length_append,List.length_singleton,List.flatMap_append,List.flatMap_singleton];exact Z
 ·rcases E j f D with g | ⟨_,rfl⟩
  ·refine(h.box j f g).chg hc (fun k hk x=>?_)
   rcases x with x | x
   ·exact(h.off j f g k hk).2.1 x
   ·exact(h.off j f g k hk).2.2 x
  ·rw[hh];exact bx
 ·rcases E j f D with g | ⟨_,rfl⟩
  ·have h1:=h.off j f g k hk
   exact⟨h1.1,h1.2.1,fun x=>h1.2.2 (N k x ((h.box j f g).own_lt k hk))⟩
  ·rw[M k hk]
   refine⟨by omega,by omega,fun x=>?_⟩;rcases hv with g | ⟨q,g1,_,g3⟩
   ·rw[g] at x;have:=(World.ownsRow.lt h.row _ x).2;omega
   ·rw[g1] at x;injection x with x;exact g3 x
 ·rcases E j f D with g | ⟨e1,rfl⟩
  ·rcases E j2 f2 O with g2 | ⟨e2,rfl⟩
   ·exact h.far j j2 f f2 g g2 F k hk J
   ·have:=(h.box j f g).own_lt k hk;have:=M k J;omega
  ·rcases E j2 f2 O with g2 | ⟨e2,rfl⟩
   ·have:=(h.box j2 f2 g2).own_lt k J;have:=M k hk;omega
   ·exact F (e1.trans e2.symm)
theorem WZ (es:List Ent) (e:Ent):its (es++[e])=its es++[e.it]:=by simp [its]
end
theorem Ys (x y:Pr) (w:World):(Op.equalIn 10000 23 (.agg #[.string ⟨x.1.toArray⟩,.string ⟨x.2.toArray⟩]) (.agg #[.string ⟨y.1.toArray⟩,.string ⟨y.2.toArray⟩])).run Tryz.prog w=.ok (decide (x=y)) w:=by
 obtain⟨a,b⟩:=x;obtain⟨c,d⟩:=y;simp only
 by_cases h0:a=c
 ·subst h0
  by_cases h1:b=d
  ·subst h1
   rw[decide_eq_true rfl]
   go_simp
  ·rw[decide_eq_false (fun h=>h1 (congrArg (fun z=>z.2) h))]
   go_simp
 ·rw[decide_eq_false (fun h=>h0 (congrArg (fun z=>z.1) h))]
  go_simp
theorem AQ {x y:Pr} (h:x=y):∀w,(Op.equalIn 10000 23 (.agg #[.string ⟨x.1.toArray⟩,.string ⟨x.2.toArray⟩]) (.agg #[.string ⟨y.1.toArray⟩,.string ⟨y.2.toArray⟩])).run Tryz.prog w=.ok true w:=fun w=>by rw[Ys,decide_eq_true h]
theorem Bd {x y:Pr} (h:x≠y):∀w,(Op.equalIn 10000 23 (.agg #[.string ⟨x.1.toArray⟩,.string ⟨x.2.toArray⟩]) (.agg #[.string ⟨y.1.toArray⟩,.string ⟨y.2.toArray⟩])).run Tryz.prog w=.ok false w:=fun w=>by rw[Ys,decide_eq_false h]
theorem Hg:(Tryz.prog.info? 112).map (·.size)=some 36:=by kernel_rfl
theorem AO:(Tryz.prog.info? 23).map (·.size)=some 2:=by kernel_rfl
def DY:Array Value:=#[.string ⟨#[]⟩,.string ⟨#[]⟩,.int .i64 0,.int .u8 0,.int .u8 0,.int .u8 0,.int .u8 0,.int .u8 0,.int .u8 0,.int .u8 0,.int .u8 0,.int .u8 0,.int .u8 0,.int .u8 0,.int .u8 0,.int .u8 0,.int .u8 0,.int .u8 0,.int .u8 0,.int .u8 0,.int .u8 0,.int .u8 0,.int .u8 0,.int .u8 0,.int .u8 0,.int .u8 0,.int .u8 0,.int .u8 0,.int .u8 0,.int .u8 0,.int .u8 0,.int .u8 0,.int .u8 0,.int .u8 0,.int .u8 0,.pointer none]
def eA (e:Ent):Array Value:=(eC e).toArray
theorem CY (e:Ent):(eA e).size=36:=by simp [eA,Cq]
theorem Qc (e:Ent):(eA e).all (·.oneCell')=true:=by
 rw[Array.all_eq_true_iff_forall_mem];intro u hu;exact Nf e u (by simpa [eA] using hu)
theorem JU (e:Ent):(eA e).toList=eC e:=by simp [eA]
theorem Ut {w:World} {g:Nat} {t:TypeId} {e:Ent} (h:Blk w g t (eA e)):w.rangeAt g 0 (#[.string ⟨e.it.p.1.toArray⟩,.string ⟨e.it.p.2.toArray⟩]:Array Value).toList:=
 Wh.CU (pre:=[]) (post:=(eC e).drop 2) h (by rw[JU];rfl) 0 rfl
theorem eA_n {w:World} {g:Nat} {t:TypeId} {e:Ent} (h:Blk w g t (eA e)):w.cell? ⟨g,2,none⟩=some (.int .i64 (e.it.n:Int)):=by
 rw[h.cell,eA,List.getElem?_toArray];rfl
theorem eA_b {w:World} {g:Nat} {t:TypeId} {e:Ent} (h:Blk w g t (eA e)):w.cell? ⟨g,35,none⟩=some (.pointer (some ⟨e.b,0,none⟩)):=by
 rw[h.cell,eA,List.getElem?_toArray,eC,List.getElem?_append_right (by simp [Cf]),Cf];rfl
def entC (es:List Ent):Option Nat->Array Value
 |none=>DY
 |some j=>match es[j]? with
  |some e=>eA e
  |none=>DY
theorem Ng {es:List Ent} {j:Nat}:entC es (some j)=match es[j]? with
 |some e=>eA e
 |none=>DY:=rfl
theorem KM (es:List Ent) (o:Option Nat):entC es o=DY\/∃e,entC es o=eA e:=by
 cases o with
 |none=>exact .inl rfl
 |some j=>
  rw[Ng];cases es[j]? with
  |none=>exact .inl rfl
  |some e=>exact .inr ⟨e,rfl⟩
theorem JV (es:List Ent) (o:Option Nat):(entC es o).size=36:=by
 rcases KM es o with h | ⟨e,h⟩
 ·rw[h];rfl
 ·rw[h];exact CY _
theorem Nh:DY.all (·.oneCell')=true:=by
 have h:∀u∈DY.toList,u.oneCell'=true:=by
  unfold DY;simp only[List.forall_mem_cons];simp [Value.oneCell']
 rw[Array.all_eq_true_iff_forall_mem];exact fun u hu=>h u (Array.mem_def.1 hu)
theorem Xa (es:List Ent) (o:Option Nat):(entC es o).all (·.oneCell')=true:=by
 rcases KM es o with h | ⟨e,h⟩
 ·rw[h];exact Nh
 ·rw[h];exact Qc _
theorem Uu {es:List Ent} {i:Nat} {e:Ent} (h:es[i]? = some e):entC es (some i)=eA e:=by simp [entC,h]
theorem Ro {es:List Ent} {i:Nat} {e:Ent} {p:Pr} (h:es[i]? = some e) (hp:e.it.p=p):Bv (its es) p (i+1)=some i:=by
 rw[Bv,if_pos (by rw[KL h,<-hp];rfl)]
theorem OF {es:List Ent} {i:Nat} {e:Ent} {p:Pr} (h:es[i]? = some e) (hp:e.it.p≠p):Bv (its es) p (i+1)=Bv (its es) p i:=by
 rw[Bv,if_neg];rw[KL h];intro x;injection x with x;exact hp x
theorem Jh (B r:Nat) (v:Value) (es:List Ent) (p:Pr) (w:World) (h:Ring w B r v es) (hl:es.length<=1000) :
  Calls Tryz.prog 37 #[.pointer (some ⟨r,0,none⟩),prV p] w fun e w'=>e=.returned (.agg (entC es (BA (its es) p)))/\Below w.heap.size w w':=by
 obtain⟨A,c,rfl,hc,hm,hr⟩:=h.num;have cb:BA (its es) p=Bv (its es) p es.length:=by rw[BA,Dh]
 rw[cb];have cd:=h.blk;obtain⟨n,en⟩:=Ak (es.length);rw[<-en] at cd hc hl⊢;have k0:=cd.c0;have cq:=cd.lt;have cL:=I cd;clear cd;have HR:=I hr;clear hr;have EN:=I en;clear en cb h;obtain⟨W,eW⟩:=Ak (((w.alloc (.cells #[.string ⟨p.1.toArray⟩,.string ⟨p.2.toArray⟩] 23)).alloc (.cells DY 112)).alloc (.cells DY 112));have J:Below w.heap.size w W:=eW▸((Ah.alloc Ag _).alloc (by simp) _).alloc (by simp;omega) _;have O:=I (show Blk W w.heap.size 23 #[.string ⟨p.1.toArray⟩,.string ⟨p.2.toArray⟩] from eW▸((Blk.new w _ _).alloc _).alloc _);have D:=I (show Blk W (w.heap.size+1) 112 DY by have:=Blk.new (w.alloc (.cells #[.string ⟨p.1.toArray⟩,.string ⟨p.2.toArray⟩] 23)) 112 DY;simp only[World.size_alloc] at this;exact eW▸this.alloc _);have E:=I (show Blk W (w.heap.size+1+1) 112 DY by have:=Blk.new ((w.alloc (.cells #[.string ⟨p.1.toArray⟩,.string ⟨p.2.toArray⟩] 23)).alloc (.cells DY 112)) 112 DY;simp only[World.size_alloc] at this;exact eW▸this);have HB:=I J;replace k0:W.cell? ⟨r,0,none⟩=some (.slice A n c):=(J.cell (p:=⟨r,0,none⟩) cq).trans k0;replace HR:=I ((HR.o.keep J));clear J;go_enter Tryz.func37,Tryz.ntmps37
 go_upto_region 2 with fail
 change Code.wp _ _ _ _ (((w.alloc (.cells #[.string ⟨p.1.toArray⟩,.string ⟨p.2.toArray⟩] 23)).alloc (.cells DY 112)).alloc (.cells DY 112));rw[<-eW];obtain⟨N,eN⟩:=Ak (w.heap.size);rw[<-eN] at O D E HB HR cq⊢;have cx:=I eN;clear eW eN
 go_wp2
 go_loopw [13] (fun iv wr=>∃i:Nat,i<=n/\iv=.int .i64 (i:Int)/\Below N w wr/\Blk wr N 23 #[.string ⟨p.1.toArray⟩,.string ⟨p.2.toArray⟩]/\Blk wr (N+1) 112 DY/\Blk wr (N+1+1) 112 (entC es (Bv (its es) p i))/\RdR wr N A eC 36 es) (fun iv _=>n - (intOf iv).toNat)
 case atStart=>exact⟨0,Nat.zero_le _,rfl,HB.o,O.o,D.o,E.o,HR.o⟩
 case round=>
  clear HB O D E HR k0;obtain⟨i,hi,rfl,J,hp,cf,bx,hr⟩:=hrel;have HB:=I J;have O:=I hp;have D:=I cf;have E:=I bx;have aw:=I bx.lt
  by_cases hlt:i<n
  ·have e1:(i:Int)<(n:Int):=by omega
   have e2:(0:Int)<=(i:Int):=by omega
   obtain⟨x,hx⟩:∃x,es[i]? = some x:=⟨es[i]'(by rw[<-EN.o];exact hlt),List.getElem?_eq_getElem _⟩;obtain⟨g,rfl,cB,cp⟩:=hr.at_ hx;have HR:=I hr;rw[<-JU] at cp;have cn:=I cp;have bB:=Qc x;have ca:=I bB;have M:=Hg;rw[<-CY x] at M;have F:=I M;have HX:=I hx;have cj:=hp.cell 0;have cg:=hp.cell 1;obtain⟨cs,Z⟩:=Ak (eA x);rw[<-Z] at cn ca F;have bz:=I Z;clear cp bB M hx hr J hp cf bx Z cj cg
   by_cases hq:x.it.p=p
   ·have t1:=AQ hq
    have HQ:=I hq;clear hq
    go_wp2_with (first
     |(refine Wh.Au (by rfl) 112 (.tmp 15) (by rfl) g _ (by rfl) cs _ cn.o Tryz.underlying112 (by rfl) F.o ?_)
     |(refine Wh.By (by rfl) 112 (.tmp 7) (.tmp 16) (by rfl) 112 rfl cs (by rfl) (by rfl) (by rw[bz.o,CY];rfl) F.o ca.o ?_;rintro V hV J;have HV:=I hV;replace HB:=I (HB.o.trans (J.mono (by have:=aw.o;omega)));replace O:=I (O.o.below J);replace D:=I (D.o.below J);replace E:=I (E.o.below J);replace HR:=I (HR.o.keep (J.mono (by have:=aw.o;omega)));have cj:=O.c0;have cg:=O.c1;have ck:=I (Ut (bz.o▸hV));have cu:=I (Nat.lt_of_lt_of_le aw.o Ag);clear hV J)
     |(refine Wh.Au (by rfl) 23 (.tmp 17) (by rfl) _ 0 (by rfl) _ _ ck.o Tryz.underlying23 (by rfl) AO ?_)
     |(refine Wh.Au (by rfl) 112 (.tmp 7) (by rfl) _ 0 (by rfl) cs _ (Wh.Ae HV.o) Tryz.underlying112 (by rfl) F.o ?_)
     |(refine Wh.Bo (by rfl) 112 (.tmp 5) (.tmp 21) (by rfl) (N+1+1) 112 _ E.o cs (by rfl) (by rfl) (by rw[JV,bz.o,CY]) F.o ca.o ?_;rintro V2 cc hg;replace HB:=I (AJ HB.o hg (by have:=D.o.lt;omega) (by omega));replace O:=I (O.o.grown hg (by intro h;injection h with h;omega));replace D:=I (D.o.grown hg (by intro h;injection h with h;omega));replace HR:=I (HR.o.keep ((Below.refl N V).grown hg (by have:=D.o.lt;have:=E.o.lt;omega) (fun k hk=>by injection hk with hk;omega)));have cr:=I cc;clear cc hg cj cg E)
     |fail)
    go_roundw
    case rel=>exact⟨i+1,by omega,by go_num,HB.o,O.o,D.o,by rw[Ro HX.o HQ.o,Uu HX.o,<-bz.o];exact cr.o,HR.o⟩
    case measure=>simp [intOf];omega
   ·have t1:=Bd hq
    have HQ:=I hq;clear hq
    go_wp2_with (first
     |(refine Wh.Au (by rfl) 112 (.tmp 15) (by rfl) g _ (by rfl) cs _ cn.o Tryz.underlying112 (by rfl) F.o ?_)
     |(refine Wh.By (by rfl) 112 (.tmp 7) (.tmp 16) (by rfl) 112 rfl cs (by rfl) (by rfl) (by rw[bz.o,CY];rfl) F.o ca.o ?_;rintro V hV J;have HV:=I hV;replace HB:=I (HB.o.trans (J.mono (by have:=aw.o;omega)));replace O:=I (O.o.below J);replace D:=I (D.o.below J);replace E:=I (E.o.below J);replace HR:=I (HR.o.keep (J.mono (by have:=aw.o;omega)));have cj:=O.c0;have cg:=O.c1;have ck:=I (Ut (bz.o▸hV));have cu:=I (Nat.lt_of_lt_of_le aw.o Ag);clear hV J)
     |(refine Wh.Au (by rfl) 23 (.tmp 17) (by rfl) _ 0 (by rfl) _ _ ck.o Tryz.underlying23 (by rfl) AO ?_)
     |fail)
    go_roundw
    case rel=>exact⟨i+1,by omega,by go_num,HB.o,O.o,D.o,by rw[OF HX.o HQ.o];exact E.o,HR.o⟩
    case measure=>simp [intOf];omega
  ·have e1:¬(i:Int)<(n:Int):=by omega
   obtain rfl:n=i:=by omega
   have bB:=Xa es (Bv (its es) p n);have M:=Hg;rw[<-JV es (Bv (its es) p n)] at M;have cm:=JV es (Bv (its es) p n);obtain⟨cs,Z⟩:=Ak (entC es (Bv (its es) p n));rw[<-Z] at bB M cm bx;have cw:=I Z;have ca:=I bB;have F:=I M;have cy:=I cm;have HC:=I bx;clear bB M cm bx E hr J hp cf hi Z
   go_wp2_with (first
    |(refine Wh.Au (by rfl) 112 (.tmp 5) (by rfl) _ 0 (by rfl) cs _ (Wh.Ae HC.o) Tryz.underlying112 (by rfl) F.o ?_)
    |(refine Wh.Bo (by rfl) 112 (.tmp 4) (.tmp 23) (by rfl) (N+1) 112 _ D.o cs (by rfl) (by rfl) (by rw[cy.o];rfl) F.o ca.o ?_;rintro V2 cc hg;have ct:=I (AJ HB.o hg (by have:=aw.o;omega) (by omega));have cA:=I cc;clear cc hg)
    |fail)
   refine bodyPost_ret (v:=.agg cs) ?_ ?_ ?_
   ·exact Wh.AD (v:=.agg cs) 4 112 ⟨N+1,0,none⟩ Tryz.results37 (by rfl) (Wh.Al cA.o Tryz.underlying112 (by rfl) F.o)
   ·rfl
   ·exact⟨by rw[cw.o],by rw[<-cx.o];exact ct.o⟩
def BoxR (es:List Ent) (p:Pr) (z:Int) (q:Option Addr) (k:Int):Prop:=
 (∃i x,Cv (its es) p z=some i/\es[i]? = some x/\q=some ⟨x.b,0,none⟩/\k=0)\/(Cv (its es) p z=none/\q=none/\k=4)
theorem Uv (B r:Nat) (v:Value) (es:List Ent) (p:Pr) (z:Int) (w:World) (h:Ring w B r v es) (hl:es.length<=1000) :
  Calls Tryz.prog 59 #[.pointer (some ⟨r,0,none⟩),prV p,.int .i64 z] w fun e w'=>∃q k,e=.returned (.tuple #[.pointer q,.int .i64 k])/\BoxR es p z q k/\Below w.heap.size w w':=by
 obtain⟨A,c,rfl,hc,hm,hr⟩:=h.num;have bB:=h.blk;obtain⟨n,en⟩:=Ak (es.length);rw[<-en] at bB hc hl;have k0:=bB.c0;have cp:=bB.lt;have M:=I hr;clear hr;have EN:=I en;clear en h bB;obtain⟨W,eW⟩:=Ak (w.alloc (.cells #[.string ⟨p.1.toArray⟩,.string ⟨p.2.toArray⟩] 23));have E:Below w.heap.size w W:=eW▸Ah.alloc Ag _;have F:=I (show Blk W w.heap.size 23 #[.string ⟨p.1.toArray⟩,.string ⟨p.2.toArray⟩] from eW▸Blk.new w _ _);have Z:=I E;replace k0:W.cell? ⟨r,0,none⟩=some (.slice A n c):=(E.cell (p:=⟨r,0,none⟩) cp).trans k0;replace M:=I ((M.o.keep E));clear E;go_enter Tryz.func59,Tryz.ntmps59
 go_upto_region 1 with fail
 rw[<-eW];obtain⟨N,eN⟩:=Ak (w.heap.size);rw[<-eN] at F Z M cp⊢;have cn:=I eN;clear eW eN
 go_wp2
 go_loopw [17] (fun iv wr=>∃i:Nat,i<=n/\iv=.int .i64 (i:Int)/\Below N w wr/\Blk wr N 23 #[.string ⟨p.1.toArray⟩,.string ⟨p.2.toArray⟩]/\RdR wr N A eC 36 es/\(∀(j:Nat) (y:It),j<i->(its es)[j]? = some y->¬(y.p=p/\(y.n:Int)=z))) (fun iv _=>n - (intOf iv).toNat)
 case atStart=>exact⟨0,Nat.zero_le _,rfl,Z.o,F.o,M.o,fun j y hj=>absurd hj (Nat.not_lt_zero _)⟩
 case round=>
  clear Z F M k0;obtain⟨i,hi,rfl,E,hp,hr,cd⟩:=hrel;have Z:=I E;have F:=I hp;have bz:=I cd;have aw:=I hp.lt
  by_cases hlt:i<n
  ·have e1:(i:Int)<(n:Int):=by omega
   have e2:(0:Int)<=(i:Int):=by omega
   obtain⟨x,hx⟩:∃x,es[i]? = some x:=⟨es[i]'(by rw[<-EN.o];exact hlt),List.getElem?_eq_getElem _⟩;obtain⟨g,rfl,cq,cg⟩:=hr.at_ hx;have M:=I hr;rw[<-JU] at cg;have ca:=I cg;have cm:=Qc x;have cb:=I cm;have cf:=Hg;rw[<-CY x] at cf;have J:=I cf;have HX:=I hx;obtain⟨cs,cc⟩:=Ak (eA x);rw[<-cc] at ca cb J;have D:=I cc;clear cg cm cf hx hr E hp cc cd
   by_cases hq:x.it.p=p
   ·have t1:=AQ hq
    have HQ:=I hq;clear hq
    by_cases hz:(x.it.n:Int)=z
    ·have t2:((x.it.n:Int)==z)=true:=beq_iff_eq.2 hz
     have HZ:=I hz;clear hz
     go_wp2_with (first
      |(refine Wh.Au (by rfl) 112 (.tmp 19) (by rfl) g _ (by rfl) cs _ ca.o Tryz.underlying112 (by rfl) J.o ?_)
      |(refine Wh.By (by rfl) 112 (.tmp 9) (.tmp 20) (by rfl) 112 rfl cs (by rfl) (by rfl) (by rw[D.o,CY];rfl) J.o cb.o ?_;rintro V hV E;replace Z:=I (Z.o.trans (E.mono (by have:=aw.o;omega)));replace F:=I (F.o.below E);replace M:=I (M.o.keep (E.mono (by have:=aw.o;omega)));have ck:=F.c0;have cj:=F.c1;have bx:=I (Ut (D.o▸hV));have kn:=eA_n (D.o▸hV);have kb:=eA_b (D.o▸hV);clear hV E)
      |(refine Wh.Au (by rfl) 23 (.tmp 21) (by rfl) _ 0 (by rfl) _ _ bx.o Tryz.underlying23 (by rfl) AO ?_)
      |fail)
     go_ret2
     exact⟨_,_,rfl,.inl ⟨i,x,VI (KL HX.o) HQ.o HZ.o bz.o,HX.o,rfl,rfl⟩,by rw[<-cn.o];exact Z.o⟩
    ·have t2:((x.it.n:Int)==z)=false:=beq_eq_false_iff_ne.2 hz
     have HZ:=I hz;clear hz
     go_wp2_with (first
      |(refine Wh.Au (by rfl) 112 (.tmp 19) (by rfl) g _ (by rfl) cs _ ca.o Tryz.underlying112 (by rfl) J.o ?_)
      |(refine Wh.By (by rfl) 112 (.tmp 9) (.tmp 20) (by rfl) 112 rfl cs (by rfl) (by rfl) (by rw[D.o,CY];rfl) J.o cb.o ?_;rintro V hV E;replace Z:=I (Z.o.trans (E.mono (by have:=aw.o;omega)));replace F:=I (F.o.below E);replace M:=I (M.o.keep (E.mono (by have:=aw.o;omega)));have ck:=F.c0;have cj:=F.c1;have bx:=I (Ut (D.o▸hV));have kn:=eA_n (D.o▸hV);have kb:=eA_b (D.o▸hV);clear hV E)
      |(refine Wh.Au (by rfl) 23 (.tmp 21) (by rfl) _ 0 (by rfl) _ _ bx.o Tryz.underlying23 (by rfl) AO ?_)
      |fail)
     go_roundw
     case rel=>exact⟨i+1,by omega,by go_num,Z.o,F.o,M.o,fun j y hj O=>by
      by_cases g:j=i
      ·subst g
       rw[KL HX.o] at O;injection O with O;subst O;exact fun hh=>HZ.o hh.2
      ·exact bz.o j y (by omega) O⟩
     case measure=>simp [intOf];omega
   ·have t1:=Bd hq
    have HQ:=I hq;clear hq
    go_wp2_with (first
     |(refine Wh.Au (by rfl) 112 (.tmp 19) (by rfl) g _ (by rfl) cs _ ca.o Tryz.underlying112 (by rfl) J.o ?_)
     |(refine Wh.By (by rfl) 112 (.tmp 9) (.tmp 20) (by rfl) 112 rfl cs (by rfl) (by rfl) (by rw[D.o,CY];rfl) J.o cb.o ?_;rintro V hV E;replace Z:=I (Z.o.trans (E.mono (by have:=aw.o;omega)));replace F:=I (F.o.below E);replace M:=I (M.o.keep (E.mono (by have:=aw.o;omega)));have ck:=F.c0;have cj:=F.c1;have bx:=I (Ut (D.o▸hV));have kn:=eA_n (D.o▸hV);have kb:=eA_b (D.o▸hV);clear hV E)
     |(refine Wh.Au (by rfl) 23 (.tmp 21) (by rfl) _ 0 (by rfl) _ _ bx.o Tryz.underlying23 (by rfl) AO ?_)
     |fail)
    go_roundw
    case rel=>exact⟨i+1,by omega,by go_num,Z.o,F.o,M.o,fun j y hj O=>by
     by_cases g:j=i
     ·subst g
      rw[KL HX.o] at O;injection O with O;subst O;exact fun hh=>HQ.o hh.1
     ·exact bz.o j y (by omega) O⟩
    case measure=>simp [intOf];omega
  ·have e1:¬(i:Int)<(n:Int):=by omega
   obtain rfl:n=i:=by omega
   clear hr E hp hi cd
   go_wp2
   go_ret2
   exact⟨_,_,rfl,.inr ⟨Qv fun j y O=>bz.o j y (by rw[EN.o,<-Dh];exact(List.getElem?_eq_some_iff.1 O).1) O,rfl,rfl⟩,by rw[<-cn.o];exact Z.o⟩
theorem OG {B r:Nat} {v:Value} {es:List Ent} {p:Pr} {z:Int} {w:World} {i:Nat} {x:Ent} (h:Ring w B r v es) (O:es.length<=1000) (F:Cv (its es) p z=some i) (M:es[i]? = some x) :
  Calls Tryz.prog 59 #[.pointer (some ⟨r,0,none⟩),prV p,.int .i64 z] w fun e w'=>e=.returned (.tuple #[.pointer (some ⟨x.b,0,none⟩),.int .i64 0])/\Below w.heap.size w w':=by
 refine(Uv B r v es p z w h O).mono ?_;rintro e w' ⟨q,k,rfl,J,N⟩;rcases J with⟨j,y,D,E,rfl,rfl⟩ | ⟨D,_⟩
 ·rw[F] at D;injection D with D;subst D
  rw[M] at E;injection E with E;subst E;exact⟨rfl,N⟩
 ·rw[F] at D;cases D
theorem LI {B r:Nat} {v:Value} {es:List Ent} {p:Pr} {z:Int} {w:World} (h:Ring w B r v es) (M:es.length<=1000) (J:Cv (its es) p z=none) :
  Calls Tryz.prog 59 #[.pointer (some ⟨r,0,none⟩),prV p,.int .i64 z] w fun e w'=>e=.returned (.tuple #[.pointer none,.int .i64 4])/\Below w.heap.size w w':=by
 refine(Uv B r v es p z w h M).mono ?_;rintro e w' ⟨q,k,rfl,E,F⟩;rcases E with⟨j,y,D,_⟩ | ⟨D,rfl,rfl⟩
 ·rw[J] at D;cases D
 ·exact⟨rfl,F⟩
theorem Qd (B:Nat) (w:World) (hB:B<=w.heap.size):Calls Tryz.prog 15 #[] w fun e w'=>∃r,e=.returned (.pointer (some ⟨r,0,none⟩))/\w.heap.size<=r/\Ring w' B r (.slice none 0 0) []/\Below w.heap.size w w':=by
 have D:=(Below.refl w.heap.size w).alloc Ag (.cells #[.slice none 0 0] 110);have hk:=Blk.new w 110 #[.slice none 0 0];have E:=I D;clear D;have F:=I hk;clear hk;go_enter Tryz.func15,Tryz.ntmps15
 go_wp2
 go_ret;exact⟨_,rfl,Nat.le_refl _,⟨F.o,World.ownsRow_nil _ _ _ _,hB,by simp [Value.ownBlock],fun i e h=>by simp at h,fun i e h=>by simp at h,fun i j e f h=>by simp at h⟩,E.o⟩
theorem Ni {B r:Nat} {v:Value} {es:List Ent} {p:Pr} {w:World} {i:Nat} {x:Ent} (h:Ring w B r v es) (hl:es.length<=1000) (hf:BA (its es) p=some i) (hx:es[i]? = some x) :
  Calls Tryz.prog 105 #[.pointer (some ⟨r,0,none⟩),prV p] w fun e w'=>e=.returned (.tuple #[.pointer (some ⟨x.b,0,none⟩),.int .i64 (x.it.n:Int),.int .i64 0])/\Below w.heap.size w w':=by
 have F:=(Below.refl w.heap.size w).alloc Ag (.cells #[.string ⟨p.1.toArray⟩,.string ⟨p.2.toArray⟩] 23);have c1:=Jh B r v es p _ (h.below F) hl;rw[hf,Uu hx] at c1;have M:=I (Qc x);have O:=I (CY x);have D:=Hg;rw[<-CY x] at D;have N:=I D;obtain⟨cs,E⟩:=Ak (eA x);rw[<-E] at c1 M N O;have aw:=I E;have J:=I F;clear h hf hx F D E;go_enter Tryz.func105,Tryz.ntmps105
 go_wp2_with (first
  |(go_at_call 37;refine Aj c1 ?_;rintro w1 Z;replace J:=J.t Z;clear c1 Z)
  |(refine Wh.By (by rfl) 112 (.tmp 7) (.tmp 12) (by rfl) 112 rfl cs (by rfl) (by rfl) (by rw[O.o];rfl) N.o M.o ?_;rintro V hV F;replace J:=J.t F;have kn:=eA_n (aw.o▸hV);have kb:=eA_b (aw.o▸hV);clear hV F)
  |fail)
 go_quiet (fail)
 go_wp2
 go_ret3
 exact⟨rfl,below_drewN J.o _⟩
theorem KQ {B r:Nat} {v:Value} {es:List Ent} {p:Pr} {w:World} (h:Ring w B r v es) (hl:es.length<=1000) (hf:BA (its es) p=none) :
  Calls Tryz.prog 105 #[.pointer (some ⟨r,0,none⟩),prV p] w fun e w'=>e=.returned (.tuple #[.pointer none,.int .i64 0,.int .i64 4])/\Below w.heap.size w w':=by
 have J:=(Below.refl w.heap.size w).alloc Ag (.cells #[.string ⟨p.1.toArray⟩,.string ⟨p.2.toArray⟩] 23);have c1:=Jh B r v es p _ (h.below J) hl;rw[hf,show entC es none=DY from rfl] at c1;have N:=I Nh;have E:=I (show DY.size=36 from rfl);have D:=Hg;rw[<-E.o] at D;have O:=I D;obtain⟨cs,F⟩:=Ak (DY);rw[<-F] at c1 N O E;have aw:=I F;have M:=I J;clear h hf J D F;go_enter Tryz.func105,Tryz.ntmps105
 go_wp2_with (first
  |(go_at_call 37;refine Aj c1 ?_;rintro w1 Z;replace M:=M.t Z;clear c1 Z)
  |(refine Wh.By (by rfl) 112 (.tmp 7) (.tmp 12) (by rfl) 112 rfl cs (by rfl) (by rfl) (by rw[E.o];rfl) O.o N.o ?_;rintro V hV J;replace M:=M.t J;have kb:V.cell? ⟨w1.heap.size,35,none⟩=some (.pointer none):=by{rw[hV.cell,aw.o];rfl};clear hV J)
  |fail)
 go_ret3
 exact⟨rfl,M.o⟩
theorem Xb (p:Pr) (w:World) (h1:p.1.length<=1000000000) (h2:p.2.length<=1000000000):Calls Tryz.prog 38 #[prV p] w fun e w'=>e=.returned (prV p)/\Below w.heap.size w w':=by
 have C1:=I (fun w1=>Nm.Bm p.1 w1 h1);have C2:=I (fun w1=>Nm.Bm p.2 w1 h2);go_enter Tryz.func38,Tryz.ntmps38
 go_upto_region 1 with fail
 obtain⟨W,O⟩:=Ak ((w.alloc (.cells #[.string ⟨p.1.toArray⟩,.string ⟨p.2.toArray⟩] 23)).alloc (.cells #[.string ⟨#[]⟩,.string ⟨#[]⟩] 23));have Z:=Blk.new (w.alloc (.cells #[.string ⟨p.1.toArray⟩,.string ⟨p.2.toArray⟩] 23)) 23 #[.string ⟨#[]⟩,.string ⟨#[]⟩];rw[show(w.alloc (.cells #[.string ⟨p.1.toArray⟩,.string ⟨p.2.toArray⟩] 23)).heap.size=w.heap.size+1 by simp,<-O] at Z;have E:=I (show Blk W w.heap.size 23 #[.string ⟨p.1.toArray⟩,.string ⟨p.2.toArray⟩] by rw[O];exact(Blk.new _ _ _).alloc _);have D:=I Z;have J:=I (show Below w.heap.size w W by rw[O];exact(Ah.alloc Ag _).alloc (by simp) _);rw[<-O];clear O Z;replace E:=I (show Blk W.drew _ _ _ from E.o.drewN 1);replace D:=I (show Blk W.drew _ _ _ from D.o.drewN 1);replace J:=I (show Below _ _ W.drew from below_drewN J.o 1)
 go_region_held3 (fun w'=>w'.cell? ⟨w.heap.size,0,none⟩=some (.string ⟨p.1.toArray⟩)/\w'.cell? ⟨w.heap.size,1,none⟩=some (.string ⟨p.2.toArray⟩)) (first | exact⟨E.o.cell 0,E.o.cell 1⟩ | exact⟨(Si.Blk.far (Si.Blk.far E.o _ _ (by simp)) _ _ (by simp)).cell 0,(Si.Blk.far (Si.Blk.far E.o _ _ (by simp)) _ _ (by simp)).cell 1⟩) ((first
  |(go_at_call 42;(with_reducible refine Calls.mono (C1.o _) ?_);rintro e w1 ⟨rfl,F⟩;clear C1;replace E:=I (E.o.below F);replace D:=I (D.o.below F);replace J:=J.t F;have M:=D.c0;have N:=D.c1;have fz:=D.o.frozen;clear F)
  |(go_at_call 42;(with_reducible refine Calls.mono (C2.o _) ?_);rintro e w2 ⟨rfl,F⟩;clear C2 M N fz;replace E:=I (E.o.below F);replace D:=I (D.o.below F);replace J:=J.t F;have M:=D.c0;have N:=D.c1;have fz:=D.o.frozen;clear F)))
 go_wp2
 have hz:=(D.o.set 0 (.string ⟨p.1.toArray⟩)).set 1 (.string ⟨p.2.toArray⟩);rw[show(((#[.string ⟨#[]⟩,.string ⟨#[]⟩]:Array Value).setIfInBounds 0 (.string ⟨p.1.toArray⟩)).setIfInBounds 1 (.string ⟨p.2.toArray⟩))=#[.string ⟨p.1.toArray⟩,.string ⟨p.2.toArray⟩] from rfl] at hz;refine bodyPost_ret (v:=prV p) ?_ ?_ ?_
 ·exact Wh.AD (v:=prV p) 2 23 ⟨w.heap.size+1,0,none⟩ Tryz.results38 (by rfl) (Wh.Al hz Tryz.underlying23 (by rfl) AO)
 ·rfl
 ·exact⟨rfl,Si.Az (Si.Az J.o (by simp) _) (by simp) _⟩
def kC (k:Nat->UInt8):List Value:=(AY k).toList
def OwnK (w:World) (base:Nat) (v:Value) (K:List (Nat->UInt8)):Prop:=w.ownsRow base 36 32 v K.length (K.flatMap kC)
theorem OH (p:Pr) (w:World) (D:p.1.length<=1000000000) (E:p.2.length<=1000000000):Calls Tryz.prog 36 #[prV p] w fun e w'=>e=.returned (.bool (prB p))/\Below w.heap.size w w':=Nm.AV p.1 p.2 w D E
theorem Qe (es:List Ent) (o:Option Nat):(entC es o)[2]? = some (.int .i64 (numO (its es) o:Int)):=by
 cases o with
 |none=>rfl
 |some j=>
  rw[Ng];cases h:es[j]? with
  |none=>simp [numO,its,h];rfl
  |some e=>
   have:numO (its es) (some j)=e.it.n:=by simp [numO,its,h]
   rw[this];rfl
theorem Nj (cs:Array Value) (z:Int) (h:cs[2]? = some (.int .i64 z)) (w:World):(Instr.field 112 (.agg cs) 1).run Tryz.prog w=.ok (.int .i64 z) w:=by
 unfold Instr.field part asAgg
 go_simp
theorem OI {w w':World} {row:Option Nat} (h:w.grownBy w' row):Chg (fun q=>row=some q) w w':=⟨h.os,h.tape,h.output,h.size,fun i hi D=>h.block i hi (fun e=>D e.symm)⟩
theorem LJ {w J F:World} {B r b:Nat} {v v6:Value} {es:List Ent} {it:It} (h:Ring w B r v es) (hB:B<=w.heap.size) (hb:Below w.heap.size w J) (Z:Ring J B r v es) (hx:Box J b it.k none 0 0 0) (M:w.heap.size<=b)
  (ho:F.ownsRow B 112 36 v6 (es++[(⟨it,b,none,0,0,0⟩:Ent)]).length ((es++[(⟨it,b,none,0,0,0⟩:Ent)]).flatMap eC)) (hg:J.grownBy F v.ownBlock) (hv:v6.ownBlock=v.ownBlock\/v6.ownBlock=some J.heap.size) (bx:True) :
  Ring (F.setCell ⟨r,0,none⟩ v6) B r v6 (es++[⟨it,b,none,0,0,0⟩])/\Chg (fun q=>q=r\/v.ownBlock=some q) w (F.setCell ⟨r,0,none⟩ v6)/\(∀q,RO r v6 (es++[⟨it,b,none,0,0,0⟩]) q->RO r v es q\/w.heap.size<=q):=by
 have bB:=h.lt;have bz:=hx.lt;have O:r≠b:=by omega
 have aw:v6.ownBlock≠some r:=fun x=>by
  rcases hv with g | g
  ·rw[g] at x;exact h.vr x
  ·rw[g] at x;injection x with x;have:=Z.lt;omega
 have E:Chg (fun q=>q=r) F (F.setCell ⟨r,0,none⟩ v6):=Chg.set (p:=⟨r,0,none⟩) (Chg.refl (fun q=>q=r) F) (.inl rfl) v6;have hc:Chg (fun q=>q=r\/v.ownBlock=some q) w (F.setCell ⟨r,0,none⟩ v6):=
  (((Chg.of_below hb).trans (OI hg) (fun q _ x=>.inr x)).trans E (fun q _ x=>.inl x):Chg (fun q=>q=r\/v.ownBlock=some q) w _)
 have N:∀q,RO r v6 (es++[⟨it,b,none,0,0,0⟩]) q->RO r v es q\/w.heap.size<=q:=fun q D=>by
  rcases D with D | D | ⟨i,e,he,D⟩
  ·exact .inl (.inl D)
  ·rcases hv with g | g
   ·exact .inl (.inr (.inl (g▸D)))
   ·rw[g] at D;injection D with D;exact .inr (by have:=hb.size;omega)
  ·by_cases hi:i<es.length
   ·rw[List.getElem?_append_left hi] at he
    exact .inl (.inr (.inr ⟨i,e,he,D⟩))
   ·rw[List.getElem?_append_right (by omega)] at he
    have e1:=(List.getElem?_eq_some_iff.1 he).1;have e2:i - es.length=0:=by simp at e1;omega
    rw[e2] at he;injection he with he;subst he;rcases D with D | D
    ·exact .inr (by rw[D];exact M)
    ·cases D
 refine⟨h.snoc hc ?_ ?_ ?_ ?_ M rfl hB,hc,N⟩
 ·exact(Z.blk.grown hg Z.vr).set 0 v6
 ·have:=JT E ho (fun q D x=>aw (x▸D))
  rw[List.length_append,List.length_singleton,List.flatMap_append,List.flatMap_singleton] at this;exact this
 ·rcases hv with g | g
  ·exact .inl g
  ·exact .inr ⟨_,g,hb.size,by show J.heap.size≠b;omega⟩
 ·have h6:Box F b it.k none 0 0 0:=hx.chg (OI hg) (fun q D x=>by
   rcases D with D | D
   ·subst D;have:=(World.ownsRow.lt h.row q x).2;omega
   ·cases D)
  exact h6.chg E (fun q D x=>by
   rcases D with D | D
   ·exact O (x▸D)
   ·cases D)
theorem au:(Tryz.prog.info? 112).map (fun i=>(i.zero,i.size,i.bytes))=some (some (.agg DY),36,80):=by kernel_rfl
section
variable {P:Program} {w w':World} {a:Act} {dst:Option Tmp} {ty:TypeId} {pos:String} {after:Array _} {guard:Option (Nat×Bool)}
theorem AP {t:TypeId} {parts:Array (Nat×Operand)} {D:List (Nat×Value)} {cells:Array Value} (E:(parts.map fun x=>(x.1,a.eval x.2)).toList=D) (h:P.built t D=some cells) :
  (execOp a.eval ⟨dst,.build t parts,ty,pos,after,guard⟩).run P w=.ok (.value (.agg cells)) w:=by
 have:=run_build (P:=P) w t (parts.map fun x=>(x.1,a.eval x.2)) cells (by rw[E];exact h);simp only[execOp,Sem.run_bind,this,Result.andThen_ok,Sem.run_pure]
theorem DC {t:TypeId} {x:Operand} {cs:Array Value} {s:Value} (D:a.eval x=.agg cs) (h:(Instr.buildSlice t 1 #[(0,.agg cs)]).run P w=.ok s w') :
  (execOp a.eval ⟨dst,.buildSlice t 1 #[(0,x)],ty,pos,after,guard⟩).run P w=.ok (.value s) w':=by
 simp only[execOp,Sem.run_bind,List.map_toArray,List.map_cons,List.map_nil,D,h,Result.andThen_ok,Sem.run_pure]
theorem FY {t:TypeId} {x y:Operand} {u v s:Value} (D:a.eval x=u) (E:a.eval y=v) (h:(Builtin.append_ #[t,t] ty #[u,v]).run P w=.ok s w') :
  (execOp a.eval ⟨dst,.call {callee:=.builtin .append,args:=#[x,y],argTypes:=#[t,t]},ty,pos,after,guard⟩).run P w=.ok (.value s) w':=by
 simp only[execOp,resolve,invoke,builtin,Sem.run_bind,Sem.run_pure,Result.andThen_ok,List.map_toArray,List.map_cons,List.map_nil,D,E,h]
end
theorem JW (p:Pr) (n b:Nat) (k:Nat->UInt8):Tryz.prog.built 112 [(0,prV p),(1,.int .i64 (n:Int)),(2,.agg (AY k)),(3,.pointer (some ⟨b,0,none⟩))]=some (eA ⟨⟨p,n,k⟩,b,none,0,0,0⟩):=by
 kernel_rfl
theorem dr (B r:Nat) (v:Value) (es:List Ent) (p:Pr) (k:Nat->UInt8) (w:World) (h:Ring w B r v es) (hB:B<=w.heap.size) (h1:p.1.length<=1000000000) (h2:p.2.length<=1000000000) (hp:prB p=true) (hl:es.length<40) (hn:BH (its es) p<255) :
  Calls Tryz.prog 16 #[.pointer (some ⟨r,0,none⟩),prV p,.agg (AY k)] w fun e w'=>e=.returned (.tuple #[.int .i64 ((BH (its es) p:Int)+1),.int .i64 0])/\∃v' b,w.heap.size<=b/\Ring w' B r v' (es++[⟨⟨p,BH (its es) p+1,k⟩,b,none,0,0,0⟩])/\Chg (fun q=>q=r\/v.ownBlock=some q) w w'/\(∀q,RO r v' (es++[⟨⟨p,BH (its es) p+1,k⟩,b,none,0,0,0⟩]) q->RO r v es q\/w.heap.size<=q):=by
 obtain⟨A,c,rfl,hc,hm,hr⟩:=h.num;obtain⟨n,en⟩:=Ak (es.length);have EN:=I en;obtain⟨z,ez⟩:=Ak (BH (its es) p);have EZ:=I ez;have hq:=Qe es (BA (its es) p);rw[show numO (its es) (BA (its es) p)=z from ez.symm] at hq;have CL:=I (fun(w1:World) (h:Ring w1 B r (.slice A es.length c) es)=>Jh B r (.slice A es.length c) es p w1 h (by omega));have CP:=I (fun w1=>OH p w1 h1 h2);have CC:=I (fun w1=>Xb p w1 h1 h2);have CN:=I (fun w1=>Lw k w1);rw[hp] at CP;obtain⟨kv,cy⟩:=Ak (AY k);obtain⟨cs,cQ⟩:=Ak (entC es (BA (its es) p));rw[<-cQ] at CL hq;rw[<-cy] at CN⊢;rw[<-ez] at hn⊢;rw[<-en] at hl;have ef:=h.lt;obtain⟨W,eW⟩:=Ak ((w.alloc (.cells #[.string ⟨p.1.toArray⟩,.string ⟨p.2.toArray⟩] 23)).alloc (.cells kv 36));have F:Below w.heap.size w W:=eW▸(Ah.alloc Ag _).alloc (by simp) _;have E:=I (show Blk W w.heap.size 23 #[.string ⟨p.1.toArray⟩,.string ⟨p.2.toArray⟩] from eW▸(Blk.new w _ _).alloc _);have J:=I (show Blk W (w.heap.size+1) 36 kv by have:=Blk.new (w.alloc (.cells #[.string ⟨p.1.toArray⟩,.string ⟨p.2.toArray⟩] 23)) 36 kv;simp only[World.size_alloc] at this;exact eW▸this);have Z:=I F;have D:=I (h.below F);have HW:=I h;have ct:=E.c0;have cq:=E.c1;have ec:=Nj cs _ hq;have ed:IntKind.i64.wrap ((z:Int)+1)=(z:Int)+1:=by rw[IntKind.wrap_i64];omega
 have EK:=I cy;have cR:=I (show(Tryz.prog.info? 36).map (·.size)=some kv.size by rw[cy];exact Gm k);obtain⟨i0,cB,cL,cA,ea⟩:=info_parts au;have cu:=I cB;have cx:=I cL;have cp:=I cA;have cw:=I ea;have cr:=I (fun(w1:World) (b:Nat)=>Wh.Hf (P:=Tryz.prog) w1 108 112 (eA ⟨⟨p,z+1,k⟩,b,none,0,0,0⟩) i0 _ Tryz.underlying108 cB cL (by rw[cA,CY]) (by rw[CY];omega) (by rw[CY];omega));have cj:=I hB;clear cB cL cA ea hB;have HN:=I hn;have t1:decide (40<=(n:Int))=false:=by simp;omega
 have t2:decide (255<=(z:Int))=false:=by simp;omega
 have HL:=I hl;clear F h hr h1 h2 hp hn hl cy cQ ez en hc hm hq;go_enter Tryz.func16,Tryz.ntmps16
 go_upto_region 1 with fail
 rw[<-eW];clear eW
 go_wp2_with (first
  |(go_at_call 36;refine Aj (CP.o _) ?_;rintro w1 F;replace Z:=Z.t F;replace D:=I (D.o.below F);replace E:=I (E.o.below F);replace J:=I (J.o.below F);have ct:=E.c0;have cq:=E.c1;have kr:w1.cell? ⟨r,0,none⟩=some (.slice A n c):=EN.o▸D.o.blk.cell 0;clear F)
  |(go_at_call 37;refine Aj (CL.o _ D.o) ?_;rintro w2 F;clear ct cq kr;replace Z:=Z.t F;replace D:=I (D.o.below F);replace E:=I (E.o.below F);replace J:=I (J.o.below F);have ct:=E.c0;have cq:=E.c1;have kr:w2.cell? ⟨r,0,none⟩=some (.slice A n c):=EN.o▸D.o.blk.cell 0;clear F)
  |fail)
 replace E:=I (show Blk w2.drew _ _ _ from E.o.drewN 1);replace J:=I (show Blk w2.drew _ _ _ from J.o.drewN 1);replace D:=I D.o.drew;replace Z:=I (show Below w.heap.size w w2.drew from below_drewN Z.o 1);clear ct cq kr;refine Reg.AR (fun w'=>Blk w' w.heap.size 23 #[.string ⟨p.1.toArray⟩,.string ⟨p.2.toArray⟩]/\Blk w' (w.heap.size+1) 36 kv) 18 rfl (by kernel_rfl) ⟨E.o,J.o⟩ ?_;obtain⟨W2,eb⟩:=Ak (w2.drew);rw[<-eb] at E J D Z⊢;clear eb;refine Reg.ty 0 rfl ⟨E.o,J.o⟩ ?_;refine Reg.ty 1 rfl ⟨E.o,J.o⟩ ?_;refine Reg.ty 2 rfl ⟨E.o,J.o⟩ ?_;refine Reg.ty 3 rfl ⟨E.o,J.o⟩ ?_;refine Reg.tw 5 (v:=.agg #[.string ⟨p.1.toArray⟩,.string ⟨p.2.toArray⟩]) rfl ⟨E.o,J.o⟩ (fun w' hS=>by exact Wh.Ar (.tmp 4) rfl rfl hS.1 Tryz.underlying23 rfl AO) ?_;refine Reg.ty 7 rfl ⟨E.o,J.o⟩ ?_;refine Reg.tw 8 (v:=.int .i64 ((z:Int)+1)) rfl ⟨E.o,J.o⟩ (fun w' hS=>by go_simp) ?_;refine Reg.tw 9 (v:=.agg kv) rfl ⟨E.o,J.o⟩ (fun w' hS=>by exact Wh.Ar (.tmp 5) rfl rfl hS.2 Tryz.underlying36 rfl cR.o) ?_;refine Reg.tw 10 (v:=.agg kv) rfl ⟨E.o,J.o⟩ (fun w' hS=>by exact Wh.Ar (.tmp 5) rfl rfl hS.2 Tryz.underlying36 rfl cR.o) ?_;refine Reg.b2 4 6 ?_ ?_
 ·left
  have kr:W2.cell? ⟨r,0,none⟩=some (.slice A n c):=EN.o▸D.o.blk.cell 0;refine⟨_,_,_,_,_,_,_,_,rfl,by rfl,by(go_simp;rfl),⟨E.o,J.o⟩,?_⟩;simp only[Act.put,U,Aa,Ab];clear kr;refine Reg.b1 6 ?_
  right
  refine⟨_,_,_,_,_,_,38,#[prV p],rfl,by rfl,by go_simp,?_⟩;refine(CC.o _).mono ?_;rintro e w3 ⟨rfl,F⟩;replace Z:=Z.t F;replace D:=I (D.o.below F);replace E:=I (E.o.below F);replace J:=I (J.o.below F);clear F;refine⟨_,rfl,⟨E.o,J.o⟩,?_⟩;simp only[Act.put,U,Aa,Ab];refine Reg.b1 11 ?_
  right
  refine⟨_,_,_,_,_,_,28,#[.agg kv],rfl,by rfl,by go_simp,?_⟩;refine(CN.o _).mono ?_;rintro e w4 ⟨b,rfl,cm,ck,F⟩;have cf:=I (Nat.le_trans Z.o.size cm);replace Z:=Z.t F;replace D:=I (D.o.below F);replace E:=I (E.o.below F);replace J:=I (J.o.below F);have cg:=I ck;clear F cm ck;refine⟨_,rfl,⟨E.o,J.o⟩,?_⟩;simp only[Act.put,U,Aa,Ab];refine Reg.tw 12 (v:=.agg (eA ⟨⟨p,z+1,k⟩,b,none,0,0,0⟩)) rfl ⟨E.o,J.o⟩ (fun w' hS=>by exact AP (by go_simp) (EK.o▸JW p (z+1) b k)) ?_;refine Reg.b1 13 ?_
  left
  have F:Below w4.heap.size w4 (w4.alloc (.cells (eA ⟨⟨p,z+1,k⟩,b,none,0,0,0⟩) 112)):=Ah.alloc Ag _;refine⟨_,_,_,_,_,_,.slice (some ⟨w4.heap.size,0,none⟩) 1 1,(w4.alloc (.cells (eA ⟨⟨p,z+1,k⟩,b,none,0,0,0⟩) 112)),rfl,by rfl,DC rfl (cr.o _ _),⟨E.o.below F,J.o.below F⟩,?_⟩;simp only[Act.put,U,Aa,Ab];have cc:=I (Blk.new w4 112 (eA ⟨⟨p,z+1,k⟩,b,none,0,0,0⟩));have aw:=I (cg.o.below F);have cn:=I cg.o.lt;replace Z:=Z.t F;replace D:=I (D.o.below F);replace E:=I (E.o.below F);replace J:=I (J.o.below F);clear F;obtain⟨W5,bB⟩:=Ak ((w4.alloc (.cells (eA ⟨⟨p,z+1,k⟩,b,none,0,0,0⟩) 112)));have cP:=I (show w4.heap.size<W5.heap.size by rw[bB];simp);rw[<-bB] at cc aw Z D E J⊢;clear bB;refine Reg.b1 14 ?_
  left
  obtain⟨v6,w6,N,bz,O,cb⟩:=Wh.Ii (P:=Tryz.prog) eC 36 80 Cq Nf W5 108 108 112 i0 _ Tryz.underlying108 cu.o cx.o cp.o cw.o (by rfl) (by omega) B _ es D.o.row ⟨⟨p,z+1,k⟩,b,none,0,0,0⟩ w4.heap.size cc.o (by have:=EN.o;have:=HL.o;omega) (by omega) (Nat.le_trans cj.o Z.o.size);rw[<-EN.o] at N;replace E:=I (E.o.grown O (fun x=>by have:=(World.ownsRow.lt HW.o.row _ x).2;omega));replace J:=I (J.o.grown O (fun x=>by have:=(World.ownsRow.lt HW.o.row _ x).2;omega));refine⟨_,_,_,_,_,_,v6,w6,rfl,by rfl,FY rfl rfl N,⟨E.o,J.o⟩,?_⟩;simp only[Act.put,U,Aa,Ab];refine Reg.ty 15 rfl ⟨E.o,J.o⟩ ?_;refine Reg.ty 16 rfl ⟨E.o,J.o⟩ ?_;have bx:=fun(x:True)=>LJ HW.o cj.o Z.o D.o (it:=⟨p,z+1,k⟩) aw.o cf.o bz O cb x
  have ca:=D.o.blk.grown O D.o.vr;obtain⟨A7,c7,e7,_⟩:=FC Cq bz;obtain⟨m7,cd⟩:=Ak ((es++[(⟨⟨p,z+1,k⟩,b,none,0,0,0⟩:Ent)]).length);rw[<-cd] at e7;subst e7;have f0:=ca.frozen 0;have k6:=ca.c0;refine Reg.Bq 17 (w6.setCell ⟨r,0,none⟩ (.slice A7 m7 c7)) rfl (by kernel_rfl) (by rfl) (by go_simp) ⟨Si.Blk.far E.o _ _ (by simp;have:=HW.o.lt;omega),Si.Blk.far J.o _ _ (by simp;have:=HW.o.lt;omega)⟩ ?_;simp only[Act.put,U,Aa,Ab];refine wpAnyH_done (by kernel_rfl) ?_ _;clear f0 k6 ca bz O cb N cd;have M:=I (bx trivial);clear bx
  go_wp2
  go_ret2
  exact⟨rfl,_,b,cf.o,M.o.1,M.o.2.1,M.o.2.2⟩
 ·right
  refine⟨_,_,_,_,_,_,38,#[prV p],rfl,by rfl,by go_simp,?_⟩;refine(CC.o _).mono ?_;rintro e w3 ⟨rfl,F⟩;replace Z:=Z.t F;replace D:=I (D.o.below F);replace E:=I (E.o.below F);replace J:=I (J.o.below F);clear F;refine⟨_,rfl,⟨E.o,J.o⟩,?_⟩;simp only[Act.put,U,Aa,Ab];refine Reg.b2 4 11 ?_ ?_
  ·left
   have kr:w3.cell? ⟨r,0,none⟩=some (.slice A n c):=EN.o▸D.o.blk.cell 0;refine⟨_,_,_,_,_,_,_,_,rfl,by rfl,by(go_simp;rfl),⟨E.o,J.o⟩,?_⟩;simp only[Act.put,U,Aa,Ab];clear kr;refine Reg.b1 11 ?_
   right
   refine⟨_,_,_,_,_,_,28,#[.agg kv],rfl,by rfl,by go_simp,?_⟩;refine(CN.o _).mono ?_;rintro e w4 ⟨b,rfl,cm,ck,F⟩;have cf:=I (Nat.le_trans Z.o.size cm);replace Z:=Z.t F;replace D:=I (D.o.below F);replace E:=I (E.o.below F);replace J:=I (J.o.below F);have cg:=I ck;clear F cm ck;refine⟨_,rfl,⟨E.o,J.o⟩,?_⟩;simp only[Act.put,U,Aa,Ab];refine Reg.tw 12 (v:=.agg (eA ⟨⟨p,z+1,k⟩,b,none,0,0,0⟩)) rfl ⟨E.o,J.o⟩ (fun w' hS=>by exact AP (by go_simp) (EK.o▸JW p (z+1) b k)) ?_;refine Reg.b1 13 ?_
   left
   have F:Below w4.heap.size w4 (w4.alloc (.cells (eA ⟨⟨p,z+1,k⟩,b,none,0,0,0⟩) 112)):=Ah.alloc Ag _;refine⟨_,_,_,_,_,_,.slice (some ⟨w4.heap.size,0,none⟩) 1 1,(w4.alloc (.cells (eA ⟨⟨p,z+1,k⟩,b,none,0,0,0⟩) 112)),rfl,by rfl,DC rfl (cr.o _ _),⟨E.o.below F,J.o.below F⟩,?_⟩;simp only[Act.put,U,Aa,Ab];have cc:=I (Blk.new w4 112 (eA ⟨⟨p,z+1,k⟩,b,none,0,0,0⟩));have aw:=I (cg.o.below F);have cn:=I cg.o.lt;replace Z:=Z.t F;replace D:=I (D.o.below F);replace E:=I (E.o.below F);replace J:=I (J.o.below F);clear F;obtain⟨W5,bB⟩:=Ak ((w4.alloc (.cells (eA ⟨⟨p,z+1,k⟩,b,none,0,0,0⟩) 112)));have cP:=I (show w4.heap.size<W5.heap.size by rw[bB];simp);rw[<-bB] at cc aw Z D E J⊢;clear bB;refine Reg.b1 14 ?_
   left
   obtain⟨v6,w6,N,bz,O,cb⟩:=Wh.Ii (P:=Tryz.prog) eC 36 80 Cq Nf W5 108 108 112 i0 _ Tryz.underlying108 cu.o cx.o cp.o cw.o (by rfl) (by omega) B _ es D.o.row ⟨⟨p,z+1,k⟩,b,none,0,0,0⟩ w4.heap.size cc.o (by have:=EN.o;have:=HL.o;omega) (by omega) (Nat.le_trans cj.o Z.o.size);rw[<-EN.o] at N;replace E:=I (E.o.grown O (fun x=>by have:=(World.ownsRow.lt HW.o.row _ x).2;omega));replace J:=I (J.o.grown O (fun x=>by have:=(World.ownsRow.lt HW.o.row _ x).2;omega));refine⟨_,_,_,_,_,_,v6,w6,rfl,by rfl,FY rfl rfl N,⟨E.o,J.o⟩,?_⟩;simp only[Act.put,U,Aa,Ab];refine Reg.ty 15 rfl ⟨E.o,J.o⟩ ?_;refine Reg.ty 16 rfl ⟨E.o,J.o⟩ ?_;have bx:=fun(x:True)=>LJ HW.o cj.o Z.o D.o (it:=⟨p,z+1,k⟩) aw.o cf.o bz O cb x
   have ca:=D.o.blk.grown O D.o.vr;obtain⟨A7,c7,e7,_⟩:=FC Cq bz;obtain⟨m7,cd⟩:=Ak ((es++[(⟨⟨p,z+1,k⟩,b,none,0,0,0⟩:Ent)]).length);rw[<-cd] at e7;subst e7;have f0:=ca.frozen 0;have k6:=ca.c0;refine Reg.Bq 17 (w6.setCell ⟨r,0,none⟩ (.slice A7 m7 c7)) rfl (by kernel_rfl) (by rfl) (by go_simp) ⟨Si.Blk.far E.o _ _ (by simp;have:=HW.o.lt;omega),Si.Blk.far J.o _ _ (by simp;have:=HW.o.lt;omega)⟩ ?_;simp only[Act.put,U,Aa,Ab];refine wpAnyH_done (by kernel_rfl) ?_ _;clear f0 k6 ca bz O cb N cd;have M:=I (bx trivial);clear bx
   go_wp2
   go_ret2
   exact⟨rfl,_,b,cf.o,M.o.1,M.o.2.1,M.o.2.2⟩
  ·right
   refine⟨_,_,_,_,_,_,28,#[.agg kv],rfl,by rfl,by go_simp,?_⟩;refine(CN.o _).mono ?_;rintro e w4 ⟨b,rfl,cm,ck,F⟩;have cf:=I (Nat.le_trans Z.o.size cm);replace Z:=Z.t F;replace D:=I (D.o.below F);replace E:=I (E.o.below F);replace J:=I (J.o.below F);have cg:=I ck;clear F cm ck;refine⟨_,rfl,⟨E.o,J.o⟩,?_⟩;simp only[Act.put,U,Aa,Ab];refine Reg.tw 12 (v:=.agg (eA ⟨⟨p,z+1,k⟩,b,none,0,0,0⟩)) rfl ⟨E.o,J.o⟩ (fun w' hS=>by exact AP (by go_simp) (EK.o▸JW p (z+1) b k)) ?_;refine Reg.b2 4 13 ?_ ?_
   ·left
    have kr:w4.cell? ⟨r,0,none⟩=some (.slice A n c):=EN.o▸D.o.blk.cell 0;refine⟨_,_,_,_,_,_,_,_,rfl,by rfl,by(go_simp;rfl),⟨E.o,J.o⟩,?_⟩;simp only[Act.put,U,Aa,Ab];clear kr;refine Reg.b1 13 ?_
    left
    have F:Below w4.heap.size w4 (w4.alloc (.cells (eA ⟨⟨p,z+1,k⟩,b,none,0,0,0⟩) 112)):=Ah.alloc Ag _;refine⟨_,_,_,_,_,_,.slice (some ⟨w4.heap.size,0,none⟩) 1 1,(w4.alloc (.cells (eA ⟨⟨p,z+1,k⟩,b,none,0,0,0⟩) 112)),rfl,by rfl,DC rfl (cr.o _ _),⟨E.o.below F,J.o.below F⟩,?_⟩;simp only[Act.put,U,Aa,Ab];have cc:=I (Blk.new w4 112 (eA ⟨⟨p,z+1,k⟩,b,none,0,0,0⟩));have aw:=I (cg.o.below F);have cn:=I cg.o.lt;replace Z:=Z.t F;replace D:=I (D.o.below F);replace E:=I (E.o.below F);replace J:=I (J.o.below F);clear F;obtain⟨W5,bB⟩:=Ak ((w4.alloc (.cells (eA ⟨⟨p,z+1,k⟩,b,none,0,0,0⟩) 112)));have cP:=I (show w4.heap.size<W5.heap.size by rw[bB];simp);rw[<-bB] at cc aw Z D E J⊢;clear bB;refine Reg.b1 14 ?_
    left
    obtain⟨v6,w6,N,bz,O,cb⟩:=Wh.Ii (P:=Tryz.prog) eC 36 80 Cq Nf W5 108 108 112 i0 _ Tryz.underlying108 cu.o cx.o cp.o cw.o (by rfl) (by omega) B _ es D.o.row ⟨⟨p,z+1,k⟩,b,none,0,0,0⟩ w4.heap.size cc.o (by have:=EN.o;have:=HL.o;omega) (by omega) (Nat.le_trans cj.o Z.o.size);rw[<-EN.o] at N;replace E:=I (E.o.grown O (fun x=>by have:=(World.ownsRow.lt HW.o.row _ x).2;omega));replace J:=I (J.o.grown O (fun x=>by have:=(World.ownsRow.lt HW.o.row _ x).2;omega));refine⟨_,_,_,_,_,_,v6,w6,rfl,by rfl,FY rfl rfl N,⟨E.o,J.o⟩,?_⟩;simp only[Act.put,U,Aa,Ab];refine Reg.ty 15 rfl ⟨E.o,J.o⟩ ?_;refine Reg.ty 16 rfl ⟨E.o,J.o⟩ ?_;have bx:=fun(x:True)=>LJ HW.o cj.o Z.o D.o (it:=⟨p,z+1,k⟩) aw.o cf.o bz O cb x
    have ca:=D.o.blk.grown O D.o.vr;obtain⟨A7,c7,e7,_⟩:=FC Cq bz;obtain⟨m7,cd⟩:=Ak ((es++[(⟨⟨p,z+1,k⟩,b,none,0,0,0⟩:Ent)]).length);rw[<-cd] at e7;subst e7;have f0:=ca.frozen 0;have k6:=ca.c0;refine Reg.Bq 17 (w6.setCell ⟨r,0,none⟩ (.slice A7 m7 c7)) rfl (by kernel_rfl) (by rfl) (by go_simp) ⟨Si.Blk.far E.o _ _ (by simp;have:=HW.o.lt;omega),Si.Blk.far J.o _ _ (by simp;have:=HW.o.lt;omega)⟩ ?_;simp only[Act.put,U,Aa,Ab];refine wpAnyH_done (by kernel_rfl) ?_ _;clear f0 k6 ca bz O cb N cd;have M:=I (bx trivial);clear bx
    go_wp2
    go_ret2
    exact⟨rfl,_,b,cf.o,M.o.1,M.o.2.1,M.o.2.2⟩
   ·left
    have F:Below w4.heap.size w4 (w4.alloc (.cells (eA ⟨⟨p,z+1,k⟩,b,none,0,0,0⟩) 112)):=Ah.alloc Ag _;refine⟨_,_,_,_,_,_,.slice (some ⟨w4.heap.size,0,none⟩) 1 1,(w4.alloc (.cells (eA ⟨⟨p,z+1,k⟩,b,none,0,0,0⟩) 112)),rfl,by rfl,DC rfl (cr.o _ _),⟨E.o.below F,J.o.below F⟩,?_⟩;simp only[Act.put,U,Aa,Ab];have cc:=I (Blk.new w4 112 (eA ⟨⟨p,z+1,k⟩,b,none,0,0,0⟩));have aw:=I (cg.o.below F);have cn:=I cg.o.lt;replace Z:=Z.t F;replace D:=I (D.o.below F);replace E:=I (E.o.below F);replace J:=I (J.o.below F);clear F;obtain⟨W5,bB⟩:=Ak ((w4.alloc (.cells (eA ⟨⟨p,z+1,k⟩,b,none,0,0,0⟩) 112)));have cP:=I (show w4.heap.size<W5.heap.size by rw[bB];simp);rw[<-bB] at cc aw Z D E J⊢;clear bB;refine Reg.b1 4 ?_
    left
    have kr:W5.cell? ⟨r,0,none⟩=some (.slice A n c):=EN.o▸D.o.blk.cell 0;refine⟨_,_,_,_,_,_,_,_,rfl,by rfl,by(go_simp;rfl),⟨E.o,J.o⟩,?_⟩;simp only[Act.put,U,Aa,Ab];clear kr;refine Reg.b1 14 ?_
    left
    obtain⟨v6,w6,N,bz,O,cb⟩:=Wh.Ii (P:=Tryz.prog) eC 36 80 Cq Nf W5 108 108 112 i0 _ Tryz.underlying108 cu.o cx.o cp.o cw.o (by rfl) (by omega) B _ es D.o.row ⟨⟨p,z+1,k⟩,b,none,0,0,0⟩ w4.heap.size cc.o (by have:=EN.o;have:=HL.o;omega) (by omega) (Nat.le_trans cj.o Z.o.size);rw[<-EN.o] at N;replace E:=I (E.o.grown O (fun x=>by have:=(World.ownsRow.lt HW.o.row _ x).2;omega));replace J:=I (J.o.grown O (fun x=>by have:=(World.ownsRow.lt HW.o.row _ x).2;omega));refine⟨_,_,_,_,_,_,v6,w6,rfl,by rfl,FY rfl rfl N,⟨E.o,J.o⟩,?_⟩;simp only[Act.put,U,Aa,Ab];refine Reg.ty 15 rfl ⟨E.o,J.o⟩ ?_;refine Reg.ty 16 rfl ⟨E.o,J.o⟩ ?_;have bx:=fun(x:True)=>LJ HW.o cj.o Z.o D.o (it:=⟨p,z+1,k⟩) aw.o cf.o bz O cb x
    have ca:=D.o.blk.grown O D.o.vr;obtain⟨A7,c7,e7,_⟩:=FC Cq bz;obtain⟨m7,cd⟩:=Ak ((es++[(⟨⟨p,z+1,k⟩,b,none,0,0,0⟩:Ent)]).length);rw[<-cd] at e7;subst e7;have f0:=ca.frozen 0;have k6:=ca.c0;refine Reg.Bq 17 (w6.setCell ⟨r,0,none⟩ (.slice A7 m7 c7)) rfl (by kernel_rfl) (by rfl) (by go_simp) ⟨Si.Blk.far E.o _ _ (by simp;have:=HW.o.lt;omega),Si.Blk.far J.o _ _ (by simp;have:=HW.o.lt;omega)⟩ ?_;simp only[Act.put,U,Aa,Ab];refine wpAnyH_done (by kernel_rfl) ?_ _;clear f0 k6 ca bz O cb N cd;have M:=I (bx trivial);clear bx
    go_wp2
    go_ret2
    exact⟨rfl,_,b,cf.o,M.o.1,M.o.2.1,M.o.2.2⟩
theorem ax (r:Option Nat) (p:Pr) (k:Nat->UInt8) (w:World) (N:p.1.length<=1000000000) (Z:p.2.length<=1000000000) (hp:r=none\/prB p=false) :
  Calls Tryz.prog 16 #[.pointer (r.map fun r=>⟨r,0,none⟩),prV p,.agg (AY k)] w fun e w'=>e=.returned (.tuple #[.int .i64 0,.int .i64 1])/\Below w.heap.size w w':=by
 have O:=I (fun w1=>OH p w1 N Z);obtain⟨kv,J⟩:=Ak (AY k);rw[<-J];obtain⟨W,E⟩:=Ak ((w.alloc (.cells #[.string ⟨p.1.toArray⟩,.string ⟨p.2.toArray⟩] 23)).alloc (.cells kv 36));have F:Below w.heap.size w W:=E▸(Ah.alloc Ag _).alloc (by simp) _;have D:Blk W w.heap.size 23 #[.string ⟨p.1.toArray⟩,.string ⟨p.2.toArray⟩]:=E▸(Blk.new w _ _).alloc _;have bx:=D.c0;have aw:=D.c1;have M:=I F;clear F D N Z J;cases r with
 |none=>
  clear hp;go_enter Tryz.func16,Tryz.ntmps16
  go_upto_region 1 with fail
  rw[<-E];clear E
  go_wp2
  go_ret2
  exact⟨rfl,M.o⟩
 |some r=>
  have hp:prB p=false:=by
   rcases hp with h | h
   ·cases h
   ·exact h
  rw[hp] at O;clear hp;show Calls _ _ #[.pointer (some ⟨r,0,none⟩),prV p,.agg kv] _ _;go_enter Tryz.func16,Tryz.ntmps16
  go_upto_region 1 with fail
  rw[<-E];clear E
  go_wp2_with (first
   |(go_at_call 36;refine Aj (O.o _) ?_;rintro w1 F;replace M:=M.t F;clear F)
   |fail)
  go_ret2
  exact⟨rfl,M.o⟩
theorem Xc (B r:Nat) (v:Value) (es:List Ent) (p:Pr) (k:Nat->UInt8) (w:World) (h:Ring w B r v es) (h1:p.1.length<=1000000000) (h2:p.2.length<=1000000000) (hp:prB p=true) (hl:40<=es.length) (bx:es.length<=1000) :
  Calls Tryz.prog 16 #[.pointer (some ⟨r,0,none⟩),prV p,.agg (AY k)] w fun e w'=>e=.returned (.tuple #[.int .i64 0,.int .i64 13])/\Below w.heap.size w w':=by
 obtain⟨A,c,rfl,hc,hm,hr⟩:=h.num;obtain⟨n,en⟩:=Ak (es.length);have EN:=I en;obtain⟨z,ez⟩:=Ak (BH (its es) p);have hq:=Qe es (BA (its es) p);rw[show numO (its es) (BA (its es) p)=z from ez.symm] at hq;have CL:=I (fun(w1:World) (h:Ring w1 B r (.slice A es.length c) es)=>Jh B r (.slice A es.length c) es p w1 h (by omega));have CP:=I (fun w1=>OH p w1 h1 h2);rw[hp] at CP;obtain⟨kv,aw⟩:=Ak (AY k);obtain⟨cs,O⟩:=Ak (entC es (BA (its es) p));rw[<-O] at CL hq;rw[<-aw];rw[<-en] at hl;have bB:=h.lt;obtain⟨W,Z⟩:=Ak ((w.alloc (.cells #[.string ⟨p.1.toArray⟩,.string ⟨p.2.toArray⟩] 23)).alloc (.cells kv 36));have D:Below w.heap.size w W:=Z▸(Ah.alloc Ag _).alloc (by simp) _;have F:=I (show Blk W w.heap.size 23 #[.string ⟨p.1.toArray⟩,.string ⟨p.2.toArray⟩] from Z▸(Blk.new w _ _).alloc _);have HK:=I (show Blk W (w.heap.size+1) 36 kv by have:=Blk.new (w.alloc (.cells #[.string ⟨p.1.toArray⟩,.string ⟨p.2.toArray⟩] 23)) 36 kv;simp only[World.size_alloc] at this;exact Z▸this);have N:=I D;have E:=I (h.below D);have HW:=I h;have M:=F.c0;have J:=F.c1;have bz:=Nj cs _ hq;have t1:decide (40<=(n:Int))=true:=by simp;omega
 clear D h hr h1 h2 hp hl aw O ez en hc hm hq bx;go_enter Tryz.func16,Tryz.ntmps16
 go_upto_region 1 with fail
 rw[<-Z];clear Z
 go_wp2_with (first
  |(go_at_call 36;refine Aj (CP.o _) ?_;rintro w1 D;replace N:=N.t D;replace E:=I (E.o.below D);replace F:=I (F.o.below D);replace HK:=I (HK.o.below D);have M:=F.c0;have J:=F.c1;have kr:w1.cell? ⟨r,0,none⟩=some (.slice A n c):=EN.o▸E.o.blk.cell 0;clear D)
  |(go_at_call 37;refine Aj (CL.o _ E.o) ?_;rintro w2 D;clear M J kr;replace N:=N.t D;replace E:=I (E.o.below D);replace F:=I (F.o.below D);replace HK:=I (HK.o.below D);have M:=F.c0;have J:=F.c1;have kr:w2.cell? ⟨r,0,none⟩=some (.slice A n c):=EN.o▸E.o.blk.cell 0;clear D)
  |fail)
 go_ret2
 exact⟨rfl,N.o⟩
theorem ay (B r:Nat) (v:Value) (es:List Ent) (p:Pr) (k:Nat->UInt8) (w:World) (h:Ring w B r v es) (hB:B<=w.heap.size) (N:p.1.length<=1000000000) (O:p.2.length<=1000000000) (hl:es.length<=40) (hn:Num (its es)) :
  Calls Tryz.prog 16 #[.pointer (some ⟨r,0,none⟩),prV p,.agg (AY k)] w fun e w'=>e=.returned (.tuple #[.int .i64 (addN (its es) p:Int),.int .i64 (addE (its es) p:Int)])/\∃v' es',Ring w' B r v' es'/\its es'=addL (its es) p k/\(es'=es\/∃x,es'=es++[x]/\x.a=0/\x.o=0/\x.r=0)/\Chg (fun q=>q=r\/v.ownBlock=some q) w w'/\(∀q,RO r v' es' q->RO r v es q\/w.heap.size<=q):=by
 cases hp:prB p with
 |false=>
  refine(ax (some r) p k w N O (.inr hp)).mono ?_;rintro e w' ⟨rfl,F⟩;refine⟨by rw[addN,addE,hp];rfl,v,es,h.below F,by rw[addL,hp];rfl,.inl rfl,Chg.of_below F,fun q J=>.inl J⟩
 |true=>
  by_cases hx:es.length<40
  ·have D:(its es).length<40:=by rw[Dh];exact hx
   have E:BH (its es) p<255:=by have:=YX hn p;omega
   refine(dr B r v es p k w h hB N O hp hx E).mono ?_;rintro e w' ⟨rfl,v',b,aw,Z,hc,M⟩;refine⟨by rw[addN,addE,hp,if_pos rfl,if_pos rfl,if_pos D,if_pos D];rfl,v',_,Z,?_,.inr ⟨_,rfl,rfl,rfl,rfl⟩,hc,M⟩;rw[WZ,addL,hp,if_pos rfl,if_pos D]
  ·have D:¬(its es).length<40:=by rw[Dh];exact hx
   refine(Xc B r v es p k w h N O hp (by omega) (by omega)).mono ?_;rintro e w' ⟨rfl,F⟩;refine⟨by rw[addN,addE,hp,if_pos rfl,if_pos rfl,if_neg D,if_neg D];rfl,v,es,h.below F,?_,.inl rfl,Chg.of_below F,fun q J=>.inl J⟩;rw[addL,hp,if_pos rfl,if_neg D]
def kB (b:UInt8) (i:Nat):UInt8:=if i=0 then b else 0
abbrev p1:Pr:=([65],[120])
abbrev AT (r:Nat) (v:Value) (q:Nat):Prop:=q=r\/v.ownBlock=some q
theorem az {r:Nat} {v:Value} {es:List Ent} {q:Nat} (h:AT r v q):RO r v es q:=by
 rcases h with h | h
 ·exact .inl h
 ·exact .inr (.inl h)
section
variable {w w':World} {B r i:Nat} {v v':Value} {es es':List Ent} {e:Ent} {A:Option Addr} {xs:List Value}
theorem aA (he:es[i]? = some e) {k:Nat} (h:Ow e.b e.h k):RO r v es k:=.inr (.inr ⟨i,e,he,h⟩)
end
end Rg
end Go.Proofs.YthgignaohimadaaGreat
