import Derived.Test.YtlchkbpffaclmaaGreatZKdcTills11
set_option maxHeartbeats 25600000
set_option maxRecDepth 100000
set_option linter.unusedVariables false
set_option linter.unusedSimpArgs false
namespace Go.Proofs.YtlchkbpffaclmaaGreat
namespace Kd
open Af Se Ms
open Nm (krb L)
open Rg (It Cp Bz Bw numO)
open DerP (elem encI)
open SeL (Bd AN)
theorem GP {p:L} {n:Int} {u:Int} {ks:Nat->UInt8} (hp:p.length<=784) (hn:0<=n) (hn2:n<=1099511627776) (hu:0<=u) (hu2:u<=255):Bd ks u n p=(Dt ks u.toNat n.toNat p,0):=by
 rw[Bd,if_pos ⟨hu,hu2,hn,hn2,hp⟩]
theorem Fu {p:L} {n:Int} {u:Int} {ks:Nat->UInt8} (hp:p.length<=784) (hn:0<=n) (hn2:n<=1099511627776) (hu:0<=u) (hu2:u<=255):AN ks u (Bd ks u n p).1=(p,0):=by
 rw[GP hp hn hn2 hu hu2,AN,if_pos ⟨hu,hu2⟩];have h1:=UB ks u.toNat n.toNat p (by omega) hp;have h2:=UC ks u.toNat n.toNat p (by omega);simp only;rw[if_pos h1,h2]
theorem Hr {p:Pt} (hk:p.ss.length=32) (hx:ptB p=true):(ptE p).length<=500:=by
 obtain⟨_,h2,h3,_,_⟩:=CY hx;have l1:=(Bb h2).1;have l2:=AD 4 p.ss;have l3:=AD 27 p.tr;have l4:=AF p.st;have l5:=AF p.en;have l6:=AD 99 [prE p.c,elem 4 p.ss,elem 27 p.tr,encI p.st,encI p.en].flatten;have l7:[prE p.c,elem 4 p.ss,elem 27 p.tr,encI p.st,encI p.en].flatten.length=(prE p.c).length+((elem 4 p.ss).length+((elem 27 p.tr).length+((encI p.st).length+(encI p.en).length))):=by simp
 rw[ptE];omega
theorem KW {a:An} (hx:anB a=true):(anE a).length<=500:=by
 have h':prB a.c=true/\tmB a.t=true/\tmB a.q=true:=by simpa [anB] using hx
 have l1:=(Bb h'.1).1;have l4:=AF a.t;have l5:=AF a.q;have l6:=AD 98 [prE a.c,encI a.t,encI a.q].flatten;have l7:[prE a.c,encI a.t,encI a.q].flatten.length=(prE a.c).length+((encI a.t).length+(encI a.q).length):=by simp
 rw[anE];omega
theorem Xu {p:Rp} (hk:p.ss.length=32) (hx:rpB p=true):(rpE p).length<=500:=by
 have h':prB p.s=true/\tmB p.st=true/\tmB p.en=true/\tmB p.no=true:=by simpa [rpB] using hx
 have l1:=(Bb h'.1).1;have l2:=AD 4 p.ss;have l4:=AF p.st;have l5:=AF p.en;have l6:=AF p.no;have l7:=AD 122 [elem 4 p.ss,prE p.s,encI p.st,encI p.en,encI p.no].flatten;have l8:[elem 4 p.ss,prE p.s,encI p.st,encI p.en,encI p.no].flatten.length=(elem 4 p.ss).length+((prE p.s).length+((encI p.st).length+((encI p.en).length+(encI p.no).length))):=by simp
 rw[rpE];omega
theorem Gq {p:Pt} (hk:p.ss.length=32) (hx:ptB p=true):ptO p=some (ptE p):=by rw[ptO,limO,if_pos ⟨hx,by have:=Hr hk hx;omega⟩]
theorem Jq {p:An} (hx:anB p=true):anO p=some (anE p):=by rw[anO,limO,if_pos ⟨hx,by have:=KW hx;omega⟩]
theorem Sv {p:Rp} (hk:p.ss.length=32) (hx:rpB p=true):rpO p=some (rpE p):=by rw[rpO,limO,if_pos ⟨hx,by have:=Xu hk hx;omega⟩]
theorem Zs {p:Pt} (hx:ptB p=false):ptO p=none:=by rw[ptO,limO,hx];rfl
theorem Zt {p:Rp} (hx:rpB p=false):rpO p=none:=by rw[rpO,limO,hx];rfl
theorem Zu {p:Pt} (hk:p.ss.length=32):(ptO p).isSome=ptB p:=by
 cases h:ptB p with
 |true=>rw[Gq hk h];rfl
 |false=>rw[Zs h];rfl
theorem Zv {p:Rp} (hk:p.ss.length=32):(rpO p).isSome=rpB p:=by
 cases h:rpB p with
 |true=>rw[Sv hk h];rfl
 |false=>rw[Zt h];rfl
theorem Sw {p:Pt} (hk:p.ss.length=32) (hx:ptB p=true):ptD (ptE p)=some p:=by rw[ptD,MP hx hk];rw[if_pos (Gq hk hx)]
theorem Xv {p:An} (hx:anB p=true):anD (anE p)=some p:=by rw[anD,QY hx];rw[if_pos (Jq hx)]
def lO (o:Option L):L:=o.getD []
def reqQ (s:Pr) (ks:Nat->UInt8) (p:Pt) (a:An) (t:Pr) (u:Int):Tg:=⟨⟨s,1,(Bd ks 2 77 (lO (ptO p))).1⟩,(Bd (ksOf p.ss) 7 78 (lO (anO a))).1,t,u,4⟩
theorem Zw {R:L} {l:List It} {i:Nat} {t:Tk} {p:Pt} {now:Int} (hk:p.ss.length=32) (hp:ptB p=true) (hs:t.s.2=krb++R) (hf:Cp l t.s t.k=some i) (ho:AN (keyO l (some i)) 2 t.b=(ptE p,0)) :
  opnL R l t now=if p.en<now then (7,pt0) else if now+5<p.st then (8,pt0) else (0,p):=by
 unfold opnL;rw[if_pos hs,hf];simp only;rw[ho];simp only;rw[if_pos trivial,Sw hk hp]
theorem Zx {ss a:L} {c:Pr} {x:An} {now:Int} (ha:anB x=true) (ho:AN (ksOf ss) 7 a=(anE x,0)) :
  autL ss a c now=if x.c=c then (if x.t<now - 5\/now+5<x.t then 8 else 0) else 9:=by
 unfold autL;rw[ho];simp only;rw[if_pos trivial,Xv ha]
theorem UG {R:L} {l:List It} {i:Nat} {s t:Pr} {ks:Nat->UInt8} {p:Pt} {a:An} {u now:Int} (hk:p.ss.length=32) (hp:ptB p=true) (hs:s.2=krb++R) (hf:Cp l s 1=some i) (hi:keyO l (some i)=ks) :
  opnL R l (reqQ s ks p a t u).t now=if p.en<now then (7,pt0) else if now+5<p.st then (8,pt0) else (0,p):=by
 have hl:=Hr hk hp;refine Zw (i:=i) hk hp hs hf ?_;show AN (keyO l (some i)) 2 (Bd ks 2 77 (lO (ptO p))).1=_;rw[hi,Gq hk hp,lO,Option.getD_some,Fu (by omega) (by decide) (by decide) (by decide) (by decide)]
theorem UH {s t:Pr} {ks:Nat->UInt8} {p:Pt} {a:An} {u now:Int} {c:Pr} (ha:anB a=true) :
  autL p.ss (reqQ s ks p a t u).a c now=if a.c=c then (if a.t<now - 5\/now+5<a.t then 8 else 0) else 9:=by
 have hl:=KW ha;refine Zx ha ?_;show AN (ksOf p.ss) 7 (Bd (ksOf p.ss) 7 78 (lO (anO a))).1=_;rw[Jq ha,lO,Option.getD_some,Fu (by omega) (by decide) (by decide) (by decide) (by decide)]
theorem Xw {s t:Pr} {ks:Nat->UInt8} {p:Pt} {a:An} {u:Int} (hk:p.ss.length=32) (hp:ptB p=true) (ha:anB a=true) (hs:prB s=true) (ht:prB t=true) (hu:tmB u=true):tgB (reqQ s ks p a t u)=true:=by
 have h1:=Hr hk hp;have h2:=KW ha;have b1:Da (reqQ s ks p a t u).t.b=true:=by
  simp only[reqQ];rw[Gq hk hp,lO,Option.getD_some,GP (by omega) (by decide) (by decide) (by decide) (by decide)];simp only[Da,BJ,Bool.and_eq_true,decide_eq_true_eq];omega
 have b2:Da (reqQ s ks p a t u).a=true:=by
  simp only[reqQ];rw[Jq ha,lO,Option.getD_some,GP (by omega) (by decide) (by decide) (by decide) (by decide)];simp only[Da,BJ,Bool.and_eq_true,decide_eq_true_eq];omega
 rw[tgB,tkB,b1,b2];show((prB s&&(inB 1 1 255&&true))&&(true&&(prB t&&(tmB u&&tmB 4))))=true;rw[hs,ht,hu]
 decide
theorem Zy {l:List It} {n:Nat} {c s:Pr} {P:Pt} {no:Int} {ks:Nat->UInt8} {u:Int} (hk:P.ss.length=32) (hp:ptB P=true) (hr:rpB (rpOf P s no)=true) :
  ansL l n c s P no ks u=(0,⟨c,⟨s,Bw l s,(Bd (keyL l s) 2 ((n+1:Nat):Int) (ptE P)).1⟩,(Bd ks u ((n+1+1:Nat):Int) (rpE (rpOf P s no))).1⟩):=by
 have hk2:(rpOf P s no).ss.length=32:=hk;rw[ansL,Zu hk,Zv hk2,hp,hr,Gq hk hp,Sv hk2 hr];rfl
end Kd
namespace Kd
open Af Se
open Nm (krb L)
open Rg (It Cp Bz Bw numO Num)
open Rt (Tp isT Sm nxS nxB)
abbrev Pr:=L×L
def rA:L:=[65,46,69,68,85]
def rE:L:=[69,68,85]
def rB:L:=[66,46,69,68,85]
def pAnn:Pr:=(rA,[97,110,110])
def BU:Pr:=(rA,[109,97,105,108])
def pWeb:Pr:=(rE,[119,101,98])
def kq (n:UInt8):Nat->UInt8:=fun i=>if i=0 then n else if i=1 then 7 else 0
def kb (n:UInt8):L:=(List.range 32).map (kq n)
def tT:Tp:=⟨[rA,rE,rB],[(rA,rE),(rE,rA),(rE,rB),(rB,rE)],[]⟩
def itA:List It:=[⟨kr rA rA,1,kq 10⟩,⟨kr rA rE,1,kq 99⟩,⟨kr rE rA,1,kq 12⟩,⟨pAnn,1,kq 13⟩,⟨BU,1,kq 14⟩]
def itE:List It:=[⟨kr rE rE,1,kq 10⟩,⟨kr rA rE,1,kq 99⟩,⟨kr rE rB,1,kq 12⟩,⟨pWeb,1,kq 13⟩]
def itX (above:Bool):List It:=if above then itE else itA
def rX (above:Bool):L:=if above then rE else rA
theorem Kb (n:UInt8):(kb n).length=32:=by simp [kb]
theorem Oy (n:UInt8):(bvs (kb n)).toArray=AO (kq n):=by simp [bvs,kb,AO]
theorem Zz:isT tT=true:=by decide +kernel
theorem Xx:Sm tT:=⟨by decide,by decide,by decide,by decide,by decide,by decide⟩
theorem numA:Num itA:=by
 intro j i h
 match j,h with
 |0,h=>injection h with h;subst h;decide +kernel
 |1,h=>injection h with h;subst h;decide +kernel
 |2,h=>injection h with h;subst h;decide +kernel
 |3,h=>injection h with h;subst h;decide +kernel
 |4,h=>injection h with h;subst h;decide +kernel
 |j+5,h=>simp [itA] at h
theorem numE:Num itE:=by
 intro j i h
 match j,h with
 |0,h=>injection h with h;subst h;decide +kernel
 |1,h=>injection h with h;subst h;decide +kernel
 |2,h=>injection h with h;subst h;decide +kernel
 |3,h=>injection h with h;subst h;decide +kernel
 |j+4,h=>simp [itE] at h
theorem numX (a:Bool):Num (itX a):=by cases a<;>first | exact numA | exact numE
end Kd
namespace Wh
open Go.RowKit Af
section
variable {w w':World} {g o:Nat} {t:TypeId} {cs ds ps:Array Value} {pre mid post:List Value}
theorem Ae (h:Blk w g t cs):w.rangeAt g 0 cs.toList:=fun j v hv=>by
 rw[Nat.zero_add,h.cell];simpa using hv
theorem Cw (h:Blk w g t cs) (hc:cs.toList=pre++(mid++post)) (o:Nat) (ho:o=pre.length):w.rangeAt g o mid:=fun j v hv=>by
 subst ho;have hj:j<mid.length:=(List.getElem?_eq_some_iff.1 hv).1;rw[h.cell,<-Array.getElem?_toList,hc,List.getElem?_append_right (by omega),Nat.add_sub_cancel_left,List.getElem?_append_left hj];exact hv
theorem Ci (h:Blk w g t cs) (o n:Nat) (hn:o+n<=cs.size):w.there g o n:=fun j hj=>by
 rw[h.cell,Array.getElem?_eq_getElem (by omega)];exact⟨rfl,h.frozen (o+j)⟩
theorem BN {g:Nat} {t:TypeId}:∀(vs:List Value) (o:Nat) (w:World) (cs:Array Value),Blk w g t cs->o+vs.length<=cs.size->
  ∃ds:Array Value,Blk (w.setCells g o vs) g t ds/\ds.size=cs.size/\(∀i,o<=i->i<o+vs.length->ds[i]? = vs[i - o]?)/\(∀i,i<o\/o+vs.length<=i->ds[i]? = cs[i]?)
 | [],o,w,cs,h,hl=>⟨cs,h,rfl,fun i h1 h2=>by simp at h2;omega,fun i _=>rfl⟩
 |v :: r,o,w,cs,h,hl=>by
  rw[World.setCells];simp only[List.length_cons] at hl;obtain⟨ds,h1,h2,h3,h4⟩:=BN r (o+1) _ _ (h.set o v) (by simp;omega);simp only[List.length_cons];refine⟨ds,h1,by simpa using h2,fun i hi hj=>?_,fun i hi=>?_⟩
  ·by_cases e:i=o
   ·subst e
    rw[h4 i (by omega),Nat.sub_self];rw[Array.getElem?_setIfInBounds_self_of_lt (by omega)]
    rfl
   ·rw[h3 i (by omega) (by omega),show i - o=(i - (o+1))+1 by omega]
    simp
  ·rw[h4 i (by omega)]
   exact Array.getElem?_setIfInBounds_ne (by omega)
theorem AG (h:Blk w g t cs) (hs:cs.size=ds.size):Blk (w.setCells g 0 ds.toList) g t ds:=by
 obtain⟨es,h1,h2,h3,_⟩:=BN ds.toList 0 w cs h (by simp;omega);have e:es=ds:=by
  apply Array.ext_getElem?;intro i
  by_cases hi:i<ds.size
  ·rw[h3 i (by omega) (by simp;omega)];simp
  ·rw[Array.getElem?_eq_none (by omega),Array.getElem?_eq_none (by omega)]
 rw[<-e];rw[<-e] at h1;exact h1
theorem Gr {row:Option Nat} {a:World} {g:Nat} (hp:row=some g\/a.heap.size<=g):∀(vs:List Value) (o:Nat) (w:World),a.grownBy w row->a.grownBy (w.setCells g o vs) row
 | [],_,_,h=>h
 |v :: r,o,w,h=>by rw[World.setCells];exact Gr hp r (o+1) _ (AE h (p:=⟨g,o,none⟩) hp v)
theorem DR (w:World) (g o:Nat) (vs:List Value):w.grownBy (w.setCells g o vs) (some g):=Gr (.inl rfl) vs o w (World.grownBy.refl _ _)
end
section
variable {P:Program} {ops:Array Oper} {rest:List Oper} {op:Oper} {a:Act} {w:World} {Q:Exit->Act->World->Prop}
theorem Ax (hw:Region.wanted op (yielded ops a.tmps)=true) (ty:TypeId) (x:Operand) (ho:op.op=.load ty x)
  (g o:Nat) (hx:a.eval x=.pointer (some ⟨g,o,none⟩)) (cs:Array Value) (d:TypeDesc) (hc:w.rangeAt g o cs.toList)
  (hu:P.underlying ty=some d) (hd:d.isRow=true) (hi:(P.info? ty).map (·.size)=some cs.size)
  (h:wpList P ops Q rest (a.put op.dst (.agg cs)) w):wpList P ops Q (op :: rest) a w:=
 BigFrame.wpList_want hw fun _ hK=>wp_load_mid ty x ho g o hx cs.toList d hc hu hd (by rw[Array.length_toList];exact hi) (by simpa using hK _ _ h)
theorem Sx (w:World) (t:TypeId) (lit cs:Array Value) (hs:lit.size=cs.size):Blk ((w.alloc (.cells lit t)).setCells w.heap.size 0 cs.toList) w.heap.size t cs/\Below w.heap.size w ((w.alloc (.cells lit t)).setCells w.heap.size 0 cs.toList):=
 ⟨AG (Blk.new w t lit) hs,Av ((Below.refl w.heap.size w).alloc Ag _) (DR _ _ _ _) (by simp) Ag⟩
theorem Bg {w0:World} {lit:Array Value} (hgd:op.guard=none) (ty:TypeId) (x y:Operand) (ho:op.op=.store ty x y) (t:TypeId) (hw:w=w0.alloc (.cells lit t))
  (cells:Array Value) (hx:a.eval x=.pointer (some ⟨w0.heap.size,0,none⟩)) (hy:a.eval y=.agg cells) (hs:lit.size=cells.size)
  (hi:(P.info? ty).map (·.size)=some cells.size) (h1:cells.all (·.oneCell')=true)
  (h:∀V,Blk V w0.heap.size t cells->Below w0.heap.size w0 V->wpList P ops Q rest (a.put op.dst undef) V):wpList P ops Q (op :: rest) a w:=by
 subst hw;have hV:=Sx w0 t lit cells hs;exact wpList_store_mid hgd ty x y ho w0.heap.size 0 cells hx hy (Ci (Blk.new w0 t lit) _ _ (by omega)) hi h1 (h _ hV.1 hV.2)
theorem Bh (hgd:op.guard=none) (ty:TypeId) (x y:Operand) (ho:op.op=.store ty x y) (g:Nat) (t:TypeId) (old:Array Value) (hb:Blk w g t old)
  (cells:Array Value) (hx:a.eval x=.pointer (some ⟨g,0,none⟩)) (hy:a.eval y=.agg cells) (hs:old.size=cells.size)
  (hi:(P.info? ty).map (·.size)=some cells.size) (h1:cells.all (·.oneCell')=true)
  (h:∀V,Blk V g t cells->w.grownBy V (some g)->wpList P ops Q rest (a.put op.dst undef) V):wpList P ops Q (op :: rest) a w:=
 wpList_store_mid hgd ty x y ho g 0 cells hx hy (Ci hb _ _ (by omega)) hi h1 (h _ (AG hb hs) (DR _ _ _ _))
theorem Au {fn:Func} {tmps:Array Value} {w:World} {v:Value} (t:Nat) (ty:TypeId) (a:Addr) (hres:fn.results=#[.cell t ty]) (ht:tmps.getD t undef=.pointer (some a)) (hl:(loadVar ty a).run P w=.ok v w) :
  (results fn tmps).run P w=.ok v w:=by
 have ht':tmps[t]?.getD undef=.pointer (some a):=by simpa using ht
 simp [results,hres,ht',asAddr,hl]
theorem Al {g:Nat} {t ty:TypeId} {cs:Array Value} {d:TypeDesc} (h:Blk w g t cs) (hu:P.underlying ty=some d) (hd:d.isRow=true) (hi:(P.info? ty).map (·.size)=some cs.size) :
  (loadVar ty ⟨g,0,none⟩).run P w=.ok (.agg cs) w:=by
 have:=run_loadVar_mid (P:=P) w g 0 ty cs.toList d (Ae h) hu hd (by simpa using hi)
 simpa using this
theorem Bq {w':World} {o:Oper} {g:Nat} {t ty:TypeId} {cs:Array Value} {d:TypeDesc} (x:Operand) (ho:o.op=.load ty x) (hx:a.eval x=.pointer (some ⟨g,0,none⟩)) (h:Blk w' g t cs) (hu:P.underlying ty=some d) (hd:d.isRow=true) (hi:(P.info? ty).map (·.size)=some cs.size) :
  (execOp a.eval o).run P w'=.ok (.value (.agg cs)) w':=by
 unfold execOp;simp only[ho,hx,Instr.loadAt,Instr.sureAddr,Sem.run_bind,Sem.run_pure,Result.andThen_ok,Al h hu hd hi]
end
theorem Xy (l:List Value):∀(k:Nat) (Z:Array Value),k+l.length<=Z.size->((l.zipIdx k).foldl (fun a x=>a.setIfInBounds (0+x.2) x.1) Z).size=Z.size/\∀i,((l.zipIdx k).foldl (fun a x=>a.setIfInBounds (0+x.2) x.1) Z)[i]? = if k<=i/\i<k+l.length then l[i - k]? else Z[i]?:=by
 induction l with
 |nil=>
  intro k Z h;refine⟨rfl,fun i=>?_⟩;rw[if_neg (by simp)]
  rfl
 |cons c l ih=>
  intro k Z h;simp only[List.length_cons] at h;obtain⟨h1,h2⟩:=ih (k+1) (Z.setIfInBounds (0+k) c) (by simp;omega);rw[List.zipIdx_cons,List.foldl_cons];refine⟨by rw[h1];simp,fun i=>?_⟩;rw[h2]
  by_cases e:i=k
  ·subst e
   rw[if_neg (by omega),if_pos (by simp),Nat.sub_self,Nat.zero_add,Array.getElem?_setIfInBounds_self_of_lt (by omega)]
   rfl
  ·by_cases g:k+1<=i/\i<k+1+l.length
   ·rw[if_pos g,if_pos (by simp;omega),show i - k=(i - (k+1))+1 by omega]
    simp
   ·rw[if_neg g,if_neg (by simp;omega),Array.getElem?_setIfInBounds_ne (by omega)]
theorem UI (cs Z:Array Value) (n:Nat) (hn:cs.size=n) (hz:Z.size=n):Instr.fill (fun i=>some (i*n,n)) Z [(0,.agg cs)]=some cs:=by
 have hf:=Xy cs.toList 0 Z (by simp;omega);have e:cs.zipIdx.foldl (fun a (x:Value×Nat)=>a.setIfInBounds (0+x.2) x.1) Z=cs:=by
  rw[<-Array.foldl_toList,Array.toList_zipIdx];apply Array.ext_getElem?;intro i;rw[hf.2]
  by_cases g:i<cs.size
  ·rw[if_pos (by simp;omega)];simp
  ·rw[if_neg (by simp;omega),Array.getElem?_eq_none (by omega),Array.getElem?_eq_none (by omega)]
 have hc:(Value.agg cs).cells=cs:=rfl;unfold Instr.fill;simp only[Nat.zero_mul,hc];rw[if_neg (by simp;omega)];unfold Instr.fill
 congr 1
section
variable {P:Program}
theorem GQ (w:World) (t e:TypeId) (cs:Array Value) (ie:TypeInfo) (z:Value) (hu:P.underlying t=some (.slice e)) (hie:P.info? e=some ie) (hz:ie.zero=some z) (hs:ie.size=cs.size) (h0:0<cs.size) (h24:cs.size<=16777216) :
  (Instr.buildSlice t 1 #[(0,.agg cs)]).run P w=.ok (.slice (some ⟨w.heap.size,0,none⟩) 1 1) (w.alloc (.cells cs e)):=
 run_buildSlice w t e 1 _ cs ie z hu hie hz (by rw[hs];omega) (by rw[hs];omega) (UI cs _ ie.size hs.symm (by simp))
end
theorem Hs {P:Program} {α:Type} (f:α->List Value) (n bytes:Nat) (hf:∀x,(f x).length=n) (h1:∀x,∀u∈f x,u.oneCell'=true) (w:World) (t ty e:TypeId) (i:TypeInfo) (z:Value) (ht:P.underlying t=some (.slice e)) (hi:P.info? e=some i) (hz:i.zero=some z) (hs:i.size=n) (hb:i.bytes=bytes) (hzs:z.cells.size=n) (hn:0<n)
  (base:Nat) (v:Value) (l:List α) (hown:w.ownsRow base e n v l.length (l.flatMap f)) (x:α) (g:Nat) (hg:Blk w g e (f x).toArray) (hl:l.length+1<=100000) (hby:bytes<=10000) (hbase:base<=w.heap.size) :
  ∃v' w',(Builtin.append_ #[t,t] ty #[v,.slice (some ⟨g,0,none⟩) 1 1]).run P w=.ok v' w'/\w'.ownsRow base e n v' (l++[x]).length ((l++[x]).flatMap f)/\w.grownBy w' v.ownBlock/\(v'.ownBlock=v.ownBlock\/v'.ownBlock=some w.heap.size):=by
 obtain⟨v',w',h2,h3,h4,_,h5⟩:=run_append_own_at (P:=P) w base t ty e i z n bytes ht hi hz hs hb hzs hn v l.length (l.flatMap f) hown ⟨g,0,none⟩ 1 1 (f x) (by rw[hf];omega) (fun j u hu=>by
  rw[addr_add,Nat.zero_add,hg.cell j]
  simpa using hu) (h1 x) (by unfold maxLen;omega) (by
   have:(l.length+1)*bytes<=100000*10000:=Nat.mul_le_mul hl hby;omega) hbase
 exact⟨v',w',h2,by rw[List.length_append,List.flatMap_append,List.flatMap_singleton];exact h3,h4,h5⟩
end Wh
namespace Rg
open Go.RowKit Af Se
abbrev prC (p:Pr):List Value:=[.string ⟨p.1.toArray⟩,.string ⟨p.2.toArray⟩]
abbrev prV (p:Pr):Value:=.agg #[.string ⟨p.1.toArray⟩,.string ⟨p.2.toArray⟩]
def iC (i:It):List Value:=.string ⟨i.p.1.toArray⟩ :: .string ⟨i.p.2.toArray⟩ :: .int .i64 (i.n:Int) :: (AO i.k).toList
structure Ent where
 it:It
 b:Nat
 h:Option Nat
 a:Nat
 o:Nat
 r:Nat
def eC (e:Ent):List Value:=iC e.it++[.pointer (some ⟨e.b,0,none⟩)]
theorem BY (i:It):(iC i).length=35:=by simp [iC,Dm]
theorem Cj (e:Ent):(eC e).length=36:=by simp [eC,BY]
theorem Sy (i:It):∀u∈iC i,u.oneCell'=true:=by
 intro u hu;simp only[iC,List.mem_cons] at hu;rcases hu with h | h | h | h
 ·subst h;rfl
 ·subst h;rfl
 ·subst h;rfl
 ·have:=one32 i.k
  rw[Array.all_eq_true_iff_forall_mem] at this;exact this u (Array.mem_def.2 h)
theorem Ma (e:Ent):∀u∈eC e,u.oneCell'=true:=by
 intro u hu;rcases List.mem_append.1 hu with h | h
 ·exact Sy _ u h
 ·rw[List.mem_singleton] at h;subst h;rfl
theorem Sz {α:Type} (f:α->List Value) (n:Nat) (h:∀x,(f x).length=n):∀(l:List α) (i:Nat) (x:α),l[i]? = some x->∀j v,(f x)[j]? = some v->(l.flatMap f)[i*n+j]? = some v
 | [],i,x,hx,_,_,_=>by simp at hx
 |a :: l,0,x,hx,j,v,hv=>by
  injection hx with hx;subst hx;have:=(List.getElem?_eq_some_iff.1 hv).1;rw[List.flatMap_cons,Nat.zero_mul,Nat.zero_add,List.getElem?_append_left this];exact hv
 |a :: l,i+1,x,hx,j,v,hv=>by
  rw[List.flatMap_cons,List.getElem?_append_right (by rw[h,Nat.succ_mul];omega),h,show(i+1)*n+j - n=i*n+j by rw[Nat.succ_mul];omega];exact Sz f n h l i x hx j v hv
def RdR {α:Type} (w:World) (B:Nat) (A:Option Addr) (f:α->List Value) (n:Nat) (l:List α):Prop:=
 l = []\/∃g,A=some ⟨g,0,none⟩/\g<B/\∀i x,l[i]? = some x->w.rangeAt g (i*n) (f x)
theorem RdR.keep {α:Type} {w w':World} {B:Nat} {A:Option Addr} {f:α->List Value} {n:Nat} {l:List α} (h:RdR w B A f n l) (hb:Below B w w'):RdR w' B A f n l:=by
 rcases h with h | ⟨g,h1,h2,h3⟩
 ·exact .inl h
 ·exact .inr ⟨g,h1,h2,fun i x hx j v hv=>(hb.cell (p:=⟨g,_,none⟩) h2).trans (h3 i x hx j v hv)⟩
theorem RdR.at_ {α:Type} {w:World} {B:Nat} {A:Option Addr} {f:α->List Value} {n:Nat} {l:List α} {i:Nat} {x:α} (h:RdR w B A f n l) (hx:l[i]? = some x):∃g,A=some ⟨g,0,none⟩/\g<B/\w.rangeAt g (i*n) (f x):=by
 rcases h with h | ⟨g,h1,h2,h3⟩
 ·subst h;simp at hx
 ·exact⟨g,h1,h2,h3 i x hx⟩
theorem Fz {α:Type} {w:World} {base:Nat} {t:TypeId} {v:Value} {f:α->List Value} {n:Nat} {l:List α} (hn:∀x,(f x).length=n) (h:w.ownsRow base t n v l.length (l.flatMap f)):∃A c,v=.slice A l.length c/\l.length<=c/\c<=maxLen/\RdR w w.heap.size A f n l:=by
 have h':=h;rcases h.2 with⟨h1,h2⟩ | ⟨g,cap,cur,h1,hg,hh,hc,hm,_⟩
 ·have e:l = []:=List.eq_nil_of_length_eq_zero h2
  subst e;exact⟨none,0,h1,Nat.le_refl _,Nat.zero_le _,.inl rfl⟩
 ·subst h1
  refine⟨_,cap,rfl,hc,hm,.inr ⟨g,rfl,(Array.getElem?_eq_some_iff.1 hh).1,fun i x hx j v hv=>?_⟩⟩;have h1:=h'.cells (g:=g) rfl (i*n+j) v (Sz f n hn l i x hx j v hv);rw[addr_add,Nat.zero_add] at h1;exact h1
theorem Jr {S:Nat->Prop} {w w':World} {base size n:Nat} {t:TypeId} {v:Value} {xs:List Value} (h:Chg S w w') (ho:w.ownsRow base t size v n xs) (hs:∀k,v.ownBlock=some k->¬S k):w'.ownsRow base t size v n xs:=by
 refine⟨ho.1,?_⟩;rcases ho.2 with hn | ⟨g,cap,cur,rfl,hb,hgg,rest⟩
 ·exact .inl hn
 ·exact .inr ⟨g,cap,cur,rfl,hb,(h.block g (Array.getElem?_eq_some_iff.1 hgg).1 (hs g rfl)).trans hgg,rest⟩
def its (es:List Ent):List It:=es.map (·.it)
theorem Kc {es:List Ent} {i:Nat} {e:Ent} (h:es[i]? = some e):(its es)[i]? = some e.it:=by simp [its,h]
theorem Oz {es:List Ent} {i:Nat} {x:It} (h:(its es)[i]? = some x):∃e,es[i]? = some e/\e.it=x:=by
 simpa [its] using h
theorem CU (es:List Ent):(its es).length=es.length:=by simp [its]
structure Ring (w:World) (B r:Nat) (v:Value) (es:List Ent):Prop where
 blk:Blk w r 119 #[v]
 row:w.ownsRow B 122 36 v es.length (es.flatMap eC)
 lo:B<=r
 vr:v.ownBlock≠some r
 box:∀(i:Nat) (e:Ent),es[i]? = some e->Box w e.b e.it.k e.h e.a e.o e.r
 off:∀(i:Nat) (e:Ent),es[i]? = some e->∀k,Ow e.b e.h k->B<=k/\k≠r/\v.ownBlock≠some k
 far:∀(i j:Nat) (e f:Ent),es[i]? = some e->es[j]? = some f->i≠j->∀k,Ow e.b e.h k->¬Ow f.b f.h k
def RO (r:Nat) (v:Value) (es:List Ent) (k:Nat):Prop:=k=r\/v.ownBlock=some k\/∃(i:Nat) (e:Ent),es[i]? = some e/\Ow e.b e.h k
section
variable {w w':World} {B r:Nat} {v v':Value} {es:List Ent} {S:Nat->Prop}
theorem Ring.own_lo (h:Ring w B r v es) {k:Nat} (hk:RO r v es k):B<=k:=by
 rcases hk with hk | hk | ⟨i,e,he,hk⟩
 ·subst hk;exact h.lo
 ·exact(World.ownsRow.lt h.row k hk).1
 ·exact(h.off i e he k hk).1
theorem Ring.own_lt (h:Ring w B r v es) {k:Nat} (hk:RO r v es k):k<w.heap.size:=by
 rcases hk with hk | hk | ⟨i,e,he,hk⟩
 ·subst hk;exact h.blk.lt
 ·exact(World.ownsRow.lt h.row k hk).2
 ·exact(h.box i e he).own_lt k hk
theorem Ring.lt (h:Ring w B r v es):r<w.heap.size:=h.blk.lt
theorem Ring.chg (h:Ring w B r v es) (hc:Chg S w w') (hs:∀k,RO r v es k->¬S k):Ring w' B r v es:=
 ⟨hc.blk h.blk (hs r (.inl rfl)),Jr hc h.row (fun k hk=>hs k (.inr (.inl hk))),h.lo,h.vr,fun i e he=>(h.box i e he).chg hc (fun k hk=>hs k (.inr (.inr ⟨i,e,he,hk⟩))),h.off,h.far⟩
theorem Ring.below (h:Ring w B r v es) (hb:Below w.heap.size w w'):Ring w' B r v es:=h.chg (S:=fun _=>False) (Chg.of_below hb) (fun _ _ x=>x)
theorem Ring.drew (h:Ring w B r v es):Ring w.drew B r v es:=h.below (below_drewN Ah 1)
theorem Ring.num (h:Ring w B r v es):∃A c,v=.slice A es.length c/\es.length<=c/\c<=maxLen/\RdR w w.heap.size A eC 36 es:=Fz Cj h.row
theorem Ring.use (h:Ring w B r v es) {i:Nat} {e:Ent} (he:es[i]? = some e) {h':Option Nat} {a o q:Nat} (hx:Box w' e.b e.it.k h' a o q) (hs:Cn w w' e.b e.h h') (hB:B<=w.heap.size):Ring w' B r v (es.set i ⟨e.it,e.b,h',a,o,q⟩):=by
 have hi:=(List.getElem?_eq_some_iff.1 he).1;have hset:∀(j:Nat) (f:Ent),(es.set i ⟨e.it,e.b,h',a,o,q⟩)[j]? = some f->(j=i/\f=⟨e.it,e.b,h',a,o,q⟩)\/(j≠i/\es[j]? = some f):=fun j f hf=>by
  by_cases q:i=j
  ·subst q
   rw[List.getElem?_set_self hi] at hf;injection hf with hf;exact .inl ⟨rfl,hf.symm⟩
  ·rw[List.getElem?_set_ne q] at hf
   exact .inr ⟨fun x=>q x.symm,hf⟩
 have hnew:∀k,Ow e.b h' k->Ow e.b e.h k\/w.heap.size<=k:=fun k hk=>by
  rcases Nat.lt_or_ge k w.heap.size with g | g
  ·exact .inl (hs.own k g hk)
  ·exact .inr g
 have hrow:(es.set i ⟨e.it,e.b,h',a,o,q⟩).flatMap eC=es.flatMap eC:=by
  have:(es.set i ⟨e.it,e.b,h',a,o,q⟩).map eC=es.map eC:=by
   apply List.ext_getElem?;intro j;rw[List.getElem?_map,List.getElem?_map]
   by_cases g:i=j
   ·subst g;rw[List.getElem?_set_self hi,he];rfl
   ·rw[List.getElem?_set_ne g]
  rw[List.flatMap_def,List.flatMap_def,this]
 refine⟨hs.1.blk h.blk (fun x=>(h.off i e he r x).2.1 rfl),?_,h.lo,h.vr,fun j f hf=>?_,fun j f hf k hk=>?_,fun j j2 f f2 hf hf2 hne k hk hk2=>?_⟩
 ·rw[hrow,List.length_set]
  exact Jr hs.1 h.row (fun k hk x=>(h.off i e he k x).2.2 hk)
 ·rcases hset j f hf with⟨_,rfl⟩ | ⟨hj,hf⟩
  ·exact hx
  ·exact(h.box j f hf).chg hs.1 (fun k hk hk2=>h.far j i f e hf he hj k hk hk2)
 ·rcases hset j f hf with⟨_,rfl⟩ | ⟨hj,hf⟩
  ·rcases hnew k hk with g | g
   ·exact h.off i e he k g
   ·exact⟨by omega,fun x=>by have:=h.lt;omega,fun x=>by have:=(World.ownsRow.lt h.row k x).2;omega⟩
  ·exact h.off j f hf k hk
 ·rcases hset j f hf with⟨e1,rfl⟩ | ⟨hj,hf⟩
  ·rcases hset j2 f2 hf2 with⟨e2,rfl⟩ | ⟨hj2,hf2⟩
   ·exact hne (e1.trans e2.symm)
   ·rcases hnew k hk with g | g
    ·exact h.far i j2 e f2 he hf2 (fun x=>hj2 x.symm) k g hk2
    ·have:=(h.box j2 f2 hf2).own_lt k hk2;omega
  ·rcases hset j2 f2 hf2 with⟨e2,rfl⟩ | ⟨hj2,hf2⟩
   ·rcases hnew k hk2 with g | g
    ·exact h.far j i f e hf he hj k hk g
    ·have:=(h.box j f hf).own_lt k hk;omega
   ·exact h.far j j2 f f2 hf hf2 hne k hk hk2
theorem Ring.use_new (h:Ring w B r v es) {i:Nat} {e:Ent} (he:es[i]? = some e) {h':Option Nat} (a o q:Nat) (hs:Cn w w' e.b e.h h'):∀k,RO r v (es.set i ⟨e.it,e.b,h',a,o,q⟩) k->RO r v es k\/w.heap.size<=k:=fun k hk=>by
 have hi:=(List.getElem?_eq_some_iff.1 he).1;rcases hk with hk | hk | ⟨j,f,hf,hk⟩
 ·exact .inl (.inl hk)
 ·exact .inl (.inr (.inl hk))
 ·by_cases g:i=j
  ·subst g
   rw[List.getElem?_set_self hi] at hf;injection hf with hf;subst hf;rcases Nat.lt_or_ge k w.heap.size with g | g
   ·exact .inl (.inr (.inr ⟨i,e,he,hs.own k g hk⟩))
   ·exact .inr g
  ·rw[List.getElem?_set_ne g] at hf
   exact .inl (.inr (.inr ⟨j,f,hf,hk⟩))
theorem Ring.snoc (h:Ring w B r v es) {e:Ent} (hc:Chg (fun k=>k=r\/v.ownBlock=some k) w w') (hb:Blk w' r 119 #[v']) (hrow:w'.ownsRow B 122 36 v' (es.length+1) (es.flatMap eC++eC e))
  (hv:v'.ownBlock=v.ownBlock\/∃k,v'.ownBlock=some k/\w.heap.size<=k/\k≠e.b) (hbx:Box w' e.b e.it.k none e.a e.o e.r) (hbl:w.heap.size<=e.b) (hh:e.h=none) (hB:B<=w.heap.size):Ring w' B r v' (es++[e]):=by
 have hlt:=h.lt;have hsn:∀(j:Nat) (f:Ent),(es++[e])[j]? = some f->(es[j]? = some f)\/(j=es.length/\f=e):=fun j f hf=>by
  by_cases g:j<es.length
  ·rw[List.getElem?_append_left g] at hf;exact .inl hf
  ·rw[List.getElem?_append_right (by omega)] at hf
   have:=(List.getElem?_eq_some_iff.1 hf).1;have e1:j=es.length:=by simp at this;omega
   subst e1;rw[Nat.sub_self] at hf;injection hf with hf;exact .inr ⟨rfl,hf.symm⟩
 have hne:∀k,Ow e.b e.h k->k=e.b:=fun k hk=>by
  rcases hk with hk | hk
  ·exact hk
  ·rw[hh] at hk;cases hk
 have hvk:∀k,v'.ownBlock=some k->k<w.heap.size->v.ownBlock=some k:=fun k hk hl=>by
  rcases hv with g | ⟨q,g1,g2,_⟩
  ·rw[<-g];exact hk
  ·rw[g1] at hk;injection hk with hk;omega
 refine⟨hb,?_,h.lo,fun x=>h.vr (hvk r x hlt),fun j f hf=>?_,fun j f hf k hk=>?_,fun j j2 f f2 hf hf2 hjne k hk hk2=>?_⟩
 ·rw[List.length_append,List.length_singleton,List.flatMap_append,List.flatMap_singleton];exact hrow
 ·rcases hsn j f hf with g | ⟨_,rfl⟩
  ·refine(h.box j f g).chg hc (fun k hk x=>?_)
   rcases x with x | x
   ·exact(h.off j f g k hk).2.1 x
   ·exact(h.off j f g k hk).2.2 x
  ·rw[hh];exact hbx
 ·rcases hsn j f hf with g | ⟨_,rfl⟩
  ·have h1:=h.off j f g k hk
   exact⟨h1.1,h1.2.1,fun x=>h1.2.2 (hvk k x ((h.box j f g).own_lt k hk))⟩
  ·rw[hne k hk]
   refine⟨by omega,by omega,fun x=>?_⟩;rcases hv with g | ⟨q,g1,_,g3⟩
   ·rw[g] at x;have:=(World.ownsRow.lt h.row _ x).2;omega
   ·rw[g1] at x;injection x with x;exact g3 x
 ·rcases hsn j f hf with g | ⟨e1,rfl⟩
  ·rcases hsn j2 f2 hf2 with g2 | ⟨e2,rfl⟩
   ·exact h.far j j2 f f2 g g2 hjne k hk hk2
   ·have:=(h.box j f g).own_lt k hk;have:=hne k hk2;omega
  ·rcases hsn j2 f2 hf2 with g2 | ⟨e2,rfl⟩
   ·have:=(h.box j2 f2 g2).own_lt k hk2;have:=hne k hk;omega
   ·exact hjne (e1.trans e2.symm)
theorem UJ (es:List Ent) (e:Ent):its (es++[e])=its es++[e.it]:=by simp [its]
end
theorem VY (x y:Pr) (w:World):(Op.equalIn 10000 25 (.agg #[.string ⟨x.1.toArray⟩,.string ⟨x.2.toArray⟩]) (.agg #[.string ⟨y.1.toArray⟩,.string ⟨y.2.toArray⟩])).run Tryz.prog w=.ok (decide (x=y)) w:=by
 obtain⟨a,b⟩:=x;obtain⟨c,d⟩:=y;simp only
 by_cases h0:a=c
 ·subst h0
  by_cases h1:b=d
  ·subst h1
   rw[decide_eq_true rfl]
   go_simp
  ·rw[decide_eq_false (fun h=>h1 (congrArg (fun z=>z.2) h))]
   go_simp
 ·rw[decide_eq_false (fun h=>h0 (congrArg (fun z=>z.1) h))]
  go_simp
theorem BG {x y:Pr} (h:x=y):∀w,(Op.equalIn 10000 25 (.agg #[.string ⟨x.1.toArray⟩,.string ⟨x.2.toArray⟩]) (.agg #[.string ⟨y.1.toArray⟩,.string ⟨y.2.toArray⟩])).run Tryz.prog w=.ok true w:=fun w=>by rw[VY,decide_eq_true h]
theorem Cx {x y:Pr} (h:x≠y):∀w,(Op.equalIn 10000 25 (.agg #[.string ⟨x.1.toArray⟩,.string ⟨x.2.toArray⟩]) (.agg #[.string ⟨y.1.toArray⟩,.string ⟨y.2.toArray⟩])).run Tryz.prog w=.ok false w:=fun w=>by rw[VY,decide_eq_false h]
theorem GR:(Tryz.prog.info? 122).map (·.size)=some 36:=by kernel_rfl
theorem Cy:(Tryz.prog.info? 25).map (·.size)=some 2:=by kernel_rfl
def DS:Array Value:=#[.string ⟨#[]⟩,.string ⟨#[]⟩,.int .i64 0,.int .u8 0,.int .u8 0,.int .u8 0,.int .u8 0,.int .u8 0,.int .u8 0,.int .u8 0,.int .u8 0,.int .u8 0,.int .u8 0,.int .u8 0,.int .u8 0,.int .u8 0,.int .u8 0,.int .u8 0,.int .u8 0,.int .u8 0,.int .u8 0,.int .u8 0,.int .u8 0,.int .u8 0,.int .u8 0,.int .u8 0,.int .u8 0,.int .u8 0,.int .u8 0,.int .u8 0,.int .u8 0,.int .u8 0,.int .u8 0,.int .u8 0,.int .u8 0,.pointer none]
def eA (e:Ent):Array Value:=(eC e).toArray
theorem CE (e:Ent):(eA e).size=36:=by simp [eA,Cj]
theorem OA (e:Ent):(eA e).all (·.oneCell')=true:=by
 rw[Array.all_eq_true_iff_forall_mem];intro u hu;exact Ma e u (by simpa [eA] using hu)
theorem Js (e:Ent):(eA e).toList=eC e:=by simp [eA]
theorem SA {w:World} {g:Nat} {t:TypeId} {e:Ent} (h:Blk w g t (eA e)):w.rangeAt g 0 (#[.string ⟨e.it.p.1.toArray⟩,.string ⟨e.it.p.2.toArray⟩]:Array Value).toList:=
 Wh.Cw (pre:=[]) (post:=(eC e).drop 2) h (by rw[Js];rfl) 0 rfl
theorem eA_n {w:World} {g:Nat} {t:TypeId} {e:Ent} (h:Blk w g t (eA e)):w.cell? ⟨g,2,none⟩=some (.int .i64 (e.it.n:Int)):=by
 rw[h.cell,eA,List.getElem?_toArray];rfl
theorem eA_b {w:World} {g:Nat} {t:TypeId} {e:Ent} (h:Blk w g t (eA e)):w.cell? ⟨g,35,none⟩=some (.pointer (some ⟨e.b,0,none⟩)):=by
 rw[h.cell,eA,List.getElem?_toArray,eC,List.getElem?_append_right (by simp [BY]),BY];rfl
def entC (es:List Ent):Option Nat->Array Value
 |none=>DS
 |some j=>match es[j]? with
  |some e=>eA e
  |none=>DS
theorem Mb {es:List Ent} {j:Nat}:entC es (some j)=match es[j]? with
 |some e=>eA e
 |none=>DS:=rfl
theorem Ke (es:List Ent) (o:Option Nat):entC es o=DS\/∃e,entC es o=eA e:=by
 cases o with
 |none=>exact .inl rfl
 |some j=>
  rw[Mb];cases es[j]? with
  |none=>exact .inl rfl
  |some e=>exact .inr ⟨e,rfl⟩
theorem Jt (es:List Ent) (o:Option Nat):(entC es o).size=36:=by
 rcases Ke es o with h | ⟨e,h⟩
 ·rw[h];rfl
 ·rw[h];exact CE _
theorem Md:DS.all (·.oneCell')=true:=by
 have h:∀u∈DS.toList,u.oneCell'=true:=by
  unfold DS;simp only[List.forall_mem_cons];simp [Value.oneCell']
 rw[Array.all_eq_true_iff_forall_mem];exact fun u hu=>h u (Array.mem_def.1 hu)
theorem UK (es:List Ent) (o:Option Nat):(entC es o).all (·.oneCell')=true:=by
 rcases Ke es o with h | ⟨e,h⟩
 ·rw[h];exact Md
 ·rw[h];exact OA _
theorem SB {es:List Ent} {i:Nat} {e:Ent} (h:es[i]? = some e):entC es (some i)=eA e:=by simp [entC,h]
theorem Qb {es:List Ent} {i:Nat} {e:Ent} {p:Pr} (h:es[i]? = some e) (hp:e.it.p=p):Bo (its es) p (i+1)=some i:=by
 rw[Bo,if_pos (by rw[Kc h,<-hp];rfl)]
theorem Nj {es:List Ent} {i:Nat} {e:Ent} {p:Pr} (h:es[i]? = some e) (hp:e.it.p≠p):Bo (its es) p (i+1)=Bo (its es) p i:=by
 rw[Bo,if_neg];rw[Kc h];intro x;injection x with x;exact hp x
theorem Ix (B r:Nat) (v:Value) (es:List Ent) (p:Pr) (w:World) (h:Ring w B r v es) (hl:es.length<=1000) :
  Calls Tryz.prog 43 #[.pointer (some ⟨r,0,none⟩),prV p] w fun e w'=>e=.returned (.agg (entC es (Bz (its es) p)))/\Below w.heap.size w w':=by
 obtain⟨A,c,rfl,hc,hm,hr⟩:=h.num;have hlast:Bz (its es) p=Bo (its es) p es.length:=by rw[Bz,CU]
 rw[hlast];have hb0:=h.blk;obtain⟨n,en⟩:=Ak (es.length);rw[<-en] at hb0 hc hl⊢;have k0:w.cell? ⟨r,0,none⟩=some (.slice A n c):=hb0.cell 0;have hrl:=hb0.lt;have HB0:=I hb0;clear hb0;have HR:=I hr;clear hr;have EN:=I en;clear en hlast h;obtain⟨W,eW⟩:=Ak (((w.alloc (.cells #[.string ⟨p.1.toArray⟩,.string ⟨p.2.toArray⟩] 25)).alloc (.cells DS 122)).alloc (.cells DS 122));have hb:Below w.heap.size w W:=eW▸((Ah.alloc Ag _).alloc (by simp) _).alloc (by simp;omega) _;have HP:=I (show Blk W w.heap.size 25 #[.string ⟨p.1.toArray⟩,.string ⟨p.2.toArray⟩] from eW▸((Blk.new w _ _).alloc _).alloc _);have HRES:=I (show Blk W (w.heap.size+1) 122 DS by have:=Blk.new (w.alloc (.cells #[.string ⟨p.1.toArray⟩,.string ⟨p.2.toArray⟩] 25)) 122 DS;simp only[World.size_alloc] at this;exact eW▸this.alloc _);have HLA:=I (show Blk W (w.heap.size+1+1) 122 DS by have:=Blk.new ((w.alloc (.cells #[.string ⟨p.1.toArray⟩,.string ⟨p.2.toArray⟩] 25)).alloc (.cells DS 122)) 122 DS;simp only[World.size_alloc] at this;exact eW▸this);have HB:=I hb;replace k0:W.cell? ⟨r,0,none⟩=some (.slice A n c):=(hb.cell (p:=⟨r,0,none⟩) hrl).trans k0;replace HR:=I ((HR.o.keep hb));clear hb;go_enter Tryz.func43,Tryz.ntmps43
 go_upto_region 2 with fail
 change Code.wp _ _ _ _ (((w.alloc (.cells #[.string ⟨p.1.toArray⟩,.string ⟨p.2.toArray⟩] 25)).alloc (.cells DS 122)).alloc (.cells DS 122));rw[<-eW];obtain⟨N,eN⟩:=Ak (w.heap.size);rw[<-eN] at HP HRES HLA HB HR hrl⊢;have EN2:=I eN;clear eW eN
 go_wp2
 go_loopw [13] (fun iv wr=>∃i:Nat,i<=n/\iv=.int .i64 (i:Int)/\Below N w wr/\Blk wr N 25 #[.string ⟨p.1.toArray⟩,.string ⟨p.2.toArray⟩]/\Blk wr (N+1) 122 DS/\Blk wr (N+1+1) 122 (entC es (Bo (its es) p i))/\RdR wr N A eC 36 es) (fun iv _=>n - (intOf iv).toNat)
 case atStart=>exact⟨0,Nat.zero_le _,rfl,HB.o,HP.o,HRES.o,HLA.o,HR.o⟩
 case round=>
  clear HB HP HRES HLA HR k0;obtain⟨i,hi,rfl,hb,hp,hres,hla,hr⟩:=hrel;have HB:=I hb;have HP:=I hp;have HRES:=I hres;have HLA:=I hla;have HSZ:=I hla.lt
  by_cases hlt:i<n
  ·have e1:(i:Int)<(n:Int):=by omega
   have e2:(0:Int)<=(i:Int):=by omega
   obtain⟨x,hx⟩:∃x,es[i]? = some x:=⟨es[i]'(by rw[<-EN.o];exact hlt),List.getElem?_eq_getElem _⟩;obtain⟨g,rfl,hgN,hra⟩:=hr.at_ hx;have HR:=I hr;rw[<-Js] at hra;have HRA:=I hra;have ha1:=OA x;have HA1:=I ha1;have his:=GR;rw[<-CE x] at his;have HIS:=I his;have HX:=I hx;have kp0:=hp.cell 0;have kp1:=hp.cell 1;obtain⟨cs,ecs⟩:=Ak (eA x);rw[<-ecs] at HRA HA1 HIS;have ECS:=I ecs;clear hra ha1 his hx hr hb hp hres hla ecs kp0 kp1
   by_cases hq:x.it.p=p
   ·have t1:=BG hq
    have HQ:=I hq;clear hq
    go_wp2_with (first
     |(refine Wh.Ax (by rfl) 122 (.tmp 15) (by rfl) g _ (by rfl) cs _ HRA.o Tryz.underlying122 (by rfl) HIS.o ?_)
     |(refine Wh.Bg (by rfl) 122 (.tmp 7) (.tmp 16) (by rfl) 122 rfl cs (by rfl) (by rfl) (by rw[ECS.o,CE];rfl) HIS.o HA1.o ?_;rintro V hV hb;have HV:=I hV;replace HB:=I (HB.o.trans (hb.mono (by have:=HSZ.o;omega)));replace HP:=I (HP.o.below hb);replace HRES:=I (HRES.o.below hb);replace HLA:=I (HLA.o.below hb);replace HR:=I (HR.o.keep (hb.mono (by have:=HSZ.o;omega)));have kp0:V.cell? ⟨N,0,none⟩=some (.string ⟨p.1.toArray⟩):=HP.o.cell 0;have kp1:V.cell? ⟨N,1,none⟩=some (.string ⟨p.2.toArray⟩):=HP.o.cell 1;have HPR:=I (SA (ECS.o▸hV));have HNG:=I (Nat.lt_of_lt_of_le HSZ.o Ag);clear hV hb)
     |(refine Wh.Ax (by rfl) 25 (.tmp 17) (by rfl) _ 0 (by rfl) _ _ HPR.o Tryz.underlying25 (by rfl) Cy ?_)
     |(refine Wh.Ax (by rfl) 122 (.tmp 7) (by rfl) _ 0 (by rfl) cs _ (Wh.Ae HV.o) Tryz.underlying122 (by rfl) HIS.o ?_)
     |(refine Wh.Bh (by rfl) 122 (.tmp 5) (.tmp 21) (by rfl) (N+1+1) 122 _ HLA.o cs (by rfl) (by rfl) (by rw[Jt,ECS.o,CE]) HIS.o HA1.o ?_;rintro V2 hV2 hg;replace HB:=I (Av HB.o hg (by have:=HRES.o.lt;omega) (by omega));replace HP:=I (HP.o.grown hg (by intro h;injection h with h;omega));replace HRES:=I (HRES.o.grown hg (by intro h;injection h with h;omega));replace HR:=I (HR.o.keep ((Below.refl N V).grown hg (by have:=HRES.o.lt;have:=HLA.o.lt;omega) (fun k hk=>by injection hk with hk;omega)));have HL2:=I hV2;clear hV2 hg kp0 kp1 HLA)
     |fail)
    go_roundw
    case rel=>exact⟨i+1,by omega,by go_num,HB.o,HP.o,HRES.o,by rw[Qb HX.o HQ.o,SB HX.o,<-ECS.o];exact HL2.o,HR.o⟩
    case measure=>simp [intOf];omega
   ·have t1:=Cx hq
    have HQ:=I hq;clear hq
    go_wp2_with (first
     |(refine Wh.Ax (by rfl) 122 (.tmp 15) (by rfl) g _ (by rfl) cs _ HRA.o Tryz.underlying122 (by rfl) HIS.o ?_)
     |(refine Wh.Bg (by rfl) 122 (.tmp 7) (.tmp 16) (by rfl) 122 rfl cs (by rfl) (by rfl) (by rw[ECS.o,CE];rfl) HIS.o HA1.o ?_;rintro V hV hb;have HV:=I hV;replace HB:=I (HB.o.trans (hb.mono (by have:=HSZ.o;omega)));replace HP:=I (HP.o.below hb);replace HRES:=I (HRES.o.below hb);replace HLA:=I (HLA.o.below hb);replace HR:=I (HR.o.keep (hb.mono (by have:=HSZ.o;omega)));have kp0:V.cell? ⟨N,0,none⟩=some (.string ⟨p.1.toArray⟩):=HP.o.cell 0;have kp1:V.cell? ⟨N,1,none⟩=some (.string ⟨p.2.toArray⟩):=HP.o.cell 1;have HPR:=I (SA (ECS.o▸hV));have HNG:=I (Nat.lt_of_lt_of_le HSZ.o Ag);clear hV hb)
     |(refine Wh.Ax (by rfl) 25 (.tmp 17) (by rfl) _ 0 (by rfl) _ _ HPR.o Tryz.underlying25 (by rfl) Cy ?_)
     |fail)
    go_roundw
    case rel=>exact⟨i+1,by omega,by go_num,HB.o,HP.o,HRES.o,by rw[Nj HX.o HQ.o];exact HLA.o,HR.o⟩
    case measure=>simp [intOf];omega
  ·have e1:¬(i:Int)<(n:Int):=by omega
   obtain rfl:n=i:=by omega
   have ha1:=UK es (Bo (its es) p n);have his:=GR;rw[<-Jt es (Bo (its es) p n)] at his;have hss:=Jt es (Bo (its es) p n);obtain⟨cs,ecs⟩:=Ak (entC es (Bo (its es) p n));rw[<-ecs] at ha1 his hss hla;have ECC:=I ecs;have HA1:=I ha1;have HIS:=I his;have HSS:=I hss;have HC:=I hla;clear ha1 his hss hla HLA hr hb hp hres hi ecs
   go_wp2_with (first
    |(refine Wh.Ax (by rfl) 122 (.tmp 5) (by rfl) _ 0 (by rfl) cs _ (Wh.Ae HC.o) Tryz.underlying122 (by rfl) HIS.o ?_)
    |(refine Wh.Bh (by rfl) 122 (.tmp 4) (.tmp 23) (by rfl) (N+1) 122 _ HRES.o cs (by rfl) (by rfl) (by rw[HSS.o];rfl) HIS.o HA1.o ?_;rintro V2 hV2 hg;have HB2:=I (Av HB.o hg (by have:=HSZ.o;omega) (by omega));have HR2:=I hV2;clear hV2 hg)
    |fail)
   refine bodyPost_ret (v:=.agg cs) ?_ ?_ ?_
   ·exact Wh.Au (v:=.agg cs) 4 122 ⟨N+1,0,none⟩ Tryz.results43 (by rfl) (Wh.Al HR2.o Tryz.underlying122 (by rfl) HIS.o)
   ·rfl
   ·exact⟨by rw[ECC.o],by rw[<-EN2.o];exact HB2.o⟩
def BoxR (es:List Ent) (p:Pr) (z:Int) (q:Option Addr) (k:Int):Prop:=
 (∃i x,Cp (its es) p z=some i/\es[i]? = some x/\q=some ⟨x.b,0,none⟩/\k=0)\/(Cp (its es) p z=none/\q=none/\k=4)
theorem SC (B r:Nat) (v:Value) (es:List Ent) (p:Pr) (z:Int) (w:World) (h:Ring w B r v es) (hl:es.length<=1000) :
  Calls Tryz.prog 64 #[.pointer (some ⟨r,0,none⟩),prV p,.int .i64 z] w fun e w'=>∃q k,e=.returned (.tuple #[.pointer q,.int .i64 k])/\BoxR es p z q k/\Below w.heap.size w w':=by
 obtain⟨A,c,rfl,hc,hm,hr⟩:=h.num;have hb0:=h.blk;obtain⟨n,en⟩:=Ak (es.length);rw[<-en] at hb0 hc hl;have k0:w.cell? ⟨r,0,none⟩=some (.slice A n c):=hb0.cell 0;have hrl:=hb0.lt;have HR:=I hr;clear hr;have EN:=I en;clear en h hb0;obtain⟨W,eW⟩:=Ak (w.alloc (.cells #[.string ⟨p.1.toArray⟩,.string ⟨p.2.toArray⟩] 25));have hb:Below w.heap.size w W:=eW▸Ah.alloc Ag _;have HP:=I (show Blk W w.heap.size 25 #[.string ⟨p.1.toArray⟩,.string ⟨p.2.toArray⟩] from eW▸Blk.new w _ _);have HB:=I hb;replace k0:W.cell? ⟨r,0,none⟩=some (.slice A n c):=(hb.cell (p:=⟨r,0,none⟩) hrl).trans k0;replace HR:=I ((HR.o.keep hb));clear hb;go_enter Tryz.func64,Tryz.ntmps64
 go_upto_region 1 with fail
 rw[<-eW];obtain⟨N,eN⟩:=Ak (w.heap.size);rw[<-eN] at HP HB HR hrl⊢;have EN2:=I eN;clear eW eN
 go_wp2
 go_loopw [17] (fun iv wr=>∃i:Nat,i<=n/\iv=.int .i64 (i:Int)/\Below N w wr/\Blk wr N 25 #[.string ⟨p.1.toArray⟩,.string ⟨p.2.toArray⟩]/\RdR wr N A eC 36 es/\(∀(j:Nat) (y:It),j<i->(its es)[j]? = some y->¬(y.p=p/\(y.n:Int)=z))) (fun iv _=>n - (intOf iv).toNat)
 case atStart=>exact⟨0,Nat.zero_le _,rfl,HB.o,HP.o,HR.o,fun j y hj=>absurd hj (Nat.not_lt_zero _)⟩
 case round=>
  clear HB HP HR k0;obtain⟨i,hi,rfl,hb,hp,hr,hno⟩:=hrel;have HB:=I hb;have HP:=I hp;have HNO:=I hno;have HSZ:=I hp.lt
  by_cases hlt:i<n
  ·have e1:(i:Int)<(n:Int):=by omega
   have e2:(0:Int)<=(i:Int):=by omega
   obtain⟨x,hx⟩:∃x,es[i]? = some x:=⟨es[i]'(by rw[<-EN.o];exact hlt),List.getElem?_eq_getElem _⟩;obtain⟨g,rfl,hgN,hra⟩:=hr.at_ hx;have HR:=I hr;rw[<-Js] at hra;have HRA:=I hra;have ha1:=OA x;have HA1:=I ha1;have his:=GR;rw[<-CE x] at his;have HIS:=I his;have HX:=I hx;obtain⟨cs,ecs⟩:=Ak (eA x);rw[<-ecs] at HRA HA1 HIS;have ECS:=I ecs;clear hra ha1 his hx hr hb hp ecs hno
   by_cases hq:x.it.p=p
   ·have t1:=BG hq
    have HQ:=I hq;clear hq
    by_cases hz:(x.it.n:Int)=z
    ·have t2:((x.it.n:Int)==z)=true:=beq_iff_eq.2 hz
     have HZ:=I hz;clear hz
     go_wp2_with (first
      |(refine Wh.Ax (by rfl) 122 (.tmp 19) (by rfl) g _ (by rfl) cs _ HRA.o Tryz.underlying122 (by rfl) HIS.o ?_)
      |(refine Wh.Bg (by rfl) 122 (.tmp 9) (.tmp 20) (by rfl) 122 rfl cs (by rfl) (by rfl) (by rw[ECS.o,CE];rfl) HIS.o HA1.o ?_;rintro V hV hb;replace HB:=I (HB.o.trans (hb.mono (by have:=HSZ.o;omega)));replace HP:=I (HP.o.below hb);replace HR:=I (HR.o.keep (hb.mono (by have:=HSZ.o;omega)));have kp0:V.cell? ⟨N,0,none⟩=some (.string ⟨p.1.toArray⟩):=HP.o.cell 0;have kp1:V.cell? ⟨N,1,none⟩=some (.string ⟨p.2.toArray⟩):=HP.o.cell 1;have HPR:=I (SA (ECS.o▸hV));have kn:=eA_n (ECS.o▸hV);have kb:=eA_b (ECS.o▸hV);clear hV hb)
      |(refine Wh.Ax (by rfl) 25 (.tmp 21) (by rfl) _ 0 (by rfl) _ _ HPR.o Tryz.underlying25 (by rfl) Cy ?_)
      |fail)
     go_ret2
     exact⟨_,_,rfl,.inl ⟨i,x,Ud (Kc HX.o) HQ.o HZ.o HNO.o,HX.o,rfl,rfl⟩,by rw[<-EN2.o];exact HB.o⟩
    ·have t2:((x.it.n:Int)==z)=false:=beq_eq_false_iff_ne.2 hz
     have HZ:=I hz;clear hz
     go_wp2_with (first
      |(refine Wh.Ax (by rfl) 122 (.tmp 19) (by rfl) g _ (by rfl) cs _ HRA.o Tryz.underlying122 (by rfl) HIS.o ?_)
      |(refine Wh.Bg (by rfl) 122 (.tmp 9) (.tmp 20) (by rfl) 122 rfl cs (by rfl) (by rfl) (by rw[ECS.o,CE];rfl) HIS.o HA1.o ?_;rintro V hV hb;replace HB:=I (HB.o.trans (hb.mono (by have:=HSZ.o;omega)));replace HP:=I (HP.o.below hb);replace HR:=I (HR.o.keep (hb.mono (by have:=HSZ.o;omega)));have kp0:V.cell? ⟨N,0,none⟩=some (.string ⟨p.1.toArray⟩):=HP.o.cell 0;have kp1:V.cell? ⟨N,1,none⟩=some (.string ⟨p.2.toArray⟩):=HP.o.cell 1;have HPR:=I (SA (ECS.o▸hV));have kn:=eA_n (ECS.o▸hV);have kb:=eA_b (ECS.o▸hV);clear hV hb)
      |(refine Wh.Ax (by rfl) 25 (.tmp 21) (by rfl) _ 0 (by rfl) _ _ HPR.o Tryz.underlying25 (by rfl) Cy ?_)
      |fail)
     go_roundw
     case rel=>exact⟨i+1,by omega,by go_num,HB.o,HP.o,HR.o,fun j y hj hy=>by
      by_cases g:j=i
      ·subst g
       rw[Kc HX.o] at hy;injection hy with hy;subst hy;exact fun hh=>HZ.o hh.2
      ·exact HNO.o j y (by omega) hy⟩
     case measure=>simp [intOf];omega
   ·have t1:=Cx hq
    have HQ:=I hq;clear hq
    go_wp2_with (first
     |(refine Wh.Ax (by rfl) 122 (.tmp 19) (by rfl) g _ (by rfl) cs _ HRA.o Tryz.underlying122 (by rfl) HIS.o ?_)
     |(refine Wh.Bg (by rfl) 122 (.tmp 9) (.tmp 20) (by rfl) 122 rfl cs (by rfl) (by rfl) (by rw[ECS.o,CE];rfl) HIS.o HA1.o ?_;rintro V hV hb;replace HB:=I (HB.o.trans (hb.mono (by have:=HSZ.o;omega)));replace HP:=I (HP.o.below hb);replace HR:=I (HR.o.keep (hb.mono (by have:=HSZ.o;omega)));have kp0:V.cell? ⟨N,0,none⟩=some (.string ⟨p.1.toArray⟩):=HP.o.cell 0;have kp1:V.cell? ⟨N,1,none⟩=some (.string ⟨p.2.toArray⟩):=HP.o.cell 1;have HPR:=I (SA (ECS.o▸hV));have kn:=eA_n (ECS.o▸hV);have kb:=eA_b (ECS.o▸hV);clear hV hb)
     |(refine Wh.Ax (by rfl) 25 (.tmp 21) (by rfl) _ 0 (by rfl) _ _ HPR.o Tryz.underlying25 (by rfl) Cy ?_)
     |fail)
    go_roundw
    case rel=>exact⟨i+1,by omega,by go_num,HB.o,HP.o,HR.o,fun j y hj hy=>by
     by_cases g:j=i
     ·subst g
      rw[Kc HX.o] at hy;injection hy with hy;subst hy;exact fun hh=>HQ.o hh.1
     ·exact HNO.o j y (by omega) hy⟩
    case measure=>simp [intOf];omega
  ·have e1:¬(i:Int)<(n:Int):=by omega
   obtain rfl:n=i:=by omega
   clear hr hb hp hi hno
   go_wp2
   go_ret2
   exact⟨_,_,rfl,.inr ⟨OY fun j y hy=>HNO.o j y (by rw[EN.o,<-CU];exact(List.getElem?_eq_some_iff.1 hy).1) hy,rfl,rfl⟩,by rw[<-EN2.o];exact HB.o⟩
theorem Nk {B r:Nat} {v:Value} {es:List Ent} {p:Pr} {z:Int} {w:World} {i:Nat} {x:Ent} (h:Ring w B r v es) (hl:es.length<=1000) (hf:Cp (its es) p z=some i) (hx:es[i]? = some x) :
  Calls Tryz.prog 64 #[.pointer (some ⟨r,0,none⟩),prV p,.int .i64 z] w fun e w'=>e=.returned (.tuple #[.pointer (some ⟨x.b,0,none⟩),.int .i64 0])/\Below w.heap.size w w':=by
 refine(SC B r v es p z w h hl).mono ?_;rintro e w' ⟨q,k,rfl,hq,hb⟩;rcases hq with⟨j,y,h1,h2,rfl,rfl⟩ | ⟨h1,_⟩
 ·rw[hf] at h1;injection h1 with h1;subst h1
  rw[hx] at h2;injection h2 with h2;subst h2;exact⟨rfl,hb⟩
 ·rw[hf] at h1;cases h1
theorem KX {B r:Nat} {v:Value} {es:List Ent} {p:Pr} {z:Int} {w:World} (h:Ring w B r v es) (hl:es.length<=1000) (hf:Cp (its es) p z=none) :
  Calls Tryz.prog 64 #[.pointer (some ⟨r,0,none⟩),prV p,.int .i64 z] w fun e w'=>e=.returned (.tuple #[.pointer none,.int .i64 4])/\Below w.heap.size w w':=by
 refine(SC B r v es p z w h hl).mono ?_;rintro e w' ⟨q,k,rfl,hq,hb⟩;rcases hq with⟨j,y,h1,_⟩ | ⟨h1,rfl,rfl⟩
 ·rw[hf] at h1;cases h1
 ·exact⟨rfl,hb⟩
theorem OB (B:Nat) (w:World) (hB:B<=w.heap.size):Calls Tryz.prog 14 #[] w fun e w'=>∃r,e=.returned (.pointer (some ⟨r,0,none⟩))/\w.heap.size<=r/\Ring w' B r (.slice none 0 0) []/\Below w.heap.size w w':=by
 have hb:=(Below.refl w.heap.size w).alloc Ag (.cells #[.slice none 0 0] 119);have hk:=Blk.new w 119 #[.slice none 0 0];have HB:=I hb;clear hb;have HK:=I hk;clear hk;go_enter Tryz.func14,Tryz.ntmps14
 go_wp2
 go_ret;exact⟨_,rfl,Nat.le_refl _,⟨HK.o,World.ownsRow_nil _ _ _ _,hB,by simp [Value.ownBlock],fun i e h=>by simp at h,fun i e h=>by simp at h,fun i j e f h=>by simp at h⟩,HB.o⟩
theorem Me {B r:Nat} {v:Value} {es:List Ent} {p:Pr} {w:World} {i:Nat} {x:Ent} (h:Ring w B r v es) (hl:es.length<=1000) (hf:Bz (its es) p=some i) (hx:es[i]? = some x) :
  Calls Tryz.prog 113 #[.pointer (some ⟨r,0,none⟩),prV p] w fun e w'=>e=.returned (.tuple #[.pointer (some ⟨x.b,0,none⟩),.int .i64 (x.it.n:Int),.int .i64 0])/\Below w.heap.size w w':=by
 have hb:=(Below.refl w.heap.size w).alloc Ag (.cells #[.string ⟨p.1.toArray⟩,.string ⟨p.2.toArray⟩] 25);have c1:=Ix B r v es p _ (h.below hb) hl;rw[hf,SB hx] at c1;have HA1:=I (OA x);have HSS:=I (CE x);have his:=GR;rw[<-CE x] at his;have HIS:=I his;obtain⟨cs,ecs⟩:=Ak (eA x);rw[<-ecs] at c1 HA1 HIS HSS;have ECS:=I ecs;have HB:=I hb;clear h hf hx hb his ecs;go_enter Tryz.func113,Tryz.ntmps113
 go_wp2_with (first
  |(go_at_call 43;refine Aj c1 ?_;rintro w1 hb1;replace HB:=HB.t hb1;clear c1 hb1)
  |(refine Wh.Bg (by rfl) 122 (.tmp 7) (.tmp 12) (by rfl) 122 rfl cs (by rfl) (by rfl) (by rw[HSS.o];rfl) HIS.o HA1.o ?_;rintro V hV hb;replace HB:=HB.t hb;have kn:=eA_n (ECS.o▸hV);have kb:=eA_b (ECS.o▸hV);clear hV hb)
  |fail)
 go_quiet (fail)
 go_wp2
 go_ret3
 exact⟨rfl,below_drewN HB.o _⟩
theorem Kf {B r:Nat} {v:Value} {es:List Ent} {p:Pr} {w:World} (h:Ring w B r v es) (hl:es.length<=1000) (hf:Bz (its es) p=none) :
  Calls Tryz.prog 113 #[.pointer (some ⟨r,0,none⟩),prV p] w fun e w'=>e=.returned (.tuple #[.pointer none,.int .i64 0,.int .i64 4])/\Below w.heap.size w w':=by
 have hb:=(Below.refl w.heap.size w).alloc Ag (.cells #[.string ⟨p.1.toArray⟩,.string ⟨p.2.toArray⟩] 25);have c1:=Ix B r v es p _ (h.below hb) hl;rw[hf,show entC es none=DS from rfl] at c1;have HA1:=I Md;have HSS:=I (show DS.size=36 from rfl);have his:=GR;rw[<-HSS.o] at his;have HIS:=I his;obtain⟨cs,ecs⟩:=Ak (DS);rw[<-ecs] at c1 HA1 HIS HSS;have ECS:=I ecs;have HB:=I hb;clear h hf hb his ecs;go_enter Tryz.func113,Tryz.ntmps113
 go_wp2_with (first
  |(go_at_call 43;refine Aj c1 ?_;rintro w1 hb1;replace HB:=HB.t hb1;clear c1 hb1)
  |(refine Wh.Bg (by rfl) 122 (.tmp 7) (.tmp 12) (by rfl) 122 rfl cs (by rfl) (by rfl) (by rw[HSS.o];rfl) HIS.o HA1.o ?_;rintro V hV hb;replace HB:=HB.t hb;have kb:V.cell? ⟨w1.heap.size,35,none⟩=some (.pointer none):=by{rw[hV.cell,ECS.o];rfl};clear hV hb)
  |fail)
 go_ret3
 exact⟨rfl,HB.o⟩
theorem UL (p:Pr) (w:World) (h1:p.1.length<=1000000000) (h2:p.2.length<=1000000000):Calls Tryz.prog 44 #[prV p] w fun e w'=>e=.returned (prV p)/\Below w.heap.size w w':=by
 have C1:=I (fun w1=>Nm.BO p.1 w1 h1);have C2:=I (fun w1=>Nm.BO p.2 w1 h2);go_enter Tryz.func44,Tryz.ntmps44
 go_upto_region 1 with fail
 obtain⟨W,eW⟩:=Ak ((w.alloc (.cells #[.string ⟨p.1.toArray⟩,.string ⟨p.2.toArray⟩] 25)).alloc (.cells #[.string ⟨#[]⟩,.string ⟨#[]⟩] 25));have hq:=Blk.new (w.alloc (.cells #[.string ⟨p.1.toArray⟩,.string ⟨p.2.toArray⟩] 25)) 25 #[.string ⟨#[]⟩,.string ⟨#[]⟩];rw[show(w.alloc (.cells #[.string ⟨p.1.toArray⟩,.string ⟨p.2.toArray⟩] 25)).heap.size=w.heap.size+1 by simp,<-eW] at hq;have HK:=I (show Blk W w.heap.size 25 #[.string ⟨p.1.toArray⟩,.string ⟨p.2.toArray⟩] by rw[eW];exact(Blk.new _ _ _).alloc _);have HZ:=I hq;have HB:=I (show Below w.heap.size w W by rw[eW];exact(Ah.alloc Ag _).alloc (by simp) _);rw[<-eW];clear eW hq;replace HK:=I (show Blk W.drew _ _ _ from HK.o.drewN 1);replace HZ:=I (show Blk W.drew _ _ _ from HZ.o.drewN 1);replace HB:=I (show Below _ _ W.drew from below_drewN HB.o 1)
 go_region_held3 (fun w'=>w'.cell? ⟨w.heap.size,0,none⟩=some (.string ⟨p.1.toArray⟩)/\w'.cell? ⟨w.heap.size,1,none⟩=some (.string ⟨p.2.toArray⟩)) (first | exact⟨HK.o.cell 0,HK.o.cell 1⟩ | exact⟨(Si.Blk.far (Si.Blk.far HK.o _ _ (by simp)) _ _ (by simp)).cell 0,(Si.Blk.far (Si.Blk.far HK.o _ _ (by simp)) _ _ (by simp)).cell 1⟩) ((first
  |(go_at_call 49;(with_reducible refine Calls.mono (C1.o _) ?_);rintro e w1 ⟨rfl,hb⟩;clear C1;replace HK:=I (HK.o.below hb);replace HZ:=I (HZ.o.below hb);replace HB:=HB.t hb;have kz0:w1.cell? ⟨w.heap.size+1,0,none⟩=some (.string ⟨#[]⟩):=HZ.o.cell 0;have kz1:w1.cell? ⟨w.heap.size+1,1,none⟩=some (.string ⟨#[]⟩):=HZ.o.cell 1;have fz:=HZ.o.frozen;clear hb)
  |(go_at_call 49;(with_reducible refine Calls.mono (C2.o _) ?_);rintro e w2 ⟨rfl,hb⟩;clear C2 kz0 kz1 fz;replace HK:=I (HK.o.below hb);replace HZ:=I (HZ.o.below hb);replace HB:=HB.t hb;have kz0:w2.cell? ⟨w.heap.size+1,0,none⟩=some (.string ⟨#[]⟩):=HZ.o.cell 0;have kz1:w2.cell? ⟨w.heap.size+1,1,none⟩=some (.string ⟨#[]⟩):=HZ.o.cell 1;have fz:=HZ.o.frozen;clear hb)))
 go_wp2
 have hz:=(HZ.o.set 0 (.string ⟨p.1.toArray⟩)).set 1 (.string ⟨p.2.toArray⟩);rw[show(((#[.string ⟨#[]⟩,.string ⟨#[]⟩]:Array Value).setIfInBounds 0 (.string ⟨p.1.toArray⟩)).setIfInBounds 1 (.string ⟨p.2.toArray⟩))=#[.string ⟨p.1.toArray⟩,.string ⟨p.2.toArray⟩] from rfl] at hz;refine bodyPost_ret (v:=prV p) ?_ ?_ ?_
 ·exact Wh.Au (v:=prV p) 2 25 ⟨w.heap.size+1,0,none⟩ Tryz.results44 (by rfl) (Wh.Al hz Tryz.underlying25 (by rfl) Cy)
 ·rfl
 ·exact⟨rfl,Si.Ay (Si.Ay HB.o (by simp) _) (by simp) _⟩
def kC (k:Nat->UInt8):List Value:=(AO k).toList
def OwnK (w:World) (base:Nat) (v:Value) (K:List (Nat->UInt8)):Prop:=w.ownsRow base 35 32 v K.length (K.flatMap kC)
theorem Nl (p:Pr) (w:World) (h1:p.1.length<=1000000000) (h2:p.2.length<=1000000000):Calls Tryz.prog 42 #[prV p] w fun e w'=>e=.returned (.bool (prB p))/\Below w.heap.size w w':=Nm.AX p.1 p.2 w h1 h2
theorem OC (es:List Ent) (o:Option Nat):(entC es o)[2]? = some (.int .i64 (numO (its es) o:Int)):=by
 cases o with
 |none=>rfl
 |some j=>
  rw[Mb];cases h:es[j]? with
  |none=>simp [numO,its,h];rfl
  |some e=>
   have:numO (its es) (some j)=e.it.n:=by simp [numO,its,h]
   rw[this];rfl
theorem Mf (cs:Array Value) (z:Int) (h:cs[2]? = some (.int .i64 z)) (w:World):(Instr.field 122 (.agg cs) 1).run Tryz.prog w=.ok (.int .i64 z) w:=by
 unfold Instr.field part asAgg
 go_simp
theorem Nn {w w':World} {row:Option Nat} (h:w.grownBy w' row):Chg (fun q=>row=some q) w w':=⟨h.os,h.tape,h.output,h.size,fun i hi hn=>h.block i hi (fun e=>hn e.symm)⟩
theorem KY {w W5 w6:World} {B r b:Nat} {v v6:Value} {es:List Ent} {it:It} (h:Ring w B r v es) (hB:B<=w.heap.size) (hb:Below w.heap.size w W5) (h5:Ring W5 B r v es) (hx:Box W5 b it.k none 0 0 0) (hbl:w.heap.size<=b)
  (ho:w6.ownsRow B 122 36 v6 (es++[(⟨it,b,none,0,0,0⟩:Ent)]).length ((es++[(⟨it,b,none,0,0,0⟩:Ent)]).flatMap eC)) (hg:W5.grownBy w6 v.ownBlock) (hv:v6.ownBlock=v.ownBlock\/v6.ownBlock=some W5.heap.size) (hbs:True) :
  Ring (w6.setCell ⟨r,0,none⟩ v6) B r v6 (es++[⟨it,b,none,0,0,0⟩])/\Chg (fun q=>q=r\/v.ownBlock=some q) w (w6.setCell ⟨r,0,none⟩ v6)/\(∀q,RO r v6 (es++[⟨it,b,none,0,0,0⟩]) q->RO r v es q\/w.heap.size<=q):=by
 have hrl:=h.lt;have hlt:=hx.lt;have hne:r≠b:=by omega
 have hvr:v6.ownBlock≠some r:=fun x=>by
  rcases hv with g | g
  ·rw[g] at x;exact h.vr x
  ·rw[g] at x;injection x with x;have:=h5.lt;omega
 have hset:Chg (fun q=>q=r) w6 (w6.setCell ⟨r,0,none⟩ v6):=Chg.set (p:=⟨r,0,none⟩) (Chg.refl (fun q=>q=r) w6) (.inl rfl) v6;have hc:Chg (fun q=>q=r\/v.ownBlock=some q) w (w6.setCell ⟨r,0,none⟩ v6):=
  (((Chg.of_below hb).trans (Nn hg) (fun q _ x=>.inr x)).trans hset (fun q _ x=>.inl x):Chg (fun q=>q=r\/v.ownBlock=some q) w _)
 have hnew:∀q,RO r v6 (es++[⟨it,b,none,0,0,0⟩]) q->RO r v es q\/w.heap.size<=q:=fun q hq=>by
  rcases hq with hq | hq | ⟨i,e,he,hq⟩
  ·exact .inl (.inl hq)
  ·rcases hv with g | g
   ·exact .inl (.inr (.inl (g▸hq)))
   ·rw[g] at hq;injection hq with hq;exact .inr (by have:=hb.size;omega)
  ·by_cases hi:i<es.length
   ·rw[List.getElem?_append_left hi] at he
    exact .inl (.inr (.inr ⟨i,e,he,hq⟩))
   ·rw[List.getElem?_append_right (by omega)] at he
    have e1:=(List.getElem?_eq_some_iff.1 he).1;have e2:i - es.length=0:=by simp at e1;omega
    rw[e2] at he;injection he with he;subst he;rcases hq with hq | hq
    ·exact .inr (by rw[hq];exact hbl)
    ·cases hq
 refine⟨h.snoc hc ?_ ?_ ?_ ?_ hbl rfl hB,hc,hnew⟩
 ·exact(h5.blk.grown hg h5.vr).set 0 v6
 ·have:=Jr hset ho (fun q hq x=>hvr (x▸hq))
  rw[List.length_append,List.length_singleton,List.flatMap_append,List.flatMap_singleton] at this;exact this
 ·rcases hv with g | g
  ·exact .inl g
  ·exact .inr ⟨_,g,hb.size,by show W5.heap.size≠b;omega⟩
 ·have h6:Box w6 b it.k none 0 0 0:=hx.chg (Nn hg) (fun q hq x=>by
   rcases hq with hq | hq
   ·subst hq;have:=(World.ownsRow.lt h.row q x).2;omega
   ·cases hq)
  exact h6.chg hset (fun q hq x=>by
   rcases hq with hq | hq
   ·exact hne (x▸hq)
   ·cases hq)
theorem Xz:(Tryz.prog.info? 122).map (fun i=>(i.zero,i.size,i.bytes))=some (some (.agg DS),36,80):=by kernel_rfl
section
variable {P:Program} {w w':World} {a:Act} {dst:Option Tmp} {ty:TypeId} {pos:String} {after:Array _} {guard:Option (Nat×Bool)}
theorem Bv {t:TypeId} {parts:Array (Nat×Operand)} {vs:List (Nat×Value)} {cells:Array Value} (hv:(parts.map fun x=>(x.1,a.eval x.2)).toList=vs) (h:P.built t vs=some cells) :
  (execOp a.eval ⟨dst,.build t parts,ty,pos,after,guard⟩).run P w=.ok (.value (.agg cells)) w:=by
 have:=run_build (P:=P) w t (parts.map fun x=>(x.1,a.eval x.2)) cells (by rw[hv];exact h);simp only[execOp,Sem.run_bind,this,Result.andThen_ok,Sem.run_pure]
theorem Dn {t:TypeId} {x:Operand} {cs:Array Value} {s:Value} (hx:a.eval x=.agg cs) (h:(Instr.buildSlice t 1 #[(0,.agg cs)]).run P w=.ok s w') :
  (execOp a.eval ⟨dst,.buildSlice t 1 #[(0,x)],ty,pos,after,guard⟩).run P w=.ok (.value s) w':=by
 simp only[execOp,Sem.run_bind,List.map_toArray,List.map_cons,List.map_nil,hx,h,Result.andThen_ok,Sem.run_pure]
theorem FT {t:TypeId} {x y:Operand} {u v s:Value} (hx:a.eval x=u) (hy:a.eval y=v) (h:(Builtin.append_ #[t,t] ty #[u,v]).run P w=.ok s w') :
  (execOp a.eval ⟨dst,.call {callee:=.builtin .append,args:=#[x,y],argTypes:=#[t,t]},ty,pos,after,guard⟩).run P w=.ok (.value s) w':=by
 simp only[execOp,resolve,invoke,builtin,Sem.run_bind,Sem.run_pure,Result.andThen_ok,List.map_toArray,List.map_cons,List.map_nil,hx,hy,h]
end
theorem Ju (p:Pr) (n b:Nat) (k:Nat->UInt8):Tryz.prog.built 122 [(0,prV p),(1,.int .i64 (n:Int)),(2,.agg (AO k)),(3,.pointer (some ⟨b,0,none⟩))]=some (eA ⟨⟨p,n,k⟩,b,none,0,0,0⟩):=by
 kernel_rfl
theorem ZA (B r:Nat) (v:Value) (es:List Ent) (p:Pr) (k:Nat->UInt8) (w:World) (h:Ring w B r v es) (hB:B<=w.heap.size) (h1:p.1.length<=1000000000) (h2:p.2.length<=1000000000) (hp:prB p=true) (hl:es.length<40) (hn:Bw (its es) p<255) :
  Calls Tryz.prog 15 #[.pointer (some ⟨r,0,none⟩),prV p,.agg (AO k)] w fun e w'=>e=.returned (.tuple #[.int .i64 ((Bw (its es) p:Int)+1),.int .i64 0])/\∃v' b,w.heap.size<=b/\Ring w' B r v' (es++[⟨⟨p,Bw (its es) p+1,k⟩,b,none,0,0,0⟩])/\Chg (fun q=>q=r\/v.ownBlock=some q) w w'/\(∀q,RO r v' (es++[⟨⟨p,Bw (its es) p+1,k⟩,b,none,0,0,0⟩]) q->RO r v es q\/w.heap.size<=q):=by
 obtain⟨A,c,rfl,hc,hm,hr⟩:=h.num;obtain⟨n,en⟩:=Ak (es.length);have EN:=I en;obtain⟨z,ez⟩:=Ak (Bw (its es) p);have EZ:=I ez;have hq:=OC es (Bz (its es) p);rw[show numO (its es) (Bz (its es) p)=z from ez.symm] at hq;have CL:=I (fun(w1:World) (h:Ring w1 B r (.slice A es.length c) es)=>Ix B r (.slice A es.length c) es p w1 h (by omega));have CP:=I (fun w1=>Nl p w1 h1 h2);have CC:=I (fun w1=>UL p w1 h1 h2);have CN:=I (fun w1=>KJ k w1);rw[hp] at CP;obtain⟨kv,ekv⟩:=Ak (AO k);obtain⟨cs,ecs⟩:=Ak (entC es (Bz (its es) p));rw[<-ecs] at CL hq;rw[<-ekv] at CN⊢;rw[<-ez] at hn⊢;rw[<-en] at hl;have hrl:=h.lt;obtain⟨W,eW⟩:=Ak ((w.alloc (.cells #[.string ⟨p.1.toArray⟩,.string ⟨p.2.toArray⟩] 25)).alloc (.cells kv 35));have hb:Below w.heap.size w W:=eW▸(Ah.alloc Ag _).alloc (by simp) _;have HP:=I (show Blk W w.heap.size 25 #[.string ⟨p.1.toArray⟩,.string ⟨p.2.toArray⟩] from eW▸(Blk.new w _ _).alloc _);have HK:=I (show Blk W (w.heap.size+1) 35 kv by have:=Blk.new (w.alloc (.cells #[.string ⟨p.1.toArray⟩,.string ⟨p.2.toArray⟩] 25)) 35 kv;simp only[World.size_alloc] at this;exact eW▸this);have HB:=I hb;have HRG:=I (h.below hb);have HW:=I h;have kp0:W.cell? ⟨w.heap.size,0,none⟩=some (.string ⟨p.1.toArray⟩):=HP.o.cell 0;have kp1:W.cell? ⟨w.heap.size,1,none⟩=some (.string ⟨p.2.toArray⟩):=HP.o.cell 1;have hfl:=Mf cs _ hq;have hwr:IntKind.i64.wrap ((z:Int)+1)=(z:Int)+1:=by rw[IntKind.wrap_i64];omega
 have EK:=I ekv;have HKI:=I (show(Tryz.prog.info? 35).map (·.size)=some kv.size by rw[ekv];exact Fv k);obtain⟨i0,hi0,hz0,hs0,hb0⟩:=info_parts Xz;have KI1:=I hi0;have KI2:=I hz0;have KI3:=I hs0;have KI4:=I hb0;have SL1:=I (fun(w1:World) (b:Nat)=>Wh.GQ (P:=Tryz.prog) w1 117 122 (eA ⟨⟨p,z+1,k⟩,b,none,0,0,0⟩) i0 _ Tryz.underlying117 hi0 hz0 (by rw[hs0,CE]) (by rw[CE];omega) (by rw[CE];omega));have HBB:=I hB;clear hi0 hz0 hs0 hb0 hB;have HN:=I hn;have t1:decide (40<=(n:Int))=false:=by simp;omega
 have t2:decide (255<=(z:Int))=false:=by simp;omega
 have HL:=I hl;clear hb h hr h1 h2 hp hn hl ekv ecs ez en hc hm hq;go_enter Tryz.func15,Tryz.ntmps15
 go_upto_region 1 with fail
 rw[<-eW];clear eW
 go_wp2_with (first
  |(go_at_call 42;refine Aj (CP.o _) ?_;rintro w1 hb;replace HB:=HB.t hb;replace HRG:=I (HRG.o.below hb);replace HP:=I (HP.o.below hb);replace HK:=I (HK.o.below hb);have kp0:w1.cell? ⟨w.heap.size,0,none⟩=some (.string ⟨p.1.toArray⟩):=HP.o.cell 0;have kp1:w1.cell? ⟨w.heap.size,1,none⟩=some (.string ⟨p.2.toArray⟩):=HP.o.cell 1;have kr:w1.cell? ⟨r,0,none⟩=some (.slice A n c):=EN.o▸HRG.o.blk.cell 0;clear hb)
  |(go_at_call 43;refine Aj (CL.o _ HRG.o) ?_;rintro w2 hb;clear kp0 kp1 kr;replace HB:=HB.t hb;replace HRG:=I (HRG.o.below hb);replace HP:=I (HP.o.below hb);replace HK:=I (HK.o.below hb);have kp0:w2.cell? ⟨w.heap.size,0,none⟩=some (.string ⟨p.1.toArray⟩):=HP.o.cell 0;have kp1:w2.cell? ⟨w.heap.size,1,none⟩=some (.string ⟨p.2.toArray⟩):=HP.o.cell 1;have kr:w2.cell? ⟨r,0,none⟩=some (.slice A n c):=EN.o▸HRG.o.blk.cell 0;clear hb)
  |fail)
 replace HP:=I (show Blk w2.drew _ _ _ from HP.o.drewN 1);replace HK:=I (show Blk w2.drew _ _ _ from HK.o.drewN 1);replace HRG:=I HRG.o.drew;replace HB:=I (show Below w.heap.size w w2.drew from below_drewN HB.o 1);clear kp0 kp1 kr;refine Reg.Bx (fun w'=>Blk w' w.heap.size 25 #[.string ⟨p.1.toArray⟩,.string ⟨p.2.toArray⟩]/\Blk w' (w.heap.size+1) 35 kv) 18 rfl (by kernel_rfl) ⟨HP.o,HK.o⟩ ?_;obtain⟨W2,eW2⟩:=Ak (w2.drew);rw[<-eW2] at HP HK HRG HB⊢;clear eW2;refine Reg.ty 0 rfl ⟨HP.o,HK.o⟩ ?_;refine Reg.ty 1 rfl ⟨HP.o,HK.o⟩ ?_;refine Reg.ty 2 rfl ⟨HP.o,HK.o⟩ ?_;refine Reg.ty 3 rfl ⟨HP.o,HK.o⟩ ?_;refine Reg.tw 5 (v:=.agg #[.string ⟨p.1.toArray⟩,.string ⟨p.2.toArray⟩]) rfl ⟨HP.o,HK.o⟩ (fun w' hS=>by exact Wh.Bq (.tmp 4) rfl rfl hS.1 Tryz.underlying25 rfl Cy) ?_;refine Reg.ty 7 rfl ⟨HP.o,HK.o⟩ ?_;refine Reg.tw 8 (v:=.int .i64 ((z:Int)+1)) rfl ⟨HP.o,HK.o⟩ (fun w' hS=>by go_simp) ?_;refine Reg.tw 9 (v:=.agg kv) rfl ⟨HP.o,HK.o⟩ (fun w' hS=>by exact Wh.Bq (.tmp 5) rfl rfl hS.2 Tryz.underlying35 rfl HKI.o) ?_;refine Reg.tw 10 (v:=.agg kv) rfl ⟨HP.o,HK.o⟩ (fun w' hS=>by exact Wh.Bq (.tmp 5) rfl rfl hS.2 Tryz.underlying35 rfl HKI.o) ?_;refine Reg.b2 4 6 ?_ ?_
 ·left
  have kr:W2.cell? ⟨r,0,none⟩=some (.slice A n c):=EN.o▸HRG.o.blk.cell 0;refine⟨_,_,_,_,_,_,_,_,rfl,by rfl,by(go_simp;rfl),⟨HP.o,HK.o⟩,?_⟩;simp only[Act.put,U,Aa,Ab];clear kr;refine Reg.b1 6 ?_
  right
  refine⟨_,_,_,_,_,_,44,#[prV p],rfl,by rfl,by go_simp,?_⟩;refine(CC.o _).mono ?_;rintro e w3 ⟨rfl,hb⟩;replace HB:=HB.t hb;replace HRG:=I (HRG.o.below hb);replace HP:=I (HP.o.below hb);replace HK:=I (HK.o.below hb);clear hb;refine⟨_,rfl,⟨HP.o,HK.o⟩,?_⟩;simp only[Act.put,U,Aa,Ab];refine Reg.b1 11 ?_
  right
  refine⟨_,_,_,_,_,_,27,#[.agg kv],rfl,by rfl,by go_simp,?_⟩;refine(CN.o _).mono ?_;rintro e w4 ⟨b,rfl,hbl,hbx,hb⟩;have HBL:=I (Nat.le_trans HB.o.size hbl);replace HB:=HB.t hb;replace HRG:=I (HRG.o.below hb);replace HP:=I (HP.o.below hb);replace HK:=I (HK.o.below hb);have HBX:=I hbx;clear hb hbl hbx;refine⟨_,rfl,⟨HP.o,HK.o⟩,?_⟩;simp only[Act.put,U,Aa,Ab];refine Reg.tw 12 (v:=.agg (eA ⟨⟨p,z+1,k⟩,b,none,0,0,0⟩)) rfl ⟨HP.o,HK.o⟩ (fun w' hS=>by exact Bv (by go_simp) (EK.o▸Ju p (z+1) b k)) ?_;refine Reg.b1 13 ?_
  left
  have hb:Below w4.heap.size w4 (w4.alloc (.cells (eA ⟨⟨p,z+1,k⟩,b,none,0,0,0⟩) 122)):=Ah.alloc Ag _;refine⟨_,_,_,_,_,_,.slice (some ⟨w4.heap.size,0,none⟩) 1 1,(w4.alloc (.cells (eA ⟨⟨p,z+1,k⟩,b,none,0,0,0⟩) 122)),rfl,by rfl,Dn rfl (SL1.o _ _),⟨HP.o.below hb,HK.o.below hb⟩,?_⟩;simp only[Act.put,U,Aa,Ab];have HNB:=I (Blk.new w4 122 (eA ⟨⟨p,z+1,k⟩,b,none,0,0,0⟩));have HBX5:=I (HBX.o.below hb);have HBL5:=I HBX.o.lt;replace HB:=HB.t hb;replace HRG:=I (HRG.o.below hb);replace HP:=I (HP.o.below hb);replace HK:=I (HK.o.below hb);clear hb;obtain⟨W5,eW5⟩:=Ak ((w4.alloc (.cells (eA ⟨⟨p,z+1,k⟩,b,none,0,0,0⟩) 122)));have HS5:=I (show w4.heap.size<W5.heap.size by rw[eW5];simp);rw[<-eW5] at HNB HBX5 HB HRG HP HK⊢;clear eW5;refine Reg.b1 14 ?_
  left
  obtain⟨v6,w6,hrun,ho6,hg6,hv6⟩:=Wh.Hs (P:=Tryz.prog) eC 36 80 Cj Ma W5 117 117 122 i0 _ Tryz.underlying117 KI1.o KI2.o KI3.o KI4.o (by rfl) (by omega) B _ es HRG.o.row ⟨⟨p,z+1,k⟩,b,none,0,0,0⟩ w4.heap.size HNB.o (by have:=EN.o;have:=HL.o;omega) (by omega) (Nat.le_trans HBB.o HB.o.size);rw[<-EN.o] at hrun;replace HP:=I (HP.o.grown hg6 (fun x=>by have:=(World.ownsRow.lt HW.o.row _ x).2;omega));replace HK:=I (HK.o.grown hg6 (fun x=>by have:=(World.ownsRow.lt HW.o.row _ x).2;omega));refine⟨_,_,_,_,_,_,v6,w6,rfl,by rfl,FT rfl rfl hrun,⟨HP.o,HK.o⟩,?_⟩;simp only[Act.put,U,Aa,Ab];refine Reg.ty 15 rfl ⟨HP.o,HK.o⟩ ?_;refine Reg.ty 16 rfl ⟨HP.o,HK.o⟩ ?_;have hfin:=fun(x:True)=>KY HW.o HBB.o HB.o HRG.o (it:=⟨p,z+1,k⟩) HBX5.o HBL.o ho6 hg6 hv6 x
  have hr6:=HRG.o.blk.grown hg6 HRG.o.vr;obtain⟨A7,c7,e7,_⟩:=Fz Cj ho6;obtain⟨m7,em7⟩:=Ak ((es++[(⟨⟨p,z+1,k⟩,b,none,0,0,0⟩:Ent)]).length);rw[<-em7] at e7;subst e7;have f0:=hr6.frozen 0;have k6:w6.cell? ⟨r,0,none⟩=some _:=hr6.cell 0;refine Reg.Bk 17 (w6.setCell ⟨r,0,none⟩ (.slice A7 m7 c7)) rfl (by kernel_rfl) (by rfl) (by go_simp) ⟨Si.Blk.far HP.o _ _ (by simp;have:=HW.o.lt;omega),Si.Blk.far HK.o _ _ (by simp;have:=HW.o.lt;omega)⟩ ?_;simp only[Act.put,U,Aa,Ab];refine wpAnyH_done (by kernel_rfl) ?_ _;clear f0 k6 hr6 ho6 hg6 hv6 hrun em7;have HFIN:=I (hfin trivial);clear hfin
  go_wp2
  go_ret2
  exact⟨rfl,_,b,HBL.o,HFIN.o.1,HFIN.o.2.1,HFIN.o.2.2⟩
 ·right
  refine⟨_,_,_,_,_,_,44,#[prV p],rfl,by rfl,by go_simp,?_⟩;refine(CC.o _).mono ?_;rintro e w3 ⟨rfl,hb⟩;replace HB:=HB.t hb;replace HRG:=I (HRG.o.below hb);replace HP:=I (HP.o.below hb);replace HK:=I (HK.o.below hb);clear hb;refine⟨_,rfl,⟨HP.o,HK.o⟩,?_⟩;simp only[Act.put,U,Aa,Ab];refine Reg.b2 4 11 ?_ ?_
  ·left
   have kr:w3.cell? ⟨r,0,none⟩=some (.slice A n c):=EN.o▸HRG.o.blk.cell 0;refine⟨_,_,_,_,_,_,_,_,rfl,by rfl,by(go_simp;rfl),⟨HP.o,HK.o⟩,?_⟩;simp only[Act.put,U,Aa,Ab];clear kr;refine Reg.b1 11 ?_
   right
   refine⟨_,_,_,_,_,_,27,#[.agg kv],rfl,by rfl,by go_simp,?_⟩;refine(CN.o _).mono ?_;rintro e w4 ⟨b,rfl,hbl,hbx,hb⟩;have HBL:=I (Nat.le_trans HB.o.size hbl);replace HB:=HB.t hb;replace HRG:=I (HRG.o.below hb);replace HP:=I (HP.o.below hb);replace HK:=I (HK.o.below hb);have HBX:=I hbx;clear hb hbl hbx;refine⟨_,rfl,⟨HP.o,HK.o⟩,?_⟩;simp only[Act.put,U,Aa,Ab];refine Reg.tw 12 (v:=.agg (eA ⟨⟨p,z+1,k⟩,b,none,0,0,0⟩)) rfl ⟨HP.o,HK.o⟩ (fun w' hS=>by exact Bv (by go_simp) (EK.o▸Ju p (z+1) b k)) ?_;refine Reg.b1 13 ?_
   left
   have hb:Below w4.heap.size w4 (w4.alloc (.cells (eA ⟨⟨p,z+1,k⟩,b,none,0,0,0⟩) 122)):=Ah.alloc Ag _;refine⟨_,_,_,_,_,_,.slice (some ⟨w4.heap.size,0,none⟩) 1 1,(w4.alloc (.cells (eA ⟨⟨p,z+1,k⟩,b,none,0,0,0⟩) 122)),rfl,by rfl,Dn rfl (SL1.o _ _),⟨HP.o.below hb,HK.o.below hb⟩,?_⟩;simp only[Act.put,U,Aa,Ab];have HNB:=I (Blk.new w4 122 (eA ⟨⟨p,z+1,k⟩,b,none,0,0,0⟩));have HBX5:=I (HBX.o.below hb);have HBL5:=I HBX.o.lt;replace HB:=HB.t hb;replace HRG:=I (HRG.o.below hb);replace HP:=I (HP.o.below hb);replace HK:=I (HK.o.below hb);clear hb;obtain⟨W5,eW5⟩:=Ak ((w4.alloc (.cells (eA ⟨⟨p,z+1,k⟩,b,none,0,0,0⟩) 122)));have HS5:=I (show w4.heap.size<W5.heap.size by rw[eW5];simp);rw[<-eW5] at HNB HBX5 HB HRG HP HK⊢;clear eW5;refine Reg.b1 14 ?_
   left
   obtain⟨v6,w6,hrun,ho6,hg6,hv6⟩:=Wh.Hs (P:=Tryz.prog) eC 36 80 Cj Ma W5 117 117 122 i0 _ Tryz.underlying117 KI1.o KI2.o KI3.o KI4.o (by rfl) (by omega) B _ es HRG.o.row ⟨⟨p,z+1,k⟩,b,none,0,0,0⟩ w4.heap.size HNB.o (by have:=EN.o;have:=HL.o;omega) (by omega) (Nat.le_trans HBB.o HB.o.size);rw[<-EN.o] at hrun;replace HP:=I (HP.o.grown hg6 (fun x=>by have:=(World.ownsRow.lt HW.o.row _ x).2;omega));replace HK:=I (HK.o.grown hg6 (fun x=>by have:=(World.ownsRow.lt HW.o.row _ x).2;omega));refine⟨_,_,_,_,_,_,v6,w6,rfl,by rfl,FT rfl rfl hrun,⟨HP.o,HK.o⟩,?_⟩;simp only[Act.put,U,Aa,Ab];refine Reg.ty 15 rfl ⟨HP.o,HK.o⟩ ?_;refine Reg.ty 16 rfl ⟨HP.o,HK.o⟩ ?_;have hfin:=fun(x:True)=>KY HW.o HBB.o HB.o HRG.o (it:=⟨p,z+1,k⟩) HBX5.o HBL.o ho6 hg6 hv6 x
   have hr6:=HRG.o.blk.grown hg6 HRG.o.vr;obtain⟨A7,c7,e7,_⟩:=Fz Cj ho6;obtain⟨m7,em7⟩:=Ak ((es++[(⟨⟨p,z+1,k⟩,b,none,0,0,0⟩:Ent)]).length);rw[<-em7] at e7;subst e7;have f0:=hr6.frozen 0;have k6:w6.cell? ⟨r,0,none⟩=some _:=hr6.cell 0;refine Reg.Bk 17 (w6.setCell ⟨r,0,none⟩ (.slice A7 m7 c7)) rfl (by kernel_rfl) (by rfl) (by go_simp) ⟨Si.Blk.far HP.o _ _ (by simp;have:=HW.o.lt;omega),Si.Blk.far HK.o _ _ (by simp;have:=HW.o.lt;omega)⟩ ?_;simp only[Act.put,U,Aa,Ab];refine wpAnyH_done (by kernel_rfl) ?_ _;clear f0 k6 hr6 ho6 hg6 hv6 hrun em7;have HFIN:=I (hfin trivial);clear hfin
   go_wp2
   go_ret2
   exact⟨rfl,_,b,HBL.o,HFIN.o.1,HFIN.o.2.1,HFIN.o.2.2⟩
  ·right
   refine⟨_,_,_,_,_,_,27,#[.agg kv],rfl,by rfl,by go_simp,?_⟩;refine(CN.o _).mono ?_;rintro e w4 ⟨b,rfl,hbl,hbx,hb⟩;have HBL:=I (Nat.le_trans HB.o.size hbl);replace HB:=HB.t hb;replace HRG:=I (HRG.o.below hb);replace HP:=I (HP.o.below hb);replace HK:=I (HK.o.below hb);have HBX:=I hbx;clear hb hbl hbx;refine⟨_,rfl,⟨HP.o,HK.o⟩,?_⟩;simp only[Act.put,U,Aa,Ab];refine Reg.tw 12 (v:=.agg (eA ⟨⟨p,z+1,k⟩,b,none,0,0,0⟩)) rfl ⟨HP.o,HK.o⟩ (fun w' hS=>by exact Bv (by go_simp) (EK.o▸Ju p (z+1) b k)) ?_;refine Reg.b2 4 13 ?_ ?_
   ·left
    have kr:w4.cell? ⟨r,0,none⟩=some (.slice A n c):=EN.o▸HRG.o.blk.cell 0;refine⟨_,_,_,_,_,_,_,_,rfl,by rfl,by(go_simp;rfl),⟨HP.o,HK.o⟩,?_⟩;simp only[Act.put,U,Aa,Ab];clear kr;refine Reg.b1 13 ?_
    left
    have hb:Below w4.heap.size w4 (w4.alloc (.cells (eA ⟨⟨p,z+1,k⟩,b,none,0,0,0⟩) 122)):=Ah.alloc Ag _;refine⟨_,_,_,_,_,_,.slice (some ⟨w4.heap.size,0,none⟩) 1 1,(w4.alloc (.cells (eA ⟨⟨p,z+1,k⟩,b,none,0,0,0⟩) 122)),rfl,by rfl,Dn rfl (SL1.o _ _),⟨HP.o.below hb,HK.o.below hb⟩,?_⟩;simp only[Act.put,U,Aa,Ab];have HNB:=I (Blk.new w4 122 (eA ⟨⟨p,z+1,k⟩,b,none,0,0,0⟩));have HBX5:=I (HBX.o.below hb);have HBL5:=I HBX.o.lt;replace HB:=HB.t hb;replace HRG:=I (HRG.o.below hb);replace HP:=I (HP.o.below hb);replace HK:=I (HK.o.below hb);clear hb;obtain⟨W5,eW5⟩:=Ak ((w4.alloc (.cells (eA ⟨⟨p,z+1,k⟩,b,none,0,0,0⟩) 122)));have HS5:=I (show w4.heap.size<W5.heap.size by rw[eW5];simp);rw[<-eW5] at HNB HBX5 HB HRG HP HK⊢;clear eW5;refine Reg.b1 14 ?_
    left
    obtain⟨v6,w6,hrun,ho6,hg6,hv6⟩:=Wh.Hs (P:=Tryz.prog) eC 36 80 Cj Ma W5 117 117 122 i0 _ Tryz.underlying117 KI1.o KI2.o KI3.o KI4.o (by rfl) (by omega) B _ es HRG.o.row ⟨⟨p,z+1,k⟩,b,none,0,0,0⟩ w4.heap.size HNB.o (by have:=EN.o;have:=HL.o;omega) (by omega) (Nat.le_trans HBB.o HB.o.size);rw[<-EN.o] at hrun;replace HP:=I (HP.o.grown hg6 (fun x=>by have:=(World.ownsRow.lt HW.o.row _ x).2;omega));replace HK:=I (HK.o.grown hg6 (fun x=>by have:=(World.ownsRow.lt HW.o.row _ x).2;omega));refine⟨_,_,_,_,_,_,v6,w6,rfl,by rfl,FT rfl rfl hrun,⟨HP.o,HK.o⟩,?_⟩;simp only[Act.put,U,Aa,Ab];refine Reg.ty 15 rfl ⟨HP.o,HK.o⟩ ?_;refine Reg.ty 16 rfl ⟨HP.o,HK.o⟩ ?_;have hfin:=fun(x:True)=>KY HW.o HBB.o HB.o HRG.o (it:=⟨p,z+1,k⟩) HBX5.o HBL.o ho6 hg6 hv6 x
    have hr6:=HRG.o.blk.grown hg6 HRG.o.vr;obtain⟨A7,c7,e7,_⟩:=Fz Cj ho6;obtain⟨m7,em7⟩:=Ak ((es++[(⟨⟨p,z+1,k⟩,b,none,0,0,0⟩:Ent)]).length);rw[<-em7] at e7;subst e7;have f0:=hr6.frozen 0;have k6:w6.cell? ⟨r,0,none⟩=some _:=hr6.cell 0;refine Reg.Bk 17 (w6.setCell ⟨r,0,none⟩ (.slice A7 m7 c7)) rfl (by kernel_rfl) (by rfl) (by go_simp) ⟨Si.Blk.far HP.o _ _ (by simp;have:=HW.o.lt;omega),Si.Blk.far HK.o _ _ (by simp;have:=HW.o.lt;omega)⟩ ?_;simp only[Act.put,U,Aa,Ab];refine wpAnyH_done (by kernel_rfl) ?_ _;clear f0 k6 hr6 ho6 hg6 hv6 hrun em7;have HFIN:=I (hfin trivial);clear hfin
    go_wp2
    go_ret2
    exact⟨rfl,_,b,HBL.o,HFIN.o.1,HFIN.o.2.1,HFIN.o.2.2⟩
   ·left
    have hb:Below w4.heap.size w4 (w4.alloc (.cells (eA ⟨⟨p,z+1,k⟩,b,none,0,0,0⟩) 122)):=Ah.alloc Ag _;refine⟨_,_,_,_,_,_,.slice (some ⟨w4.heap.size,0,none⟩) 1 1,(w4.alloc (.cells (eA ⟨⟨p,z+1,k⟩,b,none,0,0,0⟩) 122)),rfl,by rfl,Dn rfl (SL1.o _ _),⟨HP.o.below hb,HK.o.below hb⟩,?_⟩;simp only[Act.put,U,Aa,Ab];have HNB:=I (Blk.new w4 122 (eA ⟨⟨p,z+1,k⟩,b,none,0,0,0⟩));have HBX5:=I (HBX.o.below hb);have HBL5:=I HBX.o.lt;replace HB:=HB.t hb;replace HRG:=I (HRG.o.below hb);replace HP:=I (HP.o.below hb);replace HK:=I (HK.o.below hb);clear hb;obtain⟨W5,eW5⟩:=Ak ((w4.alloc (.cells (eA ⟨⟨p,z+1,k⟩,b,none,0,0,0⟩) 122)));have HS5:=I (show w4.heap.size<W5.heap.size by rw[eW5];simp);rw[<-eW5] at HNB HBX5 HB HRG HP HK⊢;clear eW5;refine Reg.b1 4 ?_
    left
    have kr:W5.cell? ⟨r,0,none⟩=some (.slice A n c):=EN.o▸HRG.o.blk.cell 0;refine⟨_,_,_,_,_,_,_,_,rfl,by rfl,by(go_simp;rfl),⟨HP.o,HK.o⟩,?_⟩;simp only[Act.put,U,Aa,Ab];clear kr;refine Reg.b1 14 ?_
    left
    obtain⟨v6,w6,hrun,ho6,hg6,hv6⟩:=Wh.Hs (P:=Tryz.prog) eC 36 80 Cj Ma W5 117 117 122 i0 _ Tryz.underlying117 KI1.o KI2.o KI3.o KI4.o (by rfl) (by omega) B _ es HRG.o.row ⟨⟨p,z+1,k⟩,b,none,0,0,0⟩ w4.heap.size HNB.o (by have:=EN.o;have:=HL.o;omega) (by omega) (Nat.le_trans HBB.o HB.o.size);rw[<-EN.o] at hrun;replace HP:=I (HP.o.grown hg6 (fun x=>by have:=(World.ownsRow.lt HW.o.row _ x).2;omega));replace HK:=I (HK.o.grown hg6 (fun x=>by have:=(World.ownsRow.lt HW.o.row _ x).2;omega));refine⟨_,_,_,_,_,_,v6,w6,rfl,by rfl,FT rfl rfl hrun,⟨HP.o,HK.o⟩,?_⟩;simp only[Act.put,U,Aa,Ab];refine Reg.ty 15 rfl ⟨HP.o,HK.o⟩ ?_;refine Reg.ty 16 rfl ⟨HP.o,HK.o⟩ ?_;have hfin:=fun(x:True)=>KY HW.o HBB.o HB.o HRG.o (it:=⟨p,z+1,k⟩) HBX5.o HBL.o ho6 hg6 hv6 x
    have hr6:=HRG.o.blk.grown hg6 HRG.o.vr;obtain⟨A7,c7,e7,_⟩:=Fz Cj ho6;obtain⟨m7,em7⟩:=Ak ((es++[(⟨⟨p,z+1,k⟩,b,none,0,0,0⟩:Ent)]).length);rw[<-em7] at e7;subst e7;have f0:=hr6.frozen 0;have k6:w6.cell? ⟨r,0,none⟩=some _:=hr6.cell 0;refine Reg.Bk 17 (w6.setCell ⟨r,0,none⟩ (.slice A7 m7 c7)) rfl (by kernel_rfl) (by rfl) (by go_simp) ⟨Si.Blk.far HP.o _ _ (by simp;have:=HW.o.lt;omega),Si.Blk.far HK.o _ _ (by simp;have:=HW.o.lt;omega)⟩ ?_;simp only[Act.put,U,Aa,Ab];refine wpAnyH_done (by kernel_rfl) ?_ _;clear f0 k6 hr6 ho6 hg6 hv6 hrun em7;have HFIN:=I (hfin trivial);clear hfin
    go_wp2
    go_ret2
    exact⟨rfl,_,b,HBL.o,HFIN.o.1,HFIN.o.2.1,HFIN.o.2.2⟩
theorem XA (r:Option Nat) (p:Pr) (k:Nat->UInt8) (w:World) (h1:p.1.length<=1000000000) (h2:p.2.length<=1000000000) (hp:r=none\/prB p=false) :
  Calls Tryz.prog 15 #[.pointer (r.map fun r=>⟨r,0,none⟩),prV p,.agg (AO k)] w fun e w'=>e=.returned (.tuple #[.int .i64 0,.int .i64 1])/\Below w.heap.size w w':=by
 have CP:=I (fun w1=>Nl p w1 h1 h2);obtain⟨kv,ekv⟩:=Ak (AO k);rw[<-ekv];obtain⟨W,eW⟩:=Ak ((w.alloc (.cells #[.string ⟨p.1.toArray⟩,.string ⟨p.2.toArray⟩] 25)).alloc (.cells kv 35));have hb:Below w.heap.size w W:=eW▸(Ah.alloc Ag _).alloc (by simp) _;have hb0:Blk W w.heap.size 25 #[.string ⟨p.1.toArray⟩,.string ⟨p.2.toArray⟩]:=eW▸(Blk.new w _ _).alloc _;have kp0:W.cell? ⟨w.heap.size,0,none⟩=some (.string ⟨p.1.toArray⟩):=hb0.cell 0;have kp1:W.cell? ⟨w.heap.size,1,none⟩=some (.string ⟨p.2.toArray⟩):=hb0.cell 1;have HB:=I hb;clear hb hb0 h1 h2 ekv;cases r with
 |none=>
  clear hp;go_enter Tryz.func15,Tryz.ntmps15
  go_upto_region 1 with fail
  rw[<-eW];clear eW
  go_wp2
  go_ret2
  exact⟨rfl,HB.o⟩
 |some r=>
  have hp:prB p=false:=by
   rcases hp with h | h
   ·cases h
   ·exact h
  rw[hp] at CP;clear hp;show Calls _ _ #[.pointer (some ⟨r,0,none⟩),prV p,.agg kv] _ _;go_enter Tryz.func15,Tryz.ntmps15
  go_upto_region 1 with fail
  rw[<-eW];clear eW
  go_wp2_with (first
   |(go_at_call 42;refine Aj (CP.o _) ?_;rintro w1 hb;replace HB:=HB.t hb;clear hb)
   |fail)
  go_ret2
  exact⟨rfl,HB.o⟩
theorem UM (B r:Nat) (v:Value) (es:List Ent) (p:Pr) (k:Nat->UInt8) (w:World) (h:Ring w B r v es) (h1:p.1.length<=1000000000) (h2:p.2.length<=1000000000) (hp:prB p=true) (hl:40<=es.length) (hl2:es.length<=1000) :
  Calls Tryz.prog 15 #[.pointer (some ⟨r,0,none⟩),prV p,.agg (AO k)] w fun e w'=>e=.returned (.tuple #[.int .i64 0,.int .i64 13])/\Below w.heap.size w w':=by
 obtain⟨A,c,rfl,hc,hm,hr⟩:=h.num;obtain⟨n,en⟩:=Ak (es.length);have EN:=I en;obtain⟨z,ez⟩:=Ak (Bw (its es) p);have hq:=OC es (Bz (its es) p);rw[show numO (its es) (Bz (its es) p)=z from ez.symm] at hq;have CL:=I (fun(w1:World) (h:Ring w1 B r (.slice A es.length c) es)=>Ix B r (.slice A es.length c) es p w1 h (by omega));have CP:=I (fun w1=>Nl p w1 h1 h2);rw[hp] at CP;obtain⟨kv,ekv⟩:=Ak (AO k);obtain⟨cs,ecs⟩:=Ak (entC es (Bz (its es) p));rw[<-ecs] at CL hq;rw[<-ekv];rw[<-en] at hl;have hrl:=h.lt;obtain⟨W,eW⟩:=Ak ((w.alloc (.cells #[.string ⟨p.1.toArray⟩,.string ⟨p.2.toArray⟩] 25)).alloc (.cells kv 35));have hb:Below w.heap.size w W:=eW▸(Ah.alloc Ag _).alloc (by simp) _;have HP:=I (show Blk W w.heap.size 25 #[.string ⟨p.1.toArray⟩,.string ⟨p.2.toArray⟩] from eW▸(Blk.new w _ _).alloc _);have HK:=I (show Blk W (w.heap.size+1) 35 kv by have:=Blk.new (w.alloc (.cells #[.string ⟨p.1.toArray⟩,.string ⟨p.2.toArray⟩] 25)) 35 kv;simp only[World.size_alloc] at this;exact eW▸this);have HB:=I hb;have HRG:=I (h.below hb);have HW:=I h;have kp0:W.cell? ⟨w.heap.size,0,none⟩=some (.string ⟨p.1.toArray⟩):=HP.o.cell 0;have kp1:W.cell? ⟨w.heap.size,1,none⟩=some (.string ⟨p.2.toArray⟩):=HP.o.cell 1;have hfl:=Mf cs _ hq;have t1:decide (40<=(n:Int))=true:=by simp;omega
 clear hb h hr h1 h2 hp hl ekv ecs ez en hc hm hq hl2;go_enter Tryz.func15,Tryz.ntmps15
 go_upto_region 1 with fail
 rw[<-eW];clear eW
 go_wp2_with (first
  |(go_at_call 42;refine Aj (CP.o _) ?_;rintro w1 hb;replace HB:=HB.t hb;replace HRG:=I (HRG.o.below hb);replace HP:=I (HP.o.below hb);replace HK:=I (HK.o.below hb);have kp0:w1.cell? ⟨w.heap.size,0,none⟩=some (.string ⟨p.1.toArray⟩):=HP.o.cell 0;have kp1:w1.cell? ⟨w.heap.size,1,none⟩=some (.string ⟨p.2.toArray⟩):=HP.o.cell 1;have kr:w1.cell? ⟨r,0,none⟩=some (.slice A n c):=EN.o▸HRG.o.blk.cell 0;clear hb)
  |(go_at_call 43;refine Aj (CL.o _ HRG.o) ?_;rintro w2 hb;clear kp0 kp1 kr;replace HB:=HB.t hb;replace HRG:=I (HRG.o.below hb);replace HP:=I (HP.o.below hb);replace HK:=I (HK.o.below hb);have kp0:w2.cell? ⟨w.heap.size,0,none⟩=some (.string ⟨p.1.toArray⟩):=HP.o.cell 0;have kp1:w2.cell? ⟨w.heap.size,1,none⟩=some (.string ⟨p.2.toArray⟩):=HP.o.cell 1;have kr:w2.cell? ⟨r,0,none⟩=some (.slice A n c):=EN.o▸HRG.o.blk.cell 0;clear hb)
  |fail)
 go_ret2
 exact⟨rfl,HB.o⟩
theorem XC (B r:Nat) (v:Value) (es:List Ent) (p:Pr) (k:Nat->UInt8) (w:World) (h:Ring w B r v es) (hB:B<=w.heap.size) (h1:p.1.length<=1000000000) (h2:p.2.length<=1000000000) (hl:es.length<=40) (hn:Num (its es)) :
  Calls Tryz.prog 15 #[.pointer (some ⟨r,0,none⟩),prV p,.agg (AO k)] w fun e w'=>e=.returned (.tuple #[.int .i64 (addN (its es) p:Int),.int .i64 (addE (its es) p:Int)])/\∃v' es',Ring w' B r v' es'/\its es'=addL (its es) p k/\(es'=es\/∃x,es'=es++[x]/\x.a=0/\x.o=0/\x.r=0)/\Chg (fun q=>q=r\/v.ownBlock=some q) w w'/\(∀q,RO r v' es' q->RO r v es q\/w.heap.size<=q):=by
 cases hp:prB p with
 |false=>
  refine(XA (some r) p k w h1 h2 (.inr hp)).mono ?_;rintro e w' ⟨rfl,hb⟩;refine⟨by rw[addN,addE,hp];rfl,v,es,h.below hb,by rw[addL,hp];rfl,.inl rfl,Chg.of_below hb,fun q hq=>.inl hq⟩
 |true=>
  by_cases hx:es.length<40
  ·have hx2:(its es).length<40:=by rw[CU];exact hx
   have h255:Bw (its es) p<255:=by have:=WB hn p;omega
   refine(ZA B r v es p k w h hB h1 h2 hp hx h255).mono ?_;rintro e w' ⟨rfl,v',b,hbl,hr,hc,hnw⟩;refine⟨by rw[addN,addE,hp,if_pos rfl,if_pos rfl,if_pos hx2,if_pos hx2];rfl,v',_,hr,?_,.inr ⟨_,rfl,rfl,rfl,rfl⟩,hc,hnw⟩;rw[UJ,addL,hp,if_pos rfl,if_pos hx2]
  ·have hx2:¬(its es).length<40:=by rw[CU];exact hx
   refine(UM B r v es p k w h h1 h2 hp (by omega) (by omega)).mono ?_;rintro e w' ⟨rfl,hb⟩;refine⟨by rw[addN,addE,hp,if_pos rfl,if_pos rfl,if_neg hx2,if_neg hx2];rfl,v,es,h.below hb,?_,.inl rfl,Chg.of_below hb,fun q hq=>.inl hq⟩;rw[addL,hp,if_pos rfl,if_neg hx2]
def kB (b:UInt8) (i:Nat):UInt8:=if i=0 then b else 0
abbrev p1:Pr:=([65],[120])
abbrev AT (r:Nat) (v:Value) (q:Nat):Prop:=q=r\/v.ownBlock=some q
theorem XD {r:Nat} {v:Value} {es:List Ent} {q:Nat} (h:AT r v q):RO r v es q:=by
 rcases h with h | h
 ·exact .inl h
 ·exact .inr (.inl h)
section
variable {w w':World} {B r i:Nat} {v v':Value} {es es':List Ent} {e:Ent} {A:Option Addr} {xs:List Value}
theorem XE (he:es[i]? = some e) {k:Nat} (h:Ow e.b e.h k):RO r v es k:=.inr (.inr ⟨i,e,he,h⟩)
end
end Rg
end Go.Proofs.YtlchkbpffaclmaaGreat
