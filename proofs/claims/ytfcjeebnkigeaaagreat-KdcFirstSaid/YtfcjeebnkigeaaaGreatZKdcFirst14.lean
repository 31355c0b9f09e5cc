import Derived.Test.YtfcjeebnkigeaaaGreatZKdcFirst13
set_option maxHeartbeats 25600000
set_option maxRecDepth 100000
set_option linter.unusedVariables false
set_option linter.unusedSimpArgs false
namespace Go.Proofs.YtfcjeebnkigeaaaGreat
section
namespace Kd
open Af Se
open Nm (krb L)
open Rg (It Cc BB numO)
open Ms
open DerP (elem encI)
open SeL (Bz Cm)
theorem TS {p:L} {n:Int} {u:Int} {ks:Nat→UInt8} (hp:p.length≤784) (hn:0≤n) (hn2:n≤1099511627776) (hu:0≤u) (hu2:u≤255):Bz ks u n p=(DV ks u.toNat n.toNat p,0):=by
 rw[Bz,if_pos ⟨hu,hu2,hn,hn2,hp⟩]
theorem Gl {p:L} {n:Int} {u:Int} {ks:Nat→UInt8} (hp:p.length≤784) (hn:0≤n) (hn2:n≤1099511627776) (hu:0≤u) (hu2:u≤255):Cm ks u (Bz ks u n p).1=(p,0):=by
 rw[TS hp hn hn2 hu hu2,Cm,if_pos ⟨hu,hu2⟩];have h1:=TO ks u.toNat n.toNat p (by omega) hp;have h2:=TP ks u.toNat n.toNat p (by omega);simp only;rw[if_pos h1,h2]
theorem Mt {p:Pt} (hk:p.ss.length=32) (hx:ptB p=true):(ptE p).length≤500:=by
 obtain⟨_,h2,h3,_,_⟩:=Dh hx;have l1:=(Bn h2).1;have l2:=Av 4 p.ss;have l3:=Av 27 p.tr;have l4:=AG p.st;have l5:=AG p.en;have l6:=Av 99 [prE p.c,elem 4 p.ss,elem 27 p.tr,encI p.st,encI p.en].flatten;have l7:[prE p.c,elem 4 p.ss,elem 27 p.tr,encI p.st,encI p.en].flatten.length=(prE p.c).length+((elem 4 p.ss).length+((elem 27 p.tr).length+((encI p.st).length+(encI p.en).length))):=by simp
 rw[ptE];omega
theorem Mu {p:Rp} (hk:p.ss.length=32) (hx:rpB p=true):(rpE p).length≤500:=by
 have h':prB p.s=true∧tmB p.st=true∧tmB p.en=true∧tmB p.no=true:=by simpa [rpB] using hx
 have l1:=(Bn h'.1).1;have l2:=Av 4 p.ss;have l4:=AG p.st;have l5:=AG p.en;have l6:=AG p.no;have l7:=Av 122 [elem 4 p.ss,prE p.s,encI p.st,encI p.en,encI p.no].flatten;have l8:[elem 4 p.ss,prE p.s,encI p.st,encI p.en,encI p.no].flatten.length=(elem 4 p.ss).length+((prE p.s).length+((encI p.st).length+((encI p.en).length+(encI p.no).length))):=by simp
 rw[rpE];omega
theorem Mv {p:Pt} (hk:p.ss.length=32) (hx:ptB p=true):ptO p=some (ptE p):=by rw[ptO,limO,if_pos ⟨hx,by have:=Mt hk hx;omega⟩]
theorem Mw {p:Rp} (hk:p.ss.length=32) (hx:rpB p=true):rpO p=some (rpE p):=by rw[rpO,limO,if_pos ⟨hx,by have:=Mu hk hx;omega⟩]
theorem XQ {p:Pt} (hx:ptB p=false):ptO p=none:=by rw[ptO,limO,hx];rfl
theorem XR {p:Rp} (hx:rpB p=false):rpO p=none:=by rw[rpO,limO,hx];rfl
theorem XS {p:Pt} (hk:p.ss.length=32):(ptO p).isSome=ptB p:=by
 cases h:ptB p with
 |true=>rw[Mv hk h];rfl
 |false=>rw[XQ h];rfl
theorem XT {p:Rp} (hk:p.ss.length=32):(rpO p).isSome=rpB p:=by
 cases h:rpB p with
 |true=>rw[Mw hk h];rfl
 |false=>rw[XR h];rfl
theorem Wl {p:Pt} (hk:p.ss.length=32) (hx:ptB p=true):ptD (ptE p)=some p:=by rw[ptD,Qo hx hk];rw[if_pos (Mv hk hx)]
theorem Wm {p:Rp} (hk:p.ss.length=32) (hx:rpB p=true):rpD (rpE p)=some p:=by rw[rpD,Qp hx hk];rw[if_pos (Mw hk hx)]
theorem XU {l:List It} {n:Nat} {c s:Pr} {P:Pt} {no:Int} {ks:Nat→UInt8} {u:Int} (hk:P.ss.length=32) (hp:ptB P=true) (hr:rpB (rpOf P s no)=true) :
  ansL l n c s P no ks u=(0,⟨c,⟨s,BB l s,(Bz (keyL l s) 2 ((n+1:Nat):Int) (ptE P)).1⟩,(Bz ks u ((n+1+1:Nat):Int) (rpE (rpOf P s no))).1⟩):=by
 have hk2:(rpOf P s no).ss.length=32:=hk;rw[ansL,XS hk,XT hk2,hp,hr,Mv hk hp,Mw hk2 hr];rfl
end Kd
end
section
namespace Kd
open Af Se
open Nm (krb L)
open Rg (It Cc BB numO Num)
open Rt (Tp isT Sm)
abbrev Pr:=L×L
def rA:L:=[65,46,69,68,85]
def rE:L:=[69,68,85]
def rB:L:=[66,46,69,68,85]
def pAnn:Pr:=(rA,[97,110,110])
def Cx:Pr:=(rA,[109,97,105,108])
def pWeb:Pr:=(rE,[119,101,98])
def kq (n:UInt8):Nat→UInt8:=fun i=>if i=0 then n else if i=1 then 7 else 0
def kb (n:UInt8):L:=(List.range 32).map (kq n)
def tT:Tp:=⟨[rA,rE,rB],[(rA,rE),(rE,rA),(rE,rB),(rB,rE)],[]⟩
def itA:List It:=[⟨kr rA rA,1,kq 10⟩,⟨kr rA rE,1,kq 99⟩,⟨kr rE rA,1,kq 12⟩,⟨pAnn,1,kq 13⟩,⟨Cx,1,kq 14⟩]
def itE:List It:=[⟨kr rE rE,1,kq 10⟩,⟨kr rA rE,1,kq 99⟩,⟨kr rE rB,1,kq 12⟩,⟨pWeb,1,kq 13⟩]
def itX (above:Bool):List It:=if above then itE else itA
def rX (above:Bool):L:=if above then rE else rA
theorem Rv (n:UInt8):(kb n).length=32:=by simp [kb]
theorem Jz (n:UInt8):(bvs (kb n)).toArray=AP (kq n):=by simp [bvs,kb,AP]
theorem TT:isT tT=true:=by decide +kernel
theorem TU:Sm tT:=⟨by decide,by decide,by decide,by decide,by decide,by decide⟩
theorem numA:Num itA:=by
 intro j i h
 match j,h with
 |0,h=>injection h with h;subst h;decide +kernel
 |1,h=>injection h with h;subst h;decide +kernel
 |2,h=>injection h with h;subst h;decide +kernel
 |3,h=>injection h with h;subst h;decide +kernel
 |4,h=>injection h with h;subst h;decide +kernel
 |j+5,h=>simp [itA] at h
theorem numE:Num itE:=by
 intro j i h
 match j,h with
 |0,h=>injection h with h;subst h;decide +kernel
 |1,h=>injection h with h;subst h;decide +kernel
 |2,h=>injection h with h;subst h;decide +kernel
 |3,h=>injection h with h;subst h;decide +kernel
 |j+4,h=>simp [itE] at h
theorem numX (a:Bool):Num (itX a):=by cases a<;>first | exact numA | exact numE
end Kd
end
section
namespace Wh
open Go.RowKit Af
section
variable {w w':World} {g o:Nat} {t:TypeId} {cs ds ps:Array Value} {pre mid post:List Value}
theorem Ag (h:Blk w g t cs):w.rangeAt g 0 cs.toList:=fun j v hv=>by
 rw[Nat.zero_add,h.cell];simpa using hv
theorem Dm (h:Blk w g t cs) (hc:cs.toList=pre++(mid++post)) (o:Nat) (ho:o=pre.length):w.rangeAt g o mid:=fun j v hv=>by
 subst ho;have hj:j<mid.length:=(List.getElem?_eq_some_iff.1 hv).1;rw[h.cell,←Array.getElem?_toList,hc,List.getElem?_append_right (by omega),Nat.add_sub_cancel_left,List.getElem?_append_left hj];exact hv
theorem BX (h:Blk w g t cs) (o n:Nat) (hn:o+n≤cs.size):w.there g o n:=fun j hj=>by
 rw[h.cell,Array.getElem?_eq_getElem (by omega)];exact⟨rfl,h.frozen (o+j)⟩
theorem BN {g:Nat} {t:TypeId}:∀(vs:List Value) (o:Nat) (w:World) (cs:Array Value),Blk w g t cs→o+vs.length≤cs.size→
  ∃ds:Array Value,Blk (w.setCells g o vs) g t ds∧ds.size=cs.size∧(∀i,o≤i→i<o+vs.length→ds[i]? = vs[i - o]?)∧(∀i,i<o∨o+vs.length≤i→ds[i]? = cs[i]?)
 | [],o,w,cs,h,hl=>⟨cs,h,rfl,fun i h1 h2=>by simp at h2;omega,fun i _=>rfl⟩
 |v :: r,o,w,cs,h,hl=>by
  rw[World.setCells];simp only[List.length_cons] at hl;obtain⟨ds,h1,h2,h3,h4⟩:=BN r (o+1) _ _ (h.set o v) (by simp;omega);simp only[List.length_cons];refine⟨ds,h1,by simpa using h2,fun i hi hj=>?_,fun i hi=>?_⟩
  ·by_cases e:i=o
   ·subst e
    rw[h4 i (by omega),Nat.sub_self];rw[Array.getElem?_setIfInBounds_self_of_lt (by omega)]
    rfl
   ·rw[h3 i (by omega) (by omega),show i - o=(i - (o+1))+1 by omega]
    simp
  ·rw[h4 i (by omega)]
   exact Array.getElem?_setIfInBounds_ne (by omega)
theorem AK (h:Blk w g t cs) (hs:cs.size=ds.size):Blk (w.setCells g 0 ds.toList) g t ds:=by
 obtain⟨es,h1,h2,h3,_⟩:=BN ds.toList 0 w cs h (by simp;omega);have e:es=ds:=by
  apply Array.ext_getElem?;intro i
  by_cases hi:i<ds.size
  ·rw[h3 i (by omega) (by simp;omega)];simp
  ·rw[Array.getElem?_eq_none (by omega),Array.getElem?_eq_none (by omega)]
 rw[←e];rw[←e] at h1;exact h1
theorem GS {row:Option Nat} {a:World} {g:Nat} (hp:row=some g∨a.heap.size≤g):∀(vs:List Value) (o:Nat) (w:World),a.grownBy w row→a.grownBy (w.setCells g o vs) row
 | [],_,_,h=>h
 |v :: r,o,w,h=>by rw[World.setCells];exact GS hp r (o+1) _ (Ay h (p:=⟨g,o,none⟩) hp v)
theorem Ds (w:World) (g o:Nat) (vs:List Value):w.grownBy (w.setCells g o vs) (some g):=GS (.inl rfl) vs o w (World.grownBy.refl _ _)
end
section
variable {P:Program} {ops:Array Oper} {rest:List Oper} {op:Oper} {a:Act} {w:World} {Q:Exit→Act→World→Prop}
theorem AA (hw:Region.wanted op (yielded ops a.tmps)=true) (ty:TypeId) (x:Operand) (ho:op.op = .load ty x)
  (g o:Nat) (hx:a.eval x = .pointer (some ⟨g,o,none⟩)) (cs:Array Value) (d:TypeDesc) (hc:w.rangeAt g o cs.toList)
  (hu:P.underlying ty=some d) (hd:d.isRow=true) (hi:(P.info? ty).map (·.size)=some cs.size)
  (h:wpList P ops Q rest (a.put op.dst (.agg cs)) w):wpList P ops Q (op :: rest) a w:=
 BigFrame.wpList_want hw fun _ hK=>wp_load_mid ty x ho g o hx cs.toList d hc hu hd (by rw[Array.length_toList];exact hi) (by simpa using hK _ _ h)
theorem Rw (w:World) (t:TypeId) (lit cs:Array Value) (hs:lit.size=cs.size):Blk ((w.alloc (.cells lit t)).setCells w.heap.size 0 cs.toList) w.heap.size t cs∧Below w.heap.size w ((w.alloc (.cells lit t)).setCells w.heap.size 0 cs.toList):=
 ⟨AK (Blk.new w t lit) hs,Al ((Below.refl w.heap.size w).alloc (Nat.le_refl _) _) (Ds _ _ _ _) (by simp) (Nat.le_refl _)⟩
theorem BY {w0:World} {lit:Array Value} (hgd:op.guard=none) (ty:TypeId) (x y:Operand) (ho:op.op = .store ty x y) (t:TypeId) (hw:w=w0.alloc (.cells lit t))
  (cells:Array Value) (hx:a.eval x = .pointer (some ⟨w0.heap.size,0,none⟩)) (hy:a.eval y = .agg cells) (hs:lit.size=cells.size)
  (hi:(P.info? ty).map (·.size)=some cells.size) (h1:cells.all (·.oneCell')=true)
  (h:∀V,Blk V w0.heap.size t cells→Below w0.heap.size w0 V→wpList P ops Q rest (a.put op.dst undef) V):wpList P ops Q (op :: rest) a w:=by
 subst hw;have hV:=Rw w0 t lit cells hs;exact wpList_store_mid hgd ty x y ho w0.heap.size 0 cells hx hy (BX (Blk.new w0 t lit) _ _ (by omega)) hi h1 (h _ hV.1 hV.2)
theorem CU (hgd:op.guard=none) (ty:TypeId) (x y:Operand) (ho:op.op = .store ty x y) (g:Nat) (t:TypeId) (old:Array Value) (hb:Blk w g t old)
  (cells:Array Value) (hx:a.eval x = .pointer (some ⟨g,0,none⟩)) (hy:a.eval y = .agg cells) (hs:old.size=cells.size)
  (hi:(P.info? ty).map (·.size)=some cells.size) (h1:cells.all (·.oneCell')=true)
  (h:∀V,Blk V g t cells→w.grownBy V (some g)→wpList P ops Q rest (a.put op.dst undef) V):wpList P ops Q (op :: rest) a w:=
 wpList_store_mid hgd ty x y ho g 0 cells hx hy (BX hb _ _ (by omega)) hi h1 (h _ (AK hb hs) (Ds _ _ _ _))
theorem An {fn:Func} {tmps:Array Value} {w:World} {v:Value} (t:Nat) (ty:TypeId) (a:Addr) (hres:fn.results=#[.cell t ty]) (ht:tmps.getD t undef = .pointer (some a)) (hl:(loadVar ty a).run P w = .ok v w) :
  (results fn tmps).run P w = .ok v w:=by
 have ht':tmps[t]?.getD undef = .pointer (some a):=by simpa using ht
 simp [results,hres,ht',asAddr,hl]
theorem Ak {g:Nat} {t ty:TypeId} {cs:Array Value} {d:TypeDesc} (h:Blk w g t cs) (hu:P.underlying ty=some d) (hd:d.isRow=true) (hi:(P.info? ty).map (·.size)=some cs.size) :
  (loadVar ty ⟨g,0,none⟩).run P w = .ok (.agg cs) w:=by
 have:=run_loadVar_mid (P:=P) w g 0 ty cs.toList d (Ag h) hu hd (by simpa using hi)
 simpa using this
theorem AS {w':World} {o:Oper} {g:Nat} {t ty:TypeId} {cs:Array Value} {d:TypeDesc} (x:Operand) (ho:o.op = .load ty x) (hx:a.eval x = .pointer (some ⟨g,0,none⟩)) (h:Blk w' g t cs) (hu:P.underlying ty=some d) (hd:d.isRow=true) (hi:(P.info? ty).map (·.size)=some cs.size) :
  (execOp a.eval o).run P w' = .ok (.value (.agg cs)) w':=by
 unfold execOp;simp only[ho,hx,Instr.loadAt,Instr.sureAddr,Sem.run_bind,Sem.run_pure,Result.andThen_ok,Ak h hu hd hi]
end
theorem Wn (l:List Value):∀(k:Nat) (Z:Array Value),k+l.length≤Z.size→((l.zipIdx k).foldl (fun a x=>a.setIfInBounds (0+x.2) x.1) Z).size=Z.size∧∀i,((l.zipIdx k).foldl (fun a x=>a.setIfInBounds (0+x.2) x.1) Z)[i]? = if k≤i∧i<k+l.length then l[i - k]? else Z[i]?:=by
 induction l with
 |nil=>
  intro k Z h;refine⟨rfl,fun i=>?_⟩;rw[if_neg (by simp)]
  rfl
 |cons c l ih=>
  intro k Z h;simp only[List.length_cons] at h;obtain⟨h1,h2⟩:=ih (k+1) (Z.setIfInBounds (0+k) c) (by simp;omega);rw[List.zipIdx_cons,List.foldl_cons];refine⟨by rw[h1];simp,fun i=>?_⟩;rw[h2]
  by_cases e:i=k
  ·subst e
   rw[if_neg (by omega),if_pos (by simp),Nat.sub_self,Nat.zero_add,Array.getElem?_setIfInBounds_self_of_lt (by omega)]
   rfl
  ·by_cases g:k+1≤i∧i<k+1+l.length
   ·rw[if_pos g,if_pos (by simp;omega),show i - k=(i - (k+1))+1 by omega]
    simp
   ·rw[if_neg g,if_neg (by simp;omega),Array.getElem?_setIfInBounds_ne (by omega)]
theorem TV (cs Z:Array Value) (n:Nat) (hn:cs.size=n) (hz:Z.size=n):Instr.fill (fun i=>some (i*n,n)) Z [(0,.agg cs)]=some cs:=by
 have hf:=Wn cs.toList 0 Z (by simp;omega);have e:cs.zipIdx.foldl (fun a (x:Value×Nat)=>a.setIfInBounds (0+x.2) x.1) Z=cs:=by
  rw[←Array.foldl_toList,Array.toList_zipIdx];apply Array.ext_getElem?;intro i;rw[hf.2]
  by_cases g:i<cs.size
  ·rw[if_pos (by simp;omega)];simp
  ·rw[if_neg (by simp;omega),Array.getElem?_eq_none (by omega),Array.getElem?_eq_none (by omega)]
 have hc:(Value.agg cs).cells=cs:=rfl;unfold Instr.fill;simp only[Nat.zero_mul,hc];rw[if_neg (by simp;omega)];unfold Instr.fill
 congr 1
section
variable {P:Program}
theorem Gr (w:World) (t e:TypeId) (cs:Array Value) (ie:TypeInfo) (z:Value) (hu:P.underlying t=some (.slice e)) (hie:P.info? e=some ie) (hz:ie.zero=some z) (hs:ie.size=cs.size) (h0:0<cs.size) (h24:cs.size≤16777216) :
  (Instr.buildSlice t 1 #[(0,.agg cs)]).run P w = .ok (.slice (some ⟨w.heap.size,0,none⟩) 1 1) (w.alloc (.cells cs e)):=
 run_buildSlice w t e 1 _ cs ie z hu hie hz (by rw[hs];omega) (by rw[hs];omega) (TV cs _ ie.size hs.symm (by simp))
end
theorem FP {P:Program} {α:Type} (f:α→List Value) (n bytes:Nat) (hf:∀x,(f x).length=n) (h1:∀x,∀u∈f x,u.oneCell'=true) (w:World) (t ty e:TypeId) (i:TypeInfo) (z:Value) (ht:P.underlying t=some (.slice e)) (hi:P.info? e=some i) (hz:i.zero=some z) (hs:i.size=n) (hb:i.bytes=bytes) (hzs:z.cells.size=n) (hn:0<n)
  (base:Nat) (v:Value) (l:List α) (hown:w.ownsRow base e n v l.length (l.flatMap f)) (x:α) (g:Nat) (hg:Blk w g e (f x).toArray) (hl:l.length+1≤100000) (hby:bytes≤10000) (hbase:base≤w.heap.size) :
  ∃v' w',(Builtin.append_ #[t,t] ty #[v,.slice (some ⟨g,0,none⟩) 1 1]).run P w = .ok v' w'∧w'.ownsRow base e n v' (l++[x]).length ((l++[x]).flatMap f)∧w.grownBy w' v.ownBlock∧(v'.ownBlock=v.ownBlock∨v'.ownBlock=some w.heap.size):=by
 obtain⟨v',w',h2,h3,h4,_,h5⟩:=run_append_own_at (P:=P) w base t ty e i z n bytes ht hi hz hs hb hzs hn v l.length (l.flatMap f) hown ⟨g,0,none⟩ 1 1 (f x) (by rw[hf];omega) (fun j u hu=>by
  rw[addr_add,Nat.zero_add,hg.cell j]
  simpa using hu) (h1 x) (by unfold maxLen;omega) (by
   have:(l.length+1)*bytes≤100000*10000:=Nat.mul_le_mul hl hby;omega) hbase
 exact⟨v',w',h2,by rw[List.length_append,List.flatMap_append,List.flatMap_singleton];exact h3,h4,h5⟩
theorem JL {P:Program} {α:Type} (f:α→List Value) (n bytes:Nat) (hf:∀x,(f x).length=n) (h1:∀x,∀u∈f x,u.oneCell'=true) {ops:Array Oper} {rest:List Oper} {o:Oper} {a:Act} {w:World} {Q:Exit→Act→World→Prop} (hgd:o.guard=none) (s x:Operand) (t e:TypeId)
  (ho:o.op = .call {callee:=.builtin .append,args:=#[s,x],argTypes:=#[t,t]}) (i:TypeInfo) (z:Value) (ht:P.underlying t=some (.slice e)) (hi:P.info? e=some i) (hz:i.zero=some z) (hs:i.size=n) (hb:i.bytes=bytes) (hzs:z.cells.size=n) (hn:0<n) (hby:bytes≤10000)
  (base:Nat) (v:Value) (l:List α) (hv:a.eval s=v) (hown:w.ownsRow base e n v l.length (l.flatMap f)) (y:α) (g:Nat) (hx:a.eval x = .slice (some ⟨g,0,none⟩) 1 1) (hg:Blk w g e (f y).toArray) (hl:l.length+1≤100000) (hbase:base≤w.heap.size)
  (h:∀v' w',w'.ownsRow base e n v' (l++[y]).length ((l++[y]).flatMap f)→w.grownBy w' v.ownBlock→(v'.ownBlock=v.ownBlock∨v'.ownBlock=some w.heap.size)→wpList P ops Q rest (a.put o.dst v') w'):wpList P ops Q (o :: rest) a w:=by
 obtain⟨v',w',hrun,h2,h3,h4⟩:=FP (P:=P) f n bytes hf h1 w t o.type e i z ht hi hz hs hb hzs hn base v l hown y g hg hl hby hbase;refine wpList_plain hgd fun J hJ=>?_
 unfold Oper.wp execOp;simp only[ho,resolve,invoke,builtin,Sem.run_bind,Sem.run_pure,Result.andThen_ok,List.map_toArray,List.map_cons,List.map_nil,hv,hx,hrun];exact hJ _ _ (h v' w' h2 h3 h4)
end Wh
end
section
namespace Rg
open Go.RowKit Af Se
abbrev prC (p:Pr):List Value:=[.string ⟨p.1.toArray⟩,.string ⟨p.2.toArray⟩]
abbrev prV (p:Pr):Value:=.agg #[.string ⟨p.1.toArray⟩,.string ⟨p.2.toArray⟩]
def iC (i:It):List Value:=.string ⟨i.p.1.toArray⟩ :: .string ⟨i.p.2.toArray⟩ :: .int .i64 (i.n:Int) :: (AP i.k).toList
structure Ent where
 it:It
 b:Nat
 h:Option Nat
 a:Nat
 o:Nat
 r:Nat
def eC (e:Ent):List Value:=iC e.it++[.pointer (some ⟨e.b,0,none⟩)]
theorem BG (i:It):(iC i).length=35:=by simp [iC,Ce]
theorem BZ (e:Ent):(eC e).length=36:=by simp [eC,BG]
theorem Rx (i:It):∀u∈iC i,u.oneCell'=true:=by
 intro u hu;simp only[iC,List.mem_cons] at hu;rcases hu with h | h | h | h
 ·subst h;rfl
 ·subst h;rfl
 ·subst h;rfl
 ·have:=one32 i.k
  rw[Array.all_eq_true_iff_forall_mem] at this;exact this u (Array.mem_def.2 h)
theorem Ll (e:Ent):∀u∈eC e,u.oneCell'=true:=by
 intro u hu;rcases List.mem_append.1 hu with h | h
 ·exact Rx _ u h
 ·rw[List.mem_singleton] at h;subst h;rfl
theorem Ry {α:Type} (f:α→List Value) (n:Nat) (h:∀x,(f x).length=n):∀(l:List α) (i:Nat) (x:α),l[i]? = some x→∀j v,(f x)[j]? = some v→(l.flatMap f)[i*n+j]? = some v
 | [],i,x,hx,_,_,_=>by simp at hx
 |a :: l,0,x,hx,j,v,hv=>by
  injection hx with hx;subst hx;have:=(List.getElem?_eq_some_iff.1 hv).1;rw[List.flatMap_cons,Nat.zero_mul,Nat.zero_add,List.getElem?_append_left this];exact hv
 |a :: l,i+1,x,hx,j,v,hv=>by
  rw[List.flatMap_cons,List.getElem?_append_right (by rw[h,Nat.succ_mul];omega),h,show(i+1)*n+j - n=i*n+j by rw[Nat.succ_mul];omega];exact Ry f n h l i x hx j v hv
theorem Kj {α:Type} (f:α→List Value) (h:∀x,∀u∈f x,u.oneCell'=true) (l:List α):∀u∈l.flatMap f,u.oneCell'=true:=by
 intro u hu;obtain⟨x,_,h2⟩:=List.mem_flatMap.1 hu;exact h x u h2
def RdR {α:Type} (w:World) (B:Nat) (A:Option Addr) (f:α→List Value) (n:Nat) (l:List α):Prop:=
 l = []∨∃g,A=some ⟨g,0,none⟩∧g<B∧∀i x,l[i]? = some x→w.rangeAt g (i*n) (f x)
theorem RdR.keep {α:Type} {w w':World} {B:Nat} {A:Option Addr} {f:α→List Value} {n:Nat} {l:List α} (h:RdR w B A f n l) (hb:Below B w w'):RdR w' B A f n l:=by
 rcases h with h | ⟨g,h1,h2,h3⟩
 ·exact .inl h
 ·exact .inr ⟨g,h1,h2,fun i x hx j v hv=>(hb.cell (p:=⟨g,_,none⟩) h2).trans (h3 i x hx j v hv)⟩
theorem RdR.more {α:Type} {w:World} {B B':Nat} {A:Option Addr} {f:α→List Value} {n:Nat} {l:List α} (h:RdR w B A f n l) (hB:B≤B'):RdR w B' A f n l:=by
 rcases h with h | ⟨g,h1,h2,h3⟩
 ·exact .inl h
 ·exact .inr ⟨g,h1,by omega,h3⟩
theorem RdR.at_ {α:Type} {w:World} {B:Nat} {A:Option Addr} {f:α→List Value} {n:Nat} {l:List α} {i:Nat} {x:α} (h:RdR w B A f n l) (hx:l[i]? = some x):∃g,A=some ⟨g,0,none⟩∧g<B∧w.rangeAt g (i*n) (f x):=by
 rcases h with h | ⟨g,h1,h2,h3⟩
 ·subst h;simp at hx
 ·exact⟨g,h1,h2,h3 i x hx⟩
theorem EW {α:Type} {w:World} {base:Nat} {t:TypeId} {v:Value} {f:α→List Value} {n:Nat} {l:List α} (hn:∀x,(f x).length=n) (h:w.ownsRow base t n v l.length (l.flatMap f)):∃A c,v = .slice A l.length c∧l.length≤c∧c≤maxLen∧RdR w w.heap.size A f n l:=by
 have h':=h;rcases h.2 with⟨h1,h2⟩ | ⟨g,cap,cur,h1,hg,hh,hc,hm,_⟩
 ·have e:l = []:=List.eq_nil_of_length_eq_zero h2
  subst e;exact⟨none,0,h1,Nat.le_refl _,Nat.zero_le _,.inl rfl⟩
 ·subst h1
  refine⟨_,cap,rfl,hc,hm,.inr ⟨g,rfl,(Array.getElem?_eq_some_iff.1 hh).1,fun i x hx j v hv=>?_⟩⟩;have h1:=h'.cells (g:=g) rfl (i*n+j) v (Ry f n hn l i x hx j v hv);rw[addr_add,Nat.zero_add] at h1;exact h1
theorem IN {S:Nat→Prop} {w w':World} {base size n:Nat} {t:TypeId} {v:Value} {xs:List Value} (h:Chg S w w') (ho:w.ownsRow base t size v n xs) (hs:∀k,v.ownBlock=some k→¬S k):w'.ownsRow base t size v n xs:=by
 refine⟨ho.1,?_⟩;rcases ho.2 with hn | ⟨g,cap,cur,rfl,hb,hgg,rest⟩
 ·exact .inl hn
 ·exact .inr ⟨g,cap,cur,rfl,hb,(h.block g (Array.getElem?_eq_some_iff.1 hgg).1 (hs g rfl)).trans hgg,rest⟩
def its (es:List Ent):List It:=es.map (·.it)
theorem Rz {es:List Ent} {i:Nat} {e:Ent} (h:es[i]? = some e):(its es)[i]? = some e.it:=by simp [its,h]
theorem XV {es:List Ent} {i:Nat} {x:It} (h:(its es)[i]? = some x):∃e,es[i]? = some e∧e.it=x:=by
 simpa [its] using h
theorem DF (es:List Ent):(its es).length=es.length:=by simp [its]
structure Ring (w:World) (B r:Nat) (v:Value) (es:List Ent):Prop where
 blk:Blk w r 199 #[v]
 row:w.ownsRow B 205 36 v es.length (es.flatMap eC)
 lo:B≤r
 vr:v.ownBlock≠some r
 box:∀(i:Nat) (e:Ent),es[i]? = some e→Box w e.b e.it.k e.h e.a e.o e.r
 off:∀(i:Nat) (e:Ent),es[i]? = some e→∀k,Ow e.b e.h k→B≤k∧k≠r∧v.ownBlock≠some k
 far:∀(i j:Nat) (e f:Ent),es[i]? = some e→es[j]? = some f→i≠j→∀k,Ow e.b e.h k→¬Ow f.b f.h k
def RO (r:Nat) (v:Value) (es:List Ent) (k:Nat):Prop:=k=r∨v.ownBlock=some k∨∃(i:Nat) (e:Ent),es[i]? = some e∧Ow e.b e.h k
section
variable {w w':World} {B r:Nat} {v v':Value} {es:List Ent} {S:Nat→Prop}
theorem Ring.own_lo (h:Ring w B r v es) {k:Nat} (hk:RO r v es k):B≤k:=by
 rcases hk with hk | hk | ⟨i,e,he,hk⟩
 ·subst hk;exact h.lo
 ·exact(World.ownsRow.lt h.row k hk).1
 ·exact(h.off i e he k hk).1
theorem Ring.own_lt (h:Ring w B r v es) {k:Nat} (hk:RO r v es k):k<w.heap.size:=by
 rcases hk with hk | hk | ⟨i,e,he,hk⟩
 ·subst hk;exact h.blk.lt
 ·exact(World.ownsRow.lt h.row k hk).2
 ·exact(h.box i e he).own_lt k hk
theorem Ring.lt (h:Ring w B r v es):r<w.heap.size:=h.blk.lt
theorem Ring.chg (h:Ring w B r v es) (hc:Chg S w w') (hs:∀k,RO r v es k→¬S k):Ring w' B r v es:=
 ⟨hc.blk h.blk (hs r (.inl rfl)),IN hc h.row (fun k hk=>hs k (.inr (.inl hk))),h.lo,h.vr,fun i e he=>(h.box i e he).chg hc (fun k hk=>hs k (.inr (.inr ⟨i,e,he,hk⟩))),h.off,h.far⟩
theorem Ring.below (h:Ring w B r v es) (hb:Below w.heap.size w w'):Ring w' B r v es:=h.chg (S:=fun _=>False) (Chg.of_below hb) (fun _ _ x=>x)
theorem Ring.drew (h:Ring w B r v es):Ring w.drew B r v es:=h.below (below_drewN (Below.refl _ _) 1)
theorem Ring.num (h:Ring w B r v es):∃A c,v = .slice A es.length c∧es.length≤c∧c≤maxLen∧RdR w w.heap.size A eC 36 es:=EW BZ h.row
theorem Ring.use (h:Ring w B r v es) {i:Nat} {e:Ent} (he:es[i]? = some e) {h':Option Nat} {a o q:Nat} (hx:Box w' e.b e.it.k h' a o q) (hs:CH w w' e.b e.h h') (hB:B≤w.heap.size):Ring w' B r v (es.set i ⟨e.it,e.b,h',a,o,q⟩):=by
 have hi:=(List.getElem?_eq_some_iff.1 he).1;have hset:∀(j:Nat) (f:Ent),(es.set i ⟨e.it,e.b,h',a,o,q⟩)[j]? = some f→(j=i∧f=⟨e.it,e.b,h',a,o,q⟩)∨(j≠i∧es[j]? = some f):=fun j f hf=>by
  by_cases q:i=j
  ·subst q
   rw[List.getElem?_set_self hi] at hf;injection hf with hf;exact .inl ⟨rfl,hf.symm⟩
  ·rw[List.getElem?_set_ne q] at hf
   exact .inr ⟨fun x=>q x.symm,hf⟩
 have hnew:∀k,Ow e.b h' k→Ow e.b e.h k∨w.heap.size≤k:=fun k hk=>by
  rcases Nat.lt_or_ge k w.heap.size with g | g
  ·exact .inl (hs.own k g hk)
  ·exact .inr g
 have hrow:(es.set i ⟨e.it,e.b,h',a,o,q⟩).flatMap eC=es.flatMap eC:=by
  have:(es.set i ⟨e.it,e.b,h',a,o,q⟩).map eC=es.map eC:=by
   apply List.ext_getElem?;intro j;rw[List.getElem?_map,List.getElem?_map]
   by_cases g:i=j
   ·subst g;rw[List.getElem?_set_self hi,he];rfl
   ·rw[List.getElem?_set_ne g]
  rw[List.flatMap_def,List.flatMap_def,this]
 refine⟨hs.1.blk h.blk (fun x=>(h.off i e he r x).2.1 rfl),?_,h.lo,h.vr,fun j f hf=>?_,fun j f hf k hk=>?_,fun j j2 f f2 hf hf2 hne k hk hk2=>?_⟩
 ·rw[hrow,List.length_set]
  exact IN hs.1 h.row (fun k hk x=>(h.off i e he k x).2.2 hk)
 ·rcases hset j f hf with⟨_,rfl⟩ | ⟨hj,hf⟩
  ·exact hx
  ·exact(h.box j f hf).chg hs.1 (fun k hk hk2=>h.far j i f e hf he hj k hk hk2)
 ·rcases hset j f hf with⟨_,rfl⟩ | ⟨hj,hf⟩
  ·rcases hnew k hk with g | g
   ·exact h.off i e he k g
   ·exact⟨by omega,fun x=>by have:=h.lt;omega,fun x=>by have:=(World.ownsRow.lt h.row k x).2;omega⟩
  ·exact h.off j f hf k hk
 ·rcases hset j f hf with⟨e1,rfl⟩ | ⟨hj,hf⟩
  ·rcases hset j2 f2 hf2 with⟨e2,rfl⟩ | ⟨hj2,hf2⟩
   ·exact hne (e1.trans e2.symm)
   ·rcases hnew k hk with g | g
    ·exact h.far i j2 e f2 he hf2 (fun x=>hj2 x.symm) k g hk2
    ·have:=(h.box j2 f2 hf2).own_lt k hk2;omega
  ·rcases hset j2 f2 hf2 with⟨e2,rfl⟩ | ⟨hj2,hf2⟩
   ·rcases hnew k hk2 with g | g
    ·exact h.far j i f e hf he hj k hk g
    ·have:=(h.box j f hf).own_lt k hk;omega
   ·exact h.far j j2 f f2 hf hf2 hne k hk hk2
theorem Ring.use_new (h:Ring w B r v es) {i:Nat} {e:Ent} (he:es[i]? = some e) {h':Option Nat} (a o q:Nat) (hs:CH w w' e.b e.h h'):∀k,RO r v (es.set i ⟨e.it,e.b,h',a,o,q⟩) k→RO r v es k∨w.heap.size≤k:=fun k hk=>by
 have hi:=(List.getElem?_eq_some_iff.1 he).1;rcases hk with hk | hk | ⟨j,f,hf,hk⟩
 ·exact .inl (.inl hk)
 ·exact .inl (.inr (.inl hk))
 ·by_cases g:i=j
  ·subst g
   rw[List.getElem?_set_self hi] at hf;injection hf with hf;subst hf;rcases Nat.lt_or_ge k w.heap.size with g | g
   ·exact .inl (.inr (.inr ⟨i,e,he,hs.own k g hk⟩))
   ·exact .inr g
  ·rw[List.getElem?_set_ne g] at hf
   exact .inl (.inr (.inr ⟨j,f,hf,hk⟩))
theorem Ring.snoc (h:Ring w B r v es) {e:Ent} (hc:Chg (fun k=>k=r∨v.ownBlock=some k) w w') (hb:Blk w' r 199 #[v']) (hrow:w'.ownsRow B 205 36 v' (es.length+1) (es.flatMap eC++eC e))
  (hv:v'.ownBlock=v.ownBlock∨∃k,v'.ownBlock=some k∧w.heap.size≤k∧k≠e.b) (hbx:Box w' e.b e.it.k none e.a e.o e.r) (hbl:w.heap.size≤e.b) (hh:e.h=none) (hB:B≤w.heap.size):Ring w' B r v' (es++[e]):=by
 have hlt:=h.lt;have hsn:∀(j:Nat) (f:Ent),(es++[e])[j]? = some f→(es[j]? = some f)∨(j=es.length∧f=e):=fun j f hf=>by
  by_cases g:j<es.length
  ·rw[List.getElem?_append_left g] at hf;exact .inl hf
  ·rw[List.getElem?_append_right (by omega)] at hf
   have:=(List.getElem?_eq_some_iff.1 hf).1;have e1:j=es.length:=by simp at this;omega
   subst e1;rw[Nat.sub_self] at hf;injection hf with hf;exact .inr ⟨rfl,hf.symm⟩
 have hne:∀k,Ow e.b e.h k→k=e.b:=fun k hk=>by
  rcases hk with hk | hk
  ·exact hk
  ·rw[hh] at hk;cases hk
 have hvk:∀k,v'.ownBlock=some k→k<w.heap.size→v.ownBlock=some k:=fun k hk hl=>by
  rcases hv with g | ⟨q,g1,g2,_⟩
  ·rw[←g];exact hk
  ·rw[g1] at hk;injection hk with hk;omega
 refine⟨hb,?_,h.lo,fun x=>h.vr (hvk r x hlt),fun j f hf=>?_,fun j f hf k hk=>?_,fun j j2 f f2 hf hf2 hjne k hk hk2=>?_⟩
 ·rw[List.length_append,List.length_singleton,List.flatMap_append,List.flatMap_singleton];exact hrow
 ·rcases hsn j f hf with g | ⟨_,rfl⟩
  ·refine(h.box j f g).chg hc (fun k hk x=>?_)
   rcases x with x | x
   ·exact(h.off j f g k hk).2.1 x
   ·exact(h.off j f g k hk).2.2 x
  ·rw[hh];exact hbx
 ·rcases hsn j f hf with g | ⟨_,rfl⟩
  ·have h1:=h.off j f g k hk
   exact⟨h1.1,h1.2.1,fun x=>h1.2.2 (hvk k x ((h.box j f g).own_lt k hk))⟩
  ·rw[hne k hk]
   refine⟨by omega,by omega,fun x=>?_⟩;rcases hv with g | ⟨q,g1,_,g3⟩
   ·rw[g] at x;have:=(World.ownsRow.lt h.row _ x).2;omega
   ·rw[g1] at x;injection x with x;exact g3 x
 ·rcases hsn j f hf with g | ⟨e1,rfl⟩
  ·rcases hsn j2 f2 hf2 with g2 | ⟨e2,rfl⟩
   ·exact h.far j j2 f f2 g g2 hjne k hk hk2
   ·have:=(h.box j f g).own_lt k hk;have:=hne k hk2;omega
  ·rcases hsn j2 f2 hf2 with g2 | ⟨e2,rfl⟩
   ·have:=(h.box j2 f2 g2).own_lt k hk2;have:=hne k hk;omega
   ·exact hjne (e1.trans e2.symm)
theorem TW (es:List Ent) (e:Ent):its (es++[e])=its es++[e.it]:=by simp [its]
end
end Rg
end
section
namespace Rg
open Go.RowKit Af Se
theorem UQ (x y:Pr) (w:World):(Op.equalIn 10000 27 (.agg #[.string ⟨x.1.toArray⟩,.string ⟨x.2.toArray⟩]) (.agg #[.string ⟨y.1.toArray⟩,.string ⟨y.2.toArray⟩])).run Tryz.prog w = .ok (decide (x=y)) w:=by
 obtain⟨a,b⟩:=x;obtain⟨c,d⟩:=y;simp only
 by_cases h0:a=c
 ·subst h0
  by_cases h1:b=d
  ·subst h1
   rw[decide_eq_true rfl]
   go_simp
  ·rw[decide_eq_false (fun h=>h1 (congrArg (fun z=>z.2) h))]
   go_simp
 ·rw[decide_eq_false (fun h=>h0 (congrArg (fun z=>z.1) h))]
  go_simp
theorem Co {x y:Pr} (h:x=y):∀w,(Op.equalIn 10000 27 (.agg #[.string ⟨x.1.toArray⟩,.string ⟨x.2.toArray⟩]) (.agg #[.string ⟨y.1.toArray⟩,.string ⟨y.2.toArray⟩])).run Tryz.prog w = .ok true w:=fun w=>by rw[UQ,decide_eq_true h]
theorem DG {x y:Pr} (h:x≠y):∀w,(Op.equalIn 10000 27 (.agg #[.string ⟨x.1.toArray⟩,.string ⟨x.2.toArray⟩]) (.agg #[.string ⟨y.1.toArray⟩,.string ⟨y.2.toArray⟩])).run Tryz.prog w = .ok false w:=fun w=>by rw[UQ,decide_eq_false h]
theorem Hp:(Tryz.prog.info? 205).map (·.size)=some 36:=by kernel_rfl
theorem Da:(Tryz.prog.info? 27).map (·.size)=some 2:=by kernel_rfl
def Dt:Array Value:=#[.string ⟨#[]⟩,.string ⟨#[]⟩,.int .i64 0,.int .u8 0,.int .u8 0,.int .u8 0,.int .u8 0,.int .u8 0,.int .u8 0,.int .u8 0,.int .u8 0,.int .u8 0,.int .u8 0,.int .u8 0,.int .u8 0,.int .u8 0,.int .u8 0,.int .u8 0,.int .u8 0,.int .u8 0,.int .u8 0,.int .u8 0,.int .u8 0,.int .u8 0,.int .u8 0,.int .u8 0,.int .u8 0,.int .u8 0,.int .u8 0,.int .u8 0,.int .u8 0,.int .u8 0,.int .u8 0,.int .u8 0,.int .u8 0,.pointer none]
def eA (e:Ent):Array Value:=(eC e).toArray
theorem Du (e:Ent):(eA e).size=36:=by simp [eA,BZ]
theorem RB (e:Ent):(eA e).all (·.oneCell')=true:=by
 rw[Array.all_eq_true_iff_forall_mem];intro u hu;exact Ll e u (by simpa [eA] using hu)
theorem Lm (e:Ent):(eA e).toList=eC e:=by simp [eA]
theorem XW {w:World} {g:Nat} {t:TypeId} {e:Ent} (h:Blk w g t (eA e)):w.rangeAt g 0 (#[.string ⟨e.it.p.1.toArray⟩,.string ⟨e.it.p.2.toArray⟩]:Array Value).toList:=
 Wh.Dm (pre:=[]) (post:=(eC e).drop 2) h (by rw[Lm];rfl) 0 rfl
theorem eA_n {w:World} {g:Nat} {t:TypeId} {e:Ent} (h:Blk w g t (eA e)):w.cell? ⟨g,2,none⟩=some (.int .i64 (e.it.n:Int)):=by
 rw[h.cell,eA,List.getElem?_toArray];rfl
theorem eA_b {w:World} {g:Nat} {t:TypeId} {e:Ent} (h:Blk w g t (eA e)):w.cell? ⟨g,35,none⟩=some (.pointer (some ⟨e.b,0,none⟩)):=by
 rw[h.cell,eA,List.getElem?_toArray,eC,List.getElem?_append_right (by simp [BG]),BG];rfl
def entC (es:List Ent):Option Nat→Array Value
 |none=>Dt
 |some j=>match es[j]? with
  |some e=>eA e
  |none=>Dt
theorem Ln {es:List Ent} {j:Nat}:entC es (some j)=match es[j]? with
 |some e=>eA e
 |none=>Dt:=rfl
theorem JA (es:List Ent) (o:Option Nat):entC es o=Dt∨∃e,entC es o=eA e:=by
 cases o with
 |none=>exact .inl rfl
 |some j=>
  rw[Ln];cases es[j]? with
  |none=>exact .inl rfl
  |some e=>exact .inr ⟨e,rfl⟩
theorem IQ (es:List Ent) (o:Option Nat):(entC es o).size=36:=by
 rcases JA es o with h | ⟨e,h⟩
 ·rw[h];rfl
 ·rw[h];exact Du _
theorem Lo:Dt.all (·.oneCell')=true:=by
 have h:∀u∈Dt.toList,u.oneCell'=true:=by
  unfold Dt;simp only[List.forall_mem_cons];simp [Value.oneCell']
 rw[Array.all_eq_true_iff_forall_mem];exact fun u hu=>h u (Array.mem_def.1 hu)
theorem TX (es:List Ent) (o:Option Nat):(entC es o).all (·.oneCell')=true:=by
 rcases JA es o with h | ⟨e,h⟩
 ·rw[h];exact Lo
 ·rw[h];exact RB _
theorem RE {es:List Ent} {i:Nat} {e:Ent} (h:es[i]? = some e):entC es (some i)=eA e:=by simp [entC,h]
theorem Pm {es:List Ent} {i:Nat} {e:Ent} {p:Pr} (h:es[i]? = some e) (hp:e.it.p=p):Bi (its es) p (i+1)=some i:=by
 rw[Bi,if_pos (by rw[Rz h,←hp];rfl)]
theorem Mx {es:List Ent} {i:Nat} {e:Ent} {p:Pr} (h:es[i]? = some e) (hp:e.it.p≠p):Bi (its es) p (i+1)=Bi (its es) p i:=by
 rw[Bi,if_neg];rw[Rz h];intro x;injection x with x;exact hp x
theorem Hq (B r:Nat) (v:Value) (es:List Ent) (p:Pr) (w:World) (h:Ring w B r v es) (hl:es.length≤1000) :
  Calls Tryz.prog 100 #[.pointer (some ⟨r,0,none⟩),prV p] w fun e w'=>e = .returned (.agg (entC es (Cc (its es) p)))∧Below w.heap.size w w':=by
 obtain⟨A,c,rfl,hc,hm,hr⟩:=h.num;have hlast:Cc (its es) p=Bi (its es) p es.length:=by rw[Cc,DF]
 rw[hlast];have hb0:=h.blk;obtain⟨n,en⟩:∃n,n=es.length:=⟨_,rfl⟩;rw[←en] at hb0 hc hl⊢;have k0:w.cell? ⟨r,0,none⟩=some (.slice A n c):=hb0.cell 0;have hrl:=hb0.lt;have HB0:=I hb0;clear hb0;have HR:=I hr;clear hr;have EN:=I en;clear en hlast h;obtain⟨W,eW⟩:∃W,W=((w.alloc (.cells #[.string ⟨p.1.toArray⟩,.string ⟨p.2.toArray⟩] 27)).alloc (.cells Dt 205)).alloc (.cells Dt 205):=⟨_,rfl⟩;have hb:Below w.heap.size w W:=eW▸(((Below.refl _ _).alloc (Nat.le_refl _) _).alloc (by simp) _).alloc (by simp;omega) _;have HP:=I (show Blk W w.heap.size 27 #[.string ⟨p.1.toArray⟩,.string ⟨p.2.toArray⟩] from eW▸((Blk.new w _ _).alloc _).alloc _);have HRES:=I (show Blk W (w.heap.size+1) 205 Dt by have:=Blk.new (w.alloc (.cells #[.string ⟨p.1.toArray⟩,.string ⟨p.2.toArray⟩] 27)) 205 Dt;simp only[World.size_alloc] at this;exact eW▸this.alloc _);have HLA:=I (show Blk W (w.heap.size+1+1) 205 Dt by have:=Blk.new ((w.alloc (.cells #[.string ⟨p.1.toArray⟩,.string ⟨p.2.toArray⟩] 27)).alloc (.cells Dt 205)) 205 Dt;simp only[World.size_alloc] at this;exact eW▸this);have HB:=I hb;replace k0:W.cell? ⟨r,0,none⟩=some (.slice A n c):=(hb.cell (p:=⟨r,0,none⟩) hrl).trans k0;replace HR:=I ((HR.o.keep hb));clear hb;go_enter Tryz.func100,Tryz.ntmps100
 go_upto_region 2 with fail
 change Code.wp _ _ _ _ (((w.alloc (.cells #[.string ⟨p.1.toArray⟩,.string ⟨p.2.toArray⟩] 27)).alloc (.cells Dt 205)).alloc (.cells Dt 205));rw[←eW];obtain⟨N,eN⟩:∃N,N=w.heap.size:=⟨_,rfl⟩;rw[←eN] at HP HRES HLA HB HR hrl⊢;have EN2:=I eN;clear eW eN
 go_wp2
 go_loopw [13] (fun iv wr=>∃i:Nat,i≤n∧iv = .int .i64 (i:Int)∧Below N w wr∧Blk wr N 27 #[.string ⟨p.1.toArray⟩,.string ⟨p.2.toArray⟩]∧Blk wr (N+1) 205 Dt∧Blk wr (N+1+1) 205 (entC es (Bi (its es) p i))∧RdR wr N A eC 36 es) (fun iv _=>n - (intOf iv).toNat)
 case atStart=>exact⟨0,Nat.zero_le _,rfl,HB.o,HP.o,HRES.o,HLA.o,HR.o⟩
 case round=>
  clear HB HP HRES HLA HR k0;obtain⟨i,hi,rfl,hb,hp,hres,hla,hr⟩:=hrel;have HB:=I hb;have HP:=I hp;have HRES:=I hres;have HLA:=I hla;have HSZ:=I hla.lt
  by_cases hlt:i<n
  ·have e1:(i:Int)<(n:Int):=by omega
   have e2:(0:Int)≤(i:Int):=by omega
   obtain⟨x,hx⟩:∃x,es[i]? = some x:=⟨es[i]'(by rw[←EN.o];exact hlt),List.getElem?_eq_getElem _⟩;obtain⟨g,rfl,hgN,hra⟩:=hr.at_ hx;have HR:=I hr;rw[←Lm] at hra;have HRA:=I hra;have ha1:=RB x;have HA1:=I ha1;have his:=Hp;rw[←Du x] at his;have HIS:=I his;have HX:=I hx;have kp0:=hp.cell 0;have kp1:=hp.cell 1;obtain⟨cs,ecs⟩:∃cs,cs=eA x:=⟨_,rfl⟩;rw[←ecs] at HRA HA1 HIS;have ECS:=I ecs;clear hra ha1 his hx hr hb hp hres hla ecs kp0 kp1
   by_cases hq:x.it.p=p
   ·have t1:=Co hq
    have HQ:=I hq;clear hq
    go_wp2_with (first
     |(refine Wh.AA (by rfl) 205 (.tmp 15) (by rfl) g _ (by rfl) cs _ HRA.o Tryz.underlying205 (by rfl) HIS.o ?_)
     |(refine Wh.BY (by rfl) 205 (.tmp 7) (.tmp 16) (by rfl) 205 rfl cs (by rfl) (by rfl) (by rw[ECS.o,Du];rfl) HIS.o HA1.o ?_;rintro V hV hb;have HV:=I hV;replace HB:=I (HB.o.trans (hb.mono (by have:=HSZ.o;omega)));replace HP:=I (HP.o.below hb);replace HRES:=I (HRES.o.below hb);replace HLA:=I (HLA.o.below hb);replace HR:=I (HR.o.keep (hb.mono (by have:=HSZ.o;omega)));have kp0:V.cell? ⟨N,0,none⟩=some (.string ⟨p.1.toArray⟩):=HP.o.cell 0;have kp1:V.cell? ⟨N,1,none⟩=some (.string ⟨p.2.toArray⟩):=HP.o.cell 1;have HPR:=I (XW (ECS.o▸hV));have HNG:=I (Nat.lt_of_lt_of_le HSZ.o (Nat.le_refl _));clear hV hb)
     |(refine Wh.AA (by rfl) 27 (.tmp 17) (by rfl) _ 0 (by rfl) _ _ HPR.o Tryz.underlying27 (by rfl) Da ?_)
     |(refine Wh.AA (by rfl) 205 (.tmp 7) (by rfl) _ 0 (by rfl) cs _ (Wh.Ag HV.o) Tryz.underlying205 (by rfl) HIS.o ?_)
     |(refine Wh.CU (by rfl) 205 (.tmp 5) (.tmp 21) (by rfl) (N+1+1) 205 _ HLA.o cs (by rfl) (by rfl) (by rw[IQ,ECS.o,Du]) HIS.o HA1.o ?_;rintro V2 hV2 hg;replace HB:=I (Al HB.o hg (by have:=HRES.o.lt;omega) (by omega));replace HP:=I (HP.o.grown hg (by intro h;injection h with h;omega));replace HRES:=I (HRES.o.grown hg (by intro h;injection h with h;omega));replace HR:=I (HR.o.keep ((Below.refl N V).grown hg (by have:=HRES.o.lt;have:=HLA.o.lt;omega) (fun k hk=>by injection hk with hk;omega)));have HL2:=I hV2;clear hV2 hg kp0 kp1 HLA)
     |fail)
    go_roundw
    case rel=>exact⟨i+1,by omega,by go_num,HB.o,HP.o,HRES.o,by rw[Pm HX.o HQ.o,RE HX.o,←ECS.o];exact HL2.o,HR.o⟩
    case measure=>simp [intOf];omega
   ·have t1:=DG hq
    have HQ:=I hq;clear hq
    go_wp2_with (first
     |(refine Wh.AA (by rfl) 205 (.tmp 15) (by rfl) g _ (by rfl) cs _ HRA.o Tryz.underlying205 (by rfl) HIS.o ?_)
     |(refine Wh.BY (by rfl) 205 (.tmp 7) (.tmp 16) (by rfl) 205 rfl cs (by rfl) (by rfl) (by rw[ECS.o,Du];rfl) HIS.o HA1.o ?_;rintro V hV hb;have HV:=I hV;replace HB:=I (HB.o.trans (hb.mono (by have:=HSZ.o;omega)));replace HP:=I (HP.o.below hb);replace HRES:=I (HRES.o.below hb);replace HLA:=I (HLA.o.below hb);replace HR:=I (HR.o.keep (hb.mono (by have:=HSZ.o;omega)));have kp0:V.cell? ⟨N,0,none⟩=some (.string ⟨p.1.toArray⟩):=HP.o.cell 0;have kp1:V.cell? ⟨N,1,none⟩=some (.string ⟨p.2.toArray⟩):=HP.o.cell 1;have HPR:=I (XW (ECS.o▸hV));have HNG:=I (Nat.lt_of_lt_of_le HSZ.o (Nat.le_refl _));clear hV hb)
     |(refine Wh.AA (by rfl) 27 (.tmp 17) (by rfl) _ 0 (by rfl) _ _ HPR.o Tryz.underlying27 (by rfl) Da ?_)
     |fail)
    go_roundw
    case rel=>exact⟨i+1,by omega,by go_num,HB.o,HP.o,HRES.o,by rw[Mx HX.o HQ.o];exact HLA.o,HR.o⟩
    case measure=>simp [intOf];omega
  ·have e1:¬(i:Int)<(n:Int):=by omega
   obtain rfl:n=i:=by omega
   have ha1:=TX es (Bi (its es) p n);have his:=Hp;rw[←IQ es (Bi (its es) p n)] at his;have hss:=IQ es (Bi (its es) p n);obtain⟨cs,ecs⟩:∃cs,cs=entC es (Bi (its es) p n):=⟨_,rfl⟩;rw[←ecs] at ha1 his hss hla;have ECC:=I ecs;have HA1:=I ha1;have HIS:=I his;have HSS:=I hss;have HC:=I hla;clear ha1 his hss hla HLA hr hb hp hres hi ecs
   go_wp2_with (first
    |(refine Wh.AA (by rfl) 205 (.tmp 5) (by rfl) _ 0 (by rfl) cs _ (Wh.Ag HC.o) Tryz.underlying205 (by rfl) HIS.o ?_)
    |(refine Wh.CU (by rfl) 205 (.tmp 4) (.tmp 23) (by rfl) (N+1) 205 _ HRES.o cs (by rfl) (by rfl) (by rw[HSS.o];rfl) HIS.o HA1.o ?_;rintro V2 hV2 hg;have HB2:=I (Al HB.o hg (by have:=HSZ.o;omega) (by omega));have HR2:=I hV2;clear hV2 hg)
    |fail)
   refine bodyPost_ret (v:=.agg cs) ?_ ?_ ?_
   ·exact Wh.An (v:=.agg cs) 4 205 ⟨N+1,0,none⟩ Tryz.results100 (by rfl) (Wh.Ak HR2.o Tryz.underlying205 (by rfl) HIS.o)
   ·rfl
   ·exact⟨by rw[ECC.o],by rw[←EN2.o];exact HB2.o⟩
end Rg
end
section
namespace Rg
open Go.RowKit Af Se
theorem Kk (B:Nat) (w:World) (hB:B≤w.heap.size):Calls Tryz.prog 39 #[] w fun e w'=>∃r,e = .returned (.pointer (some ⟨r,0,none⟩))∧w.heap.size≤r∧Ring w' B r (.slice none 0 0) []∧Below w.heap.size w w':=by
 have hb:=(Below.refl w.heap.size w).alloc (Nat.le_refl _) (.cells #[.slice none 0 0] 199);have hk:=Blk.new w 199 #[.slice none 0 0];have HB:=I hb;clear hb;have HK:=I hk;clear hk;go_enter Tryz.func39,Tryz.ntmps39
 go_wp2
 go_ret;exact⟨_,rfl,Nat.le_refl _,⟨HK.o,World.ownsRow_nil _ _ _ _,hB,by simp [Value.ownBlock],fun i e h=>by simp at h,fun i e h=>by simp at h,fun i j e f h=>by simp at h⟩,HB.o⟩
theorem Lp {B r:Nat} {v:Value} {es:List Ent} {p:Pr} {w:World} {i:Nat} {x:Ent} (h:Ring w B r v es) (hl:es.length≤1000) (hf:Cc (its es) p=some i) (hx:es[i]? = some x) :
  Calls Tryz.prog 105 #[.pointer (some ⟨r,0,none⟩),prV p] w fun e w'=>e = .returned (.tuple #[.pointer (some ⟨x.b,0,none⟩),.int .i64 (x.it.n:Int),.int .i64 0])∧Below w.heap.size w w':=by
 have hb:=(Below.refl w.heap.size w).alloc (Nat.le_refl _) (.cells #[.string ⟨p.1.toArray⟩,.string ⟨p.2.toArray⟩] 27);have c1:=Hq B r v es p _ (h.below hb) hl;rw[hf,RE hx] at c1;have HA1:=I (RB x);have HSS:=I (Du x);have his:=Hp;rw[←Du x] at his;have HIS:=I his;obtain⟨cs,ecs⟩:∃cs,cs=eA x:=⟨_,rfl⟩;rw[←ecs] at c1 HA1 HIS HSS;have ECS:=I ecs;have HB:=I hb;clear h hf hx hb his ecs;go_enter Tryz.func105,Tryz.ntmps105
 go_wp2_with (first
  |(go_at_call 100;refine Calls.mono c1 ?_;rintro e w1 ⟨rfl,hb1⟩;replace HB:=HB.t hb1;clear c1 hb1)
  |(refine Wh.BY (by rfl) 205 (.tmp 7) (.tmp 12) (by rfl) 205 rfl cs (by rfl) (by rfl) (by rw[HSS.o];rfl) HIS.o HA1.o ?_;rintro V hV hb;replace HB:=HB.t hb;have kn:=eA_n (ECS.o▸hV);have kb:=eA_b (ECS.o▸hV);clear hV hb)
  |fail)
 go_quiet (fail)
 go_wp2
 go_ret3
 exact⟨rfl,below_drewN HB.o _⟩
theorem JB {B r:Nat} {v:Value} {es:List Ent} {p:Pr} {w:World} (h:Ring w B r v es) (hl:es.length≤1000) (hf:Cc (its es) p=none) :
  Calls Tryz.prog 105 #[.pointer (some ⟨r,0,none⟩),prV p] w fun e w'=>e = .returned (.tuple #[.pointer none,.int .i64 0,.int .i64 4])∧Below w.heap.size w w':=by
 have hb:=(Below.refl w.heap.size w).alloc (Nat.le_refl _) (.cells #[.string ⟨p.1.toArray⟩,.string ⟨p.2.toArray⟩] 27);have c1:=Hq B r v es p _ (h.below hb) hl;rw[hf,show entC es none=Dt from rfl] at c1;have HA1:=I Lo;have HSS:=I (show Dt.size=36 from rfl);have his:=Hp;rw[←HSS.o] at his;have HIS:=I his;obtain⟨cs,ecs⟩:∃cs,cs=Dt:=⟨_,rfl⟩;rw[←ecs] at c1 HA1 HIS HSS;have ECS:=I ecs;have HB:=I hb;clear h hf hb his ecs;go_enter Tryz.func105,Tryz.ntmps105
 go_wp2_with (first
  |(go_at_call 100;refine Calls.mono c1 ?_;rintro e w1 ⟨rfl,hb1⟩;replace HB:=HB.t hb1;clear c1 hb1)
  |(refine Wh.BY (by rfl) 205 (.tmp 7) (.tmp 12) (by rfl) 205 rfl cs (by rfl) (by rfl) (by rw[HSS.o];rfl) HIS.o HA1.o ?_;rintro V hV hb;replace HB:=HB.t hb;have kb:V.cell? ⟨w1.heap.size,35,none⟩=some (.pointer none):=by{rw[hV.cell,ECS.o];rfl};clear hV hb)
  |fail)
 go_ret3
 exact⟨rfl,HB.o⟩
theorem TY (p:Pr) (w:World) (h1:p.1.length≤1000000000) (h2:p.2.length≤1000000000):Calls Tryz.prog 101 #[prV p] w fun e w'=>e = .returned (prV p)∧Below w.heap.size w w':=by
 have C1:=I (fun w1=>Nm.Bv p.1 w1 h1);have C2:=I (fun w1=>Nm.Bv p.2 w1 h2);go_enter Tryz.func101,Tryz.ntmps101
 go_upto_region 1 with fail
 obtain⟨W,eW⟩:∃W,W=(w.alloc (.cells #[.string ⟨p.1.toArray⟩,.string ⟨p.2.toArray⟩] 27)).alloc (.cells #[.string ⟨#[]⟩,.string ⟨#[]⟩] 27):=⟨_,rfl⟩;have hq:=Blk.new (w.alloc (.cells #[.string ⟨p.1.toArray⟩,.string ⟨p.2.toArray⟩] 27)) 27 #[.string ⟨#[]⟩,.string ⟨#[]⟩];rw[show(w.alloc (.cells #[.string ⟨p.1.toArray⟩,.string ⟨p.2.toArray⟩] 27)).heap.size=w.heap.size+1 by simp,←eW] at hq;have HK:=I (show Blk W w.heap.size 27 #[.string ⟨p.1.toArray⟩,.string ⟨p.2.toArray⟩] by rw[eW];exact(Blk.new _ _ _).alloc _);have HZ:=I hq;have HB:=I (show Below w.heap.size w W by rw[eW];exact((Below.refl _ _).alloc (Nat.le_refl _) _).alloc (by simp) _);rw[←eW];clear eW hq;replace HK:=I (show Blk W.drew _ _ _ from HK.o.drewN 1);replace HZ:=I (show Blk W.drew _ _ _ from HZ.o.drewN 1);replace HB:=I (show Below _ _ W.drew from below_drewN HB.o 1)
 go_region_held3 (fun w'=>w'.cell? ⟨w.heap.size,0,none⟩=some (.string ⟨p.1.toArray⟩)∧w'.cell? ⟨w.heap.size,1,none⟩=some (.string ⟨p.2.toArray⟩)) (first | exact⟨HK.o.cell 0,HK.o.cell 1⟩ | exact⟨(Si.Blk.far (Si.Blk.far HK.o _ _ (by simp)) _ _ (by simp)).cell 0,(Si.Blk.far (Si.Blk.far HK.o _ _ (by simp)) _ _ (by simp)).cell 1⟩) ((first
  |(go_at_call 94;(with_reducible refine Calls.mono (C1.o _) ?_);rintro e w1 ⟨rfl,hb⟩;clear C1;replace HK:=I (HK.o.below hb);replace HZ:=I (HZ.o.below hb);replace HB:=HB.t hb;have kz0:w1.cell? ⟨w.heap.size+1,0,none⟩=some (.string ⟨#[]⟩):=HZ.o.cell 0;have kz1:w1.cell? ⟨w.heap.size+1,1,none⟩=some (.string ⟨#[]⟩):=HZ.o.cell 1;have fz:=HZ.o.frozen;clear hb)
  |(go_at_call 94;(with_reducible refine Calls.mono (C2.o _) ?_);rintro e w2 ⟨rfl,hb⟩;clear C2 kz0 kz1 fz;replace HK:=I (HK.o.below hb);replace HZ:=I (HZ.o.below hb);replace HB:=HB.t hb;have kz0:w2.cell? ⟨w.heap.size+1,0,none⟩=some (.string ⟨#[]⟩):=HZ.o.cell 0;have kz1:w2.cell? ⟨w.heap.size+1,1,none⟩=some (.string ⟨#[]⟩):=HZ.o.cell 1;have fz:=HZ.o.frozen;clear hb)))
 go_wp2
 have hz:=(HZ.o.set 0 (.string ⟨p.1.toArray⟩)).set 1 (.string ⟨p.2.toArray⟩);rw[show(((#[.string ⟨#[]⟩,.string ⟨#[]⟩]:Array Value).setIfInBounds 0 (.string ⟨p.1.toArray⟩)).setIfInBounds 1 (.string ⟨p.2.toArray⟩))=#[.string ⟨p.1.toArray⟩,.string ⟨p.2.toArray⟩] from rfl] at hz;refine bodyPost_ret (v:=prV p) ?_ ?_ ?_
 ·exact Wh.An (v:=prV p) 2 27 ⟨w.heap.size+1,0,none⟩ Tryz.results101 (by rfl) (Wh.Ak hz Tryz.underlying27 (by rfl) Da)
 ·rfl
 ·exact⟨rfl,Si.Am (Si.Am HB.o (by simp) _) (by simp) _⟩
end Rg
end
section
namespace Rg
open Go.RowKit Af Se
def kC (k:Nat→UInt8):List Value:=(AP k).toList
def OwnK (w:World) (base:Nat) (v:Value) (K:List (Nat→UInt8)):Prop:=w.ownsRow base 47 32 v K.length (K.flatMap kC)
theorem OwnK.below {w w':World} {base:Nat} {v:Value} {K:List (Nat→UInt8)} (h:OwnK w base v K) (hb:Below w.heap.size w w'):OwnK w' base v K:=Ff h hb
theorem Cr:(Tryz.prog.info? 47).map (fun i=>(i.zero,i.size,i.bytes))=some (some (.agg (AP Kg)),32,32):=by kernel_rfl
end Rg
end
end Go.Proofs.YtfcjeebnkigeaaaGreat
