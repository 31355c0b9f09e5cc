import Derived.Test.YtfbnjcdhipplpaaGreatZAcceptorErrs14
set_option maxHeartbeats 25600000
set_option maxRecDepth 100000
set_option linter.unusedVariables false
set_option linter.unusedSimpArgs false
namespace Go.Proofs.YtfbnjcdhipplpaaGreat
namespace Kd
open Go.RowKit Af Se
open Rg (It Ent Ring RO its)
def Cz (es:List Ent) (c:Nat):Prop:=∀(j:Nat) (e:Ent),es[j]? = some e->e.a<=c/\e.o<=c/\e.r<=c
theorem Cz.mono {es:List Ent} {c c':Nat} (h:Cz es c) (M:c<=c'):Cz es c':=fun j e he=>by have:=h j e he;omega
theorem Cz.set {es:List Ent} {c q:Nat} {e:Ent} (h:Cz es c) (he:es[q]? = some e) {O:Option Nat} {a o r:Nat} (h1:a<=e.a+1) (h2:o<=e.o+1) (h3:r<=e.r+1):Cz (es.set q ⟨e.it,e.b,O,a,o,r⟩) (c+1):=fun j f M=>by
 have Z:=(List.getElem?_eq_some_iff.1 he).1
 by_cases g:q=j
 ·subst g
  rw[List.getElem?_set_self Z] at M;injection M with M;subst M;have:=h q e he;show a<=c+1/\o<=c+1/\r<=c+1;omega
 ·rw[List.getElem?_set_ne g] at M
  have:=h j f M;omega
def bts (es:List Ent):List (It×Nat):=es.map fun e=>(e.it,e.b)
theorem Ox {es es':List Ent} (h:bts es'=bts es):its es'=its es:=by
 have O:its es'=(bts es').map Prod.fst:=by simp [its,bts]
 have M:its es=(bts es).map Prod.fst:=by simp [its,bts]
 rw[O,M,h]
theorem Uj {es es':List Ent} (h:bts es'=bts es):es'.length=es.length:=by
 have:=congrArg List.length h
 simpa [bts] using this
theorem ao {es:List Ent} {q:Nat} {e:Ent} (he:es[q]? = some e) (M:Option Nat) (a o r:Nat):bts (es.set q ⟨e.it,e.b,M,a,o,r⟩)=bts es:=by
 have hi:=(List.getElem?_eq_some_iff.1 he).1;unfold bts;apply List.ext_getElem?;intro j;rw[List.getElem?_map,List.getElem?_map]
 by_cases g:q=j
 ·subst g;rw[List.getElem?_set_self hi,he];rfl
 ·rw[List.getElem?_set_ne g]
structure Ss where
 b:Nat
 ks:Nat->UInt8
 h:Option Nat
 a:Nat
 o:Nat
 r:Nat
def SO (s:Option Ss) (j:Nat):Prop:=∃z,s=some z/\Ow z.b z.h j
def RSO (rg:Nat) (rv:Value) (es:List Ent) (s:Option Ss) (j:Nat):Prop:=RO rg rv es j\/SO s j
structure RS (w:World) (B:Nat) (rg:Nat) (rv:Value) (es:List Ent) (s:Option Ss) (c:Nat):Prop where
 k:Ring w B rg rv es
 hB:B<=w.heap.size
 sx:∀z,s=some z->Box w z.b z.ks z.h z.a z.o z.r/\z.a<=c/\z.o<=c/\z.r<=c
 ap:∀j,SO s j->¬RO rg rv es j
 sl:∀j,SO s j->B<=j
 cz:Cz es c
structure Rn (w0 w:World) (B:Nat) (rg:Nat) (rv:Value) (es0:List Ent) (s0:Option Ss) (es:List Ent) (s:Option Ss) (c:Nat):Prop where
 st:RS w B rg rv es s c
 eq:bts es=bts es0
 sq:∀z0,s0=some z0->∃z,s=some z/\z.b=z0.b/\z.ks=z0.ks
 chg:Chg (RSO rg rv es0 s0) w0 w
 nw:∀j,RSO rg rv es s j->RSO rg rv es0 s0 j\/w0.heap.size<=j
section
variable {w0 w w':World} {B:Nat} {rg:Nat} {rv:Value} {es0 es es':List Ent} {s0 s s':Option Ss} {c c':Nat}
theorem RS.rso_lt (h:RS w B rg rv es s c) {j:Nat} (M:RSO rg rv es s j):j<w.heap.size:=by
 rcases M with M | ⟨z,O,M⟩
 ·exact h.k.own_lt M
 ·exact(h.sx z O).1.own_lt j M
theorem RS.rso_lo (h:RS w B rg rv es s c) {j:Nat} (M:RSO rg rv es s j):B<=j:=by
 rcases M with M | M
 ·exact h.k.own_lo M
 ·exact h.sl j M
theorem RS.below (h:RS w B rg rv es s c) (M:Below w.heap.size w w'):RS w' B rg rv es s c:=
 ⟨h.k.below M,Nat.le_trans h.hB M.size,fun z O=>⟨(h.sx z O).1.below M,(h.sx z O).2⟩,h.ap,h.sl,h.cz⟩
theorem RS.chg {S:Nat->Prop} (h:RS w B rg rv es s c) (Z:Chg S w w') (hs:∀j,RO rg rv es j\/SO s j->¬S j):RS w' B rg rv es s c:=
 ⟨h.k.chg Z (fun j M=>hs j (.inl M)),Nat.le_trans h.hB Z.size,fun z O=>⟨(h.sx z O).1.chg Z (fun j M=>hs j (.inr ⟨z,O,M⟩)),(h.sx z O).2⟩,h.ap,h.sl,h.cz⟩
theorem RS.more (h:RS w B rg rv es s c) (O:c<=c'):RS w B rg rv es s c':=⟨h.k,h.hB,fun z M=>⟨(h.sx z M).1,by have:=(h.sx z M).2;omega⟩,h.ap,h.sl,h.cz.mono O⟩
theorem RS.no_s (h:RS w B rg rv es s c):RS w B rg rv es none c:=⟨h.k,h.hB,fun z M=>(by cases M),fun j O=>(by obtain⟨z,M,_⟩:=O;cases M),fun j O=>(by obtain⟨z,M,_⟩:=O;cases M),h.cz⟩
theorem Rn.refl (h:RS w B rg rv es s c):Rn w w B rg rv es s es s c:=⟨h,rfl,fun z M=>⟨z,M,rfl,rfl⟩,Chg.refl _ _,fun _ x=>.inl x⟩
theorem Rn.below (h:Rn w0 w B rg rv es0 s0 es s c) (M:Below w.heap.size w w'):Rn w0 w' B rg rv es0 s0 es s c:=
 ⟨h.st.below M,h.eq,h.sq,h.chg.trans (Chg.of_below (S:=fun _=>False) M) (fun _ _ x=>x.elim),h.nw⟩
theorem Rn.start (h:RS w B rg rv es s c) (M:Below w.heap.size w w'):Rn w w' B rg rv es s es s c:=(Rn.refl h).below M
theorem Rn.size (h:Rn w0 w B rg rv es0 s0 es s c):w0.heap.size<=w.heap.size:=h.chg.size
theorem Rn.trans (h:Rn w0 w B rg rv es0 s0 es s c) (g:Rn w w' B rg rv es s es' s' c'):Rn w0 w' B rg rv es0 s0 es' s' c':=by
 refine⟨g.st,g.eq.trans h.eq,fun z0 O=>?_,h.chg.trans g.chg (fun j Z x=>?_),fun j Z=>?_⟩
 ·obtain⟨z,hz,h1,h2⟩:=h.sq z0 O
  obtain⟨z',M,h3,h4⟩:=g.sq z hz;exact⟨z',M,h3.trans h1,h4.trans h2⟩
 ·rcases h.nw j x with y | y
  ·exact y
  ·omega
 ·rcases g.nw j Z with y | y
  ·exact h.nw j y
  ·have:=h.size;exact .inr (by omega)
theorem Rn.blk {P:Nat} {t:TypeId} {cs:Array Value} (h:Rn w0 w B rg rv es0 s0 es s c) (M:Blk w0 P t cs) (O:¬RSO rg rv es0 s0 P):Blk w P t cs:=h.chg.blk M O
theorem Rn.not {P:Nat} (h:Rn w0 w B rg rv es0 s0 es s c) (M:¬RSO rg rv es0 s0 P) (O:P<w0.heap.size):¬RSO rg rv es s P:=fun x=>by
 rcases h.nw P x with y | y
 ·exact M y
 ·omega
theorem RS.fresh (h:RS w B rg rv es s c) {P:Nat} (M:w.heap.size<=P):¬RSO rg rv es s P:=fun x=>by have:=h.rso_lt x;omega
def OutR (w0:World) (rg:Nat) (rv:Value) (es:List Ent) (s:Option Ss) (j:Nat):Prop:=j<w0.heap.size\/RSO rg rv es s j
theorem Rn.o {v:Value} {l:Nm.L} {a:World} (h:Rn w0 w B rg rv es0 s0 es s c) (M:a.heap.size<=w0.heap.size) (hs:SlN (OutR a rg rv es0 s0) w0 v l):SlN (OutR a rg rv es s) w v l:=
 hs.keep h.chg (fun _ _ x=>.inr x) (fun j O x=>by
  rcases x with x | x
  ·exact .inl x
  ·rcases h.nw j x with y | y
   ·exact .inr y
   ·omega)
theorem OutR.new {A:Option Addr} {l:Nm.L} {m:Nat} {a:World} (h:RS w B rg rv es s c) (hw:Below w.heap.size w w') (O:a.heap.size<=w.heap.size) (hm:l.length<=m) (M:RdA (fun j=>j<w.heap.size) w' A (bvs l)):SlN (OutR a rg rv es s) w' (.slice A l.length m) l:=
 ⟨A,m,rfl,hm,M.mono (fun j _ x=>by
  rcases x with x | x
  ·omega
  ·exact h.rso_lt x)⟩
def Hdl (es:List Ent) (s:Option Ss) (x:Nat) (ks:Nat->UInt8):Prop:=(∃(q:Nat) (e:Ent),es[q]? = some e/\e.b=x/\e.it.k=ks)\/(∃z,s=some z/\z.b=x/\z.ks=ks)
theorem RS.use_r (h:RS w B rg rv es s c) {q:Nat} {e:Ent} (he:es[q]? = some e) {Z:Option Nat} {a o r:Nat} (hx:Box w' e.b e.it.k Z a o r) (hs:Dm w w' e.b e.h Z) (h1:a<=e.a+1) (h2:o<=e.o+1) (h3:r<=e.r+1) :
  Rn w w' B rg rv es s (es.set q ⟨e.it,e.b,Z,a,o,r⟩) s (c+1):=by
 have hr:=h.k.use he hx hs h.hB;have hn:=h.k.use_new he a o r hs;refine⟨⟨hr,Nat.le_trans h.hB hs.1.size,fun z O=>⟨(h.sx z O).1.chg hs.1 (fun j M x=>h.ap j ⟨z,O,M⟩ (Rg.af he x)),by have:=(h.sx z O).2;omega⟩,fun j M x=>?_,h.sl,h.cz.set he h1 h2 h3⟩,ao he _ _ _ _,fun z O=>⟨z,O,rfl,rfl⟩,hs.1.mono (fun j _ x=>.inl (Rg.af he x)),fun j M=>?_⟩
 ·rcases hn j x with y | y
  ·exact h.ap j M y
  ·obtain⟨z,O,M⟩:=M
   have:=(h.sx z O).1.own_lt j M;omega
 ·rcases M with M | M
  ·rcases hn j M with y | y
   ·exact .inl (.inl y)
   ·exact .inr y
  ·exact .inl (.inr M)
theorem RS.use_s {z:Ss} (h:RS w B rg rv es (some z) c) {h':Option Nat} {a o r:Nat} (hx:Box w' z.b z.ks h' a o r) (hs:Dm w w' z.b z.h h') (h1:a<=z.a+1) (h2:o<=z.o+1) (h3:r<=z.r+1) :
  Rn w w' B rg rv es (some z) es (some ⟨z.b,z.ks,h',a,o,r⟩) (c+1):=by
 have hz:=h.sx z rfl;have O:∀j,Ow z.b h' j->Ow z.b z.h j\/w.heap.size<=j:=fun j M=>by
  rcases Nat.lt_or_ge j w.heap.size with g | g
  ·exact .inl (hs.own j g M)
  ·exact .inr g
 have av:∀j,SO (some ⟨z.b,z.ks,h',a,o,r⟩) j->Ow z.b h' j:=fun j M=>by
  obtain⟨y,Z,M⟩:=M;injection Z with Z;subst Z;exact M
 refine⟨⟨h.k.chg hs.1 (fun j M x=>h.ap j ⟨z,rfl,x⟩ M),Nat.le_trans h.hB hs.1.size,fun y Z=>?_,fun j M x=>?_,fun j M=>?_,h.cz.mono (by omega)⟩,rfl,fun y Z=>?_,hs.1.mono (fun j _ x=>.inr ⟨z,rfl,x⟩),fun j M=>?_⟩
 ·injection Z with Z
  subst Z;refine⟨hx,?_,?_,?_⟩
  ·show a<=c+1;omega
  ·show o<=c+1;omega
  ·show r<=c+1;omega
 ·rcases O j (av j M) with y | y
  ·exact h.ap j ⟨z,rfl,y⟩ x
  ·have:=h.k.own_lt x;omega
 ·rcases O j (av j M) with y | y
  ·exact h.sl j ⟨z,rfl,y⟩
  ·have:=h.hB;omega
 ·injection Z with Z
  subst Z;exact⟨_,rfl,rfl,rfl⟩
 ·rcases M with M | M
  ·exact .inl (.inl M)
  ·rcases O j (av j M) with y | y
   ·exact .inl (.inr ⟨z,rfl,y⟩)
   ·exact .inr y
theorem Rn.drop (h:Rn w0 w B rg rv es0 none es s c):Rn w0 w B rg rv es0 none es none c:=
 ⟨h.st.no_s,h.eq,fun z M=>(by cases M),h.chg,fun j O=>h.nw j (by
  rcases O with O | ⟨z,M,_⟩
  ·exact .inl O
  ·cases M)⟩
theorem Rn.base (h:Rn w0 w B rg rv es0 s0 es s c) (hk:RS w0 B rg rv es0 s0 c'):Below B w0 w:=h.chg.below hk.hB (fun j _ M=>hk.rso_lo M)
end
open SeL (Cw BK Ns)
section
variable {w w':World} {B:Nat} {rg:Nat} {rv:Value} {es:List Ent} {s:Option Ss} {c:Nat}
theorem au {q:Nat} {e:Ent} (he:es[q]? = some e) {Z:Option Nat} {a o r j:Nat} (M:RSO rg rv (es.set q ⟨e.it,e.b,Z,a,o,r⟩) s j):RSO rg rv es s j\/Ow e.b Z j:=by
 have hq:=(List.getElem?_eq_some_iff.1 he).1;rcases M with(M | M | ⟨k,f,O,M⟩) | M
 ·exact .inl (.inl (.inl M))
 ·exact .inl (.inl (.inr (.inl M)))
 ·by_cases g:q=k
  ·subst g
   rw[List.getElem?_set_self hq] at O;injection O with O;subst O;exact .inr M
  ·rw[List.getElem?_set_ne g] at O
   exact .inl (.inl (.inr (.inr ⟨k,f,O,M⟩)))
 ·exact .inl (.inr M)
theorem MR {x:Nat} {ks:Nat->UInt8} (h:RS w B rg rv es s c) (hh:Hdl es s x ks) (hc:c<1000000) (u:Int) (v:Value) (l:Nm.L) (hv:SlN (RSO rg rv es s) w v l) :
  Calls Tryz.prog 138 #[.pointer (some ⟨x,0,none⟩),.int .i64 u,v] w fun e w'=>∃v2 es' s',e=.returned (.tuple #[v2,.int .i64 (BK ks u l).2])/\SlN (OutR w rg rv es' s') w' v2 (BK ks u l).1/\Rn w w' B rg rv es s es' s' (c+1):=by
 obtain⟨A,m,rfl,O,hr⟩:=hv;rcases hh with⟨q,e,he,rfl,rfl⟩ | ⟨z,hz,rfl,rfl⟩
 ·have av:=h.cz q e he
  refine(MH e.b e.it.k e.h e.a e.o e.r u A l.length m l w (by omega) (by omega) rfl O (hr.mono fun j _ M=>.inl (Rg.af he M)) (h.k.box q e he)).mono ?_;rintro e1 w1 ⟨A2,c2,h',o',r',rfl,h1,h2,h3,h4,h5,h6,Z⟩;refine⟨_,es.set q ⟨e.it,e.b,h',e.a,o',r'⟩,s,rfl,⟨A2,c2,rfl,h1,h3.mono fun j _ M=>?_⟩,h.use_r he h4 h5 (by omega) h6 Z⟩;rcases M with M | M
  ·exact .inl M
  ·rcases au he M with g | g
   ·exact .inl (h.rso_lt g)
   ·exact .inr g
 ·subst hz
  have hx:=h.sx z rfl;refine(MH z.b z.ks z.h z.a z.o z.r u A l.length m l w (by omega) (by omega) rfl O (hr.mono fun j _ M=>.inr ⟨z,rfl,M⟩) hx.1).mono ?_;rintro e1 w1 ⟨A2,c2,h',o',r',rfl,h1,h2,h3,h4,h5,h6,Z⟩;refine⟨_,es,some ⟨z.b,z.ks,h',z.a,o',r'⟩,rfl,⟨A2,c2,rfl,h1,h3.mono fun j _ M=>?_⟩,h.use_s h4 h5 (by omega) h6 Z⟩;rcases M with M | M | ⟨y,hy,M⟩
  ·exact .inl M
  ·exact .inl (h.k.own_lt M)
  ·injection hy with hy
   subst hy;exact .inr M
def OffR (rg:Nat) (rv:Value) (es:List Ent) (s:Option Ss) (g:Nat):Prop:=¬RSO rg rv es s g
theorem RS.offs (h:RS w B rg rv es s c) {g:Nat} (M:w.heap.size<=g):OffR rg rv es s g:=h.fresh M
theorem Rn.off {w0:World} {es0:List Ent} {s0:Option Ss} (h:Rn w0 w B rg rv es0 s0 es s c) {g:Nat} (M:OffR rg rv es0 s0 g) (O:g<w0.heap.size):OffR rg rv es s g:=h.not M O
theorem Rn.more {w0:World} {es0:List Ent} {s0:Option Ss} {c':Nat} (h:Rn w0 w B rg rv es0 s0 es s c) (M:c<=c'):Rn w0 w B rg rv es0 s0 es s c':=⟨h.st.more M,h.eq,h.sq,h.chg,h.nw⟩
theorem Rn.alloc {w0:World} {es0:List Ent} {s0:Option Ss} (h:Rn w0 w B rg rv es0 s0 es s c) (o:Obj):Rn w0 (w.alloc o) B rg rv es0 s0 es s c:=h.below (Ah.alloc Ag _)
theorem Rn.over {w0:World} {es0:List Ent} {s0:Option Ss} (h:Rn w0 w B rg rv es0 s0 es s c) {g:Nat} (Z:w0.heap.size<=g) (hk:OffR rg rv es s g) (hw:w.grownBy w' (some g)):Rn w0 w' B rg rv es0 s0 es s c:=by
 have M:Chg (fun j=>j=g) w w':=Chg.of_grown hw rfl;exact⟨h.st.chg M (fun j O e=>hk (e▸O)),h.eq,h.sq,h.chg.trans M (fun j O x=>by omega),h.nw⟩
end
end Kd
namespace Ca
open Nm (L)
open Rg (Pr)
structure Cr where
 s:Pr
 n:Int
 b:L
 k:Nat->UInt8
 e:Int
abbrev It:=Pr×Cr
def del (p:Pr) (t:Int) (i:It):Bool:=decide (i.2.e<t)||decide (i.1=p)
def rest (l:List It) (p:Pr) (t:Int):List It:=l.filter (fun i=>!del p t i)
def had (l:List It) (p:Pr):Bool:=l.any (fun i=>decide (i.1=p))
end Ca
namespace Ca
open Go.RowKit Af Se
open Rg (Pr prC prV Lr Oq RdR Bq Bt)
section
variable {α:Type} {f:α->List Value} {n:Nat}
theorem PN (h:∀x,(f x).length=n):∀(l:List α) (i:Nat) (x:α),i<l.length->∀q,((l.set i x).flatMap f)[q]? = if i*n<=q/\q<i*n+n then (f x)[q - i*n]? else (l.flatMap f)[q]?
 | [],i,x,hi,q=>by simp at hi
 |a :: l,0,x,hi,q=>by
  rw[List.set_cons_zero,List.flatMap_cons,List.flatMap_cons,Nat.zero_mul,Nat.zero_add,Nat.sub_zero]
  by_cases g:q<n
  ·rw[if_pos ⟨Nat.zero_le _,g⟩,List.getElem?_append_left (by rw[h];exact g)]
  ·rw[if_neg (fun x=>g x.2),List.getElem?_append_right (by rw[h];omega),List.getElem?_append_right (by rw[h];omega),h,h]
 |a :: l,i+1,x,hi,q=>by
  rw[List.set_cons_succ,List.flatMap_cons,List.flatMap_cons,Nat.succ_mul]
  by_cases g:q<n
  ·rw[if_neg (by omega),List.getElem?_append_left (by rw[h];exact g),List.getElem?_append_left (by rw[h];exact g)]
  ·rw[List.getElem?_append_right (by rw[h];omega),List.getElem?_append_right (by rw[h];omega),h,PN h l i x (by simpa using hi)]
   by_cases k:i*n<=q - n/\q - n<i*n+n
   ·rw[if_pos k,if_pos (by omega)]
    congr 1
    omega
   ·rw[if_neg k,if_neg (by omega)]
theorem MS (h:∀x,(f x).length=n):∀(l:List α) (i:Nat),(l.flatMap f).take (i*n)=(l.take i).flatMap f
 | [],i=>by simp
 |a :: l,0=>by simp
 |a :: l,i+1=>by
  rw[List.take_succ_cons,List.flatMap_cons,List.flatMap_cons,<-MS h l i,Nat.succ_mul,Nat.add_comm (i*n) n,List.take_append,h,show n+i*n - n=i*n by omega,List.take_of_length_le (by rw[h];omega)]
variable {w:World} {B g cap:Nat} {t:TypeId} {l:List α}
theorem Oy {m:Nat} {xs:List Value} (Z:w.ownsRow B t n (.slice (some ⟨g,0,none⟩) m cap) m xs):∃cur,Blk w g t cur/\B<=g/\m<=cap/\cap<=maxLen/\cur.size=cap*n/\cur.toList.take (m*n)=xs:=by
 rcases Z.2 with⟨M,_⟩ | ⟨g1,O,cur,M,h2,h3,h4,h5,h6,h7⟩
 ·cases M
 ·injection M with e1 _ e2
  injection e1 with e1;injection e1 with e1;subst e1 e2;exact⟨cur,h3,h2,h4,h5,h6,h7⟩
theorem Yf {m:Nat} {xs:List Value} {cur:Array Value} (hb:Blk w g t cur) (h1:B<=g) (O:m<=cap) (h3:cap<=maxLen) (M:cur.size=cap*n) (Z:cur.toList.take (m*n)=xs):w.ownsRow B t n (.slice (some ⟨g,0,none⟩) m cap) m xs:=
 ⟨by rw[<-Z,List.length_take,Array.length_toList,M];exact Nat.min_eq_left (Nat.mul_le_mul_right n O),.inr ⟨g,cap,cur,rfl,h1,hb,O,h3,M,Z⟩⟩
theorem Uk (M:∀x,(f x).length=n) (ho:w.ownsRow B t n (.slice (some ⟨g,0,none⟩) l.length cap) l.length (l.flatMap f)) {i:Nat} (hi:i<l.length) (x:α) :
  (w.setCells g (i*n) (f x)).ownsRow B t n (.slice (some ⟨g,0,none⟩) l.length cap) l.length ((l.set i x).flatMap f):=by
 obtain⟨cur,h1,h2,Z,h4,O,h6⟩:=Oy ho;have av:i*n+n<=l.length*n:=by rw[<-Nat.succ_mul];exact Nat.mul_le_mul_right n hi
 have aw:l.length*n<=cap*n:=Nat.mul_le_mul_right n Z;obtain⟨ds,k1,k2,k3,k4⟩:=Wh.Bo (f x) (i*n) w cur h1 (by rw[M,O];omega);refine Yf k1 h2 Z h4 (by rw[k2,O]) ?_;apply List.ext_getElem?;intro q;rw[PN M l i x hi]
 by_cases g1:q<l.length*n
 ·rw[List.getElem?_take_of_lt g1,Array.getElem?_toList]
  by_cases g2:i*n<=q/\q<i*n+n
  ·rw[if_pos g2,k3 q g2.1 (by rw[M];exact g2.2)]
  ·rw[if_neg g2,k4 q (by rw[M];omega),<-h6,List.getElem?_take_of_lt g1,Array.getElem?_toList]
 ·rw[if_neg (by omega),List.getElem?_eq_none (by rw[List.length_take];omega),List.getElem?_eq_none (by rw[Lr f n M];omega)]
theorem JN (M:w.ownsRow B t n (.slice (some ⟨g,0,none⟩) l.length cap) l.length (l.flatMap f)) (o k:Nat) (h:o+k<=l.length*n):w.there g o k:=by
 obtain⟨cur,Z,h2,h3,h4,h5,h6⟩:=Oy M;have O:l.length*n<=cap*n:=Nat.mul_le_mul_right n h3;exact Wh.Cx Z o k (by omega)
theorem Ul (hf:∀x,(f x).length=n) (ho:w.ownsRow B t n (.slice (some ⟨g,0,none⟩) l.length cap) l.length (l.flatMap f)) {i:Nat} (hi:i<=l.length) (O:List Value) (hv:i*n+O.length<=l.length*n) :
  (w.setCells g (i*n) O).ownsRow B t n (.slice (some ⟨g,0,none⟩) i cap) i ((l.take i).flatMap f):=by
 obtain⟨cur,h1,h2,h3,h4,Z,h6⟩:=Oy ho;have M:i*n<=l.length*n:=Nat.mul_le_mul_right n hi;have av:l.length*n<=cap*n:=Nat.mul_le_mul_right n h3;obtain⟨ds,k1,k2,k3,k4⟩:=Wh.Bo O (i*n) w cur h1 (by rw[Z];omega);refine Yf k1 h2 (Nat.le_trans hi h3) h4 (by rw[k2,Z]) ?_;rw[<-MS hf,<-h6,List.take_take,Nat.min_eq_left M];apply List.ext_getElem?;intro q
 by_cases g1:q<i*n
 ·rw[List.getElem?_take_of_lt g1,List.getElem?_take_of_lt g1,Array.getElem?_toList,Array.getElem?_toList,k4 q (.inl g1)]
 ·rw[List.getElem?_eq_none (by rw[List.length_take];omega),List.getElem?_eq_none (by rw[List.length_take];omega)]
end
theorem MT (P:Program) (w:World) (t e ty:TypeId) (i:TypeInfo) (z:Value) (n:Nat) (ht:P.underlying t=some (.slice e)) (hi:P.info? e=some i) (hz:i.zero=some z) (Z:z.cells.size=n) (h1:∀u∈z.cells.toList,u.oneCell'=true) (hn:0<n) (b o m c:Nat)
  (hc:w.there b o (m*n)):∃vs:List Value,vs.length=m*n/\(Builtin.clear_ #[t] ty #[.slice (some ⟨b,o,none⟩) m c]).run P w=.ok (.tuple #[]) (w.setCells b o vs):=by
 have hv:(zeroValue e).run P w=.ok z w:=by simp [zeroValue,typeInfo,hi,hz]
 have hlen:(Builtin.zeroCells z.cells m).toList.length=m*n:=by simp [Builtin.zeroCells,Z]
 have O:∀u∈(Builtin.zeroCells z.cells m).toList,u.oneCell'=true:=by
  intro u hu;simp only[Builtin.zeroCells,Array.toList_map,List.mem_map] at hu;obtain⟨q,_,rfl⟩:=hu;have hq:q % z.cells.size<z.cells.size:=Nat.mod_lt _ (by omega);rw[getElem!_pos z.cells (q % z.cells.size) hq];exact h1 _ (by simp)
 cases m with
 |zero=>
  refine⟨[],by simp,?_⟩;simp [Builtin.clear_,run_underlying ht,World.setCells]
 |succ m=>
  refine⟨(Builtin.zeroCells z.cells (m+1)).toList,hlen,?_⟩;have M:=run_storeCells_cells (P:=P) b o (Builtin.zeroCells z.cells (m+1)).toList 0 w (fun j hj=>by simpa using (hc j (by omega)).1) (fun j hj=>by simpa using (hc j (by omega)).2) O;simp only[Nat.add_zero] at M;simp [Builtin.clear_,run_underlying ht,hv,M]
structure En where
 p:Pr
 x:Cr
 A:Option Addr
 c:Nat
def En.it (e:En):It:=(e.p,e.x)
section
variable {w:World} {g o:Nat} {e:En} {x:Cr} {A:Option Addr} {c:Nat}
end
def its (es:List En):List It:=es.map (·.it)
theorem Dn (es:List En):(its es).length=es.length:=by simp [its]
abbrev PT (r:Nat) (v:Value) (q:Nat):Prop:=q=r\/v.ownBlock=some q
section
variable {w w':World} {B r:Nat} {v v':Value} {es es':List En} {S:Nat->Prop}
theorem dk {A:Option Addr} {xs:List Value} (h:Rd w w.heap.size A xs) (Z:Chg S w w') (hs:∀a,A=some a->¬S a.block):Rd w' w'.heap.size A xs:=by
 rcases h with h | ⟨b,o,O,M,h3⟩
 ·exact .inl h
 ·exact .inr ⟨b,o,O,Nat.lt_of_lt_of_le M Z.size,fun i u hu=>(World.cell?_of_block (a:=⟨b,o+i,none⟩) (Z.block b M (hs _ O))).trans (h3 i u hu)⟩
end
end Ca
namespace Ca
open Go.RowKit Af Se
open Nm (L)
open Rg (Pr prC prV Dq)
theorem WI (n:Nat) (hn:n<=140737488351232) (w:World):(Instr.makeSlice 34 (.int .i64 (n:Int)) (.int .i64 (n:Int))).run Tryz.prog w=.ok (.slice (some ⟨w.heap.size,0,none⟩) n n) (w.alloc (.cells (De n) 5)):=by
 obtain⟨M,hi,O,hs,Z⟩:=info_parts Nm.LW;have h:=run_make (P:=Tryz.prog) w 34 5 M _ Tryz.underlying34 hi O .i64 .i64 (n:Int) (n:Int) (by omega) (by omega) (by rw[Z];omega) (by omega);have e:madeCells (Value.int .u8 0).cells (((n:Int)).toNat*M.size)=De n:=by
  rw[hs,Nat.mul_one,Int.toNat_natCast];refine Array.toList_inj.1 ?_;show(madeCells #[Value.int .u8 0] n).toList=_;rw[toList_madeCells_one];simp [De,bv]
 rw[e] at h
 simpa using h
theorem WJ (s:L) (O:s≠[]) (hs:s.length<=140737488351232) (w:World):(Builtin.unsafeString_ #[302,3] 9 #[.pointer (some ⟨w.heap.size,0,none⟩),.int .i64 (s.length:Int)]).run Tryz.prog (w.alloc (.cells (bvs s).toArray 5))=.ok (.string ⟨s.toArray⟩) ((w.alloc (.cells (bvs s).toArray 5)).freeze ⟨w.heap.size,0,none⟩ s.length):=by
 obtain⟨i0,hi,_,M,_⟩:=info_parts Nm.LW;have hk:=Blk.new w 5 (bvs s).toArray;refine Lib.run_unsafeString_row (P:=Tryz.prog) _ _ _ _ 5 Tryz.underlying302 (by simp [Program.cellsOf,hi,M]) w.heap.size s.length ?_ s O Ag (by omega) fun j x Z=>?_
 ·unfold World.shape?
  rw[show(w.alloc (.cells (bvs s).toArray 5)).heap[w.heap.size]? = _ from hk];simp [AG]
 ·obtain⟨hj,e⟩:=List.getElem?_eq_some_iff.1 Z
  rw[addr_add,Nat.zero_add,hk.cell,List.getElem?_toArray,Gg hj,e];rfl
theorem QR (s:L) (w:World) (M:s.length<=140737488351232):Calls Tryz.prog 152 #[.string ⟨s.toArray⟩] w fun e w'=>e=.returned (.string ⟨s.toArray⟩)/\Below w.heap.size w w':=by
 by_cases h0:s = []
 ·subst h0
  go_enter Tryz.func152,Tryz.ntmps152
  go_wp2
  go_ret;exact⟨rfl,Below.refl _ _⟩
 ·have av:=WI s.length M w
  have O:=Nm.GD s w;have Z:=WJ s h0 M w;have hl:1<=s.length:=by
   cases s with
   |nil=>exact absurd rfl h0
   |cons a r=>simp
  have t0:((s.length:Int)==0)=false:=by simp;omega
  have HB:=I (Lib.below_freeze ((Below.refl w.heap.size w).alloc Ag (.cells (bvs s).toArray 5)) (p:=⟨w.heap.size,0,none⟩) Ag s.length);clear h0;go_enter Tryz.func152,Tryz.ntmps152
  go_wp2
  go_ret;exact⟨rfl,HB.o⟩
theorem Ks (s:L) (w:World) (M:s.length<=140737488351232):Calls Tryz.prog 114 #[.string ⟨s.toArray⟩] w fun e w'=>e=.returned (.string ⟨s.toArray⟩)/\Below w.heap.size w w':=by
 have c1:=QR s w M;go_enter Tryz.func114,Tryz.ntmps114
 go_wp2_with (go_at_call 152;refine Aj c1 ?_;rintro w' O)
 go_ret;exact⟨rfl,O⟩
theorem WK (p:Pr) (w:World) (h1:p.1.length<=140737488351232) (h2:p.2.length<=140737488351232):Calls Tryz.prog 68 #[prV p] w fun e w'=>e=.returned (prV p)/\Below w.heap.size w w':=by
 have C1:=I (fun w1=>Ks p.1 w1 h1);have C2:=I (fun w1=>Ks p.2 w1 h2);go_enter Tryz.func68,Tryz.ntmps68
 go_upto_region 1 with fail
 obtain⟨W,eW⟩:=Ak ((w.alloc (.cells #[.string ⟨p.1.toArray⟩,.string ⟨p.2.toArray⟩] 27)).alloc (.cells #[.string ⟨#[]⟩,.string ⟨#[]⟩] 27));have hq:=Blk.new (w.alloc (.cells #[.string ⟨p.1.toArray⟩,.string ⟨p.2.toArray⟩] 27)) 27 #[.string ⟨#[]⟩,.string ⟨#[]⟩];rw[show(w.alloc (.cells #[.string ⟨p.1.toArray⟩,.string ⟨p.2.toArray⟩] 27)).heap.size=w.heap.size+1 by simp,<-eW] at hq;have O:=I (show Blk W w.heap.size 27 #[.string ⟨p.1.toArray⟩,.string ⟨p.2.toArray⟩] by rw[eW];exact(Blk.new _ _ _).alloc _);have M:=I hq;have HB:=I (show Below w.heap.size w W by rw[eW];exact(Ah.alloc Ag _).alloc (by simp) _);rw[<-eW];clear eW hq;replace O:=I (show Blk W.drew _ _ _ from O.o.drewN 1);replace M:=I (show Blk W.drew _ _ _ from M.o.drewN 1);replace HB:=I (show Below _ _ W.drew from below_drewN HB.o 1)
 go_region_held3 (fun w'=>w'.cell? ⟨w.heap.size,0,none⟩=some (.string ⟨p.1.toArray⟩)/\w'.cell? ⟨w.heap.size,1,none⟩=some (.string ⟨p.2.toArray⟩)) (first | exact⟨O.o.cell 0,O.o.cell 1⟩ | exact⟨(Si.Blk.far (Si.Blk.far O.o _ _ (by simp)) _ _ (by simp)).cell 0,(Si.Blk.far (Si.Blk.far O.o _ _ (by simp)) _ _ (by simp)).cell 1⟩) ((first
  |(go_at_call 114;(with_reducible refine Calls.mono (C1.o _) ?_);rintro e w1 ⟨rfl,Z⟩;clear C1;replace O:=I (O.o.below Z);replace M:=I (M.o.below Z);replace HB:=HB.t Z;have av:=M.c0;have aw:=M.c1;have fz:=M.o.frozen;clear Z)
  |(go_at_call 114;(with_reducible refine Calls.mono (C2.o _) ?_);rintro e w2 ⟨rfl,Z⟩;clear C2 av aw fz;replace O:=I (O.o.below Z);replace M:=I (M.o.below Z);replace HB:=HB.t Z;have av:=M.c0;have aw:=M.c1;have fz:=M.o.frozen;clear Z)))
 go_wp2
 have hz:=(M.o.set 0 (.string ⟨p.1.toArray⟩)).set 1 (.string ⟨p.2.toArray⟩);rw[show(((#[.string ⟨#[]⟩,.string ⟨#[]⟩]:Array Value).setIfInBounds 0 (.string ⟨p.1.toArray⟩)).setIfInBounds 1 (.string ⟨p.2.toArray⟩))=#[.string ⟨p.1.toArray⟩,.string ⟨p.2.toArray⟩] from rfl] at hz;refine bodyPost_ret (v:=prV p) ?_ ?_ ?_
 ·exact Wh.Au (v:=prV p) 2 27 ⟨w.heap.size+1,0,none⟩ Tryz.results68 (by rfl) (Wh.Ao hz Tryz.underlying27 (by rfl) Dq)
 ·rfl
 ·exact⟨rfl,Si.AI (Si.AI HB.o (by simp) _) (by simp) _⟩
structure Own1 (a w:World) (A:Option Addr) (xs:List Value):Prop where
 rd:Rd w w.heap.size A xs
 lo:∀p,A=some p->a.heap.size<=p.block/\p.block<w.heap.size
 bk:∀p,A=some p->∃t cur,Blk w p.block t cur
theorem Own1.below {a w w':World} {A:Option Addr} {xs:List Value} (h:Own1 a w A xs) (M:Below w.heap.size w w'):Own1 a w' A xs:=
 ⟨(h.1.below M).more M.size,fun p hp=>have q:=h.2 p hp;⟨q.1,Nat.lt_of_lt_of_le q.2 M.size⟩,fun p hp=>by obtain⟨t,cur,q⟩:=h.3 p hp;exact⟨t,cur,q.below M⟩⟩
theorem Own1.chg {S:Nat->Prop} {a w w':World} {A:Option Addr} {xs:List Value} (h:Own1 a w A xs) (M:Chg S w w') (hs:∀p,A=some p->¬S p.block):Own1 a w' A xs:=
 ⟨dk h.1 M hs,fun p hp=>have q:=h.2 p hp;⟨q.1,Nat.lt_of_lt_of_le q.2 M.size⟩,fun p hp=>by obtain⟨t,cur,q⟩:=h.3 p hp;exact⟨t,cur,M.blk q (hs p hp)⟩⟩
theorem Own1.none (a w:World):Own1 a w .none []:=⟨.inl rfl,(fun p hp=>by cases hp),(fun p hp=>by cases hp)⟩
theorem Own1.of_own {w w':World} {n:Nat} {v:Value} {t:TypeId} {xs:List Value} (h:w'.ownsRow w.heap.size t 1 v n xs):∃A c,v=.slice A n c/\Own1 w w' A xs/\n<=c:=by
 rcases h.2 with⟨M,Z⟩ | ⟨g,cap,cur,M,hg,O,hc,hm,hq,hx⟩
 ·subst Z
  exact⟨_,0,M,⟨Rd.of_own (n:=0) (cap:=0) (by rw[<-M];exact h),(fun p hp=>by cases hp),(fun p hp=>by cases hp)⟩,Nat.le_refl _⟩
 ·subst M
  exact⟨_,cap,rfl,⟨Rd.of_own h,(fun p hp=>by injection hp with hp;subst hp;exact⟨hg,(Array.getElem?_eq_some_iff.1 O).1⟩),(fun p hp=>by injection hp with hp;subst hp;exact⟨t,cur,O⟩)⟩,hc⟩
end Ca
end Go.Proofs.YtfbnjcdhipplpaaGreat
