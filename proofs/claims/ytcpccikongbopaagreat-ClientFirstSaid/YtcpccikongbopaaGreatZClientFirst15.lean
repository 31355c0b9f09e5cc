import Derived.Test.YtcpccikongbopaaGreatZClientFirst10
import Derived.Test.YtcpccikongbopaaGreatZClientFirst13
set_option maxHeartbeats 25600000
set_option maxRecDepth 100000
set_option linter.unusedVariables false
set_option linter.unusedSimpArgs false
namespace Go.Proofs.YtcpccikongbopaaGreat
namespace Cl
open Go.RowKit Ad Se
open Nm (L)
open Ms (Pr)
open Ca (It Cr En Ca CO PT its)
open SeL (BR Ck Ns)
def SlN (S:Nat->Prop) (w:World) (v:Value) (l:L):Prop:=∃A c,v=.slice A l.length c/\l.length<=c/\RdA S w A (bvs l)
section
variable {S S' T:Nat->Prop} {w w':World} {v:Value} {l:L}
theorem SlN.keep (h:SlN S w v l) (M:Chg T w w') (E:∀i,i<w.heap.size->T i->S i) (hs:∀i,i<w.heap.size->S' i->S i):SlN S' w' v l:=by
 obtain⟨A,c,F,D,O⟩:=h;exact⟨A,c,F,D,O.keep M E hs⟩
theorem SlN.below (h:SlN S w v l) (D:Below w.heap.size w w'):SlN S w' v l:=h.keep (Chg.of_below (S:=fun _=>False) D) (fun _ _ x=>x.elim) (fun _ _ x=>x)
theorem SlN.mono (h:SlN S w v l) (hs:∀i,i<w.heap.size->S' i->S i):SlN S' w v l:=h.keep (Chg.refl (fun _=>False) w) (fun _ _ x=>x.elim) hs
theorem SlN.sl (h:SlN S w v l):Ms.SlB w w.heap.size v l:=by
 obtain⟨A,c,E,D,F⟩:=h;exact⟨A,c,E,D,F.rd⟩
theorem SlN.nil (S:Nat->Prop) (w:World):SlN S w (.slice none 0 0) []:=⟨none,0,rfl,Nat.le_refl _,.inl rfl⟩
end
structure Ss where
 b:Nat
 ks:Nat->UInt8
 h:Option Nat
 a:Nat
 o:Nat
 r:Nat
def SO (s:Option Ss) (j:Nat):Prop:=∃z,s=some z/\Ow z.b z.h j
structure CP where
 k:Nat
 b:Nat
 r:Nat
 P:Pr
 ks:Nat->UInt8
structure CM where
 v:Value
 es:List En
 h:Option Nat
 a:Nat
 o:Nat
 r:Nat
 vv:Value
 ov:Value
 x:Option Ss
 y:Option Ss
def Pt (p:CP) (m:CM):Nat->Nat->Prop
 |0,j=>j=p.k
 |1,j=>Ow p.b m.h j
 |2,j=>CO p.r m.v m.es j
 |3,j=>m.vv.ownBlock=some j
 |4,j=>SO m.x j
 |5,j=>SO m.y j
 |_,_=>False
def AO (p:CP) (m:CM) (j:Nat):Prop:=∃i,Pt p m i j
structure Pa (w:World) (B:Nat) (p:CP) (m:CM):Prop where
 dis:∀i i' j,Pt p m i j->Pt p m i' j->i=i'
 lo:∀i j,Pt p m i j->B<=j
 lt:∀i j,Pt p m i j->j<w.heap.size
 hB:B<=w.heap.size
section
variable {w w':World} {B:Nat} {p:CP} {m m':CM}
theorem Pa.grow (h:Pa w B p m) (hs:w.heap.size<=w'.heap.size):Pa w' B p m:=⟨h.dis,h.lo,fun i j D=>Nat.lt_of_lt_of_le (h.lt i j D) hs,Nat.le_trans h.hB hs⟩
theorem Pa.use (F:Nat) (h:Pa w B p m) (hs:w.heap.size<=w'.heap.size) (M:∀j,Pt p m' F j->Pt p m F j\/w.heap.size<=j) (O:∀j,Pt p m' F j->j<w'.heap.size) (he:∀i j,i≠F->Pt p m' i j->Pt p m i j):Pa w' B p m':=by
 refine⟨fun i i' j D E=>?_,fun i j D=>?_,fun i j D=>?_,Nat.le_trans h.hB hs⟩
 ·by_cases e:i=F
  ·by_cases e':i'=F
   ·rw[e,e']
   ·subst e
    rcases M j D with x | x
    ·exact h.dis _ _ j x (he i' j e' E)
    ·have:=h.lt _ _ (he i' j e' E);omega
  ·by_cases e':i'=F
   ·subst e'
    rcases M j E with x | x
    ·exact h.dis _ _ j (he i j e D) x
    ·have:=h.lt _ _ (he i j e D);omega
   ·exact h.dis _ _ j (he i j e D) (he i' j e' E)
 ·by_cases e:i=F
  ·subst e
   rcases M j D with x | x
   ·exact h.lo _ _ x
   ·have:=h.hB;omega
  ·exact h.lo _ _ (he i j e D)
 ·by_cases e:i=F
  ·subst e;exact O j D
  ·exact Nat.lt_of_lt_of_le (h.lt _ _ (he i j e D)) hs
end
abbrev pv (b:Nat):Value:=.pointer (some ⟨b,0,none⟩)
def OuR (p:CP) (m:CM) (s:St):Prop:=(m.ov=.pointer none/\(s.st=1->s.ou.u=0))\/(m.ov=pv p.b/\s.ou.ks=p.ks)\/∃z,m.x=some z/\m.ov=pv z.b/\s.ou.ks=z.ks
abbrev clA (p:CP) (m:CM) (s:St):Array Value:=
 #[.string ⟨p.P.1.toArray⟩,.string ⟨p.P.2.toArray⟩,pv p.b,pv p.r,.int .i64 (s.n:Int),.int .i64 (s.s:Int),.int .i64 (s.q:Int),.int .i64 s.st,.int .i64 s.er,.int .i64 s.sn,
  .string ⟨s.tg.1.toArray⟩,.string ⟨s.tg.2.toArray⟩,m.vv,.int .i64 s.ou.no,m.ov,.int .i64 s.ou.u]
def SxR (w:World) (x:Option Ss) (c:Nat):Prop:=∀z,x=some z->Box w z.b z.ks z.h z.a z.o z.r/\z.a<=c/\z.o<=c/\z.r<=c
structure Cl (w:World) (B:Nat) (p:CP) (m:CM) (s:St) (c:Nat):Prop where
 pa:Pa w B p m
 blk:Blk w p.k 94 (clA p m s)
 ca:Ca w B p.r m.v m.es
 li:its m.es=s.l
 box:Box w p.b p.ks m.h m.a m.o m.r
 bc:m.a<=c/\m.o<=c/\m.r<=c
 vis:Nm.Own w B m.vv s.vs
 sx:SxR w m.x c
 sy:SxR w m.y c
 ou:OuR p m s
section
variable {w w' w0:World} {B:Nat} {p:CP} {m m' m0:CM} {s s':St} {c c':Nat} {S:Nat->Prop}
theorem SxR.chg {x:Option Ss} (h:SxR w x c) (F:Chg S w w') (hs:∀j,SO x j->¬S j):SxR w' x c:=fun z D=>⟨(h z D).1.chg F (fun j E=>hs j ⟨z,D,E⟩),(h z D).2⟩
theorem SxR.more {x:Option Ss} (h:SxR w x c) (E:c<=c'):SxR w x c':=fun z D=>⟨(h z D).1,by have:=(h z D).2;omega⟩
theorem SxR.lt {x:Option Ss} (h:SxR w x c) {j:Nat} (D:SO x j):j<w.heap.size:=by
 obtain⟨z,E,D⟩:=D;exact(h z E).1.own_lt j D
theorem SxR.none:SxR w .none c:=fun z D=>by cases D
theorem Cl.lt (h:Cl w B p m s c) {j:Nat} (D:AO p m j):j<w.heap.size:=by
 obtain⟨i,D⟩:=D;exact h.pa.lt i j D
theorem Cl.lo (h:Cl w B p m s c) {j:Nat} (D:AO p m j):B<=j:=by
 obtain⟨i,D⟩:=D;exact h.pa.lo i j D
theorem BQ {v:Value} {ls:List L} (h:Nm.Own w B v ls) (D:Chg S w w') (hs:∀k,v.ownBlock=some k->¬S k):Nm.Own w' B v ls:=D.own h hs
theorem Cl.chg (h:Cl w B p m s c) (E:Chg S w w') (hs:∀j,AO p m j->¬S j):Cl w' B p m s c:=
 ⟨h.pa.grow E.size,E.blk h.blk (hs _ ⟨0,rfl⟩),h.ca.chg E (fun j D=>hs j ⟨2,D⟩),h.li,h.box.chg E (fun j D=>hs j ⟨1,D⟩),h.bc,BQ h.vis E (fun j D=>hs j ⟨3,D⟩),h.sx.chg E (fun j D=>hs j ⟨4,D⟩),h.sy.chg E (fun j D=>hs j ⟨5,D⟩),h.ou⟩
theorem Cl.below (h:Cl w B p m s c) (D:Below w.heap.size w w'):Cl w' B p m s c:=h.chg (S:=fun _=>False) (Chg.of_below D) (fun _ _ x=>x)
theorem Cl.more (h:Cl w B p m s c) (D:c<=c'):Cl w B p m s c':=⟨h.pa,h.blk,h.ca,h.li,h.box,by have:=h.bc;omega,h.vis,h.sx.more D,h.sy.more D,h.ou⟩
structure Tu (w0 w:World) (B:Nat) (p:CP) (m0 m:CM) (s:St) (c:Nat):Prop where
 cl:Cl w B p m s c
 chg:Chg (AO p m0) w0 w
 nw:∀j,AO p m j->AO p m0 j\/w0.heap.size<=j
theorem Tu.start (h:Cl w B p m s c) (D:Below w.heap.size w w'):Tu w w' B p m m s c:=⟨h.below D,Chg.of_below D,fun _ x=>.inl x⟩
theorem Tu.refl (h:Cl w B p m s c):Tu w w B p m m s c:=⟨h,Chg.refl _ _,fun _ x=>.inl x⟩
theorem Tu.size (h:Tu w0 w B p m0 m s c):w0.heap.size<=w.heap.size:=h.chg.size
theorem Tu.trans (h:Tu w0 w B p m0 m s c) (g:Tu w w' B p m m' s' c'):Tu w0 w' B p m0 m' s' c':=
 ⟨g.cl,h.chg.trans g.chg (fun j D x=>by
  rcases h.nw j x with y | y
  ·exact y
  ·omega),fun j D=>by
  rcases g.nw j D with y | y
  ·exact h.nw j y
  ·exact .inr (Nat.le_trans h.size y)⟩
theorem Tu.below (h:Tu w0 w B p m0 m s c) (D:Below w.heap.size w w'):Tu w0 w' B p m0 m s c:=h.trans (.start h.cl D)
theorem Tu.more (h:Tu w0 w B p m0 m s c) (D:c<=c'):Tu w0 w B p m0 m s c':=⟨h.cl.more D,h.chg,h.nw⟩
theorem Tu.blk {g:Nat} {t:TypeId} {cs:Array Value} (h:Tu w0 w B p m0 m s c) (E:Blk w0 g t cs) (D:¬AO p m0 g):Blk w g t cs:=h.chg.blk E D
theorem Tu.not {g:Nat} (h:Tu w0 w B p m0 m s c) (D:¬AO p m0 g) (E:g<w0.heap.size):¬AO p m g:=fun x=>by
 rcases h.nw g x with y | y
 ·exact D y
 ·omega
theorem Cl.fresh (h:Cl w B p m s c) {g:Nat} (D:w.heap.size<=g):¬AO p m g:=fun x=>by have:=h.lt x;omega
theorem Tu.sl {v:Value} {l:L} (h:Tu w0 w B p m0 m s c) (hs:SlN (AO p m0) w0 v l):SlN (AO p m) w v l:=
 hs.keep h.chg (fun _ _ x=>x) (fun j D x=>by
  rcases h.nw j x with y | y
  ·exact y
  ·omega)
theorem Tu.made {v:Value} {l:L} (h:Tu w0 w B p m0 m s c) (hs:SlN (fun j=>j<w.heap.size) w' v l):SlN (AO p m) w' v l:=hs.mono (fun j _ x=>h.cl.lt x)
def Out (w0:World) (p:CP) (m:CM) (j:Nat):Prop:=j<w0.heap.size\/AO p m j
theorem Tu.o {v:Value} {l:L} {a:World} (h:Tu w0 w B p m0 m s c) (D:a.heap.size<=w0.heap.size) (hs:SlN (Out a p m0) w0 v l):SlN (Out a p m) w v l:=
 hs.keep h.chg (fun _ _ x=>.inr x) (fun j E x=>by
  rcases x with x | x
  ·exact .inl x
  ·rcases h.nw j x with y | y
   ·exact .inr y
   ·omega)
theorem Out.old {v:Value} {l:L} {a b:World} (D:a.heap.size<=b.heap.size) (hs:SlN (Out b p m) w v l):SlN (Out a p m) w v l:=hs.mono (fun j _ x=>by
 rcases x with x | x
 ·exact .inl (Nat.lt_of_lt_of_le x D)
 ·exact .inr x)
theorem Tu.put (h:Tu w0 w B p m0 m s c) {g:Nat} (M:w0.heap.size<=g) (F:¬AO p m g) (E:Chg (fun j=>j=g) w w'):Tu w0 w' B p m0 m s c:=
 ⟨h.cl.chg E (fun j D x=>F (x▸D)),h.chg.trans E (fun j D x=>by omega),h.nw⟩
theorem Cl.not (h:Cl w B p m s c) {i i' j:Nat} (D:Pt p m i j) (E:i≠i'):¬Pt p m i' j:=fun x=>E (h.pa.dis i i' j D x)
theorem Cl.cell (h:Cl w B p m s c) (D:Chg (fun j=>j=p.k) w w') (Y:Blk w' p.k 94 (clA p {m with ov:=m'.ov} s')) (X:s'.l=s.l) (M:s'.vs=s.vs) (O:OuR p {m with ov:=m'.ov} s'):Tu w w' B p m {m with ov:=m'.ov} s' c:=by
 have E:∀i,i≠0->∀j,Pt p m i j->¬j=p.k:=fun i Z j F e=>h.not (i':=0) F Z e
 refine⟨⟨⟨h.pa.dis,h.pa.lo,(h.pa.grow D.size).lt,Nat.le_trans h.pa.hB D.size⟩,Y,h.ca.chg D (E 2 (by decide)),h.li.trans X.symm,h.box.chg D (E 1 (by decide)),h.bc,?_,h.sx.chg D (E 4 (by decide)),h.sy.chg D (E 5 (by decide)),O⟩,D.mono (fun j _ x=>⟨0,x⟩),fun j F=>.inl F⟩;show Nm.Own w' B m.vv s'.vs;rw[M];exact BQ h.vis D (E 3 (by decide))
theorem Cl.cache (h:Cl w B p m s c) {v':Value} {es':List En} {l:List It} (E:Chg (PT p.r m.v) w w') (hk:Ca w' B p.r v' es') (F:its es'=l) (M:∀j,CO p.r v' es' j->CO p.r m.v m.es j\/w.heap.size<=j):Tu w w' B p m {m with v:=v',es:=es'} {s with l:=l} c:=by
 have hs:∀i,i≠2->∀j,Pt p m i j->¬PT p.r m.v j:=fun i F j D e=>h.not (i':=2) D F (Ca.Vu e)
 have O:Pa w' B p {m with v:=v',es:=es'}:=by
  refine h.pa.use 2 E.size M (fun j D=>hk.own_lt D) (fun i j F D=>?_)
  match i,F,D with
  |0,_,D=>exact D
  |1,_,D=>exact D
  |3,_,D=>exact D
  |4,_,D=>exact D
  |5,_,D=>exact D
 refine⟨⟨O,E.blk h.blk (hs 0 (by decide) _ rfl),hk,F,h.box.chg E (hs 1 (by decide)),h.bc,BQ h.vis E (hs 3 (by decide)),h.sx.chg E (hs 4 (by decide)),h.sy.chg E (hs 5 (by decide)),h.ou⟩,E.mono (fun j _ x=>⟨2,Ca.Vu x⟩),fun j D=>?_⟩;obtain⟨i,D⟩:=D
 match i,D with
 |0,D=>exact .inl ⟨0,D⟩
 |1,D=>exact .inl ⟨1,D⟩
 |2,D=>exact(M j D).imp (fun x=>⟨2,x⟩) id
 |3,D=>exact .inl ⟨3,D⟩
 |4,D=>exact .inl ⟨4,D⟩
 |5,D=>exact .inl ⟨5,D⟩
theorem Hp {b:Nat} {E F:Option Nat} (hs:CK w w' b E F) {j:Nat} (D:Ow b F j):Ow b E j\/w.heap.size<=j:=by
 rcases D with D | D
 ·exact .inl (.inl D)
 ·rcases hs.2 with e | ⟨_,g,M,O⟩
  ·exact .inl (.inr (e▸D))
  ·rw[M] at D
   injection D with D;exact .inr (by omega)
theorem Cl.use_b (h:Cl w B p m s c) {F:Option Nat} {a o r:Nat} (O:Box w' p.b p.ks F a o r) (hs:CK w w' p.b m.h F) (h1:a<=m.a+1) (Z:o<=m.o+1) (h3:r<=m.r+1):Tu w w' B p m {m with h:=F,a:=a,o:=o,r:=r} s (c+1):=by
 have E:∀i,i≠1->∀j,Pt p m i j->¬Ow p.b m.h j:=fun i M j D e=>h.not (i':=1) D M e
 have X:Pa w' B p {m with h:=F,a:=a,o:=o,r:=r}:=by
  refine h.pa.use 1 hs.1.size (fun j D=>Hp hs D) (fun j D=>O.own_lt j D) (fun i j M D=>?_)
  match i,M,D with
  |0,_,D=>exact D
  |2,_,D=>exact D
  |3,_,D=>exact D
  |4,_,D=>exact D
  |5,_,D=>exact D
 have Y:=h.bc;refine⟨⟨X,hs.1.blk h.blk (E 0 (by decide) _ rfl),h.ca.chg hs.1 (E 2 (by decide)),h.li,O,⟨by show a<=c+1;omega,by show o<=c+1;omega,by show r<=c+1;omega⟩,BQ h.vis hs.1 (E 3 (by decide)),(h.sx.chg hs.1 (E 4 (by decide))).more (Nat.le_succ _),(h.sy.chg hs.1 (E 5 (by decide))).more (Nat.le_succ _),h.ou⟩,hs.1.mono (fun j _ x=>⟨1,x⟩),fun j D=>?_⟩;obtain⟨i,D⟩:=D
 match i,D with
 |0,D=>exact .inl ⟨0,D⟩
 |1,D=>exact(Hp hs D).imp (fun x=>⟨1,x⟩) id
 |2,D=>exact .inl ⟨2,D⟩
 |3,D=>exact .inl ⟨3,D⟩
 |4,D=>exact .inl ⟨4,D⟩
 |5,D=>exact .inl ⟨5,D⟩
theorem Cl.use_x (h:Cl w B p m s c) {z:Ss} (X:m.x=some z) {O:Option Nat} {a o r:Nat} (Z:Box w' z.b z.ks O a o r) (hs:CK w w' z.b z.h O) (h1:a<=z.a+1) (h2:o<=z.o+1) (h3:r<=z.r+1):Tu w w' B p m {m with x:=some ⟨z.b,z.ks,O,a,o,r⟩} s (c+1):=by
 have M:∀i,i≠4->∀j,Pt p m i j->¬Ow z.b z.h j:=fun i Y j D e=>h.not (i':=4) D Y ⟨z,X,e⟩
 have F:∀j,SO (some ⟨z.b,z.ks,O,a,o,r⟩) j->SO m.x j\/w.heap.size<=j:=fun j D=>by
  obtain⟨q,E,D⟩:=D;injection E with E;subst E;exact(Hp hs D).imp (fun x=>⟨z,X,x⟩) id
 have hp:Pa w' B p {m with x:=some ⟨z.b,z.ks,O,a,o,r⟩}:=by
  refine h.pa.use 4 hs.1.size F (fun j D=>?_) (fun i j Y D=>?_)
  ·obtain⟨q,E,D⟩:=D
   injection E with E;subst E;exact Z.own_lt j D
  ·match i,Y,D with
   |0,_,D=>exact D
   |1,_,D=>exact D
   |2,_,D=>exact D
   |3,_,D=>exact D
   |5,_,D=>exact D
 have ab:=h.bc;have aa:=(h.sx z X).2;refine⟨⟨hp,hs.1.blk h.blk (M 0 (by decide) _ rfl),h.ca.chg hs.1 (M 2 (by decide)),h.li,h.box.chg hs.1 (M 1 (by decide)),⟨by show m.a<=c+1;omega,by show m.o<=c+1;omega,by show m.r<=c+1;omega⟩,BQ h.vis hs.1 (M 3 (by decide)),fun q E=>?_,(h.sy.chg hs.1 (M 5 (by decide))).more (Nat.le_succ _),?_⟩,hs.1.mono (fun j _ x=>⟨4,z,X,x⟩),fun j D=>?_⟩
 ·injection E with E
  subst E;exact⟨Z,by show a<=c+1;omega,by show o<=c+1;omega,by show r<=c+1;omega⟩
 ·rcases h.ou with x | x | ⟨q,E,h4,h5⟩
  ·exact .inl x
  ·exact .inr (.inl x)
  ·rw[X] at E
   injection E with E;subst E;exact .inr (.inr ⟨_,rfl,h4,h5⟩)
 ·obtain⟨i,D⟩:=D
  match i,D with
  |0,D=>exact .inl ⟨0,D⟩
  |1,D=>exact .inl ⟨1,D⟩
  |2,D=>exact .inl ⟨2,D⟩
  |3,D=>exact .inl ⟨3,D⟩
  |4,D=>exact(F j D).imp (fun x=>⟨4,x⟩) id
  |5,D=>exact .inl ⟨5,D⟩
theorem Cl.use_y (h:Cl w B p m s c) {X:Option Ss} (E:Chg (SO m.y) w w') (Y:SxR w' X (c+1)) (F:∀j,SO X j->SO m.y j\/w.heap.size<=j):Tu w w' B p m {m with y:=X} s (c+1):=by
 have M:∀i,i≠5->∀j,Pt p m i j->¬SO m.y j:=fun i O j D e=>h.not (i':=5) D O e
 have Z:Pa w' B p {m with y:=X}:=by
  refine h.pa.use 5 E.size F (fun j D=>Y.lt D) (fun i j O D=>?_)
  match i,O,D with
  |0,_,D=>exact D
  |1,_,D=>exact D
  |2,_,D=>exact D
  |3,_,D=>exact D
  |4,_,D=>exact D
  |5,O,_=>exact absurd rfl O
 have aa:=h.bc;refine⟨⟨Z,E.blk h.blk (M 0 (by decide) _ rfl),h.ca.chg E (M 2 (by decide)),h.li,h.box.chg E (M 1 (by decide)),⟨by show m.a<=c+1;omega,by show m.o<=c+1;omega,by show m.r<=c+1;omega⟩,BQ h.vis E (M 3 (by decide)),(h.sx.chg E (M 4 (by decide))).more (Nat.le_succ _),Y,h.ou⟩,E.mono (fun j _ x=>⟨5,x⟩),fun j D=>?_⟩;obtain⟨i,D⟩:=D
 match i,D with
 |0,D=>exact .inl ⟨0,D⟩
 |1,D=>exact .inl ⟨1,D⟩
 |2,D=>exact .inl ⟨2,D⟩
 |3,D=>exact .inl ⟨3,D⟩
 |4,D=>exact .inl ⟨4,D⟩
 |5,D=>exact(F j D).imp (fun x=>⟨5,x⟩) id
theorem Cl.visit (h:Cl w B p m s c) {v':Value} {ls:List L} (E:Chg (fun j=>j=p.k\/m.vv.ownBlock=some j) w w') (Z:Blk w' p.k 94 (clA p {m with vv:=v'} {s with vs:=ls})) (M:Nm.Own w' B v' ls) (F:∀j,v'.ownBlock=some j->m.vv.ownBlock=some j\/w.heap.size<=j):Tu w w' B p m {m with vv:=v'} {s with vs:=ls} c:=by
 have hs:∀i,i≠0->i≠3->∀j,Pt p m i j->¬(j=p.k\/m.vv.ownBlock=some j):=fun i Y O j D e=>by
  rcases e with e | e
  ·exact h.not (i':=0) D Y e
  ·exact h.not (i':=3) D O e
 have X:Pa w' B p {m with vv:=v'}:=by
  refine h.pa.use 3 E.size F (fun j D=>(M.lt j D).2) (fun i j hi D=>?_)
  match i,hi,D with
  |0,_,D=>exact D
  |1,_,D=>exact D
  |2,_,D=>exact D
  |4,_,D=>exact D
  |5,_,D=>exact D
 refine⟨⟨X,Z,h.ca.chg E (hs 2 (by decide) (by decide)),h.li,h.box.chg E (hs 1 (by decide) (by decide)),h.bc,M,h.sx.chg E (hs 4 (by decide) (by decide)),h.sy.chg E (hs 5 (by decide) (by decide)),h.ou⟩,E.mono (fun j _ x=>by
  rcases x with x | x
  ·exact⟨0,x⟩
  ·exact⟨3,x⟩),fun j D=>?_⟩
 obtain⟨i,D⟩:=D
 match i,D with
 |0,D=>exact .inl ⟨0,D⟩
 |1,D=>exact .inl ⟨1,D⟩
 |2,D=>exact .inl ⟨2,D⟩
 |3,D=>exact(F j D).imp (fun x=>⟨3,x⟩) id
 |4,D=>exact .inl ⟨4,D⟩
 |5,D=>exact .inl ⟨5,D⟩
end
end Cl
namespace Mc
open Go.RowKit Ad DerP DerR Ms
theorem Ea (t:UInt8) (p:L):0<(elem t p).length:=by rw[CN];omega
theorem KH (l:L) (w:World) (E:l.length<=65535):Calls Tryz.prog 199 #[.string ⟨l.toArray⟩] w (BS w (elem 27 l)):=
 (DerW.Fq l w E).mono fun e w' h=>by obtain⟨v,rfl,F,D⟩:=h;exact EI F (Ea _ _) D
theorem Ct (n:Int) (w:World):Calls Tryz.prog 176 #[.int .i64 n] w (BS w (encI n)):=
 (DerW.BB n w).mono fun e w' h=>by obtain⟨v,rfl,E,D⟩:=h;exact EI E (Ea _ _) D
theorem Dw (l:L) (A:Option Addr) (n c B:Nat) (w:World) (O:Rd w B A (bvs l)) (F:n=l.length) (hB:B<=w.heap.size) (E:l.length<=65535):Calls Tryz.prog 192 #[.slice A n c] w (BS w (elem 4 l)):=
 (DerW.CU l A n c B w O F hB E).mono fun e w' h=>by obtain⟨v,rfl,M,D⟩:=h;exact EI M (Ea _ _) D
theorem CH (t:UInt8) (ls:List L) (A:Option Addr) (m c B:Nat) (w:World) (M:DerW.Rds w B A ls) (hm:m=ls.length) (hB:B<=w.heap.size) (E:ls.flatten.length<=65535) (O:ls.length<=1000000) :
  Calls Tryz.prog 174 #[.int .u8 t.toNat,.slice A m c] w (BS w (elem t ls.flatten)):=
 (DerW.CY t ls A m c B w M hm hB E O).mono fun e w' h=>by obtain⟨v,rfl,F,D⟩:=h;exact EI F (Ea _ _) D
theorem BY (p:Pr) (w:World) (hp:prB p=true):Calls Tryz.prog 175 #[.agg #[.string ⟨p.1.toArray⟩,.string ⟨p.2.toArray⟩]] w (BS w (prE p)):=by
 have F:=I ((Below.refl w.heap.size w).alloc Ae (.cells #[.string ⟨p.1.toArray⟩,.string ⟨p.2.toArray⟩] 36));have D:=I (Blk.new w 36 #[.string ⟨p.1.toArray⟩,.string ⟨p.2.toArray⟩]);have b1:=Gd hp;have b2:=Ax 27 p.1;have b3:=Ax 27 p.2;have T1:=I (fun w1=>KH p.1 w1 (by omega));have T2:=I (fun w1=>KH p.2 w1 (by omega));have HL:=I (show [elem 27 p.1,elem 27 p.2].flatten.length<=65535 by rw[Dy];simp only[List.length_append];omega);have HE:=I (show prE p=elem 48 [elem 27 p.1,elem 27 p.2].flatten from rfl);obtain⟨l1,X⟩:∃l,l=elem 27 p.1:=⟨_,rfl⟩;obtain⟨l2,ad⟩:∃l,l=elem 27 p.2:=⟨_,rfl⟩;rw[<-X] at T1 HL HE;rw[<-ad] at T2 HL HE;rw[HE.o,Dy];clear HE X ad b1 b2 b3 hp;go_enter Tryz.func175,Tryz.ntmps175
 go_wp2
 obtain⟨W,eW⟩:=Ah (w.alloc (.cells #[.string ⟨p.1.toArray⟩,.string ⟨p.2.toArray⟩] 36));rw[<-eW] at F D⊢;clear eW;replace D:=I (show Blk W.drew _ _ _ from D.o.drewN 1);replace F:=I (show Below _ _ W.drew from below_drewN F.o 1)
 go_region_held3 (fun w'=>w'.cell? ⟨w.heap.size,0,none⟩=some (.string ⟨p.1.toArray⟩)/\w'.cell? ⟨w.heap.size,1,none⟩=some (.string ⟨p.2.toArray⟩)) (first | exact⟨D.o.cell 0,D.o.cell 1⟩ | exact⟨(D.o.alloc _).cell 0,(D.o.alloc _).cell 1⟩) ((first
  |(go_at_call 199;(with_reducible refine Calls.mono (T1.o _) ?_);rintro e w1 ⟨⟨g1,c1,rfl,ah,ai,Z⟩,E⟩;clear T1;have M:=I Z;replace D:=I (D.o.below E);replace F:=F.t E;clear E Z ah ai)
  |(go_at_call 199;(with_reducible refine Calls.mono (T2.o _) ?_);rintro e w2 ⟨⟨g2,c2,rfl,aj,af,ae⟩,E⟩;clear T2;replace M:=I (AW M.o E);have ag:=I ae;replace D:=I (D.o.below E);replace F:=F.t E;clear E ae aj af)
  |(go_at_call 174;refine Calls.mono (CH 48 [l1,l2] _ 2 2 (w2.heap.size+1) _ (JF M.o ag.o) rfl (by simp) HL.o (by simp)) ?_;rintro e wz ⟨⟨gz,cz,rfl,ab,Y,aa⟩,E⟩;have O:=(Below.refl w2.heap.size w2).alloc Ae (.cells #[.slice (some ⟨g1,0,none⟩) l1.length c1,.slice (some ⟨g2,0,none⟩) l2.length c2] 25);have HG:=I (Ba (l:=elem 48 [l1,l2].flatten) ⟨⟨gz,cz,rfl,ab,Y,aa⟩,E⟩ (F.o.trans (O.mono F.o.size)));rw[Dy] at HG;replace D:=I ((D.o.alloc (.cells #[.slice (some ⟨g1,0,none⟩) l1.length c1,.slice (some ⟨g2,0,none⟩) l2.length c2] 25)).below E);clear O ab Y aa E)))
 go_wp2
 go_ret;exact HG.o
theorem Eb (t:Tk) (A:Option Addr) (c:Nat) (w:World) (ht:tkB t=true) (hr:Rd w w.heap.size A (bvs t.b)):Calls Tryz.prog 191 #[.agg #[.string ⟨t.s.1.toArray⟩,.string ⟨t.s.2.toArray⟩,.int .i64 t.k,.slice A t.b.length c]] w (BS w (tkE t)):=by
 have F:=I ((Below.refl w.heap.size w).alloc Ae (.cells #[.string ⟨t.s.1.toArray⟩,.string ⟨t.s.2.toArray⟩,.int .i64 t.k,.slice A t.b.length c] 53));have D:=I (Blk.new w 53 #[.string ⟨t.s.1.toArray⟩,.string ⟨t.s.2.toArray⟩,.int .i64 t.k,.slice A t.b.length c]);have hp:=Fj ht;have b1:=(AP hp.1).1;have b2:=AB t.k;have b3:=Ax 4 t.b;have T1:=I (fun O=>BY t.s O hp.1);have T2:=I (fun O=>Ct t.k O);have T3:=I (fun O (h:Below w.heap.size w O)=>Dw t.b A t.b.length c O.heap.size O ((hr.below h).more h.size) rfl Ae (by omega));have HL:=I (show [prE t.s,encI t.k,elem 4 t.b].flatten.length<=65535 by rw[Dz];simp only[List.length_append];omega);have HE:=I (show tkE t=elem 97 [prE t.s,encI t.k,elem 4 t.b].flatten from rfl);obtain⟨l1,Z⟩:∃l,l=prE t.s:=⟨_,rfl⟩;obtain⟨l2,af⟩:∃l,l=encI t.k:=⟨_,rfl⟩;obtain⟨l3,ag⟩:∃l,l=elem 4 t.b:=⟨_,rfl⟩;rw[<-Z] at T1 HL HE;rw[<-af] at T2 HL HE;rw[<-ag] at T3 HL HE;rw[HE.o,Dz];clear HE Z af ag hp b1 b2 b3 ht hr;go_enter Tryz.func191,Tryz.ntmps191
 go_wp2
 obtain⟨W,eW⟩:=Ah (w.alloc (.cells #[.string ⟨t.s.1.toArray⟩,.string ⟨t.s.2.toArray⟩,.int .i64 t.k,.slice A t.b.length c] 53));rw[<-eW] at F D⊢;clear eW;replace D:=I (show Blk W.drew _ _ _ from D.o.drewN 1);replace F:=I (show Below _ _ W.drew from below_drewN F.o 1)
 go_region_held3 (fun w'=>w'.cell? ⟨w.heap.size,0,none⟩=some (.string ⟨t.s.1.toArray⟩)/\w'.cell? ⟨w.heap.size,1,none⟩=some (.string ⟨t.s.2.toArray⟩)/\w'.cell? ⟨w.heap.size,2,none⟩=some (.int .i64 t.k)/\w'.cell? ⟨w.heap.size,3,none⟩=some (.slice A t.b.length c)) (first | exact⟨D.o.cell 0,D.o.cell 1,D.o.cell 2,D.o.cell 3⟩ | exact⟨(D.o.alloc _).cell 0,(D.o.alloc _).cell 1,(D.o.alloc _).cell 2,(D.o.alloc _).cell 3⟩) ((first
  |(go_at_call 175;(with_reducible refine Calls.mono (T1.o _) ?_);rintro e O ⟨⟨g1,c1,rfl,ak,ao,ab⟩,E⟩;clear T1;have M:=I ab;replace D:=I (D.o.below E);replace F:=F.t E;clear E ab ak ao)
  |(go_at_call 176;(with_reducible refine Calls.mono (T2.o _) ?_);rintro e w2 ⟨⟨g2,c2,rfl,au,aj,ai⟩,E⟩;clear T2;replace M:=I (AW M.o E);have X:=I ai;replace D:=I (D.o.below E);replace F:=F.t E;clear E ai au aj)
  |(go_at_call 192;(with_reducible refine Calls.mono (T3.o _ F.o) ?_);rintro e w3 ⟨⟨g3,c3,rfl,ar,al,ah⟩,E⟩;clear T3;replace M:=I (AW M.o E);replace X:=I (AW X.o E);have an:=I ah;replace D:=I (D.o.below E);replace F:=F.t E;clear E ah ar al)
  |(go_at_call 174;refine Calls.mono (CH 97 [l1,l2,l3] _ 3 3 (w3.heap.size+1) _ (EW M.o X.o an.o) rfl (by simp) HL.o (by simp)) ?_;rintro e wz ⟨⟨gz,cz,rfl,ae,aa,ad⟩,E⟩;have Y:=(Below.refl w3.heap.size w3).alloc Ae (.cells #[.slice (some ⟨g1,0,none⟩) l1.length c1,.slice (some ⟨g2,0,none⟩) l2.length c2,.slice (some ⟨g3,0,none⟩) l3.length c3] 25);have HG:=I (Ba (l:=elem 97 [l1,l2,l3].flatten) ⟨⟨gz,cz,rfl,ae,aa,ad⟩,E⟩ (F.o.trans (Y.mono F.o.size)));rw[Dz] at HG;replace D:=I ((D.o.alloc (.cells #[.slice (some ⟨g1,0,none⟩) l1.length c1,.slice (some ⟨g2,0,none⟩) l2.length c2,.slice (some ⟨g3,0,none⟩) l3.length c3] 25)).below E);clear Y ae aa ad E)))
 go_wp2
 go_ret;exact HG.o
theorem KI (a:An) (w:World) (ha:anB a=true):Calls Tryz.prog 140 #[.agg #[.string ⟨a.c.1.toArray⟩,.string ⟨a.c.2.toArray⟩,.int .i64 a.t,.int .i64 a.q]] w (BS w (anE a)):=by
 have F:=I ((Below.refl w.heap.size w).alloc Ae (.cells #[.string ⟨a.c.1.toArray⟩,.string ⟨a.c.2.toArray⟩,.int .i64 a.t,.int .i64 a.q] 73));have D:=I (Blk.new w 73 #[.string ⟨a.c.1.toArray⟩,.string ⟨a.c.2.toArray⟩,.int .i64 a.t,.int .i64 a.q]);have hp:prB a.c=true/\tmB a.t=true/\tmB a.q=true:=by simpa [anB] using ha
 have b1:=(AP hp.1).1;have b2:=AB a.t;have b3:=AB a.q;have T1:=I (fun X=>BY a.c X hp.1);have T2:=I (fun X=>Ct a.t X);have T3:=I (fun X=>Ct a.q X);have HL:=I (show [prE a.c,encI a.t,encI a.q].flatten.length<=65535 by rw[Dz];simp only[List.length_append];omega);have HE:=I (show anE a=elem 98 [prE a.c,encI a.t,encI a.q].flatten from rfl);obtain⟨l1,Z⟩:∃l,l=prE a.c:=⟨_,rfl⟩;obtain⟨l2,af⟩:∃l,l=encI a.t:=⟨_,rfl⟩;obtain⟨l3,ag⟩:∃l,l=encI a.q:=⟨_,rfl⟩;rw[<-Z] at T1 HL HE;rw[<-af] at T2 HL HE;rw[<-ag] at T3 HL HE;rw[HE.o,Dz];clear HE Z af ag hp b1 b2 b3 ha;go_enter Tryz.func140,Tryz.ntmps140
 go_wp2
 obtain⟨W,eW⟩:=Ah (w.alloc (.cells #[.string ⟨a.c.1.toArray⟩,.string ⟨a.c.2.toArray⟩,.int .i64 a.t,.int .i64 a.q] 73));rw[<-eW] at F D⊢;clear eW;replace D:=I (show Blk W.drew _ _ _ from D.o.drewN 1);replace F:=I (show Below _ _ W.drew from below_drewN F.o 1)
 go_region_held3 (fun w'=>w'.cell? ⟨w.heap.size,0,none⟩=some (.string ⟨a.c.1.toArray⟩)/\w'.cell? ⟨w.heap.size,1,none⟩=some (.string ⟨a.c.2.toArray⟩)/\w'.cell? ⟨w.heap.size,2,none⟩=some (.int .i64 a.t)/\w'.cell? ⟨w.heap.size,3,none⟩=some (.int .i64 a.q)) (first | exact⟨D.o.cell 0,D.o.cell 1,D.o.cell 2,D.o.cell 3⟩ | exact⟨(D.o.alloc _).cell 0,(D.o.alloc _).cell 1,(D.o.alloc _).cell 2,(D.o.alloc _).cell 3⟩) ((first
  |(go_at_call 175;(with_reducible refine Calls.mono (T1.o _) ?_);rintro e X ⟨⟨g1,c1,rfl,ak,ao,ab⟩,E⟩;clear T1;have M:=I ab;replace D:=I (D.o.below E);replace F:=F.t E;clear E ab ak ao)
  |(go_at_call 176;(with_reducible refine Calls.mono (T2.o _) ?_);rintro e w2 ⟨⟨g2,c2,rfl,au,aj,ai⟩,E⟩;clear T2;replace M:=I (AW M.o E);have O:=I ai;replace D:=I (D.o.below E);replace F:=F.t E;clear E ai au aj)
  |(go_at_call 176;(with_reducible refine Calls.mono (T3.o _) ?_);rintro e w3 ⟨⟨g3,c3,rfl,ar,al,ah⟩,E⟩;clear T3;replace M:=I (AW M.o E);replace O:=I (AW O.o E);have an:=I ah;replace D:=I (D.o.below E);replace F:=F.t E;clear E ah ar al)
  |(go_at_call 174;refine Calls.mono (CH 98 [l1,l2,l3] _ 3 3 (w3.heap.size+1) _ (EW M.o O.o an.o) rfl (by simp) HL.o (by simp)) ?_;rintro e wz ⟨⟨gz,cz,rfl,ae,aa,ad⟩,E⟩;have Y:=(Below.refl w3.heap.size w3).alloc Ae (.cells #[.slice (some ⟨g1,0,none⟩) l1.length c1,.slice (some ⟨g2,0,none⟩) l2.length c2,.slice (some ⟨g3,0,none⟩) l3.length c3] 25);have HG:=I (Ba (l:=elem 98 [l1,l2,l3].flatten) ⟨⟨gz,cz,rfl,ae,aa,ad⟩,E⟩ (F.o.trans (Y.mono F.o.size)));rw[Dz] at HG;replace D:=I ((D.o.alloc (.cells #[.slice (some ⟨g1,0,none⟩) l1.length c1,.slice (some ⟨g2,0,none⟩) l2.length c2,.slice (some ⟨g3,0,none⟩) l3.length c3] 25)).below E);clear Y ae aa ad E)))
 go_wp2
 go_ret;exact HG.o
theorem Qw (q:As) (w:World) (ha:asB q=true):Calls Tryz.prog 159 #[.agg #[.string ⟨q.c.1.toArray⟩,.string ⟨q.c.2.toArray⟩,.string ⟨q.s.1.toArray⟩,.string ⟨q.s.2.toArray⟩,.int .i64 q.t,.int .i64 q.no]] w (BS w (asE q)):=by
 have M:=I ((Below.refl w.heap.size w).alloc Ae (.cells #[.string ⟨q.c.1.toArray⟩,.string ⟨q.c.2.toArray⟩,.string ⟨q.s.1.toArray⟩,.string ⟨q.s.2.toArray⟩,.int .i64 q.t,.int .i64 q.no] 51));have D:=I (Blk.new w 51 #[.string ⟨q.c.1.toArray⟩,.string ⟨q.c.2.toArray⟩,.string ⟨q.s.1.toArray⟩,.string ⟨q.s.2.toArray⟩,.int .i64 q.t,.int .i64 q.no]);have hp:prB q.c=true/\prB q.s=true/\tmB q.t=true/\tmB q.no=true:=by simpa [asB] using ha
 have b1:=(AP hp.1).1;have b2:=(AP hp.2.1).1;have b3:=AB q.t;have b4:=AB q.no;have T1:=I (fun X=>BY q.c X hp.1);have T2:=I (fun X=>BY q.s X hp.2.1);have T3:=I (fun X=>Ct q.t X);have T4:=I (fun X=>Ct q.no X);have HL:=I (show [prE q.c,prE q.s,encI q.t,encI q.no].flatten.length<=65535 by rw[IC];simp only[List.length_append];omega);have Z:=I (show asE q=elem 106 [prE q.c,prE q.s,encI q.t,encI q.no].flatten from rfl);obtain⟨l1,af⟩:∃l,l=prE q.c:=⟨_,rfl⟩;obtain⟨l2,ai⟩:∃l,l=prE q.s:=⟨_,rfl⟩;obtain⟨l3,ak⟩:∃l,l=encI q.t:=⟨_,rfl⟩;obtain⟨l4,ae⟩:∃l,l=encI q.no:=⟨_,rfl⟩;rw[<-af] at T1 HL Z;rw[<-ai] at T2 HL Z;rw[<-ak] at T3 HL Z;rw[<-ae] at T4 HL Z;rw[Z.o,IC];clear Z af ai ak ae hp b1 b2 b3 b4 ha;go_enter Tryz.func159,Tryz.ntmps159
 go_wp2
 obtain⟨W,eW⟩:=Ah (w.alloc (.cells #[.string ⟨q.c.1.toArray⟩,.string ⟨q.c.2.toArray⟩,.string ⟨q.s.1.toArray⟩,.string ⟨q.s.2.toArray⟩,.int .i64 q.t,.int .i64 q.no] 51));rw[<-eW] at M D⊢;clear eW;replace D:=I (show Blk W.drew _ _ _ from D.o.drewN 1);replace M:=I (show Below _ _ W.drew from below_drewN M.o 1)
 go_region_held3 (fun w'=>w'.cell? ⟨w.heap.size,0,none⟩=some (.string ⟨q.c.1.toArray⟩)/\w'.cell? ⟨w.heap.size,1,none⟩=some (.string ⟨q.c.2.toArray⟩)/\w'.cell? ⟨w.heap.size,2,none⟩=some (.string ⟨q.s.1.toArray⟩)/\w'.cell? ⟨w.heap.size,3,none⟩=some (.string ⟨q.s.2.toArray⟩)/\w'.cell? ⟨w.heap.size,4,none⟩=some (.int .i64 q.t)/\w'.cell? ⟨w.heap.size,5,none⟩=some (.int .i64 q.no)) (first | exact⟨D.o.cell 0,D.o.cell 1,D.o.cell 2,D.o.cell 3,D.o.cell 4,D.o.cell 5⟩ | exact⟨(D.o.alloc _).cell 0,(D.o.alloc _).cell 1,(D.o.alloc _).cell 2,(D.o.alloc _).cell 3,(D.o.alloc _).cell 4,(D.o.alloc _).cell 5⟩) ((first
  |(go_at_call 175;(with_reducible refine Calls.mono (T1.o _) ?_);rintro e X ⟨⟨g1,c1,rfl,ao,ay,ad⟩,E⟩;clear T1;have F:=I ad;replace D:=I (D.o.below E);replace M:=M.t E;clear E ad ao ay)
  |(go_at_call 175;(with_reducible refine Calls.mono (T2.o _) ?_);rintro e w2 ⟨⟨g2,c2,rfl,aA,ax,an⟩,E⟩;clear T2;replace F:=I (AW F.o E);have O:=I an;replace D:=I (D.o.below E);replace M:=M.t E;clear E an aA ax)
  |(go_at_call 176;(with_reducible refine Calls.mono (T3.o _) ?_);rintro e w3 ⟨⟨g3,c3,rfl,az,au,al⟩,E⟩;clear T3;replace F:=I (AW F.o E);replace O:=I (AW O.o E);have Y:=I al;replace D:=I (D.o.below E);replace M:=M.t E;clear E al az au)
  |(go_at_call 176;(with_reducible refine Calls.mono (T4.o _) ?_);rintro e w4 ⟨⟨g4,c4,rfl,av,aw,aj⟩,E⟩;clear T4;replace F:=I (AW F.o E);replace O:=I (AW O.o E);replace Y:=I (AW Y.o E);have ar:=I aj;replace D:=I (D.o.below E);replace M:=M.t E;clear E aj av aw)
  |(go_at_call 174;refine Calls.mono (CH 106 [l1,l2,l3,l4] _ 4 4 (w4.heap.size+1) _ (MP F.o O.o Y.o ar.o) rfl (by simp) HL.o (by simp)) ?_;rintro e wz ⟨⟨gz,cz,rfl,ah,ab,ag⟩,E⟩;have aa:=(Below.refl w4.heap.size w4).alloc Ae (.cells #[.slice (some ⟨g1,0,none⟩) l1.length c1,.slice (some ⟨g2,0,none⟩) l2.length c2,.slice (some ⟨g3,0,none⟩) l3.length c3,.slice (some ⟨g4,0,none⟩) l4.length c4] 25);have HG:=I (Ba (l:=elem 106 [l1,l2,l3,l4].flatten) ⟨⟨gz,cz,rfl,ah,ab,ag⟩,E⟩ (M.o.trans (aa.mono M.o.size)));rw[IC] at HG;replace D:=I ((D.o.alloc (.cells #[.slice (some ⟨g1,0,none⟩) l1.length c1,.slice (some ⟨g2,0,none⟩) l2.length c2,.slice (some ⟨g3,0,none⟩) l3.length c3,.slice (some ⟨g4,0,none⟩) l4.length c4] 25)).below E);clear aa ah ab ag E)))
 go_wp2
 go_ret;exact HG.o
theorem Qx (q:Tg) (A1 A2:Option Addr) (c1 c2:Nat) (w:World) (ha:tgB q=true) (Y:Rd w w.heap.size A1 (bvs q.t.b)) (aa:Rd w w.heap.size A2 (bvs q.a)):Calls Tryz.prog 160 #[.agg #[.string ⟨q.t.s.1.toArray⟩,.string ⟨q.t.s.2.toArray⟩,.int .i64 q.t.k,.slice A1 q.t.b.length c1,.slice A2 q.a.length c2,.string ⟨q.s.1.toArray⟩,.string ⟨q.s.2.toArray⟩,.int .i64 q.u,.int .i64 q.no]] w (BS w (tgE q)):=by
 have M:=I ((Below.refl w.heap.size w).alloc Ae (.cells #[.string ⟨q.t.s.1.toArray⟩,.string ⟨q.t.s.2.toArray⟩,.int .i64 q.t.k,.slice A1 q.t.b.length c1,.slice A2 q.a.length c2,.string ⟨q.s.1.toArray⟩,.string ⟨q.s.2.toArray⟩,.int .i64 q.u,.int .i64 q.no] 55));have D:=I (Blk.new w 55 #[.string ⟨q.t.s.1.toArray⟩,.string ⟨q.t.s.2.toArray⟩,.int .i64 q.t.k,.slice A1 q.t.b.length c1,.slice A2 q.a.length c2,.string ⟨q.s.1.toArray⟩,.string ⟨q.s.2.toArray⟩,.int .i64 q.u,.int .i64 q.no]);have hp:tkB q.t=true/\Bv q.a=true/\prB q.s=true/\tmB q.u=true/\tmB q.no=true:=by simpa [tgB] using ha
 have b1:=(BU hp.1).1;have b2:=Ax 4 q.a;have b3:=(AP hp.2.2.1).1;have b4:=AB q.u;have b5:=AB q.no;have b6:=Bc hp.2.1;have T1:=I (fun X (h:Below w.heap.size w X)=>Eb q.t A1 c1 X hp.1 ((Y.below h).more h.size));have T2:=I (fun X (h:Below w.heap.size w X)=>Dw q.a A2 q.a.length c2 X.heap.size X ((aa.below h).more h.size) rfl Ae (by omega));have T3:=I (fun X=>BY q.s X hp.2.2.1);have T4:=I (fun X=>Ct q.u X);have T5:=I (fun X=>Ct q.no X);have HL:=I (show [tkE q.t,elem 4 q.a,prE q.s,encI q.u,encI q.no].flatten.length<=65535 by rw[FG];simp only[List.length_append];omega);have HE:=I (show tgE q=elem 108 [tkE q.t,elem 4 q.a,prE q.s,encI q.u,encI q.no].flatten from rfl);obtain⟨l1,ah⟩:∃l,l=tkE q.t:=⟨_,rfl⟩;obtain⟨l2,ak⟩:∃l,l=elem 4 q.a:=⟨_,rfl⟩;obtain⟨l3,an⟩:∃l,l=prE q.s:=⟨_,rfl⟩;obtain⟨l4,af⟩:∃l,l=encI q.u:=⟨_,rfl⟩;obtain⟨l5,ao⟩:∃l,l=encI q.no:=⟨_,rfl⟩;rw[<-ah] at T1 HL HE;rw[<-ak] at T2 HL HE;rw[<-an] at T3 HL HE;rw[<-af] at T4 HL HE;rw[<-ao] at T5 HL HE;rw[HE.o,FG];clear HE ah ak an af ao hp b1 b2 b3 b4 b5 b6 ha Y aa;go_enter Tryz.func160,Tryz.ntmps160
 go_wp2
 obtain⟨W,eW⟩:=Ah (w.alloc (.cells #[.string ⟨q.t.s.1.toArray⟩,.string ⟨q.t.s.2.toArray⟩,.int .i64 q.t.k,.slice A1 q.t.b.length c1,.slice A2 q.a.length c2,.string ⟨q.s.1.toArray⟩,.string ⟨q.s.2.toArray⟩,.int .i64 q.u,.int .i64 q.no] 55));rw[<-eW] at M D⊢;clear eW;replace D:=I (show Blk W.drew _ _ _ from D.o.drewN 1);replace M:=I (show Below _ _ W.drew from below_drewN M.o 1)
 go_region_held3 (fun w'=>w'.cell? ⟨w.heap.size,0,none⟩=some (.string ⟨q.t.s.1.toArray⟩)/\w'.cell? ⟨w.heap.size,1,none⟩=some (.string ⟨q.t.s.2.toArray⟩)/\w'.cell? ⟨w.heap.size,2,none⟩=some (.int .i64 q.t.k)/\w'.cell? ⟨w.heap.size,3,none⟩=some (.slice A1 q.t.b.length c1)/\w'.cell? ⟨w.heap.size,4,none⟩=some (.slice A2 q.a.length c2)/\w'.cell? ⟨w.heap.size,5,none⟩=some (.string ⟨q.s.1.toArray⟩)/\w'.cell? ⟨w.heap.size,6,none⟩=some (.string ⟨q.s.2.toArray⟩)/\w'.cell? ⟨w.heap.size,7,none⟩=some (.int .i64 q.u)/\w'.cell? ⟨w.heap.size,8,none⟩=some (.int .i64 q.no)) (first | exact⟨D.o.cell 0,D.o.cell 1,D.o.cell 2,D.o.cell 3,D.o.cell 4,D.o.cell 5,D.o.cell 6,D.o.cell 7,D.o.cell 8⟩ | exact⟨(D.o.alloc _).cell 0,(D.o.alloc _).cell 1,(D.o.alloc _).cell 2,(D.o.alloc _).cell 3,(D.o.alloc _).cell 4,(D.o.alloc _).cell 5,(D.o.alloc _).cell 6,(D.o.alloc _).cell 7,(D.o.alloc _).cell 8⟩) ((first
  |(go_at_call 191;(with_reducible refine Calls.mono (T1.o _ M.o) ?_);rintro e X ⟨⟨g1,c1,rfl,av,aC,Y⟩,E⟩;clear T1;have F:=I Y;replace D:=I (D.o.below E);replace M:=M.t E;clear E Y av aC)
  |(go_at_call 192;(with_reducible refine Calls.mono (T2.o _ M.o) ?_);rintro e w2 ⟨⟨g2,c2,rfl,aE,aA,aa⟩,E⟩;clear T2;replace F:=I (AW F.o E);have O:=I aa;replace D:=I (D.o.below E);replace M:=M.t E;clear E aa aE aA)
  |(go_at_call 175;(with_reducible refine Calls.mono (T3.o _) ?_);rintro e w3 ⟨⟨g3,c3,rfl,aD,ax,ar⟩,E⟩;clear T3;replace F:=I (AW F.o E);replace O:=I (AW O.o E);have Z:=I ar;replace D:=I (D.o.below E);replace M:=M.t E;clear E ar aD ax)
  |(go_at_call 176;(with_reducible refine Calls.mono (T4.o _) ?_);rintro e w4 ⟨⟨g4,c4,rfl,ay,az,al⟩,E⟩;clear T4;replace F:=I (AW F.o E);replace O:=I (AW O.o E);replace Z:=I (AW Z.o E);have ab:=I al;replace D:=I (D.o.below E);replace M:=M.t E;clear E al ay az)
  |(go_at_call 176;(with_reducible refine Calls.mono (T5.o _) ?_);rintro e w5 ⟨⟨g5,c5,rfl,au,aw,ag⟩,E⟩;clear T5;replace F:=I (AW F.o E);replace O:=I (AW O.o E);replace Z:=I (AW Z.o E);replace ab:=I (AW ab.o E);have aB:=I ag;replace D:=I (D.o.below E);replace M:=M.t E;clear E ag au aw)
  |(go_at_call 174;refine Calls.mono (CH 108 [l1,l2,l3,l4,l5] _ 5 5 (w5.heap.size+1) _ (JG F.o O.o Z.o ab.o aB.o) rfl (by simp) HL.o (by simp)) ?_;rintro e wz ⟨⟨gz,cz,rfl,aj,ae,ai⟩,E⟩;have ad:=(Below.refl w5.heap.size w5).alloc Ae (.cells #[.slice (some ⟨g1,0,none⟩) l1.length c1,.slice (some ⟨g2,0,none⟩) l2.length c2,.slice (some ⟨g3,0,none⟩) l3.length c3,.slice (some ⟨g4,0,none⟩) l4.length c4,.slice (some ⟨g5,0,none⟩) l5.length c5] 25);have HG:=I (Ba (l:=elem 108 [l1,l2,l3,l4,l5].flatten) ⟨⟨gz,cz,rfl,aj,ae,ai⟩,E⟩ (M.o.trans (ad.mono M.o.size)));rw[FG] at HG;replace D:=I ((D.o.alloc (.cells #[.slice (some ⟨g1,0,none⟩) l1.length c1,.slice (some ⟨g2,0,none⟩) l2.length c2,.slice (some ⟨g3,0,none⟩) l3.length c3,.slice (some ⟨g4,0,none⟩) l4.length c4,.slice (some ⟨g5,0,none⟩) l5.length c5] 25)).below E);clear ad aj ae ai E)))
 go_wp2
 go_ret;exact HG.o
theorem Qy (q:Re) (A1 A2:Option Addr) (c1 c2:Nat) (w:World) (ha:reB q=true) (O:Rd w w.heap.size A1 (bvs q.t.b)) (X:Rd w w.heap.size A2 (bvs q.b)):Calls Tryz.prog 161 #[.agg #[.string ⟨q.c.1.toArray⟩,.string ⟨q.c.2.toArray⟩,.string ⟨q.t.s.1.toArray⟩,.string ⟨q.t.s.2.toArray⟩,.int .i64 q.t.k,.slice A1 q.t.b.length c1,.slice A2 q.b.length c2]] w (BS w (reE q)):=by
 have F:=I ((Below.refl w.heap.size w).alloc Ae (.cells #[.string ⟨q.c.1.toArray⟩,.string ⟨q.c.2.toArray⟩,.string ⟨q.t.s.1.toArray⟩,.string ⟨q.t.s.2.toArray⟩,.int .i64 q.t.k,.slice A1 q.t.b.length c1,.slice A2 q.b.length c2] 57));have D:=I (Blk.new w 57 #[.string ⟨q.c.1.toArray⟩,.string ⟨q.c.2.toArray⟩,.string ⟨q.t.s.1.toArray⟩,.string ⟨q.t.s.2.toArray⟩,.int .i64 q.t.k,.slice A1 q.t.b.length c1,.slice A2 q.b.length c2]);have hp:prB q.c=true/\tkB q.t=true/\Bv q.b=true:=by simpa [reB] using ha
 have b1:=(AP hp.1).1;have b2:=(BU hp.2.1).1;have b3:=Ax 4 q.b;have b6:=Bc hp.2.2;have T1:=I (fun Y=>BY q.c Y hp.1);have T2:=I (fun Y (h:Below w.heap.size w Y)=>Eb q.t A1 c1 Y hp.2.1 ((O.below h).more h.size));have T3:=I (fun Y (h:Below w.heap.size w Y)=>Dw q.b A2 q.b.length c2 Y.heap.size Y ((X.below h).more h.size) rfl Ae (by omega));have HL:=I (show [prE q.c,tkE q.t,elem 4 q.b].flatten.length<=65535 by rw[Dz];simp only[List.length_append];omega);have HE:=I (show reE q=elem 107 [prE q.c,tkE q.t,elem 4 q.b].flatten from rfl);obtain⟨l1,ab⟩:∃l,l=prE q.c:=⟨_,rfl⟩;obtain⟨l2,ag⟩:∃l,l=tkE q.t:=⟨_,rfl⟩;obtain⟨l3,ah⟩:∃l,l=elem 4 q.b:=⟨_,rfl⟩;rw[<-ab] at T1 HL HE;rw[<-ag] at T2 HL HE;rw[<-ah] at T3 HL HE;rw[HE.o,Dz];clear HE ab ag ah hp b1 b2 b3 b6 ha O X;go_enter Tryz.func161,Tryz.ntmps161
 go_wp2
 obtain⟨W,eW⟩:=Ah (w.alloc (.cells #[.string ⟨q.c.1.toArray⟩,.string ⟨q.c.2.toArray⟩,.string ⟨q.t.s.1.toArray⟩,.string ⟨q.t.s.2.toArray⟩,.int .i64 q.t.k,.slice A1 q.t.b.length c1,.slice A2 q.b.length c2] 57));rw[<-eW] at F D⊢;clear eW;replace D:=I (show Blk W.drew _ _ _ from D.o.drewN 1);replace F:=I (show Below _ _ W.drew from below_drewN F.o 1)
 go_region_held3 (fun w'=>w'.cell? ⟨w.heap.size,0,none⟩=some (.string ⟨q.c.1.toArray⟩)/\w'.cell? ⟨w.heap.size,1,none⟩=some (.string ⟨q.c.2.toArray⟩)/\w'.cell? ⟨w.heap.size,2,none⟩=some (.string ⟨q.t.s.1.toArray⟩)/\w'.cell? ⟨w.heap.size,3,none⟩=some (.string ⟨q.t.s.2.toArray⟩)/\w'.cell? ⟨w.heap.size,4,none⟩=some (.int .i64 q.t.k)/\w'.cell? ⟨w.heap.size,5,none⟩=some (.slice A1 q.t.b.length c1)/\w'.cell? ⟨w.heap.size,6,none⟩=some (.slice A2 q.b.length c2)) (first | exact⟨D.o.cell 0,D.o.cell 1,D.o.cell 2,D.o.cell 3,D.o.cell 4,D.o.cell 5,D.o.cell 6⟩ | exact⟨(D.o.alloc _).cell 0,(D.o.alloc _).cell 1,(D.o.alloc _).cell 2,(D.o.alloc _).cell 3,(D.o.alloc _).cell 4,(D.o.alloc _).cell 5,(D.o.alloc _).cell 6⟩) ((first
  |(go_at_call 175;(with_reducible refine Calls.mono (T1.o _) ?_);rintro e Y ⟨⟨g1,c1,rfl,ak,ao,O⟩,E⟩;clear T1;have M:=I O;replace D:=I (D.o.below E);replace F:=F.t E;clear E O ak ao)
  |(go_at_call 191;(with_reducible refine Calls.mono (T2.o _ F.o) ?_);rintro e w2 ⟨⟨g2,c2,rfl,au,aj,X⟩,E⟩;clear T2;replace M:=I (AW M.o E);have Z:=I X;replace D:=I (D.o.below E);replace F:=F.t E;clear E X au aj)
  |(go_at_call 192;(with_reducible refine Calls.mono (T3.o _ F.o) ?_);rintro e w3 ⟨⟨g3,c3,rfl,ar,al,ai⟩,E⟩;clear T3;replace M:=I (AW M.o E);replace Z:=I (AW Z.o E);have an:=I ai;replace D:=I (D.o.below E);replace F:=F.t E;clear E ai ar al)
  |(go_at_call 174;refine Calls.mono (CH 107 [l1,l2,l3] _ 3 3 (w3.heap.size+1) _ (EW M.o Z.o an.o) rfl (by simp) HL.o (by simp)) ?_;rintro e wz ⟨⟨gz,cz,rfl,af,ad,ae⟩,E⟩;have aa:=(Below.refl w3.heap.size w3).alloc Ae (.cells #[.slice (some ⟨g1,0,none⟩) l1.length c1,.slice (some ⟨g2,0,none⟩) l2.length c2,.slice (some ⟨g3,0,none⟩) l3.length c3] 25);have HG:=I (Ba (l:=elem 107 [l1,l2,l3].flatten) ⟨⟨gz,cz,rfl,af,ad,ae⟩,E⟩ (F.o.trans (aa.mono F.o.size)));rw[Dz] at HG;replace D:=I ((D.o.alloc (.cells #[.slice (some ⟨g1,0,none⟩) l1.length c1,.slice (some ⟨g2,0,none⟩) l2.length c2,.slice (some ⟨g3,0,none⟩) l3.length c3] 25)).below E);clear aa af ad ae E)))
 go_wp2
 go_ret;exact HG.o
theorem Qz (q:Ap) (A1 A2:Option Addr) (c1 c2:Nat) (w:World) (ha:apB q=true) (M:Rd w w.heap.size A1 (bvs q.t.b)) (O:Rd w w.heap.size A2 (bvs q.a)):Calls Tryz.prog 162 #[.agg #[.string ⟨q.t.s.1.toArray⟩,.string ⟨q.t.s.2.toArray⟩,.int .i64 q.t.k,.slice A1 q.t.b.length c1,.slice A2 q.a.length c2]] w (BS w (apE q)):=by
 have F:=I ((Below.refl w.heap.size w).alloc Ae (.cells #[.string ⟨q.t.s.1.toArray⟩,.string ⟨q.t.s.2.toArray⟩,.int .i64 q.t.k,.slice A1 q.t.b.length c1,.slice A2 q.a.length c2] 59));have D:=I (Blk.new w 59 #[.string ⟨q.t.s.1.toArray⟩,.string ⟨q.t.s.2.toArray⟩,.int .i64 q.t.k,.slice A1 q.t.b.length c1,.slice A2 q.a.length c2]);have hp:tkB q.t=true/\Bv q.a=true:=by simpa [apB] using ha
 have b2:=(BU hp.1).1;have b3:=Ax 4 q.a;have b6:=Bc hp.2;have T1:=I (fun X (h:Below w.heap.size w X)=>Eb q.t A1 c1 X hp.1 ((M.below h).more h.size));have T2:=I (fun X (h:Below w.heap.size w X)=>Dw q.a A2 q.a.length c2 X.heap.size X ((O.below h).more h.size) rfl Ae (by omega));have HL:=I (show [tkE q.t,elem 4 q.a].flatten.length<=65535 by rw[Dy];simp only[List.length_append];omega);have HE:=I (show apE q=elem 110 [tkE q.t,elem 4 q.a].flatten from rfl);obtain⟨l1,aa⟩:∃l,l=tkE q.t:=⟨_,rfl⟩;obtain⟨l2,af⟩:∃l,l=elem 4 q.a:=⟨_,rfl⟩;rw[<-aa] at T1 HL HE;rw[<-af] at T2 HL HE;rw[HE.o,Dy];clear HE aa af hp b2 b3 b6 ha M O;go_enter Tryz.func162,Tryz.ntmps162
 go_wp2
 obtain⟨W,eW⟩:=Ah (w.alloc (.cells #[.string ⟨q.t.s.1.toArray⟩,.string ⟨q.t.s.2.toArray⟩,.int .i64 q.t.k,.slice A1 q.t.b.length c1,.slice A2 q.a.length c2] 59));rw[<-eW] at F D⊢;clear eW;replace D:=I (show Blk W.drew _ _ _ from D.o.drewN 1);replace F:=I (show Below _ _ W.drew from below_drewN F.o 1)
 go_region_held3 (fun w'=>w'.cell? ⟨w.heap.size,0,none⟩=some (.string ⟨q.t.s.1.toArray⟩)/\w'.cell? ⟨w.heap.size,1,none⟩=some (.string ⟨q.t.s.2.toArray⟩)/\w'.cell? ⟨w.heap.size,2,none⟩=some (.int .i64 q.t.k)/\w'.cell? ⟨w.heap.size,3,none⟩=some (.slice A1 q.t.b.length c1)/\w'.cell? ⟨w.heap.size,4,none⟩=some (.slice A2 q.a.length c2)) (first | exact⟨D.o.cell 0,D.o.cell 1,D.o.cell 2,D.o.cell 3,D.o.cell 4⟩ | exact⟨(D.o.alloc _).cell 0,(D.o.alloc _).cell 1,(D.o.alloc _).cell 2,(D.o.alloc _).cell 3,(D.o.alloc _).cell 4⟩) ((first
  |(go_at_call 191;(with_reducible refine Calls.mono (T1.o _ F.o) ?_);rintro e X ⟨⟨g1,c1,rfl,ai,aj,M⟩,E⟩;clear T1;have Y:=I M;replace D:=I (D.o.below E);replace F:=F.t E;clear E M ai aj)
  |(go_at_call 192;(with_reducible refine Calls.mono (T2.o _ F.o) ?_);rintro e w2 ⟨⟨g2,c2,rfl,ak,ag,O⟩,E⟩;clear T2;replace Y:=I (AW Y.o E);have ah:=I O;replace D:=I (D.o.below E);replace F:=F.t E;clear E O ak ag)
  |(go_at_call 174;refine Calls.mono (CH 110 [l1,l2] _ 2 2 (w2.heap.size+1) _ (JF Y.o ah.o) rfl (by simp) HL.o (by simp)) ?_;rintro e wz ⟨⟨gz,cz,rfl,ae,ab,ad⟩,E⟩;have Z:=(Below.refl w2.heap.size w2).alloc Ae (.cells #[.slice (some ⟨g1,0,none⟩) l1.length c1,.slice (some ⟨g2,0,none⟩) l2.length c2] 25);have HG:=I (Ba (l:=elem 110 [l1,l2].flatten) ⟨⟨gz,cz,rfl,ae,ab,ad⟩,E⟩ (F.o.trans (Z.mono F.o.size)));rw[Dy] at HG;replace D:=I ((D.o.alloc (.cells #[.slice (some ⟨g1,0,none⟩) l1.length c1,.slice (some ⟨g2,0,none⟩) l2.length c2] 25)).below E);clear Z ae ab ad E)))
 go_wp2
 go_ret;exact HG.o
theorem QA (q:Fa) (w:World):Calls Tryz.prog 163 #[.agg #[.int .i64 q.e,.int .i64 q.no]] w (BS w (faE q)):=by
 have F:=I ((Below.refl w.heap.size w).alloc Ae (.cells #[.int .i64 q.e,.int .i64 q.no] 61));have D:=I (Blk.new w 61 #[.int .i64 q.e,.int .i64 q.no]);have b1:=AB q.e;have b2:=AB q.no;have T1:=I (fun w1=>Ct q.e w1);have T2:=I (fun w1=>Ct q.no w1);have HL:=I (show [encI q.e,encI q.no].flatten.length<=65535 by rw[Dy];simp only[List.length_append];omega);have HE:=I (show faE q=elem 126 [encI q.e,encI q.no].flatten from rfl);obtain⟨l1,X⟩:∃l,l=encI q.e:=⟨_,rfl⟩;obtain⟨l2,ad⟩:∃l,l=encI q.no:=⟨_,rfl⟩;rw[<-X] at T1 HL HE;rw[<-ad] at T2 HL HE;rw[HE.o,Dy];clear HE X ad b1 b2;go_enter Tryz.func163,Tryz.ntmps163
 go_wp2
 obtain⟨W,eW⟩:=Ah (w.alloc (.cells #[.int .i64 q.e,.int .i64 q.no] 61));rw[<-eW] at F D⊢;clear eW;replace D:=I (show Blk W.drew _ _ _ from D.o.drewN 1);replace F:=I (show Below _ _ W.drew from below_drewN F.o 1)
 go_region_held3 (fun w'=>w'.cell? ⟨w.heap.size,0,none⟩=some (.int .i64 q.e)/\w'.cell? ⟨w.heap.size,1,none⟩=some (.int .i64 q.no)) (first | exact⟨D.o.cell 0,D.o.cell 1⟩ | exact⟨(D.o.alloc _).cell 0,(D.o.alloc _).cell 1⟩) ((first
  |(go_at_call 176;(with_reducible refine Calls.mono (T1.o _) ?_);rintro e w1 ⟨⟨g1,c1,rfl,ah,ai,Z⟩,E⟩;clear T1;have M:=I Z;replace D:=I (D.o.below E);replace F:=F.t E;clear E Z ah ai)
  |(go_at_call 176;(with_reducible refine Calls.mono (T2.o _) ?_);rintro e w2 ⟨⟨g2,c2,rfl,aj,af,ae⟩,E⟩;clear T2;replace M:=I (AW M.o E);have ag:=I ae;replace D:=I (D.o.below E);replace F:=F.t E;clear E ae aj af)
  |(go_at_call 174;refine Calls.mono (CH 126 [l1,l2] _ 2 2 (w2.heap.size+1) _ (JF M.o ag.o) rfl (by simp) HL.o (by simp)) ?_;rintro e wz ⟨⟨gz,cz,rfl,ab,Y,aa⟩,E⟩;have O:=(Below.refl w2.heap.size w2).alloc Ae (.cells #[.slice (some ⟨g1,0,none⟩) l1.length c1,.slice (some ⟨g2,0,none⟩) l2.length c2] 25);have HG:=I (Ba (l:=elem 126 [l1,l2].flatten) ⟨⟨gz,cz,rfl,ab,Y,aa⟩,E⟩ (F.o.trans (O.mono F.o.size)));rw[Dy] at HG;replace D:=I ((D.o.alloc (.cells #[.slice (some ⟨g1,0,none⟩) l1.length c1,.slice (some ⟨g2,0,none⟩) l2.length c2] 25)).below E);clear O ab Y aa E)))
 go_wp2
 go_ret;exact HG.o
theorem Of (p:Rp) (w:World) (hk:p.ss.length=32) (hx:rpB p=true):Calls Tryz.prog 168 #[.agg (rpC p).toArray] w (BS w (rpE p)):=by
 have HI:=I (show(Tryz.prog.info? 110).map (·.size)=some (rpC p).toArray.size by rw[Fb hk];kernel_rfl);have CF:=I (show ∀w':World,Blk w' w.heap.size 110 (rpC p).toArray->w'.cell? ⟨w.heap.size,32,none⟩=some (.string ⟨p.s.1.toArray⟩)/\w'.cell? ⟨w.heap.size,33,none⟩=some (.string ⟨p.s.2.toArray⟩)/\w'.cell? ⟨w.heap.size,34,none⟩=some (.int .i64 p.st)/\w'.cell? ⟨w.heap.size,35,none⟩=some (.int .i64 p.en)/\w'.cell? ⟨w.heap.size,36,none⟩=some (.int .i64 p.no) from fun w' h=>Fs hk h);have T1:=I (fun X (h:Blk X w.heap.size 110 (rpC p).toArray)=>Dw p.ss (some ⟨w.heap.size,0,none⟩) 32 32 X.heap.size X (Ui hk h) hk.symm Ae (by omega));obtain⟨cs,ah⟩:=Ah ((rpC p).toArray);rw[<-ah] at HI CF T1⊢;clear ah;have M:=I ((Below.refl w.heap.size w).alloc Ae (.cells cs 110));have F:=I (Blk.new w 110 cs);have hp:prB p.s=true:=(show prB p.s=true/\tmB p.st=true/\tmB p.en=true/\tmB p.no=true by simpa [rpB] using hx).1;have b1:=(AP hp).1;have b2:=AB p.st;have b3:=AB p.en;have b4:=AB p.no;have b5:=Ax 4 p.ss;have T2:=I (fun X=>BY p.s X hp);have T3:=I (fun X=>Ct p.st X);have T4:=I (fun X=>Ct p.en X);have T5:=I (fun X=>Ct p.no X);have HL:=I (show [elem 4 p.ss,prE p.s,encI p.st,encI p.en,encI p.no].flatten.length<=65535 by rw[FG];simp only[List.length_append];omega);have Z:=I (show rpE p=elem 122 [elem 4 p.ss,prE p.s,encI p.st,encI p.en,encI p.no].flatten from rfl);obtain⟨l1,ai⟩:∃l,l=elem 4 p.ss:=⟨_,rfl⟩;obtain⟨l2,al⟩:∃l,l=prE p.s:=⟨_,rfl⟩;obtain⟨l3,ao⟩:∃l,l=encI p.st:=⟨_,rfl⟩;obtain⟨l4,af⟩:∃l,l=encI p.en:=⟨_,rfl⟩;obtain⟨l5,ar⟩:∃l,l=encI p.no:=⟨_,rfl⟩;rw[<-ai] at T1 HL Z;rw[<-al] at T2 HL Z;rw[<-ao] at T3 HL Z;rw[<-af] at T4 HL Z;rw[<-ar] at T5 HL Z;rw[Z.o,FG];clear Z ai al ao af ar hp b1 b2 b3 b4 b5 hk hx;go_enter Tryz.func168,Tryz.ntmps168
 go_wp2
 obtain⟨W,eW⟩:=Ah (w.alloc (.cells cs 110));rw[<-eW] at M F⊢;clear eW;replace F:=I (show Blk W.drew _ _ _ from F.o.drewN 1);replace M:=I (show Below _ _ W.drew from below_drewN M.o 1)
 go_region_held3 (fun w'=>w'.cell? ⟨w.heap.size,32,none⟩=some (.string ⟨p.s.1.toArray⟩)/\w'.cell? ⟨w.heap.size,33,none⟩=some (.string ⟨p.s.2.toArray⟩)/\w'.cell? ⟨w.heap.size,34,none⟩=some (.int .i64 p.st)/\w'.cell? ⟨w.heap.size,35,none⟩=some (.int .i64 p.en)/\w'.cell? ⟨w.heap.size,36,none⟩=some (.int .i64 p.no)) (first | exact CF.o _ F.o | exact CF.o _ (F.o.alloc _)) ((first
  |(go_at_call 192;(with_reducible refine Calls.mono (T1.o _ F.o) ?_);rintro e X ⟨⟨g1,c1,rfl,ax,aE,ae⟩,D⟩;clear T1;have E:=I ae;replace F:=I (F.o.below D);replace M:=M.t D;clear D ae ax aE)
  |(go_at_call 175;(with_reducible refine Calls.mono (T2.o _) ?_);rintro e w2 ⟨⟨g2,c2,rfl,aG,aC,av⟩,D⟩;clear T2;replace E:=I (AW E.o D);have O:=I av;replace F:=I (F.o.below D);replace M:=M.t D;clear D av aG aC)
  |(go_at_call 176;(with_reducible refine Calls.mono (T3.o _) ?_);rintro e w3 ⟨⟨g3,c3,rfl,aF,az,au⟩,D⟩;clear T3;replace E:=I (AW E.o D);replace O:=I (AW O.o D);have Y:=I au;replace F:=I (F.o.below D);replace M:=M.t D;clear D au aF az)
  |(go_at_call 176;(with_reducible refine Calls.mono (T4.o _) ?_);rintro e w4 ⟨⟨g4,c4,rfl,aA,aB,an⟩,D⟩;clear T4;replace E:=I (AW E.o D);replace O:=I (AW O.o D);replace Y:=I (AW Y.o D);have aa:=I an;replace F:=I (F.o.below D);replace M:=M.t D;clear D an aA aB)
  |(go_at_call 176;(with_reducible refine Calls.mono (T5.o _) ?_);rintro e w5 ⟨⟨g5,c5,rfl,aw,ay,ag⟩,D⟩;clear T5;replace E:=I (AW E.o D);replace O:=I (AW O.o D);replace Y:=I (AW Y.o D);replace aa:=I (AW aa.o D);have aD:=I ag;replace F:=I (F.o.below D);replace M:=M.t D;clear D ag aw ay)
  |(go_at_call 174;refine Calls.mono (CH 122 [l1,l2,l3,l4,l5] _ 5 5 (w5.heap.size+1) _ (JG E.o O.o Y.o aa.o aD.o) rfl (by simp) HL.o (by simp)) ?_;rintro e wz ⟨⟨gz,cz,rfl,ak,ad,aj⟩,D⟩;have ab:=(Below.refl w5.heap.size w5).alloc Ae (.cells #[.slice (some ⟨g1,0,none⟩) l1.length c1,.slice (some ⟨g2,0,none⟩) l2.length c2,.slice (some ⟨g3,0,none⟩) l3.length c3,.slice (some ⟨g4,0,none⟩) l4.length c4,.slice (some ⟨g5,0,none⟩) l5.length c5] 25);have HG:=I (Ba (l:=elem 122 [l1,l2,l3,l4,l5].flatten) ⟨⟨gz,cz,rfl,ak,ad,aj⟩,D⟩ (M.o.trans (ab.mono M.o.size)));rw[FG] at HG;replace F:=I ((F.o.alloc (.cells #[.slice (some ⟨g1,0,none⟩) l1.length c1,.slice (some ⟨g2,0,none⟩) l2.length c2,.slice (some ⟨g3,0,none⟩) l3.length c3,.slice (some ⟨g4,0,none⟩) l4.length c4,.slice (some ⟨g5,0,none⟩) l5.length c5] 25)).below D);clear ab ak ad aj D)))
 go_wp2
 go_ret;exact HG.o
end Mc
namespace Mc
open Go.RowKit Ad DerP Ms
theorem AM (p:Pr) (w:World) (D:p.1.length<=1000000000) (E:p.2.length<=1000000000):Calls Tryz.prog 58 #[prV p] w fun e w'=>e=.returned (.bool (prB p))/\Below w.heap.size w w':=Nm.AM p.1 p.2 w D E
theorem DP (n a b:Int) (w:World):Calls Tryz.prog 190 #[.int .i64 n,.int .i64 a,.int .i64 b] w fun e w'=>e=.returned (.bool (inB n a b))/\w=w':=by
 cases h1:decide (a<=n) with
 |false=>
  go_enter Tryz.func190,Tryz.ntmps190
  go_wp2
  go_ret;exact⟨by rw[inB,h1];rfl,rfl⟩
 |true=>
  go_enter Tryz.func190,Tryz.ntmps190
  go_wp2
  go_ret;exact⟨by rw[inB,h1];rfl,rfl⟩
theorem Gp (n:Int) (w:World):Calls Tryz.prog 172 #[.int .i64 n] w fun e w'=>e=.returned (.bool (tmB n))/\w=w':=by
 have c1:=DP n 0 1073741824 w;rw[show inB n 0 1073741824=tmB n from rfl] at c1;go_enter Tryz.func172,Tryz.ntmps172
 go_wp2_with (go_at_call 190;refine Ag c1 ?_;rintro D rfl)
 go_ret;exact⟨rfl,rfl⟩
theorem Fc (n:Int) (w:World):Calls Tryz.prog 173 #[.int .i64 n] w fun e w'=>e=.returned (.bool (tmB n))/\w=w':=by
 have c1:=DP n 0 1073741824 w;rw[show inB n 0 1073741824=tmB n from rfl] at c1;go_enter Tryz.func173,Tryz.ntmps173
 go_wp2_with (go_at_call 190;refine Ag c1 ?_;rintro D rfl)
 go_ret;exact⟨rfl,rfl⟩
theorem Fu (b:L) (A:Option Addr) (c:Nat) (w:World):Calls Tryz.prog 189 #[.slice A b.length c] w fun e w'=>e=.returned (.bool (Bv b))/\w=w':=by
 have c1:=DP (b.length:Int) 1 800 w;rw[Qt] at c1;go_enter Tryz.func189,Tryz.ntmps189
 go_wp2_with (go_at_call 190;refine Ag c1 ?_;rintro D rfl)
 go_ret;exact⟨rfl,rfl⟩
theorem Fe (t:Tk) (A:Option Addr) (c:Nat) (w:World) (hs:pSm t.s):Calls Tryz.prog 188 #[.agg #[.string ⟨t.s.1.toArray⟩,.string ⟨t.s.2.toArray⟩,.int .i64 t.k,.slice A t.b.length c]] w fun e w'=>e=.returned (.bool (tkB t))/\Below w.heap.size w w':=by
 have aa:=(Below.refl w.heap.size w).alloc Ae (.cells #[.string ⟨t.s.1.toArray⟩,.string ⟨t.s.2.toArray⟩,.int .i64 t.k,.slice A t.b.length c] 53);have M:=I aa;have D:=I (Blk.new w 53 #[.string ⟨t.s.1.toArray⟩,.string ⟨t.s.2.toArray⟩,.int .i64 t.k,.slice A t.b.length c]);clear aa;have Y:=I (fun O=>AM t.s O hs.1 hs.2);have T2:=I (fun O=>DP t.k 1 255 O);have T3:=I (fun O=>Fu t.b A c O);cases h1:prB t.s with
 |false=>
  rw[h1] at Y;have E:=I (show tkB t=false by rw[tkB,h1];rfl);clear h1;go_enter Tryz.func188,Tryz.ntmps188
  go_wp2_with (go_at_call 58;(with_reducible refine Calls.mono (Y.o _) ?_);rintro e O ⟨rfl,F⟩;replace D:=I (D.o.below F);replace M:=M.t F;clear F Y;(try clear X k1 k2 Z);have X:=D.o.cell 0;have k1:=D.o.cell 1;have k2:=D.o.cell 2;have Z:=D.o.cell 3;simp only[List.getElem?_toArray,List.getElem?_cons_zero,List.getElem?_cons_succ] at X k1 k2 Z)
  go_ret;exact⟨by rw[E.o];rfl,M.o⟩
 |true=>
  rw[h1] at Y;cases h2:inB t.k 1 255 with
  |false=>
   rw[h2] at T2;have E:=I (show tkB t=false by rw[tkB,h1,h2];rfl);clear h1 h2;go_enter Tryz.func188,Tryz.ntmps188
   go_wp2_with (first
    |(go_at_call 58;(with_reducible refine Calls.mono (Y.o _) ?_);rintro e O ⟨rfl,F⟩;replace D:=I (D.o.below F);replace M:=M.t F;clear F Y;(try clear X k1 k2 Z);have X:=D.o.cell 0;have k1:=D.o.cell 1;have k2:=D.o.cell 2;have Z:=D.o.cell 3;simp only[List.getElem?_toArray,List.getElem?_cons_zero,List.getElem?_cons_succ] at X k1 k2 Z)
    |(go_at_call 190;(with_reducible refine Calls.mono (T2.o _) ?_);rintro e w2 ⟨rfl,hw⟩;subst hw;clear T2))
   go_ret;exact⟨by rw[E.o];rfl,M.o⟩
  |true=>
   rw[h2] at T2;have E:=I (show tkB t=Bv t.b by rw[tkB,h1,h2];rfl);clear h1 h2;go_enter Tryz.func188,Tryz.ntmps188
   go_wp2_with (first
    |(go_at_call 58;(with_reducible refine Calls.mono (Y.o _) ?_);rintro e O ⟨rfl,F⟩;replace D:=I (D.o.below F);replace M:=M.t F;clear F Y;(try clear X k1 k2 Z);have X:=D.o.cell 0;have k1:=D.o.cell 1;have k2:=D.o.cell 2;have Z:=D.o.cell 3;simp only[List.getElem?_toArray,List.getElem?_cons_zero,List.getElem?_cons_succ] at X k1 k2 Z)
    |(go_at_call 190;(with_reducible refine Calls.mono (T2.o _) ?_);rintro e w2 ⟨rfl,hw⟩;subst hw;clear T2)
    |(go_at_call 189;(with_reducible refine Calls.mono (T3.o _) ?_);rintro e w3 ⟨rfl,hw⟩;subst hw;clear T3))
   go_ret;exact⟨by rw[E.o];rfl,M.o⟩
theorem LN (a:An) (w:World) (hs:pSm a.c):Calls Tryz.prog 139 #[.agg #[.string ⟨a.c.1.toArray⟩,.string ⟨a.c.2.toArray⟩,.int .i64 a.t,.int .i64 a.q]] w fun e w'=>e=.returned (.bool (anB a))/\Below w.heap.size w w':=by
 have aa:=(Below.refl w.heap.size w).alloc Ae (.cells #[.string ⟨a.c.1.toArray⟩,.string ⟨a.c.2.toArray⟩,.int .i64 a.t,.int .i64 a.q] 73);have M:=I aa;have D:=I (Blk.new w 73 #[.string ⟨a.c.1.toArray⟩,.string ⟨a.c.2.toArray⟩,.int .i64 a.t,.int .i64 a.q]);clear aa;have Y:=I (fun O=>AM a.c O hs.1 hs.2);have T2:=I (fun O=>Gp a.t O);have T3:=I (fun O=>Fc a.q O);cases h1:prB a.c with
 |false=>
  rw[h1] at Y;have E:=I (show anB a=false by rw[anB,h1];rfl);clear h1;go_enter Tryz.func139,Tryz.ntmps139
  go_wp2_with (go_at_call 58;(with_reducible refine Calls.mono (Y.o _) ?_);rintro e O ⟨rfl,F⟩;replace D:=I (D.o.below F);replace M:=M.t F;clear F Y;(try clear X k1 k2 Z);have X:=D.o.cell 0;have k1:=D.o.cell 1;have k2:=D.o.cell 2;have Z:=D.o.cell 3;simp only[List.getElem?_toArray,List.getElem?_cons_zero,List.getElem?_cons_succ] at X k1 k2 Z)
  go_ret;exact⟨by rw[E.o];rfl,M.o⟩
 |true=>
  rw[h1] at Y;cases h2:tmB a.t with
  |false=>
   rw[h2] at T2;have E:=I (show anB a=false by rw[anB,h1,h2];rfl);clear h1 h2;go_enter Tryz.func139,Tryz.ntmps139
   go_wp2_with (first
    |(go_at_call 58;(with_reducible refine Calls.mono (Y.o _) ?_);rintro e O ⟨rfl,F⟩;replace D:=I (D.o.below F);replace M:=M.t F;clear F Y;(try clear X k1 k2 Z);have X:=D.o.cell 0;have k1:=D.o.cell 1;have k2:=D.o.cell 2;have Z:=D.o.cell 3;simp only[List.getElem?_toArray,List.getElem?_cons_zero,List.getElem?_cons_succ] at X k1 k2 Z)
    |(go_at_call 172;(with_reducible refine Calls.mono (T2.o _) ?_);rintro e w2 ⟨rfl,hw⟩;subst hw;clear T2))
   go_ret;exact⟨by rw[E.o];rfl,M.o⟩
  |true=>
   rw[h2] at T2;have E:=I (show anB a=tmB a.q by rw[anB,h1,h2];rfl);clear h1 h2;go_enter Tryz.func139,Tryz.ntmps139
   go_wp2_with (first
    |(go_at_call 58;(with_reducible refine Calls.mono (Y.o _) ?_);rintro e O ⟨rfl,F⟩;replace D:=I (D.o.below F);replace M:=M.t F;clear F Y;(try clear X k1 k2 Z);have X:=D.o.cell 0;have k1:=D.o.cell 1;have k2:=D.o.cell 2;have Z:=D.o.cell 3;simp only[List.getElem?_toArray,List.getElem?_cons_zero,List.getElem?_cons_succ] at X k1 k2 Z)
    |(go_at_call 172;(with_reducible refine Calls.mono (T2.o _) ?_);rintro e w2 ⟨rfl,hw⟩;subst hw;clear T2)
    |(go_at_call 173;(with_reducible refine Calls.mono (T3.o _) ?_);rintro e w3 ⟨rfl,hw⟩;subst hw;clear T3))
   go_ret;exact⟨by rw[E.o];rfl,M.o⟩
theorem SM (q:As) (w:World) (hs:pSm q.c) (ab:pSm q.s):Calls Tryz.prog 154 #[.agg #[.string ⟨q.c.1.toArray⟩,.string ⟨q.c.2.toArray⟩,.string ⟨q.s.1.toArray⟩,.string ⟨q.s.2.toArray⟩,.int .i64 q.t,.int .i64 q.no]] w fun e w'=>e=.returned (.bool (asB q))/\Below w.heap.size w w':=by
 have aa:=(Below.refl w.heap.size w).alloc Ae (.cells #[.string ⟨q.c.1.toArray⟩,.string ⟨q.c.2.toArray⟩,.string ⟨q.s.1.toArray⟩,.string ⟨q.s.2.toArray⟩,.int .i64 q.t,.int .i64 q.no] 51);have Z:=I aa;have D:=I (Blk.new w 51 #[.string ⟨q.c.1.toArray⟩,.string ⟨q.c.2.toArray⟩,.string ⟨q.s.1.toArray⟩,.string ⟨q.s.2.toArray⟩,.int .i64 q.t,.int .i64 q.no]);clear aa;have T1:=I (fun w1=>AM q.c w1 hs.1 hs.2);have T2:=I (fun w1=>AM q.s w1 ab.1 ab.2);have T3:=I (fun w1=>Gp q.t w1);have T4:=I (fun w1=>Fc q.no w1);cases h1:prB q.c with
 |false=>
  rw[h1] at T1;have E:=I (show asB q=false by rw[asB,h1];rfl);clear h1;go_enter Tryz.func154,Tryz.ntmps154
  go_wp2_with (go_at_call 58;(with_reducible refine Calls.mono (T1.o _) ?_);rintro e w1 ⟨rfl,F⟩;replace D:=I (D.o.below F);replace Z:=Z.t F;clear F T1;(try clear O k1 k2 X M Y);have O:=D.o.cell 0;have k1:=D.o.cell 1;have k2:=D.o.cell 2;have X:=D.o.cell 3;have M:=D.o.cell 4;have Y:=D.o.cell 5;simp only[List.getElem?_toArray,List.getElem?_cons_zero,List.getElem?_cons_succ] at O k1 k2 X M Y)
  go_ret;exact⟨by rw[E.o];rfl,Z.o⟩
 |true=>
  rw[h1] at T1;cases h2:prB q.s with
  |false=>
   rw[h2] at T2;have E:=I (show asB q=false by rw[asB,h1,h2];rfl);clear h1 h2;go_enter Tryz.func154,Tryz.ntmps154
   go_wp2_with (first
    |(go_at_call 58;(with_reducible refine Calls.mono (T1.o _) ?_);rintro e w1 ⟨rfl,F⟩;replace D:=I (D.o.below F);replace Z:=Z.t F;clear F T1;(try clear O k1 k2 X M Y);have O:=D.o.cell 0;have k1:=D.o.cell 1;have k2:=D.o.cell 2;have X:=D.o.cell 3;have M:=D.o.cell 4;have Y:=D.o.cell 5;simp only[List.getElem?_toArray,List.getElem?_cons_zero,List.getElem?_cons_succ] at O k1 k2 X M Y)
    |(go_at_call 58;(with_reducible refine Calls.mono (T2.o _) ?_);rintro e w2 ⟨rfl,F⟩;replace D:=I (D.o.below F);replace Z:=Z.t F;clear F T2;(try clear O k1 k2 X M Y);have O:=D.o.cell 0;have k1:=D.o.cell 1;have k2:=D.o.cell 2;have X:=D.o.cell 3;have M:=D.o.cell 4;have Y:=D.o.cell 5;simp only[List.getElem?_toArray,List.getElem?_cons_zero,List.getElem?_cons_succ] at O k1 k2 X M Y))
   go_ret;exact⟨by rw[E.o];rfl,Z.o⟩
  |true=>
   rw[h2] at T2;cases h3:tmB q.t with
   |false=>
    rw[h3] at T3;have E:=I (show asB q=false by rw[asB,h1,h2,h3];rfl);clear h1 h2 h3;go_enter Tryz.func154,Tryz.ntmps154
    go_wp2_with (first
     |(go_at_call 58;(with_reducible refine Calls.mono (T1.o _) ?_);rintro e w1 ⟨rfl,F⟩;replace D:=I (D.o.below F);replace Z:=Z.t F;clear F T1;(try clear O k1 k2 X M Y);have O:=D.o.cell 0;have k1:=D.o.cell 1;have k2:=D.o.cell 2;have X:=D.o.cell 3;have M:=D.o.cell 4;have Y:=D.o.cell 5;simp only[List.getElem?_toArray,List.getElem?_cons_zero,List.getElem?_cons_succ] at O k1 k2 X M Y)
     |(go_at_call 58;(with_reducible refine Calls.mono (T2.o _) ?_);rintro e w2 ⟨rfl,F⟩;replace D:=I (D.o.below F);replace Z:=Z.t F;clear F T2;(try clear O k1 k2 X M Y);have O:=D.o.cell 0;have k1:=D.o.cell 1;have k2:=D.o.cell 2;have X:=D.o.cell 3;have M:=D.o.cell 4;have Y:=D.o.cell 5;simp only[List.getElem?_toArray,List.getElem?_cons_zero,List.getElem?_cons_succ] at O k1 k2 X M Y)
     |(go_at_call 172;(with_reducible refine Calls.mono (T3.o _) ?_);rintro e w3 ⟨rfl,hw⟩;subst hw;clear T3))
    go_ret;exact⟨by rw[E.o];rfl,Z.o⟩
   |true=>
    rw[h3] at T3;have E:=I (show asB q=tmB q.no by rw[asB,h1,h2,h3];rfl);clear h1 h2 h3;go_enter Tryz.func154,Tryz.ntmps154
    go_wp2_with (first
     |(go_at_call 58;(with_reducible refine Calls.mono (T1.o _) ?_);rintro e w1 ⟨rfl,F⟩;replace D:=I (D.o.below F);replace Z:=Z.t F;clear F T1;(try clear O k1 k2 X M Y);have O:=D.o.cell 0;have k1:=D.o.cell 1;have k2:=D.o.cell 2;have X:=D.o.cell 3;have M:=D.o.cell 4;have Y:=D.o.cell 5;simp only[List.getElem?_toArray,List.getElem?_cons_zero,List.getElem?_cons_succ] at O k1 k2 X M Y)
     |(go_at_call 58;(with_reducible refine Calls.mono (T2.o _) ?_);rintro e w2 ⟨rfl,F⟩;replace D:=I (D.o.below F);replace Z:=Z.t F;clear F T2;(try clear O k1 k2 X M Y);have O:=D.o.cell 0;have k1:=D.o.cell 1;have k2:=D.o.cell 2;have X:=D.o.cell 3;have M:=D.o.cell 4;have Y:=D.o.cell 5;simp only[List.getElem?_toArray,List.getElem?_cons_zero,List.getElem?_cons_succ] at O k1 k2 X M Y)
     |(go_at_call 172;(with_reducible refine Calls.mono (T3.o _) ?_);rintro e w3 ⟨rfl,hw⟩;subst hw;clear T3)
     |(go_at_call 173;(with_reducible refine Calls.mono (T4.o _) ?_);rintro e w4 ⟨rfl,hw⟩;subst hw;clear T4))
    go_ret;exact⟨by rw[E.o];rfl,Z.o⟩
theorem QB (q:Tg) (A1 A2:Option Addr) (c1 c2:Nat) (w:World) (hs:pSm q.t.s) (aa:pSm q.s):Calls Tryz.prog 155 #[.agg #[.string ⟨q.t.s.1.toArray⟩,.string ⟨q.t.s.2.toArray⟩,.int .i64 q.t.k,.slice A1 q.t.b.length c1,.slice A2 q.a.length c2,.string ⟨q.s.1.toArray⟩,.string ⟨q.s.2.toArray⟩,.int .i64 q.u,.int .i64 q.no]] w fun e w'=>e=.returned (.bool (tgB q))/\Below w.heap.size w w':=by
 have ab:=(Below.refl w.heap.size w).alloc Ae (.cells #[.string ⟨q.t.s.1.toArray⟩,.string ⟨q.t.s.2.toArray⟩,.int .i64 q.t.k,.slice A1 q.t.b.length c1,.slice A2 q.a.length c2,.string ⟨q.s.1.toArray⟩,.string ⟨q.s.2.toArray⟩,.int .i64 q.u,.int .i64 q.no] 55);have HB:=I ab;have D:=I (Blk.new w 55 #[.string ⟨q.t.s.1.toArray⟩,.string ⟨q.t.s.2.toArray⟩,.int .i64 q.t.k,.slice A1 q.t.b.length c1,.slice A2 q.a.length c2,.string ⟨q.s.1.toArray⟩,.string ⟨q.s.2.toArray⟩,.int .i64 q.u,.int .i64 q.no]);clear ab;have T1:=I (fun w1=>Fe q.t A1 c1 w1 hs);have T2:=I (fun w1=>Fu q.a A2 c2 w1);have T3:=I (fun w1=>AM q.s w1 aa.1 aa.2);have T4:=I (fun w1=>Gp q.u w1);have T5:=I (fun w1=>Fc q.no w1);cases h1:tkB q.t with
 |false=>
  rw[h1] at T1;have E:=I (show tgB q=false by rw[tgB,h1];rfl);clear h1;go_enter Tryz.func155,Tryz.ntmps155
  go_wp2_with (go_at_call 188;(with_reducible refine Calls.mono (T1.o _) ?_);rintro e w1 ⟨rfl,F⟩;replace D:=I (D.o.below F);replace HB:=HB.t F;clear F T1;(try clear Z k1 k2 k3 Y X O M k8);have Z:=D.o.cell 0;have k1:=D.o.cell 1;have k2:=D.o.cell 2;have k3:=D.o.cell 3;have Y:=D.o.cell 4;have X:=D.o.cell 5;have O:=D.o.cell 6;have M:=D.o.cell 7;have k8:=D.o.cell 8;simp only[List.getElem?_toArray,List.getElem?_cons_zero,List.getElem?_cons_succ] at Z k1 k2 k3 Y X O M k8)
  go_ret;exact⟨by rw[E.o];rfl,HB.o⟩
 |true=>
  rw[h1] at T1;cases h2:Bv q.a with
  |false=>
   rw[h2] at T2;have E:=I (show tgB q=false by rw[tgB,h1,h2];rfl);clear h1 h2;go_enter Tryz.func155,Tryz.ntmps155
   go_wp2_with (first
    |(go_at_call 188;(with_reducible refine Calls.mono (T1.o _) ?_);rintro e w1 ⟨rfl,F⟩;replace D:=I (D.o.below F);replace HB:=HB.t F;clear F T1;(try clear Z k1 k2 k3 Y X O M k8);have Z:=D.o.cell 0;have k1:=D.o.cell 1;have k2:=D.o.cell 2;have k3:=D.o.cell 3;have Y:=D.o.cell 4;have X:=D.o.cell 5;have O:=D.o.cell 6;have M:=D.o.cell 7;have k8:=D.o.cell 8;simp only[List.getElem?_toArray,List.getElem?_cons_zero,List.getElem?_cons_succ] at Z k1 k2 k3 Y X O M k8)
    |(go_at_call 189;(with_reducible refine Calls.mono (T2.o _) ?_);rintro e w2 ⟨rfl,hw⟩;subst hw;clear T2))
   go_ret;exact⟨by rw[E.o];rfl,HB.o⟩
  |true=>
   rw[h2] at T2;cases h3:prB q.s with
   |false=>
    rw[h3] at T3;have E:=I (show tgB q=false by rw[tgB,h1,h2,h3];rfl);clear h1 h2 h3;go_enter Tryz.func155,Tryz.ntmps155
    go_wp2_with (first
     |(go_at_call 188;(with_reducible refine Calls.mono (T1.o _) ?_);rintro e w1 ⟨rfl,F⟩;replace D:=I (D.o.below F);replace HB:=HB.t F;clear F T1;(try clear Z k1 k2 k3 Y X O M k8);have Z:=D.o.cell 0;have k1:=D.o.cell 1;have k2:=D.o.cell 2;have k3:=D.o.cell 3;have Y:=D.o.cell 4;have X:=D.o.cell 5;have O:=D.o.cell 6;have M:=D.o.cell 7;have k8:=D.o.cell 8;simp only[List.getElem?_toArray,List.getElem?_cons_zero,List.getElem?_cons_succ] at Z k1 k2 k3 Y X O M k8)
     |(go_at_call 189;(with_reducible refine Calls.mono (T2.o _) ?_);rintro e w2 ⟨rfl,hw⟩;subst hw;clear T2)
     |(go_at_call 58;(with_reducible refine Calls.mono (T3.o _) ?_);rintro e w3 ⟨rfl,F⟩;replace D:=I (D.o.below F);replace HB:=HB.t F;clear F T3;(try clear Z k1 k2 k3 Y X O M k8);have Z:=D.o.cell 0;have k1:=D.o.cell 1;have k2:=D.o.cell 2;have k3:=D.o.cell 3;have Y:=D.o.cell 4;have X:=D.o.cell 5;have O:=D.o.cell 6;have M:=D.o.cell 7;have k8:=D.o.cell 8;simp only[List.getElem?_toArray,List.getElem?_cons_zero,List.getElem?_cons_succ] at Z k1 k2 k3 Y X O M k8))
    go_ret;exact⟨by rw[E.o];rfl,HB.o⟩
   |true=>
    rw[h3] at T3;cases h4:tmB q.u with
    |false=>
     rw[h4] at T4;have E:=I (show tgB q=false by rw[tgB,h1,h2,h3,h4];rfl);clear h1 h2 h3 h4;go_enter Tryz.func155,Tryz.ntmps155
     go_wp2_with (first
      |(go_at_call 188;(with_reducible refine Calls.mono (T1.o _) ?_);rintro e w1 ⟨rfl,F⟩;replace D:=I (D.o.below F);replace HB:=HB.t F;clear F T1;(try clear Z k1 k2 k3 Y X O M k8);have Z:=D.o.cell 0;have k1:=D.o.cell 1;have k2:=D.o.cell 2;have k3:=D.o.cell 3;have Y:=D.o.cell 4;have X:=D.o.cell 5;have O:=D.o.cell 6;have M:=D.o.cell 7;have k8:=D.o.cell 8;simp only[List.getElem?_toArray,List.getElem?_cons_zero,List.getElem?_cons_succ] at Z k1 k2 k3 Y X O M k8)
      |(go_at_call 189;(with_reducible refine Calls.mono (T2.o _) ?_);rintro e w2 ⟨rfl,hw⟩;subst hw;clear T2)
      |(go_at_call 58;(with_reducible refine Calls.mono (T3.o _) ?_);rintro e w3 ⟨rfl,F⟩;replace D:=I (D.o.below F);replace HB:=HB.t F;clear F T3;(try clear Z k1 k2 k3 Y X O M k8);have Z:=D.o.cell 0;have k1:=D.o.cell 1;have k2:=D.o.cell 2;have k3:=D.o.cell 3;have Y:=D.o.cell 4;have X:=D.o.cell 5;have O:=D.o.cell 6;have M:=D.o.cell 7;have k8:=D.o.cell 8;simp only[List.getElem?_toArray,List.getElem?_cons_zero,List.getElem?_cons_succ] at Z k1 k2 k3 Y X O M k8)
      |(go_at_call 172;(with_reducible refine Calls.mono (T4.o _) ?_);rintro e w4 ⟨rfl,hw⟩;subst hw;clear T4))
     go_ret;exact⟨by rw[E.o];rfl,HB.o⟩
    |true=>
     rw[h4] at T4;have E:=I (show tgB q=tmB q.no by rw[tgB,h1,h2,h3,h4];rfl);clear h1 h2 h3 h4;go_enter Tryz.func155,Tryz.ntmps155
     go_wp2_with (first
      |(go_at_call 188;(with_reducible refine Calls.mono (T1.o _) ?_);rintro e w1 ⟨rfl,F⟩;replace D:=I (D.o.below F);replace HB:=HB.t F;clear F T1;(try clear Z k1 k2 k3 Y X O M k8);have Z:=D.o.cell 0;have k1:=D.o.cell 1;have k2:=D.o.cell 2;have k3:=D.o.cell 3;have Y:=D.o.cell 4;have X:=D.o.cell 5;have O:=D.o.cell 6;have M:=D.o.cell 7;have k8:=D.o.cell 8;simp only[List.getElem?_toArray,List.getElem?_cons_zero,List.getElem?_cons_succ] at Z k1 k2 k3 Y X O M k8)
      |(go_at_call 189;(with_reducible refine Calls.mono (T2.o _) ?_);rintro e w2 ⟨rfl,hw⟩;subst hw;clear T2)
      |(go_at_call 58;(with_reducible refine Calls.mono (T3.o _) ?_);rintro e w3 ⟨rfl,F⟩;replace D:=I (D.o.below F);replace HB:=HB.t F;clear F T3;(try clear Z k1 k2 k3 Y X O M k8);have Z:=D.o.cell 0;have k1:=D.o.cell 1;have k2:=D.o.cell 2;have k3:=D.o.cell 3;have Y:=D.o.cell 4;have X:=D.o.cell 5;have O:=D.o.cell 6;have M:=D.o.cell 7;have k8:=D.o.cell 8;simp only[List.getElem?_toArray,List.getElem?_cons_zero,List.getElem?_cons_succ] at Z k1 k2 k3 Y X O M k8)
      |(go_at_call 172;(with_reducible refine Calls.mono (T4.o _) ?_);rintro e w4 ⟨rfl,hw⟩;subst hw;clear T4)
      |(go_at_call 173;(with_reducible refine Calls.mono (T5.o _) ?_);rintro e w5 ⟨rfl,hw⟩;subst hw;clear T5))
     go_ret;exact⟨by rw[E.o];rfl,HB.o⟩
theorem SN (q:Re) (A1 A2:Option Addr) (c1 c2:Nat) (w:World) (hs:pSm q.t.s) (ab:pSm q.c):Calls Tryz.prog 156 #[.agg #[.string ⟨q.c.1.toArray⟩,.string ⟨q.c.2.toArray⟩,.string ⟨q.t.s.1.toArray⟩,.string ⟨q.t.s.2.toArray⟩,.int .i64 q.t.k,.slice A1 q.t.b.length c1,.slice A2 q.b.length c2]] w fun e w'=>e=.returned (.bool (reB q))/\Below w.heap.size w w':=by
 have aa:=(Below.refl w.heap.size w).alloc Ae (.cells #[.string ⟨q.c.1.toArray⟩,.string ⟨q.c.2.toArray⟩,.string ⟨q.t.s.1.toArray⟩,.string ⟨q.t.s.2.toArray⟩,.int .i64 q.t.k,.slice A1 q.t.b.length c1,.slice A2 q.b.length c2] 57);have HB:=I aa;have D:=I (Blk.new w 57 #[.string ⟨q.c.1.toArray⟩,.string ⟨q.c.2.toArray⟩,.string ⟨q.t.s.1.toArray⟩,.string ⟨q.t.s.2.toArray⟩,.int .i64 q.t.k,.slice A1 q.t.b.length c1,.slice A2 q.b.length c2]);clear aa;have T1:=I (fun w1=>AM q.c w1 ab.1 ab.2);have T2:=I (fun w1=>Fe q.t A1 c1 w1 hs);have T3:=I (fun w1=>Fu q.b A2 c2 w1);cases h1:prB q.c with
 |false=>
  rw[h1] at T1;have E:=I (show reB q=false by rw[reB,h1];rfl);clear h1;go_enter Tryz.func156,Tryz.ntmps156
  go_wp2_with (go_at_call 58;(with_reducible refine Calls.mono (T1.o _) ?_);rintro e w1 ⟨rfl,F⟩;replace D:=I (D.o.below F);replace HB:=HB.t F;clear F T1;(try clear O k1 k2 Y M Z X);have O:=D.o.cell 0;have k1:=D.o.cell 1;have k2:=D.o.cell 2;have Y:=D.o.cell 3;have M:=D.o.cell 4;have Z:=D.o.cell 5;have X:=D.o.cell 6;simp only[List.getElem?_toArray,List.getElem?_cons_zero,List.getElem?_cons_succ] at O k1 k2 Y M Z X)
  go_ret;exact⟨by rw[E.o];rfl,HB.o⟩
 |true=>
  rw[h1] at T1;cases h2:tkB q.t with
  |false=>
   rw[h2] at T2;have E:=I (show reB q=false by rw[reB,h1,h2];rfl);clear h1 h2;go_enter Tryz.func156,Tryz.ntmps156
   go_wp2_with (first
    |(go_at_call 58;(with_reducible refine Calls.mono (T1.o _) ?_);rintro e w1 ⟨rfl,F⟩;replace D:=I (D.o.below F);replace HB:=HB.t F;clear F T1;(try clear O k1 k2 Y M Z X);have O:=D.o.cell 0;have k1:=D.o.cell 1;have k2:=D.o.cell 2;have Y:=D.o.cell 3;have M:=D.o.cell 4;have Z:=D.o.cell 5;have X:=D.o.cell 6;simp only[List.getElem?_toArray,List.getElem?_cons_zero,List.getElem?_cons_succ] at O k1 k2 Y M Z X)
    |(go_at_call 188;(with_reducible refine Calls.mono (T2.o _) ?_);rintro e w2 ⟨rfl,F⟩;replace D:=I (D.o.below F);replace HB:=HB.t F;clear F T2;(try clear O k1 k2 Y M Z X);have O:=D.o.cell 0;have k1:=D.o.cell 1;have k2:=D.o.cell 2;have Y:=D.o.cell 3;have M:=D.o.cell 4;have Z:=D.o.cell 5;have X:=D.o.cell 6;simp only[List.getElem?_toArray,List.getElem?_cons_zero,List.getElem?_cons_succ] at O k1 k2 Y M Z X))
   go_ret;exact⟨by rw[E.o];rfl,HB.o⟩
  |true=>
   rw[h2] at T2;have E:=I (show reB q=Bv q.b by rw[reB,h1,h2];rfl);clear h1 h2;go_enter Tryz.func156,Tryz.ntmps156
   go_wp2_with (first
    |(go_at_call 58;(with_reducible refine Calls.mono (T1.o _) ?_);rintro e w1 ⟨rfl,F⟩;replace D:=I (D.o.below F);replace HB:=HB.t F;clear F T1;(try clear O k1 k2 Y M Z X);have O:=D.o.cell 0;have k1:=D.o.cell 1;have k2:=D.o.cell 2;have Y:=D.o.cell 3;have M:=D.o.cell 4;have Z:=D.o.cell 5;have X:=D.o.cell 6;simp only[List.getElem?_toArray,List.getElem?_cons_zero,List.getElem?_cons_succ] at O k1 k2 Y M Z X)
    |(go_at_call 188;(with_reducible refine Calls.mono (T2.o _) ?_);rintro e w2 ⟨rfl,F⟩;replace D:=I (D.o.below F);replace HB:=HB.t F;clear F T2;(try clear O k1 k2 Y M Z X);have O:=D.o.cell 0;have k1:=D.o.cell 1;have k2:=D.o.cell 2;have Y:=D.o.cell 3;have M:=D.o.cell 4;have Z:=D.o.cell 5;have X:=D.o.cell 6;simp only[List.getElem?_toArray,List.getElem?_cons_zero,List.getElem?_cons_succ] at O k1 k2 Y M Z X)
    |(go_at_call 189;(with_reducible refine Calls.mono (T3.o _) ?_);rintro e w3 ⟨rfl,hw⟩;subst hw;clear T3))
   go_ret;exact⟨by rw[E.o];rfl,HB.o⟩
theorem SP (q:Ap) (A1 A2:Option Addr) (c1 c2:Nat) (w:World) (hs:pSm q.t.s):Calls Tryz.prog 157 #[.agg #[.string ⟨q.t.s.1.toArray⟩,.string ⟨q.t.s.2.toArray⟩,.int .i64 q.t.k,.slice A1 q.t.b.length c1,.slice A2 q.a.length c2]] w fun e w'=>e=.returned (.bool (apB q))/\Below w.heap.size w w':=by
 have Y:=(Below.refl w.heap.size w).alloc Ae (.cells #[.string ⟨q.t.s.1.toArray⟩,.string ⟨q.t.s.2.toArray⟩,.int .i64 q.t.k,.slice A1 q.t.b.length c1,.slice A2 q.a.length c2] 59);have M:=I Y;have D:=I (Blk.new w 59 #[.string ⟨q.t.s.1.toArray⟩,.string ⟨q.t.s.2.toArray⟩,.int .i64 q.t.k,.slice A1 q.t.b.length c1,.slice A2 q.a.length c2]);clear Y;have O:=I (fun Z=>Fe q.t A1 c1 Z hs);have T2:=I (fun Z=>Fu q.a A2 c2 Z);cases h1:tkB q.t with
 |false=>
  rw[h1] at O;have E:=I (show apB q=false by rw[apB,h1];rfl);clear h1;go_enter Tryz.func157,Tryz.ntmps157
  go_wp2_with (go_at_call 188;(with_reducible refine Calls.mono (O.o _) ?_);rintro e Z ⟨rfl,F⟩;replace D:=I (D.o.below F);replace M:=M.t F;clear F O;(try clear k0 k1 k2 k3 X);have k0:=D.o.cell 0;have k1:=D.o.cell 1;have k2:=D.o.cell 2;have k3:=D.o.cell 3;have X:=D.o.cell 4;simp only[List.getElem?_toArray,List.getElem?_cons_zero,List.getElem?_cons_succ] at k0 k1 k2 k3 X)
  go_ret;exact⟨by rw[E.o];rfl,M.o⟩
 |true=>
  rw[h1] at O;have E:=I (show apB q=Bv q.a by rw[apB,h1];rfl);clear h1;go_enter Tryz.func157,Tryz.ntmps157
  go_wp2_with (first
   |(go_at_call 188;(with_reducible refine Calls.mono (O.o _) ?_);rintro e Z ⟨rfl,F⟩;replace D:=I (D.o.below F);replace M:=M.t F;clear F O;(try clear k0 k1 k2 k3 X);have k0:=D.o.cell 0;have k1:=D.o.cell 1;have k2:=D.o.cell 2;have k3:=D.o.cell 3;have X:=D.o.cell 4;simp only[List.getElem?_toArray,List.getElem?_cons_zero,List.getElem?_cons_succ] at k0 k1 k2 k3 X)
   |(go_at_call 189;(with_reducible refine Calls.mono (T2.o _) ?_);rintro e w2 ⟨rfl,hw⟩;subst hw;clear T2))
  go_ret;exact⟨by rw[E.o];rfl,M.o⟩
theorem SR (q:Fa) (w:World):Calls Tryz.prog 158 #[.agg #[.int .i64 q.e,.int .i64 q.no]] w fun e w'=>e=.returned (.bool (faB q))/\Below w.heap.size w w':=by
 have F:=(Below.refl w.heap.size w).alloc Ae (.cells #[.int .i64 q.e,.int .i64 q.no] 61);have O:=I F;have Y:=I (Blk.new w 61 #[.int .i64 q.e,.int .i64 q.no]);clear F;have D:=I (fun M=>DP q.e 1 255 M);have X:=I (fun M=>Fc q.no M);cases h1:inB q.e 1 255 with
 |false=>
  rw[h1] at D;have E:=I (show faB q=false by rw[faB,h1];rfl);clear h1;go_enter Tryz.func158,Tryz.ntmps158
  go_wp2_with (go_at_call 190;(with_reducible refine Calls.mono (D.o _) ?_);rintro e M ⟨rfl,hw⟩;subst hw;clear D)
  go_ret;exact⟨by rw[E.o];rfl,O.o⟩
 |true=>
  rw[h1] at D;have E:=I (show faB q=tmB q.no by rw[faB,h1];rfl);clear h1;go_enter Tryz.func158,Tryz.ntmps158
  go_wp2_with (first
   |(go_at_call 190;(with_reducible refine Calls.mono (D.o _) ?_);rintro e M ⟨rfl,hw⟩;subst hw;clear D)
   |(go_at_call 173;(with_reducible refine Calls.mono (X.o _) ?_);rintro e w2 ⟨rfl,hw⟩;subst hw;clear X))
  go_ret;exact⟨by rw[E.o];rfl,O.o⟩
section
attribute [local go_sem] FT List.getElem_cons_zero List.getElem_cons_succ
end
theorem QC (p:Rp) (w:World) (hk:p.ss.length=32) (hs:pSm p.s):Calls Tryz.prog 167 #[.agg (rpC p).toArray] w fun e w'=>e=.returned (.bool (rpB p))/\Below w.heap.size w w':=by
 have HI:=I (show(Tryz.prog.info? 110).map (·.size)=some (rpC p).toArray.size by rw[Fb hk];kernel_rfl);have CF:=I (show ∀w':World,Blk w' w.heap.size 110 (rpC p).toArray->w'.cell? ⟨w.heap.size,32,none⟩=some (.string ⟨p.s.1.toArray⟩)/\w'.cell? ⟨w.heap.size,33,none⟩=some (.string ⟨p.s.2.toArray⟩)/\w'.cell? ⟨w.heap.size,34,none⟩=some (.int .i64 p.st)/\w'.cell? ⟨w.heap.size,35,none⟩=some (.int .i64 p.en)/\w'.cell? ⟨w.heap.size,36,none⟩=some (.int .i64 p.no) from fun w' h=>Fs hk h);obtain⟨cs,aa⟩:=Ah ((rpC p).toArray);rw[<-aa] at HI CF⊢;clear aa;have M:=I ((Below.refl w.heap.size w).alloc Ae (.cells cs 110));have F:=I (Blk.new w 110 cs);have X:=I (fun O=>AM p.s O hs.1 hs.2);have T2:=I (fun O=>Gp p.st O);have T3:=I (fun O=>Gp p.en O);have T4:=I (fun O=>Fc p.no O);obtain⟨Z,k1,k2,k3,Y⟩:=CF.o _ F.o;cases h1:prB p.s with
 |false=>
  rw[h1] at X;have E:=I (show rpB p=false by rw[rpB,h1];rfl);clear h1;go_enter Tryz.func167,Tryz.ntmps167
  go_wp2_with (go_at_call 58;(with_reducible refine Calls.mono (X.o _) ?_);rintro e O ⟨rfl,D⟩;replace F:=I (F.o.below D);replace M:=M.t D;clear D X;(try clear Z k1 k2 k3 Y);obtain⟨Z,k1,k2,k3,Y⟩:=CF.o _ F.o)
  go_ret;exact⟨by rw[E.o];rfl,M.o⟩
 |true=>
  rw[h1] at X;cases h2:tmB p.st with
  |false=>
   rw[h2] at T2;have E:=I (show rpB p=false by rw[rpB,h1,h2];rfl);clear h1 h2;go_enter Tryz.func167,Tryz.ntmps167
   go_wp2_with (first
    |(go_at_call 58;(with_reducible refine Calls.mono (X.o _) ?_);rintro e O ⟨rfl,D⟩;replace F:=I (F.o.below D);replace M:=M.t D;clear D X;(try clear Z k1 k2 k3 Y);obtain⟨Z,k1,k2,k3,Y⟩:=CF.o _ F.o)
    |(go_at_call 172;(with_reducible refine Calls.mono (T2.o _) ?_);rintro e w2 ⟨rfl,hw⟩;subst hw;clear T2))
   go_ret;exact⟨by rw[E.o];rfl,M.o⟩
  |true=>
   rw[h2] at T2;cases h3:tmB p.en with
   |false=>
    rw[h3] at T3;have E:=I (show rpB p=false by rw[rpB,h1,h2,h3];rfl);clear h1 h2 h3;go_enter Tryz.func167,Tryz.ntmps167
    go_wp2_with (first
     |(go_at_call 58;(with_reducible refine Calls.mono (X.o _) ?_);rintro e O ⟨rfl,D⟩;replace F:=I (F.o.below D);replace M:=M.t D;clear D X;(try clear Z k1 k2 k3 Y);obtain⟨Z,k1,k2,k3,Y⟩:=CF.o _ F.o)
     |(go_at_call 172;(with_reducible refine Calls.mono (T2.o _) ?_);rintro e w2 ⟨rfl,hw⟩;subst hw;clear T2)
     |(go_at_call 172;(with_reducible refine Calls.mono (T3.o _) ?_);rintro e w3 ⟨rfl,hw⟩;subst hw;clear T3))
    go_ret;exact⟨by rw[E.o];rfl,M.o⟩
   |true=>
    rw[h3] at T3;have E:=I (show rpB p=tmB p.no by rw[rpB,h1,h2,h3];rfl);clear h1 h2 h3;go_enter Tryz.func167,Tryz.ntmps167
    go_wp2_with (first
     |(go_at_call 58;(with_reducible refine Calls.mono (X.o _) ?_);rintro e O ⟨rfl,D⟩;replace F:=I (F.o.below D);replace M:=M.t D;clear D X;(try clear Z k1 k2 k3 Y);obtain⟨Z,k1,k2,k3,Y⟩:=CF.o _ F.o)
     |(go_at_call 172;(with_reducible refine Calls.mono (T2.o _) ?_);rintro e w2 ⟨rfl,hw⟩;subst hw;clear T2)
     |(go_at_call 172;(with_reducible refine Calls.mono (T3.o _) ?_);rintro e w3 ⟨rfl,hw⟩;subst hw;clear T3)
     |(go_at_call 173;(with_reducible refine Calls.mono (T4.o _) ?_);rintro e w4 ⟨rfl,hw⟩;subst hw;clear T4))
    go_ret;exact⟨by rw[E.o];rfl,M.o⟩
open DerR
theorem GN (l:L) (A:Option Addr) (n c:Nat) (w:World) (D:n=l.length) (h:l.length<=2000):Calls Tryz.prog 110 #[.slice A n c] w fun e w'=>e=.returned (.tuple #[.slice A n c,.int .i64 0])/\w=w':=by
 subst D;have E:decide ((2000:Int)<(l.length:Int))=false:=decide_eq_false (by omega);clear h;go_enter Tryz.func110,Tryz.ntmps110
 go_wp2
 go_ret2
 exact⟨rfl,rfl⟩
theorem Xx {a:An} (E:anB a=true):(anE a).length<=2000:=by
 have D:prB a.c=true/\tmB a.t=true/\tmB a.q=true:=by simpa [anB] using E
 have b1:=(AP D.1).1;have b2:=AB a.t;have b3:=AB a.q;have:=Ax 98 [prE a.c,encI a.t,encI a.q].flatten;rw[anE];rw[Dz] at this⊢;simp only[List.length_append] at this;omega
theorem Xy {p:Rp} (hk:p.ss.length=32) (E:rpB p=true):(rpE p).length<=2000:=by
 have D:prB p.s=true:=(show prB p.s=true/\tmB p.st=true/\tmB p.en=true/\tmB p.no=true by simpa [rpB] using E).1;have b1:=(AP D).1;have b2:=AB p.st;have b3:=AB p.en;have M:=AB p.no;have F:=Ax 4 p.ss;have:=Ax 122 [elem 4 p.ss,prE p.s,encI p.st,encI p.en,encI p.no].flatten;rw[rpE];rw[FG] at this⊢;simp only[List.length_append] at this;omega
theorem KJ (a:An) (w:World) (hs:pSm a.c):Calls Tryz.prog 92 #[.agg #[.string ⟨a.c.1.toArray⟩,.string ⟨a.c.2.toArray⟩,.int .i64 a.t,.int .i64 a.q]] w (EncR w (anO a)):=by
 have HI:=I (show(Tryz.prog.info? 73).map (·.size)=some (#[.string ⟨a.c.1.toArray⟩,.string ⟨a.c.2.toArray⟩,.int .i64 a.t,.int .i64 a.q]:Array Value).size by kernel_rfl);have X:=I (fun Y=>LN a Y hs);have T0:=I (fun(D:anB a=true)=>fun Y=>KI a Y D);have F:=I (fun(D:anB a=true)=>Xx D);obtain⟨cs,aa⟩:∃cs:Array Value,cs=#[.string ⟨a.c.1.toArray⟩,.string ⟨a.c.2.toArray⟩,.int .i64 a.t,.int .i64 a.q]:=⟨_,rfl⟩;rw[<-aa] at HI X T0⊢;clear aa;have Z:=I ((Below.refl w.heap.size w).alloc Ae (.cells cs 73));have HK:=I (Blk.new w 73 cs);cases D:anB a with
 |false=>
  rw[D] at X;have E:=I (show anO a=none by unfold anO limO;rw[D];rfl);rw[E.o];clear D E T0 F hs;go_enter Tryz.func92,Tryz.ntmps92
  go_wp2_with (first
   |(refine Ac (by rfl) 73 (.tmp 1) (by rfl) w.heap.size 0 (by rfl) cs _ (Ab HK.o) Tryz.underlying73 (by rfl) HI.o ?_)
   |(go_at_call 139;refine Ag (X.o _) ?_;rintro Y O;replace Z:=Z.t O;clear O X)
   |fail)
  go_ret2
  exact Gn Z.o
 |true=>
  rw[D] at X;have T1:=I (T0.o D);have M:=F.o D;have E:=I (show anO a=some (anE a) from BA.2 ⟨D,M,rfl⟩);rw[E.o];obtain⟨l,el⟩:=Ah (anE a);rw[<-el] at T1 M⊢;have LM:=I (fun A c Y=>GN l A _ c Y rfl M);clear D E el M T0 F hs;go_enter Tryz.func92,Tryz.ntmps92
  go_wp2_with (first
   |(refine Ac (by rfl) 73 (.tmp 1) (by rfl) w.heap.size 0 (by rfl) cs _ (Ab HK.o) Tryz.underlying73 (by rfl) HI.o ?_)
   |(go_at_call 139;refine Ag (X.o _) ?_;rintro Y O;replace HK:=I (HK.o.below O);replace Z:=Z.t O;clear O X)
   |(go_at_call 140;refine Calls.mono (T1.o _) ?_;rintro e w2 ⟨⟨g,c,rfl,h2,h3,h4⟩,O⟩;have HG:=I (Ba (l:=l) ⟨⟨g,c,rfl,h2,h3,h4⟩,O⟩ Z.o);clear h2 h3 h4 O T1)
   |(go_at_call 110;refine Ag (LM.o _ _ _) ?_;rintro wy rfl;clear LM)
   |fail)
  go_ret2
  exact Ft HG.o
theorem Og (p:Rp) (w:World) (hk:p.ss.length=32) (hs:pSm p.s):Calls Tryz.prog 118 #[.agg (rpC p).toArray] w (EncR w (rpO p)):=by
 have HI:=I (show(Tryz.prog.info? 110).map (·.size)=some ((rpC p).toArray:Array Value).size by rw[Fb hk];kernel_rfl);have X:=I (fun Y=>QC p Y hk hs);have T0:=I (fun(D:rpB p=true)=>fun Y=>Of p Y hk D);have F:=I (fun(D:rpB p=true)=>Xy hk D);obtain⟨cs,aa⟩:∃cs:Array Value,cs=(rpC p).toArray:=⟨_,rfl⟩;rw[<-aa] at HI X T0⊢;clear aa;have Z:=I ((Below.refl w.heap.size w).alloc Ae (.cells cs 110));have HK:=I (Blk.new w 110 cs);cases D:rpB p with
 |false=>
  rw[D] at X;have E:=I (show rpO p=none by unfold rpO limO;rw[D];rfl);rw[E.o];clear D E T0 F hs hk;go_enter Tryz.func118,Tryz.ntmps118
  go_wp2_with (first
   |(refine Ac (by rfl) 110 (.tmp 1) (by rfl) w.heap.size 0 (by rfl) cs _ (Ab HK.o) Tryz.underlying110 (by rfl) HI.o ?_)
   |(go_at_call 167;refine Ag (X.o _) ?_;rintro Y O;replace Z:=Z.t O;clear O X)
   |fail)
  go_ret2
  exact Gn Z.o
 |true=>
  rw[D] at X;have T1:=I (T0.o D);have M:=F.o D;have E:=I (show rpO p=some (rpE p) from BA.2 ⟨D,M,rfl⟩);rw[E.o];obtain⟨l,el⟩:=Ah (rpE p);rw[<-el] at T1 M⊢;have LM:=I (fun A c Y=>GN l A _ c Y rfl M);clear D E el M T0 F hs hk;go_enter Tryz.func118,Tryz.ntmps118
  go_wp2_with (first
   |(refine Ac (by rfl) 110 (.tmp 1) (by rfl) w.heap.size 0 (by rfl) cs _ (Ab HK.o) Tryz.underlying110 (by rfl) HI.o ?_)
   |(go_at_call 167;refine Ag (X.o _) ?_;rintro Y O;replace HK:=I (HK.o.below O);replace Z:=Z.t O;clear O X)
   |(go_at_call 168;refine Calls.mono (T1.o _) ?_;rintro e w2 ⟨⟨g,c,rfl,h2,h3,h4⟩,O⟩;have HG:=I (Ba (l:=l) ⟨⟨g,c,rfl,h2,h3,h4⟩,O⟩ Z.o);clear h2 h3 h4 O T1)
   |(go_at_call 110;refine Ag (LM.o _ _ _) ?_;rintro wy rfl;clear LM)
   |fail)
  go_ret2
  exact Ft HG.o
end Mc
end Go.Proofs.YtcpccikongbopaaGreat
