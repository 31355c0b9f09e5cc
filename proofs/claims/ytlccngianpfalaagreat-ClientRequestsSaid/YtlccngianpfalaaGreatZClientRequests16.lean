import Derived.Test.YtlccngianpfalaaGreatZClientRequests10
import Derived.Test.YtlccngianpfalaaGreatZClientRequests13
set_option maxHeartbeats 25600000
set_option maxRecDepth 100000
set_option linter.unusedVariables false
set_option linter.unusedSimpArgs false
namespace Go.Proofs.YtlccngianpfalaaGreat
namespace Cl
open Go.RowKit Ae Se
open Nm (L)
open Ms (Pr)
open Ca (It Cr En Ca CO PT its)
open SeL (Ce BX Ns)
def SlN (S:Nat->Prop) (w:World) (v:Value) (l:L):Prop:=∃A c,v=.slice A l.length c/\l.length<=c/\RdA S w A (bvs l)
section
variable {S S' T:Nat->Prop} {w w':World} {v:Value} {l:L}
theorem SlN.keep (h:SlN S w v l) (Z:Chg T w w') (M:∀i,i<w.heap.size->T i->S i) (hs:∀i,i<w.heap.size->S' i->S i):SlN S' w' v l:=by
 obtain⟨A,c,O,X,Y⟩:=h;exact⟨A,c,O,X,Y.keep Z M hs⟩
theorem SlN.below (h:SlN S w v l) (M:Below w.heap.size w w'):SlN S w' v l:=h.keep (Chg.of_below (S:=fun _=>False) M) (fun _ _ x=>x.elim) (fun _ _ x=>x)
theorem SlN.mono (h:SlN S w v l) (hs:∀i,i<w.heap.size->S' i->S i):SlN S' w v l:=h.keep (Chg.refl (fun _=>False) w) (fun _ _ x=>x.elim) hs
theorem SlN.sl (h:SlN S w v l):Ms.SlB w w.heap.size v l:=by
 obtain⟨A,c,M,O,X⟩:=h;exact⟨A,c,M,O,X.rd⟩
theorem SlN.nil (S:Nat->Prop) (w:World):SlN S w (.slice none 0 0) []:=⟨none,0,rfl,Nat.le_refl _,.inl rfl⟩
theorem SlN.of_rd {B:Nat} {A:Option Addr} {c:Nat} (h:Rd w B A (bvs l)) (M:l.length<=c) (hB:B<=w.heap.size) (hs:∀i,S i->B<=i):SlN S w (.slice A l.length c) l:=⟨A,c,rfl,M,RdA.of_rd h hB hs⟩
end
structure Ss where
 b:Nat
 ks:Nat->UInt8
 h:Option Nat
 a:Nat
 o:Nat
 r:Nat
def SO (s:Option Ss) (j:Nat):Prop:=∃z,s=some z/\Ow z.b z.h j
structure CP where
 k:Nat
 b:Nat
 r:Nat
 P:Pr
 ks:Nat->UInt8
structure CM where
 v:Value
 es:List En
 h:Option Nat
 a:Nat
 o:Nat
 r:Nat
 vv:Value
 ov:Value
 x:Option Ss
 y:Option Ss
def Pt (p:CP) (m:CM):Nat->Nat->Prop
 |0,j=>j=p.k
 |1,j=>Ow p.b m.h j
 |2,j=>CO p.r m.v m.es j
 |3,j=>m.vv.ownBlock=some j
 |4,j=>SO m.x j
 |5,j=>SO m.y j
 |_,_=>False
def AO (p:CP) (m:CM) (j:Nat):Prop:=∃i,Pt p m i j
structure Pa (w:World) (B:Nat) (p:CP) (m:CM):Prop where
 dis:∀i i' j,Pt p m i j->Pt p m i' j->i=i'
 lo:∀i j,Pt p m i j->B<=j
 lt:∀i j,Pt p m i j->j<w.heap.size
 hB:B<=w.heap.size
section
variable {w w':World} {B:Nat} {p:CP} {m m':CM}
theorem Pa.grow (h:Pa w B p m) (hs:w.heap.size<=w'.heap.size):Pa w' B p m:=⟨h.dis,h.lo,fun i j M=>Nat.lt_of_lt_of_le (h.lt i j M) hs,Nat.le_trans h.hB hs⟩
theorem Pa.use (O:Nat) (h:Pa w B p m) (hs:w.heap.size<=w'.heap.size) (Y:∀j,Pt p m' O j->Pt p m O j\/w.heap.size<=j) (Z:∀j,Pt p m' O j->j<w'.heap.size) (he:∀i j,i≠O->Pt p m' i j->Pt p m i j):Pa w' B p m':=by
 refine⟨fun i i' j M X=>?_,fun i j M=>?_,fun i j M=>?_,Nat.le_trans h.hB hs⟩
 ·by_cases e:i=O
  ·by_cases e':i'=O
   ·rw[e,e']
   ·subst e
    rcases Y j M with x | x
    ·exact h.dis _ _ j x (he i' j e' X)
    ·have:=h.lt _ _ (he i' j e' X);omega
  ·by_cases e':i'=O
   ·subst e'
    rcases Y j X with x | x
    ·exact h.dis _ _ j (he i j e M) x
    ·have:=h.lt _ _ (he i j e M);omega
   ·exact h.dis _ _ j (he i j e M) (he i' j e' X)
 ·by_cases e:i=O
  ·subst e
   rcases Y j M with x | x
   ·exact h.lo _ _ x
   ·have:=h.hB;omega
  ·exact h.lo _ _ (he i j e M)
 ·by_cases e:i=O
  ·subst e;exact Z j M
  ·exact Nat.lt_of_lt_of_le (h.lt _ _ (he i j e M)) hs
end
abbrev pv (b:Nat):Value:=.pointer (some ⟨b,0,none⟩)
def OuR (p:CP) (m:CM) (s:St):Prop:=(m.ov=.pointer none/\(s.st=1->s.ou.u=0))\/(m.ov=pv p.b/\s.ou.ks=p.ks)\/∃z,m.x=some z/\m.ov=pv z.b/\s.ou.ks=z.ks
abbrev clA (p:CP) (m:CM) (s:St):Array Value:=
 #[.string ⟨p.P.1.toArray⟩,.string ⟨p.P.2.toArray⟩,pv p.b,pv p.r,.int .i64 (s.n:Int),.int .i64 (s.s:Int),.int .i64 (s.q:Int),.int .i64 s.st,.int .i64 s.er,.int .i64 s.sn,
  .string ⟨s.tg.1.toArray⟩,.string ⟨s.tg.2.toArray⟩,m.vv,.int .i64 s.ou.no,m.ov,.int .i64 s.ou.u]
def SxR (w:World) (x:Option Ss) (c:Nat):Prop:=∀z,x=some z->Box w z.b z.ks z.h z.a z.o z.r/\z.a<=c/\z.o<=c/\z.r<=c
structure Cl (w:World) (B:Nat) (p:CP) (m:CM) (s:St) (c:Nat):Prop where
 pa:Pa w B p m
 blk:Blk w p.k 88 (clA p m s)
 ca:Ca w B p.r m.v m.es
 li:its m.es=s.l
 box:Box w p.b p.ks m.h m.a m.o m.r
 bc:m.a<=c/\m.o<=c/\m.r<=c
 vis:Nm.Own w B m.vv s.vs
 sx:SxR w m.x c
 sy:SxR w m.y c
 ou:OuR p m s
section
variable {w w' w0:World} {B:Nat} {p:CP} {m m' m0:CM} {s s':St} {c c':Nat} {S:Nat->Prop}
theorem SxR.chg {x:Option Ss} (h:SxR w x c) (X:Chg S w w') (hs:∀j,SO x j->¬S j):SxR w' x c:=fun z M=>⟨(h z M).1.chg X (fun j O=>hs j ⟨z,M,O⟩),(h z M).2⟩
theorem SxR.more {x:Option Ss} (h:SxR w x c) (O:c<=c'):SxR w x c':=fun z M=>⟨(h z M).1,by have:=(h z M).2;omega⟩
theorem SxR.lt {x:Option Ss} (h:SxR w x c) {j:Nat} (M:SO x j):j<w.heap.size:=by
 obtain⟨z,O,M⟩:=M;exact(h z O).1.own_lt j M
theorem SxR.none:SxR w .none c:=fun z M=>by cases M
theorem Cl.lt (h:Cl w B p m s c) {j:Nat} (M:AO p m j):j<w.heap.size:=by
 obtain⟨i,M⟩:=M;exact h.pa.lt i j M
theorem Cl.lo (h:Cl w B p m s c) {j:Nat} (M:AO p m j):B<=j:=by
 obtain⟨i,M⟩:=M;exact h.pa.lo i j M
theorem Cf {v:Value} {ls:List L} (h:Nm.Own w B v ls) (M:Chg S w w') (hs:∀k,v.ownBlock=some k->¬S k):Nm.Own w' B v ls:=M.own h hs
theorem Cl.chg (h:Cl w B p m s c) (O:Chg S w w') (hs:∀j,AO p m j->¬S j):Cl w' B p m s c:=
 ⟨h.pa.grow O.size,O.blk h.blk (hs _ ⟨0,rfl⟩),h.ca.chg O (fun j M=>hs j ⟨2,M⟩),h.li,h.box.chg O (fun j M=>hs j ⟨1,M⟩),h.bc,Cf h.vis O (fun j M=>hs j ⟨3,M⟩),h.sx.chg O (fun j M=>hs j ⟨4,M⟩),h.sy.chg O (fun j M=>hs j ⟨5,M⟩),h.ou⟩
theorem Cl.below (h:Cl w B p m s c) (M:Below w.heap.size w w'):Cl w' B p m s c:=h.chg (S:=fun _=>False) (Chg.of_below M) (fun _ _ x=>x)
theorem Cl.more (h:Cl w B p m s c) (M:c<=c'):Cl w B p m s c':=⟨h.pa,h.blk,h.ca,h.li,h.box,by have:=h.bc;omega,h.vis,h.sx.more M,h.sy.more M,h.ou⟩
structure Tu (w0 w:World) (B:Nat) (p:CP) (m0 m:CM) (s:St) (c:Nat):Prop where
 cl:Cl w B p m s c
 chg:Chg (AO p m0) w0 w
 nw:∀j,AO p m j->AO p m0 j\/w0.heap.size<=j
theorem Tu.start (h:Cl w B p m s c) (M:Below w.heap.size w w'):Tu w w' B p m m s c:=⟨h.below M,Chg.of_below M,fun _ x=>.inl x⟩
theorem Tu.refl (h:Cl w B p m s c):Tu w w B p m m s c:=⟨h,Chg.refl _ _,fun _ x=>.inl x⟩
theorem Tu.size (h:Tu w0 w B p m0 m s c):w0.heap.size<=w.heap.size:=h.chg.size
theorem Tu.trans (h:Tu w0 w B p m0 m s c) (g:Tu w w' B p m m' s' c'):Tu w0 w' B p m0 m' s' c':=
 ⟨g.cl,h.chg.trans g.chg (fun j M x=>by
  rcases h.nw j x with y | y
  ·exact y
  ·omega),fun j M=>by
  rcases g.nw j M with y | y
  ·exact h.nw j y
  ·exact .inr (Nat.le_trans h.size y)⟩
theorem Tu.below (h:Tu w0 w B p m0 m s c) (M:Below w.heap.size w w'):Tu w0 w' B p m0 m s c:=h.trans (.start h.cl M)
theorem Tu.more (h:Tu w0 w B p m0 m s c) (M:c<=c'):Tu w0 w B p m0 m s c':=⟨h.cl.more M,h.chg,h.nw⟩
theorem Tu.blk {g:Nat} {t:TypeId} {cs:Array Value} (h:Tu w0 w B p m0 m s c) (O:Blk w0 g t cs) (M:¬AO p m0 g):Blk w g t cs:=h.chg.blk O M
theorem Tu.not {g:Nat} (h:Tu w0 w B p m0 m s c) (M:¬AO p m0 g) (O:g<w0.heap.size):¬AO p m g:=fun x=>by
 rcases h.nw g x with y | y
 ·exact M y
 ·omega
theorem Cl.fresh (h:Cl w B p m s c) {g:Nat} (M:w.heap.size<=g):¬AO p m g:=fun x=>by have:=h.lt x;omega
theorem Tu.sl {v:Value} {l:L} (h:Tu w0 w B p m0 m s c) (hs:SlN (AO p m0) w0 v l):SlN (AO p m) w v l:=
 hs.keep h.chg (fun _ _ x=>x) (fun j M x=>by
  rcases h.nw j x with y | y
  ·exact y
  ·omega)
theorem Tu.made {v:Value} {l:L} (h:Tu w0 w B p m0 m s c) (hs:SlN (fun j=>j<w.heap.size) w' v l):SlN (AO p m) w' v l:=hs.mono (fun j _ x=>h.cl.lt x)
def Out (w0:World) (p:CP) (m:CM) (j:Nat):Prop:=j<w0.heap.size\/AO p m j
theorem Tu.o {v:Value} {l:L} {a:World} (h:Tu w0 w B p m0 m s c) (O:a.heap.size<=w0.heap.size) (hs:SlN (Out a p m0) w0 v l):SlN (Out a p m) w v l:=
 hs.keep h.chg (fun _ _ x=>.inr x) (fun j M x=>by
  rcases x with x | x
  ·exact .inl x
  ·rcases h.nw j x with y | y
   ·exact .inr y
   ·omega)
theorem Out.old {v:Value} {l:L} {a b:World} (M:a.heap.size<=b.heap.size) (hs:SlN (Out b p m) w v l):SlN (Out a p m) w v l:=hs.mono (fun j _ x=>by
 rcases x with x | x
 ·exact .inl (Nat.lt_of_lt_of_le x M)
 ·exact .inr x)
theorem Tu.put (h:Tu w0 w B p m0 m s c) {g:Nat} (Y:w0.heap.size<=g) (X:¬AO p m g) (O:Chg (fun j=>j=g) w w'):Tu w0 w' B p m0 m s c:=
 ⟨h.cl.chg O (fun j M x=>X (x▸M)),h.chg.trans O (fun j M x=>by omega),h.nw⟩
theorem Cl.not (h:Cl w B p m s c) {i i' j:Nat} (O:Pt p m i j) (M:i≠i'):¬Pt p m i' j:=fun x=>M (h.pa.dis i i' j O x)
theorem Cl.cell (h:Cl w B p m s c) (M:Chg (fun j=>j=p.k) w w') (hb:Blk w' p.k 88 (clA p {m with ov:=m'.ov} s')) (Z:s'.l=s.l) (Y:s'.vs=s.vs) (ho:OuR p {m with ov:=m'.ov} s'):Tu w w' B p m {m with ov:=m'.ov} s' c:=by
 have O:∀i,i≠0->∀j,Pt p m i j->¬j=p.k:=fun i hi j X e=>h.not (i':=0) X hi e
 refine⟨⟨⟨h.pa.dis,h.pa.lo,(h.pa.grow M.size).lt,Nat.le_trans h.pa.hB M.size⟩,hb,h.ca.chg M (O 2 (by decide)),h.li.trans Z.symm,h.box.chg M (O 1 (by decide)),h.bc,?_,h.sx.chg M (O 4 (by decide)),h.sy.chg M (O 5 (by decide)),ho⟩,M.mono (fun j _ x=>⟨0,x⟩),fun j X=>.inl X⟩;show Nm.Own w' B m.vv s'.vs;rw[Y];exact Cf h.vis M (O 3 (by decide))
theorem Cl.cache (h:Cl w B p m s c) {v':Value} {es':List En} {l:List It} (O:Chg (PT p.r m.v) w w') (hk:Ca w' B p.r v' es') (X:its es'=l) (Y:∀j,CO p.r v' es' j->CO p.r m.v m.es j\/w.heap.size<=j):Tu w w' B p m {m with v:=v',es:=es'} {s with l:=l} c:=by
 have hs:∀i,i≠2->∀j,Pt p m i j->¬PT p.r m.v j:=fun i X j M e=>h.not (i':=2) M X (Ca.Wg e)
 have Z:Pa w' B p {m with v:=v',es:=es'}:=by
  refine h.pa.use 2 O.size Y (fun j M=>hk.own_lt M) (fun i j X M=>?_)
  match i,X,M with
  |0,_,M=>exact M
  |1,_,M=>exact M
  |3,_,M=>exact M
  |4,_,M=>exact M
  |5,_,M=>exact M
 refine⟨⟨Z,O.blk h.blk (hs 0 (by decide) _ rfl),hk,X,h.box.chg O (hs 1 (by decide)),h.bc,Cf h.vis O (hs 3 (by decide)),h.sx.chg O (hs 4 (by decide)),h.sy.chg O (hs 5 (by decide)),h.ou⟩,O.mono (fun j _ x=>⟨2,Ca.Wg x⟩),fun j M=>?_⟩;obtain⟨i,M⟩:=M
 match i,M with
 |0,M=>exact .inl ⟨0,M⟩
 |1,M=>exact .inl ⟨1,M⟩
 |2,M=>exact(Y j M).imp (fun x=>⟨2,x⟩) id
 |3,M=>exact .inl ⟨3,M⟩
 |4,M=>exact .inl ⟨4,M⟩
 |5,M=>exact .inl ⟨5,M⟩
theorem Ij {b:Nat} {X O:Option Nat} (hs:Dh w w' b X O) {j:Nat} (M:Ow b O j):Ow b X j\/w.heap.size<=j:=by
 rcases M with M | M
 ·exact .inl (.inl M)
 ·rcases hs.2 with e | ⟨_,g,Y,Z⟩
  ·exact .inl (.inr (e▸M))
  ·rw[Y] at M
   injection M with M;exact .inr (by omega)
theorem Cl.use_b (h:Cl w B p m s c) {X:Option Nat} {a o r:Nat} (Z:Box w' p.b p.ks X a o r) (hs:Dh w w' p.b m.h X) (h1:a<=m.a+1) (h2:o<=m.o+1) (h3:r<=m.r+1):Tu w w' B p m {m with h:=X,a:=a,o:=o,r:=r} s (c+1):=by
 have O:∀i,i≠1->∀j,Pt p m i j->¬Ow p.b m.h j:=fun i Y j M e=>h.not (i':=1) M Y e
 have hp:Pa w' B p {m with h:=X,a:=a,o:=o,r:=r}:=by
  refine h.pa.use 1 hs.1.size (fun j M=>Ij hs M) (fun j M=>Z.own_lt j M) (fun i j Y M=>?_)
  match i,Y,M with
  |0,_,M=>exact M
  |2,_,M=>exact M
  |3,_,M=>exact M
  |4,_,M=>exact M
  |5,_,M=>exact M
 have aa:=h.bc;refine⟨⟨hp,hs.1.blk h.blk (O 0 (by decide) _ rfl),h.ca.chg hs.1 (O 2 (by decide)),h.li,Z,⟨by show a<=c+1;omega,by show o<=c+1;omega,by show r<=c+1;omega⟩,Cf h.vis hs.1 (O 3 (by decide)),(h.sx.chg hs.1 (O 4 (by decide))).more (Nat.le_succ _),(h.sy.chg hs.1 (O 5 (by decide))).more (Nat.le_succ _),h.ou⟩,hs.1.mono (fun j _ x=>⟨1,x⟩),fun j M=>?_⟩;obtain⟨i,M⟩:=M
 match i,M with
 |0,M=>exact .inl ⟨0,M⟩
 |1,M=>exact(Ij hs M).imp (fun x=>⟨1,x⟩) id
 |2,M=>exact .inl ⟨2,M⟩
 |3,M=>exact .inl ⟨3,M⟩
 |4,M=>exact .inl ⟨4,M⟩
 |5,M=>exact .inl ⟨5,M⟩
theorem Cl.use_x (h:Cl w B p m s c) {z:Ss} (X:m.x=some z) {Y:Option Nat} {a o r:Nat} (hb:Box w' z.b z.ks Y a o r) (hs:Dh w w' z.b z.h Y) (h1:a<=z.a+1) (h2:o<=z.o+1) (h3:r<=z.r+1):Tu w w' B p m {m with x:=some ⟨z.b,z.ks,Y,a,o,r⟩} s (c+1):=by
 have Z:∀i,i≠4->∀j,Pt p m i j->¬Ow z.b z.h j:=fun i hi j M e=>h.not (i':=4) M hi ⟨z,X,e⟩
 have aa:∀j,SO (some ⟨z.b,z.ks,Y,a,o,r⟩) j->SO m.x j\/w.heap.size<=j:=fun j M=>by
  obtain⟨q,O,M⟩:=M;injection O with O;subst O;exact(Ij hs M).imp (fun x=>⟨z,X,x⟩) id
 have hp:Pa w' B p {m with x:=some ⟨z.b,z.ks,Y,a,o,r⟩}:=by
  refine h.pa.use 4 hs.1.size aa (fun j M=>?_) (fun i j hi M=>?_)
  ·obtain⟨q,O,M⟩:=M
   injection O with O;subst O;exact hb.own_lt j M
  ·match i,hi,M with
   |0,_,M=>exact M
   |1,_,M=>exact M
   |2,_,M=>exact M
   |3,_,M=>exact M
   |5,_,M=>exact M
 have ad:=h.bc;have ab:=(h.sx z X).2;refine⟨⟨hp,hs.1.blk h.blk (Z 0 (by decide) _ rfl),h.ca.chg hs.1 (Z 2 (by decide)),h.li,h.box.chg hs.1 (Z 1 (by decide)),⟨by show m.a<=c+1;omega,by show m.o<=c+1;omega,by show m.r<=c+1;omega⟩,Cf h.vis hs.1 (Z 3 (by decide)),fun q O=>?_,(h.sy.chg hs.1 (Z 5 (by decide))).more (Nat.le_succ _),?_⟩,hs.1.mono (fun j _ x=>⟨4,z,X,x⟩),fun j M=>?_⟩
 ·injection O with O
  subst O;exact⟨hb,by show a<=c+1;omega,by show o<=c+1;omega,by show r<=c+1;omega⟩
 ·rcases h.ou with x | x | ⟨q,O,h4,h5⟩
  ·exact .inl x
  ·exact .inr (.inl x)
  ·rw[X] at O
   injection O with O;subst O;exact .inr (.inr ⟨_,rfl,h4,h5⟩)
 ·obtain⟨i,M⟩:=M
  match i,M with
  |0,M=>exact .inl ⟨0,M⟩
  |1,M=>exact .inl ⟨1,M⟩
  |2,M=>exact .inl ⟨2,M⟩
  |3,M=>exact .inl ⟨3,M⟩
  |4,M=>exact(aa j M).imp (fun x=>⟨4,x⟩) id
  |5,M=>exact .inl ⟨5,M⟩
theorem Cl.use_y (h:Cl w B p m s c) {y':Option Ss} (O:Chg (SO m.y) w w') (hy:SxR w' y' (c+1)) (X:∀j,SO y' j->SO m.y j\/w.heap.size<=j):Tu w w' B p m {m with y:=y'} s (c+1):=by
 have Y:∀i,i≠5->∀j,Pt p m i j->¬SO m.y j:=fun i Z j M e=>h.not (i':=5) M Z e
 have hp:Pa w' B p {m with y:=y'}:=by
  refine h.pa.use 5 O.size X (fun j M=>hy.lt M) (fun i j Z M=>?_)
  match i,Z,M with
  |0,_,M=>exact M
  |1,_,M=>exact M
  |2,_,M=>exact M
  |3,_,M=>exact M
  |4,_,M=>exact M
  |5,Z,_=>exact absurd rfl Z
 have aa:=h.bc;refine⟨⟨hp,O.blk h.blk (Y 0 (by decide) _ rfl),h.ca.chg O (Y 2 (by decide)),h.li,h.box.chg O (Y 1 (by decide)),⟨by show m.a<=c+1;omega,by show m.o<=c+1;omega,by show m.r<=c+1;omega⟩,Cf h.vis O (Y 3 (by decide)),(h.sx.chg O (Y 4 (by decide))).more (Nat.le_succ _),hy,h.ou⟩,O.mono (fun j _ x=>⟨5,x⟩),fun j M=>?_⟩;obtain⟨i,M⟩:=M
 match i,M with
 |0,M=>exact .inl ⟨0,M⟩
 |1,M=>exact .inl ⟨1,M⟩
 |2,M=>exact .inl ⟨2,M⟩
 |3,M=>exact .inl ⟨3,M⟩
 |4,M=>exact .inl ⟨4,M⟩
 |5,M=>exact(X j M).imp (fun x=>⟨5,x⟩) id
theorem Cl.visit (h:Cl w B p m s c) {v':Value} {ls:List L} (O:Chg (fun j=>j=p.k\/m.vv.ownBlock=some j) w w') (Z:Blk w' p.k 88 (clA p {m with vv:=v'} {s with vs:=ls})) (X:Nm.Own w' B v' ls) (Y:∀j,v'.ownBlock=some j->m.vv.ownBlock=some j\/w.heap.size<=j):Tu w w' B p m {m with vv:=v'} {s with vs:=ls} c:=by
 have hs:∀i,i≠0->i≠3->∀j,Pt p m i j->¬(j=p.k\/m.vv.ownBlock=some j):=fun i h1 h2 j M e=>by
  rcases e with e | e
  ·exact h.not (i':=0) M h1 e
  ·exact h.not (i':=3) M h2 e
 have hp:Pa w' B p {m with vv:=v'}:=by
  refine h.pa.use 3 O.size Y (fun j M=>(X.lt j M).2) (fun i j hi M=>?_)
  match i,hi,M with
  |0,_,M=>exact M
  |1,_,M=>exact M
  |2,_,M=>exact M
  |4,_,M=>exact M
  |5,_,M=>exact M
 refine⟨⟨hp,Z,h.ca.chg O (hs 2 (by decide) (by decide)),h.li,h.box.chg O (hs 1 (by decide) (by decide)),h.bc,X,h.sx.chg O (hs 4 (by decide) (by decide)),h.sy.chg O (hs 5 (by decide) (by decide)),h.ou⟩,O.mono (fun j _ x=>by
  rcases x with x | x
  ·exact⟨0,x⟩
  ·exact⟨3,x⟩),fun j M=>?_⟩
 obtain⟨i,M⟩:=M
 match i,M with
 |0,M=>exact .inl ⟨0,M⟩
 |1,M=>exact .inl ⟨1,M⟩
 |2,M=>exact .inl ⟨2,M⟩
 |3,M=>exact(Y j M).imp (fun x=>⟨3,x⟩) id
 |4,M=>exact .inl ⟨4,M⟩
 |5,M=>exact .inl ⟨5,M⟩
end
end Cl
namespace Mc
open Go.RowKit Ae DerP DerR Ms
theorem Ik (t:UInt8) (p:L):0<(elem t p).length:=by rw[DH];omega
theorem Lk (l:L) (w:World) (X:l.length<=65535):Calls Tryz.prog 196 #[.string ⟨l.toArray⟩] w (Ci w (elem 27 l)):=
 (DerW.FT l w X).mono fun e w' h=>by obtain⟨v,rfl,M,O⟩:=h;exact Fz M (Ik _ _) O
theorem CU (n:Int) (w:World):Calls Tryz.prog 182 #[.int .i64 n] w (Ci w (encI n)):=
 (DerW.Bk n w).mono fun e w' h=>by obtain⟨v,rfl,M,O⟩:=h;exact Fz M (Ik _ _) O
theorem DN (l:L) (A:Option Addr) (n c B:Nat) (w:World) (Y:Rd w B A (bvs l)) (M:n=l.length) (hB:B<=w.heap.size) (Z:l.length<=65535):Calls Tryz.prog 184 #[.slice A n c] w (Ci w (elem 4 l)):=
 (DerW.Cq l A n c B w Y M hB Z).mono fun e w' h=>by obtain⟨v,rfl,O,X⟩:=h;exact Fz O (Ik _ _) X
theorem Df (t:UInt8) (ls:List L) (A:Option Addr) (m c B:Nat) (w:World) (Y:DerW.Rds w B A ls) (hm:m=ls.length) (hB:B<=w.heap.size) (Z:ls.flatten.length<=65535) (M:ls.length<=1000000) :
  Calls Tryz.prog 180 #[.int .u8 t.toNat,.slice A m c] w (Ci w (elem t ls.flatten)):=
 (DerW.BY t ls A m c B w Y hm hB Z M).mono fun e w' h=>by obtain⟨v,rfl,O,X⟩:=h;exact Fz O (Ik _ _) X
theorem Cn (p:Pr) (w:World) (hp:prB p=true):Calls Tryz.prog 181 #[.agg #[.string ⟨p.1.toArray⟩,.string ⟨p.2.toArray⟩]] w (Ci w (prE p)):=by
 have X:=I ((Below.refl w.heap.size w).alloc Af (.cells #[.string ⟨p.1.toArray⟩,.string ⟨p.2.toArray⟩] 35));have M:=I (Blk.new w 35 #[.string ⟨p.1.toArray⟩,.string ⟨p.2.toArray⟩]);have b1:=Ec hp;have b2:=Az 27 p.1;have b3:=Az 27 p.2;have T1:=I (fun w1=>Lk p.1 w1 (by omega));have T2:=I (fun w1=>Lk p.2 w1 (by omega));have HL:=I (show [elem 27 p.1,elem 27 p.2].flatten.length<=65535 by rw[Db];simp only[List.length_append];omega);have HE:=I (show prE p=elem 48 [elem 27 p.1,elem 27 p.2].flatten from rfl);obtain⟨l1,aa⟩:∃l,l=elem 27 p.1:=⟨_,rfl⟩;obtain⟨l2,ah⟩:∃l,l=elem 27 p.2:=⟨_,rfl⟩;rw[<-aa] at T1 HL HE;rw[<-ah] at T2 HL HE;rw[HE.o,Db];clear HE aa ah b1 b2 b3 hp;go_enter Tryz.func181,Tryz.ntmps181
 go_wp2
 obtain⟨W,eW⟩:=Aj (w.alloc (.cells #[.string ⟨p.1.toArray⟩,.string ⟨p.2.toArray⟩] 35));rw[<-eW] at X M⊢;clear eW;replace M:=I (show Blk W.drew _ _ _ from M.o.drewN 1);replace X:=I (show Below _ _ W.drew from below_drewN X.o 1)
 go_region_held3 (fun w'=>w'.cell? ⟨w.heap.size,0,none⟩=some (.string ⟨p.1.toArray⟩)/\w'.cell? ⟨w.heap.size,1,none⟩=some (.string ⟨p.2.toArray⟩)) (first | exact⟨M.o.cell 0,M.o.cell 1⟩ | exact⟨(M.o.alloc _).cell 0,(M.o.alloc _).cell 1⟩) ((first
  |(go_at_call 196;(with_reducible refine Calls.mono (T1.o _) ?_);rintro e w1 ⟨⟨g1,c1,rfl,ak,al,ad⟩,O⟩;clear T1;have Y:=I ad;replace M:=I (M.o.below O);replace X:=X.t O;clear O ad ak al)
  |(go_at_call 196;(with_reducible refine Calls.mono (T2.o _) ?_);rintro e w2 ⟨⟨g2,c2,rfl,an,aj,ae⟩,O⟩;clear T2;replace Y:=I (AR Y.o O);have ai:=I ae;replace M:=I (M.o.below O);replace X:=X.t O;clear O ae an aj)
  |(go_at_call 180;refine Calls.mono (Df 48 [l1,l2] _ 2 2 (w2.heap.size+1) _ (Hj Y.o ai.o) rfl (by simp) HL.o (by simp)) ?_;rintro e wz ⟨⟨gz,cz,rfl,af,ag,ab⟩,O⟩;have Z:=(Below.refl w2.heap.size w2).alloc Af (.cells #[.slice (some ⟨g1,0,none⟩) l1.length c1,.slice (some ⟨g2,0,none⟩) l2.length c2] 24);have HG:=I (Ba (l:=elem 48 [l1,l2].flatten) ⟨⟨gz,cz,rfl,af,ag,ab⟩,O⟩ (X.o.trans (Z.mono X.o.size)));rw[Db] at HG;replace M:=I ((M.o.alloc (.cells #[.slice (some ⟨g1,0,none⟩) l1.length c1,.slice (some ⟨g2,0,none⟩) l2.length c2] 24)).below O);clear Z af ag ab O)))
 go_wp2
 go_ret;exact HG.o
theorem EE (t:Tk) (A:Option Addr) (c:Nat) (w:World) (ht:tkB t=true) (hr:Rd w w.heap.size A (bvs t.b)):Calls Tryz.prog 183 #[.agg #[.string ⟨t.s.1.toArray⟩,.string ⟨t.s.2.toArray⟩,.int .i64 t.k,.slice A t.b.length c]] w (Ci w (tkE t)):=by
 have X:=I ((Below.refl w.heap.size w).alloc Af (.cells #[.string ⟨t.s.1.toArray⟩,.string ⟨t.s.2.toArray⟩,.int .i64 t.k,.slice A t.b.length c] 51));have M:=I (Blk.new w 51 #[.string ⟨t.s.1.toArray⟩,.string ⟨t.s.2.toArray⟩,.int .i64 t.k,.slice A t.b.length c]);have hp:=DS ht;have b1:=(AV hp.1).1;have b2:=AE t.k;have b3:=Az 4 t.b;have T1:=I (fun Z=>Cn t.s Z hp.1);have T2:=I (fun Z=>CU t.k Z);have T3:=I (fun Z (h:Below w.heap.size w Z)=>DN t.b A t.b.length c Z.heap.size Z ((hr.below h).more h.size) rfl Af (by omega));have HL:=I (show [prE t.s,encI t.k,elem 4 t.b].flatten.length<=65535 by rw[Dn];simp only[List.length_append];omega);have HE:=I (show tkE t=elem 97 [prE t.s,encI t.k,elem 4 t.b].flatten from rfl);obtain⟨l1,ad⟩:∃l,l=prE t.s:=⟨_,rfl⟩;obtain⟨l2,al⟩:∃l,l=encI t.k:=⟨_,rfl⟩;obtain⟨l3,ak⟩:∃l,l=elem 4 t.b:=⟨_,rfl⟩;rw[<-ad] at T1 HL HE;rw[<-al] at T2 HL HE;rw[<-ak] at T3 HL HE;rw[HE.o,Dn];clear HE ad al ak hp b1 b2 b3 ht hr;go_enter Tryz.func183,Tryz.ntmps183
 go_wp2
 obtain⟨W,eW⟩:=Aj (w.alloc (.cells #[.string ⟨t.s.1.toArray⟩,.string ⟨t.s.2.toArray⟩,.int .i64 t.k,.slice A t.b.length c] 51));rw[<-eW] at X M⊢;clear eW;replace M:=I (show Blk W.drew _ _ _ from M.o.drewN 1);replace X:=I (show Below _ _ W.drew from below_drewN X.o 1)
 go_region_held3 (fun w'=>w'.cell? ⟨w.heap.size,0,none⟩=some (.string ⟨t.s.1.toArray⟩)/\w'.cell? ⟨w.heap.size,1,none⟩=some (.string ⟨t.s.2.toArray⟩)/\w'.cell? ⟨w.heap.size,2,none⟩=some (.int .i64 t.k)/\w'.cell? ⟨w.heap.size,3,none⟩=some (.slice A t.b.length c)) (first | exact⟨M.o.cell 0,M.o.cell 1,M.o.cell 2,M.o.cell 3⟩ | exact⟨(M.o.alloc _).cell 0,(M.o.alloc _).cell 1,(M.o.alloc _).cell 2,(M.o.alloc _).cell 3⟩) ((first
  |(go_at_call 181;(with_reducible refine Calls.mono (T1.o _) ?_);rintro e Z ⟨⟨g1,c1,rfl,av,aw,af⟩,O⟩;clear T1;have Y:=I af;replace M:=I (M.o.below O);replace X:=X.t O;clear O af av aw)
  |(go_at_call 182;(with_reducible refine Calls.mono (T2.o _) ?_);rintro e w2 ⟨⟨g2,c2,rfl,ax,au,ag⟩,O⟩;clear T2;replace Y:=I (AR Y.o O);have aa:=I ag;replace M:=I (M.o.below O);replace X:=X.t O;clear O ag ax au)
  |(go_at_call 184;(with_reducible refine Calls.mono (T3.o _ X.o) ?_);rintro e w3 ⟨⟨g3,c3,rfl,ar,an,ai⟩,O⟩;clear T3;replace Y:=I (AR Y.o O);replace aa:=I (AR aa.o O);have ao:=I ai;replace M:=I (M.o.below O);replace X:=X.t O;clear O ai ar an)
  |(go_at_call 180;refine Calls.mono (Df 97 [l1,l2,l3] _ 3 3 (w3.heap.size+1) _ (Ej Y.o aa.o ao.o) rfl (by simp) HL.o (by simp)) ?_;rintro e wz ⟨⟨gz,cz,rfl,ah,aj,ae⟩,O⟩;have ab:=(Below.refl w3.heap.size w3).alloc Af (.cells #[.slice (some ⟨g1,0,none⟩) l1.length c1,.slice (some ⟨g2,0,none⟩) l2.length c2,.slice (some ⟨g3,0,none⟩) l3.length c3] 24);have HG:=I (Ba (l:=elem 97 [l1,l2,l3].flatten) ⟨⟨gz,cz,rfl,ah,aj,ae⟩,O⟩ (X.o.trans (ab.mono X.o.size)));rw[Dn] at HG;replace M:=I ((M.o.alloc (.cells #[.slice (some ⟨g1,0,none⟩) l1.length c1,.slice (some ⟨g2,0,none⟩) l2.length c2,.slice (some ⟨g3,0,none⟩) l3.length c3] 24)).below O);clear ab ah aj ae O)))
 go_wp2
 go_ret;exact HG.o
theorem Ll (a:An) (w:World) (ha:anB a=true):Calls Tryz.prog 165 #[.agg #[.string ⟨a.c.1.toArray⟩,.string ⟨a.c.2.toArray⟩,.int .i64 a.t,.int .i64 a.q]] w (Ci w (anE a)):=by
 have X:=I ((Below.refl w.heap.size w).alloc Af (.cells #[.string ⟨a.c.1.toArray⟩,.string ⟨a.c.2.toArray⟩,.int .i64 a.t,.int .i64 a.q] 68));have M:=I (Blk.new w 68 #[.string ⟨a.c.1.toArray⟩,.string ⟨a.c.2.toArray⟩,.int .i64 a.t,.int .i64 a.q]);have hp:prB a.c=true/\tmB a.t=true/\tmB a.q=true:=by simpa [anB] using ha
 have b1:=(AV hp.1).1;have b2:=AE a.t;have b3:=AE a.q;have T1:=I (fun w1=>Cn a.c w1 hp.1);have T2:=I (fun w1=>CU a.t w1);have T3:=I (fun w1=>CU a.q w1);have HL:=I (show [prE a.c,encI a.t,encI a.q].flatten.length<=65535 by rw[Dn];simp only[List.length_append];omega);have HE:=I (show anE a=elem 98 [prE a.c,encI a.t,encI a.q].flatten from rfl);obtain⟨l1,ab⟩:∃l,l=prE a.c:=⟨_,rfl⟩;obtain⟨l2,ak⟩:∃l,l=encI a.t:=⟨_,rfl⟩;obtain⟨l3,aj⟩:∃l,l=encI a.q:=⟨_,rfl⟩;rw[<-ab] at T1 HL HE;rw[<-ak] at T2 HL HE;rw[<-aj] at T3 HL HE;rw[HE.o,Dn];clear HE ab ak aj hp b1 b2 b3 ha;go_enter Tryz.func165,Tryz.ntmps165
 go_wp2
 obtain⟨W,eW⟩:=Aj (w.alloc (.cells #[.string ⟨a.c.1.toArray⟩,.string ⟨a.c.2.toArray⟩,.int .i64 a.t,.int .i64 a.q] 68));rw[<-eW] at X M⊢;clear eW;replace M:=I (show Blk W.drew _ _ _ from M.o.drewN 1);replace X:=I (show Below _ _ W.drew from below_drewN X.o 1)
 go_region_held3 (fun w'=>w'.cell? ⟨w.heap.size,0,none⟩=some (.string ⟨a.c.1.toArray⟩)/\w'.cell? ⟨w.heap.size,1,none⟩=some (.string ⟨a.c.2.toArray⟩)/\w'.cell? ⟨w.heap.size,2,none⟩=some (.int .i64 a.t)/\w'.cell? ⟨w.heap.size,3,none⟩=some (.int .i64 a.q)) (first | exact⟨M.o.cell 0,M.o.cell 1,M.o.cell 2,M.o.cell 3⟩ | exact⟨(M.o.alloc _).cell 0,(M.o.alloc _).cell 1,(M.o.alloc _).cell 2,(M.o.alloc _).cell 3⟩) ((first
  |(go_at_call 181;(with_reducible refine Calls.mono (T1.o _) ?_);rintro e w1 ⟨⟨g1,c1,rfl,au,av,ae⟩,O⟩;clear T1;have Y:=I ae;replace M:=I (M.o.below O);replace X:=X.t O;clear O ae au av)
  |(go_at_call 182;(with_reducible refine Calls.mono (T2.o _) ?_);rintro e w2 ⟨⟨g2,c2,rfl,aw,ar,af⟩,O⟩;clear T2;replace Y:=I (AR Y.o O);have Z:=I af;replace M:=I (M.o.below O);replace X:=X.t O;clear O af aw ar)
  |(go_at_call 182;(with_reducible refine Calls.mono (T3.o _) ?_);rintro e w3 ⟨⟨g3,c3,rfl,ao,al,ah⟩,O⟩;clear T3;replace Y:=I (AR Y.o O);replace Z:=I (AR Z.o O);have an:=I ah;replace M:=I (M.o.below O);replace X:=X.t O;clear O ah ao al)
  |(go_at_call 180;refine Calls.mono (Df 98 [l1,l2,l3] _ 3 3 (w3.heap.size+1) _ (Ej Y.o Z.o an.o) rfl (by simp) HL.o (by simp)) ?_;rintro e wz ⟨⟨gz,cz,rfl,ag,ai,ad⟩,O⟩;have aa:=(Below.refl w3.heap.size w3).alloc Af (.cells #[.slice (some ⟨g1,0,none⟩) l1.length c1,.slice (some ⟨g2,0,none⟩) l2.length c2,.slice (some ⟨g3,0,none⟩) l3.length c3] 24);have HG:=I (Ba (l:=elem 98 [l1,l2,l3].flatten) ⟨⟨gz,cz,rfl,ag,ai,ad⟩,O⟩ (X.o.trans (aa.mono X.o.size)));rw[Dn] at HG;replace M:=I ((M.o.alloc (.cells #[.slice (some ⟨g1,0,none⟩) l1.length c1,.slice (some ⟨g2,0,none⟩) l2.length c2,.slice (some ⟨g3,0,none⟩) l3.length c3] 24)).below O);clear aa ag ai ad O)))
 go_wp2
 go_ret;exact HG.o
theorem Ri (q:As) (w:World) (ha:asB q=true):Calls Tryz.prog 145 #[.agg #[.string ⟨q.c.1.toArray⟩,.string ⟨q.c.2.toArray⟩,.string ⟨q.s.1.toArray⟩,.string ⟨q.s.2.toArray⟩,.int .i64 q.t,.int .i64 q.no]] w (Ci w (asE q)):=by
 have Y:=I ((Below.refl w.heap.size w).alloc Af (.cells #[.string ⟨q.c.1.toArray⟩,.string ⟨q.c.2.toArray⟩,.string ⟨q.s.1.toArray⟩,.string ⟨q.s.2.toArray⟩,.int .i64 q.t,.int .i64 q.no] 49));have M:=I (Blk.new w 49 #[.string ⟨q.c.1.toArray⟩,.string ⟨q.c.2.toArray⟩,.string ⟨q.s.1.toArray⟩,.string ⟨q.s.2.toArray⟩,.int .i64 q.t,.int .i64 q.no]);have hp:prB q.c=true/\prB q.s=true/\tmB q.t=true/\tmB q.no=true:=by simpa [asB] using ha
 have b1:=(AV hp.1).1;have b2:=(AV hp.2.1).1;have b3:=AE q.t;have b4:=AE q.no;have T1:=I (fun w1=>Cn q.c w1 hp.1);have T2:=I (fun w1=>Cn q.s w1 hp.2.1);have T3:=I (fun w1=>CU q.t w1);have T4:=I (fun w1=>CU q.no w1);have HL:=I (show [prE q.c,prE q.s,encI q.t,encI q.no].flatten.length<=65535 by rw[Ja];simp only[List.length_append];omega);have HE:=I (show asE q=elem 106 [prE q.c,prE q.s,encI q.t,encI q.no].flatten from rfl);obtain⟨l1,ab⟩:∃l,l=prE q.c:=⟨_,rfl⟩;obtain⟨l2,aj⟩:∃l,l=prE q.s:=⟨_,rfl⟩;obtain⟨l3,ao⟩:∃l,l=encI q.t:=⟨_,rfl⟩;obtain⟨l4,an⟩:∃l,l=encI q.no:=⟨_,rfl⟩;rw[<-ab] at T1 HL HE;rw[<-aj] at T2 HL HE;rw[<-ao] at T3 HL HE;rw[<-an] at T4 HL HE;rw[HE.o,Ja];clear HE ab aj ao an hp b1 b2 b3 b4 ha;go_enter Tryz.func145,Tryz.ntmps145
 go_wp2
 obtain⟨W,eW⟩:=Aj (w.alloc (.cells #[.string ⟨q.c.1.toArray⟩,.string ⟨q.c.2.toArray⟩,.string ⟨q.s.1.toArray⟩,.string ⟨q.s.2.toArray⟩,.int .i64 q.t,.int .i64 q.no] 49));rw[<-eW] at Y M⊢;clear eW;replace M:=I (show Blk W.drew _ _ _ from M.o.drewN 1);replace Y:=I (show Below _ _ W.drew from below_drewN Y.o 1)
 go_region_held3 (fun w'=>w'.cell? ⟨w.heap.size,0,none⟩=some (.string ⟨q.c.1.toArray⟩)/\w'.cell? ⟨w.heap.size,1,none⟩=some (.string ⟨q.c.2.toArray⟩)/\w'.cell? ⟨w.heap.size,2,none⟩=some (.string ⟨q.s.1.toArray⟩)/\w'.cell? ⟨w.heap.size,3,none⟩=some (.string ⟨q.s.2.toArray⟩)/\w'.cell? ⟨w.heap.size,4,none⟩=some (.int .i64 q.t)/\w'.cell? ⟨w.heap.size,5,none⟩=some (.int .i64 q.no)) (first | exact⟨M.o.cell 0,M.o.cell 1,M.o.cell 2,M.o.cell 3,M.o.cell 4,M.o.cell 5⟩ | exact⟨(M.o.alloc _).cell 0,(M.o.alloc _).cell 1,(M.o.alloc _).cell 2,(M.o.alloc _).cell 3,(M.o.alloc _).cell 4,(M.o.alloc _).cell 5⟩) ((first
  |(go_at_call 181;(with_reducible refine Calls.mono (T1.o _) ?_);rintro e w1 ⟨⟨g1,c1,rfl,aB,ax,ad⟩,O⟩;clear T1;have X:=I ad;replace M:=I (M.o.below O);replace Y:=Y.t O;clear O ad aB ax)
  |(go_at_call 181;(with_reducible refine Calls.mono (T2.o _) ?_);rintro e w2 ⟨⟨g2,c2,rfl,ay,aw,ae⟩,O⟩;clear T2;replace X:=I (AR X.o O);have Z:=I ae;replace M:=I (M.o.below O);replace Y:=Y.t O;clear O ae ay aw)
  |(go_at_call 182;(with_reducible refine Calls.mono (T3.o _) ?_);rintro e w3 ⟨⟨g3,c3,rfl,av,ar,ah⟩,O⟩;clear T3;replace X:=I (AR X.o O);replace Z:=I (AR Z.o O);have aa:=I ah;replace M:=I (M.o.below O);replace Y:=Y.t O;clear O ah av ar)
  |(go_at_call 182;(with_reducible refine Calls.mono (T4.o _) ?_);rintro e w4 ⟨⟨g4,c4,rfl,aA,au,af⟩,O⟩;clear T4;replace X:=I (AR X.o O);replace Z:=I (AR Z.o O);replace aa:=I (AR aa.o O);have az:=I af;replace M:=I (M.o.below O);replace Y:=Y.t O;clear O af aA au)
  |(go_at_call 180;refine Calls.mono (Df 106 [l1,l2,l3,l4] _ 4 4 (w4.heap.size+1) _ (Nr X.o Z.o aa.o az.o) rfl (by simp) HL.o (by simp)) ?_;rintro e wz ⟨⟨gz,cz,rfl,ag,ai,al⟩,O⟩;have ak:=(Below.refl w4.heap.size w4).alloc Af (.cells #[.slice (some ⟨g1,0,none⟩) l1.length c1,.slice (some ⟨g2,0,none⟩) l2.length c2,.slice (some ⟨g3,0,none⟩) l3.length c3,.slice (some ⟨g4,0,none⟩) l4.length c4] 24);have HG:=I (Ba (l:=elem 106 [l1,l2,l3,l4].flatten) ⟨⟨gz,cz,rfl,ag,ai,al⟩,O⟩ (Y.o.trans (ak.mono Y.o.size)));rw[Ja] at HG;replace M:=I ((M.o.alloc (.cells #[.slice (some ⟨g1,0,none⟩) l1.length c1,.slice (some ⟨g2,0,none⟩) l2.length c2,.slice (some ⟨g3,0,none⟩) l3.length c3,.slice (some ⟨g4,0,none⟩) l4.length c4] 24)).below O);clear ak ag ai al O)))
 go_wp2
 go_ret;exact HG.o
theorem Rj (q:Tg) (A1 A2:Option Addr) (c1 c2:Nat) (w:World) (ha:tgB q=true) (aa:Rd w w.heap.size A1 (bvs q.t.b)) (ab:Rd w w.heap.size A2 (bvs q.a)):Calls Tryz.prog 146 #[.agg #[.string ⟨q.t.s.1.toArray⟩,.string ⟨q.t.s.2.toArray⟩,.int .i64 q.t.k,.slice A1 q.t.b.length c1,.slice A2 q.a.length c2,.string ⟨q.s.1.toArray⟩,.string ⟨q.s.2.toArray⟩,.int .i64 q.u,.int .i64 q.no]] w (Ci w (tgE q)):=by
 have Y:=I ((Below.refl w.heap.size w).alloc Af (.cells #[.string ⟨q.t.s.1.toArray⟩,.string ⟨q.t.s.2.toArray⟩,.int .i64 q.t.k,.slice A1 q.t.b.length c1,.slice A2 q.a.length c2,.string ⟨q.s.1.toArray⟩,.string ⟨q.s.2.toArray⟩,.int .i64 q.u,.int .i64 q.no] 53));have M:=I (Blk.new w 53 #[.string ⟨q.t.s.1.toArray⟩,.string ⟨q.t.s.2.toArray⟩,.int .i64 q.t.k,.slice A1 q.t.b.length c1,.slice A2 q.a.length c2,.string ⟨q.s.1.toArray⟩,.string ⟨q.s.2.toArray⟩,.int .i64 q.u,.int .i64 q.no]);have hp:tkB q.t=true/\Bv q.a=true/\prB q.s=true/\tmB q.u=true/\tmB q.no=true:=by simpa [tgB] using ha
 have b1:=(BU hp.1).1;have b2:=Az 4 q.a;have b3:=(AV hp.2.2.1).1;have b4:=AE q.u;have b5:=AE q.no;have b6:=Bd hp.2.1;have T1:=I (fun w1 (h:Below w.heap.size w w1)=>EE q.t A1 c1 w1 hp.1 ((aa.below h).more h.size));have T2:=I (fun w1 (h:Below w.heap.size w w1)=>DN q.a A2 q.a.length c2 w1.heap.size w1 ((ab.below h).more h.size) rfl Af (by omega));have T3:=I (fun w1=>Cn q.s w1 hp.2.2.1);have T4:=I (fun w1=>CU q.u w1);have T5:=I (fun w1=>CU q.no w1);have HL:=I (show [tkE q.t,elem 4 q.a,prE q.s,encI q.u,encI q.no].flatten.length<=65535 by rw[Eo];simp only[List.length_append];omega);have HE:=I (show tgE q=elem 108 [tkE q.t,elem 4 q.a,prE q.s,encI q.u,encI q.no].flatten from rfl);obtain⟨l1,af⟩:∃l,l=tkE q.t:=⟨_,rfl⟩;obtain⟨l2,an⟩:∃l,l=elem 4 q.a:=⟨_,rfl⟩;obtain⟨l3,av⟩:∃l,l=prE q.s:=⟨_,rfl⟩;obtain⟨l4,au⟩:∃l,l=encI q.u:=⟨_,rfl⟩;obtain⟨l5,ai⟩:∃l,l=encI q.no:=⟨_,rfl⟩;rw[<-af] at T1 HL HE;rw[<-an] at T2 HL HE;rw[<-av] at T3 HL HE;rw[<-au] at T4 HL HE;rw[<-ai] at T5 HL HE;rw[HE.o,Eo];clear HE af an av au ai hp b1 b2 b3 b4 b5 b6 ha aa ab;go_enter Tryz.func146,Tryz.ntmps146
 go_wp2
 obtain⟨W,eW⟩:=Aj (w.alloc (.cells #[.string ⟨q.t.s.1.toArray⟩,.string ⟨q.t.s.2.toArray⟩,.int .i64 q.t.k,.slice A1 q.t.b.length c1,.slice A2 q.a.length c2,.string ⟨q.s.1.toArray⟩,.string ⟨q.s.2.toArray⟩,.int .i64 q.u,.int .i64 q.no] 53));rw[<-eW] at Y M⊢;clear eW;replace M:=I (show Blk W.drew _ _ _ from M.o.drewN 1);replace Y:=I (show Below _ _ W.drew from below_drewN Y.o 1)
 go_region_held3 (fun w'=>w'.cell? ⟨w.heap.size,0,none⟩=some (.string ⟨q.t.s.1.toArray⟩)/\w'.cell? ⟨w.heap.size,1,none⟩=some (.string ⟨q.t.s.2.toArray⟩)/\w'.cell? ⟨w.heap.size,2,none⟩=some (.int .i64 q.t.k)/\w'.cell? ⟨w.heap.size,3,none⟩=some (.slice A1 q.t.b.length c1)/\w'.cell? ⟨w.heap.size,4,none⟩=some (.slice A2 q.a.length c2)/\w'.cell? ⟨w.heap.size,5,none⟩=some (.string ⟨q.s.1.toArray⟩)/\w'.cell? ⟨w.heap.size,6,none⟩=some (.string ⟨q.s.2.toArray⟩)/\w'.cell? ⟨w.heap.size,7,none⟩=some (.int .i64 q.u)/\w'.cell? ⟨w.heap.size,8,none⟩=some (.int .i64 q.no)) (first | exact⟨M.o.cell 0,M.o.cell 1,M.o.cell 2,M.o.cell 3,M.o.cell 4,M.o.cell 5,M.o.cell 6,M.o.cell 7,M.o.cell 8⟩ | exact⟨(M.o.alloc _).cell 0,(M.o.alloc _).cell 1,(M.o.alloc _).cell 2,(M.o.alloc _).cell 3,(M.o.alloc _).cell 4,(M.o.alloc _).cell 5,(M.o.alloc _).cell 6,(M.o.alloc _).cell 7,(M.o.alloc _).cell 8⟩) ((first
  |(go_at_call 183;(with_reducible refine Calls.mono (T1.o _ Y.o) ?_);rintro e w1 ⟨⟨g1,c1,rfl,aG,aC,aa⟩,O⟩;clear T1;have X:=I aa;replace M:=I (M.o.below O);replace Y:=Y.t O;clear O aa aG aC)
  |(go_at_call 184;(with_reducible refine Calls.mono (T2.o _ Y.o) ?_);rintro e w2 ⟨⟨g2,c2,rfl,aD,aA,ab⟩,O⟩;clear T2;replace X:=I (AR X.o O);have Z:=I ab;replace M:=I (M.o.below O);replace Y:=Y.t O;clear O ab aD aA)
  |(go_at_call 181;(with_reducible refine Calls.mono (T3.o _) ?_);rintro e w3 ⟨⟨g3,c3,rfl,az,aw,aj⟩,O⟩;clear T3;replace X:=I (AR X.o O);replace Z:=I (AR Z.o O);have ad:=I aj;replace M:=I (M.o.below O);replace Y:=Y.t O;clear O aj az aw)
  |(go_at_call 182;(with_reducible refine Calls.mono (T4.o _) ?_);rintro e w4 ⟨⟨g4,c4,rfl,aE,ax,ag⟩,O⟩;clear T4;replace X:=I (AR X.o O);replace Z:=I (AR Z.o O);replace ad:=I (AR ad.o O);have ae:=I ag;replace M:=I (M.o.below O);replace Y:=Y.t O;clear O ag aE ax)
  |(go_at_call 182;(with_reducible refine Calls.mono (T5.o _) ?_);rintro e w5 ⟨⟨g5,c5,rfl,aF,ay,al⟩,O⟩;clear T5;replace X:=I (AR X.o O);replace Z:=I (AR Z.o O);replace ad:=I (AR ad.o O);replace ae:=I (AR ae.o O);have aB:=I al;replace M:=I (M.o.below O);replace Y:=Y.t O;clear O al aF ay)
  |(go_at_call 180;refine Calls.mono (Df 108 [l1,l2,l3,l4,l5] _ 5 5 (w5.heap.size+1) _ (GN X.o Z.o ad.o ae.o aB.o) rfl (by simp) HL.o (by simp)) ?_;rintro e wz ⟨⟨gz,cz,rfl,ah,ak,ar⟩,O⟩;have ao:=(Below.refl w5.heap.size w5).alloc Af (.cells #[.slice (some ⟨g1,0,none⟩) l1.length c1,.slice (some ⟨g2,0,none⟩) l2.length c2,.slice (some ⟨g3,0,none⟩) l3.length c3,.slice (some ⟨g4,0,none⟩) l4.length c4,.slice (some ⟨g5,0,none⟩) l5.length c5] 24);have HG:=I (Ba (l:=elem 108 [l1,l2,l3,l4,l5].flatten) ⟨⟨gz,cz,rfl,ah,ak,ar⟩,O⟩ (Y.o.trans (ao.mono Y.o.size)));rw[Eo] at HG;replace M:=I ((M.o.alloc (.cells #[.slice (some ⟨g1,0,none⟩) l1.length c1,.slice (some ⟨g2,0,none⟩) l2.length c2,.slice (some ⟨g3,0,none⟩) l3.length c3,.slice (some ⟨g4,0,none⟩) l4.length c4,.slice (some ⟨g5,0,none⟩) l5.length c5] 24)).below O);clear ao ah ak ar O)))
 go_wp2
 go_ret;exact HG.o
theorem Rk (q:Re) (A1 A2:Option Addr) (c1 c2:Nat) (w:World) (ha:reB q=true) (Y:Rd w w.heap.size A1 (bvs q.t.b)) (Z:Rd w w.heap.size A2 (bvs q.b)):Calls Tryz.prog 147 #[.agg #[.string ⟨q.c.1.toArray⟩,.string ⟨q.c.2.toArray⟩,.string ⟨q.t.s.1.toArray⟩,.string ⟨q.t.s.2.toArray⟩,.int .i64 q.t.k,.slice A1 q.t.b.length c1,.slice A2 q.b.length c2]] w (Ci w (reE q)):=by
 have X:=I ((Below.refl w.heap.size w).alloc Af (.cells #[.string ⟨q.c.1.toArray⟩,.string ⟨q.c.2.toArray⟩,.string ⟨q.t.s.1.toArray⟩,.string ⟨q.t.s.2.toArray⟩,.int .i64 q.t.k,.slice A1 q.t.b.length c1,.slice A2 q.b.length c2] 55));have M:=I (Blk.new w 55 #[.string ⟨q.c.1.toArray⟩,.string ⟨q.c.2.toArray⟩,.string ⟨q.t.s.1.toArray⟩,.string ⟨q.t.s.2.toArray⟩,.int .i64 q.t.k,.slice A1 q.t.b.length c1,.slice A2 q.b.length c2]);have hp:prB q.c=true/\tkB q.t=true/\Bv q.b=true:=by simpa [reB] using ha
 have b1:=(AV hp.1).1;have b2:=(BU hp.2.1).1;have b3:=Az 4 q.b;have b6:=Bd hp.2.2;have T1:=I (fun w1=>Cn q.c w1 hp.1);have T2:=I (fun w1 (h:Below w.heap.size w w1)=>EE q.t A1 c1 w1 hp.2.1 ((Y.below h).more h.size));have T3:=I (fun w1 (h:Below w.heap.size w w1)=>DN q.b A2 q.b.length c2 w1.heap.size w1 ((Z.below h).more h.size) rfl Af (by omega));have HL:=I (show [prE q.c,tkE q.t,elem 4 q.b].flatten.length<=65535 by rw[Dn];simp only[List.length_append];omega);have HE:=I (show reE q=elem 107 [prE q.c,tkE q.t,elem 4 q.b].flatten from rfl);obtain⟨l1,ae⟩:∃l,l=prE q.c:=⟨_,rfl⟩;obtain⟨l2,ak⟩:∃l,l=tkE q.t:=⟨_,rfl⟩;obtain⟨l3,aj⟩:∃l,l=elem 4 q.b:=⟨_,rfl⟩;rw[<-ae] at T1 HL HE;rw[<-ak] at T2 HL HE;rw[<-aj] at T3 HL HE;rw[HE.o,Dn];clear HE ae ak aj hp b1 b2 b3 b6 ha Y Z;go_enter Tryz.func147,Tryz.ntmps147
 go_wp2
 obtain⟨W,eW⟩:=Aj (w.alloc (.cells #[.string ⟨q.c.1.toArray⟩,.string ⟨q.c.2.toArray⟩,.string ⟨q.t.s.1.toArray⟩,.string ⟨q.t.s.2.toArray⟩,.int .i64 q.t.k,.slice A1 q.t.b.length c1,.slice A2 q.b.length c2] 55));rw[<-eW] at X M⊢;clear eW;replace M:=I (show Blk W.drew _ _ _ from M.o.drewN 1);replace X:=I (show Below _ _ W.drew from below_drewN X.o 1)
 go_region_held3 (fun w'=>w'.cell? ⟨w.heap.size,0,none⟩=some (.string ⟨q.c.1.toArray⟩)/\w'.cell? ⟨w.heap.size,1,none⟩=some (.string ⟨q.c.2.toArray⟩)/\w'.cell? ⟨w.heap.size,2,none⟩=some (.string ⟨q.t.s.1.toArray⟩)/\w'.cell? ⟨w.heap.size,3,none⟩=some (.string ⟨q.t.s.2.toArray⟩)/\w'.cell? ⟨w.heap.size,4,none⟩=some (.int .i64 q.t.k)/\w'.cell? ⟨w.heap.size,5,none⟩=some (.slice A1 q.t.b.length c1)/\w'.cell? ⟨w.heap.size,6,none⟩=some (.slice A2 q.b.length c2)) (first | exact⟨M.o.cell 0,M.o.cell 1,M.o.cell 2,M.o.cell 3,M.o.cell 4,M.o.cell 5,M.o.cell 6⟩ | exact⟨(M.o.alloc _).cell 0,(M.o.alloc _).cell 1,(M.o.alloc _).cell 2,(M.o.alloc _).cell 3,(M.o.alloc _).cell 4,(M.o.alloc _).cell 5,(M.o.alloc _).cell 6⟩) ((first
  |(go_at_call 181;(with_reducible refine Calls.mono (T1.o _) ?_);rintro e w1 ⟨⟨g1,c1,rfl,au,av,Y⟩,O⟩;clear T1;have aa:=I Y;replace M:=I (M.o.below O);replace X:=X.t O;clear O Y au av)
  |(go_at_call 183;(with_reducible refine Calls.mono (T2.o _ X.o) ?_);rintro e w2 ⟨⟨g2,c2,rfl,aw,ar,Z⟩,O⟩;clear T2;replace aa:=I (AR aa.o O);have ab:=I Z;replace M:=I (M.o.below O);replace X:=X.t O;clear O Z aw ar)
  |(go_at_call 184;(with_reducible refine Calls.mono (T3.o _ X.o) ?_);rintro e w3 ⟨⟨g3,c3,rfl,ao,al,ah⟩,O⟩;clear T3;replace aa:=I (AR aa.o O);replace ab:=I (AR ab.o O);have an:=I ah;replace M:=I (M.o.below O);replace X:=X.t O;clear O ah ao al)
  |(go_at_call 180;refine Calls.mono (Df 107 [l1,l2,l3] _ 3 3 (w3.heap.size+1) _ (Ej aa.o ab.o an.o) rfl (by simp) HL.o (by simp)) ?_;rintro e wz ⟨⟨gz,cz,rfl,ag,ai,af⟩,O⟩;have ad:=(Below.refl w3.heap.size w3).alloc Af (.cells #[.slice (some ⟨g1,0,none⟩) l1.length c1,.slice (some ⟨g2,0,none⟩) l2.length c2,.slice (some ⟨g3,0,none⟩) l3.length c3] 24);have HG:=I (Ba (l:=elem 107 [l1,l2,l3].flatten) ⟨⟨gz,cz,rfl,ag,ai,af⟩,O⟩ (X.o.trans (ad.mono X.o.size)));rw[Dn] at HG;replace M:=I ((M.o.alloc (.cells #[.slice (some ⟨g1,0,none⟩) l1.length c1,.slice (some ⟨g2,0,none⟩) l2.length c2,.slice (some ⟨g3,0,none⟩) l3.length c3] 24)).below O);clear ad ag ai af O)))
 go_wp2
 go_ret;exact HG.o
theorem Rl (q:Ap) (A1 A2:Option Addr) (c1 c2:Nat) (w:World) (ha:apB q=true) (X:Rd w w.heap.size A1 (bvs q.t.b)) (Y:Rd w w.heap.size A2 (bvs q.a)):Calls Tryz.prog 148 #[.agg #[.string ⟨q.t.s.1.toArray⟩,.string ⟨q.t.s.2.toArray⟩,.int .i64 q.t.k,.slice A1 q.t.b.length c1,.slice A2 q.a.length c2]] w (Ci w (apE q)):=by
 have Z:=I ((Below.refl w.heap.size w).alloc Af (.cells #[.string ⟨q.t.s.1.toArray⟩,.string ⟨q.t.s.2.toArray⟩,.int .i64 q.t.k,.slice A1 q.t.b.length c1,.slice A2 q.a.length c2] 57));have M:=I (Blk.new w 57 #[.string ⟨q.t.s.1.toArray⟩,.string ⟨q.t.s.2.toArray⟩,.int .i64 q.t.k,.slice A1 q.t.b.length c1,.slice A2 q.a.length c2]);have hp:tkB q.t=true/\Bv q.a=true:=by simpa [apB] using ha
 have b2:=(BU hp.1).1;have b3:=Az 4 q.a;have b6:=Bd hp.2;have T1:=I (fun w1 (h:Below w.heap.size w w1)=>EE q.t A1 c1 w1 hp.1 ((X.below h).more h.size));have T2:=I (fun w1 (h:Below w.heap.size w w1)=>DN q.a A2 q.a.length c2 w1.heap.size w1 ((Y.below h).more h.size) rfl Af (by omega));have HL:=I (show [tkE q.t,elem 4 q.a].flatten.length<=65535 by rw[Db];simp only[List.length_append];omega);have HE:=I (show apE q=elem 110 [tkE q.t,elem 4 q.a].flatten from rfl);obtain⟨l1,ad⟩:∃l,l=tkE q.t:=⟨_,rfl⟩;obtain⟨l2,ah⟩:∃l,l=elem 4 q.a:=⟨_,rfl⟩;rw[<-ad] at T1 HL HE;rw[<-ah] at T2 HL HE;rw[HE.o,Db];clear HE ad ah hp b2 b3 b6 ha X Y;go_enter Tryz.func148,Tryz.ntmps148
 go_wp2
 obtain⟨W,eW⟩:=Aj (w.alloc (.cells #[.string ⟨q.t.s.1.toArray⟩,.string ⟨q.t.s.2.toArray⟩,.int .i64 q.t.k,.slice A1 q.t.b.length c1,.slice A2 q.a.length c2] 57));rw[<-eW] at Z M⊢;clear eW;replace M:=I (show Blk W.drew _ _ _ from M.o.drewN 1);replace Z:=I (show Below _ _ W.drew from below_drewN Z.o 1)
 go_region_held3 (fun w'=>w'.cell? ⟨w.heap.size,0,none⟩=some (.string ⟨q.t.s.1.toArray⟩)/\w'.cell? ⟨w.heap.size,1,none⟩=some (.string ⟨q.t.s.2.toArray⟩)/\w'.cell? ⟨w.heap.size,2,none⟩=some (.int .i64 q.t.k)/\w'.cell? ⟨w.heap.size,3,none⟩=some (.slice A1 q.t.b.length c1)/\w'.cell? ⟨w.heap.size,4,none⟩=some (.slice A2 q.a.length c2)) (first | exact⟨M.o.cell 0,M.o.cell 1,M.o.cell 2,M.o.cell 3,M.o.cell 4⟩ | exact⟨(M.o.alloc _).cell 0,(M.o.alloc _).cell 1,(M.o.alloc _).cell 2,(M.o.alloc _).cell 3,(M.o.alloc _).cell 4⟩) ((first
  |(go_at_call 183;(with_reducible refine Calls.mono (T1.o _ Z.o) ?_);rintro e w1 ⟨⟨g1,c1,rfl,ak,al,X⟩,O⟩;clear T1;have aa:=I X;replace M:=I (M.o.below O);replace Z:=Z.t O;clear O X ak al)
  |(go_at_call 184;(with_reducible refine Calls.mono (T2.o _ Z.o) ?_);rintro e w2 ⟨⟨g2,c2,rfl,an,aj,Y⟩,O⟩;clear T2;replace aa:=I (AR aa.o O);have ai:=I Y;replace M:=I (M.o.below O);replace Z:=Z.t O;clear O Y an aj)
  |(go_at_call 180;refine Calls.mono (Df 110 [l1,l2] _ 2 2 (w2.heap.size+1) _ (Hj aa.o ai.o) rfl (by simp) HL.o (by simp)) ?_;rintro e wz ⟨⟨gz,cz,rfl,af,ag,ae⟩,O⟩;have ab:=(Below.refl w2.heap.size w2).alloc Af (.cells #[.slice (some ⟨g1,0,none⟩) l1.length c1,.slice (some ⟨g2,0,none⟩) l2.length c2] 24);have HG:=I (Ba (l:=elem 110 [l1,l2].flatten) ⟨⟨gz,cz,rfl,af,ag,ae⟩,O⟩ (Z.o.trans (ab.mono Z.o.size)));rw[Db] at HG;replace M:=I ((M.o.alloc (.cells #[.slice (some ⟨g1,0,none⟩) l1.length c1,.slice (some ⟨g2,0,none⟩) l2.length c2] 24)).below O);clear ab af ag ae O)))
 go_wp2
 go_ret;exact HG.o
theorem Rm (q:Fa) (w:World):Calls Tryz.prog 149 #[.agg #[.int .i64 q.e,.int .i64 q.no]] w (Ci w (faE q)):=by
 have X:=I ((Below.refl w.heap.size w).alloc Af (.cells #[.int .i64 q.e,.int .i64 q.no] 59));have M:=I (Blk.new w 59 #[.int .i64 q.e,.int .i64 q.no]);have b1:=AE q.e;have b2:=AE q.no;have T1:=I (fun w1=>CU q.e w1);have T2:=I (fun w1=>CU q.no w1);have HL:=I (show [encI q.e,encI q.no].flatten.length<=65535 by rw[Db];simp only[List.length_append];omega);have HE:=I (show faE q=elem 126 [encI q.e,encI q.no].flatten from rfl);obtain⟨l1,aa⟩:∃l,l=encI q.e:=⟨_,rfl⟩;obtain⟨l2,ah⟩:∃l,l=encI q.no:=⟨_,rfl⟩;rw[<-aa] at T1 HL HE;rw[<-ah] at T2 HL HE;rw[HE.o,Db];clear HE aa ah b1 b2;go_enter Tryz.func149,Tryz.ntmps149
 go_wp2
 obtain⟨W,eW⟩:=Aj (w.alloc (.cells #[.int .i64 q.e,.int .i64 q.no] 59));rw[<-eW] at X M⊢;clear eW;replace M:=I (show Blk W.drew _ _ _ from M.o.drewN 1);replace X:=I (show Below _ _ W.drew from below_drewN X.o 1)
 go_region_held3 (fun w'=>w'.cell? ⟨w.heap.size,0,none⟩=some (.int .i64 q.e)/\w'.cell? ⟨w.heap.size,1,none⟩=some (.int .i64 q.no)) (first | exact⟨M.o.cell 0,M.o.cell 1⟩ | exact⟨(M.o.alloc _).cell 0,(M.o.alloc _).cell 1⟩) ((first
  |(go_at_call 182;(with_reducible refine Calls.mono (T1.o _) ?_);rintro e w1 ⟨⟨g1,c1,rfl,ak,al,ad⟩,O⟩;clear T1;have Y:=I ad;replace M:=I (M.o.below O);replace X:=X.t O;clear O ad ak al)
  |(go_at_call 182;(with_reducible refine Calls.mono (T2.o _) ?_);rintro e w2 ⟨⟨g2,c2,rfl,an,aj,ae⟩,O⟩;clear T2;replace Y:=I (AR Y.o O);have ai:=I ae;replace M:=I (M.o.below O);replace X:=X.t O;clear O ae an aj)
  |(go_at_call 180;refine Calls.mono (Df 126 [l1,l2] _ 2 2 (w2.heap.size+1) _ (Hj Y.o ai.o) rfl (by simp) HL.o (by simp)) ?_;rintro e wz ⟨⟨gz,cz,rfl,af,ag,ab⟩,O⟩;have Z:=(Below.refl w2.heap.size w2).alloc Af (.cells #[.slice (some ⟨g1,0,none⟩) l1.length c1,.slice (some ⟨g2,0,none⟩) l2.length c2] 24);have HG:=I (Ba (l:=elem 126 [l1,l2].flatten) ⟨⟨gz,cz,rfl,af,ag,ab⟩,O⟩ (X.o.trans (Z.mono X.o.size)));rw[Db] at HG;replace M:=I ((M.o.alloc (.cells #[.slice (some ⟨g1,0,none⟩) l1.length c1,.slice (some ⟨g2,0,none⟩) l2.length c2] 24)).below O);clear Z af ag ab O)))
 go_wp2
 go_ret;exact HG.o
theorem OQ (p:Rp) (w:World) (hk:p.ss.length=32) (hx:rpB p=true):Calls Tryz.prog 156 #[.agg (rpC p).toArray] w (Ci w (rpE p)):=by
 have HI:=I (show(Tryz.prog.info? 104).map (·.size)=some (rpC p).toArray.size by rw[FE hk];kernel_rfl);have CF:=I (show ∀w':World,Blk w' w.heap.size 104 (rpC p).toArray->w'.cell? ⟨w.heap.size,32,none⟩=some (.string ⟨p.s.1.toArray⟩)/\w'.cell? ⟨w.heap.size,33,none⟩=some (.string ⟨p.s.2.toArray⟩)/\w'.cell? ⟨w.heap.size,34,none⟩=some (.int .i64 p.st)/\w'.cell? ⟨w.heap.size,35,none⟩=some (.int .i64 p.en)/\w'.cell? ⟨w.heap.size,36,none⟩=some (.int .i64 p.no) from fun w' h=>FU hk h);have T1:=I (fun w1 (h:Blk w1 w.heap.size 104 (rpC p).toArray)=>DN p.ss (some ⟨w.heap.size,0,none⟩) 32 32 w1.heap.size w1 (UZ hk h) hk.symm Af (by omega));obtain⟨cs,aj⟩:=Aj ((rpC p).toArray);rw[<-aj] at HI CF T1⊢;clear aj;have Y:=I ((Below.refl w.heap.size w).alloc Af (.cells cs 104));have X:=I (Blk.new w 104 cs);have hp:prB p.s=true:=(show prB p.s=true/\tmB p.st=true/\tmB p.en=true/\tmB p.no=true by simpa [rpB] using hx).1;have b1:=(AV hp).1;have b2:=AE p.st;have b3:=AE p.en;have b4:=AE p.no;have b5:=Az 4 p.ss;have T2:=I (fun w1=>Cn p.s w1 hp);have T3:=I (fun w1=>CU p.st w1);have T4:=I (fun w1=>CU p.en w1);have T5:=I (fun w1=>CU p.no w1);have HL:=I (show [elem 4 p.ss,prE p.s,encI p.st,encI p.en,encI p.no].flatten.length<=65535 by rw[Eo];simp only[List.length_append];omega);have HE:=I (show rpE p=elem 122 [elem 4 p.ss,prE p.s,encI p.st,encI p.en,encI p.no].flatten from rfl);obtain⟨l1,ad⟩:∃l,l=elem 4 p.ss:=⟨_,rfl⟩;obtain⟨l2,ao⟩:∃l,l=prE p.s:=⟨_,rfl⟩;obtain⟨l3,aw⟩:∃l,l=encI p.st:=⟨_,rfl⟩;obtain⟨l4,av⟩:∃l,l=encI p.en:=⟨_,rfl⟩;obtain⟨l5,ai⟩:∃l,l=encI p.no:=⟨_,rfl⟩;rw[<-ad] at T1 HL HE;rw[<-ao] at T2 HL HE;rw[<-aw] at T3 HL HE;rw[<-av] at T4 HL HE;rw[<-ai] at T5 HL HE;rw[HE.o,Eo];clear HE ad ao aw av ai hp b1 b2 b3 b4 b5 hk hx;go_enter Tryz.func156,Tryz.ntmps156
 go_wp2
 obtain⟨W,eW⟩:=Aj (w.alloc (.cells cs 104));rw[<-eW] at Y X⊢;clear eW;replace X:=I (show Blk W.drew _ _ _ from X.o.drewN 1);replace Y:=I (show Below _ _ W.drew from below_drewN Y.o 1)
 go_region_held3 (fun w'=>w'.cell? ⟨w.heap.size,32,none⟩=some (.string ⟨p.s.1.toArray⟩)/\w'.cell? ⟨w.heap.size,33,none⟩=some (.string ⟨p.s.2.toArray⟩)/\w'.cell? ⟨w.heap.size,34,none⟩=some (.int .i64 p.st)/\w'.cell? ⟨w.heap.size,35,none⟩=some (.int .i64 p.en)/\w'.cell? ⟨w.heap.size,36,none⟩=some (.int .i64 p.no)) (first | exact CF.o _ X.o | exact CF.o _ (X.o.alloc _)) ((first
  |(go_at_call 184;(with_reducible refine Calls.mono (T1.o _ X.o) ?_);rintro e w1 ⟨⟨g1,c1,rfl,aH,aD,ae⟩,M⟩;clear T1;have O:=I ae;replace X:=I (X.o.below M);replace Y:=Y.t M;clear M ae aH aD)
  |(go_at_call 181;(with_reducible refine Calls.mono (T2.o _) ?_);rintro e w2 ⟨⟨g2,c2,rfl,aE,aB,af⟩,M⟩;clear T2;replace O:=I (AR O.o M);have Z:=I af;replace X:=I (X.o.below M);replace Y:=Y.t M;clear M af aE aB)
  |(go_at_call 182;(with_reducible refine Calls.mono (T3.o _) ?_);rintro e w3 ⟨⟨g3,c3,rfl,aA,ax,ak⟩,M⟩;clear T3;replace O:=I (AR O.o M);replace Z:=I (AR Z.o M);have aa:=I ak;replace X:=I (X.o.below M);replace Y:=Y.t M;clear M ak aA ax)
  |(go_at_call 182;(with_reducible refine Calls.mono (T4.o _) ?_);rintro e w4 ⟨⟨g4,c4,rfl,aF,ay,ag⟩,M⟩;clear T4;replace O:=I (AR O.o M);replace Z:=I (AR Z.o M);replace aa:=I (AR aa.o M);have ab:=I ag;replace X:=I (X.o.below M);replace Y:=Y.t M;clear M ag aF ay)
  |(go_at_call 182;(with_reducible refine Calls.mono (T5.o _) ?_);rintro e w5 ⟨⟨g5,c5,rfl,aG,az,an⟩,M⟩;clear T5;replace O:=I (AR O.o M);replace Z:=I (AR Z.o M);replace aa:=I (AR aa.o M);replace ab:=I (AR ab.o M);have aC:=I an;replace X:=I (X.o.below M);replace Y:=Y.t M;clear M an aG az)
  |(go_at_call 180;refine Calls.mono (Df 122 [l1,l2,l3,l4,l5] _ 5 5 (w5.heap.size+1) _ (GN O.o Z.o aa.o ab.o aC.o) rfl (by simp) HL.o (by simp)) ?_;rintro e wz ⟨⟨gz,cz,rfl,ah,al,au⟩,M⟩;have ar:=(Below.refl w5.heap.size w5).alloc Af (.cells #[.slice (some ⟨g1,0,none⟩) l1.length c1,.slice (some ⟨g2,0,none⟩) l2.length c2,.slice (some ⟨g3,0,none⟩) l3.length c3,.slice (some ⟨g4,0,none⟩) l4.length c4,.slice (some ⟨g5,0,none⟩) l5.length c5] 24);have HG:=I (Ba (l:=elem 122 [l1,l2,l3,l4,l5].flatten) ⟨⟨gz,cz,rfl,ah,al,au⟩,M⟩ (Y.o.trans (ar.mono Y.o.size)));rw[Eo] at HG;replace X:=I ((X.o.alloc (.cells #[.slice (some ⟨g1,0,none⟩) l1.length c1,.slice (some ⟨g2,0,none⟩) l2.length c2,.slice (some ⟨g3,0,none⟩) l3.length c3,.slice (some ⟨g4,0,none⟩) l4.length c4,.slice (some ⟨g5,0,none⟩) l5.length c5] 24)).below M);clear ar ah al au M)))
 go_wp2
 go_ret;exact HG.o
end Mc
namespace Mc
open Go.RowKit Ae DerP Ms
theorem AS (p:Pr) (w:World) (M:p.1.length<=1000000000) (O:p.2.length<=1000000000):Calls Tryz.prog 46 #[prV p] w fun e w'=>e=.returned (.bool (prB p))/\Below w.heap.size w w':=Nm.AS p.1 p.2 w M O
theorem Ek (n a b:Int) (w:World):Calls Tryz.prog 179 #[.int .i64 n,.int .i64 a,.int .i64 b] w fun e w'=>e=.returned (.bool (inB n a b))/\w=w':=by
 cases h1:decide (a<=n) with
 |false=>
  go_enter Tryz.func179,Tryz.ntmps179
  go_wp2
  go_ret;exact⟨by rw[inB,h1];rfl,rfl⟩
 |true=>
  go_enter Tryz.func179,Tryz.ntmps179
  go_wp2
  go_ret;exact⟨by rw[inB,h1];rfl,rfl⟩
theorem GP (n:Int) (w:World):Calls Tryz.prog 175 #[.int .i64 n] w fun e w'=>e=.returned (.bool (tmB n))/\w=w':=by
 have c1:=Ek n 0 1073741824 w;rw[show inB n 0 1073741824=tmB n from rfl] at c1;go_enter Tryz.func175,Tryz.ntmps175
 go_wp2_with (go_at_call 179;refine Ah c1 ?_;rintro M rfl)
 go_ret;exact⟨rfl,rfl⟩
theorem FF (n:Int) (w:World):Calls Tryz.prog 176 #[.int .i64 n] w fun e w'=>e=.returned (.bool (tmB n))/\w=w':=by
 have c1:=Ek n 0 1073741824 w;rw[show inB n 0 1073741824=tmB n from rfl] at c1;go_enter Tryz.func176,Tryz.ntmps176
 go_wp2_with (go_at_call 179;refine Ah c1 ?_;rintro M rfl)
 go_ret;exact⟨rfl,rfl⟩
theorem FW (b:L) (A:Option Addr) (c:Nat) (w:World):Calls Tryz.prog 178 #[.slice A b.length c] w fun e w'=>e=.returned (.bool (Bv b))/\w=w':=by
 have c1:=Ek (b.length:Int) 1 800 w;rw[QZ] at c1;go_enter Tryz.func178,Tryz.ntmps178
 go_wp2_with (go_at_call 179;refine Ah c1 ?_;rintro M rfl)
 go_ret;exact⟨rfl,rfl⟩
theorem FG (t:Tk) (A:Option Addr) (c:Nat) (w:World) (hs:pSm t.s):Calls Tryz.prog 177 #[.agg #[.string ⟨t.s.1.toArray⟩,.string ⟨t.s.2.toArray⟩,.int .i64 t.k,.slice A t.b.length c]] w fun e w'=>e=.returned (.bool (tkB t))/\Below w.heap.size w w':=by
 have aa:=(Below.refl w.heap.size w).alloc Af (.cells #[.string ⟨t.s.1.toArray⟩,.string ⟨t.s.2.toArray⟩,.int .i64 t.k,.slice A t.b.length c] 51);have X:=I aa;have M:=I (Blk.new w 51 #[.string ⟨t.s.1.toArray⟩,.string ⟨t.s.2.toArray⟩,.int .i64 t.k,.slice A t.b.length c]);clear aa;have Y:=I (fun w1=>AS t.s w1 hs.1 hs.2);have T2:=I (fun w1=>Ek t.k 1 255 w1);have T3:=I (fun w1=>FW t.b A c w1);cases h1:prB t.s with
 |false=>
  rw[h1] at Y;have E:=I (show tkB t=false by rw[tkB,h1];rfl);clear h1;go_enter Tryz.func177,Tryz.ntmps177
  go_wp2_with (go_at_call 46;(with_reducible refine Calls.mono (Y.o _) ?_);rintro e w1 ⟨rfl,O⟩;replace M:=I (M.o.below O);replace X:=X.t O;clear O Y;(try clear Z k1 k2 k3);have Z:=M.o.cell 0;have k1:=M.o.cell 1;have k2:=M.o.cell 2;have k3:=M.o.cell 3;simp only[List.getElem?_toArray,List.getElem?_cons_zero,List.getElem?_cons_succ] at Z k1 k2 k3)
  go_ret;exact⟨by rw[E.o];rfl,X.o⟩
 |true=>
  rw[h1] at Y;cases h2:inB t.k 1 255 with
  |false=>
   rw[h2] at T2;have E:=I (show tkB t=false by rw[tkB,h1,h2];rfl);clear h1 h2;go_enter Tryz.func177,Tryz.ntmps177
   go_wp2_with (first
    |(go_at_call 46;(with_reducible refine Calls.mono (Y.o _) ?_);rintro e w1 ⟨rfl,O⟩;replace M:=I (M.o.below O);replace X:=X.t O;clear O Y;(try clear Z k1 k2 k3);have Z:=M.o.cell 0;have k1:=M.o.cell 1;have k2:=M.o.cell 2;have k3:=M.o.cell 3;simp only[List.getElem?_toArray,List.getElem?_cons_zero,List.getElem?_cons_succ] at Z k1 k2 k3)
    |(go_at_call 179;(with_reducible refine Calls.mono (T2.o _) ?_);rintro e w2 ⟨rfl,hw⟩;subst hw;clear T2))
   go_ret;exact⟨by rw[E.o];rfl,X.o⟩
  |true=>
   rw[h2] at T2;have E:=I (show tkB t=Bv t.b by rw[tkB,h1,h2];rfl);clear h1 h2;go_enter Tryz.func177,Tryz.ntmps177
   go_wp2_with (first
    |(go_at_call 46;(with_reducible refine Calls.mono (Y.o _) ?_);rintro e w1 ⟨rfl,O⟩;replace M:=I (M.o.below O);replace X:=X.t O;clear O Y;(try clear Z k1 k2 k3);have Z:=M.o.cell 0;have k1:=M.o.cell 1;have k2:=M.o.cell 2;have k3:=M.o.cell 3;simp only[List.getElem?_toArray,List.getElem?_cons_zero,List.getElem?_cons_succ] at Z k1 k2 k3)
    |(go_at_call 179;(with_reducible refine Calls.mono (T2.o _) ?_);rintro e w2 ⟨rfl,hw⟩;subst hw;clear T2)
    |(go_at_call 178;(with_reducible refine Calls.mono (T3.o _) ?_);rintro e w3 ⟨rfl,hw⟩;subst hw;clear T3))
   go_ret;exact⟨by rw[E.o];rfl,X.o⟩
theorem Mt (a:An) (w:World) (hs:pSm a.c):Calls Tryz.prog 164 #[.agg #[.string ⟨a.c.1.toArray⟩,.string ⟨a.c.2.toArray⟩,.int .i64 a.t,.int .i64 a.q]] w fun e w'=>e=.returned (.bool (anB a))/\Below w.heap.size w w':=by
 have aa:=(Below.refl w.heap.size w).alloc Af (.cells #[.string ⟨a.c.1.toArray⟩,.string ⟨a.c.2.toArray⟩,.int .i64 a.t,.int .i64 a.q] 68);have X:=I aa;have M:=I (Blk.new w 68 #[.string ⟨a.c.1.toArray⟩,.string ⟨a.c.2.toArray⟩,.int .i64 a.t,.int .i64 a.q]);clear aa;have Y:=I (fun w1=>AS a.c w1 hs.1 hs.2);have T2:=I (fun w1=>GP a.t w1);have T3:=I (fun w1=>FF a.q w1);cases h1:prB a.c with
 |false=>
  rw[h1] at Y;have E:=I (show anB a=false by rw[anB,h1];rfl);clear h1;go_enter Tryz.func164,Tryz.ntmps164
  go_wp2_with (go_at_call 46;(with_reducible refine Calls.mono (Y.o _) ?_);rintro e w1 ⟨rfl,O⟩;replace M:=I (M.o.below O);replace X:=X.t O;clear O Y;(try clear Z k1 k2 k3);have Z:=M.o.cell 0;have k1:=M.o.cell 1;have k2:=M.o.cell 2;have k3:=M.o.cell 3;simp only[List.getElem?_toArray,List.getElem?_cons_zero,List.getElem?_cons_succ] at Z k1 k2 k3)
  go_ret;exact⟨by rw[E.o];rfl,X.o⟩
 |true=>
  rw[h1] at Y;cases h2:tmB a.t with
  |false=>
   rw[h2] at T2;have E:=I (show anB a=false by rw[anB,h1,h2];rfl);clear h1 h2;go_enter Tryz.func164,Tryz.ntmps164
   go_wp2_with (first
    |(go_at_call 46;(with_reducible refine Calls.mono (Y.o _) ?_);rintro e w1 ⟨rfl,O⟩;replace M:=I (M.o.below O);replace X:=X.t O;clear O Y;(try clear Z k1 k2 k3);have Z:=M.o.cell 0;have k1:=M.o.cell 1;have k2:=M.o.cell 2;have k3:=M.o.cell 3;simp only[List.getElem?_toArray,List.getElem?_cons_zero,List.getElem?_cons_succ] at Z k1 k2 k3)
    |(go_at_call 175;(with_reducible refine Calls.mono (T2.o _) ?_);rintro e w2 ⟨rfl,hw⟩;subst hw;clear T2))
   go_ret;exact⟨by rw[E.o];rfl,X.o⟩
  |true=>
   rw[h2] at T2;have E:=I (show anB a=tmB a.q by rw[anB,h1,h2];rfl);clear h1 h2;go_enter Tryz.func164,Tryz.ntmps164
   go_wp2_with (first
    |(go_at_call 46;(with_reducible refine Calls.mono (Y.o _) ?_);rintro e w1 ⟨rfl,O⟩;replace M:=I (M.o.below O);replace X:=X.t O;clear O Y;(try clear Z k1 k2 k3);have Z:=M.o.cell 0;have k1:=M.o.cell 1;have k2:=M.o.cell 2;have k3:=M.o.cell 3;simp only[List.getElem?_toArray,List.getElem?_cons_zero,List.getElem?_cons_succ] at Z k1 k2 k3)
    |(go_at_call 175;(with_reducible refine Calls.mono (T2.o _) ?_);rintro e w2 ⟨rfl,hw⟩;subst hw;clear T2)
    |(go_at_call 176;(with_reducible refine Calls.mono (T3.o _) ?_);rintro e w3 ⟨rfl,hw⟩;subst hw;clear T3))
   go_ret;exact⟨by rw[E.o];rfl,X.o⟩
theorem TI (q:As) (w:World) (hs:pSm q.c) (aa:pSm q.s):Calls Tryz.prog 140 #[.agg #[.string ⟨q.c.1.toArray⟩,.string ⟨q.c.2.toArray⟩,.string ⟨q.s.1.toArray⟩,.string ⟨q.s.2.toArray⟩,.int .i64 q.t,.int .i64 q.no]] w fun e w'=>e=.returned (.bool (asB q))/\Below w.heap.size w w':=by
 have ab:=(Below.refl w.heap.size w).alloc Af (.cells #[.string ⟨q.c.1.toArray⟩,.string ⟨q.c.2.toArray⟩,.string ⟨q.s.1.toArray⟩,.string ⟨q.s.2.toArray⟩,.int .i64 q.t,.int .i64 q.no] 49);have HB:=I ab;have M:=I (Blk.new w 49 #[.string ⟨q.c.1.toArray⟩,.string ⟨q.c.2.toArray⟩,.string ⟨q.s.1.toArray⟩,.string ⟨q.s.2.toArray⟩,.int .i64 q.t,.int .i64 q.no]);clear ab;have T1:=I (fun w1=>AS q.c w1 hs.1 hs.2);have T2:=I (fun w1=>AS q.s w1 aa.1 aa.2);have T3:=I (fun w1=>GP q.t w1);have T4:=I (fun w1=>FF q.no w1);cases h1:prB q.c with
 |false=>
  rw[h1] at T1;have E:=I (show asB q=false by rw[asB,h1];rfl);clear h1;go_enter Tryz.func140,Tryz.ntmps140
  go_wp2_with (go_at_call 46;(with_reducible refine Calls.mono (T1.o _) ?_);rintro e w1 ⟨rfl,O⟩;replace M:=I (M.o.below O);replace HB:=HB.t O;clear O T1;(try clear X k1 k2 Z Y k5);have X:=M.o.cell 0;have k1:=M.o.cell 1;have k2:=M.o.cell 2;have Z:=M.o.cell 3;have Y:=M.o.cell 4;have k5:=M.o.cell 5;simp only[List.getElem?_toArray,List.getElem?_cons_zero,List.getElem?_cons_succ] at X k1 k2 Z Y k5)
  go_ret;exact⟨by rw[E.o];rfl,HB.o⟩
 |true=>
  rw[h1] at T1;cases h2:prB q.s with
  |false=>
   rw[h2] at T2;have E:=I (show asB q=false by rw[asB,h1,h2];rfl);clear h1 h2;go_enter Tryz.func140,Tryz.ntmps140
   go_wp2_with (first
    |(go_at_call 46;(with_reducible refine Calls.mono (T1.o _) ?_);rintro e w1 ⟨rfl,O⟩;replace M:=I (M.o.below O);replace HB:=HB.t O;clear O T1;(try clear X k1 k2 Z Y k5);have X:=M.o.cell 0;have k1:=M.o.cell 1;have k2:=M.o.cell 2;have Z:=M.o.cell 3;have Y:=M.o.cell 4;have k5:=M.o.cell 5;simp only[List.getElem?_toArray,List.getElem?_cons_zero,List.getElem?_cons_succ] at X k1 k2 Z Y k5)
    |(go_at_call 46;(with_reducible refine Calls.mono (T2.o _) ?_);rintro e w2 ⟨rfl,O⟩;replace M:=I (M.o.below O);replace HB:=HB.t O;clear O T2;(try clear X k1 k2 Z Y k5);have X:=M.o.cell 0;have k1:=M.o.cell 1;have k2:=M.o.cell 2;have Z:=M.o.cell 3;have Y:=M.o.cell 4;have k5:=M.o.cell 5;simp only[List.getElem?_toArray,List.getElem?_cons_zero,List.getElem?_cons_succ] at X k1 k2 Z Y k5))
   go_ret;exact⟨by rw[E.o];rfl,HB.o⟩
  |true=>
   rw[h2] at T2;cases h3:tmB q.t with
   |false=>
    rw[h3] at T3;have E:=I (show asB q=false by rw[asB,h1,h2,h3];rfl);clear h1 h2 h3;go_enter Tryz.func140,Tryz.ntmps140
    go_wp2_with (first
     |(go_at_call 46;(with_reducible refine Calls.mono (T1.o _) ?_);rintro e w1 ⟨rfl,O⟩;replace M:=I (M.o.below O);replace HB:=HB.t O;clear O T1;(try clear X k1 k2 Z Y k5);have X:=M.o.cell 0;have k1:=M.o.cell 1;have k2:=M.o.cell 2;have Z:=M.o.cell 3;have Y:=M.o.cell 4;have k5:=M.o.cell 5;simp only[List.getElem?_toArray,List.getElem?_cons_zero,List.getElem?_cons_succ] at X k1 k2 Z Y k5)
     |(go_at_call 46;(with_reducible refine Calls.mono (T2.o _) ?_);rintro e w2 ⟨rfl,O⟩;replace M:=I (M.o.below O);replace HB:=HB.t O;clear O T2;(try clear X k1 k2 Z Y k5);have X:=M.o.cell 0;have k1:=M.o.cell 1;have k2:=M.o.cell 2;have Z:=M.o.cell 3;have Y:=M.o.cell 4;have k5:=M.o.cell 5;simp only[List.getElem?_toArray,List.getElem?_cons_zero,List.getElem?_cons_succ] at X k1 k2 Z Y k5)
     |(go_at_call 175;(with_reducible refine Calls.mono (T3.o _) ?_);rintro e w3 ⟨rfl,hw⟩;subst hw;clear T3))
    go_ret;exact⟨by rw[E.o];rfl,HB.o⟩
   |true=>
    rw[h3] at T3;have E:=I (show asB q=tmB q.no by rw[asB,h1,h2,h3];rfl);clear h1 h2 h3;go_enter Tryz.func140,Tryz.ntmps140
    go_wp2_with (first
     |(go_at_call 46;(with_reducible refine Calls.mono (T1.o _) ?_);rintro e w1 ⟨rfl,O⟩;replace M:=I (M.o.below O);replace HB:=HB.t O;clear O T1;(try clear X k1 k2 Z Y k5);have X:=M.o.cell 0;have k1:=M.o.cell 1;have k2:=M.o.cell 2;have Z:=M.o.cell 3;have Y:=M.o.cell 4;have k5:=M.o.cell 5;simp only[List.getElem?_toArray,List.getElem?_cons_zero,List.getElem?_cons_succ] at X k1 k2 Z Y k5)
     |(go_at_call 46;(with_reducible refine Calls.mono (T2.o _) ?_);rintro e w2 ⟨rfl,O⟩;replace M:=I (M.o.below O);replace HB:=HB.t O;clear O T2;(try clear X k1 k2 Z Y k5);have X:=M.o.cell 0;have k1:=M.o.cell 1;have k2:=M.o.cell 2;have Z:=M.o.cell 3;have Y:=M.o.cell 4;have k5:=M.o.cell 5;simp only[List.getElem?_toArray,List.getElem?_cons_zero,List.getElem?_cons_succ] at X k1 k2 Z Y k5)
     |(go_at_call 175;(with_reducible refine Calls.mono (T3.o _) ?_);rintro e w3 ⟨rfl,hw⟩;subst hw;clear T3)
     |(go_at_call 176;(with_reducible refine Calls.mono (T4.o _) ?_);rintro e w4 ⟨rfl,hw⟩;subst hw;clear T4))
    go_ret;exact⟨by rw[E.o];rfl,HB.o⟩
theorem Rn (q:Tg) (A1 A2:Option Addr) (c1 c2:Nat) (w:World) (hs:pSm q.t.s) (aa:pSm q.s):Calls Tryz.prog 141 #[.agg #[.string ⟨q.t.s.1.toArray⟩,.string ⟨q.t.s.2.toArray⟩,.int .i64 q.t.k,.slice A1 q.t.b.length c1,.slice A2 q.a.length c2,.string ⟨q.s.1.toArray⟩,.string ⟨q.s.2.toArray⟩,.int .i64 q.u,.int .i64 q.no]] w fun e w'=>e=.returned (.bool (tgB q))/\Below w.heap.size w w':=by
 have ab:=(Below.refl w.heap.size w).alloc Af (.cells #[.string ⟨q.t.s.1.toArray⟩,.string ⟨q.t.s.2.toArray⟩,.int .i64 q.t.k,.slice A1 q.t.b.length c1,.slice A2 q.a.length c2,.string ⟨q.s.1.toArray⟩,.string ⟨q.s.2.toArray⟩,.int .i64 q.u,.int .i64 q.no] 53);have HB:=I ab;have M:=I (Blk.new w 53 #[.string ⟨q.t.s.1.toArray⟩,.string ⟨q.t.s.2.toArray⟩,.int .i64 q.t.k,.slice A1 q.t.b.length c1,.slice A2 q.a.length c2,.string ⟨q.s.1.toArray⟩,.string ⟨q.s.2.toArray⟩,.int .i64 q.u,.int .i64 q.no]);clear ab;have T1:=I (fun w1=>FG q.t A1 c1 w1 hs);have T2:=I (fun w1=>FW q.a A2 c2 w1);have T3:=I (fun w1=>AS q.s w1 aa.1 aa.2);have T4:=I (fun w1=>GP q.u w1);have T5:=I (fun w1=>FF q.no w1);cases h1:tkB q.t with
 |false=>
  rw[h1] at T1;have E:=I (show tgB q=false by rw[tgB,h1];rfl);clear h1;go_enter Tryz.func141,Tryz.ntmps141
  go_wp2_with (go_at_call 177;(with_reducible refine Calls.mono (T1.o _) ?_);rintro e w1 ⟨rfl,O⟩;replace M:=I (M.o.below O);replace HB:=HB.t O;clear O T1;(try clear k0 k1 k2 k3 Y k5 k6 X Z);have k0:=M.o.cell 0;have k1:=M.o.cell 1;have k2:=M.o.cell 2;have k3:=M.o.cell 3;have Y:=M.o.cell 4;have k5:=M.o.cell 5;have k6:=M.o.cell 6;have X:=M.o.cell 7;have Z:=M.o.cell 8;simp only[List.getElem?_toArray,List.getElem?_cons_zero,List.getElem?_cons_succ] at k0 k1 k2 k3 Y k5 k6 X Z)
  go_ret;exact⟨by rw[E.o];rfl,HB.o⟩
 |true=>
  rw[h1] at T1;cases h2:Bv q.a with
  |false=>
   rw[h2] at T2;have E:=I (show tgB q=false by rw[tgB,h1,h2];rfl);clear h1 h2;go_enter Tryz.func141,Tryz.ntmps141
   go_wp2_with (first
    |(go_at_call 177;(with_reducible refine Calls.mono (T1.o _) ?_);rintro e w1 ⟨rfl,O⟩;replace M:=I (M.o.below O);replace HB:=HB.t O;clear O T1;(try clear k0 k1 k2 k3 Y k5 k6 X Z);have k0:=M.o.cell 0;have k1:=M.o.cell 1;have k2:=M.o.cell 2;have k3:=M.o.cell 3;have Y:=M.o.cell 4;have k5:=M.o.cell 5;have k6:=M.o.cell 6;have X:=M.o.cell 7;have Z:=M.o.cell 8;simp only[List.getElem?_toArray,List.getElem?_cons_zero,List.getElem?_cons_succ] at k0 k1 k2 k3 Y k5 k6 X Z)
    |(go_at_call 178;(with_reducible refine Calls.mono (T2.o _) ?_);rintro e w2 ⟨rfl,hw⟩;subst hw;clear T2))
   go_ret;exact⟨by rw[E.o];rfl,HB.o⟩
  |true=>
   rw[h2] at T2;cases h3:prB q.s with
   |false=>
    rw[h3] at T3;have E:=I (show tgB q=false by rw[tgB,h1,h2,h3];rfl);clear h1 h2 h3;go_enter Tryz.func141,Tryz.ntmps141
    go_wp2_with (first
     |(go_at_call 177;(with_reducible refine Calls.mono (T1.o _) ?_);rintro e w1 ⟨rfl,O⟩;replace M:=I (M.o.below O);replace HB:=HB.t O;clear O T1;(try clear k0 k1 k2 k3 Y k5 k6 X Z);have k0:=M.o.cell 0;have k1:=M.o.cell 1;have k2:=M.o.cell 2;have k3:=M.o.cell 3;have Y:=M.o.cell 4;have k5:=M.o.cell 5;have k6:=M.o.cell 6;have X:=M.o.cell 7;have Z:=M.o.cell 8;simp only[List.getElem?_toArray,List.getElem?_cons_zero,List.getElem?_cons_succ] at k0 k1 k2 k3 Y k5 k6 X Z)
     |(go_at_call 178;(with_reducible refine Calls.mono (T2.o _) ?_);rintro e w2 ⟨rfl,hw⟩;subst hw;clear T2)
     |(go_at_call 46;(with_reducible refine Calls.mono (T3.o _) ?_);rintro e w3 ⟨rfl,O⟩;replace M:=I (M.o.below O);replace HB:=HB.t O;clear O T3;(try clear k0 k1 k2 k3 Y k5 k6 X Z);have k0:=M.o.cell 0;have k1:=M.o.cell 1;have k2:=M.o.cell 2;have k3:=M.o.cell 3;have Y:=M.o.cell 4;have k5:=M.o.cell 5;have k6:=M.o.cell 6;have X:=M.o.cell 7;have Z:=M.o.cell 8;simp only[List.getElem?_toArray,List.getElem?_cons_zero,List.getElem?_cons_succ] at k0 k1 k2 k3 Y k5 k6 X Z))
    go_ret;exact⟨by rw[E.o];rfl,HB.o⟩
   |true=>
    rw[h3] at T3;cases h4:tmB q.u with
    |false=>
     rw[h4] at T4;have E:=I (show tgB q=false by rw[tgB,h1,h2,h3,h4];rfl);clear h1 h2 h3 h4;go_enter Tryz.func141,Tryz.ntmps141
     go_wp2_with (first
      |(go_at_call 177;(with_reducible refine Calls.mono (T1.o _) ?_);rintro e w1 ⟨rfl,O⟩;replace M:=I (M.o.below O);replace HB:=HB.t O;clear O T1;(try clear k0 k1 k2 k3 Y k5 k6 X Z);have k0:=M.o.cell 0;have k1:=M.o.cell 1;have k2:=M.o.cell 2;have k3:=M.o.cell 3;have Y:=M.o.cell 4;have k5:=M.o.cell 5;have k6:=M.o.cell 6;have X:=M.o.cell 7;have Z:=M.o.cell 8;simp only[List.getElem?_toArray,List.getElem?_cons_zero,List.getElem?_cons_succ] at k0 k1 k2 k3 Y k5 k6 X Z)
      |(go_at_call 178;(with_reducible refine Calls.mono (T2.o _) ?_);rintro e w2 ⟨rfl,hw⟩;subst hw;clear T2)
      |(go_at_call 46;(with_reducible refine Calls.mono (T3.o _) ?_);rintro e w3 ⟨rfl,O⟩;replace M:=I (M.o.below O);replace HB:=HB.t O;clear O T3;(try clear k0 k1 k2 k3 Y k5 k6 X Z);have k0:=M.o.cell 0;have k1:=M.o.cell 1;have k2:=M.o.cell 2;have k3:=M.o.cell 3;have Y:=M.o.cell 4;have k5:=M.o.cell 5;have k6:=M.o.cell 6;have X:=M.o.cell 7;have Z:=M.o.cell 8;simp only[List.getElem?_toArray,List.getElem?_cons_zero,List.getElem?_cons_succ] at k0 k1 k2 k3 Y k5 k6 X Z)
      |(go_at_call 175;(with_reducible refine Calls.mono (T4.o _) ?_);rintro e w4 ⟨rfl,hw⟩;subst hw;clear T4))
     go_ret;exact⟨by rw[E.o];rfl,HB.o⟩
    |true=>
     rw[h4] at T4;have E:=I (show tgB q=tmB q.no by rw[tgB,h1,h2,h3,h4];rfl);clear h1 h2 h3 h4;go_enter Tryz.func141,Tryz.ntmps141
     go_wp2_with (first
      |(go_at_call 177;(with_reducible refine Calls.mono (T1.o _) ?_);rintro e w1 ⟨rfl,O⟩;replace M:=I (M.o.below O);replace HB:=HB.t O;clear O T1;(try clear k0 k1 k2 k3 Y k5 k6 X Z);have k0:=M.o.cell 0;have k1:=M.o.cell 1;have k2:=M.o.cell 2;have k3:=M.o.cell 3;have Y:=M.o.cell 4;have k5:=M.o.cell 5;have k6:=M.o.cell 6;have X:=M.o.cell 7;have Z:=M.o.cell 8;simp only[List.getElem?_toArray,List.getElem?_cons_zero,List.getElem?_cons_succ] at k0 k1 k2 k3 Y k5 k6 X Z)
      |(go_at_call 178;(with_reducible refine Calls.mono (T2.o _) ?_);rintro e w2 ⟨rfl,hw⟩;subst hw;clear T2)
      |(go_at_call 46;(with_reducible refine Calls.mono (T3.o _) ?_);rintro e w3 ⟨rfl,O⟩;replace M:=I (M.o.below O);replace HB:=HB.t O;clear O T3;(try clear k0 k1 k2 k3 Y k5 k6 X Z);have k0:=M.o.cell 0;have k1:=M.o.cell 1;have k2:=M.o.cell 2;have k3:=M.o.cell 3;have Y:=M.o.cell 4;have k5:=M.o.cell 5;have k6:=M.o.cell 6;have X:=M.o.cell 7;have Z:=M.o.cell 8;simp only[List.getElem?_toArray,List.getElem?_cons_zero,List.getElem?_cons_succ] at k0 k1 k2 k3 Y k5 k6 X Z)
      |(go_at_call 175;(with_reducible refine Calls.mono (T4.o _) ?_);rintro e w4 ⟨rfl,hw⟩;subst hw;clear T4)
      |(go_at_call 176;(with_reducible refine Calls.mono (T5.o _) ?_);rintro e w5 ⟨rfl,hw⟩;subst hw;clear T5))
     go_ret;exact⟨by rw[E.o];rfl,HB.o⟩
theorem TJ (q:Re) (A1 A2:Option Addr) (c1 c2:Nat) (w:World) (hs:pSm q.t.s) (aa:pSm q.c):Calls Tryz.prog 142 #[.agg #[.string ⟨q.c.1.toArray⟩,.string ⟨q.c.2.toArray⟩,.string ⟨q.t.s.1.toArray⟩,.string ⟨q.t.s.2.toArray⟩,.int .i64 q.t.k,.slice A1 q.t.b.length c1,.slice A2 q.b.length c2]] w fun e w'=>e=.returned (.bool (reB q))/\Below w.heap.size w w':=by
 have ab:=(Below.refl w.heap.size w).alloc Af (.cells #[.string ⟨q.c.1.toArray⟩,.string ⟨q.c.2.toArray⟩,.string ⟨q.t.s.1.toArray⟩,.string ⟨q.t.s.2.toArray⟩,.int .i64 q.t.k,.slice A1 q.t.b.length c1,.slice A2 q.b.length c2] 55);have HB:=I ab;have M:=I (Blk.new w 55 #[.string ⟨q.c.1.toArray⟩,.string ⟨q.c.2.toArray⟩,.string ⟨q.t.s.1.toArray⟩,.string ⟨q.t.s.2.toArray⟩,.int .i64 q.t.k,.slice A1 q.t.b.length c1,.slice A2 q.b.length c2]);clear ab;have T1:=I (fun w1=>AS q.c w1 aa.1 aa.2);have T2:=I (fun w1=>FG q.t A1 c1 w1 hs);have T3:=I (fun w1=>FW q.b A2 c2 w1);cases h1:prB q.c with
 |false=>
  rw[h1] at T1;have E:=I (show reB q=false by rw[reB,h1];rfl);clear h1;go_enter Tryz.func142,Tryz.ntmps142
  go_wp2_with (go_at_call 46;(with_reducible refine Calls.mono (T1.o _) ?_);rintro e w1 ⟨rfl,O⟩;replace M:=I (M.o.below O);replace HB:=HB.t O;clear O T1;(try clear X k1 k2 k3 Z k5 Y);have X:=M.o.cell 0;have k1:=M.o.cell 1;have k2:=M.o.cell 2;have k3:=M.o.cell 3;have Z:=M.o.cell 4;have k5:=M.o.cell 5;have Y:=M.o.cell 6;simp only[List.getElem?_toArray,List.getElem?_cons_zero,List.getElem?_cons_succ] at X k1 k2 k3 Z k5 Y)
  go_ret;exact⟨by rw[E.o];rfl,HB.o⟩
 |true=>
  rw[h1] at T1;cases h2:tkB q.t with
  |false=>
   rw[h2] at T2;have E:=I (show reB q=false by rw[reB,h1,h2];rfl);clear h1 h2;go_enter Tryz.func142,Tryz.ntmps142
   go_wp2_with (first
    |(go_at_call 46;(with_reducible refine Calls.mono (T1.o _) ?_);rintro e w1 ⟨rfl,O⟩;replace M:=I (M.o.below O);replace HB:=HB.t O;clear O T1;(try clear X k1 k2 k3 Z k5 Y);have X:=M.o.cell 0;have k1:=M.o.cell 1;have k2:=M.o.cell 2;have k3:=M.o.cell 3;have Z:=M.o.cell 4;have k5:=M.o.cell 5;have Y:=M.o.cell 6;simp only[List.getElem?_toArray,List.getElem?_cons_zero,List.getElem?_cons_succ] at X k1 k2 k3 Z k5 Y)
    |(go_at_call 177;(with_reducible refine Calls.mono (T2.o _) ?_);rintro e w2 ⟨rfl,O⟩;replace M:=I (M.o.below O);replace HB:=HB.t O;clear O T2;(try clear X k1 k2 k3 Z k5 Y);have X:=M.o.cell 0;have k1:=M.o.cell 1;have k2:=M.o.cell 2;have k3:=M.o.cell 3;have Z:=M.o.cell 4;have k5:=M.o.cell 5;have Y:=M.o.cell 6;simp only[List.getElem?_toArray,List.getElem?_cons_zero,List.getElem?_cons_succ] at X k1 k2 k3 Z k5 Y))
   go_ret;exact⟨by rw[E.o];rfl,HB.o⟩
  |true=>
   rw[h2] at T2;have E:=I (show reB q=Bv q.b by rw[reB,h1,h2];rfl);clear h1 h2;go_enter Tryz.func142,Tryz.ntmps142
   go_wp2_with (first
    |(go_at_call 46;(with_reducible refine Calls.mono (T1.o _) ?_);rintro e w1 ⟨rfl,O⟩;replace M:=I (M.o.below O);replace HB:=HB.t O;clear O T1;(try clear X k1 k2 k3 Z k5 Y);have X:=M.o.cell 0;have k1:=M.o.cell 1;have k2:=M.o.cell 2;have k3:=M.o.cell 3;have Z:=M.o.cell 4;have k5:=M.o.cell 5;have Y:=M.o.cell 6;simp only[List.getElem?_toArray,List.getElem?_cons_zero,List.getElem?_cons_succ] at X k1 k2 k3 Z k5 Y)
    |(go_at_call 177;(with_reducible refine Calls.mono (T2.o _) ?_);rintro e w2 ⟨rfl,O⟩;replace M:=I (M.o.below O);replace HB:=HB.t O;clear O T2;(try clear X k1 k2 k3 Z k5 Y);have X:=M.o.cell 0;have k1:=M.o.cell 1;have k2:=M.o.cell 2;have k3:=M.o.cell 3;have Z:=M.o.cell 4;have k5:=M.o.cell 5;have Y:=M.o.cell 6;simp only[List.getElem?_toArray,List.getElem?_cons_zero,List.getElem?_cons_succ] at X k1 k2 k3 Z k5 Y)
    |(go_at_call 178;(with_reducible refine Calls.mono (T3.o _) ?_);rintro e w3 ⟨rfl,hw⟩;subst hw;clear T3))
   go_ret;exact⟨by rw[E.o];rfl,HB.o⟩
theorem TK (q:Ap) (A1 A2:Option Addr) (c1 c2:Nat) (w:World) (hs:pSm q.t.s):Calls Tryz.prog 143 #[.agg #[.string ⟨q.t.s.1.toArray⟩,.string ⟨q.t.s.2.toArray⟩,.int .i64 q.t.k,.slice A1 q.t.b.length c1,.slice A2 q.a.length c2]] w fun e w'=>e=.returned (.bool (apB q))/\Below w.heap.size w w':=by
 have aa:=(Below.refl w.heap.size w).alloc Af (.cells #[.string ⟨q.t.s.1.toArray⟩,.string ⟨q.t.s.2.toArray⟩,.int .i64 q.t.k,.slice A1 q.t.b.length c1,.slice A2 q.a.length c2] 57);have Y:=I aa;have M:=I (Blk.new w 57 #[.string ⟨q.t.s.1.toArray⟩,.string ⟨q.t.s.2.toArray⟩,.int .i64 q.t.k,.slice A1 q.t.b.length c1,.slice A2 q.a.length c2]);clear aa;have X:=I (fun w1=>FG q.t A1 c1 w1 hs);have T2:=I (fun w1=>FW q.a A2 c2 w1);cases h1:tkB q.t with
 |false=>
  rw[h1] at X;have E:=I (show apB q=false by rw[apB,h1];rfl);clear h1;go_enter Tryz.func143,Tryz.ntmps143
  go_wp2_with (go_at_call 177;(with_reducible refine Calls.mono (X.o _) ?_);rintro e w1 ⟨rfl,O⟩;replace M:=I (M.o.below O);replace Y:=Y.t O;clear O X;(try clear Z k1 k2 k3 k4);have Z:=M.o.cell 0;have k1:=M.o.cell 1;have k2:=M.o.cell 2;have k3:=M.o.cell 3;have k4:=M.o.cell 4;simp only[List.getElem?_toArray,List.getElem?_cons_zero,List.getElem?_cons_succ] at Z k1 k2 k3 k4)
  go_ret;exact⟨by rw[E.o];rfl,Y.o⟩
 |true=>
  rw[h1] at X;have E:=I (show apB q=Bv q.a by rw[apB,h1];rfl);clear h1;go_enter Tryz.func143,Tryz.ntmps143
  go_wp2_with (first
   |(go_at_call 177;(with_reducible refine Calls.mono (X.o _) ?_);rintro e w1 ⟨rfl,O⟩;replace M:=I (M.o.below O);replace Y:=Y.t O;clear O X;(try clear Z k1 k2 k3 k4);have Z:=M.o.cell 0;have k1:=M.o.cell 1;have k2:=M.o.cell 2;have k3:=M.o.cell 3;have k4:=M.o.cell 4;simp only[List.getElem?_toArray,List.getElem?_cons_zero,List.getElem?_cons_succ] at Z k1 k2 k3 k4)
   |(go_at_call 178;(with_reducible refine Calls.mono (T2.o _) ?_);rintro e w2 ⟨rfl,hw⟩;subst hw;clear T2))
  go_ret;exact⟨by rw[E.o];rfl,Y.o⟩
theorem TM (q:Fa) (w:World):Calls Tryz.prog 144 #[.agg #[.int .i64 q.e,.int .i64 q.no]] w fun e w'=>e=.returned (.bool (faB q))/\Below w.heap.size w w':=by
 have O:=(Below.refl w.heap.size w).alloc Af (.cells #[.int .i64 q.e,.int .i64 q.no] 59);have Y:=I O;have HK:=I (Blk.new w 59 #[.int .i64 q.e,.int .i64 q.no]);clear O;have M:=I (fun X=>Ek q.e 1 255 X);have Z:=I (fun X=>FF q.no X);cases h1:inB q.e 1 255 with
 |false=>
  rw[h1] at M;have E:=I (show faB q=false by rw[faB,h1];rfl);clear h1;go_enter Tryz.func144,Tryz.ntmps144
  go_wp2_with (go_at_call 179;(with_reducible refine Calls.mono (M.o _) ?_);rintro e X ⟨rfl,hw⟩;subst hw;clear M)
  go_ret;exact⟨by rw[E.o];rfl,Y.o⟩
 |true=>
  rw[h1] at M;have E:=I (show faB q=tmB q.no by rw[faB,h1];rfl);clear h1;go_enter Tryz.func144,Tryz.ntmps144
  go_wp2_with (first
   |(go_at_call 179;(with_reducible refine Calls.mono (M.o _) ?_);rintro e X ⟨rfl,hw⟩;subst hw;clear M)
   |(go_at_call 176;(with_reducible refine Calls.mono (Z.o _) ?_);rintro e w2 ⟨rfl,hw⟩;subst hw;clear Z))
  go_ret;exact⟨by rw[E.o];rfl,Y.o⟩
section
attribute [local go_sem] Gt List.getElem_cons_zero List.getElem_cons_succ
end
theorem Ro (p:Rp) (w:World) (hk:p.ss.length=32) (hs:pSm p.s):Calls Tryz.prog 155 #[.agg (rpC p).toArray] w fun e w'=>e=.returned (.bool (rpB p))/\Below w.heap.size w w':=by
 have HI:=I (show(Tryz.prog.info? 104).map (·.size)=some (rpC p).toArray.size by rw[FE hk];kernel_rfl);have CF:=I (show ∀w':World,Blk w' w.heap.size 104 (rpC p).toArray->w'.cell? ⟨w.heap.size,32,none⟩=some (.string ⟨p.s.1.toArray⟩)/\w'.cell? ⟨w.heap.size,33,none⟩=some (.string ⟨p.s.2.toArray⟩)/\w'.cell? ⟨w.heap.size,34,none⟩=some (.int .i64 p.st)/\w'.cell? ⟨w.heap.size,35,none⟩=some (.int .i64 p.en)/\w'.cell? ⟨w.heap.size,36,none⟩=some (.int .i64 p.no) from fun w' h=>FU hk h);obtain⟨cs,aa⟩:=Aj ((rpC p).toArray);rw[<-aa] at HI CF⊢;clear aa;have X:=I ((Below.refl w.heap.size w).alloc Af (.cells cs 104));have O:=I (Blk.new w 104 cs);have Z:=I (fun Y=>AS p.s Y hs.1 hs.2);have T2:=I (fun Y=>GP p.st Y);have T3:=I (fun Y=>GP p.en Y);have T4:=I (fun Y=>FF p.no Y);obtain⟨k0,k1,k2,k3,k4⟩:=CF.o _ O.o;cases h1:prB p.s with
 |false=>
  rw[h1] at Z;have E:=I (show rpB p=false by rw[rpB,h1];rfl);clear h1;go_enter Tryz.func155,Tryz.ntmps155
  go_wp2_with (go_at_call 46;(with_reducible refine Calls.mono (Z.o _) ?_);rintro e Y ⟨rfl,M⟩;replace O:=I (O.o.below M);replace X:=X.t M;clear M Z;(try clear k0 k1 k2 k3 k4);obtain⟨k0,k1,k2,k3,k4⟩:=CF.o _ O.o)
  go_ret;exact⟨by rw[E.o];rfl,X.o⟩
 |true=>
  rw[h1] at Z;cases h2:tmB p.st with
  |false=>
   rw[h2] at T2;have E:=I (show rpB p=false by rw[rpB,h1,h2];rfl);clear h1 h2;go_enter Tryz.func155,Tryz.ntmps155
   go_wp2_with (first
    |(go_at_call 46;(with_reducible refine Calls.mono (Z.o _) ?_);rintro e Y ⟨rfl,M⟩;replace O:=I (O.o.below M);replace X:=X.t M;clear M Z;(try clear k0 k1 k2 k3 k4);obtain⟨k0,k1,k2,k3,k4⟩:=CF.o _ O.o)
    |(go_at_call 175;(with_reducible refine Calls.mono (T2.o _) ?_);rintro e w2 ⟨rfl,hw⟩;subst hw;clear T2))
   go_ret;exact⟨by rw[E.o];rfl,X.o⟩
  |true=>
   rw[h2] at T2;cases h3:tmB p.en with
   |false=>
    rw[h3] at T3;have E:=I (show rpB p=false by rw[rpB,h1,h2,h3];rfl);clear h1 h2 h3;go_enter Tryz.func155,Tryz.ntmps155
    go_wp2_with (first
     |(go_at_call 46;(with_reducible refine Calls.mono (Z.o _) ?_);rintro e Y ⟨rfl,M⟩;replace O:=I (O.o.below M);replace X:=X.t M;clear M Z;(try clear k0 k1 k2 k3 k4);obtain⟨k0,k1,k2,k3,k4⟩:=CF.o _ O.o)
     |(go_at_call 175;(with_reducible refine Calls.mono (T2.o _) ?_);rintro e w2 ⟨rfl,hw⟩;subst hw;clear T2)
     |(go_at_call 175;(with_reducible refine Calls.mono (T3.o _) ?_);rintro e w3 ⟨rfl,hw⟩;subst hw;clear T3))
    go_ret;exact⟨by rw[E.o];rfl,X.o⟩
   |true=>
    rw[h3] at T3;have E:=I (show rpB p=tmB p.no by rw[rpB,h1,h2,h3];rfl);clear h1 h2 h3;go_enter Tryz.func155,Tryz.ntmps155
    go_wp2_with (first
     |(go_at_call 46;(with_reducible refine Calls.mono (Z.o _) ?_);rintro e Y ⟨rfl,M⟩;replace O:=I (O.o.below M);replace X:=X.t M;clear M Z;(try clear k0 k1 k2 k3 k4);obtain⟨k0,k1,k2,k3,k4⟩:=CF.o _ O.o)
     |(go_at_call 175;(with_reducible refine Calls.mono (T2.o _) ?_);rintro e w2 ⟨rfl,hw⟩;subst hw;clear T2)
     |(go_at_call 175;(with_reducible refine Calls.mono (T3.o _) ?_);rintro e w3 ⟨rfl,hw⟩;subst hw;clear T3)
     |(go_at_call 176;(with_reducible refine Calls.mono (T4.o _) ?_);rintro e w4 ⟨rfl,hw⟩;subst hw;clear T4))
    go_ret;exact⟨by rw[E.o];rfl,X.o⟩
open DerR
theorem Hk (l:L) (A:Option Addr) (n c:Nat) (w:World) (M:n=l.length) (h:l.length<=2000):Calls Tryz.prog 99 #[.slice A n c] w fun e w'=>e=.returned (.tuple #[.slice A n c,.int .i64 0])/\w=w':=by
 subst M;have O:decide ((2000:Int)<(l.length:Int))=false:=decide_eq_false (by omega);clear h;go_enter Tryz.func99,Tryz.ntmps99
 go_wp2
 go_ret2
 exact⟨rfl,rfl⟩
theorem Yc {a:An} (O:anB a=true):(anE a).length<=2000:=by
 have M:prB a.c=true/\tmB a.t=true/\tmB a.q=true:=by simpa [anB] using O
 have b1:=(AV M.1).1;have b2:=AE a.t;have b3:=AE a.q;have:=Az 98 [prE a.c,encI a.t,encI a.q].flatten;rw[anE];rw[Dn] at this⊢;simp only[List.length_append] at this;omega
theorem Yd {p:Rp} (hk:p.ss.length=32) (O:rpB p=true):(rpE p).length<=2000:=by
 have M:prB p.s=true:=(show prB p.s=true/\tmB p.st=true/\tmB p.en=true/\tmB p.no=true by simpa [rpB] using O).1;have b1:=(AV M).1;have b2:=AE p.st;have b3:=AE p.en;have X:=AE p.no;have Y:=Az 4 p.ss;have:=Az 122 [elem 4 p.ss,prE p.s,encI p.st,encI p.en,encI p.no].flatten;rw[rpE];rw[Eo] at this⊢;simp only[List.length_append] at this;omega
theorem Lm (a:An) (w:World) (hs:pSm a.c):Calls Tryz.prog 130 #[.agg #[.string ⟨a.c.1.toArray⟩,.string ⟨a.c.2.toArray⟩,.int .i64 a.t,.int .i64 a.q]] w (EncR w (anO a)):=by
 have HI:=I (show(Tryz.prog.info? 68).map (·.size)=some (#[.string ⟨a.c.1.toArray⟩,.string ⟨a.c.2.toArray⟩,.int .i64 a.t,.int .i64 a.q]:Array Value).size by kernel_rfl);have Z:=I (fun w1=>Mt a w1 hs);have T0:=I (fun(M:anB a=true)=>fun w1=>Ll a w1 M);have O:=I (fun(M:anB a=true)=>Yc M);obtain⟨cs,aa⟩:∃cs:Array Value,cs=#[.string ⟨a.c.1.toArray⟩,.string ⟨a.c.2.toArray⟩,.int .i64 a.t,.int .i64 a.q]:=⟨_,rfl⟩;rw[<-aa] at HI Z T0⊢;clear aa;have HB:=I ((Below.refl w.heap.size w).alloc Af (.cells cs 68));have HK:=I (Blk.new w 68 cs);cases M:anB a with
 |false=>
  rw[M] at Z;have E:=I (show anO a=none by unfold anO limO;rw[M];rfl);rw[E.o];clear M E T0 O hs;go_enter Tryz.func130,Tryz.ntmps130
  go_wp2_with (first
   |(refine Ad (by rfl) 68 (.tmp 1) (by rfl) w.heap.size 0 (by rfl) cs _ (Ac HK.o) Tryz.underlying68 (by rfl) HI.o ?_)
   |(go_at_call 164;refine Ah (Z.o _) ?_;rintro w1 Y;replace HB:=HB.t Y;clear Y Z)
   |fail)
  go_ret2
  exact Ey HB.o
 |true=>
  rw[M] at Z;have T1:=I (T0.o M);have X:=O.o M;have E:=I (show anO a=some (anE a) from Br.2 ⟨M,X,rfl⟩);rw[E.o];obtain⟨l,el⟩:=Aj (anE a);rw[<-el] at T1 X⊢;have LM:=I (fun A c w1=>Hk l A _ c w1 rfl X);clear M E el X T0 O hs;go_enter Tryz.func130,Tryz.ntmps130
  go_wp2_with (first
   |(refine Ad (by rfl) 68 (.tmp 1) (by rfl) w.heap.size 0 (by rfl) cs _ (Ac HK.o) Tryz.underlying68 (by rfl) HI.o ?_)
   |(go_at_call 164;refine Ah (Z.o _) ?_;rintro w1 Y;replace HK:=I (HK.o.below Y);replace HB:=HB.t Y;clear Y Z)
   |(go_at_call 165;refine Calls.mono (T1.o _) ?_;rintro e w2 ⟨⟨g,c,rfl,h2,h3,h4⟩,Y⟩;have HG:=I (Ba (l:=l) ⟨⟨g,c,rfl,h2,h3,h4⟩,Y⟩ HB.o);clear h2 h3 h4 Y T1)
   |(go_at_call 99;refine Ah (LM.o _ _ _) ?_;rintro wy rfl;clear LM)
   |fail)
  go_ret2
  exact Dl HG.o
theorem OR (p:Rp) (w:World) (hk:p.ss.length=32) (hs:pSm p.s):Calls Tryz.prog 107 #[.agg (rpC p).toArray] w (EncR w (rpO p)):=by
 have HI:=I (show(Tryz.prog.info? 104).map (·.size)=some ((rpC p).toArray:Array Value).size by rw[FE hk];kernel_rfl);have Z:=I (fun w1=>Ro p w1 hk hs);have T0:=I (fun(M:rpB p=true)=>fun w1=>OQ p w1 hk M);have O:=I (fun(M:rpB p=true)=>Yd hk M);obtain⟨cs,aa⟩:∃cs:Array Value,cs=(rpC p).toArray:=⟨_,rfl⟩;rw[<-aa] at HI Z T0⊢;clear aa;have HB:=I ((Below.refl w.heap.size w).alloc Af (.cells cs 104));have HK:=I (Blk.new w 104 cs);cases M:rpB p with
 |false=>
  rw[M] at Z;have E:=I (show rpO p=none by unfold rpO limO;rw[M];rfl);rw[E.o];clear M E T0 O hs hk;go_enter Tryz.func107,Tryz.ntmps107
  go_wp2_with (first
   |(refine Ad (by rfl) 104 (.tmp 1) (by rfl) w.heap.size 0 (by rfl) cs _ (Ac HK.o) Tryz.underlying104 (by rfl) HI.o ?_)
   |(go_at_call 155;refine Ah (Z.o _) ?_;rintro w1 Y;replace HB:=HB.t Y;clear Y Z)
   |fail)
  go_ret2
  exact Ey HB.o
 |true=>
  rw[M] at Z;have T1:=I (T0.o M);have X:=O.o M;have E:=I (show rpO p=some (rpE p) from Br.2 ⟨M,X,rfl⟩);rw[E.o];obtain⟨l,el⟩:=Aj (rpE p);rw[<-el] at T1 X⊢;have LM:=I (fun A c w1=>Hk l A _ c w1 rfl X);clear M E el X T0 O hs hk;go_enter Tryz.func107,Tryz.ntmps107
  go_wp2_with (first
   |(refine Ad (by rfl) 104 (.tmp 1) (by rfl) w.heap.size 0 (by rfl) cs _ (Ac HK.o) Tryz.underlying104 (by rfl) HI.o ?_)
   |(go_at_call 155;refine Ah (Z.o _) ?_;rintro w1 Y;replace HK:=I (HK.o.below Y);replace HB:=HB.t Y;clear Y Z)
   |(go_at_call 156;refine Calls.mono (T1.o _) ?_;rintro e w2 ⟨⟨g,c,rfl,h2,h3,h4⟩,Y⟩;have HG:=I (Ba (l:=l) ⟨⟨g,c,rfl,h2,h3,h4⟩,Y⟩ HB.o);clear h2 h3 h4 Y T1)
   |(go_at_call 99;refine Ah (LM.o _ _ _) ?_;rintro wy rfl;clear LM)
   |fail)
  go_ret2
  exact Dl HG.o
end Mc
end Go.Proofs.YtlccngianpfalaaGreat
