import Derived.Test.YtcpccikongbopaaGreatZClientLoops10
import Derived.Test.YtcpccikongbopaaGreatZClientLoops13
set_option maxHeartbeats 25600000
set_option maxRecDepth 100000
set_option linter.unusedVariables false
set_option linter.unusedSimpArgs false
namespace Go.Proofs.YtcpccikongbopaaGreat
namespace Cl
open Go.RowKit Ae Se
open Nm (L)
open Ms (Pr)
open Ca (It Cr En Ca CO PT its)
open SeL (BZ Cz Ns)
def SlN (S:Nat->Prop) (w:World) (v:Value) (l:L):Prop:=∃A c,v=.slice A l.length c/\l.length<=c/\RdA S w A (bvs l)
section
variable {S S' T:Nat->Prop} {w w':World} {v:Value} {l:L}
theorem SlN.keep (h:SlN S w v l) (M:Chg T w w') (X:∀i,i<w.heap.size->T i->S i) (hs:∀i,i<w.heap.size->S' i->S i):SlN S' w' v l:=by
 obtain⟨A,c,O,Y,Z⟩:=h;exact⟨A,c,O,Y,Z.keep M X hs⟩
theorem SlN.below (h:SlN S w v l) (M:Below w.heap.size w w'):SlN S w' v l:=h.keep (Chg.of_below (S:=fun _=>False) M) (fun _ _ x=>x.elim) (fun _ _ x=>x)
theorem SlN.mono (h:SlN S w v l) (hs:∀i,i<w.heap.size->S' i->S i):SlN S' w v l:=h.keep (Chg.refl (fun _=>False) w) (fun _ _ x=>x.elim) hs
theorem SlN.sl (h:SlN S w v l):Ms.SlB w w.heap.size v l:=by
 obtain⟨A,c,M,O,X⟩:=h;exact⟨A,c,M,O,X.rd⟩
theorem SlN.nil (S:Nat->Prop) (w:World):SlN S w (.slice none 0 0) []:=⟨none,0,rfl,Nat.le_refl _,.inl rfl⟩
end
structure Ss where
 b:Nat
 ks:Nat->UInt8
 h:Option Nat
 a:Nat
 o:Nat
 r:Nat
def SO (s:Option Ss) (j:Nat):Prop:=∃z,s=some z/\Ow z.b z.h j
structure CP where
 k:Nat
 b:Nat
 r:Nat
 P:Pr
 ks:Nat->UInt8
structure CM where
 v:Value
 es:List En
 h:Option Nat
 a:Nat
 o:Nat
 r:Nat
 vv:Value
 ov:Value
 x:Option Ss
 y:Option Ss
def Pt (p:CP) (m:CM):Nat->Nat->Prop
 |0,j=>j=p.k
 |1,j=>Ow p.b m.h j
 |2,j=>CO p.r m.v m.es j
 |3,j=>m.vv.ownBlock=some j
 |4,j=>SO m.x j
 |5,j=>SO m.y j
 |_,_=>False
def AO (p:CP) (m:CM) (j:Nat):Prop:=∃i,Pt p m i j
structure Pa (w:World) (B:Nat) (p:CP) (m:CM):Prop where
 dis:∀i i' j,Pt p m i j->Pt p m i' j->i=i'
 lo:∀i j,Pt p m i j->B<=j
 lt:∀i j,Pt p m i j->j<w.heap.size
 hB:B<=w.heap.size
section
variable {w w':World} {B:Nat} {p:CP} {m m':CM}
theorem Pa.grow (h:Pa w B p m) (hs:w.heap.size<=w'.heap.size):Pa w' B p m:=⟨h.dis,h.lo,fun i j M=>Nat.lt_of_lt_of_le (h.lt i j M) hs,Nat.le_trans h.hB hs⟩
theorem Pa.use (X:Nat) (h:Pa w B p m) (hs:w.heap.size<=w'.heap.size) (Y:∀j,Pt p m' X j->Pt p m X j\/w.heap.size<=j) (Z:∀j,Pt p m' X j->j<w'.heap.size) (he:∀i j,i≠X->Pt p m' i j->Pt p m i j):Pa w' B p m':=by
 refine⟨fun i i' j M O=>?_,fun i j M=>?_,fun i j M=>?_,Nat.le_trans h.hB hs⟩
 ·by_cases e:i=X
  ·by_cases e':i'=X
   ·rw[e,e']
   ·subst e
    rcases Y j M with x | x
    ·exact h.dis _ _ j x (he i' j e' O)
    ·have:=h.lt _ _ (he i' j e' O);omega
  ·by_cases e':i'=X
   ·subst e'
    rcases Y j O with x | x
    ·exact h.dis _ _ j (he i j e M) x
    ·have:=h.lt _ _ (he i j e M);omega
   ·exact h.dis _ _ j (he i j e M) (he i' j e' O)
 ·by_cases e:i=X
  ·subst e
   rcases Y j M with x | x
   ·exact h.lo _ _ x
   ·have:=h.hB;omega
  ·exact h.lo _ _ (he i j e M)
 ·by_cases e:i=X
  ·subst e;exact Z j M
  ·exact Nat.lt_of_lt_of_le (h.lt _ _ (he i j e M)) hs
end
abbrev pv (b:Nat):Value:=.pointer (some ⟨b,0,none⟩)
def OuR (p:CP) (m:CM) (s:St):Prop:=(m.ov=.pointer none/\(s.st=1->s.ou.u=0))\/(m.ov=pv p.b/\s.ou.ks=p.ks)\/∃z,m.x=some z/\m.ov=pv z.b/\s.ou.ks=z.ks
abbrev clA (p:CP) (m:CM) (s:St):Array Value:=
 #[.string ⟨p.P.1.toArray⟩,.string ⟨p.P.2.toArray⟩,pv p.b,pv p.r,.int .i64 (s.n:Int),.int .i64 (s.s:Int),.int .i64 (s.q:Int),.int .i64 s.st,.int .i64 s.er,.int .i64 s.sn,
  .string ⟨s.tg.1.toArray⟩,.string ⟨s.tg.2.toArray⟩,m.vv,.int .i64 s.ou.no,m.ov,.int .i64 s.ou.u]
def SxR (w:World) (x:Option Ss) (c:Nat):Prop:=∀z,x=some z->Box w z.b z.ks z.h z.a z.o z.r/\z.a<=c/\z.o<=c/\z.r<=c
structure Cl (w:World) (B:Nat) (p:CP) (m:CM) (s:St) (c:Nat):Prop where
 pa:Pa w B p m
 blk:Blk w p.k 94 (clA p m s)
 ca:Ca w B p.r m.v m.es
 li:its m.es=s.l
 box:Box w p.b p.ks m.h m.a m.o m.r
 bc:m.a<=c/\m.o<=c/\m.r<=c
 vis:Nm.Own w B m.vv s.vs
 sx:SxR w m.x c
 sy:SxR w m.y c
 ou:OuR p m s
section
variable {w w' w0:World} {B:Nat} {p:CP} {m m' m0:CM} {s s':St} {c c':Nat} {S:Nat->Prop}
theorem SxR.chg {x:Option Ss} (h:SxR w x c) (O:Chg S w w') (hs:∀j,SO x j->¬S j):SxR w' x c:=fun z M=>⟨(h z M).1.chg O (fun j X=>hs j ⟨z,M,X⟩),(h z M).2⟩
theorem SxR.more {x:Option Ss} (h:SxR w x c) (O:c<=c'):SxR w x c':=fun z M=>⟨(h z M).1,by have:=(h z M).2;omega⟩
theorem SxR.lt {x:Option Ss} (h:SxR w x c) {j:Nat} (M:SO x j):j<w.heap.size:=by
 obtain⟨z,O,M⟩:=M;exact(h z O).1.own_lt j M
theorem SxR.none:SxR w .none c:=fun z M=>by cases M
theorem Cl.lt (h:Cl w B p m s c) {j:Nat} (M:AO p m j):j<w.heap.size:=by
 obtain⟨i,M⟩:=M;exact h.pa.lt i j M
theorem Cl.lo (h:Cl w B p m s c) {j:Nat} (M:AO p m j):B<=j:=by
 obtain⟨i,M⟩:=M;exact h.pa.lo i j M
theorem Cd {v:Value} {ls:List L} (h:Nm.Own w B v ls) (M:Chg S w w') (hs:∀k,v.ownBlock=some k->¬S k):Nm.Own w' B v ls:=M.own h hs
theorem Cl.chg (h:Cl w B p m s c) (O:Chg S w w') (hs:∀j,AO p m j->¬S j):Cl w' B p m s c:=
 ⟨h.pa.grow O.size,O.blk h.blk (hs _ ⟨0,rfl⟩),h.ca.chg O (fun j M=>hs j ⟨2,M⟩),h.li,h.box.chg O (fun j M=>hs j ⟨1,M⟩),h.bc,Cd h.vis O (fun j M=>hs j ⟨3,M⟩),h.sx.chg O (fun j M=>hs j ⟨4,M⟩),h.sy.chg O (fun j M=>hs j ⟨5,M⟩),h.ou⟩
theorem Cl.below (h:Cl w B p m s c) (M:Below w.heap.size w w'):Cl w' B p m s c:=h.chg (S:=fun _=>False) (Chg.of_below M) (fun _ _ x=>x)
theorem Cl.more (h:Cl w B p m s c) (M:c<=c'):Cl w B p m s c':=⟨h.pa,h.blk,h.ca,h.li,h.box,by have:=h.bc;omega,h.vis,h.sx.more M,h.sy.more M,h.ou⟩
structure Tu (w0 w:World) (B:Nat) (p:CP) (m0 m:CM) (s:St) (c:Nat):Prop where
 cl:Cl w B p m s c
 chg:Chg (AO p m0) w0 w
 nw:∀j,AO p m j->AO p m0 j\/w0.heap.size<=j
theorem Tu.start (h:Cl w B p m s c) (M:Below w.heap.size w w'):Tu w w' B p m m s c:=⟨h.below M,Chg.of_below M,fun _ x=>.inl x⟩
theorem Tu.refl (h:Cl w B p m s c):Tu w w B p m m s c:=⟨h,Chg.refl _ _,fun _ x=>.inl x⟩
theorem Tu.size (h:Tu w0 w B p m0 m s c):w0.heap.size<=w.heap.size:=h.chg.size
theorem Tu.trans (h:Tu w0 w B p m0 m s c) (g:Tu w w' B p m m' s' c'):Tu w0 w' B p m0 m' s' c':=
 ⟨g.cl,h.chg.trans g.chg (fun j M x=>by
  rcases h.nw j x with y | y
  ·exact y
  ·omega),fun j M=>by
  rcases g.nw j M with y | y
  ·exact h.nw j y
  ·exact .inr (Nat.le_trans h.size y)⟩
theorem Tu.below (h:Tu w0 w B p m0 m s c) (M:Below w.heap.size w w'):Tu w0 w' B p m0 m s c:=h.trans (.start h.cl M)
theorem Tu.more (h:Tu w0 w B p m0 m s c) (M:c<=c'):Tu w0 w B p m0 m s c':=⟨h.cl.more M,h.chg,h.nw⟩
theorem Tu.blk {g:Nat} {t:TypeId} {cs:Array Value} (h:Tu w0 w B p m0 m s c) (M:Blk w0 g t cs) (O:¬AO p m0 g):Blk w g t cs:=h.chg.blk M O
theorem Tu.not {g:Nat} (h:Tu w0 w B p m0 m s c) (M:¬AO p m0 g) (O:g<w0.heap.size):¬AO p m g:=fun x=>by
 rcases h.nw g x with y | y
 ·exact M y
 ·omega
theorem Cl.fresh (h:Cl w B p m s c) {g:Nat} (M:w.heap.size<=g):¬AO p m g:=fun x=>by have:=h.lt x;omega
theorem Tu.sl {v:Value} {l:L} (h:Tu w0 w B p m0 m s c) (hs:SlN (AO p m0) w0 v l):SlN (AO p m) w v l:=
 hs.keep h.chg (fun _ _ x=>x) (fun j M x=>by
  rcases h.nw j x with y | y
  ·exact y
  ·omega)
theorem Tu.made {v:Value} {l:L} (h:Tu w0 w B p m0 m s c) (hs:SlN (fun j=>j<w.heap.size) w' v l):SlN (AO p m) w' v l:=hs.mono (fun j _ x=>h.cl.lt x)
def Out (w0:World) (p:CP) (m:CM) (j:Nat):Prop:=j<w0.heap.size\/AO p m j
theorem Tu.o {v:Value} {l:L} {a:World} (h:Tu w0 w B p m0 m s c) (M:a.heap.size<=w0.heap.size) (hs:SlN (Out a p m0) w0 v l):SlN (Out a p m) w v l:=
 hs.keep h.chg (fun _ _ x=>.inr x) (fun j O x=>by
  rcases x with x | x
  ·exact .inl x
  ·rcases h.nw j x with y | y
   ·exact .inr y
   ·omega)
theorem Out.old {v:Value} {l:L} {a b:World} (M:a.heap.size<=b.heap.size) (hs:SlN (Out b p m) w v l):SlN (Out a p m) w v l:=hs.mono (fun j _ x=>by
 rcases x with x | x
 ·exact .inl (Nat.lt_of_lt_of_le x M)
 ·exact .inr x)
theorem Tu.put (h:Tu w0 w B p m0 m s c) {g:Nat} (Y:w0.heap.size<=g) (X:¬AO p m g) (M:Chg (fun j=>j=g) w w'):Tu w0 w' B p m0 m s c:=
 ⟨h.cl.chg M (fun j O x=>X (x▸O)),h.chg.trans M (fun j O x=>by omega),h.nw⟩
theorem Cl.not (h:Cl w B p m s c) {i i' j:Nat} (O:Pt p m i j) (M:i≠i'):¬Pt p m i' j:=fun x=>M (h.pa.dis i i' j O x)
theorem Cl.cell (h:Cl w B p m s c) (M:Chg (fun j=>j=p.k) w w') (Y:Blk w' p.k 94 (clA p {m with ov:=m'.ov} s')) (hl:s'.l=s.l) (Z:s'.vs=s.vs) (ho:OuR p {m with ov:=m'.ov} s'):Tu w w' B p m {m with ov:=m'.ov} s' c:=by
 have O:∀i,i≠0->∀j,Pt p m i j->¬j=p.k:=fun i hi j X e=>h.not (i':=0) X hi e
 refine⟨⟨⟨h.pa.dis,h.pa.lo,(h.pa.grow M.size).lt,Nat.le_trans h.pa.hB M.size⟩,Y,h.ca.chg M (O 2 (by decide)),h.li.trans hl.symm,h.box.chg M (O 1 (by decide)),h.bc,?_,h.sx.chg M (O 4 (by decide)),h.sy.chg M (O 5 (by decide)),ho⟩,M.mono (fun j _ x=>⟨0,x⟩),fun j X=>.inl X⟩;show Nm.Own w' B m.vv s'.vs;rw[Z];exact Cd h.vis M (O 3 (by decide))
theorem Cl.cache (h:Cl w B p m s c) {v':Value} {es':List En} {l:List It} (O:Chg (PT p.r m.v) w w') (hk:Ca w' B p.r v' es') (X:its es'=l) (Y:∀j,CO p.r v' es' j->CO p.r m.v m.es j\/w.heap.size<=j):Tu w w' B p m {m with v:=v',es:=es'} {s with l:=l} c:=by
 have hs:∀i,i≠2->∀j,Pt p m i j->¬PT p.r m.v j:=fun i X j M e=>h.not (i':=2) M X (Ca.VX e)
 have Z:Pa w' B p {m with v:=v',es:=es'}:=by
  refine h.pa.use 2 O.size Y (fun j M=>hk.own_lt M) (fun i j X M=>?_)
  match i,X,M with
  |0,_,M=>exact M
  |1,_,M=>exact M
  |3,_,M=>exact M
  |4,_,M=>exact M
  |5,_,M=>exact M
 refine⟨⟨Z,O.blk h.blk (hs 0 (by decide) _ rfl),hk,X,h.box.chg O (hs 1 (by decide)),h.bc,Cd h.vis O (hs 3 (by decide)),h.sx.chg O (hs 4 (by decide)),h.sy.chg O (hs 5 (by decide)),h.ou⟩,O.mono (fun j _ x=>⟨2,Ca.VX x⟩),fun j M=>?_⟩;obtain⟨i,M⟩:=M
 match i,M with
 |0,M=>exact .inl ⟨0,M⟩
 |1,M=>exact .inl ⟨1,M⟩
 |2,M=>exact(Y j M).imp (fun x=>⟨2,x⟩) id
 |3,M=>exact .inl ⟨3,M⟩
 |4,M=>exact .inl ⟨4,M⟩
 |5,M=>exact .inl ⟨5,M⟩
theorem Ij {b:Nat} {X O:Option Nat} (hs:Df w w' b X O) {j:Nat} (M:Ow b O j):Ow b X j\/w.heap.size<=j:=by
 rcases M with M | M
 ·exact .inl (.inl M)
 ·rcases hs.2 with e | ⟨_,g,Y,Z⟩
  ·exact .inl (.inr (e▸M))
  ·rw[Y] at M
   injection M with M;exact .inr (by omega)
theorem Cl.use_b (h:Cl w B p m s c) {X:Option Nat} {a o r:Nat} (Z:Box w' p.b p.ks X a o r) (hs:Df w w' p.b m.h X) (h1:a<=m.a+1) (h2:o<=m.o+1) (h3:r<=m.r+1):Tu w w' B p m {m with h:=X,a:=a,o:=o,r:=r} s (c+1):=by
 have O:∀i,i≠1->∀j,Pt p m i j->¬Ow p.b m.h j:=fun i Y j M e=>h.not (i':=1) M Y e
 have hp:Pa w' B p {m with h:=X,a:=a,o:=o,r:=r}:=by
  refine h.pa.use 1 hs.1.size (fun j M=>Ij hs M) (fun j M=>Z.own_lt j M) (fun i j Y M=>?_)
  match i,Y,M with
  |0,_,M=>exact M
  |2,_,M=>exact M
  |3,_,M=>exact M
  |4,_,M=>exact M
  |5,_,M=>exact M
 have aa:=h.bc;refine⟨⟨hp,hs.1.blk h.blk (O 0 (by decide) _ rfl),h.ca.chg hs.1 (O 2 (by decide)),h.li,Z,⟨by show a<=c+1;omega,by show o<=c+1;omega,by show r<=c+1;omega⟩,Cd h.vis hs.1 (O 3 (by decide)),(h.sx.chg hs.1 (O 4 (by decide))).more (Nat.le_succ _),(h.sy.chg hs.1 (O 5 (by decide))).more (Nat.le_succ _),h.ou⟩,hs.1.mono (fun j _ x=>⟨1,x⟩),fun j M=>?_⟩;obtain⟨i,M⟩:=M
 match i,M with
 |0,M=>exact .inl ⟨0,M⟩
 |1,M=>exact(Ij hs M).imp (fun x=>⟨1,x⟩) id
 |2,M=>exact .inl ⟨2,M⟩
 |3,M=>exact .inl ⟨3,M⟩
 |4,M=>exact .inl ⟨4,M⟩
 |5,M=>exact .inl ⟨5,M⟩
theorem Cl.use_x (h:Cl w B p m s c) {z:Ss} (Z:m.x=some z) {X:Option Nat} {a o r:Nat} (hb:Box w' z.b z.ks X a o r) (hs:Df w w' z.b z.h X) (h1:a<=z.a+1) (h2:o<=z.o+1) (h3:r<=z.r+1):Tu w w' B p m {m with x:=some ⟨z.b,z.ks,X,a,o,r⟩} s (c+1):=by
 have hn:∀i,i≠4->∀j,Pt p m i j->¬Ow z.b z.h j:=fun i hi j M e=>h.not (i':=4) M hi ⟨z,Z,e⟩
 have Y:∀j,SO (some ⟨z.b,z.ks,X,a,o,r⟩) j->SO m.x j\/w.heap.size<=j:=fun j M=>by
  obtain⟨q,O,M⟩:=M;injection O with O;subst O;exact(Ij hs M).imp (fun x=>⟨z,Z,x⟩) id
 have hp:Pa w' B p {m with x:=some ⟨z.b,z.ks,X,a,o,r⟩}:=by
  refine h.pa.use 4 hs.1.size Y (fun j M=>?_) (fun i j hi M=>?_)
  ·obtain⟨q,O,M⟩:=M
   injection O with O;subst O;exact hb.own_lt j M
  ·match i,hi,M with
   |0,_,M=>exact M
   |1,_,M=>exact M
   |2,_,M=>exact M
   |3,_,M=>exact M
   |5,_,M=>exact M
 have aa:=h.bc;have ab:=(h.sx z Z).2;refine⟨⟨hp,hs.1.blk h.blk (hn 0 (by decide) _ rfl),h.ca.chg hs.1 (hn 2 (by decide)),h.li,h.box.chg hs.1 (hn 1 (by decide)),⟨by show m.a<=c+1;omega,by show m.o<=c+1;omega,by show m.r<=c+1;omega⟩,Cd h.vis hs.1 (hn 3 (by decide)),fun q O=>?_,(h.sy.chg hs.1 (hn 5 (by decide))).more (Nat.le_succ _),?_⟩,hs.1.mono (fun j _ x=>⟨4,z,Z,x⟩),fun j M=>?_⟩
 ·injection O with O
  subst O;exact⟨hb,by show a<=c+1;omega,by show o<=c+1;omega,by show r<=c+1;omega⟩
 ·rcases h.ou with x | x | ⟨q,O,h4,h5⟩
  ·exact .inl x
  ·exact .inr (.inl x)
  ·rw[Z] at O
   injection O with O;subst O;exact .inr (.inr ⟨_,rfl,h4,h5⟩)
 ·obtain⟨i,M⟩:=M
  match i,M with
  |0,M=>exact .inl ⟨0,M⟩
  |1,M=>exact .inl ⟨1,M⟩
  |2,M=>exact .inl ⟨2,M⟩
  |3,M=>exact .inl ⟨3,M⟩
  |4,M=>exact(Y j M).imp (fun x=>⟨4,x⟩) id
  |5,M=>exact .inl ⟨5,M⟩
theorem Cl.use_y (h:Cl w B p m s c) {y':Option Ss} (O:Chg (SO m.y) w w') (hy:SxR w' y' (c+1)) (X:∀j,SO y' j->SO m.y j\/w.heap.size<=j):Tu w w' B p m {m with y:=y'} s (c+1):=by
 have Y:∀i,i≠5->∀j,Pt p m i j->¬SO m.y j:=fun i Z j M e=>h.not (i':=5) M Z e
 have hp:Pa w' B p {m with y:=y'}:=by
  refine h.pa.use 5 O.size X (fun j M=>hy.lt M) (fun i j Z M=>?_)
  match i,Z,M with
  |0,_,M=>exact M
  |1,_,M=>exact M
  |2,_,M=>exact M
  |3,_,M=>exact M
  |4,_,M=>exact M
  |5,Z,_=>exact absurd rfl Z
 have aa:=h.bc;refine⟨⟨hp,O.blk h.blk (Y 0 (by decide) _ rfl),h.ca.chg O (Y 2 (by decide)),h.li,h.box.chg O (Y 1 (by decide)),⟨by show m.a<=c+1;omega,by show m.o<=c+1;omega,by show m.r<=c+1;omega⟩,Cd h.vis O (Y 3 (by decide)),(h.sx.chg O (Y 4 (by decide))).more (Nat.le_succ _),hy,h.ou⟩,O.mono (fun j _ x=>⟨5,x⟩),fun j M=>?_⟩;obtain⟨i,M⟩:=M
 match i,M with
 |0,M=>exact .inl ⟨0,M⟩
 |1,M=>exact .inl ⟨1,M⟩
 |2,M=>exact .inl ⟨2,M⟩
 |3,M=>exact .inl ⟨3,M⟩
 |4,M=>exact .inl ⟨4,M⟩
 |5,M=>exact(X j M).imp (fun x=>⟨5,x⟩) id
theorem Cl.visit (h:Cl w B p m s c) {v':Value} {ls:List L} (O:Chg (fun j=>j=p.k\/m.vv.ownBlock=some j) w w') (Z:Blk w' p.k 94 (clA p {m with vv:=v'} {s with vs:=ls})) (X:Nm.Own w' B v' ls) (Y:∀j,v'.ownBlock=some j->m.vv.ownBlock=some j\/w.heap.size<=j):Tu w w' B p m {m with vv:=v'} {s with vs:=ls} c:=by
 have hs:∀i,i≠0->i≠3->∀j,Pt p m i j->¬(j=p.k\/m.vv.ownBlock=some j):=fun i h1 h2 j M e=>by
  rcases e with e | e
  ·exact h.not (i':=0) M h1 e
  ·exact h.not (i':=3) M h2 e
 have hp:Pa w' B p {m with vv:=v'}:=by
  refine h.pa.use 3 O.size Y (fun j M=>(X.lt j M).2) (fun i j hi M=>?_)
  match i,hi,M with
  |0,_,M=>exact M
  |1,_,M=>exact M
  |2,_,M=>exact M
  |4,_,M=>exact M
  |5,_,M=>exact M
 refine⟨⟨hp,Z,h.ca.chg O (hs 2 (by decide) (by decide)),h.li,h.box.chg O (hs 1 (by decide) (by decide)),h.bc,X,h.sx.chg O (hs 4 (by decide) (by decide)),h.sy.chg O (hs 5 (by decide) (by decide)),h.ou⟩,O.mono (fun j _ x=>by
  rcases x with x | x
  ·exact⟨0,x⟩
  ·exact⟨3,x⟩),fun j M=>?_⟩
 obtain⟨i,M⟩:=M
 match i,M with
 |0,M=>exact .inl ⟨0,M⟩
 |1,M=>exact .inl ⟨1,M⟩
 |2,M=>exact .inl ⟨2,M⟩
 |3,M=>exact(Y j M).imp (fun x=>⟨3,x⟩) id
 |4,M=>exact .inl ⟨4,M⟩
 |5,M=>exact .inl ⟨5,M⟩
end
end Cl
namespace Mc
open Go.RowKit Ae DerP DerR Ms
theorem Ik (t:UInt8) (p:L):0<(elem t p).length:=by rw[DC];omega
theorem Lc (l:L) (w:World) (X:l.length<=65535):Calls Tryz.prog 199 #[.string ⟨l.toArray⟩] w (Cg w (elem 27 l)):=
 (DerW.FH l w X).mono fun e w' h=>by obtain⟨v,rfl,M,O⟩:=h;exact Fo M (Ik _ _) O
theorem CQ (n:Int) (w:World):Calls Tryz.prog 176 #[.int .i64 n] w (Cg w (encI n)):=
 (DerW.Bt n w).mono fun e w' h=>by obtain⟨v,rfl,M,O⟩:=h;exact Fo M (Ik _ _) O
theorem DG (l:L) (A:Option Addr) (n c B:Nat) (w:World) (Z:Rd w B A (bvs l)) (M:n=l.length) (hB:B<=w.heap.size) (X:l.length<=65535):Calls Tryz.prog 192 #[.slice A n c] w (Cg w (elem 4 l)):=
 (DerW.Cq l A n c B w Z M hB X).mono fun e w' h=>by obtain⟨v,rfl,Y,O⟩:=h;exact Fo Y (Ik _ _) O
theorem Dd (t:UInt8) (ls:List L) (A:Option Addr) (m c B:Nat) (w:World) (Z:DerW.Rds w B A ls) (hm:m=ls.length) (hB:B<=w.heap.size) (O:ls.flatten.length<=65535) (X:ls.length<=1000000) :
  Calls Tryz.prog 174 #[.int .u8 t.toNat,.slice A m c] w (Cg w (elem t ls.flatten)):=
 (DerW.Ce t ls A m c B w Z hm hB O X).mono fun e w' h=>by obtain⟨v,rfl,Y,M⟩:=h;exact Fo Y (Ik _ _) M
theorem Cm (p:Pr) (w:World) (hp:prB p=true):Calls Tryz.prog 175 #[.agg #[.string ⟨p.1.toArray⟩,.string ⟨p.2.toArray⟩]] w (Cg w (prE p)):=by
 have X:=I ((Below.refl w.heap.size w).alloc Af (.cells #[.string ⟨p.1.toArray⟩,.string ⟨p.2.toArray⟩] 36));have M:=I (Blk.new w 36 #[.string ⟨p.1.toArray⟩,.string ⟨p.2.toArray⟩]);have b1:=DV hp;have b2:=Ay 27 p.1;have b3:=Ay 27 p.2;have T1:=I (fun w1=>Lc p.1 w1 (by omega));have T2:=I (fun w1=>Lc p.2 w1 (by omega));have HL:=I (show [elem 27 p.1,elem 27 p.2].flatten.length<=65535 by rw[CY];simp only[List.length_append];omega);have HE:=I (show prE p=elem 48 [elem 27 p.1,elem 27 p.2].flatten from rfl);obtain⟨l1,ah⟩:∃l,l=elem 27 p.1:=⟨_,rfl⟩;obtain⟨l2,af⟩:∃l,l=elem 27 p.2:=⟨_,rfl⟩;rw[<-ah] at T1 HL HE;rw[<-af] at T2 HL HE;rw[HE.o,CY];clear HE ah af b1 b2 b3 hp;go_enter Tryz.func175,Tryz.ntmps175
 go_wp2
 obtain⟨W,eW⟩:=Aj (w.alloc (.cells #[.string ⟨p.1.toArray⟩,.string ⟨p.2.toArray⟩] 36));rw[<-eW] at X M⊢;clear eW;replace M:=I (show Blk W.drew _ _ _ from M.o.drewN 1);replace X:=I (show Below _ _ W.drew from below_drewN X.o 1)
 go_region_held3 (fun w'=>w'.cell? ⟨w.heap.size,0,none⟩=some (.string ⟨p.1.toArray⟩)/\w'.cell? ⟨w.heap.size,1,none⟩=some (.string ⟨p.2.toArray⟩)) (first | exact⟨M.o.cell 0,M.o.cell 1⟩ | exact⟨(M.o.alloc _).cell 0,(M.o.alloc _).cell 1⟩) ((first
  |(go_at_call 199;(with_reducible refine Calls.mono (T1.o _) ?_);rintro e w1 ⟨⟨g1,c1,rfl,ak,aj,ae⟩,O⟩;clear T1;have Y:=I ae;replace M:=I (M.o.below O);replace X:=X.t O;clear O ae ak aj)
  |(go_at_call 199;(with_reducible refine Calls.mono (T2.o _) ?_);rintro e w2 ⟨⟨g2,c2,rfl,an,ao,Z⟩,O⟩;clear T2;replace Y:=I (AS Y.o O);have ai:=I Z;replace M:=I (M.o.below O);replace X:=X.t O;clear O Z an ao)
  |(go_at_call 174;refine Calls.mono (Dd 48 [l1,l2] _ 2 2 (w2.heap.size+1) _ (Hh Y.o ai.o) rfl (by simp) HL.o (by simp)) ?_;rintro e wz ⟨⟨gz,cz,rfl,ad,ag,ab⟩,O⟩;have aa:=(Below.refl w2.heap.size w2).alloc Af (.cells #[.slice (some ⟨g1,0,none⟩) l1.length c1,.slice (some ⟨g2,0,none⟩) l2.length c2] 25);have HG:=I (Ba (l:=elem 48 [l1,l2].flatten) ⟨⟨gz,cz,rfl,ad,ag,ab⟩,O⟩ (X.o.trans (aa.mono X.o.size)));rw[CY] at HG;replace M:=I ((M.o.alloc (.cells #[.slice (some ⟨g1,0,none⟩) l1.length c1,.slice (some ⟨g2,0,none⟩) l2.length c2] 25)).below O);clear aa ad ag ab O)))
 go_wp2
 go_ret;exact HG.o
theorem Ep (t:Tk) (A:Option Addr) (c:Nat) (w:World) (ht:tkB t=true) (hr:Rd w w.heap.size A (bvs t.b)):Calls Tryz.prog 191 #[.agg #[.string ⟨t.s.1.toArray⟩,.string ⟨t.s.2.toArray⟩,.int .i64 t.k,.slice A t.b.length c]] w (Cg w (tkE t)):=by
 have X:=I ((Below.refl w.heap.size w).alloc Af (.cells #[.string ⟨t.s.1.toArray⟩,.string ⟨t.s.2.toArray⟩,.int .i64 t.k,.slice A t.b.length c] 53));have M:=I (Blk.new w 53 #[.string ⟨t.s.1.toArray⟩,.string ⟨t.s.2.toArray⟩,.int .i64 t.k,.slice A t.b.length c]);have hp:=DK ht;have b1:=(AV hp.1).1;have b2:=AF t.k;have b3:=Ay 4 t.b;have T1:=I (fun Z=>Cm t.s Z hp.1);have T2:=I (fun Z=>CQ t.k Z);have T3:=I (fun Z (h:Below w.heap.size w Z)=>DG t.b A t.b.length c Z.heap.size Z ((hr.below h).more h.size) rfl Af (by omega));have HL:=I (show [prE t.s,encI t.k,elem 4 t.b].flatten.length<=65535 by rw[DI];simp only[List.length_append];omega);have HE:=I (show tkE t=elem 97 [prE t.s,encI t.k,elem 4 t.b].flatten from rfl);obtain⟨l1,ak⟩:∃l,l=prE t.s:=⟨_,rfl⟩;obtain⟨l2,ai⟩:∃l,l=encI t.k:=⟨_,rfl⟩;obtain⟨l3,af⟩:∃l,l=elem 4 t.b:=⟨_,rfl⟩;rw[<-ak] at T1 HL HE;rw[<-ai] at T2 HL HE;rw[<-af] at T3 HL HE;rw[HE.o,DI];clear HE ak ai af hp b1 b2 b3 ht hr;go_enter Tryz.func191,Tryz.ntmps191
 go_wp2
 obtain⟨W,eW⟩:=Aj (w.alloc (.cells #[.string ⟨t.s.1.toArray⟩,.string ⟨t.s.2.toArray⟩,.int .i64 t.k,.slice A t.b.length c] 53));rw[<-eW] at X M⊢;clear eW;replace M:=I (show Blk W.drew _ _ _ from M.o.drewN 1);replace X:=I (show Below _ _ W.drew from below_drewN X.o 1)
 go_region_held3 (fun w'=>w'.cell? ⟨w.heap.size,0,none⟩=some (.string ⟨t.s.1.toArray⟩)/\w'.cell? ⟨w.heap.size,1,none⟩=some (.string ⟨t.s.2.toArray⟩)/\w'.cell? ⟨w.heap.size,2,none⟩=some (.int .i64 t.k)/\w'.cell? ⟨w.heap.size,3,none⟩=some (.slice A t.b.length c)) (first | exact⟨M.o.cell 0,M.o.cell 1,M.o.cell 2,M.o.cell 3⟩ | exact⟨(M.o.alloc _).cell 0,(M.o.alloc _).cell 1,(M.o.alloc _).cell 2,(M.o.alloc _).cell 3⟩) ((first
  |(go_at_call 175;(with_reducible refine Calls.mono (T1.o _) ?_);rintro e Z ⟨⟨g1,c1,rfl,au,ar,ah⟩,O⟩;clear T1;have Y:=I ah;replace M:=I (M.o.below O);replace X:=X.t O;clear O ah au ar)
  |(go_at_call 176;(with_reducible refine Calls.mono (T2.o _) ?_);rintro e w2 ⟨⟨g2,c2,rfl,av,ay,ab⟩,O⟩;clear T2;replace Y:=I (AS Y.o O);have aa:=I ab;replace M:=I (M.o.below O);replace X:=X.t O;clear O ab av ay)
  |(go_at_call 192;(with_reducible refine Calls.mono (T3.o _ X.o) ?_);rintro e w3 ⟨⟨g3,c3,rfl,ao,ax,an⟩,O⟩;clear T3;replace Y:=I (AS Y.o O);replace aa:=I (AS aa.o O);have aw:=I an;replace M:=I (M.o.below O);replace X:=X.t O;clear O an ao ax)
  |(go_at_call 174;refine Calls.mono (Dd 97 [l1,l2,l3] _ 3 3 (w3.heap.size+1) _ (Ft Y.o aa.o aw.o) rfl (by simp) HL.o (by simp)) ?_;rintro e wz ⟨⟨gz,cz,rfl,ag,aj,ae⟩,O⟩;have ad:=(Below.refl w3.heap.size w3).alloc Af (.cells #[.slice (some ⟨g1,0,none⟩) l1.length c1,.slice (some ⟨g2,0,none⟩) l2.length c2,.slice (some ⟨g3,0,none⟩) l3.length c3] 25);have HG:=I (Ba (l:=elem 97 [l1,l2,l3].flatten) ⟨⟨gz,cz,rfl,ag,aj,ae⟩,O⟩ (X.o.trans (ad.mono X.o.size)));rw[DI] at HG;replace M:=I ((M.o.alloc (.cells #[.slice (some ⟨g1,0,none⟩) l1.length c1,.slice (some ⟨g2,0,none⟩) l2.length c2,.slice (some ⟨g3,0,none⟩) l3.length c3] 25)).below O);clear ad ag aj ae O)))
 go_wp2
 go_ret;exact HG.o
theorem Ld (a:An) (w:World) (ha:anB a=true):Calls Tryz.prog 140 #[.agg #[.string ⟨a.c.1.toArray⟩,.string ⟨a.c.2.toArray⟩,.int .i64 a.t,.int .i64 a.q]] w (Cg w (anE a)):=by
 have Y:=I ((Below.refl w.heap.size w).alloc Af (.cells #[.string ⟨a.c.1.toArray⟩,.string ⟨a.c.2.toArray⟩,.int .i64 a.t,.int .i64 a.q] 73));have M:=I (Blk.new w 73 #[.string ⟨a.c.1.toArray⟩,.string ⟨a.c.2.toArray⟩,.int .i64 a.t,.int .i64 a.q]);have hp:prB a.c=true/\tmB a.t=true/\tmB a.q=true:=by simpa [anB] using ha
 have b1:=(AV hp.1).1;have b2:=AF a.t;have b3:=AF a.q;have T1:=I (fun w1=>Cm a.c w1 hp.1);have T2:=I (fun w1=>CQ a.t w1);have T3:=I (fun w1=>CQ a.q w1);have HL:=I (show [prE a.c,encI a.t,encI a.q].flatten.length<=65535 by rw[DI];simp only[List.length_append];omega);have HE:=I (show anE a=elem 98 [prE a.c,encI a.t,encI a.q].flatten from rfl);obtain⟨l1,aj⟩:∃l,l=prE a.c:=⟨_,rfl⟩;obtain⟨l2,ah⟩:∃l,l=encI a.t:=⟨_,rfl⟩;obtain⟨l3,ae⟩:∃l,l=encI a.q:=⟨_,rfl⟩;rw[<-aj] at T1 HL HE;rw[<-ah] at T2 HL HE;rw[<-ae] at T3 HL HE;rw[HE.o,DI];clear HE aj ah ae hp b1 b2 b3 ha;go_enter Tryz.func140,Tryz.ntmps140
 go_wp2
 obtain⟨W,eW⟩:=Aj (w.alloc (.cells #[.string ⟨a.c.1.toArray⟩,.string ⟨a.c.2.toArray⟩,.int .i64 a.t,.int .i64 a.q] 73));rw[<-eW] at Y M⊢;clear eW;replace M:=I (show Blk W.drew _ _ _ from M.o.drewN 1);replace Y:=I (show Below _ _ W.drew from below_drewN Y.o 1)
 go_region_held3 (fun w'=>w'.cell? ⟨w.heap.size,0,none⟩=some (.string ⟨a.c.1.toArray⟩)/\w'.cell? ⟨w.heap.size,1,none⟩=some (.string ⟨a.c.2.toArray⟩)/\w'.cell? ⟨w.heap.size,2,none⟩=some (.int .i64 a.t)/\w'.cell? ⟨w.heap.size,3,none⟩=some (.int .i64 a.q)) (first | exact⟨M.o.cell 0,M.o.cell 1,M.o.cell 2,M.o.cell 3⟩ | exact⟨(M.o.alloc _).cell 0,(M.o.alloc _).cell 1,(M.o.alloc _).cell 2,(M.o.alloc _).cell 3⟩) ((first
  |(go_at_call 175;(with_reducible refine Calls.mono (T1.o _) ?_);rintro e w1 ⟨⟨g1,c1,rfl,ar,ao,ag⟩,O⟩;clear T1;have X:=I ag;replace M:=I (M.o.below O);replace Y:=Y.t O;clear O ag ar ao)
  |(go_at_call 176;(with_reducible refine Calls.mono (T2.o _) ?_);rintro e w2 ⟨⟨g2,c2,rfl,au,ax,aa⟩,O⟩;clear T2;replace X:=I (AS X.o O);have Z:=I aa;replace M:=I (M.o.below O);replace Y:=Y.t O;clear O aa au ax)
  |(go_at_call 176;(with_reducible refine Calls.mono (T3.o _) ?_);rintro e w3 ⟨⟨g3,c3,rfl,an,aw,ak⟩,O⟩;clear T3;replace X:=I (AS X.o O);replace Z:=I (AS Z.o O);have av:=I ak;replace M:=I (M.o.below O);replace Y:=Y.t O;clear O ak an aw)
  |(go_at_call 174;refine Calls.mono (Dd 98 [l1,l2,l3] _ 3 3 (w3.heap.size+1) _ (Ft X.o Z.o av.o) rfl (by simp) HL.o (by simp)) ?_;rintro e wz ⟨⟨gz,cz,rfl,af,ai,ad⟩,O⟩;have ab:=(Below.refl w3.heap.size w3).alloc Af (.cells #[.slice (some ⟨g1,0,none⟩) l1.length c1,.slice (some ⟨g2,0,none⟩) l2.length c2,.slice (some ⟨g3,0,none⟩) l3.length c3] 25);have HG:=I (Ba (l:=elem 98 [l1,l2,l3].flatten) ⟨⟨gz,cz,rfl,af,ai,ad⟩,O⟩ (Y.o.trans (ab.mono Y.o.size)));rw[DI] at HG;replace M:=I ((M.o.alloc (.cells #[.slice (some ⟨g1,0,none⟩) l1.length c1,.slice (some ⟨g2,0,none⟩) l2.length c2,.slice (some ⟨g3,0,none⟩) l3.length c3] 25)).below O);clear ab af ai ad O)))
 go_wp2
 go_ret;exact HG.o
theorem QX (q:As) (w:World) (ha:asB q=true):Calls Tryz.prog 159 #[.agg #[.string ⟨q.c.1.toArray⟩,.string ⟨q.c.2.toArray⟩,.string ⟨q.s.1.toArray⟩,.string ⟨q.s.2.toArray⟩,.int .i64 q.t,.int .i64 q.no]] w (Cg w (asE q)):=by
 have Y:=I ((Below.refl w.heap.size w).alloc Af (.cells #[.string ⟨q.c.1.toArray⟩,.string ⟨q.c.2.toArray⟩,.string ⟨q.s.1.toArray⟩,.string ⟨q.s.2.toArray⟩,.int .i64 q.t,.int .i64 q.no] 51));have O:=I (Blk.new w 51 #[.string ⟨q.c.1.toArray⟩,.string ⟨q.c.2.toArray⟩,.string ⟨q.s.1.toArray⟩,.string ⟨q.s.2.toArray⟩,.int .i64 q.t,.int .i64 q.no]);have hp:prB q.c=true/\prB q.s=true/\tmB q.t=true/\tmB q.no=true:=by simpa [asB] using ha
 have b1:=(AV hp.1).1;have b2:=(AV hp.2.1).1;have b3:=AF q.t;have b4:=AF q.no;have T1:=I (fun w1=>Cm q.c w1 hp.1);have T2:=I (fun w1=>Cm q.s w1 hp.2.1);have T3:=I (fun w1=>CQ q.t w1);have T4:=I (fun w1=>CQ q.no w1);have HL:=I (show [prE q.c,prE q.s,encI q.t,encI q.no].flatten.length<=65535 by rw[IW];simp only[List.length_append];omega);have HE:=I (show asE q=elem 106 [prE q.c,prE q.s,encI q.t,encI q.no].flatten from rfl);obtain⟨l1,ao⟩:∃l,l=prE q.c:=⟨_,rfl⟩;obtain⟨l2,an⟩:∃l,l=prE q.s:=⟨_,rfl⟩;obtain⟨l3,ae⟩:∃l,l=encI q.t:=⟨_,rfl⟩;obtain⟨l4,ab⟩:∃l,l=encI q.no:=⟨_,rfl⟩;rw[<-ao] at T1 HL HE;rw[<-an] at T2 HL HE;rw[<-ae] at T3 HL HE;rw[<-ab] at T4 HL HE;rw[HE.o,IW];clear HE ao an ae ab hp b1 b2 b3 b4 ha;go_enter Tryz.func159,Tryz.ntmps159
 go_wp2
 obtain⟨W,eW⟩:=Aj (w.alloc (.cells #[.string ⟨q.c.1.toArray⟩,.string ⟨q.c.2.toArray⟩,.string ⟨q.s.1.toArray⟩,.string ⟨q.s.2.toArray⟩,.int .i64 q.t,.int .i64 q.no] 51));rw[<-eW] at Y O⊢;clear eW;replace O:=I (show Blk W.drew _ _ _ from O.o.drewN 1);replace Y:=I (show Below _ _ W.drew from below_drewN Y.o 1)
 go_region_held3 (fun w'=>w'.cell? ⟨w.heap.size,0,none⟩=some (.string ⟨q.c.1.toArray⟩)/\w'.cell? ⟨w.heap.size,1,none⟩=some (.string ⟨q.c.2.toArray⟩)/\w'.cell? ⟨w.heap.size,2,none⟩=some (.string ⟨q.s.1.toArray⟩)/\w'.cell? ⟨w.heap.size,3,none⟩=some (.string ⟨q.s.2.toArray⟩)/\w'.cell? ⟨w.heap.size,4,none⟩=some (.int .i64 q.t)/\w'.cell? ⟨w.heap.size,5,none⟩=some (.int .i64 q.no)) (first | exact⟨O.o.cell 0,O.o.cell 1,O.o.cell 2,O.o.cell 3,O.o.cell 4,O.o.cell 5⟩ | exact⟨(O.o.alloc _).cell 0,(O.o.alloc _).cell 1,(O.o.alloc _).cell 2,(O.o.alloc _).cell 3,(O.o.alloc _).cell 4,(O.o.alloc _).cell 5⟩) ((first
  |(go_at_call 175;(with_reducible refine Calls.mono (T1.o _) ?_);rintro e w1 ⟨⟨g1,c1,rfl,aw,aB,ag⟩,M⟩;clear T1;have X:=I ag;replace O:=I (O.o.below M);replace Y:=Y.t M;clear M ag aw aB)
  |(go_at_call 175;(with_reducible refine Calls.mono (T2.o _) ?_);rintro e w2 ⟨⟨g2,c2,rfl,ax,az,ai⟩,M⟩;clear T2;replace X:=I (AS X.o M);have Z:=I ai;replace O:=I (O.o.below M);replace Y:=Y.t M;clear M ai ax az)
  |(go_at_call 176;(with_reducible refine Calls.mono (T3.o _) ?_);rintro e w3 ⟨⟨g3,c3,rfl,au,aC,ar⟩,M⟩;clear T3;replace X:=I (AS X.o M);replace Z:=I (AS Z.o M);have aa:=I ar;replace O:=I (O.o.below M);replace Y:=Y.t M;clear M ar au aC)
  |(go_at_call 176;(with_reducible refine Calls.mono (T4.o _) ?_);rintro e w4 ⟨⟨g4,c4,rfl,ay,aA,af⟩,M⟩;clear T4;replace X:=I (AS X.o M);replace Z:=I (AS Z.o M);replace aa:=I (AS aa.o M);have av:=I af;replace O:=I (O.o.below M);replace Y:=Y.t M;clear M af ay aA)
  |(go_at_call 174;refine Calls.mono (Dd 106 [l1,l2,l3,l4] _ 4 4 (w4.heap.size+1) _ (Nh X.o Z.o aa.o av.o) rfl (by simp) HL.o (by simp)) ?_;rintro e wz ⟨⟨gz,cz,rfl,ak,ah,aj⟩,M⟩;have ad:=(Below.refl w4.heap.size w4).alloc Af (.cells #[.slice (some ⟨g1,0,none⟩) l1.length c1,.slice (some ⟨g2,0,none⟩) l2.length c2,.slice (some ⟨g3,0,none⟩) l3.length c3,.slice (some ⟨g4,0,none⟩) l4.length c4] 25);have HG:=I (Ba (l:=elem 106 [l1,l2,l3,l4].flatten) ⟨⟨gz,cz,rfl,ak,ah,aj⟩,M⟩ (Y.o.trans (ad.mono Y.o.size)));rw[IW] at HG;replace O:=I ((O.o.alloc (.cells #[.slice (some ⟨g1,0,none⟩) l1.length c1,.slice (some ⟨g2,0,none⟩) l2.length c2,.slice (some ⟨g3,0,none⟩) l3.length c3,.slice (some ⟨g4,0,none⟩) l4.length c4] 25)).below M);clear ad ak ah aj M)))
 go_wp2
 go_ret;exact HG.o
theorem QY (q:Tg) (A1 A2:Option Addr) (c1 c2:Nat) (w:World) (ha:tgB q=true) (aa:Rd w w.heap.size A1 (bvs q.t.b)) (ad:Rd w w.heap.size A2 (bvs q.a)):Calls Tryz.prog 160 #[.agg #[.string ⟨q.t.s.1.toArray⟩,.string ⟨q.t.s.2.toArray⟩,.int .i64 q.t.k,.slice A1 q.t.b.length c1,.slice A2 q.a.length c2,.string ⟨q.s.1.toArray⟩,.string ⟨q.s.2.toArray⟩,.int .i64 q.u,.int .i64 q.no]] w (Cg w (tgE q)):=by
 have Y:=I ((Below.refl w.heap.size w).alloc Af (.cells #[.string ⟨q.t.s.1.toArray⟩,.string ⟨q.t.s.2.toArray⟩,.int .i64 q.t.k,.slice A1 q.t.b.length c1,.slice A2 q.a.length c2,.string ⟨q.s.1.toArray⟩,.string ⟨q.s.2.toArray⟩,.int .i64 q.u,.int .i64 q.no] 55));have O:=I (Blk.new w 55 #[.string ⟨q.t.s.1.toArray⟩,.string ⟨q.t.s.2.toArray⟩,.int .i64 q.t.k,.slice A1 q.t.b.length c1,.slice A2 q.a.length c2,.string ⟨q.s.1.toArray⟩,.string ⟨q.s.2.toArray⟩,.int .i64 q.u,.int .i64 q.no]);have hp:tkB q.t=true/\Bv q.a=true/\prB q.s=true/\tmB q.u=true/\tmB q.no=true:=by simpa [tgB] using ha
 have b1:=(BV hp.1).1;have b2:=Ay 4 q.a;have b3:=(AV hp.2.2.1).1;have b4:=AF q.u;have b5:=AF q.no;have b6:=Bd hp.2.1;have T1:=I (fun w1 (h:Below w.heap.size w w1)=>Ep q.t A1 c1 w1 hp.1 ((aa.below h).more h.size));have T2:=I (fun w1 (h:Below w.heap.size w w1)=>DG q.a A2 q.a.length c2 w1.heap.size w1 ((ad.below h).more h.size) rfl Af (by omega));have T3:=I (fun w1=>Cm q.s w1 hp.2.2.1);have T4:=I (fun w1=>CQ q.u w1);have T5:=I (fun w1=>CQ q.no w1);have HL:=I (show [tkE q.t,elem 4 q.a,prE q.s,encI q.u,encI q.no].flatten.length<=65535 by rw[Ef];simp only[List.length_append];omega);have HE:=I (show tgE q=elem 108 [tkE q.t,elem 4 q.a,prE q.s,encI q.u,encI q.no].flatten from rfl);obtain⟨l1,av⟩:∃l,l=tkE q.t:=⟨_,rfl⟩;obtain⟨l2,au⟩:∃l,l=elem 4 q.a:=⟨_,rfl⟩;obtain⟨l3,ah⟩:∃l,l=prE q.s:=⟨_,rfl⟩;obtain⟨l4,af⟩:∃l,l=encI q.u:=⟨_,rfl⟩;obtain⟨l5,an⟩:∃l,l=encI q.no:=⟨_,rfl⟩;rw[<-av] at T1 HL HE;rw[<-au] at T2 HL HE;rw[<-ah] at T3 HL HE;rw[<-af] at T4 HL HE;rw[<-an] at T5 HL HE;rw[HE.o,Ef];clear HE av au ah af an hp b1 b2 b3 b4 b5 b6 ha aa ad;go_enter Tryz.func160,Tryz.ntmps160
 go_wp2
 obtain⟨W,eW⟩:=Aj (w.alloc (.cells #[.string ⟨q.t.s.1.toArray⟩,.string ⟨q.t.s.2.toArray⟩,.int .i64 q.t.k,.slice A1 q.t.b.length c1,.slice A2 q.a.length c2,.string ⟨q.s.1.toArray⟩,.string ⟨q.s.2.toArray⟩,.int .i64 q.u,.int .i64 q.no] 55));rw[<-eW] at Y O⊢;clear eW;replace O:=I (show Blk W.drew _ _ _ from O.o.drewN 1);replace Y:=I (show Below _ _ W.drew from below_drewN Y.o 1)
 go_region_held3 (fun w'=>w'.cell? ⟨w.heap.size,0,none⟩=some (.string ⟨q.t.s.1.toArray⟩)/\w'.cell? ⟨w.heap.size,1,none⟩=some (.string ⟨q.t.s.2.toArray⟩)/\w'.cell? ⟨w.heap.size,2,none⟩=some (.int .i64 q.t.k)/\w'.cell? ⟨w.heap.size,3,none⟩=some (.slice A1 q.t.b.length c1)/\w'.cell? ⟨w.heap.size,4,none⟩=some (.slice A2 q.a.length c2)/\w'.cell? ⟨w.heap.size,5,none⟩=some (.string ⟨q.s.1.toArray⟩)/\w'.cell? ⟨w.heap.size,6,none⟩=some (.string ⟨q.s.2.toArray⟩)/\w'.cell? ⟨w.heap.size,7,none⟩=some (.int .i64 q.u)/\w'.cell? ⟨w.heap.size,8,none⟩=some (.int .i64 q.no)) (first | exact⟨O.o.cell 0,O.o.cell 1,O.o.cell 2,O.o.cell 3,O.o.cell 4,O.o.cell 5,O.o.cell 6,O.o.cell 7,O.o.cell 8⟩ | exact⟨(O.o.alloc _).cell 0,(O.o.alloc _).cell 1,(O.o.alloc _).cell 2,(O.o.alloc _).cell 3,(O.o.alloc _).cell 4,(O.o.alloc _).cell 5,(O.o.alloc _).cell 6,(O.o.alloc _).cell 7,(O.o.alloc _).cell 8⟩) ((first
  |(go_at_call 191;(with_reducible refine Calls.mono (T1.o _ Y.o) ?_);rintro e w1 ⟨⟨g1,c1,rfl,ay,aG,aa⟩,M⟩;clear T1;have X:=I aa;replace O:=I (O.o.below M);replace Y:=Y.t M;clear M aa ay aG)
  |(go_at_call 192;(with_reducible refine Calls.mono (T2.o _ Y.o) ?_);rintro e w2 ⟨⟨g2,c2,rfl,az,aD,ad⟩,M⟩;clear T2;replace X:=I (AS X.o M);have Z:=I ad;replace O:=I (O.o.below M);replace Y:=Y.t M;clear M ad az aD)
  |(go_at_call 175;(with_reducible refine Calls.mono (T3.o _) ?_);rintro e w3 ⟨⟨g3,c3,rfl,ax,aH,aw⟩,M⟩;clear T3;replace X:=I (AS X.o M);replace Z:=I (AS Z.o M);have ab:=I aw;replace O:=I (O.o.below M);replace Y:=Y.t M;clear M aw ax aH)
  |(go_at_call 176;(with_reducible refine Calls.mono (T4.o _) ?_);rintro e w4 ⟨⟨g4,c4,rfl,aB,aE,ai⟩,M⟩;clear T4;replace X:=I (AS X.o M);replace Z:=I (AS Z.o M);replace ab:=I (AS ab.o M);have ae:=I ai;replace O:=I (O.o.below M);replace Y:=Y.t M;clear M ai aB aE)
  |(go_at_call 176;(with_reducible refine Calls.mono (T5.o _) ?_);rintro e w5 ⟨⟨g5,c5,rfl,aA,aF,aj⟩,M⟩;clear T5;replace X:=I (AS X.o M);replace Z:=I (AS Z.o M);replace ab:=I (AS ab.o M);replace ae:=I (AS ae.o M);have aC:=I aj;replace O:=I (O.o.below M);replace Y:=Y.t M;clear M aj aA aF)
  |(go_at_call 174;refine Calls.mono (Dd 108 [l1,l2,l3,l4,l5] _ 5 5 (w5.heap.size+1) _ (GF X.o Z.o ab.o ae.o aC.o) rfl (by simp) HL.o (by simp)) ?_;rintro e wz ⟨⟨gz,cz,rfl,ar,ak,ao⟩,M⟩;have ag:=(Below.refl w5.heap.size w5).alloc Af (.cells #[.slice (some ⟨g1,0,none⟩) l1.length c1,.slice (some ⟨g2,0,none⟩) l2.length c2,.slice (some ⟨g3,0,none⟩) l3.length c3,.slice (some ⟨g4,0,none⟩) l4.length c4,.slice (some ⟨g5,0,none⟩) l5.length c5] 25);have HG:=I (Ba (l:=elem 108 [l1,l2,l3,l4,l5].flatten) ⟨⟨gz,cz,rfl,ar,ak,ao⟩,M⟩ (Y.o.trans (ag.mono Y.o.size)));rw[Ef] at HG;replace O:=I ((O.o.alloc (.cells #[.slice (some ⟨g1,0,none⟩) l1.length c1,.slice (some ⟨g2,0,none⟩) l2.length c2,.slice (some ⟨g3,0,none⟩) l3.length c3,.slice (some ⟨g4,0,none⟩) l4.length c4,.slice (some ⟨g5,0,none⟩) l5.length c5] 25)).below M);clear ag ar ak ao M)))
 go_wp2
 go_ret;exact HG.o
theorem QZ (q:Re) (A1 A2:Option Addr) (c1 c2:Nat) (w:World) (ha:reB q=true) (Z:Rd w w.heap.size A1 (bvs q.t.b)) (Y:Rd w w.heap.size A2 (bvs q.b)):Calls Tryz.prog 161 #[.agg #[.string ⟨q.c.1.toArray⟩,.string ⟨q.c.2.toArray⟩,.string ⟨q.t.s.1.toArray⟩,.string ⟨q.t.s.2.toArray⟩,.int .i64 q.t.k,.slice A1 q.t.b.length c1,.slice A2 q.b.length c2]] w (Cg w (reE q)):=by
 have X:=I ((Below.refl w.heap.size w).alloc Af (.cells #[.string ⟨q.c.1.toArray⟩,.string ⟨q.c.2.toArray⟩,.string ⟨q.t.s.1.toArray⟩,.string ⟨q.t.s.2.toArray⟩,.int .i64 q.t.k,.slice A1 q.t.b.length c1,.slice A2 q.b.length c2] 57));have M:=I (Blk.new w 57 #[.string ⟨q.c.1.toArray⟩,.string ⟨q.c.2.toArray⟩,.string ⟨q.t.s.1.toArray⟩,.string ⟨q.t.s.2.toArray⟩,.int .i64 q.t.k,.slice A1 q.t.b.length c1,.slice A2 q.b.length c2]);have hp:prB q.c=true/\tkB q.t=true/\Bv q.b=true:=by simpa [reB] using ha
 have b1:=(AV hp.1).1;have b2:=(BV hp.2.1).1;have b3:=Ay 4 q.b;have b6:=Bd hp.2.2;have T1:=I (fun w1=>Cm q.c w1 hp.1);have T2:=I (fun w1 (h:Below w.heap.size w w1)=>Ep q.t A1 c1 w1 hp.2.1 ((Z.below h).more h.size));have T3:=I (fun w1 (h:Below w.heap.size w w1)=>DG q.b A2 q.b.length c2 w1.heap.size w1 ((Y.below h).more h.size) rfl Af (by omega));have HL:=I (show [prE q.c,tkE q.t,elem 4 q.b].flatten.length<=65535 by rw[DI];simp only[List.length_append];omega);have HE:=I (show reE q=elem 107 [prE q.c,tkE q.t,elem 4 q.b].flatten from rfl);obtain⟨l1,aj⟩:∃l,l=prE q.c:=⟨_,rfl⟩;obtain⟨l2,ah⟩:∃l,l=tkE q.t:=⟨_,rfl⟩;obtain⟨l3,af⟩:∃l,l=elem 4 q.b:=⟨_,rfl⟩;rw[<-aj] at T1 HL HE;rw[<-ah] at T2 HL HE;rw[<-af] at T3 HL HE;rw[HE.o,DI];clear HE aj ah af hp b1 b2 b3 b6 ha Z Y;go_enter Tryz.func161,Tryz.ntmps161
 go_wp2
 obtain⟨W,eW⟩:=Aj (w.alloc (.cells #[.string ⟨q.c.1.toArray⟩,.string ⟨q.c.2.toArray⟩,.string ⟨q.t.s.1.toArray⟩,.string ⟨q.t.s.2.toArray⟩,.int .i64 q.t.k,.slice A1 q.t.b.length c1,.slice A2 q.b.length c2] 57));rw[<-eW] at X M⊢;clear eW;replace M:=I (show Blk W.drew _ _ _ from M.o.drewN 1);replace X:=I (show Below _ _ W.drew from below_drewN X.o 1)
 go_region_held3 (fun w'=>w'.cell? ⟨w.heap.size,0,none⟩=some (.string ⟨q.c.1.toArray⟩)/\w'.cell? ⟨w.heap.size,1,none⟩=some (.string ⟨q.c.2.toArray⟩)/\w'.cell? ⟨w.heap.size,2,none⟩=some (.string ⟨q.t.s.1.toArray⟩)/\w'.cell? ⟨w.heap.size,3,none⟩=some (.string ⟨q.t.s.2.toArray⟩)/\w'.cell? ⟨w.heap.size,4,none⟩=some (.int .i64 q.t.k)/\w'.cell? ⟨w.heap.size,5,none⟩=some (.slice A1 q.t.b.length c1)/\w'.cell? ⟨w.heap.size,6,none⟩=some (.slice A2 q.b.length c2)) (first | exact⟨M.o.cell 0,M.o.cell 1,M.o.cell 2,M.o.cell 3,M.o.cell 4,M.o.cell 5,M.o.cell 6⟩ | exact⟨(M.o.alloc _).cell 0,(M.o.alloc _).cell 1,(M.o.alloc _).cell 2,(M.o.alloc _).cell 3,(M.o.alloc _).cell 4,(M.o.alloc _).cell 5,(M.o.alloc _).cell 6⟩) ((first
  |(go_at_call 175;(with_reducible refine Calls.mono (T1.o _) ?_);rintro e w1 ⟨⟨g1,c1,rfl,ar,ao,Z⟩,O⟩;clear T1;have aa:=I Z;replace M:=I (M.o.below O);replace X:=X.t O;clear O Z ar ao)
  |(go_at_call 191;(with_reducible refine Calls.mono (T2.o _ X.o) ?_);rintro e w2 ⟨⟨g2,c2,rfl,au,ax,Y⟩,O⟩;clear T2;replace aa:=I (AS aa.o O);have ab:=I Y;replace M:=I (M.o.below O);replace X:=X.t O;clear O Y au ax)
  |(go_at_call 192;(with_reducible refine Calls.mono (T3.o _ X.o) ?_);rintro e w3 ⟨⟨g3,c3,rfl,an,aw,ak⟩,O⟩;clear T3;replace aa:=I (AS aa.o O);replace ab:=I (AS ab.o O);have av:=I ak;replace M:=I (M.o.below O);replace X:=X.t O;clear O ak an aw)
  |(go_at_call 174;refine Calls.mono (Dd 107 [l1,l2,l3] _ 3 3 (w3.heap.size+1) _ (Ft aa.o ab.o av.o) rfl (by simp) HL.o (by simp)) ?_;rintro e wz ⟨⟨gz,cz,rfl,ag,ai,ae⟩,O⟩;have ad:=(Below.refl w3.heap.size w3).alloc Af (.cells #[.slice (some ⟨g1,0,none⟩) l1.length c1,.slice (some ⟨g2,0,none⟩) l2.length c2,.slice (some ⟨g3,0,none⟩) l3.length c3] 25);have HG:=I (Ba (l:=elem 107 [l1,l2,l3].flatten) ⟨⟨gz,cz,rfl,ag,ai,ae⟩,O⟩ (X.o.trans (ad.mono X.o.size)));rw[DI] at HG;replace M:=I ((M.o.alloc (.cells #[.slice (some ⟨g1,0,none⟩) l1.length c1,.slice (some ⟨g2,0,none⟩) l2.length c2,.slice (some ⟨g3,0,none⟩) l3.length c3] 25)).below O);clear ad ag ai ae O)))
 go_wp2
 go_ret;exact HG.o
theorem Ra (q:Ap) (A1 A2:Option Addr) (c1 c2:Nat) (w:World) (ha:apB q=true) (Y:Rd w w.heap.size A1 (bvs q.t.b)) (X:Rd w w.heap.size A2 (bvs q.a)):Calls Tryz.prog 162 #[.agg #[.string ⟨q.t.s.1.toArray⟩,.string ⟨q.t.s.2.toArray⟩,.int .i64 q.t.k,.slice A1 q.t.b.length c1,.slice A2 q.a.length c2]] w (Cg w (apE q)):=by
 have Z:=I ((Below.refl w.heap.size w).alloc Af (.cells #[.string ⟨q.t.s.1.toArray⟩,.string ⟨q.t.s.2.toArray⟩,.int .i64 q.t.k,.slice A1 q.t.b.length c1,.slice A2 q.a.length c2] 59));have M:=I (Blk.new w 59 #[.string ⟨q.t.s.1.toArray⟩,.string ⟨q.t.s.2.toArray⟩,.int .i64 q.t.k,.slice A1 q.t.b.length c1,.slice A2 q.a.length c2]);have hp:tkB q.t=true/\Bv q.a=true:=by simpa [apB] using ha
 have b2:=(BV hp.1).1;have b3:=Ay 4 q.a;have b6:=Bd hp.2;have T1:=I (fun w1 (h:Below w.heap.size w w1)=>Ep q.t A1 c1 w1 hp.1 ((Y.below h).more h.size));have T2:=I (fun w1 (h:Below w.heap.size w w1)=>DG q.a A2 q.a.length c2 w1.heap.size w1 ((X.below h).more h.size) rfl Af (by omega));have HL:=I (show [tkE q.t,elem 4 q.a].flatten.length<=65535 by rw[CY];simp only[List.length_append];omega);have HE:=I (show apE q=elem 110 [tkE q.t,elem 4 q.a].flatten from rfl);obtain⟨l1,ah⟩:∃l,l=tkE q.t:=⟨_,rfl⟩;obtain⟨l2,af⟩:∃l,l=elem 4 q.a:=⟨_,rfl⟩;rw[<-ah] at T1 HL HE;rw[<-af] at T2 HL HE;rw[HE.o,CY];clear HE ah af hp b2 b3 b6 ha Y X;go_enter Tryz.func162,Tryz.ntmps162
 go_wp2
 obtain⟨W,eW⟩:=Aj (w.alloc (.cells #[.string ⟨q.t.s.1.toArray⟩,.string ⟨q.t.s.2.toArray⟩,.int .i64 q.t.k,.slice A1 q.t.b.length c1,.slice A2 q.a.length c2] 59));rw[<-eW] at Z M⊢;clear eW;replace M:=I (show Blk W.drew _ _ _ from M.o.drewN 1);replace Z:=I (show Below _ _ W.drew from below_drewN Z.o 1)
 go_region_held3 (fun w'=>w'.cell? ⟨w.heap.size,0,none⟩=some (.string ⟨q.t.s.1.toArray⟩)/\w'.cell? ⟨w.heap.size,1,none⟩=some (.string ⟨q.t.s.2.toArray⟩)/\w'.cell? ⟨w.heap.size,2,none⟩=some (.int .i64 q.t.k)/\w'.cell? ⟨w.heap.size,3,none⟩=some (.slice A1 q.t.b.length c1)/\w'.cell? ⟨w.heap.size,4,none⟩=some (.slice A2 q.a.length c2)) (first | exact⟨M.o.cell 0,M.o.cell 1,M.o.cell 2,M.o.cell 3,M.o.cell 4⟩ | exact⟨(M.o.alloc _).cell 0,(M.o.alloc _).cell 1,(M.o.alloc _).cell 2,(M.o.alloc _).cell 3,(M.o.alloc _).cell 4⟩) ((first
  |(go_at_call 191;(with_reducible refine Calls.mono (T1.o _ Z.o) ?_);rintro e w1 ⟨⟨g1,c1,rfl,ak,aj,Y⟩,O⟩;clear T1;have aa:=I Y;replace M:=I (M.o.below O);replace Z:=Z.t O;clear O Y ak aj)
  |(go_at_call 192;(with_reducible refine Calls.mono (T2.o _ Z.o) ?_);rintro e w2 ⟨⟨g2,c2,rfl,an,ao,X⟩,O⟩;clear T2;replace aa:=I (AS aa.o O);have ai:=I X;replace M:=I (M.o.below O);replace Z:=Z.t O;clear O X an ao)
  |(go_at_call 174;refine Calls.mono (Dd 110 [l1,l2] _ 2 2 (w2.heap.size+1) _ (Hh aa.o ai.o) rfl (by simp) HL.o (by simp)) ?_;rintro e wz ⟨⟨gz,cz,rfl,ae,ag,ad⟩,O⟩;have ab:=(Below.refl w2.heap.size w2).alloc Af (.cells #[.slice (some ⟨g1,0,none⟩) l1.length c1,.slice (some ⟨g2,0,none⟩) l2.length c2] 25);have HG:=I (Ba (l:=elem 110 [l1,l2].flatten) ⟨⟨gz,cz,rfl,ae,ag,ad⟩,O⟩ (Z.o.trans (ab.mono Z.o.size)));rw[CY] at HG;replace M:=I ((M.o.alloc (.cells #[.slice (some ⟨g1,0,none⟩) l1.length c1,.slice (some ⟨g2,0,none⟩) l2.length c2] 25)).below O);clear ab ae ag ad O)))
 go_wp2
 go_ret;exact HG.o
theorem Rb (q:Fa) (w:World):Calls Tryz.prog 163 #[.agg #[.int .i64 q.e,.int .i64 q.no]] w (Cg w (faE q)):=by
 have X:=I ((Below.refl w.heap.size w).alloc Af (.cells #[.int .i64 q.e,.int .i64 q.no] 61));have M:=I (Blk.new w 61 #[.int .i64 q.e,.int .i64 q.no]);have b1:=AF q.e;have b2:=AF q.no;have T1:=I (fun w1=>CQ q.e w1);have T2:=I (fun w1=>CQ q.no w1);have HL:=I (show [encI q.e,encI q.no].flatten.length<=65535 by rw[CY];simp only[List.length_append];omega);have HE:=I (show faE q=elem 126 [encI q.e,encI q.no].flatten from rfl);obtain⟨l1,ah⟩:∃l,l=encI q.e:=⟨_,rfl⟩;obtain⟨l2,af⟩:∃l,l=encI q.no:=⟨_,rfl⟩;rw[<-ah] at T1 HL HE;rw[<-af] at T2 HL HE;rw[HE.o,CY];clear HE ah af b1 b2;go_enter Tryz.func163,Tryz.ntmps163
 go_wp2
 obtain⟨W,eW⟩:=Aj (w.alloc (.cells #[.int .i64 q.e,.int .i64 q.no] 61));rw[<-eW] at X M⊢;clear eW;replace M:=I (show Blk W.drew _ _ _ from M.o.drewN 1);replace X:=I (show Below _ _ W.drew from below_drewN X.o 1)
 go_region_held3 (fun w'=>w'.cell? ⟨w.heap.size,0,none⟩=some (.int .i64 q.e)/\w'.cell? ⟨w.heap.size,1,none⟩=some (.int .i64 q.no)) (first | exact⟨M.o.cell 0,M.o.cell 1⟩ | exact⟨(M.o.alloc _).cell 0,(M.o.alloc _).cell 1⟩) ((first
  |(go_at_call 176;(with_reducible refine Calls.mono (T1.o _) ?_);rintro e w1 ⟨⟨g1,c1,rfl,ak,aj,ae⟩,O⟩;clear T1;have Y:=I ae;replace M:=I (M.o.below O);replace X:=X.t O;clear O ae ak aj)
  |(go_at_call 176;(with_reducible refine Calls.mono (T2.o _) ?_);rintro e w2 ⟨⟨g2,c2,rfl,an,ao,Z⟩,O⟩;clear T2;replace Y:=I (AS Y.o O);have ai:=I Z;replace M:=I (M.o.below O);replace X:=X.t O;clear O Z an ao)
  |(go_at_call 174;refine Calls.mono (Dd 126 [l1,l2] _ 2 2 (w2.heap.size+1) _ (Hh Y.o ai.o) rfl (by simp) HL.o (by simp)) ?_;rintro e wz ⟨⟨gz,cz,rfl,ad,ag,ab⟩,O⟩;have aa:=(Below.refl w2.heap.size w2).alloc Af (.cells #[.slice (some ⟨g1,0,none⟩) l1.length c1,.slice (some ⟨g2,0,none⟩) l2.length c2] 25);have HG:=I (Ba (l:=elem 126 [l1,l2].flatten) ⟨⟨gz,cz,rfl,ad,ag,ab⟩,O⟩ (X.o.trans (aa.mono X.o.size)));rw[CY] at HG;replace M:=I ((M.o.alloc (.cells #[.slice (some ⟨g1,0,none⟩) l1.length c1,.slice (some ⟨g2,0,none⟩) l2.length c2] 25)).below O);clear aa ad ag ab O)))
 go_wp2
 go_ret;exact HG.o
theorem OF (p:Rp) (w:World) (hk:p.ss.length=32) (hx:rpB p=true):Calls Tryz.prog 168 #[.agg (rpC p).toArray] w (Cg w (rpE p)):=by
 have HI:=I (show(Tryz.prog.info? 110).map (·.size)=some (rpC p).toArray.size by rw[Fv hk];kernel_rfl);have CF:=I (show ∀w':World,Blk w' w.heap.size 110 (rpC p).toArray->w'.cell? ⟨w.heap.size,32,none⟩=some (.string ⟨p.s.1.toArray⟩)/\w'.cell? ⟨w.heap.size,33,none⟩=some (.string ⟨p.s.2.toArray⟩)/\w'.cell? ⟨w.heap.size,34,none⟩=some (.int .i64 p.st)/\w'.cell? ⟨w.heap.size,35,none⟩=some (.int .i64 p.en)/\w'.cell? ⟨w.heap.size,36,none⟩=some (.int .i64 p.no) from fun w' h=>FI hk h);have T1:=I (fun w1 (h:Blk w1 w.heap.size 110 (rpC p).toArray)=>DG p.ss (some ⟨w.heap.size,0,none⟩) 32 32 w1.heap.size w1 (UK hk h) hk.symm Af (by omega));obtain⟨cs,ax⟩:=Aj ((rpC p).toArray);rw[<-ax] at HI CF T1⊢;clear ax;have Z:=I ((Below.refl w.heap.size w).alloc Af (.cells cs 110));have X:=I (Blk.new w 110 cs);have hp:prB p.s=true:=(show prB p.s=true/\tmB p.st=true/\tmB p.en=true/\tmB p.no=true by simpa [rpB] using hx).1;have b1:=(AV hp).1;have b2:=AF p.st;have b3:=AF p.en;have b4:=AF p.no;have b5:=Ay 4 p.ss;have T2:=I (fun w1=>Cm p.s w1 hp);have T3:=I (fun w1=>CQ p.st w1);have T4:=I (fun w1=>CQ p.en w1);have T5:=I (fun w1=>CQ p.no w1);have HL:=I (show [elem 4 p.ss,prE p.s,encI p.st,encI p.en,encI p.no].flatten.length<=65535 by rw[Ef];simp only[List.length_append];omega);have HE:=I (show rpE p=elem 122 [elem 4 p.ss,prE p.s,encI p.st,encI p.en,encI p.no].flatten from rfl);obtain⟨l1,av⟩:∃l,l=elem 4 p.ss:=⟨_,rfl⟩;obtain⟨l2,au⟩:∃l,l=prE p.s:=⟨_,rfl⟩;obtain⟨l3,af⟩:∃l,l=encI p.st:=⟨_,rfl⟩;obtain⟨l4,ad⟩:∃l,l=encI p.en:=⟨_,rfl⟩;obtain⟨l5,ak⟩:∃l,l=encI p.no:=⟨_,rfl⟩;rw[<-av] at T1 HL HE;rw[<-au] at T2 HL HE;rw[<-af] at T3 HL HE;rw[<-ad] at T4 HL HE;rw[<-ak] at T5 HL HE;rw[HE.o,Ef];clear HE av au af ad ak hp b1 b2 b3 b4 b5 hk hx;go_enter Tryz.func168,Tryz.ntmps168
 go_wp2
 obtain⟨W,eW⟩:=Aj (w.alloc (.cells cs 110));rw[<-eW] at Z X⊢;clear eW;replace X:=I (show Blk W.drew _ _ _ from X.o.drewN 1);replace Z:=I (show Below _ _ W.drew from below_drewN Z.o 1)
 go_region_held3 (fun w'=>w'.cell? ⟨w.heap.size,32,none⟩=some (.string ⟨p.s.1.toArray⟩)/\w'.cell? ⟨w.heap.size,33,none⟩=some (.string ⟨p.s.2.toArray⟩)/\w'.cell? ⟨w.heap.size,34,none⟩=some (.int .i64 p.st)/\w'.cell? ⟨w.heap.size,35,none⟩=some (.int .i64 p.en)/\w'.cell? ⟨w.heap.size,36,none⟩=some (.int .i64 p.no)) (first | exact CF.o _ X.o | exact CF.o _ (X.o.alloc _)) ((first
  |(go_at_call 192;(with_reducible refine Calls.mono (T1.o _ X.o) ?_);rintro e w1 ⟨⟨g1,c1,rfl,az,aH,ah⟩,M⟩;clear T1;have O:=I ah;replace X:=I (X.o.below M);replace Z:=Z.t M;clear M ah az aH)
  |(go_at_call 175;(with_reducible refine Calls.mono (T2.o _) ?_);rintro e w2 ⟨⟨g2,c2,rfl,aA,aE,an⟩,M⟩;clear T2;replace O:=I (AS O.o M);have Y:=I an;replace X:=I (X.o.below M);replace Z:=Z.t M;clear M an aA aE)
  |(go_at_call 176;(with_reducible refine Calls.mono (T3.o _) ?_);rintro e w3 ⟨⟨g3,c3,rfl,ay,aI,aw⟩,M⟩;clear T3;replace O:=I (AS O.o M);replace Y:=I (AS Y.o M);have aa:=I aw;replace X:=I (X.o.below M);replace Z:=Z.t M;clear M aw ay aI)
  |(go_at_call 176;(with_reducible refine Calls.mono (T4.o _) ?_);rintro e w4 ⟨⟨g4,c4,rfl,aC,aF,ag⟩,M⟩;clear T4;replace O:=I (AS O.o M);replace Y:=I (AS Y.o M);replace aa:=I (AS aa.o M);have ab:=I ag;replace X:=I (X.o.below M);replace Z:=Z.t M;clear M ag aC aF)
  |(go_at_call 176;(with_reducible refine Calls.mono (T5.o _) ?_);rintro e w5 ⟨⟨g5,c5,rfl,aB,aG,ai⟩,M⟩;clear T5;replace O:=I (AS O.o M);replace Y:=I (AS Y.o M);replace aa:=I (AS aa.o M);replace ab:=I (AS ab.o M);have aD:=I ai;replace X:=I (X.o.below M);replace Z:=Z.t M;clear M ai aB aG)
  |(go_at_call 174;refine Calls.mono (Dd 122 [l1,l2,l3,l4,l5] _ 5 5 (w5.heap.size+1) _ (GF O.o Y.o aa.o ab.o aD.o) rfl (by simp) HL.o (by simp)) ?_;rintro e wz ⟨⟨gz,cz,rfl,ar,aj,ao⟩,M⟩;have ae:=(Below.refl w5.heap.size w5).alloc Af (.cells #[.slice (some ⟨g1,0,none⟩) l1.length c1,.slice (some ⟨g2,0,none⟩) l2.length c2,.slice (some ⟨g3,0,none⟩) l3.length c3,.slice (some ⟨g4,0,none⟩) l4.length c4,.slice (some ⟨g5,0,none⟩) l5.length c5] 25);have HG:=I (Ba (l:=elem 122 [l1,l2,l3,l4,l5].flatten) ⟨⟨gz,cz,rfl,ar,aj,ao⟩,M⟩ (Z.o.trans (ae.mono Z.o.size)));rw[Ef] at HG;replace X:=I ((X.o.alloc (.cells #[.slice (some ⟨g1,0,none⟩) l1.length c1,.slice (some ⟨g2,0,none⟩) l2.length c2,.slice (some ⟨g3,0,none⟩) l3.length c3,.slice (some ⟨g4,0,none⟩) l4.length c4,.slice (some ⟨g5,0,none⟩) l5.length c5] 25)).below M);clear ae ar aj ao M)))
 go_wp2
 go_ret;exact HG.o
end Mc
namespace Mc
open Go.RowKit Ae DerP Ms
theorem AU (p:Pr) (w:World) (M:p.1.length<=1000000000) (O:p.2.length<=1000000000):Calls Tryz.prog 58 #[prV p] w fun e w'=>e=.returned (.bool (prB p))/\Below w.heap.size w w':=Nm.AU p.1 p.2 w M O
theorem Ec (n a b:Int) (w:World):Calls Tryz.prog 190 #[.int .i64 n,.int .i64 a,.int .i64 b] w fun e w'=>e=.returned (.bool (inB n a b))/\w=w':=by
 cases h1:decide (a<=n) with
 |false=>
  go_enter Tryz.func190,Tryz.ntmps190
  go_wp2
  go_ret;exact⟨by rw[inB,h1];rfl,rfl⟩
 |true=>
  go_enter Tryz.func190,Tryz.ntmps190
  go_wp2
  go_ret;exact⟨by rw[inB,h1];rfl,rfl⟩
theorem GH (n:Int) (w:World):Calls Tryz.prog 172 #[.int .i64 n] w fun e w'=>e=.returned (.bool (tmB n))/\w=w':=by
 have c1:=Ec n 0 1073741824 w;rw[show inB n 0 1073741824=tmB n from rfl] at c1;go_enter Tryz.func172,Tryz.ntmps172
 go_wp2_with (go_at_call 190;refine Ah c1 ?_;rintro M rfl)
 go_ret;exact⟨rfl,rfl⟩
theorem Fw (n:Int) (w:World):Calls Tryz.prog 173 #[.int .i64 n] w fun e w'=>e=.returned (.bool (tmB n))/\w=w':=by
 have c1:=Ec n 0 1073741824 w;rw[show inB n 0 1073741824=tmB n from rfl] at c1;go_enter Tryz.func173,Tryz.ntmps173
 go_wp2_with (go_at_call 190;refine Ah c1 ?_;rintro M rfl)
 go_ret;exact⟨rfl,rfl⟩
theorem FL (b:L) (A:Option Addr) (c:Nat) (w:World):Calls Tryz.prog 189 #[.slice A b.length c] w fun e w'=>e=.returned (.bool (Bv b))/\w=w':=by
 have c1:=Ec (b.length:Int) 1 800 w;rw[QP] at c1;go_enter Tryz.func189,Tryz.ntmps189
 go_wp2_with (go_at_call 190;refine Ah c1 ?_;rintro M rfl)
 go_ret;exact⟨rfl,rfl⟩
theorem Fx (t:Tk) (A:Option Addr) (c:Nat) (w:World) (hs:pSm t.s):Calls Tryz.prog 188 #[.agg #[.string ⟨t.s.1.toArray⟩,.string ⟨t.s.2.toArray⟩,.int .i64 t.k,.slice A t.b.length c]] w fun e w'=>e=.returned (.bool (tkB t))/\Below w.heap.size w w':=by
 have aa:=(Below.refl w.heap.size w).alloc Af (.cells #[.string ⟨t.s.1.toArray⟩,.string ⟨t.s.2.toArray⟩,.int .i64 t.k,.slice A t.b.length c] 53);have X:=I aa;have M:=I (Blk.new w 53 #[.string ⟨t.s.1.toArray⟩,.string ⟨t.s.2.toArray⟩,.int .i64 t.k,.slice A t.b.length c]);clear aa;have Y:=I (fun Z=>AU t.s Z hs.1 hs.2);have T2:=I (fun Z=>Ec t.k 1 255 Z);have T3:=I (fun Z=>FL t.b A c Z);cases h1:prB t.s with
 |false=>
  rw[h1] at Y;have E:=I (show tkB t=false by rw[tkB,h1];rfl);clear h1;go_enter Tryz.func188,Tryz.ntmps188
  go_wp2_with (go_at_call 58;(with_reducible refine Calls.mono (Y.o _) ?_);rintro e Z ⟨rfl,O⟩;replace M:=I (M.o.below O);replace X:=X.t O;clear O Y;(try clear k0 k1 k2 k3);have k0:=M.o.cell 0;have k1:=M.o.cell 1;have k2:=M.o.cell 2;have k3:=M.o.cell 3;simp only[List.getElem?_toArray,List.getElem?_cons_zero,List.getElem?_cons_succ] at k0 k1 k2 k3)
  go_ret;exact⟨by rw[E.o];rfl,X.o⟩
 |true=>
  rw[h1] at Y;cases h2:inB t.k 1 255 with
  |false=>
   rw[h2] at T2;have E:=I (show tkB t=false by rw[tkB,h1,h2];rfl);clear h1 h2;go_enter Tryz.func188,Tryz.ntmps188
   go_wp2_with (first
    |(go_at_call 58;(with_reducible refine Calls.mono (Y.o _) ?_);rintro e Z ⟨rfl,O⟩;replace M:=I (M.o.below O);replace X:=X.t O;clear O Y;(try clear k0 k1 k2 k3);have k0:=M.o.cell 0;have k1:=M.o.cell 1;have k2:=M.o.cell 2;have k3:=M.o.cell 3;simp only[List.getElem?_toArray,List.getElem?_cons_zero,List.getElem?_cons_succ] at k0 k1 k2 k3)
    |(go_at_call 190;(with_reducible refine Calls.mono (T2.o _) ?_);rintro e w2 ⟨rfl,hw⟩;subst hw;clear T2))
   go_ret;exact⟨by rw[E.o];rfl,X.o⟩
  |true=>
   rw[h2] at T2;have E:=I (show tkB t=Bv t.b by rw[tkB,h1,h2];rfl);clear h1 h2;go_enter Tryz.func188,Tryz.ntmps188
   go_wp2_with (first
    |(go_at_call 58;(with_reducible refine Calls.mono (Y.o _) ?_);rintro e Z ⟨rfl,O⟩;replace M:=I (M.o.below O);replace X:=X.t O;clear O Y;(try clear k0 k1 k2 k3);have k0:=M.o.cell 0;have k1:=M.o.cell 1;have k2:=M.o.cell 2;have k3:=M.o.cell 3;simp only[List.getElem?_toArray,List.getElem?_cons_zero,List.getElem?_cons_succ] at k0 k1 k2 k3)
    |(go_at_call 190;(with_reducible refine Calls.mono (T2.o _) ?_);rintro e w2 ⟨rfl,hw⟩;subst hw;clear T2)
    |(go_at_call 189;(with_reducible refine Calls.mono (T3.o _) ?_);rintro e w3 ⟨rfl,hw⟩;subst hw;clear T3))
   go_ret;exact⟨by rw[E.o];rfl,X.o⟩
theorem Mk (a:An) (w:World) (hs:pSm a.c):Calls Tryz.prog 139 #[.agg #[.string ⟨a.c.1.toArray⟩,.string ⟨a.c.2.toArray⟩,.int .i64 a.t,.int .i64 a.q]] w fun e w'=>e=.returned (.bool (anB a))/\Below w.heap.size w w':=by
 have aa:=(Below.refl w.heap.size w).alloc Af (.cells #[.string ⟨a.c.1.toArray⟩,.string ⟨a.c.2.toArray⟩,.int .i64 a.t,.int .i64 a.q] 73);have X:=I aa;have M:=I (Blk.new w 73 #[.string ⟨a.c.1.toArray⟩,.string ⟨a.c.2.toArray⟩,.int .i64 a.t,.int .i64 a.q]);clear aa;have Y:=I (fun Z=>AU a.c Z hs.1 hs.2);have T2:=I (fun Z=>GH a.t Z);have T3:=I (fun Z=>Fw a.q Z);cases h1:prB a.c with
 |false=>
  rw[h1] at Y;have E:=I (show anB a=false by rw[anB,h1];rfl);clear h1;go_enter Tryz.func139,Tryz.ntmps139
  go_wp2_with (go_at_call 58;(with_reducible refine Calls.mono (Y.o _) ?_);rintro e Z ⟨rfl,O⟩;replace M:=I (M.o.below O);replace X:=X.t O;clear O Y;(try clear k0 k1 k2 k3);have k0:=M.o.cell 0;have k1:=M.o.cell 1;have k2:=M.o.cell 2;have k3:=M.o.cell 3;simp only[List.getElem?_toArray,List.getElem?_cons_zero,List.getElem?_cons_succ] at k0 k1 k2 k3)
  go_ret;exact⟨by rw[E.o];rfl,X.o⟩
 |true=>
  rw[h1] at Y;cases h2:tmB a.t with
  |false=>
   rw[h2] at T2;have E:=I (show anB a=false by rw[anB,h1,h2];rfl);clear h1 h2;go_enter Tryz.func139,Tryz.ntmps139
   go_wp2_with (first
    |(go_at_call 58;(with_reducible refine Calls.mono (Y.o _) ?_);rintro e Z ⟨rfl,O⟩;replace M:=I (M.o.below O);replace X:=X.t O;clear O Y;(try clear k0 k1 k2 k3);have k0:=M.o.cell 0;have k1:=M.o.cell 1;have k2:=M.o.cell 2;have k3:=M.o.cell 3;simp only[List.getElem?_toArray,List.getElem?_cons_zero,List.getElem?_cons_succ] at k0 k1 k2 k3)
    |(go_at_call 172;(with_reducible refine Calls.mono (T2.o _) ?_);rintro e w2 ⟨rfl,hw⟩;subst hw;clear T2))
   go_ret;exact⟨by rw[E.o];rfl,X.o⟩
  |true=>
   rw[h2] at T2;have E:=I (show anB a=tmB a.q by rw[anB,h1,h2];rfl);clear h1 h2;go_enter Tryz.func139,Tryz.ntmps139
   go_wp2_with (first
    |(go_at_call 58;(with_reducible refine Calls.mono (Y.o _) ?_);rintro e Z ⟨rfl,O⟩;replace M:=I (M.o.below O);replace X:=X.t O;clear O Y;(try clear k0 k1 k2 k3);have k0:=M.o.cell 0;have k1:=M.o.cell 1;have k2:=M.o.cell 2;have k3:=M.o.cell 3;simp only[List.getElem?_toArray,List.getElem?_cons_zero,List.getElem?_cons_succ] at k0 k1 k2 k3)
    |(go_at_call 172;(with_reducible refine Calls.mono (T2.o _) ?_);rintro e w2 ⟨rfl,hw⟩;subst hw;clear T2)
    |(go_at_call 173;(with_reducible refine Calls.mono (T3.o _) ?_);rintro e w3 ⟨rfl,hw⟩;subst hw;clear T3))
   go_ret;exact⟨by rw[E.o];rfl,X.o⟩
theorem Tw (q:As) (w:World) (hs:pSm q.c) (ab:pSm q.s):Calls Tryz.prog 154 #[.agg #[.string ⟨q.c.1.toArray⟩,.string ⟨q.c.2.toArray⟩,.string ⟨q.s.1.toArray⟩,.string ⟨q.s.2.toArray⟩,.int .i64 q.t,.int .i64 q.no]] w fun e w'=>e=.returned (.bool (asB q))/\Below w.heap.size w w':=by
 have aa:=(Below.refl w.heap.size w).alloc Af (.cells #[.string ⟨q.c.1.toArray⟩,.string ⟨q.c.2.toArray⟩,.string ⟨q.s.1.toArray⟩,.string ⟨q.s.2.toArray⟩,.int .i64 q.t,.int .i64 q.no] 51);have HB:=I aa;have M:=I (Blk.new w 51 #[.string ⟨q.c.1.toArray⟩,.string ⟨q.c.2.toArray⟩,.string ⟨q.s.1.toArray⟩,.string ⟨q.s.2.toArray⟩,.int .i64 q.t,.int .i64 q.no]);clear aa;have T1:=I (fun w1=>AU q.c w1 hs.1 hs.2);have T2:=I (fun w1=>AU q.s w1 ab.1 ab.2);have T3:=I (fun w1=>GH q.t w1);have T4:=I (fun w1=>Fw q.no w1);cases h1:prB q.c with
 |false=>
  rw[h1] at T1;have E:=I (show asB q=false by rw[asB,h1];rfl);clear h1;go_enter Tryz.func154,Tryz.ntmps154
  go_wp2_with (go_at_call 58;(with_reducible refine Calls.mono (T1.o _) ?_);rintro e w1 ⟨rfl,O⟩;replace M:=I (M.o.below O);replace HB:=HB.t O;clear O T1;(try clear Z k1 k2 Y X k5);have Z:=M.o.cell 0;have k1:=M.o.cell 1;have k2:=M.o.cell 2;have Y:=M.o.cell 3;have X:=M.o.cell 4;have k5:=M.o.cell 5;simp only[List.getElem?_toArray,List.getElem?_cons_zero,List.getElem?_cons_succ] at Z k1 k2 Y X k5)
  go_ret;exact⟨by rw[E.o];rfl,HB.o⟩
 |true=>
  rw[h1] at T1;cases h2:prB q.s with
  |false=>
   rw[h2] at T2;have E:=I (show asB q=false by rw[asB,h1,h2];rfl);clear h1 h2;go_enter Tryz.func154,Tryz.ntmps154
   go_wp2_with (first
    |(go_at_call 58;(with_reducible refine Calls.mono (T1.o _) ?_);rintro e w1 ⟨rfl,O⟩;replace M:=I (M.o.below O);replace HB:=HB.t O;clear O T1;(try clear Z k1 k2 Y X k5);have Z:=M.o.cell 0;have k1:=M.o.cell 1;have k2:=M.o.cell 2;have Y:=M.o.cell 3;have X:=M.o.cell 4;have k5:=M.o.cell 5;simp only[List.getElem?_toArray,List.getElem?_cons_zero,List.getElem?_cons_succ] at Z k1 k2 Y X k5)
    |(go_at_call 58;(with_reducible refine Calls.mono (T2.o _) ?_);rintro e w2 ⟨rfl,O⟩;replace M:=I (M.o.below O);replace HB:=HB.t O;clear O T2;(try clear Z k1 k2 Y X k5);have Z:=M.o.cell 0;have k1:=M.o.cell 1;have k2:=M.o.cell 2;have Y:=M.o.cell 3;have X:=M.o.cell 4;have k5:=M.o.cell 5;simp only[List.getElem?_toArray,List.getElem?_cons_zero,List.getElem?_cons_succ] at Z k1 k2 Y X k5))
   go_ret;exact⟨by rw[E.o];rfl,HB.o⟩
  |true=>
   rw[h2] at T2;cases h3:tmB q.t with
   |false=>
    rw[h3] at T3;have E:=I (show asB q=false by rw[asB,h1,h2,h3];rfl);clear h1 h2 h3;go_enter Tryz.func154,Tryz.ntmps154
    go_wp2_with (first
     |(go_at_call 58;(with_reducible refine Calls.mono (T1.o _) ?_);rintro e w1 ⟨rfl,O⟩;replace M:=I (M.o.below O);replace HB:=HB.t O;clear O T1;(try clear Z k1 k2 Y X k5);have Z:=M.o.cell 0;have k1:=M.o.cell 1;have k2:=M.o.cell 2;have Y:=M.o.cell 3;have X:=M.o.cell 4;have k5:=M.o.cell 5;simp only[List.getElem?_toArray,List.getElem?_cons_zero,List.getElem?_cons_succ] at Z k1 k2 Y X k5)
     |(go_at_call 58;(with_reducible refine Calls.mono (T2.o _) ?_);rintro e w2 ⟨rfl,O⟩;replace M:=I (M.o.below O);replace HB:=HB.t O;clear O T2;(try clear Z k1 k2 Y X k5);have Z:=M.o.cell 0;have k1:=M.o.cell 1;have k2:=M.o.cell 2;have Y:=M.o.cell 3;have X:=M.o.cell 4;have k5:=M.o.cell 5;simp only[List.getElem?_toArray,List.getElem?_cons_zero,List.getElem?_cons_succ] at Z k1 k2 Y X k5)
     |(go_at_call 172;(with_reducible refine Calls.mono (T3.o _) ?_);rintro e w3 ⟨rfl,hw⟩;subst hw;clear T3))
    go_ret;exact⟨by rw[E.o];rfl,HB.o⟩
   |true=>
    rw[h3] at T3;have E:=I (show asB q=tmB q.no by rw[asB,h1,h2,h3];rfl);clear h1 h2 h3;go_enter Tryz.func154,Tryz.ntmps154
    go_wp2_with (first
     |(go_at_call 58;(with_reducible refine Calls.mono (T1.o _) ?_);rintro e w1 ⟨rfl,O⟩;replace M:=I (M.o.below O);replace HB:=HB.t O;clear O T1;(try clear Z k1 k2 Y X k5);have Z:=M.o.cell 0;have k1:=M.o.cell 1;have k2:=M.o.cell 2;have Y:=M.o.cell 3;have X:=M.o.cell 4;have k5:=M.o.cell 5;simp only[List.getElem?_toArray,List.getElem?_cons_zero,List.getElem?_cons_succ] at Z k1 k2 Y X k5)
     |(go_at_call 58;(with_reducible refine Calls.mono (T2.o _) ?_);rintro e w2 ⟨rfl,O⟩;replace M:=I (M.o.below O);replace HB:=HB.t O;clear O T2;(try clear Z k1 k2 Y X k5);have Z:=M.o.cell 0;have k1:=M.o.cell 1;have k2:=M.o.cell 2;have Y:=M.o.cell 3;have X:=M.o.cell 4;have k5:=M.o.cell 5;simp only[List.getElem?_toArray,List.getElem?_cons_zero,List.getElem?_cons_succ] at Z k1 k2 Y X k5)
     |(go_at_call 172;(with_reducible refine Calls.mono (T3.o _) ?_);rintro e w3 ⟨rfl,hw⟩;subst hw;clear T3)
     |(go_at_call 173;(with_reducible refine Calls.mono (T4.o _) ?_);rintro e w4 ⟨rfl,hw⟩;subst hw;clear T4))
    go_ret;exact⟨by rw[E.o];rfl,HB.o⟩
theorem Rc (q:Tg) (A1 A2:Option Addr) (c1 c2:Nat) (w:World) (hs:pSm q.t.s) (ab:pSm q.s):Calls Tryz.prog 155 #[.agg #[.string ⟨q.t.s.1.toArray⟩,.string ⟨q.t.s.2.toArray⟩,.int .i64 q.t.k,.slice A1 q.t.b.length c1,.slice A2 q.a.length c2,.string ⟨q.s.1.toArray⟩,.string ⟨q.s.2.toArray⟩,.int .i64 q.u,.int .i64 q.no]] w fun e w'=>e=.returned (.bool (tgB q))/\Below w.heap.size w w':=by
 have aa:=(Below.refl w.heap.size w).alloc Af (.cells #[.string ⟨q.t.s.1.toArray⟩,.string ⟨q.t.s.2.toArray⟩,.int .i64 q.t.k,.slice A1 q.t.b.length c1,.slice A2 q.a.length c2,.string ⟨q.s.1.toArray⟩,.string ⟨q.s.2.toArray⟩,.int .i64 q.u,.int .i64 q.no] 55);have HB:=I aa;have M:=I (Blk.new w 55 #[.string ⟨q.t.s.1.toArray⟩,.string ⟨q.t.s.2.toArray⟩,.int .i64 q.t.k,.slice A1 q.t.b.length c1,.slice A2 q.a.length c2,.string ⟨q.s.1.toArray⟩,.string ⟨q.s.2.toArray⟩,.int .i64 q.u,.int .i64 q.no]);clear aa;have T1:=I (fun w1=>Fx q.t A1 c1 w1 hs);have T2:=I (fun w1=>FL q.a A2 c2 w1);have T3:=I (fun w1=>AU q.s w1 ab.1 ab.2);have T4:=I (fun w1=>GH q.u w1);have T5:=I (fun w1=>Fw q.no w1);cases h1:tkB q.t with
 |false=>
  rw[h1] at T1;have E:=I (show tgB q=false by rw[tgB,h1];rfl);clear h1;go_enter Tryz.func155,Tryz.ntmps155
  go_wp2_with (go_at_call 188;(with_reducible refine Calls.mono (T1.o _) ?_);rintro e w1 ⟨rfl,O⟩;replace M:=I (M.o.below O);replace HB:=HB.t O;clear O T1;(try clear k0 k1 k2 X k4 Z Y k7 k8);have k0:=M.o.cell 0;have k1:=M.o.cell 1;have k2:=M.o.cell 2;have X:=M.o.cell 3;have k4:=M.o.cell 4;have Z:=M.o.cell 5;have Y:=M.o.cell 6;have k7:=M.o.cell 7;have k8:=M.o.cell 8;simp only[List.getElem?_toArray,List.getElem?_cons_zero,List.getElem?_cons_succ] at k0 k1 k2 X k4 Z Y k7 k8)
  go_ret;exact⟨by rw[E.o];rfl,HB.o⟩
 |true=>
  rw[h1] at T1;cases h2:Bv q.a with
  |false=>
   rw[h2] at T2;have E:=I (show tgB q=false by rw[tgB,h1,h2];rfl);clear h1 h2;go_enter Tryz.func155,Tryz.ntmps155
   go_wp2_with (first
    |(go_at_call 188;(with_reducible refine Calls.mono (T1.o _) ?_);rintro e w1 ⟨rfl,O⟩;replace M:=I (M.o.below O);replace HB:=HB.t O;clear O T1;(try clear k0 k1 k2 X k4 Z Y k7 k8);have k0:=M.o.cell 0;have k1:=M.o.cell 1;have k2:=M.o.cell 2;have X:=M.o.cell 3;have k4:=M.o.cell 4;have Z:=M.o.cell 5;have Y:=M.o.cell 6;have k7:=M.o.cell 7;have k8:=M.o.cell 8;simp only[List.getElem?_toArray,List.getElem?_cons_zero,List.getElem?_cons_succ] at k0 k1 k2 X k4 Z Y k7 k8)
    |(go_at_call 189;(with_reducible refine Calls.mono (T2.o _) ?_);rintro e w2 ⟨rfl,hw⟩;subst hw;clear T2))
   go_ret;exact⟨by rw[E.o];rfl,HB.o⟩
  |true=>
   rw[h2] at T2;cases h3:prB q.s with
   |false=>
    rw[h3] at T3;have E:=I (show tgB q=false by rw[tgB,h1,h2,h3];rfl);clear h1 h2 h3;go_enter Tryz.func155,Tryz.ntmps155
    go_wp2_with (first
     |(go_at_call 188;(with_reducible refine Calls.mono (T1.o _) ?_);rintro e w1 ⟨rfl,O⟩;replace M:=I (M.o.below O);replace HB:=HB.t O;clear O T1;(try clear k0 k1 k2 X k4 Z Y k7 k8);have k0:=M.o.cell 0;have k1:=M.o.cell 1;have k2:=M.o.cell 2;have X:=M.o.cell 3;have k4:=M.o.cell 4;have Z:=M.o.cell 5;have Y:=M.o.cell 6;have k7:=M.o.cell 7;have k8:=M.o.cell 8;simp only[List.getElem?_toArray,List.getElem?_cons_zero,List.getElem?_cons_succ] at k0 k1 k2 X k4 Z Y k7 k8)
     |(go_at_call 189;(with_reducible refine Calls.mono (T2.o _) ?_);rintro e w2 ⟨rfl,hw⟩;subst hw;clear T2)
     |(go_at_call 58;(with_reducible refine Calls.mono (T3.o _) ?_);rintro e w3 ⟨rfl,O⟩;replace M:=I (M.o.below O);replace HB:=HB.t O;clear O T3;(try clear k0 k1 k2 X k4 Z Y k7 k8);have k0:=M.o.cell 0;have k1:=M.o.cell 1;have k2:=M.o.cell 2;have X:=M.o.cell 3;have k4:=M.o.cell 4;have Z:=M.o.cell 5;have Y:=M.o.cell 6;have k7:=M.o.cell 7;have k8:=M.o.cell 8;simp only[List.getElem?_toArray,List.getElem?_cons_zero,List.getElem?_cons_succ] at k0 k1 k2 X k4 Z Y k7 k8))
    go_ret;exact⟨by rw[E.o];rfl,HB.o⟩
   |true=>
    rw[h3] at T3;cases h4:tmB q.u with
    |false=>
     rw[h4] at T4;have E:=I (show tgB q=false by rw[tgB,h1,h2,h3,h4];rfl);clear h1 h2 h3 h4;go_enter Tryz.func155,Tryz.ntmps155
     go_wp2_with (first
      |(go_at_call 188;(with_reducible refine Calls.mono (T1.o _) ?_);rintro e w1 ⟨rfl,O⟩;replace M:=I (M.o.below O);replace HB:=HB.t O;clear O T1;(try clear k0 k1 k2 X k4 Z Y k7 k8);have k0:=M.o.cell 0;have k1:=M.o.cell 1;have k2:=M.o.cell 2;have X:=M.o.cell 3;have k4:=M.o.cell 4;have Z:=M.o.cell 5;have Y:=M.o.cell 6;have k7:=M.o.cell 7;have k8:=M.o.cell 8;simp only[List.getElem?_toArray,List.getElem?_cons_zero,List.getElem?_cons_succ] at k0 k1 k2 X k4 Z Y k7 k8)
      |(go_at_call 189;(with_reducible refine Calls.mono (T2.o _) ?_);rintro e w2 ⟨rfl,hw⟩;subst hw;clear T2)
      |(go_at_call 58;(with_reducible refine Calls.mono (T3.o _) ?_);rintro e w3 ⟨rfl,O⟩;replace M:=I (M.o.below O);replace HB:=HB.t O;clear O T3;(try clear k0 k1 k2 X k4 Z Y k7 k8);have k0:=M.o.cell 0;have k1:=M.o.cell 1;have k2:=M.o.cell 2;have X:=M.o.cell 3;have k4:=M.o.cell 4;have Z:=M.o.cell 5;have Y:=M.o.cell 6;have k7:=M.o.cell 7;have k8:=M.o.cell 8;simp only[List.getElem?_toArray,List.getElem?_cons_zero,List.getElem?_cons_succ] at k0 k1 k2 X k4 Z Y k7 k8)
      |(go_at_call 172;(with_reducible refine Calls.mono (T4.o _) ?_);rintro e w4 ⟨rfl,hw⟩;subst hw;clear T4))
     go_ret;exact⟨by rw[E.o];rfl,HB.o⟩
    |true=>
     rw[h4] at T4;have E:=I (show tgB q=tmB q.no by rw[tgB,h1,h2,h3,h4];rfl);clear h1 h2 h3 h4;go_enter Tryz.func155,Tryz.ntmps155
     go_wp2_with (first
      |(go_at_call 188;(with_reducible refine Calls.mono (T1.o _) ?_);rintro e w1 ⟨rfl,O⟩;replace M:=I (M.o.below O);replace HB:=HB.t O;clear O T1;(try clear k0 k1 k2 X k4 Z Y k7 k8);have k0:=M.o.cell 0;have k1:=M.o.cell 1;have k2:=M.o.cell 2;have X:=M.o.cell 3;have k4:=M.o.cell 4;have Z:=M.o.cell 5;have Y:=M.o.cell 6;have k7:=M.o.cell 7;have k8:=M.o.cell 8;simp only[List.getElem?_toArray,List.getElem?_cons_zero,List.getElem?_cons_succ] at k0 k1 k2 X k4 Z Y k7 k8)
      |(go_at_call 189;(with_reducible refine Calls.mono (T2.o _) ?_);rintro e w2 ⟨rfl,hw⟩;subst hw;clear T2)
      |(go_at_call 58;(with_reducible refine Calls.mono (T3.o _) ?_);rintro e w3 ⟨rfl,O⟩;replace M:=I (M.o.below O);replace HB:=HB.t O;clear O T3;(try clear k0 k1 k2 X k4 Z Y k7 k8);have k0:=M.o.cell 0;have k1:=M.o.cell 1;have k2:=M.o.cell 2;have X:=M.o.cell 3;have k4:=M.o.cell 4;have Z:=M.o.cell 5;have Y:=M.o.cell 6;have k7:=M.o.cell 7;have k8:=M.o.cell 8;simp only[List.getElem?_toArray,List.getElem?_cons_zero,List.getElem?_cons_succ] at k0 k1 k2 X k4 Z Y k7 k8)
      |(go_at_call 172;(with_reducible refine Calls.mono (T4.o _) ?_);rintro e w4 ⟨rfl,hw⟩;subst hw;clear T4)
      |(go_at_call 173;(with_reducible refine Calls.mono (T5.o _) ?_);rintro e w5 ⟨rfl,hw⟩;subst hw;clear T5))
     go_ret;exact⟨by rw[E.o];rfl,HB.o⟩
theorem Tx (q:Re) (A1 A2:Option Addr) (c1 c2:Nat) (w:World) (hs:pSm q.t.s) (ab:pSm q.c):Calls Tryz.prog 156 #[.agg #[.string ⟨q.c.1.toArray⟩,.string ⟨q.c.2.toArray⟩,.string ⟨q.t.s.1.toArray⟩,.string ⟨q.t.s.2.toArray⟩,.int .i64 q.t.k,.slice A1 q.t.b.length c1,.slice A2 q.b.length c2]] w fun e w'=>e=.returned (.bool (reB q))/\Below w.heap.size w w':=by
 have aa:=(Below.refl w.heap.size w).alloc Af (.cells #[.string ⟨q.c.1.toArray⟩,.string ⟨q.c.2.toArray⟩,.string ⟨q.t.s.1.toArray⟩,.string ⟨q.t.s.2.toArray⟩,.int .i64 q.t.k,.slice A1 q.t.b.length c1,.slice A2 q.b.length c2] 57);have HB:=I aa;have M:=I (Blk.new w 57 #[.string ⟨q.c.1.toArray⟩,.string ⟨q.c.2.toArray⟩,.string ⟨q.t.s.1.toArray⟩,.string ⟨q.t.s.2.toArray⟩,.int .i64 q.t.k,.slice A1 q.t.b.length c1,.slice A2 q.b.length c2]);clear aa;have T1:=I (fun w1=>AU q.c w1 ab.1 ab.2);have T2:=I (fun w1=>Fx q.t A1 c1 w1 hs);have T3:=I (fun w1=>FL q.b A2 c2 w1);cases h1:prB q.c with
 |false=>
  rw[h1] at T1;have E:=I (show reB q=false by rw[reB,h1];rfl);clear h1;go_enter Tryz.func156,Tryz.ntmps156
  go_wp2_with (go_at_call 58;(with_reducible refine Calls.mono (T1.o _) ?_);rintro e w1 ⟨rfl,O⟩;replace M:=I (M.o.below O);replace HB:=HB.t O;clear O T1;(try clear k0 k1 k2 Y X k5 Z);have k0:=M.o.cell 0;have k1:=M.o.cell 1;have k2:=M.o.cell 2;have Y:=M.o.cell 3;have X:=M.o.cell 4;have k5:=M.o.cell 5;have Z:=M.o.cell 6;simp only[List.getElem?_toArray,List.getElem?_cons_zero,List.getElem?_cons_succ] at k0 k1 k2 Y X k5 Z)
  go_ret;exact⟨by rw[E.o];rfl,HB.o⟩
 |true=>
  rw[h1] at T1;cases h2:tkB q.t with
  |false=>
   rw[h2] at T2;have E:=I (show reB q=false by rw[reB,h1,h2];rfl);clear h1 h2;go_enter Tryz.func156,Tryz.ntmps156
   go_wp2_with (first
    |(go_at_call 58;(with_reducible refine Calls.mono (T1.o _) ?_);rintro e w1 ⟨rfl,O⟩;replace M:=I (M.o.below O);replace HB:=HB.t O;clear O T1;(try clear k0 k1 k2 Y X k5 Z);have k0:=M.o.cell 0;have k1:=M.o.cell 1;have k2:=M.o.cell 2;have Y:=M.o.cell 3;have X:=M.o.cell 4;have k5:=M.o.cell 5;have Z:=M.o.cell 6;simp only[List.getElem?_toArray,List.getElem?_cons_zero,List.getElem?_cons_succ] at k0 k1 k2 Y X k5 Z)
    |(go_at_call 188;(with_reducible refine Calls.mono (T2.o _) ?_);rintro e w2 ⟨rfl,O⟩;replace M:=I (M.o.below O);replace HB:=HB.t O;clear O T2;(try clear k0 k1 k2 Y X k5 Z);have k0:=M.o.cell 0;have k1:=M.o.cell 1;have k2:=M.o.cell 2;have Y:=M.o.cell 3;have X:=M.o.cell 4;have k5:=M.o.cell 5;have Z:=M.o.cell 6;simp only[List.getElem?_toArray,List.getElem?_cons_zero,List.getElem?_cons_succ] at k0 k1 k2 Y X k5 Z))
   go_ret;exact⟨by rw[E.o];rfl,HB.o⟩
  |true=>
   rw[h2] at T2;have E:=I (show reB q=Bv q.b by rw[reB,h1,h2];rfl);clear h1 h2;go_enter Tryz.func156,Tryz.ntmps156
   go_wp2_with (first
    |(go_at_call 58;(with_reducible refine Calls.mono (T1.o _) ?_);rintro e w1 ⟨rfl,O⟩;replace M:=I (M.o.below O);replace HB:=HB.t O;clear O T1;(try clear k0 k1 k2 Y X k5 Z);have k0:=M.o.cell 0;have k1:=M.o.cell 1;have k2:=M.o.cell 2;have Y:=M.o.cell 3;have X:=M.o.cell 4;have k5:=M.o.cell 5;have Z:=M.o.cell 6;simp only[List.getElem?_toArray,List.getElem?_cons_zero,List.getElem?_cons_succ] at k0 k1 k2 Y X k5 Z)
    |(go_at_call 188;(with_reducible refine Calls.mono (T2.o _) ?_);rintro e w2 ⟨rfl,O⟩;replace M:=I (M.o.below O);replace HB:=HB.t O;clear O T2;(try clear k0 k1 k2 Y X k5 Z);have k0:=M.o.cell 0;have k1:=M.o.cell 1;have k2:=M.o.cell 2;have Y:=M.o.cell 3;have X:=M.o.cell 4;have k5:=M.o.cell 5;have Z:=M.o.cell 6;simp only[List.getElem?_toArray,List.getElem?_cons_zero,List.getElem?_cons_succ] at k0 k1 k2 Y X k5 Z)
    |(go_at_call 189;(with_reducible refine Calls.mono (T3.o _) ?_);rintro e w3 ⟨rfl,hw⟩;subst hw;clear T3))
   go_ret;exact⟨by rw[E.o];rfl,HB.o⟩
theorem Ty (q:Ap) (A1 A2:Option Addr) (c1 c2:Nat) (w:World) (hs:pSm q.t.s):Calls Tryz.prog 157 #[.agg #[.string ⟨q.t.s.1.toArray⟩,.string ⟨q.t.s.2.toArray⟩,.int .i64 q.t.k,.slice A1 q.t.b.length c1,.slice A2 q.a.length c2]] w fun e w'=>e=.returned (.bool (apB q))/\Below w.heap.size w w':=by
 have aa:=(Below.refl w.heap.size w).alloc Af (.cells #[.string ⟨q.t.s.1.toArray⟩,.string ⟨q.t.s.2.toArray⟩,.int .i64 q.t.k,.slice A1 q.t.b.length c1,.slice A2 q.a.length c2] 59);have Y:=I aa;have M:=I (Blk.new w 59 #[.string ⟨q.t.s.1.toArray⟩,.string ⟨q.t.s.2.toArray⟩,.int .i64 q.t.k,.slice A1 q.t.b.length c1,.slice A2 q.a.length c2]);clear aa;have X:=I (fun w1=>Fx q.t A1 c1 w1 hs);have T2:=I (fun w1=>FL q.a A2 c2 w1);cases h1:tkB q.t with
 |false=>
  rw[h1] at X;have E:=I (show apB q=false by rw[apB,h1];rfl);clear h1;go_enter Tryz.func157,Tryz.ntmps157
  go_wp2_with (go_at_call 188;(with_reducible refine Calls.mono (X.o _) ?_);rintro e w1 ⟨rfl,O⟩;replace M:=I (M.o.below O);replace Y:=Y.t O;clear O X;(try clear k0 k1 k2 k3 Z);have k0:=M.o.cell 0;have k1:=M.o.cell 1;have k2:=M.o.cell 2;have k3:=M.o.cell 3;have Z:=M.o.cell 4;simp only[List.getElem?_toArray,List.getElem?_cons_zero,List.getElem?_cons_succ] at k0 k1 k2 k3 Z)
  go_ret;exact⟨by rw[E.o];rfl,Y.o⟩
 |true=>
  rw[h1] at X;have E:=I (show apB q=Bv q.a by rw[apB,h1];rfl);clear h1;go_enter Tryz.func157,Tryz.ntmps157
  go_wp2_with (first
   |(go_at_call 188;(with_reducible refine Calls.mono (X.o _) ?_);rintro e w1 ⟨rfl,O⟩;replace M:=I (M.o.below O);replace Y:=Y.t O;clear O X;(try clear k0 k1 k2 k3 Z);have k0:=M.o.cell 0;have k1:=M.o.cell 1;have k2:=M.o.cell 2;have k3:=M.o.cell 3;have Z:=M.o.cell 4;simp only[List.getElem?_toArray,List.getElem?_cons_zero,List.getElem?_cons_succ] at k0 k1 k2 k3 Z)
   |(go_at_call 189;(with_reducible refine Calls.mono (T2.o _) ?_);rintro e w2 ⟨rfl,hw⟩;subst hw;clear T2))
  go_ret;exact⟨by rw[E.o];rfl,Y.o⟩
theorem Tz (q:Fa) (w:World):Calls Tryz.prog 158 #[.agg #[.int .i64 q.e,.int .i64 q.no]] w fun e w'=>e=.returned (.bool (faB q))/\Below w.heap.size w w':=by
 have X:=(Below.refl w.heap.size w).alloc Af (.cells #[.int .i64 q.e,.int .i64 q.no] 61);have Y:=I X;have HK:=I (Blk.new w 61 #[.int .i64 q.e,.int .i64 q.no]);clear X;have M:=I (fun O=>Ec q.e 1 255 O);have Z:=I (fun O=>Fw q.no O);cases h1:inB q.e 1 255 with
 |false=>
  rw[h1] at M;have E:=I (show faB q=false by rw[faB,h1];rfl);clear h1;go_enter Tryz.func158,Tryz.ntmps158
  go_wp2_with (go_at_call 190;(with_reducible refine Calls.mono (M.o _) ?_);rintro e O ⟨rfl,hw⟩;subst hw;clear M)
  go_ret;exact⟨by rw[E.o];rfl,Y.o⟩
 |true=>
  rw[h1] at M;have E:=I (show faB q=tmB q.no by rw[faB,h1];rfl);clear h1;go_enter Tryz.func158,Tryz.ntmps158
  go_wp2_with (first
   |(go_at_call 190;(with_reducible refine Calls.mono (M.o _) ?_);rintro e O ⟨rfl,hw⟩;subst hw;clear M)
   |(go_at_call 173;(with_reducible refine Calls.mono (Z.o _) ?_);rintro e w2 ⟨rfl,hw⟩;subst hw;clear Z))
  go_ret;exact⟨by rw[E.o];rfl,Y.o⟩
section
attribute [local go_sem] Gk List.getElem_cons_zero List.getElem_cons_succ
end
theorem Rf (p:Rp) (w:World) (hk:p.ss.length=32) (hs:pSm p.s):Calls Tryz.prog 167 #[.agg (rpC p).toArray] w fun e w'=>e=.returned (.bool (rpB p))/\Below w.heap.size w w':=by
 have HI:=I (show(Tryz.prog.info? 110).map (·.size)=some (rpC p).toArray.size by rw[Fv hk];kernel_rfl);have CF:=I (show ∀w':World,Blk w' w.heap.size 110 (rpC p).toArray->w'.cell? ⟨w.heap.size,32,none⟩=some (.string ⟨p.s.1.toArray⟩)/\w'.cell? ⟨w.heap.size,33,none⟩=some (.string ⟨p.s.2.toArray⟩)/\w'.cell? ⟨w.heap.size,34,none⟩=some (.int .i64 p.st)/\w'.cell? ⟨w.heap.size,35,none⟩=some (.int .i64 p.en)/\w'.cell? ⟨w.heap.size,36,none⟩=some (.int .i64 p.no) from fun w' h=>FI hk h);obtain⟨cs,aa⟩:=Aj ((rpC p).toArray);rw[<-aa] at HI CF⊢;clear aa;have X:=I ((Below.refl w.heap.size w).alloc Af (.cells cs 110));have O:=I (Blk.new w 110 cs);have Z:=I (fun Y=>AU p.s Y hs.1 hs.2);have T2:=I (fun Y=>GH p.st Y);have T3:=I (fun Y=>GH p.en Y);have T4:=I (fun Y=>Fw p.no Y);obtain⟨k0,k1,k2,k3,k4⟩:=CF.o _ O.o;cases h1:prB p.s with
 |false=>
  rw[h1] at Z;have E:=I (show rpB p=false by rw[rpB,h1];rfl);clear h1;go_enter Tryz.func167,Tryz.ntmps167
  go_wp2_with (go_at_call 58;(with_reducible refine Calls.mono (Z.o _) ?_);rintro e Y ⟨rfl,M⟩;replace O:=I (O.o.below M);replace X:=X.t M;clear M Z;(try clear k0 k1 k2 k3 k4);obtain⟨k0,k1,k2,k3,k4⟩:=CF.o _ O.o)
  go_ret;exact⟨by rw[E.o];rfl,X.o⟩
 |true=>
  rw[h1] at Z;cases h2:tmB p.st with
  |false=>
   rw[h2] at T2;have E:=I (show rpB p=false by rw[rpB,h1,h2];rfl);clear h1 h2;go_enter Tryz.func167,Tryz.ntmps167
   go_wp2_with (first
    |(go_at_call 58;(with_reducible refine Calls.mono (Z.o _) ?_);rintro e Y ⟨rfl,M⟩;replace O:=I (O.o.below M);replace X:=X.t M;clear M Z;(try clear k0 k1 k2 k3 k4);obtain⟨k0,k1,k2,k3,k4⟩:=CF.o _ O.o)
    |(go_at_call 172;(with_reducible refine Calls.mono (T2.o _) ?_);rintro e w2 ⟨rfl,hw⟩;subst hw;clear T2))
   go_ret;exact⟨by rw[E.o];rfl,X.o⟩
  |true=>
   rw[h2] at T2;cases h3:tmB p.en with
   |false=>
    rw[h3] at T3;have E:=I (show rpB p=false by rw[rpB,h1,h2,h3];rfl);clear h1 h2 h3;go_enter Tryz.func167,Tryz.ntmps167
    go_wp2_with (first
     |(go_at_call 58;(with_reducible refine Calls.mono (Z.o _) ?_);rintro e Y ⟨rfl,M⟩;replace O:=I (O.o.below M);replace X:=X.t M;clear M Z;(try clear k0 k1 k2 k3 k4);obtain⟨k0,k1,k2,k3,k4⟩:=CF.o _ O.o)
     |(go_at_call 172;(with_reducible refine Calls.mono (T2.o _) ?_);rintro e w2 ⟨rfl,hw⟩;subst hw;clear T2)
     |(go_at_call 172;(with_reducible refine Calls.mono (T3.o _) ?_);rintro e w3 ⟨rfl,hw⟩;subst hw;clear T3))
    go_ret;exact⟨by rw[E.o];rfl,X.o⟩
   |true=>
    rw[h3] at T3;have E:=I (show rpB p=tmB p.no by rw[rpB,h1,h2,h3];rfl);clear h1 h2 h3;go_enter Tryz.func167,Tryz.ntmps167
    go_wp2_with (first
     |(go_at_call 58;(with_reducible refine Calls.mono (Z.o _) ?_);rintro e Y ⟨rfl,M⟩;replace O:=I (O.o.below M);replace X:=X.t M;clear M Z;(try clear k0 k1 k2 k3 k4);obtain⟨k0,k1,k2,k3,k4⟩:=CF.o _ O.o)
     |(go_at_call 172;(with_reducible refine Calls.mono (T2.o _) ?_);rintro e w2 ⟨rfl,hw⟩;subst hw;clear T2)
     |(go_at_call 172;(with_reducible refine Calls.mono (T3.o _) ?_);rintro e w3 ⟨rfl,hw⟩;subst hw;clear T3)
     |(go_at_call 173;(with_reducible refine Calls.mono (T4.o _) ?_);rintro e w4 ⟨rfl,hw⟩;subst hw;clear T4))
    go_ret;exact⟨by rw[E.o];rfl,X.o⟩
open DerR
theorem Hi (l:L) (A:Option Addr) (n c:Nat) (w:World) (M:n=l.length) (h:l.length<=2000):Calls Tryz.prog 110 #[.slice A n c] w fun e w'=>e=.returned (.tuple #[.slice A n c,.int .i64 0])/\w=w':=by
 subst M;have O:decide ((2000:Int)<(l.length:Int))=false:=decide_eq_false (by omega);clear h;go_enter Tryz.func110,Tryz.ntmps110
 go_wp2
 go_ret2
 exact⟨rfl,rfl⟩
theorem XQ {a:An} (M:anB a=true):(anE a).length<=2000:=by
 have O:prB a.c=true/\tmB a.t=true/\tmB a.q=true:=by simpa [anB] using M
 have b1:=(AV O.1).1;have b2:=AF a.t;have b3:=AF a.q;have:=Ay 98 [prE a.c,encI a.t,encI a.q].flatten;rw[anE];rw[DI] at this⊢;simp only[List.length_append] at this;omega
theorem XR {p:Rp} (hk:p.ss.length=32) (M:rpB p=true):(rpE p).length<=2000:=by
 have O:prB p.s=true:=(show prB p.s=true/\tmB p.st=true/\tmB p.en=true/\tmB p.no=true by simpa [rpB] using M).1;have b1:=(AV O).1;have b2:=AF p.st;have b3:=AF p.en;have Y:=AF p.no;have X:=Ay 4 p.ss;have:=Ay 122 [elem 4 p.ss,prE p.s,encI p.st,encI p.en,encI p.no].flatten;rw[rpE];rw[Ef] at this⊢;simp only[List.length_append] at this;omega
theorem Le (a:An) (w:World) (hs:pSm a.c):Calls Tryz.prog 92 #[.agg #[.string ⟨a.c.1.toArray⟩,.string ⟨a.c.2.toArray⟩,.int .i64 a.t,.int .i64 a.q]] w (EncR w (anO a)):=by
 have HI:=I (show(Tryz.prog.info? 73).map (·.size)=some (#[.string ⟨a.c.1.toArray⟩,.string ⟨a.c.2.toArray⟩,.int .i64 a.t,.int .i64 a.q]:Array Value).size by kernel_rfl);have I1:=I (fun Z=>Mk a Z hs);have T0:=I (fun(M:anB a=true)=>fun Z=>Ld a Z M);have O:=I (fun(M:anB a=true)=>XQ M);obtain⟨cs,aa⟩:∃cs:Array Value,cs=#[.string ⟨a.c.1.toArray⟩,.string ⟨a.c.2.toArray⟩,.int .i64 a.t,.int .i64 a.q]:=⟨_,rfl⟩;rw[<-aa] at HI I1 T0⊢;clear aa;have HB:=I ((Below.refl w.heap.size w).alloc Af (.cells cs 73));have HK:=I (Blk.new w 73 cs);cases M:anB a with
 |false=>
  rw[M] at I1;have E:=I (show anO a=none by unfold anO limO;rw[M];rfl);rw[E.o];clear M E T0 O hs;go_enter Tryz.func92,Tryz.ntmps92
  go_wp2_with (first
   |(refine Ad (by rfl) 73 (.tmp 1) (by rfl) w.heap.size 0 (by rfl) cs _ (Ac HK.o) Tryz.underlying73 (by rfl) HI.o ?_)
   |(go_at_call 139;refine Ah (I1.o _) ?_;rintro Z X;replace HB:=HB.t X;clear X I1)
   |fail)
  go_ret2
  exact FJ HB.o
 |true=>
  rw[M] at I1;have T1:=I (T0.o M);have Y:=O.o M;have E:=I (show anO a=some (anE a) from Bx.2 ⟨M,Y,rfl⟩);rw[E.o];obtain⟨l,el⟩:=Aj (anE a);rw[<-el] at T1 Y⊢;have LM:=I (fun A c Z=>Hi l A _ c Z rfl Y);clear M E el Y T0 O hs;go_enter Tryz.func92,Tryz.ntmps92
  go_wp2_with (first
   |(refine Ad (by rfl) 73 (.tmp 1) (by rfl) w.heap.size 0 (by rfl) cs _ (Ac HK.o) Tryz.underlying73 (by rfl) HI.o ?_)
   |(go_at_call 139;refine Ah (I1.o _) ?_;rintro Z X;replace HK:=I (HK.o.below X);replace HB:=HB.t X;clear X I1)
   |(go_at_call 140;refine Calls.mono (T1.o _) ?_;rintro e w2 ⟨⟨g,c,rfl,h2,h3,h4⟩,X⟩;have HG:=I (Ba (l:=l) ⟨⟨g,c,rfl,h2,h3,h4⟩,X⟩ HB.o);clear h2 h3 h4 X T1)
   |(go_at_call 110;refine Ah (LM.o _ _ _) ?_;rintro wy rfl;clear LM)
   |fail)
  go_ret2
  exact Dv HG.o
theorem OG (p:Rp) (w:World) (hk:p.ss.length=32) (hs:pSm p.s):Calls Tryz.prog 118 #[.agg (rpC p).toArray] w (EncR w (rpO p)):=by
 have HI:=I (show(Tryz.prog.info? 110).map (·.size)=some ((rpC p).toArray:Array Value).size by rw[Fv hk];kernel_rfl);have I1:=I (fun Z=>Rf p Z hk hs);have T0:=I (fun(M:rpB p=true)=>fun Z=>OF p Z hk M);have O:=I (fun(M:rpB p=true)=>XR hk M);obtain⟨cs,aa⟩:∃cs:Array Value,cs=(rpC p).toArray:=⟨_,rfl⟩;rw[<-aa] at HI I1 T0⊢;clear aa;have HB:=I ((Below.refl w.heap.size w).alloc Af (.cells cs 110));have HK:=I (Blk.new w 110 cs);cases M:rpB p with
 |false=>
  rw[M] at I1;have E:=I (show rpO p=none by unfold rpO limO;rw[M];rfl);rw[E.o];clear M E T0 O hs hk;go_enter Tryz.func118,Tryz.ntmps118
  go_wp2_with (first
   |(refine Ad (by rfl) 110 (.tmp 1) (by rfl) w.heap.size 0 (by rfl) cs _ (Ac HK.o) Tryz.underlying110 (by rfl) HI.o ?_)
   |(go_at_call 167;refine Ah (I1.o _) ?_;rintro Z X;replace HB:=HB.t X;clear X I1)
   |fail)
  go_ret2
  exact FJ HB.o
 |true=>
  rw[M] at I1;have T1:=I (T0.o M);have Y:=O.o M;have E:=I (show rpO p=some (rpE p) from Bx.2 ⟨M,Y,rfl⟩);rw[E.o];obtain⟨l,el⟩:=Aj (rpE p);rw[<-el] at T1 Y⊢;have LM:=I (fun A c Z=>Hi l A _ c Z rfl Y);clear M E el Y T0 O hs hk;go_enter Tryz.func118,Tryz.ntmps118
  go_wp2_with (first
   |(refine Ad (by rfl) 110 (.tmp 1) (by rfl) w.heap.size 0 (by rfl) cs _ (Ac HK.o) Tryz.underlying110 (by rfl) HI.o ?_)
   |(go_at_call 167;refine Ah (I1.o _) ?_;rintro Z X;replace HK:=I (HK.o.below X);replace HB:=HB.t X;clear X I1)
   |(go_at_call 168;refine Calls.mono (T1.o _) ?_;rintro e w2 ⟨⟨g,c,rfl,h2,h3,h4⟩,X⟩;have HG:=I (Ba (l:=l) ⟨⟨g,c,rfl,h2,h3,h4⟩,X⟩ HB.o);clear h2 h3 h4 X T1)
   |(go_at_call 110;refine Ah (LM.o _ _ _) ?_;rintro wy rfl;clear LM)
   |fail)
  go_ret2
  exact Dv HG.o
end Mc
end Go.Proofs.YtcpccikongbopaaGreat
