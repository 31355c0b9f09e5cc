import Derived.Test.YtfbnjcdhipplpaaGreatZAcceptorErrs18
import Derived.Test.YtfbnjcdhipplpaaGreatZAcceptorErrs19
set_option maxHeartbeats 25600000
set_option maxRecDepth 100000
set_option linter.unusedVariables false
set_option linter.unusedSimpArgs false
namespace Go.Proofs.YtfbnjcdhipplpaaGreat
namespace Kd
open Go.RowKit Af Se
open Rg (It Ent Ring RO DRing DO its prV Gc Ci numO Al)
open Ms (tmB inB)
open Nm (krb)
theorem Dq:(Tryz.prog.info? 27).map (·.size)=some 2:=by kernel_rfl
section
variable {w:World} {B:Nat} {p:KP} {es:List Ent} {n i:Nat}
end
end Kd
namespace Ms
open Go.RowKit Af DerP DerR
theorem Db {a b c:World} {row:Option Nat} (h:a.grownBy b row) (k:b.grownBy c row):a.grownBy c row:=
 ⟨k.os.trans h.os,k.tape.trans h.tape,k.output.trans h.output,Nat.le_trans h.size k.size,fun i hi M=>(k.block i (Nat.lt_of_lt_of_le hi h.size) M).trans (h.block i hi M)⟩
theorem Hj {a b c:World} {row:Option Nat} {q:Nat} (h:a.grownBy b row) (k:b.grownBy c (some q)) (O:a.heap.size<=q):a.grownBy c row:=
 ⟨k.os.trans h.os,k.tape.trans h.tape,k.output.trans h.output,Nat.le_trans h.size k.size,fun i hi M=>(k.block i (Nat.lt_of_lt_of_le hi h.size) (fun e=>by injection e with e;omega)).trans (h.block i hi M)⟩
theorem Au {P:Program} {fn:Func} {tmps:Array Value} {w:World} {v:Value} (t:Nat) (ty:TypeId) (a:Addr) (M:fn.results=#[.cell t ty]) (ht:tmps.getD t undef=.pointer (some a)) (Z:(loadVar ty a).run P w=.ok v w) :
  (results fn tmps).run P w=.ok v w:=by
 have O:tmps[t]?.getD undef=.pointer (some a):=by simpa using ht
 simp [results,M,O,asAddr,Z]
theorem Ao {P:Program} {w:World} {g:Nat} {t ty:TypeId} {cs:Array Value} {d:TypeDesc} (h:Blk w g t cs) (hu:P.underlying ty=some d) (Z:d.isRow=true) (hi:(P.info? ty).map (·.size)=some cs.size) :
  (loadVar ty ⟨g,0,none⟩).run P w=.ok (.agg cs) w:=by
 have O:w.rangeAt g 0 cs.toList:=fun j v M=>by rw[Nat.zero_add,h.cell];simpa using M
 have:=run_loadVar_mid (P:=P) w g 0 ty cs.toList d O hu Z (by simpa using hi)
 simpa using this
theorem Xi (c:Option L):((intC c).2.getD []).length<=(c.getD []).length:=by
 unfold intC;cases h:AP 2 c with
 |none=>simp
 |some b=>
  simp only;cases numL b with
  |none=>simp
  |some n=>exact(Ds 2 c).2
theorem Al {P:Program} {fn:Func} {tmps:Array Value} {w:World} {v u:Value} (t q:Nat) (ty:TypeId) (a:Addr) (M:fn.results=#[.cell t ty,.tmp q]) (ht:tmps.getD t undef=.pointer (some a)) (hl:(loadVar ty a).run P w=.ok v w) (hq:tmps.getD q undef=u) :
  (results fn tmps).run P w=.ok (.tuple #[v,u]) w:=by
 have O:tmps[t]?.getD undef=.pointer (some a):=by simpa using ht
 have Z:tmps[q]?.getD undef=u:=by simpa using hq
 simp [results,M,O,Z,asAddr,hl]
def anG (b:L):An:=(anD b).getD an0
def anI (b:L):Int:=if (anD b).isSome then 0 else 2
end Ms
namespace Mc
open Go.RowKit Af DerP DerC Ms
def OwnB (w:World) (base:Nat) (v:Value) (l:L):Prop:=
 ∃b c,v=.slice (some ⟨b,0,none⟩) l.length c/\l.length<=c/\base<=b/\b<w.heap.size/\∀i u,(bvs l)[i]? = some u->w.cell? ⟨b,i,none⟩=some u
theorem OwnB.of_fresh {w:World} {base b c:Nat} {l:L} (h:Rm w base b l) (M:l.length<=c):OwnB w base (.slice (some ⟨b,0,none⟩) l.length c) l:=by
 refine⟨b,c,rfl,M,h.1,h.2.1,fun i u hu=>?_⟩;have hi:i<l.length:=by
  rcases Nat.lt_or_ge i l.length with g | g
  ·exact g
  ·rw[List.getElem?_eq_none (by rw[AG];exact g)] at hu;cases hu
 rw[Gg hi] at hu;injection hu with hu;subst hu;exact(h.2.2 i hi).1
theorem OwnB.keep {w w':World} {base g:Nat} {v:Value} {l:L} (h:OwnB w base v l) (M:w.grownBy w' (some g)) (av:g<base):OwnB w' base v l:=by
 obtain⟨b,c,h1,Z,h3,O,h5⟩:=h;exact⟨b,c,h1,Z,h3,Nat.lt_of_lt_of_le O M.size,fun i u hu=>(World.cell?_of_block (a:=⟨b,i,none⟩) (M.block b O (fun e=>by injection e with e;omega))).trans (h5 i u hu)⟩
theorem OwnB.below {w w':World} {base:Nat} {v:Value} {l:L} (h:OwnB w base v l) (O:Below w.heap.size w w'):OwnB w' base v l:=by
 obtain⟨b,c,h1,Z,h3,M,h5⟩:=h;exact⟨b,c,h1,Z,h3,Nat.lt_of_lt_of_le M O.size,fun i u hu=>(O.cell (p:=⟨b,i,none⟩) M).trans (h5 i u hu)⟩
theorem OwnB.less {w:World} {base base':Nat} {v:Value} {l:L} (h:OwnB w base v l) (hb:base'<=base):OwnB w base' v l:=by
 obtain⟨b,c,Z,O,h3,M,h5⟩:=h;exact⟨b,c,Z,O,Nat.le_trans hb h3,M,h5⟩
theorem OwnB.slb {w:World} {base:Nat} {v:Value} {l:L} (h:OwnB w base v l):SlB w w.heap.size v l:=by
 obtain⟨b,c,Z,O,h3,M,h5⟩:=h;exact⟨_,c,Z,O,.inr ⟨b,0,rfl,M,fun i u hu=>by rw[Nat.zero_add];exact h5 i u hu⟩⟩
theorem Ar {w:World} {g:Nat} {t:TypeId} {cs:Array Value} (h:Blk w g t cs) (n:Nat) (M:n<=cs.size):w.there g 0 n:=fun j O=>by
 rw[Nat.zero_add,h.cell,Array.getElem?_eq_getElem (by omega)];exact⟨rfl,h.frozen j⟩
theorem Bo {g:Nat} {t:TypeId}:∀(M:List Value) (o:Nat) (w:World) (cs:Array Value),Blk w g t cs->o+M.length<=cs.size->
  ∃ds:Array Value,Blk (w.setCells g o M) g t ds/\ds.size=cs.size/\(∀i,o<=i->i<o+M.length->ds[i]? = M[i - o]?)/\(∀i,i<o\/o+M.length<=i->ds[i]? = cs[i]?)
 | [],o,w,cs,h,hl=>⟨cs,h,rfl,fun i h1 O=>by simp at O;omega,fun i _=>rfl⟩
 |v :: r,o,w,cs,h,hl=>by
  rw[World.setCells];simp only[List.length_cons] at hl;obtain⟨ds,h1,O,h3,Z⟩:=Bo r (o+1) _ _ (h.set o v) (by simp;omega);simp only[List.length_cons];refine⟨ds,h1,by simpa using O,fun i hi hj=>?_,fun i hi=>?_⟩
  ·by_cases e:i=o
   ·subst e
    rw[Z i (by omega),Nat.sub_self];rw[Array.getElem?_setIfInBounds_self_of_lt (by omega)]
    rfl
   ·rw[h3 i (by omega) (by omega),show i - o=(i - (o+1))+1 by omega]
    simp
  ·rw[Z i (by omega)]
   exact Array.getElem?_setIfInBounds_ne (by omega)
theorem QV {w:World} {g:Nat} {t:TypeId} {x:L} (h:Blk w g t (bvs key0).toArray):Blk (w.setCells g 0 (bvs (x.take 32))) g t (bvs ((x++key0).take 32)).toArray:=by
 have hk:key0.length=32:=rfl;obtain⟨es,O,h2,Z,M⟩:=Bo (bvs (x.take 32)) 0 w _ h (by simp [AG,hk];omega);have e:es=(bvs ((x++key0).take 32)).toArray:=by
  apply Array.ext_getElem?;intro i;rw[show(bvs ((x++key0).take 32)).toArray[i]? = (bvs ((x++key0).take 32))[i]? by simp]
  by_cases hi:i<(x.take 32).length
  ·rw[Z i (by omega) (by rw[AG];omega),Nat.sub_zero]
   simp only[bvs,List.getElem?_map]
   congr 1
   rw[List.length_take] at hi;rw[List.getElem?_take_of_lt (by omega),List.getElem?_take_of_lt (by omega),List.getElem?_append_left (by omega)]
  ·rw[M i (by rw[AG];omega),show(bvs key0).toArray[i]? = (bvs key0)[i]? by simp]
   simp only[bvs,List.getElem?_map]
   congr 1
   rw[List.length_take] at hi
   by_cases h5:i<32
   ·rw[List.getElem?_take_of_lt h5,List.getElem?_append_right (by omega)]
    simp only[key0,List.getElem?_replicate];rw[if_pos h5,if_pos (by omega)]
   ·rw[List.getElem?_eq_none (by rw[hk];omega),List.getElem?_eq_none (by rw[List.length_take];omega)]
 rw[<-e];exact O
theorem AK {w:World} {g:Nat} {t:TypeId} {cs ds:Array Value} (h:Blk w g t cs) (hs:cs.size=ds.size):Blk (w.setCells g 0 ds.toList) g t ds:=by
 obtain⟨es,M,Z,O,_⟩:=Bo ds.toList 0 w cs h (by simp;omega);have e:es=ds:=by
  apply Array.ext_getElem?;intro i
  by_cases hi:i<ds.size
  ·rw[O i (by omega) (by simp;omega)];simp
  ·rw[Array.getElem?_eq_none (by omega),Array.getElem?_eq_none (by omega)]
 rw[<-e];rw[<-e] at M;exact M
theorem Fh {row:Option Nat} {a:World} {g:Nat} (hp:row=some g\/a.heap.size<=g):∀(M:List Value) (o:Nat) (w:World),a.grownBy w row->a.grownBy (w.setCells g o M) row
 | [],_,_,h=>h
 |v :: r,o,w,h=>by rw[World.setCells];exact Fh hp r (o+1) _ (AN h (p:=⟨g,o,none⟩) hp v)
theorem AQ (w:World) (g:Nat) (M:List Value):w.grownBy (w.setCells g 0 M) (some g):=Fh (.inl rfl) M 0 w (World.grownBy.refl _ _)
theorem Dg {w:World} {g:Nat} {c:Option L} (h:Cur w g c):g<w.heap.size:=Blk.lt h
theorem Dc {w w':World} {g q:Nat} {c:Option L} (h:Cur w g c) (O:w.grownBy w' (some q)) (M:q≠g):Cur w' g c:=Blk.grown h O (fun e=>M (by injection e))
theorem DU (g:Nat) (c:Option L) (w:World) (h:Cur w g c) (hs:((c.getD []).length:Int)<=100000):Calls Tryz.prog 211 #[.pointer (some ⟨g,0,none⟩)] w fun e w'=>
  (∃v,e=.returned v/\OwnB w' w.heap.size v (ocC c))/\Cur w' g (Bb 4 c)/\w.grownBy w' (some g):=
 (Dj g c w h hs).mono fun e w' M=>by
  obtain⟨⟨b,cap,rfl,hc,O⟩,Z,h3⟩:=M;exact⟨⟨_,rfl,OwnB.of_fresh O hc⟩,Z,h3⟩
theorem FI (g:Nat) (c:Option L) (w:World) (h:Cur w g c) (hs:((c.getD []).length:Int)<=100000):Calls Tryz.prog 229 #[.pointer (some ⟨g,0,none⟩)] w fun e w'=>
 e=.returned (.string ⟨(txC c).toArray⟩)/\Cur w' g (Bb 27 c)/\w.grownBy w' (some g):=Ez g c w h hs
theorem BX (t:UInt8) {c:Option L} {n:Nat} (h:(c.getD []).length<=n):((Bb t c).getD []).length<=n:=Nat.le_trans (Ds t c).2 h
theorem FJ (t:UInt8) {c:Option L} {n:Nat} (h:(c.getD []).length<=n):((AP t c).getD []).length<=n:=Nat.le_trans (Ds t c).1 h
theorem FK {c:Option L} {n:Nat} (h:(c.getD []).length<=n):((intC c).2.getD []).length<=n:=Nat.le_trans (Xi c) h
theorem BP (g:Nat) (c:Option L) (w:World) (h:Cur w g c) (hs:(c.getD []).length<=100000):Calls Tryz.prog 208 #[.pointer (some ⟨g,0,none⟩)] w fun e w'=>e=.returned (.agg #[.string ⟨(prQ c).1.1.toArray⟩,.string ⟨(prQ c).1.2.toArray⟩])/\Cur w' g (prQ c).2/\w.grownBy w' (some g):=by
 obtain⟨W,eW⟩:=Ak (w.alloc (.cells #[.string ⟨#[]⟩,.string ⟨#[]⟩] 27));have cd:W.heap.size=w.heap.size+1:=by rw[eW];simp
 have Z:=I (show Blk W w.heap.size 27 #[.string ⟨#[]⟩,.string ⟨#[]⟩] by rw[eW];exact Blk.new _ _ _);have cc:=Dg h;have cb:Cur W g c:=by rw[eW];exact h.alloc _
 have HG:=I (show w.grownBy W (some g) by rw[eW];exact DJ (World.grownBy.refl _ _) _);have c1:=GN 48 g c W cb (by omega);have bn:=FJ 48 hs;obtain⟨s0,es0⟩:∃s,s=AP 48 c:=⟨_,rfl⟩;obtain⟨r,er⟩:∃s,s=Bb 48 c:=⟨_,rfl⟩;rw[<-es0] at c1 bn;rw[<-er] at c1;have av:=I cc;have bq:((Bb 27 s0).getD []).length<=100000:=BX 27 bn;have T1:=I (fun g w h=>FI g s0 w h (by omega));obtain⟨v1,bx⟩:∃x:L,x=txC s0:=⟨_,rfl⟩;obtain⟨s1,aw⟩:∃s,s=Bb 27 s0:=⟨_,rfl⟩;rw[<-bx,<-aw] at T1;rw[<-aw] at bq;have cf:((Bb 27 s1).getD []).length<=100000:=BX 27 bq;have T2:=I (fun g w h=>FI g s1 w h (by omega));obtain⟨v2,bz⟩:∃x:L,x=txC s1:=⟨_,rfl⟩;obtain⟨s2,es2⟩:∃s,s=Bb 27 s1:=⟨_,rfl⟩;rw[<-bz,<-es2] at T2;rw[<-es2] at cf;have ca:=I (show(prQ c).1.1=v1 by rw[bx,es0];rfl);have bB:=I (show(prQ c).1.2=v2 by rw[bz,aw,es0];rfl);have FS:=I (show(prQ c).2=r by rw[er];rfl);rw[ca.o,bB.o,FS.o];clear h hs bn bq cf ca bx aw bB bz es2 es0 FS cc er cb;have cj:=I cd;clear cd;subst eW;go_enter Tryz.func208,Tryz.ntmps208
 go_wp2_with (first
  |(go_at_call 171;refine Calls.mono c1 ?_;rintro e wi ⟨⟨gd,rfl,cg,hd⟩,hc,M⟩;clear c1;have HD:=I hd;have HC:=I hc;have O:=I (show w.heap.size+1<=gd by have:=cj.o;omega);have bb:=I (Dg hd);replace Z:=I (Z.o.grown M (by intro e;injection e with e;have:=av.o;omega));replace HG:=I (Db HG.o M);clear cg hd hc M)
  |(go_at_call 229;(with_reducible refine Calls.mono (T1.o _ _ HD.o) ?_);rintro e w1 ⟨rfl,hd,M⟩;clear T1;replace HD:=I hd;replace Z:=I (Z.o.grown M (by intro e;injection e with e;have:=O.o;omega));replace HC:=I (Dc HC.o M (by have:=O.o;have:=av.o;omega));replace HG:=I (Hj HG.o M (by have:=O.o;omega));replace bb:=I (Nat.lt_of_lt_of_le bb.o M.size);clear hd M)
  |(go_at_call 229;(with_reducible refine Calls.mono (T2.o _ _ HD.o) ?_);rintro e w2 ⟨rfl,hd,M⟩;clear T2;replace HD:=I hd;replace Z:=I (Z.o.grown M (by intro e;injection e with e;have:=O.o;omega));replace HC:=I (Dc HC.o M (by have:=O.o;have:=av.o;omega));replace HG:=I (Hj HG.o M (by have:=O.o;omega));replace bb:=I (Nat.lt_of_lt_of_le bb.o M.size);clear hd M;have n0:=Z.c0;have y0:=Z.o.frozen 0;have n1:=Z.c1;have y1:=Z.o.frozen 1)
  |fail)
 have hE:Blk ((w2.setCell ⟨w.heap.size,0,none⟩ (.string ⟨v1.toArray⟩)).setCell ⟨w.heap.size,1,none⟩ (.string ⟨v2.toArray⟩)) w.heap.size 27 #[.string ⟨v1.toArray⟩,.string ⟨v2.toArray⟩]:=((Z.o.set 0 (.string ⟨v1.toArray⟩)).set 1 (.string ⟨v2.toArray⟩));have hp:=(AN (AN (World.grownBy.refl w2 (some w.heap.size)) (p:=⟨w.heap.size,0,none⟩) (.inl rfl) (.string ⟨v1.toArray⟩)) (p:=⟨w.heap.size,1,none⟩) (.inl rfl) (.string ⟨v2.toArray⟩));have hq:=Ao (P:=Tryz.prog) hE Tryz.underlying27 rfl (by kernel_rfl);refine bodyPost_ret (v:=.agg #[.string ⟨v1.toArray⟩,.string ⟨v2.toArray⟩]) ?_ ?_ ?_
 ·exact Au 2 27 ⟨w.heap.size,0,none⟩ Tryz.results208 rfl hq
 ·rfl
 exact⟨rfl,Dc HC.o hp (by have:=av.o;omega),Hj HG.o hp Ag⟩
theorem Ef (g:Nat) (c:Option L) (w:World) (h:Cur w g c) (hs:(c.getD []).length<=100000):Calls Tryz.prog 210 #[.pointer (some ⟨g,0,none⟩)] w fun e w'=>∃z3,e=.returned (.agg #[.string ⟨(tkQ c).1.s.1.toArray⟩,.string ⟨(tkQ c).1.s.2.toArray⟩,.int .i64 (tkQ c).1.k,z3])/\OwnB w' w.heap.size z3 (tkQ c).1.b/\Cur w' g (tkQ c).2/\w.grownBy w' (some g):=by
 obtain⟨W,eW⟩:=Ak (w.alloc (.cells #[.string ⟨#[]⟩,.string ⟨#[]⟩,.int .i64 0,.slice none 0 0] 83));have cj:W.heap.size=w.heap.size+1:=by rw[eW];simp
 have Z:=I (show Blk W w.heap.size 83 #[.string ⟨#[]⟩,.string ⟨#[]⟩,.int .i64 0,.slice none 0 0] by rw[eW];exact Blk.new _ _ _);have cg:=Dg h;have cf:Cur W g c:=by rw[eW];exact h.alloc _
 have HG:=I (show w.grownBy W (some g) by rw[eW];exact DJ (World.grownBy.refl _ _) _);have c1:=GN 97 g c W cf (by omega);have bn:=FJ 97 hs;obtain⟨s0,es0⟩:∃s,s=AP 97 c:=⟨_,rfl⟩;obtain⟨r,er⟩:∃s,s=Bb 97 c:=⟨_,rfl⟩;rw[<-es0] at c1 bn;rw[<-er] at c1;have aw:=I cg;have bx:(((prQ s0).2).getD []).length<=100000:=BX 48 bn;have T1:=I (fun g w h=>BP g s0 w h bn);obtain⟨v1,bB⟩:∃x:Pr,x=(prQ s0).1:=⟨_,rfl⟩;obtain⟨s1,bb⟩:∃s,s=(prQ s0).2:=⟨_,rfl⟩;rw[<-bB,<-bb] at T1;rw[<-bb] at bx;have cb:(((intC s1).2).getD []).length<=100000:=FK bx;have T2:=I (fun g w h=>BO g s1 w h (by omega));obtain⟨v2,ca⟩:∃x:Int,x=((intC s1).1:Int):=⟨_,rfl⟩;obtain⟨s2,es2⟩:∃s,s=(intC s1).2:=⟨_,rfl⟩;rw[<-ca,<-es2] at T2;rw[<-es2] at cb;have ck:((Bb 4 s2).getD []).length<=100000:=BX 4 cb;have T3:=I (fun g w h=>DU g s2 w h (by omega));obtain⟨v3,bq⟩:∃x:L,x=ocC s2:=⟨_,rfl⟩;obtain⟨s3,bz⟩:∃s,s=Bb 4 s2:=⟨_,rfl⟩;rw[<-bq,<-bz] at T3;rw[<-bz] at ck;have cd:=I (show(tkQ c).1.s=v1 by rw[bB,es0];rfl);have cc:=I (show(tkQ c).1.k=v2 by rw[ca,bb,es0];rfl);have cm:=I (show(tkQ c).1.b=v3 by rw[bq,es2,bb,es0];rfl);have FS:=I (show(tkQ c).2=r by rw[er];rfl);rw[cd.o,cc.o,cm.o,FS.o];clear h hs bn bx cb ck cd bB bb cc ca es2 cm bq bz es0 FS cg er cf;have cq:=I cj;clear cj;subst eW;go_enter Tryz.func210,Tryz.ntmps210
 go_wp2_with (first
  |(go_at_call 171;refine Calls.mono c1 ?_;rintro e wi ⟨⟨gd,rfl,cn,hd⟩,hc,O⟩;clear c1;have HD:=I hd;have HC:=I hc;have M:=I (show w.heap.size+1<=gd by have:=cq.o;omega);have av:=I (Dg hd);replace Z:=I (Z.o.grown O (by intro e;injection e with e;have:=aw.o;omega));replace HG:=I (Db HG.o O);clear cn hd hc O)
  |(go_at_call 208;(with_reducible refine Calls.mono (T1.o _ _ HD.o) ?_);rintro e w1 ⟨rfl,hd,O⟩;clear T1;replace HD:=I hd;replace Z:=I (Z.o.grown O (by intro e;injection e with e;have:=M.o;omega));replace HC:=I (Dc HC.o O (by have:=M.o;have:=aw.o;omega));replace HG:=I (Hj HG.o O (by have:=M.o;omega));replace av:=I (Nat.lt_of_lt_of_le av.o O.size);clear hd O)
  |(go_at_call 209;(with_reducible refine Calls.mono (T2.o _ _ HD.o) ?_);rintro e w2 ⟨rfl,hd,O⟩;clear T2;replace HD:=I hd;replace Z:=I (Z.o.grown O (by intro e;injection e with e;have:=M.o;omega));replace HC:=I (Dc HC.o O (by have:=M.o;have:=aw.o;omega));replace HG:=I (Hj HG.o O (by have:=M.o;omega));replace av:=I (Nat.lt_of_lt_of_le av.o O.size);clear hd O)
  |(go_at_call 211;(with_reducible refine Calls.mono (T3.o _ _ HD.o) ?_);rintro e w3 ⟨⟨y,rfl,ho⟩,hd,O⟩;clear T3;replace ho:=ho.less (show gd+1<=_ from av.o);obtain⟨b3,c3,rfl,x1,x2,x3,x4⟩:=ho;have cp:Hid (OwnB w3 (gd+1) (.slice (some ⟨b3,0,none⟩) _ c3) _):=I ⟨b3,c3,rfl,x1,x2,x3,x4⟩;clear x1 x2 x3 x4;replace HD:=I hd;replace Z:=I (Z.o.grown O (by intro e;injection e with e;have:=M.o;omega));replace HC:=I (Dc HC.o O (by have:=M.o;have:=aw.o;omega));replace HG:=I (Hj HG.o O (by have:=M.o;omega));replace av:=I (Nat.lt_of_lt_of_le av.o O.size);clear hd O;have n0:=Z.c0;have y0:=Z.o.frozen 0;have n1:=Z.c1;have y1:=Z.o.frozen 1;have n2:=Z.c2;have y2:=Z.o.frozen 2;have n3:=Z.c3;have y3:=Z.o.frozen 3)
  |fail)
 have hE:Blk ((((w3.setCell ⟨w.heap.size,0,none⟩ (.string ⟨v1.1.toArray⟩)).setCell ⟨w.heap.size,1,none⟩ (.string ⟨v1.2.toArray⟩)).setCell ⟨w.heap.size,2,none⟩ (.int .i64 v2)).setCell ⟨w.heap.size,3,none⟩ (.slice (some ⟨b3,0,none⟩) v3.length c3)) w.heap.size 83 #[.string ⟨v1.1.toArray⟩,.string ⟨v1.2.toArray⟩,.int .i64 v2,.slice (some ⟨b3,0,none⟩) v3.length c3]:=((((Z.o.set 0 (.string ⟨v1.1.toArray⟩)).set 1 (.string ⟨v1.2.toArray⟩)).set 2 (.int .i64 v2)).set 3 (.slice (some ⟨b3,0,none⟩) v3.length c3));have hp:=(AN (AN (AN (AN (World.grownBy.refl w3 (some w.heap.size)) (p:=⟨w.heap.size,0,none⟩) (.inl rfl) (.string ⟨v1.1.toArray⟩)) (p:=⟨w.heap.size,1,none⟩) (.inl rfl) (.string ⟨v1.2.toArray⟩)) (p:=⟨w.heap.size,2,none⟩) (.inl rfl) (.int .i64 v2)) (p:=⟨w.heap.size,3,none⟩) (.inl rfl) (.slice (some ⟨b3,0,none⟩) v3.length c3));have hq:=Ao (P:=Tryz.prog) hE Tryz.underlying83 rfl (by kernel_rfl);refine bodyPost_ret (v:=.agg #[.string ⟨v1.1.toArray⟩,.string ⟨v1.2.toArray⟩,.int .i64 v2,.slice (some ⟨b3,0,none⟩) v3.length c3]) ?_ ?_ ?_
 ·exact Au 2 83 ⟨w.heap.size,0,none⟩ Tryz.results210 rfl hq
 ·rfl
 exact⟨_,rfl,(cp.o.keep hp (by have:=M.o;omega)).less (by have:=M.o;omega),Dc HC.o hp (by have:=aw.o;omega),Hj HG.o hp Ag⟩
theorem QW (g:Nat) (c:Option L) (w:World) (h:Cur w g c) (hs:(c.getD []).length<=100000):Calls Tryz.prog 172 #[.pointer (some ⟨g,0,none⟩)] w fun e w'=>e=.returned (.agg #[.string ⟨(asQ c).1.c.1.toArray⟩,.string ⟨(asQ c).1.c.2.toArray⟩,.string ⟨(asQ c).1.s.1.toArray⟩,.string ⟨(asQ c).1.s.2.toArray⟩,.int .i64 (asQ c).1.t,.int .i64 (asQ c).1.no])/\Cur w' g (asQ c).2/\w.grownBy w' (some g):=by
 obtain⟨W,eW⟩:=Ak (w.alloc (.cells #[.string ⟨#[]⟩,.string ⟨#[]⟩,.string ⟨#[]⟩,.string ⟨#[]⟩,.int .i64 0,.int .i64 0] 87));have cn:W.heap.size=w.heap.size+1:=by rw[eW];simp
 have M:=I (show Blk W w.heap.size 87 #[.string ⟨#[]⟩,.string ⟨#[]⟩,.string ⟨#[]⟩,.string ⟨#[]⟩,.int .i64 0,.int .i64 0] by rw[eW];exact Blk.new _ _ _);have ck:=Dg h;have HC:=I (show Cur W g c by rw[eW];exact h.alloc _);have HG:=I (show w.grownBy W (some g) by rw[eW];exact DJ (World.grownBy.refl _ _) _);have bn:=hs;obtain⟨s0,es0⟩:∃s,s=c:=⟨_,rfl⟩;rw[<-es0] at HC bn;have aw:=I ck;have Z:=I (show w.heap.size<W.heap.size by omega);have bx:(((prQ s0).2).getD []).length<=100000:=BX 48 bn;have T1:=I (fun g w h=>BP g s0 w h bn);obtain⟨v1,ca⟩:∃x:Pr,x=(prQ s0).1:=⟨_,rfl⟩;obtain⟨s1,av⟩:∃s,s=(prQ s0).2:=⟨_,rfl⟩;rw[<-ca,<-av] at T1;rw[<-av] at bx;have cd:(((prQ s1).2).getD []).length<=100000:=BX 48 bx;have T2:=I (fun g w h=>BP g s1 w h bx);obtain⟨v2,cb⟩:∃x:Pr,x=(prQ s1).1:=⟨_,rfl⟩;obtain⟨s2,es2⟩:∃s,s=(prQ s1).2:=⟨_,rfl⟩;rw[<-cb,<-es2] at T2;rw[<-es2] at cd;have bB:(((intC s2).2).getD []).length<=100000:=FK cd;have T3:=I (fun g w h=>BO g s2 w h (by omega));obtain⟨v3,bz⟩:∃x:Int,x=((intC s2).1:Int):=⟨_,rfl⟩;obtain⟨s3,bb⟩:∃s,s=(intC s2).2:=⟨_,rfl⟩;rw[<-bz,<-bb] at T3;rw[<-bb] at bB;have cm:(((intC s3).2).getD []).length<=100000:=FK bB;have T4:=I (fun g w h=>BO g s3 w h (by omega));obtain⟨v4,cc⟩:∃x:Int,x=((intC s3).1:Int):=⟨_,rfl⟩;obtain⟨s4,bq⟩:∃s,s=(intC s3).2:=⟨_,rfl⟩;rw[<-cc,<-bq] at T4;rw[<-bq] at cm;have cj:=I (show(asQ c).1.c=v1 by rw[ca,es0];rfl);have cf:=I (show(asQ c).1.s=v2 by rw[cb,av,es0];rfl);have cp:=I (show(asQ c).1.t=v3 by rw[bz,es2,av,es0];rfl);have cg:=I (show(asQ c).1.no=v4 by rw[cc,bb,es2,av,es0];rfl);have FS:=I (show(asQ c).2=s4 by rw[bq,bb,es2,av,es0];rfl);rw[cj.o,cf.o,cp.o,cg.o,FS.o];clear h hs bn bx cd bB cm cj ca av cf cb es2 cp bz bb cg cc bq es0 FS ck;have cq:=I cn;clear cn;subst eW;go_enter Tryz.func172,Tryz.ntmps172
 go_wp2_with (first
  |(go_at_call 208;(with_reducible refine Calls.mono (T1.o _ _ HC.o) ?_);rintro e w1 ⟨rfl,hd,O⟩;clear T1;replace HC:=I hd;replace M:=I (M.o.grown O (by intro e;injection e with e;have:=aw.o;omega));replace HG:=I (Db HG.o O);replace Z:=I (Nat.lt_of_lt_of_le Z.o O.size);clear hd O)
  |(go_at_call 208;(with_reducible refine Calls.mono (T2.o _ _ HC.o) ?_);rintro e w2 ⟨rfl,hd,O⟩;clear T2;replace HC:=I hd;replace M:=I (M.o.grown O (by intro e;injection e with e;have:=aw.o;omega));replace HG:=I (Db HG.o O);replace Z:=I (Nat.lt_of_lt_of_le Z.o O.size);clear hd O)
  |(go_at_call 209;(with_reducible refine Calls.mono (T3.o _ _ HC.o) ?_);rintro e w3 ⟨rfl,hd,O⟩;clear T3;replace HC:=I hd;replace M:=I (M.o.grown O (by intro e;injection e with e;have:=aw.o;omega));replace HG:=I (Db HG.o O);replace Z:=I (Nat.lt_of_lt_of_le Z.o O.size);clear hd O)
  |(go_at_call 209;(with_reducible refine Calls.mono (T4.o _ _ HC.o) ?_);rintro e w4 ⟨rfl,hd,O⟩;clear T4;replace HC:=I hd;replace M:=I (M.o.grown O (by intro e;injection e with e;have:=aw.o;omega));replace HG:=I (Db HG.o O);replace Z:=I (Nat.lt_of_lt_of_le Z.o O.size);clear hd O;have n0:=M.c0;have y0:=M.o.frozen 0;have n1:=M.c1;have y1:=M.o.frozen 1;have n2:=M.c2;have y2:=M.o.frozen 2;have n3:=M.c3;have y3:=M.o.frozen 3;have n4:=M.c4;have y4:=M.o.frozen 4;have n5:=M.c5;have y5:=M.o.frozen 5)
  |fail)
 have hE:Blk ((((((w4.setCell ⟨w.heap.size,0,none⟩ (.string ⟨v1.1.toArray⟩)).setCell ⟨w.heap.size,1,none⟩ (.string ⟨v1.2.toArray⟩)).setCell ⟨w.heap.size,2,none⟩ (.string ⟨v2.1.toArray⟩)).setCell ⟨w.heap.size,3,none⟩ (.string ⟨v2.2.toArray⟩)).setCell ⟨w.heap.size,4,none⟩ (.int .i64 v3)).setCell ⟨w.heap.size,5,none⟩ (.int .i64 v4)) w.heap.size 87 #[.string ⟨v1.1.toArray⟩,.string ⟨v1.2.toArray⟩,.string ⟨v2.1.toArray⟩,.string ⟨v2.2.toArray⟩,.int .i64 v3,.int .i64 v4]:=((((((M.o.set 0 (.string ⟨v1.1.toArray⟩)).set 1 (.string ⟨v1.2.toArray⟩)).set 2 (.string ⟨v2.1.toArray⟩)).set 3 (.string ⟨v2.2.toArray⟩)).set 4 (.int .i64 v3)).set 5 (.int .i64 v4));have hp:=(AN (AN (AN (AN (AN (AN (World.grownBy.refl w4 (some w.heap.size)) (p:=⟨w.heap.size,0,none⟩) (.inl rfl) (.string ⟨v1.1.toArray⟩)) (p:=⟨w.heap.size,1,none⟩) (.inl rfl) (.string ⟨v1.2.toArray⟩)) (p:=⟨w.heap.size,2,none⟩) (.inl rfl) (.string ⟨v2.1.toArray⟩)) (p:=⟨w.heap.size,3,none⟩) (.inl rfl) (.string ⟨v2.2.toArray⟩)) (p:=⟨w.heap.size,4,none⟩) (.inl rfl) (.int .i64 v3)) (p:=⟨w.heap.size,5,none⟩) (.inl rfl) (.int .i64 v4));have hq:=Ao (P:=Tryz.prog) hE Tryz.underlying87 rfl (by kernel_rfl);refine bodyPost_ret (v:=.agg #[.string ⟨v1.1.toArray⟩,.string ⟨v1.2.toArray⟩,.string ⟨v2.1.toArray⟩,.string ⟨v2.2.toArray⟩,.int .i64 v3,.int .i64 v4]) ?_ ?_ ?_
 ·exact Au 2 87 ⟨w.heap.size,0,none⟩ Tryz.results172 rfl hq
 ·rfl
 exact⟨rfl,Dc HC.o hp (by have:=aw.o;omega),Hj HG.o hp Ag⟩
theorem QX (g:Nat) (c:Option L) (w:World) (h:Cur w g c) (hs:(c.getD []).length<=100000):Calls Tryz.prog 174 #[.pointer (some ⟨g,0,none⟩)] w fun e w'=>∃z2,∃z3,e=.returned (.agg #[.string ⟨(reQ c).1.c.1.toArray⟩,.string ⟨(reQ c).1.c.2.toArray⟩,.string ⟨(reQ c).1.t.s.1.toArray⟩,.string ⟨(reQ c).1.t.s.2.toArray⟩,.int .i64 (reQ c).1.t.k,z2,z3])/\OwnB w' w.heap.size z2 (reQ c).1.t.b/\OwnB w' w.heap.size z3 (reQ c).1.b/\Cur w' g (reQ c).2/\w.grownBy w' (some g):=by
 obtain⟨W,eW⟩:=Ak (w.alloc (.cells #[.string ⟨#[]⟩,.string ⟨#[]⟩,.string ⟨#[]⟩,.string ⟨#[]⟩,.int .i64 0,.slice none 0 0,.slice none 0 0] 91));have cg:W.heap.size=w.heap.size+1:=by rw[eW];simp
 have M:=I (show Blk W w.heap.size 91 #[.string ⟨#[]⟩,.string ⟨#[]⟩,.string ⟨#[]⟩,.string ⟨#[]⟩,.int .i64 0,.slice none 0 0,.slice none 0 0] by rw[eW];exact Blk.new _ _ _);have cf:=Dg h;have HC:=I (show Cur W g c by rw[eW];exact h.alloc _);have HG:=I (show w.grownBy W (some g) by rw[eW];exact DJ (World.grownBy.refl _ _) _);have bb:=hs;obtain⟨s0,es0⟩:∃s,s=c:=⟨_,rfl⟩;rw[<-es0] at HC bb;have aw:=I cf;have O:=I (show w.heap.size<W.heap.size by omega);have bn:(((prQ s0).2).getD []).length<=100000:=BX 48 bb;have T1:=I (fun g w h=>BP g s0 w h bb);obtain⟨v1,bB⟩:∃x:Pr,x=(prQ s0).1:=⟨_,rfl⟩;obtain⟨s1,av⟩:∃s,s=(prQ s0).2:=⟨_,rfl⟩;rw[<-bB,<-av] at T1;rw[<-av] at bn;have cb:(((tkQ s1).2).getD []).length<=100000:=BX 97 bn;have T2:=I (fun g w h=>Ef g s1 w h bn);obtain⟨v2,ca⟩:∃x:Tk,x=(tkQ s1).1:=⟨_,rfl⟩;obtain⟨s2,es2⟩:∃s,s=(tkQ s1).2:=⟨_,rfl⟩;rw[<-ca,<-es2] at T2;rw[<-es2] at cb;have cj:((Bb 4 s2).getD []).length<=100000:=BX 4 cb;have T3:=I (fun g w h=>DU g s2 w h (by omega));obtain⟨v3,bx⟩:∃x:L,x=ocC s2:=⟨_,rfl⟩;obtain⟨s3,bq⟩:∃s,s=Bb 4 s2:=⟨_,rfl⟩;rw[<-bx,<-bq] at T3;rw[<-bq] at cj;have cd:=I (show(reQ c).1.c=v1 by rw[bB,es0];rfl);have cc:=I (show(reQ c).1.t=v2 by rw[ca,av,es0];rfl);have ck:=I (show(reQ c).1.b=v3 by rw[bx,es2,av,es0];rfl);have FS:=I (show(reQ c).2=s3 by rw[bq,es2,av,es0];rfl);rw[cd.o,cc.o,ck.o,FS.o];clear h hs bb bn cb cj cd bB av cc ca es2 ck bx bq es0 FS cf;have cn:=I cg;clear cg;subst eW;go_enter Tryz.func174,Tryz.ntmps174
 go_wp2_with (first
  |(go_at_call 208;(with_reducible refine Calls.mono (T1.o _ _ HC.o) ?_);rintro e w1 ⟨rfl,hd,Z⟩;clear T1;replace HC:=I hd;replace M:=I (M.o.grown Z (by intro e;injection e with e;have:=aw.o;omega));replace HG:=I (Db HG.o Z);replace O:=I (Nat.lt_of_lt_of_le O.o Z.size);clear hd Z)
  |(go_at_call 210;(with_reducible refine Calls.mono (T2.o _ _ HC.o) ?_);rintro e w2 ⟨y,rfl,ho,hd,Z⟩;clear T2;replace ho:=ho.less (show w.heap.size+1<=_ from O.o);obtain⟨b2,c2,rfl,x1,x2,x3,x4⟩:=ho;have bz:Hid (OwnB w2 (w.heap.size+1) (.slice (some ⟨b2,0,none⟩) _ c2) _):=I ⟨b2,c2,rfl,x1,x2,x3,x4⟩;clear x1 x2 x3 x4;replace HC:=I hd;replace M:=I (M.o.grown Z (by intro e;injection e with e;have:=aw.o;omega));replace HG:=I (Db HG.o Z);replace O:=I (Nat.lt_of_lt_of_le O.o Z.size);clear hd Z)
  |(go_at_call 211;(with_reducible refine Calls.mono (T3.o _ _ HC.o) ?_);rintro e w3 ⟨⟨y,rfl,ho⟩,hd,Z⟩;clear T3;replace ho:=ho.less (show w.heap.size+1<=_ from O.o);obtain⟨b3,c3,rfl,x1,x2,x3,x4⟩:=ho;have cm:Hid (OwnB w3 (w.heap.size+1) (.slice (some ⟨b3,0,none⟩) _ c3) _):=I ⟨b3,c3,rfl,x1,x2,x3,x4⟩;clear x1 x2 x3 x4;replace HC:=I hd;replace bz:=I (bz.o.keep Z (by have:=aw.o;omega));replace M:=I (M.o.grown Z (by intro e;injection e with e;have:=aw.o;omega));replace HG:=I (Db HG.o Z);replace O:=I (Nat.lt_of_lt_of_le O.o Z.size);clear hd Z;have n0:=M.c0;have y0:=M.o.frozen 0;have n1:=M.c1;have y1:=M.o.frozen 1;have n2:=M.c2;have y2:=M.o.frozen 2;have n3:=M.c3;have y3:=M.o.frozen 3;have n4:=M.c4;have y4:=M.o.frozen 4;have n5:=M.c5;have y5:=M.o.frozen 5;have n6:=M.c6;have y6:=M.o.frozen 6)
  |fail)
 have hE:Blk (((((((w3.setCell ⟨w.heap.size,0,none⟩ (.string ⟨v1.1.toArray⟩)).setCell ⟨w.heap.size,1,none⟩ (.string ⟨v1.2.toArray⟩)).setCell ⟨w.heap.size,2,none⟩ (.string ⟨v2.s.1.toArray⟩)).setCell ⟨w.heap.size,3,none⟩ (.string ⟨v2.s.2.toArray⟩)).setCell ⟨w.heap.size,4,none⟩ (.int .i64 v2.k)).setCell ⟨w.heap.size,5,none⟩ (.slice (some ⟨b2,0,none⟩) v2.b.length c2)).setCell ⟨w.heap.size,6,none⟩ (.slice (some ⟨b3,0,none⟩) v3.length c3)) w.heap.size 91 #[.string ⟨v1.1.toArray⟩,.string ⟨v1.2.toArray⟩,.string ⟨v2.s.1.toArray⟩,.string ⟨v2.s.2.toArray⟩,.int .i64 v2.k,.slice (some ⟨b2,0,none⟩) v2.b.length c2,.slice (some ⟨b3,0,none⟩) v3.length c3]:=(((((((M.o.set 0 (.string ⟨v1.1.toArray⟩)).set 1 (.string ⟨v1.2.toArray⟩)).set 2 (.string ⟨v2.s.1.toArray⟩)).set 3 (.string ⟨v2.s.2.toArray⟩)).set 4 (.int .i64 v2.k)).set 5 (.slice (some ⟨b2,0,none⟩) v2.b.length c2)).set 6 (.slice (some ⟨b3,0,none⟩) v3.length c3));have hp:=(AN (AN (AN (AN (AN (AN (AN (World.grownBy.refl w3 (some w.heap.size)) (p:=⟨w.heap.size,0,none⟩) (.inl rfl) (.string ⟨v1.1.toArray⟩)) (p:=⟨w.heap.size,1,none⟩) (.inl rfl) (.string ⟨v1.2.toArray⟩)) (p:=⟨w.heap.size,2,none⟩) (.inl rfl) (.string ⟨v2.s.1.toArray⟩)) (p:=⟨w.heap.size,3,none⟩) (.inl rfl) (.string ⟨v2.s.2.toArray⟩)) (p:=⟨w.heap.size,4,none⟩) (.inl rfl) (.int .i64 v2.k)) (p:=⟨w.heap.size,5,none⟩) (.inl rfl) (.slice (some ⟨b2,0,none⟩) v2.b.length c2)) (p:=⟨w.heap.size,6,none⟩) (.inl rfl) (.slice (some ⟨b3,0,none⟩) v3.length c3));have hq:=Ao (P:=Tryz.prog) hE Tryz.underlying91 rfl (by kernel_rfl);refine bodyPost_ret (v:=.agg #[.string ⟨v1.1.toArray⟩,.string ⟨v1.2.toArray⟩,.string ⟨v2.s.1.toArray⟩,.string ⟨v2.s.2.toArray⟩,.int .i64 v2.k,.slice (some ⟨b2,0,none⟩) v2.b.length c2,.slice (some ⟨b3,0,none⟩) v3.length c3]) ?_ ?_ ?_
 ·exact Au 2 91 ⟨w.heap.size,0,none⟩ Tryz.results174 rfl hq
 ·rfl
 exact⟨_,_,rfl,(bz.o.keep hp (by omega)).less (by omega),(cm.o.keep hp (by omega)).less (by omega),Dc HC.o hp (by have:=aw.o;omega),Hj HG.o hp Ag⟩
theorem QY (g:Nat) (c:Option L) (w:World) (h:Cur w g c) (hs:(c.getD []).length<=100000):Calls Tryz.prog 175 #[.pointer (some ⟨g,0,none⟩)] w fun e w'=>∃z1,∃z2,e=.returned (.agg #[.string ⟨(apQ c).1.t.s.1.toArray⟩,.string ⟨(apQ c).1.t.s.2.toArray⟩,.int .i64 (apQ c).1.t.k,z1,z2])/\OwnB w' w.heap.size z1 (apQ c).1.t.b/\OwnB w' w.heap.size z2 (apQ c).1.a/\Cur w' g (apQ c).2/\w.grownBy w' (some g):=by
 obtain⟨W,eW⟩:=Ak (w.alloc (.cells #[.string ⟨#[]⟩,.string ⟨#[]⟩,.int .i64 0,.slice none 0 0,.slice none 0 0] 85));have cb:W.heap.size=w.heap.size+1:=by rw[eW];simp
 have M:=I (show Blk W w.heap.size 85 #[.string ⟨#[]⟩,.string ⟨#[]⟩,.int .i64 0,.slice none 0 0,.slice none 0 0] by rw[eW];exact Blk.new _ _ _);have ca:=Dg h;have HC:=I (show Cur W g c by rw[eW];exact h.alloc _);have HG:=I (show w.grownBy W (some g) by rw[eW];exact DJ (World.grownBy.refl _ _) _);have aw:=hs;obtain⟨s0,es0⟩:∃s,s=c:=⟨_,rfl⟩;rw[<-es0] at HC aw;have av:=I ca;have O:=I (show w.heap.size<W.heap.size by omega);have bn:(((tkQ s0).2).getD []).length<=100000:=BX 97 aw;have T1:=I (fun g w h=>Ef g s0 w h aw);obtain⟨v1,bq⟩:∃x:Tk,x=(tkQ s0).1:=⟨_,rfl⟩;obtain⟨s1,Z⟩:∃s,s=(tkQ s0).2:=⟨_,rfl⟩;rw[<-bq,<-Z] at T1;rw[<-Z] at bn;have cc:((Bb 4 s1).getD []).length<=100000:=BX 4 bn;have T2:=I (fun g w h=>DU g s1 w h (by omega));obtain⟨v2,bx⟩:∃x:L,x=ocC s1:=⟨_,rfl⟩;obtain⟨s2,es2⟩:∃s,s=Bb 4 s1:=⟨_,rfl⟩;rw[<-bx,<-es2] at T2;rw[<-es2] at cc;have bB:=I (show(apQ c).1.t=v1 by rw[bq,es0];rfl);have bz:=I (show(apQ c).1.a=v2 by rw[bx,Z,es0];rfl);have FS:=I (show(apQ c).2=s2 by rw[es2,Z,es0];rfl);rw[bB.o,bz.o,FS.o];clear h hs aw bn cc bB bq Z bz bx es2 es0 FS ca;have cf:=I cb;clear cb;subst eW;go_enter Tryz.func175,Tryz.ntmps175
 go_wp2_with (first
  |(go_at_call 210;(with_reducible refine Calls.mono (T1.o _ _ HC.o) ?_);rintro e w1 ⟨y,rfl,ho,hd,hg⟩;clear T1;replace ho:=ho.less (show w.heap.size+1<=_ from O.o);obtain⟨b1,c1,rfl,x1,x2,x3,x4⟩:=ho;have bb:Hid (OwnB w1 (w.heap.size+1) (.slice (some ⟨b1,0,none⟩) _ c1) _):=I ⟨b1,c1,rfl,x1,x2,x3,x4⟩;clear x1 x2 x3 x4;replace HC:=I hd;replace M:=I (M.o.grown hg (by intro e;injection e with e;have:=av.o;omega));replace HG:=I (Db HG.o hg);replace O:=I (Nat.lt_of_lt_of_le O.o hg.size);clear hd hg)
  |(go_at_call 211;(with_reducible refine Calls.mono (T2.o _ _ HC.o) ?_);rintro e w2 ⟨⟨y,rfl,ho⟩,hd,hg⟩;clear T2;replace ho:=ho.less (show w.heap.size+1<=_ from O.o);obtain⟨b2,c2,rfl,x1,x2,x3,x4⟩:=ho;have cd:Hid (OwnB w2 (w.heap.size+1) (.slice (some ⟨b2,0,none⟩) _ c2) _):=I ⟨b2,c2,rfl,x1,x2,x3,x4⟩;clear x1 x2 x3 x4;replace HC:=I hd;replace bb:=I (bb.o.keep hg (by have:=av.o;omega));replace M:=I (M.o.grown hg (by intro e;injection e with e;have:=av.o;omega));replace HG:=I (Db HG.o hg);replace O:=I (Nat.lt_of_lt_of_le O.o hg.size);clear hd hg;have n0:=M.c0;have y0:=M.o.frozen 0;have n1:=M.c1;have y1:=M.o.frozen 1;have n2:=M.c2;have y2:=M.o.frozen 2;have n3:=M.c3;have y3:=M.o.frozen 3;have n4:=M.c4;have y4:=M.o.frozen 4)
  |fail)
 have hE:Blk (((((w2.setCell ⟨w.heap.size,0,none⟩ (.string ⟨v1.s.1.toArray⟩)).setCell ⟨w.heap.size,1,none⟩ (.string ⟨v1.s.2.toArray⟩)).setCell ⟨w.heap.size,2,none⟩ (.int .i64 v1.k)).setCell ⟨w.heap.size,3,none⟩ (.slice (some ⟨b1,0,none⟩) v1.b.length c1)).setCell ⟨w.heap.size,4,none⟩ (.slice (some ⟨b2,0,none⟩) v2.length c2)) w.heap.size 85 #[.string ⟨v1.s.1.toArray⟩,.string ⟨v1.s.2.toArray⟩,.int .i64 v1.k,.slice (some ⟨b1,0,none⟩) v1.b.length c1,.slice (some ⟨b2,0,none⟩) v2.length c2]:=(((((M.o.set 0 (.string ⟨v1.s.1.toArray⟩)).set 1 (.string ⟨v1.s.2.toArray⟩)).set 2 (.int .i64 v1.k)).set 3 (.slice (some ⟨b1,0,none⟩) v1.b.length c1)).set 4 (.slice (some ⟨b2,0,none⟩) v2.length c2));have hp:=(AN (AN (AN (AN (AN (World.grownBy.refl w2 (some w.heap.size)) (p:=⟨w.heap.size,0,none⟩) (.inl rfl) (.string ⟨v1.s.1.toArray⟩)) (p:=⟨w.heap.size,1,none⟩) (.inl rfl) (.string ⟨v1.s.2.toArray⟩)) (p:=⟨w.heap.size,2,none⟩) (.inl rfl) (.int .i64 v1.k)) (p:=⟨w.heap.size,3,none⟩) (.inl rfl) (.slice (some ⟨b1,0,none⟩) v1.b.length c1)) (p:=⟨w.heap.size,4,none⟩) (.inl rfl) (.slice (some ⟨b2,0,none⟩) v2.length c2));have hq:=Ao (P:=Tryz.prog) hE Tryz.underlying85 rfl (by kernel_rfl);refine bodyPost_ret (v:=.agg #[.string ⟨v1.s.1.toArray⟩,.string ⟨v1.s.2.toArray⟩,.int .i64 v1.k,.slice (some ⟨b1,0,none⟩) v1.b.length c1,.slice (some ⟨b2,0,none⟩) v2.length c2]) ?_ ?_ ?_
 ·exact Au 2 85 ⟨w.heap.size,0,none⟩ Tryz.results175 rfl hq
 ·rfl
 exact⟨_,_,rfl,(bb.o.keep hp (by omega)).less (by omega),(cd.o.keep hp (by omega)).less (by omega),Dc HC.o hp (by have:=av.o;omega),Hj HG.o hp Ag⟩
theorem QZ (g:Nat) (c:Option L) (w:World) (h:Cur w g c) (hs:(c.getD []).length<=100000):Calls Tryz.prog 176 #[.pointer (some ⟨g,0,none⟩)] w fun e w'=>e=.returned (.agg #[.int .i64 (faQ c).1.e,.int .i64 (faQ c).1.no])/\Cur w' g (faQ c).2/\w.grownBy w' (some g):=by
 obtain⟨W,eW⟩:=Ak (w.alloc (.cells #[.int .i64 0,.int .i64 0] 93));have bz:W.heap.size=w.heap.size+1:=by rw[eW];simp
 have Z:=I (show Blk W w.heap.size 93 #[.int .i64 0,.int .i64 0] by rw[eW];exact Blk.new _ _ _);have cc:=Dg h;have HC:=I (show Cur W g c by rw[eW];exact h.alloc _);have HG:=I (show w.grownBy W (some g) by rw[eW];exact DJ (World.grownBy.refl _ _) _);have bq:=hs;obtain⟨s0,es0⟩:∃s,s=c:=⟨_,rfl⟩;rw[<-es0] at HC bq;have aw:=I cc;have av:=I (show w.heap.size<W.heap.size by omega);have bx:(((intC s0).2).getD []).length<=100000:=FK bq;have T1:=I (fun g w h=>BO g s0 w h (by omega));obtain⟨v1,bb⟩:∃x:Int,x=((intC s0).1:Int):=⟨_,rfl⟩;obtain⟨s1,M⟩:∃s,s=(intC s0).2:=⟨_,rfl⟩;rw[<-bb,<-M] at T1;rw[<-M] at bx;have cb:(((intC s1).2).getD []).length<=100000:=FK bx;have T2:=I (fun g w h=>BO g s1 w h (by omega));obtain⟨v2,bn⟩:∃x:Int,x=((intC s1).1:Int):=⟨_,rfl⟩;obtain⟨s2,es2⟩:∃s,s=(intC s1).2:=⟨_,rfl⟩;rw[<-bn,<-es2] at T2;rw[<-es2] at cb;have ca:=I (show(faQ c).1.e=v1 by rw[bb,es0];rfl);have bB:=I (show(faQ c).1.no=v2 by rw[bn,M,es0];rfl);have FS:=I (show(faQ c).2=s2 by rw[es2,M,es0];rfl);rw[ca.o,bB.o,FS.o];clear h hs bq bx cb ca bb M bB bn es2 es0 FS cc;have cd:=I bz;clear bz;subst eW;go_enter Tryz.func176,Tryz.ntmps176
 go_wp2_with (first
  |(go_at_call 209;(with_reducible refine Calls.mono (T1.o _ _ HC.o) ?_);rintro e w1 ⟨rfl,hd,O⟩;clear T1;replace HC:=I hd;replace Z:=I (Z.o.grown O (by intro e;injection e with e;have:=aw.o;omega));replace HG:=I (Db HG.o O);replace av:=I (Nat.lt_of_lt_of_le av.o O.size);clear hd O)
  |(go_at_call 209;(with_reducible refine Calls.mono (T2.o _ _ HC.o) ?_);rintro e w2 ⟨rfl,hd,O⟩;clear T2;replace HC:=I hd;replace Z:=I (Z.o.grown O (by intro e;injection e with e;have:=aw.o;omega));replace HG:=I (Db HG.o O);replace av:=I (Nat.lt_of_lt_of_le av.o O.size);clear hd O;have n0:=Z.c0;have y0:=Z.o.frozen 0;have n1:=Z.c1;have y1:=Z.o.frozen 1)
  |fail)
 have hE:Blk ((w2.setCell ⟨w.heap.size,0,none⟩ (.int .i64 v1)).setCell ⟨w.heap.size,1,none⟩ (.int .i64 v2)) w.heap.size 93 #[.int .i64 v1,.int .i64 v2]:=((Z.o.set 0 (.int .i64 v1)).set 1 (.int .i64 v2));have hp:=(AN (AN (World.grownBy.refl w2 (some w.heap.size)) (p:=⟨w.heap.size,0,none⟩) (.inl rfl) (.int .i64 v1)) (p:=⟨w.heap.size,1,none⟩) (.inl rfl) (.int .i64 v2));have hq:=Ao (P:=Tryz.prog) hE Tryz.underlying93 rfl (by kernel_rfl);refine bodyPost_ret (v:=.agg #[.int .i64 v1,.int .i64 v2]) ?_ ?_ ?_
 ·exact Au 2 93 ⟨w.heap.size,0,none⟩ Tryz.results176 rfl hq
 ·rfl
 exact⟨rfl,Dc HC.o hp (by have:=aw.o;omega),Hj HG.o hp Ag⟩
theorem Ra (A:Option Addr) (b:L) (cap:Nat) (w:World) (h:Rd w w.heap.size A (bvs b)) (hs:b.length<=100000):Calls Tryz.prog 188 #[.slice A b.length cap] w fun e w'=>e=.returned (.agg #[.string ⟨(anQ b).1.c.1.toArray⟩,.string ⟨(anQ b).1.c.2.toArray⟩,.int .i64 (anQ b).1.t,.int .i64 (anQ b).1.q])/\Below w.heap.size w w':=by
 obtain⟨W,eW⟩:=Ak (w.alloc (.cells #[.string ⟨#[]⟩,.string ⟨#[]⟩,.int .i64 0,.int .i64 0] 33));have cg:W.heap.size=w.heap.size+1:=by rw[eW];simp
 have M:=I (show Blk W w.heap.size 33 #[.string ⟨#[]⟩,.string ⟨#[]⟩,.int .i64 0,.int .i64 0] by rw[eW];exact Blk.new _ _ _);have HG:=I (show Below w.heap.size w W by rw[eW];exact Ah.alloc Ag _);have c0:=KV w.heap.size A b b.length cap W (by rw[eW];exact h.alloc Ag _) rfl;have c1:=I (fun g w h=>GN 98 g (some b) w h (by show((b.length:Int))<=100000;omega));have aw:((AP 98 (some b)).getD []).length<=100000:=FJ 98 (show((some b:Option L).getD []).length<=100000 from hs);obtain⟨s0,es0⟩:∃s,s=AP 98 (some b):=⟨_,rfl⟩;rw[<-es0] at c1 aw;have bx:(((prQ s0).2).getD []).length<=100000:=BX 48 aw;have T1:=I (fun g w h=>BP g s0 w h aw);obtain⟨v1,ca⟩:∃x:Pr,x=(prQ s0).1:=⟨_,rfl⟩;obtain⟨s1,av⟩:∃s,s=(prQ s0).2:=⟨_,rfl⟩;rw[<-ca,<-av] at T1;rw[<-av] at bx;have cc:(((intC s1).2).getD []).length<=100000:=FK bx;have T2:=I (fun g w h=>BO g s1 w h (by omega));obtain⟨v2,cb⟩:∃x:Int,x=((intC s1).1:Int):=⟨_,rfl⟩;obtain⟨s2,es2⟩:∃s,s=(intC s1).2:=⟨_,rfl⟩;rw[<-cb,<-es2] at T2;rw[<-es2] at cc;have cj:(((intC s2).2).getD []).length<=100000:=FK cc;have T3:=I (fun g w h=>BO g s2 w h (by omega));obtain⟨v3,bb⟩:∃x:Int,x=((intC s2).1:Int):=⟨_,rfl⟩;obtain⟨s3,bB⟩:∃s,s=(intC s2).2:=⟨_,rfl⟩;rw[<-bb,<-bB] at T3;rw[<-bB] at cj;have cf:=I (show(anQ b).1.c=v1 by rw[ca,es0];rfl);have cd:=I (show(anQ b).1.t=v2 by rw[cb,av,es0];rfl);have cm:=I (show(anQ b).1.q=v3 by rw[bb,es2,av,es0];rfl);rw[cf.o,cd.o,cm.o];clear h hs aw bx cc cj cf ca av cd cb es2 cm bb bB es0;have bn:=I cg;clear cg;subst eW;go_enter Tryz.func188,Tryz.ntmps188
 go_wp2_with (first
  |(go_at_call 170;refine Calls.mono c0 ?_;rintro e wo ⟨go,rfl,cp,ck,hb⟩;clear c0;have HC:=I ck;have bq:=I (show w.heap.size+1<=go by have:=bn.o;omega);replace M:=I (M.o.below hb);replace HG:=I (Hn HG.o (by have:=bn.o;omega) hb);have bz:=I (show w.heap.size+1<=wo.heap.size by have:=hb.size;have:=bn.o;omega);clear cp ck hb)
  |(go_at_call 171;refine Calls.mono (c1.o _ _ HC.o) ?_;rintro e wi ⟨⟨gd,rfl,cn,hd⟩,hc,hg⟩;clear c1 HC;have HD:=I hd;have O:=I (show w.heap.size+1<=gd by have:=bz.o;omega);have Z:=I (Dg hd);replace M:=I (M.o.grown hg (by intro e;injection e with e;have:=bq.o;omega));replace HG:=I (Az HG.o hg (by have:=bz.o;omega) (by have:=bq.o;omega));clear cn hd hc hg bz bq)
  |(go_at_call 208;(with_reducible refine Calls.mono (T1.o _ _ HD.o) ?_);rintro e w1 ⟨rfl,hd,hg⟩;clear T1;replace HD:=I hd;replace M:=I (M.o.grown hg (by intro e;injection e with e;have:=O.o;omega));replace HG:=I (Az HG.o hg (by have:=O.o;have:=Z.o;omega) (by have:=O.o;omega));replace Z:=I (Nat.lt_of_lt_of_le Z.o hg.size);clear hd hg)
  |(go_at_call 209;(with_reducible refine Calls.mono (T2.o _ _ HD.o) ?_);rintro e w2 ⟨rfl,hd,hg⟩;clear T2;replace HD:=I hd;replace M:=I (M.o.grown hg (by intro e;injection e with e;have:=O.o;omega));replace HG:=I (Az HG.o hg (by have:=O.o;have:=Z.o;omega) (by have:=O.o;omega));replace Z:=I (Nat.lt_of_lt_of_le Z.o hg.size);clear hd hg)
  |(go_at_call 209;(with_reducible refine Calls.mono (T3.o _ _ HD.o) ?_);rintro e w3 ⟨rfl,hd,hg⟩;clear T3;replace HD:=I hd;replace M:=I (M.o.grown hg (by intro e;injection e with e;have:=O.o;omega));replace HG:=I (Az HG.o hg (by have:=O.o;have:=Z.o;omega) (by have:=O.o;omega));replace Z:=I (Nat.lt_of_lt_of_le Z.o hg.size);clear hd hg;have n0:=M.c0;have y0:=M.o.frozen 0;have n1:=M.c1;have y1:=M.o.frozen 1;have n2:=M.c2;have y2:=M.o.frozen 2;have n3:=M.c3;have y3:=M.o.frozen 3)
  |fail)
 have hE:Blk ((((w3.setCell ⟨w.heap.size,0,none⟩ (.string ⟨v1.1.toArray⟩)).setCell ⟨w.heap.size,1,none⟩ (.string ⟨v1.2.toArray⟩)).setCell ⟨w.heap.size,2,none⟩ (.int .i64 v2)).setCell ⟨w.heap.size,3,none⟩ (.int .i64 v3)) w.heap.size 33 #[.string ⟨v1.1.toArray⟩,.string ⟨v1.2.toArray⟩,.int .i64 v2,.int .i64 v3]:=((((M.o.set 0 (.string ⟨v1.1.toArray⟩)).set 1 (.string ⟨v1.2.toArray⟩)).set 2 (.int .i64 v2)).set 3 (.int .i64 v3));have hp:=(AN (AN (AN (AN (World.grownBy.refl w3 (some w.heap.size)) (p:=⟨w.heap.size,0,none⟩) (.inl rfl) (.string ⟨v1.1.toArray⟩)) (p:=⟨w.heap.size,1,none⟩) (.inl rfl) (.string ⟨v1.2.toArray⟩)) (p:=⟨w.heap.size,2,none⟩) (.inl rfl) (.int .i64 v2)) (p:=⟨w.heap.size,3,none⟩) (.inl rfl) (.int .i64 v3));have hq:=Ao (P:=Tryz.prog) hE Tryz.underlying33 rfl (by kernel_rfl);refine bodyPost_ret (v:=.agg #[.string ⟨v1.1.toArray⟩,.string ⟨v1.2.toArray⟩,.int .i64 v2,.int .i64 v3]) ?_ ?_ ?_
 ·exact Au 2 33 ⟨w.heap.size,0,none⟩ Tryz.results188 rfl hq
 ·rfl
 exact⟨rfl,Az HG.o hp (by have:=M.o.lt;omega) Ag⟩
theorem aH:(Tryz.prog.info? 5).map (·.size)=some 1:=by kernel_rfl
theorem IT:(Tryz.prog.info? 29).map (·.size)=some 32:=by kernel_rfl
theorem bvs_one' (l:L):(bvs l).toArray.all (·.oneCell')=true:=all_oneCell_toArray (BB l)
theorem Rb {W:World} {K b c:Nat} {t:TypeId} {x:L} (h:Blk W K t (bvs key0).toArray) (Z:∀i u,(bvs x)[i]? = some u->W.cell? ⟨b,i,none⟩=some u) :
  (Builtin.copy_ #[34,34] 3 #[.slice (some ⟨K,0,none⟩) 32 32,.slice (some ⟨b,0,none⟩) x.length c]).run Tryz.prog W=.ok (goInt (bvs (x.take 32)).length) (W.setCells K 0 (bvs (x.take 32))):=by
 refine run_copy_cells (P:=Tryz.prog) W 34 34 3 5 K 0 32 32 ⟨b,0,none⟩ x.length c (bvs (x.take 32)) Tryz.underlying34 aH ?_ ?_ ?_ ?_ (BB _)
 ·rw[AG,List.length_take];exact Nat.min_comm _ _
 ·intro j v O
  rw[addr_add,Nat.zero_add];apply Z;have M:j<(bvs (x.take 32)).length:=(List.getElem?_eq_some_iff.1 O).1;rw[AG,List.length_take] at M;rw[<-O];simp only[bvs,List.getElem?_map];rw[List.getElem?_take_of_lt (by omega)]
 ·intro j M
  rw[AG,List.length_take] at M;exact(Ar h 32 (by simp [AG,key0]) j (by omega)).1
 ·intro j M
  rw[AG,List.length_take] at M;exact(Ar h 32 (by simp [AG,key0]) j (by omega)).2
theorem OI (g:Nat) (c:Option L) (w:World) (h:Cur w g c) (hs:(c.getD []).length<=100000):Calls Tryz.prog 228 #[.pointer (some ⟨g,0,none⟩)] w fun e w'=>e=.returned (.agg (bvs (keQ c).1).toArray)/\Cur w' g (keQ c).2/\w.grownBy w' (some g):=by
 have ez:(bvs key0).toArray=#[.int .u8 0,.int .u8 0,.int .u8 0,.int .u8 0,.int .u8 0,.int .u8 0,.int .u8 0,.int .u8 0,.int .u8 0,.int .u8 0,.int .u8 0,.int .u8 0,.int .u8 0,.int .u8 0,.int .u8 0,.int .u8 0,.int .u8 0,.int .u8 0,.int .u8 0,.int .u8 0,.int .u8 0,.int .u8 0,.int .u8 0,.int .u8 0,.int .u8 0,.int .u8 0,.int .u8 0,.int .u8 0,.int .u8 0,.int .u8 0,.int .u8 0,.int .u8 0]:=by rfl
 have T1:=I (fun w1 (h:Cur w1 g c)=>DU g c w1 h (by omega));have E1:=I (show(keQ c).1=(ocC c++key0).take 32 from rfl);have E2:=I (show(keQ c).2=Bb 4 c from rfl);rw[E1.o,E2.o];obtain⟨x,ex⟩:=Ak (ocC c);obtain⟨r,er⟩:=Ak (Bb 4 c);rw[<-ex,<-er] at T1⊢;go_enter Tryz.func228,Tryz.ntmps228
 go_upto_region 2 with fail
 rw[<-ez];obtain⟨W,eW⟩:=Ak ((w.alloc (.cells (bvs key0).toArray 29)).alloc (.cells (bvs key0).toArray 29));have hq:=Blk.new (w.alloc (.cells (bvs key0).toArray 29)) 29 (bvs key0).toArray;rw[show(w.alloc (.cells (bvs key0).toArray 29)).heap.size=w.heap.size+1 by simp,<-eW] at hq;have HR:=I (show Blk W w.heap.size 29 (bvs key0).toArray by rw[eW];exact(Blk.new _ _ _).alloc _);have HC:=I (show Cur W g c by rw[eW];exact(h.alloc _).alloc _);have HG:=I (show w.grownBy W (some g) by rw[eW];exact DJ (DJ (World.grownBy.refl _ _) _) _);have Z:=I (Dg h);have O:=I hq;rw[<-eW];clear eW ez hq h hs E1 E2 ex er;replace HR:=I (show Blk W.drew _ _ _ from HR.o.drewN 1);replace O:=I (show Blk W.drew _ _ _ from O.o.drewN 1);replace HC:=I (show Cur W.drew g c from Blk.drewN HC.o 1);replace HG:=I (show w.grownBy W.drew (some g) from IW HG.o 1)
 go_region_held3 (fun w'=>True) (trivial) ((go_at_call 211;refine Calls.mono (T1.o _ HC.o) ?_;rintro e w1 ⟨⟨v,rfl,ho⟩,hd,hg⟩;obtain⟨b,cp,rfl,x1,x2,x3,x4⟩:=ho;clear T1;replace HC:=I hd;replace HR:=I (HR.o.grown hg (by intro e;injection e with e;have:=Z.o;omega));replace O:=I (O.o.grown hg (by intro e;injection e with e;have:=Z.o;omega));replace HG:=I (Db HG.o hg);have aw:=Rb (c:=cp) O.o x4;clear hd hg x1 x2 x3 x4))
 have M:(bvs ((x++key0).take 32)).toArray.size=32:=by simp [AG,key0]
 have hp:=Fh (a:=w1) (.inl rfl:some (w.heap.size+1)=some (w.heap.size+1)\/_) (bvs (x.take 32)) 0 w1 (World.grownBy.refl _ _);replace O:=I (QV (x:=x) O.o);have HO:=I (bvs_one' ((x++key0).take 32));obtain⟨ks,av⟩:=Ak ((bvs ((x++key0).take 32)).toArray);rw[<-av] at O M HO;obtain⟨V,eV⟩:=Ak (w1.setCells (w.heap.size+1) 0 (bvs (x.take 32)));rw[<-eV] at O hp⊢;replace HR:=I (HR.o.grown hp (by intro e;injection e with e;omega));replace HC:=I (Dc HC.o hp (by have:=Z.o;omega));replace HG:=I (Hj HG.o hp (by omega));have HI:=I (show(Tryz.prog.info? 29).map (·.size)=some ks.size by rw[M];exact IT);have HT:=I (Ar HR.o ks.size (by rw[M];simp [AG,key0]));have EK:=I av;have HS:=I M;clear aw eV hp av M
 go_wp2_with (first
  |(refine Am (by rfl) 29 (.tmp 3) (by rfl) (w.heap.size+1) 0 (by rfl) ks _ (Ad O.o) Tryz.underlying29 (by rfl) HI.o ?_)
  |(refine wpList_store_mid (by rfl) 29 (.tmp 2) (.tmp 8) (by rfl) w.heap.size 0 ks (by rfl) (by rfl) HT.o HI.o HO.o ?_)
  |fail)
 have hE:=AK (ds:=ks) HR.o (by rw[HS.o];simp [AG,key0]);have hp:=AQ V w.heap.size ks.toList;have hq:=Ao (P:=Tryz.prog) hE Tryz.underlying29 rfl HI.o;refine bodyPost_ret (v:=.agg ks) ?_ ?_ ?_
 ·exact Au 2 29 ⟨w.heap.size,0,none⟩ Tryz.results228 rfl hq
 ·rfl
 exact⟨by rw[EK.o],Dc HC.o hp (by have:=Z.o;omega),Hj HG.o hp Ag⟩
theorem Ae {P:Program} {ops:Array Oper} {rest:List Oper} {o:Oper} {a:Act} {w:World} {Q:Exit->Act->World->Prop} (O:o.guard=none) (t:TypeId) (parts:Array (Nat×Operand)) (Z:o.op=.build t parts)
  (cells:Array Value) (M:P.built t (parts.map fun(i,x)=>(i,a.eval x)).toList=some cells) (h:wpList P ops Q rest (a.put o.dst (.agg cells)) w):wpList P ops Q (o :: rest) a w:=
 wpList_build O t parts Z (by rw[M];rfl) (by rw[M];exact h)
theorem len32 {v:L} (h:v.length=32):∃k0 k1 k2 k3 k4 k5 k6 k7 k8 k9 cn cj Z bq cc cd k16 bn av ck cg cf O bB ca cb bx aw bz M bb cm:UInt8,v = [k0,k1,k2,k3,k4,k5,k6,k7,k8,k9,cn,cj,Z,bq,cc,cd,k16,bn,av,ck,cg,cf,O,bB,ca,cb,bx,aw,bz,M,bb,cm]:=by
 rcases v with _ | ⟨k0,v⟩
 ·simp at h
 rcases v with _ | ⟨k1,v⟩
 ·simp at h
 rcases v with _ | ⟨k2,v⟩
 ·simp at h
 rcases v with _ | ⟨k3,v⟩
 ·simp at h
 rcases v with _ | ⟨k4,v⟩
 ·simp at h
 rcases v with _ | ⟨k5,v⟩
 ·simp at h
 rcases v with _ | ⟨k6,v⟩
 ·simp at h
 rcases v with _ | ⟨k7,v⟩
 ·simp at h
 rcases v with _ | ⟨k8,v⟩
 ·simp at h
 rcases v with _ | ⟨k9,v⟩
 ·simp at h
 rcases v with _ | ⟨cn,v⟩
 ·simp at h
 rcases v with _ | ⟨cj,v⟩
 ·simp at h
 rcases v with _ | ⟨Z,v⟩
 ·simp at h
 rcases v with _ | ⟨bq,v⟩
 ·simp at h
 rcases v with _ | ⟨cc,v⟩
 ·simp at h
 rcases v with _ | ⟨cd,v⟩
 ·simp at h
 rcases v with _ | ⟨k16,v⟩
 ·simp at h
 rcases v with _ | ⟨bn,v⟩
 ·simp at h
 rcases v with _ | ⟨av,v⟩
 ·simp at h
 rcases v with _ | ⟨ck,v⟩
 ·simp at h
 rcases v with _ | ⟨cg,v⟩
 ·simp at h
 rcases v with _ | ⟨cf,v⟩
 ·simp at h
 rcases v with _ | ⟨O,v⟩
 ·simp at h
 rcases v with _ | ⟨bB,v⟩
 ·simp at h
 rcases v with _ | ⟨ca,v⟩
 ·simp at h
 rcases v with _ | ⟨cb,v⟩
 ·simp at h
 rcases v with _ | ⟨bx,v⟩
 ·simp at h
 rcases v with _ | ⟨aw,v⟩
 ·simp at h
 rcases v with _ | ⟨bz,v⟩
 ·simp at h
 rcases v with _ | ⟨M,v⟩
 ·simp at h
 rcases v with _ | ⟨bb,v⟩
 ·simp at h
 rcases v with _ | ⟨cm,v⟩
 ·simp at h
 rcases v with _ | ⟨x,v⟩
 ·exact⟨k0,k1,k2,k3,k4,k5,k6,k7,k8,k9,cn,cj,Z,bq,cc,cd,k16,bn,av,ck,cg,cf,O,bB,ca,cb,bx,aw,bz,M,bb,cm,rfl⟩
 ·simp at h
theorem UB (c:Pr) (k tr:L) (st en:Int) (hk:k.length=32):Tryz.prog.built 31 [(0,.agg #[.string ⟨c.1.toArray⟩,.string ⟨c.2.toArray⟩]),(1,.agg (bvs k).toArray),(2,.string ⟨tr.toArray⟩),(3,.int .i64 st),(4,.int .i64 en)]=some (ptC ⟨c,k,tr,st,en⟩).toArray:=by
 obtain⟨k0,k1,k2,k3,k4,k5,k6,k7,k8,k9,cn,cj,Z,bq,cc,cd,k16,bn,av,ck,cg,cf,O,bB,ca,cb,bx,aw,bz,M,bb,cm,rfl⟩:=len32 hk
 kernel_rfl
theorem LF (c:Pr) (k tr:L) (st en:Int):(ptC ⟨c,k,tr,st,en⟩).toArray.all (·.oneCell')=true:=all_oneCell_toArray fun v M=>by
 simp only[ptC,prC,List.mem_append,List.mem_cons,List.not_mem_nil,or_false] at M;rcases M with(rfl | rfl) | M | rfl | rfl | rfl
 ·rfl
 ·rfl
 ·exact BB _ v M
 ·rfl
 ·rfl
 ·rfl
theorem Rc (A:Option Addr) (b:L) (cap:Nat) (w:World) (h:Rd w w.heap.size A (bvs b)) (hs:b.length<=100000):Calls Tryz.prog 185 #[.slice A b.length cap] w fun e w'=>e=.returned (.agg (ptC (ptQ b).1).toArray)/\Below w.heap.size w w':=by
 obtain⟨zz,cp⟩:∃z:Array Value,z=#[.string ⟨#[]⟩,.string ⟨#[]⟩,.int .u8 0,.int .u8 0,.int .u8 0,.int .u8 0,.int .u8 0,.int .u8 0,.int .u8 0,.int .u8 0,.int .u8 0,.int .u8 0,.int .u8 0,.int .u8 0,.int .u8 0,.int .u8 0,.int .u8 0,.int .u8 0,.int .u8 0,.int .u8 0,.int .u8 0,.int .u8 0,.int .u8 0,.int .u8 0,.int .u8 0,.int .u8 0,.int .u8 0,.int .u8 0,.int .u8 0,.int .u8 0,.int .u8 0,.int .u8 0,.int .u8 0,.int .u8 0,.string ⟨#[]⟩,.int .i64 0,.int .i64 0]:=⟨_,rfl⟩;have cu:=I (show zz.size=37 by rw[cp];simp);obtain⟨W,eW⟩:=Ak (w.alloc (.cells zz 31));have cx:W.heap.size=w.heap.size+1:=by rw[eW];simp
 have HR:=I (show Blk W w.heap.size 31 zz by rw[eW];exact Blk.new _ _ _);have HG:=I (show Below w.heap.size w W by rw[eW];exact Ah.alloc Ag _);have c0:=KV w.heap.size A b b.length cap W (by rw[eW];exact h.alloc Ag _) rfl;have c1:=I (fun g w h=>GN 99 g (some b) w h (by show((b.length:Int))<=100000;omega));have aw:((AP 99 (some b)).getD []).length<=100000:=FJ 99 (show((some b:Option L).getD []).length<=100000 from hs);obtain⟨s0,es0⟩:∃s,s=AP 99 (some b):=⟨_,rfl⟩;rw[<-es0] at c1 aw;have bq:(((prQ s0).2).getD []).length<=100000:=BX 48 aw;have T1:=I (fun g w h=>BP g s0 w h aw);obtain⟨v1,cn⟩:∃x:Pr,x=(prQ s0).1:=⟨_,rfl⟩;obtain⟨s1,bx⟩:∃s,s=(prQ s0).2:=⟨_,rfl⟩;rw[<-cn,<-bx] at T1;rw[<-bx] at bq;have cr:(((keQ s1).2).getD []).length<=100000:=BX 4 bq;have T2:=I (fun g w h=>OI g s1 w h bq);have hk:=Uz s1;obtain⟨v2,bB⟩:∃x:L,x=(keQ s1).1:=⟨_,rfl⟩;obtain⟨s2,es2⟩:∃s,s=(keQ s1).2:=⟨_,rfl⟩;rw[<-bB,<-es2] at T2;rw[<-bB] at hk;rw[<-es2] at cr;have cj:((Bb 27 s2).getD []).length<=100000:=BX 27 cr;have T3:=I (fun g w h=>FI g s2 w h (by omega));obtain⟨v3,cb⟩:∃x:L,x=txC s2:=⟨_,rfl⟩;obtain⟨s3,bz⟩:∃s,s=Bb 27 s2:=⟨_,rfl⟩;rw[<-cb,<-bz] at T3;rw[<-bz] at cj;have cg:(((intC s3).2).getD []).length<=100000:=FK cj;have T4:=I (fun g w h=>BO g s3 w h (by omega));obtain⟨v4,cq⟩:∃x:Int,x=((intC s3).1:Int):=⟨_,rfl⟩;obtain⟨s4,bn⟩:∃s,s=(intC s3).2:=⟨_,rfl⟩;rw[<-cq,<-bn] at T4;rw[<-bn] at cg;have ct:(((intC s4).2).getD []).length<=100000:=FK cg;have T5:=I (fun g w h=>BO g s4 w h (by omega));obtain⟨v5,cf⟩:∃x:Int,x=((intC s4).1:Int):=⟨_,rfl⟩;obtain⟨s5,cm⟩:∃s,s=(intC s4).2:=⟨_,rfl⟩;rw[<-cf,<-cm] at T5;rw[<-cm] at ct;have FV:(ptQ b).1=⟨v1,v2,v3,v4,v5⟩:=by rw[cn,bB,cb,cq,cf,bn,bz,es2,bx,es0];rfl
 rw[FV];have ca:=UB v1 v2 v3 v4 v5 hk;have bb:(ptC ⟨v1,v2,v3,v4,v5⟩).toArray.size=37:=FF hk;have av:(ptC ⟨v1,v2,v3,v4,v5⟩).toArray.all (·.oneCell')=true:=LF v1 v2 v3 v4 v5;obtain⟨ks,cw⟩:=Ak ((bvs v2).toArray);rw[<-cw] at ca T2;obtain⟨cs,cy⟩:=Ak ((ptC ⟨v1,v2,v3,v4,v5⟩).toArray);rw[<-cy] at ca bb av⊢;have cP:=I ca;have cB:=I bb;have HO:=I av;have HI:=I (show(Tryz.prog.info? 31).map (·.size)=some cs.size by rw[bb];kernel_rfl);clear h hs hk ca bb av cw cy FV es0 aw bq cr cj cg ct cn bx bB es2 cb bz cq bn cf cm;have cc:=I cx;clear cx;go_enter Tryz.func185,Tryz.ntmps185
 go_upto_region 1 with fail
 rw[<-cp,<-eW];clear cp eW
 go_wp2_with (first
  |(go_at_call 170;refine Calls.mono c0 ?_;rintro e wo ⟨go,rfl,cM,cA,hb⟩;clear c0;have HC:=I cA;have cd:=I (show w.heap.size+1<=go by have:=cc.o;omega);replace HR:=I (HR.o.below hb);replace HG:=I (Hn HG.o (by have:=cc.o;omega) hb);have ck:=I (show w.heap.size+1<=wo.heap.size by have:=hb.size;have:=cc.o;omega);clear cM cA hb)
  |(go_at_call 171;refine Calls.mono (c1.o _ _ HC.o) ?_;rintro e wi ⟨⟨gd,rfl,cL,hd⟩,hc,Z⟩;clear c1 HC;have HD:=I hd;have M:=I (show w.heap.size+1<=gd by have:=ck.o;omega);have O:=I (Dg hd);replace HR:=I (HR.o.grown Z (by intro e;injection e with e;have:=cd.o;omega));replace HG:=I (Az HG.o Z (by have:=ck.o;omega) (by have:=cd.o;omega));clear cL hd hc Z ck cd)
  |(go_at_call 208;(with_reducible refine Calls.mono (T1.o _ _ HD.o) ?_);rintro e w1 ⟨rfl,hd,Z⟩;clear T1;replace HD:=I hd;replace HR:=I (HR.o.grown Z (by intro e;injection e with e;have:=M.o;omega));replace HG:=I (Az HG.o Z (by have:=M.o;have:=O.o;omega) (by have:=M.o;omega));replace O:=I (Nat.lt_of_lt_of_le O.o Z.size);clear hd Z)
  |(go_at_call 228;(with_reducible refine Calls.mono (T2.o _ _ HD.o) ?_);rintro e w2 ⟨rfl,hd,Z⟩;clear T2;replace HD:=I hd;replace HR:=I (HR.o.grown Z (by intro e;injection e with e;have:=M.o;omega));replace HG:=I (Az HG.o Z (by have:=M.o;have:=O.o;omega) (by have:=M.o;omega));replace O:=I (Nat.lt_of_lt_of_le O.o Z.size);clear hd Z)
  |(go_at_call 229;(with_reducible refine Calls.mono (T3.o _ _ HD.o) ?_);rintro e w3 ⟨rfl,hd,Z⟩;clear T3;replace HD:=I hd;replace HR:=I (HR.o.grown Z (by intro e;injection e with e;have:=M.o;omega));replace HG:=I (Az HG.o Z (by have:=M.o;have:=O.o;omega) (by have:=M.o;omega));replace O:=I (Nat.lt_of_lt_of_le O.o Z.size);clear hd Z)
  |(go_at_call 209;(with_reducible refine Calls.mono (T4.o _ _ HD.o) ?_);rintro e w4 ⟨rfl,hd,Z⟩;clear T4;replace HD:=I hd;replace HR:=I (HR.o.grown Z (by intro e;injection e with e;have:=M.o;omega));replace HG:=I (Az HG.o Z (by have:=M.o;have:=O.o;omega) (by have:=M.o;omega));replace O:=I (Nat.lt_of_lt_of_le O.o Z.size);clear hd Z)
  |(go_at_call 209;(with_reducible refine Calls.mono (T5.o _ _ HD.o) ?_);rintro e w5 ⟨rfl,hd,Z⟩;clear T5;replace HD:=I hd;replace HR:=I (HR.o.grown Z (by intro e;injection e with e;have:=M.o;omega));replace HG:=I (Az HG.o Z (by have:=M.o;have:=O.o;omega) (by have:=M.o;omega));replace O:=I (Nat.lt_of_lt_of_le O.o Z.size);clear hd Z)
  |(refine Ae (by rfl) 31 #[(0,.tmp 8),(1,.tmp 10),(2,.tmp 12),(3,.tmp 14),(4,.tmp 16)] (by rfl) cs (by simp only[List.map_toArray,List.map_cons,List.map_nil];exact cP.o) ?_)
  |(refine wpList_store_mid (by rfl) 31 (.tmp 2) (.tmp 17) (by rfl) w.heap.size 0 cs (by rfl) (by rfl) (Ar HR.o _ (by have:=cu.o;have:=cB.o;omega)) HI.o HO.o ?_)
  |fail)
 have hE:=AK (ds:=cs) HR.o (by have:=cu.o;have:=cB.o;omega);have hp:=AQ w5 w.heap.size cs.toList;have hq:=Ao (P:=Tryz.prog) hE Tryz.underlying31 rfl HI.o;refine bodyPost_ret (v:=.agg cs) ?_ ?_ ?_
 ·exact Au 2 31 ⟨w.heap.size,0,none⟩ Tryz.results185 rfl hq
 ·rfl
 exact⟨rfl,Az HG.o hp (by have:=HR.o.lt;omega) Ag⟩
theorem Bk (w:World) (t:TypeId) (lit cs:Array Value) (hs:lit.size=cs.size):Blk ((w.alloc (.cells lit t)).setCells w.heap.size 0 cs.toList) w.heap.size t cs/\Below w.heap.size w ((w.alloc (.cells lit t)).setCells w.heap.size 0 cs.toList):=
 ⟨AK (Blk.new w t lit) hs,Az ((Below.refl w.heap.size w).alloc Ag _) (AQ _ _ _) (by simp) Ag⟩
theorem Hk {c:Option L} (h:(c.getD []).length<=100000):pSm (prQ c).1:=by
 have M:=(Ds 27 (AP 48 c)).1;have O:=(Ds 27 (AP 48 c)).2;have e4:=(Ds 27 (Bb 27 (AP 48 c))).1;have Z:=(Ds 48 c).1;exact⟨by show((AP 27 (AP 48 c)).getD []).length<=1000000000;omega,by show((AP 27 (Bb 27 (AP 48 c))).getD []).length<=1000000000;omega⟩
theorem dz {c:Option L} (h:(c.getD []).length<=100000):(txC c).length<=100000:=Nat.le_trans (Ds 27 c).1 h
theorem OJ (a:An):(anC a).toArray.all (·.oneCell')=true:=all_oneCell_toArray fun v M=>by
 simp only[anC,prC,List.mem_append,List.mem_cons,List.not_mem_nil,or_false] at M;rcases M with(rfl | rfl) | rfl | rfl<;>rfl
def ptG (b:L):Pt:=(ptD b).getD pt0
def ptI (b:L):Int:=if (ptD b).isSome then 0 else 2
theorem OK (b:L):(ptG b).ss.length=32:=by
 unfold ptG;rw[UA]
 split
 ·exact LD b
 ·rfl
theorem UC (A:Option Addr) (b:L) (c:Nat) (w:World) (hr:Rd w w.heap.size A (bvs b)):Calls Tryz.prog 187 #[.slice A b.length c,.func (.func 188) #[] #[],.func (.func 189) #[] #[]] w fun e w'=>e=.returned (.tuple #[.agg (anC (anG b)).toArray,.int .i64 (anI b)])/\Below w.heap.size w w':=by
 obtain⟨O,bb⟩:∃z:Array Value,z=#[.string ⟨#[]⟩,.string ⟨#[]⟩,.int .i64 0,.int .i64 0]:=⟨_,rfl⟩;have bx:(anC an0).toArray=O:=by rw[bb];rfl
 have cd:O.size=4:=by rw[bb];simp
 have cq:O.all (·.oneCell')=true:=by rw[<-bx];exact OJ _
 obtain⟨W,eW⟩:=Ak ((w.alloc (.cells O 33)).alloc (.cells O 33));have cr:W.heap.size=w.heap.size+1+1:=by rw[eW];simp
 have hq:=Blk.new (w.alloc (.cells O 33)) 33 O;rw[show(w.alloc (.cells O 33)).heap.size=w.heap.size+1 by simp,<-eW] at hq;have HZ:=I hq;clear hq;have Z:=I (show Blk W w.heap.size 33 O by rw[eW];exact(Blk.new _ _ _).alloc _);have HG:=I (show Below w.heap.size w W by rw[eW];exact(Ah.alloc Ag _).alloc (by simp) _);have bz:=I (fun w1 (h:Below w.heap.size w w1)=>(hr.below h).more h.size);have aw:=I (show(Tryz.prog.info? 33).map (·.size)=some O.size by rw[cd];kernel_rfl);have cn:=I cq;have cp:=I cd;have ED:=I (aG b);have ct:=I cr;clear cr cq cd
 by_cases hl:b.length<=2000
 ·have t1:decide ((2000:Int)<(b.length:Int))=false:=decide_eq_false (by omega)
  have cm:b.length<=100000:=by omega
  have av:pSm (anQ b).1.c:=Hk (FJ 98 (show((some b:Option L).getD []).length<=100000 from cm));have T1:=I (fun w1 (h:Rd w1 w1.heap.size A (bvs b))=>(show Calls Tryz.prog 188 #[.slice A b.length c] w1 fun e w'=>e=.returned (.agg (anC (anQ b).1).toArray)/\Below w1.heap.size w1 w' from Ra A b c w1 h cm));have EN:=I (fun w1=>(show Calls Tryz.prog 189 #[.agg (anC (anQ b).1).toArray] w1 (EncR w1 (anO (anQ b).1)) from MV (anQ b).1 w1 av));have cc:(anC (anQ b).1).toArray.size=4:=by rfl
  have ck:(anC (anQ b).1).toArray.all (·.oneCell')=true:=OJ _;have BE:=I (fun(l:L) (g c2:Nat) (w1:World) (h:Rd w1 w1.heap.size (some ⟨g,0,none⟩) (bvs l)) (M:Below w.heap.size w w1)=>Gx l b (some ⟨g,0,none⟩) A c2 c w1.heap.size w1 h (bz.o w1 M));obtain⟨cs,bB⟩:=Ak ((anC (anQ b).1).toArray);rw[<-bB] at T1 EN cc ck;have bn:=I (show(Tryz.prog.info? 33).map (·.size)=some cs.size by rw[cc];kernel_rfl);have cb:=I ck;have bq:=I cc;clear cc ck hl cm hr av;cases ho:anO (anQ b).1 with
  |none=>
   rw[ho] at EN;have hD:anD b=none:=by rw[ED.o,ho];rfl
   have GE:=I (show(anC (anG b)).toArray=O by rw[anG,hD];exact bx);have IE:=I (show anI b=2 by rw[anI,hD];rfl);clear ED ho hD bB bx BE;go_enter Tryz.func187,Tryz.ntmps187
   go_upto_region 2 with fail
   rw[<-bb,<-eW];clear bb eW
   go_wp2_with (first
    |(refine Am (by rfl) 33 (.tmp 8) (by rfl) (w.heap.size+1) 0 (by rfl) O _ (Ad HZ.o) Tryz.underlying33 (by rfl) aw.o ?_)
    |(refine wpList_store_mid (by rfl) 33 (.tmp 6) (.tmp 33) (by rfl) w.heap.size 0 O (by rfl) (by rfl) (Ar Z.o _ Ag) aw.o cn.o ?_)
    |(go_at_call 188;refine Aj (T1.o _ (bz.o _ HG.o)) ?_;rintro w4 M;clear T1;replace HZ:=I (HZ.o.below M);replace Z:=I (Z.o.below M);replace HG:=HG.t M;clear M)
    |(refine wpList_store_mid (by rfl) 33 (.tmp 9) (.tmp 18) (by rfl) w4.heap.size 0 cs (by rfl) (by rfl) (Ar (Blk.new w4 33 #[.string ⟨#[]⟩,.string ⟨#[]⟩,.int .i64 0,.int .i64 0]) _ (by have:=bq.o;simp;omega)) bn.o cb.o ?_;have hV:=Bk w4 33 #[.string ⟨#[]⟩,.string ⟨#[]⟩,.int .i64 0,.int .i64 0] cs (by have:=bq.o;simp;omega);generalize ((w4.alloc (.cells #[.string ⟨#[]⟩,.string ⟨#[]⟩,.int .i64 0,.int .i64 0] 33)).setCells w4.heap.size 0 cs.toList)=V at hV⊢;have HX:=I hV.1;replace HZ:=I (HZ.o.below hV.2);replace Z:=I (Z.o.below hV.2);replace HG:=I (HG.o.trans (hV.2.mono HG.o.size));clear hV)
    |(refine Am (by rfl) 33 (.tmp 9) (by rfl) w4.heap.size 0 (by rfl) cs _ (Ad HX.o) Tryz.underlying33 (by rfl) bn.o ?_)
    |(go_at_call 189;refine Calls.mono (EN.o _) ?_;rintro e we ⟨⟨v,i,rfl,hn,av⟩,M⟩;obtain⟨rfl,rfl⟩:=hn rfl;clear EN;replace HX:=I (HX.o.below M);replace HZ:=I (HZ.o.below M);replace Z:=I (Z.o.below M);replace HG:=HG.t M;clear M hn av)
    |fail)
   have hE:=AK (ds:=O) Z.o (by rfl);have hp:=AQ we w.heap.size O.toList;have hq:=Ao (P:=Tryz.prog) hE Tryz.underlying33 rfl aw.o;refine bodyPost_ret (v:=.tuple #[.agg O,.int .i64 2]) ?_ ?_ ?_
   ·exact Al (v:=.agg O) 6 7 33 ⟨w.heap.size,0,none⟩ Tryz.results187 rfl hq rfl
   ·rfl
   exact⟨by rw[GE.o,IE.o],Az HG.o hp (by have:=Z.o.lt;omega) Ag⟩
  |some l=>
   rw[ho] at EN
   by_cases hlb:l=b
   ·have BF:=I (decide_eq_true hlb)
    have hD:anD b=some (anQ b).1:=by rw[ED.o,ho,if_pos (by rw[hlb])]
    have GE:=I (show(anC (anG b)).toArray=cs by rw[anG,hD];exact bB.symm);have IE:=I (show anI b=0 by rw[anI,hD];rfl);clear ED ho hlb hD bB bx;go_enter Tryz.func187,Tryz.ntmps187
    go_upto_region 2 with fail
    rw[<-bb,<-eW];clear bb eW
    go_wp2_with (first
     |(refine Am (by rfl) 33 (.tmp 8) (by rfl) (w.heap.size+1) 0 (by rfl) O _ (Ad HZ.o) Tryz.underlying33 (by rfl) aw.o ?_)
     |(refine wpList_store_mid (by rfl) 33 (.tmp 6) (.tmp 34) (by rfl) w.heap.size 0 cs (by rfl) (by rfl) (Ar Z.o _ (by have:=cp.o;have:=bq.o;omega)) bn.o cb.o ?_)
     |(go_at_call 188;refine Aj (T1.o _ (bz.o _ HG.o)) ?_;rintro w4 M;clear T1;replace HZ:=I (HZ.o.below M);replace Z:=I (Z.o.below M);replace HG:=HG.t M;clear M)
     |(refine wpList_store_mid (by rfl) 33 (.tmp 9) (.tmp 18) (by rfl) w4.heap.size 0 cs (by rfl) (by rfl) (Ar (Blk.new w4 33 #[.string ⟨#[]⟩,.string ⟨#[]⟩,.int .i64 0,.int .i64 0]) _ (by have:=bq.o;simp;omega)) bn.o cb.o ?_;have hV:=Bk w4 33 #[.string ⟨#[]⟩,.string ⟨#[]⟩,.int .i64 0,.int .i64 0] cs (by have:=bq.o;simp;omega);generalize ((w4.alloc (.cells #[.string ⟨#[]⟩,.string ⟨#[]⟩,.int .i64 0,.int .i64 0] 33)).setCells w4.heap.size 0 cs.toList)=V at hV⊢;have HX:=I hV.1;replace HZ:=I (HZ.o.below hV.2);replace Z:=I (Z.o.below hV.2);replace HG:=I (HG.o.trans (hV.2.mono HG.o.size));clear hV)
     |(refine Am (by rfl) 33 (.tmp 9) (by rfl) w4.heap.size 0 (by rfl) cs _ (Ad HX.o) Tryz.underlying33 (by rfl) bn.o ?_)
     |(go_at_call 189;refine Calls.mono (EN.o _) ?_;rintro e we ⟨⟨v,i,rfl,hn,av⟩,M⟩;obtain⟨rfl,gx,cx,rfl,cg,cf,ca⟩:=av l rfl;have cj:=I ca;clear cg cf ca;clear EN;replace HX:=I (HX.o.below M);replace HZ:=I (HZ.o.below M);replace Z:=I (Z.o.below M);replace HG:=HG.t M;clear M hn av)
     |(go_at_call 169;refine Calls.mono (BE.o l gx cx _ cj.o HG.o) ?_;rw[BF.o];rintro e wb ⟨rfl,hw⟩;subst hw;clear BE)
     |fail)
    have hE:=AK (ds:=cs) Z.o (by have:=cp.o;have:=bq.o;omega);have hp:=AQ we w.heap.size cs.toList;have hq:=Ao (P:=Tryz.prog) hE Tryz.underlying33 rfl bn.o;refine bodyPost_ret (v:=.tuple #[.agg cs,.int .i64 0]) ?_ ?_ ?_
    ·exact Al (v:=.agg cs) 6 7 33 ⟨w.heap.size,0,none⟩ Tryz.results187 rfl hq rfl
    ·rfl
    exact⟨by rw[GE.o,IE.o],Az HG.o hp (by have:=Z.o.lt;omega) Ag⟩
   ·have BF:=I (decide_eq_false hlb)
    have hD:anD b=none:=by rw[ED.o,ho,if_neg (fun h=>hlb (Option.some.inj h))]
    have GE:=I (show(anC (anG b)).toArray=O by rw[anG,hD];exact bx);have IE:=I (show anI b=2 by rw[anI,hD];rfl);clear ED ho hlb hD bB bx;go_enter Tryz.func187,Tryz.ntmps187
    go_upto_region 2 with fail
    rw[<-bb,<-eW];clear bb eW
    go_wp2_with (first
     |(refine Am (by rfl) 33 (.tmp 8) (by rfl) (w.heap.size+1) 0 (by rfl) O _ (Ad HZ.o) Tryz.underlying33 (by rfl) aw.o ?_)
     |(refine wpList_store_mid (by rfl) 33 (.tmp 6) (.tmp 33) (by rfl) w.heap.size 0 O (by rfl) (by rfl) (Ar Z.o _ Ag) aw.o cn.o ?_)
     |(go_at_call 188;refine Aj (T1.o _ (bz.o _ HG.o)) ?_;rintro w4 M;clear T1;replace HZ:=I (HZ.o.below M);replace Z:=I (Z.o.below M);replace HG:=HG.t M;clear M)
     |(refine wpList_store_mid (by rfl) 33 (.tmp 9) (.tmp 18) (by rfl) w4.heap.size 0 cs (by rfl) (by rfl) (Ar (Blk.new w4 33 #[.string ⟨#[]⟩,.string ⟨#[]⟩,.int .i64 0,.int .i64 0]) _ (by have:=bq.o;simp;omega)) bn.o cb.o ?_;have hV:=Bk w4 33 #[.string ⟨#[]⟩,.string ⟨#[]⟩,.int .i64 0,.int .i64 0] cs (by have:=bq.o;simp;omega);generalize ((w4.alloc (.cells #[.string ⟨#[]⟩,.string ⟨#[]⟩,.int .i64 0,.int .i64 0] 33)).setCells w4.heap.size 0 cs.toList)=V at hV⊢;have HX:=I hV.1;replace HZ:=I (HZ.o.below hV.2);replace Z:=I (Z.o.below hV.2);replace HG:=I (HG.o.trans (hV.2.mono HG.o.size));clear hV)
     |(refine Am (by rfl) 33 (.tmp 9) (by rfl) w4.heap.size 0 (by rfl) cs _ (Ad HX.o) Tryz.underlying33 (by rfl) bn.o ?_)
     |(go_at_call 189;refine Calls.mono (EN.o _) ?_;rintro e we ⟨⟨v,i,rfl,hn,av⟩,M⟩;obtain⟨rfl,gx,cx,rfl,cg,cf,ca⟩:=av l rfl;have cj:=I ca;clear cg cf ca;clear EN;replace HX:=I (HX.o.below M);replace HZ:=I (HZ.o.below M);replace Z:=I (Z.o.below M);replace HG:=HG.t M;clear M hn av)
     |(go_at_call 169;refine Calls.mono (BE.o l gx cx _ cj.o HG.o) ?_;rw[BF.o];rintro e wb ⟨rfl,hw⟩;subst hw;clear BE)
     |fail)
    have hE:=AK (ds:=O) Z.o (by rfl);have hp:=AQ we w.heap.size O.toList;have hq:=Ao (P:=Tryz.prog) hE Tryz.underlying33 rfl aw.o;refine bodyPost_ret (v:=.tuple #[.agg O,.int .i64 2]) ?_ ?_ ?_
    ·exact Al (v:=.agg O) 6 7 33 ⟨w.heap.size,0,none⟩ Tryz.results187 rfl hq rfl
    ·rfl
    exact⟨by rw[GE.o,IE.o],Az HG.o hp (by have:=Z.o.lt;omega) Ag⟩
 ·have t1:decide ((2000:Int)<(b.length:Int))=true:=decide_eq_true (by omega)
  have hD:anD b=none:=by
   rw[ED.o,if_neg];intro h;have h2:=BS.1 h;exact hl (by rw[<-h2.2.2];exact h2.2.1)
  have GE:=I (show(anC (anG b)).toArray=O by rw[anG,hD];exact bx);have IE:=I (show anI b=2 by rw[anI,hD];rfl);clear ED hD hl bx hr bz;go_enter Tryz.func187,Tryz.ntmps187
  go_upto_region 2 with fail
  rw[<-bb,<-eW];clear bb eW
  go_wp2_with (first
   |(refine Am (by rfl) 33 (.tmp 8) (by rfl) (w.heap.size+1) 0 (by rfl) O _ (Ad HZ.o) Tryz.underlying33 (by rfl) aw.o ?_)
   |(refine wpList_store_mid (by rfl) 33 (.tmp 6) (.tmp 15) (by rfl) w.heap.size 0 O (by rfl) (by rfl) (Ar Z.o _ Ag) aw.o cn.o ?_)
   |fail)
  have hE:=AK (ds:=O) Z.o (by rfl);have hp:=AQ W w.heap.size O.toList;have hq:=Ao (P:=Tryz.prog) hE Tryz.underlying33 rfl aw.o;refine bodyPost_ret (v:=.tuple #[.agg O,.int .i64 2]) ?_ ?_ ?_
  ·exact Al (v:=.agg O) 6 7 33 ⟨w.heap.size,0,none⟩ Tryz.results187 rfl hq rfl
  ·rfl
  exact⟨by rw[GE.o,IE.o],Az HG.o hp (by have:=Z.o.lt;omega) Ag⟩
theorem MW (A:Option Addr) (b:L) (c:Nat) (w:World) (hr:Rd w w.heap.size A (bvs b)):Calls Tryz.prog 140 #[.slice A b.length c] w fun e w'=>e=.returned (.tuple #[.agg (anC (anG b)).toArray,.int .i64 (anI b)])/\Below w.heap.size w w':=by
 obtain⟨zz,O⟩:∃z:Array Value,z=#[.string ⟨#[]⟩,.string ⟨#[]⟩,.int .i64 0,.int .i64 0]:=⟨_,rfl⟩;have av:zz.size=4:=by rw[O];simp
 have M:(anC (anG b)).toArray.size=4:=by rfl
 have Z:(anC (anG b)).toArray.all (·.oneCell')=true:=OJ _;have c1:=UC A b c (w.alloc (.cells zz 33)) ((hr.alloc Ag _).more (by simp));obtain⟨cs,bb⟩:=Ak ((anC (anG b)).toArray);rw[<-bb] at M Z c1⊢;have HI:=I (show(Tryz.prog.info? 33).map (·.size)=some cs.size by rw[M];kernel_rfl);have HO:=I Z;have aw:=I M;have bn:=I av;have HR:=I (Blk.new w 33 zz);have HG:=I ((Below.refl w.heap.size w).alloc Ag (.cells zz 33));clear M Z av bb hr;go_enter Tryz.func140,Tryz.ntmps140
 go_upto_region 1 with fail
 rw[<-O];clear O
 go_wp2_with (first
  |(go_at_call 187;refine Aj c1 ?_;rintro w1 hb;clear c1;replace HR:=I (HR.o.below hb);replace HG:=HG.t hb;clear hb)
  |(refine wpList_store_mid (by rfl) 33 (.tmp 2) (.tmp 6) (by rfl) w.heap.size 0 cs (by rfl) (by rfl) (Ar HR.o _ (by have:=bn.o;have:=aw.o;omega)) HI.o HO.o ?_)
  |fail)
 have hE:=AK (ds:=cs) HR.o (by have:=bn.o;have:=aw.o;omega);have hp:=AQ w1 w.heap.size cs.toList;have hq:=Ao (P:=Tryz.prog) hE Tryz.underlying33 rfl HI.o;refine bodyPost_ret (v:=.tuple #[.agg cs,.int .i64 (anI b)]) ?_ ?_ ?_
 ·exact Al (v:=.agg cs) 2 3 33 ⟨w.heap.size,0,none⟩ Tryz.results140 rfl hq rfl
 ·rfl
 exact⟨rfl,Az HG.o hp (by have:=HR.o.lt;omega) Ag⟩
theorem UD (A:Option Addr) (b:L) (c:Nat) (w:World) (hr:Rd w w.heap.size A (bvs b)):Calls Tryz.prog 184 #[.slice A b.length c,.func (.func 185) #[] #[],.func (.func 186) #[] #[]] w fun e w'=>e=.returned (.tuple #[.agg (ptC (ptG b)).toArray,.int .i64 (ptI b)])/\Below w.heap.size w w':=by
 obtain⟨O,bb⟩:∃z:Array Value,z=#[.string ⟨#[]⟩,.string ⟨#[]⟩,.int .u8 0,.int .u8 0,.int .u8 0,.int .u8 0,.int .u8 0,.int .u8 0,.int .u8 0,.int .u8 0,.int .u8 0,.int .u8 0,.int .u8 0,.int .u8 0,.int .u8 0,.int .u8 0,.int .u8 0,.int .u8 0,.int .u8 0,.int .u8 0,.int .u8 0,.int .u8 0,.int .u8 0,.int .u8 0,.int .u8 0,.int .u8 0,.int .u8 0,.int .u8 0,.int .u8 0,.int .u8 0,.int .u8 0,.int .u8 0,.int .u8 0,.int .u8 0,.string ⟨#[]⟩,.int .i64 0,.int .i64 0]:=⟨_,rfl⟩;have bx:(ptC pt0).toArray=O:=by rw[bb];rfl
 have cd:O.size=37:=by rw[bb];simp
 have ct:O.all (·.oneCell')=true:=by rw[<-bx];exact LF _ _ _ _ _
 obtain⟨W,eW⟩:=Ak ((w.alloc (.cells O 31)).alloc (.cells O 31));have cu:W.heap.size=w.heap.size+1+1:=by rw[eW];simp
 have hq:=Blk.new (w.alloc (.cells O 31)) 31 O;rw[show(w.alloc (.cells O 31)).heap.size=w.heap.size+1 by simp,<-eW] at hq;have HZ:=I hq;clear hq;have Z:=I (show Blk W w.heap.size 31 O by rw[eW];exact(Blk.new _ _ _).alloc _);have HG:=I (show Below w.heap.size w W by rw[eW];exact(Ah.alloc Ag _).alloc (by simp) _);have bz:=I (fun w1 (h:Below w.heap.size w w1)=>(hr.below h).more h.size);have aw:=I (show(Tryz.prog.info? 31).map (·.size)=some O.size by rw[cd];kernel_rfl);have cp:=I ct;have cq:=I cd;have ED:=I (UA b);have cw:=I cu;clear cu ct cd
 by_cases hl:b.length<=2000
 ·have t1:decide ((2000:Int)<(b.length:Int))=false:=decide_eq_false (by omega)
  have cn:b.length<=100000:=by omega
  have cf:=FJ 99 (show((some b:Option L).getD []).length<=100000 from cn);have av:pSm (ptQ b).1.c:=Hk cf;have cr:(ptQ b).1.tr.length<=1000000000:=Nat.le_trans (dz (BX 4 (BX 48 cf))) (by omega);have T1:=I (fun w1 (h:Rd w1 w1.heap.size A (bvs b))=>(show Calls Tryz.prog 185 #[.slice A b.length c] w1 fun e w'=>e=.returned (.agg (ptC (ptQ b).1).toArray)/\Below w1.heap.size w1 w' from Rc A b c w1 h cn));have EN:=I (fun w1=>(show Calls Tryz.prog 186 #[.agg (ptC (ptQ b).1).toArray] w1 (EncR w1 (ptO (ptQ b).1)) from OE (ptQ b).1 w1 (LD b) av cr));have cc:(ptC (ptQ b).1).toArray.size=37:=by exact FF (LD b)
  have cm:(ptC (ptQ b).1).toArray.all (·.oneCell')=true:=LF _ _ _ _ _;have BE:=I (fun(l:L) (g c2:Nat) (w1:World) (h:Rd w1 w1.heap.size (some ⟨g,0,none⟩) (bvs l)) (M:Below w.heap.size w w1)=>Gx l b (some ⟨g,0,none⟩) A c2 c w1.heap.size w1 h (bz.o w1 M));obtain⟨cs,bB⟩:=Ak ((ptC (ptQ b).1).toArray);rw[<-bB] at T1 EN cc cm;have bn:=I (show(Tryz.prog.info? 31).map (·.size)=some cs.size by rw[cc];kernel_rfl);have cb:=I cm;have bq:=I cc;clear cc cm hl cn hr av cr cf;cases ho:ptO (ptQ b).1 with
  |none=>
   rw[ho] at EN;have hD:ptD b=none:=by rw[ED.o,ho];rfl
   have GE:=I (show(ptC (ptG b)).toArray=O by rw[ptG,hD];exact bx);have IE:=I (show ptI b=2 by rw[ptI,hD];rfl);clear ED ho hD bB bx BE;go_enter Tryz.func184,Tryz.ntmps184
   go_upto_region 2 with fail
   rw[<-bb,<-eW];clear bb eW
   go_wp2_with (first
    |(refine Am (by rfl) 31 (.tmp 8) (by rfl) (w.heap.size+1) 0 (by rfl) O _ (Ad HZ.o) Tryz.underlying31 (by rfl) aw.o ?_)
    |(refine wpList_store_mid (by rfl) 31 (.tmp 6) (.tmp 33) (by rfl) w.heap.size 0 O (by rfl) (by rfl) (Ar Z.o _ Ag) aw.o cp.o ?_)
    |(go_at_call 185;refine Aj (T1.o _ (bz.o _ HG.o)) ?_;rintro w4 M;clear T1;replace HZ:=I (HZ.o.below M);replace Z:=I (Z.o.below M);replace HG:=HG.t M;clear M)
    |(refine wpList_store_mid (by rfl) 31 (.tmp 9) (.tmp 18) (by rfl) w4.heap.size 0 cs (by rfl) (by rfl) (Ar (Blk.new w4 31 Ax) _ (by have:=bq.o;simp;omega)) bn.o cb.o ?_;have hV:=Bk w4 31 Ax cs (by have:=bq.o;simp;omega);generalize ((w4.alloc (.cells Ax 31)).setCells w4.heap.size 0 cs.toList)=V at hV⊢;have HX:=I hV.1;replace HZ:=I (HZ.o.below hV.2);replace Z:=I (Z.o.below hV.2);replace HG:=I (HG.o.trans (hV.2.mono HG.o.size));clear hV)
    |(refine Am (by rfl) 31 (.tmp 9) (by rfl) w4.heap.size 0 (by rfl) cs _ (Ad HX.o) Tryz.underlying31 (by rfl) bn.o ?_)
    |(go_at_call 186;refine Calls.mono (EN.o _) ?_;rintro e we ⟨⟨v,i,rfl,hn,av⟩,M⟩;obtain⟨rfl,rfl⟩:=hn rfl;clear EN;replace HX:=I (HX.o.below M);replace HZ:=I (HZ.o.below M);replace Z:=I (Z.o.below M);replace HG:=HG.t M;clear M hn av)
    |fail)
   have hE:=AK (ds:=O) Z.o (by rfl);have hp:=AQ we w.heap.size O.toList;have hq:=Ao (P:=Tryz.prog) hE Tryz.underlying31 rfl aw.o;refine bodyPost_ret (v:=.tuple #[.agg O,.int .i64 2]) ?_ ?_ ?_
   ·exact Al (v:=.agg O) 6 7 31 ⟨w.heap.size,0,none⟩ Tryz.results184 rfl hq rfl
   ·rfl
   exact⟨by rw[GE.o,IE.o],Az HG.o hp (by have:=Z.o.lt;omega) Ag⟩
  |some l=>
   rw[ho] at EN
   by_cases hlb:l=b
   ·have BF:=I (decide_eq_true hlb)
    have hD:ptD b=some (ptQ b).1:=by rw[ED.o,ho,if_pos (by rw[hlb])]
    have GE:=I (show(ptC (ptG b)).toArray=cs by rw[ptG,hD];exact bB.symm);have IE:=I (show ptI b=0 by rw[ptI,hD];rfl);clear ED ho hlb hD bB bx;go_enter Tryz.func184,Tryz.ntmps184
    go_upto_region 2 with fail
    rw[<-bb,<-eW];clear bb eW
    go_wp2_with (first
     |(refine Am (by rfl) 31 (.tmp 8) (by rfl) (w.heap.size+1) 0 (by rfl) O _ (Ad HZ.o) Tryz.underlying31 (by rfl) aw.o ?_)
     |(refine wpList_store_mid (by rfl) 31 (.tmp 6) (.tmp 34) (by rfl) w.heap.size 0 cs (by rfl) (by rfl) (Ar Z.o _ (by have:=cq.o;have:=bq.o;omega)) bn.o cb.o ?_)
     |(go_at_call 185;refine Aj (T1.o _ (bz.o _ HG.o)) ?_;rintro w4 M;clear T1;replace HZ:=I (HZ.o.below M);replace Z:=I (Z.o.below M);replace HG:=HG.t M;clear M)
     |(refine wpList_store_mid (by rfl) 31 (.tmp 9) (.tmp 18) (by rfl) w4.heap.size 0 cs (by rfl) (by rfl) (Ar (Blk.new w4 31 Ax) _ (by have:=bq.o;simp;omega)) bn.o cb.o ?_;have hV:=Bk w4 31 Ax cs (by have:=bq.o;simp;omega);generalize ((w4.alloc (.cells Ax 31)).setCells w4.heap.size 0 cs.toList)=V at hV⊢;have HX:=I hV.1;replace HZ:=I (HZ.o.below hV.2);replace Z:=I (Z.o.below hV.2);replace HG:=I (HG.o.trans (hV.2.mono HG.o.size));clear hV)
     |(refine Am (by rfl) 31 (.tmp 9) (by rfl) w4.heap.size 0 (by rfl) cs _ (Ad HX.o) Tryz.underlying31 (by rfl) bn.o ?_)
     |(go_at_call 186;refine Calls.mono (EN.o _) ?_;rintro e we ⟨⟨v,i,rfl,hn,av⟩,M⟩;obtain⟨rfl,gx,cx,rfl,cj,cg,ca⟩:=av l rfl;have ck:=I ca;clear cj cg ca;clear EN;replace HX:=I (HX.o.below M);replace HZ:=I (HZ.o.below M);replace Z:=I (Z.o.below M);replace HG:=HG.t M;clear M hn av)
     |(go_at_call 169;refine Calls.mono (BE.o l gx cx _ ck.o HG.o) ?_;rw[BF.o];rintro e wb ⟨rfl,hw⟩;subst hw;clear BE)
     |fail)
    have hE:=AK (ds:=cs) Z.o (by have:=cq.o;have:=bq.o;omega);have hp:=AQ we w.heap.size cs.toList;have hq:=Ao (P:=Tryz.prog) hE Tryz.underlying31 rfl bn.o;refine bodyPost_ret (v:=.tuple #[.agg cs,.int .i64 0]) ?_ ?_ ?_
    ·exact Al (v:=.agg cs) 6 7 31 ⟨w.heap.size,0,none⟩ Tryz.results184 rfl hq rfl
    ·rfl
    exact⟨by rw[GE.o,IE.o],Az HG.o hp (by have:=Z.o.lt;omega) Ag⟩
   ·have BF:=I (decide_eq_false hlb)
    have hD:ptD b=none:=by rw[ED.o,ho,if_neg (fun h=>hlb (Option.some.inj h))]
    have GE:=I (show(ptC (ptG b)).toArray=O by rw[ptG,hD];exact bx);have IE:=I (show ptI b=2 by rw[ptI,hD];rfl);clear ED ho hlb hD bB bx;go_enter Tryz.func184,Tryz.ntmps184
    go_upto_region 2 with fail
    rw[<-bb,<-eW];clear bb eW
    go_wp2_with (first
     |(refine Am (by rfl) 31 (.tmp 8) (by rfl) (w.heap.size+1) 0 (by rfl) O _ (Ad HZ.o) Tryz.underlying31 (by rfl) aw.o ?_)
     |(refine wpList_store_mid (by rfl) 31 (.tmp 6) (.tmp 33) (by rfl) w.heap.size 0 O (by rfl) (by rfl) (Ar Z.o _ Ag) aw.o cp.o ?_)
     |(go_at_call 185;refine Aj (T1.o _ (bz.o _ HG.o)) ?_;rintro w4 M;clear T1;replace HZ:=I (HZ.o.below M);replace Z:=I (Z.o.below M);replace HG:=HG.t M;clear M)
     |(refine wpList_store_mid (by rfl) 31 (.tmp 9) (.tmp 18) (by rfl) w4.heap.size 0 cs (by rfl) (by rfl) (Ar (Blk.new w4 31 Ax) _ (by have:=bq.o;simp;omega)) bn.o cb.o ?_;have hV:=Bk w4 31 Ax cs (by have:=bq.o;simp;omega);generalize ((w4.alloc (.cells Ax 31)).setCells w4.heap.size 0 cs.toList)=V at hV⊢;have HX:=I hV.1;replace HZ:=I (HZ.o.below hV.2);replace Z:=I (Z.o.below hV.2);replace HG:=I (HG.o.trans (hV.2.mono HG.o.size));clear hV)
     |(refine Am (by rfl) 31 (.tmp 9) (by rfl) w4.heap.size 0 (by rfl) cs _ (Ad HX.o) Tryz.underlying31 (by rfl) bn.o ?_)
     |(go_at_call 186;refine Calls.mono (EN.o _) ?_;rintro e we ⟨⟨v,i,rfl,hn,av⟩,M⟩;obtain⟨rfl,gx,cx,rfl,cj,cg,ca⟩:=av l rfl;have ck:=I ca;clear cj cg ca;clear EN;replace HX:=I (HX.o.below M);replace HZ:=I (HZ.o.below M);replace Z:=I (Z.o.below M);replace HG:=HG.t M;clear M hn av)
     |(go_at_call 169;refine Calls.mono (BE.o l gx cx _ ck.o HG.o) ?_;rw[BF.o];rintro e wb ⟨rfl,hw⟩;subst hw;clear BE)
     |fail)
    have hE:=AK (ds:=O) Z.o (by rfl);have hp:=AQ we w.heap.size O.toList;have hq:=Ao (P:=Tryz.prog) hE Tryz.underlying31 rfl aw.o;refine bodyPost_ret (v:=.tuple #[.agg O,.int .i64 2]) ?_ ?_ ?_
    ·exact Al (v:=.agg O) 6 7 31 ⟨w.heap.size,0,none⟩ Tryz.results184 rfl hq rfl
    ·rfl
    exact⟨by rw[GE.o,IE.o],Az HG.o hp (by have:=Z.o.lt;omega) Ag⟩
 ·have t1:decide ((2000:Int)<(b.length:Int))=true:=decide_eq_true (by omega)
  have hD:ptD b=none:=by
   rw[ED.o,if_neg];intro h;have h2:=BS.1 h;exact hl (by rw[<-h2.2.2];exact h2.2.1)
  have GE:=I (show(ptC (ptG b)).toArray=O by rw[ptG,hD];exact bx);have IE:=I (show ptI b=2 by rw[ptI,hD];rfl);clear ED hD hl bx hr bz;go_enter Tryz.func184,Tryz.ntmps184
  go_upto_region 2 with fail
  rw[<-bb,<-eW];clear bb eW
  go_wp2_with (first
   |(refine Am (by rfl) 31 (.tmp 8) (by rfl) (w.heap.size+1) 0 (by rfl) O _ (Ad HZ.o) Tryz.underlying31 (by rfl) aw.o ?_)
   |(refine wpList_store_mid (by rfl) 31 (.tmp 6) (.tmp 15) (by rfl) w.heap.size 0 O (by rfl) (by rfl) (Ar Z.o _ Ag) aw.o cp.o ?_)
   |fail)
  have hE:=AK (ds:=O) Z.o (by rfl);have hp:=AQ W w.heap.size O.toList;have hq:=Ao (P:=Tryz.prog) hE Tryz.underlying31 rfl aw.o;refine bodyPost_ret (v:=.tuple #[.agg O,.int .i64 2]) ?_ ?_ ?_
  ·exact Al (v:=.agg O) 6 7 31 ⟨w.heap.size,0,none⟩ Tryz.results184 rfl hq rfl
  ·rfl
  exact⟨by rw[GE.o,IE.o],Az HG.o hp (by have:=Z.o.lt;omega) Ag⟩
theorem JQ (A:Option Addr) (b:L) (c:Nat) (w:World) (hr:Rd w w.heap.size A (bvs b)):Calls Tryz.prog 139 #[.slice A b.length c] w fun e w'=>e=.returned (.tuple #[.agg (ptC (ptG b)).toArray,.int .i64 (ptI b)])/\Below w.heap.size w w':=by
 obtain⟨zz,O⟩:∃z:Array Value,z=#[.string ⟨#[]⟩,.string ⟨#[]⟩,.int .u8 0,.int .u8 0,.int .u8 0,.int .u8 0,.int .u8 0,.int .u8 0,.int .u8 0,.int .u8 0,.int .u8 0,.int .u8 0,.int .u8 0,.int .u8 0,.int .u8 0,.int .u8 0,.int .u8 0,.int .u8 0,.int .u8 0,.int .u8 0,.int .u8 0,.int .u8 0,.int .u8 0,.int .u8 0,.int .u8 0,.int .u8 0,.int .u8 0,.int .u8 0,.int .u8 0,.int .u8 0,.int .u8 0,.int .u8 0,.int .u8 0,.int .u8 0,.string ⟨#[]⟩,.int .i64 0,.int .i64 0]:=⟨_,rfl⟩;have av:zz.size=37:=by rw[O];simp
 have M:(ptC (ptG b)).toArray.size=37:=by exact FF (OK b)
 have Z:(ptC (ptG b)).toArray.all (·.oneCell')=true:=LF _ _ _ _ _;have c1:=UD A b c (w.alloc (.cells zz 31)) ((hr.alloc Ag _).more (by simp));obtain⟨cs,bb⟩:=Ak ((ptC (ptG b)).toArray);rw[<-bb] at M Z c1⊢;have HI:=I (show(Tryz.prog.info? 31).map (·.size)=some cs.size by rw[M];kernel_rfl);have HO:=I Z;have aw:=I M;have bn:=I av;have HR:=I (Blk.new w 31 zz);have HG:=I ((Below.refl w.heap.size w).alloc Ag (.cells zz 31));clear M Z av bb hr;go_enter Tryz.func139,Tryz.ntmps139
 go_upto_region 1 with fail
 rw[<-O];clear O
 go_wp2_with (first
  |(go_at_call 184;refine Aj c1 ?_;rintro w1 hb;clear c1;replace HR:=I (HR.o.below hb);replace HG:=HG.t hb;clear hb)
  |(refine wpList_store_mid (by rfl) 31 (.tmp 2) (.tmp 6) (by rfl) w.heap.size 0 cs (by rfl) (by rfl) (Ar HR.o _ (by have:=bn.o;have:=aw.o;omega)) HI.o HO.o ?_)
  |fail)
 have hE:=AK (ds:=cs) HR.o (by have:=bn.o;have:=aw.o;omega);have hp:=AQ w1 w.heap.size cs.toList;have hq:=Ao (P:=Tryz.prog) hE Tryz.underlying31 rfl HI.o;refine bodyPost_ret (v:=.tuple #[.agg cs,.int .i64 (ptI b)]) ?_ ?_ ?_
 ·exact Al (v:=.agg cs) 2 3 31 ⟨w.heap.size,0,none⟩ Tryz.results139 rfl hq rfl
 ·rfl
 exact⟨rfl,Az HG.o hp (by have:=HR.o.lt;omega) Ag⟩
end Mc
end Go.Proofs.YtfbnjcdhipplpaaGreat
