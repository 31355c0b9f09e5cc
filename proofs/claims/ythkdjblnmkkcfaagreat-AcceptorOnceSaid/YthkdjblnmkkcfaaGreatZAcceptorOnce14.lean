import Derived.Test.YthkdjblnmkkcfaaGreatZAcceptorOnce13
set_option maxHeartbeats 25600000
set_option maxRecDepth 100000
set_option linter.unusedVariables false
set_option linter.unusedSimpArgs false
namespace Go.Proofs.YthkdjblnmkkcfaaGreat
namespace Kd
open Go.RowKit Af Se
open Rg (It Ent Ring RO DRing DO its prV Gb Ci numO Ae)
open Ms (tmB inB)
open Nm (krb)
theorem Dp:(Tryz.prog.info? 37).map (·.size)=some 2:=by kernel_rfl
section
variable {w:World} {B:Nat} {p:KP} {es:List Ent} {n i:Nat}
end
end Kd
namespace Ms
open Go.RowKit Af DerP DerR
theorem CZ {a b c:World} {row:Option Nat} (h:a.grownBy b row) (k:b.grownBy c row):a.grownBy c row:=
 ⟨k.os.trans h.os,k.tape.trans h.tape,k.output.trans h.output,Nat.le_trans h.size k.size,fun i hi M=>(k.block i (Nat.lt_of_lt_of_le hi h.size) M).trans (h.block i hi M)⟩
theorem Hj {a b c:World} {row:Option Nat} {q:Nat} (h:a.grownBy b row) (k:b.grownBy c (some q)) (O:a.heap.size<=q):a.grownBy c row:=
 ⟨k.os.trans h.os,k.tape.trans h.tape,k.output.trans h.output,Nat.le_trans h.size k.size,fun i hi M=>(k.block i (Nat.lt_of_lt_of_le hi h.size) (fun e=>by injection e with e;omega)).trans (h.block i hi M)⟩
theorem Au {P:Program} {fn:Func} {tmps:Array Value} {w:World} {v:Value} (t:Nat) (ty:TypeId) (a:Addr) (M:fn.results=#[.cell t ty]) (Z:tmps.getD t undef=.pointer (some a)) (hl:(loadVar ty a).run P w=.ok v w) :
  (results fn tmps).run P w=.ok v w:=by
 have O:tmps[t]?.getD undef=.pointer (some a):=by simpa using Z
 simp [results,M,O,asAddr,hl]
theorem Ao {P:Program} {w:World} {g:Nat} {t ty:TypeId} {cs:Array Value} {d:TypeDesc} (h:Blk w g t cs) (hu:P.underlying ty=some d) (M:d.isRow=true) (hi:(P.info? ty).map (·.size)=some cs.size) :
  (loadVar ty ⟨g,0,none⟩).run P w=.ok (.agg cs) w:=by
 have O:w.rangeAt g 0 cs.toList:=fun j v Z=>by rw[Nat.zero_add,h.cell];simpa using Z
 have:=run_loadVar_mid (P:=P) w g 0 ty cs.toList d O hu M (by simpa using hi)
 simpa using this
theorem Xu (c:Option L):((intC c).2.getD []).length<=(c.getD []).length:=by
 unfold intC;cases h:AN 2 c with
 |none=>simp
 |some b=>
  simp only;cases numL b with
  |none=>simp
  |some n=>exact(Dr 2 c).2
theorem Ae {P:Program} {fn:Func} {tmps:Array Value} {w:World} {v u:Value} (t q:Nat) (ty:TypeId) (a:Addr) (M:fn.results=#[.cell t ty,.tmp q]) (ht:tmps.getD t undef=.pointer (some a)) (hl:(loadVar ty a).run P w=.ok v w) (hq:tmps.getD q undef=u) :
  (results fn tmps).run P w=.ok (.tuple #[v,u]) w:=by
 have O:tmps[t]?.getD undef=.pointer (some a):=by simpa using ht
 have Z:tmps[q]?.getD undef=u:=by simpa using hq
 simp [results,M,O,Z,asAddr,hl]
def anG (b:L):An:=(anD b).getD an0
def anI (b:L):Int:=if (anD b).isSome then 0 else 2
end Ms
namespace Mc
open Go.RowKit Af DerP DerC Ms
def OwnB (w:World) (base:Nat) (v:Value) (l:L):Prop:=
 ∃b c,v=.slice (some ⟨b,0,none⟩) l.length c/\l.length<=c/\base<=b/\b<w.heap.size/\∀i u,(bvs l)[i]? = some u->w.cell? ⟨b,i,none⟩=some u
theorem OwnB.of_fresh {w:World} {base b c:Nat} {l:L} (h:Rz w base b l) (M:l.length<=c):OwnB w base (.slice (some ⟨b,0,none⟩) l.length c) l:=by
 refine⟨b,c,rfl,M,h.1,h.2.1,fun i u hu=>?_⟩;have hi:i<l.length:=by
  rcases Nat.lt_or_ge i l.length with g | g
  ·exact g
  ·rw[List.getElem?_eq_none (by rw[AG];exact g)] at hu;cases hu
 rw[Gf hi] at hu;injection hu with hu;subst hu;exact(h.2.2 i hi).1
theorem OwnB.keep {w w':World} {base g:Nat} {v:Value} {l:L} (h:OwnB w base v l) (M:w.grownBy w' (some g)) (Z:g<base):OwnB w' base v l:=by
 obtain⟨b,c,h1,h2,h3,O,h5⟩:=h;exact⟨b,c,h1,h2,h3,Nat.lt_of_lt_of_le O M.size,fun i u hu=>(World.cell?_of_block (a:=⟨b,i,none⟩) (M.block b O (fun e=>by injection e with e;omega))).trans (h5 i u hu)⟩
theorem OwnB.below {w w':World} {base:Nat} {v:Value} {l:L} (h:OwnB w base v l) (M:Below w.heap.size w w'):OwnB w' base v l:=by
 obtain⟨b,c,h1,Z,h3,O,h5⟩:=h;exact⟨b,c,h1,Z,h3,Nat.lt_of_lt_of_le O M.size,fun i u hu=>(M.cell (p:=⟨b,i,none⟩) O).trans (h5 i u hu)⟩
theorem OwnB.less {w:World} {base base':Nat} {v:Value} {l:L} (h:OwnB w base v l) (hb:base'<=base):OwnB w base' v l:=by
 obtain⟨b,c,h1,M,O,h4,Z⟩:=h;exact⟨b,c,h1,M,Nat.le_trans hb O,h4,Z⟩
theorem OwnB.slb {w:World} {base:Nat} {v:Value} {l:L} (h:OwnB w base v l):SlB w w.heap.size v l:=by
 obtain⟨b,c,Z,M,h3,h4,O⟩:=h;exact⟨_,c,Z,M,.inr ⟨b,0,rfl,h4,fun i u hu=>by rw[Nat.zero_add];exact O i u hu⟩⟩
theorem Ar {w:World} {g:Nat} {t:TypeId} {cs:Array Value} (h:Blk w g t cs) (n:Nat) (O:n<=cs.size):w.there g 0 n:=fun j M=>by
 rw[Nat.zero_add,h.cell,Array.getElem?_eq_getElem (by omega)];exact⟨rfl,h.frozen j⟩
theorem Bn {g:Nat} {t:TypeId}:∀(M:List Value) (o:Nat) (w:World) (cs:Array Value),Blk w g t cs->o+M.length<=cs.size->
  ∃ds:Array Value,Blk (w.setCells g o M) g t ds/\ds.size=cs.size/\(∀i,o<=i->i<o+M.length->ds[i]? = M[i - o]?)/\(∀i,i<o\/o+M.length<=i->ds[i]? = cs[i]?)
 | [],o,w,cs,h,hl=>⟨cs,h,rfl,fun i Z O=>by simp at O;omega,fun i _=>rfl⟩
 |v :: r,o,w,cs,h,hl=>by
  rw[World.setCells];simp only[List.length_cons] at hl;obtain⟨ds,Z,O,h3,h4⟩:=Bn r (o+1) _ _ (h.set o v) (by simp;omega);simp only[List.length_cons];refine⟨ds,Z,by simpa using O,fun i hi hj=>?_,fun i hi=>?_⟩
  ·by_cases e:i=o
   ·subst e
    rw[h4 i (by omega),Nat.sub_self];rw[Array.getElem?_setIfInBounds_self_of_lt (by omega)]
    rfl
   ·rw[h3 i (by omega) (by omega),show i - o=(i - (o+1))+1 by omega]
    simp
  ·rw[h4 i (by omega)]
   exact Array.getElem?_setIfInBounds_ne (by omega)
theorem Rh {w:World} {g:Nat} {t:TypeId} {x:L} (h:Blk w g t (bvs key0).toArray):Blk (w.setCells g 0 (bvs (x.take 32))) g t (bvs ((x++key0).take 32)).toArray:=by
 have hk:key0.length=32:=rfl;obtain⟨es,O,h2,M,Z⟩:=Bn (bvs (x.take 32)) 0 w _ h (by simp [AG,hk];omega);have e:es=(bvs ((x++key0).take 32)).toArray:=by
  apply Array.ext_getElem?;intro i;rw[show(bvs ((x++key0).take 32)).toArray[i]? = (bvs ((x++key0).take 32))[i]? by simp]
  by_cases hi:i<(x.take 32).length
  ·rw[M i (by omega) (by rw[AG];omega),Nat.sub_zero]
   simp only[bvs,List.getElem?_map]
   congr 1
   rw[List.length_take] at hi;rw[List.getElem?_take_of_lt (by omega),List.getElem?_take_of_lt (by omega),List.getElem?_append_left (by omega)]
  ·rw[Z i (by rw[AG];omega),show(bvs key0).toArray[i]? = (bvs key0)[i]? by simp]
   simp only[bvs,List.getElem?_map]
   congr 1
   rw[List.length_take] at hi
   by_cases h5:i<32
   ·rw[List.getElem?_take_of_lt h5,List.getElem?_append_right (by omega)]
    simp only[key0,List.getElem?_replicate];rw[if_pos h5,if_pos (by omega)]
   ·rw[List.getElem?_eq_none (by rw[hk];omega),List.getElem?_eq_none (by rw[List.length_take];omega)]
 rw[<-e];exact O
theorem AJ {w:World} {g:Nat} {t:TypeId} {cs ds:Array Value} (h:Blk w g t cs) (hs:cs.size=ds.size):Blk (w.setCells g 0 ds.toList) g t ds:=by
 obtain⟨es,M,Z,O,_⟩:=Bn ds.toList 0 w cs h (by simp;omega);have e:es=ds:=by
  apply Array.ext_getElem?;intro i
  by_cases hi:i<ds.size
  ·rw[O i (by omega) (by simp;omega)];simp
  ·rw[Array.getElem?_eq_none (by omega),Array.getElem?_eq_none (by omega)]
 rw[<-e];rw[<-e] at M;exact M
theorem Fg {row:Option Nat} {a:World} {g:Nat} (hp:row=some g\/a.heap.size<=g):∀(M:List Value) (o:Nat) (w:World),a.grownBy w row->a.grownBy (w.setCells g o M) row
 | [],_,_,h=>h
 |v :: r,o,w,h=>by rw[World.setCells];exact Fg hp r (o+1) _ (AM h (p:=⟨g,o,none⟩) hp v)
theorem AP (w:World) (g:Nat) (M:List Value):w.grownBy (w.setCells g 0 M) (some g):=Fg (.inl rfl) M 0 w (World.grownBy.refl _ _)
theorem Df {w:World} {g:Nat} {c:Option L} (h:Cur w g c):g<w.heap.size:=Blk.lt h
theorem Da {w w':World} {g q:Nat} {c:Option L} (h:Cur w g c) (O:w.grownBy w' (some q)) (M:q≠g):Cur w' g c:=Blk.grown h O (fun e=>M (by injection e))
theorem DT (g:Nat) (c:Option L) (w:World) (h:Cur w g c) (hs:((c.getD []).length:Int)<=100000):Calls Tryz.prog 171 #[.pointer (some ⟨g,0,none⟩)] w fun e w'=>
  (∃v,e=.returned v/\OwnB w' w.heap.size v (ocC c))/\Cur w' g (Bc 4 c)/\w.grownBy w' (some g):=
 (Di g c w h hs).mono fun e w' M=>by
  obtain⟨⟨b,cap,rfl,hc,hf⟩,O,Z⟩:=M;exact⟨⟨_,rfl,OwnB.of_fresh hf hc⟩,O,Z⟩
theorem FJ (g:Nat) (c:Option L) (w:World) (h:Cur w g c) (hs:((c.getD []).length:Int)<=100000):Calls Tryz.prog 189 #[.pointer (some ⟨g,0,none⟩)] w fun e w'=>
 e=.returned (.string ⟨(txC c).toArray⟩)/\Cur w' g (Bc 27 c)/\w.grownBy w' (some g):=Ey g c w h hs
theorem BV (t:UInt8) {c:Option L} {n:Nat} (h:(c.getD []).length<=n):((Bc t c).getD []).length<=n:=Nat.le_trans (Dr t c).2 h
theorem FK (t:UInt8) {c:Option L} {n:Nat} (h:(c.getD []).length<=n):((AN t c).getD []).length<=n:=Nat.le_trans (Dr t c).1 h
theorem FL {c:Option L} {n:Nat} (h:(c.getD []).length<=n):((intC c).2.getD []).length<=n:=Nat.le_trans (Xu c) h
theorem BO (g:Nat) (c:Option L) (w:World) (h:Cur w g c) (hs:(c.getD []).length<=100000):Calls Tryz.prog 168 #[.pointer (some ⟨g,0,none⟩)] w fun e w'=>e=.returned (.agg #[.string ⟨(prQ c).1.1.toArray⟩,.string ⟨(prQ c).1.2.toArray⟩])/\Cur w' g (prQ c).2/\w.grownBy w' (some g):=by
 obtain⟨W,eW⟩:=Ak (w.alloc (.cells #[.string ⟨#[]⟩,.string ⟨#[]⟩] 37));have cb:W.heap.size=w.heap.size+1:=by rw[eW];simp
 have Z:=I (show Blk W w.heap.size 37 #[.string ⟨#[]⟩,.string ⟨#[]⟩] by rw[eW];exact Blk.new _ _ _);have ca:=Df h;have cc:Cur W g c:=by rw[eW];exact h.alloc _
 have HG:=I (show w.grownBy W (some g) by rw[eW];exact DJ (World.grownBy.refl _ _) _);have c1:=GK 48 g c W cc (by omega);have bs:=FK 48 hs;obtain⟨s0,es0⟩:∃s,s=AN 48 c:=⟨_,rfl⟩;obtain⟨r,er⟩:∃s,s=Bc 48 c:=⟨_,rfl⟩;rw[<-es0] at c1 bs;rw[<-er] at c1;have aw:=I ca;have bq:((Bc 27 s0).getD []).length<=100000:=BV 27 bs;have T1:=I (fun g w h=>FJ g s0 w h (by omega));obtain⟨v1,bx⟩:∃x:L,x=txC s0:=⟨_,rfl⟩;obtain⟨s1,av⟩:∃s,s=Bc 27 s0:=⟨_,rfl⟩;rw[<-bx,<-av] at T1;rw[<-av] at bq;have cd:((Bc 27 s1).getD []).length<=100000:=BV 27 bq;have T2:=I (fun g w h=>FJ g s1 w h (by omega));obtain⟨v2,bn⟩:∃x:L,x=txC s1:=⟨_,rfl⟩;obtain⟨s2,es2⟩:∃s,s=Bc 27 s1:=⟨_,rfl⟩;rw[<-bn,<-es2] at T2;rw[<-es2] at cd;have bz:=I (show(prQ c).1.1=v1 by rw[bx,es0];rfl);have bB:=I (show(prQ c).1.2=v2 by rw[bn,av,es0];rfl);have FS:=I (show(prQ c).2=r by rw[er];rfl);rw[bz.o,bB.o,FS.o];clear h hs bs bq cd bz bx av bB bn es2 es0 FS ca er cc;have cg:=I cb;clear cb;subst eW;go_enter Tryz.func168,Tryz.ntmps168
 go_wp2_with (first
  |(go_at_call 125;refine Calls.mono c1 ?_;rintro e wi ⟨⟨gd,rfl,cf,hd⟩,hc,M⟩;clear c1;have HD:=I hd;have HC:=I hc;have O:=I (show w.heap.size+1<=gd by have:=cg.o;omega);have bb:=I (Df hd);replace Z:=I (Z.o.grown M (by intro e;injection e with e;have:=aw.o;omega));replace HG:=I (CZ HG.o M);clear cf hd hc M)
  |(go_at_call 189;(with_reducible refine Calls.mono (T1.o _ _ HD.o) ?_);rintro e w1 ⟨rfl,hd,M⟩;clear T1;replace HD:=I hd;replace Z:=I (Z.o.grown M (by intro e;injection e with e;have:=O.o;omega));replace HC:=I (Da HC.o M (by have:=O.o;have:=aw.o;omega));replace HG:=I (Hj HG.o M (by have:=O.o;omega));replace bb:=I (Nat.lt_of_lt_of_le bb.o M.size);clear hd M)
  |(go_at_call 189;(with_reducible refine Calls.mono (T2.o _ _ HD.o) ?_);rintro e w2 ⟨rfl,hd,M⟩;clear T2;replace HD:=I hd;replace Z:=I (Z.o.grown M (by intro e;injection e with e;have:=O.o;omega));replace HC:=I (Da HC.o M (by have:=O.o;have:=aw.o;omega));replace HG:=I (Hj HG.o M (by have:=O.o;omega));replace bb:=I (Nat.lt_of_lt_of_le bb.o M.size);clear hd M;have n0:=Z.c0;have y0:=Z.o.frozen 0;have n1:=Z.c1;have y1:=Z.o.frozen 1)
  |fail)
 have hE:Blk ((w2.setCell ⟨w.heap.size,0,none⟩ (.string ⟨v1.toArray⟩)).setCell ⟨w.heap.size,1,none⟩ (.string ⟨v2.toArray⟩)) w.heap.size 37 #[.string ⟨v1.toArray⟩,.string ⟨v2.toArray⟩]:=((Z.o.set 0 (.string ⟨v1.toArray⟩)).set 1 (.string ⟨v2.toArray⟩));have hp:=(AM (AM (World.grownBy.refl w2 (some w.heap.size)) (p:=⟨w.heap.size,0,none⟩) (.inl rfl) (.string ⟨v1.toArray⟩)) (p:=⟨w.heap.size,1,none⟩) (.inl rfl) (.string ⟨v2.toArray⟩));have hq:=Ao (P:=Tryz.prog) hE Tryz.underlying37 rfl (by kernel_rfl);refine bodyPost_ret (v:=.agg #[.string ⟨v1.toArray⟩,.string ⟨v2.toArray⟩]) ?_ ?_ ?_
 ·exact Au 2 37 ⟨w.heap.size,0,none⟩ Tryz.results168 rfl hq
 ·rfl
 exact⟨rfl,Da HC.o hp (by have:=aw.o;omega),Hj HG.o hp Ag⟩
theorem Ee (g:Nat) (c:Option L) (w:World) (h:Cur w g c) (hs:(c.getD []).length<=100000):Calls Tryz.prog 170 #[.pointer (some ⟨g,0,none⟩)] w fun e w'=>∃z3,e=.returned (.agg #[.string ⟨(tkQ c).1.s.1.toArray⟩,.string ⟨(tkQ c).1.s.2.toArray⟩,.int .i64 (tkQ c).1.k,z3])/\OwnB w' w.heap.size z3 (tkQ c).1.b/\Cur w' g (tkQ c).2/\w.grownBy w' (some g):=by
 obtain⟨W,eW⟩:=Ak (w.alloc (.cells #[.string ⟨#[]⟩,.string ⟨#[]⟩,.int .i64 0,.slice none 0 0] 122));have cj:W.heap.size=w.heap.size+1:=by rw[eW];simp
 have Z:=I (show Blk W w.heap.size 122 #[.string ⟨#[]⟩,.string ⟨#[]⟩,.int .i64 0,.slice none 0 0] by rw[eW];exact Blk.new _ _ _);have cg:=Df h;have ck:Cur W g c:=by rw[eW];exact h.alloc _
 have HG:=I (show w.grownBy W (some g) by rw[eW];exact DJ (World.grownBy.refl _ _) _);have c1:=GK 97 g c W ck (by omega);have bn:=FK 97 hs;obtain⟨s0,es0⟩:∃s,s=AN 97 c:=⟨_,rfl⟩;obtain⟨r,er⟩:∃s,s=Bc 97 c:=⟨_,rfl⟩;rw[<-es0] at c1 bn;rw[<-er] at c1;have bb:=I cg;have bz:(((prQ s0).2).getD []).length<=100000:=BV 48 bn;have T1:=I (fun g w h=>BO g s0 w h bn);obtain⟨v1,bB⟩:∃x:Pr,x=(prQ s0).1:=⟨_,rfl⟩;obtain⟨s1,aw⟩:∃s,s=(prQ s0).2:=⟨_,rfl⟩;rw[<-bB,<-aw] at T1;rw[<-aw] at bz;have ca:(((intC s1).2).getD []).length<=100000:=FL bz;have T2:=I (fun g w h=>BN g s1 w h (by omega));obtain⟨v2,bq⟩:∃x:Int,x=((intC s1).1:Int):=⟨_,rfl⟩;obtain⟨s2,es2⟩:∃s,s=(intC s1).2:=⟨_,rfl⟩;rw[<-bq,<-es2] at T2;rw[<-es2] at ca;have cf:((Bc 4 s2).getD []).length<=100000:=BV 4 ca;have T3:=I (fun g w h=>DT g s2 w h (by omega));obtain⟨v3,bs⟩:∃x:L,x=ocC s2:=⟨_,rfl⟩;obtain⟨s3,bx⟩:∃s,s=Bc 4 s2:=⟨_,rfl⟩;rw[<-bs,<-bx] at T3;rw[<-bx] at cf;have cb:=I (show(tkQ c).1.s=v1 by rw[bB,es0];rfl);have cd:=I (show(tkQ c).1.k=v2 by rw[bq,aw,es0];rfl);have cc:=I (show(tkQ c).1.b=v3 by rw[bs,es2,aw,es0];rfl);have FS:=I (show(tkQ c).2=r by rw[er];rfl);rw[cb.o,cd.o,cc.o,FS.o];clear h hs bn bz ca cf cb bB aw cd bq es2 cc bs bx es0 FS cg er ck;have cn:=I cj;clear cj;subst eW;go_enter Tryz.func170,Tryz.ntmps170
 go_wp2_with (first
  |(go_at_call 125;refine Calls.mono c1 ?_;rintro e wi ⟨⟨gd,rfl,cm,hd⟩,hc,O⟩;clear c1;have HD:=I hd;have HC:=I hc;have M:=I (show w.heap.size+1<=gd by have:=cn.o;omega);have av:=I (Df hd);replace Z:=I (Z.o.grown O (by intro e;injection e with e;have:=bb.o;omega));replace HG:=I (CZ HG.o O);clear cm hd hc O)
  |(go_at_call 168;(with_reducible refine Calls.mono (T1.o _ _ HD.o) ?_);rintro e w1 ⟨rfl,hd,O⟩;clear T1;replace HD:=I hd;replace Z:=I (Z.o.grown O (by intro e;injection e with e;have:=M.o;omega));replace HC:=I (Da HC.o O (by have:=M.o;have:=bb.o;omega));replace HG:=I (Hj HG.o O (by have:=M.o;omega));replace av:=I (Nat.lt_of_lt_of_le av.o O.size);clear hd O)
  |(go_at_call 169;(with_reducible refine Calls.mono (T2.o _ _ HD.o) ?_);rintro e w2 ⟨rfl,hd,O⟩;clear T2;replace HD:=I hd;replace Z:=I (Z.o.grown O (by intro e;injection e with e;have:=M.o;omega));replace HC:=I (Da HC.o O (by have:=M.o;have:=bb.o;omega));replace HG:=I (Hj HG.o O (by have:=M.o;omega));replace av:=I (Nat.lt_of_lt_of_le av.o O.size);clear hd O)
  |(go_at_call 171;(with_reducible refine Calls.mono (T3.o _ _ HD.o) ?_);rintro e w3 ⟨⟨y,rfl,ho⟩,hd,O⟩;clear T3;replace ho:=ho.less (show gd+1<=_ from av.o);obtain⟨b3,c3,rfl,x1,x2,x3,x4⟩:=ho;have cp:Hid (OwnB w3 (gd+1) (.slice (some ⟨b3,0,none⟩) _ c3) _):=I ⟨b3,c3,rfl,x1,x2,x3,x4⟩;clear x1 x2 x3 x4;replace HD:=I hd;replace Z:=I (Z.o.grown O (by intro e;injection e with e;have:=M.o;omega));replace HC:=I (Da HC.o O (by have:=M.o;have:=bb.o;omega));replace HG:=I (Hj HG.o O (by have:=M.o;omega));replace av:=I (Nat.lt_of_lt_of_le av.o O.size);clear hd O;have n0:=Z.c0;have y0:=Z.o.frozen 0;have n1:=Z.c1;have y1:=Z.o.frozen 1;have n2:=Z.c2;have y2:=Z.o.frozen 2;have n3:=Z.c3;have y3:=Z.o.frozen 3)
  |fail)
 have hE:Blk ((((w3.setCell ⟨w.heap.size,0,none⟩ (.string ⟨v1.1.toArray⟩)).setCell ⟨w.heap.size,1,none⟩ (.string ⟨v1.2.toArray⟩)).setCell ⟨w.heap.size,2,none⟩ (.int .i64 v2)).setCell ⟨w.heap.size,3,none⟩ (.slice (some ⟨b3,0,none⟩) v3.length c3)) w.heap.size 122 #[.string ⟨v1.1.toArray⟩,.string ⟨v1.2.toArray⟩,.int .i64 v2,.slice (some ⟨b3,0,none⟩) v3.length c3]:=((((Z.o.set 0 (.string ⟨v1.1.toArray⟩)).set 1 (.string ⟨v1.2.toArray⟩)).set 2 (.int .i64 v2)).set 3 (.slice (some ⟨b3,0,none⟩) v3.length c3));have hp:=(AM (AM (AM (AM (World.grownBy.refl w3 (some w.heap.size)) (p:=⟨w.heap.size,0,none⟩) (.inl rfl) (.string ⟨v1.1.toArray⟩)) (p:=⟨w.heap.size,1,none⟩) (.inl rfl) (.string ⟨v1.2.toArray⟩)) (p:=⟨w.heap.size,2,none⟩) (.inl rfl) (.int .i64 v2)) (p:=⟨w.heap.size,3,none⟩) (.inl rfl) (.slice (some ⟨b3,0,none⟩) v3.length c3));have hq:=Ao (P:=Tryz.prog) hE Tryz.underlying122 rfl (by kernel_rfl);refine bodyPost_ret (v:=.agg #[.string ⟨v1.1.toArray⟩,.string ⟨v1.2.toArray⟩,.int .i64 v2,.slice (some ⟨b3,0,none⟩) v3.length c3]) ?_ ?_ ?_
 ·exact Au 2 122 ⟨w.heap.size,0,none⟩ Tryz.results170 rfl hq
 ·rfl
 exact⟨_,rfl,(cp.o.keep hp (by have:=M.o;omega)).less (by have:=M.o;omega),Da HC.o hp (by have:=bb.o;omega),Hj HG.o hp Ag⟩
theorem Ri (g:Nat) (c:Option L) (w:World) (h:Cur w g c) (hs:(c.getD []).length<=100000):Calls Tryz.prog 126 #[.pointer (some ⟨g,0,none⟩)] w fun e w'=>e=.returned (.agg #[.string ⟨(asQ c).1.c.1.toArray⟩,.string ⟨(asQ c).1.c.2.toArray⟩,.string ⟨(asQ c).1.s.1.toArray⟩,.string ⟨(asQ c).1.s.2.toArray⟩,.int .i64 (asQ c).1.t,.int .i64 (asQ c).1.no])/\Cur w' g (asQ c).2/\w.grownBy w' (some g):=by
 obtain⟨W,eW⟩:=Ak (w.alloc (.cells #[.string ⟨#[]⟩,.string ⟨#[]⟩,.string ⟨#[]⟩,.string ⟨#[]⟩,.int .i64 0,.int .i64 0] 126));have cn:W.heap.size=w.heap.size+1:=by rw[eW];simp
 have M:=I (show Blk W w.heap.size 126 #[.string ⟨#[]⟩,.string ⟨#[]⟩,.string ⟨#[]⟩,.string ⟨#[]⟩,.int .i64 0,.int .i64 0] by rw[eW];exact Blk.new _ _ _);have cm:=Df h;have HC:=I (show Cur W g c by rw[eW];exact h.alloc _);have HG:=I (show w.grownBy W (some g) by rw[eW];exact DJ (World.grownBy.refl _ _) _);have bs:=hs;obtain⟨s0,es0⟩:∃s,s=c:=⟨_,rfl⟩;rw[<-es0] at HC bs;have aw:=I cm;have Z:=I (show w.heap.size<W.heap.size by omega);have bq:(((prQ s0).2).getD []).length<=100000:=BV 48 bs;have T1:=I (fun g w h=>BO g s0 w h bs);obtain⟨v1,cb⟩:∃x:Pr,x=(prQ s0).1:=⟨_,rfl⟩;obtain⟨s1,av⟩:∃s,s=(prQ s0).2:=⟨_,rfl⟩;rw[<-cb,<-av] at T1;rw[<-av] at bq;have cc:(((prQ s1).2).getD []).length<=100000:=BV 48 bq;have T2:=I (fun g w h=>BO g s1 w h bq);obtain⟨v2,bx⟩:∃x:Pr,x=(prQ s1).1:=⟨_,rfl⟩;obtain⟨s2,es2⟩:∃s,s=(prQ s1).2:=⟨_,rfl⟩;rw[<-bx,<-es2] at T2;rw[<-es2] at cc;have ca:(((intC s2).2).getD []).length<=100000:=FL cc;have T3:=I (fun g w h=>BN g s2 w h (by omega));obtain⟨v3,bB⟩:∃x:Int,x=((intC s2).1:Int):=⟨_,rfl⟩;obtain⟨s3,bb⟩:∃s,s=(intC s2).2:=⟨_,rfl⟩;rw[<-bB,<-bb] at T3;rw[<-bb] at ca;have cd:(((intC s3).2).getD []).length<=100000:=FL ca;have T4:=I (fun g w h=>BN g s3 w h (by omega));obtain⟨v4,bz⟩:∃x:Int,x=((intC s3).1:Int):=⟨_,rfl⟩;obtain⟨s4,bn⟩:∃s,s=(intC s3).2:=⟨_,rfl⟩;rw[<-bz,<-bn] at T4;rw[<-bn] at cd;have cf:=I (show(asQ c).1.c=v1 by rw[cb,es0];rfl);have ck:=I (show(asQ c).1.s=v2 by rw[bx,av,es0];rfl);have cj:=I (show(asQ c).1.t=v3 by rw[bB,es2,av,es0];rfl);have cg:=I (show(asQ c).1.no=v4 by rw[bz,bb,es2,av,es0];rfl);have FS:=I (show(asQ c).2=s4 by rw[bn,bb,es2,av,es0];rfl);rw[cf.o,ck.o,cj.o,cg.o,FS.o];clear h hs bs bq cc ca cd cf cb av ck bx es2 cj bB bb cg bz bn es0 FS cm;have cp:=I cn;clear cn;subst eW;go_enter Tryz.func126,Tryz.ntmps126
 go_wp2_with (first
  |(go_at_call 168;(with_reducible refine Calls.mono (T1.o _ _ HC.o) ?_);rintro e w1 ⟨rfl,hd,O⟩;clear T1;replace HC:=I hd;replace M:=I (M.o.grown O (by intro e;injection e with e;have:=aw.o;omega));replace HG:=I (CZ HG.o O);replace Z:=I (Nat.lt_of_lt_of_le Z.o O.size);clear hd O)
  |(go_at_call 168;(with_reducible refine Calls.mono (T2.o _ _ HC.o) ?_);rintro e w2 ⟨rfl,hd,O⟩;clear T2;replace HC:=I hd;replace M:=I (M.o.grown O (by intro e;injection e with e;have:=aw.o;omega));replace HG:=I (CZ HG.o O);replace Z:=I (Nat.lt_of_lt_of_le Z.o O.size);clear hd O)
  |(go_at_call 169;(with_reducible refine Calls.mono (T3.o _ _ HC.o) ?_);rintro e w3 ⟨rfl,hd,O⟩;clear T3;replace HC:=I hd;replace M:=I (M.o.grown O (by intro e;injection e with e;have:=aw.o;omega));replace HG:=I (CZ HG.o O);replace Z:=I (Nat.lt_of_lt_of_le Z.o O.size);clear hd O)
  |(go_at_call 169;(with_reducible refine Calls.mono (T4.o _ _ HC.o) ?_);rintro e w4 ⟨rfl,hd,O⟩;clear T4;replace HC:=I hd;replace M:=I (M.o.grown O (by intro e;injection e with e;have:=aw.o;omega));replace HG:=I (CZ HG.o O);replace Z:=I (Nat.lt_of_lt_of_le Z.o O.size);clear hd O;have n0:=M.c0;have y0:=M.o.frozen 0;have n1:=M.c1;have y1:=M.o.frozen 1;have n2:=M.c2;have y2:=M.o.frozen 2;have n3:=M.c3;have y3:=M.o.frozen 3;have n4:=M.c4;have y4:=M.o.frozen 4;have n5:=M.c5;have y5:=M.o.frozen 5)
  |fail)
 have hE:Blk ((((((w4.setCell ⟨w.heap.size,0,none⟩ (.string ⟨v1.1.toArray⟩)).setCell ⟨w.heap.size,1,none⟩ (.string ⟨v1.2.toArray⟩)).setCell ⟨w.heap.size,2,none⟩ (.string ⟨v2.1.toArray⟩)).setCell ⟨w.heap.size,3,none⟩ (.string ⟨v2.2.toArray⟩)).setCell ⟨w.heap.size,4,none⟩ (.int .i64 v3)).setCell ⟨w.heap.size,5,none⟩ (.int .i64 v4)) w.heap.size 126 #[.string ⟨v1.1.toArray⟩,.string ⟨v1.2.toArray⟩,.string ⟨v2.1.toArray⟩,.string ⟨v2.2.toArray⟩,.int .i64 v3,.int .i64 v4]:=((((((M.o.set 0 (.string ⟨v1.1.toArray⟩)).set 1 (.string ⟨v1.2.toArray⟩)).set 2 (.string ⟨v2.1.toArray⟩)).set 3 (.string ⟨v2.2.toArray⟩)).set 4 (.int .i64 v3)).set 5 (.int .i64 v4));have hp:=(AM (AM (AM (AM (AM (AM (World.grownBy.refl w4 (some w.heap.size)) (p:=⟨w.heap.size,0,none⟩) (.inl rfl) (.string ⟨v1.1.toArray⟩)) (p:=⟨w.heap.size,1,none⟩) (.inl rfl) (.string ⟨v1.2.toArray⟩)) (p:=⟨w.heap.size,2,none⟩) (.inl rfl) (.string ⟨v2.1.toArray⟩)) (p:=⟨w.heap.size,3,none⟩) (.inl rfl) (.string ⟨v2.2.toArray⟩)) (p:=⟨w.heap.size,4,none⟩) (.inl rfl) (.int .i64 v3)) (p:=⟨w.heap.size,5,none⟩) (.inl rfl) (.int .i64 v4));have hq:=Ao (P:=Tryz.prog) hE Tryz.underlying126 rfl (by kernel_rfl);refine bodyPost_ret (v:=.agg #[.string ⟨v1.1.toArray⟩,.string ⟨v1.2.toArray⟩,.string ⟨v2.1.toArray⟩,.string ⟨v2.2.toArray⟩,.int .i64 v3,.int .i64 v4]) ?_ ?_ ?_
 ·exact Au 2 126 ⟨w.heap.size,0,none⟩ Tryz.results126 rfl hq
 ·rfl
 exact⟨rfl,Da HC.o hp (by have:=aw.o;omega),Hj HG.o hp Ag⟩
theorem Rj (g:Nat) (c:Option L) (w:World) (h:Cur w g c) (hs:(c.getD []).length<=100000):Calls Tryz.prog 128 #[.pointer (some ⟨g,0,none⟩)] w fun e w'=>∃z2,∃z3,e=.returned (.agg #[.string ⟨(reQ c).1.c.1.toArray⟩,.string ⟨(reQ c).1.c.2.toArray⟩,.string ⟨(reQ c).1.t.s.1.toArray⟩,.string ⟨(reQ c).1.t.s.2.toArray⟩,.int .i64 (reQ c).1.t.k,z2,z3])/\OwnB w' w.heap.size z2 (reQ c).1.t.b/\OwnB w' w.heap.size z3 (reQ c).1.b/\Cur w' g (reQ c).2/\w.grownBy w' (some g):=by
 obtain⟨W,eW⟩:=Ak (w.alloc (.cells #[.string ⟨#[]⟩,.string ⟨#[]⟩,.string ⟨#[]⟩,.string ⟨#[]⟩,.int .i64 0,.slice none 0 0,.slice none 0 0] 130));have cj:W.heap.size=w.heap.size+1:=by rw[eW];simp
 have M:=I (show Blk W w.heap.size 130 #[.string ⟨#[]⟩,.string ⟨#[]⟩,.string ⟨#[]⟩,.string ⟨#[]⟩,.int .i64 0,.slice none 0 0,.slice none 0 0] by rw[eW];exact Blk.new _ _ _);have cg:=Df h;have HC:=I (show Cur W g c by rw[eW];exact h.alloc _);have HG:=I (show w.grownBy W (some g) by rw[eW];exact DJ (World.grownBy.refl _ _) _);have bq:=hs;obtain⟨s0,es0⟩:∃s,s=c:=⟨_,rfl⟩;rw[<-es0] at HC bq;have aw:=I cg;have O:=I (show w.heap.size<W.heap.size by omega);have bn:(((prQ s0).2).getD []).length<=100000:=BV 48 bq;have T1:=I (fun g w h=>BO g s0 w h bq);obtain⟨v1,bB⟩:∃x:Pr,x=(prQ s0).1:=⟨_,rfl⟩;obtain⟨s1,av⟩:∃s,s=(prQ s0).2:=⟨_,rfl⟩;rw[<-bB,<-av] at T1;rw[<-av] at bn;have ca:(((tkQ s1).2).getD []).length<=100000:=BV 97 bn;have T2:=I (fun g w h=>Ee g s1 w h bn);obtain⟨v2,bs⟩:∃x:Tk,x=(tkQ s1).1:=⟨_,rfl⟩;obtain⟨s2,es2⟩:∃s,s=(tkQ s1).2:=⟨_,rfl⟩;rw[<-bs,<-es2] at T2;rw[<-es2] at ca;have cf:((Bc 4 s2).getD []).length<=100000:=BV 4 ca;have T3:=I (fun g w h=>DT g s2 w h (by omega));obtain⟨v3,bz⟩:∃x:L,x=ocC s2:=⟨_,rfl⟩;obtain⟨s3,bb⟩:∃s,s=Bc 4 s2:=⟨_,rfl⟩;rw[<-bz,<-bb] at T3;rw[<-bb] at cf;have cb:=I (show(reQ c).1.c=v1 by rw[bB,es0];rfl);have cd:=I (show(reQ c).1.t=v2 by rw[bs,av,es0];rfl);have cc:=I (show(reQ c).1.b=v3 by rw[bz,es2,av,es0];rfl);have FS:=I (show(reQ c).2=s3 by rw[bb,es2,av,es0];rfl);rw[cb.o,cd.o,cc.o,FS.o];clear h hs bq bn ca cf cb bB av cd bs es2 cc bz bb es0 FS cg;have cm:=I cj;clear cj;subst eW;go_enter Tryz.func128,Tryz.ntmps128
 go_wp2_with (first
  |(go_at_call 168;(with_reducible refine Calls.mono (T1.o _ _ HC.o) ?_);rintro e w1 ⟨rfl,hd,Z⟩;clear T1;replace HC:=I hd;replace M:=I (M.o.grown Z (by intro e;injection e with e;have:=aw.o;omega));replace HG:=I (CZ HG.o Z);replace O:=I (Nat.lt_of_lt_of_le O.o Z.size);clear hd Z)
  |(go_at_call 170;(with_reducible refine Calls.mono (T2.o _ _ HC.o) ?_);rintro e w2 ⟨y,rfl,ho,hd,Z⟩;clear T2;replace ho:=ho.less (show w.heap.size+1<=_ from O.o);obtain⟨b2,c2,rfl,x1,x2,x3,x4⟩:=ho;have bx:Hid (OwnB w2 (w.heap.size+1) (.slice (some ⟨b2,0,none⟩) _ c2) _):=I ⟨b2,c2,rfl,x1,x2,x3,x4⟩;clear x1 x2 x3 x4;replace HC:=I hd;replace M:=I (M.o.grown Z (by intro e;injection e with e;have:=aw.o;omega));replace HG:=I (CZ HG.o Z);replace O:=I (Nat.lt_of_lt_of_le O.o Z.size);clear hd Z)
  |(go_at_call 171;(with_reducible refine Calls.mono (T3.o _ _ HC.o) ?_);rintro e w3 ⟨⟨y,rfl,ho⟩,hd,Z⟩;clear T3;replace ho:=ho.less (show w.heap.size+1<=_ from O.o);obtain⟨b3,c3,rfl,x1,x2,x3,x4⟩:=ho;have ck:Hid (OwnB w3 (w.heap.size+1) (.slice (some ⟨b3,0,none⟩) _ c3) _):=I ⟨b3,c3,rfl,x1,x2,x3,x4⟩;clear x1 x2 x3 x4;replace HC:=I hd;replace bx:=I (bx.o.keep Z (by have:=aw.o;omega));replace M:=I (M.o.grown Z (by intro e;injection e with e;have:=aw.o;omega));replace HG:=I (CZ HG.o Z);replace O:=I (Nat.lt_of_lt_of_le O.o Z.size);clear hd Z;have n0:=M.c0;have y0:=M.o.frozen 0;have n1:=M.c1;have y1:=M.o.frozen 1;have n2:=M.c2;have y2:=M.o.frozen 2;have n3:=M.c3;have y3:=M.o.frozen 3;have n4:=M.c4;have y4:=M.o.frozen 4;have n5:=M.c5;have y5:=M.o.frozen 5;have n6:=M.c6;have y6:=M.o.frozen 6)
  |fail)
 have hE:Blk (((((((w3.setCell ⟨w.heap.size,0,none⟩ (.string ⟨v1.1.toArray⟩)).setCell ⟨w.heap.size,1,none⟩ (.string ⟨v1.2.toArray⟩)).setCell ⟨w.heap.size,2,none⟩ (.string ⟨v2.s.1.toArray⟩)).setCell ⟨w.heap.size,3,none⟩ (.string ⟨v2.s.2.toArray⟩)).setCell ⟨w.heap.size,4,none⟩ (.int .i64 v2.k)).setCell ⟨w.heap.size,5,none⟩ (.slice (some ⟨b2,0,none⟩) v2.b.length c2)).setCell ⟨w.heap.size,6,none⟩ (.slice (some ⟨b3,0,none⟩) v3.length c3)) w.heap.size 130 #[.string ⟨v1.1.toArray⟩,.string ⟨v1.2.toArray⟩,.string ⟨v2.s.1.toArray⟩,.string ⟨v2.s.2.toArray⟩,.int .i64 v2.k,.slice (some ⟨b2,0,none⟩) v2.b.length c2,.slice (some ⟨b3,0,none⟩) v3.length c3]:=(((((((M.o.set 0 (.string ⟨v1.1.toArray⟩)).set 1 (.string ⟨v1.2.toArray⟩)).set 2 (.string ⟨v2.s.1.toArray⟩)).set 3 (.string ⟨v2.s.2.toArray⟩)).set 4 (.int .i64 v2.k)).set 5 (.slice (some ⟨b2,0,none⟩) v2.b.length c2)).set 6 (.slice (some ⟨b3,0,none⟩) v3.length c3));have hp:=(AM (AM (AM (AM (AM (AM (AM (World.grownBy.refl w3 (some w.heap.size)) (p:=⟨w.heap.size,0,none⟩) (.inl rfl) (.string ⟨v1.1.toArray⟩)) (p:=⟨w.heap.size,1,none⟩) (.inl rfl) (.string ⟨v1.2.toArray⟩)) (p:=⟨w.heap.size,2,none⟩) (.inl rfl) (.string ⟨v2.s.1.toArray⟩)) (p:=⟨w.heap.size,3,none⟩) (.inl rfl) (.string ⟨v2.s.2.toArray⟩)) (p:=⟨w.heap.size,4,none⟩) (.inl rfl) (.int .i64 v2.k)) (p:=⟨w.heap.size,5,none⟩) (.inl rfl) (.slice (some ⟨b2,0,none⟩) v2.b.length c2)) (p:=⟨w.heap.size,6,none⟩) (.inl rfl) (.slice (some ⟨b3,0,none⟩) v3.length c3));have hq:=Ao (P:=Tryz.prog) hE Tryz.underlying130 rfl (by kernel_rfl);refine bodyPost_ret (v:=.agg #[.string ⟨v1.1.toArray⟩,.string ⟨v1.2.toArray⟩,.string ⟨v2.s.1.toArray⟩,.string ⟨v2.s.2.toArray⟩,.int .i64 v2.k,.slice (some ⟨b2,0,none⟩) v2.b.length c2,.slice (some ⟨b3,0,none⟩) v3.length c3]) ?_ ?_ ?_
 ·exact Au 2 130 ⟨w.heap.size,0,none⟩ Tryz.results128 rfl hq
 ·rfl
 exact⟨_,_,rfl,(bx.o.keep hp (by omega)).less (by omega),(ck.o.keep hp (by omega)).less (by omega),Da HC.o hp (by have:=aw.o;omega),Hj HG.o hp Ag⟩
theorem Rk (g:Nat) (c:Option L) (w:World) (h:Cur w g c) (hs:(c.getD []).length<=100000):Calls Tryz.prog 129 #[.pointer (some ⟨g,0,none⟩)] w fun e w'=>∃z1,∃z2,e=.returned (.agg #[.string ⟨(apQ c).1.t.s.1.toArray⟩,.string ⟨(apQ c).1.t.s.2.toArray⟩,.int .i64 (apQ c).1.t.k,z1,z2])/\OwnB w' w.heap.size z1 (apQ c).1.t.b/\OwnB w' w.heap.size z2 (apQ c).1.a/\Cur w' g (apQ c).2/\w.grownBy w' (some g):=by
 obtain⟨W,eW⟩:=Ak (w.alloc (.cells #[.string ⟨#[]⟩,.string ⟨#[]⟩,.int .i64 0,.slice none 0 0,.slice none 0 0] 124));have cb:W.heap.size=w.heap.size+1:=by rw[eW];simp
 have M:=I (show Blk W w.heap.size 124 #[.string ⟨#[]⟩,.string ⟨#[]⟩,.int .i64 0,.slice none 0 0,.slice none 0 0] by rw[eW];exact Blk.new _ _ _);have ca:=Df h;have HC:=I (show Cur W g c by rw[eW];exact h.alloc _);have HG:=I (show w.grownBy W (some g) by rw[eW];exact DJ (World.grownBy.refl _ _) _);have aw:=hs;obtain⟨s0,es0⟩:∃s,s=c:=⟨_,rfl⟩;rw[<-es0] at HC aw;have av:=I ca;have O:=I (show w.heap.size<W.heap.size by omega);have bn:(((tkQ s0).2).getD []).length<=100000:=BV 97 aw;have T1:=I (fun g w h=>Ee g s0 w h aw);obtain⟨v1,bs⟩:∃x:Tk,x=(tkQ s0).1:=⟨_,rfl⟩;obtain⟨s1,Z⟩:∃s,s=(tkQ s0).2:=⟨_,rfl⟩;rw[<-bs,<-Z] at T1;rw[<-Z] at bn;have bz:((Bc 4 s1).getD []).length<=100000:=BV 4 bn;have T2:=I (fun g w h=>DT g s1 w h (by omega));obtain⟨v2,bb⟩:∃x:L,x=ocC s1:=⟨_,rfl⟩;obtain⟨s2,es2⟩:∃s,s=Bc 4 s1:=⟨_,rfl⟩;rw[<-bb,<-es2] at T2;rw[<-es2] at bz;have bx:=I (show(apQ c).1.t=v1 by rw[bs,es0];rfl);have bB:=I (show(apQ c).1.a=v2 by rw[bb,Z,es0];rfl);have FS:=I (show(apQ c).2=s2 by rw[es2,Z,es0];rfl);rw[bx.o,bB.o,FS.o];clear h hs aw bn bz bx bs Z bB bb es2 es0 FS ca;have cd:=I cb;clear cb;subst eW;go_enter Tryz.func129,Tryz.ntmps129
 go_wp2_with (first
  |(go_at_call 170;(with_reducible refine Calls.mono (T1.o _ _ HC.o) ?_);rintro e w1 ⟨y,rfl,ho,hd,hg⟩;clear T1;replace ho:=ho.less (show w.heap.size+1<=_ from O.o);obtain⟨b1,c1,rfl,x1,x2,x3,x4⟩:=ho;have bq:Hid (OwnB w1 (w.heap.size+1) (.slice (some ⟨b1,0,none⟩) _ c1) _):=I ⟨b1,c1,rfl,x1,x2,x3,x4⟩;clear x1 x2 x3 x4;replace HC:=I hd;replace M:=I (M.o.grown hg (by intro e;injection e with e;have:=av.o;omega));replace HG:=I (CZ HG.o hg);replace O:=I (Nat.lt_of_lt_of_le O.o hg.size);clear hd hg)
  |(go_at_call 171;(with_reducible refine Calls.mono (T2.o _ _ HC.o) ?_);rintro e w2 ⟨⟨y,rfl,ho⟩,hd,hg⟩;clear T2;replace ho:=ho.less (show w.heap.size+1<=_ from O.o);obtain⟨b2,c2,rfl,x1,x2,x3,x4⟩:=ho;have cc:Hid (OwnB w2 (w.heap.size+1) (.slice (some ⟨b2,0,none⟩) _ c2) _):=I ⟨b2,c2,rfl,x1,x2,x3,x4⟩;clear x1 x2 x3 x4;replace HC:=I hd;replace bq:=I (bq.o.keep hg (by have:=av.o;omega));replace M:=I (M.o.grown hg (by intro e;injection e with e;have:=av.o;omega));replace HG:=I (CZ HG.o hg);replace O:=I (Nat.lt_of_lt_of_le O.o hg.size);clear hd hg;have n0:=M.c0;have y0:=M.o.frozen 0;have n1:=M.c1;have y1:=M.o.frozen 1;have n2:=M.c2;have y2:=M.o.frozen 2;have n3:=M.c3;have y3:=M.o.frozen 3;have n4:=M.c4;have y4:=M.o.frozen 4)
  |fail)
 have hE:Blk (((((w2.setCell ⟨w.heap.size,0,none⟩ (.string ⟨v1.s.1.toArray⟩)).setCell ⟨w.heap.size,1,none⟩ (.string ⟨v1.s.2.toArray⟩)).setCell ⟨w.heap.size,2,none⟩ (.int .i64 v1.k)).setCell ⟨w.heap.size,3,none⟩ (.slice (some ⟨b1,0,none⟩) v1.b.length c1)).setCell ⟨w.heap.size,4,none⟩ (.slice (some ⟨b2,0,none⟩) v2.length c2)) w.heap.size 124 #[.string ⟨v1.s.1.toArray⟩,.string ⟨v1.s.2.toArray⟩,.int .i64 v1.k,.slice (some ⟨b1,0,none⟩) v1.b.length c1,.slice (some ⟨b2,0,none⟩) v2.length c2]:=(((((M.o.set 0 (.string ⟨v1.s.1.toArray⟩)).set 1 (.string ⟨v1.s.2.toArray⟩)).set 2 (.int .i64 v1.k)).set 3 (.slice (some ⟨b1,0,none⟩) v1.b.length c1)).set 4 (.slice (some ⟨b2,0,none⟩) v2.length c2));have hp:=(AM (AM (AM (AM (AM (World.grownBy.refl w2 (some w.heap.size)) (p:=⟨w.heap.size,0,none⟩) (.inl rfl) (.string ⟨v1.s.1.toArray⟩)) (p:=⟨w.heap.size,1,none⟩) (.inl rfl) (.string ⟨v1.s.2.toArray⟩)) (p:=⟨w.heap.size,2,none⟩) (.inl rfl) (.int .i64 v1.k)) (p:=⟨w.heap.size,3,none⟩) (.inl rfl) (.slice (some ⟨b1,0,none⟩) v1.b.length c1)) (p:=⟨w.heap.size,4,none⟩) (.inl rfl) (.slice (some ⟨b2,0,none⟩) v2.length c2));have hq:=Ao (P:=Tryz.prog) hE Tryz.underlying124 rfl (by kernel_rfl);refine bodyPost_ret (v:=.agg #[.string ⟨v1.s.1.toArray⟩,.string ⟨v1.s.2.toArray⟩,.int .i64 v1.k,.slice (some ⟨b1,0,none⟩) v1.b.length c1,.slice (some ⟨b2,0,none⟩) v2.length c2]) ?_ ?_ ?_
 ·exact Au 2 124 ⟨w.heap.size,0,none⟩ Tryz.results129 rfl hq
 ·rfl
 exact⟨_,_,rfl,(bq.o.keep hp (by omega)).less (by omega),(cc.o.keep hp (by omega)).less (by omega),Da HC.o hp (by have:=av.o;omega),Hj HG.o hp Ag⟩
theorem Rl (g:Nat) (c:Option L) (w:World) (h:Cur w g c) (hs:(c.getD []).length<=100000):Calls Tryz.prog 130 #[.pointer (some ⟨g,0,none⟩)] w fun e w'=>e=.returned (.agg #[.int .i64 (faQ c).1.e,.int .i64 (faQ c).1.no])/\Cur w' g (faQ c).2/\w.grownBy w' (some g):=by
 obtain⟨W,eW⟩:=Ak (w.alloc (.cells #[.int .i64 0,.int .i64 0] 132));have bB:W.heap.size=w.heap.size+1:=by rw[eW];simp
 have Z:=I (show Blk W w.heap.size 132 #[.int .i64 0,.int .i64 0] by rw[eW];exact Blk.new _ _ _);have bz:=Df h;have HC:=I (show Cur W g c by rw[eW];exact h.alloc _);have HG:=I (show w.grownBy W (some g) by rw[eW];exact DJ (World.grownBy.refl _ _) _);have bb:=hs;obtain⟨s0,es0⟩:∃s,s=c:=⟨_,rfl⟩;rw[<-es0] at HC bb;have bn:=I bz;have O:=I (show w.heap.size<W.heap.size by omega);have aw:(((intC s0).2).getD []).length<=100000:=FL bb;have T1:=I (fun g w h=>BN g s0 w h (by omega));obtain⟨v1,bq⟩:∃x:Int,x=((intC s0).1:Int):=⟨_,rfl⟩;obtain⟨s1,M⟩:∃s,s=(intC s0).2:=⟨_,rfl⟩;rw[<-bq,<-M] at T1;rw[<-M] at aw;have ca:(((intC s1).2).getD []).length<=100000:=FL aw;have T2:=I (fun g w h=>BN g s1 w h (by omega));obtain⟨v2,av⟩:∃x:Int,x=((intC s1).1:Int):=⟨_,rfl⟩;obtain⟨s2,es2⟩:∃s,s=(intC s1).2:=⟨_,rfl⟩;rw[<-av,<-es2] at T2;rw[<-es2] at ca;have bs:=I (show(faQ c).1.e=v1 by rw[bq,es0];rfl);have bx:=I (show(faQ c).1.no=v2 by rw[av,M,es0];rfl);have FS:=I (show(faQ c).2=s2 by rw[es2,M,es0];rfl);rw[bs.o,bx.o,FS.o];clear h hs bb aw ca bs bq M bx av es2 es0 FS bz;have cb:=I bB;clear bB;subst eW;go_enter Tryz.func130,Tryz.ntmps130
 go_wp2_with (first
  |(go_at_call 169;(with_reducible refine Calls.mono (T1.o _ _ HC.o) ?_);rintro e w1 ⟨rfl,hd,hg⟩;clear T1;replace HC:=I hd;replace Z:=I (Z.o.grown hg (by intro e;injection e with e;have:=bn.o;omega));replace HG:=I (CZ HG.o hg);replace O:=I (Nat.lt_of_lt_of_le O.o hg.size);clear hd hg)
  |(go_at_call 169;(with_reducible refine Calls.mono (T2.o _ _ HC.o) ?_);rintro e w2 ⟨rfl,hd,hg⟩;clear T2;replace HC:=I hd;replace Z:=I (Z.o.grown hg (by intro e;injection e with e;have:=bn.o;omega));replace HG:=I (CZ HG.o hg);replace O:=I (Nat.lt_of_lt_of_le O.o hg.size);clear hd hg;have n0:=Z.c0;have y0:=Z.o.frozen 0;have n1:=Z.c1;have y1:=Z.o.frozen 1)
  |fail)
 have hE:Blk ((w2.setCell ⟨w.heap.size,0,none⟩ (.int .i64 v1)).setCell ⟨w.heap.size,1,none⟩ (.int .i64 v2)) w.heap.size 132 #[.int .i64 v1,.int .i64 v2]:=((Z.o.set 0 (.int .i64 v1)).set 1 (.int .i64 v2));have hp:=(AM (AM (World.grownBy.refl w2 (some w.heap.size)) (p:=⟨w.heap.size,0,none⟩) (.inl rfl) (.int .i64 v1)) (p:=⟨w.heap.size,1,none⟩) (.inl rfl) (.int .i64 v2));have hq:=Ao (P:=Tryz.prog) hE Tryz.underlying132 rfl (by kernel_rfl);refine bodyPost_ret (v:=.agg #[.int .i64 v1,.int .i64 v2]) ?_ ?_ ?_
 ·exact Au 2 132 ⟨w.heap.size,0,none⟩ Tryz.results130 rfl hq
 ·rfl
 exact⟨rfl,Da HC.o hp (by have:=bn.o;omega),Hj HG.o hp Ag⟩
theorem Rm (A:Option Addr) (b:L) (cap:Nat) (w:World) (h:Rd w w.heap.size A (bvs b)) (hs:b.length<=100000):Calls Tryz.prog 142 #[.slice A b.length cap] w fun e w'=>e=.returned (.agg #[.string ⟨(anQ b).1.c.1.toArray⟩,.string ⟨(anQ b).1.c.2.toArray⟩,.int .i64 (anQ b).1.t,.int .i64 (anQ b).1.q])/\Below w.heap.size w w':=by
 obtain⟨W,eW⟩:=Ak (w.alloc (.cells #[.string ⟨#[]⟩,.string ⟨#[]⟩,.int .i64 0,.int .i64 0] 47));have ck:W.heap.size=w.heap.size+1:=by rw[eW];simp
 have M:=I (show Blk W w.heap.size 47 #[.string ⟨#[]⟩,.string ⟨#[]⟩,.int .i64 0,.int .i64 0] by rw[eW];exact Blk.new _ _ _);have HG:=I (show Below w.heap.size w W by rw[eW];exact Ah.alloc Ag _);have c0:=La w.heap.size A b b.length cap W (by rw[eW];exact h.alloc Ag _) rfl;have c1:=I (fun g w h=>GK 98 g (some b) w h (by show((b.length:Int))<=100000;omega));have aw:((AN 98 (some b)).getD []).length<=100000:=FK 98 (show((some b:Option L).getD []).length<=100000 from hs);obtain⟨s0,es0⟩:∃s,s=AN 98 (some b):=⟨_,rfl⟩;rw[<-es0] at c1 aw;have bB:(((prQ s0).2).getD []).length<=100000:=BV 48 aw;have T1:=I (fun g w h=>BO g s0 w h aw);obtain⟨v1,ca⟩:∃x:Pr,x=(prQ s0).1:=⟨_,rfl⟩;obtain⟨s1,av⟩:∃s,s=(prQ s0).2:=⟨_,rfl⟩;rw[<-ca,<-av] at T1;rw[<-av] at bB;have cb:(((intC s1).2).getD []).length<=100000:=FL bB;have T2:=I (fun g w h=>BN g s1 w h (by omega));obtain⟨v2,bb⟩:∃x:Int,x=((intC s1).1:Int):=⟨_,rfl⟩;obtain⟨s2,es2⟩:∃s,s=(intC s1).2:=⟨_,rfl⟩;rw[<-bb,<-es2] at T2;rw[<-es2] at cb;have cj:(((intC s2).2).getD []).length<=100000:=FL cb;have T3:=I (fun g w h=>BN g s2 w h (by omega));obtain⟨v3,bs⟩:∃x:Int,x=((intC s2).1:Int):=⟨_,rfl⟩;obtain⟨s3,bx⟩:∃s,s=(intC s2).2:=⟨_,rfl⟩;rw[<-bs,<-bx] at T3;rw[<-bx] at cj;have cc:=I (show(anQ b).1.c=v1 by rw[ca,es0];rfl);have cg:=I (show(anQ b).1.t=v2 by rw[bb,av,es0];rfl);have cf:=I (show(anQ b).1.q=v3 by rw[bs,es2,av,es0];rfl);rw[cc.o,cg.o,cf.o];clear h hs aw bB cb cj cc ca av cg bb es2 cf bs bx es0;have bn:=I ck;clear ck;subst eW;go_enter Tryz.func142,Tryz.ntmps142
 go_wp2_with (first
  |(go_at_call 124;refine Calls.mono c0 ?_;rintro e wo ⟨go,rfl,cn,cd,hb⟩;clear c0;have HC:=I cd;have bz:=I (show w.heap.size+1<=go by have:=bn.o;omega);replace M:=I (M.o.below hb);replace HG:=I (Hn HG.o (by have:=bn.o;omega) hb);have bq:=I (show w.heap.size+1<=wo.heap.size by have:=hb.size;have:=bn.o;omega);clear cn cd hb)
  |(go_at_call 125;refine Calls.mono (c1.o _ _ HC.o) ?_;rintro e wi ⟨⟨gd,rfl,cm,hd⟩,hc,hg⟩;clear c1 HC;have HD:=I hd;have O:=I (show w.heap.size+1<=gd by have:=bq.o;omega);have Z:=I (Df hd);replace M:=I (M.o.grown hg (by intro e;injection e with e;have:=bz.o;omega));replace HG:=I (Az HG.o hg (by have:=bq.o;omega) (by have:=bz.o;omega));clear cm hd hc hg bq bz)
  |(go_at_call 168;(with_reducible refine Calls.mono (T1.o _ _ HD.o) ?_);rintro e w1 ⟨rfl,hd,hg⟩;clear T1;replace HD:=I hd;replace M:=I (M.o.grown hg (by intro e;injection e with e;have:=O.o;omega));replace HG:=I (Az HG.o hg (by have:=O.o;have:=Z.o;omega) (by have:=O.o;omega));replace Z:=I (Nat.lt_of_lt_of_le Z.o hg.size);clear hd hg)
  |(go_at_call 169;(with_reducible refine Calls.mono (T2.o _ _ HD.o) ?_);rintro e w2 ⟨rfl,hd,hg⟩;clear T2;replace HD:=I hd;replace M:=I (M.o.grown hg (by intro e;injection e with e;have:=O.o;omega));replace HG:=I (Az HG.o hg (by have:=O.o;have:=Z.o;omega) (by have:=O.o;omega));replace Z:=I (Nat.lt_of_lt_of_le Z.o hg.size);clear hd hg)
  |(go_at_call 169;(with_reducible refine Calls.mono (T3.o _ _ HD.o) ?_);rintro e w3 ⟨rfl,hd,hg⟩;clear T3;replace HD:=I hd;replace M:=I (M.o.grown hg (by intro e;injection e with e;have:=O.o;omega));replace HG:=I (Az HG.o hg (by have:=O.o;have:=Z.o;omega) (by have:=O.o;omega));replace Z:=I (Nat.lt_of_lt_of_le Z.o hg.size);clear hd hg;have n0:=M.c0;have y0:=M.o.frozen 0;have n1:=M.c1;have y1:=M.o.frozen 1;have n2:=M.c2;have y2:=M.o.frozen 2;have n3:=M.c3;have y3:=M.o.frozen 3)
  |fail)
 have hE:Blk ((((w3.setCell ⟨w.heap.size,0,none⟩ (.string ⟨v1.1.toArray⟩)).setCell ⟨w.heap.size,1,none⟩ (.string ⟨v1.2.toArray⟩)).setCell ⟨w.heap.size,2,none⟩ (.int .i64 v2)).setCell ⟨w.heap.size,3,none⟩ (.int .i64 v3)) w.heap.size 47 #[.string ⟨v1.1.toArray⟩,.string ⟨v1.2.toArray⟩,.int .i64 v2,.int .i64 v3]:=((((M.o.set 0 (.string ⟨v1.1.toArray⟩)).set 1 (.string ⟨v1.2.toArray⟩)).set 2 (.int .i64 v2)).set 3 (.int .i64 v3));have hp:=(AM (AM (AM (AM (World.grownBy.refl w3 (some w.heap.size)) (p:=⟨w.heap.size,0,none⟩) (.inl rfl) (.string ⟨v1.1.toArray⟩)) (p:=⟨w.heap.size,1,none⟩) (.inl rfl) (.string ⟨v1.2.toArray⟩)) (p:=⟨w.heap.size,2,none⟩) (.inl rfl) (.int .i64 v2)) (p:=⟨w.heap.size,3,none⟩) (.inl rfl) (.int .i64 v3));have hq:=Ao (P:=Tryz.prog) hE Tryz.underlying47 rfl (by kernel_rfl);refine bodyPost_ret (v:=.agg #[.string ⟨v1.1.toArray⟩,.string ⟨v1.2.toArray⟩,.int .i64 v2,.int .i64 v3]) ?_ ?_ ?_
 ·exact Au 2 47 ⟨w.heap.size,0,none⟩ Tryz.results142 rfl hq
 ·rfl
 exact⟨rfl,Az HG.o hp (by have:=M.o.lt;omega) Ag⟩
theorem aS:(Tryz.prog.info? 5).map (·.size)=some 1:=by kernel_rfl
theorem IN:(Tryz.prog.info? 39).map (·.size)=some 32:=by kernel_rfl
theorem bvs_one' (l:L):(bvs l).toArray.all (·.oneCell')=true:=all_oneCell_toArray (BA l)
theorem Ro {W:World} {K b c:Nat} {t:TypeId} {x:L} (h:Blk W K t (bvs key0).toArray) (Z:∀i u,(bvs x)[i]? = some u->W.cell? ⟨b,i,none⟩=some u) :
  (Builtin.copy_ #[33,33] 3 #[.slice (some ⟨K,0,none⟩) 32 32,.slice (some ⟨b,0,none⟩) x.length c]).run Tryz.prog W=.ok (goInt (bvs (x.take 32)).length) (W.setCells K 0 (bvs (x.take 32))):=by
 refine run_copy_cells (P:=Tryz.prog) W 33 33 3 5 K 0 32 32 ⟨b,0,none⟩ x.length c (bvs (x.take 32)) Tryz.underlying33 aS ?_ ?_ ?_ ?_ (BA _)
 ·rw[AG,List.length_take];exact Nat.min_comm _ _
 ·intro j v O
  rw[addr_add,Nat.zero_add];apply Z;have M:j<(bvs (x.take 32)).length:=(List.getElem?_eq_some_iff.1 O).1;rw[AG,List.length_take] at M;rw[<-O];simp only[bvs,List.getElem?_map];rw[List.getElem?_take_of_lt (by omega)]
 ·intro j M
  rw[AG,List.length_take] at M;exact(Ar h 32 (by simp [AG,key0]) j (by omega)).1
 ·intro j M
  rw[AG,List.length_take] at M;exact(Ar h 32 (by simp [AG,key0]) j (by omega)).2
theorem OU (g:Nat) (c:Option L) (w:World) (h:Cur w g c) (hs:(c.getD []).length<=100000):Calls Tryz.prog 188 #[.pointer (some ⟨g,0,none⟩)] w fun e w'=>e=.returned (.agg (bvs (keQ c).1).toArray)/\Cur w' g (keQ c).2/\w.grownBy w' (some g):=by
 have ez:(bvs key0).toArray=#[.int .u8 0,.int .u8 0,.int .u8 0,.int .u8 0,.int .u8 0,.int .u8 0,.int .u8 0,.int .u8 0,.int .u8 0,.int .u8 0,.int .u8 0,.int .u8 0,.int .u8 0,.int .u8 0,.int .u8 0,.int .u8 0,.int .u8 0,.int .u8 0,.int .u8 0,.int .u8 0,.int .u8 0,.int .u8 0,.int .u8 0,.int .u8 0,.int .u8 0,.int .u8 0,.int .u8 0,.int .u8 0,.int .u8 0,.int .u8 0,.int .u8 0,.int .u8 0]:=by rfl
 have T1:=I (fun w1 (h:Cur w1 g c)=>DT g c w1 h (by omega));have E1:=I (show(keQ c).1=(ocC c++key0).take 32 from rfl);have E2:=I (show(keQ c).2=Bc 4 c from rfl);rw[E1.o,E2.o];obtain⟨x,ex⟩:=Ak (ocC c);obtain⟨r,er⟩:=Ak (Bc 4 c);rw[<-ex,<-er] at T1⊢;go_enter Tryz.func188,Tryz.ntmps188
 go_upto_region 2 with fail
 rw[<-ez];obtain⟨W,eW⟩:=Ak ((w.alloc (.cells (bvs key0).toArray 39)).alloc (.cells (bvs key0).toArray 39));have hq:=Blk.new (w.alloc (.cells (bvs key0).toArray 39)) 39 (bvs key0).toArray;rw[show(w.alloc (.cells (bvs key0).toArray 39)).heap.size=w.heap.size+1 by simp,<-eW] at hq;have HR:=I (show Blk W w.heap.size 39 (bvs key0).toArray by rw[eW];exact(Blk.new _ _ _).alloc _);have HC:=I (show Cur W g c by rw[eW];exact(h.alloc _).alloc _);have HG:=I (show w.grownBy W (some g) by rw[eW];exact DJ (DJ (World.grownBy.refl _ _) _) _);have Z:=I (Df h);have O:=I hq;rw[<-eW];clear eW ez hq h hs E1 E2 ex er;replace HR:=I (show Blk W.drew _ _ _ from HR.o.drewN 1);replace O:=I (show Blk W.drew _ _ _ from O.o.drewN 1);replace HC:=I (show Cur W.drew g c from Blk.drewN HC.o 1);replace HG:=I (show w.grownBy W.drew (some g) from IV HG.o 1)
 go_region_held3 (fun w'=>True) (trivial) ((go_at_call 171;refine Calls.mono (T1.o _ HC.o) ?_;rintro e w1 ⟨⟨v,rfl,ho⟩,hd,hg⟩;obtain⟨b,cp,rfl,x1,x2,x3,x4⟩:=ho;clear T1;replace HC:=I hd;replace HR:=I (HR.o.grown hg (by intro e;injection e with e;have:=Z.o;omega));replace O:=I (O.o.grown hg (by intro e;injection e with e;have:=Z.o;omega));replace HG:=I (CZ HG.o hg);have aw:=Ro (c:=cp) O.o x4;clear hd hg x1 x2 x3 x4))
 have M:(bvs ((x++key0).take 32)).toArray.size=32:=by simp [AG,key0]
 have hp:=Fg (a:=w1) (.inl rfl:some (w.heap.size+1)=some (w.heap.size+1)\/_) (bvs (x.take 32)) 0 w1 (World.grownBy.refl _ _);replace O:=I (Rh (x:=x) O.o);have HO:=I (bvs_one' ((x++key0).take 32));obtain⟨ks,av⟩:=Ak ((bvs ((x++key0).take 32)).toArray);rw[<-av] at O M HO;obtain⟨V,eV⟩:=Ak (w1.setCells (w.heap.size+1) 0 (bvs (x.take 32)));rw[<-eV] at O hp⊢;replace HR:=I (HR.o.grown hp (by intro e;injection e with e;omega));replace HC:=I (Da HC.o hp (by have:=Z.o;omega));replace HG:=I (Hj HG.o hp (by omega));have HI:=I (show(Tryz.prog.info? 39).map (·.size)=some ks.size by rw[M];exact IN);have HT:=I (Ar HR.o ks.size (by rw[M];simp [AG,key0]));have EK:=I av;have HS:=I M;clear aw eV hp av M
 go_wp2_with (first
  |(refine Am (by rfl) 39 (.tmp 3) (by rfl) (w.heap.size+1) 0 (by rfl) ks _ (Ad O.o) Tryz.underlying39 (by rfl) HI.o ?_)
  |(refine wpList_store_mid (by rfl) 39 (.tmp 2) (.tmp 8) (by rfl) w.heap.size 0 ks (by rfl) (by rfl) HT.o HI.o HO.o ?_)
  |fail)
 have hE:=AJ (ds:=ks) HR.o (by rw[HS.o];simp [AG,key0]);have hp:=AP V w.heap.size ks.toList;have hq:=Ao (P:=Tryz.prog) hE Tryz.underlying39 rfl HI.o;refine bodyPost_ret (v:=.agg ks) ?_ ?_ ?_
 ·exact Au 2 39 ⟨w.heap.size,0,none⟩ Tryz.results188 rfl hq
 ·rfl
 exact⟨by rw[EK.o],Da HC.o hp (by have:=Z.o;omega),Hj HG.o hp Ag⟩
theorem Al {P:Program} {ops:Array Oper} {rest:List Oper} {o:Oper} {a:Act} {w:World} {Q:Exit->Act->World->Prop} (Z:o.guard=none) (t:TypeId) (parts:Array (Nat×Operand)) (O:o.op=.build t parts)
  (cells:Array Value) (M:P.built t (parts.map fun(i,x)=>(i,a.eval x)).toList=some cells) (h:wpList P ops Q rest (a.put o.dst (.agg cells)) w):wpList P ops Q (o :: rest) a w:=
 wpList_build Z t parts O (by rw[M];rfl) (by rw[M];exact h)
theorem len32 {v:L} (h:v.length=32):∃k0 k1 k2 k3 k4 k5 k6 k7 k8 k9 O cg cd cj bs bq k16 bx bB cb ca bn Z ck bb cc bz M av aw cf cm:UInt8,v = [k0,k1,k2,k3,k4,k5,k6,k7,k8,k9,O,cg,cd,cj,bs,bq,k16,bx,bB,cb,ca,bn,Z,ck,bb,cc,bz,M,av,aw,cf,cm]:=by
 rcases v with _ | ⟨k0,v⟩
 ·simp at h
 rcases v with _ | ⟨k1,v⟩
 ·simp at h
 rcases v with _ | ⟨k2,v⟩
 ·simp at h
 rcases v with _ | ⟨k3,v⟩
 ·simp at h
 rcases v with _ | ⟨k4,v⟩
 ·simp at h
 rcases v with _ | ⟨k5,v⟩
 ·simp at h
 rcases v with _ | ⟨k6,v⟩
 ·simp at h
 rcases v with _ | ⟨k7,v⟩
 ·simp at h
 rcases v with _ | ⟨k8,v⟩
 ·simp at h
 rcases v with _ | ⟨k9,v⟩
 ·simp at h
 rcases v with _ | ⟨O,v⟩
 ·simp at h
 rcases v with _ | ⟨cg,v⟩
 ·simp at h
 rcases v with _ | ⟨cd,v⟩
 ·simp at h
 rcases v with _ | ⟨cj,v⟩
 ·simp at h
 rcases v with _ | ⟨bs,v⟩
 ·simp at h
 rcases v with _ | ⟨bq,v⟩
 ·simp at h
 rcases v with _ | ⟨k16,v⟩
 ·simp at h
 rcases v with _ | ⟨bx,v⟩
 ·simp at h
 rcases v with _ | ⟨bB,v⟩
 ·simp at h
 rcases v with _ | ⟨cb,v⟩
 ·simp at h
 rcases v with _ | ⟨ca,v⟩
 ·simp at h
 rcases v with _ | ⟨bn,v⟩
 ·simp at h
 rcases v with _ | ⟨Z,v⟩
 ·simp at h
 rcases v with _ | ⟨ck,v⟩
 ·simp at h
 rcases v with _ | ⟨bb,v⟩
 ·simp at h
 rcases v with _ | ⟨cc,v⟩
 ·simp at h
 rcases v with _ | ⟨bz,v⟩
 ·simp at h
 rcases v with _ | ⟨M,v⟩
 ·simp at h
 rcases v with _ | ⟨av,v⟩
 ·simp at h
 rcases v with _ | ⟨aw,v⟩
 ·simp at h
 rcases v with _ | ⟨cf,v⟩
 ·simp at h
 rcases v with _ | ⟨cm,v⟩
 ·simp at h
 rcases v with _ | ⟨x,v⟩
 ·exact⟨k0,k1,k2,k3,k4,k5,k6,k7,k8,k9,O,cg,cd,cj,bs,bq,k16,bx,bB,cb,ca,bn,Z,ck,bb,cc,bz,M,av,aw,cf,cm,rfl⟩
 ·simp at h
theorem UQ (c:Pr) (k tr:L) (st en:Int) (hk:k.length=32):Tryz.prog.built 86 [(0,.agg #[.string ⟨c.1.toArray⟩,.string ⟨c.2.toArray⟩]),(1,.agg (bvs k).toArray),(2,.string ⟨tr.toArray⟩),(3,.int .i64 st),(4,.int .i64 en)]=some (ptC ⟨c,k,tr,st,en⟩).toArray:=by
 obtain⟨k0,k1,k2,k3,k4,k5,k6,k7,k8,k9,O,cg,cd,cj,bs,bq,k16,bx,bB,cb,ca,bn,Z,ck,bb,cc,bz,M,av,aw,cf,cm,rfl⟩:=len32 hk
 kernel_rfl
theorem LQ (c:Pr) (k tr:L) (st en:Int):(ptC ⟨c,k,tr,st,en⟩).toArray.all (·.oneCell')=true:=all_oneCell_toArray fun v M=>by
 simp only[ptC,prC,List.mem_append,List.mem_cons,List.not_mem_nil,or_false] at M;rcases M with(rfl | rfl) | M | rfl | rfl | rfl
 ·rfl
 ·rfl
 ·exact BA _ v M
 ·rfl
 ·rfl
 ·rfl
theorem Rq (A:Option Addr) (b:L) (cap:Nat) (w:World) (h:Rd w w.heap.size A (bvs b)) (hs:b.length<=100000):Calls Tryz.prog 139 #[.slice A b.length cap] w fun e w'=>e=.returned (.agg (ptC (ptQ b).1).toArray)/\Below w.heap.size w w':=by
 obtain⟨zz,cj⟩:∃z:Array Value,z=#[.string ⟨#[]⟩,.string ⟨#[]⟩,.int .u8 0,.int .u8 0,.int .u8 0,.int .u8 0,.int .u8 0,.int .u8 0,.int .u8 0,.int .u8 0,.int .u8 0,.int .u8 0,.int .u8 0,.int .u8 0,.int .u8 0,.int .u8 0,.int .u8 0,.int .u8 0,.int .u8 0,.int .u8 0,.int .u8 0,.int .u8 0,.int .u8 0,.int .u8 0,.int .u8 0,.int .u8 0,.int .u8 0,.int .u8 0,.int .u8 0,.int .u8 0,.int .u8 0,.int .u8 0,.int .u8 0,.int .u8 0,.string ⟨#[]⟩,.int .i64 0,.int .i64 0]:=⟨_,rfl⟩;have cu:=I (show zz.size=37 by rw[cj];simp);obtain⟨W,eW⟩:=Ak (w.alloc (.cells zz 86));have cA:W.heap.size=w.heap.size+1:=by rw[eW];simp
 have HR:=I (show Blk W w.heap.size 86 zz by rw[eW];exact Blk.new _ _ _);have HG:=I (show Below w.heap.size w W by rw[eW];exact Ah.alloc Ag _);have c0:=La w.heap.size A b b.length cap W (by rw[eW];exact h.alloc Ag _) rfl;have c1:=I (fun g w h=>GK 99 g (some b) w h (by show((b.length:Int))<=100000;omega));have bz:((AN 99 (some b)).getD []).length<=100000:=FK 99 (show((some b:Option L).getD []).length<=100000 from hs);obtain⟨s0,es0⟩:∃s,s=AN 99 (some b):=⟨_,rfl⟩;rw[<-es0] at c1 bz;have bs:(((prQ s0).2).getD []).length<=100000:=BV 48 bz;have T1:=I (fun g w h=>BO g s0 w h bz);obtain⟨v1,cp⟩:∃x:Pr,x=(prQ s0).1:=⟨_,rfl⟩;obtain⟨s1,bb⟩:∃s,s=(prQ s0).2:=⟨_,rfl⟩;rw[<-cp,<-bb] at T1;rw[<-bb] at bs;have cq:(((keQ s1).2).getD []).length<=100000:=BV 4 bs;have T2:=I (fun g w h=>OU g s1 w h bs);have hk:=UO s1;obtain⟨v2,aw⟩:∃x:L,x=(keQ s1).1:=⟨_,rfl⟩;obtain⟨s2,es2⟩:∃s,s=(keQ s1).2:=⟨_,rfl⟩;rw[<-aw,<-es2] at T2;rw[<-aw] at hk;rw[<-es2] at cq;have cn:((Bc 27 s2).getD []).length<=100000:=BV 27 cq;have T3:=I (fun g w h=>FJ g s2 w h (by omega));obtain⟨v3,ck⟩:∃x:L,x=txC s2:=⟨_,rfl⟩;obtain⟨s3,bq⟩:∃s,s=Bc 27 s2:=⟨_,rfl⟩;rw[<-ck,<-bq] at T3;rw[<-bq] at cn;have cb:(((intC s3).2).getD []).length<=100000:=FL cn;have T4:=I (fun g w h=>BN g s3 w h (by omega));obtain⟨v4,cd⟩:∃x:Int,x=((intC s3).1:Int):=⟨_,rfl⟩;obtain⟨s4,bn⟩:∃s,s=(intC s3).2:=⟨_,rfl⟩;rw[<-cd,<-bn] at T4;rw[<-bn] at cb;have ct:(((intC s4).2).getD []).length<=100000:=FL cb;have T5:=I (fun g w h=>BN g s4 w h (by omega));obtain⟨v5,ca⟩:∃x:Int,x=((intC s4).1:Int):=⟨_,rfl⟩;obtain⟨s5,cc⟩:∃s,s=(intC s4).2:=⟨_,rfl⟩;rw[<-ca,<-cc] at T5;rw[<-cc] at ct;have FV:(ptQ b).1=⟨v1,v2,v3,v4,v5⟩:=by rw[cp,aw,ck,cd,ca,bn,bq,es2,bb,es0];rfl
 rw[FV];have bx:=UQ v1 v2 v3 v4 v5 hk;have bB:(ptC ⟨v1,v2,v3,v4,v5⟩).toArray.size=37:=FE hk;have av:(ptC ⟨v1,v2,v3,v4,v5⟩).toArray.all (·.oneCell')=true:=LQ v1 v2 v3 v4 v5;obtain⟨ks,cr⟩:=Ak ((bvs v2).toArray);rw[<-cr] at bx T2;obtain⟨cs,cx⟩:=Ak ((ptC ⟨v1,v2,v3,v4,v5⟩).toArray);rw[<-cx] at bx bB av⊢;have cL:=I bx;have cy:=I bB;have HO:=I av;have HI:=I (show(Tryz.prog.info? 86).map (·.size)=some cs.size by rw[bB];kernel_rfl);clear h hs hk bx bB av cr cx FV es0 bz bs cq cn cb ct cp bb aw es2 ck bq cd bn ca cc;have cf:=I cA;clear cA;go_enter Tryz.func139,Tryz.ntmps139
 go_upto_region 1 with fail
 rw[<-cj,<-eW];clear cj eW
 go_wp2_with (first
  |(go_at_call 124;refine Calls.mono c0 ?_;rintro e wo ⟨go,rfl,cM,cw,hb⟩;clear c0;have HC:=I cw;have cm:=I (show w.heap.size+1<=go by have:=cf.o;omega);replace HR:=I (HR.o.below hb);replace HG:=I (Hn HG.o (by have:=cf.o;omega) hb);have cg:=I (show w.heap.size+1<=wo.heap.size by have:=hb.size;have:=cf.o;omega);clear cM cw hb)
  |(go_at_call 125;refine Calls.mono (c1.o _ _ HC.o) ?_;rintro e wi ⟨⟨gd,rfl,cB,hd⟩,hc,Z⟩;clear c1 HC;have HD:=I hd;have M:=I (show w.heap.size+1<=gd by have:=cg.o;omega);have O:=I (Df hd);replace HR:=I (HR.o.grown Z (by intro e;injection e with e;have:=cm.o;omega));replace HG:=I (Az HG.o Z (by have:=cg.o;omega) (by have:=cm.o;omega));clear cB hd hc Z cg cm)
  |(go_at_call 168;(with_reducible refine Calls.mono (T1.o _ _ HD.o) ?_);rintro e w1 ⟨rfl,hd,Z⟩;clear T1;replace HD:=I hd;replace HR:=I (HR.o.grown Z (by intro e;injection e with e;have:=M.o;omega));replace HG:=I (Az HG.o Z (by have:=M.o;have:=O.o;omega) (by have:=M.o;omega));replace O:=I (Nat.lt_of_lt_of_le O.o Z.size);clear hd Z)
  |(go_at_call 188;(with_reducible refine Calls.mono (T2.o _ _ HD.o) ?_);rintro e w2 ⟨rfl,hd,Z⟩;clear T2;replace HD:=I hd;replace HR:=I (HR.o.grown Z (by intro e;injection e with e;have:=M.o;omega));replace HG:=I (Az HG.o Z (by have:=M.o;have:=O.o;omega) (by have:=M.o;omega));replace O:=I (Nat.lt_of_lt_of_le O.o Z.size);clear hd Z)
  |(go_at_call 189;(with_reducible refine Calls.mono (T3.o _ _ HD.o) ?_);rintro e w3 ⟨rfl,hd,Z⟩;clear T3;replace HD:=I hd;replace HR:=I (HR.o.grown Z (by intro e;injection e with e;have:=M.o;omega));replace HG:=I (Az HG.o Z (by have:=M.o;have:=O.o;omega) (by have:=M.o;omega));replace O:=I (Nat.lt_of_lt_of_le O.o Z.size);clear hd Z)
  |(go_at_call 169;(with_reducible refine Calls.mono (T4.o _ _ HD.o) ?_);rintro e w4 ⟨rfl,hd,Z⟩;clear T4;replace HD:=I hd;replace HR:=I (HR.o.grown Z (by intro e;injection e with e;have:=M.o;omega));replace HG:=I (Az HG.o Z (by have:=M.o;have:=O.o;omega) (by have:=M.o;omega));replace O:=I (Nat.lt_of_lt_of_le O.o Z.size);clear hd Z)
  |(go_at_call 169;(with_reducible refine Calls.mono (T5.o _ _ HD.o) ?_);rintro e w5 ⟨rfl,hd,Z⟩;clear T5;replace HD:=I hd;replace HR:=I (HR.o.grown Z (by intro e;injection e with e;have:=M.o;omega));replace HG:=I (Az HG.o Z (by have:=M.o;have:=O.o;omega) (by have:=M.o;omega));replace O:=I (Nat.lt_of_lt_of_le O.o Z.size);clear hd Z)
  |(refine Al (by rfl) 86 #[(0,.tmp 8),(1,.tmp 10),(2,.tmp 12),(3,.tmp 14),(4,.tmp 16)] (by rfl) cs (by simp only[List.map_toArray,List.map_cons,List.map_nil];exact cL.o) ?_)
  |(refine wpList_store_mid (by rfl) 86 (.tmp 2) (.tmp 17) (by rfl) w.heap.size 0 cs (by rfl) (by rfl) (Ar HR.o _ (by have:=cu.o;have:=cy.o;omega)) HI.o HO.o ?_)
  |fail)
 have hE:=AJ (ds:=cs) HR.o (by have:=cu.o;have:=cy.o;omega);have hp:=AP w5 w.heap.size cs.toList;have hq:=Ao (P:=Tryz.prog) hE Tryz.underlying86 rfl HI.o;refine bodyPost_ret (v:=.agg cs) ?_ ?_ ?_
 ·exact Au 2 86 ⟨w.heap.size,0,none⟩ Tryz.results139 rfl hq
 ·rfl
 exact⟨rfl,Az HG.o hp (by have:=HR.o.lt;omega) Ag⟩
theorem Bj (w:World) (t:TypeId) (lit cs:Array Value) (hs:lit.size=cs.size):Blk ((w.alloc (.cells lit t)).setCells w.heap.size 0 cs.toList) w.heap.size t cs/\Below w.heap.size w ((w.alloc (.cells lit t)).setCells w.heap.size 0 cs.toList):=
 ⟨AJ (Blk.new w t lit) hs,Az ((Below.refl w.heap.size w).alloc Ag _) (AP _ _ _) (by simp) Ag⟩
theorem Hk {c:Option L} (h:(c.getD []).length<=100000):pSm (prQ c).1:=by
 have e2:=(Dr 27 (AN 48 c)).1;have M:=(Dr 27 (AN 48 c)).2;have O:=(Dr 27 (Bc 27 (AN 48 c))).1;have Z:=(Dr 48 c).1;exact⟨by show((AN 27 (AN 48 c)).getD []).length<=1000000000;omega,by show((AN 27 (Bc 27 (AN 48 c))).getD []).length<=1000000000;omega⟩
theorem dR {c:Option L} (h:(c.getD []).length<=100000):(txC c).length<=100000:=Nat.le_trans (Dr 27 c).1 h
theorem OV (a:An):(anC a).toArray.all (·.oneCell')=true:=all_oneCell_toArray fun v M=>by
 simp only[anC,prC,List.mem_append,List.mem_cons,List.not_mem_nil,or_false] at M;rcases M with(rfl | rfl) | rfl | rfl<;>rfl
def ptG (b:L):Pt:=(ptD b).getD pt0
def ptI (b:L):Int:=if (ptD b).isSome then 0 else 2
theorem OW (b:L):(ptG b).ss.length=32:=by
 unfold ptG;rw[UP]
 split
 ·exact LP b
 ·rfl
theorem UR (A:Option Addr) (b:L) (c:Nat) (w:World) (hr:Rd w w.heap.size A (bvs b)):Calls Tryz.prog 141 #[.slice A b.length c,.func (.func 142) #[] #[],.func (.func 143) #[] #[]] w fun e w'=>e=.returned (.tuple #[.agg (anC (anG b)).toArray,.int .i64 (anI b)])/\Below w.heap.size w w':=by
 obtain⟨O,aw⟩:∃z:Array Value,z=#[.string ⟨#[]⟩,.string ⟨#[]⟩,.int .i64 0,.int .i64 0]:=⟨_,rfl⟩;have bs:(anC an0).toArray=O:=by rw[aw];rfl
 have cg:O.size=4:=by rw[aw];simp
 have cq:O.all (·.oneCell')=true:=by rw[<-bs];exact OV _
 obtain⟨W,eW⟩:=Ak ((w.alloc (.cells O 47)).alloc (.cells O 47));have cp:W.heap.size=w.heap.size+1+1:=by rw[eW];simp
 have hq:=Blk.new (w.alloc (.cells O 47)) 47 O;rw[show(w.alloc (.cells O 47)).heap.size=w.heap.size+1 by simp,<-eW] at hq;have HZ:=I hq;clear hq;have HR:=I (show Blk W w.heap.size 47 O by rw[eW];exact(Blk.new _ _ _).alloc _);have Z:=I (show Below w.heap.size w W by rw[eW];exact(Ah.alloc Ag _).alloc (by simp) _);have bB:=I (fun w1 (h:Below w.heap.size w w1)=>(hr.below h).more h.size);have bb:=I (show(Tryz.prog.info? 47).map (·.size)=some O.size by rw[cg];kernel_rfl);have cd:=I cq;have cn:=I cg;have ED:=I (aR b);have cr:=I cp;clear cp cq cg
 by_cases hl:b.length<=2000
 ·have t1:decide ((2000:Int)<(b.length:Int))=false:=decide_eq_false (by omega)
  have cc:b.length<=100000:=by omega
  have av:pSm (anQ b).1.c:=Hk (FK 98 (show((some b:Option L).getD []).length<=100000 from cc));have T1:=I (fun w1 (h:Rd w1 w1.heap.size A (bvs b))=>(show Calls Tryz.prog 142 #[.slice A b.length c] w1 fun e w'=>e=.returned (.agg (anC (anQ b).1).toArray)/\Below w1.heap.size w1 w' from Rm A b c w1 h cc));have EN:=I (fun w1=>(show Calls Tryz.prog 143 #[.agg (anC (anQ b).1).toArray] w1 (EncR w1 (anO (anQ b).1)) from Nh (anQ b).1 w1 av));have ca:(anC (anQ b).1).toArray.size=4:=by rfl
  have cf:(anC (anQ b).1).toArray.all (·.oneCell')=true:=OV _;have BE:=I (fun(l:L) (g c2:Nat) (w1:World) (h:Rd w1 w1.heap.size (some ⟨g,0,none⟩) (bvs l)) (M:Below w.heap.size w w1)=>Gv l b (some ⟨g,0,none⟩) A c2 c w1.heap.size w1 h (bB.o w1 M));obtain⟨cs,bz⟩:=Ak ((anC (anQ b).1).toArray);rw[<-bz] at T1 EN ca cf;have bn:=I (show(Tryz.prog.info? 47).map (·.size)=some cs.size by rw[ca];kernel_rfl);have cb:=I cf;have bq:=I ca;clear ca cf hl cc hr av;cases ho:anO (anQ b).1 with
  |none=>
   rw[ho] at EN;have hD:anD b=none:=by rw[ED.o,ho];rfl
   have GE:=I (show(anC (anG b)).toArray=O by rw[anG,hD];exact bs);have IE:=I (show anI b=2 by rw[anI,hD];rfl);clear ED ho hD bz bs BE;go_enter Tryz.func141,Tryz.ntmps141
   go_upto_region 2 with fail
   rw[<-aw,<-eW];clear aw eW
   go_wp2_with (first
    |(refine Am (by rfl) 47 (.tmp 8) (by rfl) (w.heap.size+1) 0 (by rfl) O _ (Ad HZ.o) Tryz.underlying47 (by rfl) bb.o ?_)
    |(refine wpList_store_mid (by rfl) 47 (.tmp 6) (.tmp 33) (by rfl) w.heap.size 0 O (by rfl) (by rfl) (Ar HR.o _ Ag) bb.o cd.o ?_)
    |(go_at_call 142;refine Aj (T1.o _ (bB.o _ Z.o)) ?_;rintro w4 M;clear T1;replace HZ:=I (HZ.o.below M);replace HR:=I (HR.o.below M);replace Z:=Z.t M;clear M)
    |(refine wpList_store_mid (by rfl) 47 (.tmp 9) (.tmp 18) (by rfl) w4.heap.size 0 cs (by rfl) (by rfl) (Ar (Blk.new w4 47 #[.string ⟨#[]⟩,.string ⟨#[]⟩,.int .i64 0,.int .i64 0]) _ (by have:=bq.o;simp;omega)) bn.o cb.o ?_;have hV:=Bj w4 47 #[.string ⟨#[]⟩,.string ⟨#[]⟩,.int .i64 0,.int .i64 0] cs (by have:=bq.o;simp;omega);generalize ((w4.alloc (.cells #[.string ⟨#[]⟩,.string ⟨#[]⟩,.int .i64 0,.int .i64 0] 47)).setCells w4.heap.size 0 cs.toList)=V at hV⊢;have HX:=I hV.1;replace HZ:=I (HZ.o.below hV.2);replace HR:=I (HR.o.below hV.2);replace Z:=I (Z.o.trans (hV.2.mono Z.o.size));clear hV)
    |(refine Am (by rfl) 47 (.tmp 9) (by rfl) w4.heap.size 0 (by rfl) cs _ (Ad HX.o) Tryz.underlying47 (by rfl) bn.o ?_)
    |(go_at_call 143;refine Calls.mono (EN.o _) ?_;rintro e we ⟨⟨v,i,rfl,hn,av⟩,M⟩;obtain⟨rfl,rfl⟩:=hn rfl;clear EN;replace HX:=I (HX.o.below M);replace HZ:=I (HZ.o.below M);replace HR:=I (HR.o.below M);replace Z:=Z.t M;clear M hn av)
    |fail)
   have hE:=AJ (ds:=O) HR.o (by rfl);have hp:=AP we w.heap.size O.toList;have hq:=Ao (P:=Tryz.prog) hE Tryz.underlying47 rfl bb.o;refine bodyPost_ret (v:=.tuple #[.agg O,.int .i64 2]) ?_ ?_ ?_
   ·exact Ae (v:=.agg O) 6 7 47 ⟨w.heap.size,0,none⟩ Tryz.results141 rfl hq rfl
   ·rfl
   exact⟨by rw[GE.o,IE.o],Az Z.o hp (by have:=HR.o.lt;omega) Ag⟩
  |some l=>
   rw[ho] at EN
   by_cases hlb:l=b
   ·have BF:=I (decide_eq_true hlb)
    have hD:anD b=some (anQ b).1:=by rw[ED.o,ho,if_pos (by rw[hlb])]
    have GE:=I (show(anC (anG b)).toArray=cs by rw[anG,hD];exact bz.symm);have IE:=I (show anI b=0 by rw[anI,hD];rfl);clear ED ho hlb hD bz bs;go_enter Tryz.func141,Tryz.ntmps141
    go_upto_region 2 with fail
    rw[<-aw,<-eW];clear aw eW
    go_wp2_with (first
     |(refine Am (by rfl) 47 (.tmp 8) (by rfl) (w.heap.size+1) 0 (by rfl) O _ (Ad HZ.o) Tryz.underlying47 (by rfl) bb.o ?_)
     |(refine wpList_store_mid (by rfl) 47 (.tmp 6) (.tmp 34) (by rfl) w.heap.size 0 cs (by rfl) (by rfl) (Ar HR.o _ (by have:=cn.o;have:=bq.o;omega)) bn.o cb.o ?_)
     |(go_at_call 142;refine Aj (T1.o _ (bB.o _ Z.o)) ?_;rintro w4 M;clear T1;replace HZ:=I (HZ.o.below M);replace HR:=I (HR.o.below M);replace Z:=Z.t M;clear M)
     |(refine wpList_store_mid (by rfl) 47 (.tmp 9) (.tmp 18) (by rfl) w4.heap.size 0 cs (by rfl) (by rfl) (Ar (Blk.new w4 47 #[.string ⟨#[]⟩,.string ⟨#[]⟩,.int .i64 0,.int .i64 0]) _ (by have:=bq.o;simp;omega)) bn.o cb.o ?_;have hV:=Bj w4 47 #[.string ⟨#[]⟩,.string ⟨#[]⟩,.int .i64 0,.int .i64 0] cs (by have:=bq.o;simp;omega);generalize ((w4.alloc (.cells #[.string ⟨#[]⟩,.string ⟨#[]⟩,.int .i64 0,.int .i64 0] 47)).setCells w4.heap.size 0 cs.toList)=V at hV⊢;have HX:=I hV.1;replace HZ:=I (HZ.o.below hV.2);replace HR:=I (HR.o.below hV.2);replace Z:=I (Z.o.trans (hV.2.mono Z.o.size));clear hV)
     |(refine Am (by rfl) 47 (.tmp 9) (by rfl) w4.heap.size 0 (by rfl) cs _ (Ad HX.o) Tryz.underlying47 (by rfl) bn.o ?_)
     |(go_at_call 143;refine Calls.mono (EN.o _) ?_;rintro e we ⟨⟨v,i,rfl,hn,av⟩,M⟩;obtain⟨rfl,gx,cx,rfl,cm,cj,bx⟩:=av l rfl;have ck:=I bx;clear cm cj bx;clear EN;replace HX:=I (HX.o.below M);replace HZ:=I (HZ.o.below M);replace HR:=I (HR.o.below M);replace Z:=Z.t M;clear M hn av)
     |(go_at_call 123;refine Calls.mono (BE.o l gx cx _ ck.o Z.o) ?_;rw[BF.o];rintro e wb ⟨rfl,hw⟩;subst hw;clear BE)
     |fail)
    have hE:=AJ (ds:=cs) HR.o (by have:=cn.o;have:=bq.o;omega);have hp:=AP we w.heap.size cs.toList;have hq:=Ao (P:=Tryz.prog) hE Tryz.underlying47 rfl bn.o;refine bodyPost_ret (v:=.tuple #[.agg cs,.int .i64 0]) ?_ ?_ ?_
    ·exact Ae (v:=.agg cs) 6 7 47 ⟨w.heap.size,0,none⟩ Tryz.results141 rfl hq rfl
    ·rfl
    exact⟨by rw[GE.o,IE.o],Az Z.o hp (by have:=HR.o.lt;omega) Ag⟩
   ·have BF:=I (decide_eq_false hlb)
    have hD:anD b=none:=by rw[ED.o,ho,if_neg (fun h=>hlb (Option.some.inj h))]
    have GE:=I (show(anC (anG b)).toArray=O by rw[anG,hD];exact bs);have IE:=I (show anI b=2 by rw[anI,hD];rfl);clear ED ho hlb hD bz bs;go_enter Tryz.func141,Tryz.ntmps141
    go_upto_region 2 with fail
    rw[<-aw,<-eW];clear aw eW
    go_wp2_with (first
     |(refine Am (by rfl) 47 (.tmp 8) (by rfl) (w.heap.size+1) 0 (by rfl) O _ (Ad HZ.o) Tryz.underlying47 (by rfl) bb.o ?_)
     |(refine wpList_store_mid (by rfl) 47 (.tmp 6) (.tmp 33) (by rfl) w.heap.size 0 O (by rfl) (by rfl) (Ar HR.o _ Ag) bb.o cd.o ?_)
     |(go_at_call 142;refine Aj (T1.o _ (bB.o _ Z.o)) ?_;rintro w4 M;clear T1;replace HZ:=I (HZ.o.below M);replace HR:=I (HR.o.below M);replace Z:=Z.t M;clear M)
     |(refine wpList_store_mid (by rfl) 47 (.tmp 9) (.tmp 18) (by rfl) w4.heap.size 0 cs (by rfl) (by rfl) (Ar (Blk.new w4 47 #[.string ⟨#[]⟩,.string ⟨#[]⟩,.int .i64 0,.int .i64 0]) _ (by have:=bq.o;simp;omega)) bn.o cb.o ?_;have hV:=Bj w4 47 #[.string ⟨#[]⟩,.string ⟨#[]⟩,.int .i64 0,.int .i64 0] cs (by have:=bq.o;simp;omega);generalize ((w4.alloc (.cells #[.string ⟨#[]⟩,.string ⟨#[]⟩,.int .i64 0,.int .i64 0] 47)).setCells w4.heap.size 0 cs.toList)=V at hV⊢;have HX:=I hV.1;replace HZ:=I (HZ.o.below hV.2);replace HR:=I (HR.o.below hV.2);replace Z:=I (Z.o.trans (hV.2.mono Z.o.size));clear hV)
     |(refine Am (by rfl) 47 (.tmp 9) (by rfl) w4.heap.size 0 (by rfl) cs _ (Ad HX.o) Tryz.underlying47 (by rfl) bn.o ?_)
     |(go_at_call 143;refine Calls.mono (EN.o _) ?_;rintro e we ⟨⟨v,i,rfl,hn,av⟩,M⟩;obtain⟨rfl,gx,cx,rfl,cm,cj,bx⟩:=av l rfl;have ck:=I bx;clear cm cj bx;clear EN;replace HX:=I (HX.o.below M);replace HZ:=I (HZ.o.below M);replace HR:=I (HR.o.below M);replace Z:=Z.t M;clear M hn av)
     |(go_at_call 123;refine Calls.mono (BE.o l gx cx _ ck.o Z.o) ?_;rw[BF.o];rintro e wb ⟨rfl,hw⟩;subst hw;clear BE)
     |fail)
    have hE:=AJ (ds:=O) HR.o (by rfl);have hp:=AP we w.heap.size O.toList;have hq:=Ao (P:=Tryz.prog) hE Tryz.underlying47 rfl bb.o;refine bodyPost_ret (v:=.tuple #[.agg O,.int .i64 2]) ?_ ?_ ?_
    ·exact Ae (v:=.agg O) 6 7 47 ⟨w.heap.size,0,none⟩ Tryz.results141 rfl hq rfl
    ·rfl
    exact⟨by rw[GE.o,IE.o],Az Z.o hp (by have:=HR.o.lt;omega) Ag⟩
 ·have t1:decide ((2000:Int)<(b.length:Int))=true:=decide_eq_true (by omega)
  have hD:anD b=none:=by
   rw[ED.o,if_neg];intro h;have h2:=BR.1 h;exact hl (by rw[<-h2.2.2];exact h2.2.1)
  have GE:=I (show(anC (anG b)).toArray=O by rw[anG,hD];exact bs);have IE:=I (show anI b=2 by rw[anI,hD];rfl);clear ED hD hl bs hr bB;go_enter Tryz.func141,Tryz.ntmps141
  go_upto_region 2 with fail
  rw[<-aw,<-eW];clear aw eW
  go_wp2_with (first
   |(refine Am (by rfl) 47 (.tmp 8) (by rfl) (w.heap.size+1) 0 (by rfl) O _ (Ad HZ.o) Tryz.underlying47 (by rfl) bb.o ?_)
   |(refine wpList_store_mid (by rfl) 47 (.tmp 6) (.tmp 15) (by rfl) w.heap.size 0 O (by rfl) (by rfl) (Ar HR.o _ Ag) bb.o cd.o ?_)
   |fail)
  have hE:=AJ (ds:=O) HR.o (by rfl);have hp:=AP W w.heap.size O.toList;have hq:=Ao (P:=Tryz.prog) hE Tryz.underlying47 rfl bb.o;refine bodyPost_ret (v:=.tuple #[.agg O,.int .i64 2]) ?_ ?_ ?_
  ·exact Ae (v:=.agg O) 6 7 47 ⟨w.heap.size,0,none⟩ Tryz.results141 rfl hq rfl
  ·rfl
  exact⟨by rw[GE.o,IE.o],Az Z.o hp (by have:=HR.o.lt;omega) Ag⟩
theorem Ni (A:Option Addr) (b:L) (c:Nat) (w:World) (hr:Rd w w.heap.size A (bvs b)):Calls Tryz.prog 92 #[.slice A b.length c] w fun e w'=>e=.returned (.tuple #[.agg (anC (anG b)).toArray,.int .i64 (anI b)])/\Below w.heap.size w w':=by
 obtain⟨zz,Z⟩:∃z:Array Value,z=#[.string ⟨#[]⟩,.string ⟨#[]⟩,.int .i64 0,.int .i64 0]:=⟨_,rfl⟩;have bb:zz.size=4:=by rw[Z];simp
 have M:(anC (anG b)).toArray.size=4:=by rfl
 have O:(anC (anG b)).toArray.all (·.oneCell')=true:=OV _;have c1:=UR A b c (w.alloc (.cells zz 47)) ((hr.alloc Ag _).more (by simp));obtain⟨cs,bn⟩:=Ak ((anC (anG b)).toArray);rw[<-bn] at M O c1⊢;have HI:=I (show(Tryz.prog.info? 47).map (·.size)=some cs.size by rw[M];kernel_rfl);have HO:=I O;have aw:=I M;have av:=I bb;have HR:=I (Blk.new w 47 zz);have HG:=I ((Below.refl w.heap.size w).alloc Ag (.cells zz 47));clear M O bb bn hr;go_enter Tryz.func92,Tryz.ntmps92
 go_upto_region 1 with fail
 rw[<-Z];clear Z
 go_wp2_with (first
  |(go_at_call 141;refine Aj c1 ?_;rintro w1 hb;clear c1;replace HR:=I (HR.o.below hb);replace HG:=HG.t hb;clear hb)
  |(refine wpList_store_mid (by rfl) 47 (.tmp 2) (.tmp 6) (by rfl) w.heap.size 0 cs (by rfl) (by rfl) (Ar HR.o _ (by have:=av.o;have:=aw.o;omega)) HI.o HO.o ?_)
  |fail)
 have hE:=AJ (ds:=cs) HR.o (by have:=av.o;have:=aw.o;omega);have hp:=AP w1 w.heap.size cs.toList;have hq:=Ao (P:=Tryz.prog) hE Tryz.underlying47 rfl HI.o;refine bodyPost_ret (v:=.tuple #[.agg cs,.int .i64 (anI b)]) ?_ ?_ ?_
 ·exact Ae (v:=.agg cs) 2 3 47 ⟨w.heap.size,0,none⟩ Tryz.results92 rfl hq rfl
 ·rfl
 exact⟨rfl,Az HG.o hp (by have:=HR.o.lt;omega) Ag⟩
theorem US (A:Option Addr) (b:L) (c:Nat) (w:World) (hr:Rd w w.heap.size A (bvs b)):Calls Tryz.prog 138 #[.slice A b.length c,.func (.func 139) #[] #[],.func (.func 140) #[] #[]] w fun e w'=>e=.returned (.tuple #[.agg (ptC (ptG b)).toArray,.int .i64 (ptI b)])/\Below w.heap.size w w':=by
 obtain⟨O,aw⟩:∃z:Array Value,z=#[.string ⟨#[]⟩,.string ⟨#[]⟩,.int .u8 0,.int .u8 0,.int .u8 0,.int .u8 0,.int .u8 0,.int .u8 0,.int .u8 0,.int .u8 0,.int .u8 0,.int .u8 0,.int .u8 0,.int .u8 0,.int .u8 0,.int .u8 0,.int .u8 0,.int .u8 0,.int .u8 0,.int .u8 0,.int .u8 0,.int .u8 0,.int .u8 0,.int .u8 0,.int .u8 0,.int .u8 0,.int .u8 0,.int .u8 0,.int .u8 0,.int .u8 0,.int .u8 0,.int .u8 0,.int .u8 0,.int .u8 0,.string ⟨#[]⟩,.int .i64 0,.int .i64 0]:=⟨_,rfl⟩;have bs:(ptC pt0).toArray=O:=by rw[aw];rfl
 have cj:O.size=37:=by rw[aw];simp
 have ct:O.all (·.oneCell')=true:=by rw[<-bs];exact LQ _ _ _ _ _
 obtain⟨W,eW⟩:=Ak ((w.alloc (.cells O 86)).alloc (.cells O 86));have cr:W.heap.size=w.heap.size+1+1:=by rw[eW];simp
 have hq:=Blk.new (w.alloc (.cells O 86)) 86 O;rw[show(w.alloc (.cells O 86)).heap.size=w.heap.size+1 by simp,<-eW] at hq;have HZ:=I hq;clear hq;have HR:=I (show Blk W w.heap.size 86 O by rw[eW];exact(Blk.new _ _ _).alloc _);have Z:=I (show Below w.heap.size w W by rw[eW];exact(Ah.alloc Ag _).alloc (by simp) _);have bB:=I (fun w1 (h:Below w.heap.size w w1)=>(hr.below h).more h.size);have bb:=I (show(Tryz.prog.info? 86).map (·.size)=some O.size by rw[cj];kernel_rfl);have cf:=I ct;have cp:=I cj;have ED:=I (UP b);have cu:=I cr;clear cr ct cj
 by_cases hl:b.length<=2000
 ·have t1:decide ((2000:Int)<(b.length:Int))=false:=decide_eq_false (by omega)
  have cc:b.length<=100000:=by omega
  have cd:=FK 99 (show((some b:Option L).getD []).length<=100000 from cc);have av:pSm (ptQ b).1.c:=Hk cd;have cq:(ptQ b).1.tr.length<=1000000000:=Nat.le_trans (dR (BV 4 (BV 48 cd))) (by omega);have T1:=I (fun w1 (h:Rd w1 w1.heap.size A (bvs b))=>(show Calls Tryz.prog 139 #[.slice A b.length c] w1 fun e w'=>e=.returned (.agg (ptC (ptQ b).1).toArray)/\Below w1.heap.size w1 w' from Rq A b c w1 h cc));have EN:=I (fun w1=>(show Calls Tryz.prog 140 #[.agg (ptC (ptQ b).1).toArray] w1 (EncR w1 (ptO (ptQ b).1)) from OP (ptQ b).1 w1 (LP b) av cq));have ca:(ptC (ptQ b).1).toArray.size=37:=by exact FE (LP b)
  have cg:(ptC (ptQ b).1).toArray.all (·.oneCell')=true:=LQ _ _ _ _ _;have BE:=I (fun(l:L) (g c2:Nat) (w1:World) (h:Rd w1 w1.heap.size (some ⟨g,0,none⟩) (bvs l)) (M:Below w.heap.size w w1)=>Gv l b (some ⟨g,0,none⟩) A c2 c w1.heap.size w1 h (bB.o w1 M));obtain⟨cs,bz⟩:=Ak ((ptC (ptQ b).1).toArray);rw[<-bz] at T1 EN ca cg;have bn:=I (show(Tryz.prog.info? 86).map (·.size)=some cs.size by rw[ca];kernel_rfl);have cb:=I cg;have bq:=I ca;clear ca cg hl cc hr av cq cd;cases ho:ptO (ptQ b).1 with
  |none=>
   rw[ho] at EN;have hD:ptD b=none:=by rw[ED.o,ho];rfl
   have GE:=I (show(ptC (ptG b)).toArray=O by rw[ptG,hD];exact bs);have IE:=I (show ptI b=2 by rw[ptI,hD];rfl);clear ED ho hD bz bs BE;go_enter Tryz.func138,Tryz.ntmps138
   go_upto_region 2 with fail
   rw[<-aw,<-eW];clear aw eW
   go_wp2_with (first
    |(refine Am (by rfl) 86 (.tmp 8) (by rfl) (w.heap.size+1) 0 (by rfl) O _ (Ad HZ.o) Tryz.underlying86 (by rfl) bb.o ?_)
    |(refine wpList_store_mid (by rfl) 86 (.tmp 6) (.tmp 33) (by rfl) w.heap.size 0 O (by rfl) (by rfl) (Ar HR.o _ Ag) bb.o cf.o ?_)
    |(go_at_call 139;refine Aj (T1.o _ (bB.o _ Z.o)) ?_;rintro w4 M;clear T1;replace HZ:=I (HZ.o.below M);replace HR:=I (HR.o.below M);replace Z:=Z.t M;clear M)
    |(refine wpList_store_mid (by rfl) 86 (.tmp 9) (.tmp 18) (by rfl) w4.heap.size 0 cs (by rfl) (by rfl) (Ar (Blk.new w4 86 Ax) _ (by have:=bq.o;simp;omega)) bn.o cb.o ?_;have hV:=Bj w4 86 Ax cs (by have:=bq.o;simp;omega);generalize ((w4.alloc (.cells Ax 86)).setCells w4.heap.size 0 cs.toList)=V at hV⊢;have HX:=I hV.1;replace HZ:=I (HZ.o.below hV.2);replace HR:=I (HR.o.below hV.2);replace Z:=I (Z.o.trans (hV.2.mono Z.o.size));clear hV)
    |(refine Am (by rfl) 86 (.tmp 9) (by rfl) w4.heap.size 0 (by rfl) cs _ (Ad HX.o) Tryz.underlying86 (by rfl) bn.o ?_)
    |(go_at_call 140;refine Calls.mono (EN.o _) ?_;rintro e we ⟨⟨v,i,rfl,hn,av⟩,M⟩;obtain⟨rfl,rfl⟩:=hn rfl;clear EN;replace HX:=I (HX.o.below M);replace HZ:=I (HZ.o.below M);replace HR:=I (HR.o.below M);replace Z:=Z.t M;clear M hn av)
    |fail)
   have hE:=AJ (ds:=O) HR.o (by rfl);have hp:=AP we w.heap.size O.toList;have hq:=Ao (P:=Tryz.prog) hE Tryz.underlying86 rfl bb.o;refine bodyPost_ret (v:=.tuple #[.agg O,.int .i64 2]) ?_ ?_ ?_
   ·exact Ae (v:=.agg O) 6 7 86 ⟨w.heap.size,0,none⟩ Tryz.results138 rfl hq rfl
   ·rfl
   exact⟨by rw[GE.o,IE.o],Az Z.o hp (by have:=HR.o.lt;omega) Ag⟩
  |some l=>
   rw[ho] at EN
   by_cases hlb:l=b
   ·have BF:=I (decide_eq_true hlb)
    have hD:ptD b=some (ptQ b).1:=by rw[ED.o,ho,if_pos (by rw[hlb])]
    have GE:=I (show(ptC (ptG b)).toArray=cs by rw[ptG,hD];exact bz.symm);have IE:=I (show ptI b=0 by rw[ptI,hD];rfl);clear ED ho hlb hD bz bs;go_enter Tryz.func138,Tryz.ntmps138
    go_upto_region 2 with fail
    rw[<-aw,<-eW];clear aw eW
    go_wp2_with (first
     |(refine Am (by rfl) 86 (.tmp 8) (by rfl) (w.heap.size+1) 0 (by rfl) O _ (Ad HZ.o) Tryz.underlying86 (by rfl) bb.o ?_)
     |(refine wpList_store_mid (by rfl) 86 (.tmp 6) (.tmp 34) (by rfl) w.heap.size 0 cs (by rfl) (by rfl) (Ar HR.o _ (by have:=cp.o;have:=bq.o;omega)) bn.o cb.o ?_)
     |(go_at_call 139;refine Aj (T1.o _ (bB.o _ Z.o)) ?_;rintro w4 M;clear T1;replace HZ:=I (HZ.o.below M);replace HR:=I (HR.o.below M);replace Z:=Z.t M;clear M)
     |(refine wpList_store_mid (by rfl) 86 (.tmp 9) (.tmp 18) (by rfl) w4.heap.size 0 cs (by rfl) (by rfl) (Ar (Blk.new w4 86 Ax) _ (by have:=bq.o;simp;omega)) bn.o cb.o ?_;have hV:=Bj w4 86 Ax cs (by have:=bq.o;simp;omega);generalize ((w4.alloc (.cells Ax 86)).setCells w4.heap.size 0 cs.toList)=V at hV⊢;have HX:=I hV.1;replace HZ:=I (HZ.o.below hV.2);replace HR:=I (HR.o.below hV.2);replace Z:=I (Z.o.trans (hV.2.mono Z.o.size));clear hV)
     |(refine Am (by rfl) 86 (.tmp 9) (by rfl) w4.heap.size 0 (by rfl) cs _ (Ad HX.o) Tryz.underlying86 (by rfl) bn.o ?_)
     |(go_at_call 140;refine Calls.mono (EN.o _) ?_;rintro e we ⟨⟨v,i,rfl,hn,av⟩,M⟩;obtain⟨rfl,gx,cx,rfl,cn,ck,bx⟩:=av l rfl;have cm:=I bx;clear cn ck bx;clear EN;replace HX:=I (HX.o.below M);replace HZ:=I (HZ.o.below M);replace HR:=I (HR.o.below M);replace Z:=Z.t M;clear M hn av)
     |(go_at_call 123;refine Calls.mono (BE.o l gx cx _ cm.o Z.o) ?_;rw[BF.o];rintro e wb ⟨rfl,hw⟩;subst hw;clear BE)
     |fail)
    have hE:=AJ (ds:=cs) HR.o (by have:=cp.o;have:=bq.o;omega);have hp:=AP we w.heap.size cs.toList;have hq:=Ao (P:=Tryz.prog) hE Tryz.underlying86 rfl bn.o;refine bodyPost_ret (v:=.tuple #[.agg cs,.int .i64 0]) ?_ ?_ ?_
    ·exact Ae (v:=.agg cs) 6 7 86 ⟨w.heap.size,0,none⟩ Tryz.results138 rfl hq rfl
    ·rfl
    exact⟨by rw[GE.o,IE.o],Az Z.o hp (by have:=HR.o.lt;omega) Ag⟩
   ·have BF:=I (decide_eq_false hlb)
    have hD:ptD b=none:=by rw[ED.o,ho,if_neg (fun h=>hlb (Option.some.inj h))]
    have GE:=I (show(ptC (ptG b)).toArray=O by rw[ptG,hD];exact bs);have IE:=I (show ptI b=2 by rw[ptI,hD];rfl);clear ED ho hlb hD bz bs;go_enter Tryz.func138,Tryz.ntmps138
    go_upto_region 2 with fail
    rw[<-aw,<-eW];clear aw eW
    go_wp2_with (first
     |(refine Am (by rfl) 86 (.tmp 8) (by rfl) (w.heap.size+1) 0 (by rfl) O _ (Ad HZ.o) Tryz.underlying86 (by rfl) bb.o ?_)
     |(refine wpList_store_mid (by rfl) 86 (.tmp 6) (.tmp 33) (by rfl) w.heap.size 0 O (by rfl) (by rfl) (Ar HR.o _ Ag) bb.o cf.o ?_)
     |(go_at_call 139;refine Aj (T1.o _ (bB.o _ Z.o)) ?_;rintro w4 M;clear T1;replace HZ:=I (HZ.o.below M);replace HR:=I (HR.o.below M);replace Z:=Z.t M;clear M)
     |(refine wpList_store_mid (by rfl) 86 (.tmp 9) (.tmp 18) (by rfl) w4.heap.size 0 cs (by rfl) (by rfl) (Ar (Blk.new w4 86 Ax) _ (by have:=bq.o;simp;omega)) bn.o cb.o ?_;have hV:=Bj w4 86 Ax cs (by have:=bq.o;simp;omega);generalize ((w4.alloc (.cells Ax 86)).setCells w4.heap.size 0 cs.toList)=V at hV⊢;have HX:=I hV.1;replace HZ:=I (HZ.o.below hV.2);replace HR:=I (HR.o.below hV.2);replace Z:=I (Z.o.trans (hV.2.mono Z.o.size));clear hV)
     |(refine Am (by rfl) 86 (.tmp 9) (by rfl) w4.heap.size 0 (by rfl) cs _ (Ad HX.o) Tryz.underlying86 (by rfl) bn.o ?_)
     |(go_at_call 140;refine Calls.mono (EN.o _) ?_;rintro e we ⟨⟨v,i,rfl,hn,av⟩,M⟩;obtain⟨rfl,gx,cx,rfl,cn,ck,bx⟩:=av l rfl;have cm:=I bx;clear cn ck bx;clear EN;replace HX:=I (HX.o.below M);replace HZ:=I (HZ.o.below M);replace HR:=I (HR.o.below M);replace Z:=Z.t M;clear M hn av)
     |(go_at_call 123;refine Calls.mono (BE.o l gx cx _ cm.o Z.o) ?_;rw[BF.o];rintro e wb ⟨rfl,hw⟩;subst hw;clear BE)
     |fail)
    have hE:=AJ (ds:=O) HR.o (by rfl);have hp:=AP we w.heap.size O.toList;have hq:=Ao (P:=Tryz.prog) hE Tryz.underlying86 rfl bb.o;refine bodyPost_ret (v:=.tuple #[.agg O,.int .i64 2]) ?_ ?_ ?_
    ·exact Ae (v:=.agg O) 6 7 86 ⟨w.heap.size,0,none⟩ Tryz.results138 rfl hq rfl
    ·rfl
    exact⟨by rw[GE.o,IE.o],Az Z.o hp (by have:=HR.o.lt;omega) Ag⟩
 ·have t1:decide ((2000:Int)<(b.length:Int))=true:=decide_eq_true (by omega)
  have hD:ptD b=none:=by
   rw[ED.o,if_neg];intro h;have h2:=BR.1 h;exact hl (by rw[<-h2.2.2];exact h2.2.1)
  have GE:=I (show(ptC (ptG b)).toArray=O by rw[ptG,hD];exact bs);have IE:=I (show ptI b=2 by rw[ptI,hD];rfl);clear ED hD hl bs hr bB;go_enter Tryz.func138,Tryz.ntmps138
  go_upto_region 2 with fail
  rw[<-aw,<-eW];clear aw eW
  go_wp2_with (first
   |(refine Am (by rfl) 86 (.tmp 8) (by rfl) (w.heap.size+1) 0 (by rfl) O _ (Ad HZ.o) Tryz.underlying86 (by rfl) bb.o ?_)
   |(refine wpList_store_mid (by rfl) 86 (.tmp 6) (.tmp 15) (by rfl) w.heap.size 0 O (by rfl) (by rfl) (Ar HR.o _ Ag) bb.o cf.o ?_)
   |fail)
  have hE:=AJ (ds:=O) HR.o (by rfl);have hp:=AP W w.heap.size O.toList;have hq:=Ao (P:=Tryz.prog) hE Tryz.underlying86 rfl bb.o;refine bodyPost_ret (v:=.tuple #[.agg O,.int .i64 2]) ?_ ?_ ?_
  ·exact Ae (v:=.agg O) 6 7 86 ⟨w.heap.size,0,none⟩ Tryz.results138 rfl hq rfl
  ·rfl
  exact⟨by rw[GE.o,IE.o],Az Z.o hp (by have:=HR.o.lt;omega) Ag⟩
theorem JQ (A:Option Addr) (b:L) (c:Nat) (w:World) (hr:Rd w w.heap.size A (bvs b)):Calls Tryz.prog 91 #[.slice A b.length c] w fun e w'=>e=.returned (.tuple #[.agg (ptC (ptG b)).toArray,.int .i64 (ptI b)])/\Below w.heap.size w w':=by
 obtain⟨zz,Z⟩:∃z:Array Value,z=#[.string ⟨#[]⟩,.string ⟨#[]⟩,.int .u8 0,.int .u8 0,.int .u8 0,.int .u8 0,.int .u8 0,.int .u8 0,.int .u8 0,.int .u8 0,.int .u8 0,.int .u8 0,.int .u8 0,.int .u8 0,.int .u8 0,.int .u8 0,.int .u8 0,.int .u8 0,.int .u8 0,.int .u8 0,.int .u8 0,.int .u8 0,.int .u8 0,.int .u8 0,.int .u8 0,.int .u8 0,.int .u8 0,.int .u8 0,.int .u8 0,.int .u8 0,.int .u8 0,.int .u8 0,.int .u8 0,.int .u8 0,.string ⟨#[]⟩,.int .i64 0,.int .i64 0]:=⟨_,rfl⟩;have bb:zz.size=37:=by rw[Z];simp
 have M:(ptC (ptG b)).toArray.size=37:=by exact FE (OW b)
 have O:(ptC (ptG b)).toArray.all (·.oneCell')=true:=LQ _ _ _ _ _;have c1:=US A b c (w.alloc (.cells zz 86)) ((hr.alloc Ag _).more (by simp));obtain⟨cs,bn⟩:=Ak ((ptC (ptG b)).toArray);rw[<-bn] at M O c1⊢;have HI:=I (show(Tryz.prog.info? 86).map (·.size)=some cs.size by rw[M];kernel_rfl);have HO:=I O;have aw:=I M;have av:=I bb;have HR:=I (Blk.new w 86 zz);have HG:=I ((Below.refl w.heap.size w).alloc Ag (.cells zz 86));clear M O bb bn hr;go_enter Tryz.func91,Tryz.ntmps91
 go_upto_region 1 with fail
 rw[<-Z];clear Z
 go_wp2_with (first
  |(go_at_call 138;refine Aj c1 ?_;rintro w1 hb;clear c1;replace HR:=I (HR.o.below hb);replace HG:=HG.t hb;clear hb)
  |(refine wpList_store_mid (by rfl) 86 (.tmp 2) (.tmp 6) (by rfl) w.heap.size 0 cs (by rfl) (by rfl) (Ar HR.o _ (by have:=av.o;have:=aw.o;omega)) HI.o HO.o ?_)
  |fail)
 have hE:=AJ (ds:=cs) HR.o (by have:=av.o;have:=aw.o;omega);have hp:=AP w1 w.heap.size cs.toList;have hq:=Ao (P:=Tryz.prog) hE Tryz.underlying86 rfl HI.o;refine bodyPost_ret (v:=.tuple #[.agg cs,.int .i64 (ptI b)]) ?_ ?_ ?_
 ·exact Ae (v:=.agg cs) 2 3 86 ⟨w.heap.size,0,none⟩ Tryz.results91 rfl hq rfl
 ·rfl
 exact⟨rfl,Az HG.o hp (by have:=HR.o.lt;omega) Ag⟩
def AsV (cs:Array Value) (q:As):Prop:=cs=(asC q).toArray
def FaV (cs:Array Value) (q:Fa):Prop:=cs=(faC q).toArray
def TgV (w:World) (B:Nat) (cs:Array Value) (q:Tg):Prop:=∃b a,cs=(tgC q b a).toArray/\SlB w B b q.t.b/\SlB w B a q.a
def ReV (w:World) (B:Nat) (cs:Array Value) (q:Re):Prop:=∃b a,cs=(reC q b a).toArray/\SlB w B b q.t.b/\SlB w B a q.b
def ApV (w:World) (B:Nat) (cs:Array Value) (q:Ap):Prop:=∃b a,cs=(apC q b a).toArray/\SlB w B b q.t.b/\SlB w B a q.a
section
variable {w w':World} {B B':Nat} {cs:Array Value}
theorem TgV.keep {q:Tg} (h:TgV w B cs q) (M:Below B w w'):TgV w' B cs q:=by obtain⟨b,a,h1,O,Z⟩:=h;exact⟨b,a,h1,O.keep M,Z.keep M⟩
theorem ReV.keep {q:Re} (h:ReV w B cs q) (M:Below B w w'):ReV w' B cs q:=by obtain⟨b,a,h1,O,Z⟩:=h;exact⟨b,a,h1,O.keep M,Z.keep M⟩
theorem ApV.keep {q:Ap} (h:ApV w B cs q) (M:Below B w w'):ApV w' B cs q:=by obtain⟨b,a,h1,O,Z⟩:=h;exact⟨b,a,h1,O.keep M,Z.keep M⟩
theorem TgV.more {q:Tg} (h:TgV w B cs q) (hB:B<=B'):TgV w B' cs q:=by obtain⟨b,a,Z,M,O⟩:=h;exact⟨b,a,Z,M.more hB,O.more hB⟩
theorem ReV.more {q:Re} (h:ReV w B cs q) (hB:B<=B'):ReV w B' cs q:=by obtain⟨b,a,Z,M,O⟩:=h;exact⟨b,a,Z,M.more hB,O.more hB⟩
theorem ApV.more {q:Ap} (h:ApV w B cs q) (hB:B<=B'):ApV w B' cs q:=by obtain⟨b,a,Z,M,O⟩:=h;exact⟨b,a,Z,M.more hB,O.more hB⟩
theorem Ij {v:Value} {l:L} (h:SlB w B v l):v.oneCell'=true:=by obtain⟨A,c,rfl,_⟩:=h;rfl
theorem AsV.size {q:As} (h:AsV cs q):cs.size=6:=by rw[h];rfl
theorem FaV.size {q:Fa} (h:FaV cs q):cs.size=2:=by rw[h];rfl
theorem TgV.size {q:Tg} (h:TgV w B cs q):cs.size=9:=by obtain⟨b,a,M,_⟩:=h;rw[M];rfl
theorem ReV.size {q:Re} (h:ReV w B cs q):cs.size=7:=by obtain⟨b,a,M,_⟩:=h;rw[M];rfl
theorem ApV.size {q:Ap} (h:ApV w B cs q):cs.size=5:=by obtain⟨b,a,M,_⟩:=h;rw[M];rfl
def One (cs:Array Value):Prop:=cs.all (·.oneCell')=true
theorem AsV.one {q:As} (h:AsV cs q):One cs:=by
 rw[h];refine all_oneCell_toArray fun v M=>?_
 simp only[asC,List.mem_cons,List.not_mem_nil,or_false] at M;rcases M with rfl | rfl | rfl | rfl | rfl | rfl<;>rfl
theorem FaV.one {q:Fa} (h:FaV cs q):One cs:=by
 rw[h];refine all_oneCell_toArray fun v M=>?_
 simp only[faC,List.mem_cons,List.not_mem_nil,or_false] at M;rcases M with rfl | rfl<;>rfl
theorem TgV.one {q:Tg} (h:TgV w B cs q):One cs:=by
 obtain⟨b,a,h1,O,Z⟩:=h;rw[h1];refine all_oneCell_toArray fun v M=>?_
 simp only[tgC,tkC,List.mem_append,List.mem_cons,List.not_mem_nil,or_false] at M;rcases M with(rfl | rfl | rfl | rfl) | rfl | rfl | rfl | rfl | rfl
 all_goals first | rfl | exact Ij O | exact Ij Z
theorem ReV.one {q:Re} (h:ReV w B cs q):One cs:=by
 obtain⟨b,a,h1,O,Z⟩:=h;rw[h1];refine all_oneCell_toArray fun v M=>?_
 simp only[reC,prC,tkC,List.mem_append,List.mem_cons,List.not_mem_nil,or_false] at M;rcases M with(rfl | rfl) | (rfl | rfl | rfl | rfl) | rfl
 all_goals first | rfl | exact Ij O | exact Ij Z
theorem ApV.one {q:Ap} (h:ApV w B cs q):One cs:=by
 obtain⟨b,a,h1,O,Z⟩:=h;rw[h1];refine all_oneCell_toArray fun v M=>?_
 simp only[apC,tkC,List.mem_append,List.mem_cons,List.not_mem_nil,or_false] at M;rcases M with(rfl | rfl | rfl | rfl) | rfl
 all_goals first | rfl | exact Ij O | exact Ij Z
end
def mgA (k:Int) (pa pt pr pp pf:Array Value):Array Value:=(Value.int .i64 k :: (pa.toList++(pt.toList++(pr.toList++(pp.toList++pf.toList))))).toArray
structure MgP (w:World) (B:Nat) (pa pt pr pp pf:Array Value) (m:Mg):Prop where
 a:AsV pa m.aq
 t:TgV w B pt m.tg
 r:ReV w B pr m.re
 p:ApV w B pp m.ap
 f:FaV pf m.fa
def MgV (w:World) (B:Nat) (cs:Array Value) (m:Mg):Prop:=∃pa pt pr pp pf,cs=mgA m.k pa pt pr pp pf/\MgP w B pa pt pr pp pf m
section
variable {w w':World} {B B':Nat} {cs pa pt pr pp pf:Array Value} {m:Mg}
theorem MgP.keep (h:MgP w B pa pt pr pp pf m) (M:Below B w w'):MgP w' B pa pt pr pp pf m:=⟨h.a,h.t.keep M,h.r.keep M,h.p.keep M,h.f⟩
theorem MgP.more (h:MgP w B pa pt pr pp pf m) (hB:B<=B'):MgP w B' pa pt pr pp pf m:=⟨h.a,h.t.more hB,h.r.more hB,h.p.more hB,h.f⟩
theorem MgV.keep (h:MgV w B cs m) (O:Below B w w'):MgV w' B cs m:=by obtain⟨pa,pt,pr,pp,pf,Z,M⟩:=h;exact⟨pa,pt,pr,pp,pf,Z,M.keep O⟩
theorem MgV.more (h:MgV w B cs m) (hB:B<=B'):MgV w B' cs m:=by obtain⟨pa,pt,pr,pp,pf,O,M⟩:=h;exact⟨pa,pt,pr,pp,pf,O,M.more hB⟩
theorem MgP.sizes (h:MgP w B pa pt pr pp pf m):pa.size=6/\pt.size=9/\pr.size=7/\pp.size=5/\pf.size=2:=⟨h.a.size,h.t.size,h.r.size,h.p.size,h.f.size⟩
theorem MgP.size (h:MgP w B pa pt pr pp pf m) (k:Int):(mgA k pa pt pr pp pf).size=30:=by
 obtain⟨h1,M,O,h4,Z⟩:=h.sizes;simp [mgA,h1,M,O,h4,Z]
theorem MgP.one (h:MgP w B pa pt pr pp pf m) (k:Int):One (mgA k pa pt pr pp pf):=by
 refine all_oneCell_toArray fun v M=>?_
 simp only[List.mem_cons,List.mem_append] at M;have key:∀{cs:Array Value},One cs->v∈cs.toList->v.oneCell'=true:=fun Z O=>Array.all_eq_true_iff_forall_mem.1 Z v (by simpa using O)
 rcases M with rfl | M | M | M | M | M
 ·rfl
 ·exact key h.a.one M
 ·exact key h.t.one M
 ·exact key h.r.one M
 ·exact key h.p.one M
 ·exact key h.f.one M
theorem Eb {g:Nat} {t:TypeId} {pre mid post:List Value} (h:Blk w g t cs) (hc:cs.toList=pre++(mid++post)) (o:Nat) (Z:o=pre.length):w.rangeAt g o mid:=fun j v M=>by
 subst Z;have O:j<mid.length:=(List.getElem?_eq_some_iff.1 M).1;rw[h.cell,<-Array.getElem?_toList,hc,List.getElem?_append_right (by omega),Nat.add_sub_cancel_left,List.getElem?_append_left O];exact M
structure At (w:World) (g:Nat) (k:Int) (pa pt pr pp pf:Array Value):Prop where
 k:w.cell? ⟨g,0,none⟩=some (.int .i64 k)
 a:w.rangeAt g 1 pa.toList
 t:w.rangeAt g 7 pt.toList
 r:w.rangeAt g 16 pr.toList
 p:w.rangeAt g 23 pp.toList
 f:w.rangeAt g 28 pf.toList
theorem MgP.at_ (h:MgP w' B pa pt pr pp pf m) {g:Nat} {k:Int} {t:TypeId} (M:Blk w g t (mgA k pa pt pr pp pf)):At w g k pa pt pr pp pf:=by
 obtain⟨O,Z,h3,h4,h5⟩:=h.sizes;refine⟨by rw[M.cell];rfl,?_,?_,?_,?_,?_⟩
 ·exact Eb (pre:=[.int .i64 k]) (post:=pt.toList++(pr.toList++(pp.toList++pf.toList))) M (by simp [mgA]) 1 rfl
 ·exact Eb (pre:=.int .i64 k :: pa.toList) (post:=pr.toList++(pp.toList++pf.toList)) M (by simp [mgA]) 7 (by simp [O])
 ·exact Eb (pre:=.int .i64 k :: (pa.toList++pt.toList)) (post:=pp.toList++pf.toList) M (by simp [mgA]) 16 (by simp [O,Z])
 ·exact Eb (pre:=.int .i64 k :: (pa.toList++(pt.toList++pr.toList))) (post:=pf.toList) M (by simp [mgA]) 23 (by simp [O,Z,h3])
 ·exact Eb (pre:=.int .i64 k :: (pa.toList++(pt.toList++(pr.toList++pp.toList)))) (post:=[]) M (by simp [mgA]) 28 (by simp [O,Z,h3,h4])
end
theorem Cq:(Tryz.prog.info? 126).map (·.size)=some 6:=by kernel_rfl
theorem Db:(Tryz.prog.info? 128).map (·.size)=some 9:=by kernel_rfl
theorem DC:(Tryz.prog.info? 130).map (·.size)=some 7:=by kernel_rfl
theorem Ef:(Tryz.prog.info? 124).map (·.size)=some 5:=by kernel_rfl
theorem FM:(Tryz.prog.info? 132).map (·.size)=some 2:=by kernel_rfl
theorem AZ:(Tryz.prog.info? 134).map (·.size)=some 30:=by kernel_rfl
theorem AF {P:Program} {ops:Array Oper} {rest:List Oper} {op:Oper} {a:Act} {w:World} {Q:Exit->Act->World->Prop} (hw:Region.wanted op (yielded ops a.tmps)=true) (ty:TypeId) (x:Operand) (M:op.op=.load ty x)
  (g o:Nat) (hx:a.eval x=.pointer (some ⟨g,o,none⟩)) (cs:Array Value) (d:TypeDesc) (Z:w.rangeAt g o cs.toList)
  (hu:P.underlying ty=some d) (O:d.isRow=true) (hi:(P.info? ty).map (·.size)=some cs.size)
  (h:wpList P ops Q rest (a.put op.dst (.agg cs)) w):wpList P ops Q (op :: rest) a w:=
 BigFrame.wpList_want hw fun _ hK=>wp_load_mid ty x M g o hx cs.toList d Z hu O (by rw[Array.length_toList];exact hi) (by simpa using hK _ _ h)
theorem JR {w:World} {g o:Nat} {t:TypeId} {cs ps ds:Array Value} {pre mid post:List Value} (h:Blk w g t cs) (O:cs.toList=pre++(mid++post)) (ho:o=pre.length) (hm:mid.length=ps.size) (hd:ds=(pre++(ps.toList++post)).toArray):Blk (w.setCells g o ps.toList) g t ds:=by
 subst ho;have hs:cs.size=pre.length+(mid.length+post.length):=by rw[<-Array.length_toList,O];simp
 obtain⟨es,h1,h2,h3,Z⟩:=Bn ps.toList pre.length w cs h (by simp;omega);have e:es=ds:=by
  apply Array.ext_getElem?;intro i;rw[hd,show(pre++(ps.toList++post)).toArray[i]? = (pre++(ps.toList++post))[i]? by simp];have M:∀i,cs[i]? = (pre++(mid++post))[i]?:=fun i=>by rw[<-O,Array.getElem?_toList]
  by_cases hi:i<pre.length
  ·rw[Z i (.inl hi),M,List.getElem?_append_left hi,List.getElem?_append_left hi]
  ·by_cases hj:i<pre.length+ps.size
   ·rw[h3 i (by omega) (by simpa using hj),List.getElem?_append_right (by omega),List.getElem?_append_left (by simp;omega)]
   ·rw[Z i (.inr (by simp;omega)),M,List.getElem?_append_right (by omega),List.getElem?_append_right (by omega),List.getElem?_append_right (by omega),List.getElem?_append_right (by simp;omega),hm]
    simp
 rw[<-e];exact h1
theorem Cw {w:World} {g:Nat} {t:TypeId} {cs:Array Value} (h:Blk w g t cs) (o n:Nat) (O:o+n<=cs.size):w.there g o n:=fun j M=>by
 rw[h.cell,Array.getElem?_eq_getElem (by omega)];exact⟨rfl,h.frozen _⟩
theorem Fh (w:World) (g o:Nat) (M:List Value):w.grownBy (w.setCells g o M) (some g):=Fg (.inl rfl) M o w (World.grownBy.refl _ _)
theorem Rr (g:Nat) (c:Option L) (w:World) (h:Cur w g c) (hs:(c.getD []).length<=100000):Calls Tryz.prog 127 #[.pointer (some ⟨g,0,none⟩)] w fun e w'=>∃z1,∃z2,e=.returned (.agg #[.string ⟨(tgQ c).1.t.s.1.toArray⟩,.string ⟨(tgQ c).1.t.s.2.toArray⟩,.int .i64 (tgQ c).1.t.k,z1,z2,.string ⟨(tgQ c).1.s.1.toArray⟩,.string ⟨(tgQ c).1.s.2.toArray⟩,.int .i64 (tgQ c).1.u,.int .i64 (tgQ c).1.no])/\OwnB w' w.heap.size z1 (tgQ c).1.t.b/\OwnB w' w.heap.size z2 (tgQ c).1.a/\Cur w' g (tgQ c).2/\w.grownBy w' (some g):=by
 obtain⟨W,eW⟩:=Ak (w.alloc (.cells #[.string ⟨#[]⟩,.string ⟨#[]⟩,.int .i64 0,.slice none 0 0,.slice none 0 0,.string ⟨#[]⟩,.string ⟨#[]⟩,.int .i64 0,.int .i64 0] 128));have cw:W.heap.size=w.heap.size+1:=by rw[eW];simp
 have O:=I (show Blk W w.heap.size 128 #[.string ⟨#[]⟩,.string ⟨#[]⟩,.int .i64 0,.slice none 0 0,.slice none 0 0,.string ⟨#[]⟩,.string ⟨#[]⟩,.int .i64 0,.int .i64 0] by rw[eW];exact Blk.new _ _ _);have cu:=Df h;have HC:=I (show Cur W g c by rw[eW];exact h.alloc _);have HG:=I (show w.grownBy W (some g) by rw[eW];exact DJ (World.grownBy.refl _ _) _);have bz:=hs;obtain⟨s0,es0⟩:∃s,s=c:=⟨_,rfl⟩;rw[<-es0] at HC bz;have Z:=I cu;have av:=I (show w.heap.size<W.heap.size by omega);have cg:(((tkQ s0).2).getD []).length<=100000:=BV 97 bz;have T1:=I (fun g w h=>Ee g s0 w h bz);obtain⟨v1,ck⟩:∃x:Tk,x=(tkQ s0).1:=⟨_,rfl⟩;obtain⟨s1,bb⟩:∃s,s=(tkQ s0).2:=⟨_,rfl⟩;rw[<-ck,<-bb] at T1;rw[<-bb] at cg;have bB:((Bc 4 s1).getD []).length<=100000:=BV 4 cg;have T2:=I (fun g w h=>DT g s1 w h (by omega));obtain⟨v2,cb⟩:∃x:L,x=ocC s1:=⟨_,rfl⟩;obtain⟨s2,es2⟩:∃s,s=Bc 4 s1:=⟨_,rfl⟩;rw[<-cb,<-es2] at T2;rw[<-es2] at bB;have cj:(((prQ s2).2).getD []).length<=100000:=BV 48 bB;have T3:=I (fun g w h=>BO g s2 w h bB);obtain⟨v3,cf⟩:∃x:Pr,x=(prQ s2).1:=⟨_,rfl⟩;obtain⟨s3,bq⟩:∃s,s=(prQ s2).2:=⟨_,rfl⟩;rw[<-cf,<-bq] at T3;rw[<-bq] at cj;have cc:(((intC s3).2).getD []).length<=100000:=FL cj;have T4:=I (fun g w h=>BN g s3 w h (by omega));obtain⟨v4,cd⟩:∃x:Int,x=((intC s3).1:Int):=⟨_,rfl⟩;obtain⟨s4,bs⟩:∃s,s=(intC s3).2:=⟨_,rfl⟩;rw[<-cd,<-bs] at T4;rw[<-bs] at cc;have cp:(((intC s4).2).getD []).length<=100000:=FL cc;have T5:=I (fun g w h=>BN g s4 w h (by omega));obtain⟨v5,ca⟩:∃x:Int,x=((intC s4).1:Int):=⟨_,rfl⟩;obtain⟨s5,bx⟩:∃s,s=(intC s4).2:=⟨_,rfl⟩;rw[<-ca,<-bx] at T5;rw[<-bx] at cp;have cm:=I (show(tgQ c).1.t=v1 by rw[ck,es0];rfl);have ct:=I (show(tgQ c).1.a=v2 by rw[cb,bb,es0];rfl);have cr:=I (show(tgQ c).1.s=v3 by rw[cf,es2,bb,es0];rfl);have cq:=I (show(tgQ c).1.u=v4 by rw[cd,bq,es2,bb,es0];rfl);have cn:=I (show(tgQ c).1.no=v5 by rw[ca,bs,bq,es2,bb,es0];rfl);have FS:=I (show(tgQ c).2=s5 by rw[bx,bs,bq,es2,bb,es0];rfl);rw[cm.o,ct.o,cr.o,cq.o,cn.o,FS.o];clear h hs bz cg bB cj cc cp cm ck bb ct cb es2 cr cf bq cq cd bs cn ca bx es0 FS cu;have cx:=I cw;clear cw;subst eW;go_enter Tryz.func127,Tryz.ntmps127
 go_wp2_with (first
  |(go_at_call 170;(with_reducible refine Calls.mono (T1.o _ _ HC.o) ?_);rintro e w1 ⟨y,rfl,ho,hd,M⟩;clear T1;replace ho:=ho.less (show w.heap.size+1<=_ from av.o);obtain⟨b1,c1,rfl,x1,x2,x3,x4⟩:=ho;have aw:Hid (OwnB w1 (w.heap.size+1) (.slice (some ⟨b1,0,none⟩) _ c1) _):=I ⟨b1,c1,rfl,x1,x2,x3,x4⟩;clear x1 x2 x3 x4;replace HC:=I hd;replace O:=I (O.o.grown M (by intro e;injection e with e;have:=Z.o;omega));replace HG:=I (CZ HG.o M);replace av:=I (Nat.lt_of_lt_of_le av.o M.size);clear hd M)
  |(go_at_call 171;(with_reducible refine Calls.mono (T2.o _ _ HC.o) ?_);rintro e w2 ⟨⟨y,rfl,ho⟩,hd,M⟩;clear T2;replace ho:=ho.less (show w.heap.size+1<=_ from av.o);obtain⟨b2,c2,rfl,x1,x2,x3,x4⟩:=ho;have bn:Hid (OwnB w2 (w.heap.size+1) (.slice (some ⟨b2,0,none⟩) _ c2) _):=I ⟨b2,c2,rfl,x1,x2,x3,x4⟩;clear x1 x2 x3 x4;replace HC:=I hd;replace aw:=I (aw.o.keep M (by have:=Z.o;omega));replace O:=I (O.o.grown M (by intro e;injection e with e;have:=Z.o;omega));replace HG:=I (CZ HG.o M);replace av:=I (Nat.lt_of_lt_of_le av.o M.size);clear hd M)
  |(go_at_call 168;(with_reducible refine Calls.mono (T3.o _ _ HC.o) ?_);rintro e w3 ⟨rfl,hd,M⟩;clear T3;replace HC:=I hd;replace aw:=I (aw.o.keep M (by have:=Z.o;omega));replace bn:=I (bn.o.keep M (by have:=Z.o;omega));replace O:=I (O.o.grown M (by intro e;injection e with e;have:=Z.o;omega));replace HG:=I (CZ HG.o M);replace av:=I (Nat.lt_of_lt_of_le av.o M.size);clear hd M)
  |(go_at_call 169;(with_reducible refine Calls.mono (T4.o _ _ HC.o) ?_);rintro e w4 ⟨rfl,hd,M⟩;clear T4;replace HC:=I hd;replace aw:=I (aw.o.keep M (by have:=Z.o;omega));replace bn:=I (bn.o.keep M (by have:=Z.o;omega));replace O:=I (O.o.grown M (by intro e;injection e with e;have:=Z.o;omega));replace HG:=I (CZ HG.o M);replace av:=I (Nat.lt_of_lt_of_le av.o M.size);clear hd M)
  |(go_at_call 169;(with_reducible refine Calls.mono (T5.o _ _ HC.o) ?_);rintro e w5 ⟨rfl,hd,M⟩;clear T5;replace HC:=I hd;replace aw:=I (aw.o.keep M (by have:=Z.o;omega));replace bn:=I (bn.o.keep M (by have:=Z.o;omega));replace O:=I (O.o.grown M (by intro e;injection e with e;have:=Z.o;omega));replace HG:=I (CZ HG.o M);replace av:=I (Nat.lt_of_lt_of_le av.o M.size);clear hd M;have n0:=O.c0;have y0:=O.o.frozen 0;have n1:=O.c1;have y1:=O.o.frozen 1;have n2:=O.c2;have y2:=O.o.frozen 2;have n3:=O.c3;have y3:=O.o.frozen 3;have n4:=O.c4;have y4:=O.o.frozen 4;have n5:=O.c5;have y5:=O.o.frozen 5;have n6:=O.c6;have y6:=O.o.frozen 6;have n7:=O.c7;have y7:=O.o.frozen 7;have n8:=O.c8;have y8:=O.o.frozen 8)
  |fail)
 have hE:Blk (((((((((w5.setCell ⟨w.heap.size,0,none⟩ (.string ⟨v1.s.1.toArray⟩)).setCell ⟨w.heap.size,1,none⟩ (.string ⟨v1.s.2.toArray⟩)).setCell ⟨w.heap.size,2,none⟩ (.int .i64 v1.k)).setCell ⟨w.heap.size,3,none⟩ (.slice (some ⟨b1,0,none⟩) v1.b.length c1)).setCell ⟨w.heap.size,4,none⟩ (.slice (some ⟨b2,0,none⟩) v2.length c2)).setCell ⟨w.heap.size,5,none⟩ (.string ⟨v3.1.toArray⟩)).setCell ⟨w.heap.size,6,none⟩ (.string ⟨v3.2.toArray⟩)).setCell ⟨w.heap.size,7,none⟩ (.int .i64 v4)).setCell ⟨w.heap.size,8,none⟩ (.int .i64 v5)) w.heap.size 128 #[.string ⟨v1.s.1.toArray⟩,.string ⟨v1.s.2.toArray⟩,.int .i64 v1.k,.slice (some ⟨b1,0,none⟩) v1.b.length c1,.slice (some ⟨b2,0,none⟩) v2.length c2,.string ⟨v3.1.toArray⟩,.string ⟨v3.2.toArray⟩,.int .i64 v4,.int .i64 v5]:=(((((((((O.o.set 0 (.string ⟨v1.s.1.toArray⟩)).set 1 (.string ⟨v1.s.2.toArray⟩)).set 2 (.int .i64 v1.k)).set 3 (.slice (some ⟨b1,0,none⟩) v1.b.length c1)).set 4 (.slice (some ⟨b2,0,none⟩) v2.length c2)).set 5 (.string ⟨v3.1.toArray⟩)).set 6 (.string ⟨v3.2.toArray⟩)).set 7 (.int .i64 v4)).set 8 (.int .i64 v5));have hp:=(AM (AM (AM (AM (AM (AM (AM (AM (AM (World.grownBy.refl w5 (some w.heap.size)) (p:=⟨w.heap.size,0,none⟩) (.inl rfl) (.string ⟨v1.s.1.toArray⟩)) (p:=⟨w.heap.size,1,none⟩) (.inl rfl) (.string ⟨v1.s.2.toArray⟩)) (p:=⟨w.heap.size,2,none⟩) (.inl rfl) (.int .i64 v1.k)) (p:=⟨w.heap.size,3,none⟩) (.inl rfl) (.slice (some ⟨b1,0,none⟩) v1.b.length c1)) (p:=⟨w.heap.size,4,none⟩) (.inl rfl) (.slice (some ⟨b2,0,none⟩) v2.length c2)) (p:=⟨w.heap.size,5,none⟩) (.inl rfl) (.string ⟨v3.1.toArray⟩)) (p:=⟨w.heap.size,6,none⟩) (.inl rfl) (.string ⟨v3.2.toArray⟩)) (p:=⟨w.heap.size,7,none⟩) (.inl rfl) (.int .i64 v4)) (p:=⟨w.heap.size,8,none⟩) (.inl rfl) (.int .i64 v5));have hq:=Ao (P:=Tryz.prog) hE Tryz.underlying128 rfl (by kernel_rfl);refine bodyPost_ret (v:=.agg #[.string ⟨v1.s.1.toArray⟩,.string ⟨v1.s.2.toArray⟩,.int .i64 v1.k,.slice (some ⟨b1,0,none⟩) v1.b.length c1,.slice (some ⟨b2,0,none⟩) v2.length c2,.string ⟨v3.1.toArray⟩,.string ⟨v3.2.toArray⟩,.int .i64 v4,.int .i64 v5]) ?_ ?_ ?_
 ·exact Au 2 128 ⟨w.heap.size,0,none⟩ Tryz.results127 rfl hq
 ·rfl
 exact⟨_,_,rfl,(aw.o.keep hp (by omega)).less (by omega),(bn.o.keep hp (by omega)).less (by omega),Da HC.o hp (by have:=Z.o;omega),Hj HG.o hp Ag⟩
def zA:Array Value:=(asC as0).toArray
def zT:Array Value:=(tgC tg0 (.slice none 0 0) (.slice none 0 0)).toArray
def zR:Array Value:=(reC re0 (.slice none 0 0) (.slice none 0 0)).toArray
def zP:Array Value:=(apC ap0 (.slice none 0 0) (.slice none 0 0)).toArray
def zF:Array Value:=(faC fa0).toArray
theorem zA_v:AsV zA as0:=rfl
theorem zF_v:FaV zF fa0:=rfl
theorem zT_v (w:World) (B:Nat):TgV w B zT tg0:=⟨_,_,rfl,SlB.nil w B,SlB.nil w B⟩
theorem zR_v (w:World) (B:Nat):ReV w B zR re0:=⟨_,_,rfl,SlB.nil w B,SlB.nil w B⟩
theorem zP_v (w:World) (B:Nat):ApV w B zP ap0:=⟨_,_,rfl,SlB.nil w B,SlB.nil w B⟩
theorem zM_v (w:World) (B:Nat) (k:Int):MgP w B zA zT zR zP zF ⟨k,as0,tg0,re0,ap0,fa0⟩:=⟨zA_v,zT_v w B,zR_v w B,zP_v w B,zF_v⟩
def nm (m:Mg):Mg:=if m.k=1 then ⟨1,m.aq,tg0,re0,ap0,fa0⟩ else if m.k=2 then ⟨2,as0,m.tg,re0,ap0,fa0⟩ else if m.k=3 then ⟨3,as0,tg0,m.re,ap0,fa0⟩ else if m.k=4 then ⟨4,as0,tg0,re0,m.ap,fa0⟩ else if m.k=5 then ⟨5,as0,tg0,re0,ap0,m.fa⟩ else ⟨m.k,as0,tg0,re0,ap0,fa0⟩
theorem LS (k:Int):Tryz.prog.built 134 [(0,.int .i64 k)]=some (mgA k zA zT zR zP zF):=by kernel_rfl
theorem UT (cs:Array Value) (m:Mg) (w:World) (h:MgV w w.heap.size cs m):Calls Tryz.prog 173 #[.agg cs] w fun e w'=>∃ds,e=.returned (.agg ds)/\MgV w' w'.heap.size ds (nm m)/\Below w.heap.size w w':=by
 obtain⟨pa,pt,pr,pp,pf,hc,hp⟩:=h;obtain⟨zz,av⟩:∃z:Array Value,z=#[.int .i64 0,.string ⟨#[]⟩,.string ⟨#[]⟩,.string ⟨#[]⟩,.string ⟨#[]⟩,.int .i64 0,.int .i64 0,.string ⟨#[]⟩,.string ⟨#[]⟩,.int .i64 0,.slice none 0 0,.slice none 0 0,.string ⟨#[]⟩,.string ⟨#[]⟩,.int .i64 0,.int .i64 0,.string ⟨#[]⟩,.string ⟨#[]⟩,.string ⟨#[]⟩,.string ⟨#[]⟩,.int .i64 0,.slice none 0 0,.slice none 0 0,.string ⟨#[]⟩,.string ⟨#[]⟩,.int .i64 0,.slice none 0 0,.slice none 0 0,.int .i64 0,.int .i64 0]:=⟨_,rfl⟩;have ca:zz=mgA 0 zA zT zR zP zF:=by rw[av];rfl
 have bz:zz.size=30:=by rw[ca];exact(zM_v w 0 0).size 0
 have aw:=I bz;obtain⟨W,eW⟩:=Ak ((w.alloc (.cells cs 134)).alloc (.cells zz 134));have bB:W.heap.size=w.heap.size+1+1:=by rw[eW];simp
 have HK:=I (show Blk W w.heap.size 134 (mgA m.k pa pt pr pp pf) by rw[eW,<-hc];exact(Blk.new _ _ _).alloc _);have hq:=Blk.new (w.alloc (.cells cs 134)) 134 zz;rw[show(w.alloc (.cells cs 134)).heap.size=w.heap.size+1 by simp,<-eW] at hq;have HR:=I hq;clear hq;have Z:=I (show Below w.heap.size w W by rw[eW];exact(Ah.alloc Ag _).alloc (by simp) _);have HA:=I (hp.at_ HK.o);have k0:=HA.o.k;have HP:=I hp;have bn:=I bB;have bq:=I (LS m.k);obtain⟨c0,bs⟩:∃c,c=mgA m.k zA zT zR zP zF:=⟨_,rfl⟩;have bx:c0.size=30:=by rw[bs];exact(zM_v w 0 m.k).size m.k
 have HO:=I (show c0.all (·.oneCell')=true by rw[bs];exact(zM_v w 0 m.k).one m.k);have HI:=I (show(Tryz.prog.info? 134).map (·.size)=some c0.size by rw[bx];exact AZ);have bb:=I bx;rw[<-bs] at bq;have EC:=I bs;clear hc hp bB bz bx bs ca
 by_cases m1:m.k=1
 ·have y1:(m.k==1)=true:=by simpa using m1
  have y2:(m.k==2)=false:=by simp;omega
  have y3:(m.k==3)=false:=by simp;omega
  have y4:(m.k==4)=false:=by simp;omega
  have y5:(m.k==5)=false:=by simp;omega
  have EN:=I (show nm m=⟨m.k,m.aq,tg0,re0,ap0,fa0⟩ by rw[nm,if_pos m1,m1]);clear m1;have HM:=I (show MgP w w.heap.size pa zT zR zP zF ⟨m.k,m.aq,tg0,re0,ap0,fa0⟩ from⟨HP.o.a,zT_v w w.heap.size,zR_v w w.heap.size,zP_v w w.heap.size,zF_v⟩);have O:=I (show(Tryz.prog.info? 134).map (·.size)=some (mgA m.k pa zT zR zP zF).size by rw[HM.o.size];exact AZ);go_enter Tryz.func173,Tryz.ntmps173
  go_upto_region 1 with fail
  rw[<-av,<-eW];clear av eW
  go_wp2_with (first
   |(refine Al (by rfl) 134 #[(0,.tmp 5)] (by rfl) c0 (by simp only[List.map_toArray,List.map_cons,List.map_nil];exact bq.o) ?_)
   |(refine wpList_store_mid (by rfl) 134 (.tmp 3) (.tmp 6) (by rfl) W.heap.size 0 c0 (by rfl) (by rfl) (Ar (Blk.new W 134 Ay) _ (by have:=bb.o;simp;omega)) HI.o HO.o ?_;have hV:=Bj W 134 Ay c0 (by have:=bb.o;simp;omega);generalize ((W.alloc (.cells Ay 134)).setCells W.heap.size 0 c0.toList)=V at hV⊢;have HX:=I (show Blk V W.heap.size 134 (mgA m.k zA zT zR zP zF) from EC.o▸hV.1);replace HK:=I (HK.o.below hV.2);replace HR:=I (HR.o.below hV.2);replace Z:=I (Z.o.trans (hV.2.mono Z.o.size));clear hV HA k0;have HA:=I (HP.o.at_ HK.o);have k0:=HA.o.k)
   |(refine Am (by rfl) 126 (.tmp 11) (by rfl) w.heap.size 1 (by rfl) pa _ HA.o.a Tryz.underlying126 (by rfl) (by rw[HP.o.a.size];exact Cq) ?_)
   |(refine wpList_store_mid (by rfl) 126 (.tmp 13) (.tmp 12) (by rfl) W.heap.size 1 pa (by rfl) (by rfl) (Cw HX.o 1 _ (by rw[(zM_v W 0 m.k).size m.k,HP.o.a.size];omega)) (by rw[HP.o.a.size];exact Cq) HP.o.a.one ?_;have hX:=JR (ps:=pa) (ds:=mgA m.k pa zT zR zP zF) (pre:=[.int .i64 m.k]) (mid:=zA.toList) (post:=zT.toList++zR.toList++zP.toList++zF.toList) (o:=1) HX.o (by simp [mgA]) (by rfl) (by rw[HP.o.a.size];rfl) (by simp [mgA]);have M:=Fh V W.heap.size 1 pa.toList;generalize V.setCells W.heap.size 1 pa.toList=V2 at hX M⊢;replace HX:=I hX;replace HR:=I (HR.o.grown M (by intro e;injection e with e;have:=bn.o;omega));replace Z:=I (Az Z.o M Z.o.size (by have:=bn.o;omega));clear hX M HA HK k0)
   |(refine Am (by rfl) 134 (.tmp 3) (by rfl) W.heap.size 0 (by rfl) (mgA m.k pa zT zR zP zF) _ (Ad HX.o) Tryz.underlying134 (by rfl) O.o ?_)
   |(refine wpList_store_mid (by rfl) 134 (.tmp 2) (.tmp 34) (by rfl) (w.heap.size+1) 0 (mgA m.k pa zT zR zP zF) (by rfl) (by rfl) (Ar HR.o _ (by rw[HM.o.size];have:=aw.o;omega)) O.o (HM.o.one _) ?_)
   |fail)
  have hE:=AJ (ds:=mgA m.k pa zT zR zP zF) HR.o (by rw[HM.o.size];have:=aw.o;omega);have hp:=AP V2 (w.heap.size+1) (mgA m.k pa zT zR zP zF).toList;have hq:=Ao (P:=Tryz.prog) hE Tryz.underlying134 rfl O.o;refine bodyPost_ret (v:=.agg (mgA m.k pa zT zR zP zF)) ?_ ?_ ?_
  ·exact Au 2 134 ⟨w.heap.size+1,0,none⟩ Tryz.results173 rfl hq
  ·rfl
  have hB:=Az Z.o hp Z.o.size (by omega);refine⟨_,rfl,?_,hB⟩;rw[EN.o];exact⟨pa,zT,zR,zP,zF,rfl,(HM.o.keep hB).more hB.size⟩
 ·have cb:=m1
  by_cases m2:m.k=2
  ·have y1:(m.k==1)=false:=by simp;omega
   have y2:(m.k==2)=true:=by simpa using m2
   have y3:(m.k==3)=false:=by simp;omega
   have y4:(m.k==4)=false:=by simp;omega
   have y5:(m.k==5)=false:=by simp;omega
   have EN:=I (show nm m=⟨m.k,as0,m.tg,re0,ap0,fa0⟩ by rw[nm,if_neg m1,if_pos m2,m2]);clear m1 m2;have HM:=I (show MgP w w.heap.size zA pt zR zP zF ⟨m.k,as0,m.tg,re0,ap0,fa0⟩ from⟨zA_v,HP.o.t,zR_v w w.heap.size,zP_v w w.heap.size,zF_v⟩);have O:=I (show(Tryz.prog.info? 134).map (·.size)=some (mgA m.k zA pt zR zP zF).size by rw[HM.o.size];exact AZ);go_enter Tryz.func173,Tryz.ntmps173
   go_upto_region 1 with fail
   rw[<-av,<-eW];clear av eW
   go_wp2_with (first
    |(refine Al (by rfl) 134 #[(0,.tmp 5)] (by rfl) c0 (by simp only[List.map_toArray,List.map_cons,List.map_nil];exact bq.o) ?_)
    |(refine wpList_store_mid (by rfl) 134 (.tmp 3) (.tmp 6) (by rfl) W.heap.size 0 c0 (by rfl) (by rfl) (Ar (Blk.new W 134 Ay) _ (by have:=bb.o;simp;omega)) HI.o HO.o ?_;have hV:=Bj W 134 Ay c0 (by have:=bb.o;simp;omega);generalize ((W.alloc (.cells Ay 134)).setCells W.heap.size 0 c0.toList)=V at hV⊢;have HX:=I (show Blk V W.heap.size 134 (mgA m.k zA zT zR zP zF) from EC.o▸hV.1);replace HK:=I (HK.o.below hV.2);replace HR:=I (HR.o.below hV.2);replace Z:=I (Z.o.trans (hV.2.mono Z.o.size));clear hV HA k0;have HA:=I (HP.o.at_ HK.o);have k0:=HA.o.k)
    |(refine Am (by rfl) 128 (.tmp 16) (by rfl) w.heap.size 7 (by rfl) pt _ HA.o.t Tryz.underlying128 (by rfl) (by rw[HP.o.t.size];exact Db) ?_)
    |(refine wpList_store_mid (by rfl) 128 (.tmp 18) (.tmp 17) (by rfl) W.heap.size 7 pt (by rfl) (by rfl) (Cw HX.o 7 _ (by rw[(zM_v W 0 m.k).size m.k,HP.o.t.size];omega)) (by rw[HP.o.t.size];exact Db) HP.o.t.one ?_;have hX:=JR (ps:=pt) (ds:=mgA m.k zA pt zR zP zF) (pre:=[.int .i64 m.k]++zA.toList) (mid:=zT.toList) (post:=zR.toList++zP.toList++zF.toList) (o:=7) HX.o (by simp [mgA]) (by rfl) (by rw[HP.o.t.size];rfl) (by simp [mgA]);have M:=Fh V W.heap.size 7 pt.toList;generalize V.setCells W.heap.size 7 pt.toList=V2 at hX M⊢;replace HX:=I hX;replace HR:=I (HR.o.grown M (by intro e;injection e with e;have:=bn.o;omega));replace Z:=I (Az Z.o M Z.o.size (by have:=bn.o;omega));clear hX M HA HK k0)
    |(refine Am (by rfl) 134 (.tmp 3) (by rfl) W.heap.size 0 (by rfl) (mgA m.k zA pt zR zP zF) _ (Ad HX.o) Tryz.underlying134 (by rfl) O.o ?_)
    |(refine wpList_store_mid (by rfl) 134 (.tmp 2) (.tmp 34) (by rfl) (w.heap.size+1) 0 (mgA m.k zA pt zR zP zF) (by rfl) (by rfl) (Ar HR.o _ (by rw[HM.o.size];have:=aw.o;omega)) O.o (HM.o.one _) ?_)
    |fail)
   have hE:=AJ (ds:=mgA m.k zA pt zR zP zF) HR.o (by rw[HM.o.size];have:=aw.o;omega);have hp:=AP V2 (w.heap.size+1) (mgA m.k zA pt zR zP zF).toList;have hq:=Ao (P:=Tryz.prog) hE Tryz.underlying134 rfl O.o;refine bodyPost_ret (v:=.agg (mgA m.k zA pt zR zP zF)) ?_ ?_ ?_
   ·exact Au 2 134 ⟨w.heap.size+1,0,none⟩ Tryz.results173 rfl hq
   ·rfl
   have hB:=Az Z.o hp Z.o.size (by omega);refine⟨_,rfl,?_,hB⟩;rw[EN.o];exact⟨zA,pt,zR,zP,zF,rfl,(HM.o.keep hB).more hB.size⟩
  ·have cg:=m2
   by_cases m3:m.k=3
   ·have y1:(m.k==1)=false:=by simp;omega
    have y2:(m.k==2)=false:=by simp;omega
    have y3:(m.k==3)=true:=by simpa using m3
    have y4:(m.k==4)=false:=by simp;omega
    have y5:(m.k==5)=false:=by simp;omega
    have EN:=I (show nm m=⟨m.k,as0,tg0,m.re,ap0,fa0⟩ by rw[nm,if_neg m1,if_neg m2,if_pos m3,m3]);clear m1 m2 m3;have HM:=I (show MgP w w.heap.size zA zT pr zP zF ⟨m.k,as0,tg0,m.re,ap0,fa0⟩ from⟨zA_v,zT_v w w.heap.size,HP.o.r,zP_v w w.heap.size,zF_v⟩);have O:=I (show(Tryz.prog.info? 134).map (·.size)=some (mgA m.k zA zT pr zP zF).size by rw[HM.o.size];exact AZ);go_enter Tryz.func173,Tryz.ntmps173
    go_upto_region 1 with fail
    rw[<-av,<-eW];clear av eW
    go_wp2_with (first
     |(refine Al (by rfl) 134 #[(0,.tmp 5)] (by rfl) c0 (by simp only[List.map_toArray,List.map_cons,List.map_nil];exact bq.o) ?_)
     |(refine wpList_store_mid (by rfl) 134 (.tmp 3) (.tmp 6) (by rfl) W.heap.size 0 c0 (by rfl) (by rfl) (Ar (Blk.new W 134 Ay) _ (by have:=bb.o;simp;omega)) HI.o HO.o ?_;have hV:=Bj W 134 Ay c0 (by have:=bb.o;simp;omega);generalize ((W.alloc (.cells Ay 134)).setCells W.heap.size 0 c0.toList)=V at hV⊢;have HX:=I (show Blk V W.heap.size 134 (mgA m.k zA zT zR zP zF) from EC.o▸hV.1);replace HK:=I (HK.o.below hV.2);replace HR:=I (HR.o.below hV.2);replace Z:=I (Z.o.trans (hV.2.mono Z.o.size));clear hV HA k0;have HA:=I (HP.o.at_ HK.o);have k0:=HA.o.k)
     |(refine Am (by rfl) 130 (.tmp 21) (by rfl) w.heap.size 16 (by rfl) pr _ HA.o.r Tryz.underlying130 (by rfl) (by rw[HP.o.r.size];exact DC) ?_)
     |(refine wpList_store_mid (by rfl) 130 (.tmp 23) (.tmp 22) (by rfl) W.heap.size 16 pr (by rfl) (by rfl) (Cw HX.o 16 _ (by rw[(zM_v W 0 m.k).size m.k,HP.o.r.size];omega)) (by rw[HP.o.r.size];exact DC) HP.o.r.one ?_;have hX:=JR (ps:=pr) (ds:=mgA m.k zA zT pr zP zF) (pre:=[.int .i64 m.k]++zA.toList++zT.toList) (mid:=zR.toList) (post:=zP.toList++zF.toList) (o:=16) HX.o (by simp [mgA]) (by rfl) (by rw[HP.o.r.size];rfl) (by simp [mgA]);have M:=Fh V W.heap.size 16 pr.toList;generalize V.setCells W.heap.size 16 pr.toList=V2 at hX M⊢;replace HX:=I hX;replace HR:=I (HR.o.grown M (by intro e;injection e with e;have:=bn.o;omega));replace Z:=I (Az Z.o M Z.o.size (by have:=bn.o;omega));clear hX M HA HK k0)
     |(refine Am (by rfl) 134 (.tmp 3) (by rfl) W.heap.size 0 (by rfl) (mgA m.k zA zT pr zP zF) _ (Ad HX.o) Tryz.underlying134 (by rfl) O.o ?_)
     |(refine wpList_store_mid (by rfl) 134 (.tmp 2) (.tmp 34) (by rfl) (w.heap.size+1) 0 (mgA m.k zA zT pr zP zF) (by rfl) (by rfl) (Ar HR.o _ (by rw[HM.o.size];have:=aw.o;omega)) O.o (HM.o.one _) ?_)
     |fail)
    have hE:=AJ (ds:=mgA m.k zA zT pr zP zF) HR.o (by rw[HM.o.size];have:=aw.o;omega);have hp:=AP V2 (w.heap.size+1) (mgA m.k zA zT pr zP zF).toList;have hq:=Ao (P:=Tryz.prog) hE Tryz.underlying134 rfl O.o;refine bodyPost_ret (v:=.agg (mgA m.k zA zT pr zP zF)) ?_ ?_ ?_
    ·exact Au 2 134 ⟨w.heap.size+1,0,none⟩ Tryz.results173 rfl hq
    ·rfl
    have hB:=Az Z.o hp Z.o.size (by omega);refine⟨_,rfl,?_,hB⟩;rw[EN.o];exact⟨zA,zT,pr,zP,zF,rfl,(HM.o.keep hB).more hB.size⟩
   ·have cf:=m3
    by_cases m4:m.k=4
    ·have y1:(m.k==1)=false:=by simp;omega
     have y2:(m.k==2)=false:=by simp;omega
     have y3:(m.k==3)=false:=by simp;omega
     have y4:(m.k==4)=true:=by simpa using m4
     have y5:(m.k==5)=false:=by simp;omega
     have EN:=I (show nm m=⟨m.k,as0,tg0,re0,m.ap,fa0⟩ by rw[nm,if_neg m1,if_neg m2,if_neg m3,if_pos m4,m4]);clear m1 m2 m3 m4;have HM:=I (show MgP w w.heap.size zA zT zR pp zF ⟨m.k,as0,tg0,re0,m.ap,fa0⟩ from⟨zA_v,zT_v w w.heap.size,zR_v w w.heap.size,HP.o.p,zF_v⟩);have O:=I (show(Tryz.prog.info? 134).map (·.size)=some (mgA m.k zA zT zR pp zF).size by rw[HM.o.size];exact AZ);go_enter Tryz.func173,Tryz.ntmps173
     go_upto_region 1 with fail
     rw[<-av,<-eW];clear av eW
     go_wp2_with (first
      |(refine Al (by rfl) 134 #[(0,.tmp 5)] (by rfl) c0 (by simp only[List.map_toArray,List.map_cons,List.map_nil];exact bq.o) ?_)
      |(refine wpList_store_mid (by rfl) 134 (.tmp 3) (.tmp 6) (by rfl) W.heap.size 0 c0 (by rfl) (by rfl) (Ar (Blk.new W 134 Ay) _ (by have:=bb.o;simp;omega)) HI.o HO.o ?_;have hV:=Bj W 134 Ay c0 (by have:=bb.o;simp;omega);generalize ((W.alloc (.cells Ay 134)).setCells W.heap.size 0 c0.toList)=V at hV⊢;have HX:=I (show Blk V W.heap.size 134 (mgA m.k zA zT zR zP zF) from EC.o▸hV.1);replace HK:=I (HK.o.below hV.2);replace HR:=I (HR.o.below hV.2);replace Z:=I (Z.o.trans (hV.2.mono Z.o.size));clear hV HA k0;have HA:=I (HP.o.at_ HK.o);have k0:=HA.o.k)
      |(refine Am (by rfl) 124 (.tmp 26) (by rfl) w.heap.size 23 (by rfl) pp _ HA.o.p Tryz.underlying124 (by rfl) (by rw[HP.o.p.size];exact Ef) ?_)
      |(refine wpList_store_mid (by rfl) 124 (.tmp 28) (.tmp 27) (by rfl) W.heap.size 23 pp (by rfl) (by rfl) (Cw HX.o 23 _ (by rw[(zM_v W 0 m.k).size m.k,HP.o.p.size];omega)) (by rw[HP.o.p.size];exact Ef) HP.o.p.one ?_;have hX:=JR (ps:=pp) (ds:=mgA m.k zA zT zR pp zF) (pre:=[.int .i64 m.k]++zA.toList++zT.toList++zR.toList) (mid:=zP.toList) (post:=zF.toList) (o:=23) HX.o (by simp [mgA]) (by rfl) (by rw[HP.o.p.size];rfl) (by simp [mgA]);have M:=Fh V W.heap.size 23 pp.toList;generalize V.setCells W.heap.size 23 pp.toList=V2 at hX M⊢;replace HX:=I hX;replace HR:=I (HR.o.grown M (by intro e;injection e with e;have:=bn.o;omega));replace Z:=I (Az Z.o M Z.o.size (by have:=bn.o;omega));clear hX M HA HK k0)
      |(refine Am (by rfl) 134 (.tmp 3) (by rfl) W.heap.size 0 (by rfl) (mgA m.k zA zT zR pp zF) _ (Ad HX.o) Tryz.underlying134 (by rfl) O.o ?_)
      |(refine wpList_store_mid (by rfl) 134 (.tmp 2) (.tmp 34) (by rfl) (w.heap.size+1) 0 (mgA m.k zA zT zR pp zF) (by rfl) (by rfl) (Ar HR.o _ (by rw[HM.o.size];have:=aw.o;omega)) O.o (HM.o.one _) ?_)
      |fail)
     have hE:=AJ (ds:=mgA m.k zA zT zR pp zF) HR.o (by rw[HM.o.size];have:=aw.o;omega);have hp:=AP V2 (w.heap.size+1) (mgA m.k zA zT zR pp zF).toList;have hq:=Ao (P:=Tryz.prog) hE Tryz.underlying134 rfl O.o;refine bodyPost_ret (v:=.agg (mgA m.k zA zT zR pp zF)) ?_ ?_ ?_
     ·exact Au 2 134 ⟨w.heap.size+1,0,none⟩ Tryz.results173 rfl hq
     ·rfl
     have hB:=Az Z.o hp Z.o.size (by omega);refine⟨_,rfl,?_,hB⟩;rw[EN.o];exact⟨zA,zT,zR,pp,zF,rfl,(HM.o.keep hB).more hB.size⟩
    ·have cc:=m4
     by_cases m5:m.k=5
     ·have y1:(m.k==1)=false:=by simp;omega
      have y2:(m.k==2)=false:=by simp;omega
      have y3:(m.k==3)=false:=by simp;omega
      have y4:(m.k==4)=false:=by simp;omega
      have y5:(m.k==5)=true:=by simpa using m5
      have EN:=I (show nm m=⟨m.k,as0,tg0,re0,ap0,m.fa⟩ by rw[nm,if_neg m1,if_neg m2,if_neg m3,if_neg m4,if_pos m5,m5]);clear m1 m2 m3 m4 m5;have HM:=I (show MgP w w.heap.size zA zT zR zP pf ⟨m.k,as0,tg0,re0,ap0,m.fa⟩ from⟨zA_v,zT_v w w.heap.size,zR_v w w.heap.size,zP_v w w.heap.size,HP.o.f⟩);have O:=I (show(Tryz.prog.info? 134).map (·.size)=some (mgA m.k zA zT zR zP pf).size by rw[HM.o.size];exact AZ);go_enter Tryz.func173,Tryz.ntmps173
      go_upto_region 1 with fail
      rw[<-av,<-eW];clear av eW
      go_wp2_with (first
       |(refine Al (by rfl) 134 #[(0,.tmp 5)] (by rfl) c0 (by simp only[List.map_toArray,List.map_cons,List.map_nil];exact bq.o) ?_)
       |(refine wpList_store_mid (by rfl) 134 (.tmp 3) (.tmp 6) (by rfl) W.heap.size 0 c0 (by rfl) (by rfl) (Ar (Blk.new W 134 Ay) _ (by have:=bb.o;simp;omega)) HI.o HO.o ?_;have hV:=Bj W 134 Ay c0 (by have:=bb.o;simp;omega);generalize ((W.alloc (.cells Ay 134)).setCells W.heap.size 0 c0.toList)=V at hV⊢;have HX:=I (show Blk V W.heap.size 134 (mgA m.k zA zT zR zP zF) from EC.o▸hV.1);replace HK:=I (HK.o.below hV.2);replace HR:=I (HR.o.below hV.2);replace Z:=I (Z.o.trans (hV.2.mono Z.o.size));clear hV HA k0;have HA:=I (HP.o.at_ HK.o);have k0:=HA.o.k)
       |(refine Am (by rfl) 132 (.tmp 31) (by rfl) w.heap.size 28 (by rfl) pf _ HA.o.f Tryz.underlying132 (by rfl) (by rw[HP.o.f.size];exact FM) ?_)
       |(refine wpList_store_mid (by rfl) 132 (.tmp 33) (.tmp 32) (by rfl) W.heap.size 28 pf (by rfl) (by rfl) (Cw HX.o 28 _ (by rw[(zM_v W 0 m.k).size m.k,HP.o.f.size];omega)) (by rw[HP.o.f.size];exact FM) HP.o.f.one ?_;have hX:=JR (ps:=pf) (ds:=mgA m.k zA zT zR zP pf) (pre:=[.int .i64 m.k]++zA.toList++zT.toList++zR.toList++zP.toList) (mid:=zF.toList) (post:=[]) (o:=28) HX.o (by simp [mgA]) (by rfl) (by rw[HP.o.f.size];rfl) (by simp [mgA]);have M:=Fh V W.heap.size 28 pf.toList;generalize V.setCells W.heap.size 28 pf.toList=V2 at hX M⊢;replace HX:=I hX;replace HR:=I (HR.o.grown M (by intro e;injection e with e;have:=bn.o;omega));replace Z:=I (Az Z.o M Z.o.size (by have:=bn.o;omega));clear hX M HA HK k0)
       |(refine Am (by rfl) 134 (.tmp 3) (by rfl) W.heap.size 0 (by rfl) (mgA m.k zA zT zR zP pf) _ (Ad HX.o) Tryz.underlying134 (by rfl) O.o ?_)
       |(refine wpList_store_mid (by rfl) 134 (.tmp 2) (.tmp 34) (by rfl) (w.heap.size+1) 0 (mgA m.k zA zT zR zP pf) (by rfl) (by rfl) (Ar HR.o _ (by rw[HM.o.size];have:=aw.o;omega)) O.o (HM.o.one _) ?_)
       |fail)
      have hE:=AJ (ds:=mgA m.k zA zT zR zP pf) HR.o (by rw[HM.o.size];have:=aw.o;omega);have hp:=AP V2 (w.heap.size+1) (mgA m.k zA zT zR zP pf).toList;have hq:=Ao (P:=Tryz.prog) hE Tryz.underlying134 rfl O.o;refine bodyPost_ret (v:=.agg (mgA m.k zA zT zR zP pf)) ?_ ?_ ?_
      ·exact Au 2 134 ⟨w.heap.size+1,0,none⟩ Tryz.results173 rfl hq
      ·rfl
      have hB:=Az Z.o hp Z.o.size (by omega);refine⟨_,rfl,?_,hB⟩;rw[EN.o];exact⟨zA,zT,zR,zP,pf,rfl,(HM.o.keep hB).more hB.size⟩
     ·have cd:=m5
      have y1:(m.k==1)=false:=by simp;omega
      have y2:(m.k==2)=false:=by simp;omega
      have y3:(m.k==3)=false:=by simp;omega
      have y4:(m.k==4)=false:=by simp;omega
      have y5:(m.k==5)=false:=by simp;omega
      have EN:=I (show nm m=⟨m.k,as0,tg0,re0,ap0,fa0⟩ by rw[nm,if_neg m1,if_neg m2,if_neg m3,if_neg m4,if_neg m5]);clear m1 m2 m3 m4 m5;have HM:=I (show MgP w w.heap.size zA zT zR zP zF ⟨m.k,as0,tg0,re0,ap0,fa0⟩ from⟨zA_v,zT_v w w.heap.size,zR_v w w.heap.size,zP_v w w.heap.size,zF_v⟩);have O:=I (show(Tryz.prog.info? 134).map (·.size)=some (mgA m.k zA zT zR zP zF).size by rw[HM.o.size];exact AZ);go_enter Tryz.func173,Tryz.ntmps173
      go_upto_region 1 with fail
      rw[<-av,<-eW];clear av eW
      go_wp2_with (first
       |(refine Al (by rfl) 134 #[(0,.tmp 5)] (by rfl) c0 (by simp only[List.map_toArray,List.map_cons,List.map_nil];exact bq.o) ?_)
       |(refine wpList_store_mid (by rfl) 134 (.tmp 3) (.tmp 6) (by rfl) W.heap.size 0 c0 (by rfl) (by rfl) (Ar (Blk.new W 134 Ay) _ (by have:=bb.o;simp;omega)) HI.o HO.o ?_;have hV:=Bj W 134 Ay c0 (by have:=bb.o;simp;omega);generalize ((W.alloc (.cells Ay 134)).setCells W.heap.size 0 c0.toList)=V at hV⊢;have HX:=I (show Blk V W.heap.size 134 (mgA m.k zA zT zR zP zF) from EC.o▸hV.1);replace HK:=I (HK.o.below hV.2);replace HR:=I (HR.o.below hV.2);replace Z:=I (Z.o.trans (hV.2.mono Z.o.size));clear hV HA k0;have HA:=I (HP.o.at_ HK.o);have k0:=HA.o.k)
       |(refine Am (by rfl) 134 (.tmp 3) (by rfl) W.heap.size 0 (by rfl) (mgA m.k zA zT zR zP zF) _ (Ad HX.o) Tryz.underlying134 (by rfl) O.o ?_)
       |(refine wpList_store_mid (by rfl) 134 (.tmp 2) (.tmp 34) (by rfl) (w.heap.size+1) 0 (mgA m.k zA zT zR zP zF) (by rfl) (by rfl) (Ar HR.o _ (by rw[HM.o.size];have:=aw.o;omega)) O.o (HM.o.one _) ?_)
       |fail)
      have hE:=AJ (ds:=mgA m.k zA zT zR zP zF) HR.o (by rw[HM.o.size];have:=aw.o;omega);have hp:=AP V (w.heap.size+1) (mgA m.k zA zT zR zP zF).toList;have hq:=Ao (P:=Tryz.prog) hE Tryz.underlying134 rfl O.o;refine bodyPost_ret (v:=.agg (mgA m.k zA zT zR zP zF)) ?_ ?_ ?_
      ·exact Au 2 134 ⟨w.heap.size+1,0,none⟩ Tryz.results173 rfl hq
      ·rfl
      have hB:=Az Z.o hp Z.o.size (by omega);refine⟨_,rfl,?_,hB⟩;rw[EN.o];exact⟨zA,zT,zR,zP,zF,rfl,(HM.o.keep hB).more hB.size⟩
def OwnN (w:World) (base:Nat) (v:Value) (l:L):Prop:=(v=.slice none 0 0/\l = [])\/OwnB w base v l
section
variable {w w':World} {base base' g:Nat} {v:Value} {l:L} {cs:Array Value}
theorem OwnN.keep (h:OwnN w base v l) (O:w.grownBy w' (some g)) (M:g<base):OwnN w' base v l:=h.imp id fun h=>h.keep O M
theorem OwnN.below (h:OwnN w base v l) (M:Below w.heap.size w w'):OwnN w' base v l:=h.imp id fun h=>h.below M
theorem OwnN.less (h:OwnN w base v l) (M:base'<=base):OwnN w base' v l:=h.imp id fun h=>h.less M
theorem OwnN.slb (h:OwnN w base v l):SlB w w.heap.size v l:=by
 rcases h with⟨rfl,rfl⟩ | h
 ·exact SlB.nil _ _
 ·exact h.slb
def TgO (w:World) (B:Nat) (cs:Array Value) (q:Tg):Prop:=∃b a,cs=(tgC q b a).toArray/\OwnN w B b q.t.b/\OwnN w B a q.a
def ReO (w:World) (B:Nat) (cs:Array Value) (q:Re):Prop:=∃b a,cs=(reC q b a).toArray/\OwnN w B b q.t.b/\OwnN w B a q.b
def ApO (w:World) (B:Nat) (cs:Array Value) (q:Ap):Prop:=∃b a,cs=(apC q b a).toArray/\OwnN w B b q.t.b/\OwnN w B a q.a
theorem TgO.keep {q:Tg} (h:TgO w base cs q) (O:w.grownBy w' (some g)) (M:g<base):TgO w' base cs q:=by obtain⟨b,a,h1,Z,h3⟩:=h;exact⟨b,a,h1,Z.keep O M,h3.keep O M⟩
theorem TgO.below {q:Tg} (h:TgO w base cs q) (M:Below w.heap.size w w'):TgO w' base cs q:=by obtain⟨b,a,h1,O,Z⟩:=h;exact⟨b,a,h1,O.below M,Z.below M⟩
theorem TgO.less {q:Tg} (h:TgO w base cs q) (M:base'<=base):TgO w base' cs q:=by obtain⟨b,a,h1,O,Z⟩:=h;exact⟨b,a,h1,O.less M,Z.less M⟩
theorem TgO.toV {q:Tg} (h:TgO w base cs q):TgV w w.heap.size cs q:=by obtain⟨b,a,Z,M,O⟩:=h;exact⟨b,a,Z,M.slb,O.slb⟩
theorem ReO.keep {q:Re} (h:ReO w base cs q) (O:w.grownBy w' (some g)) (M:g<base):ReO w' base cs q:=by obtain⟨b,a,h1,Z,h3⟩:=h;exact⟨b,a,h1,Z.keep O M,h3.keep O M⟩
theorem ReO.below {q:Re} (h:ReO w base cs q) (M:Below w.heap.size w w'):ReO w' base cs q:=by obtain⟨b,a,h1,O,Z⟩:=h;exact⟨b,a,h1,O.below M,Z.below M⟩
theorem ReO.less {q:Re} (h:ReO w base cs q) (M:base'<=base):ReO w base' cs q:=by obtain⟨b,a,h1,O,Z⟩:=h;exact⟨b,a,h1,O.less M,Z.less M⟩
theorem ReO.toV {q:Re} (h:ReO w base cs q):ReV w w.heap.size cs q:=by obtain⟨b,a,Z,M,O⟩:=h;exact⟨b,a,Z,M.slb,O.slb⟩
theorem ApO.keep {q:Ap} (h:ApO w base cs q) (O:w.grownBy w' (some g)) (M:g<base):ApO w' base cs q:=by obtain⟨b,a,h1,Z,h3⟩:=h;exact⟨b,a,h1,Z.keep O M,h3.keep O M⟩
theorem ApO.below {q:Ap} (h:ApO w base cs q) (M:Below w.heap.size w w'):ApO w' base cs q:=by obtain⟨b,a,h1,O,Z⟩:=h;exact⟨b,a,h1,O.below M,Z.below M⟩
theorem ApO.less {q:Ap} (h:ApO w base cs q) (M:base'<=base):ApO w base' cs q:=by obtain⟨b,a,h1,O,Z⟩:=h;exact⟨b,a,h1,O.less M,Z.less M⟩
theorem ApO.toV {q:Ap} (h:ApO w base cs q):ApV w w.heap.size cs q:=by obtain⟨b,a,Z,M,O⟩:=h;exact⟨b,a,Z,M.slb,O.slb⟩
structure MpO (w:World) (B:Nat) (pa pt pr pp pf:Array Value) (m:Mg):Prop where
 a:AsV pa m.aq
 t:TgO w B pt m.tg
 r:ReO w B pr m.re
 p:ApO w B pp m.ap
 f:FaV pf m.fa
def MgO (w:World) (B:Nat) (cs:Array Value) (m:Mg):Prop:=∃pa pt pr pp pf,cs=mgA m.k pa pt pr pp pf/\MpO w B pa pt pr pp pf m
variable {pa pt pr pp pf:Array Value} {m:Mg}
theorem MpO.toV (h:MpO w base pa pt pr pp pf m):MgP w w.heap.size pa pt pr pp pf m:=⟨h.a,h.t.toV,h.r.toV,h.p.toV,h.f⟩
theorem MpO.keep (h:MpO w base pa pt pr pp pf m) (O:w.grownBy w' (some g)) (M:g<base):MpO w' base pa pt pr pp pf m:=⟨h.a,h.t.keep O M,h.r.keep O M,h.p.keep O M,h.f⟩
theorem MpO.below (h:MpO w base pa pt pr pp pf m) (M:Below w.heap.size w w'):MpO w' base pa pt pr pp pf m:=⟨h.a,h.t.below M,h.r.below M,h.p.below M,h.f⟩
theorem MpO.less (h:MpO w base pa pt pr pp pf m) (M:base'<=base):MpO w base' pa pt pr pp pf m:=⟨h.a,h.t.less M,h.r.less M,h.p.less M,h.f⟩
theorem MgO.toV (h:MgO w base cs m):MgV w w.heap.size cs m:=by obtain⟨pa,pt,pr,pp,pf,O,M⟩:=h;exact⟨pa,pt,pr,pp,pf,O,M.toV⟩
theorem MgO.keep (h:MgO w base cs m) (hg:w.grownBy w' (some g)) (M:g<base):MgO w' base cs m:=by obtain⟨pa,pt,pr,pp,pf,Z,O⟩:=h;exact⟨pa,pt,pr,pp,pf,Z,O.keep hg M⟩
theorem MgO.below (h:MgO w base cs m) (O:Below w.heap.size w w'):MgO w' base cs m:=by obtain⟨pa,pt,pr,pp,pf,Z,M⟩:=h;exact⟨pa,pt,pr,pp,pf,Z,M.below O⟩
theorem MgO.less (h:MgO w base cs m) (O:base'<=base):MgO w base' cs m:=by obtain⟨pa,pt,pr,pp,pf,Z,M⟩:=h;exact⟨pa,pt,pr,pp,pf,Z,M.less O⟩
theorem MgO.size (h:MgO w base cs m):cs.size=30:=by obtain⟨pa,pt,pr,pp,pf,O,M⟩:=h;rw[O];exact M.toV.size m.k
theorem MgO.one (h:MgO w base cs m):One cs:=by obtain⟨pa,pt,pr,pp,pf,O,M⟩:=h;rw[O];exact M.toV.one m.k
end
theorem zT_o (w:World) (B:Nat):TgO w B zT tg0:=⟨_,_,rfl,.inl ⟨rfl,rfl⟩,.inl ⟨rfl,rfl⟩⟩
theorem zR_o (w:World) (B:Nat):ReO w B zR re0:=⟨_,_,rfl,.inl ⟨rfl,rfl⟩,.inl ⟨rfl,rfl⟩⟩
theorem zP_o (w:World) (B:Nat):ApO w B zP ap0:=⟨_,_,rfl,.inl ⟨rfl,rfl⟩,.inl ⟨rfl,rfl⟩⟩
theorem zM_o (w:World) (B:Nat) (k:Int):MpO w B zA zT zR zP zF ⟨k,as0,tg0,re0,ap0,fa0⟩:=⟨zA_v,zT_o w B,zR_o w B,zP_o w B,zF_v⟩
section
variable (g:Nat) (c:Option L) (w:World) (h:Cur w g c) (hs:(c.getD []).length<=100000)
include h hs
theorem Xv:Calls Tryz.prog 126 #[.pointer (some ⟨g,0,none⟩)] w fun e w'=>∃ps,e=.returned (.agg ps)/\AsV ps (asQ c).1/\w.grownBy w' (some g):=
 (Ri g c w h hs).mono fun e w' M=>by obtain⟨rfl,_,O⟩:=M;exact⟨_,rfl,rfl,O⟩
theorem Xw:Calls Tryz.prog 127 #[.pointer (some ⟨g,0,none⟩)] w fun e w'=>∃ps,e=.returned (.agg ps)/\TgO w' w.heap.size ps (tgQ c).1/\w.grownBy w' (some g):=
 (Rr g c w h hs).mono fun e w' M=>by obtain⟨z1,z2,rfl,o1,Z,_,O⟩:=M;exact⟨_,rfl,⟨_,_,rfl,.inr o1,.inr Z⟩,O⟩
theorem Xx:Calls Tryz.prog 128 #[.pointer (some ⟨g,0,none⟩)] w fun e w'=>∃ps,e=.returned (.agg ps)/\ReO w' w.heap.size ps (reQ c).1/\w.grownBy w' (some g):=
 (Rj g c w h hs).mono fun e w' M=>by obtain⟨z1,z2,rfl,o1,Z,_,O⟩:=M;exact⟨_,rfl,⟨_,_,rfl,.inr o1,.inr Z⟩,O⟩
theorem Xy:Calls Tryz.prog 129 #[.pointer (some ⟨g,0,none⟩)] w fun e w'=>∃ps,e=.returned (.agg ps)/\ApO w' w.heap.size ps (apQ c).1/\w.grownBy w' (some g):=
 (Rk g c w h hs).mono fun e w' M=>by obtain⟨z1,z2,rfl,o1,Z,_,O⟩:=M;exact⟨_,rfl,⟨_,_,rfl,.inr o1,.inr Z⟩,O⟩
theorem Xz:Calls Tryz.prog 130 #[.pointer (some ⟨g,0,none⟩)] w fun e w'=>∃ps,e=.returned (.agg ps)/\FaV ps (faQ c).1/\w.grownBy w' (some g):=
 (Rl g c w h hs).mono fun e w' M=>by obtain⟨rfl,_,O⟩:=M;exact⟨_,rfl,rfl,O⟩
end
theorem XA {ps:Array Value} {q:As} (h:AsV ps q):Tryz.prog.built 134 [(0,.int .i64 1),(1,.agg ps)]=some (mgA 1 ps zT zR zP zF):=by rw[h];kernel_rfl
theorem XC {w:World} {B:Nat} {ps:Array Value} {q:Tg} (h:TgO w B ps q):Tryz.prog.built 134 [(0,.int .i64 2),(2,.agg ps)]=some (mgA 2 zA ps zR zP zF):=by obtain⟨b,a,rfl,_⟩:=h;kernel_rfl
theorem XD {w:World} {B:Nat} {ps:Array Value} {q:Re} (h:ReO w B ps q):Tryz.prog.built 134 [(0,.int .i64 3),(3,.agg ps)]=some (mgA 3 zA zT ps zP zF):=by obtain⟨b,a,rfl,_⟩:=h;kernel_rfl
theorem LU {w:World} {B:Nat} {ps:Array Value} {q:Ap} (h:ApO w B ps q):Tryz.prog.built 134 [(0,.int .i64 4),(4,.agg ps)]=some (mgA 4 zA zT zR ps zF):=by obtain⟨b,a,rfl,_⟩:=h;kernel_rfl
theorem XE {ps:Array Value} {q:Fa} (h:FaV ps q):Tryz.prog.built 134 [(0,.int .i64 5),(5,.agg ps)]=some (mgA 5 zA zT zR zP ps):=by rw[h];kernel_rfl
theorem OX (A:Option Addr) (b:L) (cap:Nat) (w:World) (h:Rd w w.heap.size A (bvs b)) (hs:b.length<=100000):Calls Tryz.prog 87 #[.slice A b.length cap] w fun e w'=>∃ds,e=.returned (.agg ds)/\MgO w' w.heap.size ds (mgQ b)/\Below w.heap.size w w':=by
 obtain⟨zz,bx⟩:∃z:Array Value,z=#[.int .i64 0,.string ⟨#[]⟩,.string ⟨#[]⟩,.string ⟨#[]⟩,.string ⟨#[]⟩,.int .i64 0,.int .i64 0,.string ⟨#[]⟩,.string ⟨#[]⟩,.int .i64 0,.slice none 0 0,.slice none 0 0,.string ⟨#[]⟩,.string ⟨#[]⟩,.int .i64 0,.int .i64 0,.string ⟨#[]⟩,.string ⟨#[]⟩,.string ⟨#[]⟩,.string ⟨#[]⟩,.int .i64 0,.slice none 0 0,.slice none 0 0,.string ⟨#[]⟩,.string ⟨#[]⟩,.int .i64 0,.slice none 0 0,.slice none 0 0,.int .i64 0,.int .i64 0]:=⟨_,rfl⟩;have cm:zz=mgA 0 zA zT zR zP zF:=by rw[bx];rfl
 have bB:=I (show zz.size=30 by rw[cm];exact(zM_v w 0 0).size 0);obtain⟨W,eW⟩:=Ak (w.alloc (.cells zz 134));have cb:=I (show W.heap.size=w.heap.size+1 by rw[eW];simp);have Z:=I (show Blk W w.heap.size 134 zz by rw[eW];exact Blk.new _ _ _);have M:=I (show Below w.heap.size w W by rw[eW];exact Ah.alloc Ag _);clear cm;cases b with
 |nil=>
  have EQ:=I (show mgQ []=⟨0,as0,tg0,re0,ap0,fa0⟩ from rfl);have O:=I ((zM_v w 0 0).size 0);have ca:=I ((zM_v w 0 0).one 0);clear h hs;go_enter Tryz.func87,Tryz.ntmps87
  go_upto_region 1 with fail
  rw[<-bx,<-eW];clear bx eW
  go_wp2_with (first
   |(refine Al (by rfl) 134 #[] (by rfl) (mgA 0 zA zT zR zP zF) built_none ?_)
   |(refine wpList_store_mid (by rfl) 134 (.tmp 2) (.tmp 7) (by rfl) w.heap.size 0 (mgA 0 zA zT zR zP zF) (by rfl) (by rfl) (Ar Z.o _ (by rw[O.o];have:=bB.o;omega)) (by rw[O.o];exact AZ) ca.o ?_)
   |fail)
  have hE:=AJ (ds:=mgA 0 zA zT zR zP zF) Z.o (by rw[O.o];exact bB.o);have hp:=AP W w.heap.size (mgA 0 zA zT zR zP zF).toList;have hq:=Ao (P:=Tryz.prog) hE Tryz.underlying134 rfl (by rw[O.o];exact AZ);refine bodyPost_ret (v:=.agg (mgA 0 zA zT zR zP zF)) ?_ ?_ ?_
  ·exact Au 2 134 ⟨w.heap.size,0,none⟩ Tryz.results87 rfl hq
  ·rfl
  refine⟨_,rfl,?_,Az M.o hp (by have:=Z.o.lt;omega) Ag⟩;rw[EQ.o];exact⟨zA,zT,zR,zP,zF,rfl,⟨zA_v,zT_o _ _,zR_o _ _,zP_o _ _,zF_v⟩⟩
 |cons t r=>
  obtain⟨bb,oo,rfl,cn,bz⟩:∃bb oo,A=some ⟨bb,oo,none⟩/\bb<w.heap.size/\w.cell? ⟨bb,oo,none⟩=some (.int .u8 (t.toNat:Int)):=by
   obtain⟨bb,oo,rfl,h1,h2⟩:=h.at_ (i:=0) (u:=bv t) rfl;exact⟨bb,oo,rfl,h1,h2⟩
  have cc:=I (fun w1 (h1:Below w.heap.size w w1)=>show w1.cell? ⟨bb,oo,none⟩=some (.int .u8 (t.toNat:Int)) from(h1.cell (p:=⟨bb,oo,none⟩) cn).trans bz);have hu:=Fo t;have c0:=I (fun w1 (h1:Below w.heap.size w w1)=>La w1.heap.size (some ⟨bb,oo,none⟩) (t :: r) (t :: r).length cap w1 ((h.below h1).more h1.size) rfl);have ck:((some (t :: r):Option L).getD []).length<=100000:=hs;have c1:=I (fun g w1 h=>GK t g (some (t :: r)) w1 h (by omega));have bs:=FK t ck;have HL:=I (show(0:Int)<(((t :: r).length:Nat):Int) by simp)
  by_cases m1:t=106
  ·have d1:((t.toNat:Int)==106)=true:=by rw[m1];rfl
   have EQ:=I (show mgQ (t :: r)=⟨1,(asQ (AN t (some (t :: r)))).1,tg0,re0,ap0,fa0⟩ by subst m1;rfl);obtain⟨s0,es0⟩:∃s,s=AN t (some (t :: r)):=⟨_,rfl⟩;rw[<-es0] at c1 bs EQ;have T1:=I (fun g w1 h=>Xv g s0 w1 h bs);clear es0 bs ck hs h bz hu m1;go_enter Tryz.func87,Tryz.ntmps87
   go_upto_region 1 with fail
   rw[<-bx,<-eW];clear bx eW
   go_upto_region 3 with fail
   replace Z:=I (show Blk W.drew _ _ _ from Z.o.drewN 1);replace M:=I (show Below _ _ W.drew from below_drewN M.o 1)
   go_region_held3 (fun w'=>w'.cell? ⟨bb,oo,none⟩=some (.int .u8 (t.toNat:Int))) (exact cc.o _ M.o) ((first
    |(go_at_call 124;refine Calls.mono (c0.o _ M.o) ?_;rintro e wo ⟨go,rfl,cf,bq,hb⟩;clear c0;have HC:=I bq;have aw:=I (show w.heap.size+1<=go by have:=cb.o;have:W.drew.heap.size=W.heap.size:=rfl;omega);replace Z:=I (Z.o.below hb);replace M:=M.t hb;have bn:=I (show w.heap.size+1<=wo.heap.size by have:=hb.size;have:=cb.o;have:W.drew.heap.size=W.heap.size:=rfl;omega);clear cf bq hb)
    |(go_at_call 125;refine Calls.mono (c1.o _ _ HC.o) ?_;rintro e wi ⟨⟨gd,rfl,cd,hd⟩,hc,hg⟩;clear c1 HC;have HD:=I hd;have av:=I (show w.heap.size+1<=gd by have:=bn.o;omega);have cj:=I (Df hd);replace Z:=I (Z.o.grown hg (by intro e;injection e with e;have:=aw.o;omega));replace M:=I (Az M.o hg M.o.size (by have:=aw.o;omega));clear cd hd hc hg bn aw)))
   have k9:=cc.o _ M.o
   go_wp2_with (first
    |(go_at_call 126;refine Calls.mono (T1.o _ _ HD.o) ?_;rintro e w3 ⟨ps,rfl,ho,hg⟩;clear T1 HD;replace Z:=I (Z.o.grown hg (by intro e;injection e with e;have:=av.o;omega));replace M:=I (Az M.o hg M.o.size (by have:=av.o;omega));have cg:=I (XA ho);have HM:=I (show MpO w3 (gd+1) ps zT zR zP zF ⟨1,(asQ s0).1,tg0,re0,ap0,fa0⟩ from⟨ho,zT_o _ _,zR_o _ _,zP_o _ _,zF_v⟩);have O:=I (HM.o.toV.size 1);have ca:=I (HM.o.toV.one 1);clear hg ho)
    |(refine Al (by rfl) 134 #[(0,.const (.int .i64 1)),(1,.tmp 20)] (by rfl) (mgA 1 ps zT zR zP zF) (by simp only[List.map_toArray,List.map_cons,List.map_nil];exact cg.o) ?_)
    |(refine wpList_store_mid (by rfl) 134 (.tmp 2) (.tmp 21) (by rfl) w.heap.size 0 (mgA 1 ps zT zR zP zF) (by rfl) (by rfl) (Ar Z.o _ (by rw[O.o];have:=bB.o;omega)) (by rw[O.o];exact AZ) ca.o ?_)
    |fail)
   have hE:=AJ (ds:=mgA 1 ps zT zR zP zF) Z.o (by rw[O.o];exact bB.o);have hp:=AP w3 w.heap.size (mgA 1 ps zT zR zP zF).toList;have hq:=Ao (P:=Tryz.prog) hE Tryz.underlying134 rfl (by rw[O.o];exact AZ);refine bodyPost_ret (v:=.agg (mgA 1 ps zT zR zP zF)) ?_ ?_ ?_
   ·exact Au 2 134 ⟨w.heap.size,0,none⟩ Tryz.results87 rfl hq
   ·rfl
   refine⟨_,rfl,?_,Az M.o hp (by have:=Z.o.lt;omega) Ag⟩;rw[EQ.o];exact⟨ps,zT,zR,zP,zF,rfl,(HM.o.keep hp (by have:=av.o;omega)).less (by have:=av.o;omega)⟩
  ·have d1:((t.toNat:Int)==106)=false:=by simp;intro e;exact m1 (UInt8.toNat_inj.1 (by rw[show(106:UInt8).toNat=106 from rfl];omega))
   by_cases m2:t=108
   ·have d2:((t.toNat:Int)==108)=true:=by rw[m2];rfl
    have EQ:=I (show mgQ (t :: r)=⟨2,as0,(tgQ (AN t (some (t :: r)))).1,re0,ap0,fa0⟩ by subst m2;rfl);obtain⟨s0,es0⟩:∃s,s=AN t (some (t :: r)):=⟨_,rfl⟩;rw[<-es0] at c1 bs EQ;have T1:=I (fun g w1 h=>Xw g s0 w1 h bs);clear es0 bs ck hs h bz hu m1 m2;go_enter Tryz.func87,Tryz.ntmps87
    go_upto_region 1 with fail
    rw[<-bx,<-eW];clear bx eW
    go_upto_region 3 with fail
    replace Z:=I (show Blk W.drew _ _ _ from Z.o.drewN 1);replace M:=I (show Below _ _ W.drew from below_drewN M.o 1)
    go_region_held3 (fun w'=>w'.cell? ⟨bb,oo,none⟩=some (.int .u8 (t.toNat:Int))) (exact cc.o _ M.o) ((first
     |(go_at_call 124;refine Calls.mono (c0.o _ M.o) ?_;rintro e wo ⟨go,rfl,cf,bq,hb⟩;clear c0;have HC:=I bq;have aw:=I (show w.heap.size+1<=go by have:=cb.o;have:W.drew.heap.size=W.heap.size:=rfl;omega);replace Z:=I (Z.o.below hb);replace M:=M.t hb;have bn:=I (show w.heap.size+1<=wo.heap.size by have:=hb.size;have:=cb.o;have:W.drew.heap.size=W.heap.size:=rfl;omega);clear cf bq hb)
     |(go_at_call 125;refine Calls.mono (c1.o _ _ HC.o) ?_;rintro e wi ⟨⟨gd,rfl,cd,hd⟩,hc,hg⟩;clear c1 HC;have HD:=I hd;have av:=I (show w.heap.size+1<=gd by have:=bn.o;omega);have cj:=I (Df hd);replace Z:=I (Z.o.grown hg (by intro e;injection e with e;have:=aw.o;omega));replace M:=I (Az M.o hg M.o.size (by have:=aw.o;omega));clear cd hd hc hg bn aw)))
    have k9:=cc.o _ M.o
    go_wp2_with (first
     |(go_at_call 127;refine Calls.mono (T1.o _ _ HD.o) ?_;rintro e w3 ⟨ps,rfl,ho,hg⟩;clear T1 HD;replace ho:=ho.less (show gd+1<=_ from cj.o);replace Z:=I (Z.o.grown hg (by intro e;injection e with e;have:=av.o;omega));replace M:=I (Az M.o hg M.o.size (by have:=av.o;omega));have cg:=I (XC ho);have HM:=I (show MpO w3 (gd+1) zA ps zR zP zF ⟨2,as0,(tgQ s0).1,re0,ap0,fa0⟩ from⟨zA_v,ho,zR_o _ _,zP_o _ _,zF_v⟩);have O:=I (HM.o.toV.size 2);have ca:=I (HM.o.toV.one 2);clear hg ho)
     |(refine Al (by rfl) 134 #[(0,.const (.int .i64 2)),(2,.tmp 25)] (by rfl) (mgA 2 zA ps zR zP zF) (by simp only[List.map_toArray,List.map_cons,List.map_nil];exact cg.o) ?_)
     |(refine wpList_store_mid (by rfl) 134 (.tmp 2) (.tmp 26) (by rfl) w.heap.size 0 (mgA 2 zA ps zR zP zF) (by rfl) (by rfl) (Ar Z.o _ (by rw[O.o];have:=bB.o;omega)) (by rw[O.o];exact AZ) ca.o ?_)
     |fail)
    have hE:=AJ (ds:=mgA 2 zA ps zR zP zF) Z.o (by rw[O.o];exact bB.o);have hp:=AP w3 w.heap.size (mgA 2 zA ps zR zP zF).toList;have hq:=Ao (P:=Tryz.prog) hE Tryz.underlying134 rfl (by rw[O.o];exact AZ);refine bodyPost_ret (v:=.agg (mgA 2 zA ps zR zP zF)) ?_ ?_ ?_
    ·exact Au 2 134 ⟨w.heap.size,0,none⟩ Tryz.results87 rfl hq
    ·rfl
    refine⟨_,rfl,?_,Az M.o hp (by have:=Z.o.lt;omega) Ag⟩;rw[EQ.o];exact⟨zA,ps,zR,zP,zF,rfl,(HM.o.keep hp (by have:=av.o;omega)).less (by have:=av.o;omega)⟩
   ·have d2:((t.toNat:Int)==108)=false:=by simp;intro e;exact m2 (UInt8.toNat_inj.1 (by rw[show(108:UInt8).toNat=108 from rfl];omega))
    by_cases m3:t=107
    ·have d3:((t.toNat:Int)==107)=true:=by rw[m3];rfl
     have EQ:=I (show mgQ (t :: r)=⟨3,as0,tg0,(reQ (AN t (some (t :: r)))).1,ap0,fa0⟩ by subst m3;rfl);obtain⟨s0,es0⟩:∃s,s=AN t (some (t :: r)):=⟨_,rfl⟩;rw[<-es0] at c1 bs EQ;have T1:=I (fun g w1 h=>Xx g s0 w1 h bs);clear es0 bs ck hs h bz hu m1 m2 m3;go_enter Tryz.func87,Tryz.ntmps87
     go_upto_region 1 with fail
     rw[<-bx,<-eW];clear bx eW
     go_upto_region 3 with fail
     replace Z:=I (show Blk W.drew _ _ _ from Z.o.drewN 1);replace M:=I (show Below _ _ W.drew from below_drewN M.o 1)
     go_region_held3 (fun w'=>w'.cell? ⟨bb,oo,none⟩=some (.int .u8 (t.toNat:Int))) (exact cc.o _ M.o) ((first
      |(go_at_call 124;refine Calls.mono (c0.o _ M.o) ?_;rintro e wo ⟨go,rfl,cf,bq,hb⟩;clear c0;have HC:=I bq;have aw:=I (show w.heap.size+1<=go by have:=cb.o;have:W.drew.heap.size=W.heap.size:=rfl;omega);replace Z:=I (Z.o.below hb);replace M:=M.t hb;have bn:=I (show w.heap.size+1<=wo.heap.size by have:=hb.size;have:=cb.o;have:W.drew.heap.size=W.heap.size:=rfl;omega);clear cf bq hb)
      |(go_at_call 125;refine Calls.mono (c1.o _ _ HC.o) ?_;rintro e wi ⟨⟨gd,rfl,cd,hd⟩,hc,hg⟩;clear c1 HC;have HD:=I hd;have av:=I (show w.heap.size+1<=gd by have:=bn.o;omega);have cj:=I (Df hd);replace Z:=I (Z.o.grown hg (by intro e;injection e with e;have:=aw.o;omega));replace M:=I (Az M.o hg M.o.size (by have:=aw.o;omega));clear cd hd hc hg bn aw)))
     have k9:=cc.o _ M.o
     go_wp2_with (first
      |(go_at_call 128;refine Calls.mono (T1.o _ _ HD.o) ?_;rintro e w3 ⟨ps,rfl,ho,hg⟩;clear T1 HD;replace ho:=ho.less (show gd+1<=_ from cj.o);replace Z:=I (Z.o.grown hg (by intro e;injection e with e;have:=av.o;omega));replace M:=I (Az M.o hg M.o.size (by have:=av.o;omega));have cg:=I (XD ho);have HM:=I (show MpO w3 (gd+1) zA zT ps zP zF ⟨3,as0,tg0,(reQ s0).1,ap0,fa0⟩ from⟨zA_v,zT_o _ _,ho,zP_o _ _,zF_v⟩);have O:=I (HM.o.toV.size 3);have ca:=I (HM.o.toV.one 3);clear hg ho)
      |(refine Al (by rfl) 134 #[(0,.const (.int .i64 3)),(3,.tmp 30)] (by rfl) (mgA 3 zA zT ps zP zF) (by simp only[List.map_toArray,List.map_cons,List.map_nil];exact cg.o) ?_)
      |(refine wpList_store_mid (by rfl) 134 (.tmp 2) (.tmp 31) (by rfl) w.heap.size 0 (mgA 3 zA zT ps zP zF) (by rfl) (by rfl) (Ar Z.o _ (by rw[O.o];have:=bB.o;omega)) (by rw[O.o];exact AZ) ca.o ?_)
      |fail)
     have hE:=AJ (ds:=mgA 3 zA zT ps zP zF) Z.o (by rw[O.o];exact bB.o);have hp:=AP w3 w.heap.size (mgA 3 zA zT ps zP zF).toList;have hq:=Ao (P:=Tryz.prog) hE Tryz.underlying134 rfl (by rw[O.o];exact AZ);refine bodyPost_ret (v:=.agg (mgA 3 zA zT ps zP zF)) ?_ ?_ ?_
     ·exact Au 2 134 ⟨w.heap.size,0,none⟩ Tryz.results87 rfl hq
     ·rfl
     refine⟨_,rfl,?_,Az M.o hp (by have:=Z.o.lt;omega) Ag⟩;rw[EQ.o];exact⟨zA,zT,ps,zP,zF,rfl,(HM.o.keep hp (by have:=av.o;omega)).less (by have:=av.o;omega)⟩
    ·have d3:((t.toNat:Int)==107)=false:=by simp;intro e;exact m3 (UInt8.toNat_inj.1 (by rw[show(107:UInt8).toNat=107 from rfl];omega))
     by_cases m4:t=110
     ·have d4:((t.toNat:Int)==110)=true:=by rw[m4];rfl
      have EQ:=I (show mgQ (t :: r)=⟨4,as0,tg0,re0,(apQ (AN t (some (t :: r)))).1,fa0⟩ by subst m4;rfl);obtain⟨s0,es0⟩:∃s,s=AN t (some (t :: r)):=⟨_,rfl⟩;rw[<-es0] at c1 bs EQ;have T1:=I (fun g w1 h=>Xy g s0 w1 h bs);clear es0 bs ck hs h bz hu m1 m2 m3 m4;go_enter Tryz.func87,Tryz.ntmps87
      go_upto_region 1 with fail
      rw[<-bx,<-eW];clear bx eW
      go_upto_region 3 with fail
      replace Z:=I (show Blk W.drew _ _ _ from Z.o.drewN 1);replace M:=I (show Below _ _ W.drew from below_drewN M.o 1)
      go_region_held3 (fun w'=>w'.cell? ⟨bb,oo,none⟩=some (.int .u8 (t.toNat:Int))) (exact cc.o _ M.o) ((first
       |(go_at_call 124;refine Calls.mono (c0.o _ M.o) ?_;rintro e wo ⟨go,rfl,cf,bq,hb⟩;clear c0;have HC:=I bq;have aw:=I (show w.heap.size+1<=go by have:=cb.o;have:W.drew.heap.size=W.heap.size:=rfl;omega);replace Z:=I (Z.o.below hb);replace M:=M.t hb;have bn:=I (show w.heap.size+1<=wo.heap.size by have:=hb.size;have:=cb.o;have:W.drew.heap.size=W.heap.size:=rfl;omega);clear cf bq hb)
       |(go_at_call 125;refine Calls.mono (c1.o _ _ HC.o) ?_;rintro e wi ⟨⟨gd,rfl,cd,hd⟩,hc,hg⟩;clear c1 HC;have HD:=I hd;have av:=I (show w.heap.size+1<=gd by have:=bn.o;omega);have cj:=I (Df hd);replace Z:=I (Z.o.grown hg (by intro e;injection e with e;have:=aw.o;omega));replace M:=I (Az M.o hg M.o.size (by have:=aw.o;omega));clear cd hd hc hg bn aw)))
      have k9:=cc.o _ M.o
      go_wp2_with (first
       |(go_at_call 129;refine Calls.mono (T1.o _ _ HD.o) ?_;rintro e w3 ⟨ps,rfl,ho,hg⟩;clear T1 HD;replace ho:=ho.less (show gd+1<=_ from cj.o);replace Z:=I (Z.o.grown hg (by intro e;injection e with e;have:=av.o;omega));replace M:=I (Az M.o hg M.o.size (by have:=av.o;omega));have cg:=I (LU ho);have HM:=I (show MpO w3 (gd+1) zA zT zR ps zF ⟨4,as0,tg0,re0,(apQ s0).1,fa0⟩ from⟨zA_v,zT_o _ _,zR_o _ _,ho,zF_v⟩);have O:=I (HM.o.toV.size 4);have ca:=I (HM.o.toV.one 4);clear hg ho)
       |(refine Al (by rfl) 134 #[(0,.const (.int .i64 4)),(4,.tmp 35)] (by rfl) (mgA 4 zA zT zR ps zF) (by simp only[List.map_toArray,List.map_cons,List.map_nil];exact cg.o) ?_)
       |(refine wpList_store_mid (by rfl) 134 (.tmp 2) (.tmp 36) (by rfl) w.heap.size 0 (mgA 4 zA zT zR ps zF) (by rfl) (by rfl) (Ar Z.o _ (by rw[O.o];have:=bB.o;omega)) (by rw[O.o];exact AZ) ca.o ?_)
       |fail)
      have hE:=AJ (ds:=mgA 4 zA zT zR ps zF) Z.o (by rw[O.o];exact bB.o);have hp:=AP w3 w.heap.size (mgA 4 zA zT zR ps zF).toList;have hq:=Ao (P:=Tryz.prog) hE Tryz.underlying134 rfl (by rw[O.o];exact AZ);refine bodyPost_ret (v:=.agg (mgA 4 zA zT zR ps zF)) ?_ ?_ ?_
      ·exact Au 2 134 ⟨w.heap.size,0,none⟩ Tryz.results87 rfl hq
      ·rfl
      refine⟨_,rfl,?_,Az M.o hp (by have:=Z.o.lt;omega) Ag⟩;rw[EQ.o];exact⟨zA,zT,zR,ps,zF,rfl,(HM.o.keep hp (by have:=av.o;omega)).less (by have:=av.o;omega)⟩
     ·have d4:((t.toNat:Int)==110)=false:=by simp;intro e;exact m4 (UInt8.toNat_inj.1 (by rw[show(110:UInt8).toNat=110 from rfl];omega))
      by_cases m5:t=126
      ·have d5:((t.toNat:Int)==126)=true:=by rw[m5];rfl
       have EQ:=I (show mgQ (t :: r)=⟨5,as0,tg0,re0,ap0,(faQ (AN t (some (t :: r)))).1⟩ by subst m5;rfl);obtain⟨s0,es0⟩:∃s,s=AN t (some (t :: r)):=⟨_,rfl⟩;rw[<-es0] at c1 bs EQ;have T1:=I (fun g w1 h=>Xz g s0 w1 h bs);clear es0 bs ck hs h bz hu m1 m2 m3 m4 m5;go_enter Tryz.func87,Tryz.ntmps87
       go_upto_region 1 with fail
       rw[<-bx,<-eW];clear bx eW
       go_upto_region 3 with fail
       replace Z:=I (show Blk W.drew _ _ _ from Z.o.drewN 1);replace M:=I (show Below _ _ W.drew from below_drewN M.o 1)
       go_region_held3 (fun w'=>w'.cell? ⟨bb,oo,none⟩=some (.int .u8 (t.toNat:Int))) (exact cc.o _ M.o) ((first
        |(go_at_call 124;refine Calls.mono (c0.o _ M.o) ?_;rintro e wo ⟨go,rfl,cf,bq,hb⟩;clear c0;have HC:=I bq;have aw:=I (show w.heap.size+1<=go by have:=cb.o;have:W.drew.heap.size=W.heap.size:=rfl;omega);replace Z:=I (Z.o.below hb);replace M:=M.t hb;have bn:=I (show w.heap.size+1<=wo.heap.size by have:=hb.size;have:=cb.o;have:W.drew.heap.size=W.heap.size:=rfl;omega);clear cf bq hb)
        |(go_at_call 125;refine Calls.mono (c1.o _ _ HC.o) ?_;rintro e wi ⟨⟨gd,rfl,cd,hd⟩,hc,hg⟩;clear c1 HC;have HD:=I hd;have av:=I (show w.heap.size+1<=gd by have:=bn.o;omega);have cj:=I (Df hd);replace Z:=I (Z.o.grown hg (by intro e;injection e with e;have:=aw.o;omega));replace M:=I (Az M.o hg M.o.size (by have:=aw.o;omega));clear cd hd hc hg bn aw)))
       have k9:=cc.o _ M.o
       go_wp2_with (first
        |(go_at_call 130;refine Calls.mono (T1.o _ _ HD.o) ?_;rintro e w3 ⟨ps,rfl,ho,hg⟩;clear T1 HD;replace Z:=I (Z.o.grown hg (by intro e;injection e with e;have:=av.o;omega));replace M:=I (Az M.o hg M.o.size (by have:=av.o;omega));have cg:=I (XE ho);have HM:=I (show MpO w3 (gd+1) zA zT zR zP ps ⟨5,as0,tg0,re0,ap0,(faQ s0).1⟩ from⟨zA_v,zT_o _ _,zR_o _ _,zP_o _ _,ho⟩);have O:=I (HM.o.toV.size 5);have ca:=I (HM.o.toV.one 5);clear hg ho)
        |(refine Al (by rfl) 134 #[(0,.const (.int .i64 5)),(5,.tmp 40)] (by rfl) (mgA 5 zA zT zR zP ps) (by simp only[List.map_toArray,List.map_cons,List.map_nil];exact cg.o) ?_)
        |(refine wpList_store_mid (by rfl) 134 (.tmp 2) (.tmp 41) (by rfl) w.heap.size 0 (mgA 5 zA zT zR zP ps) (by rfl) (by rfl) (Ar Z.o _ (by rw[O.o];have:=bB.o;omega)) (by rw[O.o];exact AZ) ca.o ?_)
        |fail)
       have hE:=AJ (ds:=mgA 5 zA zT zR zP ps) Z.o (by rw[O.o];exact bB.o);have hp:=AP w3 w.heap.size (mgA 5 zA zT zR zP ps).toList;have hq:=Ao (P:=Tryz.prog) hE Tryz.underlying134 rfl (by rw[O.o];exact AZ);refine bodyPost_ret (v:=.agg (mgA 5 zA zT zR zP ps)) ?_ ?_ ?_
       ·exact Au 2 134 ⟨w.heap.size,0,none⟩ Tryz.results87 rfl hq
       ·rfl
       refine⟨_,rfl,?_,Az M.o hp (by have:=Z.o.lt;omega) Ag⟩;rw[EQ.o];exact⟨zA,zT,zR,zP,ps,rfl,(HM.o.keep hp (by have:=av.o;omega)).less (by have:=av.o;omega)⟩
      ·have d5:((t.toNat:Int)==126)=false:=by simp;intro e;exact m5 (UInt8.toNat_inj.1 (by rw[show(126:UInt8).toNat=126 from rfl];omega))
       have EQ:=I (show mgQ (t :: r)=⟨0,as0,tg0,re0,ap0,fa0⟩ by simp only[mgQ,if_neg m1,if_neg m2,if_neg m3,if_neg m4,if_neg m5];rfl);have O:=I ((zM_v w 0 0).size 0);have ca:=I ((zM_v w 0 0).one 0);clear m1 m2 m3 m4 m5 bs ck hs h bz hu;go_enter Tryz.func87,Tryz.ntmps87
       go_upto_region 1 with fail
       rw[<-bx,<-eW];clear bx eW
       go_upto_region 3 with fail
       replace Z:=I (show Blk W.drew _ _ _ from Z.o.drewN 1);replace M:=I (show Below _ _ W.drew from below_drewN M.o 1)
       go_region_held3 (fun w'=>w'.cell? ⟨bb,oo,none⟩=some (.int .u8 (t.toNat:Int))) (exact cc.o _ M.o) ((first
        |(go_at_call 124;refine Calls.mono (c0.o _ M.o) ?_;rintro e wo ⟨go,rfl,cf,bq,hb⟩;clear c0;have HC:=I bq;have aw:=I (show w.heap.size+1<=go by have:=cb.o;have:W.drew.heap.size=W.heap.size:=rfl;omega);replace Z:=I (Z.o.below hb);replace M:=M.t hb;have bn:=I (show w.heap.size+1<=wo.heap.size by have:=hb.size;have:=cb.o;have:W.drew.heap.size=W.heap.size:=rfl;omega);clear cf bq hb)
        |(go_at_call 125;refine Calls.mono (c1.o _ _ HC.o) ?_;rintro e wi ⟨⟨gd,rfl,cd,hd⟩,hc,hg⟩;clear c1 HC;have HD:=I hd;have av:=I (show w.heap.size+1<=gd by have:=bn.o;omega);have cj:=I (Df hd);replace Z:=I (Z.o.grown hg (by intro e;injection e with e;have:=aw.o;omega));replace M:=I (Az M.o hg M.o.size (by have:=aw.o;omega));clear cd hd hc hg bn aw)))
       have k9:=cc.o _ M.o
       go_wp2_with (first
        |(refine Al (by rfl) 134 #[] (by rfl) (mgA 0 zA zT zR zP zF) built_none ?_)
        |(refine wpList_store_mid (by rfl) 134 (.tmp 2) (.tmp 42) (by rfl) w.heap.size 0 (mgA 0 zA zT zR zP zF) (by rfl) (by rfl) (Ar Z.o _ (by rw[O.o];have:=bB.o;omega)) (by rw[O.o];exact AZ) ca.o ?_)
        |fail)
       have hE:=AJ (ds:=mgA 0 zA zT zR zP zF) Z.o (by rw[O.o];exact bB.o);have hp:=AP wi w.heap.size (mgA 0 zA zT zR zP zF).toList;have hq:=Ao (P:=Tryz.prog) hE Tryz.underlying134 rfl (by rw[O.o];exact AZ);refine bodyPost_ret (v:=.agg (mgA 0 zA zT zR zP zF)) ?_ ?_ ?_
       ·exact Au 2 134 ⟨w.heap.size,0,none⟩ Tryz.results87 rfl hq
       ·rfl
       refine⟨_,rfl,?_,Az M.o hp (by have:=Z.o.lt;omega) Ag⟩;rw[EQ.o];exact⟨zA,zT,zR,zP,zF,rfl,⟨zA_v,zT_o _ _,zR_o _ _,zP_o _ _,zF_v⟩⟩
end Mc
end Go.Proofs.YthkdjblnmkkcfaaGreat
