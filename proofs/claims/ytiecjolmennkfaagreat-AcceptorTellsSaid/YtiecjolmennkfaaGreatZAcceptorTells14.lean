import Derived.Test.YtiecjolmennkfaaGreatZAcceptorTells13
set_option maxHeartbeats 25600000
set_option maxRecDepth 100000
set_option linter.unusedVariables false
set_option linter.unusedSimpArgs false
namespace Go.Proofs.YtiecjolmennkfaaGreat
namespace Kd
open Go.RowKit Af Se
open Rg (It Ent Ring RO DRing DO its prV Gd Ci numO Ae)
open Ms (tmB inB)
open Nm (krb)
theorem Ds:(Tryz.prog.info? 30).map (·.size)=some 2:=by kernel_rfl
section
variable {w:World} {B:Nat} {p:KP} {es:List Ent} {n i:Nat}
end
end Kd
namespace Ms
open Go.RowKit Af DerP DerR
theorem Dd {a b c:World} {row:Option Nat} (h:a.grownBy b row) (k:b.grownBy c row):a.grownBy c row:=
 ⟨k.os.trans h.os,k.tape.trans h.tape,k.output.trans h.output,Nat.le_trans h.size k.size,fun i hi M=>(k.block i (Nat.lt_of_lt_of_le hi h.size) M).trans (h.block i hi M)⟩
theorem Hm {a b c:World} {row:Option Nat} {q:Nat} (h:a.grownBy b row) (k:b.grownBy c (some q)) (O:a.heap.size<=q):a.grownBy c row:=
 ⟨k.os.trans h.os,k.tape.trans h.tape,k.output.trans h.output,Nat.le_trans h.size k.size,fun i hi M=>(k.block i (Nat.lt_of_lt_of_le hi h.size) (fun e=>by injection e with e;omega)).trans (h.block i hi M)⟩
theorem Au {P:Program} {fn:Func} {tmps:Array Value} {w:World} {v:Value} (t:Nat) (ty:TypeId) (a:Addr) (M:fn.results=#[.cell t ty]) (ht:tmps.getD t undef=.pointer (some a)) (Z:(loadVar ty a).run P w=.ok v w) :
  (results fn tmps).run P w=.ok v w:=by
 have O:tmps[t]?.getD undef=.pointer (some a):=by simpa using ht
 simp [results,M,O,asAddr,Z]
theorem Ao {P:Program} {w:World} {g:Nat} {t ty:TypeId} {cs:Array Value} {d:TypeDesc} (h:Blk w g t cs) (hu:P.underlying ty=some d) (O:d.isRow=true) (hi:(P.info? ty).map (·.size)=some cs.size) :
  (loadVar ty ⟨g,0,none⟩).run P w=.ok (.agg cs) w:=by
 have M:w.rangeAt g 0 cs.toList:=fun j v Z=>by rw[Nat.zero_add,h.cell];simpa using Z
 have:=run_loadVar_mid (P:=P) w g 0 ty cs.toList d M hu O (by simpa using hi)
 simpa using this
theorem XF (c:Option L):((intC c).2.getD []).length<=(c.getD []).length:=by
 unfold intC;cases h:AN 2 c with
 |none=>simp
 |some b=>
  simp only;cases numL b with
  |none=>simp
  |some n=>exact(Du 2 c).2
theorem Ae {P:Program} {fn:Func} {tmps:Array Value} {w:World} {v u:Value} (t q:Nat) (ty:TypeId) (a:Addr) (M:fn.results=#[.cell t ty,.tmp q]) (ht:tmps.getD t undef=.pointer (some a)) (hl:(loadVar ty a).run P w=.ok v w) (hq:tmps.getD q undef=u) :
  (results fn tmps).run P w=.ok (.tuple #[v,u]) w:=by
 have Z:tmps[t]?.getD undef=.pointer (some a):=by simpa using ht
 have O:tmps[q]?.getD undef=u:=by simpa using hq
 simp [results,M,Z,O,asAddr,hl]
def anG (b:L):An:=(anD b).getD an0
def anI (b:L):Int:=if (anD b).isSome then 0 else 2
end Ms
namespace Mc
open Go.RowKit Af DerP DerC Ms
def OwnB (w:World) (base:Nat) (v:Value) (l:L):Prop:=
 ∃b c,v=.slice (some ⟨b,0,none⟩) l.length c/\l.length<=c/\base<=b/\b<w.heap.size/\∀i u,(bvs l)[i]? = some u->w.cell? ⟨b,i,none⟩=some u
theorem OwnB.of_fresh {w:World} {base b c:Nat} {l:L} (h:RG w base b l) (M:l.length<=c):OwnB w base (.slice (some ⟨b,0,none⟩) l.length c) l:=by
 refine⟨b,c,rfl,M,h.1,h.2.1,fun i u hu=>?_⟩;have hi:i<l.length:=by
  rcases Nat.lt_or_ge i l.length with g | g
  ·exact g
  ·rw[List.getElem?_eq_none (by rw[AG];exact g)] at hu;cases hu
 rw[Fw hi] at hu;injection hu with hu;subst hu;exact(h.2.2 i hi).1
theorem OwnB.keep {w w':World} {base g:Nat} {v:Value} {l:L} (h:OwnB w base v l) (M:w.grownBy w' (some g)) (av:g<base):OwnB w' base v l:=by
 obtain⟨b,c,h1,h2,Z,O,h5⟩:=h;exact⟨b,c,h1,h2,Z,Nat.lt_of_lt_of_le O M.size,fun i u hu=>(World.cell?_of_block (a:=⟨b,i,none⟩) (M.block b O (fun e=>by injection e with e;omega))).trans (h5 i u hu)⟩
theorem OwnB.below {w w':World} {base:Nat} {v:Value} {l:L} (h:OwnB w base v l) (O:Below w.heap.size w w'):OwnB w' base v l:=by
 obtain⟨b,c,h1,h2,Z,M,h5⟩:=h;exact⟨b,c,h1,h2,Z,Nat.lt_of_lt_of_le M O.size,fun i u hu=>(O.cell (p:=⟨b,i,none⟩) M).trans (h5 i u hu)⟩
theorem OwnB.less {w:World} {base base':Nat} {v:Value} {l:L} (h:OwnB w base v l) (hb:base'<=base):OwnB w base' v l:=by
 obtain⟨b,c,O,Z,M,h4,h5⟩:=h;exact⟨b,c,O,Z,Nat.le_trans hb M,h4,h5⟩
theorem OwnB.slb {w:World} {base:Nat} {v:Value} {l:L} (h:OwnB w base v l):SlB w w.heap.size v l:=by
 obtain⟨b,c,M,O,h3,Z,h5⟩:=h;exact⟨_,c,M,O,.inr ⟨b,0,rfl,Z,fun i u hu=>by rw[Nat.zero_add];exact h5 i u hu⟩⟩
theorem Ar {w:World} {g:Nat} {t:TypeId} {cs:Array Value} (h:Blk w g t cs) (n:Nat) (O:n<=cs.size):w.there g 0 n:=fun j M=>by
 rw[Nat.zero_add,h.cell,Array.getElem?_eq_getElem (by omega)];exact⟨rfl,h.frozen j⟩
theorem Bq {g:Nat} {t:TypeId}:∀(M:List Value) (o:Nat) (w:World) (cs:Array Value),Blk w g t cs->o+M.length<=cs.size->
  ∃ds:Array Value,Blk (w.setCells g o M) g t ds/\ds.size=cs.size/\(∀i,o<=i->i<o+M.length->ds[i]? = M[i - o]?)/\(∀i,i<o\/o+M.length<=i->ds[i]? = cs[i]?)
 | [],o,w,cs,h,hl=>⟨cs,h,rfl,fun i Z O=>by simp at O;omega,fun i _=>rfl⟩
 |v :: r,o,w,cs,h,hl=>by
  rw[World.setCells];simp only[List.length_cons] at hl;obtain⟨ds,Z,O,h3,h4⟩:=Bq r (o+1) _ _ (h.set o v) (by simp;omega);simp only[List.length_cons];refine⟨ds,Z,by simpa using O,fun i hi hj=>?_,fun i hi=>?_⟩
  ·by_cases e:i=o
   ·subst e
    rw[h4 i (by omega),Nat.sub_self];rw[Array.getElem?_setIfInBounds_self_of_lt (by omega)]
    rfl
   ·rw[h3 i (by omega) (by omega),show i - o=(i - (o+1))+1 by omega]
    simp
  ·rw[h4 i (by omega)]
   exact Array.getElem?_setIfInBounds_ne (by omega)
theorem Rm {w:World} {g:Nat} {t:TypeId} {x:L} (h:Blk w g t (bvs key0).toArray):Blk (w.setCells g 0 (bvs (x.take 32))) g t (bvs ((x++key0).take 32)).toArray:=by
 have hk:key0.length=32:=rfl;obtain⟨es,O,h2,M,Z⟩:=Bq (bvs (x.take 32)) 0 w _ h (by simp [AG,hk];omega);have e:es=(bvs ((x++key0).take 32)).toArray:=by
  apply Array.ext_getElem?;intro i;rw[show(bvs ((x++key0).take 32)).toArray[i]? = (bvs ((x++key0).take 32))[i]? by simp]
  by_cases hi:i<(x.take 32).length
  ·rw[M i (by omega) (by rw[AG];omega),Nat.sub_zero]
   simp only[bvs,List.getElem?_map]
   congr 1
   rw[List.length_take] at hi;rw[List.getElem?_take_of_lt (by omega),List.getElem?_take_of_lt (by omega),List.getElem?_append_left (by omega)]
  ·rw[Z i (by rw[AG];omega),show(bvs key0).toArray[i]? = (bvs key0)[i]? by simp]
   simp only[bvs,List.getElem?_map]
   congr 1
   rw[List.length_take] at hi
   by_cases h5:i<32
   ·rw[List.getElem?_take_of_lt h5,List.getElem?_append_right (by omega)]
    simp only[key0,List.getElem?_replicate];rw[if_pos h5,if_pos (by omega)]
   ·rw[List.getElem?_eq_none (by rw[hk];omega),List.getElem?_eq_none (by rw[List.length_take];omega)]
 rw[<-e];exact O
theorem AJ {w:World} {g:Nat} {t:TypeId} {cs ds:Array Value} (h:Blk w g t cs) (hs:cs.size=ds.size):Blk (w.setCells g 0 ds.toList) g t ds:=by
 obtain⟨es,M,Z,O,_⟩:=Bq ds.toList 0 w cs h (by simp;omega);have e:es=ds:=by
  apply Array.ext_getElem?;intro i
  by_cases hi:i<ds.size
  ·rw[O i (by omega) (by simp;omega)];simp
  ·rw[Array.getElem?_eq_none (by omega),Array.getElem?_eq_none (by omega)]
 rw[<-e];rw[<-e] at M;exact M
theorem Fj {row:Option Nat} {a:World} {g:Nat} (hp:row=some g\/a.heap.size<=g):∀(M:List Value) (o:Nat) (w:World),a.grownBy w row->a.grownBy (w.setCells g o M) row
 | [],_,_,h=>h
 |v :: r,o,w,h=>by rw[World.setCells];exact Fj hp r (o+1) _ (AM h (p:=⟨g,o,none⟩) hp v)
theorem AP (w:World) (g:Nat) (M:List Value):w.grownBy (w.setCells g 0 M) (some g):=Fj (.inl rfl) M 0 w (World.grownBy.refl _ _)
theorem Di {w:World} {g:Nat} {c:Option L} (h:Cur w g c):g<w.heap.size:=Blk.lt h
theorem De {w w':World} {g q:Nat} {c:Option L} (h:Cur w g c) (M:w.grownBy w' (some q)) (O:q≠g):Cur w' g c:=Blk.grown h M (fun e=>O (by injection e))
theorem DX (g:Nat) (c:Option L) (w:World) (h:Cur w g c) (hs:((c.getD []).length:Int)<=100000):Calls Tryz.prog 156 #[.pointer (some ⟨g,0,none⟩)] w fun e w'=>
  (∃v,e=.returned v/\OwnB w' w.heap.size v (ocC c))/\Cur w' g (Bc 4 c)/\w.grownBy w' (some g):=
 (Dl g c w h hs).mono fun e w' M=>by
  obtain⟨⟨b,cap,rfl,hc,O⟩,h2,Z⟩:=M;exact⟨⟨_,rfl,OwnB.of_fresh O hc⟩,h2,Z⟩
theorem FL (g:Nat) (c:Option L) (w:World) (h:Cur w g c) (hs:((c.getD []).length:Int)<=100000):Calls Tryz.prog 174 #[.pointer (some ⟨g,0,none⟩)] w fun e w'=>
 e=.returned (.string ⟨(txC c).toArray⟩)/\Cur w' g (Bc 27 c)/\w.grownBy w' (some g):=EH g c w h hs
theorem BX (t:UInt8) {c:Option L} {n:Nat} (h:(c.getD []).length<=n):((Bc t c).getD []).length<=n:=Nat.le_trans (Du t c).2 h
theorem FM (t:UInt8) {c:Option L} {n:Nat} (h:(c.getD []).length<=n):((AN t c).getD []).length<=n:=Nat.le_trans (Du t c).1 h
theorem FN {c:Option L} {n:Nat} (h:(c.getD []).length<=n):((intC c).2.getD []).length<=n:=Nat.le_trans (XF c) h
theorem BQ (g:Nat) (c:Option L) (w:World) (h:Cur w g c) (hs:(c.getD []).length<=100000):Calls Tryz.prog 153 #[.pointer (some ⟨g,0,none⟩)] w fun e w'=>e=.returned (.agg #[.string ⟨(prQ c).1.1.toArray⟩,.string ⟨(prQ c).1.2.toArray⟩])/\Cur w' g (prQ c).2/\w.grownBy w' (some g):=by
 obtain⟨W,eW⟩:=Ak (w.alloc (.cells #[.string ⟨#[]⟩,.string ⟨#[]⟩] 30));have cb:W.heap.size=w.heap.size+1:=by rw[eW];simp
 have Z:=I (show Blk W w.heap.size 30 #[.string ⟨#[]⟩,.string ⟨#[]⟩] by rw[eW];exact Blk.new _ _ _);have bB:=Di h;have ca:Cur W g c:=by rw[eW];exact h.alloc _
 have HG:=I (show w.grownBy W (some g) by rw[eW];exact DM (World.grownBy.refl _ _) _);have c1:=GN 48 g c W ca (by omega);have bn:=FM 48 hs;obtain⟨s0,es0⟩:∃s,s=AN 48 c:=⟨_,rfl⟩;obtain⟨r,er⟩:∃s,s=Bc 48 c:=⟨_,rfl⟩;rw[<-es0] at c1 bn;rw[<-er] at c1;have av:=I bB;have bq:((Bc 27 s0).getD []).length<=100000:=BX 27 bn;have T1:=I (fun g w h=>FL g s0 w h (by omega));obtain⟨v1,bx⟩:∃x:L,x=txC s0:=⟨_,rfl⟩;obtain⟨s1,bb⟩:∃s,s=Bc 27 s0:=⟨_,rfl⟩;rw[<-bx,<-bb] at T1;rw[<-bb] at bq;have cc:((Bc 27 s1).getD []).length<=100000:=BX 27 bq;have T2:=I (fun g w h=>FL g s1 w h (by omega));obtain⟨v2,bs⟩:∃x:L,x=txC s1:=⟨_,rfl⟩;obtain⟨s2,es2⟩:∃s,s=Bc 27 s1:=⟨_,rfl⟩;rw[<-bs,<-es2] at T2;rw[<-es2] at cc;have bz:=I (show(prQ c).1.1=v1 by rw[bx,es0];rfl);have cd:=I (show(prQ c).1.2=v2 by rw[bs,bb,es0];rfl);have FS:=I (show(prQ c).2=r by rw[er];rfl);rw[bz.o,cd.o,FS.o];clear h hs bn bq cc bz bx bb cd bs es2 es0 FS bB er ca;have cg:=I cb;clear cb;subst eW;go_enter Tryz.func153,Tryz.ntmps153
 go_wp2_with (first
  |(go_at_call 114;refine Calls.mono c1 ?_;rintro e wi ⟨⟨gd,rfl,cf,hd⟩,hc,M⟩;clear c1;have HD:=I hd;have HC:=I hc;have O:=I (show w.heap.size+1<=gd by have:=cg.o;omega);have aw:=I (Di hd);replace Z:=I (Z.o.grown M (by intro e;injection e with e;have:=av.o;omega));replace HG:=I (Dd HG.o M);clear cf hd hc M)
  |(go_at_call 174;(with_reducible refine Calls.mono (T1.o _ _ HD.o) ?_);rintro e w1 ⟨rfl,hd,M⟩;clear T1;replace HD:=I hd;replace Z:=I (Z.o.grown M (by intro e;injection e with e;have:=O.o;omega));replace HC:=I (De HC.o M (by have:=O.o;have:=av.o;omega));replace HG:=I (Hm HG.o M (by have:=O.o;omega));replace aw:=I (Nat.lt_of_lt_of_le aw.o M.size);clear hd M)
  |(go_at_call 174;(with_reducible refine Calls.mono (T2.o _ _ HD.o) ?_);rintro e w2 ⟨rfl,hd,M⟩;clear T2;replace HD:=I hd;replace Z:=I (Z.o.grown M (by intro e;injection e with e;have:=O.o;omega));replace HC:=I (De HC.o M (by have:=O.o;have:=av.o;omega));replace HG:=I (Hm HG.o M (by have:=O.o;omega));replace aw:=I (Nat.lt_of_lt_of_le aw.o M.size);clear hd M;have n0:=Z.c0;have y0:=Z.o.frozen 0;have n1:=Z.c1;have y1:=Z.o.frozen 1)
  |fail)
 have hE:Blk ((w2.setCell ⟨w.heap.size,0,none⟩ (.string ⟨v1.toArray⟩)).setCell ⟨w.heap.size,1,none⟩ (.string ⟨v2.toArray⟩)) w.heap.size 30 #[.string ⟨v1.toArray⟩,.string ⟨v2.toArray⟩]:=((Z.o.set 0 (.string ⟨v1.toArray⟩)).set 1 (.string ⟨v2.toArray⟩));have hp:=(AM (AM (World.grownBy.refl w2 (some w.heap.size)) (p:=⟨w.heap.size,0,none⟩) (.inl rfl) (.string ⟨v1.toArray⟩)) (p:=⟨w.heap.size,1,none⟩) (.inl rfl) (.string ⟨v2.toArray⟩));have hq:=Ao (P:=Tryz.prog) hE Tryz.underlying30 rfl (by kernel_rfl);refine bodyPost_ret (v:=.agg #[.string ⟨v1.toArray⟩,.string ⟨v2.toArray⟩]) ?_ ?_ ?_
 ·exact Au 2 30 ⟨w.heap.size,0,none⟩ Tryz.results153 rfl hq
 ·rfl
 exact⟨rfl,De HC.o hp (by have:=av.o;omega),Hm HG.o hp Ag⟩
theorem Eh (g:Nat) (c:Option L) (w:World) (h:Cur w g c) (hs:(c.getD []).length<=100000):Calls Tryz.prog 155 #[.pointer (some ⟨g,0,none⟩)] w fun e w'=>∃z3,e=.returned (.agg #[.string ⟨(tkQ c).1.s.1.toArray⟩,.string ⟨(tkQ c).1.s.2.toArray⟩,.int .i64 (tkQ c).1.k,z3])/\OwnB w' w.heap.size z3 (tkQ c).1.b/\Cur w' g (tkQ c).2/\w.grownBy w' (some g):=by
 obtain⟨W,eW⟩:=Ak (w.alloc (.cells #[.string ⟨#[]⟩,.string ⟨#[]⟩,.int .i64 0,.slice none 0 0] 74));have cg:W.heap.size=w.heap.size+1:=by rw[eW];simp
 have Z:=I (show Blk W w.heap.size 74 #[.string ⟨#[]⟩,.string ⟨#[]⟩,.int .i64 0,.slice none 0 0] by rw[eW];exact Blk.new _ _ _);have cc:=Di h;have cd:Cur W g c:=by rw[eW];exact h.alloc _
 have HG:=I (show w.grownBy W (some g) by rw[eW];exact DM (World.grownBy.refl _ _) _);have c1:=GN 97 g c W cd (by omega);have bn:=FM 97 hs;obtain⟨s0,es0⟩:∃s,s=AN 97 c:=⟨_,rfl⟩;obtain⟨r,er⟩:∃s,s=Bc 97 c:=⟨_,rfl⟩;rw[<-es0] at c1 bn;rw[<-er] at c1;have aw:=I cc;have bs:(((prQ s0).2).getD []).length<=100000:=BX 48 bn;have T1:=I (fun g w h=>BQ g s0 w h bn);obtain⟨v1,bB⟩:∃x:Pr,x=(prQ s0).1:=⟨_,rfl⟩;obtain⟨s1,bb⟩:∃s,s=(prQ s0).2:=⟨_,rfl⟩;rw[<-bB,<-bb] at T1;rw[<-bb] at bs;have ca:(((intC s1).2).getD []).length<=100000:=FN bs;have T2:=I (fun g w h=>BP g s1 w h (by omega));obtain⟨v2,bx⟩:∃x:Int,x=((intC s1).1:Int):=⟨_,rfl⟩;obtain⟨s2,es2⟩:∃s,s=(intC s1).2:=⟨_,rfl⟩;rw[<-bx,<-es2] at T2;rw[<-es2] at ca;have ck:((Bc 4 s2).getD []).length<=100000:=BX 4 ca;have T3:=I (fun g w h=>DX g s2 w h (by omega));obtain⟨v3,bz⟩:∃x:L,x=ocC s2:=⟨_,rfl⟩;obtain⟨s3,bq⟩:∃s,s=Bc 4 s2:=⟨_,rfl⟩;rw[<-bz,<-bq] at T3;rw[<-bq] at ck;have cb:=I (show(tkQ c).1.s=v1 by rw[bB,es0];rfl);have cj:=I (show(tkQ c).1.k=v2 by rw[bx,bb,es0];rfl);have cf:=I (show(tkQ c).1.b=v3 by rw[bz,es2,bb,es0];rfl);have FS:=I (show(tkQ c).2=r by rw[er];rfl);rw[cb.o,cj.o,cf.o,FS.o];clear h hs bn bs ca ck cb bB bb cj bx es2 cf bz bq es0 FS cc er cd;have cp:=I cg;clear cg;subst eW;go_enter Tryz.func155,Tryz.ntmps155
 go_wp2_with (first
  |(go_at_call 114;refine Calls.mono c1 ?_;rintro e wi ⟨⟨gd,rfl,cn,hd⟩,hc,O⟩;clear c1;have HD:=I hd;have HC:=I hc;have M:=I (show w.heap.size+1<=gd by have:=cp.o;omega);have av:=I (Di hd);replace Z:=I (Z.o.grown O (by intro e;injection e with e;have:=aw.o;omega));replace HG:=I (Dd HG.o O);clear cn hd hc O)
  |(go_at_call 153;(with_reducible refine Calls.mono (T1.o _ _ HD.o) ?_);rintro e w1 ⟨rfl,hd,O⟩;clear T1;replace HD:=I hd;replace Z:=I (Z.o.grown O (by intro e;injection e with e;have:=M.o;omega));replace HC:=I (De HC.o O (by have:=M.o;have:=aw.o;omega));replace HG:=I (Hm HG.o O (by have:=M.o;omega));replace av:=I (Nat.lt_of_lt_of_le av.o O.size);clear hd O)
  |(go_at_call 154;(with_reducible refine Calls.mono (T2.o _ _ HD.o) ?_);rintro e w2 ⟨rfl,hd,O⟩;clear T2;replace HD:=I hd;replace Z:=I (Z.o.grown O (by intro e;injection e with e;have:=M.o;omega));replace HC:=I (De HC.o O (by have:=M.o;have:=aw.o;omega));replace HG:=I (Hm HG.o O (by have:=M.o;omega));replace av:=I (Nat.lt_of_lt_of_le av.o O.size);clear hd O)
  |(go_at_call 156;(with_reducible refine Calls.mono (T3.o _ _ HD.o) ?_);rintro e w3 ⟨⟨y,rfl,ho⟩,hd,O⟩;clear T3;replace ho:=ho.less (show gd+1<=_ from av.o);obtain⟨b3,c3,rfl,x1,x2,x3,x4⟩:=ho;have cm:Hid (OwnB w3 (gd+1) (.slice (some ⟨b3,0,none⟩) _ c3) _):=I ⟨b3,c3,rfl,x1,x2,x3,x4⟩;clear x1 x2 x3 x4;replace HD:=I hd;replace Z:=I (Z.o.grown O (by intro e;injection e with e;have:=M.o;omega));replace HC:=I (De HC.o O (by have:=M.o;have:=aw.o;omega));replace HG:=I (Hm HG.o O (by have:=M.o;omega));replace av:=I (Nat.lt_of_lt_of_le av.o O.size);clear hd O;have n0:=Z.c0;have y0:=Z.o.frozen 0;have n1:=Z.c1;have y1:=Z.o.frozen 1;have n2:=Z.c2;have y2:=Z.o.frozen 2;have n3:=Z.c3;have y3:=Z.o.frozen 3)
  |fail)
 have hE:Blk ((((w3.setCell ⟨w.heap.size,0,none⟩ (.string ⟨v1.1.toArray⟩)).setCell ⟨w.heap.size,1,none⟩ (.string ⟨v1.2.toArray⟩)).setCell ⟨w.heap.size,2,none⟩ (.int .i64 v2)).setCell ⟨w.heap.size,3,none⟩ (.slice (some ⟨b3,0,none⟩) v3.length c3)) w.heap.size 74 #[.string ⟨v1.1.toArray⟩,.string ⟨v1.2.toArray⟩,.int .i64 v2,.slice (some ⟨b3,0,none⟩) v3.length c3]:=((((Z.o.set 0 (.string ⟨v1.1.toArray⟩)).set 1 (.string ⟨v1.2.toArray⟩)).set 2 (.int .i64 v2)).set 3 (.slice (some ⟨b3,0,none⟩) v3.length c3));have hp:=(AM (AM (AM (AM (World.grownBy.refl w3 (some w.heap.size)) (p:=⟨w.heap.size,0,none⟩) (.inl rfl) (.string ⟨v1.1.toArray⟩)) (p:=⟨w.heap.size,1,none⟩) (.inl rfl) (.string ⟨v1.2.toArray⟩)) (p:=⟨w.heap.size,2,none⟩) (.inl rfl) (.int .i64 v2)) (p:=⟨w.heap.size,3,none⟩) (.inl rfl) (.slice (some ⟨b3,0,none⟩) v3.length c3));have hq:=Ao (P:=Tryz.prog) hE Tryz.underlying74 rfl (by kernel_rfl);refine bodyPost_ret (v:=.agg #[.string ⟨v1.1.toArray⟩,.string ⟨v1.2.toArray⟩,.int .i64 v2,.slice (some ⟨b3,0,none⟩) v3.length c3]) ?_ ?_ ?_
 ·exact Au 2 74 ⟨w.heap.size,0,none⟩ Tryz.results155 rfl hq
 ·rfl
 exact⟨_,rfl,(cm.o.keep hp (by have:=M.o;omega)).less (by have:=M.o;omega),De HC.o hp (by have:=aw.o;omega),Hm HG.o hp Ag⟩
theorem Ro (g:Nat) (c:Option L) (w:World) (h:Cur w g c) (hs:(c.getD []).length<=100000):Calls Tryz.prog 115 #[.pointer (some ⟨g,0,none⟩)] w fun e w'=>e=.returned (.agg #[.string ⟨(asQ c).1.c.1.toArray⟩,.string ⟨(asQ c).1.c.2.toArray⟩,.string ⟨(asQ c).1.s.1.toArray⟩,.string ⟨(asQ c).1.s.2.toArray⟩,.int .i64 (asQ c).1.t,.int .i64 (asQ c).1.no])/\Cur w' g (asQ c).2/\w.grownBy w' (some g):=by
 obtain⟨W,eW⟩:=Ak (w.alloc (.cells #[.string ⟨#[]⟩,.string ⟨#[]⟩,.string ⟨#[]⟩,.string ⟨#[]⟩,.int .i64 0,.int .i64 0] 78));have cm:W.heap.size=w.heap.size+1:=by rw[eW];simp
 have M:=I (show Blk W w.heap.size 78 #[.string ⟨#[]⟩,.string ⟨#[]⟩,.string ⟨#[]⟩,.string ⟨#[]⟩,.int .i64 0,.int .i64 0] by rw[eW];exact Blk.new _ _ _);have cg:=Di h;have HC:=I (show Cur W g c by rw[eW];exact h.alloc _);have HG:=I (show w.grownBy W (some g) by rw[eW];exact DM (World.grownBy.refl _ _) _);have bq:=hs;obtain⟨s0,es0⟩:∃s,s=c:=⟨_,rfl⟩;rw[<-es0] at HC bq;have aw:=I cg;have Z:=I (show w.heap.size<W.heap.size by omega);have bs:(((prQ s0).2).getD []).length<=100000:=BX 48 bq;have T1:=I (fun g w h=>BQ g s0 w h bq);obtain⟨v1,bB⟩:∃x:Pr,x=(prQ s0).1:=⟨_,rfl⟩;obtain⟨s1,av⟩:∃s,s=(prQ s0).2:=⟨_,rfl⟩;rw[<-bB,<-av] at T1;rw[<-av] at bs;have ca:(((prQ s1).2).getD []).length<=100000:=BX 48 bs;have T2:=I (fun g w h=>BQ g s1 w h bs);obtain⟨v2,bx⟩:∃x:Pr,x=(prQ s1).1:=⟨_,rfl⟩;obtain⟨s2,es2⟩:∃s,s=(prQ s1).2:=⟨_,rfl⟩;rw[<-bx,<-es2] at T2;rw[<-es2] at ca;have cc:(((intC s2).2).getD []).length<=100000:=FN ca;have T3:=I (fun g w h=>BP g s2 w h (by omega));obtain⟨v3,bz⟩:∃x:Int,x=((intC s2).1:Int):=⟨_,rfl⟩;obtain⟨s3,bb⟩:∃s,s=(intC s2).2:=⟨_,rfl⟩;rw[<-bz,<-bb] at T3;rw[<-bb] at cc;have cf:(((intC s3).2).getD []).length<=100000:=FN cc;have T4:=I (fun g w h=>BP g s3 w h (by omega));obtain⟨v4,cb⟩:∃x:Int,x=((intC s3).1:Int):=⟨_,rfl⟩;obtain⟨s4,bn⟩:∃s,s=(intC s3).2:=⟨_,rfl⟩;rw[<-cb,<-bn] at T4;rw[<-bn] at cf;have cd:=I (show(asQ c).1.c=v1 by rw[bB,es0];rfl);have cn:=I (show(asQ c).1.s=v2 by rw[bx,av,es0];rfl);have ck:=I (show(asQ c).1.t=v3 by rw[bz,es2,av,es0];rfl);have cj:=I (show(asQ c).1.no=v4 by rw[cb,bb,es2,av,es0];rfl);have FS:=I (show(asQ c).2=s4 by rw[bn,bb,es2,av,es0];rfl);rw[cd.o,cn.o,ck.o,cj.o,FS.o];clear h hs bq bs ca cc cf cd bB av cn bx es2 ck bz bb cj cb bn es0 FS cg;have cp:=I cm;clear cm;subst eW;go_enter Tryz.func115,Tryz.ntmps115
 go_wp2_with (first
  |(go_at_call 153;(with_reducible refine Calls.mono (T1.o _ _ HC.o) ?_);rintro e w1 ⟨rfl,hd,O⟩;clear T1;replace HC:=I hd;replace M:=I (M.o.grown O (by intro e;injection e with e;have:=aw.o;omega));replace HG:=I (Dd HG.o O);replace Z:=I (Nat.lt_of_lt_of_le Z.o O.size);clear hd O)
  |(go_at_call 153;(with_reducible refine Calls.mono (T2.o _ _ HC.o) ?_);rintro e w2 ⟨rfl,hd,O⟩;clear T2;replace HC:=I hd;replace M:=I (M.o.grown O (by intro e;injection e with e;have:=aw.o;omega));replace HG:=I (Dd HG.o O);replace Z:=I (Nat.lt_of_lt_of_le Z.o O.size);clear hd O)
  |(go_at_call 154;(with_reducible refine Calls.mono (T3.o _ _ HC.o) ?_);rintro e w3 ⟨rfl,hd,O⟩;clear T3;replace HC:=I hd;replace M:=I (M.o.grown O (by intro e;injection e with e;have:=aw.o;omega));replace HG:=I (Dd HG.o O);replace Z:=I (Nat.lt_of_lt_of_le Z.o O.size);clear hd O)
  |(go_at_call 154;(with_reducible refine Calls.mono (T4.o _ _ HC.o) ?_);rintro e w4 ⟨rfl,hd,O⟩;clear T4;replace HC:=I hd;replace M:=I (M.o.grown O (by intro e;injection e with e;have:=aw.o;omega));replace HG:=I (Dd HG.o O);replace Z:=I (Nat.lt_of_lt_of_le Z.o O.size);clear hd O;have n0:=M.c0;have y0:=M.o.frozen 0;have n1:=M.c1;have y1:=M.o.frozen 1;have n2:=M.c2;have y2:=M.o.frozen 2;have n3:=M.c3;have y3:=M.o.frozen 3;have n4:=M.c4;have y4:=M.o.frozen 4;have n5:=M.c5;have y5:=M.o.frozen 5)
  |fail)
 have hE:Blk ((((((w4.setCell ⟨w.heap.size,0,none⟩ (.string ⟨v1.1.toArray⟩)).setCell ⟨w.heap.size,1,none⟩ (.string ⟨v1.2.toArray⟩)).setCell ⟨w.heap.size,2,none⟩ (.string ⟨v2.1.toArray⟩)).setCell ⟨w.heap.size,3,none⟩ (.string ⟨v2.2.toArray⟩)).setCell ⟨w.heap.size,4,none⟩ (.int .i64 v3)).setCell ⟨w.heap.size,5,none⟩ (.int .i64 v4)) w.heap.size 78 #[.string ⟨v1.1.toArray⟩,.string ⟨v1.2.toArray⟩,.string ⟨v2.1.toArray⟩,.string ⟨v2.2.toArray⟩,.int .i64 v3,.int .i64 v4]:=((((((M.o.set 0 (.string ⟨v1.1.toArray⟩)).set 1 (.string ⟨v1.2.toArray⟩)).set 2 (.string ⟨v2.1.toArray⟩)).set 3 (.string ⟨v2.2.toArray⟩)).set 4 (.int .i64 v3)).set 5 (.int .i64 v4));have hp:=(AM (AM (AM (AM (AM (AM (World.grownBy.refl w4 (some w.heap.size)) (p:=⟨w.heap.size,0,none⟩) (.inl rfl) (.string ⟨v1.1.toArray⟩)) (p:=⟨w.heap.size,1,none⟩) (.inl rfl) (.string ⟨v1.2.toArray⟩)) (p:=⟨w.heap.size,2,none⟩) (.inl rfl) (.string ⟨v2.1.toArray⟩)) (p:=⟨w.heap.size,3,none⟩) (.inl rfl) (.string ⟨v2.2.toArray⟩)) (p:=⟨w.heap.size,4,none⟩) (.inl rfl) (.int .i64 v3)) (p:=⟨w.heap.size,5,none⟩) (.inl rfl) (.int .i64 v4));have hq:=Ao (P:=Tryz.prog) hE Tryz.underlying78 rfl (by kernel_rfl);refine bodyPost_ret (v:=.agg #[.string ⟨v1.1.toArray⟩,.string ⟨v1.2.toArray⟩,.string ⟨v2.1.toArray⟩,.string ⟨v2.2.toArray⟩,.int .i64 v3,.int .i64 v4]) ?_ ?_ ?_
 ·exact Au 2 78 ⟨w.heap.size,0,none⟩ Tryz.results115 rfl hq
 ·rfl
 exact⟨rfl,De HC.o hp (by have:=aw.o;omega),Hm HG.o hp Ag⟩
theorem Rq (g:Nat) (c:Option L) (w:World) (h:Cur w g c) (hs:(c.getD []).length<=100000):Calls Tryz.prog 117 #[.pointer (some ⟨g,0,none⟩)] w fun e w'=>∃z2,∃z3,e=.returned (.agg #[.string ⟨(reQ c).1.c.1.toArray⟩,.string ⟨(reQ c).1.c.2.toArray⟩,.string ⟨(reQ c).1.t.s.1.toArray⟩,.string ⟨(reQ c).1.t.s.2.toArray⟩,.int .i64 (reQ c).1.t.k,z2,z3])/\OwnB w' w.heap.size z2 (reQ c).1.t.b/\OwnB w' w.heap.size z3 (reQ c).1.b/\Cur w' g (reQ c).2/\w.grownBy w' (some g):=by
 obtain⟨W,eW⟩:=Ak (w.alloc (.cells #[.string ⟨#[]⟩,.string ⟨#[]⟩,.string ⟨#[]⟩,.string ⟨#[]⟩,.int .i64 0,.slice none 0 0,.slice none 0 0] 82));have cf:W.heap.size=w.heap.size+1:=by rw[eW];simp
 have M:=I (show Blk W w.heap.size 82 #[.string ⟨#[]⟩,.string ⟨#[]⟩,.string ⟨#[]⟩,.string ⟨#[]⟩,.int .i64 0,.slice none 0 0,.slice none 0 0] by rw[eW];exact Blk.new _ _ _);have cc:=Di h;have HC:=I (show Cur W g c by rw[eW];exact h.alloc _);have HG:=I (show w.grownBy W (some g) by rw[eW];exact DM (World.grownBy.refl _ _) _);have bn:=hs;obtain⟨s0,es0⟩:∃s,s=c:=⟨_,rfl⟩;rw[<-es0] at HC bn;have aw:=I cc;have O:=I (show w.heap.size<W.heap.size by omega);have bq:(((prQ s0).2).getD []).length<=100000:=BX 48 bn;have T1:=I (fun g w h=>BQ g s0 w h bn);obtain⟨v1,bB⟩:∃x:Pr,x=(prQ s0).1:=⟨_,rfl⟩;obtain⟨s1,av⟩:∃s,s=(prQ s0).2:=⟨_,rfl⟩;rw[<-bB,<-av] at T1;rw[<-av] at bq;have ca:(((tkQ s1).2).getD []).length<=100000:=BX 97 bq;have T2:=I (fun g w h=>Eh g s1 w h bq);obtain⟨v2,bx⟩:∃x:Tk,x=(tkQ s1).1:=⟨_,rfl⟩;obtain⟨s2,es2⟩:∃s,s=(tkQ s1).2:=⟨_,rfl⟩;rw[<-bx,<-es2] at T2;rw[<-es2] at ca;have cj:((Bc 4 s2).getD []).length<=100000:=BX 4 ca;have T3:=I (fun g w h=>DX g s2 w h (by omega));obtain⟨v3,bz⟩:∃x:L,x=ocC s2:=⟨_,rfl⟩;obtain⟨s3,bb⟩:∃s,s=Bc 4 s2:=⟨_,rfl⟩;rw[<-bz,<-bb] at T3;rw[<-bb] at cj;have cb:=I (show(reQ c).1.c=v1 by rw[bB,es0];rfl);have cg:=I (show(reQ c).1.t=v2 by rw[bx,av,es0];rfl);have cd:=I (show(reQ c).1.b=v3 by rw[bz,es2,av,es0];rfl);have FS:=I (show(reQ c).2=s3 by rw[bb,es2,av,es0];rfl);rw[cb.o,cg.o,cd.o,FS.o];clear h hs bn bq ca cj cb bB av cg bx es2 cd bz bb es0 FS cc;have cm:=I cf;clear cf;subst eW;go_enter Tryz.func117,Tryz.ntmps117
 go_wp2_with (first
  |(go_at_call 153;(with_reducible refine Calls.mono (T1.o _ _ HC.o) ?_);rintro e w1 ⟨rfl,hd,Z⟩;clear T1;replace HC:=I hd;replace M:=I (M.o.grown Z (by intro e;injection e with e;have:=aw.o;omega));replace HG:=I (Dd HG.o Z);replace O:=I (Nat.lt_of_lt_of_le O.o Z.size);clear hd Z)
  |(go_at_call 155;(with_reducible refine Calls.mono (T2.o _ _ HC.o) ?_);rintro e w2 ⟨y,rfl,ho,hd,Z⟩;clear T2;replace ho:=ho.less (show w.heap.size+1<=_ from O.o);obtain⟨b2,c2,rfl,x1,x2,x3,x4⟩:=ho;have bs:Hid (OwnB w2 (w.heap.size+1) (.slice (some ⟨b2,0,none⟩) _ c2) _):=I ⟨b2,c2,rfl,x1,x2,x3,x4⟩;clear x1 x2 x3 x4;replace HC:=I hd;replace M:=I (M.o.grown Z (by intro e;injection e with e;have:=aw.o;omega));replace HG:=I (Dd HG.o Z);replace O:=I (Nat.lt_of_lt_of_le O.o Z.size);clear hd Z)
  |(go_at_call 156;(with_reducible refine Calls.mono (T3.o _ _ HC.o) ?_);rintro e w3 ⟨⟨y,rfl,ho⟩,hd,Z⟩;clear T3;replace ho:=ho.less (show w.heap.size+1<=_ from O.o);obtain⟨b3,c3,rfl,x1,x2,x3,x4⟩:=ho;have ck:Hid (OwnB w3 (w.heap.size+1) (.slice (some ⟨b3,0,none⟩) _ c3) _):=I ⟨b3,c3,rfl,x1,x2,x3,x4⟩;clear x1 x2 x3 x4;replace HC:=I hd;replace bs:=I (bs.o.keep Z (by have:=aw.o;omega));replace M:=I (M.o.grown Z (by intro e;injection e with e;have:=aw.o;omega));replace HG:=I (Dd HG.o Z);replace O:=I (Nat.lt_of_lt_of_le O.o Z.size);clear hd Z;have n0:=M.c0;have y0:=M.o.frozen 0;have n1:=M.c1;have y1:=M.o.frozen 1;have n2:=M.c2;have y2:=M.o.frozen 2;have n3:=M.c3;have y3:=M.o.frozen 3;have n4:=M.c4;have y4:=M.o.frozen 4;have n5:=M.c5;have y5:=M.o.frozen 5;have n6:=M.c6;have y6:=M.o.frozen 6)
  |fail)
 have hE:Blk (((((((w3.setCell ⟨w.heap.size,0,none⟩ (.string ⟨v1.1.toArray⟩)).setCell ⟨w.heap.size,1,none⟩ (.string ⟨v1.2.toArray⟩)).setCell ⟨w.heap.size,2,none⟩ (.string ⟨v2.s.1.toArray⟩)).setCell ⟨w.heap.size,3,none⟩ (.string ⟨v2.s.2.toArray⟩)).setCell ⟨w.heap.size,4,none⟩ (.int .i64 v2.k)).setCell ⟨w.heap.size,5,none⟩ (.slice (some ⟨b2,0,none⟩) v2.b.length c2)).setCell ⟨w.heap.size,6,none⟩ (.slice (some ⟨b3,0,none⟩) v3.length c3)) w.heap.size 82 #[.string ⟨v1.1.toArray⟩,.string ⟨v1.2.toArray⟩,.string ⟨v2.s.1.toArray⟩,.string ⟨v2.s.2.toArray⟩,.int .i64 v2.k,.slice (some ⟨b2,0,none⟩) v2.b.length c2,.slice (some ⟨b3,0,none⟩) v3.length c3]:=(((((((M.o.set 0 (.string ⟨v1.1.toArray⟩)).set 1 (.string ⟨v1.2.toArray⟩)).set 2 (.string ⟨v2.s.1.toArray⟩)).set 3 (.string ⟨v2.s.2.toArray⟩)).set 4 (.int .i64 v2.k)).set 5 (.slice (some ⟨b2,0,none⟩) v2.b.length c2)).set 6 (.slice (some ⟨b3,0,none⟩) v3.length c3));have hp:=(AM (AM (AM (AM (AM (AM (AM (World.grownBy.refl w3 (some w.heap.size)) (p:=⟨w.heap.size,0,none⟩) (.inl rfl) (.string ⟨v1.1.toArray⟩)) (p:=⟨w.heap.size,1,none⟩) (.inl rfl) (.string ⟨v1.2.toArray⟩)) (p:=⟨w.heap.size,2,none⟩) (.inl rfl) (.string ⟨v2.s.1.toArray⟩)) (p:=⟨w.heap.size,3,none⟩) (.inl rfl) (.string ⟨v2.s.2.toArray⟩)) (p:=⟨w.heap.size,4,none⟩) (.inl rfl) (.int .i64 v2.k)) (p:=⟨w.heap.size,5,none⟩) (.inl rfl) (.slice (some ⟨b2,0,none⟩) v2.b.length c2)) (p:=⟨w.heap.size,6,none⟩) (.inl rfl) (.slice (some ⟨b3,0,none⟩) v3.length c3));have hq:=Ao (P:=Tryz.prog) hE Tryz.underlying82 rfl (by kernel_rfl);refine bodyPost_ret (v:=.agg #[.string ⟨v1.1.toArray⟩,.string ⟨v1.2.toArray⟩,.string ⟨v2.s.1.toArray⟩,.string ⟨v2.s.2.toArray⟩,.int .i64 v2.k,.slice (some ⟨b2,0,none⟩) v2.b.length c2,.slice (some ⟨b3,0,none⟩) v3.length c3]) ?_ ?_ ?_
 ·exact Au 2 82 ⟨w.heap.size,0,none⟩ Tryz.results117 rfl hq
 ·rfl
 exact⟨_,_,rfl,(bs.o.keep hp (by omega)).less (by omega),(ck.o.keep hp (by omega)).less (by omega),De HC.o hp (by have:=aw.o;omega),Hm HG.o hp Ag⟩
theorem Rr (g:Nat) (c:Option L) (w:World) (h:Cur w g c) (hs:(c.getD []).length<=100000):Calls Tryz.prog 118 #[.pointer (some ⟨g,0,none⟩)] w fun e w'=>∃z1,∃z2,e=.returned (.agg #[.string ⟨(apQ c).1.t.s.1.toArray⟩,.string ⟨(apQ c).1.t.s.2.toArray⟩,.int .i64 (apQ c).1.t.k,z1,z2])/\OwnB w' w.heap.size z1 (apQ c).1.t.b/\OwnB w' w.heap.size z2 (apQ c).1.a/\Cur w' g (apQ c).2/\w.grownBy w' (some g):=by
 obtain⟨W,eW⟩:=Ak (w.alloc (.cells #[.string ⟨#[]⟩,.string ⟨#[]⟩,.int .i64 0,.slice none 0 0,.slice none 0 0] 76));have bB:W.heap.size=w.heap.size+1:=by rw[eW];simp
 have M:=I (show Blk W w.heap.size 76 #[.string ⟨#[]⟩,.string ⟨#[]⟩,.int .i64 0,.slice none 0 0,.slice none 0 0] by rw[eW];exact Blk.new _ _ _);have bz:=Di h;have HC:=I (show Cur W g c by rw[eW];exact h.alloc _);have HG:=I (show w.grownBy W (some g) by rw[eW];exact DM (World.grownBy.refl _ _) _);have aw:=hs;obtain⟨s0,es0⟩:∃s,s=c:=⟨_,rfl⟩;rw[<-es0] at HC aw;have av:=I bz;have O:=I (show w.heap.size<W.heap.size by omega);have bb:(((tkQ s0).2).getD []).length<=100000:=BX 97 aw;have T1:=I (fun g w h=>Eh g s0 w h aw);obtain⟨v1,bq⟩:∃x:Tk,x=(tkQ s0).1:=⟨_,rfl⟩;obtain⟨s1,Z⟩:∃s,s=(tkQ s0).2:=⟨_,rfl⟩;rw[<-bq,<-Z] at T1;rw[<-Z] at bb;have ca:((Bc 4 s1).getD []).length<=100000:=BX 4 bb;have T2:=I (fun g w h=>DX g s1 w h (by omega));obtain⟨v2,bn⟩:∃x:L,x=ocC s1:=⟨_,rfl⟩;obtain⟨s2,es2⟩:∃s,s=Bc 4 s1:=⟨_,rfl⟩;rw[<-bn,<-es2] at T2;rw[<-es2] at ca;have bx:=I (show(apQ c).1.t=v1 by rw[bq,es0];rfl);have cb:=I (show(apQ c).1.a=v2 by rw[bn,Z,es0];rfl);have FS:=I (show(apQ c).2=s2 by rw[es2,Z,es0];rfl);rw[bx.o,cb.o,FS.o];clear h hs aw bb ca bx bq Z cb bn es2 es0 FS bz;have cd:=I bB;clear bB;subst eW;go_enter Tryz.func118,Tryz.ntmps118
 go_wp2_with (first
  |(go_at_call 155;(with_reducible refine Calls.mono (T1.o _ _ HC.o) ?_);rintro e w1 ⟨y,rfl,ho,hd,hg⟩;clear T1;replace ho:=ho.less (show w.heap.size+1<=_ from O.o);obtain⟨b1,c1,rfl,x1,x2,x3,x4⟩:=ho;have bs:Hid (OwnB w1 (w.heap.size+1) (.slice (some ⟨b1,0,none⟩) _ c1) _):=I ⟨b1,c1,rfl,x1,x2,x3,x4⟩;clear x1 x2 x3 x4;replace HC:=I hd;replace M:=I (M.o.grown hg (by intro e;injection e with e;have:=av.o;omega));replace HG:=I (Dd HG.o hg);replace O:=I (Nat.lt_of_lt_of_le O.o hg.size);clear hd hg)
  |(go_at_call 156;(with_reducible refine Calls.mono (T2.o _ _ HC.o) ?_);rintro e w2 ⟨⟨y,rfl,ho⟩,hd,hg⟩;clear T2;replace ho:=ho.less (show w.heap.size+1<=_ from O.o);obtain⟨b2,c2,rfl,x1,x2,x3,x4⟩:=ho;have cc:Hid (OwnB w2 (w.heap.size+1) (.slice (some ⟨b2,0,none⟩) _ c2) _):=I ⟨b2,c2,rfl,x1,x2,x3,x4⟩;clear x1 x2 x3 x4;replace HC:=I hd;replace bs:=I (bs.o.keep hg (by have:=av.o;omega));replace M:=I (M.o.grown hg (by intro e;injection e with e;have:=av.o;omega));replace HG:=I (Dd HG.o hg);replace O:=I (Nat.lt_of_lt_of_le O.o hg.size);clear hd hg;have n0:=M.c0;have y0:=M.o.frozen 0;have n1:=M.c1;have y1:=M.o.frozen 1;have n2:=M.c2;have y2:=M.o.frozen 2;have n3:=M.c3;have y3:=M.o.frozen 3;have n4:=M.c4;have y4:=M.o.frozen 4)
  |fail)
 have hE:Blk (((((w2.setCell ⟨w.heap.size,0,none⟩ (.string ⟨v1.s.1.toArray⟩)).setCell ⟨w.heap.size,1,none⟩ (.string ⟨v1.s.2.toArray⟩)).setCell ⟨w.heap.size,2,none⟩ (.int .i64 v1.k)).setCell ⟨w.heap.size,3,none⟩ (.slice (some ⟨b1,0,none⟩) v1.b.length c1)).setCell ⟨w.heap.size,4,none⟩ (.slice (some ⟨b2,0,none⟩) v2.length c2)) w.heap.size 76 #[.string ⟨v1.s.1.toArray⟩,.string ⟨v1.s.2.toArray⟩,.int .i64 v1.k,.slice (some ⟨b1,0,none⟩) v1.b.length c1,.slice (some ⟨b2,0,none⟩) v2.length c2]:=(((((M.o.set 0 (.string ⟨v1.s.1.toArray⟩)).set 1 (.string ⟨v1.s.2.toArray⟩)).set 2 (.int .i64 v1.k)).set 3 (.slice (some ⟨b1,0,none⟩) v1.b.length c1)).set 4 (.slice (some ⟨b2,0,none⟩) v2.length c2));have hp:=(AM (AM (AM (AM (AM (World.grownBy.refl w2 (some w.heap.size)) (p:=⟨w.heap.size,0,none⟩) (.inl rfl) (.string ⟨v1.s.1.toArray⟩)) (p:=⟨w.heap.size,1,none⟩) (.inl rfl) (.string ⟨v1.s.2.toArray⟩)) (p:=⟨w.heap.size,2,none⟩) (.inl rfl) (.int .i64 v1.k)) (p:=⟨w.heap.size,3,none⟩) (.inl rfl) (.slice (some ⟨b1,0,none⟩) v1.b.length c1)) (p:=⟨w.heap.size,4,none⟩) (.inl rfl) (.slice (some ⟨b2,0,none⟩) v2.length c2));have hq:=Ao (P:=Tryz.prog) hE Tryz.underlying76 rfl (by kernel_rfl);refine bodyPost_ret (v:=.agg #[.string ⟨v1.s.1.toArray⟩,.string ⟨v1.s.2.toArray⟩,.int .i64 v1.k,.slice (some ⟨b1,0,none⟩) v1.b.length c1,.slice (some ⟨b2,0,none⟩) v2.length c2]) ?_ ?_ ?_
 ·exact Au 2 76 ⟨w.heap.size,0,none⟩ Tryz.results118 rfl hq
 ·rfl
 exact⟨_,_,rfl,(bs.o.keep hp (by omega)).less (by omega),(cc.o.keep hp (by omega)).less (by omega),De HC.o hp (by have:=av.o;omega),Hm HG.o hp Ag⟩
theorem Rs (g:Nat) (c:Option L) (w:World) (h:Cur w g c) (hs:(c.getD []).length<=100000):Calls Tryz.prog 119 #[.pointer (some ⟨g,0,none⟩)] w fun e w'=>e=.returned (.agg #[.int .i64 (faQ c).1.e,.int .i64 (faQ c).1.no])/\Cur w' g (faQ c).2/\w.grownBy w' (some g):=by
 obtain⟨W,eW⟩:=Ak (w.alloc (.cells #[.int .i64 0,.int .i64 0] 84));have bx:W.heap.size=w.heap.size+1:=by rw[eW];simp
 have HR:=I (show Blk W w.heap.size 84 #[.int .i64 0,.int .i64 0] by rw[eW];exact Blk.new _ _ _);have bz:=Di h;have HC:=I (show Cur W g c by rw[eW];exact h.alloc _);have HG:=I (show w.grownBy W (some g) by rw[eW];exact DM (World.grownBy.refl _ _) _);have bn:=hs;obtain⟨s0,es0⟩:∃s,s=c:=⟨_,rfl⟩;rw[<-es0] at HC bn;have av:=I bz;have Z:=I (show w.heap.size<W.heap.size by omega);have bq:(((intC s0).2).getD []).length<=100000:=FN bn;have T1:=I (fun g w h=>BP g s0 w h (by omega));obtain⟨v1,bb⟩:∃x:Int,x=((intC s0).1:Int):=⟨_,rfl⟩;obtain⟨s1,M⟩:∃s,s=(intC s0).2:=⟨_,rfl⟩;rw[<-bb,<-M] at T1;rw[<-M] at bq;have bB:(((intC s1).2).getD []).length<=100000:=FN bq;have T2:=I (fun g w h=>BP g s1 w h (by omega));obtain⟨v2,aw⟩:∃x:Int,x=((intC s1).1:Int):=⟨_,rfl⟩;obtain⟨s2,es2⟩:∃s,s=(intC s1).2:=⟨_,rfl⟩;rw[<-aw,<-es2] at T2;rw[<-es2] at bB;have bs:=I (show(faQ c).1.e=v1 by rw[bb,es0];rfl);have ca:=I (show(faQ c).1.no=v2 by rw[aw,M,es0];rfl);have FS:=I (show(faQ c).2=s2 by rw[es2,M,es0];rfl);rw[bs.o,ca.o,FS.o];clear h hs bn bq bB bs bb M ca aw es2 es0 FS bz;have cb:=I bx;clear bx;subst eW;go_enter Tryz.func119,Tryz.ntmps119
 go_wp2_with (first
  |(go_at_call 154;(with_reducible refine Calls.mono (T1.o _ _ HC.o) ?_);rintro e w1 ⟨rfl,hd,O⟩;clear T1;replace HC:=I hd;replace HR:=I (HR.o.grown O (by intro e;injection e with e;have:=av.o;omega));replace HG:=I (Dd HG.o O);replace Z:=I (Nat.lt_of_lt_of_le Z.o O.size);clear hd O)
  |(go_at_call 154;(with_reducible refine Calls.mono (T2.o _ _ HC.o) ?_);rintro e w2 ⟨rfl,hd,O⟩;clear T2;replace HC:=I hd;replace HR:=I (HR.o.grown O (by intro e;injection e with e;have:=av.o;omega));replace HG:=I (Dd HG.o O);replace Z:=I (Nat.lt_of_lt_of_le Z.o O.size);clear hd O;have n0:=HR.c0;have y0:=HR.o.frozen 0;have n1:=HR.c1;have y1:=HR.o.frozen 1)
  |fail)
 have hE:Blk ((w2.setCell ⟨w.heap.size,0,none⟩ (.int .i64 v1)).setCell ⟨w.heap.size,1,none⟩ (.int .i64 v2)) w.heap.size 84 #[.int .i64 v1,.int .i64 v2]:=((HR.o.set 0 (.int .i64 v1)).set 1 (.int .i64 v2));have hp:=(AM (AM (World.grownBy.refl w2 (some w.heap.size)) (p:=⟨w.heap.size,0,none⟩) (.inl rfl) (.int .i64 v1)) (p:=⟨w.heap.size,1,none⟩) (.inl rfl) (.int .i64 v2));have hq:=Ao (P:=Tryz.prog) hE Tryz.underlying84 rfl (by kernel_rfl);refine bodyPost_ret (v:=.agg #[.int .i64 v1,.int .i64 v2]) ?_ ?_ ?_
 ·exact Au 2 84 ⟨w.heap.size,0,none⟩ Tryz.results119 rfl hq
 ·rfl
 exact⟨rfl,De HC.o hp (by have:=av.o;omega),Hm HG.o hp Ag⟩
theorem Ru (A:Option Addr) (b:L) (cap:Nat) (w:World) (h:Rd w w.heap.size A (bvs b)) (hs:b.length<=100000):Calls Tryz.prog 131 #[.slice A b.length cap] w fun e w'=>e=.returned (.agg #[.string ⟨(anQ b).1.c.1.toArray⟩,.string ⟨(anQ b).1.c.2.toArray⟩,.int .i64 (anQ b).1.t,.int .i64 (anQ b).1.q])/\Below w.heap.size w w':=by
 obtain⟨W,eW⟩:=Ak (w.alloc (.cells #[.string ⟨#[]⟩,.string ⟨#[]⟩,.int .i64 0,.int .i64 0] 35));have cg:W.heap.size=w.heap.size+1:=by rw[eW];simp
 have M:=I (show Blk W w.heap.size 35 #[.string ⟨#[]⟩,.string ⟨#[]⟩,.int .i64 0,.int .i64 0] by rw[eW];exact Blk.new _ _ _);have HG:=I (show Below w.heap.size w W by rw[eW];exact Ah.alloc Ag _);have c0:=KZ w.heap.size A b b.length cap W (by rw[eW];exact h.alloc Ag _) rfl;have c1:=I (fun g w h=>GN 98 g (some b) w h (by show((b.length:Int))<=100000;omega));have aw:((AN 98 (some b)).getD []).length<=100000:=FM 98 (show((some b:Option L).getD []).length<=100000 from hs);obtain⟨s0,es0⟩:∃s,s=AN 98 (some b):=⟨_,rfl⟩;rw[<-es0] at c1 aw;have bn:(((prQ s0).2).getD []).length<=100000:=BX 48 aw;have T1:=I (fun g w h=>BQ g s0 w h aw);obtain⟨v1,bz⟩:∃x:Pr,x=(prQ s0).1:=⟨_,rfl⟩;obtain⟨s1,av⟩:∃s,s=(prQ s0).2:=⟨_,rfl⟩;rw[<-bz,<-av] at T1;rw[<-av] at bn;have ca:(((intC s1).2).getD []).length<=100000:=FN bn;have T2:=I (fun g w h=>BP g s1 w h (by omega));obtain⟨v2,bq⟩:∃x:Int,x=((intC s1).1:Int):=⟨_,rfl⟩;obtain⟨s2,es2⟩:∃s,s=(intC s1).2:=⟨_,rfl⟩;rw[<-bq,<-es2] at T2;rw[<-es2] at ca;have ck:(((intC s2).2).getD []).length<=100000:=FN ca;have T3:=I (fun g w h=>BP g s2 w h (by omega));obtain⟨v3,bs⟩:∃x:Int,x=((intC s2).1:Int):=⟨_,rfl⟩;obtain⟨s3,bb⟩:∃s,s=(intC s2).2:=⟨_,rfl⟩;rw[<-bs,<-bb] at T3;rw[<-bb] at ck;have cc:=I (show(anQ b).1.c=v1 by rw[bz,es0];rfl);have cj:=I (show(anQ b).1.t=v2 by rw[bq,av,es0];rfl);have cf:=I (show(anQ b).1.q=v3 by rw[bs,es2,av,es0];rfl);rw[cc.o,cj.o,cf.o];clear h hs aw bn ca ck cc bz av cj bq es2 cf bs bb es0;have cb:=I cg;clear cg;subst eW;go_enter Tryz.func131,Tryz.ntmps131
 go_wp2_with (first
  |(go_at_call 113;refine Calls.mono c0 ?_;rintro e wo ⟨go,rfl,cm,cd,hb⟩;clear c0;have HC:=I cd;have bB:=I (show w.heap.size+1<=go by have:=cb.o;omega);replace M:=I (M.o.below hb);replace HG:=I (Hp HG.o (by have:=cb.o;omega) hb);have bx:=I (show w.heap.size+1<=wo.heap.size by have:=hb.size;have:=cb.o;omega);clear cm cd hb)
  |(go_at_call 114;refine Calls.mono (c1.o _ _ HC.o) ?_;rintro e wi ⟨⟨gd,rfl,cn,hd⟩,hc,hg⟩;clear c1 HC;have HD:=I hd;have O:=I (show w.heap.size+1<=gd by have:=bx.o;omega);have Z:=I (Di hd);replace M:=I (M.o.grown hg (by intro e;injection e with e;have:=bB.o;omega));replace HG:=I (Az HG.o hg (by have:=bx.o;omega) (by have:=bB.o;omega));clear cn hd hc hg bx bB)
  |(go_at_call 153;(with_reducible refine Calls.mono (T1.o _ _ HD.o) ?_);rintro e w1 ⟨rfl,hd,hg⟩;clear T1;replace HD:=I hd;replace M:=I (M.o.grown hg (by intro e;injection e with e;have:=O.o;omega));replace HG:=I (Az HG.o hg (by have:=O.o;have:=Z.o;omega) (by have:=O.o;omega));replace Z:=I (Nat.lt_of_lt_of_le Z.o hg.size);clear hd hg)
  |(go_at_call 154;(with_reducible refine Calls.mono (T2.o _ _ HD.o) ?_);rintro e w2 ⟨rfl,hd,hg⟩;clear T2;replace HD:=I hd;replace M:=I (M.o.grown hg (by intro e;injection e with e;have:=O.o;omega));replace HG:=I (Az HG.o hg (by have:=O.o;have:=Z.o;omega) (by have:=O.o;omega));replace Z:=I (Nat.lt_of_lt_of_le Z.o hg.size);clear hd hg)
  |(go_at_call 154;(with_reducible refine Calls.mono (T3.o _ _ HD.o) ?_);rintro e w3 ⟨rfl,hd,hg⟩;clear T3;replace HD:=I hd;replace M:=I (M.o.grown hg (by intro e;injection e with e;have:=O.o;omega));replace HG:=I (Az HG.o hg (by have:=O.o;have:=Z.o;omega) (by have:=O.o;omega));replace Z:=I (Nat.lt_of_lt_of_le Z.o hg.size);clear hd hg;have n0:=M.c0;have y0:=M.o.frozen 0;have n1:=M.c1;have y1:=M.o.frozen 1;have n2:=M.c2;have y2:=M.o.frozen 2;have n3:=M.c3;have y3:=M.o.frozen 3)
  |fail)
 have hE:Blk ((((w3.setCell ⟨w.heap.size,0,none⟩ (.string ⟨v1.1.toArray⟩)).setCell ⟨w.heap.size,1,none⟩ (.string ⟨v1.2.toArray⟩)).setCell ⟨w.heap.size,2,none⟩ (.int .i64 v2)).setCell ⟨w.heap.size,3,none⟩ (.int .i64 v3)) w.heap.size 35 #[.string ⟨v1.1.toArray⟩,.string ⟨v1.2.toArray⟩,.int .i64 v2,.int .i64 v3]:=((((M.o.set 0 (.string ⟨v1.1.toArray⟩)).set 1 (.string ⟨v1.2.toArray⟩)).set 2 (.int .i64 v2)).set 3 (.int .i64 v3));have hp:=(AM (AM (AM (AM (World.grownBy.refl w3 (some w.heap.size)) (p:=⟨w.heap.size,0,none⟩) (.inl rfl) (.string ⟨v1.1.toArray⟩)) (p:=⟨w.heap.size,1,none⟩) (.inl rfl) (.string ⟨v1.2.toArray⟩)) (p:=⟨w.heap.size,2,none⟩) (.inl rfl) (.int .i64 v2)) (p:=⟨w.heap.size,3,none⟩) (.inl rfl) (.int .i64 v3));have hq:=Ao (P:=Tryz.prog) hE Tryz.underlying35 rfl (by kernel_rfl);refine bodyPost_ret (v:=.agg #[.string ⟨v1.1.toArray⟩,.string ⟨v1.2.toArray⟩,.int .i64 v2,.int .i64 v3]) ?_ ?_ ?_
 ·exact Au 2 35 ⟨w.heap.size,0,none⟩ Tryz.results131 rfl hq
 ·rfl
 exact⟨rfl,Az HG.o hp (by have:=M.o.lt;omega) Ag⟩
theorem ba:(Tryz.prog.info? 5).map (·.size)=some 1:=by kernel_rfl
theorem IT:(Tryz.prog.info? 24).map (·.size)=some 32:=by kernel_rfl
theorem bvs_one' (l:L):(bvs l).toArray.all (·.oneCell')=true:=all_oneCell_toArray (BD l)
theorem Rv {W:World} {K b c:Nat} {t:TypeId} {x:L} (h:Blk W K t (bvs key0).toArray) (Z:∀i u,(bvs x)[i]? = some u->W.cell? ⟨b,i,none⟩=some u) :
  (Builtin.copy_ #[22,22] 3 #[.slice (some ⟨K,0,none⟩) 32 32,.slice (some ⟨b,0,none⟩) x.length c]).run Tryz.prog W=.ok (goInt (bvs (x.take 32)).length) (W.setCells K 0 (bvs (x.take 32))):=by
 refine run_copy_cells (P:=Tryz.prog) W 22 22 3 5 K 0 32 32 ⟨b,0,none⟩ x.length c (bvs (x.take 32)) Tryz.underlying22 ba ?_ ?_ ?_ ?_ (BD _)
 ·rw[AG,List.length_take];exact Nat.min_comm _ _
 ·intro j v O
  rw[addr_add,Nat.zero_add];apply Z;have M:j<(bvs (x.take 32)).length:=(List.getElem?_eq_some_iff.1 O).1;rw[AG,List.length_take] at M;rw[<-O];simp only[bvs,List.getElem?_map];rw[List.getElem?_take_of_lt (by omega)]
 ·intro j M
  rw[AG,List.length_take] at M;exact(Ar h 32 (by simp [AG,key0]) j (by omega)).1
 ·intro j M
  rw[AG,List.length_take] at M;exact(Ar h 32 (by simp [AG,key0]) j (by omega)).2
theorem OS (g:Nat) (c:Option L) (w:World) (h:Cur w g c) (hs:(c.getD []).length<=100000):Calls Tryz.prog 173 #[.pointer (some ⟨g,0,none⟩)] w fun e w'=>e=.returned (.agg (bvs (keQ c).1).toArray)/\Cur w' g (keQ c).2/\w.grownBy w' (some g):=by
 have ez:(bvs key0).toArray=#[.int .u8 0,.int .u8 0,.int .u8 0,.int .u8 0,.int .u8 0,.int .u8 0,.int .u8 0,.int .u8 0,.int .u8 0,.int .u8 0,.int .u8 0,.int .u8 0,.int .u8 0,.int .u8 0,.int .u8 0,.int .u8 0,.int .u8 0,.int .u8 0,.int .u8 0,.int .u8 0,.int .u8 0,.int .u8 0,.int .u8 0,.int .u8 0,.int .u8 0,.int .u8 0,.int .u8 0,.int .u8 0,.int .u8 0,.int .u8 0,.int .u8 0,.int .u8 0]:=by rfl
 have T1:=I (fun w1 (h:Cur w1 g c)=>DX g c w1 h (by omega));have E1:=I (show(keQ c).1=(ocC c++key0).take 32 from rfl);have E2:=I (show(keQ c).2=Bc 4 c from rfl);rw[E1.o,E2.o];obtain⟨x,ex⟩:=Ak (ocC c);obtain⟨r,er⟩:=Ak (Bc 4 c);rw[<-ex,<-er] at T1⊢;go_enter Tryz.func173,Tryz.ntmps173
 go_upto_region 2 with fail
 rw[<-ez];obtain⟨W,eW⟩:=Ak ((w.alloc (.cells (bvs key0).toArray 24)).alloc (.cells (bvs key0).toArray 24));have hq:=Blk.new (w.alloc (.cells (bvs key0).toArray 24)) 24 (bvs key0).toArray;rw[show(w.alloc (.cells (bvs key0).toArray 24)).heap.size=w.heap.size+1 by simp,<-eW] at hq;have HR:=I (show Blk W w.heap.size 24 (bvs key0).toArray by rw[eW];exact(Blk.new _ _ _).alloc _);have HC:=I (show Cur W g c by rw[eW];exact(h.alloc _).alloc _);have HG:=I (show w.grownBy W (some g) by rw[eW];exact DM (DM (World.grownBy.refl _ _) _) _);have Z:=I (Di h);have O:=I hq;rw[<-eW];clear eW ez hq h hs E1 E2 ex er;replace HR:=I (show Blk W.drew _ _ _ from HR.o.drewN 1);replace O:=I (show Blk W.drew _ _ _ from O.o.drewN 1);replace HC:=I (show Cur W.drew g c from Blk.drewN HC.o 1);replace HG:=I (show w.grownBy W.drew (some g) from IX HG.o 1)
 go_region_held3 (fun w'=>True) (trivial) ((go_at_call 156;refine Calls.mono (T1.o _ HC.o) ?_;rintro e w1 ⟨⟨v,rfl,ho⟩,hd,hg⟩;obtain⟨b,cp,rfl,x1,x2,x3,x4⟩:=ho;clear T1;replace HC:=I hd;replace HR:=I (HR.o.grown hg (by intro e;injection e with e;have:=Z.o;omega));replace O:=I (O.o.grown hg (by intro e;injection e with e;have:=Z.o;omega));replace HG:=I (Dd HG.o hg);have aw:=Rv (c:=cp) O.o x4;clear hd hg x1 x2 x3 x4))
 have M:(bvs ((x++key0).take 32)).toArray.size=32:=by simp [AG,key0]
 have hp:=Fj (a:=w1) (.inl rfl:some (w.heap.size+1)=some (w.heap.size+1)\/_) (bvs (x.take 32)) 0 w1 (World.grownBy.refl _ _);replace O:=I (Rm (x:=x) O.o);have HO:=I (bvs_one' ((x++key0).take 32));obtain⟨ks,av⟩:=Ak ((bvs ((x++key0).take 32)).toArray);rw[<-av] at O M HO;obtain⟨V,eV⟩:=Ak (w1.setCells (w.heap.size+1) 0 (bvs (x.take 32)));rw[<-eV] at O hp⊢;replace HR:=I (HR.o.grown hp (by intro e;injection e with e;omega));replace HC:=I (De HC.o hp (by have:=Z.o;omega));replace HG:=I (Hm HG.o hp (by omega));have HI:=I (show(Tryz.prog.info? 24).map (·.size)=some ks.size by rw[M];exact IT);have HT:=I (Ar HR.o ks.size (by rw[M];simp [AG,key0]));have EK:=I av;have HS:=I M;clear aw eV hp av M
 go_wp2_with (first
  |(refine Al (by rfl) 24 (.tmp 3) (by rfl) (w.heap.size+1) 0 (by rfl) ks _ (Ad O.o) Tryz.underlying24 (by rfl) HI.o ?_)
  |(refine wpList_store_mid (by rfl) 24 (.tmp 2) (.tmp 8) (by rfl) w.heap.size 0 ks (by rfl) (by rfl) HT.o HI.o HO.o ?_)
  |fail)
 have hE:=AJ (ds:=ks) HR.o (by rw[HS.o];simp [AG,key0]);have hp:=AP V w.heap.size ks.toList;have hq:=Ao (P:=Tryz.prog) hE Tryz.underlying24 rfl HI.o;refine bodyPost_ret (v:=.agg ks) ?_ ?_ ?_
 ·exact Au 2 24 ⟨w.heap.size,0,none⟩ Tryz.results173 rfl hq
 ·rfl
 exact⟨by rw[EK.o],De HC.o hp (by have:=Z.o;omega),Hm HG.o hp Ag⟩
theorem Am {P:Program} {ops:Array Oper} {rest:List Oper} {o:Oper} {a:Act} {w:World} {Q:Exit->Act->World->Prop} (O:o.guard=none) (t:TypeId) (parts:Array (Nat×Operand)) (Z:o.op=.build t parts)
  (cells:Array Value) (M:P.built t (parts.map fun(i,x)=>(i,a.eval x)).toList=some cells) (h:wpList P ops Q rest (a.put o.dst (.agg cells)) w):wpList P ops Q (o :: rest) a w:=
 wpList_build O t parts Z (by rw[M];rfl) (by rw[M];exact h)
theorem len32 {v:L} (h:v.length=32):∃k0 k1 k2 k3 k4 k5 k6 k7 k8 k9 O bB bx cf ca M k16 bn cj bs bq Z av bz aw cg cm ck cb bb cc cd:UInt8,v = [k0,k1,k2,k3,k4,k5,k6,k7,k8,k9,O,bB,bx,cf,ca,M,k16,bn,cj,bs,bq,Z,av,bz,aw,cg,cm,ck,cb,bb,cc,cd]:=by
 rcases v with _ | ⟨k0,v⟩
 ·simp at h
 rcases v with _ | ⟨k1,v⟩
 ·simp at h
 rcases v with _ | ⟨k2,v⟩
 ·simp at h
 rcases v with _ | ⟨k3,v⟩
 ·simp at h
 rcases v with _ | ⟨k4,v⟩
 ·simp at h
 rcases v with _ | ⟨k5,v⟩
 ·simp at h
 rcases v with _ | ⟨k6,v⟩
 ·simp at h
 rcases v with _ | ⟨k7,v⟩
 ·simp at h
 rcases v with _ | ⟨k8,v⟩
 ·simp at h
 rcases v with _ | ⟨k9,v⟩
 ·simp at h
 rcases v with _ | ⟨O,v⟩
 ·simp at h
 rcases v with _ | ⟨bB,v⟩
 ·simp at h
 rcases v with _ | ⟨bx,v⟩
 ·simp at h
 rcases v with _ | ⟨cf,v⟩
 ·simp at h
 rcases v with _ | ⟨ca,v⟩
 ·simp at h
 rcases v with _ | ⟨M,v⟩
 ·simp at h
 rcases v with _ | ⟨k16,v⟩
 ·simp at h
 rcases v with _ | ⟨bn,v⟩
 ·simp at h
 rcases v with _ | ⟨cj,v⟩
 ·simp at h
 rcases v with _ | ⟨bs,v⟩
 ·simp at h
 rcases v with _ | ⟨bq,v⟩
 ·simp at h
 rcases v with _ | ⟨Z,v⟩
 ·simp at h
 rcases v with _ | ⟨av,v⟩
 ·simp at h
 rcases v with _ | ⟨bz,v⟩
 ·simp at h
 rcases v with _ | ⟨aw,v⟩
 ·simp at h
 rcases v with _ | ⟨cg,v⟩
 ·simp at h
 rcases v with _ | ⟨cm,v⟩
 ·simp at h
 rcases v with _ | ⟨ck,v⟩
 ·simp at h
 rcases v with _ | ⟨cb,v⟩
 ·simp at h
 rcases v with _ | ⟨bb,v⟩
 ·simp at h
 rcases v with _ | ⟨cc,v⟩
 ·simp at h
 rcases v with _ | ⟨cd,v⟩
 ·simp at h
 rcases v with _ | ⟨x,v⟩
 ·exact⟨k0,k1,k2,k3,k4,k5,k6,k7,k8,k9,O,bB,bx,cf,ca,M,k16,bn,cj,bs,bq,Z,av,bz,aw,cg,cm,ck,cb,bb,cc,cd,rfl⟩
 ·simp at h
theorem UU (c:Pr) (k tr:L) (st en:Int) (hk:k.length=32):Tryz.prog.built 33 [(0,.agg #[.string ⟨c.1.toArray⟩,.string ⟨c.2.toArray⟩]),(1,.agg (bvs k).toArray),(2,.string ⟨tr.toArray⟩),(3,.int .i64 st),(4,.int .i64 en)]=some (ptC ⟨c,k,tr,st,en⟩).toArray:=by
 obtain⟨k0,k1,k2,k3,k4,k5,k6,k7,k8,k9,O,bB,bx,cf,ca,M,k16,bn,cj,bs,bq,Z,av,bz,aw,cg,cm,ck,cb,bb,cc,cd,rfl⟩:=len32 hk
 kernel_rfl
theorem LP (c:Pr) (k tr:L) (st en:Int):(ptC ⟨c,k,tr,st,en⟩).toArray.all (·.oneCell')=true:=all_oneCell_toArray fun v M=>by
 simp only[ptC,prC,List.mem_append,List.mem_cons,List.not_mem_nil,or_false] at M;rcases M with(rfl | rfl) | M | rfl | rfl | rfl
 ·rfl
 ·rfl
 ·exact BD _ v M
 ·rfl
 ·rfl
 ·rfl
theorem Rw (A:Option Addr) (b:L) (cap:Nat) (w:World) (h:Rd w w.heap.size A (bvs b)) (hs:b.length<=100000):Calls Tryz.prog 128 #[.slice A b.length cap] w fun e w'=>e=.returned (.agg (ptC (ptQ b).1).toArray)/\Below w.heap.size w w':=by
 obtain⟨zz,cc⟩:∃z:Array Value,z=#[.string ⟨#[]⟩,.string ⟨#[]⟩,.int .u8 0,.int .u8 0,.int .u8 0,.int .u8 0,.int .u8 0,.int .u8 0,.int .u8 0,.int .u8 0,.int .u8 0,.int .u8 0,.int .u8 0,.int .u8 0,.int .u8 0,.int .u8 0,.int .u8 0,.int .u8 0,.int .u8 0,.int .u8 0,.int .u8 0,.int .u8 0,.int .u8 0,.int .u8 0,.int .u8 0,.int .u8 0,.int .u8 0,.int .u8 0,.int .u8 0,.int .u8 0,.int .u8 0,.int .u8 0,.int .u8 0,.int .u8 0,.string ⟨#[]⟩,.int .i64 0,.int .i64 0]:=⟨_,rfl⟩;have cy:=I (show zz.size=37 by rw[cc];simp);obtain⟨W,eW⟩:=Ak (w.alloc (.cells zz 33));have cx:W.heap.size=w.heap.size+1:=by rw[eW];simp
 have HR:=I (show Blk W w.heap.size 33 zz by rw[eW];exact Blk.new _ _ _);have HG:=I (show Below w.heap.size w W by rw[eW];exact Ah.alloc Ag _);have c0:=KZ w.heap.size A b b.length cap W (by rw[eW];exact h.alloc Ag _) rfl;have c1:=I (fun g w h=>GN 99 g (some b) w h (by show((b.length:Int))<=100000;omega));have bn:((AN 99 (some b)).getD []).length<=100000:=FM 99 (show((some b:Option L).getD []).length<=100000 from hs);obtain⟨s0,es0⟩:∃s,s=AN 99 (some b):=⟨_,rfl⟩;rw[<-es0] at c1 bn;have bq:(((prQ s0).2).getD []).length<=100000:=BX 48 bn;have T1:=I (fun g w h=>BQ g s0 w h bn);obtain⟨v1,cg⟩:∃x:Pr,x=(prQ s0).1:=⟨_,rfl⟩;obtain⟨s1,bB⟩:∃s,s=(prQ s0).2:=⟨_,rfl⟩;rw[<-cg,<-bB] at T1;rw[<-bB] at bq;have ck:(((keQ s1).2).getD []).length<=100000:=BX 4 bq;have T2:=I (fun g w h=>OS g s1 w h bq);have hk:=US s1;obtain⟨v2,bs⟩:∃x:L,x=(keQ s1).1:=⟨_,rfl⟩;obtain⟨s2,es2⟩:∃s,s=(keQ s1).2:=⟨_,rfl⟩;rw[<-bs,<-es2] at T2;rw[<-bs] at hk;rw[<-es2] at ck;have cp:((Bc 27 s2).getD []).length<=100000:=BX 27 ck;have T3:=I (fun g w h=>FL g s2 w h (by omega));obtain⟨v3,cd⟩:∃x:L,x=txC s2:=⟨_,rfl⟩;obtain⟨s3,aw⟩:∃s,s=Bc 27 s2:=⟨_,rfl⟩;rw[<-cd,<-aw] at T3;rw[<-aw] at cp;have cb:(((intC s3).2).getD []).length<=100000:=FN cp;have T4:=I (fun g w h=>BP g s3 w h (by omega));obtain⟨v4,cn⟩:∃x:Int,x=((intC s3).1:Int):=⟨_,rfl⟩;obtain⟨s4,bb⟩:∃s,s=(intC s3).2:=⟨_,rfl⟩;rw[<-cn,<-bb] at T4;rw[<-bb] at cb;have cA:(((intC s4).2).getD []).length<=100000:=FN cb;have T5:=I (fun g w h=>BP g s4 w h (by omega));obtain⟨v5,cm⟩:∃x:Int,x=((intC s4).1:Int):=⟨_,rfl⟩;obtain⟨s5,ca⟩:∃s,s=(intC s4).2:=⟨_,rfl⟩;rw[<-cm,<-ca] at T5;rw[<-ca] at cA;have FV:(ptQ b).1=⟨v1,v2,v3,v4,v5⟩:=by rw[cg,bs,cd,cn,cm,bb,aw,es2,bB,es0];rfl
 rw[FV];have bz:=UU v1 v2 v3 v4 v5 hk;have bx:(ptC ⟨v1,v2,v3,v4,v5⟩).toArray.size=37:=FI hk;have av:(ptC ⟨v1,v2,v3,v4,v5⟩).toArray.all (·.oneCell')=true:=LP v1 v2 v3 v4 v5;obtain⟨ks,cr⟩:=Ak ((bvs v2).toArray);rw[<-cr] at bz T2;obtain⟨cs,cw⟩:=Ak ((ptC ⟨v1,v2,v3,v4,v5⟩).toArray);rw[<-cw] at bz bx av⊢;have cM:=I bz;have ct:=I bx;have HO:=I av;have HI:=I (show(Tryz.prog.info? 33).map (·.size)=some cs.size by rw[bx];kernel_rfl);clear h hs hk bz bx av cr cw FV es0 bn bq ck cp cb cA cg bB bs es2 cd aw cn bb cm ca;have cq:=I cx;clear cx;go_enter Tryz.func128,Tryz.ntmps128
 go_upto_region 1 with fail
 rw[<-cc,<-eW];clear cc eW
 go_wp2_with (first
  |(go_at_call 113;refine Calls.mono c0 ?_;rintro e wo ⟨go,rfl,cB,cu,hb⟩;clear c0;have HC:=I cu;have cj:=I (show w.heap.size+1<=go by have:=cq.o;omega);replace HR:=I (HR.o.below hb);replace HG:=I (Hp HG.o (by have:=cq.o;omega) hb);have cf:=I (show w.heap.size+1<=wo.heap.size by have:=hb.size;have:=cq.o;omega);clear cB cu hb)
  |(go_at_call 114;refine Calls.mono (c1.o _ _ HC.o) ?_;rintro e wi ⟨⟨gd,rfl,cL,hd⟩,hc,Z⟩;clear c1 HC;have HD:=I hd;have M:=I (show w.heap.size+1<=gd by have:=cf.o;omega);have O:=I (Di hd);replace HR:=I (HR.o.grown Z (by intro e;injection e with e;have:=cj.o;omega));replace HG:=I (Az HG.o Z (by have:=cf.o;omega) (by have:=cj.o;omega));clear cL hd hc Z cf cj)
  |(go_at_call 153;(with_reducible refine Calls.mono (T1.o _ _ HD.o) ?_);rintro e w1 ⟨rfl,hd,Z⟩;clear T1;replace HD:=I hd;replace HR:=I (HR.o.grown Z (by intro e;injection e with e;have:=M.o;omega));replace HG:=I (Az HG.o Z (by have:=M.o;have:=O.o;omega) (by have:=M.o;omega));replace O:=I (Nat.lt_of_lt_of_le O.o Z.size);clear hd Z)
  |(go_at_call 173;(with_reducible refine Calls.mono (T2.o _ _ HD.o) ?_);rintro e w2 ⟨rfl,hd,Z⟩;clear T2;replace HD:=I hd;replace HR:=I (HR.o.grown Z (by intro e;injection e with e;have:=M.o;omega));replace HG:=I (Az HG.o Z (by have:=M.o;have:=O.o;omega) (by have:=M.o;omega));replace O:=I (Nat.lt_of_lt_of_le O.o Z.size);clear hd Z)
  |(go_at_call 174;(with_reducible refine Calls.mono (T3.o _ _ HD.o) ?_);rintro e w3 ⟨rfl,hd,Z⟩;clear T3;replace HD:=I hd;replace HR:=I (HR.o.grown Z (by intro e;injection e with e;have:=M.o;omega));replace HG:=I (Az HG.o Z (by have:=M.o;have:=O.o;omega) (by have:=M.o;omega));replace O:=I (Nat.lt_of_lt_of_le O.o Z.size);clear hd Z)
  |(go_at_call 154;(with_reducible refine Calls.mono (T4.o _ _ HD.o) ?_);rintro e w4 ⟨rfl,hd,Z⟩;clear T4;replace HD:=I hd;replace HR:=I (HR.o.grown Z (by intro e;injection e with e;have:=M.o;omega));replace HG:=I (Az HG.o Z (by have:=M.o;have:=O.o;omega) (by have:=M.o;omega));replace O:=I (Nat.lt_of_lt_of_le O.o Z.size);clear hd Z)
  |(go_at_call 154;(with_reducible refine Calls.mono (T5.o _ _ HD.o) ?_);rintro e w5 ⟨rfl,hd,Z⟩;clear T5;replace HD:=I hd;replace HR:=I (HR.o.grown Z (by intro e;injection e with e;have:=M.o;omega));replace HG:=I (Az HG.o Z (by have:=M.o;have:=O.o;omega) (by have:=M.o;omega));replace O:=I (Nat.lt_of_lt_of_le O.o Z.size);clear hd Z)
  |(refine Am (by rfl) 33 #[(0,.tmp 8),(1,.tmp 10),(2,.tmp 12),(3,.tmp 14),(4,.tmp 16)] (by rfl) cs (by simp only[List.map_toArray,List.map_cons,List.map_nil];exact cM.o) ?_)
  |(refine wpList_store_mid (by rfl) 33 (.tmp 2) (.tmp 17) (by rfl) w.heap.size 0 cs (by rfl) (by rfl) (Ar HR.o _ (by have:=cy.o;have:=ct.o;omega)) HI.o HO.o ?_)
  |fail)
 have hE:=AJ (ds:=cs) HR.o (by have:=cy.o;have:=ct.o;omega);have hp:=AP w5 w.heap.size cs.toList;have hq:=Ao (P:=Tryz.prog) hE Tryz.underlying33 rfl HI.o;refine bodyPost_ret (v:=.agg cs) ?_ ?_ ?_
 ·exact Au 2 33 ⟨w.heap.size,0,none⟩ Tryz.results128 rfl hq
 ·rfl
 exact⟨rfl,Az HG.o hp (by have:=HR.o.lt;omega) Ag⟩
theorem Bl (w:World) (t:TypeId) (lit cs:Array Value) (hs:lit.size=cs.size):Blk ((w.alloc (.cells lit t)).setCells w.heap.size 0 cs.toList) w.heap.size t cs/\Below w.heap.size w ((w.alloc (.cells lit t)).setCells w.heap.size 0 cs.toList):=
 ⟨AJ (Blk.new w t lit) hs,Az ((Below.refl w.heap.size w).alloc Ag _) (AP _ _ _) (by simp) Ag⟩
theorem Hn {c:Option L} (h:(c.getD []).length<=100000):pSm (prQ c).1:=by
 have M:=(Du 27 (AN 48 c)).1;have Z:=(Du 27 (AN 48 c)).2;have O:=(Du 27 (Bc 27 (AN 48 c))).1;have e5:=(Du 48 c).1;exact⟨by show((AN 27 (AN 48 c)).getD []).length<=1000000000;omega,by show((AN 27 (Bc 27 (AN 48 c))).getD []).length<=1000000000;omega⟩
theorem dY {c:Option L} (h:(c.getD []).length<=100000):(txC c).length<=100000:=Nat.le_trans (Du 27 c).1 h
theorem OU (a:An):(anC a).toArray.all (·.oneCell')=true:=all_oneCell_toArray fun v M=>by
 simp only[anC,prC,List.mem_append,List.mem_cons,List.not_mem_nil,or_false] at M;rcases M with(rfl | rfl) | rfl | rfl<;>rfl
def ptG (b:L):Pt:=(ptD b).getD pt0
def ptI (b:L):Int:=if (ptD b).isSome then 0 else 2
theorem OV (b:L):(ptG b).ss.length=32:=by
 unfold ptG;rw[UT]
 split
 ·exact LN b
 ·rfl
theorem UW (A:Option Addr) (b:L) (c:Nat) (w:World) (hr:Rd w w.heap.size A (bvs b)):Calls Tryz.prog 130 #[.slice A b.length c,.func (.func 131) #[] #[],.func (.func 132) #[] #[]] w fun e w'=>e=.returned (.tuple #[.agg (anC (anG b)).toArray,.int .i64 (anI b)])/\Below w.heap.size w w':=by
 obtain⟨O,bb⟩:∃z:Array Value,z=#[.string ⟨#[]⟩,.string ⟨#[]⟩,.int .i64 0,.int .i64 0]:=⟨_,rfl⟩;have bs:(anC an0).toArray=O:=by rw[bb];rfl
 have cd:O.size=4:=by rw[bb];simp
 have cq:O.all (·.oneCell')=true:=by rw[<-bs];exact OU _
 obtain⟨W,eW⟩:=Ak ((w.alloc (.cells O 35)).alloc (.cells O 35));have cn:W.heap.size=w.heap.size+1+1:=by rw[eW];simp
 have hq:=Blk.new (w.alloc (.cells O 35)) 35 O;rw[show(w.alloc (.cells O 35)).heap.size=w.heap.size+1 by simp,<-eW] at hq;have HZ:=I hq;clear hq;have Z:=I (show Blk W w.heap.size 35 O by rw[eW];exact(Blk.new _ _ _).alloc _);have HG:=I (show Below w.heap.size w W by rw[eW];exact(Ah.alloc Ag _).alloc (by simp) _);have bz:=I (fun w1 (h:Below w.heap.size w w1)=>(hr.below h).more h.size);have aw:=I (show(Tryz.prog.info? 35).map (·.size)=some O.size by rw[cd];kernel_rfl);have cm:=I cq;have cp:=I cd;have ED:=I (aZ b);have cr:=I cn;clear cn cq cd
 by_cases hl:b.length<=2000
 ·have t1:decide ((2000:Int)<(b.length:Int))=false:=decide_eq_false (by omega)
  have cg:b.length<=100000:=by omega
  have av:pSm (anQ b).1.c:=Hn (FM 98 (show((some b:Option L).getD []).length<=100000 from cg));have T1:=I (fun w1 (h:Rd w1 w1.heap.size A (bvs b))=>(show Calls Tryz.prog 131 #[.slice A b.length c] w1 fun e w'=>e=.returned (.agg (anC (anQ b).1).toArray)/\Below w1.heap.size w1 w' from Ru A b c w1 h cg));have EN:=I (fun w1=>(show Calls Tryz.prog 132 #[.agg (anC (anQ b).1).toArray] w1 (EncR w1 (anO (anQ b).1)) from Nd (anQ b).1 w1 av));have cb:(anC (anQ b).1).toArray.size=4:=by rfl
  have ck:(anC (anQ b).1).toArray.all (·.oneCell')=true:=OU _;have BE:=I (fun(l:L) (g c2:Nat) (w1:World) (h:Rd w1 w1.heap.size (some ⟨g,0,none⟩) (bvs l)) (M:Below w.heap.size w w1)=>Gx l b (some ⟨g,0,none⟩) A c2 c w1.heap.size w1 h (bz.o w1 M));obtain⟨cs,bx⟩:=Ak ((anC (anQ b).1).toArray);rw[<-bx] at T1 EN cb ck;have bq:=I (show(Tryz.prog.info? 35).map (·.size)=some cs.size by rw[cb];kernel_rfl);have ca:=I ck;have bn:=I cb;clear cb ck hl cg hr av;cases ho:anO (anQ b).1 with
  |none=>
   rw[ho] at EN;have hD:anD b=none:=by rw[ED.o,ho];rfl
   have GE:=I (show(anC (anG b)).toArray=O by rw[anG,hD];exact bs);have IE:=I (show anI b=2 by rw[anI,hD];rfl);clear ED ho hD bx bs BE;go_enter Tryz.func130,Tryz.ntmps130
   go_upto_region 2 with fail
   rw[<-bb,<-eW];clear bb eW
   go_wp2_with (first
    |(refine Al (by rfl) 35 (.tmp 8) (by rfl) (w.heap.size+1) 0 (by rfl) O _ (Ad HZ.o) Tryz.underlying35 (by rfl) aw.o ?_)
    |(refine wpList_store_mid (by rfl) 35 (.tmp 6) (.tmp 33) (by rfl) w.heap.size 0 O (by rfl) (by rfl) (Ar Z.o _ Ag) aw.o cm.o ?_)
    |(go_at_call 131;refine Aj (T1.o _ (bz.o _ HG.o)) ?_;rintro w4 M;clear T1;replace HZ:=I (HZ.o.below M);replace Z:=I (Z.o.below M);replace HG:=HG.t M;clear M)
    |(refine wpList_store_mid (by rfl) 35 (.tmp 9) (.tmp 18) (by rfl) w4.heap.size 0 cs (by rfl) (by rfl) (Ar (Blk.new w4 35 #[.string ⟨#[]⟩,.string ⟨#[]⟩,.int .i64 0,.int .i64 0]) _ (by have:=bn.o;simp;omega)) bq.o ca.o ?_;have hV:=Bl w4 35 #[.string ⟨#[]⟩,.string ⟨#[]⟩,.int .i64 0,.int .i64 0] cs (by have:=bn.o;simp;omega);generalize ((w4.alloc (.cells #[.string ⟨#[]⟩,.string ⟨#[]⟩,.int .i64 0,.int .i64 0] 35)).setCells w4.heap.size 0 cs.toList)=V at hV⊢;have HX:=I hV.1;replace HZ:=I (HZ.o.below hV.2);replace Z:=I (Z.o.below hV.2);replace HG:=I (HG.o.trans (hV.2.mono HG.o.size));clear hV)
    |(refine Al (by rfl) 35 (.tmp 9) (by rfl) w4.heap.size 0 (by rfl) cs _ (Ad HX.o) Tryz.underlying35 (by rfl) bq.o ?_)
    |(go_at_call 132;refine Calls.mono (EN.o _) ?_;rintro e we ⟨⟨v,i,rfl,hn,av⟩,M⟩;obtain⟨rfl,rfl⟩:=hn rfl;clear EN;replace HX:=I (HX.o.below M);replace HZ:=I (HZ.o.below M);replace Z:=I (Z.o.below M);replace HG:=HG.t M;clear M hn av)
    |fail)
   have hE:=AJ (ds:=O) Z.o (by rfl);have hp:=AP we w.heap.size O.toList;have hq:=Ao (P:=Tryz.prog) hE Tryz.underlying35 rfl aw.o;refine bodyPost_ret (v:=.tuple #[.agg O,.int .i64 2]) ?_ ?_ ?_
   ·exact Ae (v:=.agg O) 6 7 35 ⟨w.heap.size,0,none⟩ Tryz.results130 rfl hq rfl
   ·rfl
   exact⟨by rw[GE.o,IE.o],Az HG.o hp (by have:=Z.o.lt;omega) Ag⟩
  |some l=>
   rw[ho] at EN
   by_cases hlb:l=b
   ·have BF:=I (decide_eq_true hlb)
    have hD:anD b=some (anQ b).1:=by rw[ED.o,ho,if_pos (by rw[hlb])]
    have GE:=I (show(anC (anG b)).toArray=cs by rw[anG,hD];exact bx.symm);have IE:=I (show anI b=0 by rw[anI,hD];rfl);clear ED ho hlb hD bx bs;go_enter Tryz.func130,Tryz.ntmps130
    go_upto_region 2 with fail
    rw[<-bb,<-eW];clear bb eW
    go_wp2_with (first
     |(refine Al (by rfl) 35 (.tmp 8) (by rfl) (w.heap.size+1) 0 (by rfl) O _ (Ad HZ.o) Tryz.underlying35 (by rfl) aw.o ?_)
     |(refine wpList_store_mid (by rfl) 35 (.tmp 6) (.tmp 34) (by rfl) w.heap.size 0 cs (by rfl) (by rfl) (Ar Z.o _ (by have:=cp.o;have:=bn.o;omega)) bq.o ca.o ?_)
     |(go_at_call 131;refine Aj (T1.o _ (bz.o _ HG.o)) ?_;rintro w4 M;clear T1;replace HZ:=I (HZ.o.below M);replace Z:=I (Z.o.below M);replace HG:=HG.t M;clear M)
     |(refine wpList_store_mid (by rfl) 35 (.tmp 9) (.tmp 18) (by rfl) w4.heap.size 0 cs (by rfl) (by rfl) (Ar (Blk.new w4 35 #[.string ⟨#[]⟩,.string ⟨#[]⟩,.int .i64 0,.int .i64 0]) _ (by have:=bn.o;simp;omega)) bq.o ca.o ?_;have hV:=Bl w4 35 #[.string ⟨#[]⟩,.string ⟨#[]⟩,.int .i64 0,.int .i64 0] cs (by have:=bn.o;simp;omega);generalize ((w4.alloc (.cells #[.string ⟨#[]⟩,.string ⟨#[]⟩,.int .i64 0,.int .i64 0] 35)).setCells w4.heap.size 0 cs.toList)=V at hV⊢;have HX:=I hV.1;replace HZ:=I (HZ.o.below hV.2);replace Z:=I (Z.o.below hV.2);replace HG:=I (HG.o.trans (hV.2.mono HG.o.size));clear hV)
     |(refine Al (by rfl) 35 (.tmp 9) (by rfl) w4.heap.size 0 (by rfl) cs _ (Ad HX.o) Tryz.underlying35 (by rfl) bq.o ?_)
     |(go_at_call 132;refine Calls.mono (EN.o _) ?_;rintro e we ⟨⟨v,i,rfl,hn,av⟩,M⟩;obtain⟨rfl,gx,cx,rfl,cf,cj,bB⟩:=av l rfl;have cc:=I bB;clear cf cj bB;clear EN;replace HX:=I (HX.o.below M);replace HZ:=I (HZ.o.below M);replace Z:=I (Z.o.below M);replace HG:=HG.t M;clear M hn av)
     |(go_at_call 112;refine Calls.mono (BE.o l gx cx _ cc.o HG.o) ?_;rw[BF.o];rintro e wb ⟨rfl,hw⟩;subst hw;clear BE)
     |fail)
    have hE:=AJ (ds:=cs) Z.o (by have:=cp.o;have:=bn.o;omega);have hp:=AP we w.heap.size cs.toList;have hq:=Ao (P:=Tryz.prog) hE Tryz.underlying35 rfl bq.o;refine bodyPost_ret (v:=.tuple #[.agg cs,.int .i64 0]) ?_ ?_ ?_
    ·exact Ae (v:=.agg cs) 6 7 35 ⟨w.heap.size,0,none⟩ Tryz.results130 rfl hq rfl
    ·rfl
    exact⟨by rw[GE.o,IE.o],Az HG.o hp (by have:=Z.o.lt;omega) Ag⟩
   ·have BF:=I (decide_eq_false hlb)
    have hD:anD b=none:=by rw[ED.o,ho,if_neg (fun h=>hlb (Option.some.inj h))]
    have GE:=I (show(anC (anG b)).toArray=O by rw[anG,hD];exact bs);have IE:=I (show anI b=2 by rw[anI,hD];rfl);clear ED ho hlb hD bx bs;go_enter Tryz.func130,Tryz.ntmps130
    go_upto_region 2 with fail
    rw[<-bb,<-eW];clear bb eW
    go_wp2_with (first
     |(refine Al (by rfl) 35 (.tmp 8) (by rfl) (w.heap.size+1) 0 (by rfl) O _ (Ad HZ.o) Tryz.underlying35 (by rfl) aw.o ?_)
     |(refine wpList_store_mid (by rfl) 35 (.tmp 6) (.tmp 33) (by rfl) w.heap.size 0 O (by rfl) (by rfl) (Ar Z.o _ Ag) aw.o cm.o ?_)
     |(go_at_call 131;refine Aj (T1.o _ (bz.o _ HG.o)) ?_;rintro w4 M;clear T1;replace HZ:=I (HZ.o.below M);replace Z:=I (Z.o.below M);replace HG:=HG.t M;clear M)
     |(refine wpList_store_mid (by rfl) 35 (.tmp 9) (.tmp 18) (by rfl) w4.heap.size 0 cs (by rfl) (by rfl) (Ar (Blk.new w4 35 #[.string ⟨#[]⟩,.string ⟨#[]⟩,.int .i64 0,.int .i64 0]) _ (by have:=bn.o;simp;omega)) bq.o ca.o ?_;have hV:=Bl w4 35 #[.string ⟨#[]⟩,.string ⟨#[]⟩,.int .i64 0,.int .i64 0] cs (by have:=bn.o;simp;omega);generalize ((w4.alloc (.cells #[.string ⟨#[]⟩,.string ⟨#[]⟩,.int .i64 0,.int .i64 0] 35)).setCells w4.heap.size 0 cs.toList)=V at hV⊢;have HX:=I hV.1;replace HZ:=I (HZ.o.below hV.2);replace Z:=I (Z.o.below hV.2);replace HG:=I (HG.o.trans (hV.2.mono HG.o.size));clear hV)
     |(refine Al (by rfl) 35 (.tmp 9) (by rfl) w4.heap.size 0 (by rfl) cs _ (Ad HX.o) Tryz.underlying35 (by rfl) bq.o ?_)
     |(go_at_call 132;refine Calls.mono (EN.o _) ?_;rintro e we ⟨⟨v,i,rfl,hn,av⟩,M⟩;obtain⟨rfl,gx,cx,rfl,cf,cj,bB⟩:=av l rfl;have cc:=I bB;clear cf cj bB;clear EN;replace HX:=I (HX.o.below M);replace HZ:=I (HZ.o.below M);replace Z:=I (Z.o.below M);replace HG:=HG.t M;clear M hn av)
     |(go_at_call 112;refine Calls.mono (BE.o l gx cx _ cc.o HG.o) ?_;rw[BF.o];rintro e wb ⟨rfl,hw⟩;subst hw;clear BE)
     |fail)
    have hE:=AJ (ds:=O) Z.o (by rfl);have hp:=AP we w.heap.size O.toList;have hq:=Ao (P:=Tryz.prog) hE Tryz.underlying35 rfl aw.o;refine bodyPost_ret (v:=.tuple #[.agg O,.int .i64 2]) ?_ ?_ ?_
    ·exact Ae (v:=.agg O) 6 7 35 ⟨w.heap.size,0,none⟩ Tryz.results130 rfl hq rfl
    ·rfl
    exact⟨by rw[GE.o,IE.o],Az HG.o hp (by have:=Z.o.lt;omega) Ag⟩
 ·have t1:decide ((2000:Int)<(b.length:Int))=true:=decide_eq_true (by omega)
  have hD:anD b=none:=by
   rw[ED.o,if_neg];intro h;have h2:=BS.1 h;exact hl (by rw[<-h2.2.2];exact h2.2.1)
  have GE:=I (show(anC (anG b)).toArray=O by rw[anG,hD];exact bs);have IE:=I (show anI b=2 by rw[anI,hD];rfl);clear ED hD hl bs hr bz;go_enter Tryz.func130,Tryz.ntmps130
  go_upto_region 2 with fail
  rw[<-bb,<-eW];clear bb eW
  go_wp2_with (first
   |(refine Al (by rfl) 35 (.tmp 8) (by rfl) (w.heap.size+1) 0 (by rfl) O _ (Ad HZ.o) Tryz.underlying35 (by rfl) aw.o ?_)
   |(refine wpList_store_mid (by rfl) 35 (.tmp 6) (.tmp 15) (by rfl) w.heap.size 0 O (by rfl) (by rfl) (Ar Z.o _ Ag) aw.o cm.o ?_)
   |fail)
  have hE:=AJ (ds:=O) Z.o (by rfl);have hp:=AP W w.heap.size O.toList;have hq:=Ao (P:=Tryz.prog) hE Tryz.underlying35 rfl aw.o;refine bodyPost_ret (v:=.tuple #[.agg O,.int .i64 2]) ?_ ?_ ?_
  ·exact Ae (v:=.agg O) 6 7 35 ⟨w.heap.size,0,none⟩ Tryz.results130 rfl hq rfl
  ·rfl
  exact⟨by rw[GE.o,IE.o],Az HG.o hp (by have:=Z.o.lt;omega) Ag⟩
theorem Nf (A:Option Addr) (b:L) (c:Nat) (w:World) (hr:Rd w w.heap.size A (bvs b)):Calls Tryz.prog 90 #[.slice A b.length c] w fun e w'=>e=.returned (.tuple #[.agg (anC (anG b)).toArray,.int .i64 (anI b)])/\Below w.heap.size w w':=by
 obtain⟨zz,O⟩:∃z:Array Value,z=#[.string ⟨#[]⟩,.string ⟨#[]⟩,.int .i64 0,.int .i64 0]:=⟨_,rfl⟩;have bb:zz.size=4:=by rw[O];simp
 have M:(anC (anG b)).toArray.size=4:=by rfl
 have Z:(anC (anG b)).toArray.all (·.oneCell')=true:=OU _;have c1:=UW A b c (w.alloc (.cells zz 35)) ((hr.alloc Ag _).more (by simp));obtain⟨cs,av⟩:=Ak ((anC (anG b)).toArray);rw[<-av] at M Z c1⊢;have HI:=I (show(Tryz.prog.info? 35).map (·.size)=some cs.size by rw[M];kernel_rfl);have HO:=I Z;have aw:=I M;have bn:=I bb;have HR:=I (Blk.new w 35 zz);have HG:=I ((Below.refl w.heap.size w).alloc Ag (.cells zz 35));clear M Z bb av hr;go_enter Tryz.func90,Tryz.ntmps90
 go_upto_region 1 with fail
 rw[<-O];clear O
 go_wp2_with (first
  |(go_at_call 130;refine Aj c1 ?_;rintro w1 hb;clear c1;replace HR:=I (HR.o.below hb);replace HG:=HG.t hb;clear hb)
  |(refine wpList_store_mid (by rfl) 35 (.tmp 2) (.tmp 6) (by rfl) w.heap.size 0 cs (by rfl) (by rfl) (Ar HR.o _ (by have:=bn.o;have:=aw.o;omega)) HI.o HO.o ?_)
  |fail)
 have hE:=AJ (ds:=cs) HR.o (by have:=bn.o;have:=aw.o;omega);have hp:=AP w1 w.heap.size cs.toList;have hq:=Ao (P:=Tryz.prog) hE Tryz.underlying35 rfl HI.o;refine bodyPost_ret (v:=.tuple #[.agg cs,.int .i64 (anI b)]) ?_ ?_ ?_
 ·exact Ae (v:=.agg cs) 2 3 35 ⟨w.heap.size,0,none⟩ Tryz.results90 rfl hq rfl
 ·rfl
 exact⟨rfl,Az HG.o hp (by have:=HR.o.lt;omega) Ag⟩
theorem UX (A:Option Addr) (b:L) (c:Nat) (w:World) (hr:Rd w w.heap.size A (bvs b)):Calls Tryz.prog 127 #[.slice A b.length c,.func (.func 128) #[] #[],.func (.func 129) #[] #[]] w fun e w'=>e=.returned (.tuple #[.agg (ptC (ptG b)).toArray,.int .i64 (ptI b)])/\Below w.heap.size w w':=by
 obtain⟨O,bb⟩:∃z:Array Value,z=#[.string ⟨#[]⟩,.string ⟨#[]⟩,.int .u8 0,.int .u8 0,.int .u8 0,.int .u8 0,.int .u8 0,.int .u8 0,.int .u8 0,.int .u8 0,.int .u8 0,.int .u8 0,.int .u8 0,.int .u8 0,.int .u8 0,.int .u8 0,.int .u8 0,.int .u8 0,.int .u8 0,.int .u8 0,.int .u8 0,.int .u8 0,.int .u8 0,.int .u8 0,.int .u8 0,.int .u8 0,.int .u8 0,.int .u8 0,.int .u8 0,.int .u8 0,.int .u8 0,.int .u8 0,.int .u8 0,.int .u8 0,.string ⟨#[]⟩,.int .i64 0,.int .i64 0]:=⟨_,rfl⟩;have bs:(ptC pt0).toArray=O:=by rw[bb];rfl
 have cd:O.size=37:=by rw[bb];simp
 have cr:O.all (·.oneCell')=true:=by rw[<-bs];exact LP _ _ _ _ _
 obtain⟨W,eW⟩:=Ak ((w.alloc (.cells O 33)).alloc (.cells O 33));have cp:W.heap.size=w.heap.size+1+1:=by rw[eW];simp
 have hq:=Blk.new (w.alloc (.cells O 33)) 33 O;rw[show(w.alloc (.cells O 33)).heap.size=w.heap.size+1 by simp,<-eW] at hq;have HZ:=I hq;clear hq;have Z:=I (show Blk W w.heap.size 33 O by rw[eW];exact(Blk.new _ _ _).alloc _);have HG:=I (show Below w.heap.size w W by rw[eW];exact(Ah.alloc Ag _).alloc (by simp) _);have bz:=I (fun w1 (h:Below w.heap.size w w1)=>(hr.below h).more h.size);have aw:=I (show(Tryz.prog.info? 33).map (·.size)=some O.size by rw[cd];kernel_rfl);have cn:=I cr;have cq:=I cd;have ED:=I (UT b);have cu:=I cp;clear cp cr cd
 by_cases hl:b.length<=2000
 ·have t1:decide ((2000:Int)<(b.length:Int))=false:=decide_eq_false (by omega)
  have cg:b.length<=100000:=by omega
  have cm:=FM 99 (show((some b:Option L).getD []).length<=100000 from cg);have av:pSm (ptQ b).1.c:=Hn cm;have ct:(ptQ b).1.tr.length<=1000000000:=Nat.le_trans (dY (BX 4 (BX 48 cm))) (by omega);have T1:=I (fun w1 (h:Rd w1 w1.heap.size A (bvs b))=>(show Calls Tryz.prog 128 #[.slice A b.length c] w1 fun e w'=>e=.returned (.agg (ptC (ptQ b).1).toArray)/\Below w1.heap.size w1 w' from Rw A b c w1 h cg));have EN:=I (fun w1=>(show Calls Tryz.prog 129 #[.agg (ptC (ptQ b).1).toArray] w1 (EncR w1 (ptO (ptQ b).1)) from OO (ptQ b).1 w1 (LN b) av ct));have cb:(ptC (ptQ b).1).toArray.size=37:=by exact FI (LN b)
  have ck:(ptC (ptQ b).1).toArray.all (·.oneCell')=true:=LP _ _ _ _ _;have BE:=I (fun(l:L) (g c2:Nat) (w1:World) (h:Rd w1 w1.heap.size (some ⟨g,0,none⟩) (bvs l)) (M:Below w.heap.size w w1)=>Gx l b (some ⟨g,0,none⟩) A c2 c w1.heap.size w1 h (bz.o w1 M));obtain⟨cs,bx⟩:=Ak ((ptC (ptQ b).1).toArray);rw[<-bx] at T1 EN cb ck;have bq:=I (show(Tryz.prog.info? 33).map (·.size)=some cs.size by rw[cb];kernel_rfl);have ca:=I ck;have bn:=I cb;clear cb ck hl cg hr av ct cm;cases ho:ptO (ptQ b).1 with
  |none=>
   rw[ho] at EN;have hD:ptD b=none:=by rw[ED.o,ho];rfl
   have GE:=I (show(ptC (ptG b)).toArray=O by rw[ptG,hD];exact bs);have IE:=I (show ptI b=2 by rw[ptI,hD];rfl);clear ED ho hD bx bs BE;go_enter Tryz.func127,Tryz.ntmps127
   go_upto_region 2 with fail
   rw[<-bb,<-eW];clear bb eW
   go_wp2_with (first
    |(refine Al (by rfl) 33 (.tmp 8) (by rfl) (w.heap.size+1) 0 (by rfl) O _ (Ad HZ.o) Tryz.underlying33 (by rfl) aw.o ?_)
    |(refine wpList_store_mid (by rfl) 33 (.tmp 6) (.tmp 33) (by rfl) w.heap.size 0 O (by rfl) (by rfl) (Ar Z.o _ Ag) aw.o cn.o ?_)
    |(go_at_call 128;refine Aj (T1.o _ (bz.o _ HG.o)) ?_;rintro w4 M;clear T1;replace HZ:=I (HZ.o.below M);replace Z:=I (Z.o.below M);replace HG:=HG.t M;clear M)
    |(refine wpList_store_mid (by rfl) 33 (.tmp 9) (.tmp 18) (by rfl) w4.heap.size 0 cs (by rfl) (by rfl) (Ar (Blk.new w4 33 Ax) _ (by have:=bn.o;simp;omega)) bq.o ca.o ?_;have hV:=Bl w4 33 Ax cs (by have:=bn.o;simp;omega);generalize ((w4.alloc (.cells Ax 33)).setCells w4.heap.size 0 cs.toList)=V at hV⊢;have HX:=I hV.1;replace HZ:=I (HZ.o.below hV.2);replace Z:=I (Z.o.below hV.2);replace HG:=I (HG.o.trans (hV.2.mono HG.o.size));clear hV)
    |(refine Al (by rfl) 33 (.tmp 9) (by rfl) w4.heap.size 0 (by rfl) cs _ (Ad HX.o) Tryz.underlying33 (by rfl) bq.o ?_)
    |(go_at_call 129;refine Calls.mono (EN.o _) ?_;rintro e we ⟨⟨v,i,rfl,hn,av⟩,M⟩;obtain⟨rfl,rfl⟩:=hn rfl;clear EN;replace HX:=I (HX.o.below M);replace HZ:=I (HZ.o.below M);replace Z:=I (Z.o.below M);replace HG:=HG.t M;clear M hn av)
    |fail)
   have hE:=AJ (ds:=O) Z.o (by rfl);have hp:=AP we w.heap.size O.toList;have hq:=Ao (P:=Tryz.prog) hE Tryz.underlying33 rfl aw.o;refine bodyPost_ret (v:=.tuple #[.agg O,.int .i64 2]) ?_ ?_ ?_
   ·exact Ae (v:=.agg O) 6 7 33 ⟨w.heap.size,0,none⟩ Tryz.results127 rfl hq rfl
   ·rfl
   exact⟨by rw[GE.o,IE.o],Az HG.o hp (by have:=Z.o.lt;omega) Ag⟩
  |some l=>
   rw[ho] at EN
   by_cases hlb:l=b
   ·have BF:=I (decide_eq_true hlb)
    have hD:ptD b=some (ptQ b).1:=by rw[ED.o,ho,if_pos (by rw[hlb])]
    have GE:=I (show(ptC (ptG b)).toArray=cs by rw[ptG,hD];exact bx.symm);have IE:=I (show ptI b=0 by rw[ptI,hD];rfl);clear ED ho hlb hD bx bs;go_enter Tryz.func127,Tryz.ntmps127
    go_upto_region 2 with fail
    rw[<-bb,<-eW];clear bb eW
    go_wp2_with (first
     |(refine Al (by rfl) 33 (.tmp 8) (by rfl) (w.heap.size+1) 0 (by rfl) O _ (Ad HZ.o) Tryz.underlying33 (by rfl) aw.o ?_)
     |(refine wpList_store_mid (by rfl) 33 (.tmp 6) (.tmp 34) (by rfl) w.heap.size 0 cs (by rfl) (by rfl) (Ar Z.o _ (by have:=cq.o;have:=bn.o;omega)) bq.o ca.o ?_)
     |(go_at_call 128;refine Aj (T1.o _ (bz.o _ HG.o)) ?_;rintro w4 M;clear T1;replace HZ:=I (HZ.o.below M);replace Z:=I (Z.o.below M);replace HG:=HG.t M;clear M)
     |(refine wpList_store_mid (by rfl) 33 (.tmp 9) (.tmp 18) (by rfl) w4.heap.size 0 cs (by rfl) (by rfl) (Ar (Blk.new w4 33 Ax) _ (by have:=bn.o;simp;omega)) bq.o ca.o ?_;have hV:=Bl w4 33 Ax cs (by have:=bn.o;simp;omega);generalize ((w4.alloc (.cells Ax 33)).setCells w4.heap.size 0 cs.toList)=V at hV⊢;have HX:=I hV.1;replace HZ:=I (HZ.o.below hV.2);replace Z:=I (Z.o.below hV.2);replace HG:=I (HG.o.trans (hV.2.mono HG.o.size));clear hV)
     |(refine Al (by rfl) 33 (.tmp 9) (by rfl) w4.heap.size 0 (by rfl) cs _ (Ad HX.o) Tryz.underlying33 (by rfl) bq.o ?_)
     |(go_at_call 129;refine Calls.mono (EN.o _) ?_;rintro e we ⟨⟨v,i,rfl,hn,av⟩,M⟩;obtain⟨rfl,gx,cx,rfl,cf,cj,bB⟩:=av l rfl;have cc:=I bB;clear cf cj bB;clear EN;replace HX:=I (HX.o.below M);replace HZ:=I (HZ.o.below M);replace Z:=I (Z.o.below M);replace HG:=HG.t M;clear M hn av)
     |(go_at_call 112;refine Calls.mono (BE.o l gx cx _ cc.o HG.o) ?_;rw[BF.o];rintro e wb ⟨rfl,hw⟩;subst hw;clear BE)
     |fail)
    have hE:=AJ (ds:=cs) Z.o (by have:=cq.o;have:=bn.o;omega);have hp:=AP we w.heap.size cs.toList;have hq:=Ao (P:=Tryz.prog) hE Tryz.underlying33 rfl bq.o;refine bodyPost_ret (v:=.tuple #[.agg cs,.int .i64 0]) ?_ ?_ ?_
    ·exact Ae (v:=.agg cs) 6 7 33 ⟨w.heap.size,0,none⟩ Tryz.results127 rfl hq rfl
    ·rfl
    exact⟨by rw[GE.o,IE.o],Az HG.o hp (by have:=Z.o.lt;omega) Ag⟩
   ·have BF:=I (decide_eq_false hlb)
    have hD:ptD b=none:=by rw[ED.o,ho,if_neg (fun h=>hlb (Option.some.inj h))]
    have GE:=I (show(ptC (ptG b)).toArray=O by rw[ptG,hD];exact bs);have IE:=I (show ptI b=2 by rw[ptI,hD];rfl);clear ED ho hlb hD bx bs;go_enter Tryz.func127,Tryz.ntmps127
    go_upto_region 2 with fail
    rw[<-bb,<-eW];clear bb eW
    go_wp2_with (first
     |(refine Al (by rfl) 33 (.tmp 8) (by rfl) (w.heap.size+1) 0 (by rfl) O _ (Ad HZ.o) Tryz.underlying33 (by rfl) aw.o ?_)
     |(refine wpList_store_mid (by rfl) 33 (.tmp 6) (.tmp 33) (by rfl) w.heap.size 0 O (by rfl) (by rfl) (Ar Z.o _ Ag) aw.o cn.o ?_)
     |(go_at_call 128;refine Aj (T1.o _ (bz.o _ HG.o)) ?_;rintro w4 M;clear T1;replace HZ:=I (HZ.o.below M);replace Z:=I (Z.o.below M);replace HG:=HG.t M;clear M)
     |(refine wpList_store_mid (by rfl) 33 (.tmp 9) (.tmp 18) (by rfl) w4.heap.size 0 cs (by rfl) (by rfl) (Ar (Blk.new w4 33 Ax) _ (by have:=bn.o;simp;omega)) bq.o ca.o ?_;have hV:=Bl w4 33 Ax cs (by have:=bn.o;simp;omega);generalize ((w4.alloc (.cells Ax 33)).setCells w4.heap.size 0 cs.toList)=V at hV⊢;have HX:=I hV.1;replace HZ:=I (HZ.o.below hV.2);replace Z:=I (Z.o.below hV.2);replace HG:=I (HG.o.trans (hV.2.mono HG.o.size));clear hV)
     |(refine Al (by rfl) 33 (.tmp 9) (by rfl) w4.heap.size 0 (by rfl) cs _ (Ad HX.o) Tryz.underlying33 (by rfl) bq.o ?_)
     |(go_at_call 129;refine Calls.mono (EN.o _) ?_;rintro e we ⟨⟨v,i,rfl,hn,av⟩,M⟩;obtain⟨rfl,gx,cx,rfl,cf,cj,bB⟩:=av l rfl;have cc:=I bB;clear cf cj bB;clear EN;replace HX:=I (HX.o.below M);replace HZ:=I (HZ.o.below M);replace Z:=I (Z.o.below M);replace HG:=HG.t M;clear M hn av)
     |(go_at_call 112;refine Calls.mono (BE.o l gx cx _ cc.o HG.o) ?_;rw[BF.o];rintro e wb ⟨rfl,hw⟩;subst hw;clear BE)
     |fail)
    have hE:=AJ (ds:=O) Z.o (by rfl);have hp:=AP we w.heap.size O.toList;have hq:=Ao (P:=Tryz.prog) hE Tryz.underlying33 rfl aw.o;refine bodyPost_ret (v:=.tuple #[.agg O,.int .i64 2]) ?_ ?_ ?_
    ·exact Ae (v:=.agg O) 6 7 33 ⟨w.heap.size,0,none⟩ Tryz.results127 rfl hq rfl
    ·rfl
    exact⟨by rw[GE.o,IE.o],Az HG.o hp (by have:=Z.o.lt;omega) Ag⟩
 ·have t1:decide ((2000:Int)<(b.length:Int))=true:=decide_eq_true (by omega)
  have hD:ptD b=none:=by
   rw[ED.o,if_neg];intro h;have h2:=BS.1 h;exact hl (by rw[<-h2.2.2];exact h2.2.1)
  have GE:=I (show(ptC (ptG b)).toArray=O by rw[ptG,hD];exact bs);have IE:=I (show ptI b=2 by rw[ptI,hD];rfl);clear ED hD hl bs hr bz;go_enter Tryz.func127,Tryz.ntmps127
  go_upto_region 2 with fail
  rw[<-bb,<-eW];clear bb eW
  go_wp2_with (first
   |(refine Al (by rfl) 33 (.tmp 8) (by rfl) (w.heap.size+1) 0 (by rfl) O _ (Ad HZ.o) Tryz.underlying33 (by rfl) aw.o ?_)
   |(refine wpList_store_mid (by rfl) 33 (.tmp 6) (.tmp 15) (by rfl) w.heap.size 0 O (by rfl) (by rfl) (Ar Z.o _ Ag) aw.o cn.o ?_)
   |fail)
  have hE:=AJ (ds:=O) Z.o (by rfl);have hp:=AP W w.heap.size O.toList;have hq:=Ao (P:=Tryz.prog) hE Tryz.underlying33 rfl aw.o;refine bodyPost_ret (v:=.tuple #[.agg O,.int .i64 2]) ?_ ?_ ?_
  ·exact Ae (v:=.agg O) 6 7 33 ⟨w.heap.size,0,none⟩ Tryz.results127 rfl hq rfl
  ·rfl
  exact⟨by rw[GE.o,IE.o],Az HG.o hp (by have:=Z.o.lt;omega) Ag⟩
theorem JS (A:Option Addr) (b:L) (c:Nat) (w:World) (hr:Rd w w.heap.size A (bvs b)):Calls Tryz.prog 89 #[.slice A b.length c] w fun e w'=>e=.returned (.tuple #[.agg (ptC (ptG b)).toArray,.int .i64 (ptI b)])/\Below w.heap.size w w':=by
 obtain⟨zz,O⟩:∃z:Array Value,z=#[.string ⟨#[]⟩,.string ⟨#[]⟩,.int .u8 0,.int .u8 0,.int .u8 0,.int .u8 0,.int .u8 0,.int .u8 0,.int .u8 0,.int .u8 0,.int .u8 0,.int .u8 0,.int .u8 0,.int .u8 0,.int .u8 0,.int .u8 0,.int .u8 0,.int .u8 0,.int .u8 0,.int .u8 0,.int .u8 0,.int .u8 0,.int .u8 0,.int .u8 0,.int .u8 0,.int .u8 0,.int .u8 0,.int .u8 0,.int .u8 0,.int .u8 0,.int .u8 0,.int .u8 0,.int .u8 0,.int .u8 0,.string ⟨#[]⟩,.int .i64 0,.int .i64 0]:=⟨_,rfl⟩;have bb:zz.size=37:=by rw[O];simp
 have M:(ptC (ptG b)).toArray.size=37:=by exact FI (OV b)
 have Z:(ptC (ptG b)).toArray.all (·.oneCell')=true:=LP _ _ _ _ _;have c1:=UX A b c (w.alloc (.cells zz 33)) ((hr.alloc Ag _).more (by simp));obtain⟨cs,av⟩:=Ak ((ptC (ptG b)).toArray);rw[<-av] at M Z c1⊢;have HI:=I (show(Tryz.prog.info? 33).map (·.size)=some cs.size by rw[M];kernel_rfl);have HO:=I Z;have aw:=I M;have bn:=I bb;have HR:=I (Blk.new w 33 zz);have HG:=I ((Below.refl w.heap.size w).alloc Ag (.cells zz 33));clear M Z bb av hr;go_enter Tryz.func89,Tryz.ntmps89
 go_upto_region 1 with fail
 rw[<-O];clear O
 go_wp2_with (first
  |(go_at_call 127;refine Aj c1 ?_;rintro w1 hb;clear c1;replace HR:=I (HR.o.below hb);replace HG:=HG.t hb;clear hb)
  |(refine wpList_store_mid (by rfl) 33 (.tmp 2) (.tmp 6) (by rfl) w.heap.size 0 cs (by rfl) (by rfl) (Ar HR.o _ (by have:=bn.o;have:=aw.o;omega)) HI.o HO.o ?_)
  |fail)
 have hE:=AJ (ds:=cs) HR.o (by have:=bn.o;have:=aw.o;omega);have hp:=AP w1 w.heap.size cs.toList;have hq:=Ao (P:=Tryz.prog) hE Tryz.underlying33 rfl HI.o;refine bodyPost_ret (v:=.tuple #[.agg cs,.int .i64 (ptI b)]) ?_ ?_ ?_
 ·exact Ae (v:=.agg cs) 2 3 33 ⟨w.heap.size,0,none⟩ Tryz.results89 rfl hq rfl
 ·rfl
 exact⟨rfl,Az HG.o hp (by have:=HR.o.lt;omega) Ag⟩
def AsV (cs:Array Value) (q:As):Prop:=cs=(asC q).toArray
def FaV (cs:Array Value) (q:Fa):Prop:=cs=(faC q).toArray
def TgV (w:World) (B:Nat) (cs:Array Value) (q:Tg):Prop:=∃b a,cs=(tgC q b a).toArray/\SlB w B b q.t.b/\SlB w B a q.a
def ReV (w:World) (B:Nat) (cs:Array Value) (q:Re):Prop:=∃b a,cs=(reC q b a).toArray/\SlB w B b q.t.b/\SlB w B a q.b
def ApV (w:World) (B:Nat) (cs:Array Value) (q:Ap):Prop:=∃b a,cs=(apC q b a).toArray/\SlB w B b q.t.b/\SlB w B a q.a
section
variable {w w':World} {B B':Nat} {cs:Array Value}
theorem TgV.keep {q:Tg} (h:TgV w B cs q) (M:Below B w w'):TgV w' B cs q:=by obtain⟨b,a,h1,O,Z⟩:=h;exact⟨b,a,h1,O.keep M,Z.keep M⟩
theorem ReV.keep {q:Re} (h:ReV w B cs q) (M:Below B w w'):ReV w' B cs q:=by obtain⟨b,a,h1,O,Z⟩:=h;exact⟨b,a,h1,O.keep M,Z.keep M⟩
theorem ApV.keep {q:Ap} (h:ApV w B cs q) (M:Below B w w'):ApV w' B cs q:=by obtain⟨b,a,h1,O,Z⟩:=h;exact⟨b,a,h1,O.keep M,Z.keep M⟩
theorem TgV.more {q:Tg} (h:TgV w B cs q) (hB:B<=B'):TgV w B' cs q:=by obtain⟨b,a,Z,M,O⟩:=h;exact⟨b,a,Z,M.more hB,O.more hB⟩
theorem ReV.more {q:Re} (h:ReV w B cs q) (hB:B<=B'):ReV w B' cs q:=by obtain⟨b,a,Z,M,O⟩:=h;exact⟨b,a,Z,M.more hB,O.more hB⟩
theorem ApV.more {q:Ap} (h:ApV w B cs q) (hB:B<=B'):ApV w B' cs q:=by obtain⟨b,a,Z,M,O⟩:=h;exact⟨b,a,Z,M.more hB,O.more hB⟩
theorem Ik {v:Value} {l:L} (h:SlB w B v l):v.oneCell'=true:=by obtain⟨A,c,rfl,_⟩:=h;rfl
theorem AsV.size {q:As} (h:AsV cs q):cs.size=6:=by rw[h];rfl
theorem FaV.size {q:Fa} (h:FaV cs q):cs.size=2:=by rw[h];rfl
theorem TgV.size {q:Tg} (h:TgV w B cs q):cs.size=9:=by obtain⟨b,a,M,_⟩:=h;rw[M];rfl
theorem ReV.size {q:Re} (h:ReV w B cs q):cs.size=7:=by obtain⟨b,a,M,_⟩:=h;rw[M];rfl
theorem ApV.size {q:Ap} (h:ApV w B cs q):cs.size=5:=by obtain⟨b,a,M,_⟩:=h;rw[M];rfl
def One (cs:Array Value):Prop:=cs.all (·.oneCell')=true
theorem AsV.one {q:As} (h:AsV cs q):One cs:=by
 rw[h];refine all_oneCell_toArray fun v M=>?_
 simp only[asC,List.mem_cons,List.not_mem_nil,or_false] at M;rcases M with rfl | rfl | rfl | rfl | rfl | rfl<;>rfl
theorem FaV.one {q:Fa} (h:FaV cs q):One cs:=by
 rw[h];refine all_oneCell_toArray fun v M=>?_
 simp only[faC,List.mem_cons,List.not_mem_nil,or_false] at M;rcases M with rfl | rfl<;>rfl
theorem TgV.one {q:Tg} (h:TgV w B cs q):One cs:=by
 obtain⟨b,a,Z,h2,O⟩:=h;rw[Z];refine all_oneCell_toArray fun v M=>?_
 simp only[tgC,tkC,List.mem_append,List.mem_cons,List.not_mem_nil,or_false] at M;rcases M with(rfl | rfl | rfl | rfl) | rfl | rfl | rfl | rfl | rfl
 all_goals first | rfl | exact Ik h2 | exact Ik O
theorem ReV.one {q:Re} (h:ReV w B cs q):One cs:=by
 obtain⟨b,a,Z,h2,O⟩:=h;rw[Z];refine all_oneCell_toArray fun v M=>?_
 simp only[reC,prC,tkC,List.mem_append,List.mem_cons,List.not_mem_nil,or_false] at M;rcases M with(rfl | rfl) | (rfl | rfl | rfl | rfl) | rfl
 all_goals first | rfl | exact Ik h2 | exact Ik O
theorem ApV.one {q:Ap} (h:ApV w B cs q):One cs:=by
 obtain⟨b,a,Z,h2,O⟩:=h;rw[Z];refine all_oneCell_toArray fun v M=>?_
 simp only[apC,tkC,List.mem_append,List.mem_cons,List.not_mem_nil,or_false] at M;rcases M with(rfl | rfl | rfl | rfl) | rfl
 all_goals first | rfl | exact Ik h2 | exact Ik O
end
def mgA (k:Int) (pa pt pr pp pf:Array Value):Array Value:=(Value.int .i64 k :: (pa.toList++(pt.toList++(pr.toList++(pp.toList++pf.toList))))).toArray
structure MgP (w:World) (B:Nat) (pa pt pr pp pf:Array Value) (m:Mg):Prop where
 a:AsV pa m.aq
 t:TgV w B pt m.tg
 r:ReV w B pr m.re
 p:ApV w B pp m.ap
 f:FaV pf m.fa
def MgV (w:World) (B:Nat) (cs:Array Value) (m:Mg):Prop:=∃pa pt pr pp pf,cs=mgA m.k pa pt pr pp pf/\MgP w B pa pt pr pp pf m
section
variable {w w':World} {B B':Nat} {cs pa pt pr pp pf:Array Value} {m:Mg}
theorem MgP.keep (h:MgP w B pa pt pr pp pf m) (M:Below B w w'):MgP w' B pa pt pr pp pf m:=⟨h.a,h.t.keep M,h.r.keep M,h.p.keep M,h.f⟩
theorem MgP.more (h:MgP w B pa pt pr pp pf m) (hB:B<=B'):MgP w B' pa pt pr pp pf m:=⟨h.a,h.t.more hB,h.r.more hB,h.p.more hB,h.f⟩
theorem MgV.keep (h:MgV w B cs m) (Z:Below B w w'):MgV w' B cs m:=by obtain⟨pa,pt,pr,pp,pf,M,O⟩:=h;exact⟨pa,pt,pr,pp,pf,M,O.keep Z⟩
theorem MgV.more (h:MgV w B cs m) (hB:B<=B'):MgV w B' cs m:=by obtain⟨pa,pt,pr,pp,pf,M,O⟩:=h;exact⟨pa,pt,pr,pp,pf,M,O.more hB⟩
theorem MgP.sizes (h:MgP w B pa pt pr pp pf m):pa.size=6/\pt.size=9/\pr.size=7/\pp.size=5/\pf.size=2:=⟨h.a.size,h.t.size,h.r.size,h.p.size,h.f.size⟩
theorem MgP.size (h:MgP w B pa pt pr pp pf m) (k:Int):(mgA k pa pt pr pp pf).size=30:=by
 obtain⟨h1,O,Z,h4,M⟩:=h.sizes;simp [mgA,h1,O,Z,h4,M]
theorem MgP.one (h:MgP w B pa pt pr pp pf m) (k:Int):One (mgA k pa pt pr pp pf):=by
 refine all_oneCell_toArray fun v M=>?_
 simp only[List.mem_cons,List.mem_append] at M;have key:∀{cs:Array Value},One cs->v∈cs.toList->v.oneCell'=true:=fun Z O=>Array.all_eq_true_iff_forall_mem.1 Z v (by simpa using O)
 rcases M with rfl | M | M | M | M | M
 ·rfl
 ·exact key h.a.one M
 ·exact key h.t.one M
 ·exact key h.r.one M
 ·exact key h.p.one M
 ·exact key h.f.one M
theorem Ef {g:Nat} {t:TypeId} {pre mid post:List Value} (h:Blk w g t cs) (Z:cs.toList=pre++(mid++post)) (o:Nat) (ho:o=pre.length):w.rangeAt g o mid:=fun j v M=>by
 subst ho;have O:j<mid.length:=(List.getElem?_eq_some_iff.1 M).1;rw[h.cell,<-Array.getElem?_toList,Z,List.getElem?_append_right (by omega),Nat.add_sub_cancel_left,List.getElem?_append_left O];exact M
structure At (w:World) (g:Nat) (k:Int) (pa pt pr pp pf:Array Value):Prop where
 k:w.cell? ⟨g,0,none⟩=some (.int .i64 k)
 a:w.rangeAt g 1 pa.toList
 t:w.rangeAt g 7 pt.toList
 r:w.rangeAt g 16 pr.toList
 p:w.rangeAt g 23 pp.toList
 f:w.rangeAt g 28 pf.toList
theorem MgP.at_ (h:MgP w' B pa pt pr pp pf m) {g:Nat} {k:Int} {t:TypeId} (M:Blk w g t (mgA k pa pt pr pp pf)):At w g k pa pt pr pp pf:=by
 obtain⟨O,Z,h3,h4,h5⟩:=h.sizes;refine⟨by rw[M.cell];rfl,?_,?_,?_,?_,?_⟩
 ·exact Ef (pre:=[.int .i64 k]) (post:=pt.toList++(pr.toList++(pp.toList++pf.toList))) M (by simp [mgA]) 1 rfl
 ·exact Ef (pre:=.int .i64 k :: pa.toList) (post:=pr.toList++(pp.toList++pf.toList)) M (by simp [mgA]) 7 (by simp [O])
 ·exact Ef (pre:=.int .i64 k :: (pa.toList++pt.toList)) (post:=pp.toList++pf.toList) M (by simp [mgA]) 16 (by simp [O,Z])
 ·exact Ef (pre:=.int .i64 k :: (pa.toList++(pt.toList++pr.toList))) (post:=pf.toList) M (by simp [mgA]) 23 (by simp [O,Z,h3])
 ·exact Ef (pre:=.int .i64 k :: (pa.toList++(pt.toList++(pr.toList++pp.toList)))) (post:=[]) M (by simp [mgA]) 28 (by simp [O,Z,h3,h4])
end
theorem Cs:(Tryz.prog.info? 78).map (·.size)=some 6:=by kernel_rfl
theorem Df:(Tryz.prog.info? 80).map (·.size)=some 9:=by kernel_rfl
theorem DF:(Tryz.prog.info? 82).map (·.size)=some 7:=by kernel_rfl
theorem Ei:(Tryz.prog.info? 76).map (·.size)=some 5:=by kernel_rfl
theorem FO:(Tryz.prog.info? 84).map (·.size)=some 2:=by kernel_rfl
theorem Ba:(Tryz.prog.info? 86).map (·.size)=some 30:=by kernel_rfl
theorem AF {P:Program} {ops:Array Oper} {rest:List Oper} {op:Oper} {a:Act} {w:World} {Q:Exit->Act->World->Prop} (hw:Region.wanted op (yielded ops a.tmps)=true) (ty:TypeId) (x:Operand) (M:op.op=.load ty x)
  (g o:Nat) (O:a.eval x=.pointer (some ⟨g,o,none⟩)) (cs:Array Value) (d:TypeDesc) (hc:w.rangeAt g o cs.toList)
  (hu:P.underlying ty=some d) (Z:d.isRow=true) (hi:(P.info? ty).map (·.size)=some cs.size)
  (h:wpList P ops Q rest (a.put op.dst (.agg cs)) w):wpList P ops Q (op :: rest) a w:=
 BigFrame.wpList_want hw fun _ hK=>wp_load_mid ty x M g o O cs.toList d hc hu Z (by rw[Array.length_toList];exact hi) (by simpa using hK _ _ h)
theorem JT {w:World} {g o:Nat} {t:TypeId} {cs ps ds:Array Value} {pre mid post:List Value} (h:Blk w g t cs) (Z:cs.toList=pre++(mid++post)) (ho:o=pre.length) (hm:mid.length=ps.size) (hd:ds=(pre++(ps.toList++post)).toArray):Blk (w.setCells g o ps.toList) g t ds:=by
 subst ho;have hs:cs.size=pre.length+(mid.length+post.length):=by rw[<-Array.length_toList,Z];simp
 obtain⟨es,h1,h2,h3,O⟩:=Bq ps.toList pre.length w cs h (by simp;omega);have e:es=ds:=by
  apply Array.ext_getElem?;intro i;rw[hd,show(pre++(ps.toList++post)).toArray[i]? = (pre++(ps.toList++post))[i]? by simp];have M:∀i,cs[i]? = (pre++(mid++post))[i]?:=fun i=>by rw[<-Z,Array.getElem?_toList]
  by_cases hi:i<pre.length
  ·rw[O i (.inl hi),M,List.getElem?_append_left hi,List.getElem?_append_left hi]
  ·by_cases hj:i<pre.length+ps.size
   ·rw[h3 i (by omega) (by simpa using hj),List.getElem?_append_right (by omega),List.getElem?_append_left (by simp;omega)]
   ·rw[O i (.inr (by simp;omega)),M,List.getElem?_append_right (by omega),List.getElem?_append_right (by omega),List.getElem?_append_right (by omega),List.getElem?_append_right (by simp;omega),hm]
    simp
 rw[<-e];exact h1
theorem Cx {w:World} {g:Nat} {t:TypeId} {cs:Array Value} (h:Blk w g t cs) (o n:Nat) (O:o+n<=cs.size):w.there g o n:=fun j M=>by
 rw[h.cell,Array.getElem?_eq_getElem (by omega)];exact⟨rfl,h.frozen _⟩
theorem Fk (w:World) (g o:Nat) (M:List Value):w.grownBy (w.setCells g o M) (some g):=Fj (.inl rfl) M o w (World.grownBy.refl _ _)
theorem Rx (g:Nat) (c:Option L) (w:World) (h:Cur w g c) (hs:(c.getD []).length<=100000):Calls Tryz.prog 116 #[.pointer (some ⟨g,0,none⟩)] w fun e w'=>∃z1,∃z2,e=.returned (.agg #[.string ⟨(tgQ c).1.t.s.1.toArray⟩,.string ⟨(tgQ c).1.t.s.2.toArray⟩,.int .i64 (tgQ c).1.t.k,z1,z2,.string ⟨(tgQ c).1.s.1.toArray⟩,.string ⟨(tgQ c).1.s.2.toArray⟩,.int .i64 (tgQ c).1.u,.int .i64 (tgQ c).1.no])/\OwnB w' w.heap.size z1 (tgQ c).1.t.b/\OwnB w' w.heap.size z2 (tgQ c).1.a/\Cur w' g (tgQ c).2/\w.grownBy w' (some g):=by
 obtain⟨W,eW⟩:=Ak (w.alloc (.cells #[.string ⟨#[]⟩,.string ⟨#[]⟩,.int .i64 0,.slice none 0 0,.slice none 0 0,.string ⟨#[]⟩,.string ⟨#[]⟩,.int .i64 0,.int .i64 0] 80));have cr:W.heap.size=w.heap.size+1:=by rw[eW];simp
 have O:=I (show Blk W w.heap.size 80 #[.string ⟨#[]⟩,.string ⟨#[]⟩,.int .i64 0,.slice none 0 0,.slice none 0 0,.string ⟨#[]⟩,.string ⟨#[]⟩,.int .i64 0,.int .i64 0] by rw[eW];exact Blk.new _ _ _);have cn:=Di h;have HC:=I (show Cur W g c by rw[eW];exact h.alloc _);have HG:=I (show w.grownBy W (some g) by rw[eW];exact DM (World.grownBy.refl _ _) _);have bz:=hs;obtain⟨s0,es0⟩:∃s,s=c:=⟨_,rfl⟩;rw[<-es0] at HC bz;have Z:=I cn;have av:=I (show w.heap.size<W.heap.size by omega);have cb:(((tkQ s0).2).getD []).length<=100000:=BX 97 bz;have T1:=I (fun g w h=>Eh g s0 w h bz);obtain⟨v1,cf⟩:∃x:Tk,x=(tkQ s0).1:=⟨_,rfl⟩;obtain⟨s1,bb⟩:∃s,s=(tkQ s0).2:=⟨_,rfl⟩;rw[<-cf,<-bb] at T1;rw[<-bb] at cb;have bB:((Bc 4 s1).getD []).length<=100000:=BX 4 cb;have T2:=I (fun g w h=>DX g s1 w h (by omega));obtain⟨v2,cc⟩:∃x:L,x=ocC s1:=⟨_,rfl⟩;obtain⟨s2,es2⟩:∃s,s=Bc 4 s1:=⟨_,rfl⟩;rw[<-cc,<-es2] at T2;rw[<-es2] at bB;have ck:(((prQ s2).2).getD []).length<=100000:=BX 48 bB;have T3:=I (fun g w h=>BQ g s2 w h bB);obtain⟨v3,cd⟩:∃x:Pr,x=(prQ s2).1:=⟨_,rfl⟩;obtain⟨s3,bq⟩:∃s,s=(prQ s2).2:=⟨_,rfl⟩;rw[<-cd,<-bq] at T3;rw[<-bq] at ck;have ca:(((intC s3).2).getD []).length<=100000:=FN ck;have T4:=I (fun g w h=>BP g s3 w h (by omega));obtain⟨v4,cj⟩:∃x:Int,x=((intC s3).1:Int):=⟨_,rfl⟩;obtain⟨s4,bs⟩:∃s,s=(intC s3).2:=⟨_,rfl⟩;rw[<-cj,<-bs] at T4;rw[<-bs] at ca;have ct:(((intC s4).2).getD []).length<=100000:=FN ca;have T5:=I (fun g w h=>BP g s4 w h (by omega));obtain⟨v5,cg⟩:∃x:Int,x=((intC s4).1:Int):=⟨_,rfl⟩;obtain⟨s5,bx⟩:∃s,s=(intC s4).2:=⟨_,rfl⟩;rw[<-cg,<-bx] at T5;rw[<-bx] at ct;have cm:=I (show(tgQ c).1.t=v1 by rw[cf,es0];rfl);have cw:=I (show(tgQ c).1.a=v2 by rw[cc,bb,es0];rfl);have cq:=I (show(tgQ c).1.s=v3 by rw[cd,es2,bb,es0];rfl);have cp:=I (show(tgQ c).1.u=v4 by rw[cj,bq,es2,bb,es0];rfl);have cu:=I (show(tgQ c).1.no=v5 by rw[cg,bs,bq,es2,bb,es0];rfl);have FS:=I (show(tgQ c).2=s5 by rw[bx,bs,bq,es2,bb,es0];rfl);rw[cm.o,cw.o,cq.o,cp.o,cu.o,FS.o];clear h hs bz cb bB ck ca ct cm cf bb cw cc es2 cq cd bq cp cj bs cu cg bx es0 FS cn;have cx:=I cr;clear cr;subst eW;go_enter Tryz.func116,Tryz.ntmps116
 go_wp2_with (first
  |(go_at_call 155;(with_reducible refine Calls.mono (T1.o _ _ HC.o) ?_);rintro e w1 ⟨y,rfl,ho,hd,M⟩;clear T1;replace ho:=ho.less (show w.heap.size+1<=_ from av.o);obtain⟨b1,c1,rfl,x1,x2,x3,x4⟩:=ho;have aw:Hid (OwnB w1 (w.heap.size+1) (.slice (some ⟨b1,0,none⟩) _ c1) _):=I ⟨b1,c1,rfl,x1,x2,x3,x4⟩;clear x1 x2 x3 x4;replace HC:=I hd;replace O:=I (O.o.grown M (by intro e;injection e with e;have:=Z.o;omega));replace HG:=I (Dd HG.o M);replace av:=I (Nat.lt_of_lt_of_le av.o M.size);clear hd M)
  |(go_at_call 156;(with_reducible refine Calls.mono (T2.o _ _ HC.o) ?_);rintro e w2 ⟨⟨y,rfl,ho⟩,hd,M⟩;clear T2;replace ho:=ho.less (show w.heap.size+1<=_ from av.o);obtain⟨b2,c2,rfl,x1,x2,x3,x4⟩:=ho;have bn:Hid (OwnB w2 (w.heap.size+1) (.slice (some ⟨b2,0,none⟩) _ c2) _):=I ⟨b2,c2,rfl,x1,x2,x3,x4⟩;clear x1 x2 x3 x4;replace HC:=I hd;replace aw:=I (aw.o.keep M (by have:=Z.o;omega));replace O:=I (O.o.grown M (by intro e;injection e with e;have:=Z.o;omega));replace HG:=I (Dd HG.o M);replace av:=I (Nat.lt_of_lt_of_le av.o M.size);clear hd M)
  |(go_at_call 153;(with_reducible refine Calls.mono (T3.o _ _ HC.o) ?_);rintro e w3 ⟨rfl,hd,M⟩;clear T3;replace HC:=I hd;replace aw:=I (aw.o.keep M (by have:=Z.o;omega));replace bn:=I (bn.o.keep M (by have:=Z.o;omega));replace O:=I (O.o.grown M (by intro e;injection e with e;have:=Z.o;omega));replace HG:=I (Dd HG.o M);replace av:=I (Nat.lt_of_lt_of_le av.o M.size);clear hd M)
  |(go_at_call 154;(with_reducible refine Calls.mono (T4.o _ _ HC.o) ?_);rintro e w4 ⟨rfl,hd,M⟩;clear T4;replace HC:=I hd;replace aw:=I (aw.o.keep M (by have:=Z.o;omega));replace bn:=I (bn.o.keep M (by have:=Z.o;omega));replace O:=I (O.o.grown M (by intro e;injection e with e;have:=Z.o;omega));replace HG:=I (Dd HG.o M);replace av:=I (Nat.lt_of_lt_of_le av.o M.size);clear hd M)
  |(go_at_call 154;(with_reducible refine Calls.mono (T5.o _ _ HC.o) ?_);rintro e w5 ⟨rfl,hd,M⟩;clear T5;replace HC:=I hd;replace aw:=I (aw.o.keep M (by have:=Z.o;omega));replace bn:=I (bn.o.keep M (by have:=Z.o;omega));replace O:=I (O.o.grown M (by intro e;injection e with e;have:=Z.o;omega));replace HG:=I (Dd HG.o M);replace av:=I (Nat.lt_of_lt_of_le av.o M.size);clear hd M;have n0:=O.c0;have y0:=O.o.frozen 0;have n1:=O.c1;have y1:=O.o.frozen 1;have n2:=O.c2;have y2:=O.o.frozen 2;have n3:=O.c3;have y3:=O.o.frozen 3;have n4:=O.c4;have y4:=O.o.frozen 4;have n5:=O.c5;have y5:=O.o.frozen 5;have n6:=O.c6;have y6:=O.o.frozen 6;have n7:=O.c7;have y7:=O.o.frozen 7;have n8:=O.c8;have y8:=O.o.frozen 8)
  |fail)
 have hE:Blk (((((((((w5.setCell ⟨w.heap.size,0,none⟩ (.string ⟨v1.s.1.toArray⟩)).setCell ⟨w.heap.size,1,none⟩ (.string ⟨v1.s.2.toArray⟩)).setCell ⟨w.heap.size,2,none⟩ (.int .i64 v1.k)).setCell ⟨w.heap.size,3,none⟩ (.slice (some ⟨b1,0,none⟩) v1.b.length c1)).setCell ⟨w.heap.size,4,none⟩ (.slice (some ⟨b2,0,none⟩) v2.length c2)).setCell ⟨w.heap.size,5,none⟩ (.string ⟨v3.1.toArray⟩)).setCell ⟨w.heap.size,6,none⟩ (.string ⟨v3.2.toArray⟩)).setCell ⟨w.heap.size,7,none⟩ (.int .i64 v4)).setCell ⟨w.heap.size,8,none⟩ (.int .i64 v5)) w.heap.size 80 #[.string ⟨v1.s.1.toArray⟩,.string ⟨v1.s.2.toArray⟩,.int .i64 v1.k,.slice (some ⟨b1,0,none⟩) v1.b.length c1,.slice (some ⟨b2,0,none⟩) v2.length c2,.string ⟨v3.1.toArray⟩,.string ⟨v3.2.toArray⟩,.int .i64 v4,.int .i64 v5]:=(((((((((O.o.set 0 (.string ⟨v1.s.1.toArray⟩)).set 1 (.string ⟨v1.s.2.toArray⟩)).set 2 (.int .i64 v1.k)).set 3 (.slice (some ⟨b1,0,none⟩) v1.b.length c1)).set 4 (.slice (some ⟨b2,0,none⟩) v2.length c2)).set 5 (.string ⟨v3.1.toArray⟩)).set 6 (.string ⟨v3.2.toArray⟩)).set 7 (.int .i64 v4)).set 8 (.int .i64 v5));have hp:=(AM (AM (AM (AM (AM (AM (AM (AM (AM (World.grownBy.refl w5 (some w.heap.size)) (p:=⟨w.heap.size,0,none⟩) (.inl rfl) (.string ⟨v1.s.1.toArray⟩)) (p:=⟨w.heap.size,1,none⟩) (.inl rfl) (.string ⟨v1.s.2.toArray⟩)) (p:=⟨w.heap.size,2,none⟩) (.inl rfl) (.int .i64 v1.k)) (p:=⟨w.heap.size,3,none⟩) (.inl rfl) (.slice (some ⟨b1,0,none⟩) v1.b.length c1)) (p:=⟨w.heap.size,4,none⟩) (.inl rfl) (.slice (some ⟨b2,0,none⟩) v2.length c2)) (p:=⟨w.heap.size,5,none⟩) (.inl rfl) (.string ⟨v3.1.toArray⟩)) (p:=⟨w.heap.size,6,none⟩) (.inl rfl) (.string ⟨v3.2.toArray⟩)) (p:=⟨w.heap.size,7,none⟩) (.inl rfl) (.int .i64 v4)) (p:=⟨w.heap.size,8,none⟩) (.inl rfl) (.int .i64 v5));have hq:=Ao (P:=Tryz.prog) hE Tryz.underlying80 rfl (by kernel_rfl);refine bodyPost_ret (v:=.agg #[.string ⟨v1.s.1.toArray⟩,.string ⟨v1.s.2.toArray⟩,.int .i64 v1.k,.slice (some ⟨b1,0,none⟩) v1.b.length c1,.slice (some ⟨b2,0,none⟩) v2.length c2,.string ⟨v3.1.toArray⟩,.string ⟨v3.2.toArray⟩,.int .i64 v4,.int .i64 v5]) ?_ ?_ ?_
 ·exact Au 2 80 ⟨w.heap.size,0,none⟩ Tryz.results116 rfl hq
 ·rfl
 exact⟨_,_,rfl,(aw.o.keep hp (by omega)).less (by omega),(bn.o.keep hp (by omega)).less (by omega),De HC.o hp (by have:=Z.o;omega),Hm HG.o hp Ag⟩
def zA:Array Value:=(asC as0).toArray
def zT:Array Value:=(tgC tg0 (.slice none 0 0) (.slice none 0 0)).toArray
def zR:Array Value:=(reC re0 (.slice none 0 0) (.slice none 0 0)).toArray
def zP:Array Value:=(apC ap0 (.slice none 0 0) (.slice none 0 0)).toArray
def zF:Array Value:=(faC fa0).toArray
theorem zA_v:AsV zA as0:=rfl
theorem zF_v:FaV zF fa0:=rfl
theorem zT_v (w:World) (B:Nat):TgV w B zT tg0:=⟨_,_,rfl,SlB.nil w B,SlB.nil w B⟩
theorem zR_v (w:World) (B:Nat):ReV w B zR re0:=⟨_,_,rfl,SlB.nil w B,SlB.nil w B⟩
theorem zP_v (w:World) (B:Nat):ApV w B zP ap0:=⟨_,_,rfl,SlB.nil w B,SlB.nil w B⟩
theorem zM_v (w:World) (B:Nat) (k:Int):MgP w B zA zT zR zP zF ⟨k,as0,tg0,re0,ap0,fa0⟩:=⟨zA_v,zT_v w B,zR_v w B,zP_v w B,zF_v⟩
def nm (m:Mg):Mg:=if m.k=1 then ⟨1,m.aq,tg0,re0,ap0,fa0⟩ else if m.k=2 then ⟨2,as0,m.tg,re0,ap0,fa0⟩ else if m.k=3 then ⟨3,as0,tg0,m.re,ap0,fa0⟩ else if m.k=4 then ⟨4,as0,tg0,re0,m.ap,fa0⟩ else if m.k=5 then ⟨5,as0,tg0,re0,ap0,m.fa⟩ else ⟨m.k,as0,tg0,re0,ap0,fa0⟩
theorem LQ (k:Int):Tryz.prog.built 86 [(0,.int .i64 k)]=some (mgA k zA zT zR zP zF):=by kernel_rfl
theorem UY (cs:Array Value) (m:Mg) (w:World) (h:MgV w w.heap.size cs m):Calls Tryz.prog 158 #[.agg cs] w fun e w'=>∃ds,e=.returned (.agg ds)/\MgV w' w'.heap.size ds (nm m)/\Below w.heap.size w w':=by
 obtain⟨pa,pt,pr,pp,pf,hc,hp⟩:=h;obtain⟨zz,av⟩:∃z:Array Value,z=#[.int .i64 0,.string ⟨#[]⟩,.string ⟨#[]⟩,.string ⟨#[]⟩,.string ⟨#[]⟩,.int .i64 0,.int .i64 0,.string ⟨#[]⟩,.string ⟨#[]⟩,.int .i64 0,.slice none 0 0,.slice none 0 0,.string ⟨#[]⟩,.string ⟨#[]⟩,.int .i64 0,.int .i64 0,.string ⟨#[]⟩,.string ⟨#[]⟩,.string ⟨#[]⟩,.string ⟨#[]⟩,.int .i64 0,.slice none 0 0,.slice none 0 0,.string ⟨#[]⟩,.string ⟨#[]⟩,.int .i64 0,.slice none 0 0,.slice none 0 0,.int .i64 0,.int .i64 0]:=⟨_,rfl⟩;have bB:zz=mgA 0 zA zT zR zP zF:=by rw[av];rfl
 have bz:zz.size=30:=by rw[bB];exact(zM_v w 0 0).size 0
 have bb:=I bz;obtain⟨W,eW⟩:=Ak ((w.alloc (.cells cs 86)).alloc (.cells zz 86));have ca:W.heap.size=w.heap.size+1+1:=by rw[eW];simp
 have HK:=I (show Blk W w.heap.size 86 (mgA m.k pa pt pr pp pf) by rw[eW,<-hc];exact(Blk.new _ _ _).alloc _);have hq:=Blk.new (w.alloc (.cells cs 86)) 86 zz;rw[show(w.alloc (.cells cs 86)).heap.size=w.heap.size+1 by simp,<-eW] at hq;have HR:=I hq;clear hq;have Z:=I (show Below w.heap.size w W by rw[eW];exact(Ah.alloc Ag _).alloc (by simp) _);have HA:=I (hp.at_ HK.o);have k0:=HA.o.k;have HP:=I hp;have bn:=I ca;have bq:=I (LQ m.k);obtain⟨c0,bs⟩:∃c,c=mgA m.k zA zT zR zP zF:=⟨_,rfl⟩;have bx:c0.size=30:=by rw[bs];exact(zM_v w 0 m.k).size m.k
 have HO:=I (show c0.all (·.oneCell')=true by rw[bs];exact(zM_v w 0 m.k).one m.k);have HI:=I (show(Tryz.prog.info? 86).map (·.size)=some c0.size by rw[bx];exact Ba);have aw:=I bx;rw[<-bs] at bq;have EC:=I bs;clear hc hp ca bz bx bs bB
 by_cases m1:m.k=1
 ·have y1:(m.k==1)=true:=by simpa using m1
  have y2:(m.k==2)=false:=by simp;omega
  have y3:(m.k==3)=false:=by simp;omega
  have y4:(m.k==4)=false:=by simp;omega
  have y5:(m.k==5)=false:=by simp;omega
  have EN:=I (show nm m=⟨m.k,m.aq,tg0,re0,ap0,fa0⟩ by rw[nm,if_pos m1,m1]);clear m1;have HM:=I (show MgP w w.heap.size pa zT zR zP zF ⟨m.k,m.aq,tg0,re0,ap0,fa0⟩ from⟨HP.o.a,zT_v w w.heap.size,zR_v w w.heap.size,zP_v w w.heap.size,zF_v⟩);have O:=I (show(Tryz.prog.info? 86).map (·.size)=some (mgA m.k pa zT zR zP zF).size by rw[HM.o.size];exact Ba);go_enter Tryz.func158,Tryz.ntmps158
  go_upto_region 1 with fail
  rw[<-av,<-eW];clear av eW
  go_wp2_with (first
   |(refine Am (by rfl) 86 #[(0,.tmp 5)] (by rfl) c0 (by simp only[List.map_toArray,List.map_cons,List.map_nil];exact bq.o) ?_)
   |(refine wpList_store_mid (by rfl) 86 (.tmp 3) (.tmp 6) (by rfl) W.heap.size 0 c0 (by rfl) (by rfl) (Ar (Blk.new W 86 Ay) _ (by have:=aw.o;simp;omega)) HI.o HO.o ?_;have hV:=Bl W 86 Ay c0 (by have:=aw.o;simp;omega);generalize ((W.alloc (.cells Ay 86)).setCells W.heap.size 0 c0.toList)=V at hV⊢;have HX:=I (show Blk V W.heap.size 86 (mgA m.k zA zT zR zP zF) from EC.o▸hV.1);replace HK:=I (HK.o.below hV.2);replace HR:=I (HR.o.below hV.2);replace Z:=I (Z.o.trans (hV.2.mono Z.o.size));clear hV HA k0;have HA:=I (HP.o.at_ HK.o);have k0:=HA.o.k)
   |(refine Al (by rfl) 78 (.tmp 11) (by rfl) w.heap.size 1 (by rfl) pa _ HA.o.a Tryz.underlying78 (by rfl) (by rw[HP.o.a.size];exact Cs) ?_)
   |(refine wpList_store_mid (by rfl) 78 (.tmp 13) (.tmp 12) (by rfl) W.heap.size 1 pa (by rfl) (by rfl) (Cx HX.o 1 _ (by rw[(zM_v W 0 m.k).size m.k,HP.o.a.size];omega)) (by rw[HP.o.a.size];exact Cs) HP.o.a.one ?_;have hX:=JT (ps:=pa) (ds:=mgA m.k pa zT zR zP zF) (pre:=[.int .i64 m.k]) (mid:=zA.toList) (post:=zT.toList++zR.toList++zP.toList++zF.toList) (o:=1) HX.o (by simp [mgA]) (by rfl) (by rw[HP.o.a.size];rfl) (by simp [mgA]);have M:=Fk V W.heap.size 1 pa.toList;generalize V.setCells W.heap.size 1 pa.toList=V2 at hX M⊢;replace HX:=I hX;replace HR:=I (HR.o.grown M (by intro e;injection e with e;have:=bn.o;omega));replace Z:=I (Az Z.o M Z.o.size (by have:=bn.o;omega));clear hX M HA HK k0)
   |(refine Al (by rfl) 86 (.tmp 3) (by rfl) W.heap.size 0 (by rfl) (mgA m.k pa zT zR zP zF) _ (Ad HX.o) Tryz.underlying86 (by rfl) O.o ?_)
   |(refine wpList_store_mid (by rfl) 86 (.tmp 2) (.tmp 34) (by rfl) (w.heap.size+1) 0 (mgA m.k pa zT zR zP zF) (by rfl) (by rfl) (Ar HR.o _ (by rw[HM.o.size];have:=bb.o;omega)) O.o (HM.o.one _) ?_)
   |fail)
  have hE:=AJ (ds:=mgA m.k pa zT zR zP zF) HR.o (by rw[HM.o.size];have:=bb.o;omega);have hp:=AP V2 (w.heap.size+1) (mgA m.k pa zT zR zP zF).toList;have hq:=Ao (P:=Tryz.prog) hE Tryz.underlying86 rfl O.o;refine bodyPost_ret (v:=.agg (mgA m.k pa zT zR zP zF)) ?_ ?_ ?_
  ·exact Au 2 86 ⟨w.heap.size+1,0,none⟩ Tryz.results158 rfl hq
  ·rfl
  have hB:=Az Z.o hp Z.o.size (by omega);refine⟨_,rfl,?_,hB⟩;rw[EN.o];exact⟨pa,zT,zR,zP,zF,rfl,(HM.o.keep hB).more hB.size⟩
 ·have cc:=m1
  by_cases m2:m.k=2
  ·have y1:(m.k==1)=false:=by simp;omega
   have y2:(m.k==2)=true:=by simpa using m2
   have y3:(m.k==3)=false:=by simp;omega
   have y4:(m.k==4)=false:=by simp;omega
   have y5:(m.k==5)=false:=by simp;omega
   have EN:=I (show nm m=⟨m.k,as0,m.tg,re0,ap0,fa0⟩ by rw[nm,if_neg m1,if_pos m2,m2]);clear m1 m2;have HM:=I (show MgP w w.heap.size zA pt zR zP zF ⟨m.k,as0,m.tg,re0,ap0,fa0⟩ from⟨zA_v,HP.o.t,zR_v w w.heap.size,zP_v w w.heap.size,zF_v⟩);have O:=I (show(Tryz.prog.info? 86).map (·.size)=some (mgA m.k zA pt zR zP zF).size by rw[HM.o.size];exact Ba);go_enter Tryz.func158,Tryz.ntmps158
   go_upto_region 1 with fail
   rw[<-av,<-eW];clear av eW
   go_wp2_with (first
    |(refine Am (by rfl) 86 #[(0,.tmp 5)] (by rfl) c0 (by simp only[List.map_toArray,List.map_cons,List.map_nil];exact bq.o) ?_)
    |(refine wpList_store_mid (by rfl) 86 (.tmp 3) (.tmp 6) (by rfl) W.heap.size 0 c0 (by rfl) (by rfl) (Ar (Blk.new W 86 Ay) _ (by have:=aw.o;simp;omega)) HI.o HO.o ?_;have hV:=Bl W 86 Ay c0 (by have:=aw.o;simp;omega);generalize ((W.alloc (.cells Ay 86)).setCells W.heap.size 0 c0.toList)=V at hV⊢;have HX:=I (show Blk V W.heap.size 86 (mgA m.k zA zT zR zP zF) from EC.o▸hV.1);replace HK:=I (HK.o.below hV.2);replace HR:=I (HR.o.below hV.2);replace Z:=I (Z.o.trans (hV.2.mono Z.o.size));clear hV HA k0;have HA:=I (HP.o.at_ HK.o);have k0:=HA.o.k)
    |(refine Al (by rfl) 80 (.tmp 16) (by rfl) w.heap.size 7 (by rfl) pt _ HA.o.t Tryz.underlying80 (by rfl) (by rw[HP.o.t.size];exact Df) ?_)
    |(refine wpList_store_mid (by rfl) 80 (.tmp 18) (.tmp 17) (by rfl) W.heap.size 7 pt (by rfl) (by rfl) (Cx HX.o 7 _ (by rw[(zM_v W 0 m.k).size m.k,HP.o.t.size];omega)) (by rw[HP.o.t.size];exact Df) HP.o.t.one ?_;have hX:=JT (ps:=pt) (ds:=mgA m.k zA pt zR zP zF) (pre:=[.int .i64 m.k]++zA.toList) (mid:=zT.toList) (post:=zR.toList++zP.toList++zF.toList) (o:=7) HX.o (by simp [mgA]) (by rfl) (by rw[HP.o.t.size];rfl) (by simp [mgA]);have M:=Fk V W.heap.size 7 pt.toList;generalize V.setCells W.heap.size 7 pt.toList=V2 at hX M⊢;replace HX:=I hX;replace HR:=I (HR.o.grown M (by intro e;injection e with e;have:=bn.o;omega));replace Z:=I (Az Z.o M Z.o.size (by have:=bn.o;omega));clear hX M HA HK k0)
    |(refine Al (by rfl) 86 (.tmp 3) (by rfl) W.heap.size 0 (by rfl) (mgA m.k zA pt zR zP zF) _ (Ad HX.o) Tryz.underlying86 (by rfl) O.o ?_)
    |(refine wpList_store_mid (by rfl) 86 (.tmp 2) (.tmp 34) (by rfl) (w.heap.size+1) 0 (mgA m.k zA pt zR zP zF) (by rfl) (by rfl) (Ar HR.o _ (by rw[HM.o.size];have:=bb.o;omega)) O.o (HM.o.one _) ?_)
    |fail)
   have hE:=AJ (ds:=mgA m.k zA pt zR zP zF) HR.o (by rw[HM.o.size];have:=bb.o;omega);have hp:=AP V2 (w.heap.size+1) (mgA m.k zA pt zR zP zF).toList;have hq:=Ao (P:=Tryz.prog) hE Tryz.underlying86 rfl O.o;refine bodyPost_ret (v:=.agg (mgA m.k zA pt zR zP zF)) ?_ ?_ ?_
   ·exact Au 2 86 ⟨w.heap.size+1,0,none⟩ Tryz.results158 rfl hq
   ·rfl
   have hB:=Az Z.o hp Z.o.size (by omega);refine⟨_,rfl,?_,hB⟩;rw[EN.o];exact⟨zA,pt,zR,zP,zF,rfl,(HM.o.keep hB).more hB.size⟩
  ·have cb:=m2
   by_cases m3:m.k=3
   ·have y1:(m.k==1)=false:=by simp;omega
    have y2:(m.k==2)=false:=by simp;omega
    have y3:(m.k==3)=true:=by simpa using m3
    have y4:(m.k==4)=false:=by simp;omega
    have y5:(m.k==5)=false:=by simp;omega
    have EN:=I (show nm m=⟨m.k,as0,tg0,m.re,ap0,fa0⟩ by rw[nm,if_neg m1,if_neg m2,if_pos m3,m3]);clear m1 m2 m3;have HM:=I (show MgP w w.heap.size zA zT pr zP zF ⟨m.k,as0,tg0,m.re,ap0,fa0⟩ from⟨zA_v,zT_v w w.heap.size,HP.o.r,zP_v w w.heap.size,zF_v⟩);have O:=I (show(Tryz.prog.info? 86).map (·.size)=some (mgA m.k zA zT pr zP zF).size by rw[HM.o.size];exact Ba);go_enter Tryz.func158,Tryz.ntmps158
    go_upto_region 1 with fail
    rw[<-av,<-eW];clear av eW
    go_wp2_with (first
     |(refine Am (by rfl) 86 #[(0,.tmp 5)] (by rfl) c0 (by simp only[List.map_toArray,List.map_cons,List.map_nil];exact bq.o) ?_)
     |(refine wpList_store_mid (by rfl) 86 (.tmp 3) (.tmp 6) (by rfl) W.heap.size 0 c0 (by rfl) (by rfl) (Ar (Blk.new W 86 Ay) _ (by have:=aw.o;simp;omega)) HI.o HO.o ?_;have hV:=Bl W 86 Ay c0 (by have:=aw.o;simp;omega);generalize ((W.alloc (.cells Ay 86)).setCells W.heap.size 0 c0.toList)=V at hV⊢;have HX:=I (show Blk V W.heap.size 86 (mgA m.k zA zT zR zP zF) from EC.o▸hV.1);replace HK:=I (HK.o.below hV.2);replace HR:=I (HR.o.below hV.2);replace Z:=I (Z.o.trans (hV.2.mono Z.o.size));clear hV HA k0;have HA:=I (HP.o.at_ HK.o);have k0:=HA.o.k)
     |(refine Al (by rfl) 82 (.tmp 21) (by rfl) w.heap.size 16 (by rfl) pr _ HA.o.r Tryz.underlying82 (by rfl) (by rw[HP.o.r.size];exact DF) ?_)
     |(refine wpList_store_mid (by rfl) 82 (.tmp 23) (.tmp 22) (by rfl) W.heap.size 16 pr (by rfl) (by rfl) (Cx HX.o 16 _ (by rw[(zM_v W 0 m.k).size m.k,HP.o.r.size];omega)) (by rw[HP.o.r.size];exact DF) HP.o.r.one ?_;have hX:=JT (ps:=pr) (ds:=mgA m.k zA zT pr zP zF) (pre:=[.int .i64 m.k]++zA.toList++zT.toList) (mid:=zR.toList) (post:=zP.toList++zF.toList) (o:=16) HX.o (by simp [mgA]) (by rfl) (by rw[HP.o.r.size];rfl) (by simp [mgA]);have M:=Fk V W.heap.size 16 pr.toList;generalize V.setCells W.heap.size 16 pr.toList=V2 at hX M⊢;replace HX:=I hX;replace HR:=I (HR.o.grown M (by intro e;injection e with e;have:=bn.o;omega));replace Z:=I (Az Z.o M Z.o.size (by have:=bn.o;omega));clear hX M HA HK k0)
     |(refine Al (by rfl) 86 (.tmp 3) (by rfl) W.heap.size 0 (by rfl) (mgA m.k zA zT pr zP zF) _ (Ad HX.o) Tryz.underlying86 (by rfl) O.o ?_)
     |(refine wpList_store_mid (by rfl) 86 (.tmp 2) (.tmp 34) (by rfl) (w.heap.size+1) 0 (mgA m.k zA zT pr zP zF) (by rfl) (by rfl) (Ar HR.o _ (by rw[HM.o.size];have:=bb.o;omega)) O.o (HM.o.one _) ?_)
     |fail)
    have hE:=AJ (ds:=mgA m.k zA zT pr zP zF) HR.o (by rw[HM.o.size];have:=bb.o;omega);have hp:=AP V2 (w.heap.size+1) (mgA m.k zA zT pr zP zF).toList;have hq:=Ao (P:=Tryz.prog) hE Tryz.underlying86 rfl O.o;refine bodyPost_ret (v:=.agg (mgA m.k zA zT pr zP zF)) ?_ ?_ ?_
    ·exact Au 2 86 ⟨w.heap.size+1,0,none⟩ Tryz.results158 rfl hq
    ·rfl
    have hB:=Az Z.o hp Z.o.size (by omega);refine⟨_,rfl,?_,hB⟩;rw[EN.o];exact⟨zA,zT,pr,zP,zF,rfl,(HM.o.keep hB).more hB.size⟩
   ·have cf:=m3
    by_cases m4:m.k=4
    ·have y1:(m.k==1)=false:=by simp;omega
     have y2:(m.k==2)=false:=by simp;omega
     have y3:(m.k==3)=false:=by simp;omega
     have y4:(m.k==4)=true:=by simpa using m4
     have y5:(m.k==5)=false:=by simp;omega
     have EN:=I (show nm m=⟨m.k,as0,tg0,re0,m.ap,fa0⟩ by rw[nm,if_neg m1,if_neg m2,if_neg m3,if_pos m4,m4]);clear m1 m2 m3 m4;have HM:=I (show MgP w w.heap.size zA zT zR pp zF ⟨m.k,as0,tg0,re0,m.ap,fa0⟩ from⟨zA_v,zT_v w w.heap.size,zR_v w w.heap.size,HP.o.p,zF_v⟩);have O:=I (show(Tryz.prog.info? 86).map (·.size)=some (mgA m.k zA zT zR pp zF).size by rw[HM.o.size];exact Ba);go_enter Tryz.func158,Tryz.ntmps158
     go_upto_region 1 with fail
     rw[<-av,<-eW];clear av eW
     go_wp2_with (first
      |(refine Am (by rfl) 86 #[(0,.tmp 5)] (by rfl) c0 (by simp only[List.map_toArray,List.map_cons,List.map_nil];exact bq.o) ?_)
      |(refine wpList_store_mid (by rfl) 86 (.tmp 3) (.tmp 6) (by rfl) W.heap.size 0 c0 (by rfl) (by rfl) (Ar (Blk.new W 86 Ay) _ (by have:=aw.o;simp;omega)) HI.o HO.o ?_;have hV:=Bl W 86 Ay c0 (by have:=aw.o;simp;omega);generalize ((W.alloc (.cells Ay 86)).setCells W.heap.size 0 c0.toList)=V at hV⊢;have HX:=I (show Blk V W.heap.size 86 (mgA m.k zA zT zR zP zF) from EC.o▸hV.1);replace HK:=I (HK.o.below hV.2);replace HR:=I (HR.o.below hV.2);replace Z:=I (Z.o.trans (hV.2.mono Z.o.size));clear hV HA k0;have HA:=I (HP.o.at_ HK.o);have k0:=HA.o.k)
      |(refine Al (by rfl) 76 (.tmp 26) (by rfl) w.heap.size 23 (by rfl) pp _ HA.o.p Tryz.underlying76 (by rfl) (by rw[HP.o.p.size];exact Ei) ?_)
      |(refine wpList_store_mid (by rfl) 76 (.tmp 28) (.tmp 27) (by rfl) W.heap.size 23 pp (by rfl) (by rfl) (Cx HX.o 23 _ (by rw[(zM_v W 0 m.k).size m.k,HP.o.p.size];omega)) (by rw[HP.o.p.size];exact Ei) HP.o.p.one ?_;have hX:=JT (ps:=pp) (ds:=mgA m.k zA zT zR pp zF) (pre:=[.int .i64 m.k]++zA.toList++zT.toList++zR.toList) (mid:=zP.toList) (post:=zF.toList) (o:=23) HX.o (by simp [mgA]) (by rfl) (by rw[HP.o.p.size];rfl) (by simp [mgA]);have M:=Fk V W.heap.size 23 pp.toList;generalize V.setCells W.heap.size 23 pp.toList=V2 at hX M⊢;replace HX:=I hX;replace HR:=I (HR.o.grown M (by intro e;injection e with e;have:=bn.o;omega));replace Z:=I (Az Z.o M Z.o.size (by have:=bn.o;omega));clear hX M HA HK k0)
      |(refine Al (by rfl) 86 (.tmp 3) (by rfl) W.heap.size 0 (by rfl) (mgA m.k zA zT zR pp zF) _ (Ad HX.o) Tryz.underlying86 (by rfl) O.o ?_)
      |(refine wpList_store_mid (by rfl) 86 (.tmp 2) (.tmp 34) (by rfl) (w.heap.size+1) 0 (mgA m.k zA zT zR pp zF) (by rfl) (by rfl) (Ar HR.o _ (by rw[HM.o.size];have:=bb.o;omega)) O.o (HM.o.one _) ?_)
      |fail)
     have hE:=AJ (ds:=mgA m.k zA zT zR pp zF) HR.o (by rw[HM.o.size];have:=bb.o;omega);have hp:=AP V2 (w.heap.size+1) (mgA m.k zA zT zR pp zF).toList;have hq:=Ao (P:=Tryz.prog) hE Tryz.underlying86 rfl O.o;refine bodyPost_ret (v:=.agg (mgA m.k zA zT zR pp zF)) ?_ ?_ ?_
     ·exact Au 2 86 ⟨w.heap.size+1,0,none⟩ Tryz.results158 rfl hq
     ·rfl
     have hB:=Az Z.o hp Z.o.size (by omega);refine⟨_,rfl,?_,hB⟩;rw[EN.o];exact⟨zA,zT,zR,pp,zF,rfl,(HM.o.keep hB).more hB.size⟩
    ·have cd:=m4
     by_cases m5:m.k=5
     ·have y1:(m.k==1)=false:=by simp;omega
      have y2:(m.k==2)=false:=by simp;omega
      have y3:(m.k==3)=false:=by simp;omega
      have y4:(m.k==4)=false:=by simp;omega
      have y5:(m.k==5)=true:=by simpa using m5
      have EN:=I (show nm m=⟨m.k,as0,tg0,re0,ap0,m.fa⟩ by rw[nm,if_neg m1,if_neg m2,if_neg m3,if_neg m4,if_pos m5,m5]);clear m1 m2 m3 m4 m5;have HM:=I (show MgP w w.heap.size zA zT zR zP pf ⟨m.k,as0,tg0,re0,ap0,m.fa⟩ from⟨zA_v,zT_v w w.heap.size,zR_v w w.heap.size,zP_v w w.heap.size,HP.o.f⟩);have O:=I (show(Tryz.prog.info? 86).map (·.size)=some (mgA m.k zA zT zR zP pf).size by rw[HM.o.size];exact Ba);go_enter Tryz.func158,Tryz.ntmps158
      go_upto_region 1 with fail
      rw[<-av,<-eW];clear av eW
      go_wp2_with (first
       |(refine Am (by rfl) 86 #[(0,.tmp 5)] (by rfl) c0 (by simp only[List.map_toArray,List.map_cons,List.map_nil];exact bq.o) ?_)
       |(refine wpList_store_mid (by rfl) 86 (.tmp 3) (.tmp 6) (by rfl) W.heap.size 0 c0 (by rfl) (by rfl) (Ar (Blk.new W 86 Ay) _ (by have:=aw.o;simp;omega)) HI.o HO.o ?_;have hV:=Bl W 86 Ay c0 (by have:=aw.o;simp;omega);generalize ((W.alloc (.cells Ay 86)).setCells W.heap.size 0 c0.toList)=V at hV⊢;have HX:=I (show Blk V W.heap.size 86 (mgA m.k zA zT zR zP zF) from EC.o▸hV.1);replace HK:=I (HK.o.below hV.2);replace HR:=I (HR.o.below hV.2);replace Z:=I (Z.o.trans (hV.2.mono Z.o.size));clear hV HA k0;have HA:=I (HP.o.at_ HK.o);have k0:=HA.o.k)
       |(refine Al (by rfl) 84 (.tmp 31) (by rfl) w.heap.size 28 (by rfl) pf _ HA.o.f Tryz.underlying84 (by rfl) (by rw[HP.o.f.size];exact FO) ?_)
       |(refine wpList_store_mid (by rfl) 84 (.tmp 33) (.tmp 32) (by rfl) W.heap.size 28 pf (by rfl) (by rfl) (Cx HX.o 28 _ (by rw[(zM_v W 0 m.k).size m.k,HP.o.f.size];omega)) (by rw[HP.o.f.size];exact FO) HP.o.f.one ?_;have hX:=JT (ps:=pf) (ds:=mgA m.k zA zT zR zP pf) (pre:=[.int .i64 m.k]++zA.toList++zT.toList++zR.toList++zP.toList) (mid:=zF.toList) (post:=[]) (o:=28) HX.o (by simp [mgA]) (by rfl) (by rw[HP.o.f.size];rfl) (by simp [mgA]);have M:=Fk V W.heap.size 28 pf.toList;generalize V.setCells W.heap.size 28 pf.toList=V2 at hX M⊢;replace HX:=I hX;replace HR:=I (HR.o.grown M (by intro e;injection e with e;have:=bn.o;omega));replace Z:=I (Az Z.o M Z.o.size (by have:=bn.o;omega));clear hX M HA HK k0)
       |(refine Al (by rfl) 86 (.tmp 3) (by rfl) W.heap.size 0 (by rfl) (mgA m.k zA zT zR zP pf) _ (Ad HX.o) Tryz.underlying86 (by rfl) O.o ?_)
       |(refine wpList_store_mid (by rfl) 86 (.tmp 2) (.tmp 34) (by rfl) (w.heap.size+1) 0 (mgA m.k zA zT zR zP pf) (by rfl) (by rfl) (Ar HR.o _ (by rw[HM.o.size];have:=bb.o;omega)) O.o (HM.o.one _) ?_)
       |fail)
      have hE:=AJ (ds:=mgA m.k zA zT zR zP pf) HR.o (by rw[HM.o.size];have:=bb.o;omega);have hp:=AP V2 (w.heap.size+1) (mgA m.k zA zT zR zP pf).toList;have hq:=Ao (P:=Tryz.prog) hE Tryz.underlying86 rfl O.o;refine bodyPost_ret (v:=.agg (mgA m.k zA zT zR zP pf)) ?_ ?_ ?_
      ·exact Au 2 86 ⟨w.heap.size+1,0,none⟩ Tryz.results158 rfl hq
      ·rfl
      have hB:=Az Z.o hp Z.o.size (by omega);refine⟨_,rfl,?_,hB⟩;rw[EN.o];exact⟨zA,zT,zR,zP,pf,rfl,(HM.o.keep hB).more hB.size⟩
     ·have cg:=m5
      have y1:(m.k==1)=false:=by simp;omega
      have y2:(m.k==2)=false:=by simp;omega
      have y3:(m.k==3)=false:=by simp;omega
      have y4:(m.k==4)=false:=by simp;omega
      have y5:(m.k==5)=false:=by simp;omega
      have EN:=I (show nm m=⟨m.k,as0,tg0,re0,ap0,fa0⟩ by rw[nm,if_neg m1,if_neg m2,if_neg m3,if_neg m4,if_neg m5]);clear m1 m2 m3 m4 m5;have HM:=I (show MgP w w.heap.size zA zT zR zP zF ⟨m.k,as0,tg0,re0,ap0,fa0⟩ from⟨zA_v,zT_v w w.heap.size,zR_v w w.heap.size,zP_v w w.heap.size,zF_v⟩);have O:=I (show(Tryz.prog.info? 86).map (·.size)=some (mgA m.k zA zT zR zP zF).size by rw[HM.o.size];exact Ba);go_enter Tryz.func158,Tryz.ntmps158
      go_upto_region 1 with fail
      rw[<-av,<-eW];clear av eW
      go_wp2_with (first
       |(refine Am (by rfl) 86 #[(0,.tmp 5)] (by rfl) c0 (by simp only[List.map_toArray,List.map_cons,List.map_nil];exact bq.o) ?_)
       |(refine wpList_store_mid (by rfl) 86 (.tmp 3) (.tmp 6) (by rfl) W.heap.size 0 c0 (by rfl) (by rfl) (Ar (Blk.new W 86 Ay) _ (by have:=aw.o;simp;omega)) HI.o HO.o ?_;have hV:=Bl W 86 Ay c0 (by have:=aw.o;simp;omega);generalize ((W.alloc (.cells Ay 86)).setCells W.heap.size 0 c0.toList)=V at hV⊢;have HX:=I (show Blk V W.heap.size 86 (mgA m.k zA zT zR zP zF) from EC.o▸hV.1);replace HK:=I (HK.o.below hV.2);replace HR:=I (HR.o.below hV.2);replace Z:=I (Z.o.trans (hV.2.mono Z.o.size));clear hV HA k0;have HA:=I (HP.o.at_ HK.o);have k0:=HA.o.k)
       |(refine Al (by rfl) 86 (.tmp 3) (by rfl) W.heap.size 0 (by rfl) (mgA m.k zA zT zR zP zF) _ (Ad HX.o) Tryz.underlying86 (by rfl) O.o ?_)
       |(refine wpList_store_mid (by rfl) 86 (.tmp 2) (.tmp 34) (by rfl) (w.heap.size+1) 0 (mgA m.k zA zT zR zP zF) (by rfl) (by rfl) (Ar HR.o _ (by rw[HM.o.size];have:=bb.o;omega)) O.o (HM.o.one _) ?_)
       |fail)
      have hE:=AJ (ds:=mgA m.k zA zT zR zP zF) HR.o (by rw[HM.o.size];have:=bb.o;omega);have hp:=AP V (w.heap.size+1) (mgA m.k zA zT zR zP zF).toList;have hq:=Ao (P:=Tryz.prog) hE Tryz.underlying86 rfl O.o;refine bodyPost_ret (v:=.agg (mgA m.k zA zT zR zP zF)) ?_ ?_ ?_
      ·exact Au 2 86 ⟨w.heap.size+1,0,none⟩ Tryz.results158 rfl hq
      ·rfl
      have hB:=Az Z.o hp Z.o.size (by omega);refine⟨_,rfl,?_,hB⟩;rw[EN.o];exact⟨zA,zT,zR,zP,zF,rfl,(HM.o.keep hB).more hB.size⟩
def OwnN (w:World) (base:Nat) (v:Value) (l:L):Prop:=(v=.slice none 0 0/\l = [])\/OwnB w base v l
section
variable {w w':World} {base base' g:Nat} {v:Value} {l:L} {cs:Array Value}
theorem OwnN.keep (h:OwnN w base v l) (O:w.grownBy w' (some g)) (M:g<base):OwnN w' base v l:=h.imp id fun h=>h.keep O M
theorem OwnN.below (h:OwnN w base v l) (M:Below w.heap.size w w'):OwnN w' base v l:=h.imp id fun h=>h.below M
theorem OwnN.less (h:OwnN w base v l) (M:base'<=base):OwnN w base' v l:=h.imp id fun h=>h.less M
theorem OwnN.slb (h:OwnN w base v l):SlB w w.heap.size v l:=by
 rcases h with⟨rfl,rfl⟩ | h
 ·exact SlB.nil _ _
 ·exact h.slb
def TgO (w:World) (B:Nat) (cs:Array Value) (q:Tg):Prop:=∃b a,cs=(tgC q b a).toArray/\OwnN w B b q.t.b/\OwnN w B a q.a
def ReO (w:World) (B:Nat) (cs:Array Value) (q:Re):Prop:=∃b a,cs=(reC q b a).toArray/\OwnN w B b q.t.b/\OwnN w B a q.b
def ApO (w:World) (B:Nat) (cs:Array Value) (q:Ap):Prop:=∃b a,cs=(apC q b a).toArray/\OwnN w B b q.t.b/\OwnN w B a q.a
theorem TgO.keep {q:Tg} (h:TgO w base cs q) (O:w.grownBy w' (some g)) (M:g<base):TgO w' base cs q:=by obtain⟨b,a,h1,h2,Z⟩:=h;exact⟨b,a,h1,h2.keep O M,Z.keep O M⟩
theorem TgO.below {q:Tg} (h:TgO w base cs q) (M:Below w.heap.size w w'):TgO w' base cs q:=by obtain⟨b,a,h1,O,Z⟩:=h;exact⟨b,a,h1,O.below M,Z.below M⟩
theorem TgO.less {q:Tg} (h:TgO w base cs q) (M:base'<=base):TgO w base' cs q:=by obtain⟨b,a,h1,O,Z⟩:=h;exact⟨b,a,h1,O.less M,Z.less M⟩
theorem TgO.toV {q:Tg} (h:TgO w base cs q):TgV w w.heap.size cs q:=by obtain⟨b,a,Z,M,O⟩:=h;exact⟨b,a,Z,M.slb,O.slb⟩
theorem ReO.keep {q:Re} (h:ReO w base cs q) (O:w.grownBy w' (some g)) (M:g<base):ReO w' base cs q:=by obtain⟨b,a,h1,h2,Z⟩:=h;exact⟨b,a,h1,h2.keep O M,Z.keep O M⟩
theorem ReO.below {q:Re} (h:ReO w base cs q) (M:Below w.heap.size w w'):ReO w' base cs q:=by obtain⟨b,a,h1,O,Z⟩:=h;exact⟨b,a,h1,O.below M,Z.below M⟩
theorem ReO.less {q:Re} (h:ReO w base cs q) (M:base'<=base):ReO w base' cs q:=by obtain⟨b,a,h1,O,Z⟩:=h;exact⟨b,a,h1,O.less M,Z.less M⟩
theorem ReO.toV {q:Re} (h:ReO w base cs q):ReV w w.heap.size cs q:=by obtain⟨b,a,Z,M,O⟩:=h;exact⟨b,a,Z,M.slb,O.slb⟩
theorem ApO.keep {q:Ap} (h:ApO w base cs q) (O:w.grownBy w' (some g)) (M:g<base):ApO w' base cs q:=by obtain⟨b,a,h1,h2,Z⟩:=h;exact⟨b,a,h1,h2.keep O M,Z.keep O M⟩
theorem ApO.below {q:Ap} (h:ApO w base cs q) (M:Below w.heap.size w w'):ApO w' base cs q:=by obtain⟨b,a,h1,O,Z⟩:=h;exact⟨b,a,h1,O.below M,Z.below M⟩
theorem ApO.less {q:Ap} (h:ApO w base cs q) (M:base'<=base):ApO w base' cs q:=by obtain⟨b,a,h1,O,Z⟩:=h;exact⟨b,a,h1,O.less M,Z.less M⟩
theorem ApO.toV {q:Ap} (h:ApO w base cs q):ApV w w.heap.size cs q:=by obtain⟨b,a,Z,M,O⟩:=h;exact⟨b,a,Z,M.slb,O.slb⟩
structure MpO (w:World) (B:Nat) (pa pt pr pp pf:Array Value) (m:Mg):Prop where
 a:AsV pa m.aq
 t:TgO w B pt m.tg
 r:ReO w B pr m.re
 p:ApO w B pp m.ap
 f:FaV pf m.fa
def MgO (w:World) (B:Nat) (cs:Array Value) (m:Mg):Prop:=∃pa pt pr pp pf,cs=mgA m.k pa pt pr pp pf/\MpO w B pa pt pr pp pf m
variable {pa pt pr pp pf:Array Value} {m:Mg}
theorem MpO.toV (h:MpO w base pa pt pr pp pf m):MgP w w.heap.size pa pt pr pp pf m:=⟨h.a,h.t.toV,h.r.toV,h.p.toV,h.f⟩
theorem MpO.keep (h:MpO w base pa pt pr pp pf m) (O:w.grownBy w' (some g)) (M:g<base):MpO w' base pa pt pr pp pf m:=⟨h.a,h.t.keep O M,h.r.keep O M,h.p.keep O M,h.f⟩
theorem MpO.below (h:MpO w base pa pt pr pp pf m) (M:Below w.heap.size w w'):MpO w' base pa pt pr pp pf m:=⟨h.a,h.t.below M,h.r.below M,h.p.below M,h.f⟩
theorem MpO.less (h:MpO w base pa pt pr pp pf m) (M:base'<=base):MpO w base' pa pt pr pp pf m:=⟨h.a,h.t.less M,h.r.less M,h.p.less M,h.f⟩
theorem MgO.toV (h:MgO w base cs m):MgV w w.heap.size cs m:=by obtain⟨pa,pt,pr,pp,pf,O,M⟩:=h;exact⟨pa,pt,pr,pp,pf,O,M.toV⟩
theorem MgO.keep (h:MgO w base cs m) (O:w.grownBy w' (some g)) (M:g<base):MgO w' base cs m:=by obtain⟨pa,pt,pr,pp,pf,Z,h2⟩:=h;exact⟨pa,pt,pr,pp,pf,Z,h2.keep O M⟩
theorem MgO.below (h:MgO w base cs m) (Z:Below w.heap.size w w'):MgO w' base cs m:=by obtain⟨pa,pt,pr,pp,pf,M,O⟩:=h;exact⟨pa,pt,pr,pp,pf,M,O.below Z⟩
theorem MgO.less (h:MgO w base cs m) (Z:base'<=base):MgO w base' cs m:=by obtain⟨pa,pt,pr,pp,pf,M,O⟩:=h;exact⟨pa,pt,pr,pp,pf,M,O.less Z⟩
theorem MgO.size (h:MgO w base cs m):cs.size=30:=by obtain⟨pa,pt,pr,pp,pf,O,M⟩:=h;rw[O];exact M.toV.size m.k
theorem MgO.one (h:MgO w base cs m):One cs:=by obtain⟨pa,pt,pr,pp,pf,O,M⟩:=h;rw[O];exact M.toV.one m.k
end
theorem zT_o (w:World) (B:Nat):TgO w B zT tg0:=⟨_,_,rfl,.inl ⟨rfl,rfl⟩,.inl ⟨rfl,rfl⟩⟩
theorem zR_o (w:World) (B:Nat):ReO w B zR re0:=⟨_,_,rfl,.inl ⟨rfl,rfl⟩,.inl ⟨rfl,rfl⟩⟩
theorem zP_o (w:World) (B:Nat):ApO w B zP ap0:=⟨_,_,rfl,.inl ⟨rfl,rfl⟩,.inl ⟨rfl,rfl⟩⟩
theorem zM_o (w:World) (B:Nat) (k:Int):MpO w B zA zT zR zP zF ⟨k,as0,tg0,re0,ap0,fa0⟩:=⟨zA_v,zT_o w B,zR_o w B,zP_o w B,zF_v⟩
section
variable (g:Nat) (c:Option L) (w:World) (h:Cur w g c) (hs:(c.getD []).length<=100000)
include h hs
theorem XG:Calls Tryz.prog 115 #[.pointer (some ⟨g,0,none⟩)] w fun e w'=>∃ps,e=.returned (.agg ps)/\AsV ps (asQ c).1/\w.grownBy w' (some g):=
 (Ro g c w h hs).mono fun e w' M=>by obtain⟨rfl,_,O⟩:=M;exact⟨_,rfl,rfl,O⟩
theorem XH:Calls Tryz.prog 116 #[.pointer (some ⟨g,0,none⟩)] w fun e w'=>∃ps,e=.returned (.agg ps)/\TgO w' w.heap.size ps (tgQ c).1/\w.grownBy w' (some g):=
 (Rx g c w h hs).mono fun e w' M=>by obtain⟨z1,z2,rfl,o1,O,_,Z⟩:=M;exact⟨_,rfl,⟨_,_,rfl,.inr o1,.inr O⟩,Z⟩
theorem XI:Calls Tryz.prog 117 #[.pointer (some ⟨g,0,none⟩)] w fun e w'=>∃ps,e=.returned (.agg ps)/\ReO w' w.heap.size ps (reQ c).1/\w.grownBy w' (some g):=
 (Rq g c w h hs).mono fun e w' M=>by obtain⟨z1,z2,rfl,o1,O,_,Z⟩:=M;exact⟨_,rfl,⟨_,_,rfl,.inr o1,.inr O⟩,Z⟩
theorem XJ:Calls Tryz.prog 118 #[.pointer (some ⟨g,0,none⟩)] w fun e w'=>∃ps,e=.returned (.agg ps)/\ApO w' w.heap.size ps (apQ c).1/\w.grownBy w' (some g):=
 (Rr g c w h hs).mono fun e w' M=>by obtain⟨z1,z2,rfl,o1,O,_,Z⟩:=M;exact⟨_,rfl,⟨_,_,rfl,.inr o1,.inr O⟩,Z⟩
theorem XK:Calls Tryz.prog 119 #[.pointer (some ⟨g,0,none⟩)] w fun e w'=>∃ps,e=.returned (.agg ps)/\FaV ps (faQ c).1/\w.grownBy w' (some g):=
 (Rs g c w h hs).mono fun e w' M=>by obtain⟨rfl,_,O⟩:=M;exact⟨_,rfl,rfl,O⟩
end
theorem XL {ps:Array Value} {q:As} (h:AsV ps q):Tryz.prog.built 86 [(0,.int .i64 1),(1,.agg ps)]=some (mgA 1 ps zT zR zP zF):=by rw[h];kernel_rfl
theorem XM {w:World} {B:Nat} {ps:Array Value} {q:Tg} (h:TgO w B ps q):Tryz.prog.built 86 [(0,.int .i64 2),(2,.agg ps)]=some (mgA 2 zA ps zR zP zF):=by obtain⟨b,a,rfl,_⟩:=h;kernel_rfl
theorem XN {w:World} {B:Nat} {ps:Array Value} {q:Re} (h:ReO w B ps q):Tryz.prog.built 86 [(0,.int .i64 3),(3,.agg ps)]=some (mgA 3 zA zT ps zP zF):=by obtain⟨b,a,rfl,_⟩:=h;kernel_rfl
theorem LS {w:World} {B:Nat} {ps:Array Value} {q:Ap} (h:ApO w B ps q):Tryz.prog.built 86 [(0,.int .i64 4),(4,.agg ps)]=some (mgA 4 zA zT zR ps zF):=by obtain⟨b,a,rfl,_⟩:=h;kernel_rfl
theorem XO {ps:Array Value} {q:Fa} (h:FaV ps q):Tryz.prog.built 86 [(0,.int .i64 5),(5,.agg ps)]=some (mgA 5 zA zT zR zP ps):=by rw[h];kernel_rfl
theorem OW (A:Option Addr) (b:L) (cap:Nat) (w:World) (h:Rd w w.heap.size A (bvs b)) (hs:b.length<=100000):Calls Tryz.prog 85 #[.slice A b.length cap] w fun e w'=>∃ds,e=.returned (.agg ds)/\MgO w' w.heap.size ds (mgQ b)/\Below w.heap.size w w':=by
 obtain⟨zz,bz⟩:∃z:Array Value,z=#[.int .i64 0,.string ⟨#[]⟩,.string ⟨#[]⟩,.string ⟨#[]⟩,.string ⟨#[]⟩,.int .i64 0,.int .i64 0,.string ⟨#[]⟩,.string ⟨#[]⟩,.int .i64 0,.slice none 0 0,.slice none 0 0,.string ⟨#[]⟩,.string ⟨#[]⟩,.int .i64 0,.int .i64 0,.string ⟨#[]⟩,.string ⟨#[]⟩,.string ⟨#[]⟩,.string ⟨#[]⟩,.int .i64 0,.slice none 0 0,.slice none 0 0,.string ⟨#[]⟩,.string ⟨#[]⟩,.int .i64 0,.slice none 0 0,.slice none 0 0,.int .i64 0,.int .i64 0]:=⟨_,rfl⟩;have cm:zz=mgA 0 zA zT zR zP zF:=by rw[bz];rfl
 have bB:=I (show zz.size=30 by rw[cm];exact(zM_v w 0 0).size 0);obtain⟨W,eW⟩:=Ak (w.alloc (.cells zz 86));have cc:=I (show W.heap.size=w.heap.size+1 by rw[eW];simp);have Z:=I (show Blk W w.heap.size 86 zz by rw[eW];exact Blk.new _ _ _);have M:=I (show Below w.heap.size w W by rw[eW];exact Ah.alloc Ag _);clear cm;cases b with
 |nil=>
  have EQ:=I (show mgQ []=⟨0,as0,tg0,re0,ap0,fa0⟩ from rfl);have O:=I ((zM_v w 0 0).size 0);have ca:=I ((zM_v w 0 0).one 0);clear h hs;go_enter Tryz.func85,Tryz.ntmps85
  go_upto_region 1 with fail
  rw[<-bz,<-eW];clear bz eW
  go_wp2_with (first
   |(refine Am (by rfl) 86 #[] (by rfl) (mgA 0 zA zT zR zP zF) built_none ?_)
   |(refine wpList_store_mid (by rfl) 86 (.tmp 2) (.tmp 7) (by rfl) w.heap.size 0 (mgA 0 zA zT zR zP zF) (by rfl) (by rfl) (Ar Z.o _ (by rw[O.o];have:=bB.o;omega)) (by rw[O.o];exact Ba) ca.o ?_)
   |fail)
  have hE:=AJ (ds:=mgA 0 zA zT zR zP zF) Z.o (by rw[O.o];exact bB.o);have hp:=AP W w.heap.size (mgA 0 zA zT zR zP zF).toList;have hq:=Ao (P:=Tryz.prog) hE Tryz.underlying86 rfl (by rw[O.o];exact Ba);refine bodyPost_ret (v:=.agg (mgA 0 zA zT zR zP zF)) ?_ ?_ ?_
  ·exact Au 2 86 ⟨w.heap.size,0,none⟩ Tryz.results85 rfl hq
  ·rfl
  refine⟨_,rfl,?_,Az M.o hp (by have:=Z.o.lt;omega) Ag⟩;rw[EQ.o];exact⟨zA,zT,zR,zP,zF,rfl,⟨zA_v,zT_o _ _,zR_o _ _,zP_o _ _,zF_v⟩⟩
 |cons t r=>
  obtain⟨bb,oo,rfl,cn,bx⟩:∃bb oo,A=some ⟨bb,oo,none⟩/\bb<w.heap.size/\w.cell? ⟨bb,oo,none⟩=some (.int .u8 (t.toNat:Int)):=by
   obtain⟨bb,oo,rfl,h1,h2⟩:=h.at_ (i:=0) (u:=bv t) rfl;exact⟨bb,oo,rfl,h1,h2⟩
  have cb:=I (fun w1 (h1:Below w.heap.size w w1)=>show w1.cell? ⟨bb,oo,none⟩=some (.int .u8 (t.toNat:Int)) from(h1.cell (p:=⟨bb,oo,none⟩) cn).trans bx);have hu:=Fs t;have c0:=I (fun w1 (h1:Below w.heap.size w w1)=>KZ w1.heap.size (some ⟨bb,oo,none⟩) (t :: r) (t :: r).length cap w1 ((h.below h1).more h1.size) rfl);have ck:((some (t :: r):Option L).getD []).length<=100000:=hs;have c1:=I (fun g w1 h=>GN t g (some (t :: r)) w1 h (by omega));have bs:=FM t ck;have HL:=I (show(0:Int)<(((t :: r).length:Nat):Int) by simp)
  by_cases m1:t=106
  ·have d1:((t.toNat:Int)==106)=true:=by rw[m1];rfl
   have EQ:=I (show mgQ (t :: r)=⟨1,(asQ (AN t (some (t :: r)))).1,tg0,re0,ap0,fa0⟩ by subst m1;rfl);obtain⟨s0,es0⟩:∃s,s=AN t (some (t :: r)):=⟨_,rfl⟩;rw[<-es0] at c1 bs EQ;have T1:=I (fun g w1 h=>XG g s0 w1 h bs);clear es0 bs ck hs h bx hu m1;go_enter Tryz.func85,Tryz.ntmps85
   go_upto_region 1 with fail
   rw[<-bz,<-eW];clear bz eW
   go_upto_region 3 with fail
   replace Z:=I (show Blk W.drew _ _ _ from Z.o.drewN 1);replace M:=I (show Below _ _ W.drew from below_drewN M.o 1)
   go_region_held3 (fun w'=>w'.cell? ⟨bb,oo,none⟩=some (.int .u8 (t.toNat:Int))) (exact cb.o _ M.o) ((first
    |(go_at_call 113;refine Calls.mono (c0.o _ M.o) ?_;rintro e wo ⟨go,rfl,cd,bn,hb⟩;clear c0;have HC:=I bn;have aw:=I (show w.heap.size+1<=go by have:=cc.o;have:W.drew.heap.size=W.heap.size:=rfl;omega);replace Z:=I (Z.o.below hb);replace M:=M.t hb;have bq:=I (show w.heap.size+1<=wo.heap.size by have:=hb.size;have:=cc.o;have:W.drew.heap.size=W.heap.size:=rfl;omega);clear cd bn hb)
    |(go_at_call 114;refine Calls.mono (c1.o _ _ HC.o) ?_;rintro e wi ⟨⟨gd,rfl,cf,hd⟩,hc,hg⟩;clear c1 HC;have HD:=I hd;have av:=I (show w.heap.size+1<=gd by have:=bq.o;omega);have cj:=I (Di hd);replace Z:=I (Z.o.grown hg (by intro e;injection e with e;have:=aw.o;omega));replace M:=I (Az M.o hg M.o.size (by have:=aw.o;omega));clear cf hd hc hg bq aw)))
   have k9:=cb.o _ M.o
   go_wp2_with (first
    |(go_at_call 115;refine Calls.mono (T1.o _ _ HD.o) ?_;rintro e w3 ⟨ps,rfl,ho,hg⟩;clear T1 HD;replace Z:=I (Z.o.grown hg (by intro e;injection e with e;have:=av.o;omega));replace M:=I (Az M.o hg M.o.size (by have:=av.o;omega));have cg:=I (XL ho);have HM:=I (show MpO w3 (gd+1) ps zT zR zP zF ⟨1,(asQ s0).1,tg0,re0,ap0,fa0⟩ from⟨ho,zT_o _ _,zR_o _ _,zP_o _ _,zF_v⟩);have O:=I (HM.o.toV.size 1);have ca:=I (HM.o.toV.one 1);clear hg ho)
    |(refine Am (by rfl) 86 #[(0,.const (.int .i64 1)),(1,.tmp 20)] (by rfl) (mgA 1 ps zT zR zP zF) (by simp only[List.map_toArray,List.map_cons,List.map_nil];exact cg.o) ?_)
    |(refine wpList_store_mid (by rfl) 86 (.tmp 2) (.tmp 21) (by rfl) w.heap.size 0 (mgA 1 ps zT zR zP zF) (by rfl) (by rfl) (Ar Z.o _ (by rw[O.o];have:=bB.o;omega)) (by rw[O.o];exact Ba) ca.o ?_)
    |fail)
   have hE:=AJ (ds:=mgA 1 ps zT zR zP zF) Z.o (by rw[O.o];exact bB.o);have hp:=AP w3 w.heap.size (mgA 1 ps zT zR zP zF).toList;have hq:=Ao (P:=Tryz.prog) hE Tryz.underlying86 rfl (by rw[O.o];exact Ba);refine bodyPost_ret (v:=.agg (mgA 1 ps zT zR zP zF)) ?_ ?_ ?_
   ·exact Au 2 86 ⟨w.heap.size,0,none⟩ Tryz.results85 rfl hq
   ·rfl
   refine⟨_,rfl,?_,Az M.o hp (by have:=Z.o.lt;omega) Ag⟩;rw[EQ.o];exact⟨ps,zT,zR,zP,zF,rfl,(HM.o.keep hp (by have:=av.o;omega)).less (by have:=av.o;omega)⟩
  ·have d1:((t.toNat:Int)==106)=false:=by simp;intro e;exact m1 (UInt8.toNat_inj.1 (by rw[show(106:UInt8).toNat=106 from rfl];omega))
   by_cases m2:t=108
   ·have d2:((t.toNat:Int)==108)=true:=by rw[m2];rfl
    have EQ:=I (show mgQ (t :: r)=⟨2,as0,(tgQ (AN t (some (t :: r)))).1,re0,ap0,fa0⟩ by subst m2;rfl);obtain⟨s0,es0⟩:∃s,s=AN t (some (t :: r)):=⟨_,rfl⟩;rw[<-es0] at c1 bs EQ;have T1:=I (fun g w1 h=>XH g s0 w1 h bs);clear es0 bs ck hs h bx hu m1 m2;go_enter Tryz.func85,Tryz.ntmps85
    go_upto_region 1 with fail
    rw[<-bz,<-eW];clear bz eW
    go_upto_region 3 with fail
    replace Z:=I (show Blk W.drew _ _ _ from Z.o.drewN 1);replace M:=I (show Below _ _ W.drew from below_drewN M.o 1)
    go_region_held3 (fun w'=>w'.cell? ⟨bb,oo,none⟩=some (.int .u8 (t.toNat:Int))) (exact cb.o _ M.o) ((first
     |(go_at_call 113;refine Calls.mono (c0.o _ M.o) ?_;rintro e wo ⟨go,rfl,cd,bn,hb⟩;clear c0;have HC:=I bn;have aw:=I (show w.heap.size+1<=go by have:=cc.o;have:W.drew.heap.size=W.heap.size:=rfl;omega);replace Z:=I (Z.o.below hb);replace M:=M.t hb;have bq:=I (show w.heap.size+1<=wo.heap.size by have:=hb.size;have:=cc.o;have:W.drew.heap.size=W.heap.size:=rfl;omega);clear cd bn hb)
     |(go_at_call 114;refine Calls.mono (c1.o _ _ HC.o) ?_;rintro e wi ⟨⟨gd,rfl,cf,hd⟩,hc,hg⟩;clear c1 HC;have HD:=I hd;have av:=I (show w.heap.size+1<=gd by have:=bq.o;omega);have cj:=I (Di hd);replace Z:=I (Z.o.grown hg (by intro e;injection e with e;have:=aw.o;omega));replace M:=I (Az M.o hg M.o.size (by have:=aw.o;omega));clear cf hd hc hg bq aw)))
    have k9:=cb.o _ M.o
    go_wp2_with (first
     |(go_at_call 116;refine Calls.mono (T1.o _ _ HD.o) ?_;rintro e w3 ⟨ps,rfl,ho,hg⟩;clear T1 HD;replace ho:=ho.less (show gd+1<=_ from cj.o);replace Z:=I (Z.o.grown hg (by intro e;injection e with e;have:=av.o;omega));replace M:=I (Az M.o hg M.o.size (by have:=av.o;omega));have cg:=I (XM ho);have HM:=I (show MpO w3 (gd+1) zA ps zR zP zF ⟨2,as0,(tgQ s0).1,re0,ap0,fa0⟩ from⟨zA_v,ho,zR_o _ _,zP_o _ _,zF_v⟩);have O:=I (HM.o.toV.size 2);have ca:=I (HM.o.toV.one 2);clear hg ho)
     |(refine Am (by rfl) 86 #[(0,.const (.int .i64 2)),(2,.tmp 25)] (by rfl) (mgA 2 zA ps zR zP zF) (by simp only[List.map_toArray,List.map_cons,List.map_nil];exact cg.o) ?_)
     |(refine wpList_store_mid (by rfl) 86 (.tmp 2) (.tmp 26) (by rfl) w.heap.size 0 (mgA 2 zA ps zR zP zF) (by rfl) (by rfl) (Ar Z.o _ (by rw[O.o];have:=bB.o;omega)) (by rw[O.o];exact Ba) ca.o ?_)
     |fail)
    have hE:=AJ (ds:=mgA 2 zA ps zR zP zF) Z.o (by rw[O.o];exact bB.o);have hp:=AP w3 w.heap.size (mgA 2 zA ps zR zP zF).toList;have hq:=Ao (P:=Tryz.prog) hE Tryz.underlying86 rfl (by rw[O.o];exact Ba);refine bodyPost_ret (v:=.agg (mgA 2 zA ps zR zP zF)) ?_ ?_ ?_
    ·exact Au 2 86 ⟨w.heap.size,0,none⟩ Tryz.results85 rfl hq
    ·rfl
    refine⟨_,rfl,?_,Az M.o hp (by have:=Z.o.lt;omega) Ag⟩;rw[EQ.o];exact⟨zA,ps,zR,zP,zF,rfl,(HM.o.keep hp (by have:=av.o;omega)).less (by have:=av.o;omega)⟩
   ·have d2:((t.toNat:Int)==108)=false:=by simp;intro e;exact m2 (UInt8.toNat_inj.1 (by rw[show(108:UInt8).toNat=108 from rfl];omega))
    by_cases m3:t=107
    ·have d3:((t.toNat:Int)==107)=true:=by rw[m3];rfl
     have EQ:=I (show mgQ (t :: r)=⟨3,as0,tg0,(reQ (AN t (some (t :: r)))).1,ap0,fa0⟩ by subst m3;rfl);obtain⟨s0,es0⟩:∃s,s=AN t (some (t :: r)):=⟨_,rfl⟩;rw[<-es0] at c1 bs EQ;have T1:=I (fun g w1 h=>XI g s0 w1 h bs);clear es0 bs ck hs h bx hu m1 m2 m3;go_enter Tryz.func85,Tryz.ntmps85
     go_upto_region 1 with fail
     rw[<-bz,<-eW];clear bz eW
     go_upto_region 3 with fail
     replace Z:=I (show Blk W.drew _ _ _ from Z.o.drewN 1);replace M:=I (show Below _ _ W.drew from below_drewN M.o 1)
     go_region_held3 (fun w'=>w'.cell? ⟨bb,oo,none⟩=some (.int .u8 (t.toNat:Int))) (exact cb.o _ M.o) ((first
      |(go_at_call 113;refine Calls.mono (c0.o _ M.o) ?_;rintro e wo ⟨go,rfl,cd,bn,hb⟩;clear c0;have HC:=I bn;have aw:=I (show w.heap.size+1<=go by have:=cc.o;have:W.drew.heap.size=W.heap.size:=rfl;omega);replace Z:=I (Z.o.below hb);replace M:=M.t hb;have bq:=I (show w.heap.size+1<=wo.heap.size by have:=hb.size;have:=cc.o;have:W.drew.heap.size=W.heap.size:=rfl;omega);clear cd bn hb)
      |(go_at_call 114;refine Calls.mono (c1.o _ _ HC.o) ?_;rintro e wi ⟨⟨gd,rfl,cf,hd⟩,hc,hg⟩;clear c1 HC;have HD:=I hd;have av:=I (show w.heap.size+1<=gd by have:=bq.o;omega);have cj:=I (Di hd);replace Z:=I (Z.o.grown hg (by intro e;injection e with e;have:=aw.o;omega));replace M:=I (Az M.o hg M.o.size (by have:=aw.o;omega));clear cf hd hc hg bq aw)))
     have k9:=cb.o _ M.o
     go_wp2_with (first
      |(go_at_call 117;refine Calls.mono (T1.o _ _ HD.o) ?_;rintro e w3 ⟨ps,rfl,ho,hg⟩;clear T1 HD;replace ho:=ho.less (show gd+1<=_ from cj.o);replace Z:=I (Z.o.grown hg (by intro e;injection e with e;have:=av.o;omega));replace M:=I (Az M.o hg M.o.size (by have:=av.o;omega));have cg:=I (XN ho);have HM:=I (show MpO w3 (gd+1) zA zT ps zP zF ⟨3,as0,tg0,(reQ s0).1,ap0,fa0⟩ from⟨zA_v,zT_o _ _,ho,zP_o _ _,zF_v⟩);have O:=I (HM.o.toV.size 3);have ca:=I (HM.o.toV.one 3);clear hg ho)
      |(refine Am (by rfl) 86 #[(0,.const (.int .i64 3)),(3,.tmp 30)] (by rfl) (mgA 3 zA zT ps zP zF) (by simp only[List.map_toArray,List.map_cons,List.map_nil];exact cg.o) ?_)
      |(refine wpList_store_mid (by rfl) 86 (.tmp 2) (.tmp 31) (by rfl) w.heap.size 0 (mgA 3 zA zT ps zP zF) (by rfl) (by rfl) (Ar Z.o _ (by rw[O.o];have:=bB.o;omega)) (by rw[O.o];exact Ba) ca.o ?_)
      |fail)
     have hE:=AJ (ds:=mgA 3 zA zT ps zP zF) Z.o (by rw[O.o];exact bB.o);have hp:=AP w3 w.heap.size (mgA 3 zA zT ps zP zF).toList;have hq:=Ao (P:=Tryz.prog) hE Tryz.underlying86 rfl (by rw[O.o];exact Ba);refine bodyPost_ret (v:=.agg (mgA 3 zA zT ps zP zF)) ?_ ?_ ?_
     ·exact Au 2 86 ⟨w.heap.size,0,none⟩ Tryz.results85 rfl hq
     ·rfl
     refine⟨_,rfl,?_,Az M.o hp (by have:=Z.o.lt;omega) Ag⟩;rw[EQ.o];exact⟨zA,zT,ps,zP,zF,rfl,(HM.o.keep hp (by have:=av.o;omega)).less (by have:=av.o;omega)⟩
    ·have d3:((t.toNat:Int)==107)=false:=by simp;intro e;exact m3 (UInt8.toNat_inj.1 (by rw[show(107:UInt8).toNat=107 from rfl];omega))
     by_cases m4:t=110
     ·have d4:((t.toNat:Int)==110)=true:=by rw[m4];rfl
      have EQ:=I (show mgQ (t :: r)=⟨4,as0,tg0,re0,(apQ (AN t (some (t :: r)))).1,fa0⟩ by subst m4;rfl);obtain⟨s0,es0⟩:∃s,s=AN t (some (t :: r)):=⟨_,rfl⟩;rw[<-es0] at c1 bs EQ;have T1:=I (fun g w1 h=>XJ g s0 w1 h bs);clear es0 bs ck hs h bx hu m1 m2 m3 m4;go_enter Tryz.func85,Tryz.ntmps85
      go_upto_region 1 with fail
      rw[<-bz,<-eW];clear bz eW
      go_upto_region 3 with fail
      replace Z:=I (show Blk W.drew _ _ _ from Z.o.drewN 1);replace M:=I (show Below _ _ W.drew from below_drewN M.o 1)
      go_region_held3 (fun w'=>w'.cell? ⟨bb,oo,none⟩=some (.int .u8 (t.toNat:Int))) (exact cb.o _ M.o) ((first
       |(go_at_call 113;refine Calls.mono (c0.o _ M.o) ?_;rintro e wo ⟨go,rfl,cd,bn,hb⟩;clear c0;have HC:=I bn;have aw:=I (show w.heap.size+1<=go by have:=cc.o;have:W.drew.heap.size=W.heap.size:=rfl;omega);replace Z:=I (Z.o.below hb);replace M:=M.t hb;have bq:=I (show w.heap.size+1<=wo.heap.size by have:=hb.size;have:=cc.o;have:W.drew.heap.size=W.heap.size:=rfl;omega);clear cd bn hb)
       |(go_at_call 114;refine Calls.mono (c1.o _ _ HC.o) ?_;rintro e wi ⟨⟨gd,rfl,cf,hd⟩,hc,hg⟩;clear c1 HC;have HD:=I hd;have av:=I (show w.heap.size+1<=gd by have:=bq.o;omega);have cj:=I (Di hd);replace Z:=I (Z.o.grown hg (by intro e;injection e with e;have:=aw.o;omega));replace M:=I (Az M.o hg M.o.size (by have:=aw.o;omega));clear cf hd hc hg bq aw)))
      have k9:=cb.o _ M.o
      go_wp2_with (first
       |(go_at_call 118;refine Calls.mono (T1.o _ _ HD.o) ?_;rintro e w3 ⟨ps,rfl,ho,hg⟩;clear T1 HD;replace ho:=ho.less (show gd+1<=_ from cj.o);replace Z:=I (Z.o.grown hg (by intro e;injection e with e;have:=av.o;omega));replace M:=I (Az M.o hg M.o.size (by have:=av.o;omega));have cg:=I (LS ho);have HM:=I (show MpO w3 (gd+1) zA zT zR ps zF ⟨4,as0,tg0,re0,(apQ s0).1,fa0⟩ from⟨zA_v,zT_o _ _,zR_o _ _,ho,zF_v⟩);have O:=I (HM.o.toV.size 4);have ca:=I (HM.o.toV.one 4);clear hg ho)
       |(refine Am (by rfl) 86 #[(0,.const (.int .i64 4)),(4,.tmp 35)] (by rfl) (mgA 4 zA zT zR ps zF) (by simp only[List.map_toArray,List.map_cons,List.map_nil];exact cg.o) ?_)
       |(refine wpList_store_mid (by rfl) 86 (.tmp 2) (.tmp 36) (by rfl) w.heap.size 0 (mgA 4 zA zT zR ps zF) (by rfl) (by rfl) (Ar Z.o _ (by rw[O.o];have:=bB.o;omega)) (by rw[O.o];exact Ba) ca.o ?_)
       |fail)
      have hE:=AJ (ds:=mgA 4 zA zT zR ps zF) Z.o (by rw[O.o];exact bB.o);have hp:=AP w3 w.heap.size (mgA 4 zA zT zR ps zF).toList;have hq:=Ao (P:=Tryz.prog) hE Tryz.underlying86 rfl (by rw[O.o];exact Ba);refine bodyPost_ret (v:=.agg (mgA 4 zA zT zR ps zF)) ?_ ?_ ?_
      ·exact Au 2 86 ⟨w.heap.size,0,none⟩ Tryz.results85 rfl hq
      ·rfl
      refine⟨_,rfl,?_,Az M.o hp (by have:=Z.o.lt;omega) Ag⟩;rw[EQ.o];exact⟨zA,zT,zR,ps,zF,rfl,(HM.o.keep hp (by have:=av.o;omega)).less (by have:=av.o;omega)⟩
     ·have d4:((t.toNat:Int)==110)=false:=by simp;intro e;exact m4 (UInt8.toNat_inj.1 (by rw[show(110:UInt8).toNat=110 from rfl];omega))
      by_cases m5:t=126
      ·have d5:((t.toNat:Int)==126)=true:=by rw[m5];rfl
       have EQ:=I (show mgQ (t :: r)=⟨5,as0,tg0,re0,ap0,(faQ (AN t (some (t :: r)))).1⟩ by subst m5;rfl);obtain⟨s0,es0⟩:∃s,s=AN t (some (t :: r)):=⟨_,rfl⟩;rw[<-es0] at c1 bs EQ;have T1:=I (fun g w1 h=>XK g s0 w1 h bs);clear es0 bs ck hs h bx hu m1 m2 m3 m4 m5;go_enter Tryz.func85,Tryz.ntmps85
       go_upto_region 1 with fail
       rw[<-bz,<-eW];clear bz eW
       go_upto_region 3 with fail
       replace Z:=I (show Blk W.drew _ _ _ from Z.o.drewN 1);replace M:=I (show Below _ _ W.drew from below_drewN M.o 1)
       go_region_held3 (fun w'=>w'.cell? ⟨bb,oo,none⟩=some (.int .u8 (t.toNat:Int))) (exact cb.o _ M.o) ((first
        |(go_at_call 113;refine Calls.mono (c0.o _ M.o) ?_;rintro e wo ⟨go,rfl,cd,bn,hb⟩;clear c0;have HC:=I bn;have aw:=I (show w.heap.size+1<=go by have:=cc.o;have:W.drew.heap.size=W.heap.size:=rfl;omega);replace Z:=I (Z.o.below hb);replace M:=M.t hb;have bq:=I (show w.heap.size+1<=wo.heap.size by have:=hb.size;have:=cc.o;have:W.drew.heap.size=W.heap.size:=rfl;omega);clear cd bn hb)
        |(go_at_call 114;refine Calls.mono (c1.o _ _ HC.o) ?_;rintro e wi ⟨⟨gd,rfl,cf,hd⟩,hc,hg⟩;clear c1 HC;have HD:=I hd;have av:=I (show w.heap.size+1<=gd by have:=bq.o;omega);have cj:=I (Di hd);replace Z:=I (Z.o.grown hg (by intro e;injection e with e;have:=aw.o;omega));replace M:=I (Az M.o hg M.o.size (by have:=aw.o;omega));clear cf hd hc hg bq aw)))
       have k9:=cb.o _ M.o
       go_wp2_with (first
        |(go_at_call 119;refine Calls.mono (T1.o _ _ HD.o) ?_;rintro e w3 ⟨ps,rfl,ho,hg⟩;clear T1 HD;replace Z:=I (Z.o.grown hg (by intro e;injection e with e;have:=av.o;omega));replace M:=I (Az M.o hg M.o.size (by have:=av.o;omega));have cg:=I (XO ho);have HM:=I (show MpO w3 (gd+1) zA zT zR zP ps ⟨5,as0,tg0,re0,ap0,(faQ s0).1⟩ from⟨zA_v,zT_o _ _,zR_o _ _,zP_o _ _,ho⟩);have O:=I (HM.o.toV.size 5);have ca:=I (HM.o.toV.one 5);clear hg ho)
        |(refine Am (by rfl) 86 #[(0,.const (.int .i64 5)),(5,.tmp 40)] (by rfl) (mgA 5 zA zT zR zP ps) (by simp only[List.map_toArray,List.map_cons,List.map_nil];exact cg.o) ?_)
        |(refine wpList_store_mid (by rfl) 86 (.tmp 2) (.tmp 41) (by rfl) w.heap.size 0 (mgA 5 zA zT zR zP ps) (by rfl) (by rfl) (Ar Z.o _ (by rw[O.o];have:=bB.o;omega)) (by rw[O.o];exact Ba) ca.o ?_)
        |fail)
       have hE:=AJ (ds:=mgA 5 zA zT zR zP ps) Z.o (by rw[O.o];exact bB.o);have hp:=AP w3 w.heap.size (mgA 5 zA zT zR zP ps).toList;have hq:=Ao (P:=Tryz.prog) hE Tryz.underlying86 rfl (by rw[O.o];exact Ba);refine bodyPost_ret (v:=.agg (mgA 5 zA zT zR zP ps)) ?_ ?_ ?_
       ·exact Au 2 86 ⟨w.heap.size,0,none⟩ Tryz.results85 rfl hq
       ·rfl
       refine⟨_,rfl,?_,Az M.o hp (by have:=Z.o.lt;omega) Ag⟩;rw[EQ.o];exact⟨zA,zT,zR,zP,ps,rfl,(HM.o.keep hp (by have:=av.o;omega)).less (by have:=av.o;omega)⟩
      ·have d5:((t.toNat:Int)==126)=false:=by simp;intro e;exact m5 (UInt8.toNat_inj.1 (by rw[show(126:UInt8).toNat=126 from rfl];omega))
       have EQ:=I (show mgQ (t :: r)=⟨0,as0,tg0,re0,ap0,fa0⟩ by simp only[mgQ,if_neg m1,if_neg m2,if_neg m3,if_neg m4,if_neg m5];rfl);have O:=I ((zM_v w 0 0).size 0);have ca:=I ((zM_v w 0 0).one 0);clear m1 m2 m3 m4 m5 bs ck hs h bx hu;go_enter Tryz.func85,Tryz.ntmps85
       go_upto_region 1 with fail
       rw[<-bz,<-eW];clear bz eW
       go_upto_region 3 with fail
       replace Z:=I (show Blk W.drew _ _ _ from Z.o.drewN 1);replace M:=I (show Below _ _ W.drew from below_drewN M.o 1)
       go_region_held3 (fun w'=>w'.cell? ⟨bb,oo,none⟩=some (.int .u8 (t.toNat:Int))) (exact cb.o _ M.o) ((first
        |(go_at_call 113;refine Calls.mono (c0.o _ M.o) ?_;rintro e wo ⟨go,rfl,cd,bn,hb⟩;clear c0;have HC:=I bn;have aw:=I (show w.heap.size+1<=go by have:=cc.o;have:W.drew.heap.size=W.heap.size:=rfl;omega);replace Z:=I (Z.o.below hb);replace M:=M.t hb;have bq:=I (show w.heap.size+1<=wo.heap.size by have:=hb.size;have:=cc.o;have:W.drew.heap.size=W.heap.size:=rfl;omega);clear cd bn hb)
        |(go_at_call 114;refine Calls.mono (c1.o _ _ HC.o) ?_;rintro e wi ⟨⟨gd,rfl,cf,hd⟩,hc,hg⟩;clear c1 HC;have HD:=I hd;have av:=I (show w.heap.size+1<=gd by have:=bq.o;omega);have cj:=I (Di hd);replace Z:=I (Z.o.grown hg (by intro e;injection e with e;have:=aw.o;omega));replace M:=I (Az M.o hg M.o.size (by have:=aw.o;omega));clear cf hd hc hg bq aw)))
       have k9:=cb.o _ M.o
       go_wp2_with (first
        |(refine Am (by rfl) 86 #[] (by rfl) (mgA 0 zA zT zR zP zF) built_none ?_)
        |(refine wpList_store_mid (by rfl) 86 (.tmp 2) (.tmp 42) (by rfl) w.heap.size 0 (mgA 0 zA zT zR zP zF) (by rfl) (by rfl) (Ar Z.o _ (by rw[O.o];have:=bB.o;omega)) (by rw[O.o];exact Ba) ca.o ?_)
        |fail)
       have hE:=AJ (ds:=mgA 0 zA zT zR zP zF) Z.o (by rw[O.o];exact bB.o);have hp:=AP wi w.heap.size (mgA 0 zA zT zR zP zF).toList;have hq:=Ao (P:=Tryz.prog) hE Tryz.underlying86 rfl (by rw[O.o];exact Ba);refine bodyPost_ret (v:=.agg (mgA 0 zA zT zR zP zF)) ?_ ?_ ?_
       ·exact Au 2 86 ⟨w.heap.size,0,none⟩ Tryz.results85 rfl hq
       ·rfl
       refine⟨_,rfl,?_,Az M.o hp (by have:=Z.o.lt;omega) Ag⟩;rw[EQ.o];exact⟨zA,zT,zR,zP,zF,rfl,⟨zA_v,zT_o _ _,zR_o _ _,zP_o _ _,zF_v⟩⟩
end Mc
end Go.Proofs.YtiecjolmennkfaaGreat
