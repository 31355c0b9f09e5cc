import Derived.Test.YthgignaohimadaaGreatZKdcRoutes15
import Derived.Test.YthgignaohimadaaGreatZKdcRoutes16
set_option maxHeartbeats 25600000
set_option maxRecDepth 100000
set_option linter.unusedVariables false
set_option linter.unusedSimpArgs false
namespace Go.Proofs.YthgignaohimadaaGreat
namespace Kd
open Go.RowKit Af Se
open Rg (It Ent Ring RO DRing DO its prV BA BH numO Ni KQ Ad)
open Ms (tmB inB)
open Nm (krb)
theorem Ei (n:Int) (w:World):Calls Tryz.prog 25 #[.int .i64 n] w fun e w'=>e=.returned (.bool (tmB n))/\w=w':=by
 by_cases h1:0<=n
 ·by_cases h2:n<=1073741824
  ·have D:decide ((0:Int)<=n)=true:=decide_eq_true h1
   have F:decide (n<=1073741824)=true:=decide_eq_true h2;have E:=I (show tmB n=true by simp [tmB,inB,h1,h2]);rw[E.o];clear h1 h2;go_enter Tryz.func25,Tryz.ntmps25
   go_wp2
   go_ret;exact⟨rfl,rfl⟩
  ·have D:decide ((0:Int)<=n)=true:=decide_eq_true h1
   have F:decide (n<=1073741824)=false:=decide_eq_false h2;have E:=I (show tmB n=false by simp [tmB,inB,h1,h2]);rw[E.o];clear h1 h2;go_enter Tryz.func25,Tryz.ntmps25
   go_wp2
   go_ret;exact⟨rfl,rfl⟩
 ·have D:decide ((0:Int)<=n)=false:=decide_eq_false h1
  have E:=I (show tmB n=false by simp [tmB,inB,h1]);rw[E.o];clear h1;go_enter Tryz.func25,Tryz.ntmps25
  go_wp2
  go_ret;exact⟨rfl,rfl⟩
theorem AO:(Tryz.prog.info? 23).map (·.size)=some 2:=by kernel_rfl
theorem FF:(Tryz.prog.info? 99).map (·.size)=some 4:=by kernel_rfl
abbrev hoA (q:Rg.Pr) (b:Option Addr) (k:Int):Array Value:=#[.string ⟨q.1.toArray⟩,.string ⟨q.2.toArray⟩,.pointer b,.int .i64 k]
section
variable {w:World} {B:Nat} {p:KP} {es:List Ent} {n i:Nat}
theorem Jj {q:Rg.Pr} {j:Nat} {x:Ent} (h:KD w B p es n i) (hl:es.length<=1000) (Z:BA (its es) q=some j) (O:es[j]? = some x) :
  Calls Tryz.prog 63 #[.pointer (some ⟨p.k,0,none⟩),prV q] w fun e w'=>e=.returned (.tuple #[.agg (hoA q (some ⟨x.b,0,none⟩) (x.it.n:Int)),.bool true])/\Below w.heap.size w w':=by
 obtain⟨W,N⟩:=Ak ((w.alloc (.cells #[.string ⟨q.1.toArray⟩,.string ⟨q.2.toArray⟩] 23)).alloc (.cells #[.string ⟨#[]⟩,.string ⟨#[]⟩,.pointer none,.int .i64 0] 99));have E:Below w.heap.size w W:=N▸(Ah.alloc Ag _).alloc (by simp) _;have F:=I (show Blk W w.heap.size 23 #[.string ⟨q.1.toArray⟩,.string ⟨q.2.toArray⟩] from N▸(Blk.new w _ _).alloc _);have D:=I (show Blk W (w.heap.size+1) 99 #[.string ⟨#[]⟩,.string ⟨#[]⟩,.pointer none,.int .i64 0] by have:=Blk.new (w.alloc (.cells #[.string ⟨q.1.toArray⟩,.string ⟨q.2.toArray⟩] 23)) 99 #[.string ⟨#[]⟩,.string ⟨#[]⟩,.pointer none,.int .i64 0];simp only[World.size_alloc] at this;exact N▸this);have M:=I E;have J:=I (h.below E);have C1:=I (fun(w1:World) (h1:Ring w1 B p.r p.v es)=>Ni h1 hl Z O);clear h hl Z O E;go_enter Tryz.func63,Tryz.ntmps63
 go_upto_region 1 with fail
 rw[<-N];clear N;replace F:=I (show Blk W.drew _ _ _ from F.o.drewN 1);replace D:=I (show Blk W.drew _ _ _ from D.o.drewN 1);replace M:=I (show Below _ _ W.drew from below_drewN M.o 1);replace J:=I J.o.drew
 go_region_held3 (fun w'=>w'.cell? ⟨p.k,4,none⟩=some (.pointer (some ⟨p.r,0,none⟩))/\w'.cell? ⟨w.heap.size,0,none⟩=some (.string ⟨q.1.toArray⟩)/\w'.cell? ⟨w.heap.size,1,none⟩=some (.string ⟨q.2.toArray⟩)) (exact⟨J.o.blk.cell 4,F.o.cell 0,F.o.cell 1⟩) ((go_at_call 105;refine Aj (C1.o _ J.o.ring) ?_;rintro w1 E;clear C1;replace F:=I (F.o.below E);replace D:=I (D.o.below E);replace M:=M.t E;replace J:=I (J.o.below E);clear E))
 have k0:=F.c0;have k1:=F.c1;have bB:=D.c0;have bx:=D.c1;have bz:=D.c2;have aw:=D.c3;have fz:=D.o.frozen
 go_wp2
 have hv:=(((D.o.set 0 (.string ⟨q.1.toArray⟩)).set 1 (.string ⟨q.2.toArray⟩)).set 2 (.pointer (some ⟨x.b,0,none⟩))).set 3 (.int .i64 (x.it.n:Int));refine bodyPost_ret (v:=.tuple #[.agg (hoA q (some ⟨x.b,0,none⟩) (x.it.n:Int)),.bool true]) ?_ ?_ ?_
 ·exact Ad (v:=.agg (hoA q (some ⟨x.b,0,none⟩) (x.it.n:Int))) 4 5 99 ⟨w.heap.size+1,0,none⟩ Tryz.results63 rfl (Wh.Al hv Tryz.underlying99 (by rfl) FF) rfl
 ·rfl
 ·exact⟨rfl,Si.Az (Si.Az (Si.Az (Si.Az M.o (by simp) _) (by simp) _) (by simp) _) (by simp) _⟩
theorem Hk {q:Rg.Pr} (h:KD w B p es n i) (Z:es.length<=1000) (O:BA (its es) q=none) :
  Calls Tryz.prog 63 #[.pointer (some ⟨p.k,0,none⟩),prV q] w fun e w'=>e=.returned (.tuple #[.agg (hoA ([],[]) none 0),.bool false])/\Below w.heap.size w w':=by
 obtain⟨W,N⟩:=Ak ((w.alloc (.cells #[.string ⟨q.1.toArray⟩,.string ⟨q.2.toArray⟩] 23)).alloc (.cells #[.string ⟨#[]⟩,.string ⟨#[]⟩,.pointer none,.int .i64 0] 99));have E:Below w.heap.size w W:=N▸(Ah.alloc Ag _).alloc (by simp) _;have F:=I (show Blk W w.heap.size 23 #[.string ⟨q.1.toArray⟩,.string ⟨q.2.toArray⟩] from N▸(Blk.new w _ _).alloc _);have D:=I (show Blk W (w.heap.size+1) 99 #[.string ⟨#[]⟩,.string ⟨#[]⟩,.pointer none,.int .i64 0] by have:=Blk.new (w.alloc (.cells #[.string ⟨q.1.toArray⟩,.string ⟨q.2.toArray⟩] 23)) 99 #[.string ⟨#[]⟩,.string ⟨#[]⟩,.pointer none,.int .i64 0];simp only[World.size_alloc] at this;exact N▸this);have M:=I E;have J:=I (h.below E);have C1:=I (fun(w1:World) (h1:Ring w1 B p.r p.v es)=>KQ h1 Z O);clear h Z O E;go_enter Tryz.func63,Tryz.ntmps63
 go_upto_region 1 with fail
 rw[<-N];clear N;replace F:=I (show Blk W.drew _ _ _ from F.o.drewN 1);replace D:=I (show Blk W.drew _ _ _ from D.o.drewN 1);replace M:=I (show Below _ _ W.drew from below_drewN M.o 1);replace J:=I J.o.drew
 go_region_held3 (fun w'=>w'.cell? ⟨p.k,4,none⟩=some (.pointer (some ⟨p.r,0,none⟩))/\w'.cell? ⟨w.heap.size,0,none⟩=some (.string ⟨q.1.toArray⟩)/\w'.cell? ⟨w.heap.size,1,none⟩=some (.string ⟨q.2.toArray⟩)) (exact⟨J.o.blk.cell 4,F.o.cell 0,F.o.cell 1⟩) ((go_at_call 105;refine Aj (C1.o _ J.o.ring) ?_;rintro w1 E;clear C1;replace F:=I (F.o.below E);replace D:=I (D.o.below E);replace M:=M.t E;replace J:=I (J.o.below E);clear E))
 have bB:=D.c0;have bx:=D.c1;have bz:=D.c2;have aw:=D.c3;have fz:=D.o.frozen
 go_wp2
 have hv:=(((D.o.set 0 (.string ⟨#[]⟩)).set 1 (.string ⟨#[]⟩)).set 2 (.pointer none)).set 3 (.int .i64 0);refine bodyPost_ret (v:=.tuple #[.agg (hoA ([],[]) none 0),.bool false]) ?_ ?_ ?_
 ·exact Ad (v:=.agg (hoA ([],[]) none 0)) 4 5 99 ⟨w.heap.size+1,0,none⟩ Tryz.results63 rfl (Wh.Al hv Tryz.underlying99 (by rfl) FF) rfl
 ·rfl
 ·exact⟨rfl,Si.Az (Si.Az (Si.Az (Si.Az M.o (by simp) _) (by simp) _) (by simp) _) (by simp) _⟩
theorem LP {r:Nm.L} (h:KD w B p es n i) (hr:r.length<=1000000) :
  Calls Tryz.prog 65 #[.pointer (some ⟨p.k,0,none⟩),.string ⟨r.toArray⟩] w fun e w'=>e=.returned (prV (kr p.R r))/\Below w.heap.size w w':=by
 obtain⟨W,F⟩:=Ak (w.alloc (.cells #[.string ⟨#[]⟩,.string ⟨#[]⟩] 23));have M:Below w.heap.size w W:=F▸Ah.alloc Ag _;have E:=I (show Blk W w.heap.size 23 #[.string ⟨#[]⟩,.string ⟨#[]⟩] from F▸Blk.new w _ _);have J:=I M;have N:=I (h.below M);have aw:=h.lt;have C1:=I (fun(w1:World)=>Nm.Ks r w1 (by omega));clear h hr M;go_enter Tryz.func65,Tryz.ntmps65
 go_upto_region 1 with fail
 rw[<-F];clear F;replace E:=I (show Blk W.drew _ _ _ from E.o.drewN 1);replace J:=I (show Below _ _ W.drew from below_drewN J.o 1);replace N:=I N.o.drew;have O:=E.c0;have Z:=E.c1;have fz:=E.o.frozen;have D:Blk W w.heap.size 23 #[.string ⟨#[]⟩,.string ⟨#[]⟩]:=E.o;have bx:=D.cell 0;have bz:=D.c1;have fy:=D.frozen;clear D;have k0:W.drew.cell? ⟨p.k,0,none⟩=some (.string ⟨p.R.toArray⟩):=N.o.blk.cell 0;refine wp_region_still_tail 7 (by kernel_rfl) (by kernel_rfl) ?_;simp only[List.take_succ_cons,List.take_zero,List.drop_succ_cons,List.drop_zero];change wpStill _ _ W.drew _ _ _
 repeat still_step
 still_call ((C1.o _).mono (fun _ _ h=>⟨h.1,h.2.symm⟩))
 repeat still_step
 refine wpStill_nil ?_;change wpList _ _ _ _ _ W.drew
 go_wp2
 have hv:=(E.o.set 0 (.string ⟨p.R.toArray⟩)).set 1 (.string ⟨(krb++r).toArray⟩);refine bodyPost_ret (v:=prV (kr p.R r)) ?_ ?_ ?_
 ·exact Wh.AD (v:=prV (kr p.R r)) 4 23 ⟨w.heap.size,0,none⟩ Tryz.results65 (by rfl) (Wh.Al hv Tryz.underlying23 (by rfl) AO)
 ·rfl
 ·exact⟨rfl,Si.Az (Si.Az J.o (by simp) _) (by simp) _⟩
end
theorem Ql (p:Rg.Pr) (w:World) (h1:p.1.length<=1000000000) (h2:p.2.length<=1000000000):Calls Tryz.prog 69 #[prV p] w fun e w'=>e=.returned (prV p)/\Below w.heap.size w w':=by
 have C1:=I (fun w1=>Nm.Bm p.1 w1 h1);have C2:=I (fun w1=>Nm.Bm p.2 w1 h2);go_enter Tryz.func69,Tryz.ntmps69
 go_upto_region 1 with fail
 obtain⟨W,O⟩:=Ak ((w.alloc (.cells #[.string ⟨p.1.toArray⟩,.string ⟨p.2.toArray⟩] 23)).alloc (.cells #[.string ⟨#[]⟩,.string ⟨#[]⟩] 23));have Z:=Blk.new (w.alloc (.cells #[.string ⟨p.1.toArray⟩,.string ⟨p.2.toArray⟩] 23)) 23 #[.string ⟨#[]⟩,.string ⟨#[]⟩];rw[show(w.alloc (.cells #[.string ⟨p.1.toArray⟩,.string ⟨p.2.toArray⟩] 23)).heap.size=w.heap.size+1 by simp,<-O] at Z;have E:=I (show Blk W w.heap.size 23 #[.string ⟨p.1.toArray⟩,.string ⟨p.2.toArray⟩] by rw[O];exact(Blk.new _ _ _).alloc _);have D:=I Z;have J:=I (show Below w.heap.size w W by rw[O];exact(Ah.alloc Ag _).alloc (by simp) _);rw[<-O];clear O Z;replace E:=I (show Blk W.drew _ _ _ from E.o.drewN 1);replace D:=I (show Blk W.drew _ _ _ from D.o.drewN 1);replace J:=I (show Below _ _ W.drew from below_drewN J.o 1)
 go_region_held3 (fun w'=>w'.cell? ⟨w.heap.size,0,none⟩=some (.string ⟨p.1.toArray⟩)/\w'.cell? ⟨w.heap.size,1,none⟩=some (.string ⟨p.2.toArray⟩)) (first | exact⟨E.o.cell 0,E.o.cell 1⟩ | exact⟨(Si.Blk.far (Si.Blk.far E.o _ _ (by simp)) _ _ (by simp)).cell 0,(Si.Blk.far (Si.Blk.far E.o _ _ (by simp)) _ _ (by simp)).cell 1⟩) ((first
  |(go_at_call 42;(with_reducible refine Calls.mono (C1.o _) ?_);rintro e w1 ⟨rfl,F⟩;clear C1;replace E:=I (E.o.below F);replace D:=I (D.o.below F);replace J:=J.t F;have M:=D.c0;have N:=D.c1;have fz:=D.o.frozen;clear F)
  |(go_at_call 42;(with_reducible refine Calls.mono (C2.o _) ?_);rintro e w2 ⟨rfl,F⟩;clear C2 M N fz;replace E:=I (E.o.below F);replace D:=I (D.o.below F);replace J:=J.t F;have M:=D.c0;have N:=D.c1;have fz:=D.o.frozen;clear F)))
 go_wp2
 have hz:=(D.o.set 0 (.string ⟨p.1.toArray⟩)).set 1 (.string ⟨p.2.toArray⟩);rw[show(((#[.string ⟨#[]⟩,.string ⟨#[]⟩]:Array Value).setIfInBounds 0 (.string ⟨p.1.toArray⟩)).setIfInBounds 1 (.string ⟨p.2.toArray⟩))=#[.string ⟨p.1.toArray⟩,.string ⟨p.2.toArray⟩] from rfl] at hz;refine bodyPost_ret (v:=prV p) ?_ ?_ ?_
 ·exact Wh.AD (v:=prV p) 2 23 ⟨w.heap.size+1,0,none⟩ Tryz.results69 (by rfl) (Wh.Al hz Tryz.underlying23 (by rfl) AO)
 ·rfl
 ·exact⟨rfl,Si.Az (Si.Az J.o (by simp) _) (by simp) _⟩
end Kd
namespace Ms
open Go.RowKit Af DerP DerR
theorem Yy {a b c:World} {row:Option Nat} (h:a.grownBy b row) (k:b.grownBy c row):a.grownBy c row:=
 ⟨k.os.trans h.os,k.tape.trans h.tape,k.output.trans h.output,Nat.le_trans h.size k.size,fun i hi D=>(k.block i (Nat.lt_of_lt_of_le hi h.size) D).trans (h.block i hi D)⟩
theorem UN {a b c:World} {row:Option Nat} {q:Nat} (h:a.grownBy b row) (k:b.grownBy c (some q)) (E:a.heap.size<=q):a.grownBy c row:=
 ⟨k.os.trans h.os,k.tape.trans h.tape,k.output.trans h.output,Nat.le_trans h.size k.size,fun i hi D=>(k.block i (Nat.lt_of_lt_of_le hi h.size) (fun e=>by injection e with e;omega)).trans (h.block i hi D)⟩
theorem AD {P:Program} {fn:Func} {tmps:Array Value} {w:World} {v:Value} (t:Nat) (ty:TypeId) (a:Addr) (D:fn.results=#[.cell t ty]) (J:tmps.getD t undef=.pointer (some a)) (F:(loadVar ty a).run P w=.ok v w) :
  (results fn tmps).run P w=.ok v w:=by
 have E:tmps[t]?.getD undef=.pointer (some a):=by simpa using J
 simp [results,D,E,asAddr,F]
theorem Al {P:Program} {w:World} {g:Nat} {t ty:TypeId} {cs:Array Value} {d:TypeDesc} (h:Blk w g t cs) (hu:P.underlying ty=some d) (E:d.isRow=true) (hi:(P.info? ty).map (·.size)=some cs.size) :
  (loadVar ty ⟨g,0,none⟩).run P w=.ok (.agg cs) w:=by
 have F:w.rangeAt g 0 cs.toList:=fun j v D=>by rw[Nat.zero_add,h.cell];simpa using D
 have:=run_loadVar_mid (P:=P) w g 0 ty cs.toList d F hu E (by simpa using hi)
 simpa using this
theorem Xv (c:Option L):((intC c).2.getD []).length<=(c.getD []).length:=by
 unfold intC;cases h:Bp 2 c with
 |none=>simp
 |some b=>
  simp only;cases numL b with
  |none=>simp
  |some n=>exact(Dj 2 c).2
theorem Ad {P:Program} {fn:Func} {tmps:Array Value} {w:World} {v u:Value} (t q:Nat) (ty:TypeId) (a:Addr) (D:fn.results=#[.cell t ty,.tmp q]) (N:tmps.getD t undef=.pointer (some a)) (M:(loadVar ty a).run P w=.ok v w) (J:tmps.getD q undef=u) :
  (results fn tmps).run P w=.ok (.tuple #[v,u]) w:=by
 have E:tmps[t]?.getD undef=.pointer (some a):=by simpa using N
 have F:tmps[q]?.getD undef=u:=by simpa using J
 simp [results,D,E,F,asAddr,M]
def anG (b:L):An:=(anD b).getD an0
def anI (b:L):Int:=if (anD b).isSome then 0 else 2
end Ms
namespace Mc
open Go.RowKit Af DerP DerC Ms
def OwnB (w:World) (base:Nat) (v:Value) (l:L):Prop:=
 ∃b c,v=.slice (some ⟨b,0,none⟩) l.length c/\l.length<=c/\base<=b/\b<w.heap.size/\∀i u,(bvs l)[i]? = some u->w.cell? ⟨b,i,none⟩=some u
theorem OwnB.of_fresh {w:World} {base b c:Nat} {l:L} (h:RH w base b l) (D:l.length<=c):OwnB w base (.slice (some ⟨b,0,none⟩) l.length c) l:=by
 refine⟨b,c,rfl,D,h.1,h.2.1,fun i u hu=>?_⟩;have hi:i<l.length:=by
  rcases Nat.lt_or_ge i l.length with g | g
  ·exact g
  ·rw[List.getElem?_eq_none (by rw[Ay];exact g)] at hu;cases hu
 rw[GC hi] at hu;injection hu with hu;subst hu;exact(h.2.2 i hi).1
theorem OwnB.keep {w w':World} {base g:Nat} {v:Value} {l:L} (h:OwnB w base v l) (E:w.grownBy w' (some g)) (M:g<base):OwnB w' base v l:=by
 obtain⟨b,c,F,O,J,D,N⟩:=h;exact⟨b,c,F,O,J,Nat.lt_of_lt_of_le D E.size,fun i u hu=>(World.cell?_of_block (a:=⟨b,i,none⟩) (E.block b D (fun e=>by injection e with e;omega))).trans (N i u hu)⟩
theorem OwnB.slb {w:World} {base:Nat} {v:Value} {l:L} (h:OwnB w base v l):SlB w w.heap.size v l:=by
 obtain⟨b,c,E,F,M,J,D⟩:=h;exact⟨_,c,E,F,.inr ⟨b,0,rfl,J,fun i u hu=>by rw[Nat.zero_add];exact D i u hu⟩⟩
theorem Ao {w:World} {g:Nat} {t:TypeId} {cs:Array Value} (h:Blk w g t cs) (n:Nat) (D:n<=cs.size):w.there g 0 n:=fun j E=>by
 rw[Nat.zero_add,h.cell,Array.getElem?_eq_getElem (by omega)];exact⟨rfl,h.frozen j⟩
theorem BV {g:Nat} {t:TypeId}:∀(D:List Value) (o:Nat) (w:World) (cs:Array Value),Blk w g t cs->o+D.length<=cs.size->
  ∃ds:Array Value,Blk (w.setCells g o D) g t ds/\ds.size=cs.size/\(∀i,o<=i->i<o+D.length->ds[i]? = D[i - o]?)/\(∀i,i<o\/o+D.length<=i->ds[i]? = cs[i]?)
 | [],o,w,cs,h,hl=>⟨cs,h,rfl,fun i F E=>by simp at E;omega,fun i _=>rfl⟩
 |v :: r,o,w,cs,h,hl=>by
  rw[World.setCells];simp only[List.length_cons] at hl;obtain⟨ds,F,E,M,J⟩:=BV r (o+1) _ _ (h.set o v) (by simp;omega);simp only[List.length_cons];refine⟨ds,F,by simpa using E,fun i hi N=>?_,fun i hi=>?_⟩
  ·by_cases e:i=o
   ·subst e
    rw[J i (by omega),Nat.sub_self];rw[Array.getElem?_setIfInBounds_self_of_lt (by omega)]
    rfl
   ·rw[M i (by omega) (by omega),show i - o=(i - (o+1))+1 by omega]
    simp
  ·rw[J i (by omega)]
   exact Array.getElem?_setIfInBounds_ne (by omega)
theorem Rx {w:World} {g:Nat} {t:TypeId} {x:L} (h:Blk w g t (bvs key0).toArray):Blk (w.setCells g 0 (bvs (x.take 32))) g t (bvs ((x++key0).take 32)).toArray:=by
 have hk:key0.length=32:=rfl;obtain⟨es,D,J,E,F⟩:=BV (bvs (x.take 32)) 0 w _ h (by simp [Ay,hk];omega);have e:es=(bvs ((x++key0).take 32)).toArray:=by
  apply Array.ext_getElem?;intro i;rw[show(bvs ((x++key0).take 32)).toArray[i]? = (bvs ((x++key0).take 32))[i]? by simp]
  by_cases hi:i<(x.take 32).length
  ·rw[E i (by omega) (by rw[Ay];omega),Nat.sub_zero]
   simp only[bvs,List.getElem?_map]
   congr 1
   rw[List.length_take] at hi;rw[List.getElem?_take_of_lt (by omega),List.getElem?_take_of_lt (by omega),List.getElem?_append_left (by omega)]
  ·rw[F i (by rw[Ay];omega),show(bvs key0).toArray[i]? = (bvs key0)[i]? by simp]
   simp only[bvs,List.getElem?_map]
   congr 1
   rw[List.length_take] at hi
   by_cases h5:i<32
   ·rw[List.getElem?_take_of_lt h5,List.getElem?_append_right (by omega)]
    simp only[key0,List.getElem?_replicate];rw[if_pos h5,if_pos (by omega)]
   ·rw[List.getElem?_eq_none (by rw[hk];omega),List.getElem?_eq_none (by rw[List.length_take];omega)]
 rw[<-e];exact D
theorem AS {w:World} {g:Nat} {t:TypeId} {cs ds:Array Value} (h:Blk w g t cs) (hs:cs.size=ds.size):Blk (w.setCells g 0 ds.toList) g t ds:=by
 obtain⟨es,D,F,E,_⟩:=BV ds.toList 0 w cs h (by simp;omega);have e:es=ds:=by
  apply Array.ext_getElem?;intro i
  by_cases hi:i<ds.size
  ·rw[E i (by omega) (by simp;omega)];simp
  ·rw[Array.getElem?_eq_none (by omega),Array.getElem?_eq_none (by omega)]
 rw[<-e];rw[<-e] at D;exact D
theorem Gy {row:Option Nat} {a:World} {g:Nat} (hp:row=some g\/a.heap.size<=g):∀(D:List Value) (o:Nat) (w:World),a.grownBy w row->a.grownBy (w.setCells g o D) row
 | [],_,_,h=>h
 |v :: r,o,w,h=>by rw[World.setCells];exact Gy hp r (o+1) _ (AU h (p:=⟨g,o,none⟩) hp v)
theorem Be (w:World) (g:Nat) (D:List Value):w.grownBy (w.setCells g 0 D) (some g):=Gy (.inl rfl) D 0 w (World.grownBy.refl _ _)
theorem No {w:World} {g:Nat} {c:Option L} (h:Cur w g c):g<w.heap.size:=Blk.lt h
theorem Ka {w w':World} {g q:Nat} {c:Option L} (h:Cur w g c) (E:w.grownBy w' (some q)) (D:q≠g):Cur w' g c:=Blk.grown h E (fun e=>D (by injection e))
theorem OS (g:Nat) (c:Option L) (w:World) (h:Cur w g c) (hs:((c.getD []).length:Int)<=100000):Calls Tryz.prog 190 #[.pointer (some ⟨g,0,none⟩)] w fun e w'=>
  (∃v,e=.returned v/\OwnB w' w.heap.size v (ocC c))/\Cur w' g (BN 4 c)/\w.grownBy w' (some g):=
 (Ed g c w h hs).mono fun e w' D=>by
  obtain⟨⟨b,cap,rfl,M,E⟩,F,J⟩:=D;exact⟨⟨_,rfl,OwnB.of_fresh E M⟩,F,J⟩
theorem FG (g:Nat) (c:Option L) (w:World) (h:Cur w g c) (hs:((c.getD []).length:Int)<=100000):Calls Tryz.prog 151 #[.pointer (some ⟨g,0,none⟩)] w fun e w'=>
 e=.returned (.string ⟨(txC c).toArray⟩)/\Cur w' g (BN 27 c)/\w.grownBy w' (some g):=Es g c w h hs
theorem IB (t:UInt8) {c:Option L} {n:Nat} (h:(c.getD []).length<=n):((BN t c).getD []).length<=n:=Nat.le_trans (Dj t c).2 h
theorem Np (t:UInt8) {c:Option L} {n:Nat} (h:(c.getD []).length<=n):((Bp t c).getD []).length<=n:=Nat.le_trans (Dj t c).1 h
theorem Qm {c:Option L} {n:Nat} (h:(c.getD []).length<=n):((intC c).2.getD []).length<=n:=Nat.le_trans (Xv c) h
theorem Hl (g:Nat) (c:Option L) (w:World) (h:Cur w g c) (hs:(c.getD []).length<=100000):Calls Tryz.prog 149 #[.pointer (some ⟨g,0,none⟩)] w fun e w'=>e=.returned (.agg #[.string ⟨(prQ c).1.1.toArray⟩,.string ⟨(prQ c).1.2.toArray⟩])/\Cur w' g (prQ c).2/\w.grownBy w' (some g):=by
 obtain⟨W,eW⟩:=Ak (w.alloc (.cells #[.string ⟨#[]⟩,.string ⟨#[]⟩] 23));have cg:W.heap.size=w.heap.size+1:=by rw[eW];simp
 have F:=I (show Blk W w.heap.size 23 #[.string ⟨#[]⟩,.string ⟨#[]⟩] by rw[eW];exact Blk.new _ _ _);have cj:=No h;have cf:Cur W g c:=by rw[eW];exact h.alloc _
 have Z:=I (show w.grownBy W (some g) by rw[eW];exact Jl (World.grownBy.refl _ _) _);have c1:=Ln 48 g c W cf (by omega);have bx:=Np 48 hs;obtain⟨s0,es0⟩:∃s,s=Bp 48 c:=⟨_,rfl⟩;obtain⟨r,er⟩:∃s,s=BN 48 c:=⟨_,rfl⟩;rw[<-es0] at c1 bx;rw[<-er] at c1;have J:=I cj;have bB:((BN 27 s0).getD []).length<=100000:=IB 27 bx;have T1:=I (fun g w h=>FG g s0 w h (by omega));obtain⟨v1,bz⟩:∃x:L,x=txC s0:=⟨_,rfl⟩;obtain⟨s1,N⟩:∃s,s=BN 27 s0:=⟨_,rfl⟩;rw[<-bz,<-N] at T1;rw[<-N] at bB;have cd:((BN 27 s1).getD []).length<=100000:=IB 27 bB;have T2:=I (fun g w h=>FG g s1 w h (by omega));obtain⟨v2,ca⟩:∃x:L,x=txC s1:=⟨_,rfl⟩;obtain⟨s2,aw⟩:∃s,s=BN 27 s1:=⟨_,rfl⟩;rw[<-ca,<-aw] at T2;rw[<-aw] at cd;have cc:=I (show(prQ c).1.1=v1 by rw[bz,es0];rfl);have cb:=I (show(prQ c).1.2=v2 by rw[ca,N,es0];rfl);have FS:=I (show(prQ c).2=r by rw[er];rfl);rw[cc.o,cb.o,FS.o];clear h hs bx bB cd cc bz N cb ca aw es0 FS cj er cf;have ck:=I cg;clear cg;subst eW;go_enter Tryz.func149,Tryz.ntmps149
 go_wp2_with (first
  |(go_at_call 148;refine Calls.mono c1 ?_;rintro e wi ⟨⟨gd,rfl,cm,M⟩,hc,D⟩;clear c1;have HD:=I M;have HC:=I hc;have E:=I (show w.heap.size+1<=gd by have:=ck.o;omega);have O:=I (No M);replace F:=I (F.o.grown D (by intro e;injection e with e;have:=J.o;omega));replace Z:=I (Yy Z.o D);clear cm M hc D)
  |(go_at_call 151;(with_reducible refine Calls.mono (T1.o _ _ HD.o) ?_);rintro e w1 ⟨rfl,M,D⟩;clear T1;replace HD:=I M;replace F:=I (F.o.grown D (by intro e;injection e with e;have:=E.o;omega));replace HC:=I (Ka HC.o D (by have:=E.o;have:=J.o;omega));replace Z:=I (UN Z.o D (by have:=E.o;omega));replace O:=I (Nat.lt_of_lt_of_le O.o D.size);clear M D)
  |(go_at_call 151;(with_reducible refine Calls.mono (T2.o _ _ HD.o) ?_);rintro e w2 ⟨rfl,M,D⟩;clear T2;replace HD:=I M;replace F:=I (F.o.grown D (by intro e;injection e with e;have:=E.o;omega));replace HC:=I (Ka HC.o D (by have:=E.o;have:=J.o;omega));replace Z:=I (UN Z.o D (by have:=E.o;omega));replace O:=I (Nat.lt_of_lt_of_le O.o D.size);clear M D;have n0:=F.c0;have y0:=F.o.frozen 0;have n1:=F.c1;have y1:=F.o.frozen 1)
  |fail)
 have hE:Blk ((w2.setCell ⟨w.heap.size,0,none⟩ (.string ⟨v1.toArray⟩)).setCell ⟨w.heap.size,1,none⟩ (.string ⟨v2.toArray⟩)) w.heap.size 23 #[.string ⟨v1.toArray⟩,.string ⟨v2.toArray⟩]:=((F.o.set 0 (.string ⟨v1.toArray⟩)).set 1 (.string ⟨v2.toArray⟩));have hp:=(AU (AU (World.grownBy.refl w2 (some w.heap.size)) (p:=⟨w.heap.size,0,none⟩) (.inl rfl) (.string ⟨v1.toArray⟩)) (p:=⟨w.heap.size,1,none⟩) (.inl rfl) (.string ⟨v2.toArray⟩));have hq:=Al (P:=Tryz.prog) hE Tryz.underlying23 rfl (by kernel_rfl);refine bodyPost_ret (v:=.agg #[.string ⟨v1.toArray⟩,.string ⟨v2.toArray⟩]) ?_ ?_ ?_
 ·exact AD 2 23 ⟨w.heap.size,0,none⟩ Tryz.results149 rfl hq
 ·rfl
 exact⟨rfl,Ka HC.o hp (by have:=J.o;omega),UN Z.o hp Ag⟩
theorem Ry (A:Option Addr) (b:L) (cap:Nat) (w:World) (h:Rd w w.heap.size A (bvs b)) (hs:b.length<=100000):Calls Tryz.prog 103 #[.slice A b.length cap] w fun e w'=>e=.returned (.agg #[.string ⟨(anQ b).1.c.1.toArray⟩,.string ⟨(anQ b).1.c.2.toArray⟩,.int .i64 (anQ b).1.t,.int .i64 (anQ b).1.q])/\Below w.heap.size w w':=by
 obtain⟨W,eW⟩:=Ak (w.alloc (.cells #[.string ⟨#[]⟩,.string ⟨#[]⟩,.int .i64 0,.int .i64 0] 42));have cn:W.heap.size=w.heap.size+1:=by rw[eW];simp
 have D:=I (show Blk W w.heap.size 42 #[.string ⟨#[]⟩,.string ⟨#[]⟩,.int .i64 0,.int .i64 0] by rw[eW];exact Blk.new _ _ _);have N:=I (show Below w.heap.size w W by rw[eW];exact Ah.alloc Ag _);have c0:=Ps w.heap.size A b b.length cap W (by rw[eW];exact h.alloc Ag _) rfl;have c1:=I (fun g w h=>Ln 98 g (some b) w h (by show((b.length:Int))<=100000;omega));have aw:((Bp 98 (some b)).getD []).length<=100000:=Np 98 (show((some b:Option L).getD []).length<=100000 from hs);obtain⟨s0,es0⟩:∃s,s=Bp 98 (some b):=⟨_,rfl⟩;rw[<-es0] at c1 aw;have cd:(((prQ s0).2).getD []).length<=100000:=IB 48 aw;have T1:=I (fun g w h=>Hl g s0 w h aw);obtain⟨v1,bB⟩:∃x:Pr,x=(prQ s0).1:=⟨_,rfl⟩;obtain⟨s1,O⟩:∃s,s=(prQ s0).2:=⟨_,rfl⟩;rw[<-bB,<-O] at T1;rw[<-O] at cd;have bx:(((intC s1).2).getD []).length<=100000:=Qm cd;have T2:=I (fun g w h=>DF g s1 w h (by omega));obtain⟨v2,cg⟩:∃x:Int,x=((intC s1).1:Int):=⟨_,rfl⟩;obtain⟨s2,Z⟩:∃s,s=(intC s1).2:=⟨_,rfl⟩;rw[<-cg,<-Z] at T2;rw[<-Z] at bx;have cm:(((intC s2).2).getD []).length<=100000:=Qm bx;have T3:=I (fun g w h=>DF g s2 w h (by omega));obtain⟨v3,cc⟩:∃x:Int,x=((intC s2).1:Int):=⟨_,rfl⟩;obtain⟨s3,bz⟩:∃s,s=(intC s2).2:=⟨_,rfl⟩;rw[<-cc,<-bz] at T3;rw[<-bz] at cm;have ck:=I (show(anQ b).1.c=v1 by rw[bB,es0];rfl);have cj:=I (show(anQ b).1.t=v2 by rw[cg,O,es0];rfl);have cq:=I (show(anQ b).1.q=v3 by rw[cc,Z,O,es0];rfl);rw[ck.o,cj.o,cq.o];clear h hs aw cd bx cm ck bB O cj cg Z cq cc bz es0;have ca:=I cn;clear cn;subst eW;go_enter Tryz.func103,Tryz.ntmps103
 go_wp2_with (first
  |(go_at_call 147;refine Calls.mono c0 ?_;rintro e wo ⟨go,rfl,cr,cp,hb⟩;clear c0;have HC:=I cp;have cb:=I (show w.heap.size+1<=go by have:=ca.o;omega);replace D:=I (D.o.below hb);replace N:=I (Ho N.o (by have:=ca.o;omega) hb);have cf:=I (show w.heap.size+1<=wo.heap.size by have:=hb.size;have:=ca.o;omega);clear cr cp hb)
  |(go_at_call 148;refine Calls.mono (c1.o _ _ HC.o) ?_;rintro e wi ⟨⟨gd,rfl,ct,M⟩,hc,J⟩;clear c1 HC;have HD:=I M;have E:=I (show w.heap.size+1<=gd by have:=cf.o;omega);have F:=I (No M);replace D:=I (D.o.grown J (by intro e;injection e with e;have:=cb.o;omega));replace N:=I (AJ N.o J (by have:=cf.o;omega) (by have:=cb.o;omega));clear ct M hc J cf cb)
  |(go_at_call 149;(with_reducible refine Calls.mono (T1.o _ _ HD.o) ?_);rintro e w1 ⟨rfl,M,J⟩;clear T1;replace HD:=I M;replace D:=I (D.o.grown J (by intro e;injection e with e;have:=E.o;omega));replace N:=I (AJ N.o J (by have:=E.o;have:=F.o;omega) (by have:=E.o;omega));replace F:=I (Nat.lt_of_lt_of_le F.o J.size);clear M J)
  |(go_at_call 152;(with_reducible refine Calls.mono (T2.o _ _ HD.o) ?_);rintro e w2 ⟨rfl,M,J⟩;clear T2;replace HD:=I M;replace D:=I (D.o.grown J (by intro e;injection e with e;have:=E.o;omega));replace N:=I (AJ N.o J (by have:=E.o;have:=F.o;omega) (by have:=E.o;omega));replace F:=I (Nat.lt_of_lt_of_le F.o J.size);clear M J)
  |(go_at_call 152;(with_reducible refine Calls.mono (T3.o _ _ HD.o) ?_);rintro e w3 ⟨rfl,M,J⟩;clear T3;replace HD:=I M;replace D:=I (D.o.grown J (by intro e;injection e with e;have:=E.o;omega));replace N:=I (AJ N.o J (by have:=E.o;have:=F.o;omega) (by have:=E.o;omega));replace F:=I (Nat.lt_of_lt_of_le F.o J.size);clear M J;have n0:=D.c0;have y0:=D.o.frozen 0;have n1:=D.c1;have y1:=D.o.frozen 1;have n2:=D.c2;have y2:=D.o.frozen 2;have n3:=D.c3;have y3:=D.o.frozen 3)
  |fail)
 have hE:Blk ((((w3.setCell ⟨w.heap.size,0,none⟩ (.string ⟨v1.1.toArray⟩)).setCell ⟨w.heap.size,1,none⟩ (.string ⟨v1.2.toArray⟩)).setCell ⟨w.heap.size,2,none⟩ (.int .i64 v2)).setCell ⟨w.heap.size,3,none⟩ (.int .i64 v3)) w.heap.size 42 #[.string ⟨v1.1.toArray⟩,.string ⟨v1.2.toArray⟩,.int .i64 v2,.int .i64 v3]:=((((D.o.set 0 (.string ⟨v1.1.toArray⟩)).set 1 (.string ⟨v1.2.toArray⟩)).set 2 (.int .i64 v2)).set 3 (.int .i64 v3));have hp:=(AU (AU (AU (AU (World.grownBy.refl w3 (some w.heap.size)) (p:=⟨w.heap.size,0,none⟩) (.inl rfl) (.string ⟨v1.1.toArray⟩)) (p:=⟨w.heap.size,1,none⟩) (.inl rfl) (.string ⟨v1.2.toArray⟩)) (p:=⟨w.heap.size,2,none⟩) (.inl rfl) (.int .i64 v2)) (p:=⟨w.heap.size,3,none⟩) (.inl rfl) (.int .i64 v3));have hq:=Al (P:=Tryz.prog) hE Tryz.underlying42 rfl (by kernel_rfl);refine bodyPost_ret (v:=.agg #[.string ⟨v1.1.toArray⟩,.string ⟨v1.2.toArray⟩,.int .i64 v2,.int .i64 v3]) ?_ ?_ ?_
 ·exact AD 2 42 ⟨w.heap.size,0,none⟩ Tryz.results103 rfl hq
 ·rfl
 exact⟨rfl,AJ N.o hp (by have:=D.o.lt;omega) Ag⟩
theorem aP:(Tryz.prog.info? 5).map (·.size)=some 1:=by kernel_rfl
theorem CZ:(Tryz.prog.info? 36).map (·.size)=some 32:=by kernel_rfl
theorem bvs_one' (l:L):(bvs l).toArray.all (·.oneCell')=true:=all_oneCell_toArray (Br l)
theorem Rz {W:World} {K b c:Nat} {t:TypeId} {x:L} (h:Blk W K t (bvs key0).toArray) (F:∀i u,(bvs x)[i]? = some u->W.cell? ⟨b,i,none⟩=some u) :
  (Builtin.copy_ #[27,27] 3 #[.slice (some ⟨K,0,none⟩) 32 32,.slice (some ⟨b,0,none⟩) x.length c]).run Tryz.prog W=.ok (goInt (bvs (x.take 32)).length) (W.setCells K 0 (bvs (x.take 32))):=by
 refine run_copy_cells (P:=Tryz.prog) W 27 27 3 5 K 0 32 32 ⟨b,0,none⟩ x.length c (bvs (x.take 32)) Tryz.underlying27 aP ?_ ?_ ?_ ?_ (Br _)
 ·rw[Ay,List.length_take];exact Nat.min_comm _ _
 ·intro j v E
  rw[addr_add,Nat.zero_add];apply F;have D:j<(bvs (x.take 32)).length:=(List.getElem?_eq_some_iff.1 E).1;rw[Ay,List.length_take] at D;rw[<-E];simp only[bvs,List.getElem?_map];rw[List.getElem?_take_of_lt (by omega)]
 ·intro j D
  rw[Ay,List.length_take] at D;exact(Ao h 32 (by simp [Ay,key0]) j (by omega)).1
 ·intro j D
  rw[Ay,List.length_take] at D;exact(Ao h 32 (by simp [Ay,key0]) j (by omega)).2
theorem OU (g:Nat) (c:Option L) (w:World) (h:Cur w g c) (hs:(c.getD []).length<=100000):Calls Tryz.prog 150 #[.pointer (some ⟨g,0,none⟩)] w fun e w'=>e=.returned (.agg (bvs (keQ c).1).toArray)/\Cur w' g (keQ c).2/\w.grownBy w' (some g):=by
 have ez:(bvs key0).toArray=#[.int .u8 0,.int .u8 0,.int .u8 0,.int .u8 0,.int .u8 0,.int .u8 0,.int .u8 0,.int .u8 0,.int .u8 0,.int .u8 0,.int .u8 0,.int .u8 0,.int .u8 0,.int .u8 0,.int .u8 0,.int .u8 0,.int .u8 0,.int .u8 0,.int .u8 0,.int .u8 0,.int .u8 0,.int .u8 0,.int .u8 0,.int .u8 0,.int .u8 0,.int .u8 0,.int .u8 0,.int .u8 0,.int .u8 0,.int .u8 0,.int .u8 0,.int .u8 0]:=by rfl
 have T1:=I (fun w1 (h:Cur w1 g c)=>OS g c w1 h (by omega));have E1:=I (show(keQ c).1=(ocC c++key0).take 32 from rfl);have E2:=I (show(keQ c).2=BN 4 c from rfl);rw[E1.o,E2.o];obtain⟨x,ex⟩:=Ak (ocC c);obtain⟨r,er⟩:=Ak (BN 4 c);rw[<-ex,<-er] at T1⊢;go_enter Tryz.func150,Tryz.ntmps150
 go_upto_region 2 with fail
 rw[<-ez];obtain⟨W,Z⟩:=Ak ((w.alloc (.cells (bvs key0).toArray 36)).alloc (.cells (bvs key0).toArray 36));have hq:=Blk.new (w.alloc (.cells (bvs key0).toArray 36)) 36 (bvs key0).toArray;rw[show(w.alloc (.cells (bvs key0).toArray 36)).heap.size=w.heap.size+1 by simp,<-Z] at hq;have J:=I (show Blk W w.heap.size 36 (bvs key0).toArray by rw[Z];exact(Blk.new _ _ _).alloc _);have N:=I (show Cur W g c by rw[Z];exact(h.alloc _).alloc _);have M:=I (show w.grownBy W (some g) by rw[Z];exact Jl (Jl (World.grownBy.refl _ _) _) _);have F:=I (No h);have E:=I hq;rw[<-Z];clear Z ez hq h hs E1 E2 ex er;replace J:=I (show Blk W.drew _ _ _ from J.o.drewN 1);replace E:=I (show Blk W.drew _ _ _ from E.o.drewN 1);replace N:=I (show Cur W.drew g c from Blk.drewN N.o 1);replace M:=I (show w.grownBy W.drew (some g) from Jk M.o 1)
 go_region_held3 (fun w'=>True) (trivial) ((go_at_call 190;refine Calls.mono (T1.o _ N.o) ?_;rintro e w1 ⟨⟨v,rfl,ho⟩,hd,hg⟩;obtain⟨b,cp,rfl,x1,x2,x3,x4⟩:=ho;clear T1;replace N:=I hd;replace J:=I (J.o.grown hg (by intro e;injection e with e;have:=F.o;omega));replace E:=I (E.o.grown hg (by intro e;injection e with e;have:=F.o;omega));replace M:=I (Yy M.o hg);have aw:=Rz (c:=cp) E.o x4;clear hd hg x1 x2 x3 x4))
 have D:(bvs ((x++key0).take 32)).toArray.size=32:=by simp [Ay,key0]
 have hp:=Gy (a:=w1) (.inl rfl:some (w.heap.size+1)=some (w.heap.size+1)\/_) (bvs (x.take 32)) 0 w1 (World.grownBy.refl _ _);replace E:=I (Rx (x:=x) E.o);have HO:=I (bvs_one' ((x++key0).take 32));obtain⟨ks,O⟩:=Ak ((bvs ((x++key0).take 32)).toArray);rw[<-O] at E D HO;obtain⟨V,eV⟩:=Ak (w1.setCells (w.heap.size+1) 0 (bvs (x.take 32)));rw[<-eV] at E hp⊢;replace J:=I (J.o.grown hp (by intro e;injection e with e;omega));replace N:=I (Ka N.o hp (by have:=F.o;omega));replace M:=I (UN M.o hp (by omega));have HI:=I (show(Tryz.prog.info? 36).map (·.size)=some ks.size by rw[D];exact CZ);have HT:=I (Ao J.o ks.size (by rw[D];simp [Ay,key0]));have EK:=I O;have HS:=I D;clear aw eV hp O D
 go_wp2_with (first
  |(refine Am (by rfl) 36 (.tmp 3) (by rfl) (w.heap.size+1) 0 (by rfl) ks _ (Ae E.o) Tryz.underlying36 (by rfl) HI.o ?_)
  |(refine wpList_store_mid (by rfl) 36 (.tmp 2) (.tmp 8) (by rfl) w.heap.size 0 ks (by rfl) (by rfl) HT.o HI.o HO.o ?_)
  |fail)
 have hE:=AS (ds:=ks) J.o (by rw[HS.o];simp [Ay,key0]);have hp:=Be V w.heap.size ks.toList;have hq:=Al (P:=Tryz.prog) hE Tryz.underlying36 rfl HI.o;refine bodyPost_ret (v:=.agg ks) ?_ ?_ ?_
 ·exact AD 2 36 ⟨w.heap.size,0,none⟩ Tryz.results150 rfl hq
 ·rfl
 exact⟨by rw[EK.o],Ka N.o hp (by have:=F.o;omega),UN M.o hp Ag⟩
theorem AN {P:Program} {ops:Array Oper} {rest:List Oper} {o:Oper} {a:Act} {w:World} {Q:Exit->Act->World->Prop} (F:o.guard=none) (t:TypeId) (parts:Array (Nat×Operand)) (E:o.op=.build t parts)
  (cells:Array Value) (D:P.built t (parts.map fun(i,x)=>(i,a.eval x)).toList=some cells) (h:wpList P ops Q rest (a.put o.dst (.agg cells)) w):wpList P ops Q (o :: rest) a w:=
 wpList_build F t parts E (by rw[D];rfl) (by rw[D];exact h)
theorem len32 {v:L} (h:v.length=32):∃k0 k1 k2 k3 k4 k5 k6 k7 k8 k9 ca cg E bz cb D k16 Z cd cj ck O N J F bx bB cf cm M aw cc:UInt8,v = [k0,k1,k2,k3,k4,k5,k6,k7,k8,k9,ca,cg,E,bz,cb,D,k16,Z,cd,cj,ck,O,N,J,F,bx,bB,cf,cm,M,aw,cc]:=by
 rcases v with _ | ⟨k0,v⟩
 ·simp at h
 rcases v with _ | ⟨k1,v⟩
 ·simp at h
 rcases v with _ | ⟨k2,v⟩
 ·simp at h
 rcases v with _ | ⟨k3,v⟩
 ·simp at h
 rcases v with _ | ⟨k4,v⟩
 ·simp at h
 rcases v with _ | ⟨k5,v⟩
 ·simp at h
 rcases v with _ | ⟨k6,v⟩
 ·simp at h
 rcases v with _ | ⟨k7,v⟩
 ·simp at h
 rcases v with _ | ⟨k8,v⟩
 ·simp at h
 rcases v with _ | ⟨k9,v⟩
 ·simp at h
 rcases v with _ | ⟨ca,v⟩
 ·simp at h
 rcases v with _ | ⟨cg,v⟩
 ·simp at h
 rcases v with _ | ⟨E,v⟩
 ·simp at h
 rcases v with _ | ⟨bz,v⟩
 ·simp at h
 rcases v with _ | ⟨cb,v⟩
 ·simp at h
 rcases v with _ | ⟨D,v⟩
 ·simp at h
 rcases v with _ | ⟨k16,v⟩
 ·simp at h
 rcases v with _ | ⟨Z,v⟩
 ·simp at h
 rcases v with _ | ⟨cd,v⟩
 ·simp at h
 rcases v with _ | ⟨cj,v⟩
 ·simp at h
 rcases v with _ | ⟨ck,v⟩
 ·simp at h
 rcases v with _ | ⟨O,v⟩
 ·simp at h
 rcases v with _ | ⟨N,v⟩
 ·simp at h
 rcases v with _ | ⟨J,v⟩
 ·simp at h
 rcases v with _ | ⟨F,v⟩
 ·simp at h
 rcases v with _ | ⟨bx,v⟩
 ·simp at h
 rcases v with _ | ⟨bB,v⟩
 ·simp at h
 rcases v with _ | ⟨cf,v⟩
 ·simp at h
 rcases v with _ | ⟨cm,v⟩
 ·simp at h
 rcases v with _ | ⟨M,v⟩
 ·simp at h
 rcases v with _ | ⟨aw,v⟩
 ·simp at h
 rcases v with _ | ⟨cc,v⟩
 ·simp at h
 rcases v with _ | ⟨x,v⟩
 ·exact⟨k0,k1,k2,k3,k4,k5,k6,k7,k8,k9,ca,cg,E,bz,cb,D,k16,Z,cd,cj,ck,O,N,J,F,bx,bB,cf,cm,M,aw,cc,rfl⟩
 ·simp at h
theorem UO (c:Pr) (k tr:L) (st en:Int) (hk:k.length=32):Tryz.prog.built 40 [(0,.agg #[.string ⟨c.1.toArray⟩,.string ⟨c.2.toArray⟩]),(1,.agg (bvs k).toArray),(2,.string ⟨tr.toArray⟩),(3,.int .i64 st),(4,.int .i64 en)]=some (ptC ⟨c,k,tr,st,en⟩).toArray:=by
 obtain⟨k0,k1,k2,k3,k4,k5,k6,k7,k8,k9,ca,cg,E,bz,cb,D,k16,Z,cd,ck,cm,O,N,J,F,bx,bB,cf,cj,M,aw,cc,rfl⟩:=len32 hk
 kernel_rfl
theorem LQ (c:Pr) (k tr:L) (st en:Int):(ptC ⟨c,k,tr,st,en⟩).toArray.all (·.oneCell')=true:=all_oneCell_toArray fun v D=>by
 simp only[ptC,prC,List.mem_append,List.mem_cons,List.not_mem_nil,or_false] at D;rcases D with(rfl | rfl) | D | rfl | rfl | rfl
 ·rfl
 ·rfl
 ·exact Br _ v D
 ·rfl
 ·rfl
 ·rfl
theorem RA (A:Option Addr) (b:L) (cap:Nat) (w:World) (h:Rd w w.heap.size A (bvs b)) (hs:b.length<=100000):Calls Tryz.prog 101 #[.slice A b.length cap] w fun e w'=>e=.returned (.agg (ptC (ptQ b).1).toArray)/\Below w.heap.size w w':=by
 obtain⟨zz,cg⟩:∃z:Array Value,z=#[.string ⟨#[]⟩,.string ⟨#[]⟩,.int .u8 0,.int .u8 0,.int .u8 0,.int .u8 0,.int .u8 0,.int .u8 0,.int .u8 0,.int .u8 0,.int .u8 0,.int .u8 0,.int .u8 0,.int .u8 0,.int .u8 0,.int .u8 0,.int .u8 0,.int .u8 0,.int .u8 0,.int .u8 0,.int .u8 0,.int .u8 0,.int .u8 0,.int .u8 0,.int .u8 0,.int .u8 0,.int .u8 0,.int .u8 0,.int .u8 0,.int .u8 0,.int .u8 0,.int .u8 0,.int .u8 0,.int .u8 0,.string ⟨#[]⟩,.int .i64 0,.int .i64 0]:=⟨_,rfl⟩;have cy:=I (show zz.size=37 by rw[cg];simp);obtain⟨W,eW⟩:=Ak (w.alloc (.cells zz 40));have cL:W.heap.size=w.heap.size+1:=by rw[eW];simp
 have M:=I (show Blk W w.heap.size 40 zz by rw[eW];exact Blk.new _ _ _);have N:=I (show Below w.heap.size w W by rw[eW];exact Ah.alloc Ag _);have c0:=Ps w.heap.size A b b.length cap W (by rw[eW];exact h.alloc Ag _) rfl;have c1:=I (fun g w h=>Ln 99 g (some b) w h (by show((b.length:Int))<=100000;omega));have bz:((Bp 99 (some b)).getD []).length<=100000:=Np 99 (show((some b:Option L).getD []).length<=100000 from hs);obtain⟨s0,es0⟩:∃s,s=Bp 99 (some b):=⟨_,rfl⟩;rw[<-es0] at c1 bz;have cd:(((prQ s0).2).getD []).length<=100000:=IB 48 bz;have T1:=I (fun g w h=>Hl g s0 w h bz);obtain⟨v1,ck⟩:∃x:Pr,x=(prQ s0).1:=⟨_,rfl⟩;obtain⟨s1,bB⟩:∃s,s=(prQ s0).2:=⟨_,rfl⟩;rw[<-ck,<-bB] at T1;rw[<-bB] at cd;have cj:(((keQ s1).2).getD []).length<=100000:=IB 4 cd;have T2:=I (fun g w h=>OU g s1 w h cd);have hk:=UL s1;obtain⟨v2,cf⟩:∃x:L,x=(keQ s1).1:=⟨_,rfl⟩;obtain⟨s2,bx⟩:∃s,s=(keQ s1).2:=⟨_,rfl⟩;rw[<-cf,<-bx] at T2;rw[<-cf] at hk;rw[<-bx] at cj;have cm:((BN 27 s2).getD []).length<=100000:=IB 27 cj;have T3:=I (fun g w h=>FG g s2 w h (by omega));obtain⟨v3,cr⟩:∃x:L,x=txC s2:=⟨_,rfl⟩;obtain⟨s3,ca⟩:∃s,s=BN 27 s2:=⟨_,rfl⟩;rw[<-cr,<-ca] at T3;rw[<-ca] at cm;have cw:(((intC s3).2).getD []).length<=100000:=Qm cm;have T4:=I (fun g w h=>DF g s3 w h (by omega));obtain⟨v4,cn⟩:∃x:Int,x=((intC s3).1:Int):=⟨_,rfl⟩;obtain⟨s4,cb⟩:∃s,s=(intC s3).2:=⟨_,rfl⟩;rw[<-cn,<-cb] at T4;rw[<-cb] at cw;have cR:(((intC s4).2).getD []).length<=100000:=Qm cw;have T5:=I (fun g w h=>DF g s4 w h (by omega));obtain⟨v5,ct⟩:∃x:Int,x=((intC s4).1:Int):=⟨_,rfl⟩;obtain⟨s5,cx⟩:∃s,s=(intC s4).2:=⟨_,rfl⟩;rw[<-ct,<-cx] at T5;rw[<-cx] at cR;have FV:(ptQ b).1=⟨v1,v2,v3,v4,v5⟩:=by rw[ck,cf,cr,cn,ct,cb,ca,bx,bB,es0];rfl
 rw[FV];have cc:=UO v1 v2 v3 v4 v5 hk;have aw:(ptC ⟨v1,v2,v3,v4,v5⟩).toArray.size=37:=FB hk;have O:(ptC ⟨v1,v2,v3,v4,v5⟩).toArray.all (·.oneCell')=true:=LQ v1 v2 v3 v4 v5;obtain⟨ks,cQ⟩:=Ak ((bvs v2).toArray);rw[<-cQ] at cc T2;obtain⟨cs,cA⟩:=Ak ((ptC ⟨v1,v2,v3,v4,v5⟩).toArray);rw[<-cA] at cc aw O⊢;have eb:=I cc;have cB:=I aw;have HO:=I O;have HI:=I (show(Tryz.prog.info? 40).map (·.size)=some cs.size by rw[aw];kernel_rfl);clear h hs hk cc aw O cQ cA FV es0 bz cd cj cm cw cR ck bB cf bx cr ca cn cb ct cx;have cp:=I cL;clear cL;go_enter Tryz.func101,Tryz.ntmps101
 go_upto_region 1 with fail
 rw[<-cg,<-eW];clear cg eW
 go_wp2_with (first
  |(go_at_call 147;refine Calls.mono c0 ?_;rintro e wo ⟨go,rfl,ea,cP,hb⟩;clear c0;have HC:=I cP;have cq:=I (show w.heap.size+1<=go by have:=cp.o;omega);replace M:=I (M.o.below hb);replace N:=I (Ho N.o (by have:=cp.o;omega) hb);have cu:=I (show w.heap.size+1<=wo.heap.size by have:=hb.size;have:=cp.o;omega);clear ea cP hb)
  |(go_at_call 148;refine Calls.mono (c1.o _ _ HC.o) ?_;rintro e wi ⟨⟨gd,rfl,ec,J⟩,hc,F⟩;clear c1 HC;have Z:=I J;have D:=I (show w.heap.size+1<=gd by have:=cu.o;omega);have E:=I (No J);replace M:=I (M.o.grown F (by intro e;injection e with e;have:=cq.o;omega));replace N:=I (AJ N.o F (by have:=cu.o;omega) (by have:=cq.o;omega));clear ec J hc F cu cq)
  |(go_at_call 149;(with_reducible refine Calls.mono (T1.o _ _ Z.o) ?_);rintro e w1 ⟨rfl,J,F⟩;clear T1;replace Z:=I J;replace M:=I (M.o.grown F (by intro e;injection e with e;have:=D.o;omega));replace N:=I (AJ N.o F (by have:=D.o;have:=E.o;omega) (by have:=D.o;omega));replace E:=I (Nat.lt_of_lt_of_le E.o F.size);clear J F)
  |(go_at_call 150;(with_reducible refine Calls.mono (T2.o _ _ Z.o) ?_);rintro e w2 ⟨rfl,J,F⟩;clear T2;replace Z:=I J;replace M:=I (M.o.grown F (by intro e;injection e with e;have:=D.o;omega));replace N:=I (AJ N.o F (by have:=D.o;have:=E.o;omega) (by have:=D.o;omega));replace E:=I (Nat.lt_of_lt_of_le E.o F.size);clear J F)
  |(go_at_call 151;(with_reducible refine Calls.mono (T3.o _ _ Z.o) ?_);rintro e w3 ⟨rfl,J,F⟩;clear T3;replace Z:=I J;replace M:=I (M.o.grown F (by intro e;injection e with e;have:=D.o;omega));replace N:=I (AJ N.o F (by have:=D.o;have:=E.o;omega) (by have:=D.o;omega));replace E:=I (Nat.lt_of_lt_of_le E.o F.size);clear J F)
  |(go_at_call 152;(with_reducible refine Calls.mono (T4.o _ _ Z.o) ?_);rintro e w4 ⟨rfl,J,F⟩;clear T4;replace Z:=I J;replace M:=I (M.o.grown F (by intro e;injection e with e;have:=D.o;omega));replace N:=I (AJ N.o F (by have:=D.o;have:=E.o;omega) (by have:=D.o;omega));replace E:=I (Nat.lt_of_lt_of_le E.o F.size);clear J F)
  |(go_at_call 152;(with_reducible refine Calls.mono (T5.o _ _ Z.o) ?_);rintro e w5 ⟨rfl,J,F⟩;clear T5;replace Z:=I J;replace M:=I (M.o.grown F (by intro e;injection e with e;have:=D.o;omega));replace N:=I (AJ N.o F (by have:=D.o;have:=E.o;omega) (by have:=D.o;omega));replace E:=I (Nat.lt_of_lt_of_le E.o F.size);clear J F)
  |(refine AN (by rfl) 40 #[(0,.tmp 8),(1,.tmp 10),(2,.tmp 12),(3,.tmp 14),(4,.tmp 16)] (by rfl) cs (by simp only[List.map_toArray,List.map_cons,List.map_nil];exact eb.o) ?_)
  |(refine wpList_store_mid (by rfl) 40 (.tmp 2) (.tmp 17) (by rfl) w.heap.size 0 cs (by rfl) (by rfl) (Ao M.o _ (by have:=cy.o;have:=cB.o;omega)) HI.o HO.o ?_)
  |fail)
 have hE:=AS (ds:=cs) M.o (by have:=cy.o;have:=cB.o;omega);have hp:=Be w5 w.heap.size cs.toList;have hq:=Al (P:=Tryz.prog) hE Tryz.underlying40 rfl HI.o;refine bodyPost_ret (v:=.agg cs) ?_ ?_ ?_
 ·exact AD 2 40 ⟨w.heap.size,0,none⟩ Tryz.results101 rfl hq
 ·rfl
 exact⟨rfl,AJ N.o hp (by have:=M.o.lt;omega) Ag⟩
def AsV (cs:Array Value) (q:As):Prop:=cs=(asC q).toArray
def FaV (cs:Array Value) (q:Fa):Prop:=cs=(faC q).toArray
def TgV (w:World) (B:Nat) (cs:Array Value) (q:Tg):Prop:=∃b a,cs=(tgC q b a).toArray/\SlB w B b q.t.b/\SlB w B a q.a
def ReV (w:World) (B:Nat) (cs:Array Value) (q:Re):Prop:=∃b a,cs=(reC q b a).toArray/\SlB w B b q.t.b/\SlB w B a q.b
def ApV (w:World) (B:Nat) (cs:Array Value) (q:Ap):Prop:=∃b a,cs=(apC q b a).toArray/\SlB w B b q.t.b/\SlB w B a q.a
section
variable {w w':World} {B B':Nat} {cs:Array Value}
theorem TgV.keep {q:Tg} (h:TgV w B cs q) (D:Below B w w'):TgV w' B cs q:=by obtain⟨b,a,E,F,J⟩:=h;exact⟨b,a,E,F.keep D,J.keep D⟩
theorem ReV.keep {q:Re} (h:ReV w B cs q) (D:Below B w w'):ReV w' B cs q:=by obtain⟨b,a,E,F,J⟩:=h;exact⟨b,a,E,F.keep D,J.keep D⟩
theorem ApV.keep {q:Ap} (h:ApV w B cs q) (D:Below B w w'):ApV w' B cs q:=by obtain⟨b,a,E,F,J⟩:=h;exact⟨b,a,E,F.keep D,J.keep D⟩
theorem TgV.more {q:Tg} (h:TgV w B cs q) (hB:B<=B'):TgV w B' cs q:=by obtain⟨b,a,D,E,F⟩:=h;exact⟨b,a,D,E.more hB,F.more hB⟩
theorem ReV.more {q:Re} (h:ReV w B cs q) (hB:B<=B'):ReV w B' cs q:=by obtain⟨b,a,D,E,F⟩:=h;exact⟨b,a,D,E.more hB,F.more hB⟩
theorem ApV.more {q:Ap} (h:ApV w B cs q) (hB:B<=B'):ApV w B' cs q:=by obtain⟨b,a,D,E,F⟩:=h;exact⟨b,a,D,E.more hB,F.more hB⟩
theorem Im {v:Value} {l:L} (h:SlB w B v l):v.oneCell'=true:=by obtain⟨A,c,rfl,_⟩:=h;rfl
theorem AsV.size {q:As} (h:AsV cs q):cs.size=6:=by rw[h];rfl
theorem FaV.size {q:Fa} (h:FaV cs q):cs.size=2:=by rw[h];rfl
theorem TgV.size {q:Tg} (h:TgV w B cs q):cs.size=9:=by obtain⟨b,a,D,_⟩:=h;rw[D];rfl
theorem ReV.size {q:Re} (h:ReV w B cs q):cs.size=7:=by obtain⟨b,a,D,_⟩:=h;rw[D];rfl
theorem ApV.size {q:Ap} (h:ApV w B cs q):cs.size=5:=by obtain⟨b,a,D,_⟩:=h;rw[D];rfl
def One (cs:Array Value):Prop:=cs.all (·.oneCell')=true
theorem AsV.one {q:As} (h:AsV cs q):One cs:=by
 rw[h];refine all_oneCell_toArray fun v D=>?_
 simp only[asC,List.mem_cons,List.not_mem_nil,or_false] at D;rcases D with rfl | rfl | rfl | rfl | rfl | rfl<;>rfl
theorem FaV.one {q:Fa} (h:FaV cs q):One cs:=by
 rw[h];refine all_oneCell_toArray fun v D=>?_
 simp only[faC,List.mem_cons,List.not_mem_nil,or_false] at D;rcases D with rfl | rfl<;>rfl
theorem TgV.one {q:Tg} (h:TgV w B cs q):One cs:=by
 obtain⟨b,a,E,F,J⟩:=h;rw[E];refine all_oneCell_toArray fun v D=>?_
 simp only[tgC,tkC,List.mem_append,List.mem_cons,List.not_mem_nil,or_false] at D;rcases D with(rfl | rfl | rfl | rfl) | rfl | rfl | rfl | rfl | rfl
 all_goals first | rfl | exact Im F | exact Im J
theorem ReV.one {q:Re} (h:ReV w B cs q):One cs:=by
 obtain⟨b,a,E,F,J⟩:=h;rw[E];refine all_oneCell_toArray fun v D=>?_
 simp only[reC,prC,tkC,List.mem_append,List.mem_cons,List.not_mem_nil,or_false] at D;rcases D with(rfl | rfl) | (rfl | rfl | rfl | rfl) | rfl
 all_goals first | rfl | exact Im F | exact Im J
theorem ApV.one {q:Ap} (h:ApV w B cs q):One cs:=by
 obtain⟨b,a,E,F,J⟩:=h;rw[E];refine all_oneCell_toArray fun v D=>?_
 simp only[apC,tkC,List.mem_append,List.mem_cons,List.not_mem_nil,or_false] at D;rcases D with(rfl | rfl | rfl | rfl) | rfl
 all_goals first | rfl | exact Im F | exact Im J
end
def mgA (k:Int) (pa pt pr pp pf:Array Value):Array Value:=(Value.int .i64 k :: (pa.toList++(pt.toList++(pr.toList++(pp.toList++pf.toList))))).toArray
structure MgP (w:World) (B:Nat) (pa pt pr pp pf:Array Value) (m:Mg):Prop where
 a:AsV pa m.aq
 t:TgV w B pt m.tg
 r:ReV w B pr m.re
 p:ApV w B pp m.ap
 f:FaV pf m.fa
def MgV (w:World) (B:Nat) (cs:Array Value) (m:Mg):Prop:=∃pa pt pr pp pf,cs=mgA m.k pa pt pr pp pf/\MgP w B pa pt pr pp pf m
section
variable {w w':World} {B B':Nat} {cs pa pt pr pp pf:Array Value} {m:Mg}
theorem MgP.keep (h:MgP w B pa pt pr pp pf m) (D:Below B w w'):MgP w' B pa pt pr pp pf m:=⟨h.a,h.t.keep D,h.r.keep D,h.p.keep D,h.f⟩
theorem MgP.more (h:MgP w B pa pt pr pp pf m) (hB:B<=B'):MgP w B' pa pt pr pp pf m:=⟨h.a,h.t.more hB,h.r.more hB,h.p.more hB,h.f⟩
theorem MgV.keep (h:MgV w B cs m) (D:Below B w w'):MgV w' B cs m:=by obtain⟨pa,pt,pr,pp,pf,E,F⟩:=h;exact⟨pa,pt,pr,pp,pf,E,F.keep D⟩
theorem MgV.more (h:MgV w B cs m) (hB:B<=B'):MgV w B' cs m:=by obtain⟨pa,pt,pr,pp,pf,D,E⟩:=h;exact⟨pa,pt,pr,pp,pf,D,E.more hB⟩
theorem MgP.sizes (h:MgP w B pa pt pr pp pf m):pa.size=6/\pt.size=9/\pr.size=7/\pp.size=5/\pf.size=2:=⟨h.a.size,h.t.size,h.r.size,h.p.size,h.f.size⟩
theorem MgP.size (h:MgP w B pa pt pr pp pf m) (k:Int):(mgA k pa pt pr pp pf).size=30:=by
 obtain⟨D,F,E,J,M⟩:=h.sizes;simp [mgA,D,F,E,J,M]
theorem MgP.one (h:MgP w B pa pt pr pp pf m) (k:Int):One (mgA k pa pt pr pp pf):=by
 refine all_oneCell_toArray fun v D=>?_
 simp only[List.mem_cons,List.mem_append] at D;have key:∀{cs:Array Value},One cs->v∈cs.toList->v.oneCell'=true:=fun E F=>Array.all_eq_true_iff_forall_mem.1 E v (by simpa using F)
 rcases D with rfl | D | D | D | D | D
 ·rfl
 ·exact key h.a.one D
 ·exact key h.t.one D
 ·exact key h.r.one D
 ·exact key h.p.one D
 ·exact key h.f.one D
theorem CU {g:Nat} {t:TypeId} {pre mid post:List Value} (h:Blk w g t cs) (F:cs.toList=pre++(mid++post)) (o:Nat) (E:o=pre.length):w.rangeAt g o mid:=fun j v D=>by
 subst E;have J:j<mid.length:=(List.getElem?_eq_some_iff.1 D).1;rw[h.cell,<-Array.getElem?_toList,F,List.getElem?_append_right (by omega),Nat.add_sub_cancel_left,List.getElem?_append_left J];exact D
structure At (w:World) (g:Nat) (k:Int) (pa pt pr pp pf:Array Value):Prop where
 k:w.cell? ⟨g,0,none⟩=some (.int .i64 k)
 a:w.rangeAt g 1 pa.toList
 t:w.rangeAt g 7 pt.toList
 r:w.rangeAt g 16 pr.toList
 p:w.rangeAt g 23 pp.toList
 f:w.rangeAt g 28 pf.toList
theorem MgP.at_ (h:MgP w' B pa pt pr pp pf m) {g:Nat} {k:Int} {t:TypeId} (D:Blk w g t (mgA k pa pt pr pp pf)):At w g k pa pt pr pp pf:=by
 obtain⟨E,F,J,M,N⟩:=h.sizes;refine⟨by rw[D.cell];rfl,?_,?_,?_,?_,?_⟩
 ·exact CU (pre:=[.int .i64 k]) (post:=pt.toList++(pr.toList++(pp.toList++pf.toList))) D (by simp [mgA]) 1 rfl
 ·exact CU (pre:=.int .i64 k :: pa.toList) (post:=pr.toList++(pp.toList++pf.toList)) D (by simp [mgA]) 7 (by simp [E])
 ·exact CU (pre:=.int .i64 k :: (pa.toList++pt.toList)) (post:=pp.toList++pf.toList) D (by simp [mgA]) 16 (by simp [E,F])
 ·exact CU (pre:=.int .i64 k :: (pa.toList++(pt.toList++pr.toList))) (post:=pf.toList) D (by simp [mgA]) 23 (by simp [E,F,J])
 ·exact CU (pre:=.int .i64 k :: (pa.toList++(pt.toList++(pr.toList++pp.toList)))) (post:=[]) D (by simp [mgA]) 28 (by simp [E,F,J,M])
end
theorem Cl:(Tryz.prog.info? 86).map (·.size)=some 6:=by kernel_rfl
theorem Bh:(Tryz.prog.info? 31).map (·.size)=some 9:=by kernel_rfl
theorem AM:(Tryz.prog.info? 44).map (·.size)=some 7:=by kernel_rfl
theorem DZ:(Tryz.prog.info? 88).map (·.size)=some 5:=by kernel_rfl
theorem FH:(Tryz.prog.info? 90).map (·.size)=some 2:=by kernel_rfl
theorem DJ:(Tryz.prog.info? 92).map (·.size)=some 30:=by kernel_rfl
theorem Au {P:Program} {ops:Array Oper} {rest:List Oper} {op:Oper} {a:Act} {w:World} {Q:Exit->Act->World->Prop} (hw:Region.wanted op (yielded ops a.tmps)=true) (ty:TypeId) (x:Operand) (F:op.op=.load ty x)
  (g o:Nat) (D:a.eval x=.pointer (some ⟨g,o,none⟩)) (cs:Array Value) (d:TypeDesc) (M:w.rangeAt g o cs.toList)
  (hu:P.underlying ty=some d) (J:d.isRow=true) (hi:(P.info? ty).map (·.size)=some cs.size)
  (h:wpList P ops Q rest (a.put op.dst (.agg cs)) w):wpList P ops Q (op :: rest) a w:=
 BigFrame.wpList_want hw fun _ E=>wp_load_mid ty x F g o D cs.toList d M hu J (by rw[Array.length_toList];exact hi) (by simpa using E _ _ h)
theorem Kb {w:World} {g o:Nat} {t:TypeId} {cs ps ds:Array Value} {pre mid post:List Value} (h:Blk w g t cs) (F:cs.toList=pre++(mid++post)) (N:o=pre.length) (hm:mid.length=ps.size) (O:ds=(pre++(ps.toList++post)).toArray):Blk (w.setCells g o ps.toList) g t ds:=by
 subst N;have hs:cs.size=pre.length+(mid.length+post.length):=by rw[<-Array.length_toList,F];simp
 obtain⟨es,J,Z,M,E⟩:=BV ps.toList pre.length w cs h (by simp;omega);have e:es=ds:=by
  apply Array.ext_getElem?;intro i;rw[O,show(pre++(ps.toList++post)).toArray[i]? = (pre++(ps.toList++post))[i]? by simp];have D:∀i,cs[i]? = (pre++(mid++post))[i]?:=fun i=>by rw[<-F,Array.getElem?_toList]
  by_cases hi:i<pre.length
  ·rw[E i (.inl hi),D,List.getElem?_append_left hi,List.getElem?_append_left hi]
  ·by_cases hj:i<pre.length+ps.size
   ·rw[M i (by omega) (by simpa using hj),List.getElem?_append_right (by omega),List.getElem?_append_left (by simp;omega)]
   ·rw[E i (.inr (by simp;omega)),D,List.getElem?_append_right (by omega),List.getElem?_append_right (by omega),List.getElem?_append_right (by omega),List.getElem?_append_right (by simp;omega),hm]
    simp
 rw[<-e];exact J
theorem CV {w:World} {g:Nat} {t:TypeId} {cs:Array Value} (h:Blk w g t cs) (o n:Nat) (D:o+n<=cs.size):w.there g o n:=fun j E=>by
 rw[h.cell,Array.getElem?_eq_getElem (by omega)];exact⟨rfl,h.frozen _⟩
theorem EE (w:World) (g o:Nat) (D:List Value):w.grownBy (w.setCells g o D) (some g):=Gy (.inl rfl) D o w (World.grownBy.refl _ _)
theorem BD (w:World) (t:TypeId) (lit cs:Array Value) (hs:lit.size=cs.size):Blk ((w.alloc (.cells lit t)).setCells w.heap.size 0 cs.toList) w.heap.size t cs/\Below w.heap.size w ((w.alloc (.cells lit t)).setCells w.heap.size 0 cs.toList):=
 ⟨AS (Blk.new w t lit) hs,AJ ((Below.refl w.heap.size w).alloc Ag _) (Be _ _ _) (by simp) Ag⟩
theorem Yz {c:Option L} (h:(c.getD []).length<=100000):pSm (prQ c).1:=by
 have D:=(Dj 27 (Bp 48 c)).1;have J:=(Dj 27 (Bp 48 c)).2;have F:=(Dj 27 (BN 27 (Bp 48 c))).1;have E:=(Dj 48 c).1;exact⟨by show((Bp 27 (Bp 48 c)).getD []).length<=1000000000;omega,by show((Bp 27 (BN 27 (Bp 48 c))).getD []).length<=1000000000;omega⟩
theorem dF {c:Option L} (h:(c.getD []).length<=100000):(txC c).length<=100000:=Nat.le_trans (Dj 27 c).1 h
theorem OV (a:An):(anC a).toArray.all (·.oneCell')=true:=all_oneCell_toArray fun v D=>by
 simp only[anC,prC,List.mem_append,List.mem_cons,List.not_mem_nil,or_false] at D;rcases D with(rfl | rfl) | rfl | rfl<;>rfl
def ptG (b:L):Pt:=(ptD b).getD pt0
def ptI (b:L):Int:=if (ptD b).isSome then 0 else 2
theorem OW (b:L):(ptG b).ss.length=32:=by
 unfold ptG;rw[UM]
 split
 ·exact LO b
 ·rfl
theorem UP (A:Option Addr) (b:L) (c:Nat) (w:World) (hr:Rd w w.heap.size A (bvs b)):Calls Tryz.prog 102 #[.slice A b.length c,.func (.func 103) #[] #[],.func (.func 104) #[] #[]] w fun e w'=>e=.returned (.tuple #[.agg (anC (anG b)).toArray,.int .i64 (anI b)])/\Below w.heap.size w w':=by
 obtain⟨E,N⟩:∃z:Array Value,z=#[.string ⟨#[]⟩,.string ⟨#[]⟩,.int .i64 0,.int .i64 0]:=⟨_,rfl⟩;have bx:(anC an0).toArray=E:=by rw[N];rfl
 have cj:E.size=4:=by rw[N];simp
 have cr:E.all (·.oneCell')=true:=by rw[<-bx];exact OV _
 obtain⟨W,eW⟩:=Ak ((w.alloc (.cells E 42)).alloc (.cells E 42));have ct:W.heap.size=w.heap.size+1+1:=by rw[eW];simp
 have hq:=Blk.new (w.alloc (.cells E 42)) 42 E;rw[show(w.alloc (.cells E 42)).heap.size=w.heap.size+1 by simp,<-eW] at hq;have M:=I hq;clear hq;have J:=I (show Blk W w.heap.size 42 E by rw[eW];exact(Blk.new _ _ _).alloc _);have F:=I (show Below w.heap.size w W by rw[eW];exact(Ah.alloc Ag _).alloc (by simp) _);have ca:=I (fun w1 (h:Below w.heap.size w w1)=>(hr.below h).more h.size);have Z:=I (show(Tryz.prog.info? 42).map (·.size)=some E.size by rw[cj];kernel_rfl);have cn:=I cr;have cq:=I cj;have ED:=I (aO b);have cu:=I ct;clear ct cr cj
 by_cases hl:b.length<=2000
 ·have t1:decide ((2000:Int)<(b.length:Int))=false:=decide_eq_false (by omega)
  have cg:b.length<=100000:=by omega
  have O:pSm (anQ b).1.c:=Yz (Np 98 (show((some b:Option L).getD []).length<=100000 from cg));have T1:=I (fun w1 (h:Rd w1 w1.heap.size A (bvs b))=>(show Calls Tryz.prog 103 #[.slice A b.length c] w1 fun e w'=>e=.returned (.agg (anC (anQ b).1).toArray)/\Below w1.heap.size w1 w' from Ry A b c w1 h cg));have EN:=I (fun w1=>(show Calls Tryz.prog 104 #[.agg (anC (anQ b).1).toArray] w1 (EncR w1 (anO (anQ b).1)) from Nn (anQ b).1 w1 O));have cd:(anC (anQ b).1).toArray.size=4:=by rfl
  have ck:(anC (anQ b).1).toArray.all (·.oneCell')=true:=OV _;have BE:=I (fun(l:L) (g c2:Nat) (w1:World) (h:Rd w1 w1.heap.size (some ⟨g,0,none⟩) (bvs l)) (D:Below w.heap.size w w1)=>Ik l b (some ⟨g,0,none⟩) A c2 c w1.heap.size w1 h (ca.o w1 D));obtain⟨cs,bB⟩:=Ak ((anC (anQ b).1).toArray);rw[<-bB] at T1 EN cd ck;have bz:=I (show(Tryz.prog.info? 42).map (·.size)=some cs.size by rw[cd];kernel_rfl);have cc:=I ck;have aw:=I cd;clear cd ck hl cg hr O;cases ho:anO (anQ b).1 with
  |none=>
   rw[ho] at EN;have hD:anD b=none:=by rw[ED.o,ho];rfl
   have GE:=I (show(anC (anG b)).toArray=E by rw[anG,hD];exact bx);have IE:=I (show anI b=2 by rw[anI,hD];rfl);clear ED ho hD bB bx BE;go_enter Tryz.func102,Tryz.ntmps102
   go_upto_region 2 with fail
   rw[<-N,<-eW];clear N eW
   go_wp2_with (first
    |(refine Am (by rfl) 42 (.tmp 8) (by rfl) (w.heap.size+1) 0 (by rfl) E _ (Ae M.o) Tryz.underlying42 (by rfl) Z.o ?_)
    |(refine wpList_store_mid (by rfl) 42 (.tmp 6) (.tmp 33) (by rfl) w.heap.size 0 E (by rfl) (by rfl) (Ao J.o _ Ag) Z.o cn.o ?_)
    |(go_at_call 103;refine Aj (T1.o _ (ca.o _ F.o)) ?_;rintro w4 D;clear T1;replace M:=I (M.o.below D);replace J:=I (J.o.below D);replace F:=F.t D;clear D)
    |(refine wpList_store_mid (by rfl) 42 (.tmp 9) (.tmp 18) (by rfl) w4.heap.size 0 cs (by rfl) (by rfl) (Ao (Blk.new w4 42 #[.string ⟨#[]⟩,.string ⟨#[]⟩,.int .i64 0,.int .i64 0]) _ (by have:=aw.o;simp;omega)) bz.o cc.o ?_;have hV:=BD w4 42 #[.string ⟨#[]⟩,.string ⟨#[]⟩,.int .i64 0,.int .i64 0] cs (by have:=aw.o;simp;omega);generalize ((w4.alloc (.cells #[.string ⟨#[]⟩,.string ⟨#[]⟩,.int .i64 0,.int .i64 0] 42)).setCells w4.heap.size 0 cs.toList)=V at hV⊢;have HX:=I hV.1;replace M:=I (M.o.below hV.2);replace J:=I (J.o.below hV.2);replace F:=I (F.o.trans (hV.2.mono F.o.size));clear hV)
    |(refine Am (by rfl) 42 (.tmp 9) (by rfl) w4.heap.size 0 (by rfl) cs _ (Ae HX.o) Tryz.underlying42 (by rfl) bz.o ?_)
    |(go_at_call 104;refine Calls.mono (EN.o _) ?_;rintro e we ⟨⟨v,i,rfl,hn,O⟩,D⟩;obtain⟨rfl,rfl⟩:=hn rfl;clear EN;replace HX:=I (HX.o.below D);replace M:=I (M.o.below D);replace J:=I (J.o.below D);replace F:=F.t D;clear D hn O)
    |fail)
   have hE:=AS (ds:=E) J.o (by rfl);have hp:=Be we w.heap.size E.toList;have hq:=Al (P:=Tryz.prog) hE Tryz.underlying42 rfl Z.o;refine bodyPost_ret (v:=.tuple #[.agg E,.int .i64 2]) ?_ ?_ ?_
   ·exact Ad (v:=.agg E) 6 7 42 ⟨w.heap.size,0,none⟩ Tryz.results102 rfl hq rfl
   ·rfl
   exact⟨by rw[GE.o,IE.o],AJ F.o hp (by have:=J.o.lt;omega) Ag⟩
  |some l=>
   rw[ho] at EN
   by_cases hlb:l=b
   ·have BF:=I (decide_eq_true hlb)
    have hD:anD b=some (anQ b).1:=by rw[ED.o,ho,if_pos (by rw[hlb])]
    have GE:=I (show(anC (anG b)).toArray=cs by rw[anG,hD];exact bB.symm);have IE:=I (show anI b=0 by rw[anI,hD];rfl);clear ED ho hlb hD bB bx;go_enter Tryz.func102,Tryz.ntmps102
    go_upto_region 2 with fail
    rw[<-N,<-eW];clear N eW
    go_wp2_with (first
     |(refine Am (by rfl) 42 (.tmp 8) (by rfl) (w.heap.size+1) 0 (by rfl) E _ (Ae M.o) Tryz.underlying42 (by rfl) Z.o ?_)
     |(refine wpList_store_mid (by rfl) 42 (.tmp 6) (.tmp 34) (by rfl) w.heap.size 0 cs (by rfl) (by rfl) (Ao J.o _ (by have:=cq.o;have:=aw.o;omega)) bz.o cc.o ?_)
     |(go_at_call 103;refine Aj (T1.o _ (ca.o _ F.o)) ?_;rintro w4 D;clear T1;replace M:=I (M.o.below D);replace J:=I (J.o.below D);replace F:=F.t D;clear D)
     |(refine wpList_store_mid (by rfl) 42 (.tmp 9) (.tmp 18) (by rfl) w4.heap.size 0 cs (by rfl) (by rfl) (Ao (Blk.new w4 42 #[.string ⟨#[]⟩,.string ⟨#[]⟩,.int .i64 0,.int .i64 0]) _ (by have:=aw.o;simp;omega)) bz.o cc.o ?_;have hV:=BD w4 42 #[.string ⟨#[]⟩,.string ⟨#[]⟩,.int .i64 0,.int .i64 0] cs (by have:=aw.o;simp;omega);generalize ((w4.alloc (.cells #[.string ⟨#[]⟩,.string ⟨#[]⟩,.int .i64 0,.int .i64 0] 42)).setCells w4.heap.size 0 cs.toList)=V at hV⊢;have HX:=I hV.1;replace M:=I (M.o.below hV.2);replace J:=I (J.o.below hV.2);replace F:=I (F.o.trans (hV.2.mono F.o.size));clear hV)
     |(refine Am (by rfl) 42 (.tmp 9) (by rfl) w4.heap.size 0 (by rfl) cs _ (Ae HX.o) Tryz.underlying42 (by rfl) bz.o ?_)
     |(go_at_call 104;refine Calls.mono (EN.o _) ?_;rintro e we ⟨⟨v,i,rfl,hn,O⟩,D⟩;obtain⟨rfl,gx,cx,rfl,cp,cf,cb⟩:=O l rfl;have cm:=I cb;clear cp cf cb;clear EN;replace HX:=I (HX.o.below D);replace M:=I (M.o.below D);replace J:=I (J.o.below D);replace F:=F.t D;clear D hn O)
     |(go_at_call 146;refine Calls.mono (BE.o l gx cx _ cm.o F.o) ?_;rw[BF.o];rintro e wb ⟨rfl,hw⟩;subst hw;clear BE)
     |fail)
    have hE:=AS (ds:=cs) J.o (by have:=cq.o;have:=aw.o;omega);have hp:=Be we w.heap.size cs.toList;have hq:=Al (P:=Tryz.prog) hE Tryz.underlying42 rfl bz.o;refine bodyPost_ret (v:=.tuple #[.agg cs,.int .i64 0]) ?_ ?_ ?_
    ·exact Ad (v:=.agg cs) 6 7 42 ⟨w.heap.size,0,none⟩ Tryz.results102 rfl hq rfl
    ·rfl
    exact⟨by rw[GE.o,IE.o],AJ F.o hp (by have:=J.o.lt;omega) Ag⟩
   ·have BF:=I (decide_eq_false hlb)
    have hD:anD b=none:=by rw[ED.o,ho,if_neg (fun h=>hlb (Option.some.inj h))]
    have GE:=I (show(anC (anG b)).toArray=E by rw[anG,hD];exact bx);have IE:=I (show anI b=2 by rw[anI,hD];rfl);clear ED ho hlb hD bB bx;go_enter Tryz.func102,Tryz.ntmps102
    go_upto_region 2 with fail
    rw[<-N,<-eW];clear N eW
    go_wp2_with (first
     |(refine Am (by rfl) 42 (.tmp 8) (by rfl) (w.heap.size+1) 0 (by rfl) E _ (Ae M.o) Tryz.underlying42 (by rfl) Z.o ?_)
     |(refine wpList_store_mid (by rfl) 42 (.tmp 6) (.tmp 33) (by rfl) w.heap.size 0 E (by rfl) (by rfl) (Ao J.o _ Ag) Z.o cn.o ?_)
     |(go_at_call 103;refine Aj (T1.o _ (ca.o _ F.o)) ?_;rintro w4 D;clear T1;replace M:=I (M.o.below D);replace J:=I (J.o.below D);replace F:=F.t D;clear D)
     |(refine wpList_store_mid (by rfl) 42 (.tmp 9) (.tmp 18) (by rfl) w4.heap.size 0 cs (by rfl) (by rfl) (Ao (Blk.new w4 42 #[.string ⟨#[]⟩,.string ⟨#[]⟩,.int .i64 0,.int .i64 0]) _ (by have:=aw.o;simp;omega)) bz.o cc.o ?_;have hV:=BD w4 42 #[.string ⟨#[]⟩,.string ⟨#[]⟩,.int .i64 0,.int .i64 0] cs (by have:=aw.o;simp;omega);generalize ((w4.alloc (.cells #[.string ⟨#[]⟩,.string ⟨#[]⟩,.int .i64 0,.int .i64 0] 42)).setCells w4.heap.size 0 cs.toList)=V at hV⊢;have HX:=I hV.1;replace M:=I (M.o.below hV.2);replace J:=I (J.o.below hV.2);replace F:=I (F.o.trans (hV.2.mono F.o.size));clear hV)
     |(refine Am (by rfl) 42 (.tmp 9) (by rfl) w4.heap.size 0 (by rfl) cs _ (Ae HX.o) Tryz.underlying42 (by rfl) bz.o ?_)
     |(go_at_call 104;refine Calls.mono (EN.o _) ?_;rintro e we ⟨⟨v,i,rfl,hn,O⟩,D⟩;obtain⟨rfl,gx,cx,rfl,cp,cf,cb⟩:=O l rfl;have cm:=I cb;clear cp cf cb;clear EN;replace HX:=I (HX.o.below D);replace M:=I (M.o.below D);replace J:=I (J.o.below D);replace F:=F.t D;clear D hn O)
     |(go_at_call 146;refine Calls.mono (BE.o l gx cx _ cm.o F.o) ?_;rw[BF.o];rintro e wb ⟨rfl,hw⟩;subst hw;clear BE)
     |fail)
    have hE:=AS (ds:=E) J.o (by rfl);have hp:=Be we w.heap.size E.toList;have hq:=Al (P:=Tryz.prog) hE Tryz.underlying42 rfl Z.o;refine bodyPost_ret (v:=.tuple #[.agg E,.int .i64 2]) ?_ ?_ ?_
    ·exact Ad (v:=.agg E) 6 7 42 ⟨w.heap.size,0,none⟩ Tryz.results102 rfl hq rfl
    ·rfl
    exact⟨by rw[GE.o,IE.o],AJ F.o hp (by have:=J.o.lt;omega) Ag⟩
 ·have t1:decide ((2000:Int)<(b.length:Int))=true:=decide_eq_true (by omega)
  have hD:anD b=none:=by
   rw[ED.o,if_neg];intro h;have h2:=Dg.1 h;exact hl (by rw[<-h2.2.2];exact h2.2.1)
  have GE:=I (show(anC (anG b)).toArray=E by rw[anG,hD];exact bx);have IE:=I (show anI b=2 by rw[anI,hD];rfl);clear ED hD hl bx hr ca;go_enter Tryz.func102,Tryz.ntmps102
  go_upto_region 2 with fail
  rw[<-N,<-eW];clear N eW
  go_wp2_with (first
   |(refine Am (by rfl) 42 (.tmp 8) (by rfl) (w.heap.size+1) 0 (by rfl) E _ (Ae M.o) Tryz.underlying42 (by rfl) Z.o ?_)
   |(refine wpList_store_mid (by rfl) 42 (.tmp 6) (.tmp 15) (by rfl) w.heap.size 0 E (by rfl) (by rfl) (Ao J.o _ Ag) Z.o cn.o ?_)
   |fail)
  have hE:=AS (ds:=E) J.o (by rfl);have hp:=Be W w.heap.size E.toList;have hq:=Al (P:=Tryz.prog) hE Tryz.underlying42 rfl Z.o;refine bodyPost_ret (v:=.tuple #[.agg E,.int .i64 2]) ?_ ?_ ?_
  ·exact Ad (v:=.agg E) 6 7 42 ⟨w.heap.size,0,none⟩ Tryz.results102 rfl hq rfl
  ·rfl
  exact⟨by rw[GE.o,IE.o],AJ F.o hp (by have:=J.o.lt;omega) Ag⟩
theorem Dq (A:Option Addr) (b:L) (c:Nat) (w:World) (hr:Rd w w.heap.size A (bvs b)):Calls Tryz.prog 62 #[.slice A b.length c] w fun e w'=>e=.returned (.tuple #[.agg (anC (anG b)).toArray,.int .i64 (anI b)])/\Below w.heap.size w w':=by
 obtain⟨zz,E⟩:∃z:Array Value,z=#[.string ⟨#[]⟩,.string ⟨#[]⟩,.int .i64 0,.int .i64 0]:=⟨_,rfl⟩;have O:zz.size=4:=by rw[E];simp
 have D:(anC (anG b)).toArray.size=4:=by rfl
 have F:(anC (anG b)).toArray.all (·.oneCell')=true:=OV _;have c1:=UP A b c (w.alloc (.cells zz 42)) ((hr.alloc Ag _).more (by simp));obtain⟨cs,Z⟩:=Ak ((anC (anG b)).toArray);rw[<-Z] at D F c1⊢;have HI:=I (show(Tryz.prog.info? 42).map (·.size)=some cs.size by rw[D];kernel_rfl);have HO:=I F;have J:=I D;have N:=I O;have M:=I (Blk.new w 42 zz);have HG:=I ((Below.refl w.heap.size w).alloc Ag (.cells zz 42));clear D F O Z hr;go_enter Tryz.func62,Tryz.ntmps62
 go_upto_region 1 with fail
 rw[<-E];clear E
 go_wp2_with (first
  |(go_at_call 102;refine Aj c1 ?_;rintro w1 hb;clear c1;replace M:=I (M.o.below hb);replace HG:=HG.t hb;clear hb)
  |(refine wpList_store_mid (by rfl) 42 (.tmp 2) (.tmp 6) (by rfl) w.heap.size 0 cs (by rfl) (by rfl) (Ao M.o _ (by have:=N.o;have:=J.o;omega)) HI.o HO.o ?_)
  |fail)
 have hE:=AS (ds:=cs) M.o (by have:=N.o;have:=J.o;omega);have hp:=Be w1 w.heap.size cs.toList;have hq:=Al (P:=Tryz.prog) hE Tryz.underlying42 rfl HI.o;refine bodyPost_ret (v:=.tuple #[.agg cs,.int .i64 (anI b)]) ?_ ?_ ?_
 ·exact Ad (v:=.agg cs) 2 3 42 ⟨w.heap.size,0,none⟩ Tryz.results62 rfl hq rfl
 ·rfl
 exact⟨rfl,AJ HG.o hp (by have:=M.o.lt;omega) Ag⟩
theorem UQ (A:Option Addr) (b:L) (c:Nat) (w:World) (hr:Rd w w.heap.size A (bvs b)):Calls Tryz.prog 100 #[.slice A b.length c,.func (.func 101) #[] #[],.func (.func 67) #[] #[]] w fun e w'=>e=.returned (.tuple #[.agg (ptC (ptG b)).toArray,.int .i64 (ptI b)])/\Below w.heap.size w w':=by
 obtain⟨E,N⟩:∃z:Array Value,z=#[.string ⟨#[]⟩,.string ⟨#[]⟩,.int .u8 0,.int .u8 0,.int .u8 0,.int .u8 0,.int .u8 0,.int .u8 0,.int .u8 0,.int .u8 0,.int .u8 0,.int .u8 0,.int .u8 0,.int .u8 0,.int .u8 0,.int .u8 0,.int .u8 0,.int .u8 0,.int .u8 0,.int .u8 0,.int .u8 0,.int .u8 0,.int .u8 0,.int .u8 0,.int .u8 0,.int .u8 0,.int .u8 0,.int .u8 0,.int .u8 0,.int .u8 0,.int .u8 0,.int .u8 0,.int .u8 0,.int .u8 0,.string ⟨#[]⟩,.int .i64 0,.int .i64 0]:=⟨_,rfl⟩;have bx:(ptC pt0).toArray=E:=by rw[N];rfl
 have ck:E.size=37:=by rw[N];simp
 have cu:E.all (·.oneCell')=true:=by rw[<-bx];exact LQ _ _ _ _ _
 obtain⟨W,eW⟩:=Ak ((w.alloc (.cells E 40)).alloc (.cells E 40));have cw:W.heap.size=w.heap.size+1+1:=by rw[eW];simp
 have hq:=Blk.new (w.alloc (.cells E 40)) 40 E;rw[show(w.alloc (.cells E 40)).heap.size=w.heap.size+1 by simp,<-eW] at hq;have M:=I hq;clear hq;have J:=I (show Blk W w.heap.size 40 E by rw[eW];exact(Blk.new _ _ _).alloc _);have F:=I (show Below w.heap.size w W by rw[eW];exact(Ah.alloc Ag _).alloc (by simp) _);have ca:=I (fun w1 (h:Below w.heap.size w w1)=>(hr.below h).more h.size);have Z:=I (show(Tryz.prog.info? 40).map (·.size)=some E.size by rw[ck];kernel_rfl);have cp:=I cu;have cr:=I ck;have ED:=I (UM b);have cy:=I cw;clear cw cu ck
 by_cases hl:b.length<=2000
 ·have t1:decide ((2000:Int)<(b.length:Int))=false:=decide_eq_false (by omega)
  have cj:b.length<=100000:=by omega
  have cg:=Np 99 (show((some b:Option L).getD []).length<=100000 from cj);have O:pSm (ptQ b).1.c:=Yz cg;have ct:(ptQ b).1.tr.length<=1000000000:=Nat.le_trans (dF (IB 4 (IB 48 cg))) (by omega);have T1:=I (fun w1 (h:Rd w1 w1.heap.size A (bvs b))=>(show Calls Tryz.prog 101 #[.slice A b.length c] w1 fun e w'=>e=.returned (.agg (ptC (ptQ b).1).toArray)/\Below w1.heap.size w1 w' from RA A b c w1 h cj));have EN:=I (fun w1=>(show Calls Tryz.prog 67 #[.agg (ptC (ptQ b).1).toArray] w1 (EncR w1 (ptO (ptQ b).1)) from JZ (ptQ b).1 w1 (LO b) O ct));have cd:(ptC (ptQ b).1).toArray.size=37:=by exact FB (LO b)
  have cm:(ptC (ptQ b).1).toArray.all (·.oneCell')=true:=LQ _ _ _ _ _;have BE:=I (fun(l:L) (g c2:Nat) (w1:World) (h:Rd w1 w1.heap.size (some ⟨g,0,none⟩) (bvs l)) (D:Below w.heap.size w w1)=>Ik l b (some ⟨g,0,none⟩) A c2 c w1.heap.size w1 h (ca.o w1 D));obtain⟨cs,bB⟩:=Ak ((ptC (ptQ b).1).toArray);rw[<-bB] at T1 EN cd cm;have bz:=I (show(Tryz.prog.info? 40).map (·.size)=some cs.size by rw[cd];kernel_rfl);have cc:=I cm;have aw:=I cd;clear cd cm hl cj hr O ct cg;cases ho:ptO (ptQ b).1 with
  |none=>
   rw[ho] at EN;have hD:ptD b=none:=by rw[ED.o,ho];rfl
   have GE:=I (show(ptC (ptG b)).toArray=E by rw[ptG,hD];exact bx);have IE:=I (show ptI b=2 by rw[ptI,hD];rfl);clear ED ho hD bB bx BE;go_enter Tryz.func100,Tryz.ntmps100
   go_upto_region 2 with fail
   rw[<-N,<-eW];clear N eW
   go_wp2_with (first
    |(refine Am (by rfl) 40 (.tmp 8) (by rfl) (w.heap.size+1) 0 (by rfl) E _ (Ae M.o) Tryz.underlying40 (by rfl) Z.o ?_)
    |(refine wpList_store_mid (by rfl) 40 (.tmp 6) (.tmp 33) (by rfl) w.heap.size 0 E (by rfl) (by rfl) (Ao J.o _ Ag) Z.o cp.o ?_)
    |(go_at_call 101;refine Aj (T1.o _ (ca.o _ F.o)) ?_;rintro w4 D;clear T1;replace M:=I (M.o.below D);replace J:=I (J.o.below D);replace F:=F.t D;clear D)
    |(refine wpList_store_mid (by rfl) 40 (.tmp 9) (.tmp 18) (by rfl) w4.heap.size 0 cs (by rfl) (by rfl) (Ao (Blk.new w4 40 Av) _ (by have:=aw.o;simp;omega)) bz.o cc.o ?_;have hV:=BD w4 40 Av cs (by have:=aw.o;simp;omega);generalize ((w4.alloc (.cells Av 40)).setCells w4.heap.size 0 cs.toList)=V at hV⊢;have HX:=I hV.1;replace M:=I (M.o.below hV.2);replace J:=I (J.o.below hV.2);replace F:=I (F.o.trans (hV.2.mono F.o.size));clear hV)
    |(refine Am (by rfl) 40 (.tmp 9) (by rfl) w4.heap.size 0 (by rfl) cs _ (Ae HX.o) Tryz.underlying40 (by rfl) bz.o ?_)
    |(go_at_call 67;refine Calls.mono (EN.o _) ?_;rintro e we ⟨⟨v,i,rfl,hn,O⟩,D⟩;obtain⟨rfl,rfl⟩:=hn rfl;clear EN;replace HX:=I (HX.o.below D);replace M:=I (M.o.below D);replace J:=I (J.o.below D);replace F:=F.t D;clear D hn O)
    |fail)
   have hE:=AS (ds:=E) J.o (by rfl);have hp:=Be we w.heap.size E.toList;have hq:=Al (P:=Tryz.prog) hE Tryz.underlying40 rfl Z.o;refine bodyPost_ret (v:=.tuple #[.agg E,.int .i64 2]) ?_ ?_ ?_
   ·exact Ad (v:=.agg E) 6 7 40 ⟨w.heap.size,0,none⟩ Tryz.results100 rfl hq rfl
   ·rfl
   exact⟨by rw[GE.o,IE.o],AJ F.o hp (by have:=J.o.lt;omega) Ag⟩
  |some l=>
   rw[ho] at EN
   by_cases hlb:l=b
   ·have BF:=I (decide_eq_true hlb)
    have hD:ptD b=some (ptQ b).1:=by rw[ED.o,ho,if_pos (by rw[hlb])]
    have GE:=I (show(ptC (ptG b)).toArray=cs by rw[ptG,hD];exact bB.symm);have IE:=I (show ptI b=0 by rw[ptI,hD];rfl);clear ED ho hlb hD bB bx;go_enter Tryz.func100,Tryz.ntmps100
    go_upto_region 2 with fail
    rw[<-N,<-eW];clear N eW
    go_wp2_with (first
     |(refine Am (by rfl) 40 (.tmp 8) (by rfl) (w.heap.size+1) 0 (by rfl) E _ (Ae M.o) Tryz.underlying40 (by rfl) Z.o ?_)
     |(refine wpList_store_mid (by rfl) 40 (.tmp 6) (.tmp 34) (by rfl) w.heap.size 0 cs (by rfl) (by rfl) (Ao J.o _ (by have:=cr.o;have:=aw.o;omega)) bz.o cc.o ?_)
     |(go_at_call 101;refine Aj (T1.o _ (ca.o _ F.o)) ?_;rintro w4 D;clear T1;replace M:=I (M.o.below D);replace J:=I (J.o.below D);replace F:=F.t D;clear D)
     |(refine wpList_store_mid (by rfl) 40 (.tmp 9) (.tmp 18) (by rfl) w4.heap.size 0 cs (by rfl) (by rfl) (Ao (Blk.new w4 40 Av) _ (by have:=aw.o;simp;omega)) bz.o cc.o ?_;have hV:=BD w4 40 Av cs (by have:=aw.o;simp;omega);generalize ((w4.alloc (.cells Av 40)).setCells w4.heap.size 0 cs.toList)=V at hV⊢;have HX:=I hV.1;replace M:=I (M.o.below hV.2);replace J:=I (J.o.below hV.2);replace F:=I (F.o.trans (hV.2.mono F.o.size));clear hV)
     |(refine Am (by rfl) 40 (.tmp 9) (by rfl) w4.heap.size 0 (by rfl) cs _ (Ae HX.o) Tryz.underlying40 (by rfl) bz.o ?_)
     |(go_at_call 67;refine Calls.mono (EN.o _) ?_;rintro e we ⟨⟨v,i,rfl,hn,O⟩,D⟩;obtain⟨rfl,gx,cx,rfl,cq,cf,cb⟩:=O l rfl;have cn:=I cb;clear cq cf cb;clear EN;replace HX:=I (HX.o.below D);replace M:=I (M.o.below D);replace J:=I (J.o.below D);replace F:=F.t D;clear D hn O)
     |(go_at_call 146;refine Calls.mono (BE.o l gx cx _ cn.o F.o) ?_;rw[BF.o];rintro e wb ⟨rfl,hw⟩;subst hw;clear BE)
     |fail)
    have hE:=AS (ds:=cs) J.o (by have:=cr.o;have:=aw.o;omega);have hp:=Be we w.heap.size cs.toList;have hq:=Al (P:=Tryz.prog) hE Tryz.underlying40 rfl bz.o;refine bodyPost_ret (v:=.tuple #[.agg cs,.int .i64 0]) ?_ ?_ ?_
    ·exact Ad (v:=.agg cs) 6 7 40 ⟨w.heap.size,0,none⟩ Tryz.results100 rfl hq rfl
    ·rfl
    exact⟨by rw[GE.o,IE.o],AJ F.o hp (by have:=J.o.lt;omega) Ag⟩
   ·have BF:=I (decide_eq_false hlb)
    have hD:ptD b=none:=by rw[ED.o,ho,if_neg (fun h=>hlb (Option.some.inj h))]
    have GE:=I (show(ptC (ptG b)).toArray=E by rw[ptG,hD];exact bx);have IE:=I (show ptI b=2 by rw[ptI,hD];rfl);clear ED ho hlb hD bB bx;go_enter Tryz.func100,Tryz.ntmps100
    go_upto_region 2 with fail
    rw[<-N,<-eW];clear N eW
    go_wp2_with (first
     |(refine Am (by rfl) 40 (.tmp 8) (by rfl) (w.heap.size+1) 0 (by rfl) E _ (Ae M.o) Tryz.underlying40 (by rfl) Z.o ?_)
     |(refine wpList_store_mid (by rfl) 40 (.tmp 6) (.tmp 33) (by rfl) w.heap.size 0 E (by rfl) (by rfl) (Ao J.o _ Ag) Z.o cp.o ?_)
     |(go_at_call 101;refine Aj (T1.o _ (ca.o _ F.o)) ?_;rintro w4 D;clear T1;replace M:=I (M.o.below D);replace J:=I (J.o.below D);replace F:=F.t D;clear D)
     |(refine wpList_store_mid (by rfl) 40 (.tmp 9) (.tmp 18) (by rfl) w4.heap.size 0 cs (by rfl) (by rfl) (Ao (Blk.new w4 40 Av) _ (by have:=aw.o;simp;omega)) bz.o cc.o ?_;have hV:=BD w4 40 Av cs (by have:=aw.o;simp;omega);generalize ((w4.alloc (.cells Av 40)).setCells w4.heap.size 0 cs.toList)=V at hV⊢;have HX:=I hV.1;replace M:=I (M.o.below hV.2);replace J:=I (J.o.below hV.2);replace F:=I (F.o.trans (hV.2.mono F.o.size));clear hV)
     |(refine Am (by rfl) 40 (.tmp 9) (by rfl) w4.heap.size 0 (by rfl) cs _ (Ae HX.o) Tryz.underlying40 (by rfl) bz.o ?_)
     |(go_at_call 67;refine Calls.mono (EN.o _) ?_;rintro e we ⟨⟨v,i,rfl,hn,O⟩,D⟩;obtain⟨rfl,gx,cx,rfl,cq,cf,cb⟩:=O l rfl;have cn:=I cb;clear cq cf cb;clear EN;replace HX:=I (HX.o.below D);replace M:=I (M.o.below D);replace J:=I (J.o.below D);replace F:=F.t D;clear D hn O)
     |(go_at_call 146;refine Calls.mono (BE.o l gx cx _ cn.o F.o) ?_;rw[BF.o];rintro e wb ⟨rfl,hw⟩;subst hw;clear BE)
     |fail)
    have hE:=AS (ds:=E) J.o (by rfl);have hp:=Be we w.heap.size E.toList;have hq:=Al (P:=Tryz.prog) hE Tryz.underlying40 rfl Z.o;refine bodyPost_ret (v:=.tuple #[.agg E,.int .i64 2]) ?_ ?_ ?_
    ·exact Ad (v:=.agg E) 6 7 40 ⟨w.heap.size,0,none⟩ Tryz.results100 rfl hq rfl
    ·rfl
    exact⟨by rw[GE.o,IE.o],AJ F.o hp (by have:=J.o.lt;omega) Ag⟩
 ·have t1:decide ((2000:Int)<(b.length:Int))=true:=decide_eq_true (by omega)
  have hD:ptD b=none:=by
   rw[ED.o,if_neg];intro h;have h2:=Dg.1 h;exact hl (by rw[<-h2.2.2];exact h2.2.1)
  have GE:=I (show(ptC (ptG b)).toArray=E by rw[ptG,hD];exact bx);have IE:=I (show ptI b=2 by rw[ptI,hD];rfl);clear ED hD hl bx hr ca;go_enter Tryz.func100,Tryz.ntmps100
  go_upto_region 2 with fail
  rw[<-N,<-eW];clear N eW
  go_wp2_with (first
   |(refine Am (by rfl) 40 (.tmp 8) (by rfl) (w.heap.size+1) 0 (by rfl) E _ (Ae M.o) Tryz.underlying40 (by rfl) Z.o ?_)
   |(refine wpList_store_mid (by rfl) 40 (.tmp 6) (.tmp 15) (by rfl) w.heap.size 0 E (by rfl) (by rfl) (Ao J.o _ Ag) Z.o cp.o ?_)
   |fail)
  have hE:=AS (ds:=E) J.o (by rfl);have hp:=Be W w.heap.size E.toList;have hq:=Al (P:=Tryz.prog) hE Tryz.underlying40 rfl Z.o;refine bodyPost_ret (v:=.tuple #[.agg E,.int .i64 2]) ?_ ?_ ?_
  ·exact Ad (v:=.agg E) 6 7 40 ⟨w.heap.size,0,none⟩ Tryz.results100 rfl hq rfl
  ·rfl
  exact⟨by rw[GE.o,IE.o],AJ F.o hp (by have:=J.o.lt;omega) Ag⟩
theorem Kc (A:Option Addr) (b:L) (c:Nat) (w:World) (hr:Rd w w.heap.size A (bvs b)):Calls Tryz.prog 61 #[.slice A b.length c] w fun e w'=>e=.returned (.tuple #[.agg (ptC (ptG b)).toArray,.int .i64 (ptI b)])/\Below w.heap.size w w':=by
 obtain⟨zz,E⟩:∃z:Array Value,z=#[.string ⟨#[]⟩,.string ⟨#[]⟩,.int .u8 0,.int .u8 0,.int .u8 0,.int .u8 0,.int .u8 0,.int .u8 0,.int .u8 0,.int .u8 0,.int .u8 0,.int .u8 0,.int .u8 0,.int .u8 0,.int .u8 0,.int .u8 0,.int .u8 0,.int .u8 0,.int .u8 0,.int .u8 0,.int .u8 0,.int .u8 0,.int .u8 0,.int .u8 0,.int .u8 0,.int .u8 0,.int .u8 0,.int .u8 0,.int .u8 0,.int .u8 0,.int .u8 0,.int .u8 0,.int .u8 0,.int .u8 0,.string ⟨#[]⟩,.int .i64 0,.int .i64 0]:=⟨_,rfl⟩;have O:zz.size=37:=by rw[E];simp
 have D:(ptC (ptG b)).toArray.size=37:=by exact FB (OW b)
 have F:(ptC (ptG b)).toArray.all (·.oneCell')=true:=LQ _ _ _ _ _;have c1:=UQ A b c (w.alloc (.cells zz 40)) ((hr.alloc Ag _).more (by simp));obtain⟨cs,Z⟩:=Ak ((ptC (ptG b)).toArray);rw[<-Z] at D F c1⊢;have HI:=I (show(Tryz.prog.info? 40).map (·.size)=some cs.size by rw[D];kernel_rfl);have HO:=I F;have J:=I D;have N:=I O;have M:=I (Blk.new w 40 zz);have HG:=I ((Below.refl w.heap.size w).alloc Ag (.cells zz 40));clear D F O Z hr;go_enter Tryz.func61,Tryz.ntmps61
 go_upto_region 1 with fail
 rw[<-E];clear E
 go_wp2_with (first
  |(go_at_call 100;refine Aj c1 ?_;rintro w1 hb;clear c1;replace M:=I (M.o.below hb);replace HG:=HG.t hb;clear hb)
  |(refine wpList_store_mid (by rfl) 40 (.tmp 2) (.tmp 6) (by rfl) w.heap.size 0 cs (by rfl) (by rfl) (Ao M.o _ (by have:=N.o;have:=J.o;omega)) HI.o HO.o ?_)
  |fail)
 have hE:=AS (ds:=cs) M.o (by have:=N.o;have:=J.o;omega);have hp:=Be w1 w.heap.size cs.toList;have hq:=Al (P:=Tryz.prog) hE Tryz.underlying40 rfl HI.o;refine bodyPost_ret (v:=.tuple #[.agg cs,.int .i64 (ptI b)]) ?_ ?_ ?_
 ·exact Ad (v:=.agg cs) 2 3 40 ⟨w.heap.size,0,none⟩ Tryz.results61 rfl hq rfl
 ·rfl
 exact⟨rfl,AJ HG.o hp (by have:=M.o.lt;omega) Ag⟩
end Mc
end Go.Proofs.YthgignaohimadaaGreat
